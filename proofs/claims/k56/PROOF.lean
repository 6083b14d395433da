import PyProof.Rows.All
import Wide.All
import OpenK.AllK
import Wide.FinOn
import HandS.ForMost
import HandS.Wide
import HandS.TupAny
import HandS.TupMul
import HandS.Style
import HandS.Conv
import HandS.Zip
import PyProof.ReprRoads
import PyProof.SumWalkG
import PyProof.WalksMore
import KE.DataMinMax
import HandS.Evl
import PyProof.ReprBulk
import PyProof.FitsInt
import KE.GoesMore
import PyProof.Draws
import HandS.SortRule
import HandS.Walk
import KE.DatumOrd
import KE.DataFind
import HandS.SetFor
import PyProof.Rows.RowBridgeK
import KE.KExcIs
import HandS.Star
import HandS.ExcInit
import HandS.ExcField
import HandS.ExcOwn
import HandS.WordsExc
import HandS.NoneIn
import HandS.IsInst
import HandS.SortInts
import HandS.Strs
import HandS.TupLe
import HandS.Property
import KE.KExcInit
import KE.KOpsOwn
import PyProof.InstNe
import HandS.Flt
import HandS.FStr
import HandS.Text
import KE.KCallOwn
import HandS.Defaults
import HandS.ClsMeth
import HandS.GenList
import HandS.Iter
import HandS.StrMore
import HandS.TryMany
import KE.KTryMore
import HandS.NamedTupSort
import PyProof.EqKinds
import PyProof.FactsAll.dict_1
import KE.DataEq
import PyProof.StrBlock2
import PyProof.Rows.ReprOcc
import PyProof.StrLawsChain
import KE.KExcLine
import KE.OsRunLaw
import PySem.Challenge.RW_roadbikes_k56_trips_parsed
set_option Elab.async false
set_option linter.all false
set_option maxRecDepth 100000
set_option maxHeartbeats 4000000
namespace Rb
open PySem PySem.Spec PyProof.Rows L2
/-! repr of data -/
/-! sum of a tuple of ints -/
theorem isTup_isTuple {h : Heap} {a : Addr} {items : Array Value} (x : IsTup h a items) : h.IsTuple a items := by
  obtain ⟨o, e, c, n, d⟩ := x
  exact ⟨o, e, c, n, d⟩
end Rb
namespace Rb
open PySem PySem.Spec PyProof.Rows L2
/-! defs that are run where no repr is under way -/
structure FnG (pr : Program) (wo : World) (K : PySem.W.Frag) (mg : Str → Option Value) (b0 : Heap) (cx : CXT) (lv : Nat) (fn : Addr) (dat : FuncData) (pars : List Str) (sp : Sp) : Prop where
  many : ∀ xs H Q E, sp xs H Q E → xs.length = pars.length
  goes : ∀ (A : Around) (out : List Env) (s : Shared) (H : Hp) (ar : Args) (us : List Value) (xs : List V) (Q : VK) (E : XK),
    Room lv A → A.guards = some [] → Env0 pr wo K mg b0 A out s H → BindsTo s dat ar (pars.zip us) → Vals xs us → sp xs H Q E →
    codeAny (model pr wo) A (.call (.ref fn) ar) (CR cx out pr wo H s Q E) s
section
variable {pr : Program} {wo : World} {K : PySem.W.Frag} {mg : Str → Option Value} {b0 : Heap} {cx : CXT} {lv : Nat} {fn : Addr} {dat : FuncData} {pars : List Str} {sp : Sp}
theorem FnG.of (F : FnOk pr wo K mg b0 cx lv fn dat pars sp) : FnG pr wo K mg b0 cx lv fn dat pars sp :=
  ⟨F.len, fun A out s H ar us xs Q E h1 _ h2 h3 h4 h5 => F.run A out s H ar us xs Q E h1 h2 h3 h4 h5⟩
end
section
variable {pr : Program} {wo : World} {K : PySem.W.Frag} {mg : Str → Option Value} {b0 : Heap} {lv : Nat} {sp : Sp}
theorem fnG_of {cx : CXT} {fn : Addr} {nm qn : Str} {pm : Arguments} {bd : List Stmt} {sco : Scope} {dV kV dc pv cdv ct oc : Value} {an od : Option Addr} {osl : Array (Option Value)} {NN pars : List Str}
    (at_ : K.lookup fn = some ⟨oc, od, .func (PySem.W.fnOf nm qn pm bd sco dV kV dc pv an cdv ct), osl⟩) (code : PySem.W.codeIn K cdv qn = true) (S : FnScope NN pars sco)
    (many : ∀ xs H Q E, sp xs H Q E → xs.length = pars.length)
    (body : ∀ (A : Around) (out : List Env) (s : Shared) (H : Hp) (xs : List V) (Q : VK) (E : XK), A.guards = some [] → Room lv (A.deeper (envOfC qn sco s.heap.objs.size fn cdv)) → sp xs H Q E →
      ∃ t, PSs (cxOf cx pr wo K mg b0 NN qn sco fn cdv A out s H E) bd t ∧ t { nx := fun _ H' => Q .non H', rt := Q } (start NN xs) H) :
    FnG pr wo K mg b0 cx (lv + 1) fn (PySem.W.fnOf nm qn pm bd sco dV kV dc pv an cdv ct) pars sp := by
  constructor
  · exact many
  intro A out s H ar us xs Q E rm gd e0 bi vx pro
  have old : ∀ b o, b0.get? b = some o → s.heap.get? b = some o := fun b o e => (e0.bs b o e).1
  have kin : K.In s.heap := e0.mod.kin.keeps old
  refine codeAny_call_function rm.depth (kin _ _ at_) rfl S.co S.gen rfl (PySem.W.codeRec_of kin code) (bi _ _ _ _ ?_)
  refine wpAny_newFunctionEnv_cells S.kind ?_ ?_
  · rintro ⟨n, v⟩ hy
    cases S.par n (List.of_mem_zip hy).1 with
    | inl q => exact Or.inl q
    | inr q => exact Or.inr ⟨q, PySem.W.cellsFrom_some _ _ _ (Or.inl q)⟩
  intro env he s1 ic
  subst he
  refine ⟨(e0.mod.nolimit.keeps old).keeps ic.toInCall.keep, codeAny_func ?_⟩
  obtain ⟨t, ht, rd⟩ := body A out s H xs Q E gd (rm.deeper _) pro
  have I : Inv (cxOf cx pr wo K mg b0 NN qn sco fn cdv A out s H E) [] (start NN xs) H s1 := inv_start S rm.hd e0 (many _ _ _ _ pro) vx ic
  refine wpAny_mono (ht.run [] s1 (start NN xs) H _ I rd) ?_ (fun _ _ z => z)
  intro fl s2 hs
  match fl, hs with
  | .ret u, ⟨v, σ2, H2, J, rv, q⟩ => exact ⟨v, H2, J.os, J.bare, J.base, J.hok, rv, q⟩
  | .next, ⟨σ2, H2, J, q⟩ => exact ⟨V.non, H2, J.os, J.bare, J.base, J.hok, rfl, q⟩
  | .brk, ⟨_, _, _, q⟩ => exact (q : False).elim
  | .cont, ⟨_, _, _, q⟩ => exact (q : False).elim
/-- a def of the text that is run where no repr is under way -/
theorem okG {x qn : Str} {st : Stmt} {fn : Addr} {dat : FuncData} {NN pars : List Str} (F : Fun K x qn st fn dat) (S : FnScope NN pars (defScope st)) (many : ∀ xs H Q E, sp xs H Q E → xs.length = pars.length)
    (body : ∀ (cdv : Value) (A : Around) (out : List Env) (s : Shared) (H : Hp) (xs : List V) (Q : VK) (E : XK), A.guards = some [] → Room lv (A.deeper (envOfC qn (defScope st) s.heap.objs.size fn cdv)) → sp xs H Q E →
      ∃ t, PSs (cxOf CX0 pr wo K mg b0 NN qn (defScope st) fn cdv A out s H E).nox (defBody st) t ∧ t { nx := fun _ H' => Q .non H', rt := Q } (start NN xs) H) :
    FnG pr wo K mg b0 CX0 (lv + 1) fn dat pars sp := by
  obtain ⟨oc, od, kV, dc, pv, an, cdv, ct, osl, rfl, at_, code⟩ := F.ex
  refine fnG_of at_ code S many fun A out s H xs Q E gd rm pro => ?_
  obtain ⟨t, h, q⟩ := body cdv A out s H xs Q E gd rm pro
  exact ⟨t, h.nox, q⟩
end
/-- the law's own call: the script is all that is known of the heap -/
theorem lawG {pr : Program} {wo : World} {K : PySem.W.Frag} {mg mb : Str → Option Value} {lv : Nat} {fn sc : Addr} {dat : FuncData} {x : Str} {sp : Sp} {s : Shared} {us : List Value} {ns : List Int}
    (kin : K.In s.heap) (gns : s.heap.Ns mainGlobals mg) (bns : s.heap.Ns builtinsNs mb) (boot : ∀ y : Str, y ≠ "__name__" → mb y = bootBuiltins y) (nol : s.heap.NoLimit) (ge : s.gens = #[])
    (at_ : s.heap.get? sc = some { cls := .type "list", data := .seq us.toArray }) (ia : IntsAre us ns) (few : ns.length ≤ sizeLine) (rm : Room lv callerA)
    (F : ∀ b0 : Heap, K.In b0 → b0.Ns mainGlobals mg → FnG pr wo K mg b0 CX0 lv fn dat [x] sp) (bi : ∀ (z : Shared) (u : Value), BindsTo z dat ⟨[u], []⟩ [(x, u)])
    (pro : ∀ H : Hp, SqL K H sc (ns.map V.int) → sp [.ref sc] H (fun v _ => v = .bl true) fun _ _ _ => False) :
    codeAny (model pr wo) callerA (.call (.ref fn) ⟨[.ref sc], []⟩) (fun r z => r = .ok (.ret (.bool true)) ∧ OldK s.heap z.heap ∧ z.os = s.os ∧ AllBare z.gens) s := by
  have go : ∀ H : Hp, (∀ b o, H b = some o → b = sc ∧ ∃ ob xs, o = .frz ob (.lst xs)) → SqL K H sc (ns.map V.int) → HOk pr wo H s.heap → (H sc ≠ none → K.lookup sc = none) →
      codeAny (model pr wo) callerA (.call (.ref fn) ⟨[.ref sc], []⟩) (fun r z => r = .ok (.ret (.bool true)) ∧ OldK s.heap z.heap ∧ z.os = s.os ∧ AllBare z.gens) s := by
    intro H one sq hok notK
    have dicts : ∀ {b : Addr} {o : Obj} {es : Array DictEntry} {ep : Nat}, s.heap.get? b = some o → o.data = .dict es ep → H b = none := by
      intro b o es ep e d
      match q : H b with
      | none => rfl
      | some u =>
        obtain ⟨rfl, _⟩ := one b u q
        rw [at_] at e
        cases e
        cases (show Data.seq us.toArray _ = Data.dict es ep from d)
    have names : ∀ {b : Addr} {m : Str → Option Value}, s.heap.Ns b m → (hidT s.heap H).Ns b m := by
      rintro b m ⟨o, es, ep, e, d, r⟩
      exact ⟨o, es, ep, hidT_get e (dicts e d), d, r⟩
    have kin2 : K.In (hidT s.heap H) := by
      intro b o e
      refine hidT_get (kin b o e) ?_
      match q : H b with
      | none => rfl
      | some u =>
        obtain ⟨rfl, _⟩ := one b u q
        rw [notK (by rw [q]; exact Option.some_ne_none u)] at e
        cases e
    have md : Mod K mg (hidT s.heap H) := by
      obtain ⟨mc, n1, n2⟩ := nol
      exact ⟨kin2, names gns, ⟨mb, names bns, boot⟩, ⟨mc, names n1, n2⟩⟩
    have env : Env0 pr wo K mg (hidT s.heap H) callerA [] s H :=
      { frames := rfl, mod := md, bs := fun _ _ e => of_hidT e, bsz := Nat.le_of_eq (hidT_size _ _), funs := trivial, frf := (fun _ z => nomatch z), hok := hok, bare := .of_eq ge }
    refine codeAny_mono ((F _ kin2 (names gns)).goes callerA [] s H ⟨[.ref sc], []⟩ [.ref sc] [.ref sc] _ _ rm rfl env (bi s (.ref sc)) (.cons rfl .nil) (pro H sq)) ?_
    intro res z fin
    match res, fin with
    | .error e, fin => exact (fin : False).elim
    | .ok .next, fin => exact (fin : False).elim
    | .ok .brk, fin => exact (fin : False).elim
    | .ok .cont, fin => exact (fin : False).elim
    | .ok (.ret u), ⟨v, H2, os, bare, un, hok2, rv, q⟩ =>
      cases (q : v = .bl true)
      cases (rv : u = Value.bool true)
      refine ⟨rfl, OldK.of_keep ?_, os, bare⟩
      intro b o e
      match w : H b with
      | none => exact un.keep b o e w (fun z => nomatch z) (fun z => nomatch z)
      | some uo =>
        obtain ⟨rfl, ob, xs, rfl⟩ := one b uo w
        have e1 := (hok b _ w).1
        have e2 := (hok2 b _ (un.frzs b ob _ w)).1
        exact e2.trans (e1.symm.trans e)
  have vx := vals_ints ia
  have ln := ia.length
  match kk : K.lookup sc with
  | some o =>
    have e := kin sc o kk
    rw [at_] at e
    cases e
    exact go (fun _ => none) (fun _ _ z => nomatch z) (.inr ⟨_, us.toArray, _, kk, rfl, rfl, rfl, by rw [List.size_toArray, ln]; exact few, by simpa using vx⟩) (fun _ _ z => nomatch z) (fun z => absurd rfl z)
  | none =>
    let one : HO := .frz { cls := .type "list", data := .seq us.toArray } (.lst (ns.map V.int))
    refine go (upd (fun _ => none) sc one) ?_ (.inl (.inr ⟨_, upd_same⟩)) ?_ (fun _ => kk)
    · intro b o z
      by_cases hb : b = sc
      · subst hb
        rw [upd_same] at z
        cases z
        exact ⟨rfl, _, _, rfl⟩
      · rw [upd_ne hb] at z
        cases z
    · intro b o z
      by_cases hb : b = sc
      · subst hb
        rw [upd_same] at z
        cases z
        exact ⟨at_, by rw [List.length_map]; exact few, us, _, vx, at_⟩
      · rw [upd_ne hb] at z
        cases z
end Rb
namespace Rb
open PySem PySem.Spec PyProof.Rows L2
/-! the deck: a list of the cells and the count of draws -/
def Dk (H : Hp) (d c : Addr) (N : Int) : Prop := ∃ (cs : List Int) (n : Int), H d = some (.lst [.ref c, .int n]) ∧ H c = some (.lst (cs.map V.int)) ∧ cs.length ≤ 63 ∧ (∀ x ∈ cs, 0 ≤ x) ∧ 0 ≤ n ∧ n ≤ N
/-- all but the deck is kept -/
def Kp (d c : Addr) (H H' : Hp) : Prop := ∀ b o, H b = some o → b ≠ d → b ≠ c → H' b = some o
theorem Kp.refl {d c : Addr} {H : Hp} : Kp d c H H := fun _ _ e _ _ => e
theorem Kp.trans {d c : Addr} {H H1 H2 : Hp} (a : Kp d c H H1) (b : Kp d c H1 H2) : Kp d c H H2 := fun x o e n1 n2 => b x o (a x o e n1 n2) n1 n2
theorem Kp.ex {d c : Addr} {H H1 : Hp} (a : Evl.Ex H H1) : Kp d c H H1 := fun x o e _ _ => a x o e
theorem Kp.new {d c : Addr} {H : Hp} {p : Addr} {o : HO} (h : H p = none) : Kp d c H (upd H p o) := Kp.ex (Evl.Ex.new h)
theorem Dk.ex {H H' : Hp} {d c : Addr} {N : Int} (h : Dk H d c N) (e : Evl.Ex H H') : Dk H' d c N := by
  obtain ⟨cs, n, h1, h2, r⟩ := h
  exact ⟨cs, n, e _ _ h1, e _ _ h2, r⟩
theorem Dk.new {H : Hp} {d c p : Addr} {N : Int} {o : HO} (h : Dk H d c N) (hp : H p = none) : Dk (upd H p o) d c N := h.ex (Evl.Ex.new hp)
theorem Dk.le {H : Hp} {d c : Addr} {N M : Int} (h : Dk H d c N) (e : N ≤ M) : Dk H d c M := by
  obtain ⟨cs, n, h1, h2, h3, h4, h5, h6⟩ := h
  exact ⟨cs, n, h1, h2, h3, h4, h5, by omega⟩
theorem Dk.ne1 {H : Hp} {d c p : Addr} {N : Int} (h : Dk H d c N) (hp : H p = none) : p ≠ d := by
  obtain ⟨cs, n, h1, _⟩ := h
  rintro rfl
  rw [h1] at hp
  cases hp
theorem Dk.ne2 {H : Hp} {d c p : Addr} {N : Int} (h : Dk H d c N) (hp : H p = none) : p ≠ c := by
  obtain ⟨cs, n, _, h1, _⟩ := h
  rintro rfl
  rw [h1] at hp
  cases hp
/-- fresh behind is fresh before -/
theorem Kp.fresh {d c p : Addr} {H H' : Hp} {N : Int} (k : Kp d c H H') (h : Dk H' d c N) (hp : H' p = none) : H p = none := by
  cases e : H p with
  | none => rfl
  | some o =>
    rw [k p o e (h.ne1 hp) (h.ne2 hp)] at hp
    cases hp
theorem Kp.sqT {K : PySem.W.Frag} {d c a : Addr} {H H' : Hp} {N : Int} {xs : List V} (k : Kp d c H H') (h : Dk H d c N) (hs : SqT K H a xs) : SqT K H' a xs := by
  obtain ⟨cs, n, h1, h2, _⟩ := h
  have go : ∀ u : HO, (∀ ys, u ≠ .lst ys) → H a = some u → H' a = some u := fun u nu e => k a u e
    (by rintro rfl; rw [h1] at e; exact nu _ (Option.some.inj e).symm) (by rintro rfl; rw [h2] at e; exact nu _ (Option.some.inj e).symm)
  rcases hs with (e | ⟨o, e⟩) | e
  · exact .inl (.inl (go _ (fun _ z => nomatch z) e))
  · exact .inl (.inr ⟨o, go _ (fun _ z => nomatch z) e⟩)
  · exact .inr e
theorem lstOf {K : PySem.W.Frag} {H : Hp} {a : Addr} {xs : List V} (h : H a = some (.lst xs)) : SqL K H a xs := .inl (.inl h)
/-! picks from short lists -/
theorem sz_le {n : Nat} (h : n ≤ 100000) : n ≤ sizeLine := Evl.sz_of h
/-- slices from the beginning -/
theorem cut_to {xs : List V} {k : Nat} : cutV xs none (some (k : Int)) = xs.take k := by
  unfold cutV
  rw [HT.sIx_none, HT.sIx_nat]
  show List.take (min k xs.length - 0) (xs.drop 0) = _
  rw [List.drop_zero, Nat.sub_zero]
  rcases Nat.le_total k xs.length with h | h
  · rw [Nat.min_eq_left h]
  · rw [Nat.min_eq_right h, List.take_length, List.take_of_length_le h]
/-! a road -/
def Road (K : PySem.W.Frag) (H : Hp) (v : V) (w r : Int) (bs : List Int) : Prop := ∃ a b, v = .ref a ∧ SqT K H a [.int w, .int r, .ref b] ∧ SqT K H b (bs.map V.int)
theorem Road.kp {K : PySem.W.Frag} {d c : Addr} {H H' : Hp} {N : Int} {v : V} {w r : Int} {bs : List Int} (x : Road K H v w r bs) (k : Kp d c H H') (h : Dk H d c N) : Road K H' v w r bs := by
  obtain ⟨a, b, e, h1, h2⟩ := x
  exact ⟨a, b, e, k.sqT h h1, k.sqT h h2⟩
theorem Road.ex {K : PySem.W.Frag} {H H' : Hp} {v : V} {w r : Int} {bs : List Int} (x : Road K H v w r bs) (k : Evl.Ex H H') : Road K H' v w r bs := by
  obtain ⟨a, b, e, h1, h2⟩ := x
  exact ⟨a, b, e, Evl.ex_t k h1, Evl.ex_t k h2⟩
/-! data of ints: what repr shows -/
theorem DpAll.ints {K : PySem.W.Frag} {H : Hp} : ∀ ns : List Int, DpAll K H (ns.map V.int) (ns.map PyData.int)
  | [] => .nil
  | n :: ns => .cons (.int n) (DpAll.ints ns)
def roadD (w r : Int) (bs : List Int) : PyData := .tuple [.int w, .int r, .tuple (bs.map .int)]
/-! data that repr shows: what it asks, by parts -/
structure Nice (k n : Nat) (d : PyData) : Prop where
  sh : d.showable = true
  lv : d.leavesShort 100 = true
  dep : d.depth ≤ k
  blk : d.bulk ≤ n
theorem Nice.mono {k n k' n' : Nat} {d : PyData} (h : Nice k n d) (h1 : k ≤ k') (h2 : n ≤ n') : Nice k' n' d := ⟨h.sh, h.lv, Nat.le_trans h.dep h1, Nat.le_trans h.blk h2⟩
theorem Nice.int {i : Int} (h : i.natAbs < 10 ^ 99) : Nice 0 0 (.int i) := by
  refine ⟨?_, ?_, Nat.le_refl _, Nat.le_refl _⟩
  · simp only [PyData.showable, decide_eq_true_eq]
    by_cases z : i.natAbs = 0
    · rw [z]; decide
    · refine (Nat.log2_lt z).mpr (Nat.lt_of_lt_of_le h ?_)
      decide +kernel
  · simp only [PyData.leavesShort, decide_eq_true_eq, PyData.shown]
    refine decide_eq_true ?_
    rw [PySem.ofString_length]
    exact int_text_length_le10 (k := 99) (by decide) h
theorem Nice.none : Nice 0 0 .none := ⟨rfl, rfl, Nat.le_refl _, Nat.le_refl _⟩
theorem Nice.bool {b : Bool} : Nice 0 0 (.bool b) := ⟨rfl, rfl, Nat.le_refl _, Nat.le_refl _⟩
theorem Nice.str {x : Str} {n : Nat} (h : x.cps.size ≤ n) (hx : ∀ c ∈ x.cps.toList, c < 16 ^ 8) : Nice 0 n (.str x) := by
  refine ⟨rfl, ?_, Nat.le_refl _, h⟩
  simpa only [PyData.leavesShort, List.all_eq_true, decide_eq_true_eq] using hx
theorem nice_all {k n : Nat} : ∀ {xs : List PyData}, (∀ x ∈ xs, Nice k n x) → PyData.showableAll xs = true ∧ PyData.leavesShortAll 100 xs = true ∧ PyData.depthAll xs ≤ k ∧ PyData.bulkAll xs ≤ xs.length * (n + 1)
  | [], _ => ⟨rfl, rfl, Nat.zero_le _, Nat.zero_le _⟩
  | x :: xs, h => by
    obtain ⟨a, b, c, d⟩ := nice_all (xs := xs) fun y hy => h y (List.mem_cons_of_mem _ hy)
    have hx := h x List.mem_cons_self
    refine ⟨?_, ?_, ?_, ?_⟩
    · simp only [PyData.showableAll, hx.sh, a, Bool.and_true]
    · simp only [PyData.leavesShortAll, hx.lv, b, Bool.and_true]
    · simp only [PyData.depthAll]
      exact Nat.max_le.mpr ⟨hx.dep, c⟩
    · simp only [PyData.bulkAll, List.length_cons]
      have := hx.blk
      rw [Nat.add_mul]
      omega
theorem Nice.tup {k n m : Nat} {xs : List PyData} (h : ∀ x ∈ xs, Nice k n x) (hm : xs.length * (n + 1) ≤ m) : Nice (k + 1) m (.tuple xs) := by
  obtain ⟨a, b, c, d⟩ := nice_all h
  exact ⟨by simpa only [PyData.showable] using a, by simpa only [PyData.leavesShort] using b, by simp only [PyData.depth]; omega, by simp only [PyData.bulk]; omega⟩
theorem Nice.lst {k n m : Nat} {xs : List PyData} (h : ∀ x ∈ xs, Nice k n x) (hm : xs.length * (n + 1) ≤ m) : Nice (k + 1) m (.list xs) := by
  obtain ⟨a, b, c, d⟩ := nice_all h
  exact ⟨by simpa only [PyData.showable] using a, by simpa only [PyData.leavesShort] using b, by simp only [PyData.depth]; omega, by simp only [PyData.bulk]; omega⟩
theorem Nice.ints {ns : List Int} {m : Nat} (h : ∀ i ∈ ns, i.natAbs < 10 ^ 99) (hm : ns.length ≤ m) : Nice 1 m (.tuple (ns.map .int)) := by
  refine Nice.tup (k := 0) (n := 0) (fun x hx => ?_) (by rw [List.length_map]; omega)
  obtain ⟨i, hi, rfl⟩ := List.mem_map.mp hx
  exact Nice.int (h i hi)
theorem Nice.fits {k : Nat} {d : PyData} (n : Nice k 100000 d) : d.shown.length ≤ sizeLine := by
  have e := PyData.shown_le_bulk 100 (by decide) d n.lv
  have := n.blk
  have : (16777216 : Nat) ≤ sizeLine := by decide
  omega
/-! comprehensions whose element changes nothing -/
end Rb
namespace Rb
open PySem PySem.Spec PyProof.Rows L2
/-! data without lists: it never changes -/
mutual
inductive Tp (K : PySem.W.Frag) (H : Hp) : V → PyData → Prop
  | non : Tp K H .non .none
  | bl (b : Bool) : Tp K H (.bl b) (.bool b)
  | int (i : Int) : Tp K H (.int i) (.int i)
  | str (x : Str) : Tp K H (.str x) (.str x)
  | tup {a : Addr} {xs : List V} {ds : List PyData} : SqT K H a xs → TpAll K H xs ds → Tp K H (.ref a) (.tuple ds)
inductive TpAll (K : PySem.W.Frag) (H : Hp) : List V → List PyData → Prop
  | nil : TpAll K H [] []
  | cons {v : V} {vs : List V} {d : PyData} {ds : List PyData} : Tp K H v d → TpAll K H vs ds → TpAll K H (v :: vs) (d :: ds)
end
section
variable {K : PySem.W.Frag} {H H' : Hp}
mutual
theorem Tp.keep (k : ∀ a xs, SqT K H a xs → SqT K H' a xs) : ∀ (d : PyData) (v : V), Tp K H v d → Tp K H' v d
  | .none, _, h => by cases h; exact .non
  | .bool b, _, h => by cases h; exact .bl b
  | .int i, _, h => by cases h; exact .int i
  | .str x, _, h => by cases h; exact .str x
  | .list _, _, h => by cases h
  | .dict _, _, h => by cases h
  | .tuple ds, _, h => by
    cases h with
    | tup hs ha => exact .tup (k _ _ hs) (TpAll.keep k ds _ ha)
theorem TpAll.keep (k : ∀ a xs, SqT K H a xs → SqT K H' a xs) : ∀ (ds : List PyData) (vs : List V), TpAll K H vs ds → TpAll K H' vs ds
  | [], _, h => by cases h; exact .nil
  | d :: ds, _, h => by
    cases h with
    | cons h1 h2 => exact .cons (Tp.keep k d _ h1) (TpAll.keep k ds _ h2)
end
theorem Tp.ex {v : V} {d : PyData} (h : Tp K H v d) (e : Evl.Ex H H') : Tp K H' v d := Tp.keep (fun _ _ z => Evl.ex_t e z) d v h
theorem TpAll.ex {vs : List V} {ds : List PyData} (h : TpAll K H vs ds) (e : Evl.Ex H H') : TpAll K H' vs ds := TpAll.keep (fun _ _ z => Evl.ex_t e z) ds vs h
theorem Tp.kp {d c : Addr} {N : Int} {v : V} {x : PyData} (h : Tp K H v x) (k : Kp d c H H') (dk : Dk H d c N) : Tp K H' v x := Tp.keep (fun _ _ z => k.sqT dk z) x v h
theorem TpAll.kp {d c : Addr} {N : Int} {vs : List V} {ds : List PyData} (h : TpAll K H vs ds) (k : Kp d c H H') (dk : Dk H d c N) : TpAll K H' vs ds := TpAll.keep (fun _ _ z => k.sqT dk z) ds vs h
theorem TpAll.snoc {v : V} {d : PyData} : ∀ {vs : List V} {ds : List PyData}, TpAll K H vs ds → Tp K H v d → TpAll K H (vs ++ [v]) (ds ++ [d])
  | _, _, .nil, h => .cons h .nil
  | _, _, .cons h1 h2, h => .cons h1 (TpAll.snoc h2 h)
theorem TpAll.length : ∀ {vs : List V} {ds : List PyData}, TpAll K H vs ds → vs.length = ds.length
  | _, _, .nil => rfl
  | _, _, .cons _ h => congrArg (· + 1) (TpAll.length h)
theorem TpAll.ints : ∀ ns : List Int, TpAll K H (ns.map V.int) (ns.map PyData.int)
  | [] => .nil
  | n :: ns => .cons (.int n) (TpAll.ints ns)
theorem Tp.tupI {a : Addr} {ns : List Int} (h : SqT K H a (ns.map V.int)) : Tp K H (.ref a) (.tuple (ns.map .int)) := .tup h (TpAll.ints ns)
theorem Road.tp {v : V} {w r : Int} {bs : List Int} (x : Road K H v w r bs) : Tp K H v (roadD w r bs) := by
  obtain ⟨a, b, rfl, h1, h2⟩ := x
  exact .tup h1 (.cons (.int w) (.cons (.int r) (.cons (Tp.tupI h2) .nil)))
end
/-! a comprehension over a range whose elements are such data -/
end Rb
namespace Rb
open PySem PySem.Spec PyProof.Rows L2
/-! enumerate of a tuple -/
/-! loops over pairs: the pair is a new tuple -/
end Rb
namespace Rb
/-! ### plans and ticks: the mathematics -/
def mx (a b : Int) : Int := if b > a then b else a
def leP (p q : Int × Int) : Prop := p.1 < q.1 ∨ (p.1 = q.1 ∧ p.2 ≤ q.2)
instance (p q : Int × Int) : Decidable (leP p q) := inferInstanceAs (Decidable (p.1 < q.1 ∨ (p.1 = q.1 ∧ p.2 ≤ q.2)))
def insB {α : Type} (le : α → α → Bool) (x : α) : List α → List α
  | [] => [x]
  | y :: ys => if le x y = true then x :: y :: ys else y :: insB le x ys
def sortB {α : Type} (le : α → α → Bool) : List α → List α
  | [] => []
  | x :: xs => insB le x (sortB le xs)
theorem insB_perm {α : Type} (le : α → α → Bool) (x : α) : ∀ l : List α, (insB le x l).Perm (x :: l)
  | [] => List.Perm.refl _
  | y :: ys => by
    unfold insB
    split
    · exact List.Perm.refl _
    · exact ((insB_perm le x ys).cons y).trans (List.Perm.swap x y ys)
theorem sortB_perm {α : Type} (le : α → α → Bool) : ∀ l : List α, (sortB le l).Perm l
  | [] => List.Perm.refl _
  | x :: xs => (insB_perm le x _).trans ((sortB_perm le xs).cons x)
theorem insB_sorted {α : Type} {le : α → α → Bool} (tr : ∀ a b c, le a b = true → le b c = true → le a c = true) (tot : ∀ a b, le a b = true ∨ le b a = true) (x : α) : ∀ l : List α, l.Pairwise (fun a b => le a b = true) → (insB le x l).Pairwise (fun a b => le a b = true)
  | [], _ => List.pairwise_singleton _ _
  | y :: ys, h => by
    have hy := List.pairwise_cons.mp h
    unfold insB
    split
    · rename_i c
      refine List.pairwise_cons.mpr ⟨fun z hz => ?_, h⟩
      rcases List.mem_cons.mp hz with rfl | hz
      · exact c
      · exact tr _ _ _ c (hy.1 z hz)
    · rename_i c
      refine List.pairwise_cons.mpr ⟨fun z hz => ?_, insB_sorted tr tot x ys hy.2⟩
      rcases List.mem_cons.mp ((insB_perm le x ys).mem_iff.mp hz) with rfl | hz
      · exact (tot z y).resolve_left c
      · exact hy.1 z hz
theorem sortB_sorted {α : Type} {le : α → α → Bool} (tr : ∀ a b c, le a b = true → le b c = true → le a c = true) (tot : ∀ a b, le a b = true ∨ le b a = true) : ∀ l : List α, (sortB le l).Pairwise (fun a b => le a b = true)
  | [] => List.Pairwise.nil
  | x :: xs => insB_sorted tr tot x _ (sortB_sorted tr tot xs)
def srt (l : List Int) : List Int := sortB (fun a b => decide (a ≤ b)) l
def srtP (l : List (Int × Int)) : List (Int × Int) := sortB (fun a b => decide (leP a b)) l
theorem srt_perm (l : List Int) : (srt l).Perm l := sortB_perm _ l
theorem srtP_perm (l : List (Int × Int)) : (srtP l).Perm l := sortB_perm _ l
theorem leP_trans {a b c : Int × Int} (h1 : leP a b) (h2 : leP b c) : leP a c := by
  unfold leP at *
  omega
theorem leP_total (a b : Int × Int) : leP a b ∨ leP b a := by
  unfold leP
  omega
theorem srtP_sorted (l : List (Int × Int)) : (srtP l).Pairwise leP := by
  have h := sortB_sorted (le := fun a b : Int × Int => decide (leP a b)) (fun a b c h1 h2 => decide_eq_true (leP_trans (of_decide_eq_true h1) (of_decide_eq_true h2))) (fun a b => by rcases leP_total a b with h | h <;> simp [h]) l
  exact h.imp fun h => of_decide_eq_true h
theorem leP_anti {a b : Int × Int} (h1 : leP a b) (h2 : leP b a) : a = b := by
  obtain ⟨a1, a2⟩ := a
  obtain ⟨b1, b2⟩ := b
  simp only [leP] at h1 h2
  have : a1 = b1 := by omega
  have : a2 = b2 := by omega
  simp [*]
theorem srtP_len (l : List (Int × Int)) : (srtP l).length = l.length := (srtP_perm l).length_eq
/-! one stage -/
section
variable (ticks : List Int) (riders brought : List Nat) (st : Nat) (walk ride : Int)
def tickAt (p : Nat) : Int := ticks.getD p 0
end
/-! a whole plan: the ticks at each station -/
structure PlanOk (bikes : List Int) (n : Nat) (plan : List (List Nat)) : Prop where
  len : plan.length = bikes.length
  nn : ∀ b ∈ bikes, 0 ≤ b
  asc : ∀ r ∈ plan, r.Pairwise (· < ·)
  lt : ∀ r ∈ plan, ∀ p ∈ r, p < n
  few : ∀ i, (plan.getD i []).length ≤ (bikes.getD i 0).toNat + (if i = 0 then 0 else (plan.getD (i - 1) []).length)
def brM (plan : List (List Nat)) (i : Nat) : List Nat := if i = 0 then [] else plan.getD (i - 1) []
/-! waits -/
/-- a least item of what is left is the next in order -/
theorem least_next {S l : List (Int × Int)} {k : Nat} {m : Int × Int} (hs : S.Pairwise leP) (hp : l.Perm (S.drop k)) (hm : m ∈ l) (hle : ∀ q ∈ l, leP m q) : S[k]? = some m ∧ S.drop k = m :: S.drop (k + 1) := by
  have hm2 := hp.mem_iff.mp hm
  have kl : k < S.length := by
    rcases Nat.lt_or_ge k S.length with c | c
    · exact c
    · rw [List.drop_of_length_le c] at hm2
      cases hm2
  have ed : S.drop k = S[k] :: S.drop (k + 1) := List.drop_eq_getElem_cons kl
  have h1 : leP m S[k] := hle _ (hp.mem_iff.mpr (by rw [ed]; exact List.mem_cons_self))
  have h2 : leP S[k] m := by
    have hs2 : (S.drop k).Pairwise leP := hs.sublist (List.drop_sublist _ _)
    rw [ed] at hs2 hm2
    rcases List.mem_cons.mp hm2 with e | e
    · rw [e]
      exact .inr ⟨rfl, Int.le_refl _⟩
    · exact (List.pairwise_cons.mp hs2).1 m e
  have e := leP_anti h1 h2
  exact ⟨by rw [List.getElem?_eq_getElem kl, e], by rw [e]; exact ed⟩
theorem erase_next {α : Type} {l r : List α} {m : α} {j : Nat} (hj : l[j]? = some m) (hp : l.Perm (m :: r)) : (l.eraseIdx j).Perm r := by
  have h : (m :: l.eraseIdx j).Perm l := by
    clear hp
    induction l generalizing j with
    | nil => simp at hj
    | cons x l ih =>
      cases j with
      | zero =>
        cases hj
        exact List.Perm.refl _
      | succ j => exact (List.Perm.swap x m _).trans ((ih hj).cons x)
  exact (h.trans hp).cons_inv
/-! bounds -/
def Bnd (M : Int) (l : List Int) : Prop := ∀ x ∈ l, 0 ≤ x ∧ x ≤ M
end Rb
namespace Rb
open PySem PySem.Spec PyProof.Rows L2
/-! pairs of ints in a list: min, remove, sorted -/
/-- the list's items are pairs, as told -/
def Prs (H : Hp) (xs : List V) (ps : List (Int × Int)) : Prop := xs.length = ps.length ∧ ∀ (i : Nat) (p : Int × Int), ps[i]? = some p → ∃ t, xs[i]? = some (.ref t) ∧ H t = some (.tup [.int p.1, .int p.2])
theorem Prs.nil {H : Hp} : Prs H [] [] := ⟨rfl, fun i p h => by simp at h⟩
theorem Prs.keep {H H' : Hp} {xs : List V} {ps : List (Int × Int)} (h : Prs H xs ps) (k : ∀ a ys, H a = some (.tup ys) → H' a = some (.tup ys)) : Prs H' xs ps :=
  ⟨h.1, fun i p hp => by
    obtain ⟨t, h1, h2⟩ := h.2 i p hp
    exact ⟨t, h1, k _ _ h2⟩⟩
theorem Prs.snoc {H : Hp} {xs : List V} {ps : List (Int × Int)} {t : Addr} {p : Int × Int} (h : Prs H xs ps) (ht : H t = some (.tup [.int p.1, .int p.2])) : Prs H (xs ++ [.ref t]) (ps ++ [p]) := by
  refine ⟨by rw [List.length_append, List.length_append, h.1]; rfl, fun i q hq => ?_⟩
  rw [List.getElem?_append] at hq
  split at hq
  · rename_i hi
    obtain ⟨t2, h1, h2⟩ := h.2 i q hq
    exact ⟨t2, by rw [List.getElem?_append_left (by rw [h.1]; exact hi)]; exact h1, h2⟩
  · rename_i hi
    have e : i - ps.length = 0 := by
      rcases Nat.eq_zero_or_pos (i - ps.length) with e | e
      · exact e
      · rw [List.getElem?_eq_none (by show 1 ≤ i - ps.length; exact e)] at hq
        cases hq
    rw [e] at hq
    cases hq
    refine ⟨t, ?_, ht⟩
    rw [List.getElem?_append_right (by rw [h.1]; omega), h.1, e]
    rfl
end Rb
namespace Rb
open PySem PySem.Spec PyProof.Rows L2
/-- rows: refs of tuples of ints -/
def Rws (K : PySem.W.Frag) (H : Hp) (xs : List V) (rows : List (List Int)) : Prop := xs.length = rows.length ∧ ∀ (i : Nat) (r : List Int), rows[i]? = some r → ∃ t, xs[i]? = some (.ref t) ∧ SqT K H t (r.map V.int)
section
variable {K : PySem.W.Frag} {H H' : Hp} {xs : List V} {rows : List (List Int)}
theorem Rws.nil : Rws K H [] [] := ⟨rfl, fun i p h => by simp at h⟩
theorem Rws.keep (h : Rws K H xs rows) (k : ∀ a ys, SqT K H a ys → SqT K H' a ys) : Rws K H' xs rows :=
  ⟨h.1, fun i p hp => by
    obtain ⟨t, h1, h2⟩ := h.2 i p hp
    exact ⟨t, h1, k _ _ h2⟩⟩
theorem Rws.ex (h : Rws K H xs rows) (e : Evl.Ex H H') : Rws K H' xs rows := h.keep fun _ _ z => Evl.ex_t e z
theorem Rws.kp {d c : Addr} {N : Int} (h : Rws K H xs rows) (k : Kp d c H H') (dk : Dk H d c N) : Rws K H' xs rows := h.keep fun _ _ z => k.sqT dk z
theorem Rws.snoc {t : Addr} {r : List Int} (h : Rws K H xs rows) (ht : SqT K H t (r.map V.int)) : Rws K H (xs ++ [.ref t]) (rows ++ [r]) := by
  refine ⟨by rw [List.length_append, List.length_append, h.1]; rfl, fun i q hq => ?_⟩
  rw [List.getElem?_append] at hq
  split at hq
  · rename_i hi
    obtain ⟨t2, h1, h2⟩ := h.2 i q hq
    exact ⟨t2, by rw [List.getElem?_append_left (by rw [h.1]; exact hi)]; exact h1, h2⟩
  · rename_i hi
    have e : i - rows.length = 0 := by
      rcases Nat.eq_zero_or_pos (i - rows.length) with e | e
      · exact e
      · rw [List.getElem?_eq_none (by show 1 ≤ i - rows.length; exact e)] at hq
        cases hq
    rw [e] at hq
    cases hq
    refine ⟨t, ?_, ht⟩
    rw [List.getElem?_append_right (by rw [h.1]; omega), h.1, e]
    rfl
theorem Rws.tp : ∀ {xs : List V} {rows : List (List Int)}, Rws K H xs rows → TpAll K H xs (rows.map fun r => .tuple (r.map .int))
  | [], [], _ => .nil
  | [], _ :: _, h => by cases h.1
  | _ :: _, [], h => by cases h.1
  | x :: xs, p :: ps, h => by
    obtain ⟨t, h1, h2⟩ := h.2 0 p rfl
    cases (Option.some.inj h1)
    exact .cons (Tp.tupI h2) (Rws.tp ⟨Nat.succ.inj h.1, fun i q hq => h.2 (i + 1) q hq⟩)
end
/-! comprehensions over enumerate(list), and whose elements are new pairs -/
/-! sorted pairs -/
end Rb
namespace Rb
open PySem PySem.Spec PyProof.Rows L2
/-! a tuple times a number: once is the tuple itself -/
open AutoSeq1 (wpAny_loadPart') in
theorem tupMul1 (t : Addr) (its : Array Value) (n : Nat) (dc : Option Addr) (sl : Array (Option Value)) (u : Tok) :
    Meets (Builtin.«tuple.__mul__» ⟨[.ref t, .int 1 u], []⟩) (fun _ R s => s.heap.get? t = some { cls := .type "tuple", dict := dc, data := .seq its n, slots := sl } ∧ R (.ok (.ret (Value.ref t))) s) := by
  refine .of_wp fun pr wo A R s h => ?_
  obtain ⟨hp, g, d, tk, os⟩ := s
  obtain ⟨ht, h⟩ := h
  have f1 := AutoSeq1.idx_int
  wp_walk using wpAny_loadPart' ht
  repeat (first
    | (refine wpAny_ite_false (by decide) ?_; wp_walk using wpAny_loadPart' ht)
    | (refine wpAny_ite_true (decide_eq_true (by cases its.isEmpty <;> rfl)) ?_; wp_walk using wpAny_loadPart' ht))
  exact ⟨_, rfl, h⟩
/-! max of a tuple of ints -/
def rMaxT (K : PySem.W.Frag) : List V → Hp → VK → Prop := fun vs H Q => ∃ (a : Addr) (ns : List Int), vs = [V.ref a] ∧ SqT K H a (ns.map V.int) ∧ ns ≠ [] ∧ ∀ m, m ∈ ns → (∀ y ∈ ns, y ≤ m) → Q (.int m) H
theorem maxOf_most : ∀ (ns : List Int) (n : Int), (PySem.W.maxOf n ns ∈ n :: ns) ∧ ∀ q ∈ n :: ns, q ≤ PySem.W.maxOf n ns
  | [], n => ⟨List.mem_cons_self, fun q hq => by
    rw [List.mem_singleton.mp hq]
    exact Int.le_refl _⟩
  | y :: ys, n => by
    have e : PySem.W.maxOf n (y :: ys) = PySem.W.maxOf (if PySem.W.DatumOrd.lt n y = true then y else n) ys := rfl
    rw [e]
    have l1 : (PySem.W.DatumOrd.lt n y = true) ↔ n < y := by
      show decide (n < y) = true ↔ _
      exact decide_eq_true_iff
    by_cases c : PySem.W.DatumOrd.lt n y = true
    · rw [if_pos c]
      obtain ⟨h1, h2⟩ := maxOf_most ys y
      refine ⟨List.mem_cons_of_mem _ h1, fun q hq => ?_⟩
      rcases List.mem_cons.mp hq with rfl | hq
      · have a := h2 y List.mem_cons_self
        have b := l1.mp c
        omega
      · exact h2 q hq
    · rw [if_neg c]
      obtain ⟨h1, h2⟩ := maxOf_most ys n
      refine ⟨?_, fun q hq => ?_⟩
      · rcases List.mem_cons.mp h1 with h | h
        · rw [h]; exact List.mem_cons_self
        · exact List.mem_cons_of_mem _ (List.mem_cons_of_mem _ h)
      · rcases List.mem_cons.mp hq with rfl | hq
        · exact h2 q List.mem_cons_self
        · rcases List.mem_cons.mp hq with rfl | hq
          · have a := h2 n List.mem_cons_self
            have b : ¬ n < q := fun z => c (l1.mpr z)
            omega
          · exact h2 q (List.mem_cons_of_mem _ hq)
theorem cr_maxT {X : Cx} (hc : X.calm = true) (hu : X.A.units + 64 < cLine) : CallR X (.builtin "max") (rMaxT X.K) := by
  intro pins s σ H vs us Q I r h
  obtain ⟨a, ns, rfl, hs, hne, q⟩ := h
  obtain ⟨its, rv, hl, _⟩ := I.tuple hs
  rw [Vals.ref1 r]
  cases ns with
  | nil => exact absurd rfl hne
  | cons n ns =>
    obtain ⟨as, ra⟩ := Dp.readsAll I _ _ its (DpAll.ints (K := X.K) (n :: ns)) rv
    refine PySem.W.max_tuple_datum (α := Int) (x := n) (xs := ns) (I.ok.hd hc) (isTup_isTuple hl) ⟨as, ra⟩ (by show X.A.units + 1 + 0 < _; omega) fun i v h' tk hi hv hk => ?_
    obtain ⟨hm, hle⟩ := maxOf_most ns n
    obtain ⟨cs, rm⟩ := hv
    have rm' : Reads h' v (.int (PySem.W.maxOf n ns)) cs := rm
    cases rm' with
    | int _ t => exact ⟨.int _, H, I.kept hk, ⟨t, rfl⟩, q _ hm hle⟩
end Rb
namespace Rb
/-! waits by the ticks alone -/
end Rb
namespace Rb
open PySem PySem.Spec PyProof.Rows L2
end Rb
namespace Rb
open PySem PySem.Spec PyProof.Rows L2
/-! own errors with one field: made, raised, caught, asked for their class -/
/-- __init__(self, f): self.f = f -/
def spIni (K : PySem.W.Frag) (C : Addr) (f : Str) : Sp := fun vs H Q _ => ∃ (a : Addr) (y : V), vs = [.ref a, y] ∧ H a = some (exo a C none) ∧ ∀ dx, H dx = none → dx ≠ a → Q .non (upd (upd H dx (exd dx [(f, y)])) a (exo a C (some dx)))
theorem made_eq {H : Hp} {a d C : Addr} {f : Str} {y : V} (ha : H a = none) (hd : d ≠ a) :
    upd (del (upd (upd (upd H a (exo a C none)) d (exd d [(f, y)])) a (exo a C (some d))) a) d (.xd [(f, y)]) = upd H d (.xd [(f, y)]) := by
  funext b
  by_cases h1 : b = d
  · subst h1
    rw [upd_same, upd_same]
  · rw [upd_ne h1, upd_ne h1]
    by_cases h2 : b = a
    · subst h2
      rw [del_same, ha]
    · rw [del_ne h2, upd_ne h2, upd_ne h1, upd_ne h2]
/-- what remains to show of raise C(e) -/
theorem mkO_of {K : PySem.W.Frag} {C : Addr} {f : Str} {H1 : Hp} {y : V} {W : XK} (q : ∀ d, H1 d = none → W (.ref C) (some d) (upd H1 d (.xd [(f, y)]))) :
    [y].length ≤ 1000 ∧ ∀ a, H1 a = none → spIni K C f (.ref a :: ([y] ++ [])) (upd H1 a (exo a C none))
      (fun v H2 => v = .non ∧ ∃ (d : Addr) (fs : List (Str × V)), H2 a = some (exo a C (some d)) ∧ H2 d = some (exd d fs) ∧ H1 d = none ∧ W (.ref C) (some d) (upd (del H2 a) d (.xd fs))) (fun _ _ _ => False) := by
  refine ⟨by show 1 ≤ 1000; decide, fun a ha => ⟨a, y, rfl, upd_same, fun d hd ne => ⟨rfl, d, [(f, y)], upd_same, ?_, ?_, ?_⟩⟩⟩
  · rw [upd_ne ne, upd_same]
  · rw [upd_ne ne] at hd
    exact hd
  · rw [made_eq ha ne]
    rw [upd_ne ne] at hd
    exact q d hd
/-! ### isinstance of the error that a suite holds -/
end Rb
namespace Rb
open PySem PySem.Spec PyProof.Rows L2
/-! roads one behind the other -/
abbrev Rd := Int × Int × List Int
def badM (r0 r : Rd) : Bool := !(decide (r.1 = r0.1) && decide (r.2.1 = r0.2.1))
def SameTo (r0 : Rd) (rest : List Rd) (n : Nat) : Prop := ∀ j r, j < n → rest[j]? = some r → badM r0 r = false
def joinM (r0 : Rd) (rest : List Rd) : List Int := r0.2.2 ++ (rest.map (·.2.2)).flatten
def wrongM (r0 : Rd) (rest : List Rd) (n : Nat) : List Nat := (List.range n).filter fun j => match rest[j]? with | some r => badM r0 r | none => false
def dueD (r0 : Rd) (rest : List Rd) : PyData := match wrongM r0 rest rest.length with
  | k :: _ => .list [.str "ticks", .int (k : Int)]
  | [] => if (joinM r0 rest).length < 13 then roadD r0.1 r0.2.1 (joinM r0 rest) else .list [.str "long", .int 12]
theorem wrong_nil {r0 : Rd} {rest : List Rd} {n : Nat} (h : SameTo r0 rest n) : wrongM r0 rest n = [] := by
  unfold wrongM
  rw [List.filter_eq_nil_iff]
  intro j hj
  have hj2 := List.mem_range.mp hj
  cases e : rest[j]? with
  | none => simp
  | some r => simp [h j r hj2 e]
theorem wrong_at {r0 r : Rd} {rest : List Rd} {k n : Nat} (h : SameTo r0 rest k) (hk : rest[k]? = some r) (b : badM r0 r = true) (hn : k < n) : ∃ t, wrongM r0 rest n = k :: t := by
  induction n with
  | zero => omega
  | succ n ih =>
    unfold wrongM
    rw [List.range_succ, List.filter_append]
    by_cases hkn : k < n
    · obtain ⟨t, e⟩ := ih hkn
      unfold wrongM at e
      rw [e]
      exact ⟨_, rfl⟩
    · have hkn2 : k = n := by omega
      subst hkn2
      have e := wrong_nil h
      unfold wrongM at e
      rw [e]
      exact ⟨[], by simp [hk, b]⟩
theorem due_bad {r0 r : Rd} {rest : List Rd} {k : Nat} (h : SameTo r0 rest k) (hk : rest[k]? = some r) (b : badM r0 r = true) : dueD r0 rest = .list [.str "ticks", .int (k : Int)] := by
  obtain ⟨t, e⟩ := wrong_at h hk b (List.getElem?_eq_some_iff.mp hk).1
  unfold dueD
  rw [e]
/-- roads in a sequence -/
def Rds (K : PySem.W.Frag) (H : Hp) (xs : List V) (rs : List Rd) : Prop := xs.length = rs.length ∧ ∀ (i : Nat) (r : Rd), rs[i]? = some r → ∃ v, xs[i]? = some v ∧ Road K H v r.1 r.2.1 r.2.2
section
variable {K : PySem.W.Frag} {H H' : Hp} {xs : List V} {rs : List Rd}
theorem Rds.nil : Rds K H [] [] := ⟨rfl, fun i r h => by simp at h⟩
theorem Road.keep {v : V} {w r : Int} {bs : List Int} (x : Road K H v w r bs) (k : ∀ a ys, SqT K H a ys → SqT K H' a ys) : Road K H' v w r bs := by
  obtain ⟨a, b, rfl, h1, h2⟩ := x
  exact ⟨a, b, rfl, k _ _ h1, k _ _ h2⟩
theorem Rds.keep (h : Rds K H xs rs) (k : ∀ a ys, SqT K H a ys → SqT K H' a ys) : Rds K H' xs rs :=
  ⟨h.1, fun i r e => by
    obtain ⟨v, h1, h2⟩ := h.2 i r e
    exact ⟨v, h1, h2.keep k⟩⟩
theorem Rds.ex (h : Rds K H xs rs) (e : Evl.Ex H H') : Rds K H' xs rs := h.keep fun _ _ z => Evl.ex_t e z
theorem Rds.kp {d c : Addr} {N : Int} (h : Rds K H xs rs) (k : Kp d c H H') (dk : Dk H d c N) : Rds K H' xs rs := h.keep fun _ _ z => k.sqT dk z
theorem Rds.cons {v : V} {r : Rd} (h1 : Road K H v r.1 r.2.1 r.2.2) (h : Rds K H xs rs) : Rds K H (v :: xs) (r :: rs) := by
  refine ⟨by rw [List.length_cons, List.length_cons, h.1], fun i s e => ?_⟩
  cases i with
  | zero =>
    cases e
    exact ⟨v, rfl, h1⟩
  | succ i => exact h.2 i s e
theorem Rds.snoc {v : V} {r : Rd} (h : Rds K H xs rs) (h1 : Road K H v r.1 r.2.1 r.2.2) : Rds K H (xs ++ [v]) (rs ++ [r]) := by
  refine ⟨by simp [h.1], fun i s e => ?_⟩
  by_cases hi : i < rs.length
  · rw [List.getElem?_append_left hi] at e
    obtain ⟨u, h2, h3⟩ := h.2 i s e
    exact ⟨u, by rw [List.getElem?_append_left (by rw [h.1]; exact hi)]; exact h2, h3⟩
  · have hl := (List.getElem?_eq_some_iff.mp e).1
    rw [List.length_append] at hl
    have hi2 : i = rs.length := by simp at hl; omega
    subst hi2
    rw [List.getElem?_concat_length] at e
    cases e
    exact ⟨v, by rw [← h.1]; exact List.getElem?_concat_length, h1⟩
theorem Rds.at {i : Nat} {v : V} (h : Rds K H xs rs) (hv : xs[i]? = some v) : ∃ r, rs[i]? = some r ∧ Road K H v r.1 r.2.1 r.2.2 := by
  have hl := (List.getElem?_eq_some_iff.mp hv).1
  have e : rs[i]? = some (rs[i]'(by rw [← h.1]; exact hl)) := List.getElem?_eq_getElem _
  obtain ⟨u, h1, h2⟩ := h.2 i _ e
  rw [hv] at h1
  cases h1
  exact ⟨_, e, h2⟩
theorem Rds.set {i : Nat} {v : V} {r : Rd} (h : Rds K H xs rs) (h1 : Road K H v r.1 r.2.1 r.2.2) : Rds K H (xs.set i v) (rs.set i r) := by
  refine ⟨by simp [h.1], fun j s e => ?_⟩
  by_cases hij : i = j
  · subst hij
    by_cases hl : i < rs.length
    · rw [List.getElem?_set_self hl] at e
      cases e
      exact ⟨v, List.getElem?_set_self (by rw [h.1]; exact hl), h1⟩
    · rw [List.getElem?_eq_none (by simp; omega)] at e
      cases e
  · rw [List.getElem?_set_ne hij] at e
    obtain ⟨u, h2, h3⟩ := h.2 j s e
    exact ⟨u, by rw [List.getElem?_set_ne hij]; exact h2, h3⟩
/-! the two ends of a road -/
end
/-! a result: plain immutable data, or a new list of a text and a number -/
def Res (K : PySem.W.Frag) (H0 H : Hp) (v : V) (d : PyData) : Prop := Tp K H v d ∨ ∃ (q : Addr) (x : Str) (n : Int), v = .ref q ∧ H0 q = none ∧ H q = some (.lst [.str x, .int n]) ∧ d = .list [.str x, .int n]
theorem Res.ex {K : PySem.W.Frag} {H0 H H' : Hp} {v : V} {d : PyData} (h : Res K H0 H v d) (e : Evl.Ex H H') : Res K H0 H' v d := by
  rcases h with h | ⟨q, x, n, h1, h2, h3, h4⟩
  · exact .inl (h.ex e)
  · exact .inr ⟨q, x, n, h1, h2, e _ _ h3, h4⟩
theorem Res.old {K : PySem.W.Frag} {H0 H1 H : Hp} {v : V} {d : PyData} (h : Res K H1 H v d) (e : Evl.Ex H0 H1) : Res K H0 H v d := by
  rcases h with h | ⟨q, x, n, h1, h2, h3, h4⟩
  · exact .inl h
  · refine .inr ⟨q, x, n, h1, ?_, h3, h4⟩
    cases z : H0 q with
    | none => rfl
    | some o => rw [e _ _ z] at h2; cases h2
/-- the same of all, the lists none of them at D -/
inductive ResAll (K : PySem.W.Frag) (D : Addr) (H : Hp) : List V → List PyData → Prop
  | nil : ResAll K D H [] []
  | tp {v : V} {d : PyData} {vs : List V} {ds : List PyData} : Tp K H v d → ResAll K D H vs ds → ResAll K D H (v :: vs) (d :: ds)
  | ls {q : Addr} {x : Str} {n : Int} {vs : List V} {ds : List PyData} : q ≠ D → H q = some (.lst [.str x, .int n]) → ResAll K D H vs ds → ResAll K D H (.ref q :: vs) (.list [.str x, .int n] :: ds)
section
variable {K : PySem.W.Frag} {D : Addr} {H H' : Hp}
theorem ResAll.ex (e : Evl.Ex H H') : ∀ {vs : List V} {ds : List PyData}, ResAll K D H vs ds → ResAll K D H' vs ds
  | _, _, .nil => .nil
  | _, _, .tp h r => .tp (h.ex e) (r.ex e)
  | _, _, .ls n h r => .ls n (e _ _ h) (r.ex e)
theorem ResAll.snoc {H0 : Hp} {v : V} {d : PyData} {o : HO} (hv : Res K H0 H v d) (hD : H0 D = some o) : ∀ {vs : List V} {ds : List PyData}, ResAll K D H vs ds → ResAll K D H (vs ++ [v]) (ds ++ [d])
  | _, _, .nil => by
    rcases hv with h | ⟨q, x, n, h1, h2, h3, h4⟩
    · exact .tp h .nil
    · subst h1 h4
      exact .ls (fun z => by rw [z, hD] at h2; cases h2) h3 .nil
  | _, _, .tp h r => .tp h (r.snoc hv hD)
  | _, _, .ls n h r => .ls n h (r.snoc hv hD)
theorem ResAll.length : ∀ {vs : List V} {ds : List PyData}, ResAll K D H vs ds → vs.length = ds.length
  | _, _, .nil => rfl
  | _, _, .tp _ r => congrArg Nat.succ r.length
  | _, _, .ls _ _ r => congrArg Nat.succ r.length
end
end Rb
namespace Rb
open PySem PySem.Spec PyProof.Rows L2
/-! any value: plain data, small dicts from texts to ints among it -/
def dicV (ps : List (Str × Int)) : List (Key × V) := ps.map fun p => (Sum.inr p.1, V.int p.2)
def dicD (ps : List (Str × Int)) : PyData := .dict (ps.map fun p => (.str p.1, .int p.2))
mutual
inductive Ap (K : PySem.W.Frag) (S : List Addr) (H : Hp) : V → PyData → Prop
  | non : Ap K S H .non .none
  | bl (b : Bool) : Ap K S H (.bl b) (.bool b)
  | int (i : Int) : Ap K S H (.int i) (.int i)
  | str (x : Str) : Ap K S H (.str x) (.str x)
  | lst {a : Addr} {xs : List V} {ds : List PyData} : a ∉ S → L2.Rd H a (.lst xs) → ApAll K S H xs ds → Ap K S H (.ref a) (.list ds)
  | tup {a : Addr} {xs : List V} {ds : List PyData} : SqT K H a xs → ApAll K S H xs ds → Ap K S H (.ref a) (.tuple ds)
  | dic {a : Addr} {ps : List (Str × Int)} : H a = some (.dK (dicV ps)) → Ap K S H (.ref a) (dicD ps)
inductive ApAll (K : PySem.W.Frag) (S : List Addr) (H : Hp) : List V → List PyData → Prop
  | nil : ApAll K S H [] []
  | cons {v : V} {vs : List V} {d : PyData} {ds : List PyData} : Ap K S H v d → ApAll K S H vs ds → ApAll K S H (v :: vs) (d :: ds)
end
section
variable {X : Cx} {pins : List (Addr × Obj)} {σ : L2.St} {H : Hp} {s : Shared} {S : List Addr}
theorem dic_reads {h : Heap} : ∀ {ps : List (Str × Int)} {vs : List (Key × Value)} {es : List DictEntry}, KV (dicV ps) vs → Pairs (mixKind X.prog X.w) es vs →
    ReadsAll h (es.map (·.key)) (ps.map fun p => PyData.str p.1) [] ∧ ReadsAll h (es.map (·.val)) (ps.map fun p => PyData.int p.2) []
  | [], _, _, .nil, .nil => ⟨.nil, .nil⟩
  | p :: ps, _, _, .cons hp r, .cons h1 h2 h3 => by
    obtain ⟨q1, q2⟩ := dic_reads r h3
    obtain ⟨e1, t, e2⟩ := hp
    have hk : keyIs (Sum.inr p.1) _ = true := e1 ▸ h1
    rcases keyIs_shape hk with ⟨i, t, z, _⟩ | ⟨x, t2, z, e3⟩
    · cases z
    · cases z
      refine ⟨?_, ?_⟩
      · rw [List.map_cons, List.map_cons, e3]
        exact ReadsAll.cons (as := []) (bs := []) (.str _ _) q1
      · rw [List.map_cons, List.map_cons, h2, e2]
        exact ReadsAll.cons (as := []) (bs := []) (.int _ _) q2
mutual
theorem Ap.reads (hm : sysModules ∈ S) (I : Inv X pins σ H s) : ∀ (d : PyData) (v : V) (u : Value), Ap X.K S H v d → RelV v u → ∃ as, Reads s.heap u d as ∧ sysModules ∉ as
  | .none, _, _, h, r => by
    cases h
    cases r
    exact ⟨_, Reads.none, (fun z => nomatch z)⟩
  | .bool b, _, _, h, r => by
    cases h
    cases r
    exact ⟨_, Reads.bool b, (fun z => nomatch z)⟩
  | .int i, _, _, h, r => by
    cases h
    obtain ⟨t, rfl⟩ := r
    exact ⟨_, Reads.int i t, (fun z => nomatch z)⟩
  | .str x, _, _, h, r => by
    cases h
    obtain ⟨t, rfl⟩ := r
    exact ⟨_, Reads.str x t, (fun z => nomatch z)⟩
  | .list ds, _, _, h, r => by
    cases h with
    | lst ne hs ha =>
      cases r
      obtain ⟨its, rv, ⟨o, n, ho, hc, _, hd⟩, _⟩ := I.list (show SqL X.K H _ _ from .inl hs)
      obtain ⟨as, hr, no⟩ := Ap.readsAll hm I ds _ its ha rv
      refine ⟨_, Reads.list ho hc hd hr, fun z => ?_⟩
      rcases List.mem_cons.mp z with z | z
      · exact ne (z ▸ hm)
      · exact no z
  | .tuple ds, _, _, h, r => by
    cases h with
    | tup hs ha =>
      cases r
      obtain ⟨its, rv, ⟨o, ho, hc, n, hd⟩, _⟩ := I.tuple hs
      obtain ⟨as, hr, no⟩ := Ap.readsAll hm I ds _ its ha rv
      exact ⟨_, Reads.tuple ho hc hd hr, no⟩
  | .dict kvs, _, _, h, r => by
    generalize e : PyData.dict kvs = dd at h
    cases h with
    | non => cases e
    | bl => cases e
    | int => cases e
    | str => cases e
    | lst => cases e
    | tup => cases e
    | @dic a ps hd =>
      cases (PyData.dict.inj e)
      cases r
      obtain ⟨_, ne, vs, rel, o, es, ep, ho, hx, hdat, _, hp, _⟩ := dk_of I.hok hd
      obtain ⟨q1, q2⟩ := dic_reads (X := X) (h := s.heap) rel hp
      have e1 : (ps.map fun p => ((PyData.str p.1, PyData.int p.2) : PyData × PyData)).map (·.1) = ps.map fun p => PyData.str p.1 := by rw [List.map_map]; rfl
      have e2 : (ps.map fun p => ((PyData.str p.1, PyData.int p.2) : PyData × PyData)).map (·.2) = ps.map fun p => PyData.int p.2 := by rw [List.map_map]; rfl
      refine ⟨_, Reads.dict (as := []) (bs := []) ho hx.1 hdat (by rw [e1]; exact q1) (by rw [e2]; exact q2), fun z => ?_⟩
      rcases List.mem_cons.mp z with z | z
      · rw [← z] at ne
        cases ne
      · cases z
theorem Ap.readsAll (hm : sysModules ∈ S) (I : Inv X pins σ H s) : ∀ (ds : List PyData) (vs : List V) (us : List Value), ApAll X.K S H vs ds → Vals vs us → ∃ as, ReadsAll s.heap us ds as ∧ sysModules ∉ as
  | [], _, _, h, r => by
    cases h
    cases r
    exact ⟨_, ReadsAll.nil, (fun z => nomatch z)⟩
  | d :: ds, _, _, h, r => by
    cases h with
    | cons h1 h2 =>
      cases r with
      | cons r1 r2 =>
        obtain ⟨as, q1, n1⟩ := Ap.reads hm I d _ _ h1 r1
        obtain ⟨bs, q2, n2⟩ := Ap.readsAll hm I ds _ _ h2 r2
        refine ⟨_, ReadsAll.cons q1 q2, fun z => ?_⟩
        rcases List.mem_append.mp z with z | z
        · exact n1 z
        · exact n2 z
end
end
/-! what stays -/
section
variable {K : PySem.W.Frag} {H H' : Hp} {S : List Addr}
mutual
theorem Ap.keep (kl : ∀ a xs, a ∉ S → L2.Rd H a (.lst xs) → L2.Rd H' a (.lst xs)) (kt : ∀ a xs, SqT K H a xs → SqT K H' a xs) (kd : ∀ a ps, H a = some (.dK ps) → H' a = some (.dK ps)) : ∀ (d : PyData) (v : V), Ap K S H v d → Ap K S H' v d
  | .none, _, h => by cases h; exact .non
  | .bool b, _, h => by cases h; exact .bl b
  | .int i, _, h => by cases h; exact .int i
  | .str x, _, h => by cases h; exact .str x
  | .list ds, _, h => by
    cases h with
    | lst ne hs ha => exact .lst ne (kl _ _ ne hs) (ApAll.keep kl kt kd ds _ ha)
  | .tuple ds, _, h => by
    cases h with
    | tup hs ha => exact .tup (kt _ _ hs) (ApAll.keep kl kt kd ds _ ha)
  | .dict kvs, _, h => by
    generalize e : PyData.dict kvs = dd at h ⊢
    cases h with
    | non => cases e
    | bl => cases e
    | int => cases e
    | str => cases e
    | lst => cases e
    | tup => cases e
    | dic hd => exact .dic (kd _ _ hd)
theorem ApAll.keep (kl : ∀ a xs, a ∉ S → L2.Rd H a (.lst xs) → L2.Rd H' a (.lst xs)) (kt : ∀ a xs, SqT K H a xs → SqT K H' a xs) (kd : ∀ a ps, H a = some (.dK ps) → H' a = some (.dK ps)) : ∀ (ds : List PyData) (vs : List V), ApAll K S H vs ds → ApAll K S H' vs ds
  | [], _, h => by cases h; exact .nil
  | d :: ds, _, h => by
    cases h with
    | cons h1 h2 => exact .cons (Ap.keep kl kt kd d _ h1) (ApAll.keep kl kt kd ds _ h2)
end
theorem Ap.ex {v : V} {d : PyData} (h : Ap K S H v d) (e : Evl.Ex H H') : Ap K S H' v d := Ap.keep (fun _ _ _ z => Evl.ex_rd e z) (fun _ _ z => Evl.ex_t e z) (fun _ _ z => e _ _ z) d v h
theorem ApAll.ex {vs : List V} {ds : List PyData} (h : ApAll K S H vs ds) (e : Evl.Ex H H') : ApAll K S H' vs ds := ApAll.keep (fun _ _ _ z => Evl.ex_rd e z) (fun _ _ z => Evl.ex_t e z) (fun _ _ z => e _ _ z) ds vs h
theorem ApAll.length : ∀ {vs : List V} {ds : List PyData}, ApAll K S H vs ds → vs.length = ds.length
  | _, _, .nil => rfl
  | _, _, .cons _ r => congrArg Nat.succ r.length
theorem ApAll.at : ∀ {vs : List V} {ds : List PyData} {i : Nat} {v : V}, ApAll K S H vs ds → vs[i]? = some v → ∃ d, ds[i]? = some d ∧ Ap K S H v d
  | _, _, i, _, .nil, h => by simp at h
  | _, _, 0, _, .cons h1 _, h => by
    cases h
    exact ⟨_, rfl, h1⟩
  | _, _, i + 1, _, .cons _ h2, h => ApAll.at (i := i) h2 h
theorem ApAll.append : ∀ {vs ws : List V} {ds es : List PyData}, ApAll K S H vs ds → ApAll K S H ws es → ApAll K S H (vs ++ ws) (ds ++ es)
  | _, _, _, _, .nil, h => h
  | _, _, _, _, .cons h1 h2, h => .cons h1 (h2.append h)
mutual
theorem Tp.ap : ∀ (d : PyData) (v : V), Tp K H v d → Ap K S H v d
  | .none, _, h => by cases h; exact .non
  | .bool b, _, h => by cases h; exact .bl b
  | .int i, _, h => by cases h; exact .int i
  | .str x, _, h => by cases h; exact .str x
  | .list ds, _, h => by cases h
  | .tuple ds, _, h => by
    cases h with
    | tup hs ha => exact .tup hs (TpAll.ap ds _ ha)
  | .dict kvs, _, h => by cases h
theorem TpAll.ap : ∀ (ds : List PyData) (vs : List V), TpAll K H vs ds → ApAll K S H vs ds
  | [], _, h => by cases h; exact .nil
  | d :: ds, _, h => by
    cases h with
    | cons h1 h2 => exact .cons (Tp.ap d _ h1) (TpAll.ap ds _ h2)
end
end
/-! the deck's two lists apart -/
theorem Kp.rd {d c a : Addr} {H H' : Hp} {u : HO} (k : Kp d c H H') (n1 : a ≠ d) (n2 : a ≠ c) (hs : L2.Rd H a u) : L2.Rd H' a u := by
  rcases hs with h | ⟨o, h⟩
  · exact .inl (k _ _ h n1 n2)
  · exact .inr ⟨o, k _ _ h n1 n2⟩
theorem Kp.dic {d c a : Addr} {H H' : Hp} {N : Int} {ps : List (Key × V)} (k : Kp d c H H') (dk : Dk H d c N) (h : H a = some (.dK ps)) : H' a = some (.dK ps) := by
  obtain ⟨cs, n, h1, h2, _⟩ := dk
  refine k _ _ h (fun z => ?_) (fun z => ?_)
  · rw [z, h1] at h
    cases h
  · rw [z, h2] at h
    cases h
/-- addresses that lists of values keep away from: the table of modules, the deck's two lists, and others that stand already -/
structure Sok (H : Hp) (d c : Addr) (S : List Addr) : Prop where
  m : sysModules ∈ S
  d : d ∈ S
  c : c ∈ S
  old : ∀ a ∈ S, a = sysModules ∨ ∃ o, H a = some o
theorem Sok.kp {H H' : Hp} {d c : Addr} {S : List Addr} {N M : Int} (h : Sok H d c S) (k : Kp d c H H') (dk : Dk H' d c M) : Sok H' d c S := by
  refine ⟨h.m, h.d, h.c, fun a ha => ?_⟩
  obtain ⟨cs, n, h1, h2, _⟩ := dk
  by_cases e1 : a = d
  · subst e1
    exact .inr ⟨_, h1⟩
  by_cases e2 : a = c
  · subst e2
    exact .inr ⟨_, h2⟩
  rcases h.old a ha with e | ⟨o, e⟩
  · exact .inl e
  · exact .inr ⟨o, k _ _ e e1 e2⟩
theorem Sok.ex {H H' : Hp} {d c : Addr} {S : List Addr} (h : Sok H d c S) (e : Evl.Ex H H') : Sok H' d c S := ⟨h.m, h.d, h.c, fun a ha => by
  rcases h.old a ha with z | ⟨o, z⟩
  · exact .inl z
  · exact .inr ⟨o, e _ _ z⟩⟩
theorem Sok.new {H : Hp} {d c p : Addr} {S : List Addr} (h : Sok H d c S) (np : H p = none) (ns : p ≠ sysModules) : p ∉ S := fun z => by
  rcases h.old p z with e | ⟨o, e⟩
  · exact ns e
  · rw [np] at e
    cases e
theorem Ap.kp {K : PySem.W.Frag} {d c : Addr} {S : List Addr} {H H' : Hp} {N : Int} {v : V} {x : PyData} (h : Ap K S H v x) (ok : Sok H d c S) (k : Kp d c H H') (dk : Dk H d c N) : Ap K S H' v x :=
  Ap.keep (fun a _ n z => k.rd (fun e => n (e ▸ ok.d)) (fun e => n (e ▸ ok.c)) z) (fun _ _ z => k.sqT dk z) (fun _ _ z => k.dic dk z) x v h
theorem ApAll.kp {K : PySem.W.Frag} {d c : Addr} {S : List Addr} {H H' : Hp} {N : Int} {vs : List V} {xs : List PyData} (h : ApAll K S H vs xs) (ok : Sok H d c S) (k : Kp d c H H') (dk : Dk H d c N) : ApAll K S H' vs xs :=
  ApAll.keep (fun a _ n z => k.rd (fun e => n (e ▸ ok.d)) (fun e => n (e ▸ ok.c)) z) (fun _ _ z => k.sqT dk z) (fun _ _ z => k.dic dk z) xs vs h
/-! one more address that lists keep away from, because it was free -/
/-! an address of S may be forgotten -/
/-! repr, ==, != of any such value -/
/-! lists that stand apart from the table of modules -/
def tLstN (t : TA) : TE := fun σ H Q => t σ H fun xs H1 => xs.length ≤ sizeLine ∧ ∀ p, H1 p = none → p ≠ sysModules → Q (.ref p) (upd H1 p (.lst xs))
theorem pe_lstN {X : Cx} {es : List Expr} {t : TA} {pos : Pos} (h : PA X es t) : PE X (.List es pos) (tLstN t) := by
  refine ⟨fun pins s σ H Q I hq => ?_⟩
  refine wpAny_List_spliced (thn (h.run pos pins s σ H _ I hq) fun us s1 ⟨xs, H1, I1, r, z, q⟩ => ⟨by rw [← r.length]; exact z, ?_⟩)
  have hf : H1 s1.heap.objs.size = none := I1.hok.fresh (Nat.le_refl _)
  refine ⟨.ref s1.heap.objs.size, upd H1 s1.heap.objs.size (.lst xs), I1.laid (t' := s1.toks) (fun b u e => Heap.get?_push_of_some _ e) (Nat.le_refl _) ?_, rfl, q _ hf (Nat.ne_of_gt I1.big)⟩
  exact ⟨z, us, 0, r, Heap.get?_push_size _ rfl⟩
/-! the type of a value -/
def tyD : PyData → String
  | .none => "NoneType"
  | .bool _ => "bool"
  | .int _ => "int"
  | .str _ => "str"
  | .list _ => "list"
  | .tuple _ => "tuple"
  | .dict _ => "dict"
theorem Ap.ty {K : PySem.W.Frag} {S : List Addr} {H : Hp} {v : V} {d : PyData} (h : Ap K S H v d) : TyX K H v (.type (tyD d)) := by
  cases h with
  | non => exact .base .non
  | bl b => exact .base (.bl b)
  | int i => exact .base (.int i)
  | str x => exact .base (.str x)
  | lst ne hs _ =>
    rcases hs with hs | ⟨o, hs⟩
    · exact .base (.lst hs)
    · exact .base (.frz hs)
  | tup hs _ =>
    rcases hs with (hs | ⟨o, hs⟩) | ⟨o, its, n, h1, h2, _⟩
    · exact .base (.tup hs)
    · exact .fTuple hs
    · exact .kTuple h1 h2
  | dic hd => exact .base (.dK hd)
end Rb
/-! t[::-1], t a tuple that is not empty -/
namespace Rb
open PySem PySem.Spec PyProof.Rows L2 HT
/-! any value of a bounded size -/
def Av (K : PySem.W.Frag) (S : List Addr) (H : Hp) (k n : Nat) (v : V) : Prop := ∃ x, Ap K S H v x ∧ Nice k n x
def Avs (K : PySem.W.Frag) (S : List Addr) (H : Hp) (k n : Nat) (xs : List V) : Prop := ∀ v ∈ xs, Av K S H k n v
section
variable {K : PySem.W.Frag} {S S' : List Addr} {d c D : Addr} {H H' : Hp} {N : Int} {k n k' n' : Nat} {v : V} {xs ys : List V}
theorem Av.ex (h : Av K S H k n v) (e : Evl.Ex H H') : Av K S H' k n v := by
  obtain ⟨x, h1, h2⟩ := h
  exact ⟨x, h1.ex e, h2⟩
theorem Av.kp (h : Av K S H k n v) (ok : Sok H d c S) (e : Kp d c H H') (dk : Dk H d c N) : Av K S H' k n v := by
  obtain ⟨x, h1, h2⟩ := h
  exact ⟨x, h1.kp ok e dk, h2⟩
theorem Av.mono (h : Av K S H k n v) (h1 : k ≤ k') (h2 : n ≤ n') : Av K S H k' n' v := by
  obtain ⟨x, h3, h4⟩ := h
  exact ⟨x, h3, h4.mono h1 h2⟩
theorem Avs.ex (h : Avs K S H k n xs) (e : Evl.Ex H H') : Avs K S H' k n xs := fun v hv => (h v hv).ex e
theorem Avs.kp (h : Avs K S H k n xs) (ok : Sok H d c S) (e : Kp d c H H') (dk : Dk H d c N) : Avs K S H' k n xs := fun v hv => (h v hv).kp ok e dk
theorem Avs.mono (h : Avs K S H k n xs) (h1 : k ≤ k') (h2 : n ≤ n') : Avs K S H k' n' xs := fun v hv => (h v hv).mono h1 h2
theorem Avs.nil : Avs K S H k n [] := fun _ z => nomatch z
theorem Avs.cons (h1 : Av K S H k n v) (h : Avs K S H k n xs) : Avs K S H k n (v :: xs) := fun u hu => by
  rcases List.mem_cons.mp hu with rfl | hu
  · exact h1
  · exact h u hu
theorem Avs.append (h1 : Avs K S H k n xs) (h2 : Avs K S H k n ys) : Avs K S H k n (xs ++ ys) := fun u hu => by
  rcases List.mem_append.mp hu with hu | hu
  · exact h1 u hu
  · exact h2 u hu
theorem Avs.sub (h : Avs K S H k n xs) (hs : ∀ v ∈ ys, v ∈ xs) : Avs K S H k n ys := fun u hu => h u (hs u hu)
theorem Avs.data : ∀ {xs : List V}, Avs K S H k n xs → ∃ ds, ApAll K S H xs ds ∧ ∀ x ∈ ds, Nice k n x
  | [], _ => ⟨[], .nil, fun _ z => nomatch z⟩
  | v :: xs, h => by
    obtain ⟨x, h1, h2⟩ := h v List.mem_cons_self
    obtain ⟨ds, h3, h4⟩ := Avs.data fun u hu => h u (List.mem_cons_of_mem _ hu)
    refine ⟨x :: ds, .cons h1 h3, fun y hy => ?_⟩
    rcases List.mem_cons.mp hy with rfl | hy
    · exact h2
    · exact h4 y hy
theorem Av.tup {a : Addr} {m : Nat} (hs : SqT K H a xs) (h : Avs K S H k n xs) (hm : xs.length * (n + 1) ≤ m) : Av K S H (k + 1) m (.ref a) := by
  obtain ⟨ds, h1, h2⟩ := h.data
  exact ⟨_, .tup hs h1, Nice.tup h2 (by rw [← h1.length]; exact hm)⟩
theorem Av.lst {a : Addr} {m : Nat} (hn : a ∉ S) (hs : L2.Rd H a (.lst xs)) (h : Avs K S H k n xs) (hm : xs.length * (n + 1) ≤ m) : Av K S H (k + 1) m (.ref a) := by
  obtain ⟨ds, h1, h2⟩ := h.data
  exact ⟨_, .lst hn hs h1, Nice.lst h2 (by rw [← h1.length]; exact hm)⟩
theorem Av.int {i : Int} (h : i.natAbs < 10 ^ 99) : Av K S H k n (.int i) := ⟨_, .int i, (Nice.int h).mono (Nat.zero_le _) (Nat.zero_le _)⟩
theorem Av.bl {b : Bool} : Av K S H k n (.bl b) := ⟨_, .bl b, Nice.bool.mono (Nat.zero_le _) (Nat.zero_le _)⟩
theorem Avs.ints {ns : List Int} (h : ∀ i ∈ ns, i.natAbs < 10 ^ 99) : Avs K S H k n (ns.map V.int) := fun v hv => by
  obtain ⟨i, hi, rfl⟩ := List.mem_map.mp hv
  exact Av.int (h i hi)
end
/-! comprehensions over such values -/
end Rb
namespace Pu
open PySem PySem.Spec PyProof.Rows L2
/-! ## values without addresses (lst: k tells that the list is known to stand apart from the table of modules) -/
inductive D where
  | non | bl (b : Bool) | int (i : Int) | str (x : Str)
  | tup (xs : List D) | lst (k : Bool) (xs : List D) | dic (ps : List (Str × Int))
  | kls (xs : List D) | cell (n : Nat) | glo (x : Str) | ty (n : String)
  | ins (c : Str) (fs : List (Str × D))
  | exc (c : Str) (fs : List (Str × D))
instance : Inhabited D := ⟨.non⟩
/-- what stands in a cell -/
inductive Cl where
  | lst (xs : List D) | ins (c : Str) (fs : List (Str × D))
abbrev Sto := List Cl
abbrev Rho := List (Option D)
/-- the addresses of the cells; addresses that no value mentions -/
structure Mu where
  m : List Addr
  av : List Addr
/-- the row's written part and names -/
structure Ct where
  K : PySem.W.Frag
  mg : Str → Option Value
  hx : Addr → Option (Value × Option Addr)
/-- where no error is held -/
abbrev ct0 (K : PySem.W.Frag) (mg : Str → Option Value) : Ct := ⟨K, mg, fun _ => none⟩
section
variable (c : Ct) (μ : Mu) (H : Hp)
mutual
inductive Rp : V → D → Prop
  | non : Rp .non .non
  | bl (b : Bool) : Rp (.bl b) (.bl b)
  | int (i : Int) : Rp (.int i) (.int i)
  | str (x : Str) : Rp (.str x) (.str x)
  | tup {a : Addr} {vs : List V} {ds : List D} : H a = some (.tup vs) → RpAll vs ds → Rp (.ref a) (.tup ds)
  | lst {a : Addr} {k : Bool} {vs : List V} {ds : List D} : H a = some (.lst vs) → a ∉ μ.m → a ∉ μ.av → (k = true → a ≠ sysModules) → RpAll vs ds → Rp (.ref a) (.lst k ds)
  | kls {a : Addr} {vs : List V} {ds : List D} : L2.Rd H a (.lst vs) → a ∉ μ.m → a ∉ μ.av → RpAll vs ds → Rp (.ref a) (.kls ds)
  | klsK {a : Addr} {vs : List V} {ds : List D} (o : Obj) (its : Array Value) (n : Nat) : c.K.lookup a = some o → o.cls = .type "list" → o.dict = none → o.data = .seq its n → its.size ≤ sizeLine → Vals vs its.toList → RpAll vs ds → Rp (.ref a) (.kls ds)
  | dic {a : Addr} {ps : List (Str × Int)} : H a = some (.dK (Rb.dicV ps)) → a ∉ μ.m → a ∉ μ.av → Rp (.ref a) (.dic ps)
  | cell {n : Nat} {a : Addr} : μ.m[n]? = some a → Rp (.ref a) (.cell n)
  | glo {x : Str} {v : V} {u : Value} : c.mg x = some u → RelV v u → Rp v (.glo x)
  | ty (n : String) : Rp (.ty n) (.ty n)
  | ins {a C dx : Addr} {x : Str} {fv : List (Str × V)} {fs : List (Str × D)} : H a = some (.ins C dx fv) → a ∉ μ.m → a ∉ μ.av → c.mg x = some (.ref C) → RpFs fv fs → Rp (.ref a) (.ins x fs)
  | exc0 {a : Addr} {x : Str} {cls : Value} : c.hx a = some (cls, none) → c.mg x = some cls → Rp (.ref a) (.exc x [])
  | exc1 {a dx : Addr} {x : Str} {cls : Value} {fv : List (Str × V)} {fs : List (Str × D)} : c.hx a = some (cls, some dx) → c.mg x = some cls → H dx = some (.xd fv) → RpFs fv fs → Rp (.ref a) (.exc x fs)
inductive RpAll : List V → List D → Prop
  | nil : RpAll [] []
  | cons {v : V} {vs : List V} {d : D} {ds : List D} : Rp v d → RpAll vs ds → RpAll (v :: vs) (d :: ds)
inductive RpFs : List (Str × V) → List (Str × D) → Prop
  | nil : RpFs [] []
  | cons {f : Str} {v : V} {vs : List (Str × V)} {d : D} {ds : List (Str × D)} : Rp v d → RpFs vs ds → RpFs ((f, v) :: vs) ((f, d) :: ds)
end
end
/-! ## what stays -/
/-- from one state to a later one: cells may have changed, new ones may have come; all else is kept -/
structure Fw (μ : Mu) (H : Hp) (μ' : Mu) (H' : Hp) : Prop where
  pre : ∃ t, μ'.m = μ.m ++ t
  av : μ'.av = μ.av
  keep : ∀ a o, H a = some o → a ∉ μ.m → H' a = some o ∧ a ∉ μ'.m
theorem Fw.refl {μ : Mu} {H : Hp} : Fw μ H μ H := ⟨⟨[], by simp⟩, rfl, fun _ _ e n => ⟨e, n⟩⟩
theorem Fw.trans {μ μ1 μ2 : Mu} {H H1 H2 : Hp} (a : Fw μ H μ1 H1) (b : Fw μ1 H1 μ2 H2) : Fw μ H μ2 H2 := by
  obtain ⟨t, e⟩ := a.pre
  obtain ⟨u, e'⟩ := b.pre
  exact ⟨⟨t ++ u, by rw [e', e, List.append_assoc]⟩, b.av.trans a.av, fun x o e n => let ⟨h1, h2⟩ := a.keep x o e n; b.keep x o h1 h2⟩
theorem Fw.at {μ μ' : Mu} {H H' : Hp} (f : Fw μ H μ' H') {n : Nat} {a : Addr} (h : μ.m[n]? = some a) : μ'.m[n]? = some a := by
  obtain ⟨t, e⟩ := f.pre
  rw [e, List.getElem?_append_left (List.getElem?_eq_some_iff.mp h).1]
  exact h
theorem Fw.new {μ : Mu} {H : Hp} {p : Addr} {o : HO} (hp : H p = none) : Fw μ H μ (upd H p o) :=
  ⟨⟨[], by simp⟩, rfl, fun a u e n => ⟨by rw [upd_ne (ne_of_none e hp)]; exact e, n⟩⟩
/-- a new object that becomes a cell -/
theorem Fw.newC {μ : Mu} {H : Hp} {p : Addr} {o : HO} (hp : H p = none) : Fw μ H ⟨μ.m ++ [p], μ.av⟩ (upd H p o) :=
  ⟨⟨[p], rfl⟩, rfl, fun a u e n => ⟨by rw [upd_ne (ne_of_none e hp)]; exact e, fun z => by
    rcases List.mem_append.mp z with z | z
    · exact n z
    · exact ne_of_none e hp (List.mem_singleton.mp z)⟩⟩
/-- a cell is written -/
theorem Fw.write {μ : Mu} {H : Hp} {p : Addr} {o : HO} (hp : p ∈ μ.m) : Fw μ H μ (upd H p o) :=
  ⟨⟨[], by simp⟩, rfl, fun a u e n => ⟨by rw [upd_ne (fun z => n (by rw [z]; exact hp))]; exact e, n⟩⟩
section
variable {c : Ct} {μ μ' : Mu} {H H' : Hp}
/-- the general form: what a value leans on is kept -/
structure Kp (c : Ct) (μ : Mu) (H : Hp) (μ' : Mu) (H' : Hp) : Prop where
  t : ∀ a xs, H a = some (.tup xs) → H' a = some (.tup xs)
  l : ∀ a xs, L2.Rd H a (.lst xs) → a ∉ μ.m → a ∉ μ.av → L2.Rd H' a (.lst xs) ∧ a ∉ μ'.m ∧ a ∉ μ'.av
  m : ∀ a xs, H a = some (.lst xs) → a ∉ μ.m → a ∉ μ.av → H' a = some (.lst xs) ∧ a ∉ μ'.m ∧ a ∉ μ'.av
  d : ∀ a ps, H a = some (.dK ps) → a ∉ μ.m → a ∉ μ.av → H' a = some (.dK ps) ∧ a ∉ μ'.m ∧ a ∉ μ'.av
  i : ∀ a C dx fs, H a = some (.ins C dx fs) → a ∉ μ.m → a ∉ μ.av → H' a = some (.ins C dx fs) ∧ a ∉ μ'.m ∧ a ∉ μ'.av
  cl : ∀ (n : Nat) (a : Addr), μ.m[n]? = some a → μ'.m[n]? = some a
  x : ∀ a fv, H a = some (.xd fv) → H' a = some (.xd fv)
mutual
theorem Rp.kp (k : Kp c μ H μ' H') : ∀ {v : V} {d : D}, Rp c μ H v d → Rp c μ' H' v d
  | _, _, .non => .non
  | _, _, .bl b => .bl b
  | _, _, .int i => .int i
  | _, _, .str x => .str x
  | _, _, .tup h r => .tup (k.t _ _ h) (RpAll.kp k r)
  | _, _, .lst h n1 n2 n3 r => let ⟨a, b, d⟩ := k.m _ _ h n1 n2; .lst a b d n3 (RpAll.kp k r)
  | _, _, .kls h n1 n2 r => let ⟨a, b, d⟩ := k.l _ _ h n1 n2; .kls a b d (RpAll.kp k r)
  | _, _, .klsK o its n h1 h2 h3 h4 h5 h6 r => .klsK o its n h1 h2 h3 h4 h5 h6 (RpAll.kp k r)
  | _, _, .dic h n n2 => let ⟨a, b, d⟩ := k.d _ _ h n n2; .dic a b d
  | _, _, .cell h => .cell (k.cl _ _ h)
  | _, _, .glo h r => .glo h r
  | _, _, .ty n => .ty n
  | _, _, .ins h n n2 g r => let ⟨a, b, d⟩ := k.i _ _ _ _ h n n2; .ins a b d g (RpFs.kp k r)
  | _, _, .exc0 h g => .exc0 h g
  | _, _, .exc1 h g e r => .exc1 h g (k.x _ _ e) (RpFs.kp k r)
theorem RpAll.kp (k : Kp c μ H μ' H') : ∀ {vs : List V} {ds : List D}, RpAll c μ H vs ds → RpAll c μ' H' vs ds
  | _, _, .nil => .nil
  | _, _, .cons h r => .cons (Rp.kp k h) (RpAll.kp k r)
theorem RpFs.kp (k : Kp c μ H μ' H') : ∀ {vs : List (Str × V)} {ds : List (Str × D)}, RpFs c μ H vs ds → RpFs c μ' H' vs ds
  | _, _, .nil => .nil
  | _, _, .cons h r => .cons (Rp.kp k h) (RpFs.kp k r)
end
end
/-- a cell's object -/
def ClOk (c : Ct) (μ : Mu) (H : Hp) (a : Addr) : Cl → Prop
  | .lst ds => ∃ vs, H a = some (.lst vs) ∧ RpAll c μ H vs ds
  | .ins x fs => ∃ C dx fv, H a = some (.ins C dx fv) ∧ c.mg x = some (.ref C) ∧ RpFs c μ H fv fs
structure Wd (c : Ct) (μ : Mu) (S : Sto) (H : Hp) : Prop where
  nd : μ.m.Nodup
  len : μ.m.length = S.length
  ap : ∀ a ∈ μ.m, a ∉ μ.av
  avs : ∀ a ∈ μ.av, H a ≠ none
  ok : ∀ (i : Nat) (a : Addr) (x : Cl), μ.m[i]? = some a → S[i]? = some x → ClOk c μ H a x
theorem upd_some {H : Hp} {p a : Addr} {o : HO} (h : H a ≠ none) : upd H p o a ≠ none := by
  unfold upd
  split
  · exact fun z => nomatch z
  · exact h
theorem ClOk.there {c : Ct} {μ : Mu} {H : Hp} {a : Addr} : ∀ {x : Cl}, ClOk c μ H a x → ∃ o, H a = some o ∧ (∀ xs, o ≠ .tup xs) ∧ (∀ ob u, o ≠ .frz ob u) ∧ ∀ fv, o ≠ .xd fv
  | .lst _, ⟨_, h, _⟩ => ⟨_, h, (fun _ z => nomatch z), (fun _ _ z => nomatch z), fun _ z => nomatch z⟩
  | .ins _ _, ⟨_, _, _, h, _⟩ => ⟨_, h, (fun _ z => nomatch z), (fun _ _ z => nomatch z), fun _ z => nomatch z⟩
theorem Wd.there {c : Ct} {μ : Mu} {S : Sto} {H : Hp} (w : Wd c μ S H) {a : Addr} (h : a ∈ μ.m) : ∃ o, H a = some o ∧ (∀ xs, o ≠ .tup xs) ∧ (∀ ob u, o ≠ .frz ob u) ∧ ∀ fv, o ≠ .xd fv := by
  obtain ⟨i, hi, e⟩ := List.getElem_of_mem h
  have h1 : μ.m[i]? = some a := List.getElem?_eq_some_iff.mpr ⟨hi, e⟩
  have h2 : i < S.length := by rw [← w.len]; exact hi
  exact (w.ok i a S[i] h1 (List.getElem?_eq_getElem h2)).there
theorem Wd.fresh {c : Ct} {μ : Mu} {S : Sto} {H : Hp} (w : Wd c μ S H) {p : Addr} (hp : H p = none) : p ∉ μ.m := fun z => by
  obtain ⟨o, e, _⟩ := w.there z
  rw [hp] at e
  cases e
theorem Wd.tupK {c : Ct} {μ μ' : Mu} {S : Sto} {H H' : Hp} (w : Wd c μ S H) (f : Fw μ H μ' H') {a : Addr} {xs : List V} (e : H a = some (.tup xs)) : H' a = some (.tup xs) := by
  refine (f.keep a _ e fun z => ?_).1
  obtain ⟨o, e', n, _⟩ := w.there z
  rw [e] at e'
  exact n xs (Option.some.inj e').symm
theorem Wd.xdK {c : Ct} {μ μ' : Mu} {S : Sto} {H H' : Hp} (w : Wd c μ S H) (f : Fw μ H μ' H') {a : Addr} {fv : List (Str × V)} (e : H a = some (.xd fv)) : H' a = some (.xd fv) := by
  refine (f.keep a _ e fun z => ?_).1
  obtain ⟨o, e', _, _, n⟩ := w.there z
  rw [e] at e'
  exact n fv (Option.some.inj e').symm
theorem Wd.kp {c : Ct} {μ μ' : Mu} {S : Sto} {H H' : Hp} (w : Wd c μ S H) (f : Fw μ H μ' H') : Kp c μ H μ' H' where
  t := fun _ _ h => w.tupK f h
  l := fun a xs h n1 n2 => by
    rcases h with e | ⟨o, e⟩
    · exact ⟨.inl (f.keep a _ e n1).1, (f.keep a _ e n1).2, f.av ▸ n2⟩
    · exact ⟨.inr ⟨o, (f.keep a _ e n1).1⟩, (f.keep a _ e n1).2, f.av ▸ n2⟩
  m := fun a xs e n1 n2 => ⟨(f.keep a _ e n1).1, (f.keep a _ e n1).2, f.av ▸ n2⟩
  d := fun a ps e n1 n2 => ⟨(f.keep a _ e n1).1, (f.keep a _ e n1).2, f.av ▸ n2⟩
  i := fun a C dx fs e n1 n2 => ⟨(f.keep a _ e n1).1, (f.keep a _ e n1).2, f.av ▸ n2⟩
  cl := fun n a h => f.at h
  x := fun _ _ h => w.xdK f h
section
variable {c : Ct} {μ μ' : Mu} {S : Sto} {H H' : Hp} {v : V} {d : D} {vs : List V} {ds : List D}
theorem Rp.fw (r : Rp c μ H v d) (w : Wd c μ S H) (f : Fw μ H μ' H') : Rp c μ' H' v d := r.kp (w.kp f)
theorem RpAll.fw (r : RpAll c μ H vs ds) (w : Wd c μ S H) (f : Fw μ H μ' H') : RpAll c μ' H' vs ds := r.kp (w.kp f)
theorem ClOk.kp (k : Kp c μ H μ' H') {a : Addr} (g : ∀ o, H a = some o → H' a = some o) : ∀ {x : Cl}, ClOk c μ H a x → ClOk c μ' H' a x
  | .lst _, ⟨vs, h, r⟩ => ⟨vs, g _ h, r.kp k⟩
  | .ins _ _, ⟨C, dx, fv, h, e, r⟩ => ⟨C, dx, fv, g _ h, e, r.kp k⟩
/-- a new object that is no cell -/
theorem Wd.new (w : Wd c μ S H) {p : Addr} {o : HO} (hp : H p = none) : Wd c μ S (upd H p o) :=
  ⟨w.nd, w.len, w.ap, fun a h => upd_some (w.avs a h), fun i a x h1 h2 => ClOk.kp (w.kp (Fw.new hp)) (fun u e => by rw [upd_ne (ne_of_none e hp)]; exact e) (w.ok i a x h1 h2)⟩
theorem RpAll.length : ∀ {vs : List V} {ds : List D}, RpAll c μ H vs ds → vs.length = ds.length
  | _, _, .nil => rfl
  | _, _, .cons _ r => congrArg Nat.succ r.length
theorem RpAll.at : ∀ {vs : List V} {ds : List D} {i : Nat} {d : D}, RpAll c μ H vs ds → ds[i]? = some d → ∃ v, vs[i]? = some v ∧ Rp c μ H v d
  | _, _, i, _, .nil, h => by simp at h
  | _, _, 0, _, .cons h1 _, h => by cases h; exact ⟨_, rfl, h1⟩
  | _, _, i + 1, _, .cons _ h2, h => RpAll.at (i := i) h2 h
theorem RpAll.append : ∀ {vs ws : List V} {ds es : List D}, RpAll c μ H vs ds → RpAll c μ H ws es → RpAll c μ H (vs ++ ws) (ds ++ es)
  | _, _, _, _, .nil, h => h
  | _, _, _, _, .cons h1 h2, h => .cons h1 (h2.append h)
theorem RpAll.take : ∀ {vs : List V} {ds : List D} (n : Nat), RpAll c μ H vs ds → RpAll c μ H (vs.take n) (ds.take n)
  | _, _, 0, _ => .nil
  | _, _, _ + 1, .nil => .nil
  | _, _, n + 1, .cons h r => .cons h (RpAll.take n r)
theorem RpAll.drop : ∀ {vs : List V} {ds : List D} (n : Nat), RpAll c μ H vs ds → RpAll c μ H (vs.drop n) (ds.drop n)
  | _, _, 0, r => r
  | _, _, _ + 1, .nil => .nil
  | _, _, n + 1, .cons _ r => RpAll.drop n r
theorem RpAll.set {v : V} {d : D} (h : Rp c μ H v d) : ∀ {vs : List V} {ds : List D} (n : Nat), RpAll c μ H vs ds → RpAll c μ H (vs.set n v) (ds.set n d)
  | _, _, _, .nil => .nil
  | _, _, 0, .cons _ r => .cons h r
  | _, _, n + 1, .cons q r => .cons q (RpAll.set h n r)
theorem RpAll.rep : ∀ (n : Nat), RpAll c μ H vs ds → RpAll c μ H (List.replicate n vs).flatten (List.replicate n ds).flatten
  | 0, _ => .nil
  | n + 1, r => by
    rw [List.replicate_succ, List.replicate_succ, List.flatten_cons, List.flatten_cons]
    exact r.append (RpAll.rep n r)
end
theorem ix_uniq {N : List Addr} (hN : N.Nodup) {i j : Nat} {x : Addr} (a : N[i]? = some x) (b : N[j]? = some x) : i = j := by
  obtain ⟨h1, e1⟩ := List.getElem?_eq_some_iff.mp a
  obtain ⟨h2, e2⟩ := List.getElem?_eq_some_iff.mp b
  exact (List.getElem_inj hN).mp (e1.trans e2.symm)
/-- one write to a cell -/
theorem Wd.set {c : Ct} {μ : Mu} {S : Sto} {H : Hp} (w : Wd c μ S H) {n : Nat} {a : Addr} {o : HO} {x : Cl} (h : μ.m[n]? = some a) (hx : ClOk c μ (upd H a o) a x) : Wd c μ (S.set n x) (upd H a o) := by
  have hm : a ∈ μ.m := List.mem_of_getElem? h
  refine ⟨w.nd, by rw [List.length_set]; exact w.len, w.ap, fun a h => upd_some (w.avs a h), fun i b y h1 h2 => ?_⟩
  by_cases hi : n = i
  · subst hi
    rw [h] at h1
    cases h1
    have : n < S.length := by rw [← w.len]; exact (List.getElem?_eq_some_iff.mp h).1
    rw [List.getElem?_set_self this] at h2
    cases h2
    exact hx
  · rw [List.getElem?_set_ne hi] at h2
    have ne : b ≠ a := fun z => by
      subst z
      exact hi (ix_uniq w.nd h h1)
    exact ClOk.kp (w.kp (Fw.write hm)) (fun u e => by rw [upd_ne ne]; exact e) (w.ok i b y h1 h2)
/-- a new cell -/
theorem Wd.newC {c : Ct} {μ : Mu} {S : Sto} {H : Hp} (w : Wd c μ S H) {p : Addr} {o : HO} {x : Cl} (hp : H p = none) (hx : ClOk c ⟨μ.m ++ [p], μ.av⟩ (upd H p o) p x) : Wd c ⟨μ.m ++ [p], μ.av⟩ (S ++ [x]) (upd H p o) := by
  have nm := w.fresh hp
  refine ⟨?_, by simp [w.len], fun a h => ?_, fun a h => upd_some (w.avs a h), fun i a y h1 h2 => ?_⟩
  · rw [List.nodup_append]
    exact ⟨w.nd, by simp, fun a ha b hb e => nm (by rw [List.mem_singleton.mp hb] at e; exact e ▸ ha)⟩
  · rcases List.mem_append.mp h with h | h
    · exact w.ap a h
    · rw [List.mem_singleton.mp h]; exact fun z => w.avs p z hp
  · have hl := w.len
    by_cases hi : i < μ.m.length
    · rw [List.getElem?_append_left hi] at h1
      rw [List.getElem?_append_left (by omega)] at h2
      exact ClOk.kp (w.kp (Fw.newC hp)) (fun u e => by rw [upd_ne (ne_of_none e hp)]; exact e) (w.ok i a y h1 h2)
    · have hi2 : i = μ.m.length := by
        have := (List.getElem?_eq_some_iff.mp h1).1
        simp at this
        omega
      subst hi2
      rw [List.getElem?_append_right (Nat.le_refl _), Nat.sub_self] at h1
      cases h1
      rw [List.getElem?_append_right (by omega), hl, Nat.sub_self] at h2
      cases h2
      exact hx
end Pu
namespace Pu
open PySem PySem.Spec PyProof.Rows L2
/-! ## meanings: what must hold so that a piece of code ends as wanted, over values without addresses -/
abbrev QD := D → Sto → Prop
/-- an error: its class, its fields -/
abbrev Er := Str × List (Str × D)
abbrev ED := Er → Sto → Prop
abbrev FX (α : Type) := Rho → Sto → (α → Sto → Prop) → ED → Prop
abbrev FE := FX D
abbrev FT := FX Bool
abbrev FA := FX (List D)
abbrev FO := FX (Option Int)
structure DEnds where
  nx : Rho → Sto → Prop
  rt : QD
  bk : Rho → Sto → Prop
  ct : Rho → Sto → Prop
abbrev FS := Rho → Sto → DEnds → ED → Prop
abbrev FG := D → Rho → Sto → (Rho → Sto → Prop) → ED → Prop
abbrev FGs := List D → Rho → Sto → (Rho → Sto → Prop) → ED → Prop
/-- a def -/
abbrev FF := List D → Sto → QD → ED → Prop
def hxOf (pn : List (Addr × Obj)) (a : Addr) : Option (Value × Option Addr) := match pn with
  | (b, o) :: _ => if b = a then some (o.cls, o.dict) else none
  | [] => none
def ct (X : Cx) : Ct := ⟨X.K, X.mg, if X.calm = true then fun _ => none else hxOf X.pn⟩
/-- what leaves by an error, whatever the slots -/
abbrev cE (E : XK) : L2.St → XK := fun _ => E
structure EnvR (c : Ct) (μ : Mu) (H : Hp) (σ : L2.St) (ρ : Rho) : Prop where
  len : σ.length = ρ.length
  ok : ∀ (i : Nat) (d : D), ρ[i]? = some (some d) → ∃ v, σ[i]? = some (some v) ∧ Rp c μ H v d
def RpX (c : Ct) (μ : Mu) (H : Hp) (cls : Value) (dx : Option Addr) (e : Er) : Prop :=
  c.mg e.1 = some cls ∧ match e.2 with
    | [] => dx = none
    | f :: fs => ∃ a fv, dx = some a ∧ H a = some (.xd fv) ∧ RpFs c μ H fv (f :: fs)
def PX (c : Ct) (μ : Mu) (H : Hp) (Ed : ED) (E : XK) : Prop := ∀ e S' cls dx H' μ', Ed e S' → Fw μ H μ' H' → Wd c μ' S' H' → RpX c μ' H' cls dx e → E cls dx H'
section
variable {c : Ct} {μ μ' : Mu} {S S' : Sto} {H H' : Hp} {σ : L2.St} {ρ : Rho} {Ed : ED} {E : XK}
theorem EnvR.fw (en : EnvR c μ H σ ρ) (w : Wd c μ S H) (f : Fw μ H μ' H') : EnvR c μ' H' σ ρ := ⟨en.len, fun i d h => let ⟨v, e, r⟩ := en.ok i d h; ⟨v, e, r.fw w f⟩⟩
theorem EnvR.kp (en : EnvR c μ H σ ρ) (k : Kp c μ H μ' H') : EnvR c μ' H' σ ρ := ⟨en.len, fun i d h => let ⟨v, e, r⟩ := en.ok i d h; ⟨v, e, r.kp k⟩⟩
theorem PX.fw (p : PX c μ H Ed E) (f : Fw μ H μ' H') : PX c μ' H' Ed E := fun e S' cls dx H2 μ2 h g w r => p e S' cls dx H2 μ2 h (f.trans g) w r
theorem EnvR.set (en : EnvR c μ H σ ρ) {i : Nat} {v : V} {d : D} (r : Rp c μ H v d) : EnvR c μ H (σ.set i (some v)) (ρ.set i (some d)) := by
  refine ⟨by rw [List.length_set, List.length_set]; exact en.len, fun j x h => ?_⟩
  by_cases e : i = j
  · subst e
    have hl : i < ρ.length := by
      have := (List.getElem?_eq_some_iff.mp h).1
      rwa [List.length_set] at this
    rw [List.getElem?_set_self hl] at h
    cases h
    exact ⟨v, by rw [List.getElem?_set_self (by rw [en.len]; exact hl)], r⟩
  · rw [List.getElem?_set_ne e] at h ⊢
    exact en.ok j x h
end
/-- the reading that a meaning gives -/
def tR {α β : Type} (c : Ct) (R : Mu → Hp → β → α → Prop) (E : L2.St → XK) (f : FX α) : L2.St → Hp → (β → Hp → Prop) → Prop := fun σ H Q =>
  ∃ μ S ρ Qd Ed, Wd c μ S H ∧ EnvR c μ H σ ρ ∧ f ρ S Qd Ed ∧ (∀ d S' v H' μ', Qd d S' → Fw μ H μ' H' → Wd c μ' S' H' → R μ' H' v d → Q v H') ∧ PX c μ H Ed (E σ)
theorem tR_of {α β : Type} {c : Ct} {R : Mu → Hp → β → α → Prop} {E : L2.St → XK} {f : FX α} {σ : L2.St} {H : Hp} {Q : β → Hp → Prop} {μ : Mu} {S : Sto} {ρ : Rho} {Qd : α → Sto → Prop} {Ed : ED}
    (w : Wd c μ S H) (en : EnvR c μ H σ ρ) (h : f ρ S Qd Ed) (px : PX c μ H Ed (E σ))
    (q : ∀ d S' v H' μ', Qd d S' → Fw μ H μ' H' → Wd c μ' S' H' → EnvR c μ' H' σ ρ → PX c μ' H' Ed (E σ) → R μ' H' v d → Q v H') : tR c R E f σ H Q :=
  ⟨μ, S, ρ, Qd, Ed, w, en, h, fun d S' v H' μ' h1 h2 h3 h4 => q d S' v H' μ' h1 h2 h3 (en.fw w h2) (px.fw h2) h4, px⟩
def rEqB {α : Type} : Mu → Hp → α → α → Prop := fun _ _ a b => a = b
abbrev tD (c : Ct) (E : L2.St → XK) (f : FE) : TE := tR c (Rp c) E f
abbrev tT (c : Ct) (E : L2.St → XK) (f : FT) : TT := tR c rEqB E f
abbrev tAr (c : Ct) (E : L2.St → XK) (f : FA) : TA := tR c (RpAll c) E f
abbrev tOp' (c : Ct) (E : L2.St → XK) (f : FO) : TO := tR c rEqB E f
abbrev PEd (X : Cx) (E : L2.St → XK) (e : Expr) (f : FE) : Prop := PE X e (tD (ct X) E f)
abbrev PTd (X : Cx) (E : L2.St → XK) (e : Expr) (f : FT) : Prop := PT X e (tT (ct X) E f)
abbrev PWd (X : Cx) (E : L2.St → XK) (e : Expr) (f : FT) : Prop := PW X e (tT (ct X) E f)
abbrev PAd (X : Cx) (E : L2.St → XK) (es : List Expr) (f : FA) : Prop := PA X es (tAr (ct X) E f)
abbrev POd (X : Cx) (E : L2.St → XK) (e : Option Expr) (f : FO) : Prop := PO X e (tOp' (ct X) E f)
section
variable {X : Cx}
theorem PE.imp {e : Expr} {t t' : TE} (h : PE X e t) (k : ∀ σ H Q, t' σ H Q → t σ H Q) : PE X e t' := ⟨fun pins s σ H Q I q => h.run pins s σ H Q I (k σ H Q q)⟩
theorem PT.imp {e : Expr} {t t' : TT} (h : PT X e t) (k : ∀ σ H Q, t' σ H Q → t σ H Q) : PT X e t' := ⟨fun pins s σ H Q I q => h.run pins s σ H Q I (k σ H Q q)⟩
theorem PW.imp {e : Expr} {t t' : TT} (h : PW X e t) (k : ∀ σ H Q, t' σ H Q → t σ H Q) : PW X e t' := ⟨fun wh pins s σ H Q I q => h.run wh pins s σ H Q I (k σ H Q q)⟩
theorem PA.imp {e : List Expr} {t t' : TA} (h : PA X e t) (k : ∀ σ H Q, t' σ H Q → t σ H Q) : PA X e t' := ⟨fun p pins s σ H Q I q => h.run p pins s σ H Q I (k σ H Q q)⟩
theorem PO.imp {e : Option Expr} {t t' : TO} (h : PO X e t) (k : ∀ σ H Q, t' σ H Q → t σ H Q) : PO X e t' := ⟨fun pins s σ H Q I q => h.run pins s σ H Q I (k σ H Q q)⟩
theorem PS.imp {e : Stmt} {t t' : TS} (h : PS X e t) (k : ∀ D σ H, t' D σ H → t D σ H) : PS X e t' := ⟨fun pins s σ H D I q => h.run pins s σ H D I (k D σ H q)⟩
theorem PSs.imp {e : List Stmt} {t t' : TS} (h : PSs X e t) (k : ∀ D σ H, t' D σ H → t D σ H) : PSs X e t' := ⟨fun pins s σ H D I q => h.run pins s σ H D I (k D σ H q)⟩
theorem PG.imp {e : Expr} {t t' : TG} (h : PG X e t) (k : ∀ v σ H Q, t' v σ H Q → t v σ H Q) : PG X e t' := ⟨fun pins s σ H v u Q I r q => h.run pins s σ H v u Q I r (k v σ H Q q)⟩
end
/-! ### names, constants -/
def getV : Rho → Nat → Option D
  | [], _ => none
  | x :: _, 0 => x
  | _ :: r, n + 1 => getV r n
theorem getV_some : ∀ {ρ : Rho} {i : Nat} {d : D}, getV ρ i = some d → ρ[i]? = some (some d)
  | [], _, _, h => by cases h
  | _ :: _, 0, _, h => by
    rw [List.getElem?_cons_zero]
    exact congrArg some h
  | _ :: r, n + 1, _, h => by
    rw [List.getElem?_cons_succ]
    exact getV_some (ρ := r) h
def onSome {α : Type} (o : Option α) (k : α → Prop) : Prop := match o with | some a => k a | none => False
theorem onSome_of {α : Type} {o : Option α} {k : α → Prop} (h : onSome o k) : ∃ a, o = some a ∧ k a := by
  cases o with
  | none => exact h.elim
  | some a => exact ⟨a, rfl, h⟩
def dVar (i : Nat) : FE := fun ρ S Q _ => onSome (getV ρ i) fun d => Q d S
def dC {α : Type} (d : α) : FX α := fun _ S Q _ => Q d S
section
variable {X : Cx} {E : L2.St → XK} {pos : Pos}
theorem d_var {i : Nat} {e : Expr} (h : PE X e (tVar i)) : PEd X E e (dVar i) := by
  refine PE.imp h fun σ H Q ⟨μ, S, ρ, Qd, Ed, w, en, hf, q, px⟩ => ?_
  obtain ⟨d, e1, hd⟩ := onSome_of hf
  obtain ⟨v, e2, r⟩ := en.ok i d (getV_some e1)
  exact ⟨v, e2, q d S v H μ hd Fw.refl w r⟩
theorem d_const {v : V} {d : D} {e : Expr} (h : PE X e (tC v)) (r : ∀ μ H, Rp (ct X) μ H v d) : PEd X E e (dC d) :=
  PE.imp h fun σ H Q ⟨μ, S, ρ, Qd, Ed, w, en, hf, q, px⟩ => q d S v H μ hf Fw.refl w (r μ H)
theorem d_int {i j} : PEd X E (.Constant (.int i) j pos) (dC (.int i)) := d_const pe_int fun _ _ => .int i
theorem d_bl {b j} : PEd X E (.Constant (.bool b) j pos) (dC (.bl b)) := d_const pe_bl fun _ _ => .bl b
theorem d_non {j} : PEd X E (.Constant .none j pos) (dC .non) := d_const pe_non fun _ _ => .non
theorem d_str {x j} : PEd X E (.Constant (.str x) j pos) (dC (.str x)) := d_const pe_str fun _ _ => .str x
/-- a module's int -/
theorem d_gint {x : Str} {i : Int} {t : Tok} (hg : Gl X x) (hm : X.mg x = some (.int i t)) (hd : (x == ("__debug__" : Str)) = false := by decide) : PEd X E (.Name x pos) (dC (.int i)) :=
  d_const (pe_glob hg hm (show RelV (V.int i) _ from ⟨_, rfl⟩) hd) fun _ _ => .int i
end
/-! ### argument lists -/
def dNil : FA := fun _ S Q _ => Q [] S
def dCons (f : FE) (g : FA) : FA := fun ρ S Q Ed => f ρ S (fun x S1 => g ρ S1 (fun xs S2 => Q (x :: xs) S2) Ed) Ed
section
variable {X : Cx} {E : L2.St → XK} {pos : Pos} {a b e : Expr} {es : List Expr} {fa fb : FE} {fs : FA}
theorem d_nil : PAd X E [] dNil := PA.imp pa_nil fun σ H Q ⟨μ, S, ρ, Qd, Ed, w, en, hf, q, px⟩ => q [] S [] H μ hf Fw.refl w .nil
theorem d_cons (ha : PEd X E e fa) (hr : PAd X E es fs) (hs : starEach (e :: es) X.env = (false, eval e X.env) :: starEach es X.env := by rfl) : PAd X E (e :: es) (dCons fa fs) := by
  refine PA.imp (pa_cons ha hr hs) fun σ H Q ⟨μ, S, ρ, Qd, Ed, w, en, hf, q, px⟩ => ?_
  refine tR_of w en hf px fun x S1 v H1 μ1 h1 f1 w1 en1 px1 r1 => ?_
  refine tR_of w1 en1 h1 px1 fun xs S2 vs H2 μ2 h2 f2 w2 en2 px2 r2 => ?_
  exact q _ S2 _ H2 μ2 h2 (f1.trans f2) w2 (.cons (r1.fw w1 f2) r2)
/-! ### operators by values -/
abbrev G2 := D → D → Sto → QD → Prop
def PostV (c : Ct) (μ : Mu) (H : Hp) (Qd : QD) (Q : VK) : Prop := ∀ d S' v H' μ', Qd d S' → Fw μ H μ' H' → Wd c μ' S' H' → Rp c μ' H' v d → Q v H'
def rD2 (c : Ct) (g : G2) : R2 := fun x y H Q => ∃ μ S dx dy Qd, Wd c μ S H ∧ Rp c μ H x dx ∧ Rp c μ H y dy ∧ g dx dy S Qd ∧ PostV c μ H Qd Q
def rD1 (c : Ct) (g : D → Sto → QD → Prop) : V → Hp → VK → Prop := fun x H Q => ∃ μ S dx Qd, Wd c μ S H ∧ Rp c μ H x dx ∧ g dx S Qd ∧ PostV c μ H Qd Q
def rDs (c : Ct) (g : List D → Sto → QD → Prop) : List V → Hp → VK → Prop := fun xs H Q => ∃ μ S ds Qd, Wd c μ S H ∧ RpAll c μ H xs ds ∧ g ds S Qd ∧ PostV c μ H Qd Q
def rDm (c : Ct) (g : D → List D → Sto → QD → Prop) : V → List V → Hp → VK → Prop := fun x xs H Q => ∃ μ S d ds Qd, Wd c μ S H ∧ Rp c μ H x d ∧ RpAll c μ H xs ds ∧ g d ds S Qd ∧ PostV c μ H Qd Q
def dBin (g : G2) (fa fb : FE) : FE := fun ρ S Q Ed => fa ρ S (fun x S1 => fb ρ S1 (fun y S2 => g x y S2 Q) Ed) Ed
def dUn (g : D → Sto → QD → Prop) (fa : FE) : FE := fun ρ S Q Ed => fa ρ S (fun x S1 => g x S1 Q) Ed
def dB (g : List D → Sto → QD → Prop) (fa : FA) : FE := fun ρ S Q Ed => fa ρ S (fun ds S1 => g ds S1 Q) Ed
theorem tBin {g : G2} {σ : L2.St} {H : Hp} {Q : VK} {c : Ct} (h : tD c E (dBin g fa fb) σ H Q) : tOp (rD2 c g) (tD c E fa) (tD c E fb) σ H Q := by
  obtain ⟨μ, S, ρ, Qd, Ed, w, en, hf, q, px⟩ := h
  refine tR_of w en hf px fun x S1 v H1 μ1 h1 f1 w1 en1 px1 r1 => ?_
  refine tR_of w1 en1 h1 px1 fun y S2 u H2 μ2 h2 f2 w2 en2 px2 r2 => ?_
  exact ⟨μ2, S2, x, y, Qd, w2, r1.fw w1 f2, r2, h2, fun d S' v' H' μ' h f w' r => q d S' v' H' μ' h (f1.trans (f2.trans f)) w' r⟩
theorem d_bin {op : Operator} {g : G2} (ho : OpR X (binaryOp op) (rD2 (ct X) g)) (ha : PEd X E a fa) (hb : PEd X E b fb) : PEd X E (.BinOp a op b pos) (dBin g fa fb) :=
  PE.imp (pe_op ho ha hb) fun _ _ _ h => tBin h
theorem d_un {op : UnaryOp} {g : D → Sto → QD → Prop} (ho : UnR X (unaryOp op) (rD1 (ct X) g)) (ha : PEd X E a fa) : PEd X E (.UnaryOp op a pos) (dUn g fa) := by
  refine PE.imp (pe_un ho ha) fun σ H Q ⟨μ, S, ρ, Qd, Ed, w, en, hf, q, px⟩ => ?_
  refine tR_of w en hf px fun x S1 v H1 μ1 h1 f1 w1 en1 px1 r1 => ?_
  exact ⟨μ1, S1, x, Qd, w1, r1, h1, fun d S' v' H' μ' h f w' r => q d S' v' H' μ' h (f1.trans f) w' r⟩
theorem d_cmp {op : CmpOp} {g : G2} (ho : OpR X (compareOp op) (rD2 (ct X) g)) (ha : PEd X E a fa) (hb : PEd X E b fb) (hm : behindInMarks op b = false) : PEd X E (.Compare a [op] [b] pos) (dBin g fa fb) :=
  PE.imp (pe_cmpR ho ha hb hm) fun _ _ _ h => tBin h
/-- a bool's test -/
def onBl (d : D) (k : Bool → Prop) : Prop := match d with | .bl b => k b | _ => False
theorem onBl_of {d : D} {k : Bool → Prop} (h : onBl d k) : ∃ b, d = .bl b ∧ k b := by
  cases d with
  | bl b => exact ⟨b, rfl, h⟩
  | _ => exact h.elim
def dTest (f : FE) : FT := fun ρ S Q Ed => f ρ S (fun d S1 => onBl d fun b => Q b S1) Ed
theorem Rp.bl_inv {c : Ct} {μ : Mu} {H : Hp} {v : V} {b : Bool} (h : Rp c μ H v (.bl b)) : v = .bl b := by cases h; rfl
theorem tTest_of {f : FE} {σ : L2.St} {H : Hp} {Q : Bool → Hp → Prop} {c : Ct} (h : tT c E (dTest f) σ H Q) : tD c E f σ H (fun x H' => ∃ k, x = .bl k ∧ Q k H') := by
  obtain ⟨μ, S, ρ, Qd, Ed, w, en, hf, q, px⟩ := h
  refine tR_of w en hf px fun x S1 v H1 μ1 h1 f1 w1 en1 px1 r1 => ?_
  obtain ⟨b, rfl, hb⟩ := onBl_of h1
  exact ⟨b, r1.bl_inv, q b S1 b H1 μ1 hb f1 w1 rfl⟩
theorem d_tcmp {op : CmpOp} {g : G2} (ho : OpR X (compareOp op) (rD2 (ct X) g)) (ha : PEd X E a fa) (hb : PEd X E b fb) (hm : behindInMarks op b = false) : PTd X E (.Compare a [op] [b] pos) (dTest (dBin g fa fb)) := by
  refine PT.imp (pt_cmpR ho ha hb hm) fun σ H Q h => ?_
  obtain ⟨μ, S, ρ, Qd, Ed, w, en, hf, q, px⟩ := h
  show tOp _ _ _ σ H _
  refine tBin ⟨μ, S, ρ, _, Ed, w, en, hf, fun d S' v H' μ' h1 f1 w1 r1 => ?_, px⟩
  obtain ⟨b, rfl, hb⟩ := onBl_of h1
  exact ⟨b, r1.bl_inv, q b S' b H' μ' hb f1 w1 rfl⟩
/-- an expression that is a bool, as a test -/
theorem d_tval {f : FE} (h : PEd X E e f) (he : ∀ whole, isTrue e X.env whole = (do let v ← whole; standAt e.pos; holding [v] (truthy v)) := by intro _; rfl) : PTd X E e (dTest f) :=
  PT.imp (pt_val h he) fun _ _ _ h => tTest_of h
end
/-! ### and, or, not, if -/
def dAnd (f g : FT) : FT := fun ρ S Q Ed => f ρ S (fun b S1 => if b = true then g ρ S1 Q Ed else Q false S1) Ed
def dOr (f g : FT) : FT := fun ρ S Q Ed => f ρ S (fun b S1 => if b = true then Q true S1 else g ρ S1 Q Ed) Ed
def dNot (f : FT) : FT := fun ρ S Q Ed => f ρ S (fun b S1 => Q (!b) S1) Ed
def dAndV (f g : FE) : FE := fun ρ S Q Ed => f ρ S (fun d S1 => onBl d fun b => if b = true then g ρ S1 Q Ed else Q (.bl false) S1) Ed
def dIf {α : Type} (t : FT) (f g : FX α) : FX α := fun ρ S Q Ed => t ρ S (fun b S1 => if b = true then f ρ S1 Q Ed else g ρ S1 Q Ed) Ed
section
variable {X : Cx} {E : L2.St → XK} {pos : Pos} {a b c e : Expr} {rest : List Expr} {f g : FT} {fa fb : FE}
theorem d_and1 (ha : PTd X E a f) : PWd X E (.BoolOp .And [a] pos) f := pw_and1 ha
theorem d_or1 (ha : PTd X E a f) : PWd X E (.BoolOp .Or [a] pos) f := pw_or1 ha
theorem d_and (ha : PTd X E a f) (hb : PWd X E (.BoolOp .And (b :: rest) pos) g) : PWd X E (.BoolOp .And (a :: b :: rest) pos) (dAnd f g) := by
  refine PW.imp (pw_and ha hb) fun σ H Q ⟨μ, S, ρ, Qd, Ed, w, en, hf, q, px⟩ => ?_
  refine tR_of w en hf px fun x S1 v H1 μ1 h1 f1 w1 en1 px1 r1 => ?_
  cases (r1 : v = x)
  split
  · rename_i hv
    rw [if_pos hv] at h1
    exact tR_of w1 en1 h1 px1 fun y S2 u H2 μ2 h2 f2 w2 en2 px2 r2 => q y S2 u H2 μ2 h2 (f1.trans f2) w2 r2
  · rename_i hv
    rw [if_neg hv] at h1
    exact q false S1 false H1 μ1 h1 f1 w1 rfl
theorem d_or (ha : PTd X E a f) (hb : PWd X E (.BoolOp .Or (b :: rest) pos) g) : PWd X E (.BoolOp .Or (a :: b :: rest) pos) (dOr f g) := by
  refine PW.imp (pw_or ha hb) fun σ H Q ⟨μ, S, ρ, Qd, Ed, w, en, hf, q, px⟩ => ?_
  refine tR_of w en hf px fun x S1 v H1 μ1 h1 f1 w1 en1 px1 r1 => ?_
  cases (r1 : v = x)
  split
  · rename_i hv
    rw [if_pos hv] at h1
    exact q true S1 true H1 μ1 h1 f1 w1 rfl
  · rename_i hv
    rw [if_neg hv] at h1
    exact tR_of w1 en1 h1 px1 fun y S2 u H2 μ2 h2 f2 w2 en2 px2 r2 => q y S2 u H2 μ2 h2 (f1.trans f2) w2 r2
theorem d_not (ha : PTd X E a f) : PTd X E (.UnaryOp .Not a pos) (dNot f) := by
  refine PT.imp (pt_not ha) fun σ H Q ⟨μ, S, ρ, Qd, Ed, w, en, hf, q, px⟩ => ?_
  refine tR_of w en hf px fun x S1 v H1 μ1 h1 f1 w1 en1 px1 r1 => ?_
  cases (r1 : v = x)
  exact q _ S1 _ H1 μ1 h1 f1 w1 rfl
theorem d_one {op} (h : PEd X E a fa) : PEd X E (.BoolOp op [a] pos) fa := pe_one h
theorem d_andV (ha : PEd X E a fa) (hb : PEd X E (.BoolOp .And (b :: rest) pos) fb) : PEd X E (.BoolOp .And (a :: b :: rest) pos) (dAndV fa fb) := by
  refine PE.imp (pe_and ha hb) fun σ H Q ⟨μ, S, ρ, Qd, Ed, w, en, hf, q, px⟩ => ?_
  refine tR_of w en hf px fun x S1 v H1 μ1 h1 f1 w1 en1 px1 r1 => ?_
  obtain ⟨k, rfl, hk⟩ := onBl_of h1
  refine ⟨k, r1.bl_inv, ?_⟩
  split
  · rename_i hv
    rw [if_pos hv] at hk
    exact tR_of w1 en1 hk px1 fun y S2 u H2 μ2 h2 f2 w2 en2 px2 r2 => q y S2 u H2 μ2 h2 (f1.trans f2) w2 r2
  · rename_i hv
    rw [if_neg hv] at hk
    exact q _ S1 _ H1 μ1 hk f1 w1 (.bl false)
theorem d_ifE (ht : PTd X E c f) (ha : PEd X E a fa) (hb : PEd X E b fb) : PEd X E (.IfExp c a b pos) (dIf f fa fb) := by
  refine PE.imp (pe_ifExp ht ha hb) fun σ H Q ⟨μ, S, ρ, Qd, Ed, w, en, hf, q, px⟩ => ?_
  refine tR_of w en hf px fun x S1 v H1 μ1 h1 f1 w1 en1 px1 r1 => ?_
  cases (r1 : v = x)
  split
  · rename_i hv
    rw [if_pos hv] at h1
    exact tR_of w1 en1 h1 px1 fun y S2 u H2 μ2 h2 f2 w2 en2 px2 r2 => q y S2 u H2 μ2 h2 (f1.trans f2) w2 r2
  · rename_i hv
    rw [if_neg hv] at h1
    exact tR_of w1 en1 h1 px1 fun y S2 u H2 μ2 h2 f2 w2 en2 px2 r2 => q y S2 u H2 μ2 h2 (f1.trans f2) w2 r2
end
/-! ### two comparisons in a row -/
def dChain (g g' : G2) (fa fb fc : FE) : FE := fun ρ S Q Ed => fa ρ S (fun x S1 => fb ρ S1 (fun y S2 => g x y S2 fun z S3 => onBl z fun k => if k = true then fc ρ S3 (fun u S4 => g' y u S4 Q) Ed else Q (.bl false) S3) Ed) Ed
section
variable {X : Cx} {E : L2.St → XK} {pos : Pos} {a b c : Expr} {fa fb fc : FE} {op op' : CmpOp} {g g' : G2}
theorem tChain_of {σ : L2.St} {H : Hp} {Q : VK} {x : Ct} (h : tD x E (dChain g g' fa fb fc) σ H Q) : tChain (rD2 x g) (rD2 x g') (tD x E fa) (tD x E fb) (tD x E fc) σ H Q := by
  obtain ⟨μ, S, ρ, Qd, Ed, w, en, hf, q, px⟩ := h
  refine tR_of w en hf px fun x S1 v H1 μ1 h1 f1 w1 en1 px1 r1 => ?_
  refine tR_of w1 en1 h1 px1 fun y S2 u H2 μ2 h2 f2 w2 en2 px2 r2 => ?_
  refine ⟨μ2, S2, x, y, _, w2, r1.fw w1 f2, r2, h2, fun d S' v' H3 μ3 h f3 w3 r3 => ?_⟩
  obtain ⟨k, rfl, hk⟩ := onBl_of h
  refine ⟨k, r3.bl_inv, ?_⟩
  split
  · rename_i hv
    rw [if_pos hv] at hk
    refine tR_of w3 (en2.fw w2 f3) hk (px2.fw f3) fun z S4 vz H4 μ4 h4 f4 w4 en4 px4 r4 => ?_
    exact ⟨μ4, S4, y, z, Qd, w4, (r2.fw w2 f3).fw w3 f4, r4, h4, fun d S' v' H' μ' h f w' r => q d S' v' H' μ' h (f1.trans (f2.trans (f3.trans (f4.trans f)))) w' r⟩
  · rename_i hv
    rw [if_neg hv] at hk
    exact q _ _ _ _ _ hk (f1.trans (f2.trans f3)) w3 (.bl false)
theorem d_tchain (ho : OpR X (compareOp op) (rD2 (ct X) g)) (ho' : OpR X (compareOp op') (rD2 (ct X) g')) (ha : PEd X E a fa) (hb : PEd X E b fb) (hc : PEd X E c fc)
    (hm : lastMarks [op, op'] [b, c] = false := by with_unfolding_all rfl) : PTd X E (.Compare a [op, op'] [b, c] pos) (dTest (dChain g g' fa fb fc)) := by
  refine PT.imp (pt_chain ho ho' ha hb hc hm) fun σ H Q h => ?_
  obtain ⟨μ, S, ρ, Qd, Ed, w, en, hf, q, px⟩ := h
  refine tChain_of ⟨μ, S, ρ, _, Ed, w, en, hf, fun d S' v H' μ' h1 f1 w1 r1 => ?_, px⟩
  obtain ⟨b, rfl, hb⟩ := onBl_of h1
  exact ⟨b, r1.bl_inv, q b S' b H' μ' hb f1 w1 rfl⟩
end
end Pu
namespace Pu
open PySem PySem.Spec PyProof.Rows L2
/-! ## reading data -/
def lstAt : Option Cl → Option (List D)
  | some (.lst xs) => some xs
  | _ => none
theorem lstAt_inv {o : Option Cl} {xs : List D} (h : lstAt o = some xs) : o = some (.lst xs) := by
  cases o with
  | none => cases h
  | some x =>
    cases x with
    | lst ys => cases h; rfl
    | ins _ _ => cases h
def seqOf (S : Sto) : D → Option (List D)
  | .tup xs => some xs
  | .lst _ xs => some xs
  | .kls xs => some xs
  | .cell n => lstAt S[n]?
  | _ => none
def lstOf (S : Sto) : D → Option (List D)
  | .lst _ xs => some xs
  | .cell n => lstAt S[n]?
  | _ => none
def cellOf (S : Sto) : D → Option (Nat × List D)
  | .cell n => (lstAt S[n]?).map ((n, ·))
  | _ => none
section
variable {c : Ct} {μ μ' : Mu} {S : Sto} {H H' : Hp} {v : V} {d : D} {xs : List D}
theorem Wd.atCell (w : Wd c μ S H) {n : Nat} {x : Cl} (h : S[n]? = some x) : ∃ a, μ.m[n]? = some a ∧ ClOk c μ H a x := by
  have h1 : n < μ.m.length := by rw [w.len]; exact (List.getElem?_eq_some_iff.mp h).1
  exact ⟨μ.m[n], List.getElem?_eq_getElem h1, w.ok n _ x (List.getElem?_eq_getElem h1) h⟩
theorem cellOf_inv {n : Nat} (e : cellOf S d = some (n, xs)) : d = .cell n ∧ S[n]? = some (.lst xs) := by
  cases d with
  | cell k =>
    obtain ⟨ys, h, e2⟩ := Option.map_eq_some_iff.mp (show (lstAt S[k]?).map ((k, ·)) = some (n, xs) from e)
    cases e2
    exact ⟨rfl, lstAt_inv h⟩
  | _ => cases e
theorem Wd.cellL (w : Wd c μ S H) (r : Rp c μ H v d) {n : Nat} (e : cellOf S d = some (n, xs)) : ∃ a vs, v = .ref a ∧ μ.m[n]? = some a ∧ H a = some (.lst vs) ∧ RpAll c μ H vs xs := by
  obtain ⟨rfl, h⟩ := cellOf_inv e
  cases r with
  | cell hm =>
    obtain ⟨vs, h1, h2⟩ := w.ok n _ _ hm h
    exact ⟨_, vs, rfl, hm, h1, h2⟩
theorem Rp.lstT (w : Wd c μ S H) (r : Rp c μ H v d) (e : lstOf S d = some xs) : ∃ a vs, v = .ref a ∧ H a = some (.lst vs) ∧ RpAll c μ H vs xs := by
  cases r with
  | lst h _ _ _ ra => cases e; exact ⟨_, _, rfl, h, ra⟩
  | @cell n a hm =>
    obtain ⟨vs, h1, h2⟩ := w.ok n _ _ hm (lstAt_inv e)
    exact ⟨_, vs, rfl, h1, h2⟩
  | _ => cases e
theorem Rp.seq (w : Wd c μ S H) (r : Rp c μ H v d) (e : seqOf S d = some xs) : ∃ a vs, v = .ref a ∧ (SqL c.K H a vs ∨ SqT c.K H a vs) ∧ RpAll c μ H vs xs := by
  cases r with
  | tup h ra => cases e; exact ⟨_, _, rfl, .inr (SqT.of h), ra⟩
  | lst h _ _ _ ra => cases e; exact ⟨_, _, rfl, .inl (SqL.of h), ra⟩
  | kls h _ _ ra => cases e; exact ⟨_, _, rfl, .inl (.inl h), ra⟩
  | klsK o its n h1 h2 h3 h4 h5 h6 ra => cases e; exact ⟨_, _, rfl, .inl (.inr ⟨o, its, n, h1, h2, h3, h4, h5, h6⟩), ra⟩
  | @cell n a hm =>
    obtain ⟨vs, h1, h2⟩ := w.ok n _ _ hm (lstAt_inv e)
    exact ⟨_, vs, rfl, .inl (SqL.of h1), h2⟩
  | _ => cases e
/-! what a new object is worth -/
theorem PostV.tup {Qd : QD} {Q : VK} (q : PostV c μ H Qd Q) (w : Wd c μ S H) {vs : List V} {ds : List D} (r : RpAll c μ H vs ds) (h : Qd (.tup ds) S) {p : Addr} (hp : H p = none) : Q (.ref p) (upd H p (.tup vs)) :=
  q _ S _ _ μ h (Fw.new hp) (w.new hp) (.tup upd_same (r.fw w (Fw.new hp)))
theorem Wd.newL (w : Wd c μ S H) {vs : List V} {ds : List D} (r : RpAll c μ H vs ds) {p : Addr} (hp : H p = none) {k : Bool} (hk : k = true → p ≠ sysModules) : Rp c μ (upd H p (.lst vs)) (.ref p) (.lst k ds) :=
  .lst upd_same (w.fresh hp) (fun z => w.avs p z hp) hk (r.fw w (Fw.new hp))
theorem PostV.lst {Qd : QD} {Q : VK} (q : PostV c μ H Qd Q) (w : Wd c μ S H) {vs : List V} {ds : List D} (r : RpAll c μ H vs ds) (h : Qd (.lst false ds) S) {p : Addr} (hp : H p = none) : Q (.ref p) (upd H p (.lst vs)) :=
  q _ S _ _ μ h (Fw.new hp) (w.new hp) (w.newL r hp fun z => nomatch z)
theorem PostV.lstN {Qd : QD} {Q : VK} (q : PostV c μ H Qd Q) (w : Wd c μ S H) {vs : List V} {ds : List D} (r : RpAll c μ H vs ds) (h : Qd (.lst true ds) S) {p : Addr} (hp : H p = none) (hs : p ≠ sysModules) : Q (.ref p) (upd H p (.lst vs)) :=
  q _ S _ _ μ h (Fw.new hp) (w.new hp) (w.newL r hp fun _ => hs)
theorem PostV.same {Qd : QD} {Q : VK} (q : PostV c μ H Qd Q) (w : Wd c μ S H) (r : Rp c μ H v d) (h : Qd d S) : Q v H := q _ S _ _ μ h Fw.refl w r
/-- a cell is written, a value given back -/
theorem PostV.cell {Qd : QD} {Q : VK} (q : PostV c μ H Qd Q) (w : Wd c μ S H) {n : Nat} {a : Addr} {vs : List V} {ds : List D} (hm : μ.m[n]? = some a) (r : RpAll c μ H vs ds) (rv : Rp c μ H v d) (h : Qd d (S.set n (.lst ds))) : Q v (upd H a (.lst vs)) := by
  have f : Fw μ H μ (upd H a (.lst vs)) := Fw.write (List.mem_of_getElem? hm)
  exact q _ _ _ _ μ h f (w.set hm ⟨vs, upd_same, r.fw w f⟩) (rv.fw w f)
end
/-! ints -/
def intsOf : List D → Option (List Int)
  | [] => some []
  | .int i :: r => (intsOf r).map (i :: ·)
  | _ :: _ => none
theorem intsOf_inv : ∀ {ds : List D} {ns : List Int}, intsOf ds = some ns → ds = ns.map D.int
  | [], ns, h => by cases h; rfl
  | .int i :: r, ns, h => by
    obtain ⟨ms, e, rfl⟩ := Option.map_eq_some_iff.mp (show (intsOf r).map (i :: ·) = some ns from h)
    rw [intsOf_inv e]
    rfl
  | .non :: _, _, h => by cases h
  | .bl _ :: _, _, h => by cases h
  | .str _ :: _, _, h => by cases h
  | .tup _ :: _, _, h => by cases h
  | .lst _ _ :: _, _, h => by cases h
  | .dic _ :: _, _, h => by cases h
  | .kls _ :: _, _, h => by cases h
  | .cell _ :: _, _, h => by cases h
  | .glo _ :: _, _, h => by cases h
  | .ty _ :: _, _, h => by cases h
  | .ins _ _ :: _, _, h => by cases h
  | .exc _ _ :: _, _, h => by cases h
section
variable {c : Ct} {μ : Mu} {H : Hp}
theorem RpAll.ints : ∀ {vs : List V} {ns : List Int}, RpAll c μ H vs (ns.map D.int) → vs = ns.map V.int
  | _, [], h => by cases h; rfl
  | _, n :: ns, h => by
    cases h with
    | cons h1 h2 =>
      cases h1
      rw [RpAll.ints h2]
      rfl
theorem RpAll.ofInts : ∀ (ns : List Int), RpAll c μ H (ns.map V.int) (ns.map D.int)
  | [] => .nil
  | n :: ns => .cons (.int n) (RpAll.ofInts ns)
end
/-! ## displays -/
def dTup (f : FA) : FE := fun ρ S Q Ed => f ρ S (fun ds S1 => ds.length ≤ sizeLine ∧ Q (.tup ds) S1) Ed
def dLst (f : FA) : FE := fun ρ S Q Ed => f ρ S (fun ds S1 => ds.length ≤ sizeLine ∧ Q (.lst true ds) S1) Ed
/-- a list that will be changed -/
def dLstC (f : FA) : FE := fun ρ S Q Ed => f ρ S (fun ds S1 => ds.length ≤ sizeLine ∧ Q (.cell S1.length) (S1 ++ [.lst ds])) Ed
section
variable {X : Cx} {E : L2.St → XK} {pos : Pos} {es : List Expr} {fa : FA}
theorem d_tup {x1} (h : PAd X E es fa) : PEd X E (.Tuple es x1 pos) (dTup fa) := by
  refine PE.imp (pe_tup h) fun σ H Q ⟨μ, S, ρ, Qd, Ed, w, en, hf, q, px⟩ => ?_
  refine tR_of w en hf px fun ds S1 vs H1 μ1 h1 f1 w1 en1 px1 r1 => ⟨by rw [r1.length]; exact h1.1, fun p hp => ?_⟩
  exact PostV.tup (fun d S' v H' μ' h f w' r => q d S' v H' μ' h (f1.trans f) w' r) w1 r1 h1.2 hp
theorem d_lst (h : PAd X E es fa) : PEd X E (.List es pos) (dLst fa) := by
  refine PE.imp (Rb.pe_lstN h) fun σ H Q ⟨μ, S, ρ, Qd, Ed, w, en, hf, q, px⟩ => ?_
  refine tR_of w en hf px fun ds S1 vs H1 μ1 h1 f1 w1 en1 px1 r1 => ⟨by rw [r1.length]; exact h1.1, fun p hp hs => ?_⟩
  exact PostV.lstN (fun d S' v H' μ' h f w' r => q d S' v H' μ' h (f1.trans f) w' r) w1 r1 h1.2 hp hs
theorem Wd.lay {c : Ct} {μ : Mu} {S : Sto} {H : Hp} (w : Wd c μ S H) {vs : List V} {ds : List D} (r : RpAll c μ H vs ds) {p : Addr} (hp : H p = none) :
    Fw μ H ⟨μ.m ++ [p], μ.av⟩ (upd H p (.lst vs)) ∧ Wd c ⟨μ.m ++ [p], μ.av⟩ (S ++ [.lst ds]) (upd H p (.lst vs)) ∧ Rp c ⟨μ.m ++ [p], μ.av⟩ (upd H p (.lst vs)) (.ref p) (.cell S.length) := by
  have f : Fw μ H ⟨μ.m ++ [p], μ.av⟩ (upd H p (.lst vs)) := Fw.newC hp
  refine ⟨f, w.newC hp ⟨vs, upd_same, r.fw w f⟩, .cell ?_⟩
  show (μ.m ++ [p])[S.length]? = some p
  rw [← w.len, List.getElem?_append_right (Nat.le_refl _), Nat.sub_self]
  rfl
theorem d_lstC (h : PAd X E es fa) : PEd X E (.List es pos) (dLstC fa) := by
  refine PE.imp (pe_lst h) fun σ H Q ⟨μ, S, ρ, Qd, Ed, w, en, hf, q, px⟩ => ?_
  refine tR_of w en hf px fun ds S1 vs H1 μ1 h1 f1 w1 en1 px1 r1 => ⟨by rw [r1.length]; exact h1.1, fun p hp => ?_⟩
  obtain ⟨f2, w2, r2⟩ := w1.lay r1 hp
  exact q _ _ _ _ _ h1.2 (f1.trans f2) w2 r2
end
/-! ## built-ins that make a new list: as a value, as a cell -/
section
variable {X : Cx} {E : L2.St → XK} {e : Expr} {es : List Expr} {fa : FA} {id : String} {x : Str} {pos p2 : Pos}
theorem d_callB {g : List D → Sto → QD → Prop} (hc : CallR X (.builtin id) (rDs (ct X) g)) (hg : Gl X x) (hm : X.mg x = none) (hv : bootBuiltins x = some (.builtin id)) (ha : PAd X E (e :: es) fa) (hn : x ≠ "__name__" := by decide) (hdb : (x == ("__debug__" : Str)) = false := by decide)
    (hs : starEach (e :: es) X.env = (false, eval e X.env) :: starEach es X.env := by rfl) (hf2 : (backTo pos (starEach es X.env)).any (·.1) = false := by rfl) : PEd X E (.Call (.Name x p2) (e :: es) [] pos) (dB g fa) := by
  refine PE.imp (pe_callB hc hg hm hv ha hn hdb hs hf2) fun σ H Q ⟨μ, S, ρ, Qd, Ed, w, en, hf, q, px⟩ => ?_
  refine tR_of w en hf px fun ds S1 vs H1 μ1 h1 f1 w1 en1 px1 r1 => ?_
  exact ⟨μ1, S1, ds, Qd, w1, r1, h1, fun d S' v H' μ' h f w' r => q d S' v H' μ' h (f1.trans f) w' r⟩
theorem d_callT {T : String} {g : List D → Sto → QD → Prop} (hc : CallR X (.type T) (rDs (ct X) g)) (hg : Gl X x) (hm : X.mg x = none) (hv : bootBuiltins x = some (.type T)) (ha : PAd X E (e :: es) fa) (hn : x ≠ "__name__" := by decide) (hdb : (x == ("__debug__" : Str)) = false := by decide)
    (hs : starEach (e :: es) X.env = (false, eval e X.env) :: starEach es X.env := by rfl) (hf2 : (backTo pos (starEach es X.env)).any (·.1) = false := by rfl) : PEd X E (.Call (.Name x p2) (e :: es) [] pos) (dB g fa) := by
  refine PE.imp (pe_callTy hc hg hm hv ha hn hdb hs hf2) fun σ H Q ⟨μ, S, ρ, Qd, Ed, w, en, hf, q, px⟩ => ?_
  refine tR_of w en hf px fun ds S1 vs H1 μ1 h1 f1 w1 en1 px1 r1 => ?_
  exact ⟨μ1, S1, ds, Qd, w1, r1, h1, fun d S' v H' μ' h f w' r => q d S' v H' μ' h (f1.trans f) w' r⟩
end
end Pu
namespace Pu
open PySem PySem.Spec PyProof.Rows L2
/-! ## arithmetic -/
def gInt (f : Int → Int → D) (C : Int → Int → Prop) : G2 := fun x y S Q => match x, y with
  | .int i, .int j => C i j ∧ Q (f i j) S
  | _, _ => False
def gInt0 (f : Int → Int → D) : G2 := fun x y S Q => match x, y with
  | .int i, .int j => Q (f i j) S
  | _, _ => False
theorem gInt_inv {f : Int → Int → D} {C : Int → Int → Prop} {x y : D} {S : Sto} {Q : QD} (h : gInt f C x y S Q) : ∃ i j, x = .int i ∧ y = .int j ∧ C i j ∧ Q (f i j) S := by
  unfold gInt at h
  split at h
  · exact ⟨_, _, rfl, rfl, h⟩
  · exact h.elim
theorem gInt0_inv {f : Int → Int → D} {x y : D} {S : Sto} {Q : QD} (h : gInt0 f x y S Q) : ∃ i j, x = .int i ∧ y = .int j ∧ Q (f i j) S := by
  unfold gInt0 at h
  split at h
  · exact ⟨_, _, rfl, rfl, h⟩
  · exact h.elim
section
variable {c : Ct} {μ : Mu} {H : Hp} {v : V}
theorem Rp.int_inv {i : Int} (h : Rp c μ H v (.int i)) : v = .int i := by cases h; rfl
theorem Rp.str_inv {x : Str} (h : Rp c μ H v (.str x)) : v = .str x := by cases h; rfl
theorem Rp.tup_inv {ds : List D} (h : Rp c μ H v (.tup ds)) : ∃ a vs, v = .ref a ∧ H a = some (.tup vs) ∧ RpAll c μ H vs ds := by
  cases h with
  | tup h r => exact ⟨_, _, rfl, h, r⟩
end
section
variable {X : Cx}
theorem opInt {f : Value → Value → Sem Value} {C : Int → Int → Prop} {g : Int → Int → Int} (h : OpR X f (rI C fun i j => .int (g i j))) : OpR X f (rD2 (ct X) (gInt (fun i j => .int (g i j)) C)) := by
  intro pins s σ H x y v u Q I rx ry ⟨μ, S, dx, dy, Qd, w, r1, r2, hg, q⟩
  obtain ⟨i, j, rfl, rfl, hC, hq⟩ := gInt_inv hg
  exact h pins s σ H x y v u Q I rx ry ⟨i, j, r1.int_inv, r2.int_inv, hC, q.same w (.int _) hq⟩
theorem opInt0 {f : Value → Value → Sem Value} {g : Int → Int → Int} (h : OpR X f (rI0 fun i j => .int (g i j))) : OpR X f (rD2 (ct X) (gInt0 (fun i j => .int (g i j)))) := by
  intro pins s σ H x y v u Q I rx ry ⟨μ, S, dx, dy, Qd, w, r1, r2, hg, q⟩
  obtain ⟨i, j, rfl, rfl, hq⟩ := gInt0_inv hg
  exact h pins s σ H x y v u Q I rx ry ⟨i, j, r1.int_inv, r2.int_inv, q.same w (.int _) hq⟩
theorem opBl0 {f : Value → Value → Sem Value} {g : Int → Int → Bool} (h : OpR X f (rI0 fun i j => .bl (g i j))) : OpR X f (rD2 (ct X) (gInt0 (fun i j => .bl (g i j)))) := by
  intro pins s σ H x y v u Q I rx ry ⟨μ, S, dx, dy, Qd, w, r1, r2, hg, q⟩
  obtain ⟨i, j, rfl, rfl, hq⟩ := gInt0_inv hg
  exact h pins s σ H x y v u Q I rx ry ⟨i, j, r1.int_inv, r2.int_inv, q.same w (.bl _) hq⟩
end
abbrev gSub : G2 := gInt0 fun i j => .int (i - j)
abbrev gFdiv : G2 := gInt (fun i j => .int (i / j)) CDivW
abbrev gMod : G2 := gInt (fun i j => .int (i % j)) fun _ j => 0 < j
abbrev gPow : G2 := gInt (fun i j => .int (i ^ j.toNat)) CPow
abbrev gLt : G2 := gInt0 fun i j => .bl (decide (i < j))
abbrev gLe : G2 := gInt0 fun i j => .bl (decide (i ≤ j))
abbrev gGt : G2 := gInt0 fun i j => .bl (decide (j < i))
abbrev gGe : G2 := gInt0 fun i j => .bl (decide (j ≤ i))
section
variable {X : Cx}
theorem o_sub : OpR X (binaryOp .Sub) (rD2 (ct X) gSub) := opInt0 op_sub
theorem o_fdiv : OpR X (binaryOp .FloorDiv) (rD2 (ct X) gFdiv) := opInt op_fdivW
theorem o_mod : OpR X (binaryOp .Mod) (rD2 (ct X) gMod) := opInt op_mod
theorem o_pow : OpR X (binaryOp .Pow) (rD2 (ct X) gPow) := opInt op_pow
theorem o_lt : OpR X (compareOp .Lt) (rD2 (ct X) gLt) := opBl0 op_lt
theorem o_le : OpR X (compareOp .LtE) (rD2 (ct X) gLe) := opBl0 op_le
theorem o_gt : OpR X (compareOp .Gt) (rD2 (ct X) gGt) := opBl0 op_gt
theorem o_ge : OpR X (compareOp .GtE) (rD2 (ct X) gGe) := opBl0 op_ge
end
def gNeg : D → Sto → QD → Prop := fun x S Q => match x with
  | .int i => Q (.int (-i)) S
  | _ => False
def gAdd : G2 := fun x y S Q => match x, y with
  | .int i, .int j => Q (.int (i + j)) S
  | .tup xs, .tup ys => xs.length + ys.length ≤ sizeLine ∧ Q (.tup (xs ++ ys)) S
  | .str a, .str b => a.length + b.length ≤ sizeLine ∧ Q (.str (a ++ b)) S
  | x, y => onSome (lstOf S x) fun xs => onSome (lstOf S y) fun ys => xs.length + ys.length ≤ sizeLine ∧ Q (.lst false (xs ++ ys)) S
def gMul : G2 := fun x y S Q => match x, y with
  | .int i, .int j => (CMul i j ∨ CMulW i j) ∧ Q (.int (i * j)) S
  | .tup xs, .int k => (xs ≠ [] ∧ 1 ≤ k ∧ k ≤ 1000 ∧ xs.length ≤ 1000) ∧ Q (.tup (List.replicate k.toNat xs).flatten) S
  | x, .int k => onSome (lstOf S x) fun xs => (-(2 ^ 63) ≤ k ∧ k < 2 ^ 63 ∧ xs.length * k.toNat ≤ sizeLine) ∧ Q (.lst false (List.replicate k.toNat xs).flatten) S
  | _, _ => False
section
variable {X : Cx}
theorem u_neg : UnR X (unaryOp .USub) (rD1 (ct X) gNeg) := by
  intro pins s σ H x v Q I rx ⟨μ, S, dx, Qd, w, r1, hg, q⟩
  unfold gNeg at hg
  split at hg
  · exact un_neg pins s σ H x v Q I rx ⟨_, r1.int_inv, q.same w (.int _) hg⟩
  · exact hg.elim
theorem o_add : OpR X (binaryOp .Add) (rD2 (ct X) gAdd) := by
  intro pins s σ H x y v u Q I rx ry ⟨μ, S, dx, dy, Qd, w, r1, r2, hg, q⟩
  unfold gAdd at hg
  split at hg
  · exact op_add pins s σ H x y v u Q I rx ry ⟨_, _, r1.int_inv, r2.int_inv, q.same w (.int _) hg⟩
  · rename_i xs ys
    obtain ⟨a, vs, rfl, ha, ra⟩ := r1.tup_inv
    obtain ⟨b, ws, rfl, hb, rb⟩ := r2.tup_inv
    refine op_catA pins s σ H _ _ v u Q I rx ry ⟨a, b, vs, ws, rfl, rfl, SqT.of ha, SqT.of hb, by rw [ra.length, rb.length]; exact hg.1, fun e => ?_, fun _ e => ?_, fun _ _ p hp => ?_⟩
    · subst e
      cases ra
      exact q.same w (.tup hb rb) hg.2
    · subst e
      cases rb
      have h2 := hg.2
      rw [List.append_nil] at h2
      exact q.same w (.tup ha ra) h2
    · exact q.tup w (ra.append rb) hg.2 hp
  · exact op_add_str pins s σ H x y v u Q I rx ry ⟨_, _, r1.str_inv, r2.str_inv, hg.1, q.same w (.str _) hg.2⟩
  · obtain ⟨xs, e1, hg⟩ := onSome_of hg
    obtain ⟨ys, e2, hg⟩ := onSome_of hg
    obtain ⟨a, vs, rfl, ha, ra⟩ := r1.lstT w e1
    obtain ⟨b, ws, rfl, hb, rb⟩ := r2.lstT w e2
    exact op_cat pins s σ H _ _ v u Q I rx ry ⟨a, b, vs, ws, rfl, rfl, ha, hb, by rw [ra.length, rb.length]; exact hg.1, fun p hp => q.lst w (ra.append rb) hg.2 hp⟩
open Rb in
theorem op_rep1 : OpR X (binaryOp .Mult) (fun x y H Q => ∃ (l : Addr) (xs : List V), x = .ref l ∧ y = .int 1 ∧ SqT X.K H l xs ∧ Q (.ref l) H) := by
  intro pins s σ H x y v u Q I rx ry h
  obtain ⟨l, xs, rfl, rfl, hT, q⟩ := h
  cases rx
  obtain ⟨t, rfl⟩ := ry
  obtain ⟨its, r, ⟨⟨cls, dd, data, sl⟩, ho, hc, n, hd⟩, hs⟩ := I.tuple hT
  simp only at hc hd
  subst hc hd
  refine wpAny_binaryOp_repeat_ref (T := "tuple") (U := "int") (by decide) ⟨_, ho, rfl⟩ (fun s' => typeIs_int s' 1 t) noFill_tuple_mul F.fills_int_mul F.slot_int_rmul repeat_tuple F.slot_int_index.lookup
    (call_meets F.slot_int_rmul (typeIs_int s 1 t) F.entry_int_rmul (F.args_int_rmul_2 _ _) (int_rmul_tuple 1 t l its.toArray n dd sl)
      ⟨ho, rfl, ⟨_, ho, rfl⟩, call_meets F.slot_tuple_mul ⟨_, ho, rfl⟩ F.entry_tuple_mul (F.args_tuple_mul_2 _ _) (tupMul1 l its.toArray n dd sl t) ⟨ho, ?_⟩⟩)
  exact ⟨.ref l, H, I, rfl, q⟩
theorem o_mul : OpR X (binaryOp .Mult) (rD2 (ct X) gMul) := by
  intro pins s σ H x y v u Q I rx ry ⟨μ, S, dx, dy, Qd, w, r1, r2, hg, q⟩
  unfold gMul at hg
  split at hg
  · rcases hg.1 with hc | hc
    · exact op_mul pins s σ H x y v u Q I rx ry ⟨_, _, r1.int_inv, r2.int_inv, hc, q.same w (.int _) hg.2⟩
    · exact op_mulW pins s σ H x y v u Q I rx ry ⟨_, _, r1.int_inv, r2.int_inv, hc, q.same w (.int _) hg.2⟩
  · rename_i xs k
    obtain ⟨a, vs, rfl, ha, ra⟩ := r1.tup_inv
    obtain ⟨⟨ne, h1, h2, h3⟩, hq⟩ := hg
    have nv : vs ≠ [] := fun e => by
      subst e
      cases ra
      exact ne rfl
    by_cases hk : k = 1
    · subst hk
      refine op_rep1 pins s σ H _ _ v u Q I rx ry ⟨a, vs, rfl, r2.int_inv, SqT.of ha, ?_⟩
      have e : (List.replicate (1 : Int).toNat xs).flatten = xs := by show (List.replicate 1 xs).flatten = xs; simp
      rw [e] at hq
      exact q.same w (.tup ha ra) hq
    · refine op_repT pins s σ H _ _ v u Q I rx ry ⟨a, k, vs, rfl, r2.int_inv, SqT.of ha, nv, by omega, h2, by rw [ra.length]; exact h3, fun p hp => q.tup w (ra.rep _) hq hp⟩
  · rename_i k _ _
    obtain ⟨xs, e1, hg⟩ := onSome_of hg
    obtain ⟨a, vs, rfl, ha, ra⟩ := r1.lstT w e1
    exact op_rep pins s σ H _ _ v u Q I rx ry ⟨a, k, vs, rfl, r2.int_inv, ha, hg.1.1, hg.1.2.1, by rw [ra.length]; exact hg.1.2.2, fun p hp => q.lst w (ra.rep _) hg.2 hp⟩
  · exact hg.elim
end
end Pu
namespace Pu
open PySem PySem.Spec PyProof.Rows L2
/-! ## plain data -/
mutual
def toPy : D → Option PyData
  | .non => some .none
  | .bl b => some (.bool b)
  | .int i => some (.int i)
  | .str x => some (.str x)
  | .tup xs => (toPyAll xs).map .tuple
  | .lst _ xs => (toPyAll xs).map .list
  | .kls _ => none
  | .dic ps => some (Rb.dicD ps)
  | .cell _ => none
  | .glo _ => none
  | .ty _ => none
  | .ins _ _ => none
  | .exc _ _ => none
def toPyAll : List D → Option (List PyData)
  | [] => some []
  | x :: xs => (toPy x).bind fun p => (toPyAll xs).map (p :: ·)
end
mutual
/-- all lists in it are known to stand apart from the table of modules -/
def known : D → Bool
  | .tup xs => knownAll xs
  | .lst k xs => k && knownAll xs
  | .kls _ => false
  | _ => true
def knownAll : List D → Bool
  | [] => true
  | x :: xs => known x && knownAll xs
end
def pyC (S : Sto) : D → Option PyData
  | .cell n => (lstAt S[n]?).bind fun xs => (toPyAll xs).map .list
  | d => toPy d
section
variable {X : Cx} {pins : List (Addr × Obj)} {σ : L2.St} {H : Hp} {s : Shared} {μ : Mu}
mutual
theorem Rp.reads (I : Inv X pins σ H s) : ∀ (d : D) (v : V) (u : Value) (p : PyData), Rp (ct X) μ H v d → RelV v u → toPy d = some p → ∃ as, Reads s.heap u p as ∧ (known d = true → sysModules ∉ as)
  | .non, _, _, _, h, r, e => by
    cases h; cases r; cases e
    exact ⟨_, Reads.none, fun _ z => nomatch z⟩
  | .bl b, _, _, _, h, r, e => by
    cases h; cases r; cases e
    exact ⟨_, Reads.bool b, fun _ z => nomatch z⟩
  | .int i, _, _, _, h, r, e => by
    cases h; cases e
    obtain ⟨t, rfl⟩ := r
    exact ⟨_, Reads.int i t, fun _ z => nomatch z⟩
  | .str x, _, _, _, h, r, e => by
    cases h; cases e
    obtain ⟨t, rfl⟩ := r
    exact ⟨_, Reads.str x t, fun _ z => nomatch z⟩
  | .tup ds, _, _, _, h, r, e => by
    cases h with
    | tup hs ha =>
      cases r
      obtain ⟨ps, e1, rfl⟩ := Option.map_eq_some_iff.mp (show (toPyAll ds).map PyData.tuple = some _ from e)
      obtain ⟨its, rv, ⟨o, ho, hc, n, hd⟩, _⟩ := I.tuple (SqT.of hs)
      obtain ⟨as, hr, no⟩ := RpAll.reads I ds _ its ps ha rv e1
      exact ⟨_, Reads.tuple ho hc hd hr, fun hk => no hk⟩
  | .lst k ds, _, _, _, h, r, e => by
    cases h with
    | lst hs _ _ ne ha =>
      cases r
      obtain ⟨ps, e1, rfl⟩ := Option.map_eq_some_iff.mp (show (toPyAll ds).map PyData.list = some _ from e)
      obtain ⟨its, rv, ⟨o, n, ho, hc, _, hd⟩, _⟩ := I.list (SqL.of hs)
      obtain ⟨as, hr, no⟩ := RpAll.reads I ds _ its ps ha rv e1
      refine ⟨_, Reads.list ho hc hd hr, fun hk z => ?_⟩
      obtain ⟨h1, h2⟩ := Bool.and_eq_true_iff.mp (show (k && knownAll ds) = true from hk)
      rcases List.mem_cons.mp z with z | z
      · exact ne h1 z.symm
      · exact no h2 z
  | .kls _, _, _, _, _, _, e => by cases e
  | .dic qs, _, _, _, h, r, e => by
    cases h with
    | dic hd _ _ =>
      cases e
      obtain ⟨as, h1, h2⟩ := Rb.Ap.reads (S := [sysModules]) List.mem_cons_self I (Rb.dicD qs) _ _ (.dic hd) r
      exact ⟨as, h1, fun _ => h2⟩
  | .cell _, _, _, _, _, _, e => by cases e
  | .glo _, _, _, _, _, _, e => by cases e
  | .ty _, _, _, _, _, _, e => by cases e
  | .ins _ _, _, _, _, _, _, e => by cases e
  | .exc _ _, _, _, _, _, _, e => by cases e
theorem RpAll.reads (I : Inv X pins σ H s) : ∀ (ds : List D) (vs : List V) (us : List Value) (ps : List PyData), RpAll (ct X) μ H vs ds → Vals vs us → toPyAll ds = some ps → ∃ as, ReadsAll s.heap us ps as ∧ (knownAll ds = true → sysModules ∉ as)
  | [], _, _, _, h, r, e => by
    cases h; cases r; cases e
    exact ⟨_, ReadsAll.nil, fun _ z => nomatch z⟩
  | d :: ds, _, _, _, h, r, e => by
    cases h with
    | cons h1 h2 =>
      cases r with
      | cons r1 r2 =>
        obtain ⟨p, e1, e2⟩ := Option.bind_eq_some_iff.mp (show (toPy d).bind (fun p => (toPyAll ds).map (p :: ·)) = some _ from e)
        obtain ⟨ps, e3, rfl⟩ := Option.map_eq_some_iff.mp e2
        obtain ⟨as, q1, n1⟩ := Rp.reads I d _ _ p h1 r1 e1
        obtain ⟨bs, q2, n2⟩ := RpAll.reads I ds _ _ ps h2 r2 e3
        refine ⟨_, ReadsAll.cons q1 q2, fun hk z => ?_⟩
        obtain ⟨k1, k2⟩ := Bool.and_eq_true_iff.mp (show (known d && knownAll ds) = true from hk)
        rcases List.mem_append.mp z with z | z
        · exact n1 k1 z
        · exact n2 k2 z
end
theorem Wd.reads {S : Sto} (w : Wd (ct X) μ S H) (I : Inv X pins σ H s) {d : D} {v : V} {u : Value} {p : PyData} (h : Rp (ct X) μ H v d) (r : RelV v u) (e : pyC S d = some p) : ∃ as, Reads s.heap u p as := by
  by_cases hc : ∃ n, d = .cell n
  · obtain ⟨n, rfl⟩ := hc
    obtain ⟨xs, e1, e2⟩ := Option.bind_eq_some_iff.mp (show (lstAt S[n]?).bind (fun xs => (toPyAll xs).map .list) = some p from e)
    obtain ⟨ps, e3, rfl⟩ := Option.map_eq_some_iff.mp e2
    obtain ⟨a, vs, rfl, ha, ra⟩ := h.lstT w (show lstOf S (.cell n) = some xs from e1)
    cases r
    obtain ⟨its, rv, ⟨o, k, ho, hc, _, hd⟩, _⟩ := I.list (SqL.of ha)
    obtain ⟨as, hr, no⟩ := RpAll.reads I xs _ its ps ra rv e3
    exact ⟨_, Reads.list ho hc hd hr⟩
  · have e' : toPy d = some p := by
      cases d with
      | cell n => exact absurd ⟨n, rfl⟩ hc
      | _ => exact e
    obtain ⟨as, h1, _⟩ := Rp.reads I d v u p h r e'
    exact ⟨as, h1⟩
end
/-! ## repr -/
def gRepr : List D → Sto → QD → Prop := fun ds S Q => match ds with
  | [d] => onSome (toPy d) fun p => (Rb.Nice 20 100000 p ∧ (p.hasDict = false ∨ known d = true)) ∧ Q (.str p.shown) S
  | _ => False
theorem Rp.glo_py {c : Ct} {μ : Mu} {H : Hp} {v : V} {d : D} {p : PyData} (h : Rp c μ H v d) (e : toPy d = some p) : (∃ a, v = .ref a) ∨ (v = .non ∧ p = .none) ∨ (∃ b, v = .bl b ∧ p = .bool b) ∨ (∃ i, v = .int i ∧ p = .int i) ∨ ∃ x, v = .str x ∧ p = .str x := by
  cases h with
  | non => cases e; exact .inr (.inl ⟨rfl, rfl⟩)
  | bl b => cases e; exact .inr (.inr (.inl ⟨b, rfl, rfl⟩))
  | int i => cases e; exact .inr (.inr (.inr (.inl ⟨i, rfl, rfl⟩)))
  | str x => cases e; exact .inr (.inr (.inr (.inr ⟨x, rfl, rfl⟩)))
  | glo _ _ => cases e
  | ty _ => cases e
  | _ => exact .inl ⟨_, rfl⟩
theorem c_repr {X : Cx} (hg : X.A.guards = some []) (hu : X.A.units + 64 < cLine) : CallR X (.builtin "repr") (rDs (ct X) gRepr) := by
  intro pins s σ H vs us Q I r ⟨μ, S, ds, Qd, w, ra, hr, q⟩
  unfold gRepr at hr
  split at hr
  · rename_i d
    obtain ⟨p, e, ⟨hn, hk⟩, hq⟩ := onSome_of hr
    cases ra with
    | cons rd r0 =>
      cases r0
      obtain ⟨u, rfl, ru⟩ := vals1 r
      have fin := q.same w (.str p.shown) hq
      obtain ⟨as, rr, no⟩ := Rp.reads I d _ u p rd ru e
      have hsz := hn.fits
      have hdep := hn.dep
      have hs := hn.sh
      rcases rd.glo_py e with ⟨a, rfl⟩ | ⟨rfl, rfl⟩ | ⟨b, rfl, rfl⟩ | ⟨i, rfl, rfl⟩ | ⟨x, rfl, rfl⟩
      · cases ru
        refine repr_of_reads' rr hs (fun z => ?_) hg (by omega) (fun _ _ e => e) (fun h' t tk hk => ?_) hsz
        · rcases hk with hk | hk
          · rw [hk] at z; cases z
          · exact no hk
        · exact ⟨.str _, H, I.kept hk, ⟨_, rfl⟩, fin⟩
      · cases ru
        simp only [PyData.shown] at fin
        exact PySem.P.repr_of_none ⟨.str _, H, I.tok _, ⟨_, rfl⟩, fin⟩
      · cases ru
        simp only [PyData.shown] at fin
        exact PySem.P.repr_of_bool ⟨.str _, H, I.tok _, ⟨_, rfl⟩, fin⟩
      · obtain ⟨t, rfl⟩ := ru
        simp only [PyData.showable, decide_eq_true_eq] at hs
        simp only [PyData.shown] at fin
        exact PySem.P.repr_of_int hs ⟨.str _, H, I.tok _, ⟨_, rfl⟩, fin⟩
      · obtain ⟨t, rfl⟩ := ru
        simp only [PyData.shown] at fin hsz
        exact PySem.P.repr_of_str ⟨.str _, H, I.tok _, ⟨_, rfl⟩, fin⟩ hsz
  · exact hr.elim
/-! ## == and != -/
def nb : Bool → Bool → Bool
  | true, b => !b
  | false, b => b
def gEqB (neg : Bool) : G2 := fun x y S Q => match x, y with
  | .int i, .int j => Q (.bl (nb neg (decide (i = j)))) S
  | .str a, .str b => Q (.bl (nb neg (decide (a = b)))) S
  | x, y => onSome (pyC S x) fun p => onSome (pyC S y) fun q => (SeqAt.shaped p = true ∧ SeqAt.shaped q = true) ∧ Q (.bl (nb neg (PyData.eqv p q))) S
abbrev gEq : G2 := gEqB false
abbrev gNe : G2 := gEqB true
section
variable {X : Cx}
theorem dec_i {i j : Int} : decide (V.int i = V.int j) = decide (i = j) := by
  by_cases h : i = j
  · subst h; simp
  · rw [decide_eq_false h, decide_eq_false (fun z => h (V.int.inj z))]
theorem dec_s {i j : Str} : decide (V.str i = V.str j) = decide (i = j) := by
  by_cases h : i = j
  · subst h; simp
  · rw [decide_eq_false h, decide_eq_false (fun z => h (V.str.inj z))]
theorem o_eq (hu : X.A.units + 64 < cLine) : OpR X (compareOp .Eq) (rD2 (ct X) gEq) := by
  intro pins s σ H x y v u Q I rx ry ⟨μ, S, dx, dy, Qd, w, r1, r2, hg, q⟩
  unfold gEq gEqB at hg
  split at hg
  · cases r1.int_inv
    cases r2.int_inv
    refine op_eq pins s σ H _ _ v u Q I rx ry ⟨rfl, ?_⟩
    rw [dec_i]
    exact q.same w (.bl _) hg
  · cases r1.str_inv
    cases r2.str_inv
    refine op_eq pins s σ H _ _ v u Q I rx ry ⟨rfl, ?_⟩
    rw [dec_s]
    exact q.same w (.bl _) hg
  · obtain ⟨p, e1, hg⟩ := onSome_of hg
    obtain ⟨p', e2, ⟨s1, s2⟩, hg⟩ := onSome_of hg
    obtain ⟨as, h1⟩ := w.reads I r1 rx e1
    obtain ⟨bs, h2⟩ := w.reads I r2 ry e2
    exact SeqAt.compareEq_shaped h1 h2 s1 s2 hu ⟨.bl _, H, I, rfl, q.same w (.bl _) hg⟩
theorem o_ne (hu : X.A.units + 64 < cLine) : OpR X (compareOp .NotEq) (rD2 (ct X) gNe) := by
  intro pins s σ H x y v u Q I rx ry ⟨μ, S, dx, dy, Qd, w, r1, r2, hg, q⟩
  unfold gNe gEqB at hg
  split at hg
  · cases r1.int_inv
    cases r2.int_inv
    refine op_ne pins s σ H _ _ v u Q I rx ry ⟨rfl, ?_⟩
    rw [dec_i]
    exact q.same w (.bl _) hg
  · cases r1.str_inv
    cases r2.str_inv
    refine op_ne pins s σ H _ _ v u Q I rx ry ⟨rfl, ?_⟩
    rw [dec_s]
    exact q.same w (.bl _) hg
  · obtain ⟨p, e1, hg⟩ := onSome_of hg
    obtain ⟨p', e2, ⟨s1, s2⟩, hg⟩ := onSome_of hg
    obtain ⟨as, h1⟩ := w.reads I r1 rx e1
    obtain ⟨bs, h2⟩ := w.reads I r2 ry e2
    exact SeqAt.compareNe_shaped h1 h2 s1 s2 hu ⟨.bl _, H, I, rfl, q.same w (.bl _) hg⟩
end
/-! ## is None -/
def isNon : D → Bool
  | .non => true
  | _ => false
theorem Rp.non_iff {c : Ct} {μ : Mu} {H : Hp} {v : V} {d : D} (h : Rp c μ H v d) (hg : ∀ x, d ≠ .glo x) : decide (v = .non) = isNon d := by
  cases h with
  | non => rfl
  | glo _ _ => exact absurd rfl (hg _)
  | _ => rfl
def noGlo : D → Bool
  | .glo _ => false
  | _ => true
def gIs (neg : Bool) : G2 := fun x y S Q => match y with
  | .non => noGlo x = true ∧ Q (.bl (nb neg (isNon x))) S
  | _ => False
section
variable {X : Cx}
theorem o_is : OpR X (compareOp .Is) (rD2 (ct X) (gIs false)) := by
  intro pins s σ H x y v u Q I rx ry ⟨μ, S, dx, dy, Qd, w, r1, r2, hg, q⟩
  unfold gIs at hg
  split at hg
  · cases r2
    refine op_isN pins s σ H _ _ v u Q I rx ry ⟨rfl, ?_⟩
    rw [r1.non_iff (fun z e => by rw [e] at hg; cases hg.1)]
    exact q.same w (.bl _) hg.2
  · exact hg.elim
theorem o_isnot : OpR X (compareOp .IsNot) (rD2 (ct X) (gIs true)) := by
  intro pins s σ H x y v u Q I rx ry ⟨μ, S, dx, dy, Qd, w, r1, r2, hg, q⟩
  unfold gIs at hg
  split at hg
  · cases r2
    refine op_notN pins s σ H _ _ v u Q I rx ry ⟨rfl, ?_⟩
    rw [r1.non_iff (fun z e => by rw [e] at hg; cases hg.1)]
    exact q.same w (.bl _) hg.2
  · exact hg.elim
end
/-! ## isinstance of a built-in type -/
inductive Ty6 where
  | int | bool | tup | lst | str | dic
def Ty6.name : Ty6 → String
  | .int => "int"
  | .bool => "bool"
  | .tup => "tuple"
  | .lst => "list"
  | .str => "str"
  | .dic => "dict"
def isL : Ty6 → Bool
  | .lst => true
  | _ => false
def isA (t : Ty6) (S : Sto) : D → Option Bool
  | .non => some false
  | .bl _ => some (match t with | .int => true | .bool => true | _ => false)
  | .int _ => some (match t with | .int => true | _ => false)
  | .str _ => some (match t with | .str => true | _ => false)
  | .tup _ => some (match t with | .tup => true | _ => false)
  | .lst _ _ => some (match t with | .lst => true | _ => false)
  | .kls _ => none
  | .dic _ => some (match t with | .dic => true | _ => false)
  | .cell n => (lstAt S[n]?).map fun _ => isL t
  | .glo _ => none
  | .ty _ => none
  | .ins _ _ => none
  | .exc _ _ => none
def gIsi (t : Ty6) : D → Sto → QD → Prop := fun d S Q => onSome (isA t S d) fun b => Q (.bl b) S
def tyOf : D → String
  | .non => "NoneType"
  | .bl _ => "bool"
  | .int _ => "int"
  | .str _ => "str"
  | .tup _ => "tuple"
  | .dic _ => "dict"
  | _ => "list"
theorem isA_ty {c : Ct} {μ : Mu} {S : Sto} {H : Hp} {v : V} {d : D} {t : Ty6} {b : Bool} (w : Wd c μ S H) (h : Rp c μ H v d) (e : isA t S d = some b) : TyX c.K H v (.type (tyOf d)) ∧ PySem.W.kitOne c.K (.type (tyOf d)) (.type t.name) = some b := by
  cases h with
  | non => cases e; exact ⟨.base .non, by cases t <;> exact kit_ty (by dsimp only [tyOf]; decide +kernel)⟩
  | bl k => cases e; exact ⟨.base (.bl k), by cases t <;> exact kit_ty (by dsimp only [tyOf]; decide +kernel)⟩
  | int k => cases e; exact ⟨.base (.int k), by cases t <;> exact kit_ty (by dsimp only [tyOf]; decide +kernel)⟩
  | str k => cases e; exact ⟨.base (.str k), by cases t <;> exact kit_ty (by dsimp only [tyOf]; decide +kernel)⟩
  | tup hs _ => cases e; exact ⟨.base (.tup hs), by cases t <;> exact kit_ty (by dsimp only [tyOf]; decide +kernel)⟩
  | lst hs _ _ _ _ => cases e; exact ⟨.base (.lst hs), by cases t <;> exact kit_ty (by dsimp only [tyOf]; decide +kernel)⟩
  | dic hd _ _ => cases e; exact ⟨.base (.dK hd), by cases t <;> exact kit_ty (by dsimp only [tyOf]; decide +kernel)⟩
  | @cell n a hm =>
    obtain ⟨xs, e1, e2⟩ := Option.map_eq_some_iff.mp (show (lstAt S[n]?).map (fun _ => isL t) = some b from e)
    subst e2
    obtain ⟨vs, h1, _⟩ := w.ok n _ _ hm (lstAt_inv e1)
    exact ⟨.base (.lst h1), by cases t <;> exact kit_ty (by dsimp only [tyOf]; decide +kernel)⟩
  | _ => cases e
section
variable {X : Cx} {E : L2.St → XK} {a b : Expr} {fa : FE} {pos p2 : Pos}
theorem d_isi {t : Ty6} (hg : Gl X "isinstance") (hm : X.mg "isinstance" = none) (ha : PEd X E a fa) (hb : PE X b (tC (.ty t.name)))
    (hs1 : starEach [a, b] X.env = (false, eval a X.env) :: starEach [b] X.env := by rfl) (hs2 : starEach [b] X.env = (false, eval b X.env) :: starEach [] X.env := by rfl) (hf2 : (backTo pos (starEach [b] X.env)).any (·.1) = false := by rfl) :
    PEd X E (.Call (.Name "isinstance" p2) [a, b] [] pos) (dUn (gIsi t) fa) := by
  refine PE.imp (pe_callB call_isi hg hm (show bootBuiltins "isinstance" = some (.builtin "isinstance") by decide +kernel) (pa_cons ha (pa_cons hb pa_nil hs2) hs1) (by decide) (by decide) hs1 hf2) fun σ H Q ⟨μ, S, ρ, Qd, Ed, w, en, hf, q, px⟩ => ?_
  refine tR_of w en hf px fun x S1 v H1 μ1 h1 f1 w1 en1 px1 r1 => ?_
  obtain ⟨k, e, hq⟩ := onSome_of h1
  obtain ⟨t1, t2⟩ := isA_ty w1 r1 e
  exact ⟨v, _, _, _, k, rfl, .ty _, t1, t2, q _ S1 _ H1 μ1 hq f1 w1 (.bl k)⟩
end
end Pu
namespace Pu
open PySem PySem.Spec PyProof.Rows L2
section
variable {c : Ct} {μ : Mu} {S : Sto} {H : Hp}
theorem RpAll.one {vs : List V} {d : D} (h : RpAll c μ H vs [d]) : ∃ v, vs = [v] ∧ Rp c μ H v d := by
  cases h with
  | cons h1 h2 => cases h2; exact ⟨_, rfl, h1⟩
theorem RpAll.two {vs : List V} {d e : D} (h : RpAll c μ H vs [d, e]) : ∃ v u, vs = [v, u] ∧ Rp c μ H v d ∧ Rp c μ H u e := by
  cases h with
  | cons h1 h2 =>
    obtain ⟨u, rfl, h3⟩ := h2.one
    exact ⟨_, _, rfl, h1, h3⟩
theorem Rp.seq2 {v : V} {d : D} {xs : List D} (w : Wd c μ S H) (r : Rp c μ H v d) (e : seqOf S d = some xs) : (∃ a vs, d = .tup xs ∧ v = .ref a ∧ H a = some (.tup vs) ∧ RpAll c μ H vs xs) ∨ ∃ a vs, v = .ref a ∧ SqL c.K H a vs ∧ RpAll c μ H vs xs := by
  cases r with
  | tup h ra => cases e; exact .inl ⟨_, _, rfl, rfl, h, ra⟩
  | lst h _ _ _ ra => cases e; exact .inr ⟨_, _, rfl, SqL.of h, ra⟩
  | kls h _ _ ra => cases e; exact .inr ⟨_, _, rfl, .inl h, ra⟩
  | klsK o its n h1 h2 h3 h4 h5 h6 ra => cases e; exact .inr ⟨_, _, rfl, .inr ⟨o, its, n, h1, h2, h3, h4, h5, h6⟩, ra⟩
  | @cell n a hm =>
    obtain ⟨vs, h1, h2⟩ := w.ok n _ _ hm (lstAt_inv e)
    exact .inr ⟨_, vs, rfl, SqL.of h1, h2⟩
  | _ => cases e
end
/-! ## len, abs, int, sum, min, max, tuple, list, str, sorted -/
def gLen : List D → Sto → QD → Prop := fun ds S Q => match ds with
  | [.str x] => x.length ≤ sizeLine ∧ Q (.int x.length) S
  | [.dic ps] => Q (.int ps.length) S
  | [d] => onSome (seqOf S d) fun xs => Q (.int xs.length) S
  | _ => False
def gAbs : List D → Sto → QD → Prop := fun ds S Q => match ds with
  | [.int i] => Q (.int (if i < 0 then -i else i)) S
  | _ => False
def gToInt : List D → Sto → QD → Prop := fun ds S Q => match ds with
  | [.int i] => Q (.int i) S
  | [.bl b] => Q (.int (if b then 1 else 0)) S
  | _ => False
def gStr : List D → Sto → QD → Prop := fun ds S Q => match ds with
  | [.int i] => i.natAbs < 2 ^ 1000 ∧ Q (.str (toString i)) S
  | _ => False
/-- the first greatest, the first least -/
def maxL : List Int → Int
  | [] => 0
  | [x] => x
  | x :: xs => max x (maxL xs)
theorem maxL_spec : ∀ {ns : List Int}, ns ≠ [] → maxL ns ∈ ns ∧ ∀ y ∈ ns, y ≤ maxL ns
  | [], h => absurd rfl h
  | [x], _ => ⟨List.mem_cons_self, fun y hy => by rw [List.mem_singleton.mp hy]; exact Int.le_refl _⟩
  | x :: y :: r, _ => by
    obtain ⟨h1, h2⟩ := maxL_spec (ns := y :: r) (fun z => nomatch z)
    have e : maxL (x :: y :: r) = max x (maxL (y :: r)) := rfl
    rw [e]
    refine ⟨?_, fun z hz => ?_⟩
    · rcases Int.le_total x (maxL (y :: r)) with h | h
      · rw [Int.max_eq_right h]; exact List.mem_cons_of_mem _ h1
      · rw [Int.max_eq_left h]; exact List.mem_cons_self
    · rcases List.mem_cons.mp hz with rfl | hz
      · exact Int.le_max_left _ _
      · exact Int.le_trans (h2 z hz) (Int.le_max_right _ _)
theorem maxL_uniq {ns : List Int} {m : Int} (h : m ∈ ns) (h2 : ∀ y ∈ ns, y ≤ m) : m = maxL ns := by
  obtain ⟨a, b⟩ := maxL_spec (ns := ns) (fun e => by rw [e] at h; cases h)
  have := h2 _ a
  have := b _ h
  omega
def gMax : List D → Sto → QD → Prop := fun ds S Q => match ds with
  | [.int i, .int j] => Q (.int (if j > i then j else i)) S
  | [d] => onSome (seqOf S d) fun xs => onSome (intsOf xs) fun ns => ns ≠ [] ∧ Q (.int (maxL ns)) S
  | _ => False
def gTuple : List D → Sto → QD → Prop := fun ds S Q => match ds with
  | [d] => onSome (seqOf S d) fun xs => Q (.tup xs) S
  | _ => False
section
variable {X : Cx}
theorem c_len : CallR X (.builtin "len") (rDs (ct X) gLen) := by
  intro pins s σ H vs us Q I r ⟨μ, S, ds, Qd, w, ra, hg, q⟩
  unfold gLen at hg
  split at hg
  · obtain ⟨v, rfl, rv⟩ := ra.one
    cases rv.str_inv
    exact call_len pins s σ H _ us Q I r ⟨_, _, rfl, ⟨hg.1, rfl⟩, q.same w (.int _) hg.2⟩
  · obtain ⟨v, rfl, rv⟩ := ra.one
    cases rv with
    | dic hd _ _ =>
      refine call_lenD pins s σ H _ us Q I r ⟨_, _, rfl, hd, ?_⟩
      rw [show (Rb.dicV _).length = _ from List.length_map ..]
      exact q.same w (.int _) hg
  · obtain ⟨v, rfl, rv⟩ := ra.one
    obtain ⟨xs, e, hg⟩ := onSome_of hg
    obtain ⟨a, ws, rfl, hs, rs⟩ := rv.seq w e
    refine call_len_seq pins s σ H _ us Q I r ⟨a, ws, rfl, hs, ?_⟩
    rw [rs.length]
    exact q.same w (.int _) hg
  · exact hg.elim
theorem c_abs : CallR X (.builtin "abs") (rDs (ct X) gAbs) := by
  intro pins s σ H vs us Q I r ⟨μ, S, ds, Qd, w, ra, hg, q⟩
  unfold gAbs at hg
  split at hg
  · obtain ⟨v, rfl, rv⟩ := ra.one
    cases rv.int_inv
    exact call_abs pins s σ H _ us Q I r ⟨_, rfl, q.same w (.int _) hg⟩
  · exact hg.elim
theorem c_int : CallR X (.type "int") (rDs (ct X) gToInt) := by
  intro pins s σ H vs us Q I r ⟨μ, S, ds, Qd, w, ra, hg, q⟩
  unfold gToInt at hg
  split at hg
  · obtain ⟨v, rfl, rv⟩ := ra.one
    cases rv.int_inv
    exact call_int1 pins s σ H _ us Q I r (.inl ⟨_, rfl, q.same w (.int _) hg⟩)
  · obtain ⟨v, rfl, rv⟩ := ra.one
    cases rv.bl_inv
    exact call_int1 pins s σ H _ us Q I r (.inr ⟨_, rfl, q.same w (.int _) hg⟩)
  · exact hg.elim
theorem c_str : CallR X (.type "str") (rDs (ct X) gStr) := by
  intro pins s σ H vs us Q I r ⟨μ, S, ds, Qd, w, ra, hg, q⟩
  unfold gStr at hg
  split at hg
  · rename_i i
    obtain ⟨v, rfl, rv⟩ := ra.one
    cases rv.int_inv
    refine call_str_int pins s σ H _ us Q I r ⟨_, rfl, ?_, q.same w (.str _) hg.2⟩
    by_cases z : i.natAbs = 0
    · rw [z]; decide
    · exact (Nat.log2_lt z).mpr (Nat.lt_of_lt_of_le hg.1 (Nat.pow_le_pow_right (by decide) (by decide)))
  · exact hg.elim
theorem c_max (hc : X.calm = true) (hu : X.A.units + 64 < cLine) : CallR X (.builtin "max") (rDs (ct X) gMax) := by
  intro pins s σ H vs us Q I r ⟨μ, S, ds, Qd, w, ra, hg, q⟩
  unfold gMax at hg
  split at hg
  · obtain ⟨v, u, rfl, rv, ru⟩ := ra.two
    cases rv.int_inv
    cases ru.int_inv
    exact call_max2 hc pins s σ H _ us Q I r ⟨_, _, rfl, q.same w (.int _) hg⟩
  · obtain ⟨v, rfl, rv⟩ := ra.one
    obtain ⟨xs, e, hg⟩ := onSome_of hg
    obtain ⟨ns, e2, ne, hg⟩ := onSome_of hg
    obtain ⟨a, ws, rfl, hs, rs⟩ := rv.seq w e
    rw [intsOf_inv e2] at rs
    rw [rs.ints] at hs
    have fin : ∀ m, m ∈ ns → (∀ y ∈ ns, y ≤ m) → Q (.int m) H := fun m h1 h2 => by
      rw [maxL_uniq h1 h2]
      exact q.same w (.int _) hg
    rcases hs with hs | hs
    · exact cr_max hc pins s σ H _ us Q I r ⟨a, ns, rfl, hs, List.length_pos_iff.mpr ne, fun m h1 h2 => fin m h1 h2⟩
    · exact Rb.cr_maxT hc hu pins s σ H _ us Q I r ⟨a, ns, rfl, hs, ne, fin⟩
  · exact hg.elim
theorem c_tuple : CallR X (.type "tuple") (rDs (ct X) gTuple) := by
  intro pins s σ H vs us Q I r ⟨μ, S, ds, Qd, w, ra, hg, q⟩
  unfold gTuple at hg
  split at hg
  · rename_i d
    obtain ⟨v, rfl, rv⟩ := ra.one
    obtain ⟨xs, e, hg⟩ := onSome_of hg
    rcases rv.seq2 w e with ⟨a, ws, rfl, rfl, ha, rs⟩ | ⟨a, ws, rfl, hs, rs⟩
    · exact call_tuple_of pins s σ H _ us Q I r ⟨a, ws, rfl, .inr ⟨SqT.of ha, q.same w (.tup ha rs) hg⟩⟩
    · exact call_tuple_of pins s σ H _ us Q I r ⟨a, ws, rfl, .inl ⟨hs, fun p hp => q.tup w rs hg hp⟩⟩
  · exact hg.elim
theorem PostV.lay {c : Ct} {μ : Mu} {S : Sto} {H : Hp} {Qd : QD} {Q : VK} (q : PostV c μ H Qd Q) (w : Wd c μ S H) {vs : List V} {ds : List D} (r : RpAll c μ H vs ds) (h : Qd (.cell S.length) (S ++ [.lst ds])) {p : Addr} (hp : H p = none) : Q (.ref p) (upd H p (.lst vs)) := by
  obtain ⟨f2, w2, r2⟩ := w.lay r hp
  exact q _ _ _ _ _ h f2 w2 r2
end
/-! ## sorted: ints, pairs of ints -/
end Pu
namespace Pu
open PySem PySem.Spec PyProof.Rows L2
/-! ## subscripts, slices, in -/
theorem atI_map {α β : Type} {R : α → β → Prop} {xs : List α} {ys : List β} (hl : xs.length = ys.length) (h : ∀ (i : Nat) y, ys[i]? = some y → ∃ x, xs[i]? = some x ∧ R x y) {i : Int} {y : β} (e : atI ys i = some y) : ∃ x, atI xs i = some x ∧ R x y := by
  unfold atI at e ⊢
  rw [hl]
  obtain ⟨j, e1, e2⟩ := Option.bind_eq_some_iff.mp e
  obtain ⟨x, e3, r⟩ := h j y e2
  exact ⟨x, by rw [e1]; exact e3, r⟩
def gIx : G2 := fun x y S Q => match x, y with
  | .str z, .int i => z.length ≤ sizeLine ∧ onSome (atI z.cps.toList i) fun c => Q (.str ⟨#[c]⟩) S
  | x, .int i => onSome (seqOf S x) fun xs => onSome (atI xs i) fun d => Q d S
  | _, _ => False
/-- the items of xs[lo:hi] -/
def cutD (xs : List D) (lo hi : Option Int) : List D := (xs.drop (HT.sIx xs.length 0 lo)).take (HT.sIx xs.length xs.length hi - HT.sIx xs.length 0 lo)
def gSl : D → Option Int → Option Int → Sto → QD → Prop := fun x lo hi S Q => match x with
  | .tup xs => Q (.tup (cutD xs lo hi)) S
  | .str z => z.length ≤ sizeLine ∧ Q (.str (cutS z lo hi)) S
  | x => onSome (seqOf S x) fun xs => Q (.lst false (cutD xs lo hi)) S
def rDsl (c : Ct) (g : D → Option Int → Option Int → Sto → QD → Prop) : V → Option Int → Option Int → Hp → VK → Prop := fun x lo hi H Q => ∃ μ S d Qd, Wd c μ S H ∧ Rp c μ H x d ∧ g d lo hi S Qd ∧ PostV c μ H Qd Q
def dSl (fe : FE) (fl fh : FO) : FE := fun ρ S Q Ed => fe ρ S (fun x S1 => fl ρ S1 (fun l S2 => fh ρ S2 (fun h S3 => gSl x l h S3 Q) Ed) Ed) Ed
def dPart (f : FE) : FO := fun ρ S Q Ed => f ρ S (fun d S1 => match d with | .int i => Q (some i) S1 | _ => False) Ed
def dNoP : FO := fun _ S Q _ => Q none S
section
variable {c : Ct} {μ : Mu} {S : Sto} {H : Hp}
theorem cutV_eq {vs : List V} {ds : List D} (r : RpAll c μ H vs ds) (lo hi : Option Int) : RpAll c μ H (cutV vs lo hi) (cutD ds lo hi) := by
  unfold cutV cutD
  rw [r.length]
  exact (r.drop _).take _
end
section
variable {X : Cx} {E : L2.St → XK} {a b e : Expr} {fa fb fe : FE} {lo hi : Option Expr} {fl fh : FO} {pos p2 : Pos}
theorem ix_D : IxR X (rD2 (ct X) gIx) := by
  intro value slice pins s σ H x y v u Q I rx ry ⟨μ, S, dx, dy, Qd, w, r1, r2, hg, q⟩ hs
  unfold gIx at hg
  split at hg
  · obtain ⟨hz, hg⟩ := hg
    obtain ⟨c, e, hg⟩ := onSome_of hg
    cases r1.str_inv
    cases r2.int_inv
    exact ix_str value slice pins s σ H _ _ v u Q I rx ry ⟨_, _, c, rfl, rfl, hz, e, q.same w (.str _) hg⟩ hs
  · obtain ⟨xs, e1, hg⟩ := onSome_of hg
    obtain ⟨d, e2, hg⟩ := onSome_of hg
    obtain ⟨a, ws, rfl, hq, rs⟩ := r1.seq w e1
    cases r2.int_inv
    obtain ⟨z, e3, rz⟩ := atI_map rs.length (fun i y h => rs.at h) e2
    have fin := q.same w rz hg
    rcases hq with hq | hq
    · exact ix_list value slice pins s σ H _ _ v u Q I rx ry ⟨a, ws, _, z, rfl, rfl, hq, e3, fin⟩ hs
    · exact ix_tup value slice pins s σ H _ _ v u Q I rx ry ⟨a, ws, _, z, rfl, rfl, hq, e3, fin⟩ hs
  · exact hg.elim
theorem d_ix (ha : PEd X E a fa) (hb : PEd X E b fb) (hs : PlainIx b) : PEd X E (.Subscript a b pos) (dBin gIx fa fb) := PE.imp (pe_ix ix_D ha hb hs) fun _ _ _ h => tBin h
theorem sl_D : SlR X (rDsl (ct X) gSl) := by
  intro pins s σ H x v vl vu lo hi sl Q I rx hs pl pu ⟨μ, S, d, Qd, w, r1, hg, q⟩
  unfold gSl at hg
  split at hg
  · obtain ⟨a, ws, rfl, ha, rs⟩ := r1.tup_inv
    refine sl_tupA pins s σ H _ v vl vu lo hi sl Q I rx hs pl pu ⟨a, ws, rfl, SqT.of ha, fun hw => ?_, fun hw p hp => q.tup w (cutV_eq rs lo hi) hg hp⟩
    refine q.same w (.tup ha ?_) hg
    have : cutV ws lo hi = ws := by
      unfold cutV
      rw [hw.1, hw.2, List.drop_zero, Nat.sub_zero, List.take_length]
    rw [← this]
    exact cutV_eq rs lo hi
  · cases r1.str_inv
    exact sl_str pins s σ H _ v vl vu lo hi sl Q I rx hs pl pu ⟨_, rfl, hg.1, q.same w (.str _) hg.2⟩
  · rename_i hnt0 hnt1
    obtain ⟨xs, e1, hg⟩ := onSome_of hg
    rcases r1.seq2 w e1 with ⟨a, ws, rfl, rfl, ha, rs⟩ | ⟨a, ws, rfl, hq, rs⟩
    · exact absurd rfl (hnt0 _)
    · exact sl_list pins s σ H _ v vl vu lo hi sl Q I rx hs pl pu ⟨a, ws, rfl, hq, fun p hp => q.lst w (cutV_eq rs lo hi) hg hp⟩
theorem d_slice (he : PEd X E e fe) (hl : POd X E lo fl) (hh : POd X E hi fh) : PEd X E (.Subscript e (.Slice lo hi none p2) pos) (dSl fe fl fh) := by
  refine PE.imp (pe_slice sl_D he hl hh) fun σ H Q ⟨μ, S, ρ, Qd, Ed, w, en, hf, q, px⟩ => ?_
  refine tR_of w en hf px fun x S1 v H1 μ1 h1 f1 w1 en1 px1 r1 => ?_
  refine tR_of w1 en1 h1 px1 fun l S2 l' H2 μ2 h2 f2 w2 en2 px2 r2 => ?_
  cases (r2 : l' = l)
  refine tR_of w2 en2 h2 px2 fun h S3 h' H3 μ3 h3 f3 w3 en3 px3 r3 => ?_
  cases (r3 : h' = h)
  exact ⟨μ3, S3, x, Qd, w3, (r1.fw w1 f2).fw w2 f3, h3, fun d S' v' H' μ' h f w' r => q d S' v' H' μ' h (f1.trans (f2.trans (f3.trans f))) w' r⟩
theorem d_noP : POd X E none dNoP := PO.imp po_none fun σ H Q ⟨μ, S, ρ, Qd, Ed, w, en, hf, q, px⟩ => q none S none H μ hf Fw.refl w rfl
theorem d_part (he : PEd X E e fe) : POd X E (some e) (dPart fe) := by
  refine PO.imp (po_some he) fun σ H Q ⟨μ, S, ρ, Qd, Ed, w, en, hf, q, px⟩ => ?_
  refine tR_of w en hf px fun x S1 v H1 μ1 h1 f1 w1 en1 px1 r1 => ?_
  split at h1
  · exact ⟨_, r1.int_inv, q _ S1 _ H1 μ1 h1 f1 w1 rfl⟩
  · exact h1.elim
end
/-! ## methods of lists -/
abbrev GM := D → List D → Sto → QD → Prop
def dML (g : GM) (fo : FE) (fa : FA) : FE := fun ρ S Q Ed => fo ρ S (fun x S1 => onSome (cellOf S1 x) fun _ => fa ρ S1 (fun ds S2 => g x ds S2 Q) Ed) Ed
def gAppend : GM := fun x ds S Q => match ds with
  | [d] => onSome (cellOf S x) fun nx => nx.2.length < sizeLine ∧ Q .non (S.set nx.1 (.lst (nx.2 ++ [d])))
  | _ => False
section
variable {X : Cx} {E : L2.St → XK} {o e : Expr} {es : List Expr} {fo : FE} {fa : FA} {name : Str} {id : String} {apos cpos : Pos}
theorem d_ml {g : GM} (slot : Slot "list" name id) (hty : typeOf (.builtin id) = pure (.type "method_descriptor")) (hm : MtR X id (rDm (ct X) g)) (ho : PEd X E o fo) (ha : PAd X E (e :: es) fa)
    (hbase : attributeBase o name X.env (eval o X.env) = eval o X.env := by rfl)
    (hfew : ((backTo cpos (starEach (e :: es) X.env)).all (fun x => !x.1) && (backToKw cpos (keywordEach [] X.env)).all (fun x => x.1.isSome)
      && decide ((e :: es).length + ([] : List Keyword).length + (if ([] : List Keyword).isEmpty then 0 else 1) < 30)) = true := by rfl)
    (hline : (apos.endLine == cpos.line) = true := by rfl) (hs : starEach (e :: es) X.env = (false, eval e X.env) :: starEach es X.env := by rfl) (hplain : (backTo cpos (starEach es X.env)).any (·.1) = false := by rfl) :
    PEd X E (.Call (.Attribute o name apos) (e :: es) [] cpos) (dML g fo fa) := by
  refine PE.imp (pe_bm PySem.F.plainAttrs_list slot hty hm ho ha hbase hfew hline hs hplain) fun σ H Q ⟨μ, S, ρ, Qd, Ed, w, en, hf, q, px⟩ => ?_
  refine tR_of w en hf px fun x S1 v H1 μ1 h1 f1 w1 en1 px1 r1 => ?_
  obtain ⟨nx, e1, h1⟩ := onSome_of h1
  obtain ⟨a, vs, rfl, hm', ha', ra⟩ := w1.cellL r1 e1
  refine ⟨.inl ⟨rfl, vs, SqL.of ha'⟩, ?_⟩
  refine tR_of w1 en1 h1 px1 fun ds S2 us H2 μ2 h2 f2 w2 en2 px2 r2 => ?_
  exact ⟨μ2, S2, x, ds, Qd, w2, r1.fw w1 f2, r2, h2, fun d S' v' H' μ' h f w' r => q d S' v' H' μ' h (f1.trans (f2.trans f)) w' r⟩
theorem m_append : MtR X "list.append" (rDm (ct X) gAppend) := by
  intro pins s σ H x xs v us Q I rx rs ⟨μ, S, d, ds, Qd, w, r1, ra, hg, q⟩
  unfold gAppend at hg
  split at hg
  · obtain ⟨y, rfl, ry⟩ := ra.one
    obtain ⟨⟨n, zs⟩, e, hz, hg⟩ := onSome_of hg
    obtain ⟨a, vs, rfl, hm, ha, rz⟩ := w.cellL r1 e
    exact mt_append pins s σ H _ _ v us Q I rx rs ⟨a, vs, y, rfl, rfl, ha, by rw [rz.length]; exact hz, q.cell w hm (rz.append (.cons ry .nil)) .non hg⟩
  · exact hg.elim
end
end Pu
namespace Pu
open PySem PySem.Spec PyProof.Rows L2
/-! ## statements -/
structure EndsOk (c : Ct) (μ : Mu) (H : Hp) (De : DEnds) (D : Ends) : Prop where
  nx : ∀ ρ' S' σ' H' μ', De.nx ρ' S' → Fw μ H μ' H' → Wd c μ' S' H' → EnvR c μ' H' σ' ρ' → D.nx σ' H'
  rt : PostV c μ H De.rt D.rt
  bk : ∀ ρ' S' σ' H' μ', De.bk ρ' S' → Fw μ H μ' H' → Wd c μ' S' H' → EnvR c μ' H' σ' ρ' → D.bk σ' H'
  ct : ∀ ρ' S' σ' H' μ', De.ct ρ' S' → Fw μ H μ' H' → Wd c μ' S' H' → EnvR c μ' H' σ' ρ' → D.ct σ' H'
theorem PostV.fw {c : Ct} {μ μ' : Mu} {H H' : Hp} {Qd : QD} {Q : VK} (q : PostV c μ H Qd Q) (f : Fw μ H μ' H') : PostV c μ' H' Qd Q := fun d S' v H2 μ2 h g w r => q d S' v H2 μ2 h (f.trans g) w r
theorem EndsOk.fw {c : Ct} {μ μ' : Mu} {H H' : Hp} {De : DEnds} {D : Ends} (k : EndsOk c μ H De D) (f : Fw μ H μ' H') : EndsOk c μ' H' De D :=
  ⟨fun ρ S σ H2 μ2 h g w e => k.nx ρ S σ H2 μ2 h (f.trans g) w e, k.rt.fw f, fun ρ S σ H2 μ2 h g w e => k.bk ρ S σ H2 μ2 h (f.trans g) w e, fun ρ S σ H2 μ2 h g w e => k.ct ρ S σ H2 μ2 h (f.trans g) w e⟩
def tS (c : Ct) (E : XK) (f : FS) : TS := fun D σ H => ∃ μ S ρ De Ed, Wd c μ S H ∧ EnvR c μ H σ ρ ∧ f ρ S De Ed ∧ EndsOk c μ H De D ∧ PX c μ H Ed E
abbrev PSd (X : Cx) (E : XK) (st : Stmt) (f : FS) : Prop := PS X st (tS (ct X) E f)
abbrev PBd (X : Cx) (E : XK) (sts : List Stmt) (f : FS) : Prop := PSs X sts (tS (ct X) E f)
def dSkip : FS := fun ρ S De _ => De.nx ρ S
def dSeq (f g : FS) : FS := fun ρ S De Ed => f ρ S { De with nx := fun ρ' S' => g ρ' S' De Ed } Ed
def dDrop (f : FE) : FS := fun ρ S De Ed => f ρ S (fun _ S1 => De.nx ρ S1) Ed
def dRet (f : FE) : FS := fun ρ S De Ed => f ρ S De.rt Ed
def dIfS (t : FT) (f g : FS) : FS := fun ρ S De Ed => t ρ S (fun b S1 => if b = true then f ρ S1 De Ed else g ρ S1 De Ed) Ed
def dAsg (f : FE) (g : FG) : FS := fun ρ S De Ed => f ρ S (fun d S1 => g d ρ S1 De.nx Ed) Ed
section
variable {X : Cx} {E : XK} {st : Stmt} {rest : List Stmt} {f g : FS} {e : Expr} {fe : FE} {pos : Pos}
theorem d_end : PBd X E [] dSkip := PSs.imp pss_nil fun D σ H ⟨μ, S, ρ, De, Ed, w, en, hf, k, px⟩ => k.nx ρ S σ H μ hf Fw.refl w en
theorem d_seq (h1 : PSd X E st f) (h2 : PBd X E rest g) : PBd X E (st :: rest) (dSeq f g) := by
  refine PSs.imp (pss_cons h1 h2) fun D σ H ⟨μ, S, ρ, De, Ed, w, en, hf, k, px⟩ => ?_
  exact ⟨μ, S, ρ, _, Ed, w, en, hf, ⟨fun ρ' S' σ' H' μ' h fw w' en' => ⟨μ', S', ρ', De, Ed, w', en', h, k.fw fw, px.fw fw⟩, k.rt, k.bk, k.ct⟩, px⟩
theorem d_last (h1 : PSd X E st f) : PBd X E [st] f := pss_one h1
theorem d_expr (he : PEd X (cE E) e fe) (hs : swapsWith e none pos.line X.env = pure false := by rfl) : PSd X E (.Expr e pos) (dDrop fe) := by
  refine PS.imp (ps_expr he hs) fun D σ H ⟨μ, S, ρ, De, Ed, w, en, hf, k, px⟩ => ?_
  exact tR_of w en hf px fun x S1 v H1 μ1 h1 f1 w1 en1 px1 r1 => k.nx ρ S1 σ H1 μ1 h1 f1 w1 en1
theorem d_ret (he : PEd X (cE E) e fe) : PSd X E (.Return (some e) pos) (dRet fe) := by
  refine PS.imp (ps_ret he) fun D σ H ⟨μ, S, ρ, De, Ed, w, en, hf, k, px⟩ => ?_
  exact tR_of w en hf px fun x S1 v H1 μ1 h1 f1 w1 en1 px1 r1 => k.rt x S1 v H1 μ1 h1 f1 w1 r1
theorem d_if {c : Expr} {a b : List Stmt} {t : FT} (hc : PTd X (cE E) c t) (ha : PBd X E a f) (hb : PBd X E b g) : PSd X E (.If c a b pos) (dIfS t f g) := by
  refine PS.imp (ps_if hc ha hb) fun D σ H ⟨μ, S, ρ, De, Ed, w, en, hf, k, px⟩ => ?_
  refine tR_of w en hf px fun x S1 v H1 μ1 h1 f1 w1 en1 px1 r1 => ?_
  cases (r1 : v = x)
  split
  · rename_i hv
    rw [if_pos hv] at h1
    exact ⟨μ1, S1, ρ, De, Ed, w1, en1, h1, k.fw f1, px1⟩
  · rename_i hv
    rw [if_neg hv] at h1
    exact ⟨μ1, S1, ρ, De, Ed, w1, en1, h1, k.fw f1, px1⟩
end
/-! ## targets -/
def tG (c : Ct) (E : XK) (g : FG) : TG := fun v σ H Q => ∃ μ S ρ d Qd Ed, Wd c μ S H ∧ EnvR c μ H σ ρ ∧ Rp c μ H v d ∧ g d ρ S Qd Ed ∧ (∀ ρ' S' σ' H' μ', Qd ρ' S' → Fw μ H μ' H' → Wd c μ' S' H' → EnvR c μ' H' σ' ρ' → Q σ' H') ∧ PX c μ H Ed E
def tGs (c : Ct) (E : XK) (g : FGs) : TGs := fun vs σ H Q => ∃ μ S ρ ds Qd Ed, Wd c μ S H ∧ EnvR c μ H σ ρ ∧ RpAll c μ H vs ds ∧ g ds ρ S Qd Ed ∧ (∀ ρ' S' σ' H' μ', Qd ρ' S' → Fw μ H μ' H' → Wd c μ' S' H' → EnvR c μ' H' σ' ρ' → Q σ' H') ∧ PX c μ H Ed E
abbrev PGd (X : Cx) (E : XK) (tg : Expr) (g : FG) : Prop := PG X tg (tG (ct X) E g)
abbrev PGsd (X : Cx) (E : XK) (tgs : List Expr) (g : FGs) : Prop := PGs X tgs (tGs (ct X) E g)
/-- the slot i is filled, the list of slots written out -/
def setK : Rho → Nat → D → (Rho → Prop) → Prop
  | [], _, _, k => k []
  | _ :: r, 0, d, k => k (some d :: r)
  | x :: r, n + 1, d, k => setK r n d fun r' => k (x :: r')
theorem setK_eq : ∀ {ρ : Rho} {i : Nat} {d : D} {k : Rho → Prop}, setK ρ i d k → k (ρ.set i (some d))
  | [], _, _, _, h => h
  | _ :: r, 0, d, k, h => h
  | x :: r, n + 1, d, k, h => setK_eq (ρ := r) (i := n) (d := d) (k := fun r' => k (x :: r')) h
def gN (i : Nat) : FG := fun d ρ S Q _ => setK ρ i d fun ρ' => Q ρ' S
def gsNil : FGs := fun ds ρ S Q _ => match ds with
  | [] => Q ρ S
  | _ => False
def gsCons (g : FG) (gs : FGs) : FGs := fun ds ρ S Q Ed => match ds with
  | d :: r => g d ρ S (fun ρ1 S1 => gs r ρ1 S1 Q Ed) Ed
  | [] => False
def gTp (n : Nat) (gs : FGs) : FG := fun d ρ S Q Ed => match d with
  | .tup ds => ds.length = n ∧ gs ds ρ S Q Ed
  | _ => False
def gUn (n : Nat) (gs : FGs) : FG := fun d ρ S Q Ed => onSome (lstOf S d) fun ds => ds.length = n ∧ gs ds ρ S Q Ed
/-- o[i] = .. -/
def gSetI (fo fi : FE) : FG := fun d ρ S Q Ed => fo ρ S (fun x S1 => fi ρ S1 (fun y S2 => match y with
  | .int k => onSome (cellOf S2 x) fun nx => onSome (ixN nx.2.length k) fun j => Q ρ (S2.set nx.1 (.lst (nx.2.set j d)))
  | _ => False) Ed) Ed
section
variable {X : Cx} {E : XK} {pos : Pos} {tg e o ie : Expr} {es : List Expr} {g : FG} {gs : FGs} {fe fo fi : FE}
theorem PGs.imp {t t' : TGs} (h : PGs X es t) (k : ∀ v σ H Q, t' v σ H Q → t v σ H Q) : PGs X es t' := ⟨fun pins s σ H v u Q I r q => h.run pins s σ H v u Q I r (k v σ H Q q)⟩
theorem d_gn {i : Nat} (h : PG X tg (gName i)) : PGd X E tg (gN i) :=
  PG.imp h fun v σ H Q ⟨μ, S, ρ, d, Qd, Ed, w, en, r, hg, q, px⟩ => q _ S _ H μ (setK_eq (k := fun ρ' => Qd ρ' S) hg) Fw.refl w (en.set r)
theorem d_gnil : PGsd X E [] gsNil := by
  refine PGs.imp pgs_nil fun vs σ H Q ⟨μ, S, ρ, ds, Qd, Ed, w, en, r, hg, q, px⟩ => ?_
  unfold gsNil at hg
  split at hg
  · cases r
    exact ⟨rfl, q ρ S σ H μ hg Fw.refl w en⟩
  · exact hg.elim
theorem d_gcons (h1 : PGd X E e g) (h2 : PGsd X E es gs) (hs : (assignEach (e :: es) X.env).map (·.2) = assign e X.env :: (assignEach es X.env).map (·.2) := by rfl) : PGsd X E (e :: es) (gsCons g gs) := by
  refine PGs.imp (pgs_cons h1 h2 hs) fun vs σ H Q ⟨μ, S, ρ, ds, Qd, Ed, w, en, r, hg, q, px⟩ => ?_
  unfold gsCons at hg
  split at hg
  · cases r with
    | cons r1 r2 =>
      refine ⟨_, _, rfl, μ, S, ρ, _, _, Ed, w, en, r1, hg, fun ρ1 S1 σ1 H1 μ1 h1 f1 w1 en1 => ?_, px⟩
      exact ⟨μ1, S1, ρ1, _, Qd, Ed, w1, en1, r2.fw w f1, h1, fun ρ2 S2 σ2 H2 μ2 h2 f2 w2 en2 => q ρ2 S2 σ2 H2 μ2 h2 (f1.trans f2) w2 en2, px.fw f1⟩
  · exact hg.elim
theorem d_gtup {k n : Nat} (hc : X.calm = true) (h : PGsd X E es gs) (hn : (assignEach es X.env).length = n := by rfl) (hst : (assignEach es X.env).findIdx? (·.1) = none := by rfl) : PGd X E (.Tuple es k pos) (gTp n gs) := by
  refine PG.imp (pg_tup hc h hn hst) fun v σ H Q ⟨μ, S, ρ, d, Qd, Ed, w, en, r, hg, q, px⟩ => ?_
  unfold gTp at hg
  split at hg
  · obtain ⟨a, ws, rfl, ha, rs⟩ := r.tup_inv
    exact ⟨a, ws, rfl, SqT.of ha, by rw [rs.length]; exact hg.1, μ, S, ρ, _, Qd, Ed, w, en, rs, hg.2, q, px⟩
  · exact hg.elim
theorem d_gunl {k n : Nat} (hc : X.calm = true) (h : PGsd X E es gs) (hn : (assignEach es X.env).length = n := by rfl) (hst : (assignEach es X.env).findIdx? (·.1) = none := by rfl) : PGd X E (.Tuple es k pos) (gUn n gs) := by
  refine PG.imp (pg_unl hc h hn hst) fun v σ H Q ⟨μ, S, ρ, d, Qd, Ed, w, en, r, hg, q, px⟩ => ?_
  obtain ⟨ds, e, hl, hg⟩ := onSome_of hg
  obtain ⟨a, ws, rfl, ha, rs⟩ := r.lstT w e
  exact ⟨a, ws, rfl, SqL.of ha, by rw [rs.length]; exact hl, μ, S, ρ, _, Qd, Ed, w, en, rs, hg, q, px⟩
theorem d_gsub (ho : PEd X (cE E) o fo) (hi : PEd X (cE E) ie fi)
    (ha : ∀ v, assign (.Subscript o ie pos) X.env v = (do
      let ov ← holding [v] (eval o X.env)
      let iv ← holding [v, ov] (eval ie X.env)
      standAt pos
      holding [v, ov, iv] (setItem ov iv v)
      release [v, ov, iv] []) := by intro _; rfl) : PGd X E (.Subscript o ie pos) (gSetI fo fi) := by
  refine PG.imp (pg_sub ho hi set_list ha) fun v σ H Q ⟨μ, S, ρ, d, Qd, Ed, w, en, r, hg, q, px⟩ => ?_
  refine tR_of w en hg px fun x S1 vx H1 μ1 h1 f1 w1 en1 px1 r1 => ?_
  refine tR_of w1 en1 h1 px1 fun y S2 vy H2 μ2 h2 f2 w2 en2 px2 r2 => ?_
  split at h2
  · obtain ⟨⟨n, zs⟩, e, h2⟩ := onSome_of h2
    obtain ⟨j, e2, h2⟩ := onSome_of h2
    obtain ⟨a, vs, rfl, hm, hl, rz⟩ := w2.cellL (r1.fw w1 f2) e
    have fw : Fw μ2 H2 μ2 (upd H2 a (.lst (vs.set j v))) := Fw.write (List.mem_of_getElem? hm)
    have rd := ((r.fw w f1).fw w1 f2)
    refine ⟨a, vs, _, j, rfl, r2.int_inv, hl, by rw [rz.length]; exact e2, ?_⟩
    exact q ρ _ σ _ μ2 h2 (f1.trans (f2.trans fw)) (w2.set hm ⟨_, upd_same, (rz.set rd j).fw w2 fw⟩) (en2.fw w2 fw)
  · exact h2.elim
theorem d_asg (he : PEd X (cE E) e fe) (hg : PGd X E tg g) (hs : swapsWithSole [tg] e pos.line X.env = pure false := by rfl) (hw : swappedStores [tg] e X.env = pure none := by rfl)
    (h1 : (assignEach [tg] X.env).map (·.2) = [assign tg X.env] := by rfl) : PSd X E (.Assign [tg] e pos) (dAsg fe g) := by
  refine PS.imp (ps_asg he hg hs hw h1) fun D σ H ⟨μ, S, ρ, De, Ed, w, en, hf, k, px⟩ => ?_
  refine tR_of w en hf px fun x S1 v H1 μ1 h1 f1 w1 en1 px1 r1 => ?_
  exact ⟨μ1, S1, ρ, x, _, Ed, w1, en1, r1, h1, fun ρ2 S2 σ2 H2 μ2 h2 f2 w2 en2 => k.nx ρ2 S2 σ2 H2 μ2 h2 (f1.trans f2) w2 en2, px1⟩
theorem d_set {i : Nat} {x : Str} {pos' : Pos} (hN : X.N.Nodup) (hi : X.N[i]? = some x) (hx : Loc X.env.scope x) (he : PEd X (cE E) e fe) (hs : swapsWith e (some (.Name x pos')) pos.line X.env = pure false := by rfl)
    (hf : X.fn x = true ∨ X.env.scope.names.lookup x = some .local := by first | exact .inl rfl | exact .inr rfl | assumption) : PSd X E (.Assign [.Name x pos'] e pos) (dAsg fe (gN i)) := by
  refine PS.imp (ps_set hN hi hx he hs hf) fun D σ H ⟨μ, S, ρ, De, Ed, w, en, hf, k, px⟩ => ?_
  refine tR_of w en hf px fun x S1 v H1 μ1 h1 f1 w1 en1 px1 r1 => ?_
  exact k.nx _ S1 _ H1 μ1 (setK_eq (k := fun ρ' => De.nx ρ' S1) h1) f1 w1 (en1.set r1)
end
/-- a, b = x, y -/
def dPar (i j : Nat) (fa : FA) : FS := fun ρ S De Ed => fa ρ S (fun ds S1 => match ds with
  | [d, e] => setK ρ i d fun ρ1 => setK ρ1 j e fun ρ2 => De.nx ρ2 S1
  | _ => False) Ed
def dPar3 (i j l : Nat) (fa : FA) : FS := fun ρ S De Ed => fa ρ S (fun ds S1 => match ds with
  | [d, e, f] => setK ρ i d fun ρ1 => setK ρ1 j e fun ρ2 => setK ρ2 l f fun ρ3 => De.nx ρ3 S1
  | _ => False) Ed
section
variable {X : Cx} {E : XK} {pos : Pos} {a b c : Expr} {fa : FA}
theorem d_par {i j : Nat} {x y : Str} {px py pt : Pos} {kt k2 pt2} (hc : X.calm = true) (hN : X.N.Nodup) (hi : X.N[i]? = some x) (hj : X.N[j]? = some y) (hij : i ≠ j)
    (hx : X.env.scope.names.lookup x = some .local) (hy : X.env.scope.names.lookup y = some .local) (ha : PAd X (cE E) [a, b] fa)
    (hw : swappedStores [.Tuple [.Name x px, .Name y py] kt pt] (.Tuple [a, b] k2 pt2) X.env = pure (some [x, y]))
    (hs : swapsWithSole [.Tuple [.Name x px, .Name y py] kt pt] (.Tuple [a, b] k2 pt2) pos.line X.env = pure false := by rfl) :
    PSd X E (.Assign [.Tuple [.Name x px, .Name y py] kt pt] (.Tuple [a, b] k2 pt2) pos) (dPar i j fa) := by
  refine PS.imp (ps_par hc hN hi hj hij hx hy ha hw hs) fun D σ H ⟨μ, S, ρ, De, Ed, w, en, hf, k, px⟩ => ?_
  refine tR_of w en hf px fun ds S1 vs H1 μ1 h1 f1 w1 en1 px1 r1 => ?_
  split at h1
  · obtain ⟨u, v, rfl, ru, rv⟩ := r1.two
    exact ⟨u, v, rfl, k.nx _ S1 _ H1 μ1 (setK_eq (k := fun ρ2 => De.nx ρ2 S1) (setK_eq (k := fun ρ1 => setK ρ1 _ _ fun ρ2 => De.nx ρ2 S1) h1)) f1 w1 ((en1.set ru).set rv)⟩
  · exact h1.elim
theorem d_par3 {i j l : Nat} {x y z : Str} {px py pz pt : Pos} {kt k2 pt2} (hc : X.calm = true) (hN : X.N.Nodup) (hi : X.N[i]? = some x) (hj : X.N[j]? = some y) (hl : X.N[l]? = some z) (hij : i ≠ j) (hil : i ≠ l) (hjl : j ≠ l)
    (hx : X.env.scope.names.lookup x = some .local) (hy : X.env.scope.names.lookup y = some .local) (hz : X.env.scope.names.lookup z = some .local) (ha : PAd X (cE E) [a, b, c] fa)
    (hw : swappedStores [.Tuple [.Name x px, .Name y py, .Name z pz] kt pt] (.Tuple [a, b, c] k2 pt2) X.env = pure (some [x, y, z]))
    (hs : swapsWithSole [.Tuple [.Name x px, .Name y py, .Name z pz] kt pt] (.Tuple [a, b, c] k2 pt2) pos.line X.env = pure false := by rfl) :
    PSd X E (.Assign [.Tuple [.Name x px, .Name y py, .Name z pz] kt pt] (.Tuple [a, b, c] k2 pt2) pos) (dPar3 i j l fa) := by
  refine PS.imp (ps_par3 hc hN hi hj hl hij hil hjl hx hy hz ha hw hs) fun D σ H ⟨μ, S, ρ, De, Ed, w, en, hf, k, px⟩ => ?_
  refine tR_of w en hf px fun ds S1 vs H1 μ1 h1 f1 w1 en1 px1 r1 => ?_
  split at h1
  · cases r1 with
    | cons r0 r1 =>
      obtain ⟨u, v, rfl, ru, rv⟩ := r1.two
      exact ⟨_, u, v, rfl, k.nx _ S1 _ H1 μ1 (setK_eq (k := fun ρ3 => De.nx ρ3 S1) (setK_eq (k := fun ρ2 => setK ρ2 _ _ fun ρ3 => De.nx ρ3 S1) (setK_eq (k := fun ρ1 => setK ρ1 _ _ fun ρ2 => setK ρ2 _ _ fun ρ3 => De.nx ρ3 S1) h1))) f1 w1 (((en1.set r0).set ru).set rv)⟩
  · exact h1.elim
end
end Pu
namespace Pu
open PySem PySem.Spec PyProof.Rows L2
/-! ## what a loop walks: its items, the cells that must stay as they are -/
abbrev Src := List (Nat × List D)
def srcOk : Src → Sto → Prop → Prop
  | [], _, P => P
  | (n, xs) :: r, S, P => S[n]? = some (.lst xs) ∧ srcOk r S P
theorem srcOk_iff {src : Src} {S : Sto} {P : Prop} : srcOk src S P ↔ (∀ p ∈ src, S[p.1]? = some (.lst p.2)) ∧ P := by
  induction src with
  | nil => exact ⟨fun h => ⟨(fun _ z => nomatch z), h⟩, fun h => h.2⟩
  | cons p r ih =>
    obtain ⟨n, xs⟩ := p
    constructor
    · rintro ⟨h1, h2⟩
      obtain ⟨h3, h4⟩ := ih.mp h2
      refine ⟨fun q hq => ?_, h4⟩
      rcases List.mem_cons.mp hq with rfl | hq
      · exact h1
      · exact h3 q hq
    · rintro ⟨h1, h2⟩
      exact ⟨h1 _ List.mem_cons_self, ih.mpr ⟨fun q hq => h1 q (List.mem_cons_of_mem _ hq), h2⟩⟩
def src1 (n : Nat) : Option (List D) → Src
  | some xs => [(n, xs)]
  | none => []
def srcOf (S : Sto) : D → Src
  | .cell n => src1 n (lstAt S[n]?)
  | _ => []
theorem srcOf_seq {S S' : Sto} {d : D} {xs : List D} (e : seqOf S d = some xs) (h : ∀ p ∈ srcOf S d, S'[p.1]? = some (.lst p.2)) : seqOf S' d = some xs := by
  cases d with
  | cell n =>
    have e' : lstAt S[n]? = some xs := e
    have h1 : srcOf S (.cell n) = [(n, xs)] := by show src1 n (lstAt S[n]?) = _; rw [e']; rfl
    rw [h1] at h
    have := h (n, xs) List.mem_cons_self
    show lstAt S'[n]? = some xs
    rw [this]
    rfl
  | _ => exact e
structure ItOk (c : Ct) (J : It) (items : List D) (src : Src) (Anc : Mu → Hp → Prop) : Prop where
  keep : ∀ {μ H μ' H'}, Anc μ H → Kp c μ H μ' H' → Anc μ' H'
  go : ∀ {μ S H}, Anc μ H → Wd c μ S H → (∀ p ∈ src, S[p.1]? = some (.lst p.2)) → ∀ (i : Nat) (d : D), items[i]? = some d → J.go i H ∧ ∀ x H', J.yld i H x H' → Fw μ H μ H' ∧ Wd c μ S H' ∧ Rp c μ H' x d
  stop : ∀ {μ S H}, Anc μ H → Wd c μ S H → (∀ p ∈ src, S[p.1]? = some (.lst p.2)) → J.stop items.length H
abbrev FI := FX (List D × Src)
def tI (c : Ct) (E : L2.St → XK) (fi : FI) : TI := fun σ H R => ∃ μ S ρ Qi Ed, Wd c μ S H ∧ EnvR c μ H σ ρ ∧ fi ρ S Qi Ed ∧
  (∀ is S' H' μ' J Anc, Qi is S' → Fw μ H μ' H' → Wd c μ' S' H' → ItOk c J is.1 is.2 Anc → Anc μ' H' → (∀ p ∈ is.2, S'[p.1]? = some (.lst p.2)) → R J H') ∧ PX c μ H Ed (E σ)
abbrev PId (X : Cx) (E : L2.St → XK) (tg e : Expr) (fi : FI) : Prop := PI X tg e (tI (ct X) E fi)
theorem PI.imp {X : Cx} {tg e : Expr} {t t' : TI} (h : PI X tg e t) (k : ∀ σ H R, t' σ H R → t σ H R) : PI X tg e t' := ⟨fun pins s σ H R I q => h.run pins s σ H R I (k σ H R q)⟩
theorem srcOf_ok {S : Sto} {d : D} {xs : List D} (e : seqOf S d = some xs) : ∀ p ∈ srcOf S d, S[p.1]? = some (.lst p.2) := by
  intro p hp
  cases d with
  | cell n =>
    have e' : lstAt S[n]? = some xs := e
    have h1 : srcOf S (.cell n) = [(n, xs)] := by show src1 n (lstAt S[n]?) = _; rw [e']; rfl
    rw [h1] at hp
    cases List.mem_singleton.mp hp
    exact lstAt_inv e'
  | _ => cases hp
/-! ### a list or a tuple -/
def iSeq (K : PySem.W.Frag) (tl : TE) : TI := fun σ H R => tl σ H fun x H1 => ∃ a, x = .ref a ∧ (((∃ xs, SqL K H1 a xs) ∧ R (Itl K a) H1) ∨ ((∃ xs, SqT K H1 a xs) ∧ R (Itt K a) H1))
section
variable {X : Cx} {E : L2.St → XK} {tg e : Expr} {fe : FE} {fa : FA}
theorem pi_seq {tl : TE} (hl : PE X e tl) : PI X tg e (iSeq X.K tl) := by
  constructor
  intro pins s σ H R I h
  refine thn (hl.run pins s σ H _ I h) fun v s1 hv => ?_
  obtain ⟨x, H1, I1, r1, a, rfl, q⟩ := hv
  cases r1
  have own : ∀ b, b ∈ [s1.heap.objs.size] → FpOk X pins H1 b := fun b hb => by
    rw [List.mem_singleton.mp hb]
    exact I1.fpOk (Nat.le_refl _) (I1.hok.fresh (Nat.le_refl _))
  rcases q with ⟨⟨xs, hq⟩, q⟩ | ⟨⟨xs, hq⟩, q⟩
  · obtain ⟨its, rv, pl, _⟩ := I1.list hq
    exact wpAny_pyIter_list pl.isList
      ⟨_, _, _, _, H1, rfl, I1.kept (t' := s1.toks) (fun b o eb => Heap.get?_push_of_some _ eb), turn_list a _, ⟨_, Heap.get?_push_size _ rfl, rfl, rfl⟩, own, q⟩
  · obtain ⟨its, rv, pl, _⟩ := I1.tuple hq
    exact wpAny_pyIter_tuple (Rb.isTup_isTuple pl)
      ⟨_, _, _, _, H1, rfl, I1.kept (t' := s1.toks) (fun b o eb => Heap.get?_push_of_some _ eb), turn_tuple a _, ⟨_, Heap.get?_push_size _ rfl, rfl, rfl⟩, own, q⟩
def dItS (fe : FE) : FI := fun ρ S Q Ed => fe ρ S (fun d S1 => onSome (seqOf S1 d) fun xs => Q (xs, srcOf S1 d) S1) Ed
theorem itl_ok {c : Ct} {S0 : Sto} {a : Addr} {d : D} {xs : List D} (hn : ∀ ys, d ≠ .tup ys) (e : seqOf S0 d = some xs) : ItOk c (Itl c.K a) xs (srcOf S0 d) (fun μ H => Rp c μ H (.ref a) d) where
  keep := fun r k => r.kp k
  go := fun {μ S H} r w hs i x hx => by
    rcases r.seq2 w (srcOf_seq e hs) with ⟨_, _, rfl, _⟩ | ⟨b, vs, eb, hq, rs⟩
    · exact absurd rfl (hn _)
    cases eb
    obtain ⟨v, ev, rv⟩ := rs.at hx
    refine ⟨⟨vs, v, hq, ev⟩, fun y H' hy => ?_⟩
    obtain ⟨rfl, hy⟩ := hy
    have := hy vs hq
    rw [ev] at this
    cases this
    exact ⟨Fw.refl, w, rv⟩
  stop := fun {μ S H} r w hs => by
    rcases r.seq2 w (srcOf_seq e hs) with ⟨_, _, rfl, _⟩ | ⟨b, vs, eb, hq, rs⟩
    · exact absurd rfl (hn _)
    cases eb
    exact ⟨vs, hq, by rw [rs.length]; exact Nat.le_refl _⟩
theorem itt_ok {c : Ct} {a : Addr} {xs : List D} : ItOk c (Itt c.K a) xs [] (fun μ H => Rp c μ H (.ref a) (.tup xs)) where
  keep := fun r k => r.kp k
  go := fun {μ S H} r w hs i x hx => by
    obtain ⟨b, vs, eb, ha, rs⟩ := r.tup_inv
    cases eb
    obtain ⟨v, ev, rv⟩ := rs.at hx
    refine ⟨⟨vs, v, SqT.of ha, ev⟩, fun y H' hy => ?_⟩
    obtain ⟨rfl, hy⟩ := hy
    have := hy vs (SqT.of ha)
    rw [ev] at this
    cases this
    exact ⟨Fw.refl, w, rv⟩
  stop := fun {μ S H} r w hs => by
    obtain ⟨b, vs, eb, ha, rs⟩ := r.tup_inv
    cases eb
    exact ⟨vs, SqT.of ha, by rw [rs.length]; exact Nat.le_refl _⟩
theorem d_iseq (he : PEd X E e fe) : PId X E tg e (dItS fe) := by
  refine PI.imp (pi_seq he) fun σ H R ⟨μ, S, ρ, Qi, Ed, w, en, hf, q, px⟩ => ?_
  refine tR_of w en hf px fun d S1 v H1 μ1 h1 f1 w1 en1 px1 r1 => ?_
  obtain ⟨xs, e1, hq⟩ := onSome_of h1
  rcases r1.seq2 w1 e1 with ⟨a, vs, rfl, rfl, ha, rs⟩ | ⟨a, vs, rfl, hs, rs⟩
  · exact ⟨a, rfl, .inr ⟨⟨vs, SqT.of ha⟩, q _ S1 H1 μ1 _ _ hq f1 w1 itt_ok r1 (fun _ z => nomatch z)⟩⟩
  · by_cases ht : ∃ ys, d = .tup ys
    · obtain ⟨ys, rfl⟩ := ht
      cases e1
      obtain ⟨b, ws, eb, hb, rs'⟩ := r1.tup_inv
      cases eb
      exact ⟨a, rfl, .inr ⟨⟨ws, SqT.of hb⟩, q _ S1 H1 μ1 _ _ hq f1 w1 itt_ok r1 (fun _ z => nomatch z)⟩⟩
    · exact ⟨a, rfl, .inl ⟨⟨vs, hs⟩, q _ S1 H1 μ1 _ _ hq f1 w1 (itl_ok (fun ys z => ht ⟨ys, z⟩) e1) r1 (srcOf_ok e1)⟩⟩
/-! ### range -/
def rangeD (lo : Int) (n : Nat) : List D := (List.range n).map fun i : Nat => D.int (lo + (i : Int))
theorem rangeD_get {lo : Int} {n i : Nat} {d : D} (h : (rangeD lo n)[i]? = some d) : i < n ∧ d = .int (lo + (i : Int)) := by
  unfold rangeD at h
  rw [List.getElem?_map] at h
  obtain ⟨j, e1, rfl⟩ := Option.map_eq_some_iff.mp h
  obtain ⟨h1, h2⟩ := List.getElem?_eq_some_iff.mp e1
  rw [List.getElem_range] at h2
  rw [List.length_range] at h1
  subst h2
  exact ⟨h1, rfl⟩
theorem itr_ok {c : Ct} {lo : Int} {n : Nat} : ItOk c (Itr lo n) (rangeD lo n) [] (fun _ _ => True) where
  keep := fun _ _ => trivial
  go := fun {μ S H} _ w _ i d hd => by
    obtain ⟨h1, rfl⟩ := rangeD_get hd
    refine ⟨h1, fun x H' hy => ?_⟩
    obtain ⟨rfl, rfl⟩ := hy
    exact ⟨Fw.refl, w, .int _⟩
  stop := fun {μ S H} _ _ _ => by
    show n ≤ (rangeD lo n).length
    unfold rangeD
    rw [List.length_map, List.length_range]
    exact Nat.le_refl _
def dRng1 (fa : FA) : FI := fun ρ S Q Ed => fa ρ S (fun ds S1 => match ds with
  | [.int j] => (-(2 ^ 62) ≤ j ∧ j < 2 ^ 62) ∧ Q (rangeD 0 j.toNat, []) S1
  | _ => False) Ed
theorem d_rng1 {a : Expr} {p pos : Pos} (hg : Gl X "range") (hm : X.mg "range" = none) (ha : PAd X E [a] fa) (hs : starEach [a] X.env = [(false, eval a X.env)] := by rfl) : PId X E tg (.Call (.Name "range" p) [a] [] pos) (dRng1 fa) := by
  refine PI.imp (pi_range1 hg hm ha hs) fun σ H R ⟨μ, S, ρ, Qi, Ed, w, en, hf, q, px⟩ => ?_
  refine tR_of w en hf px fun ds S1 vs H1 μ1 h1 f1 w1 en1 px1 r1 => ?_
  split at h1
  · obtain ⟨v, rfl, rv⟩ := r1.one
    cases rv.int_inv
    exact ⟨_, rfl, h1.1.1, h1.1.2, q _ S1 H1 μ1 _ _ h1.2 f1 w1 itr_ok trivial (fun _ z => nomatch z)⟩
  · exact h1.elim
/-! ### enumerate -/
def enumD (xs : List D) : List D := xs.mapIdx fun i x => D.tup [.int (i : Int), x]
theorem enumD_get {xs : List D} {i : Nat} {d : D} (h : (enumD xs)[i]? = some d) : ∃ x, xs[i]? = some x ∧ d = .tup [.int (i : Int), x] := by
  unfold enumD at h
  rw [List.getElem?_mapIdx] at h
  obtain ⟨x, e1, rfl⟩ := Option.map_eq_some_iff.mp h
  exact ⟨x, e1, rfl⟩
theorem Wd.pair {c : Ct} {μ : Mu} {S : Sto} {H : Hp} (w : Wd c μ S H) {x y : V} {d e : D} (rx : Rp c μ H x d) (ry : Rp c μ H y e) {T : Addr} (hT : H T = none) : Fw μ H μ (upd H T (.tup [x, y])) ∧ Wd c μ S (upd H T (.tup [x, y])) ∧ Rp c μ (upd H T (.tup [x, y])) (.ref T) (.tup [d, e]) :=
  ⟨Fw.new hT, w.new hT, .tup upd_same (.cons (rx.fw w (Fw.new hT)) (.cons (ry.fw w (Fw.new hT)) .nil))⟩
theorem ite_ok {c : Ct} {S0 : Sto} {a : Addr} {d : D} {xs : List D} (hn : ∀ ys, d ≠ .tup ys) (e : seqOf S0 d = some xs) : ItOk c (Ite c.K a) (enumD xs) (srcOf S0 d) (fun μ H => Rp c μ H (.ref a) d) where
  keep := fun r k => r.kp k
  go := fun {μ S H} r w hs i x hx => by
    rcases r.seq2 w (srcOf_seq e hs) with ⟨_, _, rfl, _⟩ | ⟨b, vs, eb, hq, rs⟩
    · exact absurd rfl (hn _)
    cases eb
    obtain ⟨z, ez, rfl⟩ := enumD_get hx
    obtain ⟨v, ev, rv⟩ := rs.at ez
    refine ⟨⟨vs, v, hq, ev⟩, fun y H' hy => ?_⟩
    obtain ⟨T, u, rfl, hT, rfl, hy⟩ := hy
    have := hy vs hq
    rw [ev] at this
    cases this
    exact w.pair (.int _) rv hT
  stop := fun {μ S H} r w hs => by
    rcases r.seq2 w (srcOf_seq e hs) with ⟨_, _, rfl, _⟩ | ⟨b, vs, eb, hq, rs⟩
    · exact absurd rfl (hn _)
    cases eb
    refine ⟨vs, hq, ?_⟩
    unfold enumD
    rw [List.length_mapIdx, rs.length]
    exact Nat.le_refl _
def dEnL (fa : FA) : FI := fun ρ S Q Ed => fa ρ S (fun ds S1 => match ds with
  | [d] => onSome (lstOf S1 d) fun xs => Q (enumD xs, srcOf S1 d) S1
  | _ => False) Ed
theorem lst_seq {S : Sto} {d : D} {xs : List D} (e : lstOf S d = some xs) : seqOf S d = some xs ∧ ∀ ys, d ≠ .tup ys := by
  cases d with
  | lst k ys => exact ⟨e, fun _ z => nomatch z⟩
  | cell n => exact ⟨e, fun _ z => nomatch z⟩
  | _ => cases e
theorem d_enL {elts : List Expr} {kk : Nat} {p pos tp : Pos} (hg : Gl X "enumerate") (hm : X.mg "enumerate" = none) (ha : PAd X E [e] fa) (hs : starEach [e] X.env = [(false, eval e X.env)] := by rfl) : PId X E (.Tuple elts kk tp) (.Call (.Name "enumerate" p) [e] [] pos) (dEnL fa) := by
  refine PI.imp (pi_enum hg hm ha hs) fun σ H R ⟨μ, S, ρ, Qi, Ed, w, en, hf, q, px⟩ => ?_
  refine tR_of w en hf px fun ds S1 vs H1 μ1 h1 f1 w1 en1 px1 r1 => ?_
  split at h1
  · obtain ⟨v, rfl, rv⟩ := r1.one
    obtain ⟨xs, e1, hq⟩ := onSome_of h1
    obtain ⟨a, ws, rfl, hs, rs⟩ := rv.lstT w1 e1
    obtain ⟨e2, hn⟩ := lst_seq e1
    exact ⟨a, ws, rfl, SqL.of hs, q _ S1 H1 μ1 _ _ hq f1 w1 (ite_ok hn e2) rv (srcOf_ok e2)⟩
  · exact h1.elim
/-! ### zip -/
def zipD : List D → List D → List D
  | x :: xs, y :: ys => D.tup [x, y] :: zipD xs ys
  | _, _ => []
theorem zipD_get : ∀ {xs ys : List D} {i : Nat} {d : D}, (zipD xs ys)[i]? = some d → ∃ x y, xs[i]? = some x ∧ ys[i]? = some y ∧ d = .tup [x, y]
  | x :: xs, y :: ys, 0, d, h => by cases h; exact ⟨x, y, rfl, rfl, rfl⟩
  | x :: xs, y :: ys, i + 1, d, h => zipD_get (xs := xs) (ys := ys) (i := i) h
  | [], _, _, _, h => by cases h
  | _ :: _, [], _, _, h => by cases h
theorem zipD_len : ∀ {xs ys : List D}, xs.length ≤ (zipD xs ys).length ∨ ys.length ≤ (zipD xs ys).length
  | x :: xs, y :: ys => by
    rcases zipD_len (xs := xs) (ys := ys) with h | h
    · exact .inl (Nat.succ_le_succ h)
    · exact .inr (Nat.succ_le_succ h)
  | [], _ => .inl (Nat.zero_le _)
  | _ :: _, [] => .inr (Nat.zero_le _)
theorem itzT_ok {c : Ct} {a b : Addr} {xs ys : List D} : ItOk c (RZ.ItzT c.K a b) (zipD xs ys) [] (fun μ H => Rp c μ H (.ref a) (.tup xs) ∧ Rp c μ H (.ref b) (.tup ys)) where
  keep := fun r k => ⟨r.1.kp k, r.2.kp k⟩
  go := fun {μ S H} r w hs i x hx => by
    obtain ⟨a', vs, ea, ha, ra⟩ := r.1.tup_inv
    obtain ⟨b', us, eb, hb, rb⟩ := r.2.tup_inv
    cases ea
    cases eb
    obtain ⟨p, q, ep, eq, rfl⟩ := zipD_get hx
    obtain ⟨v, ev, rv⟩ := ra.at ep
    obtain ⟨u, eu, ru⟩ := rb.at eq
    refine ⟨⟨vs, us, v, u, SqT.of ha, SqT.of hb, ev, eu⟩, fun y H' hy => ?_⟩
    obtain ⟨T, v2, u2, rfl, hT, rfl, h1, h2⟩ := hy
    have := h1 vs (SqT.of ha)
    rw [ev] at this
    cases this
    have := h2 us (SqT.of hb)
    rw [eu] at this
    cases this
    exact w.pair rv ru hT
  stop := fun {μ S H} r w hs => by
    obtain ⟨a', vs, ea, ha, ra⟩ := r.1.tup_inv
    obtain ⟨b', us, eb, hb, rb⟩ := r.2.tup_inv
    cases ea
    cases eb
    exact ⟨vs, us, SqT.of ha, SqT.of hb, by rw [ra.length, rb.length]; exact zipD_len⟩
theorem itz_ok {c : Ct} {S0 : Sto} {a b : Addr} {d e : D} {xs ys : List D} (nd : ∀ zs, d ≠ .tup zs) (ne : ∀ zs, e ≠ .tup zs) (ed : seqOf S0 d = some xs) (ee : seqOf S0 e = some ys) :
    ItOk c (Itz c.K a b) (zipD xs ys) (srcOf S0 d ++ srcOf S0 e) (fun μ H => Rp c μ H (.ref a) d ∧ Rp c μ H (.ref b) e) where
  keep := fun r k => ⟨r.1.kp k, r.2.kp k⟩
  go := fun {μ S H} r w hs i x hx => by
    rcases r.1.seq2 w (srcOf_seq ed fun p hp => hs p (List.mem_append_left _ hp)) with ⟨_, _, rfl, _⟩ | ⟨a', vs, ea, ha, ra⟩
    · exact absurd rfl (nd _)
    rcases r.2.seq2 w (srcOf_seq ee fun p hp => hs p (List.mem_append_right _ hp)) with ⟨_, _, rfl, _⟩ | ⟨b', us, eb, hb, rb⟩
    · exact absurd rfl (ne _)
    cases ea
    cases eb
    obtain ⟨p, q, ep, eq, rfl⟩ := zipD_get hx
    obtain ⟨v, ev, rv⟩ := ra.at ep
    obtain ⟨u, eu, ru⟩ := rb.at eq
    refine ⟨⟨vs, us, v, u, ha, hb, ev, eu⟩, fun y H' hy => ?_⟩
    obtain ⟨T, v2, u2, rfl, hT, rfl, h1, h2⟩ := hy
    have := h1 vs ha
    rw [ev] at this
    cases this
    have := h2 us hb
    rw [eu] at this
    cases this
    exact w.pair rv ru hT
  stop := fun {μ S H} r w hs => by
    rcases r.1.seq2 w (srcOf_seq ed fun p hp => hs p (List.mem_append_left _ hp)) with ⟨_, _, rfl, _⟩ | ⟨a', vs, ea, ha, ra⟩
    · exact absurd rfl (nd _)
    rcases r.2.seq2 w (srcOf_seq ee fun p hp => hs p (List.mem_append_right _ hp)) with ⟨_, _, rfl, _⟩ | ⟨b', us, eb, hb, rb⟩
    · exact absurd rfl (ne _)
    cases ea
    cases eb
    exact ⟨vs, us, ha, hb, by rw [ra.length, rb.length]; exact zipD_len⟩
def dZip (fa : FA) : FI := fun ρ S Q Ed => fa ρ S (fun ds S1 => match ds with
  | [.tup xs, .tup ys] => Q (zipD xs ys, []) S1
  | [d, e] => onSome (lstOf S1 d) fun xs => onSome (lstOf S1 e) fun ys => Q (zipD xs ys, srcOf S1 d ++ srcOf S1 e) S1
  | _ => False) Ed
theorem d_zip {e2 : Expr} {elts : List Expr} {kk : Nat} {p pos tp : Pos} (hg : Gl X "zip") (hm : X.mg "zip" = none) (ha : PAd X E [e, e2] fa)
    (hs : starEach [e, e2] X.env = (false, eval e X.env) :: starEach [e2] X.env := by rfl) (hpl : (backTo pos (starEach [e2] X.env)).any (·.1) = false := by rfl) : PId X E (.Tuple elts kk tp) (.Call (.Name "zip" p) [e, e2] [] pos) (dZip fa) := by
  refine PI.imp (RZ.pi_zipA hg hm ha hs hpl) fun σ H R ⟨μ, S, ρ, Qi, Ed, w, en, hf, q, px⟩ => ?_
  refine tR_of w en hf px fun ds S1 vs H1 μ1 h1 f1 w1 en1 px1 r1 => ?_
  split at h1
  · obtain ⟨v, u, rfl, rv, ru⟩ := r1.two
    obtain ⟨a, ws, rfl, ha', rs⟩ := id rv.tup_inv
    obtain ⟨b, us, rfl, hb', rt⟩ := id ru.tup_inv
    exact ⟨a, b, ws, us, rfl, .inr ⟨SqT.of ha', SqT.of hb', q _ S1 H1 μ1 _ _ h1 f1 w1 itzT_ok ⟨rv, ru⟩ (fun _ z => nomatch z)⟩⟩
  · obtain ⟨v, u, rfl, rv, ru⟩ := r1.two
    obtain ⟨xs, e1, h1⟩ := onSome_of h1
    obtain ⟨ys, e2, hq⟩ := onSome_of h1
    obtain ⟨a, ws, rfl, hs1, rs⟩ := rv.lstT w1 e1
    obtain ⟨b, us, rfl, hs2, rt⟩ := ru.lstT w1 e2
    obtain ⟨e3, n3⟩ := lst_seq e1
    obtain ⟨e4, n4⟩ := lst_seq e2
    refine ⟨a, b, ws, us, rfl, .inl ⟨SqL.of hs1, SqL.of hs2, q _ S1 H1 μ1 _ _ hq f1 w1 (itz_ok n3 n4 e3 e4) ⟨rv, ru⟩ fun p hp => ?_⟩⟩
    rcases List.mem_append.mp hp with hp | hp
    · exact srcOf_ok e3 p hp
    · exact srcOf_ok e4 p hp
  · exact h1.elim
end
/-! ## for -/
def dLoop (g : FG) (fb : FS) (src : Src) : List D → FS
  | [], ρ, S, De, _ => De.nx ρ S
  | x :: xs, ρ, S, De, Ed => g x ρ S (fun ρ1 S1 => fb ρ1 S1 { nx := fun ρ2 S2 => srcOk src S2 (dLoop g fb src xs ρ2 S2 De Ed), ct := fun ρ2 S2 => srcOk src S2 (dLoop g fb src xs ρ2 S2 De Ed), bk := De.nx, rt := De.rt } Ed) Ed
def dFor (fi : FI) (g : FG) (fb : FS) : FS := fun ρ S De Ed => fi ρ S (fun is S1 => dLoop g fb is.2 is.1 ρ S1 De Ed) Ed
section
variable {X : Cx} {E : XK} {tg iter : Expr} {body : List Stmt} {fi : FI} {g : FG} {fb : FS} {pos : Pos}
theorem drop_cons {α : Type} {xs : List α} {i : Nat} {x : α} (h : xs[i]? = some x) : xs.drop i = x :: xs.drop (i + 1) := by
  obtain ⟨h1, h2⟩ := List.getElem?_eq_some_iff.mp h
  rw [List.drop_eq_getElem_cons h1, h2]
theorem d_for (hp : PassesOwn (model X.prog X.w) X.A X.env X.xe) (hc : X.calm = true) (hi : PId X (cE E) tg iter fi) (hg : PGd X E tg g) (hb : PBd X E body fb) (hs : ∀ x, foldedSetIterable iter X.env x = pure x := by intro _; rfl) : PSd X E (.For tg iter body [] pos) (dFor fi g fb) := by
  refine PS.imp (ps_for hp hc hi hg hb hs) fun D σ H ⟨μ, S, ρ, De, Ed, w, en, hf, k, px⟩ => ?_
  refine ⟨μ, S, ρ, _, Ed, w, en, hf, fun is S1 H1 μ1 J Anc h1 f1 w1 ok anc hsrc => ?_, px⟩
  obtain ⟨items, src⟩ := is
  refine ⟨fun i m σ' H' => m = items.length - i ∧ i ≤ items.length ∧ ∃ μ' S' ρ', Fw μ1 H1 μ' H' ∧ Wd (ct X) μ' S' H' ∧ EnvR (ct X) μ' H' σ' ρ' ∧ Anc μ' H' ∧ (∀ p ∈ src, S'[p.1]? = some (.lst p.2)) ∧ dLoop g fb src (items.drop i) ρ' S' De Ed,
    ⟨_, rfl, Nat.zero_le _, μ1, S1, ρ, Fw.refl, w1, en.fw w f1, anc, hsrc, h1⟩, ?_⟩
  rintro i m σ' H' ⟨rfl, hi, μ', S', ρ', f', w', en', anc', hs', h'⟩
  by_cases hlt : i < items.length
  · have hx := List.getElem?_eq_getElem hlt
    obtain ⟨go, yl⟩ := ok.go anc' w' hs' i _ hx
    rw [drop_cons hx] at h'
    refine .inr ⟨go, fun σ2 H2 => i + 1 ≤ items.length ∧ ∃ μ2 S2 ρ2, Fw μ1 H1 μ2 H2 ∧ Wd (ct X) μ2 S2 H2 ∧ EnvR (ct X) μ2 H2 σ2 ρ2 ∧ Anc μ2 H2 ∧ (∀ p ∈ src, S2[p.1]? = some (.lst p.2)) ∧ dLoop g fb src (items.drop (i + 1)) ρ2 S2 De Ed,
      fun σ2 H2 hN => ⟨_, by omega, rfl, hN.1, hN.2⟩, fun x H2 hy => ?_⟩
    obtain ⟨fy, wy, ry⟩ := yl x H2 hy
    refine ⟨μ', S', ρ', _, _, Ed, wy, en'.fw w' fy, ry, h', fun ρ3 S3 σ3 H3 μ3 h3 f3 w3 en3 => ?_, (px.fw f1).fw (f'.trans fy)⟩
    have ff := f1.trans (f'.trans (fy.trans f3))
    refine ⟨μ3, S3, ρ3, _, Ed, w3, en3, h3, ⟨fun ρ4 S4 σ4 H4 μ4 h4 f4 w4 en4 => ?_, k.rt.fw ff, fun ρ4 S4 σ4 H4 μ4 h4 f4 w4 en4 => k.nx ρ4 S4 σ4 H4 μ4 h4 (ff.trans f4) w4 en4, fun ρ4 S4 σ4 H4 μ4 h4 f4 w4 en4 => ?_⟩, px.fw ff⟩
    · obtain ⟨q1, q2⟩ := srcOk_iff.mp h4
      exact ⟨hlt, μ4, S4, ρ4, f'.trans (fy.trans (f3.trans f4)), w4, en4, ok.keep (ok.keep (ok.keep anc' (w'.kp fy)) (wy.kp f3)) (w3.kp f4), q1, q2⟩
    · obtain ⟨q1, q2⟩ := srcOk_iff.mp h4
      exact ⟨hlt, μ4, S4, ρ4, f'.trans (fy.trans (f3.trans f4)), w4, en4, ok.keep (ok.keep (ok.keep anc' (w'.kp fy)) (wy.kp f3)) (w3.kp f4), q1, q2⟩
  · have e : i = items.length := by omega
    subst e
    rw [List.drop_length] at h'
    exact .inl ⟨ok.stop anc' w' hs', k.nx ρ' S' σ' H' μ' h' (f1.trans f') w' en'⟩
end
end Pu
namespace Pu
open PySem PySem.Spec PyProof.Rows L2
/-! ## comprehensions -/
def noE : ED := fun _ _ => False
def dYes : FT := fun _ S Q _ => Q true S
def dCompL (st : D → Rho → Option Rho) (t : FT) (f : FE) (src : Src) : List D → List D → Rho → Sto → (List D → Sto → Prop) → Prop
  | [], acc, _, S, k => k acc S
  | x :: xs, acc, ρ, S, k => onSome (st x ρ) fun ρ1 => t ρ1 S (fun b S1 => if b = true then f ρ1 S1 (fun y S2 => srcOk src S2 (dCompL st t f src xs (acc ++ [y]) ρ S2 k)) noE else srcOk src S1 (dCompL st t f src xs acc ρ S1 k)) noE
def dLc (st : D → Rho → Option Rho) (t : FT) (f : FE) (fi : FI) : FE := fun ρ S Q Ed => fi ρ S (fun is S1 => is.1.length ≤ sizeLine ∧ dCompL st t f is.2 is.1 [] ρ S1 fun acc S2 => Q (.lst false acc) S2) Ed
/-- a list that will be changed -/
def dLcC (st : D → Rho → Option Rho) (t : FT) (f : FE) (fi : FI) : FE := fun ρ S Q Ed => fi ρ S (fun is S1 => is.1.length ≤ sizeLine ∧ dCompL st t f is.2 is.1 [] ρ S1 fun acc S2 => Q (.cell S2.length) (S2 ++ [.lst acc])) Ed
def st1 (j : Nat) : D → Rho → Option Rho := fun x ρ => some (ρ.set j (some x))
def st2 (i j : Nat) : D → Rho → Option Rho := fun x ρ => match x with
  | .tup [a, b] => some ((ρ.set i (some a)).set j (some b))
  | _ => none
/-- what the target does -/
def LcT (c : Ct) (g : TG) (st : D → Rho → Option Rho) (vs : List Nat) : Prop :=
  ∀ {μ : Mu} {S : Sto} {H : Hp} {σ : L2.St} {ρ ρ1 : Rho} {x : V} {d : D} {k : L2.St → Hp → Prop}, Wd c μ S H → EnvR c μ H σ ρ → Rp c μ H x d → st d ρ = some ρ1 → (∀ σ2, EnvR c μ H σ2 ρ1 → wipe σ2 vs = wipe σ vs → k σ2 H) → g x (wipe σ vs) H k
theorem lct1 {c : Ct} {j : Nat} : LcT c (gName j) (st1 j) [j] := by
  intro μ S H σ ρ ρ1 x d k w en r e h
  cases e
  show k ((σ.set j none).set j (some x)) H
  rw [List.set_set]
  exact h _ (en.set r) (by show ((σ.set j (some x)).set j none) = σ.set j none; rw [List.set_set])
theorem lct2 {c : Ct} {i j : Nat} (ne : i ≠ j) : LcT c (gTup c.K 2 (gCons (gName i) (gCons (gName j) gNil))) (st2 i j) [i, j] := by
  intro μ S H σ ρ ρ1 x d k w en r e h
  unfold st2 at e
  split at e
  · cases e
    obtain ⟨a, vs, rfl, ha, ra⟩ := r.tup_inv
    obtain ⟨u, v, rfl, ru, rv⟩ := ra.two
    refine ⟨a, [u, v], rfl, SqT.of ha, rfl, u, [v], rfl, v, [], rfl, rfl, ?_⟩
    show k ((((σ.set j none).set i none).set i (some u)).set j (some v)) H
    rw [List.set_set, List.set_comm none (some u) (Ne.symm ne), List.set_set]
    refine h _ ((en.set ru).set rv) ?_
    show ((((σ.set i (some u)).set j (some v)).set j none).set i none) = ((σ.set j none).set i none)
    rw [List.set_set, List.set_comm none none (Ne.symm ne), List.set_set, List.set_comm none none ne]
  · cases e
section
variable {c : Ct} {m av : List Addr} {D1 : Addr} {H : Hp} {S : Sto} {vs : List V}
theorem kpD {ws : List V} (hD : H D1 = some (.lst vs)) : Kp c ⟨m, D1 :: av⟩ H ⟨m, D1 :: av⟩ (upd H D1 (.lst ws)) where
  t := fun a xs e => by rw [upd_ne (fun z => by rw [z, hD] at e; cases e)]; exact e
  l := fun a xs e n1 n2 => by
    have ne : a ≠ D1 := fun z => n2 (by rw [z]; exact List.mem_cons_self)
    rcases e with e | ⟨o, e⟩
    · exact ⟨.inl (by rw [upd_ne ne]; exact e), n1, n2⟩
    · exact ⟨.inr ⟨o, by rw [upd_ne ne]; exact e⟩, n1, n2⟩
  m := fun a xs e n1 n2 => ⟨by rw [upd_ne (fun z => n2 (by rw [z]; exact List.mem_cons_self))]; exact e, n1, n2⟩
  d := fun a ps e n n2 => ⟨by rw [upd_ne (fun z => by rw [z, hD] at e; cases e)]; exact e, n, n2⟩
  i := fun a C dx fs e n n2 => ⟨by rw [upd_ne (fun z => by rw [z, hD] at e; cases e)]; exact e, n, n2⟩
  cl := fun _ _ h => h
  x := fun a fv e => by rw [upd_ne (fun z => by rw [z, hD] at e; cases e)]; exact e
theorem wdD {ws : List V} (w : Wd c ⟨m, D1 :: av⟩ S H) (hD : H D1 = some (.lst vs)) : Wd c ⟨m, D1 :: av⟩ S (upd H D1 (.lst ws)) :=
  ⟨w.nd, w.len, w.ap, fun a h => upd_some (w.avs a h), fun i a x h1 h2 => ClOk.kp (kpD hD) (fun o e => by
    rw [upd_ne (fun z => w.ap a (List.mem_of_getElem? h1) (by rw [z]; exact List.mem_cons_self))]
    exact e) (w.ok i a x h1 h2)⟩
theorem kpStart {μ : Mu} (hD : H D1 = none) : Kp c μ H ⟨μ.m, D1 :: μ.av⟩ (upd H D1 (.lst [])) := by
  have av2 : ∀ {a : Addr} {o : HO}, H a = some o → a ∉ μ.av → a ∉ D1 :: μ.av := fun e n z => by
    rcases List.mem_cons.mp z with z | z
    · exact ne_of_none e hD z
    · exact n z
  refine ⟨fun a xs e => ?_, fun a xs e n1 n2 => ?_, fun a xs e n1 n2 => ⟨?_, n1, av2 e n2⟩, fun a ps e n n2 => ⟨?_, n, av2 e n2⟩, fun a C dx fs e n n2 => ⟨?_, n, av2 e n2⟩, (fun _ _ h => h), fun a fv e => ?_⟩
  · rw [upd_ne (ne_of_none e hD)]; exact e
  · rcases e with e | ⟨o, e⟩
    · exact ⟨.inl (by rw [upd_ne (ne_of_none e hD)]; exact e), n1, av2 e n2⟩
    · exact ⟨.inr ⟨o, by rw [upd_ne (ne_of_none e hD)]; exact e⟩, n1, av2 e n2⟩
  · rw [upd_ne (ne_of_none e hD)]; exact e
  · rw [upd_ne (ne_of_none e hD)]; exact e
  · rw [upd_ne (ne_of_none e hD)]; exact e
  · rw [upd_ne (ne_of_none e hD)]; exact e
theorem wdStart {μ : Mu} (w : Wd c μ S H) (hD : H D1 = none) : Wd c ⟨μ.m, D1 :: μ.av⟩ S (upd H D1 (.lst [])) :=
  ⟨w.nd, w.len, fun a h z => by
    rcases List.mem_cons.mp z with z | z
    · exact w.fresh hD (z ▸ h)
    · exact w.ap a h z, fun a h => by
    rcases List.mem_cons.mp h with h | h
    · rw [h, upd_same]; exact fun z => nomatch z
    · exact upd_some (w.avs a h), fun i a x h1 h2 => ClOk.kp (kpStart hD) (fun o e => by rw [upd_ne (ne_of_none e hD)]; exact e) (w.ok i a x h1 h2)⟩
theorem kpEnd : Kp c ⟨m, D1 :: av⟩ H ⟨m, av⟩ H :=
  ⟨fun _ _ e => e, fun _ _ e n1 n2 => ⟨e, n1, fun z => n2 (List.mem_cons_of_mem _ z)⟩, fun _ _ e n1 n2 => ⟨e, n1, fun z => n2 (List.mem_cons_of_mem _ z)⟩, fun _ _ e n1 n2 => ⟨e, n1, fun z => n2 (List.mem_cons_of_mem _ z)⟩, fun _ _ _ _ e n1 n2 => ⟨e, n1, fun z => n2 (List.mem_cons_of_mem _ z)⟩, (fun _ _ h => h), fun _ _ e => e⟩
theorem kpEndC (hD : H D1 = some (.lst vs)) : Kp c ⟨m, D1 :: av⟩ H ⟨m ++ [D1], av⟩ H := by
  have nm : ∀ {a : Addr}, a ∉ m → a ≠ D1 → a ∉ m ++ [D1] := fun n1 n2 z => by
    rcases List.mem_append.mp z with z | z
    · exact n1 z
    · exact n2 (List.mem_singleton.mp z)
  have ne : ∀ {a : Addr}, a ∉ D1 :: av → a ≠ D1 := fun n z => n (by rw [z]; exact List.mem_cons_self)
  refine ⟨fun _ _ e => e, fun _ _ e n1 n2 => ⟨e, nm n1 (ne n2), fun z => n2 (List.mem_cons_of_mem _ z)⟩, fun _ _ e n1 n2 => ⟨e, nm n1 (ne n2), fun z => n2 (List.mem_cons_of_mem _ z)⟩, fun a _ e n1 n2 => ⟨e, nm n1 (ne n2), fun z => n2 (List.mem_cons_of_mem _ z)⟩,
    fun a _ _ _ e n1 n2 => ⟨e, nm n1 (ne n2), fun z => n2 (List.mem_cons_of_mem _ z)⟩, fun n a h => ?_, fun _ _ e => e⟩
  show (m ++ [D1])[n]? = some a
  rw [List.getElem?_append_left (List.getElem?_eq_some_iff.mp (show m[n]? = some a from h)).1]
  exact h
end
/-- the state of a comprehension: D1 the list that is made -/
def LcI (c : Ct) (μ1 : Mu) (H1 : Hp) (D1 : Addr) (σ : L2.St) (ρ : Rho) (Anc : Mu → Hp → Prop) (src : Src) (i : Nat) (go : List D → Sto → Prop) (H : Hp) : Prop :=
  ∃ m' S' acc vs, acc.length ≤ i ∧ Wd c ⟨m', D1 :: μ1.av⟩ S' H ∧ (∃ t, m' = μ1.m ++ t) ∧ (∀ a o, H1 a = some o → a ∉ μ1.m → H a = some o ∧ a ∉ m') ∧ H D1 = some (.lst vs) ∧ RpAll c ⟨m', D1 :: μ1.av⟩ H vs acc ∧
    EnvR c ⟨m', D1 :: μ1.av⟩ H σ ρ ∧ Anc ⟨m', D1 :: μ1.av⟩ H ∧ (∀ p ∈ src, S'[p.1]? = some (.lst p.2)) ∧ go acc S'
theorem pxNo {c : Ct} {μ : Mu} {H : Hp} {E : XK} : PX c μ H noE E := fun _ _ _ _ _ _ h => h.elim
theorem lc_W {c : Ct} {g : TG} {st : D → Rho → Option Rho} {t : FT} {f : FE} {vs : List Nat} {μ1 : Mu} {S1 : Sto} {H1 : Hp} {σ : L2.St} {ρ : Rho} {J : It} {items : List D} {src : Src} {Anc : Mu → Hp → Prop} {k : List D → Sto → Prop} {D1 : Addr} {Qd : Hp → Prop} {E : L2.St → XK}
    (hT : LcT c g st vs) (w1 : Wd c μ1 S1 H1) (en1 : EnvR c μ1 H1 σ ρ) (ok : ItOk c J items src Anc) (anc : Anc μ1 H1) (hsrc : ∀ p ∈ src, S1[p.1]? = some (.lst p.2)) (hz : items.length ≤ sizeLine)
    (h : dCompL st t f src items [] ρ S1 k) (nD : H1 D1 = none) (fin : ∀ H, LcI c μ1 H1 D1 σ ρ Anc src items.length k H → Qd H) :
    ∃ W : Nat → Nat → Hp → Prop, (∃ m, W 0 m (upd H1 D1 (.lst []))) ∧ ∀ i m H, W i m H →
      (J.stop i H ∧ Qd H) ∨ (J.go i H ∧ ∃ Nx : Hp → Prop, (∀ H', Nx H' → ∃ m', m' < m ∧ W (i + 1) m' H') ∧ ∀ x H', J.yld i H x H' → g x (wipe σ vs) H' fun σ2 H2 => wipe σ2 vs = wipe σ vs ∧ tT c E t σ2 H2 fun b H3 =>
        if b = true then tD c E f σ2 H3 fun y H4 => ∃ acc, H4 D1 = some (.lst acc) ∧ acc.length < sizeLine ∧ Nx (upd H4 D1 (.lst (acc ++ [y]))) else Nx H3) := by
  refine ⟨fun i m H => m = items.length - i ∧ i ≤ items.length ∧ LcI c μ1 H1 D1 σ ρ Anc src i (fun acc S => dCompL st t f src (items.drop i) acc ρ S k) H, ⟨_, rfl, Nat.zero_le _, ?_⟩, ?_⟩
  · refine ⟨μ1.m, S1, [], [], Nat.le_refl _, wdStart w1 nD, ⟨[], by simp⟩, fun a o e n => ⟨?_, n⟩, upd_same, .nil, en1.kp (kpStart nD), ok.keep anc (kpStart nD), hsrc, h⟩
    rw [upd_ne (ne_of_none e nD)]
    exact e
  · rintro i m H ⟨rfl, hi, m', S', acc, ws, hl, w, ⟨tt, em⟩, keep, hD, ra, en, anc', hs', h'⟩
    by_cases hlt : i < items.length
    · have hx := List.getElem?_eq_getElem hlt
      obtain ⟨go, yl⟩ := ok.go anc' w hs' i _ hx
      rw [drop_cons hx] at h'
      refine .inr ⟨go, fun H' => i + 1 ≤ items.length ∧ LcI c μ1 H1 D1 σ ρ Anc src (i + 1) (fun acc S => dCompL st t f src (items.drop (i + 1)) acc ρ S k) H', fun H' hN => ⟨_, by omega, rfl, hN.1, hN.2⟩, fun x H2 hy => ?_⟩
      obtain ⟨fy, wy, ry⟩ := yl x H2 hy
      obtain ⟨ρ1, e1, h1⟩ := onSome_of h'
      refine hT wy (en.fw w fy) ry e1 fun σ2 en2 hw => ⟨hw, ?_⟩
      refine tR_of wy en2 h1 pxNo fun b S3 b' H3 μ3 h3 f3 w3 en3 px3 r3 => ?_
      cases (r3 : b' = b)
      have nDm : ∀ {μ : Mu} {S : Sto} {HH : Hp}, Wd c μ S HH → μ.av = D1 :: μ1.av → D1 ∉ μ.m := fun wx ex z => wx.ap D1 z (by rw [ex]; exact List.mem_cons_self)
      have all3 : ∀ {μ4 : Mu} {H4 : Hp} {S4 : Sto}, Wd c μ4 S4 H4 → Fw ⟨m', D1 :: μ1.av⟩ H μ4 H4 → μ4 = ⟨μ4.m, D1 :: μ1.av⟩ ∧ (∃ t, μ4.m = μ1.m ++ t) ∧ (∀ a o, H1 a = some o → a ∉ μ1.m → H4 a = some o ∧ a ∉ μ4.m) ∧ H4 D1 = some (.lst ws) ∧ RpAll c μ4 H4 ws acc ∧ EnvR c μ4 H4 σ ρ ∧ Anc μ4 H4 := fun {μ4 H4 S4} w4 ff => by
        have eav : μ4.av = D1 :: μ1.av := ff.av
        refine ⟨by rw [← eav], ?_, fun a o e n => ?_, (ff.keep D1 _ hD (nDm w rfl)).1, ra.fw w ff, en.fw w ff, ok.keep anc' (w.kp ff)⟩
        · obtain ⟨t2, e2⟩ := ff.pre
          exact ⟨tt ++ t2, by rw [e2]; show m' ++ t2 = _; rw [em, List.append_assoc]⟩
        · obtain ⟨q1, q2⟩ := keep a o e n
          exact ff.keep a o q1 q2
      split
      · rename_i hb
        rw [if_pos hb] at h3
        refine tR_of w3 en3 h3 pxNo fun y S4 vy H4 μ4 h4 f4 w4 en4 px4 r4 => ?_
        obtain ⟨e4, t4, k4, D4, ra4, en4', anc4⟩ := all3 w4 (fy.trans (f3.trans f4))
        rw [e4] at w4 ra4 en4' anc4 r4
        obtain ⟨q1, q2⟩ := srcOk_iff.mp h4
        refine ⟨ws, D4, by rw [ra4.length]; omega, hlt, ?_⟩
        refine ⟨μ4.m, S4, acc ++ [y], ws ++ [vy], by rw [List.length_append]; show acc.length + 1 ≤ i + 1; omega, wdD w4 D4, t4, fun a o e n => ?_, upd_same, (ra4.append (.cons r4 .nil)).kp (kpD D4), en4'.kp (kpD D4), ok.keep anc4 (kpD D4), q1, q2⟩
        obtain ⟨z1, z2⟩ := k4 a o e n
        refine ⟨?_, z2⟩
        rw [upd_ne (ne_of_none e nD)]
        exact z1
      · rename_i hb
        rw [if_neg hb] at h3
        obtain ⟨e4, t4, k4, D4, ra4, en4', anc4⟩ := all3 w3 (fy.trans f3)
        rw [e4] at w3 ra4 en4' anc4
        obtain ⟨q1, q2⟩ := srcOk_iff.mp h3
        exact ⟨hlt, μ3.m, S3, acc, ws, by omega, w3, t4, k4, D4, ra4, en4', anc4, q1, q2⟩
    · have e : i = items.length := by omega
      subst e
      rw [List.drop_length] at h'
      exact .inl ⟨ok.stop anc' w hs', fin H ⟨m', S', acc, ws, hl, w, ⟨tt, em⟩, keep, hD, ra, en, anc', hs', h'⟩⟩
section
variable {X : Cx} {E : L2.St → XK} {elt tg iter : Expr} {ifs : List Expr} {scope : Scope} {own : List (Str × Nat)} {pos : Pos} {fi : FI} {g : TG} {st : D → Rho → Option Rho} {t : FT} {f : FE}
theorem d_tnil : PTs X [] (tT (ct X) E dYes) := ⟨fun pins s σ H Q I ⟨μ, S, ρ, Qd, Ed, w, en, hf, q, px⟩ => pts_nil.run pins s σ H Q I (q true S true H μ hf Fw.refl w rfl)⟩
theorem d_tone {c : Expr} (h : PTd X E c t) : PTs X [c] (tT (ct X) E t) := pts_one h
theorem lc_end {c : Ct} {μ μ1 : Mu} {S S1 : Sto} {H H1 : Hp} {σ : L2.St} {ρ : Rho} {Anc : Mu → Hp → Prop} {src : Src} {n : Nat} {Qd : QD} {Q : VK} {D1 : Addr} (q : ∀ d S' v H' μ', Qd d S' → Fw μ H μ' H' → Wd c μ' S' H' → Rp c μ' H' v d → Q v H') (f1 : Fw μ H μ1 H1) (w1 : Wd c μ1 S1 H1) (nD : H1 D1 = none)
    {H' : Hp} (h : LcI c μ1 H1 D1 σ ρ Anc src n (fun acc S2 => Qd (.lst false acc) S2) H') : Q (.ref D1) H' := by
  obtain ⟨m', S', acc, ws, hl, w, ⟨tt, em⟩, keep, hD, ra, en, anc', hs', h'⟩ := h
  have f2 : Fw μ1 H1 ⟨m', μ1.av⟩ H' := ⟨⟨tt, em⟩, rfl, keep⟩
  have nm : D1 ∉ m' := fun z => w.ap D1 z List.mem_cons_self
  refine q _ S' _ H' ⟨m', μ1.av⟩ h' (f1.trans f2) ⟨w.nd, w.len, fun a h z => w.ap a h (List.mem_cons_of_mem _ z), fun a h => w.avs a (List.mem_cons_of_mem _ h), fun i a x h1 h2 => ClOk.kp kpEnd (fun _ e => e) (w.ok i a x h1 h2)⟩ ?_
  exact .lst hD nm (fun z => w1.avs D1 z nD) (fun z => nomatch z) (ra.kp kpEnd)
theorem lc_endC {c : Ct} {μ μ1 : Mu} {S S1 : Sto} {H H1 : Hp} {σ : L2.St} {ρ : Rho} {Anc : Mu → Hp → Prop} {src : Src} {n : Nat} {Qd : QD} {Q : VK} {D1 : Addr} (q : ∀ d S' v H' μ', Qd d S' → Fw μ H μ' H' → Wd c μ' S' H' → Rp c μ' H' v d → Q v H') (f1 : Fw μ H μ1 H1) (w1 : Wd c μ1 S1 H1) (nD : H1 D1 = none)
    {H' : Hp} (h : LcI c μ1 H1 D1 σ ρ Anc src n (fun acc S2 => Qd (.cell S2.length) (S2 ++ [.lst acc])) H') : Q (.ref D1) H' := by
  obtain ⟨m', S', acc, ws, hl, w, ⟨tt, em⟩, keep, hD, ra, en, anc', hs', h'⟩ := h
  have nm : D1 ∉ m' := fun z => w.ap D1 z List.mem_cons_self
  have f2 : Fw μ1 H1 ⟨m' ++ [D1], μ1.av⟩ H' := ⟨⟨tt ++ [D1], by show m' ++ [D1] = _; rw [em, List.append_assoc]⟩, rfl, fun a o e n => ⟨(keep a o e n).1, fun z => by
    rcases List.mem_append.mp z with z | z
    · exact (keep a o e n).2 z
    · exact ne_of_none e nD (List.mem_singleton.mp z)⟩⟩
  have hlen : m'.length = S'.length := w.len
  refine q _ _ _ H' ⟨m' ++ [D1], μ1.av⟩ h' (f1.trans f2) ⟨?_, ?_, fun a h z => ?_, fun a h => w.avs a (List.mem_cons_of_mem _ h), fun i a x h1 h2 => ?_⟩ (.cell ?_)
  · show (m' ++ [D1]).Nodup
    rw [List.nodup_append]
    exact ⟨w.nd, by simp, fun a ha b hb e => nm (by rw [List.mem_singleton.mp hb] at e; exact e ▸ ha)⟩
  · show (m' ++ [D1]).length = (S' ++ [Cl.lst acc]).length
    rw [List.length_append, List.length_append, hlen]
    rfl
  · rcases List.mem_append.mp h with h | h
    · exact w.ap a h (List.mem_cons_of_mem _ z)
    · rw [List.mem_singleton.mp h] at z
      exact w1.avs D1 z nD
  · by_cases hi : i < m'.length
    · have h1' : m'[i]? = some a := by rw [← List.getElem?_append_left hi]; exact h1
      rw [List.getElem?_append_left (by omega)] at h2
      exact ClOk.kp (kpEndC hD) (fun _ e => e) (w.ok i a x h1' h2)
    · have h1' : (m' ++ [D1])[i]? = some a := h1
      have hi2 : i = m'.length := by
        have := (List.getElem?_eq_some_iff.mp h1').1
        simp at this
        omega
      subst hi2
      rw [List.getElem?_append_right (Nat.le_refl _), Nat.sub_self] at h1'
      cases h1'
      rw [List.getElem?_append_right (by omega), hlen, Nat.sub_self] at h2
      cases h2
      exact ⟨ws, hD, ra.kp (kpEndC hD)⟩
  · show (m' ++ [D1])[S'.length]? = some D1
    rw [← hlen, List.getElem?_append_right (Nat.le_refl _), Nat.sub_self]
    rfl
theorem d_lc (hT : LcT (ct X) g st (own.map (·.2))) (hc : X.calm = true) (hN : X.N.Nodup) (hi : PId X E tg iter fi) (ok : BlkOk X.N X.env.scope scope own)
    (hg : ∀ (s : Shared) (H : Hp) (C : Addr) (cl : List (Str × Addr)) (fp : List Addr), PG (X.blk s H scope (compEnvC scope cl C X.env) fp) tg g)
    (ht : ∀ (s : Shared) (H : Hp) (C : Addr) (cl : List (Str × Addr)) (fp : List Addr), PTs (X.blk s H scope (compEnvC scope cl C X.env) fp) ifs (tT (ct X) (cE E0) t))
    (he : ∀ (s : Shared) (H : Hp) (C : Addr) (cl : List (Str × Addr)) (fp : List Addr), PE (X.blk s H scope (compEnvC scope cl C X.env) fp) elt (tD (ct X) (cE E0) f)) (hs : ∀ x, foldedSetIterable iter X.env x = pure x := by intro _; rfl) :
    PEd X E (.ListComp elt [⟨tg, iter, ifs, 0⟩] scope pos) (dLc st t f fi) := by
  refine PE.imp (pe_lc hc hN hi ok hg ht he hs) fun σ H Q ⟨μ, S, ρ, Qd, Ed, w, en, hf, q, px⟩ => ?_
  refine ⟨μ, S, ρ, _, Ed, w, en, hf, fun is S1 H1 μ1 J Anc h1 f1 w1 ok' anc hsrc D1 nD => ?_, px⟩
  exact lc_W hT w1 (en.fw w f1) ok' anc hsrc h1.1 h1.2 nD fun H' h => lc_end (S := S) q f1 w1 nD h
theorem d_lcC (hT : LcT (ct X) g st (own.map (·.2))) (hc : X.calm = true) (hN : X.N.Nodup) (hi : PId X E tg iter fi) (ok : BlkOk X.N X.env.scope scope own)
    (hg : ∀ (s : Shared) (H : Hp) (C : Addr) (cl : List (Str × Addr)) (fp : List Addr), PG (X.blk s H scope (compEnvC scope cl C X.env) fp) tg g)
    (ht : ∀ (s : Shared) (H : Hp) (C : Addr) (cl : List (Str × Addr)) (fp : List Addr), PTs (X.blk s H scope (compEnvC scope cl C X.env) fp) ifs (tT (ct X) (cE E0) t))
    (he : ∀ (s : Shared) (H : Hp) (C : Addr) (cl : List (Str × Addr)) (fp : List Addr), PE (X.blk s H scope (compEnvC scope cl C X.env) fp) elt (tD (ct X) (cE E0) f)) (hs : ∀ x, foldedSetIterable iter X.env x = pure x := by intro _; rfl) :
    PEd X E (.ListComp elt [⟨tg, iter, ifs, 0⟩] scope pos) (dLcC st t f fi) := by
  refine PE.imp (pe_lc hc hN hi ok hg ht he hs) fun σ H Q ⟨μ, S, ρ, Qd, Ed, w, en, hf, q, px⟩ => ?_
  refine ⟨μ, S, ρ, _, Ed, w, en, hf, fun is S1 H1 μ1 J Anc h1 f1 w1 ok' anc hsrc D1 nD => ?_, px⟩
  exact lc_W hT w1 (en.fw w f1) ok' anc hsrc h1.1 h1.2 nD fun H' h => lc_endC (S := S) q f1 w1 nD h
/-- name = [..] on one row -/
theorem d_setLc {E2 : XK} {i : Nat} {y : Str} {py spos : Pos} (hT : LcT (ct X) g st (own.map (·.2))) (hc : X.calm = true) (hN : X.N.Nodup) (hy : X.N[i]? = some y) (hyl : X.env.scope.names.lookup y = some .local)
    (hsw : swapsWith (.ListComp elt [⟨tg, iter, ifs, 0⟩] scope pos) (some (.Name y py)) spos.line X.env = pure true) (hi : PId X (cE E2) tg iter fi) (ok : BlkOk X.N X.env.scope scope own)
    (hg : ∀ (s : Shared) (H : Hp) (C : Addr) (cl : List (Str × Addr)) (fp : List Addr), PG (X.blk s H scope (compEnvC scope cl C X.env) fp) tg g)
    (ht : ∀ (s : Shared) (H : Hp) (C : Addr) (cl : List (Str × Addr)) (fp : List Addr), PTs (X.blk s H scope (compEnvC scope cl C X.env) fp) ifs (tT (ct X) (cE E0) t))
    (he : ∀ (s : Shared) (H : Hp) (C : Addr) (cl : List (Str × Addr)) (fp : List Addr), PE (X.blk s H scope (compEnvC scope cl C X.env) fp) elt (tD (ct X) (cE E0) f)) (hs : ∀ x, foldedSetIterable iter X.env x = pure x := by intro _; rfl) :
    PSd X E2 (.Assign [.Name y py] (.ListComp elt [⟨tg, iter, ifs, 0⟩] scope pos) spos) (dAsg (dLc st t f fi) (gN i)) := by
  refine PS.imp (ps_setLc hc hN hy hyl hsw hi ok hg ht he hs) fun D σ H ⟨μ, S, ρ, De, Ed, w, en, hf, k, px⟩ => ?_
  refine ⟨μ, S, ρ, _, Ed, w, en, hf, fun is S1 H1 μ1 J Anc h1 f1 w1 ok' anc hsrc D1 nD => ?_, px⟩
  refine lc_W (Qd := fun H' => D.nx (σ.set i (some (.ref D1))) H') hT w1 (en.fw w f1) ok' anc hsrc h1.1 h1.2 nD fun H' h => ?_
  exact lc_end (S := S) (Q := fun v H' => D.nx (σ.set i (some v)) H') (fun d S' v H' μ' hq ff w' r => k.nx _ S' _ H' μ' (setK_eq (k := fun ρ' => De.nx ρ' S') hq) ff w' ((en.fw w ff).set r)) f1 w1 nD h
end
end Pu
namespace Pu
open PySem PySem.Spec PyProof.Rows L2
/-! ## defs and their calls -/
def spF (c : Ct) (F : FF) : Sp := fun vs H Q E => ∃ μ S ds Qd Ed, Wd c μ S H ∧ RpAll c μ H vs ds ∧ F ds S Qd Ed ∧ PostV c μ H Qd Q ∧ PX c μ H Ed E
/-- a call in which the callee sees all cells -/
def dCallW (F : FF) (fa : FA) : FE := fun ρ S Q Ed => fa ρ S (fun ds S1 => F ds S1 Q Ed) Ed
mutual
/-- it mentions no cell but the first k -/
def below (k : Nat) : D → Bool
  | .cell n => decide (n < k)
  | .tup xs => belowAll k xs
  | .lst _ xs => belowAll k xs
  | .kls xs => belowAll k xs
  | .ins _ fs => belowFs k fs
  | .exc _ fs => belowFs k fs
  | _ => true
def belowAll (k : Nat) : List D → Bool
  | [] => true
  | x :: xs => below k x && belowAll k xs
def belowFs (k : Nat) : List (Str × D) → Bool
  | [] => true
  | (_, x) :: xs => below k x && belowFs k xs
end
def Cl.below (k : Nat) : Cl → Bool
  | .lst xs => belowAll k xs
  | .ins _ fs => belowFs k fs
/-- a call in which the callee sees the first k cells -/
def dCall (k : Nat) (F : FF) (fa : FA) : FE := fun ρ S Q Ed => fa ρ S (fun ds S1 => (belowAll k ds = true ∧ (S1.take k).all (Cl.below k) = true) ∧
  F ds (S1.take k) (fun d S2 => S2.length = (S1.take k).length ∧ Q d (S2 ++ S1.drop k)) fun e S2 => S2.length = (S1.take k).length ∧ Ed e (S2 ++ S1.drop k)) Ed
section
variable {c : Ct} {μ : Mu} {H : Hp} {k : Nat}
def sub (μ : Mu) (k : Nat) : Mu := ⟨μ.m.take k, μ.m.drop k ++ μ.av⟩
theorem not_sub {a : Addr} (h1 : a ∉ μ.m) (h2 : a ∉ μ.av) : a ∉ (sub μ k).m ∧ a ∉ (sub μ k).av :=
  ⟨fun z => h1 (List.mem_of_mem_take z), fun z => by
    rcases List.mem_append.mp z with z | z
    · exact h1 (List.mem_of_mem_drop z)
    · exact h2 z⟩
theorem of_sub {a : Addr} (h1 : a ∉ (sub μ k).m) (h2 : a ∉ (sub μ k).av) : a ∉ μ.m ∧ a ∉ μ.av :=
  ⟨fun z => by
    rw [← List.take_append_drop k μ.m] at z
    rcases List.mem_append.mp z with z | z
    · exact h1 z
    · exact h2 (List.mem_append_left _ z), fun z => h2 (List.mem_append_right _ z)⟩
mutual
theorem Rp.sub : ∀ {v : V} {d : D}, Rp c μ H v d → below k d = true → Rp c (Pu.sub μ k) H v d
  | _, _, .non, _ => .non
  | _, _, .bl b, _ => .bl b
  | _, _, .int i, _ => .int i
  | _, _, .str x, _ => .str x
  | _, _, .tup h r, b => .tup h (RpAll.sub r b)
  | _, _, .lst h n1 n2 n3 r, b => .lst h (not_sub n1 n2).1 (not_sub n1 n2).2 n3 (RpAll.sub r b)
  | _, _, .kls h n1 n2 r, b => .kls h (not_sub n1 n2).1 (not_sub n1 n2).2 (RpAll.sub r b)
  | _, _, .klsK o its n h1 h2 h3 h4 h5 h6 r, b => .klsK o its n h1 h2 h3 h4 h5 h6 (RpAll.sub r b)
  | _, _, .dic h n n2, _ => .dic h (not_sub n n2).1 (not_sub n n2).2
  | _, _, .cell h, b => .cell (by
    show (μ.m.take k)[_]? = _
    rw [List.getElem?_take_of_lt (of_decide_eq_true b)]
    exact h)
  | _, _, .glo h r, _ => .glo h r
  | _, _, .ty n, _ => .ty n
  | _, _, .ins h n n2 g r, b => .ins h (not_sub n n2).1 (not_sub n n2).2 g (RpFs.sub r b)
  | _, _, .exc0 h g, _ => .exc0 h g
  | _, _, .exc1 h g e r, b => .exc1 h g e (RpFs.sub r b)
theorem RpAll.sub : ∀ {vs : List V} {ds : List D}, RpAll c μ H vs ds → belowAll k ds = true → RpAll c (Pu.sub μ k) H vs ds
  | _, _, .nil, _ => .nil
  | _, _, .cons h r, b => .cons (Rp.sub h (Bool.and_eq_true_iff.mp b).1) (RpAll.sub r (Bool.and_eq_true_iff.mp b).2)
theorem RpFs.sub : ∀ {vs : List (Str × V)} {ds : List (Str × D)}, RpFs c μ H vs ds → belowFs k ds = true → RpFs c (Pu.sub μ k) H vs ds
  | _, _, .nil, _ => .nil
  | _, _, .cons h r, b => .cons (Rp.sub h (Bool.and_eq_true_iff.mp b).1) (RpFs.sub r (Bool.and_eq_true_iff.mp b).2)
end
theorem Wd.disj {S : Sto} (w : Wd c μ S H) {a : Addr} (h1 : a ∈ μ.m.take k) (h2 : a ∈ μ.m.drop k) : False := by
  have nd := w.nd
  rw [← List.take_append_drop k μ.m, List.nodup_append] at nd
  exact nd.2.2 a h1 a h2 rfl
theorem Wd.sub {S : Sto} (w : Wd c μ S H) (hb : (S.take k).all (Cl.below k) = true) : Wd c (Pu.sub μ k) (S.take k) H := by
  refine ⟨?_, ?_, fun a h z => ?_, fun a h => ?_, fun i a x h1 h2 => ?_⟩
  · show (μ.m.take k).Nodup
    have nd := w.nd
    rw [← List.take_append_drop k μ.m, List.nodup_append] at nd
    exact nd.1
  · show (μ.m.take k).length = (S.take k).length
    rw [List.length_take, List.length_take, w.len]
  · rcases List.mem_append.mp z with z | z
    · exact w.disj h z
    · exact w.ap a (List.mem_of_mem_take h) z
  · rcases List.mem_append.mp h with h | h
    · obtain ⟨o, e, _⟩ := w.there (List.mem_of_mem_drop h)
      rw [e]
      exact fun z => nomatch z
    · exact w.avs a h
  · have hi : i < k := by
      have := (List.getElem?_eq_some_iff.mp (show (μ.m.take k)[i]? = some a from h1)).1
      rw [List.length_take] at this
      omega
    have e1 : μ.m[i]? = some a := by
      rw [← List.getElem?_take_of_lt hi]
      exact h1
    have e2 : S[i]? = some x := by
      rw [← List.getElem?_take_of_lt hi]
      exact h2
    have bx : Cl.below k x = true := List.all_eq_true.mp hb x (List.mem_of_getElem? h2)
    have o := w.ok i a x e1 e2
    cases x with
    | lst ds =>
      obtain ⟨vs, h3, h4⟩ := o
      exact ⟨vs, h3, h4.sub bx⟩
    | ins cn fs =>
      obtain ⟨C, dx, fv, h3, h4, h5⟩ := o
      exact ⟨C, dx, fv, h3, h4, h5.sub bx⟩
theorem kp_unsub : Kp c (Pu.sub μ k) H μ H := by
  have cl : ∀ (n : Nat) (a : Addr), (μ.m.take k)[n]? = some a → μ.m[n]? = some a := fun n a h => by
    have hi : n < k := by
      have := (List.getElem?_eq_some_iff.mp h).1
      rw [List.length_take] at this
      omega
    rw [← List.getElem?_take_of_lt hi]
    exact h
  exact ⟨fun _ _ e => e, fun _ _ e n1 n2 => ⟨e, (of_sub n1 n2).1, (of_sub n1 n2).2⟩, fun _ _ e n1 n2 => ⟨e, (of_sub n1 n2).1, (of_sub n1 n2).2⟩, fun _ _ e n1 n2 => ⟨e, (of_sub n1 n2).1, (of_sub n1 n2).2⟩, fun _ _ _ _ e n1 n2 => ⟨e, (of_sub n1 n2).1, (of_sub n1 n2).2⟩, cl, fun _ _ e => e⟩
/-- back from a callee that saw the first k cells -/
theorem Wd.back {S S2 : Sto} {H' : Hp} {μ' : Mu} (w : Wd c μ S H) (f : Fw (Pu.sub μ k) H μ' H') (w' : Wd c μ' S2 H') (hl : S2.length = (S.take k).length) :
    Fw μ H μ H' ∧ Wd c μ (S2 ++ S.drop k) H' ∧ μ' = Pu.sub μ k := by
  obtain ⟨t, e⟩ := f.pre
  have hmt : (μ.m.take k).length = (S.take k).length := by rw [List.length_take, List.length_take, w.len]
  have ht : t = [] := by
    have h1 := w'.len
    rw [e, List.length_append] at h1
    have h2 : (Pu.sub μ k).m.length = (S.take k).length := hmt
    have : t.length = 0 := by omega
    exact List.length_eq_zero_iff.mp this
  subst ht
  rw [List.append_nil] at e
  have em : μ' = Pu.sub μ k := by
    cases μ'
    cases e
    cases (show _ = (Pu.sub μ k).av from f.av)
    rfl
  subst em
  have fw : Fw μ H μ H' := ⟨⟨[], by simp⟩, rfl, fun a o ea na => ⟨(f.keep a o ea fun z => na (List.mem_of_mem_take z)).1, na⟩⟩
  refine ⟨fw, ⟨w.nd, ?_, w.ap, fun a h => ?_, fun i a x h1 h2 => ?_⟩, rfl⟩
  · rw [List.length_append, hl, List.length_take, List.length_drop, w.len]
    omega
  · exact w'.avs a (List.mem_append_right _ h)
  · by_cases hi : i < S2.length
    · rw [List.getElem?_append_left hi] at h2
      have hk : i < k := by rw [hl, List.length_take] at hi; omega
      have e1 : (Pu.sub μ k).m[i]? = some a := by
        show (μ.m.take k)[i]? = some a
        rw [List.getElem?_take_of_lt hk]
        exact h1
      exact ClOk.kp kp_unsub (fun _ z => z) (w'.ok i a x e1 h2)
    · have hge : S2.length ≤ i := by omega
      rw [List.getElem?_append_right hge, List.getElem?_drop] at h2
      have hlt : k + (i - S2.length) < S.length := (List.getElem?_eq_some_iff.mp h2).1
      have hl2 : S2.length = k := by rw [hl, List.length_take]; omega
      have ei : k + (i - S2.length) = i := by omega
      rw [ei] at h2
      have nt : a ∉ (Pu.sub μ k).m := fun z => by
        obtain ⟨j, hj, ej⟩ := List.getElem_of_mem (show a ∈ μ.m.take k from z)
        have hj2 : (μ.m.take k)[j]? = some a := List.getElem?_eq_some_iff.mpr ⟨hj, ej⟩
        have hjk : j < k := by rw [List.length_take] at hj; omega
        rw [List.getElem?_take_of_lt hjk] at hj2
        have := ix_uniq w.nd hj2 h1
        omega
      exact ClOk.kp (w.kp fw) (fun o eo => (f.keep a o eo nt).1) (w.ok i a x h1 h2)
end
section
variable {X : Cx} {cx : CXT} {lv : Nat} {fn : Addr} {dat : FuncData} {pars : List Str} {sp : Sp} {E : L2.St → XK} {nm : Str} {p1 p2 : Pos} {a0 : Expr} {as : List Expr} {ta : TA}
theorem passG : ∀ σ, PassesAt CX0 X σ (E σ) := fun _ _ _ _ _ _ _ z => z.elim
theorem runGS {pins : List (Addr × Obj)} {σ : L2.St} {H : Hp} {s : Shared} {Q : VK} {us : List Value} {xs : List V} {E1 : XK} (F : Rb.FnG X.prog X.w X.K X.mg X.base cx lv fn dat pars sp) (gd : X.A.guards = some []) (rm : Room lv X.A)
    (bi : Binds X.K dat pars []) (ps : PassesAt cx X σ E1) (I : Inv X pins σ H s) (vx : Vals xs us) (pro : sp xs H Q E1) :
    wpAny (model X.prog X.w) X.A (call (.ref fn) us) (EP X pins σ Q) X.xe s := by
  have l2 : (us ++ []).length = pars.length := by rw [List.append_nil]; exact vx.length ▸ F.many _ _ _ _ pro
  have b := bi s us I.kIn l2
  rw [List.append_nil] at b
  refine wpAny_call (codeAny_mono (F.goes X.A X.stack s H ⟨us, []⟩ us xs Q E1 rm gd I.env0 b vx pro) ?_)
  intro res s2 fin
  match res, fin with
  | .error e, fin => exact ps pins H s e s2 I fin
  | .ok (.ret u), fin => exact I.after fin
  | .ok .next, fin => exact (fin : False).elim
  | .ok .brk, fin => exact (fin : False).elim
  | .ok .cont, fin => exact (fin : False).elim
theorem pe_callGS (F : Rb.FnG X.prog X.w X.K X.mg X.base cx lv fn dat pars sp) (gd : X.A.guards = some []) (rm : Room lv X.A) (gl : Gl X nm) (at_ : X.mg nm = some (.ref fn)) (kp : PySem.W.keepIn X.K (.ref fn) = true)
    (bi : Binds X.K dat pars []) (ps : ∀ σ, PassesAt cx X σ (E σ)) (pa : PA X (a0 :: as) ta) (ndb : (nm == ("__debug__" : Str)) = false := by decide)
    (st1 : starEach (a0 :: as) X.env = (false, eval a0 X.env) :: starEach as X.env := by rfl) (st2 : (backTo p2 (starEach as X.env)).any (·.1) = false := by rfl) :
    PE X (.Call (.Name nm p1) (a0 :: as) [] p2) (tCallS sp E ta) := by
  constructor
  intro pins s σ H Q I pre
  refine wpAny_Call_Name_kw (ld_glob I gl at_ ?_ ndb)
  exact PySem.W.callWith_K (h₀ := X.base) I.ok.mod.kin kp (thn (pa.run p2 pins s σ H _ I pre) fun us s1 ⟨xs, H1, I1, rx, q1⟩ => ⟨I1.kIn, runGS F gd rm bi (ps σ) I1 rx q1⟩) st1 st2
end
section
variable {X : Cx} {E : L2.St → XK} {cx : CXT} {lv : Nat} {fn : Addr} {dat : FuncData} {pars : List Str} {nm : Str} {p1 p2 : Pos} {a0 : Expr} {as : List Expr} {FN : FF} {fa : FA}
theorem d_callW (F : Rb.FnG X.prog X.w X.K X.mg X.base cx lv fn dat pars (spF (ct X) FN)) (gd : X.A.guards = some []) (rm : Room lv X.A) (gl : Gl X nm) (at_ : X.mg nm = some (.ref fn)) (kp : PySem.W.keepIn X.K (.ref fn) = true)
    (bi : Binds X.K dat pars []) (ps : ∀ σ, PassesAt cx X σ (E σ)) (pa : PAd X E (a0 :: as) fa) (ndb : (nm == ("__debug__" : Str)) = false := by decide)
    (s1 : starEach (a0 :: as) X.env = (false, eval a0 X.env) :: starEach as X.env := by rfl) (s2 : (backTo p2 (starEach as X.env)).any (·.1) = false := by rfl) : PEd X E (.Call (.Name nm p1) (a0 :: as) [] p2) (dCallW FN fa) := by
  refine PE.imp (pe_callGS F gd rm gl at_ kp bi ps pa ndb s1 s2) fun σ H Q ⟨μ, S, ρ, Qd, Ed, w, en, hf, q, px⟩ => ?_
  refine tR_of w en hf px fun ds S1 vs H1 μ1 h1 f1 w1 en1 px1 r1 => ?_
  exact ⟨μ1, S1, ds, Qd, Ed, w1, r1, h1, PostV.fw q f1, px1⟩
theorem d_call (k : Nat) (F : Rb.FnG X.prog X.w X.K X.mg X.base cx lv fn dat pars (spF (ct X) FN)) (gd : X.A.guards = some []) (rm : Room lv X.A) (gl : Gl X nm) (at_ : X.mg nm = some (.ref fn)) (kp : PySem.W.keepIn X.K (.ref fn) = true)
    (bi : Binds X.K dat pars []) (ps : ∀ σ, PassesAt cx X σ (E σ)) (pa : PAd X E (a0 :: as) fa) (ndb : (nm == ("__debug__" : Str)) = false := by decide)
    (s1 : starEach (a0 :: as) X.env = (false, eval a0 X.env) :: starEach as X.env := by rfl) (s2 : (backTo p2 (starEach as X.env)).any (·.1) = false := by rfl) : PEd X E (.Call (.Name nm p1) (a0 :: as) [] p2) (dCall k FN fa) := by
  refine PE.imp (pe_callGS F gd rm gl at_ kp bi ps pa ndb s1 s2) fun σ H Q ⟨μ, S, ρ, Qd, Ed, w, en, hf, q, px⟩ => ?_
  refine tR_of w en hf px fun ds S1 vs H1 μ1 h1 f1 w1 en1 px1 r1 => ?_
  obtain ⟨⟨b1, b2⟩, h1⟩ := h1
  refine ⟨sub μ1 k, S1.take k, ds, _, _, w1.sub b2, r1.sub b1, h1, fun d S2 v H2 μ2 h2 f2 w2 r2 => ?_, fun e S2 cls dx H2 μ2 h2 f2 w2 r2 => ?_⟩
  · obtain ⟨f3, w3, rfl⟩ := w1.back f2 w2 h2.1
    exact q d _ v H2 μ1 h2.2 (f1.trans f3) w3 (r2.kp kp_unsub)
  · obtain ⟨f3, w3, rfl⟩ := w1.back f2 w2 h2.1
    refine px1 e _ cls dx H2 μ1 h2.2 f3 w3 ⟨r2.1, ?_⟩
    have r3 := r2.2
    split at r3
    · exact r3
    · obtain ⟨a, fv, z1, z2, z3⟩ := r3
      exact ⟨a, fv, z1, z2, z3.kp kp_unsub⟩
end
/-! ### what a def does -/
def startD (n : Nat) (ds : List D) : Rho := ds.map some ++ List.replicate (n - ds.length) none
theorem startD_env {c : Ct} {μ : Mu} {H : Hp} {N : List Str} {vs : List V} {ds : List D} (r : RpAll c μ H vs ds) : EnvR c μ H (L2.start N vs) (startD N.length ds) := by
  refine ⟨?_, fun i d h => ?_⟩
  · unfold L2.start startD
    rw [List.length_append, List.length_append, List.length_map, List.length_map, List.length_replicate, List.length_replicate, r.length]
  · unfold L2.start
    unfold startD at h
    have hl := r.length
    by_cases hi : i < ds.length
    · rw [List.getElem?_append_left (by rw [List.length_map]; exact hi), List.getElem?_map] at h
      obtain ⟨d', e1, e2⟩ := Option.map_eq_some_iff.mp h
      cases e2
      obtain ⟨v, e3, rv⟩ := r.at e1
      refine ⟨v, ?_, rv⟩
      rw [List.getElem?_append_left (by rw [List.length_map]; omega), List.getElem?_map, e3]
      rfl
    · rw [List.getElem?_append_right (by rw [List.length_map]; omega)] at h
      have := List.mem_of_getElem? h
      cases (List.mem_replicate.mp this).2
/-- a def without cells of its own, or one whose new cells stay -/
def dDef (np n : Nat) (fb : FS) : FF := fun ds S Q Ed => ds.length = np ∧ fb (startD n ds) S { nx := fun _ S' => Q .non S', rt := Q, bk := fun _ _ => False, ct := fun _ _ => False } noE
/-- .. that may raise -/
def dDefX (np n : Nat) (fb : FS) : FF := fun ds S Q Ed => ds.length = np ∧ fb (startD n ds) S { nx := fun _ S' => Q .non S', rt := Q, bk := fun _ _ => False, ct := fun _ _ => False } Ed
/-- a value that leaves a def whose cells, from n on, are gone -/
def frz (S : Sto) (n : Nat) : D → Option D
  | .cell k => if k < n then some (.cell k) else match S[k]? with
    | some (.lst xs) => if belowAll n xs = true then some (.lst false xs) else none
    | some (.ins x fs) => if belowFs n fs = true then some (.ins x fs) else none
    | none => none
  | d => if below n d = true then some d else none
/-- a def with cells of its own -/
def dDefC (np n : Nat) (fb : FS) : FF := fun ds S Q Ed => ds.length = np ∧ fb (startD n ds) S
  { nx := fun _ S' => ((S'.take S.length).length = S.length ∧ (S'.take S.length).all (Cl.below S.length) = true) ∧ Q .non (S'.take S.length),
    rt := fun d S' => ((S'.take S.length).length = S.length ∧ (S'.take S.length).all (Cl.below S.length) = true) ∧ onSome (frz S' S.length d) fun d' => Q d' (S'.take S.length), bk := fun _ _ => False, ct := fun _ _ => False } noE
section
variable {pr : Program} {wo : World} {K : PySem.W.Frag} {mg : Str → Option Value} {b0 : Heap} {lv : Nat} {x qn : Str} {st : Stmt} {fn : Addr} {dat : FuncData} {NN pars : List Str} {fb : FS}
theorem d_fn (F : Fun K x qn st fn dat) (S : FnScope NN pars (defScope st))
    (body : ∀ (cdv : Value) (A : Around) (out : List Env) (s : Shared) (H : Hp) (E : XK), A.guards = some [] → Room lv (A.deeper (envOfC qn (defScope st) s.heap.objs.size fn cdv)) → PBd (cxOf CX0 pr wo K mg b0 NN qn (defScope st) fn cdv A out s H E).nox E0 (defBody st) fb) :
    Rb.FnG pr wo K mg b0 CX0 (lv + 1) fn dat pars (spF (ct0 K mg) (dDef pars.length NN.length fb)) := by
  refine Rb.okG F S (fun xs H Q E pro => ?_) fun cdv A out s H xs Q E gd rm pro => ⟨_, body cdv A out s H E gd rm, ?_⟩
  · obtain ⟨μ, S, ds, Qd, Ed, w, r, ⟨hl, _⟩, _⟩ := pro
    rw [r.length]
    exact hl
  · obtain ⟨μ, S, ds, Qd, Ed, w, r, ⟨hl, h⟩, q, px⟩ := pro
    exact ⟨μ, S, _, _, noE, w, startD_env r, h, ⟨fun ρ' S' σ' H' μ' hq f w' en => q .non S' .non H' μ' hq f w' .non, q, fun _ _ _ _ _ z => z.elim, fun _ _ _ _ _ z => z.elim⟩, pxNo⟩
theorem Wd.drop {c : Ct} {μ μ' : Mu} {S S' : Sto} {H H' : Hp} (w : Wd c μ S H) (f : Fw μ H μ' H') (w' : Wd c μ' S' H') (hb : (S'.take S.length).all (Cl.below S.length) = true) :
    Fw μ H μ H' ∧ Wd c μ (S'.take S.length) H' ∧ (Kp c (Pu.sub μ' S.length) H' μ H') := by
  obtain ⟨t, e⟩ := f.pre
  have em : (Pu.sub μ' S.length).m = μ.m := by
    show μ'.m.take S.length = μ.m
    rw [e, ← w.len, List.take_append_of_le_length (Nat.le_refl _), List.take_length]
  have ws := w'.sub hb
  have av2 : ∀ {a : Addr}, a ∉ (Pu.sub μ' S.length).av → a ∉ μ.av := fun n z => n (List.mem_append_right _ (by rw [f.av]; exact z))
  have kp : Kp c (Pu.sub μ' S.length) H' μ H' := ⟨fun _ _ e => e, fun _ _ e n1 n2 => ⟨e, em ▸ n1, av2 n2⟩, fun _ _ e n1 n2 => ⟨e, em ▸ n1, av2 n2⟩, fun _ _ e n1 n2 => ⟨e, em ▸ n1, av2 n2⟩, fun _ _ _ _ e n1 n2 => ⟨e, em ▸ n1, av2 n2⟩, (fun n a h => by rw [← em]; exact h), fun _ _ e => e⟩
  refine ⟨⟨⟨[], by simp⟩, rfl, fun a o ea na => ⟨(f.keep a o ea na).1, na⟩⟩, ⟨w.nd, ?_, w.ap, fun a h => ?_, fun i a x h1 h2 => ClOk.kp kp (fun _ z => z) (ws.ok i a x (by rw [em]; exact h1) h2)⟩, kp⟩
  · rw [← em]; exact ws.len
  · exact ws.avs a (List.mem_append_right _ (by rw [f.av]; exact h))
theorem d_fnC (F : Fun K x qn st fn dat) (S : FnScope NN pars (defScope st))
    (body : ∀ (cdv : Value) (A : Around) (out : List Env) (s : Shared) (H : Hp) (E : XK), A.guards = some [] → Room lv (A.deeper (envOfC qn (defScope st) s.heap.objs.size fn cdv)) → PBd (cxOf CX0 pr wo K mg b0 NN qn (defScope st) fn cdv A out s H E).nox E0 (defBody st) fb) :
    Rb.FnG pr wo K mg b0 CX0 (lv + 1) fn dat pars (spF (ct0 K mg) (dDefC pars.length NN.length fb)) := by
  refine Rb.okG F S (fun xs H Q E pro => ?_) fun cdv A out s H xs Q E gd rm pro => ⟨_, body cdv A out s H E gd rm, ?_⟩
  · obtain ⟨μ, S, ds, Qd, Ed, w, r, ⟨hl, _⟩, _⟩ := pro
    rw [r.length]
    exact hl
  · obtain ⟨μ, S, ds, Qd, Ed, w, r, ⟨hl, h⟩, q, px⟩ := pro
    refine ⟨μ, S, _, _, noE, w, startD_env r, h, ⟨fun ρ' S' σ' H' μ' hq f w' en => ?_, fun d S' v H' μ' hq f w' rv => ?_, fun _ _ _ _ _ z => z.elim, fun _ _ _ _ _ z => z.elim⟩, pxNo⟩
    · obtain ⟨f2, w2, _⟩ := w.drop f w' hq.1.2
      exact q .non _ .non H' μ hq.2 f2 w2 .non
    · obtain ⟨⟨_, hb⟩, hq⟩ := hq
      obtain ⟨f2, w2, kp⟩ := w.drop f w' hb
      obtain ⟨d', e, hq⟩ := onSome_of hq
      refine q d' _ v H' μ hq f2 w2 ?_
      unfold frz at e
      split at e
      · rename_i k
        split at e
        · rename_i hk
          cases e
          exact (rv.sub (k := S.length) (decide_eq_true hk)).kp kp
        · rename_i hk
          cases rv with
          | @cell k2 a hm =>
          have hmem := List.mem_of_getElem? hm
          have nm : a ∉ μ.m := fun z => by
            obtain ⟨t, et⟩ := f.pre
            obtain ⟨j, hj, ej⟩ := List.getElem_of_mem z
            have hj2 : μ'.m[j]? = some (μ.m[j]) := by rw [et, List.getElem?_append_left hj]; exact List.getElem?_eq_getElem hj
            rw [ej] at hj2
            have := ix_uniq w'.nd hj2 hm
            have := w.len
            omega
          split at e
          · rename_i ys e1
            split at e
            · rename_i hb2
              cases e
              obtain ⟨vs, h1, h2⟩ := w'.ok k _ _ hm e1
              exact .lst h1 nm (fun z => w'.ap _ hmem (by rw [f.av]; exact z)) (fun z => nomatch z) ((h2.sub hb2).kp kp)
            · cases e
          · rename_i y gs e1
            split at e
            · rename_i hb2
              cases e
              obtain ⟨C, dx, fv, h1, h2, h3⟩ := w'.ok k _ _ hm e1
              exact .ins h1 nm (fun z => w'.ap _ hmem (by rw [f.av]; exact z)) h2 ((h3.sub hb2).kp kp)
            · cases e
          · cases e
      · split at e
        · rename_i hb2
          cases e
          exact (rv.sub hb2).kp kp
        · cases e
end
/-- from what the law's own meaning gives to the row's claim -/
theorem endP {l : PySem.W.OpenLaw} {n lv : Nat} {q : Program} {loose : List Str} {XP : (Str → Option Value) → Heap → Prop} {YP : World → Heap → Prop} {d : DefRec} {KK : Params → PySem.W.Frag} {FL : FF} {x : Str}
    (most : l.most = some n) (few : n ≤ sizeLine) (nodef : d.params.defaults = []) (rm : Room lv callerA) (inY : ∀ (w : World) (h : Heap), YP w h → (KK w.params).In h)
    (F : ∀ (w : World) (mg : Str → Option Value) (fn : Addr) (h : Heap), (KK w.params).In h → h.Ns mainGlobals mg → mg d.name = some (.ref fn) →
      ∃ dat : FuncData, (∀ (s : Shared) (u : Value), BindsTo s dat ⟨[u], []⟩ [(x, u)]) ∧ ∀ b0 : Heap, (KK w.params).In b0 → b0.Ns mainGlobals mg → Rb.FnG l.prog w (KK w.params) mg b0 CX0 lv fn dat [x] (spF (ct0 (KK w.params) mg) FL))
    (law : ∀ ns : List Int, ns.length ≤ n → FL [.kls (ns.map D.int)] [] (fun d _ => d = .bl true) noE) :
    PySem.W.WalkO q loose XP YP l.row.toRowW d [] (fun f vs => PySem.call f vs) := by
  refine Att.attach_call most nodef ?_
  intro w s0 s1 mg mb fn o pm cd dc a us ns G Y at_ dd cdd gm ob ia ln ge
  obtain ⟨dat, bi, ok⟩ := F w mg fn _ (inY w _ Y) G.T.g gm
  refine Rb.lawG (inY w _ Y) G.T.g G.T.b G.T.builtins G.T.nolimit ge ob ia (Nat.le_trans ln few) rm ok bi fun H sq => ?_
  refine ⟨⟨[], []⟩, [], _, _, noE, ⟨List.nodup_nil, rfl, (fun _ z => nomatch z), (fun _ z => nomatch z), fun _ _ _ z => nomatch z⟩, .cons ?_ .nil, law ns ln, fun d S' v H' μ' hq _ _ r => ?_, pxNo⟩
  · rcases sq with sq | ⟨o, its, k, h1, h2, h3, h4, h5, h6⟩
    · exact .kls sq (fun z => nomatch z) (fun z => nomatch z) (RpAll.ofInts ns)
    · exact .klsK o its k h1 h2 h3 h4 h5 h6 (RpAll.ofInts ns)
  · cases (hq : d = .bl true)
    exact r.bl_inv
end Pu
namespace Pu
open PySem PySem.Spec PyProof.Rows L2
/-! ## small dicts, list(range(n)), tuple(range(n)) -/
section
variable {X : Cx} {E : L2.St → XK} {pos : Pos} {a : Expr} {fe : FE}
theorem PostV.dic {c : Ct} {μ : Mu} {S : Sto} {H : Hp} {Qd : QD} {Q : VK} (q : PostV c μ H Qd Q) (w : Wd c μ S H) {ps : List (Str × Int)} (h : Qd (.dic ps) S) {p : Addr} (hp : H p = none) : Q (.ref p) (upd H p (.dK (Rb.dicV ps))) :=
  q _ S _ _ μ h (Fw.new hp) (w.new hp) (.dic upd_same (w.fresh hp) fun z => w.avs p z hp)
theorem d_dic0 : PEd X E (.Dict [] [] pos) (dC (.dic [])) :=
  PE.imp pe_dnewK fun σ H Q ⟨μ, S, ρ, Qd, Ed, w, en, hf, q, px⟩ p hp => PostV.dic (ps := []) q w hf hp
def rngOk (n : Int) : Prop := 0 ≤ n ∧ n ≤ 16777216
theorem rngOk.of {n : Int} (h : rngOk n) : RgOk 0 n := RgOk.of_le (Int.le_refl _) h.2 (by decide) h.1
variable {p p2 p3 : Pos}
end
end Pu
namespace Pu
open PySem PySem.Spec PyProof.Rows L2
/-! ## min of a tuple or a list -/
/-! ## while -/
/-! ## remove, extend, pop() on a list that is a cell -/
/-! ## repr and == that are not looked into -/
@[irreducible] def iRepr : List D → Sto → QD → Prop := gRepr
@[irreducible] def iEqB (neg : Bool) : G2 := gEqB neg
abbrev iEq : G2 := iEqB false
abbrev iNe : G2 := iEqB true
theorem iRepr_of {ds : List D} {S : Sto} {Q : QD} (h : gRepr ds S Q) : iRepr ds S Q := by
  unfold iRepr
  exact h
theorem iEqB_of {neg : Bool} {x y : D} {S : Sto} {Q : QD} (h : gEqB neg x y S Q) : iEqB neg x y S Q := by
  unfold iEqB
  exact h
theorem eq_str {neg : Bool} {a b : Str} {S : Sto} {Q : QD} (q : Q (.bl (nb neg (decide (a = b)))) S) : iEqB neg (.str a) (.str b) S Q := iEqB_of q
theorem eq_int {neg : Bool} {a b : Int} {S : Sto} {Q : QD} (q : Q (.bl (nb neg (decide (a = b)))) S) : iEqB neg (.int a) (.int b) S Q := iEqB_of q
theorem ne_str {neg : Bool} {a b : Str} {S : Sto} {Q : QD} (e : a = b) (q : Q (.bl (nb neg true)) S) : iEqB neg (.str a) (.str b) S Q := eq_str (by rw [decide_eq_true e]; exact q)
theorem ne_int {neg : Bool} {a b : Int} {S : Sto} {Q : QD} (e : a = b) (q : Q (.bl (nb neg true)) S) : iEqB neg (.int a) (.int b) S Q := eq_int (by rw [decide_eq_true e]; exact q)
section
variable {X : Cx}
theorem c_irepr (hg : X.A.guards = some []) (hu : X.A.units + 64 < cLine) : CallR X (.builtin "repr") (rDs (ct X) iRepr) := by
  unfold iRepr
  exact c_repr hg hu
theorem o_ieq (hu : X.A.units + 64 < cLine) : OpR X (compareOp .Eq) (rD2 (ct X) iEq) := by
  unfold iEq iEqB
  exact o_eq hu
theorem o_ine (hu : X.A.units + 64 < cLine) : OpR X (compareOp .NotEq) (rD2 (ct X) iNe) := by
  unfold iNe iEqB
  exact o_ne hu
end
/-! ## enumerate of a tuple or of a list -/
end Pu
namespace Pu
open PySem PySem.Spec PyProof.Rows L2
/-! ## instances: fields, methods, properties, new ones -/
def insAt : Option Cl → Option (Str × List (Str × D))
  | some (.ins x fs) => some (x, fs)
  | _ => none
def insOf (S : Sto) : D → Option (Str × List (Str × D))
  | .cell n => insAt S[n]?
  | .ins x fs => some (x, fs)
  | _ => none
/-- the field by its name -/
def lookF (f : Str) : List (Str × D) → Option D
  | [] => none
  | (g, d) :: r => if g = f then some d else lookF f r
def putD (f : Str) (v : D) : List (Str × D) → List (Str × D)
  | [] => [(f, v)]
  | (g, x) :: r => if g = f then (g, v) :: r else (g, x) :: putD f v r
section
variable {c : Ct} {μ : Mu} {S : Sto} {H : Hp} {v : V} {d : D} {f : Str}
theorem RpFs.look : ∀ {fv : List (Str × V)} {fs : List (Str × D)} {d : D}, RpFs c μ H fv fs → lookF f fs = some d → ∃ v, fv.lookup f = some v ∧ Rp c μ H v d
  | _, _, _, .nil, e => by cases e
  | _, _, _, .cons (f := g) h r, e => by
    unfold lookF at e
    by_cases z : g = f
    · rw [if_pos z] at e
      cases e
      refine ⟨_, ?_, h⟩
      rw [List.lookup_cons, show (f == g) = true by rw [z]; exact beq_self_eq_true f]
    · rw [if_neg z] at e
      obtain ⟨v, e1, e2⟩ := RpFs.look r e
      refine ⟨v, ?_, e2⟩
      rw [List.lookup_cons, show (f == g) = false by exact beq_eq_false_iff_ne.mpr fun q => z q.symm]
      exact e1
theorem RpFs.none : ∀ {fv : List (Str × V)} {fs : List (Str × D)}, RpFs c μ H fv fs → lookF f fs = none → fv.lookup f = none
  | _, _, .nil, _ => rfl
  | _, _, .cons (f := g) h r, e => by
    unfold lookF at e
    by_cases z : g = f
    · rw [if_pos z] at e
      cases e
    · rw [if_neg z] at e
      rw [List.lookup_cons, show (f == g) = false by exact beq_eq_false_iff_ne.mpr fun q => z q.symm]
      exact RpFs.none r e
theorem RpFs.length : ∀ {fv : List (Str × V)} {fs : List (Str × D)}, RpFs c μ H fv fs → fv.length = fs.length
  | _, _, .nil => rfl
  | _, _, .cons _ r => congrArg Nat.succ (RpFs.length r)
theorem RpFs.put {y : V} {e : D} (ry : Rp c μ H y e) : ∀ {fv : List (Str × V)} {fs : List (Str × D)}, RpFs c μ H fv fs → RpFs c μ H (putF f y fv) (putD f e fs)
  | _, _, .nil => .cons ry .nil
  | _, _, .cons (f := g) h r => by
    unfold putF putD
    by_cases z : g = f
    · rw [if_pos z, if_pos z]
      exact .cons ry r
    · rw [if_neg z, if_neg z]
      exact .cons h (RpFs.put ry r)
theorem RpFs.fw {μ' : Mu} {H' : Hp} {fv : List (Str × V)} {fs : List (Str × D)} (r : RpFs c μ H fv fs) (w : Wd c μ S H) (g : Fw μ H μ' H') : RpFs c μ' H' fv fs := r.kp (w.kp g)
end
/-! ### fields -/
def dFld (xs : List Str) (f : Str) (fo : FE) : FE := fun ρ S Q Ed => fo ρ S (fun d S1 => onSome (insOf S1 d) fun cf => xs.contains cf.1 = true ∧ onSome (lookF f cf.2) fun v => Q v S1) Ed
section
variable {X : Cx} {E : L2.St → XK} {E1 : XK} {e o value : Expr} {fo fe : FE} {f : Str} {xs : List Str} {pos pos' : Pos}
theorem mem_of_contains {x : Str} (h : xs.contains x = true) : x ∈ xs := List.contains_iff_mem.mp h
end
/-! ### a constant of the class -/
/-! ### methods: the def by the object's class -/
end Pu
namespace Pu
open PySem PySem.Spec PyProof.Rows L2
/-! ## values without a held error -/
mutual
def noX : D → Bool
  | .exc _ _ => false
  | .tup xs => noXs xs
  | .lst _ xs => noXs xs
  | .kls xs => noXs xs
  | .ins _ fs => noXf fs
  | _ => true
def noXs : List D → Bool
  | [] => true
  | x :: xs => noX x && noXs xs
def noXf : List (Str × D) → Bool
  | [] => true
  | (_, x) :: xs => noX x && noXf xs
end
/-- the same row, more errors held -/
structure CtLe (c c' : Ct) : Prop where
  K : c.K = c'.K
  mg : c.mg = c'.mg
  hx : ∀ a z, c.hx a = some z → c'.hx a = some z
section
variable {c c' : Ct} {μ : Mu} {H : Hp}
mutual
theorem Rp.ct (k : CtLe c c') : ∀ {v : V} {d : D}, Rp c μ H v d → Rp c' μ H v d
  | _, _, .non => .non
  | _, _, .bl b => .bl b
  | _, _, .int i => .int i
  | _, _, .str x => .str x
  | _, _, .tup h r => .tup h (RpAll.ct k r)
  | _, _, .lst h n1 n2 n3 r => .lst h n1 n2 n3 (RpAll.ct k r)
  | _, _, .kls h n1 n2 r => .kls h n1 n2 (RpAll.ct k r)
  | _, _, .klsK o its n h1 h2 h3 h4 h5 h6 r => .klsK o its n (k.K ▸ h1) h2 h3 h4 h5 h6 (RpAll.ct k r)
  | _, _, .dic h n n2 => .dic h n n2
  | _, _, .cell h => .cell h
  | _, _, .glo h r => .glo (k.mg ▸ h) r
  | _, _, .ty n => .ty n
  | _, _, .ins h n n2 g r => .ins h n n2 (k.mg ▸ g) (RpFs.ct k r)
  | _, _, .exc0 h g => .exc0 (k.hx _ _ h) (k.mg ▸ g)
  | _, _, .exc1 h g e r => .exc1 (k.hx _ _ h) (k.mg ▸ g) e (RpFs.ct k r)
theorem RpAll.ct (k : CtLe c c') : ∀ {vs : List V} {ds : List D}, RpAll c μ H vs ds → RpAll c' μ H vs ds
  | _, _, .nil => .nil
  | _, _, .cons h r => .cons (Rp.ct k h) (RpAll.ct k r)
theorem RpFs.ct (k : CtLe c c') : ∀ {vs : List (Str × V)} {ds : List (Str × D)}, RpFs c μ H vs ds → RpFs c' μ H vs ds
  | _, _, .nil => .nil
  | _, _, .cons h r => .cons (Rp.ct k h) (RpFs.ct k r)
end
/-! back, where no held error is mentioned -/
mutual
theorem Rp.un (eK : c'.K = c.K) (eg : c'.mg = c.mg) : ∀ {v : V} {d : D}, Rp c' μ H v d → noX d = true → Rp c μ H v d
  | _, _, .non, _ => .non
  | _, _, .bl b, _ => .bl b
  | _, _, .int i, _ => .int i
  | _, _, .str x, _ => .str x
  | _, _, .tup h r, n => .tup h (RpAll.un eK eg r n)
  | _, _, .lst h n1 n2 n3 r, n => .lst h n1 n2 n3 (RpAll.un eK eg r n)
  | _, _, .kls h n1 n2 r, n => .kls h n1 n2 (RpAll.un eK eg r n)
  | _, _, .klsK o its k h1 h2 h3 h4 h5 h6 r, n => .klsK o its k (eK ▸ h1) h2 h3 h4 h5 h6 (RpAll.un eK eg r n)
  | _, _, .dic h n n2, _ => .dic h n n2
  | _, _, .cell h, _ => .cell h
  | _, _, .glo h r, _ => .glo (eg ▸ h) r
  | _, _, .ty n, _ => .ty n
  | _, _, .ins h n1 n2 g r, n => .ins h n1 n2 (eg ▸ g) (RpFs.un eK eg r n)
  | _, _, .exc0 _ _, n => nomatch n
  | _, _, .exc1 _ _ _ _, n => nomatch n
theorem RpAll.un (eK : c'.K = c.K) (eg : c'.mg = c.mg) : ∀ {vs : List V} {ds : List D}, RpAll c' μ H vs ds → noXs ds = true → RpAll c μ H vs ds
  | _, _, .nil, _ => .nil
  | _, _, .cons h r, n => have n' := Bool.and_eq_true_iff.mp n; .cons (Rp.un eK eg h n'.1) (RpAll.un eK eg r n'.2)
theorem RpFs.un (eK : c'.K = c.K) (eg : c'.mg = c.mg) : ∀ {vs : List (Str × V)} {ds : List (Str × D)}, RpFs c' μ H vs ds → noXf ds = true → RpFs c μ H vs ds
  | _, _, .nil, _ => .nil
  | _, _, .cons h r, n => have n' := Bool.and_eq_true_iff.mp n; .cons (Rp.un eK eg h n'.1) (RpFs.un eK eg r n'.2)
end
/-! where none is held, none is mentioned -/
mutual
theorem Rp.free (no : ∀ a, c.hx a = none) : ∀ {v : V} {d : D}, Rp c μ H v d → noX d = true
  | _, _, .non => rfl
  | _, _, .bl b => rfl
  | _, _, .int i => rfl
  | _, _, .str x => rfl
  | _, _, .tup h r => RpAll.free no r
  | _, _, .lst h n1 n2 n3 r => RpAll.free no r
  | _, _, .kls h n1 n2 r => RpAll.free no r
  | _, _, .klsK o its k h1 h2 h3 h4 h5 h6 r => RpAll.free no r
  | _, _, .dic h n n2 => rfl
  | _, _, .cell h => rfl
  | _, _, .glo h r => rfl
  | _, _, .ty n => rfl
  | _, _, .ins h n1 n2 g r => RpFs.free no r
  | _, _, .exc0 h _ => by rw [no] at h; cases h
  | _, _, .exc1 h _ _ _ => by rw [no] at h; cases h
theorem RpAll.free (no : ∀ a, c.hx a = none) : ∀ {vs : List V} {ds : List D}, RpAll c μ H vs ds → noXs ds = true
  | _, _, .nil => rfl
  | _, _, .cons h r => Bool.and_eq_true_iff.mpr ⟨Rp.free no h, RpAll.free no r⟩
theorem RpFs.free (no : ∀ a, c.hx a = none) : ∀ {vs : List (Str × V)} {ds : List (Str × D)}, RpFs c μ H vs ds → noXf ds = true
  | _, _, .nil => rfl
  | _, _, .cons h r => Bool.and_eq_true_iff.mpr ⟨Rp.free no h, RpFs.free no r⟩
end
end
section
variable {c c' : Ct} {μ μ' : Mu} {S : Sto} {H H' : Hp} {σ : L2.St} {ρ : Rho}
theorem Wd.ct (k : CtLe c c') (w : Wd c μ S H) : Wd c' μ S H := ⟨w.nd, w.len, w.ap, w.avs, fun i a x h1 h2 => by
  have := w.ok i a x h1 h2
  cases x with
  | lst ds =>
    obtain ⟨vs, e, r⟩ := this
    exact ⟨vs, e, r.ct k⟩
  | ins y fs =>
    obtain ⟨C, dx, fv, e, g, r⟩ := this
    exact ⟨C, dx, fv, e, k.mg ▸ g, r.ct k⟩⟩
theorem EnvR.ct (k : CtLe c c') (en : EnvR c μ H σ ρ) : EnvR c' μ H σ ρ := ⟨en.len, fun i d h => let ⟨v, e, r⟩ := en.ok i d h; ⟨v, e, r.ct k⟩⟩
/-- the cells as they were before -/
theorem Wd.un (eK : c'.K = c.K) (eg : c'.mg = c.mg) (no : ∀ a, c.hx a = none) (w0 : Wd c μ S H) (w : Wd c' μ' S H') : Wd c μ' S H' := ⟨w.nd, w.len, w.ap, w.avs, fun i a x h1 h2 => by
  obtain ⟨a0, e0, o0⟩ := w0.atCell h2
  have := w.ok i a x h1 h2
  cases x with
  | lst ds =>
    obtain ⟨vs0, _, r0⟩ := o0
    obtain ⟨vs, e, r⟩ := this
    exact ⟨vs, e, r.un eK eg (r0.free no)⟩
  | ins y fs =>
    obtain ⟨_, _, fv0, _, _, r0⟩ := o0
    obtain ⟨C, dx, fv, e, g, r⟩ := this
    exact ⟨C, dx, fv, e, eg ▸ g, r.un eK eg (r0.free no)⟩⟩
/-- the slots as they were before, or without a held error -/
def sameX : Rho → Rho → Prop
  | [], [] => True
  | x :: r, y :: s => (x = y ∨ y = none ∨ ∃ d, y = some d ∧ noX d = true) ∧ sameX r s
  | _, _ => False
theorem sameX_at : ∀ {ρ ρ' : Rho} {i : Nat} {d : D}, sameX ρ ρ' → ρ'[i]? = some (some d) → ρ[i]? = some (some d) ∨ noX d = true
  | [], [], i, d, _, h => by simp at h
  | x :: r, y :: s, 0, d, h, e => by
    have e' : y = some d := by simpa using e
    rcases h.1 with z | z | ⟨d', z, n⟩
    · exact .inl (by rw [z, e']; rfl)
    · rw [z] at e'; cases e'
    · rw [z] at e'; cases e'; exact .inr n
  | x :: r, y :: s, i + 1, d, h, e => by
    rw [List.getElem?_cons_succ] at e ⊢
    exact sameX_at h.2 e
  | [], _ :: _, _, _, h, _ => h.elim
  | _ :: _, [], _, _, h, _ => h.elim
theorem EnvR.un {ρ0 : Rho} {σ0 : L2.St} {μ0 : Mu} {H0 : Hp} (eK : c'.K = c.K) (eg : c'.mg = c.mg) (no : ∀ a, c.hx a = none) (en0 : EnvR c μ0 H0 σ0 ρ0) (s : sameX ρ0 ρ) (en : EnvR c' μ H σ ρ) : EnvR c μ H σ ρ := ⟨en.len, fun i d h => by
  obtain ⟨v, e, r⟩ := en.ok i d h
  refine ⟨v, e, r.un eK eg ?_⟩
  rcases sameX_at s h with z | z
  · obtain ⟨_, _, r0⟩ := en0.ok i d z
    exact r0.free no
  · exact z⟩
theorem EnvR.unset {i : Nat} (en : EnvR c μ H σ ρ) : EnvR c μ H (σ.set i none) (ρ.set i none) := by
  refine ⟨by rw [List.length_set, List.length_set]; exact en.len, fun j x h => ?_⟩
  by_cases e : i = j
  · subst e
    have hl : i < ρ.length := by
      have := (List.getElem?_eq_some_iff.mp h).1
      rwa [List.length_set] at this
    rw [List.getElem?_set_self hl] at h
    cases h
  · rw [List.getElem?_set_ne e] at h ⊢
    exact en.ok j x h
end
/-! ## raise -/
def dRaise (x f : Str) (fe : FE) : FS := fun ρ S De Ed => fe ρ S (fun d S1 => Ed (x, [(f, d)]) S1) Ed
/-! ## statements in a try: what leaves by an error leans on the slots at their beginning -/
def tSx (c : Ct) (E : L2.St → XK) (f : FS) : TS := fun D σ H => ∃ μ S ρ De Ed, Wd c μ S H ∧ EnvR c μ H σ ρ ∧ f ρ S De Ed ∧ EndsOk c μ H De D ∧ PX c μ H Ed (E σ)
abbrev PSx (X : Cx) (E : L2.St → XK) (st : Stmt) (f : FS) : Prop := PS X st (tSx (ct X) E f)
abbrev PBx (X : Cx) (E : L2.St → XK) (sts : List Stmt) (f : FS) : Prop := PSs X sts (tSx (ct X) E f)
section
variable {X : Cx} {E : L2.St → XK} {st : Stmt} {rest a b : List Stmt} {f g : FS} {e c : Expr} {fe : FE} {t : FT} {pos : Pos}
theorem x_last (h1 : PSx X E st f) : PBx X E [st] f := pss_one h1
theorem x_ret (he : PEd X E e fe) : PSx X E (.Return (some e) pos) (dRet fe) := by
  refine PS.imp (ps_ret he) fun D σ H ⟨μ, S, ρ, De, Ed, w, en, hf, k, px⟩ => ?_
  exact tR_of w en hf px fun x S1 v H1 μ1 h1 f1 w1 en1 px1 r1 => k.rt x S1 v H1 μ1 h1 f1 w1 r1
end
/-! ## try: .. except C as n: .. -/
def lookB : List (Str × Bool) → Str → Option Bool
  | [], _ => none
  | (y, b) :: r, x => if y = x then some b else lookB r x
def dTry (i : Nat) (tab : List (Str × Bool)) (fb fh : FS) : FS := fun ρ S De Ed => fb ρ S De fun er S1 => onSome (lookB tab er.1) fun b =>
  if b = true then fh (ρ.set i (some (.exc er.1 er.2))) S1 { nx := fun ρ' S2 => (S2 = S1 ∧ sameX ρ (ρ'.set i none)) ∧ De.nx (ρ'.set i none) S2, rt := fun d S2 => (S2 = S1 ∧ noX d = true) ∧ De.rt d S2, bk := fun _ _ => False, ct := fun _ _ => False } noE
  else Ed er S1
def cH (K : PySem.W.Frag) (mg : Str → Option Value) (a : Addr) (cls : Value) (d : Option Addr) : Ct := ⟨K, mg, fun b => if a = b then some (cls, d) else none⟩
theorem ct_suite {X : Cx} {a : Addr} {oe : Obj} {pn : List (Addr × Obj)} : ct (X.suite a ((a, oe) :: pn)) = cH X.K X.mg a oe.cls oe.dict := by
  unfold ct cH
  congr 1
theorem ct_calm {X : Cx} (h : X.calm = true) : ct X = ct0 X.K X.mg := by
  unfold ct
  rw [if_pos h]
section
variable {X : Cx} {E : XK} {x n : Str} {cv : Value} {i : Nat} {tab : List (Str × Bool)} {body suite : List Stmt} {b0 : Stmt} {np pos p2 : Pos} {fb fh : FS}
theorem d_try (hcal : X.calm = true) (hs : X.stack = X.env :: X.outer) (hf : X.env.frame = some X.env.locals) (hN : X.N.Nodup) (hi : X.N[i]? = some n) (hln : X.env.kindOf n = some .local) (hc : Names X x cv) (tk : Takes X (fun cls d _ H => E cls d H))
    (ht : ∀ y b, lookB tab y = some b → ∀ cls, X.mg y = some cls → PySem.W.exmOne X.K cls cv = some b)
    (hb : ∀ (W : WX) (pn : List (Addr × Obj)) (xe : Value → Shared → Prop), Takes (X.tr pn xe) W → PassesOwn (model X.prog X.w) X.A X.env xe → PBx (X.tr pn xe) (WE W) body fb)
    (hsu : ∀ (a : Addr) (oe : Obj) (pn : List (Addr × Obj)), (∃ vs, oe.data = .fields vs) → PBd (X.suite a ((a, oe) :: pn)) E0 (b0 :: suite) fh) :
    PSd X E (.Try body [.ExceptHandler (some (.Name x np)) (some n) (b0 :: suite) p2] [] [] pos) (dTry i tab fb fh) := by
  have ec := ct_calm hcal
  have e1 : ∀ (pn : List (Addr × Obj)) (xe : Value → Shared → Prop), ct (X.tr pn xe) = ct X := fun pn xe => by
    rw [ec]
    exact ct_calm (X := X.tr pn xe) hcal
  have no : ∀ a, (ct X).hx a = none := fun a => by rw [ec]
  refine PS.imp (ps_try_as (i := i) (tb := fun W => tSx (ct X) (WE W) fb) (ts := fun a cls d => tS (cH X.K X.mg a cls d) E0 fh) (Wout := fun cls d _ H => E cls d H) hs hf hN hi hln hc tk (fun W pn xe tk po => ?_) (fun a oe cls d pn hz hf => ?_)) fun D σ H ⟨μ, S, ρ, De, Ed, w, en, hff, k, px⟩ => ?_
  · have this : PSs (X.tr pn xe) body (tSx (ct (X.tr pn xe)) (WE W) fb) := hb W pn xe tk po
    have e := e1 pn xe
    generalize ct (X.tr pn xe) = c1 at this e
    subst e
    exact this
  · have this : PSs (X.suite a ((a, oe) :: pn)) (b0 :: suite) (tS (ct (X.suite a ((a, oe) :: pn))) E0 fh) := hsu a oe pn hf
    have e : ct (X.suite a ((a, oe) :: pn)) = cH X.K X.mg a cls d := by rw [ct_suite, hz.1, hz.2]
    generalize ct (X.suite a ((a, oe) :: pn)) = c1 at this e
    subst e
    exact this
  refine ⟨μ, S, ρ, De, _, w, en, hff, k, fun er S1 cls dx H1 μ1 hE f1 w1 rx => ?_⟩
  obtain ⟨b, eb, hE⟩ := onSome_of hE
  refine ⟨b, ht _ b eb cls rx.1, fun hb1 a na => ?_, fun hb0 => ?_⟩
  · rw [if_pos hb1] at hE
    have le : CtLe (ct X) (cH X.K X.mg a cls dx) := ⟨rfl, rfl, fun b z h => by rw [no] at h; cases h⟩
    have en1 := en.fw w f1
    have rexc : Rp (cH X.K X.mg a cls dx) μ1 H1 (.ref a) (.exc er.1 er.2) := by
      obtain ⟨xn, fs⟩ := er
      obtain ⟨g, r⟩ := rx
      have hh : (cH X.K X.mg a cls dx).hx a = some (cls, dx) := if_pos rfl
      cases fs with
      | nil =>
        have r' : dx = none := r
        rw [r'] at hh ⊢
        exact .exc0 hh g
      | cons f fs =>
        obtain ⟨d1, fv, r1, r2, r3⟩ := r
        rw [r1] at hh ⊢
        exact .exc1 hh g r2 (r3.ct (r1 ▸ le))
    refine ⟨μ1, S1, _, _, noE, w1.ct le, (en1.ct le).set rexc, hE, ⟨fun ρ' S' σ' H' μ' hq fw w' en' => ?_, fun d S' v H' μ' hq fw w' r => ?_, fun _ _ _ _ _ z => z.elim, fun _ _ _ _ _ z => z.elim⟩, pxNo⟩
    · obtain ⟨⟨rfl, sx⟩, hn⟩ := hq
      exact k.nx _ S' _ H' μ' hn (f1.trans fw) (Wd.un (c' := cH X.K X.mg a cls dx) rfl rfl no w1 w') (EnvR.un (c' := cH X.K X.mg a cls dx) rfl rfl no en1 sx en'.unset)
    · obtain ⟨⟨rfl, nx⟩, hn⟩ := hq
      exact k.rt d S' v H' μ' hn (f1.trans fw) (Wd.un (c' := cH X.K X.mg a cls dx) rfl rfl no w1 w') (Rp.un (c := ct X) (c' := cH X.K X.mg a cls dx) rfl rfl r nx)
  · rw [if_neg (by rw [hb0]; exact Bool.false_ne_true)] at hE
    exact px er S1 cls dx H1 μ1 hE f1 w1 rx
end
end Pu
namespace Pu
open PySem PySem.Spec PyProof.Rows L2
/-! ## what a handler asks of its error -/
def onExc (o : Option D) (k : Str → List (Str × D) → Prop) : Prop := match o with | some (.exc x fs) => k x fs | _ => False
theorem onExc_of {o : Option D} {k : Str → List (Str × D) → Prop} (h : onExc o k) : ∃ x fs, o = some (.exc x fs) ∧ k x fs := by
  match o, h with
  | some (.exc x fs), h => exact ⟨x, fs, rfl, h⟩
/-- e.f -/
def dXf (xs : List Str) (i : Nat) (f : Str) : FE := fun ρ S Q _ => onExc (getV ρ i) fun x fs => xs.contains x = true ∧ onSome (lookF f fs) fun v => Q v S
theorem rp_exc_inv {X : Cx} {a : Addr} {oe : Obj} {pn : List (Addr × Obj)} {μ : Mu} {H : Hp} {v : V} {x : Str} {fs : List (Str × D)} (r : Rp (ct (X.suite a ((a, oe) :: pn))) μ H v (.exc x fs)) :
    v = .ref a ∧ X.mg x = some oe.cls ∧ ((oe.dict = none ∧ fs = []) ∨ ∃ dx fv, oe.dict = some dx ∧ H dx = some (.xd fv) ∧ RpFs (ct (X.suite a ((a, oe) :: pn))) μ H fv fs) := by
  cases r with
  | @exc0 b _ cls hh g =>
    rw [ct_suite] at hh
    unfold cH at hh
    dsimp only at hh
    by_cases e : a = b
    · rw [if_pos e] at hh
      have hh' := Prod.mk.inj (Option.some.inj hh)
      exact ⟨by rw [e], by rw [hh'.1]; exact g, .inl ⟨hh'.2, rfl⟩⟩
    · rw [if_neg e] at hh
      cases hh
  | @exc1 b dx _ cls fv _ hh g hd rf =>
    rw [ct_suite] at hh
    unfold cH at hh
    dsimp only at hh
    by_cases e : a = b
    · rw [if_pos e] at hh
      have hh' := Prod.mk.inj (Option.some.inj hh)
      exact ⟨by rw [e], by rw [hh'.1]; exact g, .inr ⟨dx, fv, hh'.2, hd, rf⟩⟩
    · rw [if_neg e] at hh
      cases hh
section
variable {X : Cx} {E : L2.St → XK} {a : Addr} {oe : Obj} {pn : List (Addr × Obj)} {i : Nat} {f : Str} {xs : List Str} {e : Expr} {pos : Pos}
theorem d_xf (hfd : ∃ vs, oe.data = .fields vs) (hT : ∀ y ∈ xs, ∃ C, X.mg y = some (.ref C) ∧ XfC X.K C ∧ PySem.W.findIn X.K (.ref C) f = some none) (he : PE (X.suite a ((a, oe) :: pn)) e (tVar i))
    (hab : attributeBase e f X.env (eval e X.env) = eval e X.env := by rfl) : PEd (X.suite a ((a, oe) :: pn)) E (.Attribute e f pos) (dXf xs i f) := by
  refine ⟨fun pins s σ H Q I ⟨μ, S, ρ, Qd, Ed, w, en, hf, q, px⟩ => ?_⟩
  obtain ⟨x, fs, e1, hc, h1⟩ := onExc_of hf
  obtain ⟨d, e2, hq⟩ := onSome_of h1
  obtain ⟨v, ev, rv⟩ := en.ok i _ (getV_some e1)
  obtain ⟨rfl, g, alt⟩ := rp_exc_inv rv
  obtain ⟨C, gC, T, hno⟩ := hT x (mem_of_contains hc)
  have ec : oe.cls = .ref C := by rw [g] at gC; exact Option.some.inj gC
  rcases alt with ⟨_, rfl⟩ | ⟨dx, fv, ed, hd, rf⟩
  · cases e2
  · obtain ⟨y, ey, ry⟩ := rf.look e2
    refine (pe_xf (cls := oe.cls) (d := oe.dict) T hno ⟨rfl, rfl⟩ hfd he hab).run pins s σ H Q I ?_
    exact ⟨.ref a, ev, rfl, ec, dx, fv, y, ed, hd, ey, q d S y H μ hq Fw.refl w ry⟩
end
/-! ### isinstance -/
/-- of a class of errors x and a class named y (of the row or built in): whether y is above x -/
def lookX : List (Str × Str × Bool) → Str → Str → Option Bool
  | [], _, _ => none
  | (x, y, b) :: r, u, v => if x = u ∧ y = v then some b else lookX r u v
theorem lookX_mem : ∀ {tab : List (Str × Str × Bool)} {u v : Str} {b : Bool}, lookX tab u v = some b → (u, v, b) ∈ tab
  | [], _, _, _, h => by cases h
  | (x, y, c) :: r, u, v, b, h => by
    unfold lookX at h
    by_cases z : x = u ∧ y = v
    · rw [if_pos z] at h
      cases h
      obtain ⟨rfl, rfl⟩ := z
      exact List.mem_cons_self
    · rw [if_neg z] at h
      exact List.mem_cons_of_mem _ (lookX_mem h)
/-- what isinstance asks of a class of errors -/
structure OwnI (K : PySem.W.Frag) (C : Addr) : Prop where
  xf : XfC K C
  is : PySem.W.isClsIn K C = true
  cl : PySem.W.findIn K (.ref C) "__class__" = some (some (.builtin "object.__class__"))
  cg : PySem.W.specialIn K (.builtin "object.__class__") "__get__" = some (some (.builtin "getset_descriptor.__get__"))
  ct : PySem.W.takesIn K (.builtin "object.__class__") = some true
  co : PySem.W.mroIn K C (.type "object") = some true
def clsV (mg : Str → Option Value) (y : Str) (u : Value) : Prop := mg y = some u ∨ (mg y = none ∧ bootBuiltins y = some u)
def XI (K : PySem.W.Frag) (mg : Str → Option Value) (x y : Str) (b : Bool) : Prop := ∃ C, mg x = some (.ref C) ∧ OwnI K C ∧ ∀ u, clsV mg y u → PySem.W.kitOne K (.ref C) u = some b
/-- isinstance(e, C) -/
def dIsX (tab : List (Str × Str × Bool)) (i : Nat) (y : Str) : FE := fun ρ S Q _ => onExc (getV ρ i) fun x _ => onSome (lookX tab x y) fun b => Q (.bl b) S
def anyX (tab : List (Str × Str × Bool)) (x : Str) : List Str → Option Bool
  | [] => some false
  | y :: r => match lookX tab x y with | some true => some true | some false => anyX tab x r | none => none
/-- isinstance(e, (C, ..)) -/
def dIsXT (tab : List (Str × Str × Bool)) (i : Nat) (ys : List Str) : FE := fun ρ S Q _ => onExc (getV ρ i) fun x _ => onSome (anyX tab x ys) fun b => Q (.bl b) S
def rIsY (K : PySem.W.Frag) (a : Addr) (oe : Obj) : List V → Hp → VK → Prop := fun xs H Q => ∃ (C : Addr) (cv : V) (b : Bool), oe.cls = .ref C ∧ OwnI K C ∧ (oe.dict = none ∨ ∃ dx fv, oe.dict = some dx ∧ H dx = some (.xd fv)) ∧ xs = [.ref a, cv] ∧
  ((∃ u, ClsV cv u ∧ PySem.W.kitOne K (.ref C) u = some b) ∨ ∃ tp cs us, cv = .ref tp ∧ H tp = some (.tup cs) ∧ Paired ClsV cs us ∧ PySem.W.kitAny K (.ref C) us = some b) ∧ Q (.bl b) H
theorem call_isY {X : Cx} {a : Addr} {oe : Obj} {pn : List (Addr × Obj)} (hfd : ∃ vs, oe.data = .fields vs) : CallR (X.suite a ((a, oe) :: pn)) (.builtin "isinstance") (rIsY X.K a oe) := by
  intro pins s σ H xs us Q I r h
  obtain ⟨C, cv, b, ecl, W, hdict, rfl, alt, q⟩ := h
  cases r with
  | cons ra rr =>
    cases rr with
    | cons rt rr =>
      cases rr
      cases ra
      obtain ⟨hget, _⟩ := I.pin (a, oe) (List.mem_append.mpr (.inl List.mem_cons_self))
      obtain ⟨vs, hv⟩ := hfd
      have noc : PySem.W.notCls oe = true := by unfold PySem.W.notCls; rw [hv] <;> rfl
      have J : ∃ od, PySem.W.InstAt s.heap a oe C od := by
        rcases hdict with ed | ⟨dx, fv, ed, hx⟩
        · exact ⟨none, hget, ecl, noc, by rw [ed]; trivial⟩
        · have ho : ObjOk X.prog X.w H s.heap dx (.xd fv) := I.hok dx _ hx
          obtain ⟨mm, hns, _⟩ := ho
          obtain ⟨od, ho, _⟩ := lookIn_ns hns
          exact ⟨some od, hget, ecl, noc, by rw [ed]; exact ho⟩
      obtain ⟨od, J⟩ := J
      have Z := PySem.W.kitx_exc (x := a) (ox := oe) (od := od) W.is W.xf.ga W.xf.gg W.xf.exC W.cl W.cg W.ct W.co
      rcases alt with ⟨u, cu, e⟩ | ⟨tp, cs, uu, rfl, ht, pr, e⟩
      · rw [cu.eq rt]
        exact PySem.W.kia_one Z I.kIn J e (fun z => nomatch z) fun tk => ⟨.bl b, H, I.kept (t' := tk) fun _ _ z => z, rfl, q⟩
      · cases rt
        have hto : ObjOk X.prog X.w H s.heap tp (.tup cs) := I.hok tp _ ht
        obtain ⟨_, ws, rv, ⟨o, hoc, hcl, n, hdat⟩⟩ := hto
        have eu := ClsV.all pr rv
        subst eu
        obtain ⟨oc, odd, oda, osl⟩ := o
        dsimp only at hcl hdat
        subst hcl hdat
        exact PySem.W.kia_tup Z I.kIn J hoc e (fun z => nomatch z) fun tk => ⟨.bl b, H, I.kept (t' := tk) fun _ _ z => z, rfl, q⟩
/-- a class by its name, in an expression -/
structure ClE (X : Cx) (e : Expr) (y : Str) (u : Value) : Prop where
  ex : ∃ v, PE X e (tC v) ∧ ClsV v u
  at_ : clsV X.mg y u
theorem cl_own {X : Cx} {y : Str} {C : Addr} {pos : Pos} (hg : Gl X y) (hm : X.mg y = some (.ref C)) (hd : (y == ("__debug__" : Str)) = false := by decide) : ClE X (.Name y pos) y (.ref C) :=
  ⟨⟨.ref C, pe_glob hg hm (show RelV (V.ref C) _ from rfl) hd, .own C⟩, .inl hm⟩
theorem cl_ty {X : Cx} {y : Str} {n : String} {pos : Pos} (hg : Gl X y) (hm : X.mg y = none) (hv : bootBuiltins y = some (.type n)) (hn : y ≠ "__name__" := by decide) (hd : (y == ("__debug__" : Str)) = false := by decide) : ClE X (.Name y pos) y (.type n) :=
  ⟨⟨.ty n, pe_bltn hg hm hv (show RelV (V.ty n) _ from rfl) hn hd, .ty n⟩, .inr ⟨hm, hv⟩⟩
/-- classes by their names -/
inductive ClEs (X : Cx) : List Expr → List Str → List Value → Prop where
  | nil : ClEs X [] [] []
  | cons {e : Expr} {es : List Expr} {y : Str} {ys : List Str} {u : Value} {us : List Value} (h : ClE X e y u) (r : ClEs X es ys us) (hs : starEach (e :: es) X.env = (false, eval e X.env) :: starEach es X.env := by rfl) : ClEs X (e :: es) (y :: ys) (u :: us)
theorem ClEs.pa {X : Cx} : ∀ {es : List Expr} {ys : List Str} {us : List Value}, ClEs X es ys us → ∃ vs, PA X es (fun _ H Q => Q vs H) ∧ Paired ClsV vs us
  | _, _, _, .nil => ⟨[], pa_nil, .nil⟩
  | _, _, _, .cons h r hs => by
    obtain ⟨v, h1, h2⟩ := h.ex
    obtain ⟨vs, h3, h4⟩ := ClEs.pa r
    exact ⟨v :: vs, PA.imp (pa_cons h1 h3 hs) fun σ H Q q => q, .cons h2 h4⟩
section
variable {X : Cx} {E : L2.St → XK} {a : Addr} {oe : Obj} {pn : List (Addr × Obj)} {i : Nat} {tab : List (Str × Str × Bool)} {e ce : Expr} {ces : List Expr} {y : Str} {ys : List Str} {u : Value} {us : List Value} {p pos tpos : Pos} {kt : Nat}
theorem exc_dict {μ : Mu} {H : Hp} {v : V} {x : Str} {fs : List (Str × D)} (r : Rp (ct (X.suite a ((a, oe) :: pn))) μ H v (.exc x fs)) : v = .ref a ∧ X.mg x = some oe.cls ∧ (oe.dict = none ∨ ∃ dx fv, oe.dict = some dx ∧ H dx = some (.xd fv)) := by
  obtain ⟨h1, h2, h3⟩ := rp_exc_inv r
  refine ⟨h1, h2, ?_⟩
  rcases h3 with ⟨h3, _⟩ | ⟨dx, fv, h3, h4, _⟩
  · exact .inl h3
  · exact .inr ⟨dx, fv, h3, h4⟩
theorem d_isX (hfd : ∃ vs, oe.data = .fields vs) (ht : ∀ z ∈ tab, XI X.K X.mg z.1 z.2.1 z.2.2) (hg : Gl X "isinstance") (hm : X.mg "isinstance" = none) (he : PE (X.suite a ((a, oe) :: pn)) e (tVar i)) (hc : ClE (X.suite a ((a, oe) :: pn)) ce y u)
    (s1 : starEach [e, ce] X.env = (false, eval e X.env) :: starEach [ce] X.env := by rfl) (s2 : starEach [ce] X.env = (false, eval ce X.env) :: starEach [] X.env := by rfl) (s3 : (backTo pos (starEach [ce] X.env)).any (·.1) = false := by rfl) :
    PEd (X.suite a ((a, oe) :: pn)) E (.Call (.Name "isinstance" p) [e, ce] [] pos) (dIsX tab i y) := by
  obtain ⟨vc, hvc, cv⟩ := hc.ex
  refine PE.imp (pe_callB (call_isY hfd) hg hm (show bootBuiltins "isinstance" = some (.builtin "isinstance") by decide +kernel) (pa_cons he (pa_cons hvc pa_nil s2) s1) (by decide) (by decide) s1 s3) fun σ H Q ⟨μ, S, ρ, Qd, Ed, w, en, hf, q, px⟩ => ?_
  obtain ⟨x, fs, e1, h1⟩ := onExc_of hf
  obtain ⟨b, e2, hq⟩ := onSome_of h1
  obtain ⟨v, ev, rv⟩ := en.ok i _ (getV_some e1)
  obtain ⟨rfl, g, alt⟩ := exc_dict rv
  obtain ⟨C, gC, W, hk⟩ := ht _ (lookX_mem e2)
  have ec : oe.cls = .ref C := by rw [g] at gC; exact Option.some.inj gC
  exact ⟨.ref a, ev, C, vc, b, ec, W, alt, rfl, .inl ⟨u, cv, hk u hc.at_⟩, q _ S _ H μ hq Fw.refl w (.bl b)⟩
theorem ClEs.any {K : PySem.W.Frag} {x : Str} {C : Addr} {X' : Cx} (hx : X'.mg x = some (.ref C)) (ht : ∀ z ∈ tab, XI K X'.mg z.1 z.2.1 z.2.2) : ∀ {es : List Expr} {ys : List Str} {us : List Value} {b : Bool}, ClEs X' es ys us → anyX tab x ys = some b → PySem.W.kitAny K (.ref C) us = some b
  | _, _, _, b, .nil, e => by cases e; rfl
  | _, _, _, b, .cons (y := y) h r _, e => by
    unfold anyX at e
    unfold PySem.W.kitAny
    cases e1 : lookX tab x y with
    | none => rw [e1] at e; cases e
    | some k =>
      rw [e1] at e
      obtain ⟨C', gC, _, hk⟩ := ht _ (lookX_mem e1)
      have : C' = C := by
        have z : X'.mg x = some (.ref C') := gC
        rw [hx] at z
        cases z
        rfl
      subst this
      rw [hk _ h.at_]
      cases k with
      | true => cases e; rfl
      | false => exact ClEs.any hx ht r e
theorem d_isXT (hfd : ∃ vs, oe.data = .fields vs) (ht : ∀ z ∈ tab, XI X.K X.mg z.1 z.2.1 z.2.2) (hg : Gl X "isinstance") (hm : X.mg "isinstance" = none) (he : PE (X.suite a ((a, oe) :: pn)) e (tVar i)) (hc : ClEs (X.suite a ((a, oe) :: pn)) ces (y :: ys) us) (hl : us.length ≤ 100)
    (s1 : starEach [e, .Tuple ces kt tpos] X.env = (false, eval e X.env) :: starEach [.Tuple ces kt tpos] X.env := by rfl) (s2 : starEach [.Tuple ces kt tpos] X.env = (false, eval (.Tuple ces kt tpos) X.env) :: starEach [] X.env := by rfl) (s3 : (backTo pos (starEach [.Tuple ces kt tpos] X.env)).any (·.1) = false := by rfl) :
    PEd (X.suite a ((a, oe) :: pn)) E (.Call (.Name "isinstance" p) [e, .Tuple ces kt tpos] [] pos) (dIsXT tab i (y :: ys)) := by
  obtain ⟨vs, hvs, pr⟩ := hc.pa
  refine PE.imp (pe_callB (call_isY hfd) hg hm (show bootBuiltins "isinstance" = some (.builtin "isinstance") by decide +kernel) (pa_cons he (pa_cons (pe_tup hvs) pa_nil s2) s1) (by decide) (by decide) s1 s3) fun σ H Q ⟨μ, S, ρ, Qd, Ed, w, en, hf, q, px⟩ => ?_
  obtain ⟨x, fs, e1, h1⟩ := onExc_of hf
  obtain ⟨b, e2, hq⟩ := onSome_of h1
  obtain ⟨v, ev, rv⟩ := en.ok i _ (getV_some e1)
  obtain ⟨rfl, g, alt⟩ := exc_dict rv
  have pl : vs.length = us.length := by
    clear hvs hc hl
    induction pr with
    | nil => rfl
    | cons _ _ ih => exact congrArg Nat.succ ih
  refine ⟨.ref a, ev, by rw [pl]; exact Nat.le_trans hl (by rw [sizeLine_eq]; omega), fun tp ntp => ?_⟩
  obtain ⟨C, gC, W⟩ : ∃ C, X.mg x = some (.ref C) ∧ OwnI X.K C := by
    have e3 := e2
    unfold anyX at e3
    cases e4 : lookX tab x y with
    | none => rw [e4] at e3; cases e3
    | some k =>
      obtain ⟨C, gC, W, _⟩ := ht _ (lookX_mem e4)
      exact ⟨C, gC, W⟩
  have ec : oe.cls = .ref C := by rw [g] at gC; exact Option.some.inj gC
  have ka := ClEs.any (K := X.K) (X' := X.suite a ((a, oe) :: pn)) gC ht hc e2
  have fN : Fw μ H μ (upd H tp (.tup vs)) := Fw.new ntp
  refine ⟨C, .ref tp, b, ec, W, ?_, rfl, .inr ⟨tp, vs, us, rfl, upd_same, pr, ka⟩, q _ S _ _ μ hq fN (w.new ntp) (.bl b)⟩
  rcases alt with z | ⟨dx, fv, z1, z2⟩
  · exact .inl z
  · exact .inr ⟨dx, fv, z1, w.xdK fN z2⟩
end
end Pu
namespace Pu
open PySem PySem.Spec PyProof.Rows L2
/-! ## defs that may raise -/
theorem passW {X : Cx} {W : WX} (tk : Takes X W) : ∀ σ, PassesAt (L2.CX X.prog X.w) X σ (WE W σ) := fun σ => passAt tk σ
section
variable {pr : Program} {wo : World} {K : PySem.W.Frag} {mg : Str → Option Value} {b0 : Heap} {lv : Nat} {x qn : Str} {st : Stmt} {fn : Addr} {dat : FuncData} {NN pars : List Str} {fb : FS}
theorem d_fnX (F : Fun K x qn st fn dat) (S : FnScope NN pars (defScope st))
    (body : ∀ (cdv : Value) (A : Around) (out : List Env) (s : Shared) (H : Hp) (E : XK), A.guards = some [] → Room lv (A.deeper (envOfC qn (defScope st) s.heap.objs.size fn cdv)) → PBd (cxOf (L2.CX pr wo) pr wo K mg b0 NN qn (defScope st) fn cdv A out s H E) E (defBody st) fb) :
    Rb.FnG pr wo K mg b0 (L2.CX pr wo) (lv + 1) fn dat pars (spF (ct0 K mg) (dDefX pars.length NN.length fb)) := by
  obtain ⟨oc, od, kV, dc, pv, an, cdv, ct, osl, rfl, at_, code⟩ := F.ex
  refine Rb.fnG_of at_ code S (fun xs H Q E pro => ?_) fun A out s H xs Q E gd rm pro => ⟨_, body cdv A out s H E gd rm, ?_⟩
  · obtain ⟨μ, S, ds, Qd, Ed, w, r, ⟨hl, _⟩, _⟩ := pro
    rw [r.length]
    exact hl
  · obtain ⟨μ, S, ds, Qd, Ed, w, r, ⟨hl, h⟩, q, px⟩ := pro
    exact ⟨μ, S, _, _, Ed, w, startD_env r, h, ⟨fun ρ' S' σ' H' μ' hq f w' en => q .non S' .non H' μ' hq f w' .non, q, fun _ _ _ _ _ z => z.elim, fun _ _ _ _ _ z => z.elim⟩, px⟩
end
/-! ## list.count of bools -/
/-- a method of a list that stays as it is -/
def dMLv (g : GM) (fo : FE) (fa : FA) : FE := fun ρ S Q Ed => fo ρ S (fun x S1 => onSome (lstOf S1 x) fun _ => fa ρ S1 (fun ds S2 => g x ds S2 Q) Ed) Ed
section
variable {X : Cx} {E : L2.St → XK} {o e : Expr} {es : List Expr} {fo : FE} {fa : FA} {name : Str} {id : String} {apos cpos : Pos}
theorem d_mlv {g : GM} (slot : Slot "list" name id) (hty : typeOf (.builtin id) = pure (.type "method_descriptor")) (hm : MtR X id (rDm (ct X) g)) (ho : PEd X E o fo) (ha : PAd X E (e :: es) fa)
    (hbase : attributeBase o name X.env (eval o X.env) = eval o X.env := by rfl)
    (hfew : ((backTo cpos (starEach (e :: es) X.env)).all (fun x => !x.1) && (backToKw cpos (keywordEach [] X.env)).all (fun x => x.1.isSome) && decide ((e :: es).length + ([] : List Keyword).length + (if ([] : List Keyword).isEmpty then 0 else 1) < 30)) = true := by rfl)
    (hline : (apos.endLine == cpos.line) = true := by rfl) (hs : starEach (e :: es) X.env = (false, eval e X.env) :: starEach es X.env := by rfl) (hplain : (backTo cpos (starEach es X.env)).any (·.1) = false := by rfl) :
    PEd X E (.Call (.Attribute o name apos) (e :: es) [] cpos) (dMLv g fo fa) := by
  refine PE.imp (pe_bm PySem.F.plainAttrs_list slot hty hm ho ha hbase hfew hline hs hplain) fun σ H Q ⟨μ, S, ρ, Qd, Ed, w, en, hf, q, px⟩ => ?_
  refine tR_of w en hf px fun x S1 v H1 μ1 h1 f1 w1 en1 px1 r1 => ?_
  obtain ⟨xs, e1, h1⟩ := onSome_of h1
  obtain ⟨a, vs, rfl, ha', ra⟩ := r1.lstT w1 e1
  refine ⟨.inl ⟨rfl, vs, SqL.of ha'⟩, ?_⟩
  refine tR_of w1 en1 h1 px1 fun ds S2 us H2 μ2 h2 f2 w2 en2 px2 r2 => ?_
  exact ⟨μ2, S2, x, ds, Qd, w2, r1.fw w1 f2, r2, h2, fun d S' v' H' μ' h f w' r => q d S' v' H' μ' h (f1.trans (f2.trans f)) w' r⟩
end
/-! ## isinstance of values, instances among them -/
end Pu
namespace Pu
open PySem PySem.Spec PyProof.Rows L2
/-! ## small words for the printed terms -/
theorem all0 {α : Type} {P : α → Prop} : ∀ x ∈ ([] : List α), P x := fun _ z => nomatch z
theorem allS {α : Type} {P : α → Prop} {a : α} {l : List α} (h : P a) (r : ∀ x ∈ l, P x) : ∀ x ∈ a :: l, P x := fun x hx => by
  rcases List.mem_cons.mp hx with rfl | hx
  · exact h
  · exact r x hx
section
variable {K : PySem.W.Frag} {mg : Str → Option Value} {x f y : Str} {C : Addr}
theorem xi_own {D : Addr} {b : Bool} (g : mg x = some (.ref C)) (e : OwnI K C) (gy : mg y = some (.ref D)) (k : PySem.W.kitOne K (.ref C) (.ref D) = some b) : XI K mg x y b := ⟨C, g, e, fun u hu => by
  rcases hu with h | ⟨h, _⟩
  · rw [gy] at h
    cases h
    exact k
  · rw [gy] at h
    cases h⟩
theorem xi_ty {n : String} {b : Bool} (g : mg x = some (.ref C)) (e : OwnI K C) (gy : mg y = none) (bo : bootBuiltins y = some (.type n)) (k : PySem.W.kitOne K (.ref C) (.type n) = some b) : XI K mg x y b := ⟨C, g, e, fun u hu => by
  rcases hu with h | ⟨_, h⟩
  · rw [gy] at h
    cases h
  · rw [bo] at h
    cases h
    exact k⟩
/-- which errors an except clause takes -/
theorem xt_of {cv : Value} {b : Bool} (g : mg x = some (.ref C)) (k : PySem.W.exmOne K (.ref C) cv = some b) : ∀ cls, mg x = some cls → PySem.W.exmOne K cls cv = some b := fun cls h => by
  rw [g] at h
  cases h
  exact k
theorem tab_of {cv : Value} : ∀ {tab : List (Str × Bool)}, (∀ z ∈ tab, ∀ cls, mg z.1 = some cls → PySem.W.exmOne K cls cv = some z.2) → ∀ y b, lookB tab y = some b → ∀ cls, mg y = some cls → PySem.W.exmOne K cls cv = some b
  | [], _, _, _, h => by cases h
  | (z, k) :: r, ht, y, b, h => by
    unfold lookB at h
    by_cases e : z = y
    · rw [if_pos e] at h
      cases h
      subst e
      exact ht _ List.mem_cons_self
    · rw [if_neg e] at h
      exact tab_of (fun u hu => ht u (List.mem_cons_of_mem _ hu)) y b h
end
theorem takes0E {X : Cx} : Takes X (fun cls d _ H => E0 cls d H) := fun _ _ z => by
  obtain ⟨_, _, _, _, _, _, _, _, _, _, _, _, _, _, _, _, z⟩ := z
  exact z.elim
end Pu
namespace Pu
open PySem PySem.Spec PyProof.Rows L2
/-! ## own errors over any built-in class: with one field, or with none -/
/-- of a class of errors: over the built-in class whose order of classes is bs, whose objects nw makes -/
structure ErrC (kit : PySem.W.Frag) (at_ : Addr) (bs : List Value) (nw : String) : Prop where
  mkd : PySem.W.excInitIn kit at_ bs nw = true
  ov : PySem.W.excOver kit at_ bs = true
  hd : PySem.W.hasDictIn kit at_ = true
  sa : PySem.W.findIn kit (.ref at_) "__setattr__" = some (some (.builtin "object.__setattr__"))
  ex : PySem.W.subIn kit (.ref at_) (.type "BaseException") = some true
  ty : PySem.W.typeIn kit (.ref at_) = some (.type "type")
  kp : PySem.W.keepIn kit (.ref at_) = true
section
variable {X : Cx} {pins : List (Addr × Obj)} {σ : L2.St} {H : Hp} {s : Shared} {a C : Addr} {f : Str} {y : V} {u : Value} {bs : List Value} {nw B : String}
theorem upd_twice {a b : Addr} {o p q : HO} (n : a ≠ b) : upd (upd (upd H b o) a p) b q = upd (upd H b q) a p := by
  funext z
  by_cases h1 : z = b
  · subst h1
    rw [upd_same, upd_ne (Ne.symm n), upd_same]
  · rw [upd_ne h1]
    by_cases h2 : z = a
    · subst h2
      rw [upd_same, upd_same]
    · rw [upd_ne h2, upd_ne h2, upd_ne h1, upd_ne h1]
/-- the first field of an error that is being made: in three steps, the empty dict, the error that has it, the field in it -/
theorem put_first (T : ErrC X.K C bs nw) (SF : StoreFacts B bs "object.__setattr__" "object") (I : Inv X pins σ H s) (at_ : H a = some (exo a C none)) (no : PySem.W.findIn X.K (.ref C) f = some none) (ry : RelV y u) {A : Around} {Q : Unit → Shared → Prop} {E : Value → Shared → Prop}
    (k : ∀ n s', H n = none → n ≠ a → Inv X pins σ (upd (upd H n (exd n [(f, y)])) a (exo a C (some n))) s' → Q () s') : wpAny (model X.prog X.w) A (setAttr (.ref a) f u) Q E s := by
  obtain ⟨t1, here⟩ := exo_at I.hok at_
  obtain ⟨cd, hc, hasd⟩ := PySem.W.any_some T.hd
  obtain ⟨hp, gs, dr, tk, os⟩ := s
  have lt : a < hp.objs.size := Heap.lt_size here
  have tkr : PySem.W.takerIn X.K C f = some none := by unfold PySem.W.takerIn; rw [no]; rfl
  refine PySem.W.set_plain I.kIn (od := none) ⟨here, rfl, rfl, trivial⟩ T.sa (PySem.W.osa_openX (od := none) SF I.kIn ⟨here, rfl, rfl, trivial⟩ T.ov tkr fun b => ?_)
  refine wpAny_bind (wpAny_pure (wpAny_bind (PySem.W.instanceDict_exc here (PySem.W.looks_clsIn I.kIn hc) hasd ?_)))
  have newd : (hp.push (PySem.W.dictOf [] 0)).get? hp.objs.size = some (PySem.W.dictOf [] 0) := Heap.get?_push_at rfl rfl
  have empty : (hp.push (PySem.W.dictOf [] 0)).Ns hp.objs.size (fun _ => none) := ⟨_, #[], _, newd, rfl, fun e he => absurd he (by simp), fun _ => rfl⟩
  have stay : ∀ b o, b ≠ a → (hp.push (PySem.W.dictOf [] 0)).get? b = some o → ((hp.push (PySem.W.dictOf [] 0)).update a fun o => { o with dict := some hp.objs.size }).get? b = some o := fun b o n q => (Heap.get?_update_ne _ _ _ _ n).trans q
  have has : ((hp.push (PySem.W.dictOf [] 0)).update a fun o => { o with dict := some hp.objs.size }).get? a = some ({ cls := .ref C, dict := some hp.objs.size, data := .fields #[.ref t1, .none, .none, .none, .bool false, .none] } : Obj) := Heap.get?_update_self _ (Heap.get?_push_of_some _ here) rfl
  have I1 := I.laid (a := hp.objs.size) (o := exd hp.objs.size []) (h' := hp.push (PySem.W.dictOf [] 0)) (t' := tk) (fun b o q => Heap.get?_push_of_some _ q) (Nat.le_refl _) (exd_ok (Heap.Ns1.of_empty empty) fun _ => True.intro)
  have I2 := I1.write (x := a) (e := a) (o := exo a C (some hp.objs.size)) (t' := tk) (by rw [upd_ne (Nat.ne_of_lt lt), at_]; exact True.intro) (.inl rfl) stay ⟨_, has⟩ (exo_ok has)
  show wpAny _ _ (Builtin.ObjectAttr.storeInDict hp.objs.size (.str f _) f u) _ _ _
  refine PySem.HandSPX.store_in_new ⟨_, #[], _, stay _ _ (Nat.ne_of_gt lt) newd, rfl, fun e he => absurd he (by simp), fun _ => rfl⟩ fun h' t' named same => ?_
  have I3 := I2.write (x := hp.objs.size) (e := hp.objs.size) (o := exd hp.objs.size [(f, y)]) (t' := t') (h' := h') (by rw [upd_ne (Nat.ne_of_gt lt), upd_same]; exact True.intro) (.inl rfl) (fun b o n q => (same.2 b n).trans q)
    (by obtain ⟨o, _, _, e', _⟩ := named; exact ⟨o, e'⟩) (exd_ok named (relO_put (fs := []) ry fun _ => True.intro))
  rw [upd_twice (Nat.ne_of_lt lt)] at I3
  exact k _ _ (I.hok.fresh (Nat.le_refl _)) (Nat.ne_of_gt lt) I3
/-- self.f = e in the __init__ of such a class -/
def tPutE (K : PySem.W.Frag) (bs : List Value) (nw : String) (f : Str) (to te : TE) : TS := fun D σ H => te σ H fun y H1 => to σ H1 fun x H2 => ∃ a C : Addr, (x = .ref a ∧ H2 a = some (exo a C none)) ∧ ErrC K C bs nw ∧ PySem.W.findIn K (.ref C) f = some none ∧
  ∀ n, H2 n = none → n ≠ a → D.nx σ (upd (upd H2 n (exd n [(f, y)])) a (exo a C (some n)))
theorem ps_putE (SF : StoreFacts B bs "object.__setattr__" "object") {o e : Expr} {to te : TE} {p' pos : Pos} (ho : PE X o to) (he : PE X e te) (sw : swapsWith e (some (.Attribute o f p')) pos.line X.env = pure false := by rfl) :
    PS X (.Assign [.Attribute o f p'] e pos) (tPutE X.K bs nw f to te) := by
  refine ⟨fun pins s σ H D I pre => plainObj_wpAny_Assign_Attribute (thn (he.run pins s σ H _ I pre) fun _ s1 ⟨y, H1, I1, ry, q1⟩ => thn (ho.run pins s1 σ H1 _ I1 q1) fun _ s2 ⟨x, H2, I2, rx, a, C, ⟨ex, at_⟩, T, no, go⟩ => ?_) sw⟩
  subst ex
  cases rx
  exact put_first T SF I2 at_ no ry fun n s' fresh ne J => ⟨σ, _, J, go n fresh ne⟩
/-- __init__(self, f): self.f = f -/
theorem iniE {P : Program} {w : World} {K : PySem.W.Frag} {mg : Str → Option Value} {base : Heap} {fI : Addr} {fd : FuncData} {x qn : Str} {st : Stmt} {s0 : Str} (F : Fun K x qn st fI fd) (S : FnScope [s0, f] [s0, f] (defScope st)) (T : ErrC K C bs nw) (no : PySem.W.findIn K (.ref C) f = some none)
    (b : ∀ (cdv : Value) (A : Around) (out : List Env) (s : Shared) (H : Hp) (E : XK), PSs (cxOf CX0 P w K mg base [s0, f] qn (defScope st) fI cdv A out s H E).nox (defBody st) (tPutE K bs nw f (tVar 0) (tVar 1))) : FnOk P w K mg base CX0 1 fI fd [s0, f] (Rb.spIni K C f) := by
  refine F.ok S (fun vs H Q E ⟨a, y, e, _⟩ => by rw [e]; rfl) fun cdv A outer s H vs Q E rm ⟨a, y, e, at_, go⟩ => ?_
  subst e
  exact ⟨_, b cdv A outer s H E, _, rfl, _, rfl, a, C, ⟨rfl, at_⟩, T, no, go⟩
/-- C(e): the error is made, its one field is the value -/
theorem pmkE {ini : String} {x : Str} {e : Expr} {te : TE} {fI : Addr} {lv : Nat} {fd : FuncData} {sps : List Str} {p pos : Pos} (FB : ExcBaseFacts B nw ini bs) (T : ErrC X.K C bs nw) (iC : PySem.W.findIn X.K (.ref C) "__init__" = some (some (.ref fI)))
    (tI : PySem.W.typeIn X.K (.ref fI) = some (.type "function")) (G : FnOk X.prog X.w X.K X.mg X.base CX0 lv fI fd sps (Rb.spIni X.K C f)) (rm : Room (lv + 1) X.A) (hb : Binds X.K fd sps []) (gl : Gl X x) (at_ : X.mg x = some (.ref C)) (he : PE X e te)
    (ndb : (x == ("__debug__" : Str)) = false := by decide) (s1 : starEach [e] X.env = (false, eval e X.env) :: starEach [] X.env := by rfl) (s2 : (backTo pos (starEach [] X.env)).any (·.1) = false := by rfl) :
    PMk X (.Call (.Name x p) [e] [] pos) (fun σ H Q => te σ H fun y H1 => ∀ n, H1 n = none → Q (.ref C) (some n) (upd H1 n (.xd [(f, y)]))) := by
  intro pins s σ H Q I pre
  have pa : PA X [e] (tCons te tNil) := pa_cons he pa_nil s1
  refine wpAny_Call_Name_kw (ld_glob I gl at_ ?_ ndb)
  refine PySem.W.callWith_K (h₀ := X.base) I.ok.mod.kin T.kp (thn (pa.run pos pins s σ H (fun vs H1 => match vs with | [y] => ∀ n, H1 n = none → Q (.ref C) (some n) (upd H1 n (.xd [(f, y)])) | _ => False) I pre) fun us s1 ⟨vs, H1, I1, rs, q1⟩ => ⟨I1.kIn, ?_⟩) s1 s2
  match vs, q1 with
  | [y], q1 =>
    obtain ⟨u, rfl, ru⟩ := rs.one
    obtain ⟨nm, N, qn, bs', bm, hdct, sn, sub, ab, col, dd, k0, k1, k2, k3, k5, isC, tail⟩ := PySem.W.excInit_of I1.kIn T.mkd
    obtain ⟨hp, gs, dr, tk, os⟩ := s1
    have fresh : H1 (hp.objs.size + 1) = none := I1.hok.fresh (Nat.le_succ _)
    have old : ∀ b o, hp.get? b = some o → ((hp.push (PySem.W.kdv_tup [u])).push (PySem.HandSPX.excO C hp.objs.size)).get? b = some o := fun b o z => Heap.get?_push_of_some _ (Heap.get?_push_of_some _ z)
    have made : ((hp.push (PySem.W.kdv_tup [u])).push (PySem.HandSPX.excO C hp.objs.size)).get? (hp.objs.size + 1) = some (PySem.HandSPX.excO C hp.objs.size) := by heap_get
    have I2 := I1.laid (t' := tk) (a := hp.objs.size + 1) (o := exo (hp.objs.size + 1) C none) old (Nat.le_succ _) (exo_ok made)
    have rs2 : Vals [V.ref (hp.objs.size + 1), y] [Value.ref (hp.objs.size + 1), u] := .cons rfl (.cons ru .nil)
    have job := (Rb.mkO_of (K := X.K) (C := C) (f := f) (y := y) (W := Q) q1).2 (hp.objs.size + 1) fresh
    have many : [Value.ref (hp.objs.size + 1), u].length = sps.length := rs2.length.symm.trans (G.len _ _ _ _ job)
    refine wpAny_call (PySem.HandSPX.call_own FB tail isC (PySem.W.looks_findIn I1.kIn iC) (fun self => PySem.W.bind_fn I1.kIn self tI) (by show 1 ≤ sizeLine; rw [sizeLine_eq]; omega) ?_)
    refine codeAny_mono (G.run _ X.stack _ _ ⟨[Value.ref (hp.objs.size + 1), u], []⟩ [Value.ref (hp.objs.size + 1), u] _ _ (fun _ _ _ => False) (rm.make C [u] []) (I2.env0.make C [u] []) (hb _ _ I2.kIn many) rs2 job) fun r s' fin => ?_
    match r, fin with
    | .ok (.ret w), fin =>
      obtain ⟨v, H2, os2, bare, un, hok, rv, rfl, n, fs, ea, ed, hn, q2⟩ := fin
      exact ⟨rv, mk_end (raises_own T.ex T.ty) I1 (Nat.le_succ _) old un hok os2 bare ea ed hn q2⟩
    | .ok .next, fin => exact (fin : False).elim
    | .ok .brk, fin => exact (fin : False).elim
    | .ok .cont, fin => exact (fin : False).elim
    | .error er, fin =>
      obtain ⟨_, _, _, _, _, _, _, _, _, _, _, _, _, _, _, _, z⟩ := fin
end
section
variable {X : Cx} {E : XK} {C fI : Addr} {fd : FuncData} {lv : Nat} {x f : Str} {sps : List Str} {e : Expr} {fe : FE} {bs : List Value} {nw B ini : String} {p p2 pos : Pos}
/-- raise C(e) -/
theorem d_raiseE (hc : X.calm = true) (tk : Takes X (fun cls d _ H => E cls d H)) (FB : ExcBaseFacts B nw ini bs) (T : ErrC X.K C bs nw) (iC : PySem.W.findIn X.K (.ref C) "__init__" = some (some (.ref fI))) (tI : PySem.W.typeIn X.K (.ref fI) = some (.type "function"))
    (G : FnOk X.prog X.w X.K X.mg X.base CX0 lv fI fd sps (Rb.spIni X.K C f)) (rm : Room (lv + 1) X.A) (hb : Binds X.K fd sps []) (gl : Gl X x) (at_ : X.mg x = some (.ref C)) (he : PEd X (cE E) e fe)
    (ndb : (x == ("__debug__" : Str)) = false := by decide) (s1 : starEach [e] X.env = (false, eval e X.env) :: starEach [] X.env := by rfl) (s2 : (backTo p2 (starEach [] X.env)).any (·.1) = false := by rfl) :
    PSd X E (.Raise (some (.Call (.Name x p) [e] [] p2)) none pos) (dRaise x f fe) := by
  refine PS.imp (ps_raise hc tk (pmkE FB T iC tI G rm hb gl at_ he ndb s1 s2)) fun D σ H ⟨μ, S, ρ, De, Ed, w, en, hf, k, px⟩ => ?_
  exact tR_of w en hf px fun d S1 v H1 μ1 h1 f1 w1 en1 px1 r1 n free => px1 (x, [(f, d)]) S1 (.ref C) (some n) _ μ1 h1 (Fw.new free) (w1.new free) ⟨at_, n, [(f, v)], rfl, upd_same, .cons (r1.fw w1 (Fw.new free)) .nil⟩
end
end Pu
namespace Pu
open PySem PySem.Spec PyProof.Rows L2
/-! ## a class's own operators: a + b, a >> i, a == b, x in a, a(x) -/
/-- what stands when both operands are there -/
def Two (X : Cx) (cx : CXT) (lv : Nat) (E1 : XK) (Q : VK) (x y : V) (H : Hp) (Y : Addr → Addr → V → Hp → Prop) : Prop :=
  ∃ (a C dx : Addr) (fv : List (Str × V)) (fn : Addr) (dat : FuncData) (pars : List Str) (F : FF) (d i : D) (μ : Mu) (S : Sto) (Qd : QD) (Ed : ED), (x = .ref a ∧ H a = some (.ins C dx fv) ∧ Y C fn y H) ∧
    Rb.FnG X.prog X.w X.K X.mg X.base cx lv fn dat pars (spF (ct X) F) ∧ Binds X.K dat pars [] ∧ Wd (ct X) μ S H ∧ Rp (ct X) μ H x d ∧ Rp (ct X) μ H y i ∧ F [d, i] S Qd Ed ∧ PostV (ct X) μ H Qd Q ∧ PX (ct X) μ H Ed E1
section
variable {X : Cx} {cx : CXT} {lv : Nat} {tab : List (Str × FF)}
theorem Two.run {pins : List (Addr × Obj)} {σ : L2.St} {s : Shared} {E1 : XK} {Q : VK} {x y : V} {v u : Value} {H : Hp} {Y : Addr → Addr → V → Hp → Prop} (gd : X.A.guards = some []) (rm : Room lv X.A) (ps : PassesAt cx X σ E1) (I : Inv X pins σ H s) (rx : RelV x v) (ry : RelV y u) (t : Two X cx lv E1 Q x y H Y) :
    ∃ (a C fn : Addr) (ox : Obj) (od : Option Obj) (m : Str → Option Value), v = .ref a ∧ Y C fn y H ∧ ox.data = .plain ∧ PySem.W.InstAt s.heap a ox C od ∧ Fr X.base X.env.locals s.heap m ∧ wpAny (model X.prog X.w) X.A (call (.ref fn) [.ref a, u]) (EP X pins σ Q) X.xe s := by
  obtain ⟨a, C, dx, fv, fn, dat, pars, F, d, i, μ, S, Qd, Ed, ⟨rfl, ea, hy⟩, c4, c5, w2, r1, r2, h2, q2, px2⟩ := t
  obtain rfl : v = Value.ref a := rx
  obtain ⟨mm, ob, _, _, _, _⟩ := ins_get I.hok ea
  obtain ⟨od, J, _⟩ := ob.look
  obtain ⟨m, fr⟩ := I.fr
  exact ⟨a, C, fn, _, od, m, rfl, hy, rfl, J, fr, runGS (us := [.ref a, u]) (xs := [.ref a, y]) c4 gd rm c5 ps I (.cons rfl (.cons ry .nil)) ⟨μ, S, [d, i], Qd, Ed, w2, .cons r1 (.cons r2 .nil), h2, q2, px2⟩⟩
end
end Pu
namespace Pu
open PySem PySem.Spec PyProof.Rows L2
/-! ## texts: sep.join(xs), f-strings -/
def onStr (d : D) (k : Str → Prop) : Prop := match d with | .str a => k a | _ => False
theorem onStr_of {d : D} {k : Str → Prop} (h : onStr d k) : ∃ a, d = .str a ∧ k a := by
  unfold onStr at h
  split at h
  · exact ⟨_, rfl, h⟩
  · exact h.elim
def strsOf : List D → Option (List Str)
  | [] => some []
  | .str x :: ds => match strsOf ds with | some xs => some (x :: xs) | none => none
  | _ :: _ => none
theorem strsOf_map : ∀ ys : List Str, strsOf (ys.map D.str) = some ys
  | [] => rfl
  | y :: ys => by
    show (match strsOf (ys.map D.str) with | some xs => some (y :: xs) | none => none) = _
    rw [strsOf_map ys]
theorem strsOf_vals {c : Ct} {μ : Mu} {H : Hp} : ∀ {vs : List V} {ds : List D} {ys : List Str}, RpAll c μ H vs ds → strsOf ds = some ys → vs = ys.map V.str
  | _, _, _, .nil, e => by cases e; rfl
  | _, _, _, .cons (d := d) (ds := ds) r rs, e => by
    cases d with
    | str x =>
      unfold strsOf at e
      cases hs : strsOf ds with
      | none => rw [hs] at e; cases e
      | some xs =>
        rw [hs] at e
        cases e
        cases r
        rw [strsOf_vals rs hs]
        rfl
    | _ => cases e
def dJoin (fo fe : FE) : FE := fun ρ S Q Ed => fo ρ S (fun x S1 => onStr x fun a => fe ρ S1 (fun d S2 => onSome (seqOf S2 d) fun es => onSome (strsOf es) fun ys => (ys.map (·.length)).sum + ys.length * a.length ≤ 100000 ∧ Q (.str (Txt.join a ys)) S2) Ed) Ed
section
variable {X : Cx} {E : L2.St → XK} {o e : Expr} {fo fe : FE}
theorem d_join {apos pos : Pos} (ho : PEd X E o fo) (he : PEd X E e fe) (hs : starEach [e] X.env = [(false, eval e X.env)] := by rfl) (hbase : attributeBase o "join" X.env (eval o X.env) = eval o X.env := by rfl) (hline : (apos.endLine == pos.line) = true := by rfl) :
    PEd X E (.Call (.Attribute o "join" apos) [e] [] pos) (dJoin fo fe) := by
  refine PE.imp (pe_join ho he hs hbase hline) fun σ H Q ⟨μ, S, ρ, Qd, Ed, w, en, hf, q, px⟩ => ?_
  refine tR_of w en hf px fun x S1 v H1 μ1 h1 f1 w1 en1 px1 r1 => ?_
  obtain ⟨a, rfl, h1⟩ := onStr_of h1
  cases r1
  refine ⟨⟨a, rfl⟩, ?_⟩
  refine tR_of w1 en1 h1 px1 fun d S2 u H2 μ2 h2 f2 w2 en2 px2 r2 => ?_
  obtain ⟨es, e1, h2⟩ := onSome_of h2
  obtain ⟨ys, e2, h2⟩ := onSome_of h2
  obtain ⟨p, vs, rfl, hp, rs⟩ := r2.seq w2 e1
  rw [strsOf_vals rs e2] at hp
  exact ⟨a, p, ys, rfl, rfl, hp, Nat.le_trans h2.1 (by decide), q _ _ _ _ _ h2.2 (f1.trans f2) w2 (.str _)⟩
end
end Pu
namespace Pu
open PySem PySem.Spec PyProof.Rows L2
/-! ## defs that are run whatever repr is under way (what a generator's body calls) -/
structure FnU (pr : Program) (wo : World) (K : PySem.W.Frag) (mg : Str → Option Value) (b0 : Heap) (cx : CXT) (lv : Nat) (fn : Addr) (dat : FuncData) (pars : List Str) (sp : Sp) : Prop where
  many : ∀ xs H Q E, sp xs H Q E → xs.length = pars.length
  goes : ∀ (A : Around) (out : List Env) (s : Shared) (H : Hp) (ar : Args) (us : List Value) (xs : List V) (Q : VK) (E : XK),
    Room lv A → Env0 pr wo K mg b0 A out s H → BindsTo s dat ar (pars.zip us) → Vals xs us → sp xs H Q E →
    codeAny (model pr wo) A (.call (.ref fn) ar) (CR cx out pr wo H s Q E) s
theorem FnU.g {pr : Program} {wo : World} {K : PySem.W.Frag} {mg : Str → Option Value} {b0 : Heap} {cx : CXT} {lv : Nat} {fn : Addr} {dat : FuncData} {pars : List Str} {sp : Sp} (F : FnU pr wo K mg b0 cx lv fn dat pars sp) : Rb.FnG pr wo K mg b0 cx lv fn dat pars sp :=
  ⟨F.many, fun A out s H ar us xs Q E h1 _ h2 h3 h4 h5 => F.goes A out s H ar us xs Q E h1 h2 h3 h4 h5⟩
end Pu
namespace Pu
open PySem PySem.Spec PyProof.Rows L2 GenW
/-! ## a generator's body: what is out so far goes along -/
theorem GS.imp {X : Cx} {st : Stmt} {t t' : TGn} (h : GS X st t) (k : ∀ D ys σ H, t' D ys σ H → t D ys σ H) : GS X st t' :=
  ⟨fun A S ip R n ys s₀ c fs K J gd lv s σ H D g hn kk hI ht => h.run A S ip R n ys s₀ c fs K J gd lv s σ H D g hn kk hI (k D ys σ H ht)⟩
theorem GSs.imp {X : Cx} {st : List Stmt} {t t' : TGn} (h : GSs X st t) (k : ∀ D ys σ H, t' D ys σ H → t D ys σ H) : GSs X st t' :=
  ⟨fun A S ip R n ys s₀ c fs K J gd lv s σ H D g hn kk hI ht => h.run A S ip R n ys s₀ c fs K J gd lv s σ H D g hn kk hI (k D ys σ H ht)⟩
/-! ## the def, its promise -/
end Pu
namespace Pu
open PySem PySem.Spec PyProof.Rows L2
/-! ## methods of texts -/
def dMS0 (g : Str → Sto → QD → Prop) (fo : FE) : FE := fun ρ S Q Ed => fo ρ S (fun x S1 => onStr x fun a => g a S1 Q) Ed
def dMS1 (g : Str → D → Sto → QD → Prop) (fo fa : FE) : FE := fun ρ S Q Ed => fo ρ S (fun x S1 => onStr x fun a => fa ρ S1 (fun y S2 => g a y S2 Q) Ed) Ed
def gAscii : Str → Sto → QD → Prop := fun a S Q => Q (.bl (Txt.isascii a)) S
def gDigit : Str → Sto → QD → Prop := fun a S Q => Q (.bl (Txt.isdigit a)) S
def gStarts : Str → D → Sto → QD → Prop := fun a y S Q => onStr y fun b => Q (.bl (Txt.startswith a b)) S
def gSplit : Str → D → Sto → QD → Prop := fun a y S Q => onStr y fun b => ((b.length == 0) = false ∧ a.length + 2 ≤ sizeLine) ∧ Q (.lst false ((Txt.split a b).map D.str)) S
/-- int of a text of digits -/
def gIntS : List D → Sto → QD → Prop := fun ds S Q => match ds with
  | [.str a] => onSome (PySem.intText? a) fun n => a.length ≤ 640 ∧ Q (.int n) S
  | _ => False
/-- None in a list of whole numbers and Nones -/
def optsOf : List D → Option (List (Option Int))
  | [] => some []
  | .int i :: r => (optsOf r).map (some i :: ·)
  | .non :: r => (optsOf r).map (none :: ·)
  | _ :: _ => none
def optV : Option Int → V
  | none => .non
  | some i => .int i
def gInN : G2 := fun x y S Q => match x with
  | .non => onSome (seqOf S y) fun xs => onSome (optsOf xs) fun os => Q (.bl (os.any Option.isNone)) S
  | _ => False
theorem optsOf_vals {c : Ct} {μ : Mu} {H : Hp} : ∀ {vs : List V} {ds : List D} {os : List (Option Int)}, RpAll c μ H vs ds → optsOf ds = some os → vs = os.map optV
  | _, [], _, .nil, e => by cases e; rfl
  | _, d :: ds, os, .cons h r, e => by
    cases d with
    | int i =>
      obtain ⟨qs, e1, rfl⟩ := Option.map_eq_some_iff.mp (show (optsOf ds).map (some i :: ·) = some os from e)
      rw [h.int_inv, optsOf_vals r e1]
      rfl
    | non =>
      obtain ⟨qs, e1, rfl⟩ := Option.map_eq_some_iff.mp (show (optsOf ds).map (none :: ·) = some os from e)
      cases h
      rw [optsOf_vals r e1]
      rfl
    | _ => cases e
theorem inV_opts : ∀ {os : List (Option Int)}, inV .non (os.map optV) = os.any Option.isNone
  | [] => rfl
  | none :: os => by
    unfold inV
    simp [optV, eqV]
  | some i :: os => by
    have ih := inV_opts (os := os)
    unfold inV at *
    simp only [List.map_cons, List.any_cons]
    rw [ih]
    rfl
theorem flat_opts (os : List (Option Int)) : (os.map optV).all flatV = true := by
  rw [List.all_map, List.all_eq_true]
  intro x _
  cases x <;> rfl
theorem o_inN {X : Cx} : OpR X (compareOp .In) (rD2 (ct X) gInN) := by
  intro pins s σ H x y v u Q I rx ry ⟨μ, S, dx, dy, Qd, w, r1, r2, hg, q⟩
  unfold gInN at hg
  split at hg
  · obtain ⟨xs, e1, hg⟩ := onSome_of hg
    obtain ⟨zs, e2, hg⟩ := onSome_of hg
    obtain ⟨a, ws, rfl, hq, rs⟩ := r2.seq w e1
    cases r1
    rw [optsOf_vals rs e2] at hq
    refine op_in_seq pins s σ H _ _ v u Q I rx ry ⟨a, _, rfl, hq, rfl, flat_opts zs, ?_⟩
    rw [inV_opts]
    exact q.same w (.bl _) hg
  · exact hg.elim
theorem c_intS {X : Cx} : CallR X (.type "int") (rDs (ct X) gIntS) := by
  intro pins s σ H vs us Q I r ⟨μ, S, ds, Qd, w, ra, hg, q⟩
  unfold gIntS at hg
  split at hg
  · obtain ⟨v, rfl, rv⟩ := ra.one
    obtain ⟨n, e, hz, hg⟩ := onSome_of hg
    cases rv.str_inv
    exact call_int_str pins s σ H _ us Q I r ⟨_, n, rfl, e, hz, q.same w (.int _) hg⟩
  · exact hg.elim
section
variable {X : Cx} {E : L2.St → XK} {o e : Expr} {fo fa : FE} {apos cpos : Pos}
theorem d_ms0 {id : String} {name : Str} {r : V → List V → Hp → VK → Prop} {g : Str → Sto → QD → Prop} (slot : Slot "str" name id) (ty : typeOf (.builtin id) = pure (.type "method_descriptor")) (rule : MtR X id r)
    (hr : ∀ {μ : Mu} {S : Sto} {H : Hp} {a : Str} {Qd : QD} {Q : VK}, Wd (ct X) μ S H → g a S Qd → PostV (ct X) μ H Qd Q → r (.str a) [] H Q) (ho : PEd X E o fo)
    (hbase : attributeBase o name X.env (eval o X.env) = eval o X.env := by rfl) (hline : (apos.endLine == cpos.line) = true := by rfl) : PEd X E (.Call (.Attribute o name apos) [] [] cpos) (dMS0 g fo) := by
  refine PE.imp (pe_m0 slot ty rule ho hbase hline) fun σ H Q ⟨μ, S, ρ, Qd, Ed, w, en, hf, q, px⟩ => ?_
  refine tR_of w en hf px fun x S1 v H1 μ1 h1 f1 w1 en1 px1 r1 => ?_
  obtain ⟨a, rfl, h1⟩ := onStr_of h1
  cases r1.str_inv
  exact ⟨⟨a, rfl⟩, hr w1 h1 (PostV.fw q f1)⟩
theorem d_ms1 {id : String} {name : Str} {r : V → List V → Hp → VK → Prop} {g : Str → D → Sto → QD → Prop} (slot : Slot "str" name id) (ty : typeOf (.builtin id) = pure (.type "method_descriptor")) (rule : MtR X id r)
    (hr : ∀ {μ : Mu} {S : Sto} {H : Hp} {a : Str} {y : V} {d : D} {Qd : QD} {Q : VK}, Wd (ct X) μ S H → Rp (ct X) μ H y d → g a d S Qd → PostV (ct X) μ H Qd Q → r (.str a) [y] H Q) (ho : PEd X E o fo) (ha : PEd X E e fa)
    (hs : starEach [e] X.env = [(false, eval e X.env)] := by rfl) (hbase : attributeBase o name X.env (eval o X.env) = eval o X.env := by rfl) (hline : (apos.endLine == cpos.line) = true := by rfl) : PEd X E (.Call (.Attribute o name apos) [e] [] cpos) (dMS1 g fo fa) := by
  refine PE.imp (pe_m1 slot ty rule ho ha hs hbase hline) fun σ H Q ⟨μ, S, ρ, Qd, Ed, w, en, hf, q, px⟩ => ?_
  refine tR_of w en hf px fun x S1 v H1 μ1 h1 f1 w1 en1 px1 r1 => ?_
  obtain ⟨a, rfl, h1⟩ := onStr_of h1
  cases r1.str_inv
  refine ⟨⟨a, rfl⟩, tR_of w1 en1 h1 px1 fun d S2 y H2 μ2 h2 f2 w2 en2 px2 r2 => hr w2 r2 h2 (PostV.fw (PostV.fw q f1) f2)⟩
theorem d_ascii (ho : PEd X E o fo) (hbase : attributeBase o "isascii" X.env (eval o X.env) = eval o X.env := by rfl) (hline : (apos.endLine == cpos.line) = true := by rfl) : PEd X E (.Call (.Attribute o "isascii" apos) [] [] cpos) (dMS0 gAscii fo) :=
  d_ms0 PySem.F.slot_str_isascii PySem.F.type_str_isascii mt_isascii (fun w h q => ⟨_, rfl, rfl, trivial, q.same w (.bl _) h⟩) ho hbase hline
theorem d_digit (ho : PEd X E o fo) (hbase : attributeBase o "isdigit" X.env (eval o X.env) = eval o X.env := by rfl) (hline : (apos.endLine == cpos.line) = true := by rfl) : PEd X E (.Call (.Attribute o "isdigit" apos) [] [] cpos) (dMS0 gDigit fo) :=
  d_ms0 PySem.F.slot_str_isdigit PySem.F.type_str_isdigit mt_isdigit (fun w h q => ⟨_, rfl, rfl, trivial, q.same w (.bl _) h⟩) ho hbase hline
theorem d_starts (ho : PEd X E o fo) (ha : PEd X E e fa) (hs : starEach [e] X.env = [(false, eval e X.env)] := by rfl) (hbase : attributeBase o "startswith" X.env (eval o X.env) = eval o X.env := by rfl) (hline : (apos.endLine == cpos.line) = true := by rfl) :
    PEd X E (.Call (.Attribute o "startswith" apos) [e] [] cpos) (dMS1 gStarts fo fa) :=
  d_ms1 PySem.F.slot_str_startswith PySem.F.type_str_startswith mt_startswith (fun w r h q => by
    obtain ⟨b, rfl, h⟩ := onStr_of h
    cases r.str_inv
    exact ⟨_, b, rfl, rfl, q.same w (.bl _) h⟩) ho ha hs hbase hline
theorem strs_rp {c : Ct} {μ : Mu} {H : Hp} : ∀ ys : List Str, RpAll c μ H (ys.map V.str) (ys.map D.str)
  | [] => .nil
  | y :: ys => .cons (.str y) (strs_rp ys)
theorem d_split (ho : PEd X E o fo) (ha : PEd X E e fa) (hs : starEach [e] X.env = [(false, eval e X.env)] := by rfl) (hbase : attributeBase o "split" X.env (eval o X.env) = eval o X.env := by rfl) (hline : (apos.endLine == cpos.line) = true := by rfl) :
    PEd X E (.Call (.Attribute o "split" apos) [e] [] cpos) (dMS1 gSplit fo fa) :=
  d_ms1 PySem.F.slot_str_split PySem.F.type_str_split mt_split (fun w r h q => by
    obtain ⟨b, rfl, ⟨h1, h2⟩, h⟩ := onStr_of h
    cases r.str_inv
    exact ⟨_, b, rfl, rfl, h1, h2, fun p hp => PostV.lst q w (strs_rp _) h hp⟩) ho ha hs hbase hline
end
/-! ## (*xs, ..) -/
def dStar (fe : FE) (fs : FA) : FA := fun ρ S Q Ed => fe ρ S (fun d S1 => onSome (seqOf S1 d) fun xs => fs ρ S1 (fun ys S2 => Q (xs ++ ys) S2) Ed) Ed
theorem d_star {X : Cx} {E : L2.St → XK} {e : Expr} {es : List Expr} {fe : FE} {fs : FA} {p : Pos} (he : PEd X E e fe) (hr : PAd X E es fs) (hs : starEach (.Starred e p :: es) X.env = (true, eval e X.env) :: starEach es X.env := by rfl) : PAd X E (.Starred e p :: es) (dStar fe fs) := by
  refine PA.imp (StX.pa_star he hr hs) fun σ H Q ⟨μ, S, ρ, Qd, Ed, w, en, hf, q, px⟩ => ?_
  refine tR_of w en hf px fun d S1 v H1 μ1 h1 f1 w1 en1 px1 r1 => ?_
  obtain ⟨xs, e1, h1⟩ := onSome_of h1
  obtain ⟨a, vs, rfl, hq, rs⟩ := r1.seq w1 e1
  refine ⟨a, vs, rfl, hq.symm, tR_of w1 en1 h1 px1 fun ys S2 us H2 μ2 h2 f2 w2 en2 px2 r2 => ?_⟩
  exact q _ S2 _ H2 μ2 h2 (f1.trans f2) w2 ((rs.fw w1 f2).append r2)
end Pu
namespace Pu
open PySem PySem.Spec PyProof.Rows L2
/-! ## several except clauses, each of one class or of two, with a name or without -/
section
variable {X : Cx}
/-- an error in the hand of the clauses: sI is the state without it -/
structure InHand (X : Cx) (B : Heap) (a : Addr) (cls : Value) (d : Option Addr) (pins : List (Addr × Obj)) (σ : L2.St) (H : Hp) (sI s' : Shared) : Prop where
  inv : Inv X pins σ H sI
  gr : ∀ b o, sI.heap.get? b = some o → b ∉ frs X.stack → B.get? b = some o
  na : H a = none
  os : s'.os = sI.os
  ag : AllBare s'.gens
section
variable {B : Heap} {a : Addr} {cls : Value} {d : Option Addr} {pins : List (Addr × Obj)} {σ : L2.St} {H : Hp} {sI s' : Shared} {h : Heap}
theorem InHand.now (c : InHand X B a cls d pins σ H sI s') (f : HandSPX.FlyingZ B (X.env :: X.outer) a (Zc cls d) h) (u : sI.heap.UpToSlots h) : Inv X pins σ H { s' with heap := h } := c.inv.landed c.gr f.1 u c.os c.ag
theorem flying_apart (f : HandSPX.FlyingZ B (X.env :: X.outer) a (Zc cls d) h) : a ∉ frs (X.env :: X.outer) := by
  obtain ⟨o, vs, e1, _, e2⟩ := f.there
  intro z
  obtain ⟨_, o', e3, nf⟩ := f.2.2.1.mem z
  rw [e1] at e3
  cases e3
  exact nf _ e2
theorem InHand.suite (c : InHand X B a cls d pins σ H sI s') (hf : X.env.frame = some X.env.locals) (f : HandSPX.FlyingZ B (X.env :: X.outer) a (Zc cls d) h) (u : sI.heap.UpToSlots h) :
    ∃ oe vs, h.get? a = some oe ∧ Zc cls d oe ∧ oe.data = .fields vs ∧ Inv (X.suite a ((a, oe) :: (X.pn ++ pins))) [] σ H { s' with heap := h } := by
  obtain ⟨o, vs, e1, z, e2⟩ := f.there
  have ap := flying_apart f
  refine ⟨o, vs, e1, z, e2, (c.now f u).suite e1 e2 c.na (fun w => ap ?_) fun w => ap ?_⟩
  · exact List.mem_filterMap.mpr ⟨X.env, List.mem_cons_self, w ▸ hf⟩
  · obtain ⟨e, m1, m2⟩ := List.mem_filterMap.mp w
    exact List.mem_filterMap.mpr ⟨e, List.mem_cons_of_mem _ m1, m2⟩
end
end
end Pu
namespace Pu
open PySem PySem.Spec PyProof.Rows L2 GenW
/-! ## list(g) where the generator's errors go on: they are of these classes, none of which stops an iteration -/
/-! ## a list that is put together and then changed -/
def gAddC : G2 := fun x y S Q => onSome (lstOf S x) fun xs => onSome (lstOf S y) fun ys => xs.length + ys.length ≤ sizeLine ∧ Q (.cell S.length) (S ++ [.lst (xs ++ ys)])
theorem o_addC {X : Cx} : OpR X (binaryOp .Add) (rD2 (ct X) gAddC) := by
  intro pins s σ H x y v u Q I rx ry ⟨μ, S, dx, dy, Qd, w, r1, r2, hg, q⟩
  obtain ⟨xs, e1, hg⟩ := onSome_of hg
  obtain ⟨ys, e2, hg⟩ := onSome_of hg
  obtain ⟨a, vs, rfl, ha, ra⟩ := r1.lstT w e1
  obtain ⟨b, ws, rfl, hb, rb⟩ := r2.lstT w e2
  exact op_cat pins s σ H _ _ v u Q I rx ry ⟨a, b, vs, ws, rfl, rfl, ha, hb, by rw [ra.length, rb.length]; exact hg.1, fun p hp => q.lay w (ra.append rb) hg.2 hp⟩
end Pu
/-! sorted of tuples of whole numbers, of any lengths, the first one empty -/
namespace PuSt
open PySem PySem.Calls PySem.W PyProof.Rows
def IsTI (hp : Heap) (v : Value) (ns : List Int) : Prop := ∃ (a : Addr) (dd : Option Addr) (items : Array Value) (n : Nat) (sl : Array (Option Value)), v = .ref a ∧ hp.get? a = some { cls := .type "tuple", dict := dd, data := .seq items n, slots := sl } ∧ IntsAre items.toList ns
theorem IsTI.keeps {hp hp' : Heap} {v : Value} {ns : List Int} (x : IsTI hp v ns) (k : ∀ b o, hp.get? b = some o → o.cls = .type "tuple" → hp'.get? b = some o) : IsTI hp' v ns := by
  obtain ⟨a, dd, items, n, sl, e, g, i⟩ := x
  exact ⟨a, dd, items, n, sl, e, k _ _ g rfl, i⟩
theorem IsTI.type {M : Model} {hp : Heap} {v : Value} {ns : List Int} (x : IsTI hp v ns) : Looks M hp (typeOf v) (.type "tuple") := by
  obtain ⟨a, dd, items, n, sl, rfl, g, i⟩ := x
  exact (Looks.ld g).andThen .now
end PuSt
namespace Pu
open PySem PySem.Spec PyProof.Rows L2
/-- a def that is never called -/
theorem fnNever {pr : Program} {wo : World} {K : PySem.W.Frag} {mg : Str → Option Value} {b0 : Heap} {cx : CXT} {lv : Nat} {fn : Addr} {dat : FuncData} {pars : List Str} {c : Ct} : Rb.FnG pr wo K mg b0 cx lv fn dat pars (spF c fun _ _ _ _ => False) :=
  ⟨fun _ _ _ _ ⟨_, _, _, _, _, _, _, h, _⟩ => h.elim, fun _ _ _ _ _ _ _ _ _ _ _ _ _ _ ⟨_, _, _, _, _, _, _, h, _⟩ => h.elim⟩
/-! ## a dict is no text -/
end Pu
namespace Pu
open PySem PySem.Spec PyProof.Rows L2 PySem.SeqAt
/-! ## x == [], x != [] of a list of any values: what is in it is not asked -/
def gEqN (neg : Bool) : G2 := fun x y S Q => onSome (pyC S x) fun p => onSome (pyC S y) fun q => match p, q with
  | .list ps, .list [] => Q (.bl (nb neg ps.isEmpty)) S
  | _, _ => False
section
variable {X : Cx}
theorem rc_empty {A : Around} {s : Shared} {u v : Value} {ps : List PyData} {as bs : List Addr} (h1 : Reads s.heap u (.list ps) as) (h2 : Reads s.heap v (.list []) bs) (hu : A.units + 64 < cLine) : RcAt A s u v ps.isEmpty ∧ RcNeAt A s u v (!ps.isEmpty) := by
  cases h1 with
  | @list l o vs n _ as₁ k1 k2 k3 k4 =>
    cases h2 with
    | @list l' o' vs' n' _ bs₁ j1 j2 j3 j4 =>
      have hl : s.heap.IsList l vs := ⟨_, k1, k2, _, k3⟩
      have hl' : s.heap.IsList l' vs' := ⟨_, j1, j2, _, j3⟩
      have n1 : vs.size = ps.length := by simpa using ReadsAll.length _ _ _ k4
      have n2 : vs'.size = 0 := by simpa using ReadsAll.length _ _ _ j4
      have hr : A.units < cLine := Nat.lt_of_le_of_lt (Nat.le_add_right _ _) hu
      cases ps with
      | nil =>
        have z : vs.size = 0 := n1
        have e1 := RcAt.lists (e := fun _ => true) hl hl' (by omega) hr (fun j j1 _ => absurd j1 (by omega))
        have e2 := RcNeAt.lists (e := fun _ => true) hl hl' (by omega) hr (fun j j1 _ => absurd j1 (by omega))
        rw [z] at e1 e2
        exact ⟨e1, e2⟩
      | cons p ps =>
        have z : (vs.size != vs'.size) = true := by
          rw [n1, n2]
          rfl
        exact ⟨RcAt.lists_lengths hl hl' z hr, RcNeAt.lists_lengths hl hl' z hr⟩
theorem o_neN (hu : X.A.units + 64 < cLine) : OpR X (compareOp .NotEq) (rD2 (ct X) (gEqN true)) := by
  intro pins s σ H x y v u Q I rx ry ⟨μ, S, dx, dy, Qd, w, r1, r2, hg, q⟩
  obtain ⟨p, e1, hg⟩ := onSome_of hg
  obtain ⟨p', e2, hg⟩ := onSome_of hg
  obtain ⟨as, h1⟩ := w.reads I r1 rx e1
  obtain ⟨bs, h2⟩ := w.reads I r2 ry e2
  split at hg
  · exact (rc_empty h1 h2 hu).2 _ _ _ _ ⟨.bl _, H, I, rfl, q.same w (.bl _) hg⟩
  · exact hg.elim
end
/-! ## ==, != of values with any texts in them, and no dict -/
/-! ## the first place of a truth value in a list of truth values -/
end Pu
namespace Pu
open PySem PySem.Spec PyProof.Rows L2
/-! ## try with several clauses whose bodies may make and change lists -/
def noXC : Cl → Bool
  | .lst ds => noXs ds
  | .ins _ fs => noXf fs
def keepC (S S2 : Sto) : Prop := ∀ (i : Nat) (x : Cl), S2[i]? = some x → S[i]? = some x ∨ noXC x = true
theorem keepC.snoc {S S2 : Sto} {c : Cl} (k : keepC S S2) (n : noXC c = true) : keepC S (S2 ++ [c]) := fun i x h => by
  by_cases hi : i < S2.length
  · rw [List.getElem?_append_left hi] at h
    exact k i x h
  · rw [List.getElem?_append_right (by omega)] at h
    by_cases h0 : i - S2.length = 0
    · rw [h0] at h
      cases h
      exact .inr n
    · rw [List.getElem?_eq_none (by show 1 ≤ _; omega)] at h
      cases h
theorem keepC.put {S S2 : Sto} {c : Cl} {j : Nat} (k : keepC S S2) (n : noXC c = true) : keepC S (S2.set j c) := fun i x h => by
  by_cases hi : i = j
  · subst hi
    by_cases hl : i < S2.length
    · rw [List.getElem?_set_self hl] at h
      cases h
      exact .inr n
    · rw [List.getElem?_eq_none (by rw [List.length_set]; omega)] at h
      cases h
  · rw [List.getElem?_set_ne (Ne.symm hi)] at h
    exact k i x h
end Pu
namespace Pu
open PySem PySem.Spec PyProof.Rows L2
/-! ## a text, or no text -/
def gMulS : G2 := fun x y S Q => match x, y with
  | .str a, .int k => (k = 0 ∨ k = 1) ∧ Q (.str (if k = 1 then a else Str.empty)) S
  | _, _ => False
theorem o_mulS {X : Cx} : OpR X (binaryOp .Mult) (rD2 (ct X) gMulS) := by
  intro pins s σ H x y v u Q I rx ry ⟨μ, S, dx, dy, Qd, w, r1, r2, hg, q⟩
  unfold gMulS at hg
  split at hg
  · rename_i a k
    obtain ⟨hk, hg⟩ := hg
    cases r1.str_inv
    cases r2.int_inv
    obtain ⟨t, rfl⟩ := rx
    obtain ⟨t2, rfl⟩ := ry
    have e : (if k = 1 then a else Str.empty) = Txt.mul a k := by
      unfold Txt.mul
      rcases hk with rfl | rfl
      · rw [if_neg (by decide), if_pos (by decide)]
      · rw [if_pos rfl, if_neg (by decide), if_pos (by rfl)]
    rw [e] at hg
    refine SB.mul ⟨?_, fun h1 h2 => ?_, fun h1 h2 => ?_⟩ fun t' m => ⟨.str _, H, I.tok _, ⟨t', rfl⟩, q.same w (.str _) hg⟩
    · rcases hk with rfl | rfl <;> decide
    · exfalso
      rcases hk with rfl | rfl
      · exact h1 (by decide)
      · cases h2
    · exfalso
      rcases hk with rfl | rfl
      · exact h1 (by decide)
      · cases h2
  · exact hg.elim
end Pu
namespace Pu
open PySem PySem.Spec PyProof.Rows L2 PySem.SeqAt
/-! ## the signs of a text -/
def signsD (a : Str) : List D := a.cps.toList.map fun c => D.str ⟨#[c]⟩
theorem its_ok {c : Ct} {a : Str} : ItOk c (Its a) (signsD a) [] (fun _ _ => True) where
  keep := fun _ _ => trivial
  go := fun {μ S H} _ w _ i d hd => by
    unfold signsD at hd
    rw [List.getElem?_map] at hd
    obtain ⟨k, hk, rfl⟩ := Option.map_eq_some_iff.mp hd
    have hk' : a.cps[i]? = some k := by rw [← Array.getElem?_toList]; exact hk
    refine ⟨(Array.getElem?_eq_some_iff.mp hk').1, fun x H' hy => ?_⟩
    obtain ⟨rfl, c', hc, rfl⟩ := hy
    rw [hk'] at hc
    cases hc
    exact ⟨Fw.refl, w, .str _⟩
  stop := fun {μ S H} _ _ _ => by
    show a.cps.size ≤ (signsD a).length
    unfold signsD
    rw [List.length_map, Array.length_toList]
    exact Nat.le_refl _
def dItStr (fe : FE) : FI := fun ρ S Q Ed => fe ρ S (fun d S1 => onStr d fun a => Q (signsD a, []) S1) Ed
theorem d_istr {X : Cx} {E : L2.St → XK} {tg e : Expr} {fe : FE} (he : PEd X E e fe) : PId X E tg e (dItStr fe) := by
  refine PI.imp (pi_str he) fun σ H R ⟨μ, S, ρ, Qi, Ed, w, en, hf, q, px⟩ => ?_
  refine tR_of w en hf px fun d S1 v H1 μ1 h1 f1 w1 en1 px1 r1 => ?_
  obtain ⟨a, rfl, h1⟩ := onStr_of h1
  cases r1.str_inv
  exact ⟨a, rfl, q _ S1 H1 μ1 _ _ h1 f1 w1 its_ok trivial (fun _ z => nomatch z)⟩
/-! ## a sign that is not in a text -/
def gNotInG : G2 := fun x y S Q => match x, y with
  | .str a, .str b => onSome (a.cps.toList.head?) fun c => a.cps.size = 1 ∧ Q (.bl (!decide (c ∈ b.cps.toList))) S
  | _, _ => False
theorem o_notInG {X : Cx} : OpR X (compareOp .NotIn) (rD2 (ct X) gNotInG) := by
  intro pins s σ H x y v u Q I rx ry ⟨μ, S, dx, dy, Qd, w, r1, r2, hg, q⟩
  unfold gNotInG at hg
  split at hg
  · rename_i a b
    obtain ⟨c, e1, e2, hq⟩ := onSome_of hg
    clear hg
    have ea : a = ⟨#[c]⟩ := by
      obtain ⟨l⟩ := a
      obtain ⟨l⟩ := l
      match l, e1, e2 with
      | [k], e1, _ => cases e1; rfl
    subst ea
    exact op_notIn_sign pins s σ H x y v u Q I rx ry ⟨c, b, r1.str_inv, r2.str_inv, q.same w (.bl _) hq⟩
  · exact hg.elim
/-! ## a value in a list of any values but dicts, and its first place -/
def gInP : G2 := fun x y S Q => onSome (pyC S x) fun p => onSome (pyC S y) fun q => match q with
  | .list ps => (PyData.plainAll ps = true ∧ p.plain = true ∧ p.depth ≤ 60) ∧ Q (.bl (ps.any fun z => PyData.eqv z p)) S
  | _ => False
theorem o_inP {X : Cx} (hu : X.A.units + 64 < cLine) : OpR X (compareOp .In) (rD2 (ct X) gInP) := by
  intro pins s σ H x y v u Q I rx ry ⟨μ, S, dx, dy, Qd, w, r1, r2, hg, q⟩
  obtain ⟨p, e1, hg⟩ := onSome_of hg
  obtain ⟨p', e2, hg⟩ := onSome_of hg
  obtain ⟨as, h1⟩ := w.reads I r1 rx e1
  obtain ⟨bs, h2⟩ := w.reads I r2 ry e2
  split at hg
  · obtain ⟨⟨k1, k2, k3⟩, hg⟩ := hg
    exact SeqAt.in_list_data h2 h1 k1 k2 (by omega) ⟨.bl _, H, I, rfl, q.same w (.bl _) hg⟩
  · exact hg.elim
def gIndexP : GM := fun x ds S Q => match ds with
  | [d] => onSome (pyC S d) fun p => onSome (pyC S x) fun q => match q with
    | .list ps => (PyData.plainAll ps = true ∧ p.plain = true ∧ p.depth ≤ 60 ∧ ps.length ≤ 100000) ∧ onSome (ps.findIdx? fun z => PyData.eqv z p) fun j => Q (.int (j : Int)) S
    | _ => False
  | _ => False
theorem m_indexP {X : Cx} (hu : X.A.units + 64 < cLine) : MtR X "list.index" (rDm (ct X) gIndexP) := by
  intro pins s σ H x xs v us Q I rx rxs ⟨μ, S, d, ds, Qd, w, r1, ra, hg, q⟩
  unfold gIndexP at hg
  split at hg
  · rename_i d1
    obtain ⟨y, rfl, ry⟩ := ra.one
    obtain ⟨p, e1, hg⟩ := onSome_of hg
    obtain ⟨p', e2, hg⟩ := onSome_of hg
    obtain ⟨u, rfl, ru⟩ := rxs.one
    obtain ⟨as, h1⟩ := w.reads I ry ru e1
    obtain ⟨bs, h2⟩ := w.reads I r1 rx e2
    split at hg
    · rename_i ps
      obtain ⟨⟨k1, k2, k3, k4⟩, hg⟩ := hg
      obtain ⟨j, e3, hg⟩ := onSome_of hg
      obtain ⟨hj, hb, hno⟩ := List.findIdx?_eq_some_iff_getElem.mp e3
      cases h2 with
      | @list l o vs n _ as₁ j1 j2 j3 j4 =>
        have hl : s.heap.IsList l vs := ⟨_, j1, j2, _, j3⟩
        obtain ⟨⟨cls, dd, data, sl⟩, ho, hc, n2, hd⟩ := id hl
        simp only at hc hd
        subst hc hd
        have em := readsAll_map_plain ps vs.toList _ k1 j4
        have el : vs.size = ps.length := by rw [← em, List.length_map, Array.length_toList]
        have at_ : ∀ (m : Nat) (hm : m < vs.size), PyData.eqv (readOf s.heap vs[m]) p = PyData.eqv (ps[m]'(by omega)) p := fun m hm => by
          congr 1
          have : ps[m]? = some (readOf s.heap vs[m]) := by
            rw [← em, List.getElem?_map, Array.getElem?_toList, Array.getElem?_eq_getElem hm]
            rfl
          rw [List.getElem?_eq_getElem (by omega)] at this
          exact (Option.some.inj this).symm
        refine call_meets PySem.F.slot_list_index ⟨_, ho, rfl⟩ PySem.F.entry_list_index (PySem.F.args_list_index_2 _ _) (SeqAt.list_indexAt l _ n2 dd sl _ (fun y => PyData.eqv (readOf s.heap y) p) j (by omega) ?_ ?_ ?_) ⟨ho, items_plain j4 h1 k1 k2 ?_, ?_⟩
        · have : j < 100000 := by omega
          exact Int.lt_trans (Int.ofNat_lt.mpr this) (by decide)
        · rw [at_ j (by omega)]
          exact hb
        · intro m hm hm2
          rw [at_ m hm]
          have := hno m hm2
          simpa using this
        · show X.A.units + 1 + min _ _ < cLine
          omega
        · exact ⟨.int (j : Int), H, I.tok _, ⟨s.toks, rfl⟩, q.same w (.int _) hg⟩
    · exact hg.elim
  · exact hg.elim
end Pu
namespace Pu
open PySem L2
def den_listed : FS := (dRet (dJoin (dC (.str ",")) (dLc (st1 1) dYes (dB gStr (dCons (dVar 1) dNil)) (dItS (dVar 0)))))
@[irreducible] def F_listed : FF := dDef 1 2 den_listed
def den_law_deck_2 : FS := (dRet (dLstC (dCons (dLcC (st1 1) dYes (dB gAbs (dCons (dVar 1) dNil)) (dItS (dSl (dVar 0) dNoP (dPart (dC (.int 60)))))) (dCons (dC (.int 0)) dNil))))
@[irreducible] def F_law_deck_2 : FF := dDef 1 2 den_law_deck_2
def den_law_draw_3 : FS := (dSeq (dAsg (dBin gAdd (dBin gIx (dVar 0) (dC (.int 1))) (dC (.int 1))) (gSetI (dVar 0) (dC (.int 1))))
 (dSeq (dAsg (dBin gMod (dBin gIx (dVar 0) (dC (.int 1))) (dB gMax (dCons (dC (.int 1)) (dCons (dB gLen (dCons (dBin gIx (dVar 0) (dC (.int 0))) dNil)) dNil)))) (gN 2))
 (dSeq (dAsg (dBin gIx (dBin gAdd (dBin gIx (dVar 0) (dC (.int 0))) (dLst (dCons (dC (.int 0)) dNil))) (dVar 2)) (gN 3))
 (dSeq (dIfS (dTest (dBin gGe (dVar 3) (dBin gPow (dC (.int 10)) (dC (.int 18)))))
 (dSeq (dAsg (dBin gFdiv (dVar 3) (dVar 1)) (gSetI (dBin gIx (dVar 0) (dC (.int 0))) (dVar 2)))
 (dRet (dBin gMod (dVar 3) (dVar 1))))
 dSkip)
 (dSeq (dAsg (dBin gMod (dBin gPow (dBin gAdd (dBin gAdd (dBin gMod (dVar 3) (dC (.int 2147483563))) (dBin gMul (dC (.int 104729)) (dBin gIx (dVar 0) (dC (.int 1))))) (dC (.int 7))) (dC (.int 4))) (dC (.int 2147483629))) (gN 4))
 (dRet (dBin gMod (dBin gAdd (dBin gFdiv (dVar 4) (dC (.int 8))) (dBin gMul (dC (.int 31)) (dBin gIx (dVar 0) (dC (.int 1))))) (dVar 1))))))))
@[irreducible] def F_law_draw_3 : FF := dDef 2 5 den_law_draw_3
def den_law_state : FS := (dSeq (dAsg (dBin iEq (dCallW F_law_draw_3 (dCons (dVar 0) (dCons (dC (.int 3)) dNil))) (dC (.int 0))) (gN 3))
 (dSeq (dAsg (dBin gAdd (dC (.int 2)) (dCallW F_law_draw_3 (dCons (dVar 0) (dCons (dBin gIx (dLst (dCons (dC (.int 12)) (dCons (dC (.int 999)) dNil))) (dB gToInt (dCons (dVar 3) dNil))) dNil)))) (gN 4))
 (dSeq (dPar3 5 6 7 (dCons (dBin gAdd (dC (.int 1)) (dCallW F_law_draw_3 (dCons (dVar 0) (dCons (dBin gSub (dVar 4) (dC (.int 1))) dNil)))) (dCons (dLstC dNil) (dCons (dLstC dNil) dNil))))
 (dSeq (dFor (dRng1 (dCons (dBin gAdd (dC (.int 1)) (dCallW F_law_draw_3 (dCons (dVar 0) (dCons (dVar 1) dNil)))) dNil)) (gN 8)
 (dDrop (dML gAppend (dVar 6) (dCons (dBin gIx (dLst (dCons (dC (.int 0)) (dCons (dCallW F_law_draw_3 (dCons (dVar 0) (dCons (dC (.int 2)) dNil))) (dCons (dCallW F_law_draw_3 (dCons (dVar 0) (dCons (dC (.int 3)) dNil))) (dCons (dCallW F_law_draw_3 (dCons (dVar 0) (dCons (dC (.int 13)) dNil))) dNil))))) (dCallW F_law_draw_3 (dCons (dVar 0) (dCons (dC (.int 4)) dNil)))) dNil))))
 (dSeq (dFor (dRng1 (dCons (dBin gAdd (dC (.int 1)) (dCallW F_law_draw_3 (dCons (dVar 0) (dCons (dVar 2) dNil)))) dNil)) (gN 9)
 (dDrop (dML gAppend (dVar 7) (dCons (dCallW F_law_draw_3 (dCons (dVar 0) (dCons (dBin gIx (dLst (dCons (dC (.int 40)) (dCons (dBin gAdd (dBin gPow (dC (.int 10)) (dC (.int 6))) (dC (.int 1))) dNil))) (dB gToInt (dCons (dAndV (dVar 3) (dBin iEq (dCallW F_law_draw_3 (dCons (dVar 0) (dCons (dC (.int 2)) dNil))) (dC (.int 0)))) dNil))) dNil))) dNil))))
 (dRet (dTup (dCons (dTup (dCons (dVar 4) (dCons (dVar 5) (dCons (dB gTuple (dCons (dVar 6) dNil)) dNil)))) (dCons (dB gTuple (dCons (dVar 7) dNil)) dNil)))))))))
@[irreducible] def F_law_state : FF := dDefC 3 10 den_law_state
def den_law_trip_text : FS := (dSeq (dAsg (dVar 0) (gTp 2 (gsCons (gTp 3 (gsCons (gN 1) (gsCons (gN 2) (gsCons (gN 3) gsNil)))) (gsCons (gN 4) gsNil))))
 (dSeq (dAsg (dLst (dCons (dBin gAdd (dBin gAdd (dB gStr (dCons (dVar 1) dNil)) (dC (.str "/"))) (dB gStr (dCons (dVar 2) dNil))) (dCons (dCallW F_listed (dCons (dVar 3) dNil)) (dCons (dC (.str "from")) (dCons (dCallW F_listed (dCons (dVar 4) dNil)) dNil))))) (gN 5))
 (dRet (dJoin (dC (.str " ")) (dVar 5)))))
@[irreducible] def F_law_trip_text : FF := dDef 1 6 den_law_trip_text
end Pu
namespace Pu
open PySem L2
def den_Trip_finish : FS := (dRet (dBin gIx (dBin gIx (dFld ["Trip"] "versions" (dVar 0)) (dUn gNeg (dC (.int 1)))) (dC (.int 2))))
@[irreducible] def F_Trip_finish : FF := dDef 1 1 den_Trip_finish
end Pu
namespace Pu
open PySem L2
def den_number_in : FS := (dSeq (dIfS (dOr (dNot (dTest (dMS0 gAscii (dVar 0)))) (dNot (dTest (dMS0 gDigit (dVar 0)))))
 (dRet (dC .non))
 dSkip)
 (dSeq (dIfS (dOr (dTest (dBin gGt (dB gLen (dCons (dVar 0) dNil)) (dB gLen (dCons (dB gStr (dCons (dVar 2) dNil)) dNil)))) (dAnd (dTest (dMS1 gStarts (dVar 0) (dC (.str "0")))) (dTest (dBin iNe (dVar 0) (dC (.str "0"))))))
 (dRet (dC .non))
 dSkip)
 (dSeq (dAsg (dB gIntS (dCons (dVar 0) dNil)) (gN 3))
 (dRet (dIf (dTest (dChain gLe gLe (dVar 1) (dVar 3) (dVar 2))) (dVar 3) (dC .non))))))
@[irreducible] def F_number_in : FF := dDef 3 4 den_number_in
end Pu
namespace Pu
open PySem L2
def den_ticks_in : FS := (dSeq (dAsg (dMS1 gSplit (dVar 0) (dC (.str "/"))) (gN 1))
 (dSeq (dIfS (dTest (dBin iNe (dB gLen (dCons (dVar 1) dNil)) (dC (.int 2))))
 (dRet (dC .non))
 dSkip)
 (dSeq (dAsg (dCallW F_number_in (dCons (dBin gIx (dVar 1) (dC (.int 0))) (dCons (dC (.int 1)) (dCons (dC (.int 1000)) dNil)))) (gN 2))
 (dSeq (dIfS (dTest (dBin (gIs false) (dVar 2) (dC .non)))
 (dRet (dC .non))
 dSkip)
 (dSeq (dAsg (dCallW F_number_in (dCons (dBin gIx (dVar 1) (dC (.int 1))) (dCons (dC (.int 1)) (dCons (dBin gSub (dVar 2) (dC (.int 1))) dNil)))) (gN 3))
 (dRet (dIf (dTest (dBin (gIs false) (dVar 3) (dC .non))) (dC .non) (dTup (dCons (dVar 2) (dCons (dVar 3) dNil))))))))))
@[irreducible] def F_ticks_in : FF := dDef 1 4 den_ticks_in
def den_numbers_in : FS := (dSeq (dAsg (dMS1 gSplit (dVar 0) (dC (.str ","))) (gN 3))
 (dSeq (dIfS (dTest (dBin gGt (dB gLen (dCons (dVar 3) dNil)) (dVar 1)))
 (dRet (dC .non))
 dSkip)
 (dSeq (dAsg (dLc (st1 5) dYes (dCallW F_number_in (dCons (dVar 5) (dCons (dC (.int 0)) (dCons (dVar 2) dNil)))) (dItS (dVar 3))) (gN 4))
 (dRet (dIf (dTest (dBin gInN (dC .non) (dVar 4))) (dC .non) (dB gTuple (dCons (dVar 4) dNil)))))))
@[irreducible] def F_numbers_in : FF := dDef 3 6 den_numbers_in
def den_law_bent_3 : FS := (dSeq (dAsg (dMS1 gSplit (dVar 1) (dC (.str " "))) (gN 2))
 (dSeq (dPar 3 4 (dCons (dCallW F_law_draw_3 (dCons (dVar 0) (dCons (dB gLen (dCons (dVar 2) dNil)) dNil))) (dCons (dCallW F_law_draw_3 (dCons (dVar 0) (dCons (dC (.int 6)) dNil))) dNil)))
 (dSeq (dIfS (dTest (dBin iEq (dVar 4) (dC (.int 0))))
 (dRet (dJoin (dC (.str " ")) (dBin gAdd (dBin gAdd (dSl (dVar 2) dNoP (dPart (dVar 3))) (dSl (dVar 2) (dPart (dVar 3)) (dPart (dBin gAdd (dVar 3) (dC (.int 1)))))) (dSl (dVar 2) (dPart (dVar 3)) dNoP))))
 dSkip)
 (dSeq (dIfS (dTest (dBin iEq (dVar 4) (dC (.int 1))))
 (dRet (dJoin (dC (.str " ")) (dBin gAdd (dSl (dVar 2) (dPart (dVar 3)) dNoP) (dSl (dVar 2) dNoP (dPart (dVar 3))))))
 dSkip)
 (dSeq (dIfS (dTest (dBin iEq (dVar 4) (dC (.int 2))))
 (dRet (dJoin (dC (.str " ")) (dBin gAdd (dSl (dVar 2) dNoP (dPart (dVar 3))) (dSl (dVar 2) (dPart (dBin gAdd (dVar 3) (dC (.int 1)))) dNoP))))
 dSkip)
 (dSeq (dIfS (dTest (dBin iEq (dVar 4) (dC (.int 3))))
 (dRet (dJoin (dC (.str " ")) (dBin gAdd (dVar 2) (dSl (dVar 2) (dPart (dVar 3)) dNoP))))
 dSkip)
 (dSeq (dAsg (dCallW F_law_draw_3 (dCons (dVar 0) (dCons (dBin gAdd (dB gLen (dCons (dVar 1) dNil)) (dC (.int 1))) dNil))) (gN 5))
 (dSeq (dAsg (dBin gIx (dLst (dCons (dC (.str "0")) (dCons (dC (.str "1")) (dCons (dC (.str "5")) (dCons (dC (.str "9")) (dCons (dC (.str "-")) (dCons (dC (.str " ")) (dCons (dC (.str "+")) (dCons (dC (.str "_")) (dCons (dC (.str ",")) (dCons (dC (.str "/")) (dCons (dC (.str "from")) (dCons (dC (.str "x")) dNil))))))))))))) (dCallW F_law_draw_3 (dCons (dVar 0) (dCons (dC (.int 12)) dNil)))) (gN 6))
 (dRet (dBin gAdd (dBin gAdd (dSl (dVar 1) dNoP (dPart (dVar 5))) (dBin gMulS (dVar 6) (dCallW F_law_draw_3 (dCons (dVar 0) (dCons (dC (.int 2)) dNil))))) (dSl (dVar 1) (dPart (dBin gAdd (dVar 5) (dCallW F_law_draw_3 (dCons (dVar 0) (dCons (dC (.int 2)) dNil))))) dNoP)))))))))))
@[irreducible] def F_law_bent_3 : FF := dDef 2 7 den_law_bent_3
def den_part_in : FS := (dSeq (dIfS (dTest (dBin iEq (dVar 1) (dC (.int 0))))
 (dRet (dCallW F_ticks_in (dCons (dVar 0) dNil)))
 dSkip)
 (dSeq (dIfS (dTest (dBin iEq (dVar 1) (dC (.int 1))))
 (dRet (dCallW F_numbers_in (dCons (dVar 0) (dCons (dC (.int 12)) (dCons (dC (.int 12)) dNil)))))
 dSkip)
 (dSeq (dIfS (dTest (dBin iEq (dVar 1) (dC (.int 2))))
 (dRet (dIf (dTest (dBin iEq (dVar 0) (dC (.str "from")))) (dVar 0) (dC .non)))
 dSkip)
 (dSeq (dIfS (dTest (dBin iEq (dVar 1) (dC (.int 3))))
 (dRet (dCallW F_numbers_in (dCons (dVar 0) (dCons (dC (.int 10)) (dCons (dC (.int 1000000)) dNil)))))
 dSkip)
 (dRet (dC .non))))))
@[irreducible] def F_part_in : FF := dDef 2 2 den_part_in
def den_parse_trip : FS := (dSeq (dIfS (dNot (dTest (dUn (gIsi .str) (dVar 0))))
 (dRaise "BadText" "index" (dC .non))
 dSkip)
 (dSeq (dAsg (dLstC dNil) (gN 1))
 (dSeq (dFor (dEnL (dCons (dMS1 gSplit (dVar 0) (dC (.str " "))) dNil)) (gTp 2 (gsCons (gN 2) (gsCons (gN 3) gsNil)))
 (dSeq (dAsg (dCallW F_part_in (dCons (dVar 3) (dCons (dVar 2) dNil))) (gN 4))
 (dSeq (dIfS (dTest (dBin (gIs false) (dVar 4) (dC .non)))
 (dRaise "BadText" "index" (dVar 2))
 dSkip)
 (dDrop (dML gAppend (dVar 1) (dCons (dVar 4) dNil))))))
 (dSeq (dIfS (dTest (dBin gLt (dB gLen (dCons (dVar 1) dNil)) (dC (.int 4))))
 (dRaise "BadText" "index" (dB gLen (dCons (dVar 1) dNil)))
 dSkip)
 (dSeq (dAsg (dVar 1) (gUn 4 (gsCons (gN 5) (gsCons (gN 6) (gsCons (gN 7) (gsCons (gN 8) gsNil))))))
 (dRet (dTup (dCons (dTup (dStar (dVar 5) (dCons (dVar 6) dNil))) (dCons (dVar 8) dNil)))))))))
@[irreducible] def F_parse_trip : FF := dDefX 1 9 den_parse_trip
def den_law_same_2 (R : FF) : FS := (dSeq (dIfS (dTest (dUn (gIsi .tup) (dVar 1)))
 (dSeq (dIfS (dOr (dNot (dTest (dUn (gIsi .tup) (dVar 0)))) (dTest (dBin iNe (dB gLen (dCons (dVar 0) dNil)) (dB gLen (dCons (dVar 1) dNil)))))
 (dRet (dC (.bl false)))
 dSkip)
 (dRet (dBin iEq (dLc (st2 2 3) (dNot (dTest (dCallW R (dCons (dVar 2) (dCons (dVar 3) dNil))))) (dC (.int 1)) (dZip (dCons (dVar 0) (dCons (dVar 1) dNil)))) (dLst dNil))))
 dSkip)
 (dSeq (dIfS (dTest (dBin (gIs false) (dVar 1) (dC .non)))
 (dRet (dBin (gIs false) (dVar 0) (dC .non)))
 dSkip)
 (dSeq (dIfS (dTest (dUn (gIsi .str) (dVar 1)))
 (dRet (dAndV (dUn (gIsi .str) (dVar 0)) (dBin iEq (dVar 0) (dVar 1))))
 dSkip)
 (dRet (dAndV (dUn (gIsi .int) (dVar 0)) (dAndV (dBin iEq (dUn (gIsi .bool) (dVar 0)) (dUn (gIsi .bool) (dVar 1))) (dBin iEq (dVar 0) (dVar 1))))))))
def R_law_same_2 : Nat → FF
  | 0 => dDef 2 4 (den_law_same_2 fun _ _ _ _ => False)
  | k + 1 => dDef 2 4 (den_law_same_2 (R_law_same_2 k))
@[irreducible] def F_law_same_2 (k : Nat) : FF := R_law_same_2 k
theorem F_law_same_2_zero : F_law_same_2 0 = dDef 2 4 (den_law_same_2 fun _ _ _ _ => False) := by
  unfold F_law_same_2
  rfl
theorem F_law_same_2_succ {k : Nat} : F_law_same_2 (k + 1) = dDef 2 4 (den_law_same_2 (F_law_same_2 k)) := by
  unfold F_law_same_2
  rfl
end Pu
namespace Pu
open PySem L2
def den_law_numbers : FS := (dSeq (dAsg (dMS1 gSplit (dVar 0) (dVar 1)) (gN 3))
 (dSeq (dFor (dItS (dVar 3)) (gN 4)
 (dSeq (dIfS (dOr (dNot (dTest (dChain gLe gLe (dC (.int 1)) (dB gLen (dCons (dVar 4) dNil)) (dC (.int 7))))) (dTest (dBin (gEqN true) (dLc (st1 5) (dTest (dBin gNotInG (dVar 5) (dC (.str "0123456789")))) (dVar 5) (dItStr (dVar 4))) (dLst dNil))))
 (dRet (dC .non))
 dSkip)
 (dIfS (dOr (dAnd (dTest (dBin iEq (dBin gIx (dVar 4) (dC (.int 0))) (dC (.str "0")))) (dTest (dBin iNe (dVar 4) (dC (.str "0"))))) (dTest (dBin gGt (dB gIntS (dCons (dVar 4) dNil)) (dVar 2))))
 (dRet (dC .non))
 dSkip)))
 (dRet (dB gTuple (dCons (dLc (st1 4) dYes (dB gIntS (dCons (dVar 4) dNil)) (dItS (dVar 3))) dNil)))))
@[irreducible] def F_law_numbers : FF := dDef 3 6 den_law_numbers
def den_law_odd_5 : FS := (dSeq (dAsg (dLst (dCons (dC .non) (dCons (dC (.bl true)) (dCons (dC (.bl false)) (dCons (dC (.int 0)) (dCons (dUn gNeg (dC (.int 1))) (dCons (dBin gPow (dC (.int 10)) (dC (.int 29))) (dCons (dTup dNil) (dCons (dLst dNil) (dCons (dC (.dic [])) (dCons (dTup (dCons (dC (.int 0)) (dCons (dC (.int 0)) dNil))) (dCons (dLst (dCons (dC (.str "3/1 0 from 5")) dNil)) (dCons (dTup (dCons (dTup (dCons (dC (.int 3)) (dCons (dC (.int 1)) (dCons (dTup (dCons (dC (.int 0)) dNil)) dNil)))) (dCons (dTup (dCons (dC (.int 5)) dNil)) dNil))) dNil))))))))))))) (gN 1))
 (dRet (dBin gIx (dVar 1) (dCallW F_law_draw_3 (dCons (dVar 0) (dCons (dC (.int 12)) dNil))))))
@[irreducible] def F_law_odd_5 : FF := dDef 1 2 den_law_odd_5
def den_law_part : FS := (dSeq (dIfS (dTest (dBin iEq (dVar 0) (dC (.int 0))))
 (dSeq (dAsg (dCallW F_law_numbers (dCons (dVar 1) (dCons (dC (.str "/")) (dCons (dC (.int 1000)) dNil)))) (gN 2))
 (dRet (dIf (dAnd (dTest (dBin (gIs true) (dVar 2) (dC .non))) (dAnd (dTest (dBin iEq (dB gLen (dCons (dVar 2) dNil)) (dC (.int 2)))) (dTest (dChain gLe gLt (dC (.int 1)) (dBin gIx (dVar 2) (dC (.int 1))) (dBin gIx (dVar 2) (dC (.int 0))))))) (dVar 2) (dC .non))))
 dSkip)
 (dSeq (dIfS (dTest (dBin iEq (dVar 0) (dC (.int 1))))
 (dSeq (dAsg (dCallW F_law_numbers (dCons (dVar 1) (dCons (dC (.str ",")) (dCons (dC (.int 12)) dNil)))) (gN 3))
 (dRet (dIf (dAnd (dTest (dBin (gIs true) (dVar 3) (dC .non))) (dTest (dBin gLe (dB gLen (dCons (dVar 3) dNil)) (dC (.int 12))))) (dVar 3) (dC .non))))
 dSkip)
 (dSeq (dIfS (dTest (dBin iEq (dVar 0) (dC (.int 2))))
 (dRet (dIf (dTest (dBin iEq (dVar 1) (dC (.str "from")))) (dVar 1) (dC .non)))
 dSkip)
 (dSeq (dAsg (dIf (dTest (dBin iEq (dVar 0) (dC (.int 3)))) (dCallW F_law_numbers (dCons (dVar 1) (dCons (dC (.str ",")) (dCons (dBin gPow (dC (.int 10)) (dC (.int 6))) dNil)))) (dC .non)) (gN 4))
 (dRet (dIf (dAnd (dTest (dBin (gIs true) (dVar 4) (dC .non))) (dTest (dBin gLe (dB gLen (dCons (dVar 4) dNil)) (dC (.int 10))))) (dVar 4) (dC .non)))))))
@[irreducible] def F_law_part : FF := dDef 2 5 den_law_part
def den_law_due_2 : FS := (dSeq (dIfS (dNot (dTest (dUn (gIsi .str) (dVar 0))))
 (dRet (dTup (dCons (dC (.str "BadText")) (dCons (dC .non) dNil))))
 dSkip)
 (dSeq (dAsg (dMS1 gSplit (dVar 0) (dC (.str " "))) (gN 1))
 (dSeq (dAsg (dLc (st2 3 4) dYes (dCallW F_law_part (dCons (dVar 3) (dCons (dVar 4) dNil))) (dEnL (dCons (dVar 1) dNil))) (gN 2))
 (dSeq (dIfS (dTest (dBin gInP (dC .non) (dVar 2)))
 (dRet (dTup (dCons (dC (.str "BadText")) (dCons (dMLv gIndexP (dVar 2) (dCons (dC .non) dNil)) dNil))))
 dSkip)
 (dSeq (dIfS (dTest (dBin gLt (dB gLen (dCons (dVar 2) dNil)) (dC (.int 4))))
 (dRet (dTup (dCons (dC (.str "BadText")) (dCons (dB gLen (dCons (dVar 2) dNil)) dNil))))
 dSkip)
 (dRet (dTup (dCons (dBin gAdd (dBin gIx (dVar 2) (dC (.int 0))) (dTup (dCons (dBin gIx (dVar 2) (dC (.int 1))) dNil))) (dCons (dBin gIx (dVar 2) (dC (.int 3))) dNil)))))))))
@[irreducible] def F_law_due_2 : FF := dDef 1 5 den_law_due_2
def den_law_told_2 : FS := (dTry 1 [("BadText", true)] (dRet (dCallW F_parse_trip (dCons (dVar 0) dNil)))
 (dSeq (dIfS (dOr (dNot (dTest (dIsX [("BadText", "TripError", true)] 1 "TripError"))) (dTest (dIsXT [("BadText", "BadRoad", false), ("BadText", "BadStarts", false), ("BadText", "LookupError", false)] 1 ["BadRoad", "BadStarts", "LookupError"])))
 (dRet (dC (.str "other")))
 dSkip)
 (dRet (dTup (dCons (dC (.str "BadText")) (dCons (dXf ["BadText"] 1 "index") dNil))))))
@[irreducible] def F_law_told_2 : FF := dDef 1 2 den_law_told_2
def den_law_k56 : FS := (dSeq (dAsg (dCallW F_law_deck_2 (dCons (dVar 0) dNil)) (gN 1))
 (dSeq (dAsg (dLstC (dCons (dC (.str "")) (dCons (dC (.str " ")) (dCons (dC (.str "3/1")) (dCons (dC (.str "3/1 0")) (dCons (dC (.str "3/1 0 from")) (dCons (dC (.str "3/1 0 from 5")) (dCons (dC (.str "3/1 0 from 5 ")) (dCons (dC (.str "3/1 0 from 5 x")) (dCons (dC (.str " 3/1 0 from 5")) dNil)))))))))) (gN 2))
 (dSeq (dAsg (dBin gAddC (dVar 2) (dLst (dCons (dC (.str "3/1  0 from 5")) (dCons (dC (.str "3/1 0  from 5")) (dCons (dC (.str "3/1 0 from  5")) (dCons (dC (.str "from")) (dCons (dC (.str "3/1 from 5")) (dCons (dC (.str "3/1 0 5")) (dCons (dC (.str "0 from 5")) dNil))))))))) (gN 2))
 (dSeq (dFor (dItS (dLst (dCons (dC (.str "2/1")) (dCons (dC (.str "1/1")) (dCons (dC (.str "1/0")) (dCons (dC (.str "1000/999")) (dCons (dC (.str "1001/1")) (dCons (dC (.str "1000/1000")) (dCons (dC (.str "4/10")) (dCons (dC (.str "03/1")) (dCons (dC (.str "3/01")) (dCons (dC (.str "+3/1")) (dCons (dC (.str "3/-1")) (dCons (dC (.str "3")) dNil)))))))))))))) (gN 3)
 (dAsg (dBin gAddC (dVar 2) (dLst (dCons (dVar 3) (dCons (dBin gAdd (dVar 3) (dC (.str " 0 from 5"))) (dCons (dBin gAdd (dVar 3) (dC (.str " 0 to 5"))) dNil))))) (gN 2)))
 (dSeq (dFor (dItS (dLst (dCons (dC (.str "3/")) (dCons (dC (.str "/1")) (dCons (dC (.str "3/1/1")) (dCons (dC (.str "3,1")) (dCons (dC (.str "3 /1")) (dCons (dC (.str "3/1,")) (dCons (dC (.str "3_0/1")) (dCons (dC (.str "x/1")) (dCons (dC (.str "3/1x")) (dCons (dC (.str "30000000/1")) (dCons (dC (.str "")) (dCons (dC (.str "3:1")) (dCons (dC (.str "//")) dNil))))))))))))))) (gN 3)
 (dAsg (dBin gAddC (dVar 2) (dLst (dCons (dBin gAdd (dVar 3) (dC (.str " 0 from 5"))) (dCons (dBin gAdd (dVar 3) (dC (.str " x from 5"))) dNil)))) (gN 2)))
 (dSeq (dFor (dItS (dLst (dCons (dC (.str "0")) (dCons (dC (.str "12")) (dCons (dC (.str "13")) (dCons (dC (.str "00")) (dCons (dC (.str "01")) (dCons (dC (.str "-1")) (dCons (dC (.str "+1")) (dCons (dC (.str "1,")) (dCons (dC (.str ",1")) (dCons (dC (.str ",")) (dCons (dC (.str "1,1")) (dCons (dC (.str "1,13")) (dCons (dC (.str "1;1")) (dCons (dC (.str "1_0")) (dCons (dC (.str "x")) (dCons (dC (.str "1,,1")) dNil)))))))))))))))))) (gN 3)
 (dSeq (dAsg (dBin gAddC (dVar 2) (dLst (dCons (dBin gAdd (dBin gAdd (dC (.str "3/1 ")) (dVar 3)) (dC (.str " from 5"))) (dCons (dBin gAdd (dC (.str "3/1 ")) (dVar 3)) (dCons (dBin gAdd (dBin gAdd (dC (.str "3/1 ")) (dVar 3)) (dC (.str " From 5"))) dNil))))) (gN 2))
 (dAsg (dBin gAddC (dVar 2) (dLst (dCons (dBin gAdd (dC (.str "3/1 0 from ")) (dVar 3)) (dCons (dBin gAdd (dC (.str "3/1 0,1,2 from 7,")) (dVar 3)) dNil)))) (gN 2))))
 (dSeq (dFor (dItS (dLst (dCons (dC (.str "1000000")) (dCons (dC (.str "1000001")) (dCons (dC (.str "10000000")) (dCons (dC (.str "0,1000000")) (dCons (dC (.str "1000000,1000001")) (dCons (dC (.str "5,5")) (dCons (dC (.str "005")) (dCons (dC (.str "5.0")) (dCons (dC (.str "from")) dNil))))))))))) (gN 3)
 (dAsg (dBin gAddC (dVar 2) (dLst (dCons (dBin gAdd (dC (.str "3/1 0 from ")) (dVar 3)) (dCons (dBin gAdd (dBin gAdd (dC (.str "3/1 0 from ")) (dVar 3)) (dC (.str " 5"))) dNil)))) (gN 2)))
 (dSeq (dFor (dItS (dLst (dCons (dC (.str "From")) (dCons (dC (.str "FROM")) (dCons (dC (.str "fro")) (dCons (dC (.str "from,")) (dCons (dC (.str "fromm")) (dCons (dC (.str "for")) (dCons (dC (.str "")) (dCons (dC (.str "0")) dNil)))))))))) (gN 3)
 (dDrop (dML gAppend (dVar 2) (dCons (dBin gAdd (dBin gAdd (dC (.str "3/1 0 ")) (dVar 3)) (dC (.str " 5"))) dNil))))
 (dSeq (dFor (dItS (dLst (dCons (dC (.int 9)) (dCons (dC (.int 10)) (dCons (dC (.int 11)) (dCons (dC (.int 12)) (dCons (dC (.int 13)) dNil))))))) (gN 4)
 (dAsg (dBin gAddC (dVar 2) (dLst (dCons (dBin gAdd (dBin gAdd (dC (.str "3/1 ")) (dJoin (dC (.str ",")) (dBin gMul (dLst (dCons (dC (.str "1")) dNil)) (dVar 4)))) (dC (.str " from 5"))) (dCons (dBin gAdd (dC (.str "3/1 0 from ")) (dJoin (dC (.str ",")) (dBin gMul (dLst (dCons (dC (.str "5")) dNil)) (dVar 4)))) dNil)))) (gN 2)))
 (dSeq (dFor (dRng1 (dCons (dC (.int 3)) dNil)) (gN 5)
 (dSeq (dAsg (dCallW F_law_trip_text (dCons (dCall 2 F_law_state (dCons (dVar 1) (dCons (dC (.int 12)) (dCons (dC (.int 10)) dNil)))) dNil)) (gN 6))
 (dSeq (dFor (dRng1 (dCons (dC (.int 8)) dNil)) (gN 7)
 (dAsg (dBin gAddC (dVar 2) (dLst (dCons (dCallW F_law_bent_3 (dCons (dVar 1) (dCons (dVar 6) dNil))) (dCons (dCallW F_law_bent_3 (dCons (dVar 1) (dCons (dCallW F_law_bent_3 (dCons (dVar 1) (dCons (dVar 6) dNil))) dNil))) dNil)))) (gN 2)))
 (dAsg (dBin gAddC (dVar 2) (dLst (dCons (dVar 6) (dCons (dLst (dCons (dVar 6) dNil)) (dCons (dCallW F_law_odd_5 (dCons (dVar 1) dNil)) dNil))))) (gN 2)))))
 (dSeq (dFor (dItS (dBin gAdd (dVar 2) (dLst (dCons (dC .non) (dCons (dC (.int 3)) (dCons (dC (.bl true)) (dCons (dTup (dCons (dTup (dCons (dC (.int 3)) (dCons (dC (.int 1)) (dCons (dTup (dCons (dC (.int 0)) dNil)) dNil)))) (dCons (dTup (dCons (dC (.int 5)) dNil)) dNil))) (dCons (dC (.str "3/1 0 from 5
")) (dCons (dC (.str "3/1 0
from 5")) (dCons (dC (.str "3/1
0 from 5")) dNil)))))))))) (gN 8)
 (dSeq (dAsg (dB iRepr (dCons (dVar 8) dNil)) (gN 9))
 (dIfS (dOr (dNot (dTest (dCallW (F_law_same_2 6) (dCons (dCallW F_law_told_2 (dCons (dVar 8) dNil)) (dCons (dCallW F_law_due_2 (dCons (dVar 8) dNil)) dNil))))) (dTest (dBin iNe (dB iRepr (dCons (dVar 8) dNil)) (dVar 9))))
 (dRet (dC (.bl false)))
 dSkip)))
 (dRet (dC (.bl true))))))))))))))
@[irreducible] def F_law_k56 : FF := dDefC 1 10 den_law_k56
end Pu
namespace Pu
open PySem PySem.Spec PyProof.Rows L2
def topS (i : Nat) : Stmt := PySem.Challenge.pw_roadbikes_k56_trips_parsed.main.body.getD i (.Pass ⟨0, 0, 0, 0⟩)
abbrev s_parse_trip : Stmt := topS 12
abbrev s_part_in : Stmt := topS 13
abbrev s_ticks_in : Stmt := topS 14
abbrev s_numbers_in : Stmt := topS 15
abbrev s_number_in : Stmt := topS 16
abbrev s__law_deck : Stmt := topS 18
abbrev s__law_draw : Stmt := topS 19
abbrev s__law_same : Stmt := topS 20
abbrev s__law_state : Stmt := topS 21
abbrev s__law_numbers_text : Stmt := topS 22
abbrev s__law_trip_text : Stmt := topS 23
abbrev s__law_odd : Stmt := topS 24
abbrev s__law_bent : Stmt := topS 25
abbrev s__law_numbers : Stmt := topS 26
abbrev s__law_part : Stmt := topS 27
abbrev s__law_due : Stmt := topS 28
abbrev s__law_told : Stmt := topS 29
abbrev s_law : Stmt := topS 30
abbrev si_BadText : Stmt := inClass (topS 9) 0
abbrev N_parse_trip : List Str := ["value", "parts", "index", "word", "part", "ticks", "bikes", "joint", "starts"]
theorem sc_parse_trip : FnScope N_parse_trip ["value"] (defScope s_parse_trip) := ⟨rfl, rfl, rfl, by decide +kernel, rfl, by decide +kernel, by decide +kernel⟩
abbrev N_part_in : List Str := ["word", "index"]
theorem sc_part_in : FnScope N_part_in ["word", "index"] (defScope s_part_in) := ⟨rfl, rfl, rfl, by decide +kernel, rfl, by decide +kernel, by decide +kernel⟩
abbrev N_ticks_in : List Str := ["word", "parts", "walk", "ride"]
theorem sc_ticks_in : FnScope N_ticks_in ["word"] (defScope s_ticks_in) := ⟨rfl, rfl, rfl, by decide +kernel, rfl, by decide +kernel, by decide +kernel⟩
abbrev N_numbers_in : List Str := ["word", "many", "most", "parts", "numbers", "part"]
theorem sc_numbers_in : FnScope N_numbers_in ["word", "many", "most"] (defScope s_numbers_in) := ⟨rfl, rfl, rfl, by decide +kernel, rfl, by decide +kernel, by decide +kernel⟩
abbrev N_number_in : List Str := ["text", "least", "most", "number"]
theorem sc_number_in : FnScope N_number_in ["text", "least", "most"] (defScope s_number_in) := ⟨rfl, rfl, rfl, by decide +kernel, rfl, by decide +kernel, by decide +kernel⟩
abbrev N__law_deck : List Str := ["_law_script", "_law_cell"]
theorem sc__law_deck : FnScope N__law_deck ["_law_script"] (defScope s__law_deck) := ⟨rfl, rfl, rfl, by decide +kernel, rfl, by decide +kernel, by decide +kernel⟩
abbrev N__law_draw : List Str := ["_law_deck_here", "_law_bound", "_law_at", "_law_cell", "_law_mixed"]
theorem sc__law_draw : FnScope N__law_draw ["_law_deck_here", "_law_bound"] (defScope s__law_draw) := ⟨rfl, rfl, rfl, by decide +kernel, rfl, by decide +kernel, by decide +kernel⟩
abbrev N__law_same : List Str := ["_law_found", "_law_due_here", "_law_one", "_law_other"]
theorem sc__law_same : FnScope N__law_same ["_law_found", "_law_due_here"] (defScope s__law_same) := ⟨rfl, rfl, rfl, by decide +kernel, rfl, by decide +kernel, by decide +kernel⟩
abbrev N__law_state : List Str := ["_law_deck_here", "_law_stages", "_law_people", "_law_wide", "_law_on_foot", "_law_riding", "_law_bikes", "_law_starts", "_law_stage", "_law_person"]
theorem sc__law_state : FnScope N__law_state ["_law_deck_here", "_law_stages", "_law_people"] (defScope s__law_state) := ⟨rfl, rfl, rfl, by decide +kernel, rfl, by decide +kernel, by decide +kernel⟩
abbrev N__law_numbers_text : List Str := ["_law_numbers_here", "_law_number"]
theorem sc__law_numbers_text : FnScope N__law_numbers_text ["_law_numbers_here"] (defScope s__law_numbers_text) := ⟨rfl, rfl, rfl, by decide +kernel, rfl, by decide +kernel, by decide +kernel⟩
abbrev N__law_trip_text : List Str := ["_law_state_here", "_law_on_foot", "_law_riding", "_law_bikes", "_law_starts", "_law_words"]
theorem sc__law_trip_text : FnScope N__law_trip_text ["_law_state_here"] (defScope s__law_trip_text) := ⟨rfl, rfl, rfl, by decide +kernel, rfl, by decide +kernel, by decide +kernel⟩
abbrev N__law_odd : List Str := ["_law_deck_here", "_law_some"]
theorem sc__law_odd : FnScope N__law_odd ["_law_deck_here"] (defScope s__law_odd) := ⟨rfl, rfl, rfl, by decide +kernel, rfl, by decide +kernel, by decide +kernel⟩
abbrev N__law_bent : List Str := ["_law_deck_here", "_law_text", "_law_words", "_law_at", "_law_way", "_law_place", "_law_sign"]
theorem sc__law_bent : FnScope N__law_bent ["_law_deck_here", "_law_text"] (defScope s__law_bent) := ⟨rfl, rfl, rfl, by decide +kernel, rfl, by decide +kernel, by decide +kernel⟩
abbrev N__law_numbers : List Str := ["_law_word", "_law_sign", "_law_most", "_law_parts", "_law_part_here", "_law_one"]
theorem sc__law_numbers : FnScope N__law_numbers ["_law_word", "_law_sign", "_law_most"] (defScope s__law_numbers) := ⟨rfl, rfl, rfl, by decide +kernel, rfl, by decide +kernel, by decide +kernel⟩
abbrev N__law_part : List Str := ["_law_index", "_law_word", "_law_ticks", "_law_bikes", "_law_starts"]
theorem sc__law_part : FnScope N__law_part ["_law_index", "_law_word"] (defScope s__law_part) := ⟨rfl, rfl, rfl, by decide +kernel, rfl, by decide +kernel, by decide +kernel⟩
abbrev N__law_due : List Str := ["_law_text", "_law_words", "_law_parts", "_law_k", "_law_word"]
theorem sc__law_due : FnScope N__law_due ["_law_text"] (defScope s__law_due) := ⟨rfl, rfl, rfl, by decide +kernel, rfl, by decide +kernel, by decide +kernel⟩
abbrev N__law_told : List Str := ["_law_text", "error"]
theorem sc__law_told : FnScope N__law_told ["_law_text"] (defScope s__law_told) := ⟨rfl, rfl, rfl, by decide +kernel, rfl, by decide +kernel, by decide +kernel⟩
abbrev N_law : List Str := ["_law_script", "_law_deck_here", "_law_things", "_law_word", "_law_many", "_law_k", "_law_text", "_law_turn", "_law_thing", "_law_shown"]
theorem sc_law : FnScope N_law ["_law_script"] (defScope s_law) := ⟨rfl, rfl, rfl, by decide +kernel, rfl, by decide +kernel, by decide +kernel⟩
theorem sci_BadText : FnScope ["self", "index"] ["self", "index"] (defScope si_BadText) := ⟨rfl, rfl, rfl, by decide +kernel, rfl, by decide +kernel, by decide +kernel⟩
structure Tx (K : PySem.W.Frag) (mg : Str → Option Value) where
  f_parse_trip : Addr
  fd_parse_trip : FuncData
  F_parse_trip : Fun K "parse_trip" "parse_trip" s_parse_trip f_parse_trip fd_parse_trip
  g_parse_trip : mg "parse_trip" = some (.ref f_parse_trip)
  b_parse_trip : Binds K fd_parse_trip ["value"] []
  f_part_in : Addr
  fd_part_in : FuncData
  F_part_in : Fun K "part_in" "part_in" s_part_in f_part_in fd_part_in
  g_part_in : mg "part_in" = some (.ref f_part_in)
  b_part_in : Binds K fd_part_in ["word", "index"] []
  f_ticks_in : Addr
  fd_ticks_in : FuncData
  F_ticks_in : Fun K "ticks_in" "ticks_in" s_ticks_in f_ticks_in fd_ticks_in
  g_ticks_in : mg "ticks_in" = some (.ref f_ticks_in)
  b_ticks_in : Binds K fd_ticks_in ["word"] []
  f_numbers_in : Addr
  fd_numbers_in : FuncData
  F_numbers_in : Fun K "numbers_in" "numbers_in" s_numbers_in f_numbers_in fd_numbers_in
  g_numbers_in : mg "numbers_in" = some (.ref f_numbers_in)
  b_numbers_in : Binds K fd_numbers_in ["word", "many", "most"] []
  f_number_in : Addr
  fd_number_in : FuncData
  F_number_in : Fun K "number_in" "number_in" s_number_in f_number_in fd_number_in
  g_number_in : mg "number_in" = some (.ref f_number_in)
  b_number_in : Binds K fd_number_in ["text", "least", "most"] []
  f__law_deck : Addr
  fd__law_deck : FuncData
  F__law_deck : Fun K "_law_deck" "_law_deck" s__law_deck f__law_deck fd__law_deck
  g__law_deck : mg "_law_deck" = some (.ref f__law_deck)
  b__law_deck : Binds K fd__law_deck ["_law_script"] []
  f__law_draw : Addr
  fd__law_draw : FuncData
  F__law_draw : Fun K "_law_draw" "_law_draw" s__law_draw f__law_draw fd__law_draw
  g__law_draw : mg "_law_draw" = some (.ref f__law_draw)
  b__law_draw : Binds K fd__law_draw ["_law_deck_here", "_law_bound"] []
  f__law_same : Addr
  fd__law_same : FuncData
  F__law_same : Fun K "_law_same" "_law_same" s__law_same f__law_same fd__law_same
  g__law_same : mg "_law_same" = some (.ref f__law_same)
  b__law_same : Binds K fd__law_same ["_law_found", "_law_due_here"] []
  f__law_state : Addr
  fd__law_state : FuncData
  F__law_state : Fun K "_law_state" "_law_state" s__law_state f__law_state fd__law_state
  g__law_state : mg "_law_state" = some (.ref f__law_state)
  b__law_state : Binds K fd__law_state ["_law_deck_here", "_law_stages", "_law_people"] []
  f__law_numbers_text : Addr
  fd__law_numbers_text : FuncData
  F__law_numbers_text : Fun K "_law_numbers_text" "_law_numbers_text" s__law_numbers_text f__law_numbers_text fd__law_numbers_text
  g__law_numbers_text : mg "_law_numbers_text" = some (.ref f__law_numbers_text)
  b__law_numbers_text : Binds K fd__law_numbers_text ["_law_numbers_here"] []
  f__law_trip_text : Addr
  fd__law_trip_text : FuncData
  F__law_trip_text : Fun K "_law_trip_text" "_law_trip_text" s__law_trip_text f__law_trip_text fd__law_trip_text
  g__law_trip_text : mg "_law_trip_text" = some (.ref f__law_trip_text)
  b__law_trip_text : Binds K fd__law_trip_text ["_law_state_here"] []
  f__law_odd : Addr
  fd__law_odd : FuncData
  F__law_odd : Fun K "_law_odd" "_law_odd" s__law_odd f__law_odd fd__law_odd
  g__law_odd : mg "_law_odd" = some (.ref f__law_odd)
  b__law_odd : Binds K fd__law_odd ["_law_deck_here"] []
  f__law_bent : Addr
  fd__law_bent : FuncData
  F__law_bent : Fun K "_law_bent" "_law_bent" s__law_bent f__law_bent fd__law_bent
  g__law_bent : mg "_law_bent" = some (.ref f__law_bent)
  b__law_bent : Binds K fd__law_bent ["_law_deck_here", "_law_text"] []
  f__law_numbers : Addr
  fd__law_numbers : FuncData
  F__law_numbers : Fun K "_law_numbers" "_law_numbers" s__law_numbers f__law_numbers fd__law_numbers
  g__law_numbers : mg "_law_numbers" = some (.ref f__law_numbers)
  b__law_numbers : Binds K fd__law_numbers ["_law_word", "_law_sign", "_law_most"] []
  f__law_part : Addr
  fd__law_part : FuncData
  F__law_part : Fun K "_law_part" "_law_part" s__law_part f__law_part fd__law_part
  g__law_part : mg "_law_part" = some (.ref f__law_part)
  b__law_part : Binds K fd__law_part ["_law_index", "_law_word"] []
  f__law_due : Addr
  fd__law_due : FuncData
  F__law_due : Fun K "_law_due" "_law_due" s__law_due f__law_due fd__law_due
  g__law_due : mg "_law_due" = some (.ref f__law_due)
  b__law_due : Binds K fd__law_due ["_law_text"] []
  f__law_told : Addr
  fd__law_told : FuncData
  F__law_told : Fun K "_law_told" "_law_told" s__law_told f__law_told fd__law_told
  g__law_told : mg "_law_told" = some (.ref f__law_told)
  b__law_told : Binds K fd__law_told ["_law_text"] []
  f_law : Addr
  fd_law : FuncData
  F_law : Fun K "law" "law" s_law f_law fd_law
  g_law : mg "law" = some (.ref f_law)
  b_law : Binds K fd_law ["_law_script"] []
  C_TripError : Addr
  gC_TripError : mg "TripError" = some (.ref C_TripError)
  C_BadStarts : Addr
  gC_BadStarts : mg "BadStarts" = some (.ref C_BadStarts)
  C_BadRoad : Addr
  gC_BadRoad : mg "BadRoad" = some (.ref C_BadRoad)
  C_BadText : Addr
  gC_BadText : mg "BadText" = some (.ref C_BadText)
  E_BadText : OwnI K C_BadText
  L_BadText : ErrC K C_BadText [.type "ValueError", .type "Exception", .type "BaseException", .type "object"] "ValueError.__new__"
  no_BadText : PySem.W.findIn K (.ref C_BadText) "index" = some none
  fI_BadText : Addr
  fdI_BadText : FuncData
  iC_BadText : PySem.W.findIn K (.ref C_BadText) "__init__" = some (some (.ref fI_BadText))
  tI_BadText : PySem.W.typeIn K (.ref fI_BadText) = some (.type "function")
  FI_BadText : Fun K "__init__" "BadText.__init__" si_BadText fI_BadText fdI_BadText
  bI_BadText : Binds K fdI_BadText ["self", "index"] []
  xi_BadText_BadRoad : XI K mg "BadText" "BadRoad" false
  xi_BadText_BadStarts : XI K mg "BadText" "BadStarts" false
  xi_BadText_LookupError : XI K mg "BadText" "LookupError" false
  xi_BadText_TripError : XI K mg "BadText" "TripError" true
  x_BadText_BadText : PySem.W.exmOne K (.ref C_BadText) (.ref C_BadText) = some true
  t_WORDS : Tok
  c_WORDS : mg "WORDS" = some (.int 4 t_WORDS)
  t_MAX_STAGES : Tok
  c_MAX_STAGES : mg "MAX_STAGES" = some (.int 12 t_MAX_STAGES)
  t_MAX_BIKES : Tok
  c_MAX_BIKES : mg "MAX_BIKES" = some (.int 12 t_MAX_BIKES)
  t_MAX_PEOPLE : Tok
  c_MAX_PEOPLE : mg "MAX_PEOPLE" = some (.int 10 t_MAX_PEOPLE)
  t_MAX_START : Tok
  c_MAX_START : mg "MAX_START" = some (.int 1000000 t_MAX_START)
  t_MAX_TICKS : Tok
  c_MAX_TICKS : mg "MAX_TICKS" = some (.int 1000 t_MAX_TICKS)
  z_LookupError : mg "LookupError" = none
  z_abs : mg "abs" = none
  z_bool : mg "bool" = none
  z_enumerate : mg "enumerate" = none
  z_int : mg "int" = none
  z_isinstance : mg "isinstance" = none
  z_len : mg "len" = none
  z_max : mg "max" = none
  z_range : mg "range" = none
  z_repr : mg "repr" = none
  z_str : mg "str" = none
  z_tuple : mg "tuple" = none
  z_zip : mg "zip" = none
section
variable {P : Program} {w : World} {K : PySem.W.Frag} {mg : Str → Option Value} {base : Heap}
theorem Gi_BadText (T : Tx K mg) : FnOk P w K mg base CX0 1 T.fI_BadText T.fdI_BadText ["self", "index"] (Rb.spIni K T.C_BadText "index") :=
  iniE T.FI_BadText sci_BadText T.L_BadText T.no_BadText (fun _ _ _ _ _ _ => pss_one (ps_putE PySem.F.store_ValueError (pv 0) (pv 1)))
theorem G_number_in (T : Tx K mg) : Rb.FnG P w K mg base CX0 1 T.f_number_in T.fd_number_in ["text", "least", "most"] (spF (ct0 K mg) F_number_in) := by
  unfold F_number_in
  exact
   d_fn T.F_number_in sc_number_in fun cdv A out s H E hg hr => (d_seq (d_if (PW.pt (d_or (d_not (d_tval (d_ascii (d_var (pv 0))))) (d_or1 (d_not (d_tval (d_digit (d_var (pv 0))))))))
 (d_last (d_ret d_non))
 d_end)
 (d_seq (d_if (PW.pt (d_or (d_tcmp o_gt (d_callB c_len (by rfl) T.z_len (by decide +kernel) (d_cons (d_var (pv 0)) d_nil)) (d_callB c_len (by rfl) T.z_len (by decide +kernel) (d_cons (d_callT c_str (by rfl) T.z_str (by decide +kernel) (d_cons (d_var (pv 2)) d_nil)) d_nil)) (nomark _)) (d_or1 (PW.pt (d_and (d_tval (d_starts (d_var (pv 0)) d_str)) (d_and1 (d_tcmp (o_ine hr.units) (d_var (pv 0)) d_str (nomark _))))))))
 (d_last (d_ret d_non))
 d_end)
 (d_seq (d_set (i := 3) sc_number_in.nd rfl (.inl rfl) (d_callT c_intS (by rfl) T.z_int (by decide +kernel) (d_cons (d_var (pv 0)) d_nil)))
 (d_last (d_ret (d_ifE (d_tchain o_le o_le (d_var (pv 1)) (d_var (pv 3)) (d_var (pv 2))) (d_var (pv 3)) d_non))))))
theorem G_law_deck (T : Tx K mg) : Rb.FnG P w K mg base CX0 1 T.f__law_deck T.fd__law_deck ["_law_script"] (spF (ct0 K mg) F_law_deck_2) := by
  unfold F_law_deck_2
  exact
   d_fn T.F__law_deck sc__law_deck fun cdv A out s H E hg hr => (d_last (d_ret (d_lstC (d_cons (d_lcC (own := [("_law_cell", 1)]) (g := (gName 1)) (st := (st1 1)) lct1 (by rfl) sc__law_deck.nd (d_iseq (d_slice (d_var (pv 0)) d_noP (d_part d_int))) (blkOk_by (own := [("_law_cell", 1)]) (N := N__law_deck) (sc := defScope s__law_deck) (by decide +kernel)) (fun _ _ _ _ _ => (pg_name (i := 1) sc__law_deck.nd rfl (.inl rfl))) (fun _ _ _ _ _ => d_tnil) (fun _ _ _ _ _ => (d_callB c_abs (by rfl) T.z_abs (by decide +kernel) (d_cons (d_var (pv 1)) d_nil)))) (d_cons d_int d_nil)))))
theorem G_law_draw (T : Tx K mg) : Rb.FnG P w K mg base CX0 1 T.f__law_draw T.fd__law_draw ["_law_deck_here", "_law_bound"] (spF (ct0 K mg) F_law_draw_3) := by
  unfold F_law_draw_3
  exact
   d_fn T.F__law_draw sc__law_draw fun cdv A out s H E hg hr => (d_seq (d_asg (d_bin o_add (d_ix (d_var (pv 0)) d_int (fun _ _ => rfl)) d_int) (d_gsub (d_var (pv 0)) d_int))
 (d_seq (d_set (i := 2) sc__law_draw.nd rfl (.inl rfl) (d_bin o_mod (d_ix (d_var (pv 0)) d_int (fun _ _ => rfl)) (d_callB (c_max rfl hr.units) (by rfl) T.z_max (by decide +kernel) (d_cons d_int (d_cons (d_callB c_len (by rfl) T.z_len (by decide +kernel) (d_cons (d_ix (d_var (pv 0)) d_int (fun _ _ => rfl)) d_nil)) d_nil)))))
 (d_seq (d_set (i := 3) sc__law_draw.nd rfl (.inl rfl) (d_ix (d_bin o_add (d_ix (d_var (pv 0)) d_int (fun _ _ => rfl)) (d_lst (d_cons d_int d_nil))) (d_var (pv 2)) (fun _ _ => rfl)))
 (d_seq (d_if (d_tcmp o_ge (d_var (pv 3)) (d_bin o_pow d_int d_int) (nomark _))
 (d_seq (d_asg (d_bin o_fdiv (d_var (pv 3)) (d_var (pv 1))) (d_gsub (d_ix (d_var (pv 0)) d_int (fun _ _ => rfl)) (d_var (pv 2))))
 (d_last (d_ret (d_bin o_mod (d_var (pv 3)) (d_var (pv 1))))))
 d_end)
 (d_seq (d_set (i := 4) sc__law_draw.nd rfl (.inl rfl) (d_bin o_mod (d_bin o_pow (d_bin o_add (d_bin o_add (d_bin o_mod (d_var (pv 3)) d_int) (d_bin o_mul d_int (d_ix (d_var (pv 0)) d_int (fun _ _ => rfl)))) d_int) d_int) d_int))
 (d_last (d_ret (d_bin o_mod (d_bin o_add (d_bin o_fdiv (d_var (pv 4)) d_int) (d_bin o_mul d_int (d_ix (d_var (pv 0)) d_int (fun _ _ => rfl)))) (d_var (pv 1))))))))))
theorem G_law_numbers_text (T : Tx K mg) : Rb.FnG P w K mg base CX0 1 T.f__law_numbers_text T.fd__law_numbers_text ["_law_numbers_here"] (spF (ct0 K mg) F_listed) := by
  unfold F_listed
  exact
   d_fn T.F__law_numbers_text sc__law_numbers_text fun cdv A out s H E hg hr => (d_last (d_ret (d_join d_str (d_lc (own := [("_law_number", 1)]) (g := (gName 1)) (st := (st1 1)) lct1 (by rfl) sc__law_numbers_text.nd (d_iseq (d_var (pv 0))) (blkOk_by (own := [("_law_number", 1)]) (N := N__law_numbers_text) (sc := defScope s__law_numbers_text) (by decide +kernel)) (fun _ _ _ _ _ => (pg_name (i := 1) sc__law_numbers_text.nd rfl (.inl rfl))) (fun _ _ _ _ _ => d_tnil) (fun _ _ _ _ _ => (d_callT c_str (by rfl) T.z_str (by decide +kernel) (d_cons (d_var (pv 1)) d_nil)))))))
theorem G_law_numbers (T : Tx K mg) : Rb.FnG P w K mg base CX0 1 T.f__law_numbers T.fd__law_numbers ["_law_word", "_law_sign", "_law_most"] (spF (ct0 K mg) F_law_numbers) := by
  unfold F_law_numbers
  exact
   d_fn T.F__law_numbers sc__law_numbers fun cdv A out s H E hg hr => (d_seq (d_set (i := 3) sc__law_numbers.nd rfl (.inl rfl) (d_split (d_var (pv 0)) (d_var (pv 1))))
 (d_seq (d_for PassesOwn.never rfl (d_iseq (d_var (pv 3))) (d_gn (pg_name (i := 4) sc__law_numbers.nd rfl (.inl rfl)))
 (d_seq (d_if (PW.pt (d_or (d_not (d_tchain o_le o_le d_int (d_callB c_len (by rfl) T.z_len (by decide +kernel) (d_cons (d_var (pv 4)) d_nil)) d_int)) (d_or1 (d_tcmp (o_neN hr.units) (d_lc (own := [("_law_one", 5)]) (g := (gName 5)) (st := (st1 5)) lct1 (by rfl) sc__law_numbers.nd (d_istr (d_var (pv 4))) (blkOk_by (own := [("_law_one", 5)]) (N := N__law_numbers) (sc := defScope s__law_numbers) (by decide +kernel)) (fun _ _ _ _ _ => (pg_name (i := 5) sc__law_numbers.nd rfl (.inl rfl))) (fun _ _ _ _ _ => (d_tone (d_tcmp o_notInG (d_var (pv 5)) d_str (by rfl)))) (fun _ _ _ _ _ => (d_var (pv 5)))) (d_lst d_nil) (nomark _)))))
 (d_last (d_ret d_non))
 d_end)
 (d_last (d_if (PW.pt (d_or (PW.pt (d_and (d_tcmp (o_ieq hr.units) (d_ix (d_var (pv 4)) d_int (fun _ _ => rfl)) d_str (nomark _)) (d_and1 (d_tcmp (o_ine hr.units) (d_var (pv 4)) d_str (nomark _))))) (d_or1 (d_tcmp o_gt (d_callT c_intS (by rfl) T.z_int (by decide +kernel) (d_cons (d_var (pv 4)) d_nil)) (d_var (pv 2)) (nomark _)))))
 (d_last (d_ret d_non))
 d_end))))
 (d_last (d_ret (d_callT c_tuple (by rfl) T.z_tuple (by decide +kernel) (d_cons (d_lc (own := [("_law_part_here", 4)]) (g := (gName 4)) (st := (st1 4)) lct1 (by rfl) sc__law_numbers.nd (d_iseq (d_var (pv 3))) (blkOk_by (own := [("_law_part_here", 4)]) (N := N__law_numbers) (sc := defScope s__law_numbers) (by decide +kernel)) (fun _ _ _ _ _ => (pg_name (i := 4) sc__law_numbers.nd rfl (.inl rfl))) (fun _ _ _ _ _ => d_tnil) (fun _ _ _ _ _ => (d_callT c_intS (by rfl) T.z_int (by decide +kernel) (d_cons (d_var (pv 4)) d_nil)))) d_nil))))))
theorem G_ticks_in (T : Tx K mg) : Rb.FnG P w K mg base CX0 2 T.f_ticks_in T.fd_ticks_in ["word"] (spF (ct0 K mg) F_ticks_in) := by
  unfold F_ticks_in
  exact
   d_fn T.F_ticks_in sc_ticks_in fun cdv A out s H E hg hr => (d_seq (d_set (i := 1) sc_ticks_in.nd rfl (.inl rfl) (d_split (d_var (pv 0)) d_str))
 (d_seq (d_if (d_tcmp (o_ine hr.units) (d_callB c_len (by rfl) T.z_len (by decide +kernel) (d_cons (d_var (pv 1)) d_nil)) d_int (nomark _))
 (d_last (d_ret d_non))
 d_end)
 (d_seq (d_set (i := 2) sc_ticks_in.nd rfl (.inl rfl) (d_callW (G_number_in T) hg hr (by rfl) T.g_number_in T.F_number_in.kp T.b_number_in passG (d_cons (d_ix (d_var (pv 1)) d_int (fun _ _ => rfl)) (d_cons d_int (d_cons (d_gint (by rfl) T.c_MAX_TICKS) d_nil)))))
 (d_seq (d_if (d_tcmp o_is (d_var (pv 2)) d_non (nomark _))
 (d_last (d_ret d_non))
 d_end)
 (d_seq (d_set (i := 3) sc_ticks_in.nd rfl (.inl rfl) (d_callW (G_number_in T) hg hr (by rfl) T.g_number_in T.F_number_in.kp T.b_number_in passG (d_cons (d_ix (d_var (pv 1)) d_int (fun _ _ => rfl)) (d_cons d_int (d_cons (d_bin o_sub (d_var (pv 2)) d_int) d_nil)))))
 (d_last (d_ret (d_ifE (d_tcmp o_is (d_var (pv 3)) d_non (nomark _)) d_non (d_tup (d_cons (d_var (pv 2)) (d_cons (d_var (pv 3)) d_nil)))))))))))
theorem G_numbers_in (T : Tx K mg) : Rb.FnG P w K mg base CX0 2 T.f_numbers_in T.fd_numbers_in ["word", "many", "most"] (spF (ct0 K mg) F_numbers_in) := by
  unfold F_numbers_in
  exact
   d_fn T.F_numbers_in sc_numbers_in fun cdv A out s H E hg hr => (d_seq (d_set (i := 3) sc_numbers_in.nd rfl (.inl rfl) (d_split (d_var (pv 0)) d_str))
 (d_seq (d_if (d_tcmp o_gt (d_callB c_len (by rfl) T.z_len (by decide +kernel) (d_cons (d_var (pv 3)) d_nil)) (d_var (pv 1)) (nomark _))
 (d_last (d_ret d_non))
 d_end)
 (d_seq (d_setLc (i := 4) (own := [("part", 5)]) (g := (gName 5)) (st := (st1 5)) lct1 (by rfl) sc_numbers_in.nd rfl rfl (sw_true rfl rfl rfl (by decide +kernel)) (d_iseq (d_var (pv 3))) (blkOk_by (own := [("part", 5)]) (N := N_numbers_in) (sc := defScope s_numbers_in) (by decide +kernel)) (fun _ _ _ _ _ => (pg_name (i := 5) sc_numbers_in.nd rfl (.inl rfl))) (fun _ _ _ _ _ => d_tnil) (fun _ _ _ _ _ => (d_callW (G_number_in T) hg hr (by rfl) T.g_number_in T.F_number_in.kp T.b_number_in passG (d_cons (d_var (pv 5)) (d_cons d_int (d_cons (d_var (pv 2)) d_nil))))))
 (d_last (d_ret (d_ifE (d_tcmp o_inN d_non (d_var (pv 4)) (by rfl)) d_non (d_callT c_tuple (by rfl) T.z_tuple (by decide +kernel) (d_cons (d_var (pv 4)) d_nil))))))))
theorem G_law_state (T : Tx K mg) : Rb.FnG P w K mg base CX0 2 T.f__law_state T.fd__law_state ["_law_deck_here", "_law_stages", "_law_people"] (spF (ct0 K mg) F_law_state) := by
  unfold F_law_state
  exact
   d_fnC T.F__law_state sc__law_state fun cdv A out s H E hg hr => (d_seq (d_set (i := 3) sc__law_state.nd rfl (.inl rfl) (d_cmp (o_ieq hr.units) (d_callW (G_law_draw T) hg hr (by rfl) T.g__law_draw T.F__law_draw.kp T.b__law_draw passG (d_cons (d_var (pv 0)) (d_cons d_int d_nil))) d_int (nomark _)))
 (d_seq (d_set (i := 4) sc__law_state.nd rfl (.inl rfl) (d_bin o_add d_int (d_callW (G_law_draw T) hg hr (by rfl) T.g__law_draw T.F__law_draw.kp T.b__law_draw passG (d_cons (d_var (pv 0)) (d_cons (d_ix (d_lst (d_cons d_int (d_cons d_int d_nil))) (d_callT c_int (by rfl) T.z_int (by decide +kernel) (d_cons (d_var (pv 3)) d_nil)) (fun _ _ => rfl)) d_nil)))))
 (d_seq (d_par3 (i := 5) (j := 6) (l := 7) (by rfl) sc__law_state.nd rfl rfl rfl (by decide) (by decide) (by decide) rfl rfl rfl (d_cons (d_bin o_add d_int (d_callW (G_law_draw T) hg hr (by rfl) T.g__law_draw T.F__law_draw.kp T.b__law_draw passG (d_cons (d_var (pv 0)) (d_cons (d_bin o_sub (d_var (pv 4)) d_int) d_nil)))) (d_cons (d_lstC d_nil) (d_cons (d_lstC d_nil) d_nil))) (by rfl))
 (d_seq (d_for PassesOwn.never rfl (d_rng1 (by rfl) T.z_range (d_cons (d_bin o_add d_int (d_callW (G_law_draw T) hg hr (by rfl) T.g__law_draw T.F__law_draw.kp T.b__law_draw passG (d_cons (d_var (pv 0)) (d_cons (d_var (pv 1)) d_nil)))) d_nil)) (d_gn (pg_name (i := 8) sc__law_state.nd rfl (.inl rfl)))
 (d_last (d_expr (d_ml PySem.F.slot_list_append PySem.F.type_list_append m_append (d_var (pv 6)) (d_cons (d_ix (d_lst (d_cons d_int (d_cons (d_callW (G_law_draw T) hg hr (by rfl) T.g__law_draw T.F__law_draw.kp T.b__law_draw passG (d_cons (d_var (pv 0)) (d_cons d_int d_nil))) (d_cons (d_callW (G_law_draw T) hg hr (by rfl) T.g__law_draw T.F__law_draw.kp T.b__law_draw passG (d_cons (d_var (pv 0)) (d_cons d_int d_nil))) (d_cons (d_callW (G_law_draw T) hg hr (by rfl) T.g__law_draw T.F__law_draw.kp T.b__law_draw passG (d_cons (d_var (pv 0)) (d_cons d_int d_nil))) d_nil))))) (d_callW (G_law_draw T) hg hr (by rfl) T.g__law_draw T.F__law_draw.kp T.b__law_draw passG (d_cons (d_var (pv 0)) (d_cons d_int d_nil))) (fun _ _ => rfl)) d_nil)))))
 (d_seq (d_for PassesOwn.never rfl (d_rng1 (by rfl) T.z_range (d_cons (d_bin o_add d_int (d_callW (G_law_draw T) hg hr (by rfl) T.g__law_draw T.F__law_draw.kp T.b__law_draw passG (d_cons (d_var (pv 0)) (d_cons (d_var (pv 2)) d_nil)))) d_nil)) (d_gn (pg_name (i := 9) sc__law_state.nd rfl (.inl rfl)))
 (d_last (d_expr (d_ml PySem.F.slot_list_append PySem.F.type_list_append m_append (d_var (pv 7)) (d_cons (d_callW (G_law_draw T) hg hr (by rfl) T.g__law_draw T.F__law_draw.kp T.b__law_draw passG (d_cons (d_var (pv 0)) (d_cons (d_ix (d_lst (d_cons d_int (d_cons (d_bin o_add (d_bin o_pow d_int d_int) d_int) d_nil))) (d_callT c_int (by rfl) T.z_int (by decide +kernel) (d_cons (d_andV (d_var (pv 3)) (d_one (d_cmp (o_ieq hr.units) (d_callW (G_law_draw T) hg hr (by rfl) T.g__law_draw T.F__law_draw.kp T.b__law_draw passG (d_cons (d_var (pv 0)) (d_cons d_int d_nil))) d_int (nomark _)))) d_nil)) (fun _ _ => rfl)) d_nil))) d_nil)))))
 (d_last (d_ret (d_tup (d_cons (d_tup (d_cons (d_var (pv 4)) (d_cons (d_var (pv 5)) (d_cons (d_callT c_tuple (by rfl) T.z_tuple (by decide +kernel) (d_cons (d_var (pv 6)) d_nil)) d_nil)))) (d_cons (d_callT c_tuple (by rfl) T.z_tuple (by decide +kernel) (d_cons (d_var (pv 7)) d_nil)) d_nil))))))))))
theorem G_law_trip_text (T : Tx K mg) : Rb.FnG P w K mg base CX0 2 T.f__law_trip_text T.fd__law_trip_text ["_law_state_here"] (spF (ct0 K mg) F_law_trip_text) := by
  unfold F_law_trip_text
  exact
   d_fn T.F__law_trip_text sc__law_trip_text fun cdv A out s H E hg hr => (d_seq (d_asg (d_var (pv 0)) (d_gtup rfl (d_gcons (d_gtup rfl (d_gcons (d_gn (pg_name (i := 1) sc__law_trip_text.nd rfl (.inl rfl))) (d_gcons (d_gn (pg_name (i := 2) sc__law_trip_text.nd rfl (.inl rfl))) (d_gcons (d_gn (pg_name (i := 3) sc__law_trip_text.nd rfl (.inl rfl))) d_gnil)))) (d_gcons (d_gn (pg_name (i := 4) sc__law_trip_text.nd rfl (.inl rfl))) d_gnil))))
 (d_seq (d_set (i := 5) sc__law_trip_text.nd rfl (.inl rfl) (d_lst (d_cons (d_bin o_add (d_bin o_add (d_callT c_str (by rfl) T.z_str (by decide +kernel) (d_cons (d_var (pv 1)) d_nil)) d_str) (d_callT c_str (by rfl) T.z_str (by decide +kernel) (d_cons (d_var (pv 2)) d_nil))) (d_cons (d_callW (G_law_numbers_text T) hg hr (by rfl) T.g__law_numbers_text T.F__law_numbers_text.kp T.b__law_numbers_text passG (d_cons (d_var (pv 3)) d_nil)) (d_cons d_str (d_cons (d_callW (G_law_numbers_text T) hg hr (by rfl) T.g__law_numbers_text T.F__law_numbers_text.kp T.b__law_numbers_text passG (d_cons (d_var (pv 4)) d_nil)) d_nil))))))
 (d_last (d_ret (d_join d_str (d_var (pv 5)))))))
theorem G_law_odd (T : Tx K mg) : Rb.FnG P w K mg base CX0 2 T.f__law_odd T.fd__law_odd ["_law_deck_here"] (spF (ct0 K mg) F_law_odd_5) := by
  unfold F_law_odd_5
  exact
   d_fn T.F__law_odd sc__law_odd fun cdv A out s H E hg hr => (d_seq (d_set (i := 1) sc__law_odd.nd rfl (.inl rfl) (d_lst (d_cons d_non (d_cons d_bl (d_cons d_bl (d_cons d_int (d_cons (d_un u_neg d_int) (d_cons (d_bin o_pow d_int d_int) (d_cons (d_tup d_nil) (d_cons (d_lst d_nil) (d_cons d_dic0 (d_cons (d_tup (d_cons d_int (d_cons d_int d_nil))) (d_cons (d_lst (d_cons d_str d_nil)) (d_cons (d_tup (d_cons (d_tup (d_cons d_int (d_cons d_int (d_cons (d_tup (d_cons d_int d_nil)) d_nil)))) (d_cons (d_tup (d_cons d_int d_nil)) d_nil))) d_nil))))))))))))))
 (d_last (d_ret (d_ix (d_var (pv 1)) (d_callW (G_law_draw T) hg hr (by rfl) T.g__law_draw T.F__law_draw.kp T.b__law_draw passG (d_cons (d_var (pv 0)) (d_cons d_int d_nil))) (fun _ _ => rfl)))))
theorem G_law_bent (T : Tx K mg) : Rb.FnG P w K mg base CX0 2 T.f__law_bent T.fd__law_bent ["_law_deck_here", "_law_text"] (spF (ct0 K mg) F_law_bent_3) := by
  unfold F_law_bent_3
  exact
   d_fn T.F__law_bent sc__law_bent fun cdv A out s H E hg hr => (d_seq (d_set (i := 2) sc__law_bent.nd rfl (.inl rfl) (d_split (d_var (pv 1)) d_str))
 (d_seq (d_par (i := 3) (j := 4) (by rfl) sc__law_bent.nd rfl rfl (by decide) rfl rfl (d_cons (d_callW (G_law_draw T) hg hr (by rfl) T.g__law_draw T.F__law_draw.kp T.b__law_draw passG (d_cons (d_var (pv 0)) (d_cons (d_callB c_len (by rfl) T.z_len (by decide +kernel) (d_cons (d_var (pv 2)) d_nil)) d_nil))) (d_cons (d_callW (G_law_draw T) hg hr (by rfl) T.g__law_draw T.F__law_draw.kp T.b__law_draw passG (d_cons (d_var (pv 0)) (d_cons d_int d_nil))) d_nil)) (by rfl))
 (d_seq (d_if (d_tcmp (o_ieq hr.units) (d_var (pv 4)) d_int (nomark _))
 (d_last (d_ret (d_join d_str (d_bin o_add (d_bin o_add (d_slice (d_var (pv 2)) d_noP (d_part (d_var (pv 3)))) (d_slice (d_var (pv 2)) (d_part (d_var (pv 3))) (d_part (d_bin o_add (d_var (pv 3)) d_int)))) (d_slice (d_var (pv 2)) (d_part (d_var (pv 3))) d_noP)))))
 d_end)
 (d_seq (d_if (d_tcmp (o_ieq hr.units) (d_var (pv 4)) d_int (nomark _))
 (d_last (d_ret (d_join d_str (d_bin o_add (d_slice (d_var (pv 2)) (d_part (d_var (pv 3))) d_noP) (d_slice (d_var (pv 2)) d_noP (d_part (d_var (pv 3))))))))
 d_end)
 (d_seq (d_if (d_tcmp (o_ieq hr.units) (d_var (pv 4)) d_int (nomark _))
 (d_last (d_ret (d_join d_str (d_bin o_add (d_slice (d_var (pv 2)) d_noP (d_part (d_var (pv 3)))) (d_slice (d_var (pv 2)) (d_part (d_bin o_add (d_var (pv 3)) d_int)) d_noP)))))
 d_end)
 (d_seq (d_if (d_tcmp (o_ieq hr.units) (d_var (pv 4)) d_int (nomark _))
 (d_last (d_ret (d_join d_str (d_bin o_add (d_var (pv 2)) (d_slice (d_var (pv 2)) (d_part (d_var (pv 3))) d_noP)))))
 d_end)
 (d_seq (d_set (i := 5) sc__law_bent.nd rfl (.inl rfl) (d_callW (G_law_draw T) hg hr (by rfl) T.g__law_draw T.F__law_draw.kp T.b__law_draw passG (d_cons (d_var (pv 0)) (d_cons (d_bin o_add (d_callB c_len (by rfl) T.z_len (by decide +kernel) (d_cons (d_var (pv 1)) d_nil)) d_int) d_nil))))
 (d_seq (d_set (i := 6) sc__law_bent.nd rfl (.inl rfl) (d_ix (d_lst (d_cons d_str (d_cons d_str (d_cons d_str (d_cons d_str (d_cons d_str (d_cons d_str (d_cons d_str (d_cons d_str (d_cons d_str (d_cons d_str (d_cons d_str (d_cons d_str d_nil))))))))))))) (d_callW (G_law_draw T) hg hr (by rfl) T.g__law_draw T.F__law_draw.kp T.b__law_draw passG (d_cons (d_var (pv 0)) (d_cons d_int d_nil))) (fun _ _ => rfl)))
 (d_last (d_ret (d_bin o_add (d_bin o_add (d_slice (d_var (pv 1)) d_noP (d_part (d_var (pv 5)))) (d_bin o_mulS (d_var (pv 6)) (d_callW (G_law_draw T) hg hr (by rfl) T.g__law_draw T.F__law_draw.kp T.b__law_draw passG (d_cons (d_var (pv 0)) (d_cons d_int d_nil))))) (d_slice (d_var (pv 1)) (d_part (d_bin o_add (d_var (pv 5)) (d_callW (G_law_draw T) hg hr (by rfl) T.g__law_draw T.F__law_draw.kp T.b__law_draw passG (d_cons (d_var (pv 0)) (d_cons d_int d_nil))))) d_noP))))))))))))
theorem G_law_part (T : Tx K mg) : Rb.FnG P w K mg base CX0 2 T.f__law_part T.fd__law_part ["_law_index", "_law_word"] (spF (ct0 K mg) F_law_part) := by
  unfold F_law_part
  exact
   d_fn T.F__law_part sc__law_part fun cdv A out s H E hg hr => (d_seq (d_if (d_tcmp (o_ieq hr.units) (d_var (pv 0)) d_int (nomark _))
 (d_seq (d_set (i := 2) sc__law_part.nd rfl (.inl rfl) (d_callW (G_law_numbers T) hg hr (by rfl) T.g__law_numbers T.F__law_numbers.kp T.b__law_numbers passG (d_cons (d_var (pv 1)) (d_cons d_str (d_cons d_int d_nil)))))
 (d_last (d_ret (d_ifE (PW.pt (d_and (d_tcmp o_isnot (d_var (pv 2)) d_non (nomark _)) (d_and (d_tcmp (o_ieq hr.units) (d_callB c_len (by rfl) T.z_len (by decide +kernel) (d_cons (d_var (pv 2)) d_nil)) d_int (nomark _)) (d_and1 (d_tchain o_le o_lt d_int (d_ix (d_var (pv 2)) d_int (fun _ _ => rfl)) (d_ix (d_var (pv 2)) d_int (fun _ _ => rfl))))))) (d_var (pv 2)) d_non))))
 d_end)
 (d_seq (d_if (d_tcmp (o_ieq hr.units) (d_var (pv 0)) d_int (nomark _))
 (d_seq (d_set (i := 3) sc__law_part.nd rfl (.inl rfl) (d_callW (G_law_numbers T) hg hr (by rfl) T.g__law_numbers T.F__law_numbers.kp T.b__law_numbers passG (d_cons (d_var (pv 1)) (d_cons d_str (d_cons d_int d_nil)))))
 (d_last (d_ret (d_ifE (PW.pt (d_and (d_tcmp o_isnot (d_var (pv 3)) d_non (nomark _)) (d_and1 (d_tcmp o_le (d_callB c_len (by rfl) T.z_len (by decide +kernel) (d_cons (d_var (pv 3)) d_nil)) d_int (nomark _))))) (d_var (pv 3)) d_non))))
 d_end)
 (d_seq (d_if (d_tcmp (o_ieq hr.units) (d_var (pv 0)) d_int (nomark _))
 (d_last (d_ret (d_ifE (d_tcmp (o_ieq hr.units) (d_var (pv 1)) d_str (nomark _)) (d_var (pv 1)) d_non)))
 d_end)
 (d_seq (d_set (i := 4) sc__law_part.nd rfl (.inl rfl) (d_ifE (d_tcmp (o_ieq hr.units) (d_var (pv 0)) d_int (nomark _)) (d_callW (G_law_numbers T) hg hr (by rfl) T.g__law_numbers T.F__law_numbers.kp T.b__law_numbers passG (d_cons (d_var (pv 1)) (d_cons d_str (d_cons (d_bin o_pow d_int d_int) d_nil)))) d_non))
 (d_last (d_ret (d_ifE (PW.pt (d_and (d_tcmp o_isnot (d_var (pv 4)) d_non (nomark _)) (d_and1 (d_tcmp o_le (d_callB c_len (by rfl) T.z_len (by decide +kernel) (d_cons (d_var (pv 4)) d_nil)) d_int (nomark _))))) (d_var (pv 4)) d_non)))))))
theorem G_part_in (T : Tx K mg) : Rb.FnG P w K mg base CX0 3 T.f_part_in T.fd_part_in ["word", "index"] (spF (ct0 K mg) F_part_in) := by
  unfold F_part_in
  exact
   d_fn T.F_part_in sc_part_in fun cdv A out s H E hg hr => (d_seq (d_if (d_tcmp (o_ieq hr.units) (d_var (pv 1)) d_int (nomark _))
 (d_last (d_ret (d_callW (G_ticks_in T) hg hr (by rfl) T.g_ticks_in T.F_ticks_in.kp T.b_ticks_in passG (d_cons (d_var (pv 0)) d_nil))))
 d_end)
 (d_seq (d_if (d_tcmp (o_ieq hr.units) (d_var (pv 1)) d_int (nomark _))
 (d_last (d_ret (d_callW (G_numbers_in T) hg hr (by rfl) T.g_numbers_in T.F_numbers_in.kp T.b_numbers_in passG (d_cons (d_var (pv 0)) (d_cons (d_gint (by rfl) T.c_MAX_STAGES) (d_cons (d_gint (by rfl) T.c_MAX_BIKES) d_nil))))))
 d_end)
 (d_seq (d_if (d_tcmp (o_ieq hr.units) (d_var (pv 1)) d_int (nomark _))
 (d_last (d_ret (d_ifE (d_tcmp (o_ieq hr.units) (d_var (pv 0)) d_str (nomark _)) (d_var (pv 0)) d_non)))
 d_end)
 (d_seq (d_if (d_tcmp (o_ieq hr.units) (d_var (pv 1)) d_int (nomark _))
 (d_last (d_ret (d_callW (G_numbers_in T) hg hr (by rfl) T.g_numbers_in T.F_numbers_in.kp T.b_numbers_in passG (d_cons (d_var (pv 0)) (d_cons (d_gint (by rfl) T.c_MAX_PEOPLE) (d_cons (d_gint (by rfl) T.c_MAX_START) d_nil))))))
 d_end)
 (d_last (d_ret d_non))))))
theorem G_law_due (T : Tx K mg) : Rb.FnG P w K mg base CX0 3 T.f__law_due T.fd__law_due ["_law_text"] (spF (ct0 K mg) F_law_due_2) := by
  unfold F_law_due_2
  exact
   d_fn T.F__law_due sc__law_due fun cdv A out s H E hg hr => (d_seq (d_if (d_not (d_tval (d_isi (t := .str) (by rfl) T.z_isinstance (d_var (pv 0)) (pe_bltn (by rfl) T.z_str (show bootBuiltins "str" = some (.type "str") by decide +kernel) (show RelV (V.ty "str") _ from rfl)))))
 (d_last (d_ret (d_tup (d_cons d_str (d_cons d_non d_nil)))))
 d_end)
 (d_seq (d_set (i := 1) sc__law_due.nd rfl (.inl rfl) (d_split (d_var (pv 0)) d_str))
 (d_seq (d_setLc (i := 2) (own := [("_law_k", 3), ("_law_word", 4)]) (g := (gTup K 2 (gCons (gName 3) (gCons (gName 4) gNil)))) (st := (st2 3 4)) (lct2 (by decide)) (by rfl) sc__law_due.nd rfl rfl (sw_true rfl rfl rfl (by decide +kernel)) (d_enL (by rfl) T.z_enumerate (d_cons (d_var (pv 1)) d_nil)) (blkOk_by (own := [("_law_k", 3), ("_law_word", 4)]) (N := N__law_due) (sc := defScope s__law_due) (by decide +kernel)) (fun _ _ _ _ _ => (pg_tup rfl (pgs_cons (pg_name (i := 3) sc__law_due.nd rfl (.inl rfl)) (pgs_cons (pg_name (i := 4) sc__law_due.nd rfl (.inl rfl)) pgs_nil)))) (fun _ _ _ _ _ => d_tnil) (fun _ _ _ _ _ => (d_callW (G_law_part T) hg hr (by rfl) T.g__law_part T.F__law_part.kp T.b__law_part passG (d_cons (d_var (pv 3)) (d_cons (d_var (pv 4)) d_nil)))))
 (d_seq (d_if (d_tcmp (o_inP hr.units) d_non (d_var (pv 2)) (by rfl))
 (d_last (d_ret (d_tup (d_cons d_str (d_cons (d_mlv PySem.F.slot_list_index PySem.F.type_list_index (m_indexP hr.units) (d_var (pv 2)) (d_cons d_non d_nil)) d_nil)))))
 d_end)
 (d_seq (d_if (d_tcmp o_lt (d_callB c_len (by rfl) T.z_len (by decide +kernel) (d_cons (d_var (pv 2)) d_nil)) d_int (nomark _))
 (d_last (d_ret (d_tup (d_cons d_str (d_cons (d_callB c_len (by rfl) T.z_len (by decide +kernel) (d_cons (d_var (pv 2)) d_nil)) d_nil)))))
 d_end)
 (d_last (d_ret (d_tup (d_cons (d_bin o_add (d_ix (d_var (pv 2)) d_int (fun _ _ => rfl)) (d_tup (d_cons (d_ix (d_var (pv 2)) d_int (fun _ _ => rfl)) d_nil))) (d_cons (d_ix (d_var (pv 2)) d_int (fun _ _ => rfl)) d_nil))))))))))
theorem G_parse_trip (T : Tx K mg) : Rb.FnG P w K mg base (L2.CX P w) 4 T.f_parse_trip T.fd_parse_trip ["value"] (spF (ct0 K mg) F_parse_trip) := by
  unfold F_parse_trip
  exact
   d_fnX T.F_parse_trip sc_parse_trip fun cdv A out s H E hg hr => (d_seq (d_if (d_not (d_tval (d_isi (t := .str) (by rfl) T.z_isinstance (d_var (pv 0)) (pe_bltn (by rfl) T.z_str (show bootBuiltins "str" = some (.type "str") by decide +kernel) (show RelV (V.ty "str") _ from rfl)))))
 (d_last (d_raiseE rfl (takes_of rfl rfl rfl rfl) PySem.F.excBase_ValueError T.L_BadText T.iC_BadText T.tI_BadText (Gi_BadText T) (hr.mono (by decide)) T.bI_BadText (by rfl) T.gC_BadText d_non))
 d_end)
 (d_seq (d_set (i := 1) sc_parse_trip.nd rfl (.inl rfl) (d_lstC d_nil))
 (d_seq (d_for (passes_of rfl) rfl (d_enL (by rfl) T.z_enumerate (d_cons (d_split (d_var (pv 0)) d_str) d_nil)) (d_gtup rfl (d_gcons (d_gn (pg_name (i := 2) sc_parse_trip.nd rfl (.inl rfl))) (d_gcons (d_gn (pg_name (i := 3) sc_parse_trip.nd rfl (.inl rfl))) d_gnil)))
 (d_seq (d_set (i := 4) sc_parse_trip.nd rfl (.inl rfl) (d_callW (G_part_in T) hg hr (by rfl) T.g_part_in T.F_part_in.kp T.b_part_in passG (d_cons (d_var (pv 3)) (d_cons (d_var (pv 2)) d_nil))))
 (d_seq (d_if (d_tcmp o_is (d_var (pv 4)) d_non (nomark _))
 (d_last (d_raiseE rfl (takes_of rfl rfl rfl rfl) PySem.F.excBase_ValueError T.L_BadText T.iC_BadText T.tI_BadText (Gi_BadText T) (hr.mono (by decide)) T.bI_BadText (by rfl) T.gC_BadText (d_var (pv 2))))
 d_end)
 (d_last (d_expr (d_ml PySem.F.slot_list_append PySem.F.type_list_append m_append (d_var (pv 1)) (d_cons (d_var (pv 4)) d_nil)))))))
 (d_seq (d_if (d_tcmp o_lt (d_callB c_len (by rfl) T.z_len (by decide +kernel) (d_cons (d_var (pv 1)) d_nil)) (d_gint (by rfl) T.c_WORDS) (nomark _))
 (d_last (d_raiseE rfl (takes_of rfl rfl rfl rfl) PySem.F.excBase_ValueError T.L_BadText T.iC_BadText T.tI_BadText (Gi_BadText T) (hr.mono (by decide)) T.bI_BadText (by rfl) T.gC_BadText (d_callB c_len (by rfl) T.z_len (by decide +kernel) (d_cons (d_var (pv 1)) d_nil))))
 d_end)
 (d_seq (d_asg (d_var (pv 1)) (d_gunl rfl (d_gcons (d_gn (pg_name (i := 5) sc_parse_trip.nd rfl (.inl rfl))) (d_gcons (d_gn (pg_name (i := 6) sc_parse_trip.nd rfl (.inl rfl))) (d_gcons (d_gn (pg_name (i := 7) sc_parse_trip.nd rfl (.inl rfl))) (d_gcons (d_gn (pg_name (i := 8) sc_parse_trip.nd rfl (.inl rfl))) d_gnil))))))
 (d_last (d_ret (d_tup (d_cons (d_tup (d_star (d_var (pv 5)) (d_cons (d_var (pv 6)) d_nil))) (d_cons (d_var (pv 8)) d_nil))))))))))
theorem G_law_told (T : Tx K mg) : Rb.FnG P w K mg base CX0 5 T.f__law_told T.fd__law_told ["_law_text"] (spF (ct0 K mg) F_law_told_2) := by
  unfold F_law_told_2
  exact
   d_fn T.F__law_told sc__law_told fun cdv A out s H E hg hr => (d_last (d_try (i := 1) rfl rfl rfl sc__law_told.nd rfl rfl ⟨by rfl, by decide, Or.inl T.gC_BadText⟩ takes0E (tab_of (allS (xt_of T.gC_BadText T.x_BadText_BadText) all0))
 (fun W pn xe tk _ => (x_last (x_ret (d_callW (G_parse_trip T) hg hr (by rfl) T.g_parse_trip T.F_parse_trip.kp T.b_parse_trip (passW tk) (d_cons (d_var (pv 0)) d_nil)))))
 (fun a oe pn hfd => (d_seq (d_if (PW.pt (d_or (d_not (d_tval (d_isX hfd (allS T.xi_BadText_TripError all0) (by rfl) T.z_isinstance (pv 1) (cl_own (by rfl) T.gC_TripError)))) (d_or1 (d_tval (d_isXT hfd (allS T.xi_BadText_BadRoad (allS T.xi_BadText_BadStarts (allS T.xi_BadText_LookupError all0))) (by rfl) T.z_isinstance (pv 1) (ClEs.cons (cl_own (by rfl) T.gC_BadRoad) (ClEs.cons (cl_own (by rfl) T.gC_BadStarts) (ClEs.cons (cl_ty (n := "LookupError") (by rfl) T.z_LookupError (by decide +kernel)) ClEs.nil))) (Nat.le_of_ble_eq_true rfl))))))
 (d_last (d_ret d_str))
 d_end)
 (d_last (d_ret (d_tup (d_cons d_str (d_cons (d_xf hfd (allS ⟨_, T.gC_BadText, T.E_BadText.xf, T.no_BadText⟩ all0) (pv 1)) d_nil)))))))))
theorem B_law_same (T : Tx K mg) {lv : Nat} {R R1 : FF} (e1 : R1 = dDef 2 4 (den_law_same_2 R)) (hR : Rb.FnG P w K mg base CX0 lv T.f__law_same T.fd__law_same ["_law_found", "_law_due_here"] (spF (ct0 K mg) R)) (hl : 0 ≤ lv) : Rb.FnG P w K mg base CX0 (lv + 1) T.f__law_same T.fd__law_same ["_law_found", "_law_due_here"] (spF (ct0 K mg) R1) := by
   rw [e1]
   exact d_fn T.F__law_same sc__law_same fun cdv A out s H E hg hr => (d_seq (d_if (d_tval (d_isi (t := .tup) (by rfl) T.z_isinstance (d_var (pv 1)) (pe_bltn (by rfl) T.z_tuple (show bootBuiltins "tuple" = some (.type "tuple") by decide +kernel) (show RelV (V.ty "tuple") _ from rfl))))
 (d_seq (d_if (PW.pt (d_or (d_not (d_tval (d_isi (t := .tup) (by rfl) T.z_isinstance (d_var (pv 0)) (pe_bltn (by rfl) T.z_tuple (show bootBuiltins "tuple" = some (.type "tuple") by decide +kernel) (show RelV (V.ty "tuple") _ from rfl))))) (d_or1 (d_tcmp (o_ine hr.units) (d_callB c_len (by rfl) T.z_len (by decide +kernel) (d_cons (d_var (pv 0)) d_nil)) (d_callB c_len (by rfl) T.z_len (by decide +kernel) (d_cons (d_var (pv 1)) d_nil)) (nomark _)))))
 (d_last (d_ret d_bl))
 d_end)
 (d_last (d_ret (d_cmp (o_ieq hr.units) (d_lc (own := [("_law_one", 2), ("_law_other", 3)]) (g := (gTup K 2 (gCons (gName 2) (gCons (gName 3) gNil)))) (st := (st2 2 3)) (lct2 (by decide)) (by rfl) sc__law_same.nd (d_zip (by rfl) T.z_zip (d_cons (d_var (pv 0)) (d_cons (d_var (pv 1)) d_nil))) (blkOk_by (own := [("_law_one", 2), ("_law_other", 3)]) (N := N__law_same) (sc := defScope s__law_same) (by decide +kernel)) (fun _ _ _ _ _ => (pg_tup rfl (pgs_cons (pg_name (i := 2) sc__law_same.nd rfl (.inl rfl)) (pgs_cons (pg_name (i := 3) sc__law_same.nd rfl (.inl rfl)) pgs_nil)))) (fun _ _ _ _ _ => (d_tone (d_not (d_tval (d_callW hR hg (hr.mono (by omega)) (by rfl) T.g__law_same T.F__law_same.kp T.b__law_same passG (d_cons (d_var (pv 2)) (d_cons (d_var (pv 3)) d_nil))))))) (fun _ _ _ _ _ => d_int)) (d_lst d_nil) (nomark _)))))
 d_end)
 (d_seq (d_if (d_tcmp o_is (d_var (pv 1)) d_non (nomark _))
 (d_last (d_ret (d_cmp o_is (d_var (pv 0)) d_non (nomark _))))
 d_end)
 (d_seq (d_if (d_tval (d_isi (t := .str) (by rfl) T.z_isinstance (d_var (pv 1)) (pe_bltn (by rfl) T.z_str (show bootBuiltins "str" = some (.type "str") by decide +kernel) (show RelV (V.ty "str") _ from rfl))))
 (d_last (d_ret (d_andV (d_isi (t := .str) (by rfl) T.z_isinstance (d_var (pv 0)) (pe_bltn (by rfl) T.z_str (show bootBuiltins "str" = some (.type "str") by decide +kernel) (show RelV (V.ty "str") _ from rfl))) (d_one (d_cmp (o_ieq hr.units) (d_var (pv 0)) (d_var (pv 1)) (nomark _))))))
 d_end)
 (d_last (d_ret (d_andV (d_isi (t := .int) (by rfl) T.z_isinstance (d_var (pv 0)) (pe_bltn (by rfl) T.z_int (show bootBuiltins "int" = some (.type "int") by decide +kernel) (show RelV (V.ty "int") _ from rfl))) (d_andV (d_cmp (o_ieq hr.units) (d_isi (t := .bool) (by rfl) T.z_isinstance (d_var (pv 0)) (pe_bltn (by rfl) T.z_bool (show bootBuiltins "bool" = some (.type "bool") by decide +kernel) (show RelV (V.ty "bool") _ from rfl))) (d_isi (t := .bool) (by rfl) T.z_isinstance (d_var (pv 1)) (pe_bltn (by rfl) T.z_bool (show bootBuiltins "bool" = some (.type "bool") by decide +kernel) (show RelV (V.ty "bool") _ from rfl))) (nomark _)) (d_one (d_cmp (o_ieq hr.units) (d_var (pv 0)) (d_var (pv 1)) (nomark _))))))))))
theorem GR_law_same (T : Tx K mg) (k : Nat) : Rb.FnG P w K mg base CX0 (0 + k + 1) T.f__law_same T.fd__law_same ["_law_found", "_law_due_here"] (spF (ct0 K mg) (F_law_same_2 k)) := by
  induction k with
  | zero => exact B_law_same T F_law_same_2_zero fnNever (Nat.le_refl _)
  | succ k ih => exact B_law_same T F_law_same_2_succ ih (by omega)
theorem G_law_same (T : Tx K mg) : Rb.FnG P w K mg base CX0 7 T.f__law_same T.fd__law_same ["_law_found", "_law_due_here"] (spF (ct0 K mg) (F_law_same_2 6)) := GR_law_same T 6
theorem G_law (T : Tx K mg) : Rb.FnG P w K mg base CX0 8 T.f_law T.fd_law ["_law_script"] (spF (ct0 K mg) F_law_k56) := by
  unfold F_law_k56
  exact
   d_fnC T.F_law sc_law fun cdv A out s H E hg hr => (d_seq (d_set (i := 1) sc_law.nd rfl (.inl rfl) (d_callW (G_law_deck T) hg (hr.mono (by decide)) (by rfl) T.g__law_deck T.F__law_deck.kp T.b__law_deck passG (d_cons (d_var (pv 0)) d_nil)))
 (d_seq (d_set (i := 2) sc_law.nd rfl (.inl rfl) (d_lstC (d_cons d_str (d_cons d_str (d_cons d_str (d_cons d_str (d_cons d_str (d_cons d_str (d_cons d_str (d_cons d_str (d_cons d_str d_nil)))))))))))
 (d_seq (d_set (i := 2) sc_law.nd rfl (.inl rfl) (d_bin o_addC (d_var (pv 2)) (d_lst (d_cons d_str (d_cons d_str (d_cons d_str (d_cons d_str (d_cons d_str (d_cons d_str (d_cons d_str d_nil))))))))))
 (d_seq (d_for PassesOwn.never rfl (d_iseq (d_lst (d_cons d_str (d_cons d_str (d_cons d_str (d_cons d_str (d_cons d_str (d_cons d_str (d_cons d_str (d_cons d_str (d_cons d_str (d_cons d_str (d_cons d_str (d_cons d_str d_nil)))))))))))))) (d_gn (pg_name (i := 3) sc_law.nd rfl (.inl rfl)))
 (d_last (d_set (i := 2) sc_law.nd rfl (.inl rfl) (d_bin o_addC (d_var (pv 2)) (d_lst (d_cons (d_var (pv 3)) (d_cons (d_bin o_add (d_var (pv 3)) d_str) (d_cons (d_bin o_add (d_var (pv 3)) d_str) d_nil))))))))
 (d_seq (d_for PassesOwn.never rfl (d_iseq (d_lst (d_cons d_str (d_cons d_str (d_cons d_str (d_cons d_str (d_cons d_str (d_cons d_str (d_cons d_str (d_cons d_str (d_cons d_str (d_cons d_str (d_cons d_str (d_cons d_str (d_cons d_str d_nil))))))))))))))) (d_gn (pg_name (i := 3) sc_law.nd rfl (.inl rfl)))
 (d_last (d_set (i := 2) sc_law.nd rfl (.inl rfl) (d_bin o_addC (d_var (pv 2)) (d_lst (d_cons (d_bin o_add (d_var (pv 3)) d_str) (d_cons (d_bin o_add (d_var (pv 3)) d_str) d_nil)))))))
 (d_seq (d_for PassesOwn.never rfl (d_iseq (d_lst (d_cons d_str (d_cons d_str (d_cons d_str (d_cons d_str (d_cons d_str (d_cons d_str (d_cons d_str (d_cons d_str (d_cons d_str (d_cons d_str (d_cons d_str (d_cons d_str (d_cons d_str (d_cons d_str (d_cons d_str (d_cons d_str d_nil)))))))))))))))))) (d_gn (pg_name (i := 3) sc_law.nd rfl (.inl rfl)))
 (d_seq (d_set (i := 2) sc_law.nd rfl (.inl rfl) (d_bin o_addC (d_var (pv 2)) (d_lst (d_cons (d_bin o_add (d_bin o_add d_str (d_var (pv 3))) d_str) (d_cons (d_bin o_add d_str (d_var (pv 3))) (d_cons (d_bin o_add (d_bin o_add d_str (d_var (pv 3))) d_str) d_nil))))))
 (d_last (d_set (i := 2) sc_law.nd rfl (.inl rfl) (d_bin o_addC (d_var (pv 2)) (d_lst (d_cons (d_bin o_add d_str (d_var (pv 3))) (d_cons (d_bin o_add d_str (d_var (pv 3))) d_nil))))))))
 (d_seq (d_for PassesOwn.never rfl (d_iseq (d_lst (d_cons d_str (d_cons d_str (d_cons d_str (d_cons d_str (d_cons d_str (d_cons d_str (d_cons d_str (d_cons d_str (d_cons d_str d_nil))))))))))) (d_gn (pg_name (i := 3) sc_law.nd rfl (.inl rfl)))
 (d_last (d_set (i := 2) sc_law.nd rfl (.inl rfl) (d_bin o_addC (d_var (pv 2)) (d_lst (d_cons (d_bin o_add d_str (d_var (pv 3))) (d_cons (d_bin o_add (d_bin o_add d_str (d_var (pv 3))) d_str) d_nil)))))))
 (d_seq (d_for PassesOwn.never rfl (d_iseq (d_lst (d_cons d_str (d_cons d_str (d_cons d_str (d_cons d_str (d_cons d_str (d_cons d_str (d_cons d_str (d_cons d_str d_nil)))))))))) (d_gn (pg_name (i := 3) sc_law.nd rfl (.inl rfl)))
 (d_last (d_expr (d_ml PySem.F.slot_list_append PySem.F.type_list_append m_append (d_var (pv 2)) (d_cons (d_bin o_add (d_bin o_add d_str (d_var (pv 3))) d_str) d_nil)))))
 (d_seq (d_for PassesOwn.never rfl (d_iseq (d_lst (d_cons d_int (d_cons d_int (d_cons d_int (d_cons d_int (d_cons d_int d_nil))))))) (d_gn (pg_name (i := 4) sc_law.nd rfl (.inl rfl)))
 (d_last (d_set (i := 2) sc_law.nd rfl (.inl rfl) (d_bin o_addC (d_var (pv 2)) (d_lst (d_cons (d_bin o_add (d_bin o_add d_str (d_join d_str (d_bin o_mul (d_lst (d_cons d_str d_nil)) (d_var (pv 4))))) d_str) (d_cons (d_bin o_add d_str (d_join d_str (d_bin o_mul (d_lst (d_cons d_str d_nil)) (d_var (pv 4))))) d_nil)))))))
 (d_seq (d_for PassesOwn.never rfl (d_rng1 (by rfl) T.z_range (d_cons d_int d_nil)) (d_gn (pg_name (i := 5) sc_law.nd rfl (.inl rfl)))
 (d_seq (d_set (i := 6) sc_law.nd rfl (.inl rfl) (d_callW (G_law_trip_text T) hg (hr.mono (by decide)) (by rfl) T.g__law_trip_text T.F__law_trip_text.kp T.b__law_trip_text passG (d_cons (d_call 2 (G_law_state T) hg (hr.mono (by decide)) (by rfl) T.g__law_state T.F__law_state.kp T.b__law_state passG (d_cons (d_var (pv 1)) (d_cons d_int (d_cons d_int d_nil)))) d_nil)))
 (d_seq (d_for PassesOwn.never rfl (d_rng1 (by rfl) T.z_range (d_cons d_int d_nil)) (d_gn (pg_name (i := 7) sc_law.nd rfl (.inl rfl)))
 (d_last (d_set (i := 2) sc_law.nd rfl (.inl rfl) (d_bin o_addC (d_var (pv 2)) (d_lst (d_cons (d_callW (G_law_bent T) hg (hr.mono (by decide)) (by rfl) T.g__law_bent T.F__law_bent.kp T.b__law_bent passG (d_cons (d_var (pv 1)) (d_cons (d_var (pv 6)) d_nil))) (d_cons (d_callW (G_law_bent T) hg (hr.mono (by decide)) (by rfl) T.g__law_bent T.F__law_bent.kp T.b__law_bent passG (d_cons (d_var (pv 1)) (d_cons (d_callW (G_law_bent T) hg (hr.mono (by decide)) (by rfl) T.g__law_bent T.F__law_bent.kp T.b__law_bent passG (d_cons (d_var (pv 1)) (d_cons (d_var (pv 6)) d_nil))) d_nil))) d_nil)))))))
 (d_last (d_set (i := 2) sc_law.nd rfl (.inl rfl) (d_bin o_addC (d_var (pv 2)) (d_lst (d_cons (d_var (pv 6)) (d_cons (d_lst (d_cons (d_var (pv 6)) d_nil)) (d_cons (d_callW (G_law_odd T) hg (hr.mono (by decide)) (by rfl) T.g__law_odd T.F__law_odd.kp T.b__law_odd passG (d_cons (d_var (pv 1)) d_nil)) d_nil))))))))))
 (d_seq (d_for PassesOwn.never rfl (d_iseq (d_bin o_add (d_var (pv 2)) (d_lst (d_cons d_non (d_cons d_int (d_cons d_bl (d_cons (d_tup (d_cons (d_tup (d_cons d_int (d_cons d_int (d_cons (d_tup (d_cons d_int d_nil)) d_nil)))) (d_cons (d_tup (d_cons d_int d_nil)) d_nil))) (d_cons d_str (d_cons d_str (d_cons d_str d_nil)))))))))) (d_gn (pg_name (i := 8) sc_law.nd rfl (.inl rfl)))
 (d_seq (d_set (i := 9) sc_law.nd rfl (.inl rfl) (d_callB (c_irepr hg hr.units) (by rfl) T.z_repr (by decide +kernel) (d_cons (d_var (pv 8)) d_nil)))
 (d_last (d_if (PW.pt (d_or (d_not (d_tval (d_callW (G_law_same T) hg hr (by rfl) T.g__law_same T.F__law_same.kp T.b__law_same passG (d_cons (d_callW (G_law_told T) hg (hr.mono (by decide)) (by rfl) T.g__law_told T.F__law_told.kp T.b__law_told passG (d_cons (d_var (pv 8)) d_nil)) (d_cons (d_callW (G_law_due T) hg (hr.mono (by decide)) (by rfl) T.g__law_due T.F__law_due.kp T.b__law_due passG (d_cons (d_var (pv 8)) d_nil)) d_nil))))) (d_or1 (d_tcmp (o_ine hr.units) (d_callB (c_irepr hg hr.units) (by rfl) T.z_repr (by decide +kernel) (d_cons (d_var (pv 8)) d_nil)) (d_var (pv 9)) (nomark _)))))
 (d_last (d_ret d_bl))
 d_end))))
 (d_last (d_ret d_bl)))))))))))))
end
end Pu
namespace Pu
open PySem L2
theorem ifT {b : Bool} {P Q : Prop} (h : b = true) (p : P) : if b = true then P else Q := by rw [if_pos h]; exact p
theorem ifF {b : Bool} {P Q : Prop} (h : b = false) (p : Q) : if b = true then P else Q := by rw [h, if_neg Bool.false_ne_true]; exact p
theorem ifB {b : Bool} {P Q : Prop} (h1 : b = true → P) (h2 : b = false → Q) : if b = true then P else Q := by
  cases b with
  | true => exact ifT rfl (h1 rfl)
  | false => exact ifF rfl (h2 rfl)
theorem onS {α : Type} {o : Option α} {a : α} {k : α → Prop} (h : o = some a) (p : k a) : onSome o k := by rw [h]; exact p
/-! ## numbers in a range, any value -/
def isNum (lo hi : Int) : D → Bool
  | .int i => decide (lo ≤ i) && decide (i ≤ hi)
  | _ => false
/-! ## the deck -/
def deckS (cs : List Int) (n : Int) : Sto := [.lst (cs.map D.int), .lst [.cell 0, .int n]]
def Dk (S : Sto) (N : Int) (T : Sto) : Prop := ∃ cs n, S = deckS cs n ++ T ∧ cs.length ≤ 63 ∧ (∀ x ∈ cs, 0 ≤ x) ∧ 0 ≤ n ∧ n ≤ N
theorem Dk.le {S : Sto} {N M : Int} {T : Sto} (h : Dk S N T) (e : N ≤ M) : Dk S M T := by
  obtain ⟨cs, n, h1, h2, h3, h4, h5⟩ := h
  exact ⟨cs, n, h1, h2, h3, h4, by omega⟩
/-- a comprehension whose element changes nothing -/
theorem comp_map {st : D → Rho → Option Rho} {f : FE} {src : Src} {k : List D → Sto → Prop} {S : Sto} {ρ : Rho} {g : D → D} (hsrc : ∀ P : Prop, P → srcOk src S P) : ∀ (xs acc : List D), (∀ x ∈ xs, ∃ ρ1, st x ρ = some ρ1 ∧ ∀ Q : QD, Q (g x) S → f ρ1 S Q noE) → k (acc ++ xs.map g) S → dCompL st dYes f src xs acc ρ S k
  | [], acc, _, h => by rw [List.map_nil, List.append_nil] at h; exact h
  | x :: xs, acc, hx, h => by
    obtain ⟨ρ1, e, hf⟩ := hx x List.mem_cons_self
    refine onS e ?_
    refine ifT (b := true) (Q := srcOk src S (dCompL st dYes f src xs acc ρ S k)) rfl ?_
    refine hf _ (hsrc _ (comp_map hsrc xs _ (fun y hy => hx y (List.mem_cons_of_mem _ hy)) ?_))
    rw [List.append_assoc]
    exact h
def absI (i : Int) : Int := if i < 0 then -i else i
theorem absI_nn (i : Int) : 0 ≤ absI i := by unfold absI; split <;> omega
end Pu
namespace Pu
open PySem L2
/-- a loop by an invariant -/
theorem for_inv {g : FG} {fb : FS} {src : Src} {De : DEnds} {Ed : ED} {ρ : Rho} {S : Sto} (xs : List D) (I : Nat → Rho → Sto → Prop) (h0 : I 0 ρ S)
    (hs : ∀ (i : Nat) (x : D) (ρ : Rho) (S : Sto) (K : Rho → Sto → Prop), xs[i]? = some x → (∀ ρ' S', I (i + 1) ρ' S' → K ρ' S') → I i ρ S → g x ρ S (fun ρ1 S1 => fb ρ1 S1 ⟨K, De.rt, De.nx, K⟩ Ed) Ed)
    (hd : ∀ ρ S, I xs.length ρ S → De.nx ρ S) (hsrc : ∀ i ρ S, I i ρ S → ∀ P : Prop, P → srcOk src S P := by intro _ _ _ _ _ p; exact p) : dLoop g fb src xs ρ S De Ed := by
  have go : ∀ (m n : Nat) (ρ : Rho) (S : Sto), n + m = xs.length → I n ρ S → dLoop g fb src (xs.drop n) ρ S De Ed := by
    intro m
    induction m with
    | zero =>
      intro n ρ S e h
      have : n = xs.length := by omega
      subst this
      rw [List.drop_length]
      exact hd ρ S h
    | succ m ih =>
      intro n ρ S e h
      have hlt : n < xs.length := by omega
      have hx := List.getElem?_eq_getElem hlt
      rw [drop_cons hx]
      exact hs n _ ρ S _ hx (fun ρ' S' h' => hsrc _ _ _ h' _ (ih (n + 1) ρ' S' (by omega) h')) h
  exact go xs.length 0 ρ S (by omega) h0
theorem rangeD_len {lo : Int} {n : Nat} : (rangeD lo n).length = n := by unfold rangeD; rw [List.length_map, List.length_range]
theorem for_rng {g : FG} {fb : FS} {De : DEnds} {Ed : ED} {ρ : Rho} {S : Sto} (lo : Int) (n : Nat) (I : Nat → Rho → Sto → Prop) (h0 : I 0 ρ S)
    (hs : ∀ (i : Nat) (ρ : Rho) (S : Sto) (K : Rho → Sto → Prop), i < n → (∀ ρ' S', I (i + 1) ρ' S' → K ρ' S') → I i ρ S → g (.int (lo + (i : Int))) ρ S (fun ρ1 S1 => fb ρ1 S1 ⟨K, De.rt, De.nx, K⟩ Ed) Ed)
    (hd : ∀ ρ S, I n ρ S → De.nx ρ S) : dLoop g fb [] (rangeD lo n) ρ S De Ed := by
  refine for_inv (rangeD lo n) I h0 (fun i x ρ S K hx hK hI => ?_) (fun ρ S h => hd ρ S (by rw [rangeD_len] at h; exact h))
  obtain ⟨h1, rfl⟩ := rangeD_get hx
  exact hs i ρ S K h1 hK hI
theorem szd {n : Nat} (h : n ≤ 100000) : n ≤ sizeLine := Rb.sz_le h
def roadV (wk rd : Int) (bs : List Int) : D := .tup [.int wk, .int rd, .tup (bs.map .int)]
end Pu
namespace Pu
open PySem L2
/-! ## the error of a road -/
theorem enumD_len {xs : List D} : (enumD xs).length = xs.length := by unfold enumD; rw [List.length_mapIdx]
end Pu
namespace Pu
open PySem L2
/-- a comprehension with a test, whose element changes nothing -/
theorem comp_flt {st : D → Rho → Option Rho} {t : FT} {f : FE} {src : Src} {k : List D → Sto → Prop} {S : Sto} {ρ : Rho} (p : D → Bool) (g : D → D) (hsrc : ∀ P : Prop, P → srcOk src S P) : ∀ (xs acc : List D),
    (∀ x ∈ xs, ∃ ρ1, st x ρ = some ρ1 ∧ (∀ Q : Bool → Sto → Prop, Q (p x) S → t ρ1 S Q noE) ∧ (p x = true → ∀ Q : QD, Q (g x) S → f ρ1 S Q noE)) → k (acc ++ (xs.filter p).map g) S → dCompL st t f src xs acc ρ S k
  | [], acc, _, h => by rw [List.filter_nil, List.map_nil, List.append_nil] at h; exact h
  | x :: xs, acc, hx, h => by
    obtain ⟨ρ1, e, ht, hf⟩ := hx x List.mem_cons_self
    have ih := fun acc' h' => comp_flt (st := st) (t := t) (f := f) (src := src) (k := k) (S := S) (ρ := ρ) p g hsrc xs acc' (fun y hy => hx y (List.mem_cons_of_mem _ hy)) h'
    refine onS e (ht _ ?_)
    cases hp : p x with
    | true =>
      rw [List.filter_cons_of_pos hp, List.map_cons] at h
      refine ifT (b := true) (Q := srcOk src S (dCompL st t f src xs acc ρ S k)) rfl (hf hp _ (hsrc _ (ih _ ?_)))
      rw [List.append_assoc]
      exact h
    | false =>
      rw [List.filter_cons_of_neg (by rw [hp]; decide)] at h
      exact ifF (b := false) (P := f ρ1 S (fun y S2 => srcOk src S2 (dCompL st t f src xs (acc ++ [y]) ρ S2 k)) noE) rfl (hsrc _ (ih _ h))
theorem py_ints (ns : List Int) : toPyAll (ns.map D.int) = some (ns.map .int) := by
  induction ns with
  | nil => rfl
  | cons n ns ih =>
    show (toPy (.int n)).bind (fun p => (toPyAll (ns.map D.int)).map (p :: ·)) = _
    rw [ih]
    rfl
end Pu
namespace Pu
open PySem L2
theorem szr {n : Nat} (h : Nat.ble n 100000 = true) : n ≤ sizeLine := szd (Nat.le_of_ble_eq_true h)
/-! ## any value, of a bounded size -/
structure Av (k n : Nat) (d : D) : Prop where
  py : ∃ p, toPy d = some p ∧ Rb.Nice k n p
  kn : known d = true
abbrev Avs (k n : Nat) (ds : List D) : Prop := ∀ d ∈ ds, Av k n d
theorem Av.some {k n : Nat} {d : D} (h : Av k n d) : (toPy d).isSome = true := by
  obtain ⟨p, e, _⟩ := h.py
  rw [e]
  rfl
theorem Av.mono {k n k' n' : Nat} {d : D} (h : Av k n d) (h1 : k ≤ k') (h2 : n ≤ n') : Av k' n' d := by
  obtain ⟨p, e, hn⟩ := h.py
  exact ⟨⟨p, e, hn.mono h1 h2⟩, h.kn⟩
theorem Av.int {i : Int} (h : i.natAbs < 10 ^ 99) : Av 0 0 (.int i) := ⟨⟨_, rfl, Rb.Nice.int h⟩, rfl⟩
theorem Av.non : Av 0 0 .non := ⟨⟨_, rfl, Rb.Nice.none⟩, rfl⟩
theorem Av.bl {b : Bool} : Av 0 0 (.bl b) := ⟨⟨_, rfl, Rb.Nice.bool⟩, rfl⟩
theorem avs_py {k n : Nat} : ∀ {ds : List D}, Avs k n ds → (∃ ps, toPyAll ds = some ps ∧ ps.length = ds.length ∧ ∀ p ∈ ps, Rb.Nice k n p) ∧ knownAll ds = true
  | [], _ => ⟨⟨[], rfl, rfl, fun _ z => nomatch z⟩, rfl⟩
  | d :: ds, h => by
    obtain ⟨⟨ps, e, hl, hn⟩, hk⟩ := avs_py (ds := ds) fun x hx => h x (List.mem_cons_of_mem _ hx)
    obtain ⟨⟨p, e1, h1⟩, k1⟩ := h d List.mem_cons_self
    refine ⟨⟨p :: ps, ?_, by rw [List.length_cons, List.length_cons, hl], fun q hq => ?_⟩, ?_⟩
    · show (toPy d).bind (fun p => (toPyAll ds).map (p :: ·)) = _
      rw [e1, e]
      rfl
    · rcases List.mem_cons.mp hq with rfl | hq
      · exact h1
      · exact hn q hq
    · show (known d && knownAll ds) = true
      rw [k1, hk]
      rfl
theorem Av.tup {k n m : Nat} {ds : List D} (h : Avs k n ds) (hm : ds.length * (n + 1) ≤ m) : Av (k + 1) m (.tup ds) := by
  obtain ⟨⟨ps, e, hl, hn⟩, hk⟩ := avs_py h
  refine ⟨⟨.tuple ps, ?_, Rb.Nice.tup hn (by rw [hl]; exact hm)⟩, hk⟩
  show (toPyAll ds).map PyData.tuple = _
  rw [e]
  rfl
theorem Av.lst {k n m : Nat} {ds : List D} (h : Avs k n ds) (hm : ds.length * (n + 1) ≤ m) : Av (k + 1) m (.lst true ds) := by
  obtain ⟨⟨ps, e, hl, hn⟩, hk⟩ := avs_py h
  refine ⟨⟨.list ps, ?_, Rb.Nice.lst hn (by rw [hl]; exact hm)⟩, hk⟩
  show (toPyAll ds).map PyData.list = _
  rw [e]
  rfl
theorem Avs.nil {k n : Nat} : Avs k n [] := fun _ z => nomatch z
theorem Avs.cons {k n : Nat} {d : D} {ds : List D} (h : Av k n d) (t : Avs k n ds) : Avs k n (d :: ds) := fun x hx => by
  rcases List.mem_cons.mp hx with rfl | hx
  · exact h
  · exact t x hx
theorem Avs.app {k n : Nat} {ds es : List D} (h : Avs k n ds) (t : Avs k n es) : Avs k n (ds ++ es) := fun x hx => by
  rcases List.mem_append.mp hx with hx | hx
  · exact h x hx
  · exact t x hx
theorem Avs.ints {ns : List Int} (h : ∀ i ∈ ns, i.natAbs < 10 ^ 99) : Avs 0 0 (ns.map D.int) := fun x hx => by
  obtain ⟨i, hi, rfl⟩ := List.mem_map.mp hx
  exact Av.int (h i hi)
theorem Avs.mono {k n k' n' : Nat} {ds : List D} (h : Avs k n ds) (h1 : k ≤ k') (h2 : n ≤ n') : Avs k' n' ds := fun x hx => (h x hx).mono h1 h2
theorem cutD_le {ds : List D} {lo hi : Option Int} : (cutD ds lo hi).length ≤ ds.length := by
  unfold cutD
  rw [List.length_take, List.length_drop]
  omega
theorem Avs.rep {k n m : Nat} {ds : List D} (h : Avs k n ds) : Avs k n (List.replicate m ds).flatten := fun x hx => by
  obtain ⟨l, hl, hx⟩ := List.mem_flatten.mp hx
  rw [(List.mem_replicate.mp hl).2] at hx
  exact h x hx
theorem atI_mem {α : Type} {xs : List α} {r : Int} (h0 : 0 ≤ r) (h1 : r < xs.length) : ∃ d, atI xs r = some d ∧ d ∈ xs := by
  obtain ⟨j, rfl⟩ : ∃ j : Nat, r = (j : Int) := ⟨r.toNat, (Int.toNat_of_nonneg h0).symm⟩
  have hj : j < xs.length := by omega
  exact ⟨xs[j], atI_nat (List.getElem?_eq_getElem hj), List.getElem_mem hj⟩
/-! ## odd values -/
end Pu
namespace Pu
open PySem L2 Rb
/-! ## people, plans -/
def nI (r : List Nat) : List Int := r.map fun p : Nat => (p : Int)
theorem nI_len (r : List Nat) : (nI r).length = r.length := by unfold nI; rw [List.length_map]
structure PlanPre (bikes : List Int) (n : Nat) (plan : List (List Nat)) : Prop where
  asc : ∀ r ∈ plan, r.Pairwise (· < ·)
  lt : ∀ r ∈ plan, ∀ p ∈ r, p < n
  few : ∀ i, i < plan.length → (plan.getD i []).length ≤ (bikes.getD i 0).toNat + (brM plan i).length
theorem getD_app {α : Type} {l m : List α} {i : Nat} {d : α} (h : i < l.length) : (l ++ m).getD i d = l.getD i d := by
  rw [List.getD_eq_getElem?_getD, List.getD_eq_getElem?_getD, List.getElem?_append_left h]
theorem PlanPre.snoc {bikes : List Int} {n : Nat} {plan : List (List Nat)} {r : List Nat} (h : PlanPre bikes n plan) (h1 : r.Pairwise (· < ·)) (h2 : ∀ p ∈ r, p < n) (h3 : r.length ≤ (bikes.getD plan.length 0).toNat + (brM plan plan.length).length) : PlanPre bikes n (plan ++ [r]) := by
  refine ⟨fun s hs => ?_, fun s hs => ?_, fun i hi => ?_⟩
  · rcases List.mem_append.mp hs with g | g
    · exact h.asc s g
    · rw [List.mem_singleton.mp g]; exact h1
  · rcases List.mem_append.mp hs with g | g
    · exact h.lt s g
    · rw [List.mem_singleton.mp g]; exact h2
  · have hi : i < plan.length + 1 := by rw [List.length_append] at hi; exact hi
    have eb : brM (plan ++ [r]) i = brM plan i := by
      unfold brM
      split
      · rfl
      · exact getD_app (by omega)
    rw [eb]
    by_cases e : i < plan.length
    · rw [getD_app e]
      exact h.few i e
    · have e : i = plan.length := by omega
      subst e
      have : (plan ++ [r]).getD plan.length [] = r := by
        rw [List.getD_eq_getElem?_getD, List.getElem?_append_right (Nat.le_refl _), Nat.sub_self]
        rfl
      rw [this]
      exact h3
theorem PlanPre.ok {bikes : List Int} {n : Nat} {plan : List (List Nat)} (h : PlanPre bikes n plan) (hl : plan.length = bikes.length) (hn : ∀ b ∈ bikes, 0 ≤ b) : PlanOk bikes n plan := by
  refine ⟨hl, hn, h.asc, h.lt, fun i => ?_⟩
  by_cases hi : i < plan.length
  · have := h.few i hi
    have e : (brM plan i).length = if i = 0 then 0 else (plan.getD (i - 1) []).length := by
      unfold brM
      split <;> rfl
    rw [← e]
    exact this
  · rw [List.getD_eq_getElem?_getD, List.getElem?_eq_none (by omega)]
    exact Nat.zero_le _
/-! what is below -/
theorem below_ints {k : Nat} : ∀ (ns : List Int), belowAll k (ns.map D.int) = true
  | [] => rfl
  | n :: ns => below_ints ns
theorem set_last {A : Sto} {c d : Cl} : (A ++ [c]).set A.length d = A ++ [d] := by
  rw [List.set_append_right _ _ (Nat.le_refl _), Nat.sub_self]
  rfl
theorem Dk.len {S : Sto} {N : Int} {T : Sto} (h : Dk S N T) : S.length = 2 + T.length := by
  obtain ⟨cs, n, rfl, _⟩ := h
  rw [List.length_append]
  rfl
theorem Dk.snoc {S : Sto} {N : Int} {T : Sto} (h : Dk S N T) (c : Cl) : Dk (S ++ [c]) N (T ++ [c]) := by
  obtain ⟨cs, n, rfl, h⟩ := h
  exact ⟨cs, n, by rw [List.append_assoc], h⟩
theorem Dk.take2 {S : Sto} {N : Int} {T : Sto} (h : Dk S N T) : Dk (S.take 2) N [] ∧ S.drop 2 = T ∧ (S.take 2).all (Cl.below 2) = true ∧ (S.take 2).length = 2 := by
  obtain ⟨cs, n, rfl, h⟩ := h
  refine ⟨⟨cs, n, rfl, h⟩, rfl, ?_, rfl⟩
  show (belowAll 2 (cs.map D.int) && ((true && (true && true)) && true)) = true
  rw [below_ints]
  rfl
end Pu
namespace Pu
open PySem L2 Rb
def tupLe (k : Nat) : D → Bool
  | .tup xs => Nat.ble xs.length k
  | _ => true
def smallD (k : Nat) : D → Bool
  | .tup vs => vs.all (tupLe k)
  | _ => true
theorem tupLe_tup {k : Nat} {xs : List D} (h : xs.length ≤ k) : tupLe k (.tup xs) = true := Nat.ble_eq_true_of_le h
/-- an item of a plan -/
structure Ri (d : D) : Prop where
  av : Av 3 1000 d
  le : tupLe 60 d = true
structure Ok2 (d : D) : Prop where
  av : Av 5 40000 d
  sm : smallD 60 d = true
theorem Ri.tup {ds : List D} (h : Avs 2 20 ds) (hl : ds.length ≤ 40) : Ri (.tup ds) := ⟨Av.tup h (by omega), tupLe_tup (by omega)⟩
theorem Ri.lst {ds : List D} (h : Avs 2 20 ds) (hl : ds.length ≤ 40) : Ri (.lst true ds) := ⟨Av.lst h (by omega), rfl⟩
theorem Ok2.tup {ds : List D} (h : ∀ d ∈ ds, Ri d) (hl : ds.length ≤ 30) : Ok2 (.tup ds) := ⟨(Av.tup (k := 3) (n := 1000) (m := 40000) (fun d hd => (h d hd).av) (by omega)).mono (by decide) (by decide), List.all_eq_true.mpr fun d hd => (h d hd).le⟩
theorem Ok2.lst {ds : List D} (h : ∀ d ∈ ds, Ri d) (hl : ds.length ≤ 30) : Ok2 (.lst true ds) := ⟨(Av.lst (k := 3) (n := 1000) (m := 40000) (fun d hd => (h d hd).av) (by omega)).mono (by decide) (by decide), rfl⟩
end Pu
namespace Pu
open PySem L2 Rb
def tkD (ticks : List Int) : D := .tup (ticks.map D.int)
end Pu
namespace Pu
open PySem L2 Rb
theorem nI_mem {r : List Nat} {p : Nat} : (p : Int) ∈ nI r ↔ p ∈ r := by
  unfold nI
  constructor
  · intro h
    obtain ⟨q, hq, e⟩ := List.mem_map.mp h
    have : q = p := by omega
    exact this ▸ hq
  · intro h
    exact List.mem_map.mpr ⟨p, h, rfl⟩
end Pu
namespace Pu
open PySem L2 Rb
theorem cut_to {xs : List D} {m : Nat} : cutD xs none (some (m : Int)) = xs.take m := by
  unfold cutD
  have h1 : HT.sIx xs.length 0 none = 0 := HT.sIx_none ..
  have h2 : HT.sIx xs.length xs.length (some (m : Int)) = min m xs.length := HT.sIx_nat ..
  rw [h1, h2, List.drop_zero, Nat.sub_zero]
  by_cases h : m ≤ xs.length
  · rw [Nat.min_eq_left h]
  · rw [Nat.min_eq_right (by omega), List.take_length, List.take_of_length_le (by omega)]
def countsM (bs : List Int) : List Int := (List.range bs.length).map fun k => (bs.take (k + 1)).sum
end Pu
namespace Pu
open PySem L2 Rb
/-! ## parts of a road -/
theorem getD_take {α : Type} {l : List α} {i k : Nat} {d : α} (h : i < k) : (l.take k).getD i d = l.getD i d := by
  rw [List.getD_eq_getElem?_getD, List.getD_eq_getElem?_getD, List.getElem?_take_of_lt h]
theorem PlanOk.take {bs : List Int} {n k : Nat} {plan : List (List Nat)} (ok : PlanOk bs n plan) (hk : k ≤ bs.length) : PlanOk (bs.take k) n (plan.take k) := by
  refine ⟨by rw [List.length_take, List.length_take, ok.len], fun b h => ok.nn b (List.mem_of_mem_take h), fun r h => ok.asc r (List.mem_of_mem_take h), fun r h => ok.lt r (List.mem_of_mem_take h), fun i => ?_⟩
  by_cases h : i < k
  · rw [getD_take h, getD_take h]
    have := ok.few i
    by_cases z : i = 0
    · rw [if_pos z] at this ⊢
      exact this
    · rw [if_neg z] at this ⊢
      rw [getD_take (by omega)]
      exact this
  · have : (plan.take k).getD i [] = [] := by
      rw [List.getD_eq_getElem?_getD, List.getElem?_eq_none (by rw [List.length_take]; omega)]
      rfl
    rw [this]
    exact Nat.zero_le _
/-! ## no tick is below 0: the bicycles that stand there come first -/
end Pu
namespace Pu
open PySem L2 Rb
/-! ## all ticks moved by one growing map: shifts and multiples -/
structure Grow (f : Int → Int) : Prop where
  lt : ∀ a b, a < b → f a < f b
  nn : ∀ t, 0 ≤ t → 0 ≤ f t
section
variable {f : Int → Int} (G : Grow f)
include G
theorem Grow.le {a b : Int} (h : a ≤ b) : f a ≤ f b := by
  rcases Int.lt_or_eq_of_le h with h | h
  · exact Int.le_of_lt (G.lt a b h)
  · rw [h]; exact Int.le_refl _
end
end Pu
namespace Pu
open PySem L2 Rb
/-! ## one road behind the other -/
theorem getD_right {α : Type} {l m : List α} {i : Nat} {d : α} : (l ++ m).getD (l.length + i) d = m.getD i d := by
  rw [List.getD_eq_getElem?_getD, List.getD_eq_getElem?_getD, List.getElem?_append_right (by omega), Nat.add_sub_cancel_left]
section
variable {wk rd : Int} {bs bs2 starts : List Int} {plan plan2 : List (List Nat)}
theorem PlanOk.join {n : Nat} (ok : PlanOk bs n plan) (ok2 : PlanOk bs2 n plan2) : PlanOk (bs ++ bs2) n (plan ++ plan2) := by
  have hl := ok.len
  refine ⟨by rw [List.length_append, List.length_append, ok.len, ok2.len], fun b h => ?_, fun r h => ?_, fun r h => ?_, fun i => ?_⟩
  · rcases List.mem_append.mp h with h | h
    · exact ok.nn b h
    · exact ok2.nn b h
  · rcases List.mem_append.mp h with h | h
    · exact ok.asc r h
    · exact ok2.asc r h
  · rcases List.mem_append.mp h with h | h
    · exact ok.lt r h
    · exact ok2.lt r h
  · by_cases h : i < bs.length
    · rw [getD_app (by omega), getD_app h]
      have := ok.few i
      by_cases z : i = 0
      · rw [if_pos z] at this ⊢
        exact this
      · rw [if_neg z] at this ⊢
        rw [getD_app (by omega)]
        exact this
    · obtain ⟨j, rfl⟩ : ∃ j, i = bs.length + j := ⟨i - bs.length, by omega⟩
      have e : (plan ++ plan2).getD (bs.length + j) [] = plan2.getD j [] := by rw [← hl]; exact getD_right
      rw [e, getD_right]
      have := ok2.few j
      by_cases z : j = 0
      · rw [if_pos z] at this
        omega
      · rw [if_neg z] at this
        rw [if_neg (by omega)]
        have e2 : bs.length + j - 1 = plan.length + (j - 1) := by omega
        rw [e2, getD_right]
        exact this
end
end Pu
namespace Pu
open PySem L2 Rb
structure RoadOk (wk rd : Int) (bs : List Int) : Prop where
  rd1 : 1 ≤ rd
  lt : rd < wk
  w2 : wk ≤ 1000
  l1 : 1 ≤ bs.length
  l2 : bs.length ≤ 12
  hb : ∀ b ∈ bs, 0 ≤ b ∧ b ≤ 12
end Pu
namespace Pu
open PySem L2 Rb
theorem RoadOk.take {wk rd : Int} {bs : List Int} (h : RoadOk wk rd bs) {k : Nat} (h1 : 1 ≤ k) : RoadOk wk rd (bs.take k) :=
  ⟨h.rd1, h.lt, h.w2, by rw [List.length_take]; have := h.l1; omega, by rw [List.length_take]; have := h.l2; omega, fun b hb => h.hb b (List.mem_of_mem_take hb)⟩
end Pu
namespace Pu
open PySem L2 Rb
/-- the end of a def that has its own cells behind the deck -/
theorem ret2 {S S' T : Sto} {N : Int} {d : D} {Q : QD} (hS : S.length = 2) (dk : Dk S' N T) (hb : ∃ d', frz S' 2 d = some d' ∧ ∀ S2, Dk S2 N [] → S2.length = 2 → Q d' S2) :
    ((S'.take S.length).length = S.length ∧ (S'.take S.length).all (Cl.below S.length) = true) ∧ onSome (frz S' S.length d) fun d' => Q d' (S'.take S.length) := by
  rw [hS]
  obtain ⟨d1, d2, d3, d4⟩ := dk.take2
  obtain ⟨d', e, q⟩ := hb
  exact ⟨⟨d4, d3⟩, onS e (q _ d1 d4)⟩
theorem frz_below {S : Sto} {n : Nat} {d : D} (hc : ∀ k, d ≠ .cell k) (h : below n d = true) : frz S n d = some d := by
  cases d with
  | cell k => exact absurd rfl (hc k)
  | _ => simp only [frz, h, if_true]
theorem below_roadV {k : Nat} {wk rd : Int} {bs : List Int} : below k (roadV wk rd bs) = true := by
  show (true && (true && (belowAll k (bs.map D.int) && true))) = true
  rw [below_ints]
  rfl
/-- a call that sees the deck only -/
theorem Dk.bel {S T : Sto} {N : Int} (h : Dk S N T) : (S.take 2).all (Cl.below 2) = true := h.take2.2.2.1
theorem Dk.app {S T : Sto} {N : Int} (h : Dk S N []) : Dk (S ++ T) N T := by
  obtain ⟨cs, n, rfl, h⟩ := h
  exact ⟨cs, n, by rw [List.append_nil], h⟩
theorem Dk.l2 {S T S1 : Sto} {N : Int} (h : Dk S N T) (l : S1.length = 2) : S1.length = (S.take 2).length := l.trans h.take2.2.2.2.symm
theorem Dk.back {S T S1 : Sto} {N M : Int} (h : Dk S N T) (d : Dk S1 M []) : Dk (S1 ++ S.drop 2) M T := by
  rw [h.take2.2.1]
  exact d.app
end Pu
namespace Pu
open PySem L2 Rb
/-! ## texts of small signs -/
def Fine (x : Str) : Prop := ∀ c ∈ x.cps.toList, c < 1114112
theorem app_cps (a b : Str) : (a ++ b).cps.toList = a.cps.toList ++ b.cps.toList := by
  show (a.cps ++ b.cps).toList = _
  exact Array.toList_append
theorem Fine.app {a b : Str} (ha : Fine a) (hb : Fine b) : Fine (a ++ b) := fun c hc => by
  rw [app_cps] at hc
  rcases List.mem_append.mp hc with h | h
  · exact ha c h
  · exact hb c h
theorem fine_of {x : Str} (h : x.cps.toList.all (fun c => decide (c < 1114112)) = true) : Fine x := fun c hc => of_decide_eq_true (List.all_eq_true.mp h c hc)
theorem fine_join {sep : Str} (hs : Fine sep) : ∀ {ts : List Str}, (∀ t ∈ ts, Fine t) → Fine (Str.join sep ts)
  | [], _ => fine_of rfl
  | [x], h => h x List.mem_cons_self
  | x :: y :: r, h => by
    show Fine (x ++ sep ++ Str.join sep (y :: r))
    exact ((h x List.mem_cons_self).app hs).app (fine_join hs fun t ht => h t (List.mem_cons_of_mem _ ht))
theorem fine_from : ∀ (ts : List Str) (k : Nat) (acc : Str), Fine acc → (∀ t ∈ ts, Fine t) → Fine (textFrom k acc ts)
  | [], _, acc, ha, _ => ha
  | t :: ts, k, acc, ha, h => by
    show Fine (textFrom (k + 1) (acc ++ (if k > 0 then ", " else "" : String) ++ t) ts)
    refine fine_from ts (k + 1) _ ((ha.app ?_).app (h t List.mem_cons_self)) fun x hx => h x (List.mem_cons_of_mem _ hx)
    split
    · exact fine_of (by decide)
    · exact fine_of (by decide)
theorem fine_int (i : Int) : Fine (PyData.int i).shown := fun c hc => by
  by_cases h : c < 1114112
  · exact h
  · exact absurd hc (PyProof.Rows.shown_int_free' ⟨by omega, by omega⟩ i)
theorem fine_list {ts : List Str} (h : ∀ t ∈ ts, Fine t) : Fine (listText ts) := (fine_from ts 0 _ (fine_of (by decide)) h).app (fine_of (by decide))
theorem fine_tuple {ts : List Str} (h : ∀ t ∈ ts, Fine t) : Fine (tupleText ts) := by
  unfold tupleText
  refine ((fine_of (by decide)).app (fine_join (fine_of (by decide)) h)).app ?_
  split
  · exact fine_of (by decide)
  · exact fine_of (by decide)
/-! ## repr and == of values without dicts -/
structure RepP (k n : Nat) (p : PyData) : Prop where
  nice : Rb.Nice k n p
  nod : p.hasDict = false
  lay : PyData.canLay0 p = true
  fine : Fine p.shown
structure Rep (k n : Nat) (d : D) : Prop where
  py : ∃ p, toPy d = some p ∧ RepP k n p
theorem RepP.mono {k n k' n' : Nat} {p : PyData} (h : RepP k n p) (h1 : k ≤ k') (h2 : n ≤ n') : RepP k' n' p := ⟨h.nice.mono h1 h2, h.nod, h.lay, h.fine⟩
theorem Rep.mono {k n k' n' : Nat} {d : D} (h : Rep k n d) (h1 : k ≤ k') (h2 : n ≤ n') : Rep k' n' d := by
  obtain ⟨p, e, hp⟩ := h.py
  exact ⟨p, e, hp.mono h1 h2⟩
theorem Rep.int {i : Int} (h1 : -1000000000000 ≤ i) (h2 : i ≤ 1000000000000) : Rep 0 0 (.int i) := ⟨_, rfl, Rb.Nice.int (Nat.lt_of_lt_of_le (show i.natAbs < 10000000000000 by omega) (by decide)), rfl, rfl, fine_int i⟩
theorem Rep.non : Rep 0 0 .non := ⟨_, rfl, Rb.Nice.none, rfl, rfl, fine_of (by decide)⟩
theorem Rep.bl {b : Bool} : Rep 0 0 (.bl b) := ⟨_, rfl, Rb.Nice.bool, rfl, rfl, by cases b <;> exact fine_of (by decide)⟩
theorem Rep.str {x : Str} {n : Nat} (h : x.cps.size ≤ n) (hx : ∀ c ∈ x.cps.toList, c < 16 ^ 8) (ho : PyData.canLay0 (.str x) = true) (hf : Fine (PyData.str x).shown) : Rep 0 n (.str x) := ⟨_, rfl, Rb.Nice.str h hx, rfl, ho, hf⟩
theorem reps_py {k n : Nat} : ∀ {ds : List D}, (∀ d ∈ ds, Rep k n d) → ∃ ps, toPyAll ds = some ps ∧ ps.length = ds.length ∧ (∀ p ∈ ps, Rb.Nice k n p) ∧ PyData.hasDictAll ps = false ∧ PyData.canLayAll0 ps = true ∧ ∀ t ∈ PyData.shownAll ps, Fine t
  | [], _ => ⟨[], rfl, rfl, (fun _ z => nomatch z), rfl, rfl, fun _ z => nomatch z⟩
  | d :: ds, h => by
    obtain ⟨p, e, hn, hd, hc, hf⟩ := (h d List.mem_cons_self).py
    obtain ⟨ps, e2, hl, hn2, hd2, hc2, hf2⟩ := reps_py (ds := ds) fun x hx => h x (List.mem_cons_of_mem _ hx)
    refine ⟨p :: ps, ?_, congrArg Nat.succ hl, fun q hq => ?_, ?_, ?_, fun t ht => ?_⟩
    · show (toPy d).bind _ = _
      rw [e, e2]
      rfl
    · rcases List.mem_cons.mp hq with rfl | hq
      · exact hn
      · exact hn2 q hq
    · simp only [PyData.hasDictAll, hd, hd2, Bool.or_self]
    · simp only [PyData.canLayAll0, hc, hc2, Bool.and_self]
    · rcases List.mem_cons.mp (show t ∈ p.shown :: PyData.shownAll ps from ht) with rfl | ht
      · exact hf
      · exact hf2 t ht
theorem Rep.tup {k n m : Nat} {ds : List D} (h : ∀ d ∈ ds, Rep k n d) (hm : ds.length * (n + 1) ≤ m) : Rep (k + 1) m (.tup ds) := by
  obtain ⟨ps, e, hl, hn, hd, hc, hf⟩ := reps_py h
  refine ⟨.tuple ps, ?_, Rb.Nice.tup hn (by rw [hl]; exact hm), ?_, ?_, ?_⟩
  · show (toPyAll ds).map PyData.tuple = _
    rw [e]
    rfl
  · simp only [PyData.hasDict, hd]
  · simp only [PyData.canLay0, hc]
  · simp only [PyData.shown]
    exact fine_tuple hf
theorem Rep.lst {k n m : Nat} {b : Bool} {ds : List D} (h : ∀ d ∈ ds, Rep k n d) (hm : ds.length * (n + 1) ≤ m) : Rep (k + 1) m (.lst b ds) := by
  obtain ⟨ps, e, hl, hn, hd, hc, hf⟩ := reps_py h
  refine ⟨.list ps, ?_, Rb.Nice.lst hn (by rw [hl]; exact hm), ?_, ?_, ?_⟩
  · show (toPyAll ds).map PyData.list = _
    rw [e]
    rfl
  · simp only [PyData.hasDict, hd]
  · simp only [PyData.canLay0, hc]
  · simp only [PyData.shown]
    exact fine_list hf
theorem Rep.ints {ns : List Int} {m : Nat} (h : ∀ i ∈ ns, -1000000000000 ≤ i ∧ i ≤ 1000000000000) (hm : ns.length ≤ m) : Rep 1 m (.tup (ns.map D.int)) :=
  Rep.tup (k := 0) (n := 0) (fun d hd => by
    obtain ⟨i, hi, rfl⟩ := List.mem_map.mp hd
    exact Rep.int (h i hi).1 (h i hi).2) (by rw [List.length_map]; omega)
theorem Rep.road {wk rd : Int} {bs : List Int} (R : RoadOk wk rd bs) : Rep 2 39 (roadV wk rd bs) := by
  have h1 := R.rd1
  have h2 := R.lt
  have h3 := R.w2
  refine Rep.tup (k := 1) (n := 12) (fun d hd => ?_) (Nat.le_of_ble_eq_true rfl)
  simp only [List.mem_cons, List.not_mem_nil, or_false] at hd
  rcases hd with rfl | rfl | rfl
  · exact (Rep.int (by omega) (by omega)).mono (by decide) (by decide)
  · exact (Rep.int (by omega) (by omega)).mono (by decide) (by decide)
  · exact Rep.ints (fun i hi => by have := R.hb i hi; omega) R.l2
theorem Rep.starts {starts : List Int} (n2 : starts.length ≤ 10) (hb : Bnd 1000000 starts) : Rep 1 10 (tkD starts) := Rep.ints (fun i hi => by have := hb i hi; omega) n2
theorem Rep.two {a b : D} {k n m : Nat} {f : Bool} (ha : Rep k n a) (hb : Rep k n b) (hm : 2 * (n + 1) ≤ m) : Rep (k + 1) m (.lst f [a, b]) :=
  Rep.lst (fun d hd => by
    simp only [List.mem_cons, List.not_mem_nil, or_false] at hd
    rcases hd with rfl | rfl
    · exact ha
    · exact hb) hm
def shw (d : D) : Str := match toPy d with
  | some p => p.shown
  | none => ""
theorem eqB_ok {neg : Bool} {x y : D} {S : Sto} {Q : QD} {p q : PyData} (h1 : pyC S x = some p) (h2 : pyC S y = some q) (s1 : SeqAt.shaped p = true) (s2 : SeqAt.shaped q = true) (r : Q (.bl (nb neg (PyData.eqv p q))) S) : iEqB neg x y S Q := by
  refine iEqB_of ?_
  unfold gEqB
  split
  · cases h1
    cases h2
    rename_i i j
    have e : PyData.eqv (.int i) (.int j) = decide (i = j) := by simp only [PyData.eqv]; by_cases h : i = j <;> simp [h]
    rw [e] at r
    exact r
  · cases h1
    cases h2
    rename_i i j
    have e : PyData.eqv (.str i) (.str j) = decide (i = j) := by simp only [PyData.eqv]; by_cases h : i = j <;> simp [h]
    rw [e] at r
    exact r
  · exact onS h1 (onS h2 ⟨⟨s1, s2⟩, r⟩)
theorem pyC_of {S : Sto} {d : D} {p : PyData} (h : toPy d = some p) : pyC S d = some p := by
  cases d with
  | cell n => cases h
  | _ => exact h
/-- what == can be asked of -/
structure Shp (k : Nat) (d : D) : Prop where
  py : ∃ p, toPy d = some p ∧ PyData.canLay0 p = true ∧ p.depth ≤ k
theorem Shp.mono {k k' : Nat} {d : D} (h : Shp k d) (h1 : k ≤ k') : Shp k' d := by
  obtain ⟨p, e, h2, h3⟩ := h.py
  exact ⟨p, e, h2, Nat.le_trans h3 h1⟩
theorem Shp.str {x : Str} (h : Fine x) : Shp 0 (.str x) := by
  refine ⟨_, rfl, ?_, Nat.le_refl _⟩
  show PyData.strOk x = true
  unfold PyData.strOk
  rw [← Array.all_toList, List.all_eq_true]
  intro c hc
  exact decide_eq_true (h c hc)
theorem shps_py {k : Nat} : ∀ {ds : List D}, (∀ d ∈ ds, Shp k d) → ∃ ps, toPyAll ds = some ps ∧ PyData.canLayAll0 ps = true ∧ PyData.depthAll ps ≤ k
  | [], _ => ⟨[], rfl, rfl, Nat.zero_le _⟩
  | d :: ds, h => by
    obtain ⟨p, e, hc, hd⟩ := (h d List.mem_cons_self).py
    obtain ⟨ps, e2, hc2, hd2⟩ := shps_py (ds := ds) fun x hx => h x (List.mem_cons_of_mem _ hx)
    refine ⟨p :: ps, ?_, ?_, ?_⟩
    · show (toPy d).bind _ = _
      rw [e, e2]
      rfl
    · simp only [PyData.canLayAll0, hc, hc2, Bool.and_self]
    · simp only [PyData.depthAll]
      exact Nat.max_le.mpr ⟨hd, hd2⟩
theorem Shp.lst {k : Nat} {b : Bool} {ds : List D} (h : ∀ d ∈ ds, Shp k d) : Shp (k + 1) (.lst b ds) := by
  obtain ⟨ps, e, hc, hd⟩ := shps_py h
  refine ⟨.list ps, ?_, ?_, ?_⟩
  · show (toPyAll ds).map PyData.list = _
    rw [e]
    rfl
  · simp only [PyData.canLay0, hc]
  · simp only [PyData.depth]
    omega
theorem Shp.tup {k : Nat} {ds : List D} (h : ∀ d ∈ ds, Shp k d) : Shp (k + 1) (.tup ds) := by
  obtain ⟨ps, e, hc, hd⟩ := shps_py h
  refine ⟨.tuple ps, ?_, ?_, ?_⟩
  · show (toPyAll ds).map PyData.tuple = _
    rw [e]
    rfl
  · simp only [PyData.canLay0, hc]
  · simp only [PyData.depth]
    omega
theorem Shp.int {i : Int} : Shp 0 (.int i) := ⟨_, rfl, rfl, Nat.le_refl _⟩
theorem Shp.sh {k : Nat} {d : D} (h : Shp k d) (hk : k ≤ 64) : ∃ p, toPy d = some p ∧ SeqAt.shaped p = true ∧ PyData.canLay0 p = true := by
  obtain ⟨p, e, hc, hd⟩ := h.py
  refine ⟨p, e, ?_, hc⟩
  unfold SeqAt.shaped
  rw [hc, decide_eq_true (Nat.le_trans hd hk)]
  rfl
/-- the same value twice -/
theorem eq_same {neg : Bool} {d d' : D} {S : Sto} {Q : QD} {k : Nat} (h : Shp k d) (e : toPy d = toPy d') (q : Q (.bl (nb neg true)) S) (hk : k ≤ 64 := by decide) : iEqB neg d d' S Q := by
  obtain ⟨p, e1, hs, hc⟩ := h.sh hk
  refine eqB_ok (pyC_of e1) (pyC_of (e ▸ e1)) hs hs ?_
  rw [SeqAt.eqv_refl _ hc]
  exact q
end Pu
namespace Pu
open PySem L2 Rb
/-! ## values that repr shows -/
structure Vv (d : D) (p : PyData) : Prop where
  py : toPy d = some p
  nice : Rb.Nice 3 8 p
  kn : p.hasDict = false ∨ known d = true
  fine : Fine p.shown
theorem Vv.isS {d : D} {p : PyData} (h : Vv d p) : (toPy d).isSome = true := by rw [h.py]; rfl
theorem Vv.rep {d : D} {p : PyData} {S : Sto} {Q : QD} (h : Vv d p) (q : Q (.str p.shown) S) : iRepr [d] S Q := by
  refine iRepr_of (onS h.py ⟨⟨h.nice.mono (by decide) (by decide), h.kn⟩, q⟩)
theorem Vv.size {d : D} {p : PyData} (h : Vv d p) : p.shown.cps.size ≤ 3000 := by
  have e := PyData.shown_le_bulk 100 (by decide) p h.nice.lv
  have := h.nice.blk
  have : p.shown.length = p.shown.cps.size := rfl
  omega
theorem Vv.two {d : D} {p : PyData} {S : Sto} {Q : QD} {f : Bool} {w : Str} (h : Vv d p) (hw : w.cps.size ≤ 3000) (hf : Fine w) (q : Q (.str (PyData.list [.str w, .str p.shown]).shown) S) : iRepr [.lst f [.str w, .str p.shown]] S Q := by
  refine iRepr_of ?_
  unfold gRepr
  dsimp only
  refine onS (show toPy (.lst f [.str w, .str p.shown]) = some (PyData.list [.str w, .str p.shown]) from rfl) ⟨⟨?_, .inl rfl⟩, q⟩
  refine (Rb.Nice.lst (k := 0) (n := 3000) (m := 6002) (fun x hx => ?_) (by show 2 * 3001 ≤ 6002; decide)).mono (by decide) (by decide)
  simp only [List.mem_cons, List.not_mem_nil, or_false] at hx
  rcases hx with rfl | rfl
  · exact Rb.Nice.str hw fun c hc => Nat.lt_trans (hf c hc) (by decide)
  · exact Rb.Nice.str h.size fun c hc => Nat.lt_trans (h.fine c hc) (by decide)
theorem Vv.int {i : Int} (h : i.natAbs < 10 ^ 99) : Vv (.int i) (.int i) := ⟨rfl, (Rb.Nice.int h).mono (by decide) (by decide), .inl rfl, fine_int i⟩
/-! ## a promise -/
theorem isX_of {tab : List (Str × Str × Bool)} {i : Nat} {x y : Str} {fs : List (Str × D)} {b : Bool} {ρ : Rho} {S : Sto} {Q : QD} {E : ED} (h : getV ρ i = some (.exc x fs)) (e : lookX tab x y = some b) (q : Q (.bl b) S) : dIsX tab i y ρ S Q E := by
  unfold dIsX
  rw [h]
  exact onS e q
theorem isXT_of {tab : List (Str × Str × Bool)} {i : Nat} {x : Str} {ys : List Str} {fs : List (Str × D)} {b : Bool} {ρ : Rho} {S : Sto} {Q : QD} {E : ED} (h : getV ρ i = some (.exc x fs)) (e : anyX tab x ys = some b) (q : Q (.bl b) S) : dIsXT tab i ys ρ S Q E := by
  unfold dIsXT
  rw [h]
  exact onS e q
theorem xf_of {xs : List Str} {i : Nat} {f x : Str} {fs : List (Str × D)} {v : D} {ρ : Rho} {S : Sto} {Q : QD} {E : ED} (h : getV ρ i = some (.exc x fs)) (hx : xs.contains x = true) (e : lookF f fs = some v) (q : Q v S) : dXf xs i f ρ S Q E := by
  unfold dXf
  rw [h]
  exact ⟨hx, onS e q⟩
end Pu
namespace Gm
/-! ## sums over sets of people, and the step of the rule -/
/-! ## the room of some stages -/
end Gm
namespace Pu
open PySem L2 Rb
/-! ## the latest people -/
def ordM (ticks : List Int) : List (Int × Int) := srtP (ticks.mapIdx fun p t => (-t, (p : Int)))
def grM (ticks : List Int) (c : Nat) : List Nat := (srt (((ordM ticks).take c).map (·.2))).map Int.toNat
theorem tickAt_get {ticks : List Int} {p : Nat} {t : Int} (h : ticks[p]? = some t) : tickAt ticks p = t := by
  unfold tickAt
  rw [List.getD_eq_getElem?_getD, h]
  rfl
theorem ord_len (ticks : List Int) : (ordM ticks).length = ticks.length := by
  unfold ordM
  rw [srtP_len, List.length_mapIdx]
theorem ord_mem {ticks : List Int} {z : Int × Int} : z ∈ ordM ticks ↔ ∃ p : Nat, p < ticks.length ∧ z = (-(tickAt ticks p), (p : Int)) := by
  unfold ordM
  rw [(srtP_perm _).mem_iff]
  constructor
  · intro h
    obtain ⟨p, hp, e⟩ := List.getElem_of_mem h
    rw [List.length_mapIdx] at hp
    rw [List.getElem_mapIdx] at e
    exact ⟨p, hp, by rw [tickAt_get (List.getElem?_eq_getElem hp)]; exact e.symm⟩
  · rintro ⟨p, hp, rfl⟩
    rw [tickAt_get (List.getElem?_eq_getElem hp)]
    refine List.mem_of_getElem? (i := p) ?_
    rw [List.getElem?_mapIdx, List.getElem?_eq_getElem hp]
    rfl
theorem take_snd {ticks : List Int} {c : Nat} {y : Int} (h : y ∈ ((ordM ticks).take c).map (·.2)) : ∃ p : Nat, p < ticks.length ∧ y = (p : Int) := by
  obtain ⟨z, hz, rfl⟩ := List.mem_map.mp h
  obtain ⟨p, hp, rfl⟩ := ord_mem.mp (List.mem_of_mem_take hz)
  exact ⟨p, hp, rfl⟩
theorem nI_toNat_of {l : List Int} (h : ∀ y ∈ l, ∃ p : Nat, y = (p : Int)) : nI (l.map Int.toNat) = l := by
  unfold nI
  rw [List.map_map]
  have e : ∀ y ∈ l, ((fun p : Nat => (p : Int)) ∘ Int.toNat) y = y := fun y hy => by
    obtain ⟨p, rfl⟩ := h y hy
    rfl
  rw [List.map_congr_left e, List.map_id']
theorem nI_grM {ticks : List Int} {c : Nat} : nI (grM ticks c) = srt (((ordM ticks).take c).map (·.2)) :=
  nI_toNat_of fun y hy => by
    obtain ⟨p, _, e⟩ := take_snd ((srt_perm _).mem_iff.mp hy)
    exact ⟨p, e⟩
end Pu
namespace Pu
open PySem L2 Rb
/-! ## the plan of the rule -/
def ruleRow (wk rd : Int) (ticks : List Int) (r : List Nat) : List Int := ticks.mapIdx fun p t => t + if p ∈ r then rd else wk
def rtk (wk rd : Int) (cs starts : List Int) : Nat → List Int
  | 0 => starts
  | i + 1 => ruleRow wk rd (rtk wk rd cs starts i) (grM (rtk wk rd cs starts i) (cs.getD i 0).toNat)
end Pu
namespace Pu
open PySem L2 Rb
/-! ## two cells at the end of the store -/
/-! ## the law's own way to the latest people -/
def mkp (ticks : List Int) (p : Nat) : Int × Int := (-(tickAt ticks p), (p : Int))
theorem filter_asc {lf : List Nat} {f : Nat → Bool} (h : lf.Pairwise (· < ·)) {b : Nat} {rest : List Nat} (e : lf.filter f = b :: rest) : b ∈ lf ∧ f b = true ∧ ∀ q ∈ lf, f q = true → b ≤ q := by
  have hm : b ∈ lf.filter f := by rw [e]; exact List.mem_cons_self
  obtain ⟨h1, h2⟩ := List.mem_filter.mp hm
  refine ⟨h1, h2, fun q hq hf => ?_⟩
  have hq2 : q ∈ lf.filter f := List.mem_filter.mpr ⟨hq, hf⟩
  have hp := h.filter f
  rw [e] at hp hq2
  rcases List.mem_cons.mp hq2 with rfl | hq2
  · exact Nat.le_refl _
  · exact Nat.le_of_lt ((List.pairwise_cons.mp hp).1 q hq2)
theorem next_best {ticks : List Int} {lf : List Nat} {j b : Nat} {rest : List Nat} (asc : lf.Pairwise (· < ·)) (pm : (lf.map (mkp ticks)).Perm ((ordM ticks).drop j)) (ne : lf ≠ []) (e : lf.filter (fun k => decide (tickAt ticks k = maxL (lf.map (tickAt ticks)))) = b :: rest) :
    (ordM ticks)[j]? = some (mkp ticks b) ∧ (ordM ticks).drop j = mkp ticks b :: (ordM ticks).drop (j + 1) ∧ b ∈ lf := by
  obtain ⟨h1, h2, h3⟩ := filter_asc asc e
  have h2 : tickAt ticks b = maxL (lf.map (tickAt ticks)) := of_decide_eq_true h2
  obtain ⟨m1, m2⟩ := maxL_spec (ns := lf.map (tickAt ticks)) (by simpa using ne)
  have ln := least_next (k := j) (m := mkp ticks b) (srtP_sorted _) pm (List.mem_map.mpr ⟨b, h1, rfl⟩) fun q hq => by
    obtain ⟨p, hp, rfl⟩ := List.mem_map.mp hq
    have hle := m2 (tickAt ticks p) (List.mem_map.mpr ⟨p, hp, rfl⟩)
    show -(tickAt ticks b) < -(tickAt ticks p) ∨ (-(tickAt ticks b) = -(tickAt ticks p) ∧ (b : Int) ≤ (p : Int))
    by_cases et : tickAt ticks p = tickAt ticks b
    · exact .inr ⟨by omega, by have := h3 p hp (decide_eq_true (by omega)); omega⟩
    · exact .inl (by omega)
  exact ⟨ln.1, ln.2, h1⟩
end Pu
namespace Pu
open PySem L2 Rb
/-- what the loop has chosen -/
structure Chosen (ticks : List Int) (c : Nat) (lf rs : List Nat) : Prop where
  asc : lf.Pairwise (· < ·)
  lt : ∀ p ∈ lf, p < ticks.length
  pm : (lf.map (mkp ticks)).Perm ((ordM ticks).drop rs.length)
  sel : nI rs = ((ordM ticks).take rs.length).map (·.2)
  le : rs.length ≤ c
theorem Chosen.start {ticks : List Int} {c : Nat} : Chosen ticks c (List.range ticks.length) [] where
  asc := List.pairwise_lt_range
  lt := fun p hp => List.mem_range.mp hp
  pm := by
    rw [List.length_nil, List.drop_zero]
    have e : (List.range ticks.length).map (mkp ticks) = ticks.mapIdx fun p t => (-t, (p : Int)) := by
      apply List.ext_getElem?
      intro i
      rw [List.getElem?_map, List.getElem?_mapIdx]
      by_cases hi : i < ticks.length
      · rw [List.getElem?_range hi, List.getElem?_eq_getElem hi]
        show some (-(tickAt ticks i), (i : Int)) = some (-ticks[i], (i : Int))
        rw [tickAt_get (List.getElem?_eq_getElem hi)]
      · rw [List.getElem?_eq_none (by rw [List.length_range]; omega), List.getElem?_eq_none (by omega)]
        rfl
    rw [e]
    exact (srtP_perm _).symm
  sel := rfl
  le := Nat.zero_le _
theorem Chosen.len {ticks : List Int} {c : Nat} {lf rs : List Nat} (h : Chosen ticks c lf rs) : lf.length + rs.length = ticks.length := by
  have h1 := h.pm.length_eq
  have h2 := congrArg List.length h.sel
  rw [List.length_map, List.length_drop, ord_len] at h1
  rw [nI_len, List.length_map, List.length_take, ord_len] at h2
  omega
theorem Chosen.next {ticks : List Int} {c : Nat} {lf rs : List Nat} (h : Chosen ticks c lf rs) {b j : Nat} {rest : List Nat} (hc : rs.length < c) (ne : lf ≠ []) (e : lf.filter (fun k => decide (tickAt ticks k = maxL (lf.map (tickAt ticks)))) = b :: rest) (hj : lf[j]? = some b) : Chosen ticks c (lf.eraseIdx j) (rs ++ [b]) := by
  obtain ⟨o1, o2, o3⟩ := next_best h.asc h.pm ne e
  have el : (rs ++ [b]).length = rs.length + 1 := by rw [List.length_append]; rfl
  refine ⟨h.asc.sublist (List.eraseIdx_sublist ..), fun p hp => h.lt p (List.mem_of_mem_eraseIdx hp), ?_, ?_, by omega⟩
  · rw [el]
    have hp := h.pm
    rw [o2] at hp
    have e1 : (lf.map (mkp ticks)).eraseIdx j = (lf.eraseIdx j).map (mkp ticks) := by
      clear hp o1 o2 o3 e ne el
      clear h
      induction lf generalizing j with
      | nil => simp
      | cons x l ih =>
        cases j with
        | zero => rfl
        | succ j => exact congrArg _ (ih hj)
    rw [← e1]
    exact erase_next (by rw [List.getElem?_map, hj]; rfl) hp
  · rw [el, List.take_add_one, o1, List.map_append, ← h.sel]
    unfold nI
    rw [List.map_append]
    rfl
theorem Chosen.done {ticks : List Int} {c : Nat} {lf rs : List Nat} (h : Chosen ticks c lf rs) (hd : lf = [] ∨ c ≤ rs.length) : nI rs = ((ordM ticks).take c).map (·.2) := by
  have hl := h.len
  have hle := h.le
  rw [h.sel]
  rcases hd with rfl | hd
  · have : rs.length = ticks.length := by simpa using hl
    rw [List.take_of_length_le (by rw [ord_len]; omega), List.take_of_length_le (by rw [ord_len]; omega)]
  · rw [show rs.length = c by omega]
theorem Chosen.sorted {ticks : List Int} {c : Nat} {lf rs : List Nat} (h : Chosen ticks c lf rs) (hd : lf = [] ∨ c ≤ rs.length) : srt (nI rs) = nI (grM ticks c) := by rw [h.done hd, nI_grM]
theorem Chosen.mem {ticks : List Int} {c : Nat} {lf rs : List Nat} (h : Chosen ticks c lf rs) (hd : lf = [] ∨ c ≤ rs.length) {p : Nat} : p ∈ rs ↔ p ∈ grM ticks c := by
  rw [← nI_mem, ← nI_mem (r := grM ticks c), ← h.sorted hd, (srt_perm _).mem_iff]
end Pu
namespace Pu
open PySem L2 Rb Gm
/-! ## people exclude an end: no plan keeps it -/
/-! ## the least finish -/
def lfin (wk rd : Int) (bs starts : List Int) : Int := maxL (rtk wk rd (countsM bs) starts bs.length)
end Pu
namespace Pu
open PySem L2 Rb Gm
theorem PlanOk.set {bs : List Int} {n : Nat} {plan : List (List Nat)} {sp : Nat} {r r' : List Nat} (ok : PlanOk bs n plan) (hr : plan[sp]? = some r) (h1 : r'.Pairwise (· < ·)) (h2 : ∀ p ∈ r', p < n) (h3 : r'.length = r.length) : PlanOk bs n (plan.set sp r') := by
  have el : ∀ i, ((plan.set sp r').getD i []).length = (plan.getD i []).length := fun i => by
    rw [List.getD_eq_getElem?_getD, List.getD_eq_getElem?_getD, List.getElem?_set]
    split
    · rename_i e
      subst e
      rw [hr, if_pos (List.getElem?_eq_some_iff.mp hr).1]
      exact h3
    · rfl
  refine ⟨by rw [List.length_set]; exact ok.len, ok.nn, fun x hx => ?_, fun x hx => ?_, fun i => ?_⟩
  · rcases List.mem_or_eq_of_mem_set hx with h | rfl
    · exact ok.asc x h
    · exact h1
  · rcases List.mem_or_eq_of_mem_set hx with h | rfl
    · exact ok.lt x h
    · exact h2
  · rw [el, el]
    exact ok.few i
end Pu
namespace Pu
open PySem L2 Rb Gm
/-! ## the other draws: a state of cells and rests -/
def stateS (cs rs : List Int) (n : Int) : Sto := [.lst (rs.map D.int), .lst [.lst false (cs.map D.int), .int n, .cell 0]]
def Nk (S : Sto) (N : Int) (T : Sto) : Prop := ∃ cs rs n, S = stateS cs rs n ++ T ∧ 1 ≤ cs.length ∧ cs.length ≤ 64 ∧ rs.length = cs.length ∧ (∀ x ∈ cs, 0 ≤ x) ∧ (∀ x ∈ rs, 0 ≤ x) ∧ 0 ≤ n ∧ n ≤ N
theorem Nk.le {S : Sto} {N M : Int} {T : Sto} (h : Nk S N T) (e : N ≤ M) : Nk S M T := by
  obtain ⟨cs, rs, n, h1, h2, h3, h4, h5, h6, h7, h8⟩ := h
  exact ⟨cs, rs, n, h1, h2, h3, h4, h5, h6, h7, by omega⟩
end Pu
namespace Pu
open PySem L2 Rb Gm
theorem Nk.len {S : Sto} {N : Int} {T : Sto} (h : Nk S N T) : S.length = 2 + T.length := by
  obtain ⟨cs, rs, n, rfl, _⟩ := h
  rw [List.length_append]
  rfl
theorem Nk.snoc {S : Sto} {N : Int} {T : Sto} (h : Nk S N T) (c : Cl) : Nk (S ++ [c]) N (T ++ [c]) := by
  obtain ⟨cs, rs, n, rfl, h⟩ := h
  exact ⟨cs, rs, n, by rw [List.append_assoc], h⟩
theorem Nk.take2 {S : Sto} {N : Int} {T : Sto} (h : Nk S N T) : Nk (S.take 2) N [] ∧ S.drop 2 = T ∧ (S.take 2).all (Cl.below 2) = true ∧ (S.take 2).length = 2 := by
  obtain ⟨cs, rs, n, rfl, h⟩ := h
  refine ⟨⟨cs, rs, n, rfl, h⟩, rfl, ?_, rfl⟩
  show (belowAll 2 (rs.map D.int) && ((belowAll 2 (cs.map D.int) && (true && (true && true))) && true)) = true
  rw [below_ints, below_ints]
  rfl
theorem Nk.bel {S T : Sto} {N : Int} (h : Nk S N T) : (S.take 2).all (Cl.below 2) = true := h.take2.2.2.1
theorem Nk.app {S T : Sto} {N : Int} (h : Nk S N []) : Nk (S ++ T) N T := by
  obtain ⟨cs, rs, n, rfl, h⟩ := h
  exact ⟨cs, rs, n, by rw [List.append_nil], h⟩
theorem Nk.l2 {S T S1 : Sto} {N : Int} (h : Nk S N T) (l : S1.length = 2) : S1.length = (S.take 2).length := l.trans h.take2.2.2.2.symm
theorem Nk.back {S T S1 : Sto} {N M : Int} (h : Nk S N T) (d : Nk S1 M []) : Nk (S1 ++ S.drop 2) M T := by
  rw [h.take2.2.1]
  exact d.app
end Pu
namespace Pu
open PySem L2 Rb
structure Gv (k n : Nat) (v : D) : Prop where
  py : ∃ p, toPy v = some p ∧ Rb.Nice k n p
  kn : known v = true
  bl : below 0 v = true
  nx : noX v = true
theorem Gv.isS {k n : Nat} {v : D} (h : Gv k n v) : (toPy v).isSome = true := by
  obtain ⟨p, e, _⟩ := h.py
  rw [e]
  rfl
theorem Gv.mono {k n k' n' : Nat} {v : D} (h : Gv k n v) (h1 : k ≤ k') (h2 : n ≤ n') : Gv k' n' v := by
  obtain ⟨p, e, hp⟩ := h.py
  exact ⟨⟨p, e, hp.mono h1 h2⟩, h.kn, h.bl, h.nx⟩
theorem Gv.rep {k n : Nat} {v : D} {S : Sto} {Q : QD} (h : Gv k n v) (q : Q (.str (shw v)) S) (hk : k ≤ 20 := by decide) (hn : n ≤ 100000 := by decide) : iRepr [v] S Q := by
  obtain ⟨p, e, hp⟩ := h.py
  unfold shw at q
  rw [e] at q
  exact iRepr_of (onS e ⟨⟨hp.mono hk hn, .inr h.kn⟩, q⟩)
theorem gvs_all {k n : Nat} : ∀ {xs : List D}, (∀ x ∈ xs, Gv k n x) → (∃ ps, toPyAll xs = some ps ∧ ps.length = xs.length ∧ ∀ p ∈ ps, Rb.Nice k n p) ∧ knownAll xs = true ∧ belowAll 0 xs = true ∧ noXs xs = true
  | [], _ => ⟨⟨[], rfl, rfl, fun p h => absurd h List.not_mem_nil⟩, rfl, rfl, rfl⟩
  | x :: xs, h => by
    obtain ⟨⟨ps, e, l, hp⟩, a, b, c⟩ := gvs_all (xs := xs) fun y hy => h y (List.mem_cons_of_mem _ hy)
    have hx := h x List.mem_cons_self
    obtain ⟨p, ep, np⟩ := hx.py
    refine ⟨⟨p :: ps, ?_, by rw [List.length_cons, List.length_cons, l], fun y hy => ?_⟩, ?_, ?_, ?_⟩
    · show (toPy x).bind _ = _
      rw [ep, e]
      rfl
    · rcases List.mem_cons.mp hy with rfl | hy
      · exact np
      · exact hp y hy
    · show (known x && knownAll xs) = true
      rw [hx.kn, a]
      rfl
    · show (below 0 x && belowAll 0 xs) = true
      rw [hx.bl, b]
      rfl
    · show (noX x && noXs xs) = true
      rw [hx.nx, c]
      rfl
theorem Gv.tup {k n m : Nat} {xs : List D} (h : ∀ x ∈ xs, Gv k n x) (hm : xs.length * (n + 1) ≤ m) : Gv (k + 1) m (.tup xs) := by
  obtain ⟨⟨ps, e, l, hp⟩, a, b, c⟩ := gvs_all h
  refine ⟨⟨.tuple ps, ?_, Rb.Nice.tup hp (by rw [l]; exact hm)⟩, a, b, c⟩
  show (toPyAll xs).map _ = _
  rw [e]
  rfl
theorem Gv.lst {k n m : Nat} {xs : List D} (h : ∀ x ∈ xs, Gv k n x) (hm : xs.length * (n + 1) ≤ m) : Gv (k + 1) m (.lst true xs) := by
  obtain ⟨⟨ps, e, l, hp⟩, a, b, c⟩ := gvs_all h
  refine ⟨⟨.list ps, ?_, Rb.Nice.lst hp (by rw [l]; exact hm)⟩, a, b, c⟩
  show (toPyAll xs).map _ = _
  rw [e]
  rfl
theorem Gv.int {i : Int} (h : i.natAbs < 10 ^ 99) : Gv 0 0 (.int i) := ⟨⟨_, rfl, Rb.Nice.int h⟩, rfl, rfl, rfl⟩
theorem Gv.ints {ns : List Int} (h : ∀ i ∈ ns, 0 ≤ i ∧ i ≤ 10000000) (l : ns.length ≤ 30) : Gv 1 30 (.tup (ns.map D.int)) := Gv.tup (k := 0) (n := 0) (fun x hx => by
  obtain ⟨i, hi, rfl⟩ := List.mem_map.mp hx
  exact Gv.int (Nat.lt_of_lt_of_le (show i.natAbs < 100000000 by have := h i hi; omega) (by decide))) (by rw [List.length_map]; omega)
def isSt : D → Bool
  | .tup xs => (decide (1 ≤ xs.length) && decide (xs.length ≤ 10)) && xs.all (isNum 0 1000000)
  | _ => false
end Pu
namespace Pu
open PySem L2 Rb
theorem isSt_of {ns : List Int} (a : 1 ≤ ns.length) (b : ns.length ≤ 10) (c : ∀ i ∈ ns, 0 ≤ i ∧ i ≤ 1000000) : isSt (.tup (ns.map D.int)) = true := by
  show ((decide (1 ≤ (ns.map D.int).length) && decide ((ns.map D.int).length ≤ 10)) && (ns.map D.int).all (isNum 0 1000000)) = true
  rw [List.length_map, decide_eq_true a, decide_eq_true b]
  refine List.all_eq_true.mpr fun x hx => ?_
  obtain ⟨i, hi, rfl⟩ := List.mem_map.mp hx
  show (decide (0 ≤ i) && decide (i ≤ 1000000)) = true
  rw [decide_eq_true (c i hi).1, decide_eq_true (c i hi).2]
  rfl
def ptyF (ns : List Int) : List (Str × D) := [("given", .tup (ns.map D.int)), ("ordered", .tup ((srt ns).map D.int))]
theorem ins_cell {S : Sto} {k : Nat} {x : Str} {fs : List (Str × D)} (h : S[k]? = some (.ins x fs)) : insOf S (.cell k) = some (x, fs) := by
  show insAt S[k]? = _
  rw [h]
  rfl
end Pu
namespace Pu
open PySem L2 Rb Gm
/-! ## parties, races, trips: what their defs give -/
/-- starts as a party takes them -/
structure Sts (ns : List Int) : Prop where
  n1 : 1 ≤ ns.length
  n2 : ns.length ≤ 10
  sb : ∀ s ∈ ns, 0 ≤ s ∧ s ≤ 1000000
theorem Sts.nn {ns : List Int} (h : Sts ns) : ∀ s ∈ ns, 0 ≤ s := fun s hs => (h.sb s hs).1
theorem Sts.is {ns : List Int} (h : Sts ns) : isSt (.tup (ns.map D.int)) = true := isSt_of h.n1 h.n2 h.sb
theorem Sts.py {ns : List Int} : (toPy (.tup (ns.map D.int))).isSome = true := by
  show ((toPyAll (ns.map D.int)).map PyData.tuple).isSome = true
  rw [py_ints]
  rfl
end Pu
namespace Pu
open PySem L2 Rb Gm
/-- what a trip holds -/
def verV (wk rd : Int) (bs ns : List Int) : D := .tup [roadV wk rd bs, .tup (ns.map D.int), .int (lfin wk rd bs ns)]
def trpF (done vs : List D) : List (Str × D) := [("done", .tup done), ("versions", .tup vs), ("watched", .bl false)]
def rcF (wk rd : Int) (bs : List Int) (b : D) : List (Str × D) := [("course", roadV wk rd bs), ("least", b)]
def obD : Option Int → D
  | none => .non
  | some x => .int x
section
variable {S : Sto} {k j : Nat} {Q : QD} {E : ED} {ns ms : List Int} {wk rd : Int} {bs : List Int}
theorem get_new {c : Cl} : (S ++ [c])[S.length]? = some c := by
  rw [List.getElem?_append_right (Nat.le_refl _), Nat.sub_self]
  rfl
section
variable {done : List D} {vs : List D} {v1 v2 v3 : D}
theorem tr_finish (hk : S[k]? = some (.ins "Trip" (trpF done (vs ++ [.tup [v1, v2, v3]])))) (q : Q v3 S) : F_Trip_finish [.cell k] S Q E := by
  unfold F_Trip_finish
  refine ⟨rfl, onS (ins_cell hk) ⟨rfl, onS (a := .tup (vs ++ [.tup [v1, v2, v3]])) rfl ?_⟩⟩
  show onSome (atI (vs ++ [.tup [v1, v2, v3]]) (-1)) _
  exact onS (atI_last _ _) q
end
end
end Pu
namespace Pu
open PySem L2 Rb Gm
/-! ### cells behind the deck -/
section
variable {S T : Sto} {N : Int}
theorem Dk.get (h : Dk S N T) {j : Nat} {c : Cl} (e : T[j]? = some c) : S[2 + j]? = some c := by
  obtain ⟨cs, n, rfl, _⟩ := h
  show (deckS cs n ++ T)[2 + j]? = _
  rw [List.getElem?_append_right (by show (deckS cs n).length ≤ 2 + j; exact Nat.le_add_right _ _)]
  show T[2 + j - 2]? = _
  rw [Nat.add_sub_cancel_left]
  exact e
theorem Dk.put (h : Dk S N T) {j : Nat} {c : Cl} (hj : j < T.length) : Dk (S.set (2 + j) c) N (T.set j c) := by
  obtain ⟨cs, n, rfl, h⟩ := h
  refine ⟨cs, n, ?_, h⟩
  rw [List.set_append_right _ _ (by show (deckS cs n).length ≤ 2 + j; exact Nat.le_add_right _ _)]
  show deckS cs n ++ T.set (2 + j - 2) c = _
  rw [Nat.add_sub_cancel_left]
end
end Pu
namespace Pu
open PySem L2 Rb Gm
/-- all cells stand as before, but perhaps kr; there may be more -/
structure Ev (kr : Nat) (S S' : Sto) : Prop where
  le : S.length ≤ S'.length
  at_ : ∀ i, i < S.length → i ≠ kr → S'[i]? = S[i]?
section
variable {kr k : Nat} {S S' S2 T T' : Sto} {N N' : Int} {c : Cl}
theorem Ev.refl : Ev kr S S := ⟨Nat.le_refl _, fun _ _ _ => rfl⟩
theorem Ev.trans (a : Ev kr S S') (b : Ev kr S' S2) : Ev kr S S2 := ⟨Nat.le_trans a.le b.le, fun i hi h => (b.at_ i (Nat.lt_of_lt_of_le hi a.le) h).trans (a.at_ i hi h)⟩
theorem Ev.app : Ev kr S (S ++ [c]) := ⟨by rw [List.length_append]; omega, fun i hi _ => List.getElem?_append_left hi⟩
theorem Ev.set : Ev kr S (S.set kr c) := ⟨by rw [List.length_set]; exact Nat.le_refl _, fun i _ h => List.getElem?_set_ne (Ne.symm h)⟩
theorem Ev.get (e : Ev kr S S') (h : S[k]? = some c) (n : k ≠ kr) : S'[k]? = some c := (e.at_ k (List.getElem?_eq_some_iff.mp h).1 n).trans h
theorem Dk.any (h : Dk S N T) {k : Nat} (hk : 2 ≤ k) : S[k]? = T[k - 2]? := by
  obtain ⟨cs, n, rfl, _⟩ := h
  show (deckS cs n ++ T)[k]? = _
  rw [List.getElem?_append_right (show (deckS cs n).length ≤ k from hk)]
  rfl
theorem Dk.same (h : Dk S N T) (h' : Dk S' N' T) (hk : 2 ≤ k) (e : S[k]? = some c) : S'[k]? = some c := by rw [h'.any hk, ← h.any hk, e]
end
section
variable {S : Sto} {kt kp kr : Nat} {wk rd : Int} {bs ns : List Int} {a0 a2 a8 a9 a10 a11 a12 : Option D}
/-- the three objects of a turn -/
structure Obj3 (S : Sto) (kt kp kr : Nat) (wk rd : Int) (bs ns : List Int) (b : Option Int) : Prop where
  R : RoadOk wk rd bs
  st : Sts ns
  tr : S[kt]? = some (.ins "Trip" (trpF [] [verV wk rd bs ns]))
  pt : S[kp]? = some (.ins "Party" (ptyF ns))
  rc : S[kr]? = some (.ins "Race" (rcF wk rd bs (obD b)))
  n1 : kt ≠ kr
  n2 : kp ≠ kr
theorem Obj3.fin {Q : QD} {E : ED} {b : Option Int} (o : Obj3 S kt kp kr wk rd bs ns b) (q : Q (.int (lfin wk rd bs ns)) S) : F_Trip_finish [.cell kt] S Q E := tr_finish (vs := []) (v1 := roadV wk rd bs) (v2 := .tup (ns.map D.int)) (v3 := .int (lfin wk rd bs ns)) o.tr q
end
end Pu
namespace Pu
open PySem L2 Rb Gm
/-! ## the draws of k18 to k23: cells of any sign -/
def Mk (S : Sto) (N : Int) (T : Sto) : Prop := ∃ cs rs n, S = stateS cs rs n ++ T ∧ 1 ≤ cs.length ∧ cs.length ≤ 64 ∧ rs.length = cs.length ∧ (∀ x ∈ rs, 0 ≤ x) ∧ 0 ≤ n ∧ n ≤ N
theorem Mk.le {S : Sto} {N M : Int} {T : Sto} (h : Mk S N T) (e : N ≤ M) : Mk S M T := by
  obtain ⟨cs, rs, n, h1, h2, h3, h4, h6, h7, h8⟩ := h
  exact ⟨cs, rs, n, h1, h2, h3, h4, h6, h7, by omega⟩
theorem Mk.len {S : Sto} {N : Int} {T : Sto} (h : Mk S N T) : S.length = 2 + T.length := by
  obtain ⟨cs, rs, n, rfl, _⟩ := h
  rw [List.length_append]
  rfl
theorem Mk.snoc {S : Sto} {N : Int} {T : Sto} (h : Mk S N T) (c : Cl) : Mk (S ++ [c]) N (T ++ [c]) := by
  obtain ⟨cs, rs, n, rfl, h⟩ := h
  exact ⟨cs, rs, n, by rw [List.append_assoc], h⟩
theorem Mk.take2 {S : Sto} {N : Int} {T : Sto} (h : Mk S N T) : Mk (S.take 2) N [] ∧ S.drop 2 = T ∧ (S.take 2).all (Cl.below 2) = true ∧ (S.take 2).length = 2 := by
  obtain ⟨cs, rs, n, rfl, h⟩ := h
  refine ⟨⟨cs, rs, n, rfl, h⟩, rfl, ?_, rfl⟩
  show (belowAll 2 (rs.map D.int) && ((belowAll 2 (cs.map D.int) && (true && (true && true))) && true)) = true
  rw [below_ints, below_ints]
  rfl
theorem Mk.bel {S T : Sto} {N : Int} (h : Mk S N T) : (S.take 2).all (Cl.below 2) = true := h.take2.2.2.1
theorem Mk.app {S T : Sto} {N : Int} (h : Mk S N []) : Mk (S ++ T) N T := by
  obtain ⟨cs, rs, n, rfl, h⟩ := h
  exact ⟨cs, rs, n, by rw [List.append_nil], h⟩
theorem Mk.l2 {S T S1 : Sto} {N : Int} (h : Mk S N T) (l : S1.length = 2) : S1.length = (S.take 2).length := l.trans h.take2.2.2.2.symm
theorem Mk.back {S T S1 : Sto} {N M : Int} (h : Mk S N T) (d : Mk S1 M []) : Mk (S1 ++ S.drop 2) M T := by
  rw [h.take2.2.1]
  exact d.app
end Pu
namespace Pu
open PySem L2 Rb Gm
/-! ## the laws' own finish -/
/-! ## more bicycles at a station -/
def plM (bs : List Int) (j : Nat) (m : Int) : List Int := bs.take j ++ [bs.getD j 0 + m] ++ bs.drop (j + 1)
theorem plM_len {bs : List Int} {j : Nat} {m : Int} (h : j < bs.length) : (plM bs j m).length = bs.length := by
  unfold plM
  rw [List.length_append, List.length_append, List.length_take, List.length_drop, List.length_singleton]
  omega
/-! ## the least number -/
structure FewOk (f : Nat → Int) (e : Int) (n : Nat) (d : D) : Prop where
  w : (d = .non ∧ ∀ m : Nat, m ≤ n → e < f m) ∨ ∃ m : Nat, m ≤ n ∧ d = .int (m : Int) ∧ f m ≤ e ∧ ∀ k : Nat, k < m → e < f k
theorem FewOk.rep {f : Nat → Int} {e : Int} {n : Nat} {d : D} (h : FewOk f e n d) (hn : n ≤ 100) : Rep 0 0 d := by
  rcases h.w with ⟨rfl, a⟩ | ⟨m, m1, rfl, m2, m3⟩
  · exact Rep.non
  · exact Rep.int (by omega) (by omega)
end Pu
namespace Pu
open PySem L2 Rb Gm
/-! ## trips of either kind: a model -/
structure Vn where
  wk : Int
  rd : Int
  bs : List Int
  ns : List Int
structure VnOk (v : Vn) : Prop where
  R : RoadOk v.wk v.rd v.bs
  st : Sts v.ns
def Vn.rv (v : Vn) : D := roadV v.wk v.rd v.bs
def Vn.sv (v : Vn) : D := .tup (v.ns.map D.int)
def Vn.fin (v : Vn) : Int := lfin v.wk v.rd v.bs v.ns
def Vn.d (v : Vn) : D := .tup [v.rv, v.sv, .int v.fin]
inductive TKd where
  | plain
  | prom (L : Int)
def TKd.c : TKd → Str
  | .plain => "Trip"
  | .prom _ => "PromisedTrip"
def TKd.ex : TKd → List (Str × D)
  | .plain => []
  | .prom L => [("promised", .int L)]
def tF (t : TKd) (done vs : List D) (w : Bool) : List (Str × D) := ("done", .tup done) :: ("versions", .tup vs) :: ("watched", .bl w) :: t.ex
def tripC (t : TKd) (done vs : List D) (w : Bool) : Cl := .ins t.c (tF t done vs w)
/-! ### edits of any values -/
inductive Edt where
  | come (a : D)
  | leave (a : D)
  | place (a b : D)
  | take (a b : D)
def Edt.d : Edt → D
  | .come a => .tup [.str "come", a]
  | .leave a => .tup [.str "leave", a]
  | .place a b => .tup [.str "place", a, b]
  | .take a b => .tup [.str "take", a, b]
def Edt.Py : Edt → Prop
  | .come a => (toPy a).isSome = true
  | .leave a => (toPy a).isSome = true
  | .place a b => (toPy a).isSome = true ∧ (toPy b).isSome = true
  | .take a b => (toPy a).isSome = true ∧ (toPy b).isSome = true
def numIn (lo hi : Int) : D → Option Int
  | .int i => if isNum lo hi (.int i) = true then some i else none
  | _ => none
theorem numIn_none {lo hi : Int} {d : D} (h : isNum lo hi d = false) : numIn lo hi d = none := by
  cases d with
  | int i => exact if_neg (by rw [h]; decide)
  | _ => rfl
theorem numIn_some {lo hi : Int} {d : D} (h : isNum lo hi d = true) : ∃ i, d = .int i ∧ lo ≤ i ∧ i ≤ hi ∧ numIn lo hi d = some i := by
  cases d with
  | int i =>
    have h2 : (decide (lo ≤ i) && decide (i ≤ hi)) = true := h
    rw [Bool.and_eq_true] at h2
    exact ⟨i, rfl, of_decide_eq_true h2.1, of_decide_eq_true h2.2, if_pos h⟩
  | _ => cases h
theorem numIn_int {lo hi i : Int} (h1 : lo ≤ i) (h2 : i ≤ hi) : numIn lo hi (.int i) = some i := by
  refine if_pos ?_
  show (decide (lo ≤ i) && decide (i ≤ hi)) = true
  rw [decide_eq_true h1, decide_eq_true h2]
  rfl
def Edt.app : Edt → Vn → Except Er Vn
  | .come a, v => match numIn 0 1000000 a with
    | none => .error ("BadStart", [("value", a)])
    | some s => if 10 ≤ v.ns.length then .error ("TooManyPeople", []) else .ok { v with ns := v.ns ++ [s] }
  | .leave a, v => match numIn 0 ((v.ns.length : Int) - 1) a with
    | none => .error ("NoPerson", [("value", a)])
    | some p => if v.ns.length = 1 then .error ("LastPerson", []) else .ok { v with ns := v.ns.take p.toNat ++ v.ns.drop (p.toNat + 1) }
  | .place a b, v => match numIn 0 ((v.bs.length : Int) - 1) a with
    | none => .error ("NoStation", [("value", a)])
    | some x => match numIn 1 12 b with
      | none => .error ("BadCount", [("value", b)])
      | some n => if 12 < v.bs.getD x.toNat 0 + n then .error ("TooMuch", [("total", .int (v.bs.getD x.toNat 0 + n))]) else .ok { v with bs := plM v.bs x.toNat n }
  | .take a b, v => match numIn 0 ((v.bs.length : Int) - 1) a with
    | none => .error ("NoStation", [("value", a)])
    | some x => match numIn 1 12 b with
      | none => .error ("BadCount", [("value", b)])
      | some n => if v.bs.getD x.toNat 0 < n then .error ("TooFew", [("present", .int (v.bs.getD x.toNat 0))]) else .ok { v with bs := plM v.bs x.toNat (-n) }
section
variable {S : Sto} {Q : QD} {E : ED} {v : Vn}
theorem app_come {a : D} : (Edt.come a).app v = match numIn 0 1000000 a with
    | none => .error ("BadStart", [("value", a)])
    | some s => if 10 ≤ v.ns.length then .error ("TooManyPeople", []) else .ok { v with ns := v.ns ++ [s] } := rfl
theorem app_leave {a : D} : (Edt.leave a).app v = match numIn 0 ((v.ns.length : Int) - 1) a with
    | none => .error ("NoPerson", [("value", a)])
    | some p => if v.ns.length = 1 then .error ("LastPerson", []) else .ok { v with ns := v.ns.take p.toNat ++ v.ns.drop (p.toNat + 1) } := rfl
theorem app_place {a b : D} : (Edt.place a b).app v = match numIn 0 ((v.bs.length : Int) - 1) a with
    | none => .error ("NoStation", [("value", a)])
    | some x => match numIn 1 12 b with
      | none => .error ("BadCount", [("value", b)])
      | some n => if 12 < v.bs.getD x.toNat 0 + n then .error ("TooMuch", [("total", .int (v.bs.getD x.toNat 0 + n))]) else .ok { v with bs := plM v.bs x.toNat n } := rfl
theorem app_take {a b : D} : (Edt.take a b).app v = match numIn 0 ((v.bs.length : Int) - 1) a with
    | none => .error ("NoStation", [("value", a)])
    | some x => match numIn 1 12 b with
      | none => .error ("BadCount", [("value", b)])
      | some n => if v.bs.getD x.toNat 0 < n then .error ("TooFew", [("present", .int (v.bs.getD x.toNat 0))]) else .ok { v with bs := plM v.bs x.toNat (-n) } := rfl
theorem setK_is : ∀ {ρ : Rho} {i : Nat} {d : D} {k : Rho → Prop}, setK ρ i d k = k (ρ.set i (some d))
  | [], _, _, _ => rfl
  | _ :: r, 0, d, k => rfl
  | x :: r, n + 1, d, k => setK_is (ρ := r) (i := n) (d := d) (k := fun r' => k (x :: r'))
theorem seq_asg {f : FE} {j : Nat} {R : FS} {ρ : Rho} {S : Sto} {De : DEnds} {Ed : ED} (h : f ρ S (fun d S1 => R (ρ.set j (some d)) S1 De Ed) Ed) : dSeq (dAsg f (gN j)) R ρ S De Ed := by
  show f ρ S (fun d S1 => setK ρ j d fun ρ' => R ρ' S1 De Ed) Ed
  simp only [setK_is]
  exact h
end
/-- an edit keeps what a version must be -/
theorem plM_bd {bs : List Int} {j : Nat} {m : Int} (hb : ∀ b ∈ bs, 0 ≤ b ∧ b ≤ 12) (hj : j < bs.length) (h0 : 0 ≤ bs.getD j 0 + m) (h1 : bs.getD j 0 + m ≤ 12) : ∀ b ∈ plM bs j m, 0 ≤ b ∧ b ≤ 12 := fun b h => by
  unfold plM at h
  rcases List.mem_append.mp h with h | h
  · rcases List.mem_append.mp h with h | h
    · exact hb b (List.mem_of_mem_take h)
    · rw [List.mem_singleton.mp h]
      exact ⟨h0, h1⟩
  · exact hb b (List.mem_of_mem_drop h)
theorem getD_mem' {bs : List Int} {j : Nat} (hj : j < bs.length) : bs.getD j 0 ∈ bs := by
  rw [List.getD_eq_getElem?_getD, List.getElem?_eq_getElem hj]
  exact List.getElem_mem hj
theorem app_ok {e : Edt} {v v' : Vn} (ok : VnOk v) (h : e.app v = .ok v') : VnOk v' := by
  obtain ⟨wk, rd, bs, ns⟩ := v
  obtain ⟨R, st⟩ := ok
  dsimp only at R st
  have hl := st.n2
  have hl1 := st.n1
  cases e with
  | come a =>
    cases hn : numIn 0 1000000 a with
    | none =>
      unfold Edt.app at h
      dsimp only at h
      rw [hn] at h
      cases h
    | some s =>
      unfold Edt.app at h
      dsimp only at h
      rw [hn] at h
      dsimp only at h
      split at h
      · cases h
      · rename_i c
        cases h
        refine ⟨R, ?_, ?_, fun x hx => ?_⟩
        · show 1 ≤ (ns ++ [s]).length
          rw [List.length_append]; omega
        · show (ns ++ [s]).length ≤ 10
          rw [List.length_append, List.length_singleton]; omega
        · rcases List.mem_append.mp hx with z | z
          · exact st.sb x z
          · rw [List.mem_singleton.mp z]
            have : isNum 0 1000000 a = true := by
              cases hh : isNum 0 1000000 a with
              | true => rfl
              | false => rw [numIn_none hh] at hn; cases hn
            obtain ⟨i, rfl, i0, i1, e⟩ := numIn_some this
            rw [e] at hn
            cases hn
            exact ⟨i0, i1⟩
  | leave a =>
    cases hn : numIn 0 ((ns.length : Int) - 1) a with
    | none =>
      unfold Edt.app at h
      dsimp only at h
      rw [hn] at h
      cases h
    | some s =>
      unfold Edt.app at h
      dsimp only at h
      rw [hn] at h
      dsimp only at h
      split at h
      · cases h
      · rename_i c
        cases h
        have : isNum 0 ((ns.length : Int) - 1) a = true := by
          cases hh : isNum 0 ((ns.length : Int) - 1) a with
          | true => rfl
          | false => rw [numIn_none hh] at hn; cases hn
        obtain ⟨i, rfl, i0, i1, e⟩ := numIn_some this
        rw [e] at hn
        cases hn
        refine ⟨R, ?_, ?_, fun x hx => ?_⟩
        · show 1 ≤ (ns.take s.toNat ++ ns.drop (s.toNat + 1)).length
          rw [List.length_append, List.length_take, List.length_drop]; omega
        · show (ns.take s.toNat ++ ns.drop (s.toNat + 1)).length ≤ 10
          rw [List.length_append, List.length_take, List.length_drop]; omega
        · rcases List.mem_append.mp hx with z | z
          · exact st.sb x (List.mem_of_mem_take z)
          · exact st.sb x (List.mem_of_mem_drop z)
  | place a b =>
    cases hn : numIn 0 ((bs.length : Int) - 1) a with
    | none =>
      unfold Edt.app at h
      dsimp only at h
      rw [hn] at h
      cases h
    | some x =>
      cases hn2 : numIn 1 12 b with
      | none =>
        unfold Edt.app at h
        dsimp only at h
        rw [hn] at h
        dsimp only at h
        rw [hn2] at h
        cases h
      | some n =>
        unfold Edt.app at h
        dsimp only at h
        rw [hn] at h
        dsimp only at h
        rw [hn2] at h
        dsimp only at h
        split at h
        · cases h
        · rename_i c
          cases h
          have b1 : isNum 0 ((bs.length : Int) - 1) a = true := by
            cases hh : isNum 0 ((bs.length : Int) - 1) a with
            | true => rfl
            | false => rw [numIn_none hh] at hn; cases hn
          obtain ⟨i, rfl, i0, i1, e⟩ := numIn_some b1
          rw [e] at hn
          cases hn
          have b2 : isNum 1 12 b = true := by
            cases hh : isNum 1 12 b with
            | true => rfl
            | false => rw [numIn_none hh] at hn2; cases hn2
          obtain ⟨i2, rfl, j0, j1, e2⟩ := numIn_some b2
          rw [e2] at hn2
          cases hn2
          have hx : x.toNat < bs.length := by omega
          have hb := R.hb _ (getD_mem' hx)
          exact ⟨⟨R.rd1, R.lt, R.w2, by show 1 ≤ (plM bs x.toNat n).length; rw [plM_len hx]; exact R.l1, by show (plM bs x.toNat n).length ≤ 12; rw [plM_len hx]; exact R.l2, plM_bd R.hb hx (by omega) (by omega)⟩, st⟩
  | take a b =>
    cases hn : numIn 0 ((bs.length : Int) - 1) a with
    | none =>
      unfold Edt.app at h
      dsimp only at h
      rw [hn] at h
      cases h
    | some x =>
      cases hn2 : numIn 1 12 b with
      | none =>
        unfold Edt.app at h
        dsimp only at h
        rw [hn] at h
        dsimp only at h
        rw [hn2] at h
        cases h
      | some n =>
        unfold Edt.app at h
        dsimp only at h
        rw [hn] at h
        dsimp only at h
        rw [hn2] at h
        dsimp only at h
        split at h
        · cases h
        · rename_i c
          cases h
          have b1 : isNum 0 ((bs.length : Int) - 1) a = true := by
            cases hh : isNum 0 ((bs.length : Int) - 1) a with
            | true => rfl
            | false => rw [numIn_none hh] at hn; cases hn
          obtain ⟨i, rfl, i0, i1, e⟩ := numIn_some b1
          rw [e] at hn
          cases hn
          have b2 : isNum 1 12 b = true := by
            cases hh : isNum 1 12 b with
            | true => rfl
            | false => rw [numIn_none hh] at hn2; cases hn2
          obtain ⟨i2, rfl, j0, j1, e2⟩ := numIn_some b2
          rw [e2] at hn2
          cases hn2
          have hx : x.toNat < bs.length := by omega
          have hb := R.hb _ (getD_mem' hx)
          exact ⟨⟨R.rd1, R.lt, R.w2, by show 1 ≤ (plM bs x.toNat (-n)).length; rw [plM_len hx]; exact R.l1, by show (plM bs x.toNat (-n)).length ≤ 12; rw [plM_len hx]; exact R.l2, plM_bd R.hb hx (by omega) (by omega)⟩, st⟩
end Pu
namespace Pu
open PySem L2 Rb Gm
/-! ## trips of either kind: attributes, edits -/
section
variable {S : Sto} {k : Nat} {t : TKd} {done vs : List D} {w : Bool}
abbrev TAt (S : Sto) (k : Nat) (t : TKd) (done vs : List D) (w : Bool) : Prop := S[k]? = some (tripC t done vs w)
theorem TAt.put {c : Cl} (hk : S[k]? = some c) (done' vs' : List D) (w' : Bool) : TAt (S.set k (tripC t done' vs' w')) k t done' vs' w' := List.getElem?_set_self (List.getElem?_eq_some_iff.mp hk).1
end
end Pu
namespace Pu
open PySem L2 Rb Gm
/-! ## a new trip, what it tells -/
def itx (i : Int) : Str := Str.ofString (toString i)
theorem itx_len {i : Int} (h : i.natAbs < 10 ^ 10) : (itx i).length ≤ 11 := by
  have e := int_text_length_le10 (k := 10) (by decide) h
  unfold itx
  rw [ofString_length]
  exact e
end Pu
namespace Pu
open PySem L2 Rb Gm TL
/-! ## the text of a trip -/
section
variable {S : Sto} {k : Nat} {Q : QD} {E : ED} {v : Vn} {t : TKd} {done vs : List D} {w : Bool}
theorem str_len (a b : Str) : (a ++ b).length = a.length + b.length := by
  show (a ++ b).cps.size = _
  rw [Str.cps_append, Array.size_append]
  rfl
end
end Pu
namespace Pu
open PySem L2 Rb Gm TL
/-! ## the draws of the laws of texts -/
theorem deck2_ok {ns : List Int} {Q : QD} {E : ED} (q : ∀ S, Dk S 0 [] → Q (.cell 1) S) : F_law_deck_2 [.kls (ns.map D.int)] [] Q E := by
  unfold F_law_deck_2
  refine ⟨rfl, ?_⟩
  have e : cutD (ns.map D.int) none (some 60) = (ns.take 60).map D.int := by
    rw [show (60 : Int) = ((60 : Nat) : Int) from rfl, cut_to, List.map_take]
  show (cutD (ns.map D.int) none (some 60)).length ≤ sizeLine ∧ dCompL (st1 1) dYes (dB gAbs (dCons (dVar 1) dNil)) [] (cutD (ns.map D.int) none (some 60)) [] [some (.kls (ns.map D.int)), none] [] _
  rw [e]
  refine ⟨by rw [List.length_map, List.length_take]; exact Rb.sz_le (by omega), ?_⟩
  refine comp_map (src := []) (g := fun d => match d with | .int i => .int (absI i) | d => d) (fun _ p => p) _ [] ?_ ?_
  · intro x hx
    obtain ⟨i, _, rfl⟩ := List.mem_map.mp hx
    exact ⟨_, rfl, fun Q q => q⟩
  rw [List.nil_append, List.map_map]
  refine ⟨szr rfl, ?_⟩
  have em : ((ns.take 60).map D.int).length ≤ 60 := by rw [List.length_map, List.length_take]; omega
  refine q _ ⟨(ns.take 60).map absI, 0, ?_, by rw [List.length_map, List.length_take]; omega, fun x hx => ?_, by omega, by omega⟩
  · rw [List.append_nil]
    show [Cl.lst _, _] = [Cl.lst (((ns.take 60).map absI).map D.int), _]
    rw [List.map_map]
    rfl
  · obtain ⟨i, _, rfl⟩ := List.mem_map.mp hx
    exact absI_nn i
theorem draw3_ok {S T : Sto} {N lim : Int} {Q : QD} {E : ED} (h : Dk S N T) (hN : N ≤ 1000000) (h1 : 1 ≤ lim) (h2 : lim ≤ 1000000000) (q : ∀ r S', 0 ≤ r → r < lim → Dk S' (N + 1) T → Q (.int r) S') : F_law_draw_3 [.cell 1, .int lim] S Q E := by
  obtain ⟨cs, n, rfl, hl, h0, hn, hn2⟩ := h
  have fin : ∀ r cs', 0 ≤ r → r < lim → cs'.length ≤ 63 → (∀ x ∈ cs', 0 ≤ x) → Q (.int r) (deckS cs' (n + 1) ++ T) := fun r cs' a b c d => q r _ a b ⟨cs', n + 1, rfl, c, d, by omega, by omega⟩
  unfold F_law_draw_3
  have cl : ((cs.map D.int).length : Int) = (cs.length : Int) := by rw [List.length_map]
  generalize hmx : (if ((cs.map D.int).length : Int) > 1 then ((cs.map D.int).length : Int) else 1) = mx
  have mb : 1 ≤ mx ∧ (cs.length : Int) ≤ mx ∧ (mx = 1 ∨ mx = cs.length) := by rw [← hmx, cl]; split <;> omega
  have y0 : 0 ≤ (n + 1) % mx := Int.emod_nonneg _ (by omega)
  have y1 : (n + 1) % mx < mx := Int.emod_lt_of_pos _ (by omega)
  refine ⟨rfl, ?_⟩
  show (0 : Int) < (if ((cs.map D.int).length : Int) > 1 then ((cs.map D.int).length : Int) else 1) ∧ _
  rw [hmx]
  refine ⟨by omega, ?_⟩
  obtain ⟨j, hj⟩ : ∃ j : Nat, (n + 1) % mx = (j : Int) := ⟨_, (Int.toNat_of_nonneg y0).symm⟩
  refine ⟨szr rfl, szd (by show (cs.map D.int).length + 1 ≤ 100000; rw [List.length_map]; omega), ?_⟩
  have ex : ∃ x : Int, atI ((cs ++ [0]).map D.int) (j : Int) = some (.int x) ∧ 0 ≤ x ∧ (10 ^ 18 ≤ x → j < cs.length) := by
    have jl : j < (cs ++ [0]).length := by rw [List.length_append, List.length_singleton]; omega
    refine ⟨(cs ++ [0])[j], atI_nat (by rw [List.getElem?_map, List.getElem?_eq_getElem jl]; rfl), ?_, fun hb => ?_⟩
    · rcases List.mem_append.mp (List.getElem_mem jl) with z | z
      · exact h0 _ z
      · rw [List.mem_singleton.mp z]; exact Int.le_refl _
    · rcases Nat.lt_or_ge j cs.length with z | z
      · exact z
      · exfalso
        rw [List.getElem_append_right z] at hb
        rw [show ([0] : List Int)[j - cs.length]'(by rw [List.length_singleton]; omega) = 0 from List.mem_singleton.mp (List.getElem_mem _)] at hb
        exact absurd hb (by decide)
  obtain ⟨x, e1, hx, hbig⟩ := ex
  have e2 : atI (cs.map D.int ++ [D.int 0]) ((n + 1) % mx) = some (.int x) := by rw [hj]; rw [List.map_append] at e1; exact e1
  show onSome (atI (cs.map D.int ++ [D.int 0]) ((n + 1) % mx)) _
  refine onS e2 ?_
  refine ⟨⟨by decide, by decide, by decide⟩, ifB (fun hb => ?_) fun hb => ?_⟩
  · have hb' : (10 : Int) ^ 18 ≤ x := of_decide_eq_true hb
    have jc := hbig hb'
    have wd : CDivW x lim := wide_div (b := 30) (by omega) (by omega) (by decide) (by decide)
    refine ⟨wd, onS (a := j) ?_ ?_⟩
    · show ixN (cs.map D.int).length ((n + 1) % mx) = some j
      rw [hj]
      unfold ixN
      rw [if_pos (by omega), if_pos (by rw [List.length_map]; omega), Int.toNat_natCast]
    · refine ⟨by omega, ?_⟩
      have e : (cs.map D.int).set j (D.int (x / lim)) = (cs.set j (x / lim)).map D.int := List.map_set.symm
      show Q (.int (x % lim)) (Cl.lst ((cs.map D.int).set j (D.int (x / lim))) :: Cl.lst [.cell 0, .int (n + 1)] :: T)
      rw [e]
      refine fin _ (cs.set j (x / lim)) (Int.emod_nonneg _ (by omega)) (Int.emod_lt_of_pos _ (by omega)) (by rw [List.length_set]; exact hl) fun z hz => ?_
      rcases List.mem_or_eq_of_mem_set hz with hz | rfl
      · exact h0 z hz
      · exact Int.ediv_nonneg hx (by omega)
  · have hm := Int.emod_nonneg x (show (2147483563 : Int) ≠ 0 by decide)
    have hm2 := Int.emod_lt_of_pos x (show (0 : Int) < 2147483563 by decide)
    refine ⟨by show (0 : Int) < _; decide, .inl (.inl ⟨by decide, by decide⟩), ⟨by decide, by decide, ?_⟩, by show (0 : Int) < _; decide, ?_⟩
    · show (x % 2147483563 + 104729 * (n + 1) + 7).natAbs < 2 ^ 64
      omega
    have z := Int.emod_nonneg (((x % 2147483563 + 104729 * (n + 1) + 7) ^ (4 : Int).toNat % 2147483629) / 8 + 31 * (n + 1)) (show lim ≠ 0 by omega)
    have z2 := Int.emod_lt_of_pos (((x % 2147483563 + 104729 * (n + 1) + 7) ^ (4 : Int).toNat % 2147483629) / 8 + 31 * (n + 1)) (show 0 < lim by omega)
    exact ⟨⟨by decide, by decide⟩, .inl (.inl ⟨by decide, by decide⟩), by show (0 : Int) < lim; omega, fin _ cs z z2 hl h0⟩
end Pu
namespace Pu
open PySem L2 Rb Gm TL
theorem numIn_inv {lo hi i : Int} {d : D} (h : numIn lo hi d = some i) : d = .int i ∧ lo ≤ i ∧ i ≤ hi := by
  have e : isNum lo hi d = true := by
    cases hh : isNum lo hi d with
    | true => rfl
    | false => rw [numIn_none hh] at h; cases h
  obtain ⟨j, rfl, a, b, e⟩ := numIn_some e
  rw [e] at h
  cases h
  exact ⟨rfl, a, b⟩
/-- an edit that is right, and what comes of it -/
inductive Okk (v : Vn) : Edt → Vn → Prop
  | come (s : Int) (s0 : 0 ≤ s) (s1 : s ≤ 1000000) (h : v.ns.length ≤ 9) : Okk v (.come (.int s)) { v with ns := v.ns ++ [s] }
  | leave (p : Nat) (hp : p < v.ns.length) (h : 2 ≤ v.ns.length) : Okk v (.leave (.int (p : Int))) { v with ns := v.ns.take p ++ v.ns.drop (p + 1) }
  | place (x : Nat) (n : Int) (hx : x < v.bs.length) (n0 : 1 ≤ n) (n1 : n ≤ 12) (h : v.bs.getD x 0 + n ≤ 12) : Okk v (.place (.int (x : Int)) (.int n)) { v with bs := plM v.bs x n }
  | take (x : Nat) (n : Int) (hx : x < v.bs.length) (n0 : 1 ≤ n) (n1 : n ≤ 12) (h : n ≤ v.bs.getD x 0) : Okk v (.take (.int (x : Int)) (.int n)) { v with bs := plM v.bs x (-n) }
theorem Okk.app {v v' : Vn} {e : Edt} (h : Okk v e v') : e.app v = .ok v' := by
  cases h with
  | come s s0 s1 h =>
    rw [app_come, numIn_int s0 s1]
    exact if_neg (by omega)
  | leave p hp h =>
    rw [app_leave, numIn_int (by omega) (by omega)]
    exact if_neg (by omega)
  | place x n hx n0 n1 h =>
    rw [app_place, numIn_int (by omega) (by omega)]
    dsimp only
    rw [numIn_int n0 n1]
    exact if_neg (by rw [Int.toNat_natCast]; omega)
  | take x n hx n0 n1 h =>
    rw [app_take, numIn_int (by omega) (by omega)]
    dsimp only
    rw [numIn_int n0 n1]
    exact if_neg (by rw [Int.toNat_natCast]; omega)
theorem Okk.of {v v' : Vn} {e : Edt} (h1 : 1 ≤ v.ns.length) (h : e.app v = .ok v') : Okk v e v' := by
  cases e with
  | come a =>
    rw [app_come] at h
    cases hn : numIn 0 1000000 a with
    | none => rw [hn] at h; cases h
    | some s =>
      rw [hn] at h
      obtain ⟨rfl, a0, a1⟩ := numIn_inv hn
      dsimp only at h
      split at h
      · cases h
      · cases h; exact .come s a0 a1 (by omega)
  | leave a =>
    rw [app_leave] at h
    cases hn : numIn 0 ((v.ns.length : Int) - 1) a with
    | none => rw [hn] at h; cases h
    | some s =>
      rw [hn] at h
      obtain ⟨rfl, a0, a1⟩ := numIn_inv hn
      obtain ⟨p, rfl⟩ : ∃ p : Nat, s = (p : Int) := ⟨s.toNat, (Int.toNat_of_nonneg a0).symm⟩
      dsimp only at h
      split at h
      · cases h
      · cases h; exact .leave p (by omega) (by omega)
  | place a b =>
    rw [app_place] at h
    cases hn : numIn 0 ((v.bs.length : Int) - 1) a with
    | none => rw [hn] at h; cases h
    | some x =>
      rw [hn] at h
      obtain ⟨rfl, a0, a1⟩ := numIn_inv hn
      obtain ⟨p, rfl⟩ : ∃ p : Nat, x = (p : Int) := ⟨x.toNat, (Int.toNat_of_nonneg a0).symm⟩
      dsimp only at h
      cases hm : numIn 1 12 b with
      | none => rw [hm] at h; cases h
      | some n =>
        rw [hm] at h
        obtain ⟨rfl, b0, b1⟩ := numIn_inv hm
        dsimp only at h
        split at h
        · cases h
        · rename_i hc
          cases h
          rw [Int.toNat_natCast] at hc
          exact .place p n (by omega) b0 b1 (by omega)
  | take a b =>
    rw [app_take] at h
    cases hn : numIn 0 ((v.bs.length : Int) - 1) a with
    | none => rw [hn] at h; cases h
    | some x =>
      rw [hn] at h
      obtain ⟨rfl, a0, a1⟩ := numIn_inv hn
      obtain ⟨p, rfl⟩ : ∃ p : Nat, x = (p : Int) := ⟨x.toNat, (Int.toNat_of_nonneg a0).symm⟩
      dsimp only at h
      cases hm : numIn 1 12 b with
      | none => rw [hm] at h; cases h
      | some n =>
        rw [hm] at h
        obtain ⟨rfl, b0, b1⟩ := numIn_inv hm
        dsimp only at h
        split at h
        · cases h
        · rename_i hc
          cases h
          rw [Int.toNat_natCast] at hc
          exact .take p n (by omega) b0 b1 (by omega)
theorem Okk.py {v v' : Vn} {e : Edt} (h : Okk v e v') : e.Py := by cases h <;> first | rfl | exact ⟨rfl, rfl⟩
end Pu
namespace Pu
open PySem L2 Rb Gm TL
def TKd.L : TKd → Option Int
  | .plain => none
  | .prom l => some l
end Pu
namespace Pu
open PySem L2 Rb Gm TL
theorem VnOk.repS {v : Vn} (ok : VnOk v) : Rep 1 10 v.sv := Rep.starts ok.st.n2 fun s hs => ok.st.sb s hs
theorem VnOk.repR {v : Vn} (ok : VnOk v) : Rep 2 39 v.rv := Rep.road ok.R
theorem VnOk.rep {v : Vn} (ok : VnOk v) : Rep 3 80 (.tup [v.rv, v.sv]) := Rep.tup (k := 2) (n := 39) (fun d hd => by
  rcases List.mem_cons.mp hd with rfl | hd
  · exact ok.repR
  · rw [List.mem_singleton.mp hd]
    exact ok.repS.mono (by decide) (by decide)) (by show 2 * 40 ≤ 80; decide)
theorem rep_word {x : Str} (h : x.cps.size ≤ 5) (hx : x.cps.toList.all (fun c => decide (c < 16 ^ 8)) = true) (ho : PyData.canLay0 (.str x) = true) (hf : (PyData.str x).shown.cps.toList.all (fun c => decide (c < 1114112)) = true) : Rep 0 5 (.str x) := Rep.str h (fun c hc => of_decide_eq_true (List.all_eq_true.mp hx c hc)) ho (fine_of hf)
theorem Okk.rep {v v' : Vn} {e : Edt} (l2 : v.bs.length ≤ 12) (n2 : v.ns.length ≤ 10) (h : Okk v e v') : Rep 1 18 e.d := by
  have wc : Rep 0 5 (.str "come") := rep_word (by decide +kernel) (by decide +kernel) (by decide +kernel) (by decide +kernel)
  have wl : Rep 0 5 (.str "leave") := rep_word (by decide +kernel) (by decide +kernel) (by decide +kernel) (by decide +kernel)
  have wp : Rep 0 5 (.str "place") := rep_word (by decide +kernel) (by decide +kernel) (by decide +kernel) (by decide +kernel)
  have wt : Rep 0 5 (.str "take") := rep_word (by decide +kernel) (by decide +kernel) (by decide +kernel) (by decide +kernel)
  have int : ∀ {i : Int}, -1000000000000 ≤ i → i ≤ 1000000000000 → Rep 0 5 (.int i) := fun a b => (Rep.int a b).mono (by decide) (by decide)
  cases h with
  | come s s0 s1 h =>
    refine Rep.tup (n := 5) (fun d hd => ?_) (by show 2 * 6 ≤ 18; decide)
    simp only [List.mem_cons, List.not_mem_nil, or_false] at hd
    rcases hd with rfl | rfl
    · exact wc
    · exact int (by omega) (by omega)
  | leave p hp h =>
    refine Rep.tup (n := 5) (fun d hd => ?_) (by show 2 * 6 ≤ 18; decide)
    simp only [List.mem_cons, List.not_mem_nil, or_false] at hd
    rcases hd with rfl | rfl
    · exact wl
    · exact int (by omega) (by omega)
  | place x n hx n0 n1 h =>
    refine Rep.tup (n := 5) (fun d hd => ?_) (by show 3 * 6 ≤ 18; decide)
    simp only [List.mem_cons, List.not_mem_nil, or_false] at hd
    rcases hd with rfl | rfl | rfl
    · exact wp
    · exact int (by omega) (by omega)
    · exact int (by omega) (by omega)
  | take x n hx n0 n1 h =>
    refine Rep.tup (n := 5) (fun d hd => ?_) (by show 3 * 6 ≤ 18; decide)
    simp only [List.mem_cons, List.not_mem_nil, or_false] at hd
    rcases hd with rfl | rfl | rfl
    · exact wt
    · exact int (by omega) (by omega)
    · exact int (by omega) (by omega)
section
variable {S : Sto} {k j : Nat} {Q : QD} {E : ED} {v : Vn} {t : TKd} {done vs : List D} {w : Bool} {b : Bool}
theorem nat_bd {i : Int} (h : i.natAbs < 10 ^ 10) : i.natAbs < 2 ^ 1000 := Nat.lt_trans h (by decide)
end
end Pu
namespace Pu
open PySem L2 Rb Gm TL
section
variable {S : Sto} {n : Nat} {xs : List D}
theorem cell_lst (h : S[n]? = some (.lst xs)) : cellOf S (.cell n) = some (n, xs) := by
  show (lstAt S[n]?).map _ = _
  rw [h]
  rfl
theorem seq_cell (h : S[n]? = some (.lst xs)) : seqOf S (.cell n) = some xs := by
  show lstAt S[n]? = _
  rw [h]
  rfl
end
/-- a trip and the law's list of its edits, in the cells behind the deck -/
structure TrW (T : Sto) (a b : Nat) (t : TKd) (es : List Edt) (us : List Vn) (v : Vn) : Prop where
  ha : T[a]? = some (.lst (es.map Edt.d))
  hb : T[b]? = some (tripC t (es.map Edt.d) (us.map Vn.d ++ [v.d]) false)
  ne : a ≠ b
  hl : us.length = es.length
  rep : ∀ d ∈ es.map Edt.d, Rep 1 18 d
  ok : VnOk v
theorem TrW.la {T : Sto} {a b : Nat} {t : TKd} {es : List Edt} {us : List Vn} {v : Vn} (h : TrW T a b t es us v) : a < T.length := (List.getElem?_eq_some_iff.mp h.ha).1
theorem TrW.lb {T : Sto} {a b : Nat} {t : TKd} {es : List Edt} {us : List Vn} {v : Vn} (h : TrW T a b t es us v) : b < T.length := (List.getElem?_eq_some_iff.mp h.hb).1
/-- after one more edit -/
theorem TrW.next {T : Sto} {a b : Nat} {t : TKd} {es : List Edt} {us : List Vn} {v v' : Vn} {e : Edt} (h : TrW T a b t es us v) (o : Okk v e v') : TrW ((T.set a (.lst (es.map Edt.d ++ [e.d]))).set b (tripC t (es.map Edt.d ++ [e.d]) (us.map Vn.d ++ [v.d] ++ [v'.d]) false)) a b t (es ++ [e]) (us ++ [v]) v' where
  ha := by
    rw [List.getElem?_set_ne (Ne.symm h.ne), List.getElem?_set_self h.la, List.map_append]
    rfl
  hb := by
    rw [List.getElem?_set_self (by rw [List.length_set]; exact h.lb), List.map_append, List.map_append]
    rfl
  ne := h.ne
  hl := by rw [List.length_append, List.length_append, h.hl]; rfl
  rep := fun d hd => by
    rw [List.map_append] at hd
    rcases List.mem_append.mp hd with z | z
    · exact h.rep d z
    · rw [List.mem_singleton.mp z]
      exact o.rep h.ok.R.l2 h.ok.st.n2
  ok := app_ok h.ok o.app
end Pu
namespace Pu
open PySem L2 Rb Gm TL
theorem pk4 {x y z w r : Int} (h0 : 0 ≤ r) (h1 : r < 4) : ∃ v : Int, atI [D.int x, .int y, .int z, .int w] r = some (.int v) ∧ (v = x ∨ v = y ∨ v = z ∨ v = w) := by
  rcases (by omega : r = 0 ∨ r = 1 ∨ r = 2 ∨ r = 3) with rfl | rfl | rfl | rfl
  · exact ⟨x, rfl, .inl rfl⟩
  · exact ⟨y, rfl, .inr (.inl rfl)⟩
  · exact ⟨z, rfl, .inr (.inr (.inl rfl))⟩
  · exact ⟨w, rfl, .inr (.inr (.inr rfl))⟩
abbrev stEnv (st pe : Int) (b : Bool) (wk rd : Int) (a8 a9 : Option D) : Rho := [some (.cell 1), some (.int st), some (.int pe), some (.bl b), some (.int wk), some (.int rd), some (.cell 2), some (.cell 3), a8, a9]
theorem stateT_ok {S : Sto} {N st pe : Int} {Q : QD} {E : ED} (h : Dk S N []) (hN : N ≤ 800000) (s1 : 1 ≤ st) (s2 : st ≤ 12) (p1 : 1 ≤ pe) (p2 : pe ≤ 10)
    (q : ∀ wk rd (bs ns : List Int) S', RoadOk wk rd bs → (bs.length : Int) ≤ st → Sts ns → (ns.length : Int) ≤ pe → Dk S' (N + 200) [] → S'.length = 2 → Q (.tup [roadV wk rd bs, .tup (ns.map D.int)]) S') : F_law_state [.cell 1, .int st, .int pe] S Q E := by
  unfold F_law_state
  have hS : S.length = 2 := h.len
  refine ⟨rfl, draw3_ok h (by omega) (by decide) (by decide) fun w S1 w0 w1 d1 => eq_int ?_⟩
  have kk : ∃ b : Bool, nb false (decide (w = 0)) = b := ⟨_, rfl⟩
  obtain ⟨b, hb⟩ := kk
  rw [hb]
  refine ⟨szr rfl, ?_⟩
  have e1 : ∃ v : Int, atI [D.int 12, .int 999] (if b = true then 1 else 0) = some (.int v) ∧ 12 ≤ v ∧ v ≤ 999 := by
    cases b with
    | true => exact ⟨999, rfl, by decide, by decide⟩
    | false => exact ⟨12, rfl, by decide, by decide⟩
  obtain ⟨lf, e1, lf1, lf2⟩ := e1
  show onSome (atI [D.int 12, .int 999] (if b = true then 1 else 0)) _
  refine onS e1 (draw3_ok d1 (by omega) (by omega) (by omega) fun f S2 f0 f1 d2 => ?_)
  refine draw3_ok d2 (by omega) (by omega) (by omega) fun r S3 r0 r1 d3 => ⟨szr rfl, szr rfl, ?_⟩
  have l3 : S3.length = 2 := d3.len
  have d4 := (d3.snoc (.lst [])).snoc (.lst [])
  rw [show (S3 ++ [Cl.lst []]).length = 3 by rw [List.length_append, l3]; rfl, l3]
  generalize (S3 ++ [Cl.lst []]) ++ [Cl.lst []] = S4 at d4 ⊢
  refine draw3_ok d4 (by omega) (by omega) (by omega) fun m S5 m0 m1 d5 => ⟨⟨by omega, by omega⟩, ?_⟩
  obtain ⟨n, hn⟩ : ∃ n : Nat, 1 + m = (n : Int) := ⟨(1 + m).toNat, (Int.toNat_of_nonneg (by omega)).symm⟩
  rw [hn, Int.toNat_natCast]
  refine for_rng 0 n (fun i ρ S' => ∃ a8 a9, ρ = stEnv st pe b (2 + f) (1 + r) a8 a9 ∧ ∃ bs : List Int, bs.length = i ∧ (∀ x ∈ bs, 0 ≤ x ∧ x ≤ 12) ∧ Dk S' (N + 5 + 4 * i) [.lst (bs.map D.int), .lst []]) ⟨_, _, rfl, [], rfl, (fun _ z => nomatch z), d5.le (by omega)⟩ ?_ ?_
  · rintro i ρ S6 K hi hK ⟨a8, a9, rfl, bs, bl, hbs, d6⟩
    refine onS (cell_lst (d6.get (j := 0) rfl)) ?_
    refine draw3_ok d6 (by omega) (by decide) (by decide) fun x1 S7 x10 x11 d7 => ?_
    refine draw3_ok d7 (by omega) (by decide) (by decide) fun x2 S8 x20 x21 d8 => ?_
    refine draw3_ok d8 (by omega) (by decide) (by decide) fun x3 S9 x30 x31 d9 => ⟨szr rfl, ?_⟩
    refine draw3_ok d9 (by omega) (by decide) (by decide) fun x4 S10 x40 x41 d10 => ?_
    obtain ⟨v, e5, c5⟩ := pk4 (x := 0) (y := x1) (z := x2) (w := x3) x40 x41
    show onSome (atI [D.int 0, .int x1, .int x2, .int x3] x4) _
    refine onS e5 ?_
    refine onS (cell_lst (d10.get (j := 0) rfl)) ⟨szd (by show (bs.map D.int).length < 100000; rw [List.length_map]; omega), ?_⟩
    have d11 := d10.put (j := 0) (c := .lst (bs.map D.int ++ [.int v])) (by show 0 < 2; decide)
    refine hK _ _ ⟨_, _, rfl, bs ++ [v], by rw [List.length_append, bl]; rfl, fun x hx => ?_, ?_⟩
    · rcases List.mem_append.mp hx with z | z
      · exact hbs x z
      · rw [List.mem_singleton.mp z]; omega
    · rw [List.map_append]
      exact d11.le (by omega)
  · rintro ρ S6 ⟨a8, a9, rfl, bs, bl, hbs, d6⟩
    refine draw3_ok d6 (by omega) (by omega) (by omega) fun m2 S7 m20 m21 d7 => ⟨⟨by omega, by omega⟩, ?_⟩
    obtain ⟨n2, hn2⟩ : ∃ n2 : Nat, 1 + m2 = (n2 : Int) := ⟨(1 + m2).toNat, (Int.toNat_of_nonneg (by omega)).symm⟩
    rw [hn2, Int.toNat_natCast]
    refine for_rng 0 n2 (fun i ρ S' => ∃ a8 a9, ρ = stEnv st pe b (2 + f) (1 + r) a8 a9 ∧ ∃ ns : List Int, ns.length = i ∧ (∀ x ∈ ns, 0 ≤ x ∧ x ≤ 1000000) ∧ Dk S' (N + 60 + 2 * i) [.lst (bs.map D.int), .lst (ns.map D.int)]) ⟨_, _, rfl, [], rfl, (fun _ z => nomatch z), d7.le (by omega)⟩ ?_ ?_
    · rintro i ρ S8 K hi hK ⟨a8, a9, rfl, ns, nl, hns, d8⟩
      refine onS (cell_lst (d8.get (j := 1) rfl)) ?_
      refine ⟨⟨by decide, by decide, by decide⟩, szr rfl, ?_⟩
      have draws : ∀ S9 k, Dk S9 (N + 61 + 2 * i) [.lst (bs.map D.int), .lst (ns.map D.int)] → (k = 0 ∨ k = 1) → onSome (atI [D.int 40, .int (10 ^ (6 : Int).toNat + 1)] k) fun d => F_law_draw_3 [.cell 1, d] S9 (fun d S1 => gAppend (.cell 3) [d] S1 fun _ S1 => K (stEnv st pe b (2 + f) (1 + r) a8 (some (.int (0 + (i : Int))))) S1) noE := by
        intro S9 k d9 hk
        obtain ⟨lim, el, l1, l2⟩ : ∃ lim : Int, atI [D.int 40, .int (10 ^ (6 : Int).toNat + 1)] k = some (.int lim) ∧ 1 ≤ lim ∧ lim ≤ 1000001 := by
          rcases hk with rfl | rfl
          · exact ⟨40, rfl, by decide, by decide⟩
          · exact ⟨_, rfl, by decide, by decide⟩
        refine onS el (draw3_ok d9 (by omega) l1 (by omega) fun x S10 x0 x1 d10 => ?_)
        refine onS (cell_lst (d10.get (j := 1) rfl)) ⟨szd (by show (ns.map D.int).length < 100000; rw [List.length_map]; omega), ?_⟩
        have d11 := d10.put (j := 1) (c := .lst (ns.map D.int ++ [.int x])) (by show 1 < 2; decide)
        refine hK _ _ ⟨_, _, rfl, ns ++ [x], by rw [List.length_append, nl]; rfl, fun y hy => ?_, ?_⟩
        · rcases List.mem_append.mp hy with z | z
          · exact hns y z
          · rw [List.mem_singleton.mp z]; omega
        · rw [List.map_append]
          exact d11.le (by omega)
      cases b with
      | true =>
        refine draw3_ok d8 (by omega) (by decide) (by decide) fun z S9 z0 z1 d9 => eq_int ?_
        have := draws S9 (if nb false (decide (z = 0)) = true then 1 else 0) (d9.le (by omega)) (by split <;> simp)
        exact this
      | false => exact draws S8 0 (d8.le (by omega)) (.inl rfl)
    · rintro ρ S8 ⟨a8, a9, rfl, ns, nl, hns, d8⟩
      refine onS (seq_cell (d8.get (j := 0) rfl)) ⟨szr rfl, onS (seq_cell (d8.get (j := 1) rfl)) ⟨szr rfl, ?_⟩⟩
      have R : RoadOk (2 + f) (1 + r) bs := ⟨by omega, by omega, by omega, by omega, by omega, hbs⟩
      have hst : Sts ns := ⟨by omega, by omega, hns⟩
      refine ret2 hS d8 ⟨_, frz_below (d := .tup [roadV (2 + f) (1 + r) bs, .tup (ns.map D.int)]) (fun k z => nomatch z) ?_, fun S2 d2 l2 => ?_⟩
      · show (below 2 (roadV (2 + f) (1 + r) bs) && (belowAll 2 (ns.map D.int) && true)) = true
        rw [below_roadV, below_ints]
        rfl
      · exact q (2 + f) (1 + r) bs ns S2 R (by omega) hst (by omega) (d2.le (by omega)) l2
end Pu
namespace Pu
open PySem L2 Rb Gm TL
/-! ## numbers as texts -/
theorem tl_itx (n : Nat) : tl (itx (n : Int)) = numL n := tl_num n
theorem itx_nn {i : Int} (h : 0 ≤ i) : tl (itx i) = numL i.toNat := by
  obtain ⟨n, rfl⟩ : ∃ n : Nat, i = (n : Int) := ⟨i.toNat, (Int.toNat_of_nonneg h).symm⟩
  rw [tl_itx, Int.toNat_natCast]
theorem itx_inj {i j : Int} (hi : 0 ≤ i) (hj : 0 ≤ j) (h : itx i = itx j) : i = j := by
  have e := congrArg tl h
  rw [itx_nn hi, itx_nn hj] at e
  have := numL_inj e
  omega
theorem itx_free {i : Int} {s : Nat} (h : 0 ≤ i) (hs : s < 48 ∨ 57 < s) : s ∉ tl (itx i) := by
  rw [itx_nn h]
  exact numL_free hs
def numsTx (ns : List Int) : Str := Txt.join "," (ns.map itx)
theorem tl_comma : tl "," = [44] := by decide +kernel
theorem tl_space : tl " " = [32] := by decide +kernel
theorem tl_slash : tl "/" = [47] := by decide +kernel
theorem kc : ("," : Str).cps.all (· < 256) = true := by decide +kernel
theorem ks : (" " : Str).cps.all (· < 256) = true := by decide +kernel
theorem kl : ("/" : Str).cps.all (· < 256) = true := by decide +kernel
theorem nums_split {ns : List Int} (h : ns ≠ []) (nn : ∀ i ∈ ns, 0 ≤ i) : Txt.split (numsTx ns) "," = ns.map itx := by
  refine split_join tl_comma kc (fun z => h (List.map_eq_nil_iff.mp z)) fun p hp => ?_
  obtain ⟨i, hi, rfl⟩ := List.mem_map.mp hp
  exact itx_free (nn i hi) (.inl (by decide))
theorem map_itx_inj : ∀ {l m : List Int}, (∀ i ∈ l, 0 ≤ i) → (∀ i ∈ m, 0 ≤ i) → l.map itx = m.map itx → l = m
  | [], [], _, _, _ => rfl
  | [], _ :: _, _, _, h => by simp at h
  | _ :: _, [], _, _, h => by simp at h
  | x :: l, y :: m, h1, h2, h => by
    obtain ⟨a, b⟩ := List.cons.inj h
    rw [itx_inj (h1 x List.mem_cons_self) (h2 y List.mem_cons_self) a, map_itx_inj (fun i hi => h1 i (List.mem_cons_of_mem _ hi)) (fun i hi => h2 i (List.mem_cons_of_mem _ hi)) b]
theorem nums_inj {l m : List Int} (hl : l ≠ []) (hm : m ≠ []) (h1 : ∀ i ∈ l, 0 ≤ i) (h2 : ∀ i ∈ m, 0 ≤ i) (h : numsTx l = numsTx m) : l = m := by
  have e := nums_split hl h1
  rw [h, nums_split hm h2] at e
  exact map_itx_inj h1 h2 e.symm
theorem mem_joinL {s : Nat} {S : List Nat} : ∀ {ps : List (List Nat)}, s ∈ joinL S ps → s ∈ S ∨ ∃ p ∈ ps, s ∈ p
  | [], h => by cases h
  | [p], h => .inr ⟨p, List.mem_singleton.mpr rfl, h⟩
  | p :: q :: r, h => by
    have h' : s ∈ p ++ (S ++ joinL S (q :: r)) := h
    rcases List.mem_append.mp h' with z | z
    · exact .inr ⟨p, List.mem_cons_self, z⟩
    · rcases List.mem_append.mp z with z | z
      · exact .inl z
      · rcases mem_joinL z with z | ⟨p', hp, z⟩
        · exact .inl z
        · exact .inr ⟨p', List.mem_cons_of_mem _ hp, z⟩
theorem nums_free {ns : List Int} {s : Nat} (nn : ∀ i ∈ ns, 0 ≤ i) (h : s < 44 ∨ s = 45 ∨ s = 46 ∨ s = 47 ∨ 57 < s) : s ∉ tl (numsTx ns) := by
  intro z
  unfold numsTx at z
  rw [join_eq, tl_join, tl_comma] at z
  rcases mem_joinL z with z | ⟨p, hp, z⟩
  · rw [List.mem_singleton] at z
    omega
  · obtain ⟨y, hy, rfl⟩ := List.mem_map.mp hp
    obtain ⟨i, hi, rfl⟩ := List.mem_map.mp hy
    exact itx_free (nn i hi) (by omega) z
/-! ## the text of a trip -/
def tripWords (wk rd : Int) (bs ns : List Int) : List Str := [itx wk ++ "/" ++ itx rd, numsTx bs, "from", numsTx ns]
def tripT (wk rd : Int) (bs ns : List Int) : Str := Txt.join " " (tripWords wk rd bs ns)
theorem tl_from : tl "from" = [102, 114, 111, 109] := by decide +kernel
theorem words_free {wk rd : Int} {bs ns : List Int} (h1 : 0 ≤ wk) (h2 : 0 ≤ rd) (h3 : ∀ i ∈ bs, 0 ≤ i) (h4 : ∀ i ∈ ns, 0 ≤ i) : ∀ p ∈ tripWords wk rd bs ns, 32 ∉ tl p := by
  intro p hp
  unfold tripWords at hp
  simp only [List.mem_cons, List.not_mem_nil, or_false] at hp
  rcases hp with rfl | rfl | rfl | rfl
  · rw [tl_append, tl_append, tl_slash]
    intro z
    rcases List.mem_append.mp z with z | z
    · rcases List.mem_append.mp z with z | z
      · exact itx_free h1 (.inl (by decide)) z
      · revert z; decide
    · exact itx_free h2 (.inl (by decide)) z
  · exact nums_free h3 (.inl (by decide))
  · rw [tl_from]; decide
  · exact nums_free h4 (.inl (by decide))
theorem trip_split {wk rd : Int} {bs ns : List Int} (h1 : 0 ≤ wk) (h2 : 0 ≤ rd) (h3 : ∀ i ∈ bs, 0 ≤ i) (h4 : ∀ i ∈ ns, 0 ≤ i) : Txt.split (tripT wk rd bs ns) " " = tripWords wk rd bs ns :=
  split_join tl_space ks (by unfold tripWords; simp) (words_free h1 h2 h3 h4)
theorem ticks_split {wk rd : Int} (h1 : 0 ≤ wk) (h2 : 0 ≤ rd) : Txt.split (itx wk ++ "/" ++ itx rd) "/" = [itx wk, itx rd] := by
  have e : itx wk ++ "/" ++ itx rd = Txt.join "/" [itx wk, itx rd] := by
    refine ext_tl ?_
    rw [join_eq, tl_join, tl_append, tl_append]
    show _ = tl (itx wk) ++ (tl "/" ++ tl (itx rd))
    rw [List.append_assoc]
  rw [e]
  refine split_join tl_slash kl (by simp) fun p hp => ?_
  simp only [List.mem_cons, List.not_mem_nil, or_false] at hp
  rcases hp with rfl | rfl
  · exact itx_free h1 (.inl (by decide))
  · exact itx_free h2 (.inl (by decide))
end Pu
namespace Pu
open PySem L2 Rb Gm TL
/-! ## numbers that a text stands for -/
theorem numL_mono : ∀ {m n : Nat}, n ≤ m → (numL n).length ≤ (numL m).length := by
  intro m
  induction m using Nat.strongRecOn with
  | ind m ih =>
    intro n h
    by_cases h1 : n < 10
    · rw [numL_lt h1]
      have := numL_ne m
      cases hm : numL m with
      | nil => exact absurd hm this
      | cons a b => exact Nat.succ_le_succ (Nat.zero_le _)
    · rw [numL_step (n := n) (by omega), numL_step (n := m) (by omega), List.length_append, List.length_append]
      exact Nat.add_le_add_right (ih (m / 10) (by omega) (Nat.div_le_div_right h)) 1
theorem numL_head : ∀ {n : Nat}, 0 < n → ∃ c r, numL n = c :: r ∧ c ≠ 48 := by
  intro n
  induction n using Nat.strongRecOn with
  | ind n ih =>
    intro h
    by_cases h1 : n < 10
    · exact ⟨48 + n, [], numL_lt h1, by omega⟩
    · obtain ⟨c, r, e, hc⟩ := ih (n / 10) (by omega) (by omega)
      exact ⟨c, r ++ [48 + n % 10], by rw [numL_step (by omega), e]; rfl, hc⟩
theorem digit_dec {c : Nat} (h1 : 48 ≤ c) (h2 : c ≤ 57) : Unicode.isDigit c = true := by
  obtain ⟨k, rfl⟩ : ∃ k, c = 48 + k := ⟨c - 48, by omega⟩
  have hk : k < 10 := by omega
  have : ∀ k : Fin 10, Unicode.isDigit (48 + k.val) = true := by decide +kernel
  exact this ⟨k, hk⟩
theorem itx_digits (n : Nat) : ∀ c ∈ (itx (n : Int)).cps.toList, 48 ≤ c ∧ c ≤ 57 := fun c hc => by
  have h : c ∈ tl (itx (n : Int)) := hc
  rw [tl_itx] at h
  exact numL_digits n c h
theorem itx_ascii (n : Nat) : Txt.isascii (itx (n : Int)) = true := by
  unfold Txt.isascii
  rw [← Array.all_toList, List.all_eq_true]
  intro c hc
  have := itx_digits n c hc
  exact decide_eq_true (by omega)
theorem itx_size (n : Nat) : (itx (n : Int)).length = (numL n).length := by
  rw [← tl_itx]
  rfl
theorem itx_digit (n : Nat) : Txt.isdigit (itx (n : Int)) = true := by
  unfold Txt.isdigit
  have l : 0 < (itx (n : Int)).length := by
    rw [itx_size]
    cases h : numL n with
    | nil => exact absurd h (numL_ne n)
    | cons a b => exact Nat.succ_pos _
  rw [← Array.all_toList]
  have : (itx (n : Int)).cps.toList.all Unicode.isDigit = true := List.all_eq_true.mpr fun c hc => digit_dec (itx_digits n c hc).1 (itx_digits n c hc).2
  rw [this]
  simp [l]
theorem itx_zero : itx 0 = "0" := by decide +kernel
theorem itx_starts {n : Nat} (h : 0 < n) : Txt.startswith (itx (n : Int)) "0" = false := by
  obtain ⟨c, r, e, hc⟩ := numL_head h
  unfold Txt.startswith Builtin.Str.subAt
  rw [Bool.and_eq_false_iff]
  right
  refine Bool.eq_false_iff.mpr fun z => hc ?_
  have z' := eq_of_beq z
  have z2 := congrArg Array.toList z'
  rw [Array.toList_extract] at z2
  have e' : (itx (n : Int)).cps.toList = c :: r := by
    have : tl (itx (n : Int)) = c :: r := by rw [tl_itx]; exact e
    exact this
  rw [e'] at z2
  have e0 : ("0" : Str).cps.toList = [48] := by decide +kernel
  have l0 : ("0" : Str).length = 1 := by decide +kernel
  rw [e0, l0] at z2
  simp at z2
  exact z2
theorem itx_int {n : Nat} (h : n < 10 ^ 10) : PySem.intText? (itx (n : Int)) = some (n : Int) := int_num (Nat.le_trans (numL_len (k := 10) (by decide) h) (by decide))
def num3 : FS := (dSeq (dAsg (dB gIntS (dCons (dVar 0) dNil)) (gN 3))
 (dRet (dIf (dTest (dChain gLe gLe (dVar 1) (dVar 3) (dVar 2))) (dVar 3) (dC .non))))
def num2 : FS := (dSeq (dIfS (dOr (dTest (dBin gGt (dB gLen (dCons (dVar 0) dNil)) (dB gLen (dCons (dB gStr (dCons (dVar 2) dNil)) dNil)))) (dAnd (dTest (dMS1 gStarts (dVar 0) (dC (.str "0")))) (dTest (dBin iNe (dVar 0) (dC (.str "0"))))))
 (dRet (dC .non))
 dSkip)
 num3)
end Pu
namespace Pu
open PySem L2 Rb Gm TL
theorem len_join_le : ∀ (y : Str) (ps : List Str), (Txt.join y ps).length ≤ (ps.map (·.length)).sum + ps.length * y.length := by
  intro y ps
  rw [join_eq]
  have key : ∀ ps : List Str, (joinL (tl y) (ps.map tl)).length ≤ (ps.map (·.length)).sum + ps.length * y.length := by
    intro ps
    induction ps with
    | nil => exact Nat.zero_le _
    | cons p r ih =>
      cases r with
      | nil =>
        show (tl p).length ≤ p.length + 0 + _
        have : (tl p).length = p.length := rfl
        omega
      | cons q r =>
        show (tl p ++ (tl y ++ joinL (tl y) ((q :: r).map tl))).length ≤ _
        rw [List.length_append, List.length_append]
        have a : (tl p).length = p.length := rfl
        have b : (tl y).length = y.length := rfl
        have hs : ((p :: q :: r).map (·.length)).sum = p.length + ((q :: r).map (·.length)).sum := rfl
        have hl : (p :: q :: r).length = (q :: r).length + 1 := rfl
        rw [hs, hl, Nat.succ_mul]
        omega
  have := key ps
  rw [← tl_join] at this
  exact this
theorem nums_sum {ns : List Int} (h : ∀ i ∈ ns, i.natAbs < 10 ^ 10) : ((ns.map itx).map (·.length)).sum ≤ 11 * ns.length := by
  induction ns with
  | nil => exact Nat.zero_le _
  | cons x r ih =>
    rw [List.map_cons, List.map_cons, List.sum_cons, List.length_cons]
    have := ih fun i hi => h i (List.mem_cons_of_mem _ hi)
    have h2 := itx_len (h x List.mem_cons_self)
    show (itx x).length + _ ≤ _
    omega
theorem nums_len {ns : List Int} (h : ∀ i ∈ ns, i.natAbs < 10 ^ 10) : (numsTx ns).length ≤ 12 * ns.length := by
  have a := len_join_le "," (ns.map itx)
  have b := nums_sum h
  have c : ("," : Str).length = 1 := by decide +kernel
  rw [List.length_map, c] at a
  unfold numsTx
  omega
section
variable {S : Sto} {Q : QD} {E : ED}
theorem listed_ok {ns : List Int} (h : ∀ i ∈ ns, i.natAbs < 10 ^ 10) (hl : ns.length ≤ 100) (q : Q (.str (numsTx ns)) S) : F_listed [.tup (ns.map D.int)] S Q E := by
  unfold F_listed
  refine ⟨rfl, ?_⟩
  refine ⟨szd (by show (ns.map D.int).length ≤ 100000; rw [List.length_map]; omega), ?_⟩
  refine comp_map (src := []) (g := fun d => match d with | .int i => .str (itx i) | d => d) (fun _ p => p) (ns.map D.int) [] (fun x hx => ?_) ?_
  · obtain ⟨i, hi, rfl⟩ := List.mem_map.mp hx
    exact ⟨_, rfl, fun Q' q' => ⟨nat_bd (h i hi), q'⟩⟩
  rw [List.nil_append, List.map_map]
  have em : ns.map ((fun d => match d with | .int i => D.str (itx i) | d => d) ∘ D.int) = (ns.map itx).map D.str := by
    rw [List.map_map]
    rfl
  rw [em]
  refine onS (a := (ns.map itx).map D.str) rfl (onS (strsOf_map _) ⟨?_, q⟩)
  have b := nums_sum h
  have c : ("," : Str).length = 1 := by decide +kernel
  rw [List.length_map, c]
  omega
theorem nb10 {i : Int} (h0 : 0 ≤ i) (h : i ≤ 1000000) : i.natAbs < 10 ^ 10 := by
  have : (10 : Nat) ^ 10 = 10000000000 := rfl
  omega
theorem bs_bd {bs : List Int} (h : ∀ b ∈ bs, 0 ≤ b ∧ b ≤ 12) : ∀ i ∈ bs, i.natAbs < 10 ^ 10 := fun i hi => nb10 (h i hi).1 (by have := (h i hi).2; omega)
theorem ns_bd {ns : List Int} (h : Sts ns) : ∀ i ∈ ns, i.natAbs < 10 ^ 10 := fun i hi => nb10 (h.sb i hi).1 (h.sb i hi).2
theorem tripT_len {wk rd : Int} {bs ns : List Int} (R : RoadOk wk rd bs) (hs : Sts ns) : (tripT wk rd bs ns).length ≤ 400 := by
  have r1 := R.rd1
  have r2 := R.lt
  have r3 := R.w2
  have a := len_join_le " " (tripWords wk rd bs ns)
  have b1 := itx_len (nb10 (i := wk) (by omega) (by omega))
  have b2 := itx_len (nb10 (i := rd) (by omega) (by omega))
  have b3 := nums_len (bs_bd R.hb)
  have b4 := nums_len (ns_bd hs)
  have l2 := R.l2
  have n2 := hs.n2
  have c : (" " : Str).length = 1 := by decide +kernel
  have c2 : ("/" : Str).length = 1 := by decide +kernel
  have c3 : ("from" : Str).length = 4 := by decide +kernel
  unfold tripT
  unfold tripWords at a ⊢
  simp only [List.map_cons, List.map_nil, List.sum_cons, List.sum_nil, List.length_cons, List.length_nil, str_len, c, c2, c3] at a
  omega
end
end Pu
namespace Pu
open PySem L2 Rb Gm TL
section
variable {S : Sto} {Q : QD} {E : ED}
def Vn.tt (v : Vn) : Str := tripT v.wk v.rd v.bs v.ns
def Vn.sd (v : Vn) : D := .tup [v.rv, v.sv]
theorem join_end {a : Str} {d : D} {ys : List Str} {a0 a1 a2 a3 a4 a5 : Option D} {S : Sto} {De : DEnds} {Ed : ED} (h : seqOf S d = some (ys.map D.str)) (hl : (ys.map (·.length)).sum + ys.length * a.length ≤ 100000) (q : De.rt (.str (Txt.join a ys)) S) :
    gN 5 d [a0, a1, a2, a3, a4, a5] S { De with nx := fun ρ' S' => dRet (dJoin (dC (.str a)) (dVar 5)) ρ' S' De Ed }.nx Ed := by
  show onSome (seqOf S d) _
  refine onS h ?_
  exact onS (strsOf_map ys) ⟨hl, q⟩
theorem ltext_ok {v : Vn} (ok : VnOk v) (q : Q (.str v.tt) S) : F_law_trip_text [v.sd] S Q E := by
  have R := ok.R
  have r1 := R.rd1
  have r2 := R.lt
  have r3 := R.w2
  have b1 := itx_len (nb10 (i := v.wk) (by omega) (by omega))
  have b2 := itx_len (nb10 (i := v.rd) (by omega) (by omega))
  have b3 := nums_len (bs_bd R.hb)
  have b4 := nums_len (ns_bd ok.st)
  have l2 := R.l2
  have n2 := ok.st.n2
  have c : (" " : Str).length = 1 := by decide +kernel
  have c2 : ("/" : Str).length = 1 := by decide +kernel
  have c3 : ("from" : Str).length = 4 := by decide +kernel
  unfold F_law_trip_text
  refine ⟨rfl, rfl, rfl, ?_⟩
  refine ⟨nat_bd (nb10 (by omega) (by omega)), szd (by show (itx v.wk).length + ("/" : Str).length ≤ 100000; omega), nat_bd (nb10 (by omega) (by omega)), szd (by show (itx v.wk ++ "/").length + (itx v.rd).length ≤ 100000; rw [str_len]; omega), ?_⟩
  refine listed_ok (ns := v.bs) (bs_bd R.hb) (by omega) ?_
  refine listed_ok (ns := v.ns) (ns_bd ok.st) (by omega) ?_
  refine ⟨szr rfl, ?_⟩
  refine join_end (ys := tripWords v.wk v.rd v.bs v.ns) rfl ?_ q
  unfold tripWords
  simp only [List.map_cons, List.map_nil, List.sum_cons, List.sum_nil, List.length_cons, List.length_nil, str_len, c, c2, c3]
  omega
end
end Pu
namespace Pu
open PySem L2 Rb Gm TL
/-! ## what number a text stands for, if any -/
theorem digits_num : ∀ (k : Nat) (l : List Nat), l.length = k → NumText.AllDigits l → l ≠ [] → (l = [48] ∨ l.head? ≠ some 48) → ∃ n, numL n = l := by
  intro k
  induction k with
  | zero => intro l h _ ne; exact absurd (List.length_eq_zero_iff.mp h) ne
  | succ k ih =>
    intro l h ad ne hd
    obtain ⟨init, d, rfl⟩ : ∃ init d, l = init ++ [d] := by
      rcases List.eq_nil_or_concat l with rfl | ⟨i, d, e⟩
      · exact absurd rfl ne
      · exact ⟨i, d, by rw [e, List.concat_eq_append]⟩
    have hdd := ad d (List.mem_append_right _ List.mem_cons_self)
    have hl : init.length = k := by rw [List.length_append] at h; simpa using h
    by_cases hi : init = []
    · subst hi
      refine ⟨d - 48, ?_⟩
      rw [numL_lt (by omega), List.nil_append, show 48 + (d - 48) = d by omega]
    · have hd' : (init ++ [d]).head? ≠ some 48 := by
        rcases hd with e | e
        · exfalso
          have := congrArg List.length e
          rw [List.length_append] at this
          have h0 : init.length = 0 := by simpa using this
          exact hi (List.length_eq_zero_iff.mp h0)
        · exact e
      have hh : init.head? ≠ some 48 := by
        cases init with
        | nil => exact absurd rfl hi
        | cons a b => exact hd'
      obtain ⟨m, hm⟩ := ih init hl (fun c hc => ad c (List.mem_append_left _ hc)) hi (.inr hh)
      have m1 : 1 ≤ m := by
        rcases Nat.eq_zero_or_pos m with rfl | hp
        · rw [numL_lt (by decide)] at hm
          rw [← hm] at hh
          exact absurd rfl hh
        · exact hp
      refine ⟨10 * m + (d - 48), ?_⟩
      rw [numL_step (by omega), show (10 * m + (d - 48)) / 10 = m by omega, show 48 + (10 * m + (d - 48)) % 10 = d by omega, hm]
theorem dec_digit {c : Nat} (h1 : c < 128) (h2 : Unicode.isDigit c = true) : 48 ≤ c ∧ c ≤ 57 := by
  have : ∀ k : Fin 128, Unicode.isDigit k.val = true → 48 ≤ k.val ∧ k.val ≤ 57 := by decide +kernel
  exact this ⟨c, h1⟩ h2
theorem ascii_digits {w : Str} (h1 : Txt.isascii w = true) (h2 : Txt.isdigit w = true) : NumText.AllDigits (tl w) ∧ tl w ≠ [] := by
  unfold Txt.isascii at h1
  unfold Txt.isdigit at h2
  rw [Bool.and_eq_true] at h2
  rw [← Array.all_toList, List.all_eq_true] at h1
  have h3 := h2.2
  rw [← Array.all_toList, List.all_eq_true] at h3
  refine ⟨fun c hc => dec_digit (of_decide_eq_true (h1 c hc)) (h3 c hc), fun z => ?_⟩
  have := of_decide_eq_true h2.1
  rw [len_tl, z] at this
  exact absurd this (by decide)
theorem starts_zero {w : Str} : Txt.startswith w "0" = true ↔ (tl w).head? = some 48 := by
  have e0 : ("0" : Str).cps.toList = [48] := by decide +kernel
  have l0 : ("0" : Str).length = 1 := by decide +kernel
  cases h : tl w with
  | nil =>
    have hw : w = "" := ext_tl (by rw [h]; decide +kernel)
    subst hw
    exact iff_of_false (by decide +kernel) (by simp)
  | cons c r =>
    unfold Txt.startswith Builtin.Str.subAt
    rw [l0]
    have hl : w.length = r.length + 1 := by rw [len_tl, h]; rfl
    rw [Bool.and_eq_true]
    constructor
    · rintro ⟨_, z⟩
      have z2 := congrArg Array.toList (eq_of_beq z)
      rw [Array.toList_extract, e0, show w.cps.toList = c :: r from h] at z2
      simp at z2
      simp [z2]
    · intro z
      have zc : c = 48 := by simpa using z
      subst zc
      refine ⟨decide_eq_true (by omega), ?_⟩
      refine beq_iff_eq.mpr (Array.toList_inj.mp ?_)
      rw [Array.toList_extract, e0, show w.cps.toList = 48 :: r from h]
      simp
section
variable {S : Sto} {Q : QD} {E : ED}
/-- a text of any signs: the number that it stands for, or None -/
theorem number_any {w : Str} {least most : Int} (m0 : 0 ≤ most) (hm : most < 10 ^ 9) (hw : w.length ≤ 100000) (qn : (∀ n : Nat, w = itx (n : Int) → ¬ (least ≤ (n : Int) ∧ (n : Int) ≤ most)) → Q .non S)
    (qi : ∀ n : Nat, w = itx (n : Int) → least ≤ (n : Int) → (n : Int) ≤ most → Q (.int (n : Int)) S) : F_number_in [.str w, .int least, .int most] S Q E := by
  obtain ⟨mo, rfl⟩ : ∃ mo : Nat, most = (mo : Int) := ⟨most.toNat, (Int.toNat_of_nonneg m0).symm⟩
  have hm' : mo < 10 ^ 9 := by omega
  have lm10 := numL_len (n := mo) (k := 10) (by decide) (by omega)
  unfold F_number_in
  refine ⟨rfl, ?_⟩
  refine ifB (b := !Txt.isascii w) (fun c => qn fun n e _ => ?_) fun c1 => ?_
  · subst e
    rw [itx_ascii] at c
    cases c
  refine ifB (b := !Txt.isdigit w) (fun c => qn fun n e _ => ?_) fun c2 => ?_
  · subst e
    rw [itx_digit] at c
    cases c
  have c1' : Txt.isascii w = true := by cases h : Txt.isascii w <;> rw [h] at c1 <;> first | rfl | cases c1
  have c2' : Txt.isdigit w = true := by cases h : Txt.isdigit w <;> rw [h] at c2 <;> first | rfl | cases c2
  obtain ⟨ad, ne⟩ := ascii_digits c1' c2'
  show num2 [some (.str w), some (.int least), some (.int (mo : Int)), none] S ⟨fun _ S' => Q .non S', Q, fun _ _ => False, fun _ _ => False⟩ noE
  unfold num2
  refine ⟨szd (by omega), ?_⟩
  refine ⟨nat_bd (by rw [Int.natAbs_natCast]; omega), ?_⟩
  refine ⟨szd (by show (itx (mo : Int)).length ≤ 100000; rw [itx_size]; omega), ?_⟩
  refine ifB (b := decide (((itx (mo : Int)).length : Int) < (w.length : Int))) (fun c => ?_) fun c => ?_
  · have c := of_decide_eq_true c
    refine qn fun n e hr => ?_
    subst e
    rw [itx_size, itx_size] at c
    have := numL_mono (m := mo) (n := n) (by omega)
    omega
  have c := of_decide_eq_false c
  have wl : w.length ≤ 10 := by rw [itx_size] at c; omega
  have fin : ∀ S' : Sto, S' = S → (tl w = [48] ∨ (tl w).head? ≠ some 48) → num3 [some (.str w), some (.int least), some (.int (mo : Int)), none] S' ⟨fun _ S' => Q .non S', Q, fun _ _ => False, fun _ _ => False⟩ noE := by
    rintro S' rfl hz
    obtain ⟨n, hn⟩ := digits_num _ (tl w) rfl ad ne hz
    have e : w = itx (n : Int) := ext_tl (by rw [tl_itx, hn])
    unfold num3
    have hi : PySem.intText? w = some (n : Int) := by
      rw [e]
      exact int_num (by rw [hn, ← len_tl]; omega)
    refine onS hi ⟨by omega, ?_⟩
    show dRet (dIf (dTest (dChain gLe gLe (dVar 1) (dVar 3) (dVar 2))) (dVar 3) (dC .non)) [some (.str w), some (.int least), some (.int (mo : Int)), some (.int (n : Int))] S' ⟨fun _ S' => Q .non S', Q, fun _ _ => False, fun _ _ => False⟩ noE
    refine ifB (b := decide (least ≤ (n : Int))) (fun h1 => ?_) fun h1 => ?_
    · refine ifB (b := decide ((n : Int) ≤ (mo : Int))) (fun h2 => ?_) fun h2 => ?_
      · exact qi n e (of_decide_eq_true h1) (of_decide_eq_true h2)
      · refine qn fun k ek hr => ?_
        have := itx_inj (Int.natCast_nonneg n) (Int.natCast_nonneg k) (e.symm.trans ek)
        have h2 := of_decide_eq_false h2
        omega
    · refine qn fun k ek hr => ?_
      have := itx_inj (Int.natCast_nonneg n) (Int.natCast_nonneg k) (e.symm.trans ek)
      have h1 := of_decide_eq_false h1
      omega
  refine ifB (b := Txt.startswith w "0") (fun c3 => ?_) fun c3 => ?_
  · refine eq_str ?_
    by_cases h0 : w = "0"
    · rw [decide_eq_true h0]
      exact fin S rfl (.inl (by rw [h0]; decide +kernel))
    · rw [decide_eq_false h0]
      refine qn fun n e hr => ?_
      rcases Nat.eq_zero_or_pos n with rfl | hp
      · exact h0 (e.trans itx_zero)
      · rw [e, itx_starts hp] at c3
        cases c3
  · exact fin S rfl (.inr fun z => by rw [starts_zero.mpr z] at c3; cases c3)
end
end Pu
namespace Pu
open PySem L2 Rb Gm TL
/-! ## texts cut in words, words in numbers -/
theorem spl_ne (S : List Nat) : ∀ (l : List Nat) (k : Nat) (acc : List Nat), spl S k acc l ≠ [] := by
  intro l
  induction l with
  | nil => intro k acc; rw [spl_nil]; exact fun z => nomatch z
  | cons c r ih =>
    intro k acc
    cases k with
    | zero =>
      by_cases h : pre S (c :: r) = true
      · rw [spl_hit h]; exact fun z => nomatch z
      · rw [spl_miss (by simpa using h)]; exact ih 0 _
    | succ k => exact ih k acc
theorem split_ne {x y : Str} (hy : tl y ≠ []) (hk : y.cps.all (· < 256) = true) : Txt.split x y ≠ [] := fun z => by
  have h := split_spl x y hy (kind_ok hk)
  rw [z] at h
  exact spl_ne _ _ _ _ h.symm
theorem join_back (x y : Str) : Txt.join y (Txt.split x y) = x := by
  rw [join_eq]
  exact StrLaws.join_split x y
theorem joinL_len {S : List Nat} (h : 1 ≤ S.length) : ∀ ps : List (List Nat), ps.length ≤ (joinL S ps).length + 1
  | [] => Nat.zero_le _
  | [p] => by show 1 ≤ _; omega
  | p :: q :: r => by
    have ih := joinL_len h (q :: r)
    show r.length + 1 + 1 ≤ (p ++ (S ++ joinL S (q :: r))).length + 1
    rw [List.length_append, List.length_append]
    have : r.length + 1 ≤ (joinL S (q :: r)).length + 1 := ih
    omega
theorem split_len {x y : Str} (h : 1 ≤ (tl y).length) : (Txt.split x y).length ≤ x.length + 1 := by
  have e := congrArg tl (join_back x y)
  rw [join_eq, tl_join] at e
  have := joinL_len h ((Txt.split x y).map tl)
  rw [e, List.length_map, ← len_tl] at this
  exact this
theorem joinL_part {S : List Nat} : ∀ {ps : List (List Nat)} {p : List Nat}, p ∈ ps → p.length ≤ (joinL S ps).length
  | [q], p, h => by rw [List.mem_singleton.mp h]; exact Nat.le_refl _
  | q :: q2 :: r, p, h => by
    show p.length ≤ (q ++ (S ++ joinL S (q2 :: r))).length
    rw [List.length_append, List.length_append]
    rcases List.mem_cons.mp h with rfl | h
    · omega
    · have := joinL_part (S := S) h
      omega
theorem split_part {x y p : Str} (h : p ∈ Txt.split x y) : p.length ≤ x.length := by
  have e := congrArg tl (join_back x y)
  rw [join_eq, tl_join] at e
  have := joinL_part (S := tl y) (List.mem_map_of_mem (f := tl) h)
  rw [e, ← len_tl, ← len_tl] at this
  exact this
/-- a word of numbers -/
structure GoodN (w : Str) (many : Nat) (most : Int) (ns : List Int) : Prop where
  e : w = numsTx ns
  ne : ns ≠ []
  len : ns.length ≤ many
  hb : ∀ i ∈ ns, 0 ≤ i ∧ i ≤ most
theorem GoodN.split {w : Str} {many : Nat} {most : Int} {ns : List Int} (h : GoodN w many most ns) : Txt.split w "," = ns.map itx := by
  rw [h.e]
  exact nums_split h.ne fun i hi => (h.hb i hi).1
theorem GoodN.one {w : Str} {many many' : Nat} {most most' : Int} {ns ns' : List Int} (h : GoodN w many most ns) (h' : GoodN w many' most' ns') : ns = ns' :=
  nums_inj h.ne h'.ne (fun i hi => (h.hb i hi).1) (fun i hi => (h'.hb i hi).1) (h.e.symm.trans h'.e)
def OkN (most : Int) (p : Str) (i : Int) : Prop := p = itx i ∧ 0 ≤ i ∧ i ≤ most
section
variable {S : Sto} {Q : QD} {E : ED}
open Classical in
/-- what number_in makes of a part -/
noncomputable def numD (most : Int) (d : D) : D := match d with
  | .str p => if h : ∃ i, OkN most p i then .int h.choose else .non
  | d => d
theorem numD_yes {most i : Int} {p : Str} (h : OkN most p i) : numD most (.str p) = .int i := by
  have hh : ∃ i, OkN most p i := ⟨i, h⟩
  unfold numD
  dsimp only
  rw [dif_pos hh]
  have hc := hh.choose_spec
  rw [itx_inj hc.2.1 h.2.1 (hc.1.symm.trans h.1)]
theorem numD_no {most : Int} {p : Str} (h : ¬ ∃ i, OkN most p i) : numD most (.str p) = .non := by
  unfold numD
  dsimp only
  rw [dif_neg h]
theorem number_numD {most : Int} {p : Str} (m0 : 0 ≤ most) (hm : most < 10 ^ 9) (hp : p.length ≤ 100000) (q : Q (numD most (.str p)) S) : F_number_in [.str p, .int 0, .int most] S Q E := by
  refine number_any m0 hm hp (fun h => ?_) fun n e h1 h2 => ?_
  · rw [numD_no] at q
    · exact q
    · rintro ⟨i, hi⟩
      refine h i.toNat ?_ ⟨by omega, by have := hi.2; omega⟩
      rw [Int.toNat_of_nonneg hi.2.1]
      exact hi.1
  · rw [numD_yes ⟨e, h1, h2⟩] at q
    exact q
theorem opts_of {most : Int} : ∀ ps : List Str, ∃ os, optsOf ((ps.map D.str).map (numD most)) = some os ∧ ((os.any Option.isNone = true ∧ ∃ p ∈ ps, ¬ ∃ i, OkN most p i) ∨
    (os.any Option.isNone = false ∧ ∃ ns : List Int, (ps.map D.str).map (numD most) = ns.map D.int ∧ ps = ns.map itx ∧ ∀ i ∈ ns, 0 ≤ i ∧ i ≤ most))
  | [] => ⟨[], rfl, .inr ⟨rfl, [], rfl, rfl, fun _ z => nomatch z⟩⟩
  | p :: ps => by
    obtain ⟨os, e, h⟩ := opts_of (most := most) ps
    by_cases hp : ∃ i, OkN most p i
    · obtain ⟨i, hi⟩ := hp
      refine ⟨some i :: os, ?_, ?_⟩
      · show optsOf (numD most (.str p) :: (ps.map D.str).map (numD most)) = _
        rw [numD_yes hi]
        show (optsOf _).map _ = _
        rw [e]
        rfl
      · rcases h with ⟨h1, x, hx, hn⟩ | ⟨h1, ns, e1, e2, hb⟩
        · exact .inl ⟨by simp [h1], x, List.mem_cons_of_mem _ hx, hn⟩
        · refine .inr ⟨by simp [h1], i :: ns, ?_, ?_, fun j hj => ?_⟩
          · show numD most (.str p) :: _ = _
            rw [numD_yes hi, e1]
            rfl
          · rw [hi.1, e2]
            rfl
          · rcases List.mem_cons.mp hj with rfl | hj
            · exact hi.2
            · exact hb j hj
    · refine ⟨none :: os, ?_, .inl ⟨rfl, p, List.mem_cons_self, hp⟩⟩
      show optsOf (numD most (.str p) :: (ps.map D.str).map (numD most)) = _
      rw [numD_no hp]
      show (optsOf _).map _ = _
      rw [e]
      rfl
theorem numbers_any {w : Str} {many : Nat} {most : Int} (m0 : 0 ≤ most) (hm : most < 10 ^ 9) (hw : w.length ≤ 20000) (hmany : many ≤ 1000) (qn : (∀ ns, ¬ GoodN w many most ns) → Q .non S) (qi : ∀ ns, GoodN w many most ns → Q (.tup (ns.map D.int)) S) :
    F_numbers_in [.str w, .int (many : Int), .int most] S Q E := by
  have sl := split_len (x := w) (y := ",") (by rw [tl_comma]; decide)
  have sn := split_ne (x := w) (y := ",") (by rw [tl_comma]; decide) kc
  have sb := join_back w ","
  have sp : ∀ p ∈ Txt.split w ",", p.length ≤ 20000 := fun p hp => Nat.le_trans (split_part hp) hw
  have hg : ∀ ns, GoodN w many most ns → Txt.split w "," = ns.map itx := fun ns h => h.split
  unfold F_numbers_in
  refine ⟨rfl, ⟨⟨by decide +kernel, szd (by omega)⟩, ?_⟩⟩
  generalize Txt.split w "," = ps at sl sn sb sp hg ⊢
  have pl : (ps.map D.str).length = ps.length := List.length_map ..
  refine ifB (b := decide ((many : Int) < ((ps.map D.str).length : Int))) (fun c => qn fun ns h => ?_) fun c => ?_
  · have c := of_decide_eq_true c
    have := hg ns h
    have h2 := h.len
    rw [this, List.length_map, List.length_map] at c
    omega
  have c := of_decide_eq_false c
  refine ⟨szd (by show (ps.map D.str).length ≤ 100000; omega), ?_⟩
  refine comp_map (src := []) (g := numD most) (fun _ p => p) (ps.map D.str) [] (fun x hx => ?_) ?_
  · obtain ⟨p, hp, rfl⟩ := List.mem_map.mp hx
    exact ⟨_, rfl, fun Q' q' => number_numD m0 hm (by have := sp p hp; omega) q'⟩
  rw [List.nil_append]
  obtain ⟨os, eo, ho⟩ := opts_of (most := most) ps
  refine onS eo ?_
  rcases ho with ⟨h1, p, hp, hn⟩ | ⟨h1, ns, e1, e2, hb⟩
  · rw [h1]
    refine qn fun ns h => hn ?_
    rw [hg ns h] at hp
    obtain ⟨i, hi, rfl⟩ := List.mem_map.mp hp
    exact ⟨i, rfl, h.hb i hi⟩
  · rw [h1, e1]
    refine qi ns ⟨?_, ?_, ?_, hb⟩
    · rw [← sb, e2]
      rfl
    · rintro rfl
      exact sn (by rw [e2]; rfl)
    · have : ps.length = ns.length := by rw [e2, List.length_map]
      omega
end
end Pu
namespace Pu
open PySem L2 Rb Gm TL
structure GoodT (w : Str) (wk rd : Int) : Prop where
  e : w = itx wk ++ "/" ++ itx rd
  r1 : 1 ≤ rd
  lt : rd < wk
  w2 : wk ≤ 1000
theorem GoodT.split {w : Str} {wk rd : Int} (h : GoodT w wk rd) : Txt.split w "/" = [itx wk, itx rd] := by
  rw [h.e]
  have := h.r1
  have := h.lt
  exact ticks_split (by omega) (by omega)
section
variable {S : Sto} {Q : QD} {E : ED}
def tk3 : FS := (dSeq (dAsg (dCallW F_number_in (dCons (dBin gIx (dVar 1) (dC (.int 0))) (dCons (dC (.int 1)) (dCons (dC (.int 1000)) dNil)))) (gN 2))
 (dSeq (dIfS (dTest (dBin (gIs false) (dVar 2) (dC .non)))
 (dRet (dC .non))
 dSkip)
 (dSeq (dAsg (dCallW F_number_in (dCons (dBin gIx (dVar 1) (dC (.int 1))) (dCons (dC (.int 1)) (dCons (dBin gSub (dVar 2) (dC (.int 1))) dNil)))) (gN 3))
 (dRet (dIf (dTest (dBin (gIs false) (dVar 3) (dC .non))) (dC .non) (dTup (dCons (dVar 2) (dCons (dVar 3) dNil))))))))
def tk4 : FS := (dSeq (dAsg (dCallW F_number_in (dCons (dBin gIx (dVar 1) (dC (.int 1))) (dCons (dC (.int 1)) (dCons (dBin gSub (dVar 2) (dC (.int 1))) dNil)))) (gN 3))
 (dRet (dIf (dTest (dBin (gIs false) (dVar 3) (dC .non))) (dC .non) (dTup (dCons (dVar 2) (dCons (dVar 3) dNil))))))
theorem tk4_ok {w a b : Str} {n : Int} {De : DEnds} (n1 : 1 ≤ n) (n2 : n ≤ 1000) (hb : b.length ≤ 20000) (qn : (∀ m : Nat, b = itx (m : Int) → ¬ (1 ≤ (m : Int) ∧ (m : Int) ≤ n - 1)) → De.rt .non S) (qi : ∀ m : Nat, b = itx (m : Int) → 1 ≤ (m : Int) → (m : Int) ≤ n - 1 → De.rt (.tup [.int n, .int (m : Int)]) S) :
    tk4 [some (.str w), some (.lst false [.str a, .str b]), some (.int n), none] S De noE := by
  unfold tk4
  refine seq_asg ?_
  refine number_any (w := b) (least := 1) (most := n - 1) (by omega) (by omega) (by omega) (fun h => ?_) fun m e h3 h4 => ?_
  · exact ⟨rfl, qn h⟩
  · exact ⟨rfl, szr rfl, qi m e h3 h4⟩
theorem tk3_ok {w a b : Str} {De : DEnds} (ha : a.length ≤ 20000) (hb : b.length ≤ 20000) (qn : (∀ n m : Nat, a = itx (n : Int) → b = itx (m : Int) → ¬ (1 ≤ (m : Int) ∧ (m : Int) < n ∧ (n : Int) ≤ 1000)) → De.rt .non S)
    (qi : ∀ n m : Nat, a = itx (n : Int) → b = itx (m : Int) → 1 ≤ (m : Int) → (m : Int) < n → (n : Int) ≤ 1000 → De.rt (.tup [.int (n : Int), .int (m : Int)]) S) :
    tk3 [some (.str w), some (.lst false [.str a, .str b]), none, none] S De noE := by
  unfold tk3
  refine seq_asg ?_
  refine number_any (w := a) (least := 1) (most := 1000) (by decide) (by decide) (by omega) (fun h => ?_) fun n e h1 h2 => ?_
  · exact ⟨rfl, qn fun n m e _ hr => h n e ⟨by omega, by omega⟩⟩
  · refine ⟨rfl, ?_⟩
    show tk4 [some (.str w), some (.lst false [.str a, .str b]), some (.int (n : Int)), none] S De noE
    refine tk4_ok h1 h2 hb (fun h => qn fun n' m e' e2 hr => ?_) fun m e' h3 h4 => qi n m e e' h3 (by omega) h2
    have : (n : Int) = (n' : Int) := itx_inj (Int.natCast_nonneg n) (Int.natCast_nonneg n') (e.symm.trans e')
    exact h m e2 ⟨hr.1, by omega⟩
def tk2 : FS := (dSeq (dIfS (dTest (dBin iNe (dB gLen (dCons (dVar 1) dNil)) (dC (.int 2))))
 (dRet (dC .non))
 dSkip)
 tk3)
theorem tk2_no {w : Str} {ps : List Str} {De : DEnds} (c : ps.length ≠ 2) (q : De.rt .non S) : tk2 [some (.str w), some (.lst false (ps.map D.str)), none, none] S De noE := by
  unfold tk2
  refine eq_int ?_
  rw [decide_eq_false (show ¬ (((ps.map D.str).length : Nat) : Int) = 2 by rw [List.length_map]; omega)]
  exact q
theorem tk2_cut {f : FE} {A R : FS} {ρ : Rho} {De : DEnds} (h : ∀ K : QD, K (.bl false) S → f ρ S K noE) (q : R ρ S De noE) : dSeq (dIfS (dTest f) A dSkip) R ρ S De noE := h _ q
theorem tk2_yes {w a b : Str} {De : DEnds} (q : tk3 [some (.str w), some (.lst false [.str a, .str b]), none, none] S De noE) : tk2 [some (.str w), some (.lst false [.str a, .str b]), none, none] S De noE := by
  unfold tk2
  refine tk2_cut (f := dBin iNe (dB gLen (dCons (dVar 1) dNil)) (dC (.int 2))) (fun K hK => ?_) q
  refine eq_int ?_
  rw [decide_eq_true (show (((([.str a, .str b] : List D).length : Nat)) : Int) = 2 from rfl)]
  exact hK
theorem ticks_any {w : Str} (hw : w.length ≤ 20000) (qn : (∀ wk rd, ¬ GoodT w wk rd) → Q .non S) (qi : ∀ wk rd, GoodT w wk rd → Q (.tup [.int wk, .int rd]) S) : F_ticks_in [.str w] S Q E := by
  have sl := split_len (x := w) (y := "/") (by rw [tl_slash]; decide)
  have sb := join_back w "/"
  have sp : ∀ p ∈ Txt.split w "/", p.length ≤ 20000 := fun p hp => Nat.le_trans (split_part hp) hw
  have hg : ∀ wk rd, GoodT w wk rd → Txt.split w "/" = [itx wk, itx rd] := fun wk rd h => h.split
  unfold F_ticks_in
  refine ⟨rfl, ⟨⟨by decide +kernel, szd (by omega)⟩, ?_⟩⟩
  show tk2 [some (.str w), some (.lst false ((Txt.split w "/").map D.str)), none, none] S ⟨fun _ S' => Q .non S', Q, fun _ _ => False, fun _ _ => False⟩ noE
  generalize Txt.split w "/" = ps at sl sb sp hg ⊢
  by_cases c : ps.length = 2
  · obtain ⟨a, b, rfl⟩ : ∃ a b, ps = [a, b] := by
      match ps, c with
      | [a, b], _ => exact ⟨a, b, rfl⟩
    have ea : w = a ++ "/" ++ b := by
      rw [← sb]
      refine ext_tl ?_
      rw [join_eq, tl_join, tl_append, tl_append]
      show tl a ++ (tl "/" ++ tl b) = _
      rw [List.append_assoc]
    refine tk2_yes (tk3_ok (sp a List.mem_cons_self) (sp b (List.mem_cons_of_mem _ List.mem_cons_self)) (fun h => qn fun wk rd g => ?_) fun n m e e' h1 h2 h3 => qi n m ⟨?_, h1, h2, h3⟩)
    · have ee := hg wk rd g
      have r1 := g.r1
      have r2 := g.lt
      have r3 := g.w2
      have e1 : a = itx wk := (List.cons.inj ee).1
      have e2 : b = itx rd := (List.cons.inj (List.cons.inj ee).2).1
      refine h wk.toNat rd.toNat ?_ ?_ ⟨by omega, by omega, by omega⟩
      · rw [Int.toNat_of_nonneg (by omega)]
        exact e1
      · rw [Int.toNat_of_nonneg (by omega)]
        exact e2
    · rw [ea, e, e']
  · refine tk2_no c (qn fun wk rd g => c ?_)
    rw [hg wk rd g]
    rfl
/-- what a word stands for at its place -/
inductive Pt : Nat → Str → D → Prop
  | ticks {w : Str} {wk rd : Int} (h : GoodT w wk rd) : Pt 0 w (.tup [.int wk, .int rd])
  | bikes {w : Str} {ns : List Int} (h : GoodN w 12 12 ns) : Pt 1 w (.tup (ns.map D.int))
  | joint : Pt 2 "from" (.str "from")
  | starts {w : Str} {ns : List Int} (h : GoodN w 10 1000000 ns) : Pt 3 w (.tup (ns.map D.int))
theorem Pt.data {i : Nat} {w : Str} {d : D} (h : Pt i w d) : noGlo d = true ∧ isNon d = false := by cases h <;> exact ⟨rfl, rfl⟩
theorem Pt.lt {i : Nat} {w : Str} {d : D} (h : Pt i w d) : i < 4 := by cases h <;> decide
theorem part_any {w : Str} {i : Nat} (hw : w.length ≤ 20000) (qn : (∀ d, ¬ Pt i w d) → Q .non S) (qi : ∀ d, Pt i w d → Q d S) : F_part_in [.str w, .int (i : Int)] S Q E := by
  unfold F_part_in
  refine ⟨rfl, eq_int ?_⟩
  by_cases h0 : i = 0
  · subst h0
    exact ticks_any hw (fun h => qn fun d p => by cases p with | ticks g => exact h _ _ g) fun wk rd g => qi _ (.ticks g)
  rw [decide_eq_false (show ¬ (i : Int) = 0 by omega)]
  refine eq_int ?_
  by_cases h1 : i = 1
  · subst h1
    exact numbers_any (many := 12) (most := 12) (by decide) (by decide) hw (by decide) (fun h => qn fun d p => by cases p with | bikes g => exact h _ g) fun ns g => qi _ (.bikes g)
  rw [decide_eq_false (show ¬ (i : Int) = 1 by omega)]
  refine eq_int ?_
  by_cases h2 : i = 2
  · subst h2
    refine eq_str ?_
    by_cases e : w = "from"
    · subst e
      rw [decide_eq_true rfl]
      exact qi _ .joint
    · rw [decide_eq_false e]
      exact qn fun d p => by cases p; exact e rfl
  rw [decide_eq_false (show ¬ (i : Int) = 2 by omega)]
  refine eq_int ?_
  by_cases h3 : i = 3
  · subst h3
    exact numbers_any (many := 10) (most := 1000000) (by decide) (by decide) hw (by decide) (fun h => qn fun d p => by cases p with | starts g => exact h _ g) fun ns g => qi _ (.starts g)
  rw [decide_eq_false (show ¬ (i : Int) = 3 by omega)]
  exact qn fun d p => by have := p.lt; omega
/-- the first place of a text that is wrong -/
def BadAt (ws : List Str) (k : Nat) : Prop := (∀ (j : Nat) (w : Str), j < k → ws[j]? = some w → ∃ d, Pt j w d) ∧ ((∃ w, ws[k]? = some w ∧ ∀ d, ¬ Pt k w d) ∨ (k = ws.length ∧ k < 4))
def parse2 : FS := (dSeq (dIfS (dTest (dBin gLt (dB gLen (dCons (dVar 1) dNil)) (dC (.int 4))))
 (dRaise "BadText" "index" (dB gLen (dCons (dVar 1) dNil)))
 dSkip)
 (dSeq (dAsg (dVar 1) (gUn 4 (gsCons (gN 5) (gsCons (gN 6) (gsCons (gN 7) (gsCons (gN 8) gsNil))))))
 (dRet (dTup (dCons (dTup (dStar (dVar 5) (dCons (dVar 6) dNil))) (dCons (dVar 8) dNil))))))
theorem parse_any {t : Str} (ht : t.length ≤ 20000) (qe : ∀ (k : Nat) (S' : Sto), BadAt (Txt.split t " ") k → (∃ ds, S' = S ++ [.lst ds]) → E ("BadText", [("index", .int (k : Int))]) S') (qi : ∀ (v : Vn) (ds : List D), VnOk v → t = v.tt → Q v.sd (S ++ [.lst ds])) : F_parse_trip [.str t] S Q E := by
  have sl := split_len (x := t) (y := " ") (by rw [tl_space]; decide)
  have sb := join_back t " "
  have sp : ∀ p ∈ Txt.split t " ", p.length ≤ 20000 := fun p hp => Nat.le_trans (split_part hp) ht
  unfold F_parse_trip
  refine ⟨rfl, szr rfl, ⟨⟨by decide +kernel, szd (by omega)⟩, ?_⟩⟩
  generalize Txt.split t " " = ws at sl sb sp qe ⊢
  have wl : (ws.map D.str).length = ws.length := List.length_map ..
  show dLoop _ _ _ (enumD (ws.map D.str)) [some (.str t), some (.cell S.length), none, none, none, none, none, none, none] (S ++ [.lst []]) ⟨fun ρ' S' => parse2 ρ' S' ⟨fun _ S' => Q .non S', Q, fun _ _ => False, fun _ _ => False⟩ E, Q, fun _ _ => False, fun _ _ => False⟩ E
  refine for_inv (src := []) (enumD (ws.map D.str)) (fun i ρ S' => ∃ ds y2 y3 y4, S' = S ++ [.lst ds] ∧ ρ = [some (.str t), some (.cell S.length), y2, y3, y4, none, none, none, none] ∧ ds.length = i ∧ ∀ (j : Nat) (w : Str), j < i → ws[j]? = some w → ∃ d, ds[j]? = some d ∧ Pt j w d) ⟨[], _, _, _, rfl, rfl, rfl, fun j w h => absurd h (Nat.not_lt_zero _)⟩ ?_ ?_
  · rintro i x ρ S' K hx hK ⟨ds, y2, y3, y4, rfl, rfl, hl, hp⟩
    obtain ⟨z, hz, rfl⟩ := enumD_get hx
    rw [List.getElem?_map] at hz
    obtain ⟨w, hw, rfl⟩ := Option.map_eq_some_iff.mp hz
    have hil : i < ws.length := (List.getElem?_eq_some_iff.mp hw).1
    refine ⟨rfl, part_any (sp w (List.mem_of_getElem? hw)) (fun h => ?_) fun d h => ?_⟩
    · refine ⟨rfl, ?_⟩
      refine qe i _ ⟨fun j u hj hu => ?_, .inl ⟨w, hw, h⟩⟩ ⟨ds, rfl⟩
      obtain ⟨d, _, hd⟩ := hp j u hj hu
      exact ⟨d, hd⟩
    · obtain ⟨g1, g2⟩ := h.data
      refine ⟨g1, ?_⟩
      rw [g2]
      have hc : cellOf (S ++ [Cl.lst ds]) (.cell S.length) = some (S.length, ds) := cell_lst get_new
      refine onS hc ?_
      refine onS hc ⟨szd (by show ds.length + 1 ≤ 100000; omega), ?_⟩
      refine hK _ _ ⟨ds ++ [d], _, _, _, set_last, rfl, by rw [List.length_append, hl]; rfl, fun j u hj hu => ?_⟩
      by_cases e : j = i
      · subst e
        rw [hw] at hu
        cases hu
        exact ⟨d, by rw [← hl]; simp, h⟩
      · obtain ⟨d', h1, h2⟩ := hp j u (by omega) hu
        exact ⟨d', by rw [List.getElem?_append_left (by omega)]; exact h1, h2⟩
  · rintro ρ S' ⟨ds, y2, y3, y4, rfl, rfl, hl, hp⟩
    have el : (enumD (ws.map D.str)).length = ws.length := by rw [enumD_len, wl]
    rw [el] at hl hp
    have hs : seqOf (S ++ [Cl.lst ds]) (.cell S.length) = some ds := seq_cell get_new
    unfold parse2
    refine onS hs ?_
    refine ifB (b := decide ((ds.length : Int) < 4)) (fun c => ?_) fun c => ?_
    · have c := of_decide_eq_true c
      refine onS hs ?_
      rw [hl]
      refine qe ws.length _ ⟨fun j u hj hu => ?_, .inr ⟨rfl, by omega⟩⟩ ⟨ds, rfl⟩
      obtain ⟨d, _, hd⟩ := hp j u hj hu
      exact ⟨d, hd⟩
    · have c := of_decide_eq_false c
      have h4 : ws.length = 4 := by
        by_cases h5 : 4 < ws.length
        · exfalso
          obtain ⟨d, _, hd⟩ := hp 4 ws[4] h5 (List.getElem?_eq_getElem h5)
          have := hd.lt
          omega
        · omega
      obtain ⟨w0, w1, w2, w3, rfl⟩ : ∃ a b c d, ws = [a, b, c, d] := by
        match ws, h4 with
        | [a, b, c, d], _ => exact ⟨a, b, c, d, rfl⟩
      obtain ⟨d0, d1, d2, d3, rfl⟩ : ∃ a b c d, ds = [a, b, c, d] := by
        match ds, hl with
        | [a, b, c, d], _ => exact ⟨a, b, c, d, rfl⟩
      obtain ⟨x0, e0, p0⟩ := hp 0 w0 (by show 0 < 4; decide) rfl
      obtain ⟨x1, e1, p1⟩ := hp 1 w1 (by show 1 < 4; decide) rfl
      obtain ⟨x2, e2, p2⟩ := hp 2 w2 (by show 2 < 4; decide) rfl
      obtain ⟨x3, e3, p3⟩ := hp 3 w3 (by show 3 < 4; decide) rfl
      cases e0
      cases e1
      cases e2
      cases e3
      cases p0 with
      | @ticks _ wk rd g0 =>
      cases p1 with
      | @bikes _ bs g1 =>
      cases p2
      cases p3 with
      | @starts _ ns g3 =>
      have ok : VnOk ⟨wk, rd, bs, ns⟩ := ⟨⟨g0.r1, g0.lt, g0.w2, List.length_pos_iff.mpr g1.ne, g1.len, g1.hb⟩, ⟨List.length_pos_iff.mpr g3.ne, g3.len, g3.hb⟩⟩
      have et : t = Vn.tt ⟨wk, rd, bs, ns⟩ := by
        rw [← sb, g0.e, g1.e, g3.e]
        rfl
      refine onS hs ⟨rfl, ?_⟩
      refine ⟨szr rfl, szr rfl, ?_⟩
      exact qi ⟨wk, rd, bs, ns⟩ _ ok et
end
end Pu
namespace Pu
open PySem L2 Rb Gm TL
theorem zipD_self : ∀ xs : List D, zipD xs xs = xs.map fun x => D.tup [x, x]
  | [] => rfl
  | x :: xs => by
    show D.tup [x, x] :: zipD xs xs = _
    rw [zipD_self xs]
    rfl
section
variable {S : Sto} {Q : QD} {E : ED}
theorem same_int {k : Nat} {i : Int} (q : Q (.bl true) S) : F_law_same_2 k [.int i, .int i] S Q E := by
  have go : ∀ R : FF, dDef 2 4 (den_law_same_2 R) [.int i, .int i] S Q E := fun R => by
    refine ⟨rfl, ?_⟩
    refine ⟨rfl, ?_⟩
    refine eqB_ok (p := .bool false) (q := .bool false) rfl rfl rfl rfl ?_
    exact ne_int rfl q
  cases k with
  | zero => rw [F_law_same_2_zero]; exact go _
  | succ k => rw [F_law_same_2_succ]; exact go _
theorem same_tup {k : Nat} {xs : List D} (hl : xs.length ≤ 1000) (h : ∀ x ∈ xs, ∀ Q' : QD, Q' (.bl true) S → F_law_same_2 k [x, x] S Q' noE) (q : Q (.bl true) S) : F_law_same_2 (k + 1) [.tup xs, .tup xs] S Q E := by
  rw [F_law_same_2_succ]
  refine ⟨rfl, ?_⟩
  refine ne_int rfl ?_
  refine ⟨szd (by show (zipD xs xs).length ≤ 100000; rw [zipD_self, List.length_map]; omega), ?_⟩
  refine comp_flt (src := []) (fun _ => false) id (fun _ p => p) (zipD xs xs) [] (fun x hx => ?_) ?_
  · rw [zipD_self] at hx
    obtain ⟨y, hy, rfl⟩ := List.mem_map.mp hx
    exact ⟨_, rfl, fun Q' q' => h y hy _ q', fun z => nomatch z⟩
  · have e : ((zipD xs xs).filter fun _ => false) = [] := List.filter_eq_nil_iff.mpr fun _ _ z => nomatch z
    rw [e]
    exact ⟨szr rfl, eq_same (k := 1) (Shp.lst fun x z => nomatch z) rfl q⟩
theorem same_st {v : Vn} (ok : VnOk v) (q : Q (.bl true) S) : F_law_same_2 6 [v.sd, v.sd] S Q E := by
  have l2 := ok.R.l2
  have n2 := ok.st.n2
  refine same_tup (k := 5) (xs := [v.rv, v.sv]) (by show 2 ≤ 1000; decide) (fun x hx Q' q' => ?_) q
  simp only [List.mem_cons, List.not_mem_nil, or_false] at hx
  rcases hx with rfl | rfl
  · refine same_tup (k := 4) (xs := [.int v.wk, .int v.rd, .tup (v.bs.map D.int)]) (by show 3 ≤ 1000; decide) (fun x hx Q' q' => ?_) q'
    simp only [List.mem_cons, List.not_mem_nil, or_false] at hx
    rcases hx with rfl | rfl | rfl
    · exact same_int q'
    · exact same_int q'
    · refine same_tup (k := 3) (by rw [List.length_map]; omega) (fun x hx Q' q' => ?_) q'
      obtain ⟨i, _, rfl⟩ := List.mem_map.mp hx
      exact same_int q'
  · refine same_tup (k := 4) (xs := v.ns.map D.int) (by rw [List.length_map]; omega) (fun x hx Q' q' => ?_) q'
    obtain ⟨i, _, rfl⟩ := List.mem_map.mp hx
    exact same_int q'
end
end Pu
namespace Pu
open PySem L2 Rb Gm TL
/-! ## texts that are bent (k63, k56) -/
def sumW (ws : List Str) : Nat := (ws.map (·.length)).sum
theorem sumW_app (a b : List Str) : sumW (a ++ b) = sumW a + sumW b := by unfold sumW; rw [List.map_append, List.sum_append]
theorem sumW_take (n : Nat) : ∀ ws : List Str, sumW (ws.take n) ≤ sumW ws := fun ws => by
  have h := sumW_app (ws.take n) (ws.drop n)
  rw [List.take_append_drop] at h
  omega
theorem sumW_drop (n : Nat) : ∀ ws : List Str, sumW (ws.drop n) ≤ sumW ws := fun ws => by
  have h := sumW_app (ws.take n) (ws.drop n)
  rw [List.take_append_drop] at h
  omega
def cutW (ws : List Str) (lo hi : Option Int) : List Str := (ws.drop (HT.sIx ws.length 0 lo)).take (HT.sIx ws.length ws.length hi - HT.sIx ws.length 0 lo)
theorem cutW_D (ws : List Str) (lo hi : Option Int) : cutD (ws.map D.str) lo hi = (cutW ws lo hi).map D.str := by
  unfold cutD cutW
  rw [List.length_map, List.map_take, List.map_drop]
theorem cutW_bd (ws : List Str) (lo hi : Option Int) : sumW (cutW ws lo hi) ≤ sumW ws ∧ (cutW ws lo hi).length ≤ ws.length := by
  unfold cutW
  refine ⟨Nat.le_trans (sumW_take _ _) (sumW_drop _ _), ?_⟩
  rw [List.length_take, List.length_drop]
  omega
theorem joinL_sum {S : List Nat} : ∀ ps : List (List Nat), (ps.map List.length).sum ≤ (joinL S ps).length
  | [] => Nat.le_refl _
  | [p] => Nat.le_refl _
  | p :: q :: r => by
    have ih := joinL_sum (S := S) (q :: r)
    show p.length + ((q :: r).map List.length).sum ≤ (p ++ (S ++ joinL S (q :: r))).length
    rw [List.length_append, List.length_append]
    exact Nat.add_le_add_left (Nat.le_trans ih (Nat.le_add_left _ _)) _
theorem split_sum {x y : Str} : sumW (Txt.split x y) ≤ x.length := by
  have e := congrArg tl (join_back x y)
  rw [join_eq, tl_join] at e
  have := joinL_sum (S := tl y) ((Txt.split x y).map tl)
  rw [e, ← len_tl, List.map_map] at this
  have e2 : sumW (Txt.split x y) = ((Txt.split x y).map (List.length ∘ tl)).sum := rfl
  rw [e2]
  exact this
theorem join_ok {f : FE} {a : Str} {ys : List Str} {b : Bool} {ρ : Rho} {S : Sto} {Q : QD} {Ed : ED} (hf : ∀ K : QD, K (.lst b (ys.map D.str)) S → f ρ S K Ed) (hl : sumW ys + ys.length * a.length ≤ 100000) (q : Q (.str (Txt.join a ys)) S) : dJoin (dC (.str a)) f ρ S Q Ed := by
  refine hf _ ?_
  refine onS (a := ys.map D.str) rfl ?_
  exact onS (strsOf_map ys) ⟨hl, q⟩
theorem l1_space : (" " : Str).length = 1 := by decide +kernel
theorem cutS_len (z : Str) (lo hi : Option Int) : (cutS z lo hi).length ≤ z.length := by
  unfold cutS
  rw [len_tl, tl_mk, List.length_take, List.length_drop, len_tl z]
  show min _ ((tl z).length - _) ≤ _
  omega
theorem seqI_yes {i : Nat} {m n : Int} {A R : FS} {ρ : Rho} {S : Sto} {De : DEnds} {Ed : ED} (g : getV ρ i = some (.int m)) (e : m = n) (h : A ρ S { De with nx := fun ρ' S' => R ρ' S' De Ed } Ed) : dSeq (dIfS (dTest (dBin iEq (dVar i) (dC (.int n)))) A dSkip) R ρ S De Ed := by
  refine onS g (eq_int ?_)
  rw [decide_eq_true e]
  exact h
theorem seqI_no {i : Nat} {m n : Int} {A R : FS} {ρ : Rho} {S : Sto} {De : DEnds} {Ed : ED} (g : getV ρ i = some (.int m)) (e : m ≠ n) (h : R ρ S De Ed) : dSeq (dIfS (dTest (dBin iEq (dVar i) (dC (.int n)))) A dSkip) R ρ S De Ed := by
  refine onS g (eq_int ?_)
  rw [decide_eq_false e]
  exact h
def bentR2 : FS := (dSeq (dAsg (dCallW F_law_draw_3 (dCons (dVar 0) (dCons (dBin gAdd (dB gLen (dCons (dVar 1) dNil)) (dC (.int 1))) dNil))) (gN 5))
 (dSeq (dAsg (dBin gIx (dLst (dCons (dC (.str "0")) (dCons (dC (.str "1")) (dCons (dC (.str "5")) (dCons (dC (.str "9")) (dCons (dC (.str "-")) (dCons (dC (.str " ")) (dCons (dC (.str "+")) (dCons (dC (.str "_")) (dCons (dC (.str ",")) (dCons (dC (.str "/")) (dCons (dC (.str "from")) (dCons (dC (.str "x")) dNil))))))))))))) (dCallW F_law_draw_3 (dCons (dVar 0) (dCons (dC (.int 12)) dNil)))) (gN 6))
 (dRet (dBin gAdd (dBin gAdd (dSl (dVar 1) dNoP (dPart (dVar 5))) (dBin gMulS (dVar 6) (dCallW F_law_draw_3 (dCons (dVar 0) (dCons (dC (.int 2)) dNil))))) (dSl (dVar 1) (dPart (dBin gAdd (dVar 5) (dCallW F_law_draw_3 (dCons (dVar 0) (dCons (dC (.int 2)) dNil))))) dNoP)))))
def bentR : FS := (dSeq (dIfS (dTest (dBin iEq (dVar 4) (dC (.int 0))))
 (dRet (dJoin (dC (.str " ")) (dBin gAdd (dBin gAdd (dSl (dVar 2) dNoP (dPart (dVar 3))) (dSl (dVar 2) (dPart (dVar 3)) (dPart (dBin gAdd (dVar 3) (dC (.int 1)))))) (dSl (dVar 2) (dPart (dVar 3)) dNoP))))
 dSkip)
 (dSeq (dIfS (dTest (dBin iEq (dVar 4) (dC (.int 1))))
 (dRet (dJoin (dC (.str " ")) (dBin gAdd (dSl (dVar 2) (dPart (dVar 3)) dNoP) (dSl (dVar 2) dNoP (dPart (dVar 3))))))
 dSkip)
 (dSeq (dIfS (dTest (dBin iEq (dVar 4) (dC (.int 2))))
 (dRet (dJoin (dC (.str " ")) (dBin gAdd (dSl (dVar 2) dNoP (dPart (dVar 3))) (dSl (dVar 2) (dPart (dBin gAdd (dVar 3) (dC (.int 1)))) dNoP))))
 dSkip)
 (dSeq (dIfS (dTest (dBin iEq (dVar 4) (dC (.int 3))))
 (dRet (dJoin (dC (.str " ")) (dBin gAdd (dVar 2) (dSl (dVar 2) (dPart (dVar 3)) dNoP))))
 dSkip)
 bentR2))))
end Pu
namespace Pu
open PySem L2 Rb
theorem gv_dec {v : D} {p : PyData} (e : toPy v = some p) (h : (p.showable && p.leavesShort 100 && decide (p.depth ≤ 2) && decide (p.bulk ≤ 20) && known v && below 0 v && noX v) = true) : Gv 2 20 v := by
  simp only [Bool.and_eq_true, decide_eq_true_eq] at h
  obtain ⟨⟨⟨⟨⟨⟨a, b⟩, c⟩, d⟩, f⟩, g⟩, i⟩ := h
  exact ⟨⟨p, e, ⟨a, b, c, d⟩⟩, f, g, i⟩
end Pu
namespace Pu
open PySem L2 Rb Gm TL
/-! ## edits by their tuples, batches that are all right -/
section
variable {S : Sto} {k : Nat} {Q : QD} {E : ED} {v : Vn} {t : TKd} {done vs : List D} {w : Bool}
inductive Run : Vn → List Edt → List Vn → Prop where
  | nil {v : Vn} : Run v [] []
  | cons {v v' : Vn} {e : Edt} {es : List Edt} {us : List Vn} : Okk v e v' → Run v' es us → Run v (e :: es) (v' :: us)
theorem Run.len {es : List Edt} {us : List Vn} (r : Run v es us) : us.length = es.length := by
  induction r with
  | nil => rfl
  | cons _ _ ih => exact congrArg (· + 1) ih
theorem Run.at {es : List Edt} {us : List Vn} (r : Run v es us) : ∀ {i : Nat} {e : Edt}, es[i]? = some e → ∃ a b, (v :: us)[i]? = some a ∧ us[i]? = some b ∧ Okk a e b := by
  induction r with
  | nil => intro i e h; simp at h
  | cons o r ih =>
    intro i e h
    cases i with
    | zero => cases h; exact ⟨_, _, rfl, rfl, o⟩
    | succ i => exact ih h
theorem Run.ok {es : List Edt} {us : List Vn} (r : Run v es us) : VnOk v → ∀ u ∈ v :: us, VnOk u := by
  induction r with
  | nil => intro ok u hu; rw [List.mem_singleton.mp hu]; exact ok
  | cons o r ih =>
    intro ok u hu
    rcases List.mem_cons.mp hu with z | z
    · rw [z]; exact ok
    · exact ih (app_ok ok o.app) u z
end
end Pu
namespace Pu
open PySem L2 Rb Gm
/-! ## one person more or less, bicycles at a station -/
/-! ## how late one more person may begin -/
structure LateOk (g : Int → Int) (e : Int) (d : D) : Prop where
  w : (d = .non ∧ ∀ s : Int, 0 ≤ s → e < g s) ∨ ∃ s : Int, d = .int s ∧ 0 ≤ s ∧ s ≤ e ∧ g s ≤ e ∧ ∀ s' : Int, s < s' → e < g s'
theorem LateOk.rep {g : Int → Int} {e : Int} {d : D} (h : LateOk g e d) (he : e ≤ 100000000) : Rep 0 0 d := by
  rcases h.w with ⟨rfl, a⟩ | ⟨s, rfl, s0, se, s1, s2⟩
  · exact Rep.non
  · exact Rep.int (by omega) (by omega)
end Pu
namespace Pu
open PySem L2 Rb Gm
/-! ## the error of any road, told by the program and by the law (k35) -/
/-! ### the law's own word -/
theorem eqN_ok {neg f f2 : Bool} {xs : List D} {S : Sto} {Q : QD} (h : ∀ x ∈ xs, (toPy x).isSome = true) (q : Q (.bl (nb neg xs.isEmpty)) S) : gEqN neg (.lst f xs) (.lst f2 []) S Q := by
  have all : ∀ {xs : List D}, (∀ x ∈ xs, (toPy x).isSome = true) → ∃ ps, toPyAll xs = some ps ∧ ps.isEmpty = xs.isEmpty := by
    intro xs
    induction xs with
    | nil => intro _; exact ⟨[], rfl, rfl⟩
    | cons x xs ih =>
      intro h
      obtain ⟨ps, e, _⟩ := ih fun y hy => h y (List.mem_cons_of_mem _ hy)
      obtain ⟨p, ep⟩ := Option.isSome_iff_exists.mp (h x List.mem_cons_self)
      refine ⟨p :: ps, ?_, rfl⟩
      show (toPy x).bind _ = _
      rw [ep, e]
      rfl
  obtain ⟨ps, e, ee⟩ := all h
  refine onS (pyC_of (p := .list ps) (by show (toPyAll xs).map _ = _; rw [e]; rfl)) (onS (pyC_of (d := .lst f2 []) (p := .list []) rfl) ?_)
  show Q (.bl (nb neg ps.isEmpty)) S
  rw [ee]
  exact q
end Pu
namespace Pu
open PySem L2 Rb Gm TL
/-! ## the law's own reading of numbers (k56) -/
def dig (c : Nat) : Bool := decide (c ∈ ("0123456789" : Str).cps.toList)
theorem dig_iff (c : Nat) : dig c = true ↔ 48 ≤ c ∧ c ≤ 57 := by
  have e : ("0123456789" : Str).cps.toList = [48, 49, 50, 51, 52, 53, 54, 55, 56, 57] := by decide +kernel
  unfold dig
  rw [e, decide_eq_true_eq]
  simp only [List.mem_cons, List.not_mem_nil, or_false]
  omega
def pG : D → Bool
  | .str a => match a.cps.toList.head? with
    | some c => !dig c
    | none => false
  | _ => false
theorem filt_nil {p : Str} : ((signsD p).filter pG).isEmpty = (tl p).all dig := by
  unfold signsD
  show (((tl p).map fun c => D.str ⟨#[c]⟩).filter pG).isEmpty = _
  induction tl p with
  | nil => rfl
  | cons c l ih =>
    rw [List.map_cons]
    cases h : dig c with
    | true =>
      rw [List.filter_cons_of_neg (by show ¬ (!dig c) = true; rw [h]; decide), ih, List.all_cons, h]
      rfl
    | false =>
      rw [List.filter_cons_of_pos (by show (!dig c) = true; rw [h]; rfl), List.all_cons, h]
      rfl
theorem okn_len {most i : Int} {p : Str} (hm : most ≤ 1000000) (h : OkN most p i) : 1 ≤ p.length ∧ p.length ≤ 7 ∧ (tl p).all dig = true := by
  obtain ⟨rfl, h0, h1⟩ := h
  obtain ⟨n, rfl⟩ : ∃ n : Nat, i = (n : Int) := ⟨i.toNat, (Int.toNat_of_nonneg h0).symm⟩
  rw [itx_size]
  refine ⟨?_, numL_len (k := 7) (by decide) (by omega), ?_⟩
  · cases hn : numL n with
    | nil => exact absurd hn (numL_ne n)
    | cons a b => exact Nat.succ_pos _
  · rw [List.all_eq_true]
    intro c hc
    exact (dig_iff c).mpr (itx_digits n c hc)
section
variable {S : Sto} {Q : QD} {E : ED}
def lnumB : FS := (dIfS (dOr (dAnd (dTest (dBin iEq (dBin gIx (dVar 4) (dC (.int 0))) (dC (.str "0")))) (dTest (dBin iNe (dVar 4) (dC (.str "0"))))) (dTest (dBin gGt (dB gIntS (dCons (dVar 4) dNil)) (dVar 2))))
 (dRet (dC .non))
 dSkip)
def lnumA : FS := (dSeq (dIfS (dOr (dNot (dTest (dChain gLe gLe (dC (.int 1)) (dB gLen (dCons (dVar 4) dNil)) (dC (.int 7))))) (dTest (dBin (gEqN true) (dLc (st1 5) (dTest (dBin gNotInG (dVar 5) (dC (.str "0123456789")))) (dVar 5) (dItStr (dVar 4))) (dLst dNil))))
 (dRet (dC .non))
 dSkip)
 lnumB)
theorem lnumB_ok {p : Str} {y0 y1 y3 y5 : Option D} {most : Int} {De : DEnds} (l1 : 1 ≤ p.length) (l7 : p.length ≤ 7) (ad : NumText.AllDigits (tl p)) (m0 : 0 ≤ most) (qn : (¬ ∃ i, OkN most p i) → De.rt .non S) (qi : ∀ i, OkN most p i → De.nx [y0, y1, some (.int most), y3, some (.str p), y5] S) :
    lnumB [y0, y1, some (.int most), y3, some (.str p), y5] S De noE := by
  unfold lnumB
  have ne : tl p ≠ [] := fun z => by rw [len_tl, z] at l1; exact absurd l1 (by decide)
  obtain ⟨c, r, hc⟩ : ∃ c r, tl p = c :: r := by
    cases h : tl p with
    | nil => exact absurd h ne
    | cons c r => exact ⟨c, r, rfl⟩
  have h0 : atI p.cps.toList 0 = some c := by
    show atI (tl p) ((0 : Nat) : Int) = _
    exact atI_nat (by rw [hc]; rfl)
  have fin : (tl p = [48] ∨ (tl p).head? ≠ some 48) → (dTest (dBin gGt (dB gIntS (dCons (dVar 4) dNil)) (dVar 2))) [y0, y1, some (.int most), y3, some (.str p), y5] S (fun b S1 => if b = true then (dRet (dC .non)) [y0, y1, some (.int most), y3, some (.str p), y5] S1 De noE else dSkip [y0, y1, some (.int most), y3, some (.str p), y5] S1 De noE) noE := fun hz => by
    obtain ⟨n, hn⟩ := digits_num _ (tl p) rfl ad ne hz
    have e : p = itx (n : Int) := ext_tl (by rw [tl_itx, hn])
    have hi : PySem.intText? p = some (n : Int) := by
      rw [e]
      exact int_num (by rw [hn, ← len_tl]; omega)
    refine onS hi ⟨by omega, ?_⟩
    refine ifB (b := decide (most < (n : Int))) (fun h => qn ?_) fun h => qi n ⟨e, Int.natCast_nonneg n, by have := of_decide_eq_false h; omega⟩
    rintro ⟨i, h1, h2, h3⟩
    have := itx_inj (Int.natCast_nonneg n) h2 (e.symm.trans h1)
    have h := of_decide_eq_true h
    omega
  refine ⟨szd (by omega), ?_⟩
  refine onS h0 ?_
  refine eq_str ?_
  by_cases hz : c = 48
  · subst hz
    have e0 : (⟨#[48]⟩ : Str) = "0" := by decide +kernel
    rw [decide_eq_true e0]
    refine eq_str ?_
    by_cases hp : p = "0"
    · rw [decide_eq_true hp]
      refine fin (.inl ?_)
      rw [hp]
      decide +kernel
    · rw [decide_eq_false hp]
      refine qn ?_
      rintro ⟨i, h1, h2, h3⟩
      obtain ⟨n, rfl⟩ : ∃ n : Nat, i = (n : Int) := ⟨i.toNat, (Int.toNat_of_nonneg h2).symm⟩
      rcases Nat.eq_zero_or_pos n with rfl | hpos
      · exact hp (h1.trans itx_zero)
      · have s0 := itx_starts hpos
        rw [← h1] at s0
        rw [starts_zero.mpr (by rw [hc]; rfl)] at s0
        cases s0
  · have e0 : ¬ (⟨#[c]⟩ : Str) = "0" := fun z => by
      have := congrArg tl z
      rw [show tl ("0" : Str) = [48] by decide +kernel] at this
      have h2 : [c] = [48] := this
      exact hz (List.cons.inj h2).1
    rw [decide_eq_false e0]
    refine fin (.inr ?_)
    rw [hc]
    intro z
    exact hz (Option.some.inj z)
theorem lnumA_ok {p : Str} {y0 y1 y3 y5 : Option D} {most : Int} {De : DEnds} (lp : p.length ≤ 20000) (m0 : 0 ≤ most) (hm : most ≤ 1000000) (qn : (¬ ∃ i, OkN most p i) → De.rt .non S) (qi : ∀ i, OkN most p i → De.nx [y0, y1, some (.int most), y3, some (.str p), y5] S) :
    lnumA [y0, y1, some (.int most), y3, some (.str p), y5] S De noE := by
  unfold lnumA
  have ns : (signsD p).length = p.length := by
    unfold signsD
    rw [List.length_map]
    rfl
  refine ⟨szd (by omega), ?_⟩
  refine ifB (b := decide ((1 : Int) ≤ (p.length : Int))) (fun c1 => ?_) fun c1 => qn fun ⟨i, hi⟩ => ?_
  · have c1 := of_decide_eq_true c1
    refine ifB (b := !decide ((p.length : Int) ≤ 7)) (fun c2 => qn fun ⟨i, hi⟩ => ?_) fun c2 => ?_
    · have := (okn_len hm hi).2.1
      rw [decide_eq_true (by omega)] at c2
      cases c2
    · have l7 : p.length ≤ 7 := by
        by_cases h : (p.length : Int) ≤ 7
        · omega
        · rw [decide_eq_false h] at c2
          cases c2
      refine ⟨szd (by show (signsD p).length ≤ 100000; omega), ?_⟩
      refine comp_flt (src := []) pG id (fun _ q => q) (signsD p) [] (fun x hx => ?_) ?_
      · unfold signsD at hx
        obtain ⟨c, hc, rfl⟩ := List.mem_map.mp hx
        refine ⟨_, rfl, fun Q' q' => ?_, fun _ Q' q' => q'⟩
        refine ⟨rfl, ?_⟩
        exact q'
      · rw [List.nil_append, List.map_id]
        refine ⟨szr rfl, eqN_ok (fun x hx => ?_) ?_⟩
        · have hx := (List.mem_filter.mp hx).1
          unfold signsD at hx
          obtain ⟨c, hc, rfl⟩ := List.mem_map.mp hx
          rfl
        · rw [filt_nil]
          cases ha : (tl p).all dig with
          | true =>
            rw [List.all_eq_true] at ha
            exact lnumB_ok (by omega) l7 (fun c hc => (dig_iff c).mp (ha c hc)) m0 qn qi
          | false =>
            refine qn fun ⟨i, hi⟩ => ?_
            rw [(okn_len hm hi).2.2] at ha
            cases ha
  · have := (okn_len hm hi).1
    rw [decide_eq_true (by omega)] at c1
    cases c1
theorem lnumbers_any {w sg : Str} {most : Int} (hs : (sg.length == 0) = false) (h1 : 1 ≤ (tl sg).length) (m0 : 0 ≤ most) (hm : most ≤ 1000000) (hw : w.length ≤ 20000)
    (qn : (¬ ∃ ns : List Int, Txt.split w sg = ns.map itx ∧ ∀ i ∈ ns, 0 ≤ i ∧ i ≤ most) → Q .non S) (qi : ∀ ns : List Int, Txt.split w sg = ns.map itx → (∀ i ∈ ns, 0 ≤ i ∧ i ≤ most) → Q (.tup (ns.map D.int)) S) : F_law_numbers [.str w, .str sg, .int most] S Q E := by
  have sl := split_len (x := w) (y := sg) h1
  have sp : ∀ p ∈ Txt.split w sg, p.length ≤ 20000 := fun p hp => Nat.le_trans (split_part hp) hw
  unfold F_law_numbers
  refine ⟨rfl, ⟨⟨hs, szd (by omega)⟩, ?_⟩⟩
  generalize Txt.split w sg = ps at sl sp qn qi ⊢
  have pl : (ps.map D.str).length = ps.length := List.length_map ..
  show dLoop (gN 4) lnumA [] (ps.map D.str) [some (.str w), some (.str sg), some (.int most), some (.lst false (ps.map D.str)), none, none] S _ noE
  refine for_inv (src := []) (ps.map D.str) (fun k ρ S' => S' = S ∧ (∃ y4, ρ = [some (.str w), some (.str sg), some (.int most), some (.lst false (ps.map D.str)), y4, none]) ∧ ∀ p ∈ ps.take k, ∃ i, OkN most p i) ⟨rfl, ⟨_, rfl⟩, fun p hp => by rw [List.take_zero] at hp; exact absurd hp List.not_mem_nil⟩ ?_ ?_
  · rintro k x ρ S' K hx hK ⟨rfl, ⟨y4, rfl⟩, hall⟩
    rw [List.getElem?_map] at hx
    obtain ⟨p, hp, rfl⟩ := Option.map_eq_some_iff.mp hx
    have pm := List.mem_of_getElem? hp
    refine lnumA_ok (sp p pm) m0 hm (fun h => qn fun ⟨ns, e, hb⟩ => h ?_) fun i hi => hK _ _ ⟨rfl, ⟨_, rfl⟩, fun q hq => ?_⟩
    · rw [e] at pm
      obtain ⟨i, hi, rfl⟩ := List.mem_map.mp pm
      exact ⟨i, rfl, hb i hi⟩
    · rw [List.take_add_one, hp] at hq
      rcases List.mem_append.mp hq with z | z
      · exact hall q z
      · rw [List.mem_singleton.mp z]
        exact ⟨i, hi⟩
  · rintro ρ S' ⟨rfl, ⟨y4, rfl⟩, hall⟩
    rw [pl, List.take_length] at hall
    obtain ⟨os, eo, ho⟩ := opts_of (most := most) ps
    rcases ho with ⟨_, p, hp, hn⟩ | ⟨_, ns, e1, e2, hb⟩
    · exact absurd (hall p hp) hn
    · refine ⟨szd (by show (ps.map D.str).length ≤ 100000; omega), ?_⟩
      refine comp_map (src := []) (g := numD most) (fun _ p => p) (ps.map D.str) [] (fun x hx => ?_) ?_
      · obtain ⟨p, hp, rfl⟩ := List.mem_map.mp hx
        obtain ⟨i, hi⟩ := hall p hp
        refine ⟨_, rfl, fun Q' q' => ?_⟩
        rw [numD_yes hi] at q'
        have l := okn_len hm hi
        obtain ⟨ep, i0, i1⟩ := hi
        refine onS (a := i) ?_ ⟨by omega, q'⟩
        obtain ⟨n, rfl⟩ : ∃ n : Nat, i = (n : Int) := ⟨i.toNat, (Int.toNat_of_nonneg i0).symm⟩
        rw [ep]
        exact itx_int (by omega)
      · rw [List.nil_append, e1]
        exact qi ns e2 hb
end
end Pu
namespace Pu
open PySem L2 Rb Gm TL
section
variable {S : Sto} {Q : QD} {E : ED}
theorem goodN_of {w : Str} {many : Nat} {most : Int} {ns : List Int} (e : Txt.split w "," = ns.map itx) (hl : ns.length ≤ many) (hb : ∀ i ∈ ns, 0 ≤ i ∧ i ≤ most) : GoodN w many most ns := by
  refine ⟨?_, ?_, hl, hb⟩
  · rw [← join_back w ",", e]
    rfl
  · rintro rfl
    exact split_ne (x := w) (y := ",") (by rw [tl_comma]; decide) kc (by rw [e]; rfl)
theorem lpart_any {w : Str} {i : Nat} (hw : w.length ≤ 20000) (qn : (∀ d, ¬ Pt i w d) → Q .non S) (qi : ∀ d, Pt i w d → Q d S) : F_law_part [.int (i : Int), .str w] S Q E := by
  unfold F_law_part
  refine ⟨rfl, ?_⟩
  by_cases h0 : i = 0
  · subst h0
    refine seqI_yes rfl rfl ?_
    refine seq_asg ?_
    refine lnumbers_any (w := w) (sg := "/") (most := 1000) (by decide +kernel) (by rw [tl_slash]; decide) (by decide) (by decide) hw (fun h => ?_) fun ns e hb => ?_
    · refine ⟨rfl, qn fun d p => ?_⟩
      cases p with
      | @ticks _ wk rd g =>
        have r1 := g.r1
        have r2 := g.lt
        have r3 := g.w2
        exact h ⟨[wk, rd], g.split, fun i hi => by
          simp only [List.mem_cons, List.not_mem_nil, or_false] at hi
          rcases hi with rfl | rfl <;> omega⟩
    · refine ⟨rfl, ?_⟩
      have nl : (ns.map D.int).length = ns.length := List.length_map ..
      refine eq_int ?_
      by_cases c : ns.length = 2
      · obtain ⟨a, b, rfl⟩ : ∃ a b, ns = [a, b] := by
          match ns, c with
          | [a, b], _ => exact ⟨a, b, rfl⟩
        rw [decide_eq_true (show (((([a, b] : List Int).map D.int).length : Nat) : Int) = 2 from rfl)]
        refine ifB (b := decide ((1 : Int) ≤ b)) (fun c1 => ?_) fun c1 => qn fun d p => ?_
        · refine ifB (b := decide (b < a)) (fun c2 => ?_) fun c2 => qn fun d p => ?_
          · refine qi _ (.ticks ⟨?_, of_decide_eq_true c1, of_decide_eq_true c2, (hb a List.mem_cons_self).2⟩)
            rw [← join_back w "/", e]
            refine ext_tl ?_
            rw [join_eq, tl_join, tl_append, tl_append]
            show tl (itx a) ++ (tl "/" ++ tl (itx b)) = _
            rw [List.append_assoc]
          · cases p with
            | @ticks _ wk rd g =>
              have ee := g.split.symm.trans e
              have r1 := g.r1
              have r2 := g.lt
              have e1 : wk = a := itx_inj (by omega) (hb a List.mem_cons_self).1 (List.cons.inj ee).1
              have e2 : rd = b := itx_inj (by omega) (hb b (List.mem_cons_of_mem _ List.mem_cons_self)).1 (List.cons.inj (List.cons.inj ee).2).1
              have c2 := of_decide_eq_false c2
              omega
        · cases p with
          | @ticks _ wk rd g =>
            have ee := g.split.symm.trans e
            have r1 := g.r1
            have e2 : rd = b := itx_inj (by omega) (hb b (List.mem_cons_of_mem _ List.mem_cons_self)).1 (List.cons.inj (List.cons.inj ee).2).1
            have c1 := of_decide_eq_false c1
            omega
      · rw [decide_eq_false (show ¬ (((ns.map D.int).length : Nat) : Int) = 2 by omega)]
        refine qn fun d p => ?_
        cases p with
        | @ticks _ wk rd g =>
          have ee := congrArg List.length (g.split.symm.trans e)
          rw [List.length_map] at ee
          exact c ee.symm
  refine seqI_no rfl (by omega) ?_
  by_cases h1 : i = 1
  · subst h1
    refine seqI_yes rfl rfl ?_
    refine seq_asg ?_
    refine lnumbers_any (w := w) (sg := ",") (most := 12) (by decide +kernel) (by rw [tl_comma]; decide) (by decide) (by decide) hw (fun h => ?_) fun ns e hb => ?_
    · refine ⟨rfl, qn fun d p => ?_⟩
      cases p with
      | @bikes _ ns g => exact h ⟨ns, g.split, g.hb⟩
    · refine ⟨rfl, ?_⟩
      have nl : (ns.map D.int).length = ns.length := List.length_map ..
      refine ifB (b := decide (((ns.map D.int).length : Int) ≤ 12)) (fun c => ?_) fun c => qn fun d p => ?_
      · have c := of_decide_eq_true c
        exact qi _ (.bikes (goodN_of e (by omega) hb))
      · have c := of_decide_eq_false c
        cases p with
        | @bikes _ ns' g =>
          have ee := congrArg List.length (g.split.symm.trans e)
          rw [List.length_map, List.length_map] at ee
          have := g.len
          omega
  refine seqI_no rfl (by omega) ?_
  by_cases h2 : i = 2
  · subst h2
    refine seqI_yes rfl rfl ?_
    refine eq_str ?_
    by_cases e : w = "from"
    · subst e
      rw [decide_eq_true rfl]
      exact qi _ .joint
    · rw [decide_eq_false e]
      exact qn fun d p => by cases p; exact e rfl
  refine seqI_no rfl (by omega) ?_
  refine seq_asg ?_
  refine eq_int ?_
  by_cases h3 : i = 3
  · subst h3
    rw [decide_eq_true (show ((3 : Nat) : Int) = 3 from rfl)]
    refine ⟨⟨by decide, by decide, by decide⟩, ?_⟩
    have e6 : (10 : Int) ^ (6 : Int).toNat = 1000000 := by decide
    show F_law_numbers [.str w, .str ",", .int ((10 : Int) ^ (6 : Int).toNat)] S _ _
    rw [e6]
    refine lnumbers_any (w := w) (sg := ",") (most := 1000000) (by decide +kernel) (by rw [tl_comma]; decide) (by decide) (by decide) hw (fun h => ?_) fun ns e hb => ?_
    · refine ⟨rfl, qn fun d p => ?_⟩
      cases p with
      | @starts _ ns g => exact h ⟨ns, g.split, g.hb⟩
    · refine ⟨rfl, ?_⟩
      have nl : (ns.map D.int).length = ns.length := List.length_map ..
      refine ifB (b := decide (((ns.map D.int).length : Int) ≤ 10)) (fun c => ?_) fun c => qn fun d p => ?_
      · have c := of_decide_eq_true c
        exact qi _ (.starts (goodN_of e (by omega) hb))
      · have c := of_decide_eq_false c
        cases p with
        | @starts _ ns' g =>
          have ee := congrArg List.length (g.split.symm.trans e)
          rw [List.length_map, List.length_map] at ee
          have := g.len
          omega
  · rw [decide_eq_false (show ¬ (i : Int) = 3 by omega)]
    refine ⟨rfl, qn fun d p => ?_⟩
    have := p.lt
    omega
end
end Pu
namespace Pu
open PySem L2 Rb Gm TL
/-! ## what a text is told and expected to be (k56) -/
theorem Pt.one {i : Nat} {w : Str} {d d' : D} (h : Pt i w d) (h' : Pt i w d') : d = d' := by
  cases h with
  | ticks g =>
    cases h' with
    | ticks g' =>
      have ee := g.split.symm.trans g'.split
      have := g.r1
      have := g.lt
      have := g'.r1
      have := g'.lt
      rw [itx_inj (by omega) (by omega) (List.cons.inj ee).1, itx_inj (by omega) (by omega) (List.cons.inj (List.cons.inj ee).2).1]
  | bikes g =>
    cases h' with
    | bikes g' => rw [g.one g']
  | joint =>
    cases h'
    rfl
  | starts g =>
    cases h' with
    | starts g' => rw [g.one g']
open Classical in
noncomputable def partR (i : Nat) (w : Str) : D := if h : ∃ d, Pt i w d then h.choose else .non
theorem partR_yes {i : Nat} {w : Str} {d : D} (h : Pt i w d) : partR i w = d := by
  have hh : ∃ d, Pt i w d := ⟨d, h⟩
  unfold partR
  rw [dif_pos hh]
  exact hh.choose_spec.one h
theorem partR_no {i : Nat} {w : Str} (h : ∀ d, ¬ Pt i w d) : partR i w = .non := by
  unfold partR
  rw [dif_neg fun ⟨d, hd⟩ => h d hd]
noncomputable def partG : D → D
  | .tup [.int k, .str w] => partR k.toNat w
  | d => d
structure Nd (d : D) (p : PyData) : Prop where
  py : toPy d = some p
  pl : p.plain = true
  eq : PyData.eqv p .none = isNon d
theorem plain_ints : ∀ ns : List Int, PyData.plainAll (ns.map PyData.int) = true
  | [] => rfl
  | i :: ns => by
    show (PyData.plain (.int i) && PyData.plainAll (ns.map PyData.int)) = true
    rw [plain_ints ns]
    rfl
theorem Pt.nd {i : Nat} {w : Str} {d : D} (h : Pt i w d) : ∃ p, Nd d p := by
  have hints : ∀ ns : List Int, ∃ p, Nd (.tup (ns.map D.int)) p := fun ns => ⟨.tuple (ns.map .int), by show (toPyAll (ns.map D.int)).map _ = _; rw [py_ints]; rfl, plain_ints ns, rfl⟩
  cases h with
  | ticks g => exact hints [_, _]
  | bikes g => exact hints _
  | joint => exact ⟨.str "from", rfl, rfl, rfl⟩
  | starts g => exact hints _
theorem nd_non : Nd .non .none := ⟨rfl, rfl, rfl⟩
theorem nds_all : ∀ {L : List D}, (∀ d ∈ L, ∃ p, Nd d p) → ∃ ps, toPyAll L = some ps ∧ PyData.plainAll ps = true ∧ ps.map (fun z => PyData.eqv z .none) = L.map isNon
  | [], _ => ⟨[], rfl, rfl, rfl⟩
  | d :: L, h => by
    obtain ⟨ps, e1, e2, e3⟩ := nds_all (L := L) fun x hx => h x (List.mem_cons_of_mem _ hx)
    obtain ⟨p, hp⟩ := h d List.mem_cons_self
    refine ⟨p :: ps, ?_, ?_, ?_⟩
    · show (toPy d).bind _ = _
      rw [hp.py, e1]
      rfl
    · show (p.plain && PyData.plainAll ps) = true
      rw [hp.pl, e2]
      rfl
    · rw [List.map_cons, List.map_cons, e3, hp.eq]
noncomputable def partsL (ws : List Str) : List D := (enumD (ws.map D.str)).map partG
theorem partsL_len (ws : List Str) : (partsL ws).length = ws.length := by
  unfold partsL
  rw [List.length_map, enumD_len, List.length_map]
theorem partsL_at {ws : List Str} {i : Nat} {w : Str} (h : ws[i]? = some w) : (partsL ws)[i]? = some (partR i w) := by
  unfold partsL
  rw [List.getElem?_map]
  unfold enumD
  rw [List.getElem?_mapIdx, List.getElem?_map, h]
  rfl
theorem partsL_nd {ws : List Str} : ∀ d ∈ partsL ws, ∃ p, Nd d p := by
  intro d hd
  obtain ⟨i, hi, rfl⟩ := List.getElem_of_mem hd
  have hi' : i < ws.length := by rw [partsL_len] at hi; exact hi
  have e := partsL_at (List.getElem?_eq_getElem hi')
  rw [List.getElem?_eq_getElem hi] at e
  rw [Option.some.inj e]
  by_cases h : ∃ d, Pt i ws[i] d
  · obtain ⟨d, hd⟩ := h
    rw [partR_yes hd]
    exact hd.nd
  · rw [partR_no fun d hd => h ⟨d, hd⟩]
    exact ⟨_, nd_non⟩
section
variable {S : Sto} {Q : QD} {E : ED}
def due3 : FS := (dSeq (dIfS (dTest (dBin gInP (dC .non) (dVar 2)))
 (dRet (dTup (dCons (dC (.str "BadText")) (dCons (dMLv gIndexP (dVar 2) (dCons (dC .non) dNil)) dNil))))
 dSkip)
 (dSeq (dIfS (dTest (dBin gLt (dB gLen (dCons (dVar 2) dNil)) (dC (.int 4))))
 (dRet (dTup (dCons (dC (.str "BadText")) (dCons (dB gLen (dCons (dVar 2) dNil)) dNil))))
 dSkip)
 (dRet (dTup (dCons (dBin gAdd (dBin gIx (dVar 2) (dC (.int 0))) (dTup (dCons (dBin gIx (dVar 2) (dC (.int 1))) dNil))) (dCons (dBin gIx (dVar 2) (dC (.int 3))) dNil))))))
theorem due_head {t : Str} (ht : t.length ≤ 20000) (q : due3 [some (.str t), some (.lst false ((Txt.split t " ").map D.str)), some (.lst false (partsL (Txt.split t " "))), none, none] S ⟨fun _ S' => Q .non S', Q, fun _ _ => False, fun _ _ => False⟩ noE) : F_law_due_2 [.str t] S Q E := by
  have sl := split_len (x := t) (y := " ") (by rw [tl_space]; decide)
  have sp : ∀ p ∈ Txt.split t " ", p.length ≤ 20000 := fun p hp => Nat.le_trans (split_part hp) ht
  unfold F_law_due_2
  refine ⟨rfl, ⟨⟨by decide +kernel, szd (by omega)⟩, ?_⟩⟩
  generalize Txt.split t " " = ws at sl sp q ⊢
  have wl : (ws.map D.str).length = ws.length := List.length_map ..
  refine ⟨szd (by show (enumD (ws.map D.str)).length ≤ 100000; rw [enumD_len]; omega), ?_⟩
  refine comp_map (src := []) (g := partG) (fun _ p => p) (enumD (ws.map D.str)) [] (fun x hx => ?_) ?_
  · obtain ⟨j, hj, ej⟩ := List.getElem_of_mem hx
    obtain ⟨z, hz, rfl⟩ := enumD_get (List.getElem?_eq_some_iff.mpr ⟨hj, ej⟩)
    rw [List.getElem?_map] at hz
    obtain ⟨w, hw, rfl⟩ := Option.map_eq_some_iff.mp hz
    refine ⟨_, rfl, fun Q' q' => lpart_any (sp w (List.mem_of_getElem? hw)) (fun h => ?_) fun d h => ?_⟩
    · have q' : Q' (partR (j : Int).toNat w) S := q'
      rw [Int.toNat_natCast, partR_no h] at q'
      exact q'
    · have q' : Q' (partR (j : Int).toNat w) S := q'
      rw [Int.toNat_natCast, partR_yes h] at q'
      exact q'
  · rw [List.nil_append]
    exact q
theorem due_bad {t : Str} {k : Nat} (ht : t.length ≤ 20000) (hb : BadAt (Txt.split t " ") k) (q : Q (.tup [.str "BadText", .int (k : Int)]) S) : F_law_due_2 [.str t] S Q E := by
  refine due_head ht ?_
  have sl := split_len (x := t) (y := " ") (by rw [tl_space]; decide)
  generalize Txt.split t " " = ws at hb sl ⊢
  obtain ⟨ps, e1, e2, e3⟩ := nds_all (partsL_nd (ws := ws))
  have pl := partsL_len ws
  have pyL : pyC S (.lst false (partsL ws)) = some (.list ps) := pyC_of (by show (toPyAll _).map _ = _; rw [e1]; rfl)
  have psl : ps.length = ws.length := by
    have := congrArg List.length e3
    rw [List.length_map, List.length_map] at this
    omega
  have ea : (ps.any fun z => PyData.eqv z .none) = (partsL ws).any isNon := by
    have h1 : (ps.any fun z => PyData.eqv z .none) = (ps.map fun z => PyData.eqv z .none).any id := by rw [List.any_map]; rfl
    have h2 : (partsL ws).any isNon = ((partsL ws).map isNon).any id := by rw [List.any_map]; rfl
    rw [h1, h2, e3]
  have ef : (ps.findIdx? fun z => PyData.eqv z .none) = (partsL ws).findIdx? isNon := by
    have h1 : (ps.map fun z => PyData.eqv z .none).findIdx? id = ps.findIdx? fun z => PyData.eqv z .none := by rw [List.findIdx?_map]; rfl
    have h2 : ((partsL ws).map isNon).findIdx? id = (partsL ws).findIdx? isNon := by rw [List.findIdx?_map]; rfl
    rw [← h1, ← h2, e3]
  have yes : ∀ (j : Nat) (w : Str), ws[j]? = some w → (∃ d, Pt j w d) → ∀ d, (partsL ws)[j]? = some d → isNon d = false := fun j w hw ⟨d', hd'⟩ d hd => by
    rw [partsL_at hw, partR_yes hd'] at hd
    cases hd
    exact hd'.data.2
  unfold due3
  refine onS pyL ?_
  refine ⟨⟨e2, rfl, by decide⟩, ?_⟩
  rw [ea]
  obtain ⟨hall, ⟨w, hw, hn⟩ | ⟨h1, h2⟩⟩ := hb
  · have hk : k < ws.length := (List.getElem?_eq_some_iff.mp hw).1
    have hi : (partsL ws).findIdx? isNon = some k := by
      rw [List.findIdx?_eq_some_iff_getElem]
      refine ⟨by omega, ?_, fun j hj => ?_⟩
      · have := partsL_at hw
        rw [List.getElem?_eq_getElem (by omega), partR_no hn] at this
        rw [Option.some.inj this]
        rfl
      · have hj' : j < ws.length := by omega
        have := yes j ws[j] (List.getElem?_eq_getElem hj') (hall j ws[j] hj (List.getElem?_eq_getElem hj')) _ (List.getElem?_eq_getElem (by omega))
        rw [this]
        decide
    have hany : (partsL ws).any isNon = true := by
      rw [List.any_eq_true]
      obtain ⟨h3, h4, _⟩ := List.findIdx?_eq_some_iff_getElem.mp hi
      exact ⟨_, List.getElem_mem h3, h4⟩
    rw [hany]
    refine onS pyL ?_
    refine ⟨⟨e2, rfl, by decide, by omega⟩, ?_⟩
    rw [ef]
    refine onS hi ?_
    exact ⟨szr rfl, q⟩
  · have hany : (partsL ws).any isNon = false := by
      rw [List.any_eq_false]
      intro d hd
      obtain ⟨j, hj, rfl⟩ := List.getElem_of_mem hd
      have hj' : j < ws.length := by omega
      rw [yes j ws[j] (List.getElem?_eq_getElem hj') (hall j ws[j] (by omega) (List.getElem?_eq_getElem hj')) _ (List.getElem?_eq_getElem hj)]
      decide
    rw [hany]
    refine ifT (b := decide (((partsL ws).length : Int) < 4)) (decide_eq_true (by omega)) ?_
    refine ⟨szr rfl, ?_⟩
    rw [show (((partsL ws).length : Nat) : Int) = (k : Int) by rw [pl, h1]]
    exact q
end
end Pu
namespace Pu
open PySem L2 Rb Gm TL
theorem pts_of {v : Vn} (ok : VnOk v) : Pt 0 (itx v.wk ++ "/" ++ itx v.rd) (.tup [.int v.wk, .int v.rd]) ∧ Pt 1 (numsTx v.bs) (.tup (v.bs.map D.int)) ∧ Pt 3 (numsTx v.ns) (.tup (v.ns.map D.int)) := by
  have n1 : v.bs ≠ [] := fun z => by have := ok.R.l1; rw [z] at this; exact absurd this (by decide)
  have n2 : v.ns ≠ [] := fun z => by have := ok.st.n1; rw [z] at this; exact absurd this (by decide)
  exact ⟨.ticks ⟨rfl, ok.R.rd1, ok.R.lt, ok.R.w2⟩, .bikes ⟨rfl, n1, ok.R.l2, ok.R.hb⟩, .starts ⟨rfl, n2, ok.st.n2, ok.st.sb⟩⟩
theorem words_of {u : Vn} (ok : VnOk u) : Txt.split u.tt " " = [itx u.wk ++ "/" ++ itx u.rd, numsTx u.bs, "from", numsTx u.ns] := by
  have r1 := ok.R.rd1
  have r2 := ok.R.lt
  exact trip_split (by omega) (by omega) (fun i hi => (ok.R.hb i hi).1) fun i hi => (ok.st.sb i hi).1
def hTold : FS := (dSeq (dIfS (dOr (dNot (dTest (dIsX [("BadText", "TripError", true)] 1 "TripError"))) (dTest (dIsXT [("BadText", "BadRoad", false), ("BadText", "BadStarts", false), ("BadText", "LookupError", false)] 1 ["BadRoad", "BadStarts", "LookupError"])))
 (dRet (dC (.str "other")))
 dSkip)
 (dRet (dTup (dCons (dC (.str "BadText")) (dCons (dXf ["BadText"] 1 "index") dNil)))))
theorem htold_ok {S : Sto} {v0 e : D} {De : DEnds} (q : De.rt (.tup [.str "BadText", e]) S) : hTold [some v0, some (.exc "BadText" [("index", e)])] S De noE := by
  unfold hTold
  dsimp only [dSeq, dIfS, dOr, dNot, dTest]
  refine isX_of (b := true) (x := "BadText") (fs := [("index", e)]) rfl (by decide) ?_
  simp only [onBl, Bool.not_true, Bool.false_eq_true, if_false]
  refine isXT_of (b := false) (x := "BadText") (fs := [("index", e)]) rfl (by decide) ?_
  simp only [onBl, Bool.false_eq_true, if_false]
  dsimp only [dSkip]
  show dXf ["BadText"] 1 "index" [some v0, some (.exc "BadText" [("index", e)])] S _ noE
  exact xf_of (v := e) (x := "BadText") (fs := [("index", e)]) rfl (by decide) rfl ⟨szr rfl, q⟩
section
variable {S : Sto} {Q : QD} {E : ED}
theorem due_good {v : Vn} (ok : VnOk v) (q : Q v.sd S) : F_law_due_2 [.str v.tt] S Q E := by
  have tn : v.tt.length ≤ 400 := tripT_len ok.R ok.st
  refine due_head (by omega) ?_
  rw [words_of ok]
  obtain ⟨p0, p1, p3⟩ := pts_of ok
  have p2 : Pt 2 "from" (.str "from") := .joint
  generalize itx v.wk ++ "/" ++ itx v.rd = a at p0 ⊢
  generalize numsTx v.bs = b at p1 ⊢
  generalize numsTx v.ns = d at p3 ⊢
  generalize ("from" : Str) = f at p2 ⊢
  have eL : partsL [a, b, f, d] = [.tup [.int v.wk, .int v.rd], .tup (v.bs.map D.int), .str f, .tup (v.ns.map D.int)] := by
    show [partR 0 a, partR 1 b, partR 2 f, partR 3 d] = _
    rw [partR_yes p0, partR_yes p1, partR_yes p2, partR_yes p3]
  rw [eL]
  have pb : toPyAll (v.bs.map D.int) = some (v.bs.map .int) := py_ints _
  have pn : toPyAll (v.ns.map D.int) = some (v.ns.map .int) := py_ints _
  have pyL : pyC S (.lst false [.tup [.int v.wk, .int v.rd], .tup (v.bs.map D.int), .str f, .tup (v.ns.map D.int)]) = some (.list [.tuple [.int v.wk, .int v.rd], .tuple (v.bs.map .int), .str f, .tuple (v.ns.map .int)]) := by
    refine pyC_of ?_
    show ((toPyAll [D.tup [.int v.wk, .int v.rd], .tup (v.bs.map D.int), .str f, .tup (v.ns.map D.int)])).map _ = _
    simp only [toPyAll, toPy, pb, pn]
    rfl
  have pl : PyData.plainAll [.tuple [.int v.wk, .int v.rd], .tuple (v.bs.map .int), .str f, .tuple (v.ns.map .int)] = true := by
    show (true && (PyData.plainAll (v.bs.map .int) && (true && (PyData.plainAll (v.ns.map .int) && true)))) = true
    rw [plain_ints, plain_ints]
    rfl
  unfold due3
  refine onS pyL ?_
  refine ⟨⟨pl, rfl, by decide⟩, ?_⟩
  refine ⟨szr rfl, szr rfl, szr rfl, ?_⟩
  exact q
theorem told_ok {t : Str} (ht : t.length ≤ 20000) (qe : ∀ (k : Nat) c, BadAt (Txt.split t " ") k → Q (.tup [.str "BadText", .int (k : Int)]) (S ++ [c])) (qi : ∀ v c, VnOk v → t = v.tt → Q v.sd (S ++ [c])) : F_law_told_2 [.str t] S Q E := by
  unfold F_law_told_2
  refine ⟨rfl, ?_⟩
  refine parse_any ht (fun k S' hb h => ?_) fun v ds ok e => qi v _ ok e
  obtain ⟨ds, rfl⟩ := h
  refine onS (a := true) rfl ?_
  rw [if_pos rfl]
  exact htold_ok ⟨⟨rfl, rfl⟩, qe k _ hb⟩
theorem isA_str {b : D} (hb : (toPy b).isSome = true) (h : ∀ t, b ≠ .str t) : isA .str S b = some false := by
  cases b with
  | str t => exact absurd rfl (h t)
  | cell _ => cases hb
  | glo _ => cases hb
  | ty _ => cases hb
  | ins _ _ => cases hb
  | exc _ _ => cases hb
  | kls _ => cases hb
  | _ => rfl
theorem due_odd {d : D} (hd : (toPy d).isSome = true) (h : ∀ t, d ≠ .str t) (q : Q (.tup [.str "BadText", .non]) S) : F_law_due_2 [d] S Q E := by
  unfold F_law_due_2
  exact ⟨rfl, onS (isA_str hd h) ⟨szr rfl, q⟩⟩
theorem told_odd {d : D} (hd : (toPy d).isSome = true) (h : ∀ t, d ≠ .str t) (q : Q (.tup [.str "BadText", .non]) S) : F_law_told_2 [d] S Q E := by
  unfold F_law_told_2
  refine ⟨rfl, ?_⟩
  show F_parse_trip [d] S _ _
  unfold F_parse_trip
  refine ⟨rfl, onS (isA_str hd h) ?_⟩
  dsimp only [onBl, Bool.not_false]
  rw [if_pos (show (!false) = true from rfl)]
  dsimp only [dRaise, dC]
  refine onS (a := true) rfl ?_
  rw [if_pos rfl]
  exact htold_ok ⟨⟨rfl, rfl⟩, q⟩
theorem same_str {k : Nat} {x : Str} (q : Q (.bl true) S) : F_law_same_2 k [.str x, .str x] S Q E := by
  have go : ∀ R : FF, dDef 2 4 (den_law_same_2 R) [.str x, .str x] S Q E := fun R => by
    refine ⟨rfl, ?_⟩
    refine ⟨rfl, ?_⟩
    exact ne_str rfl q
  cases k with
  | zero => rw [F_law_same_2_zero]; exact go _
  | succ k => rw [F_law_same_2_succ]; exact go _
theorem same_non {k : Nat} (q : Q (.bl true) S) : F_law_same_2 k [.non, .non] S Q E := by
  have go : ∀ R : FF, dDef 2 4 (den_law_same_2 R) [.non, .non] S Q E := fun R => by
    refine ⟨rfl, ?_⟩
    refine ⟨rfl, ?_⟩
    exact ⟨rfl, q⟩
  cases k with
  | zero => rw [F_law_same_2_zero]; exact go _
  | succ k => rw [F_law_same_2_succ]; exact go _
theorem same_bad {e : D} (he : e = .non ∨ ∃ i : Int, e = .int i) (q : Q (.bl true) S) : F_law_same_2 6 [.tup [.str "BadText", e], .tup [.str "BadText", e]] S Q E := by
  refine same_tup (k := 5) (xs := [.str "BadText", e]) (by show 2 ≤ 1000; decide) (fun x hx Q' q' => ?_) q
  simp only [List.mem_cons, List.not_mem_nil, or_false] at hx
  rcases hx with rfl | rfl
  · exact same_str q'
  · rcases he with rfl | ⟨i, rfl⟩
    · exact same_non q'
    · exact same_int q'
/-- a thing that the law asks -/
structure Th (d : D) : Prop where
  gv : Gv 20 20000 d
  len : ∀ t, d = .str t → t.length ≤ 20000
def ask56 : FS := (dSeq (dAsg (dB iRepr (dCons (dVar 8) dNil)) (gN 9))
 (dIfS (dOr (dNot (dTest (dCallW (F_law_same_2 6) (dCons (dCallW F_law_told_2 (dCons (dVar 8) dNil)) (dCons (dCallW F_law_due_2 (dCons (dVar 8) dNil)) dNil))))) (dTest (dBin iNe (dB iRepr (dCons (dVar 8) dNil)) (dVar 9))))
 (dRet (dC (.bl false)))
 dSkip))
theorem ask56_ok {d : D} {y0 y1 y2 y3 y4 y5 y6 y7 y9 : Option D} {De : DEnds} (h : Th d) (q : ∀ S' y9, (S' = S ∨ ∃ c, S' = S ++ [c]) → De.nx [y0, y1, y2, y3, y4, y5, y6, y7, some d, y9] S') : ask56 [y0, y1, y2, y3, y4, y5, y6, y7, some d, y9] S De noE := by
  unfold ask56
  have g := h.gv.mono (k' := 20) (n' := 100000) (by decide) (by decide)
  refine seq_asg ?_
  refine g.rep ?_
  show (dIfS _ _ dSkip) [y0, y1, y2, y3, y4, y5, y6, y7, some d, some (.str (shw d))] S De noE
  by_cases hs : ∃ t, d = .str t
  · obtain ⟨t, rfl⟩ := hs
    refine told_ok (h.len t rfl) (fun k c hb => ?_) fun v c ok e => ?_
    · refine due_bad (h.len t rfl) hb ?_
      refine same_bad (.inr ⟨_, rfl⟩) ?_
      refine g.rep (ne_str rfl ?_)
      exact q _ _ (.inr ⟨c, rfl⟩)
    · subst e
      refine due_good ok ?_
      refine same_st ok ?_
      refine g.rep (ne_str rfl ?_)
      exact q _ _ (.inr ⟨c, rfl⟩)
  · have hn : ∀ t, d ≠ .str t := fun t e => hs ⟨t, e⟩
    refine told_odd h.gv.isS hn (due_odd h.gv.isS hn ?_)
    refine same_bad (.inl rfl) ?_
    refine g.rep (ne_str rfl ?_)
    exact q _ _ (.inl rfl)
end
end Pu
namespace Pu
open PySem L2 Rb Gm TL
/-! ## texts of short signs that are bent (k56) -/
def Asc (t : Str) : Prop := ∀ c ∈ tl t, c < 16 ^ 8
theorem asc_of {t : Str} (h : (tl t).all (· < 16 ^ 8) = true) : Asc t := fun c hc => by
  have := List.all_eq_true.mp h c hc
  exact of_decide_eq_true this
theorem Asc.app {a b : Str} (ha : Asc a) (hb : Asc b) : Asc (a ++ b) := fun c hc => by
  rw [tl_append] at hc
  rcases List.mem_append.mp hc with h | h
  · exact ha c h
  · exact hb c h
theorem asc_space : Asc " " := asc_of (by decide +kernel)
theorem asc_comma : Asc "," := asc_of (by decide +kernel)
theorem joinL_in {S : List Nat} {c : Nat} : ∀ {ps : List (List Nat)}, c ∈ joinL S ps → c ∈ S ∨ ∃ p ∈ ps, c ∈ p
  | [], h => absurd h List.not_mem_nil
  | [p], h => .inr ⟨p, List.mem_cons_self, h⟩
  | p :: q :: r, h => by
    have h : c ∈ p ++ (S ++ joinL S (q :: r)) := h
    rcases List.mem_append.mp h with h | h
    · exact .inr ⟨p, List.mem_cons_self, h⟩
    rcases List.mem_append.mp h with h | h
    · exact .inl h
    rcases joinL_in h with h | ⟨x, hx, h⟩
    · exact .inl h
    · exact .inr ⟨x, List.mem_cons_of_mem _ hx, h⟩
theorem joinL_of {S : List Nat} {c : Nat} : ∀ {ps : List (List Nat)} {p : List Nat}, p ∈ ps → c ∈ p → c ∈ joinL S ps
  | [], _, h, _ => absurd h List.not_mem_nil
  | [p], x, h, hc => by
    rw [List.mem_singleton.mp h] at hc
    exact hc
  | p :: q :: r, x, h, hc => by
    show c ∈ p ++ (S ++ joinL S (q :: r))
    rcases List.mem_cons.mp h with rfl | h
    · exact List.mem_append_left _ hc
    · exact List.mem_append_right _ (List.mem_append_right _ (joinL_of h hc))
theorem asc_join {y : Str} {ps : List Str} (hy : Asc y) (h : ∀ p ∈ ps, Asc p) : Asc (Txt.join y ps) := fun c hc => by
  rw [join_eq, tl_join] at hc
  rcases joinL_in hc with z | ⟨p, hp, z⟩
  · exact hy c z
  · obtain ⟨w, hw, rfl⟩ := List.mem_map.mp hp
    exact h w hw c z
theorem asc_split {x y : Str} (h : Asc x) : ∀ p ∈ Txt.split x y, Asc p := fun p hp c hc => by
  refine h c ?_
  have e := congrArg tl (join_back x y)
  rw [join_eq, tl_join] at e
  rw [← e]
  exact joinL_of (List.mem_map_of_mem hp) hc
theorem asc_app {a b : List Str} (ha : ∀ p ∈ a, Asc p) (hb : ∀ p ∈ b, Asc p) : ∀ p ∈ a ++ b, Asc p := fun p hp => by
  rcases List.mem_append.mp hp with h | h
  · exact ha p h
  · exact hb p h
theorem asc_cutW {ws : List Str} {lo hi : Option Int} (h : ∀ p ∈ ws, Asc p) : ∀ p ∈ cutW ws lo hi, Asc p := fun p hp => h p (List.mem_of_mem_drop (List.mem_of_mem_take hp))
theorem asc_cut {t : Str} {lo hi : Option Int} (h : Asc t) : Asc (cutS t lo hi) := fun c hc => by
  unfold cutS at hc
  rw [tl_mk] at hc
  exact h c (List.mem_of_mem_drop (List.mem_of_mem_take hc))
theorem asc_int {i : Int} (h : 0 ≤ i) : Asc (itx i) := fun c hc => by
  obtain ⟨n, rfl⟩ : ∃ n : Nat, i = (n : Int) := ⟨i.toNat, (Int.toNat_of_nonneg h).symm⟩
  have := itx_digits n c hc
  exact Nat.lt_of_le_of_lt this.2 (by decide)
theorem asc_nums {ns : List Int} (h : ∀ i ∈ ns, 0 ≤ i) : Asc (numsTx ns) := asc_join asc_comma fun p hp => by
  obtain ⟨i, hi, rfl⟩ := List.mem_map.mp hp
  exact asc_int (h i hi)
theorem asc_tt {v : Vn} (ok : VnOk v) : Asc v.tt := by
  have r1 := ok.R.rd1
  have r2 := ok.R.lt
  refine asc_join asc_space fun p hp => ?_
  unfold tripWords at hp
  simp only [List.mem_cons, List.not_mem_nil, or_false] at hp
  rcases hp with rfl | rfl | rfl | rfl
  · exact ((asc_int (by omega)).app (asc_of (by decide +kernel))).app (asc_int (by omega))
  · exact asc_nums fun i hi => (ok.R.hb i hi).1
  · exact asc_of (by decide +kernel)
  · exact asc_nums fun i hi => (ok.st.sb i hi).1
theorem th_str {t : Str} (l : t.length ≤ 20000) (h : Asc t) : Th (.str t) where
  gv := ⟨⟨_, rfl, (Nice.str (n := 20000) l h).mono (by decide) (Nat.le_refl _)⟩, rfl, rfl, rfl⟩
  len := fun u e => by
    cases e
    exact l
theorem th_any {d : D} {p : PyData} (e : toPy d = some p) (h : (p.showable && p.leavesShort 100 && decide (p.depth ≤ 2) && decide (p.bulk ≤ 20) && known d && below 0 d && noX d) = true) (l : ∀ t, d = .str t → t.length ≤ 20000) : Th d where
  gv := (gv_dec e h).mono (by decide) (by decide)
  len := l
section
variable {S T : Sto} {N : Int} {Q : QD} {E : ED}
theorem bent3a_ok {t : Str} {B : Nat} (dk : Dk S N T) (hN : N ≤ 900000) (ht : t.length ≤ B) (hB : B ≤ 6000) (ha : Asc t) (q : ∀ u S', u.length ≤ 6 * B + 10 → Asc u → Dk S' (N + 6) T → Q (.str u) S') : F_law_bent_3 [.cell 1, .str t] S Q E := by
  have sl := split_len (x := t) (y := " ") (by rw [tl_space]; decide)
  have sn := split_ne (x := t) (y := " ") (by rw [tl_space]; decide) ks
  have ss := split_sum (x := t) (y := " ")
  have sa := asc_split (y := " ") ha
  unfold F_law_bent_3
  refine ⟨rfl, ⟨⟨by decide +kernel, szd (by omega)⟩, ?_⟩⟩
  generalize Txt.split t " " = ws at sl sn ss sa ⊢
  have wl : (ws.map D.str).length = ws.length := List.length_map ..
  have w1 : 1 ≤ ws.length := List.length_pos_iff.mpr sn
  refine draw3_ok (lim := ((ws.map D.str).length : Int)) dk (by omega) (by omega) (by omega) fun at_ S1 a0 a1 d1 => ?_
  refine draw3_ok (lim := 6) d1 (by omega) (by decide) (by decide) fun way S2 w0 w1 d2 => ?_
  have c1 := cutW_bd ws none (some at_)
  have c2 := cutW_bd ws (some at_) (some (at_ + 1))
  have c3 := cutW_bd ws (some at_) none
  have c4 := cutW_bd ws (some (at_ + 1)) none
  have k1 := cutD_le (ds := ws.map D.str) (lo := none) (hi := some at_)
  have k2 := cutD_le (ds := ws.map D.str) (lo := some at_) (hi := some (at_ + 1))
  have k3 := cutD_le (ds := ws.map D.str) (lo := some at_) (hi := none)
  have k4 := cutD_le (ds := ws.map D.str) (lo := some (at_ + 1)) (hi := none)
  show bentR [some (.cell 1), some (.str t), some (.lst false (ws.map D.str)), some (.int at_), some (.int way), none, none] S2 _ _
  unfold bentR
  by_cases h0 : way = 0
  · refine seqI_yes rfl h0 ?_
    refine join_ok (ys := cutW ws none (some at_) ++ cutW ws (some at_) (some (at_ + 1)) ++ cutW ws (some at_) none) (b := false) (fun K hK => ?_) ?_ ?_
    · rw [List.map_append, List.map_append, ← cutW_D, ← cutW_D, ← cutW_D] at hK
      exact ⟨szd (by show (cutD (ws.map D.str) none (some at_)).length + (cutD (ws.map D.str) (some at_) (some (at_ + 1))).length ≤ 100000; omega), szd (by show (cutD (ws.map D.str) none (some at_) ++ cutD (ws.map D.str) (some at_) (some (at_ + 1))).length + (cutD (ws.map D.str) (some at_) none).length ≤ 100000; rw [List.length_append]; omega), hK⟩
    · rw [sumW_app, sumW_app, l1_space]
      rw [List.length_append, List.length_append]
      omega
    · refine q _ S2 (Nat.le_trans (len_join_le _ _) ?_) (asc_join asc_space (asc_app (asc_app (asc_cutW sa) (asc_cutW sa)) (asc_cutW sa))) (d2.le (by omega)) 
      show sumW (cutW ws none (some at_) ++ cutW ws (some at_) (some (at_ + 1)) ++ cutW ws (some at_) none) + (cutW ws none (some at_) ++ cutW ws (some at_) (some (at_ + 1)) ++ cutW ws (some at_) none).length * (" " : Str).length ≤ _
      rw [sumW_app, sumW_app, l1_space]
      rw [List.length_append, List.length_append]
      omega
  refine seqI_no rfl h0 ?_
  by_cases h1 : way = 1
  · refine seqI_yes rfl h1 ?_
    refine join_ok (ys := cutW ws (some at_) none ++ cutW ws none (some at_)) (b := false) (fun K hK => ?_) ?_ ?_
    · rw [List.map_append, ← cutW_D, ← cutW_D] at hK
      exact ⟨szd (by show (cutD (ws.map D.str) (some at_) none).length + (cutD (ws.map D.str) none (some at_)).length ≤ 100000; omega), hK⟩
    · rw [sumW_app, l1_space]
      rw [List.length_append]
      omega
    · refine q _ S2 (Nat.le_trans (len_join_le _ _) ?_) (asc_join asc_space (asc_app (asc_cutW sa) (asc_cutW sa))) (d2.le (by omega)) 
      show sumW (cutW ws (some at_) none ++ cutW ws none (some at_)) + (cutW ws (some at_) none ++ cutW ws none (some at_)).length * (" " : Str).length ≤ _
      rw [sumW_app, l1_space]
      rw [List.length_append]
      omega
  refine seqI_no rfl h1 ?_
  by_cases h2 : way = 2
  · refine seqI_yes rfl h2 ?_
    refine join_ok (ys := cutW ws none (some at_) ++ cutW ws (some (at_ + 1)) none) (b := false) (fun K hK => ?_) ?_ ?_
    · rw [List.map_append, ← cutW_D, ← cutW_D] at hK
      exact ⟨szd (by show (cutD (ws.map D.str) none (some at_)).length + (cutD (ws.map D.str) (some (at_ + 1)) none).length ≤ 100000; omega), hK⟩
    · rw [sumW_app, l1_space]
      rw [List.length_append]
      omega
    · refine q _ S2 (Nat.le_trans (len_join_le _ _) ?_) (asc_join asc_space (asc_app (asc_cutW sa) (asc_cutW sa))) (d2.le (by omega)) 
      show sumW (cutW ws none (some at_) ++ cutW ws (some (at_ + 1)) none) + (cutW ws none (some at_) ++ cutW ws (some (at_ + 1)) none).length * (" " : Str).length ≤ _
      rw [sumW_app, l1_space]
      rw [List.length_append]
      omega
  refine seqI_no rfl h2 ?_
  by_cases h3 : way = 3
  · refine seqI_yes rfl h3 ?_
    refine join_ok (ys := ws ++ cutW ws (some at_) none) (b := false) (fun K hK => ?_) ?_ ?_
    · rw [List.map_append, ← cutW_D] at hK
      exact ⟨szd (by show (ws.map D.str).length + (cutD (ws.map D.str) (some at_) none).length ≤ 100000; omega), hK⟩
    · rw [sumW_app, l1_space]
      rw [List.length_append]
      omega
    · refine q _ S2 (Nat.le_trans (len_join_le _ _) ?_) (asc_join asc_space (asc_app sa (asc_cutW sa))) (d2.le (by omega)) 
      show sumW (ws ++ cutW ws (some at_) none) + (ws ++ cutW ws (some at_) none).length * (" " : Str).length ≤ _
      rw [sumW_app, l1_space]
      rw [List.length_append]
      omega
  refine seqI_no rfl h3 ?_
  unfold bentR2
  have tz : t.length ≤ sizeLine := szd (by omega)
  refine ⟨tz, ?_⟩
  refine draw3_ok (lim := (t.length : Int) + 1) d2 (by omega) (by omega) (by omega) fun pl S3 p0 p1 d3 => ?_
  refine ⟨szr rfl, ?_⟩
  refine draw3_ok (lim := 12) d3 (by omega) (by decide) (by decide) fun sg S4 g0 g1 d4 => ?_
  obtain ⟨sd, es, hs⟩ := atI_mem (xs := [D.str "0", .str "1", .str "5", .str "9", .str "-", .str " ", .str "+", .str "_", .str ",", .str "/", .str "from", .str "x"]) g0 (by show sg < 12; exact g1)
  obtain ⟨sx, rfl, lx, ax⟩ : ∃ x : Str, sd = .str x ∧ x.length ≤ 4 ∧ Asc x := by
    simp only [List.mem_cons, List.not_mem_nil, or_false] at hs
    rcases hs with rfl | rfl | rfl | rfl | rfl | rfl | rfl | rfl | rfl | rfl | rfl | rfl <;> exact ⟨_, rfl, by decide +kernel, asc_of (by decide +kernel)⟩
  refine onS es ?_
  have s1 := cutS_len t none (some pl)
  refine ⟨tz, ?_⟩
  refine draw3_ok (lim := 2) d4 (by omega) (by decide) (by decide) fun k S5 k0 k1 d5 => ?_
  refine ⟨by omega, ?_⟩
  have s2 : (if k = 1 then sx else Str.empty).length ≤ 4 := by
    split
    · exact lx
    · decide
  have s4 : Asc (if k = 1 then sx else Str.empty) := by
    split
    · exact ax
    · exact asc_of (by decide)
  generalize (if k = 1 then sx else Str.empty) = mid at s2 s4 ⊢
  refine ⟨szd (by show (cutS t none (some pl)).length + mid.length ≤ 100000; omega), ?_⟩
  refine draw3_ok (lim := 2) d5 (by omega) (by decide) (by decide) fun k2 S6 k20 k21 d6 => ?_
  have s3 := cutS_len t (some (pl + k2)) none
  refine ⟨tz, ?_⟩
  have l1 : (cutS t none (some pl) ++ mid).length = (cutS t none (some pl)).length + mid.length := str_len _ _
  refine ⟨szd (by show (cutS t none (some pl) ++ mid).length + (cutS t (some (pl + k2)) none).length ≤ 100000; omega), ?_⟩
  refine q _ S6 ?_ (((asc_cut ha).app s4).app (asc_cut ha)) (d6.le (by omega))
  have l2 : (cutS t none (some pl) ++ mid ++ cutS t (some (pl + k2)) none).length = (cutS t none (some pl) ++ mid).length + (cutS t (some (pl + k2)) none).length := str_len _ _
  omega
end
end Pu
namespace Pu
open PySem L2 Rb Gm TL
/-! ## the things that the law asks (k56) -/
def Sw (n : Nat) (t : Str) : Prop := t.length ≤ n ∧ Asc t
theorem sw_of {n : Nat} {t : Str} (h : (decide (t.length ≤ n) && (tl t).all (· < 16 ^ 8)) = true) : Sw n t := by
  simp only [Bool.and_eq_true, decide_eq_true_eq] at h
  exact ⟨h.1, asc_of h.2⟩
theorem sws {n : Nat} {ws : List Str} (h : ws.all (fun t => decide (t.length ≤ n) && (tl t).all (· < 16 ^ 8)) = true) : ∀ w ∈ ws, Sw n w := fun w hw => sw_of (List.all_eq_true.mp h w hw)
theorem Sw.app {n m k : Nat} {a b : Str} (ha : Sw n a) (hb : Sw m b) (h : n + m ≤ k) : Sw k (a ++ b) := by
  refine ⟨?_, ha.2.app hb.2⟩
  rw [str_len]
  have := ha.1
  have := hb.1
  omega
theorem Sw.th {n : Nat} {t : Str} (h : Sw n t) (hn : n ≤ 20000) : Th (.str t) := th_str (Nat.le_trans h.1 hn) h.2
theorem lstC_of {S : Sto} {n : Nat} {xs : List D} (h : S[n]? = some (.lst xs)) : lstOf S (.cell n) = some xs := by
  show lstAt S[n]? = _
  rw [h]
  rfl
structure T56 (S : Sto) (N : Int) (n L : Nat) : Prop where
  ex : ∃ T ds, Dk S N T ∧ 2 ≤ n ∧ S[n]? = some (.lst ds) ∧ ds.length ≤ L ∧ ∀ d ∈ ds, Th d
section
variable {S : Sto} {N : Int} {n L : Nat} {De : DEnds}
theorem T56.le {M : Int} {L' : Nat} (h : T56 S N n L) (e : N ≤ M) (l : L ≤ L') : T56 S M n L' := by
  obtain ⟨T, ds, a, b, c, d, f⟩ := h.ex
  exact ⟨⟨T, ds, a.le e, b, c, by omega, f⟩⟩
theorem addC_ok {fa : FA} {es : List D} {ρ : Rho} {m : Nat} (tg : T56 S N n L) (h2 : getV ρ 2 = some (.cell n)) (hfa : ∀ K : List D → Sto → Prop, K es S → fa ρ S K noE) (he : ∀ d ∈ es, Th d) (hm : es.length ≤ m) (hL : L + m ≤ 5000) (q : ∀ n' S', T56 S' N n' (L + m) → setK ρ 2 (.cell n') fun ρ' => De.nx ρ' S') :
    dAsg (dBin gAddC (dVar 2) (dLst fa)) (gN 2) ρ S De noE := by
  obtain ⟨T, ds, dk, n2, g, l, hd⟩ := tg.ex
  show onSome (getV ρ 2) _
  rw [h2]
  refine hfa _ ⟨szd (by omega), ?_⟩
  refine onS (lstC_of g) (onS (a := es) rfl ⟨szd (by omega), ?_⟩)
  refine q _ _ ⟨⟨T ++ [.lst (ds ++ es)], ds ++ es, dk.snoc _, ?_, ?_, ?_, ?_⟩⟩
  · rw [dk.len]; omega
  · rw [List.getElem?_append_right (Nat.le_refl _), Nat.sub_self]
    rfl
  · rw [List.length_append]; omega
  · intro d h
    rcases List.mem_append.mp h with h | h
    · exact hd d h
    · exact he d h
theorem forW {fa : FA} (ws : List Str) {j : Nat} {body : FS} {ρ : Rho} (hfa : ∀ K : List D → Sto → Prop, K (ws.map D.str) S → fa ρ S K noE) (hl : ws.length ≤ 100) (q : dLoop (gN j) body [] (ws.map D.str) ρ S De noE) : dFor (dItS (dLst fa)) (gN j) body ρ S De noE :=
  hfa _ ⟨szd (by rw [List.length_map]; omega), q⟩
abbrev e56 (y0 : Option D) (n : Nat) (y3 y4 y5 y6 y7 y8 y9 : Option D) : Rho := [y0, some (.cell 1), some (.cell n), y3, y4, y5, y6, y7, y8, y9]
theorem loopW {ws : List Str} {m : Nat} {body : FS} {y0 y3 y4 y5 y6 y7 y8 y9 : Option D} (tg : T56 S N n L) (hw : ∀ w ∈ ws, Sw 20 w)
    (hb : ∀ (w : Str) (n' L' : Nat) (S' : Sto) (De' : DEnds), Sw 20 w → T56 S' N n' L' → L' ≤ L + m * ws.length → (∀ n'' S'', T56 S'' N n'' (L' + m) → De'.nx (e56 y0 n'' (some (.str w)) y4 y5 y6 y7 y8 y9) S'') → body (e56 y0 n' (some (.str w)) y4 y5 y6 y7 y8 y9) S' De' noE)
    (q : ∀ n' S' y3, T56 S' N n' (L + m * ws.length) → De.nx (e56 y0 n' y3 y4 y5 y6 y7 y8 y9) S') :
    dLoop (gN 3) body [] (ws.map D.str) (e56 y0 n y3 y4 y5 y6 y7 y8 y9) S De noE := by
  refine for_inv (src := []) (ws.map D.str) (fun k ρ S' => ∃ n' y3, ρ = e56 y0 n' y3 y4 y5 y6 y7 y8 y9 ∧ T56 S' N n' (L + m * k)) ⟨_, _, rfl, tg⟩ ?_ ?_
  · rintro k x ρ S' K hx hK ⟨n', z3, rfl, t'⟩
    rw [List.getElem?_map] at hx
    obtain ⟨w, hp, rfl⟩ := Option.map_eq_some_iff.mp hx
    have hk : k < ws.length := (List.getElem?_eq_some_iff.mp hp).1
    have hk2 : m * k ≤ m * ws.length := Nat.mul_le_mul_left m (Nat.le_of_lt hk)
    refine hb w n' _ S' _ (hw w (List.mem_of_getElem? hp)) t' (by omega) fun n'' S'' t'' => hK _ _ ⟨_, _, rfl, ?_⟩
    rw [Nat.mul_succ, ← Nat.add_assoc]
    exact t''
  · rintro ρ S' ⟨n', z3, rfl, t'⟩
    rw [List.length_map] at t'
    exact q _ _ _ t'
theorem mem2 {P : D → Prop} {a b : D} (ha : P a) (hb : P b) : ∀ d ∈ [a, b], P d := fun d h => by
  rcases List.mem_cons.mp h with rfl | h
  · exact ha
  · rw [List.mem_singleton.mp h]; exact hb
theorem mem3 {P : D → Prop} {a b c : D} (ha : P a) (hb : P b) (hc : P c) : ∀ d ∈ [a, b, c], P d := fun d h => by
  rcases List.mem_cons.mp h with rfl | h
  · exact ha
  · exact mem2 hb hc d h
def b3 (a b : Str) : FS := (dAsg (dBin gAddC (dVar 2) (dLst (dCons (dVar 3) (dCons (dBin gAdd (dVar 3) (dC (.str a))) (dCons (dBin gAdd (dVar 3) (dC (.str b))) dNil))))) (gN 2))
theorem b3_ok {a b w : Str} {y0 y4 y5 y6 y7 y8 y9 : Option D} (ha : Sw 40 a) (hb : Sw 40 b) (hw : Sw 20 w) (tg : T56 S N n L) (hL : L ≤ 1000) (q : ∀ n' S', T56 S' N n' (L + 3) → De.nx (e56 y0 n' (some (.str w)) y4 y5 y6 y7 y8 y9) S') :
    b3 a b (e56 y0 n (some (.str w)) y4 y5 y6 y7 y8 y9) S De noE := by
  have h1 := hw.1
  have h2 := ha.1
  have h3 := hb.1
  exact addC_ok (es := [.str w, .str (w ++ a), .str (w ++ b)]) tg rfl (fun K hK => ⟨szd (by omega), szd (by omega), hK⟩) (mem3 (hw.th (by decide)) ((hw.app ha (k := 60) (by decide)).th (by decide)) ((hw.app hb (k := 60) (by decide)).th (by decide))) (Nat.le_refl _) (by show L + 3 ≤ 5000; omega) q
def b2 (a b : Str) : FS := (dAsg (dBin gAddC (dVar 2) (dLst (dCons (dBin gAdd (dVar 3) (dC (.str a))) (dCons (dBin gAdd (dVar 3) (dC (.str b))) dNil)))) (gN 2))
theorem b2_ok {a b w : Str} {y0 y4 y5 y6 y7 y8 y9 : Option D} (ha : Sw 40 a) (hb : Sw 40 b) (hw : Sw 20 w) (tg : T56 S N n L) (hL : L ≤ 1000) (q : ∀ n' S', T56 S' N n' (L + 2) → De.nx (e56 y0 n' (some (.str w)) y4 y5 y6 y7 y8 y9) S') :
    b2 a b (e56 y0 n (some (.str w)) y4 y5 y6 y7 y8 y9) S De noE := by
  have h1 := hw.1
  have h2 := ha.1
  have h3 := hb.1
  exact addC_ok (es := [.str (w ++ a), .str (w ++ b)]) tg rfl (fun K hK => ⟨szd (by omega), szd (by omega), hK⟩) (mem2 ((hw.app ha (k := 60) (by decide)).th (by decide)) ((hw.app hb (k := 60) (by decide)).th (by decide))) (Nat.le_refl _) (by show L + 2 ≤ 5000; omega) q
def c3 (p a b : Str) : FS := (dAsg (dBin gAddC (dVar 2) (dLst (dCons (dBin gAdd (dBin gAdd (dC (.str p)) (dVar 3)) (dC (.str a))) (dCons (dBin gAdd (dC (.str p)) (dVar 3)) (dCons (dBin gAdd (dBin gAdd (dC (.str p)) (dVar 3)) (dC (.str b))) dNil))))) (gN 2))
theorem c3_ok {p a b w : Str} {y0 y4 y5 y6 y7 y8 y9 : Option D} (hp : Sw 40 p) (ha : Sw 40 a) (hb : Sw 40 b) (hw : Sw 20 w) (tg : T56 S N n L) (hL : L ≤ 1000) (q : ∀ n' S', T56 S' N n' (L + 3) → De.nx (e56 y0 n' (some (.str w)) y4 y5 y6 y7 y8 y9) S') :
    c3 p a b (e56 y0 n (some (.str w)) y4 y5 y6 y7 y8 y9) S De noE := by
  have h1 := hw.1
  have h2 := ha.1
  have h3 := hb.1
  have h4 := hp.1
  have pw := hp.app hw (k := 60) (by decide)
  have h5 := pw.1
  exact addC_ok (es := [.str (p ++ w ++ a), .str (p ++ w), .str (p ++ w ++ b)]) tg rfl (fun K hK => ⟨szd (by omega), szd (by omega), szd (by omega), szd (by omega), szd (by omega), hK⟩) (mem3 ((pw.app ha (k := 100) (by decide)).th (by decide)) (pw.th (by decide)) ((pw.app hb (k := 100) (by decide)).th (by decide))) (Nat.le_refl _) (by show L + 3 ≤ 5000; omega) q
def c2 (p r : Str) : FS := (dAsg (dBin gAddC (dVar 2) (dLst (dCons (dBin gAdd (dC (.str p)) (dVar 3)) (dCons (dBin gAdd (dC (.str r)) (dVar 3)) dNil)))) (gN 2))
theorem c2_ok {p r w : Str} {y0 y4 y5 y6 y7 y8 y9 : Option D} (hp : Sw 40 p) (hr : Sw 40 r) (hw : Sw 20 w) (tg : T56 S N n L) (hL : L ≤ 1000) (q : ∀ n' S', T56 S' N n' (L + 2) → De.nx (e56 y0 n' (some (.str w)) y4 y5 y6 y7 y8 y9) S') :
    c2 p r (e56 y0 n (some (.str w)) y4 y5 y6 y7 y8 y9) S De noE := by
  have h1 := hw.1
  have h2 := hp.1
  have h3 := hr.1
  exact addC_ok (es := [.str (p ++ w), .str (r ++ w)]) tg rfl (fun K hK => ⟨szd (by omega), szd (by omega), hK⟩) (mem2 ((hp.app hw (k := 60) (by decide)).th (by decide)) ((hr.app hw (k := 60) (by decide)).th (by decide))) (Nat.le_refl _) (by show L + 2 ≤ 5000; omega) q
def d2 (p a : Str) : FS := (dAsg (dBin gAddC (dVar 2) (dLst (dCons (dBin gAdd (dC (.str p)) (dVar 3)) (dCons (dBin gAdd (dBin gAdd (dC (.str p)) (dVar 3)) (dC (.str a))) dNil)))) (gN 2))
theorem d2_ok {p a w : Str} {y0 y4 y5 y6 y7 y8 y9 : Option D} (hp : Sw 40 p) (ha : Sw 40 a) (hw : Sw 20 w) (tg : T56 S N n L) (hL : L ≤ 1000) (q : ∀ n' S', T56 S' N n' (L + 2) → De.nx (e56 y0 n' (some (.str w)) y4 y5 y6 y7 y8 y9) S') :
    d2 p a (e56 y0 n (some (.str w)) y4 y5 y6 y7 y8 y9) S De noE := by
  have h1 := hw.1
  have h2 := hp.1
  have h3 := ha.1
  have pw := hp.app hw (k := 60) (by decide)
  have h5 := pw.1
  exact addC_ok (es := [.str (p ++ w), .str (p ++ w ++ a)]) tg rfl (fun K hK => ⟨szd (by omega), szd (by omega), szd (by omega), hK⟩) (mem2 (pw.th (by decide)) ((pw.app ha (k := 100) (by decide)).th (by decide))) (Nat.le_refl _) (by show L + 2 ≤ 5000; omega) q
def f1 (p a : Str) : FS := (dDrop (dML gAppend (dVar 2) (dCons (dBin gAdd (dBin gAdd (dC (.str p)) (dVar 3)) (dC (.str a))) dNil)))
theorem f1_ok {p a w : Str} {y0 y4 y5 y6 y7 y8 y9 : Option D} (hp : Sw 40 p) (ha : Sw 40 a) (hw : Sw 20 w) (tg : T56 S N n L) (hL : L ≤ 1000) (q : ∀ n' S', T56 S' N n' (L + 1) → De.nx (e56 y0 n' (some (.str w)) y4 y5 y6 y7 y8 y9) S') :
    f1 p a (e56 y0 n (some (.str w)) y4 y5 y6 y7 y8 y9) S De noE := by
  have h1 := hw.1
  have h2 := hp.1
  have h3 := ha.1
  have pw := hp.app hw (k := 60) (by decide)
  have h5 := pw.1
  obtain ⟨T, ds, dk, n2, g, l, hd⟩ := tg.ex
  have gc : cellOf S (.cell n) = some (n, ds) := cell_lst g
  unfold f1
  refine onS gc ⟨szd (by omega), szd (by omega), onS gc ⟨?_, ?_⟩⟩
  · show ds.length < sizeLine
    exact Nat.lt_of_lt_of_le (show ds.length < 100000 by omega) (szd (Nat.le_refl _))
  obtain ⟨j, rfl⟩ : ∃ j, n = 2 + j := ⟨n - 2, by omega⟩
  have hj : j < T.length := by
    have := (List.getElem?_eq_some_iff.mp g).1
    have := dk.len
    omega
  refine q _ _ ⟨⟨_, ds ++ [.str (p ++ w ++ a)], dk.put hj, n2, ?_, ?_, ?_⟩⟩
  · rw [List.getElem?_set_self (List.getElem?_eq_some_iff.mp g).1]
  · rw [List.length_append]; show ds.length + 1 ≤ _; omega
  · intro d h
    rcases List.mem_append.mp h with h | h
    · exact hd d h
    · rw [List.mem_singleton.mp h]
      exact (pw.app ha (k := 100) (by decide)).th (by decide)
end
end Pu
namespace Pu
open PySem L2 Rb Gm TL
def q56_11 : FS := (dRet (dC (.bl true)))
def q56_10 : FS := (dSeq (dFor (dItS (dBin gAdd (dVar 2) (dLst (dCons (dC .non) (dCons (dC (.int 3)) (dCons (dC (.bl true)) (dCons (dTup (dCons (dTup (dCons (dC (.int 3)) (dCons (dC (.int 1)) (dCons (dTup (dCons (dC (.int 0)) dNil)) dNil)))) (dCons (dTup (dCons (dC (.int 5)) dNil)) dNil))) (dCons (dC (.str "3/1 0 from 5
")) (dCons (dC (.str "3/1 0
from 5")) (dCons (dC (.str "3/1
0 from 5")) dNil)))))))))) (gN 8)
 (dSeq (dAsg (dB iRepr (dCons (dVar 8) dNil)) (gN 9))
 (dIfS (dOr (dNot (dTest (dCallW (F_law_same_2 6) (dCons (dCallW F_law_told_2 (dCons (dVar 8) dNil)) (dCons (dCallW F_law_due_2 (dCons (dVar 8) dNil)) dNil))))) (dTest (dBin iNe (dB iRepr (dCons (dVar 8) dNil)) (dVar 9))))
 (dRet (dC (.bl false)))
 dSkip))) q56_11)
def q56_9 : FS := (dSeq (dFor (dRng1 (dCons (dC (.int 3)) dNil)) (gN 5)
 (dSeq (dAsg (dCallW F_law_trip_text (dCons (dCall 2 F_law_state (dCons (dVar 1) (dCons (dC (.int 12)) (dCons (dC (.int 10)) dNil)))) dNil)) (gN 6))
 (dSeq (dFor (dRng1 (dCons (dC (.int 8)) dNil)) (gN 7)
 (dAsg (dBin gAddC (dVar 2) (dLst (dCons (dCallW F_law_bent_3 (dCons (dVar 1) (dCons (dVar 6) dNil))) (dCons (dCallW F_law_bent_3 (dCons (dVar 1) (dCons (dCallW F_law_bent_3 (dCons (dVar 1) (dCons (dVar 6) dNil))) dNil))) dNil)))) (gN 2)))
 (dAsg (dBin gAddC (dVar 2) (dLst (dCons (dVar 6) (dCons (dLst (dCons (dVar 6) dNil)) (dCons (dCallW F_law_odd_5 (dCons (dVar 1) dNil)) dNil))))) (gN 2))))) q56_10)
def q56_8 : FS := (dSeq (dFor (dItS (dLst (dCons (dC (.int 9)) (dCons (dC (.int 10)) (dCons (dC (.int 11)) (dCons (dC (.int 12)) (dCons (dC (.int 13)) dNil))))))) (gN 4)
 (dAsg (dBin gAddC (dVar 2) (dLst (dCons (dBin gAdd (dBin gAdd (dC (.str "3/1 ")) (dJoin (dC (.str ",")) (dBin gMul (dLst (dCons (dC (.str "1")) dNil)) (dVar 4)))) (dC (.str " from 5"))) (dCons (dBin gAdd (dC (.str "3/1 0 from ")) (dJoin (dC (.str ",")) (dBin gMul (dLst (dCons (dC (.str "5")) dNil)) (dVar 4)))) dNil)))) (gN 2))) q56_9)
def q56_7 : FS := (dSeq (dFor (dItS (dLst (dCons (dC (.str "From")) (dCons (dC (.str "FROM")) (dCons (dC (.str "fro")) (dCons (dC (.str "from,")) (dCons (dC (.str "fromm")) (dCons (dC (.str "for")) (dCons (dC (.str "")) (dCons (dC (.str "0")) dNil)))))))))) (gN 3)
 (dDrop (dML gAppend (dVar 2) (dCons (dBin gAdd (dBin gAdd (dC (.str "3/1 0 ")) (dVar 3)) (dC (.str " 5"))) dNil)))) q56_8)
def q56_6 : FS := (dSeq (dFor (dItS (dLst (dCons (dC (.str "1000000")) (dCons (dC (.str "1000001")) (dCons (dC (.str "10000000")) (dCons (dC (.str "0,1000000")) (dCons (dC (.str "1000000,1000001")) (dCons (dC (.str "5,5")) (dCons (dC (.str "005")) (dCons (dC (.str "5.0")) (dCons (dC (.str "from")) dNil))))))))))) (gN 3)
 (dAsg (dBin gAddC (dVar 2) (dLst (dCons (dBin gAdd (dC (.str "3/1 0 from ")) (dVar 3)) (dCons (dBin gAdd (dBin gAdd (dC (.str "3/1 0 from ")) (dVar 3)) (dC (.str " 5"))) dNil)))) (gN 2))) q56_7)
def q56_5 : FS := (dSeq (dFor (dItS (dLst (dCons (dC (.str "0")) (dCons (dC (.str "12")) (dCons (dC (.str "13")) (dCons (dC (.str "00")) (dCons (dC (.str "01")) (dCons (dC (.str "-1")) (dCons (dC (.str "+1")) (dCons (dC (.str "1,")) (dCons (dC (.str ",1")) (dCons (dC (.str ",")) (dCons (dC (.str "1,1")) (dCons (dC (.str "1,13")) (dCons (dC (.str "1;1")) (dCons (dC (.str "1_0")) (dCons (dC (.str "x")) (dCons (dC (.str "1,,1")) dNil)))))))))))))))))) (gN 3)
 (dSeq (dAsg (dBin gAddC (dVar 2) (dLst (dCons (dBin gAdd (dBin gAdd (dC (.str "3/1 ")) (dVar 3)) (dC (.str " from 5"))) (dCons (dBin gAdd (dC (.str "3/1 ")) (dVar 3)) (dCons (dBin gAdd (dBin gAdd (dC (.str "3/1 ")) (dVar 3)) (dC (.str " From 5"))) dNil))))) (gN 2))
 (dAsg (dBin gAddC (dVar 2) (dLst (dCons (dBin gAdd (dC (.str "3/1 0 from ")) (dVar 3)) (dCons (dBin gAdd (dC (.str "3/1 0,1,2 from 7,")) (dVar 3)) dNil)))) (gN 2)))) q56_6)
def q56_4 : FS := (dSeq (dFor (dItS (dLst (dCons (dC (.str "3/")) (dCons (dC (.str "/1")) (dCons (dC (.str "3/1/1")) (dCons (dC (.str "3,1")) (dCons (dC (.str "3 /1")) (dCons (dC (.str "3/1,")) (dCons (dC (.str "3_0/1")) (dCons (dC (.str "x/1")) (dCons (dC (.str "3/1x")) (dCons (dC (.str "30000000/1")) (dCons (dC (.str "")) (dCons (dC (.str "3:1")) (dCons (dC (.str "//")) dNil))))))))))))))) (gN 3)
 (dAsg (dBin gAddC (dVar 2) (dLst (dCons (dBin gAdd (dVar 3) (dC (.str " 0 from 5"))) (dCons (dBin gAdd (dVar 3) (dC (.str " x from 5"))) dNil)))) (gN 2))) q56_5)
def q56_3 : FS := (dSeq (dFor (dItS (dLst (dCons (dC (.str "2/1")) (dCons (dC (.str "1/1")) (dCons (dC (.str "1/0")) (dCons (dC (.str "1000/999")) (dCons (dC (.str "1001/1")) (dCons (dC (.str "1000/1000")) (dCons (dC (.str "4/10")) (dCons (dC (.str "03/1")) (dCons (dC (.str "3/01")) (dCons (dC (.str "+3/1")) (dCons (dC (.str "3/-1")) (dCons (dC (.str "3")) dNil)))))))))))))) (gN 3)
 (dAsg (dBin gAddC (dVar 2) (dLst (dCons (dVar 3) (dCons (dBin gAdd (dVar 3) (dC (.str " 0 from 5"))) (dCons (dBin gAdd (dVar 3) (dC (.str " 0 to 5"))) dNil))))) (gN 2))) q56_4)
def q56_2 : FS := (dSeq (dAsg (dBin gAddC (dVar 2) (dLst (dCons (dC (.str "3/1  0 from 5")) (dCons (dC (.str "3/1 0  from 5")) (dCons (dC (.str "3/1 0 from  5")) (dCons (dC (.str "from")) (dCons (dC (.str "3/1 from 5")) (dCons (dC (.str "3/1 0 5")) (dCons (dC (.str "0 from 5")) dNil))))))))) (gN 2)) q56_3)
def q56_1 : FS := (dSeq (dAsg (dLstC (dCons (dC (.str "")) (dCons (dC (.str " ")) (dCons (dC (.str "3/1")) (dCons (dC (.str "3/1 0")) (dCons (dC (.str "3/1 0 from")) (dCons (dC (.str "3/1 0 from 5")) (dCons (dC (.str "3/1 0 from 5 ")) (dCons (dC (.str "3/1 0 from 5 x")) (dCons (dC (.str " 3/1 0 from 5")) dNil)))))))))) (gN 2)) q56_2)
section
variable {S : Sto} {N : Int} {n L : Nat} {De : DEnds} {y0 y3 y4 y5 y6 y7 y8 y9 : Option D}
theorem noS {d : D} (h : (match d with | .str _ => false | _ => true) = true) : ∀ t, d = .str t → t.length ≤ 20000 := fun t e => by
  subst e
  cases h
theorem th_deep : Th (.tup [.tup [.int 3, .int 1, .tup [.int 0]], .tup [.int 5]]) where
  gv := (Gv.tup (k := 2) (n := 20) (m := 42) (mem2 (gv_dec rfl (by decide +kernel)) (gv_dec rfl (by decide +kernel))) (by show 2 * (20 + 1) ≤ 42; decide)).mono (by decide) (by decide)
  len := noS rfl
def last7 : List D := [.non, .int 3, .bl true, .tup [.tup [.int 3, .int 1, .tup [.int 0]], .tup [.int 5]], .str "3/1 0 from 5
", .str "3/1 0
from 5", .str "3/1
0 from 5"]
theorem last7_th : ∀ d ∈ last7, Th d := by
  intro d hd
  unfold last7 at hd
  simp only [List.mem_cons, List.not_mem_nil, or_false] at hd
  rcases hd with rfl | rfl | rfl | rfl | rfl | rfl | rfl
  · exact th_any rfl (by decide +kernel) (noS rfl)
  · exact th_any rfl (by decide +kernel) (noS rfl)
  · exact th_any rfl (by decide +kernel) (noS rfl)
  · exact th_deep
  all_goals exact (sw_of (n := 40) (by decide +kernel)).th (by decide)
theorem q10_ok (tg : T56 S N n L) (hL : L ≤ 1000) (q : ∀ S', De.rt (.bl true) S') : q56_10 (e56 y0 n y3 y4 y5 y6 y7 y8 y9) S De noE := by
  obtain ⟨T, ds, dk, n2, g, l, hd⟩ := tg.ex
  unfold q56_10
  refine ⟨szr rfl, szr rfl, szr rfl, szr rfl, szr rfl, ?_⟩
  refine onS (lstC_of g) (onS (a := last7) rfl ⟨szd (by show ds.length + 7 ≤ 100000; omega), ?_⟩)
  refine onS (a := ds ++ last7) rfl ?_
  have hall : ∀ d ∈ ds ++ last7, Th d := fun d h => by
    rcases List.mem_append.mp h with h | h
    · exact hd d h
    · exact last7_th d h
  generalize ds ++ last7 = xs at hall ⊢
  refine for_inv (src := []) xs (fun k ρ S' => ∃ y8 y9, ρ = e56 y0 n y3 y4 y5 y6 y7 y8 y9) ⟨_, _, rfl⟩ ?_ ?_
  · rintro k x ρ S' K hx hK ⟨z8, z9, rfl⟩
    exact ask56_ok (hall x (List.mem_of_getElem? hx)) fun S'' z9 _ => hK _ _ ⟨_, _, rfl⟩
  · rintro ρ S' ⟨z8, z9, rfl⟩
    exact q S'
def odd12 : List D := [.non, .bl true, .bl false, .int 0, .int (-1), .int (10 ^ (29 : Int).toNat), .tup [], .lst true [], .dic [], .tup [.int 0, .int 0], .lst true [.str "3/1 0 from 5"], .tup [.tup [.int 3, .int 1, .tup [.int 0]], .tup [.int 5]]]
theorem odd12_th : ∀ d ∈ odd12, Th d := by
  intro d hd
  unfold odd12 at hd
  simp only [List.mem_cons, List.not_mem_nil, or_false] at hd
  rcases hd with rfl | rfl | rfl | rfl | rfl | rfl | rfl | rfl | rfl | rfl | rfl | rfl
  all_goals first | exact th_any rfl (by decide +kernel) (noS rfl) | exact th_deep
theorem odd56_ok {T : Sto} {Q : QD} {E : ED} (h : Dk S N T) (hN : N ≤ 900000) (q : ∀ d S', Th d → Dk S' (N + 1) T → Q d S') : F_law_odd_5 [.cell 1] S Q E := by
  unfold F_law_odd_5
  refine ⟨rfl, ⟨by decide, by decide, by decide⟩, szr rfl, szr rfl, szr rfl, szr rfl, szr rfl, szr rfl, szr rfl, szr rfl, szr rfl, ?_⟩
  refine draw3_ok (lim := 12) h (by omega) (by decide) (by decide) fun r S' r0 r1 d1 => ?_
  obtain ⟨d, e, hd⟩ := atI_mem (xs := odd12) r0 r1
  exact onS e (q d S' (odd12_th d hd) d1)
def in56 : FS := (dAsg (dBin gAddC (dVar 2) (dLst (dCons (dCallW F_law_bent_3 (dCons (dVar 1) (dCons (dVar 6) dNil))) (dCons (dCallW F_law_bent_3 (dCons (dVar 1) (dCons (dCallW F_law_bent_3 (dCons (dVar 1) (dCons (dVar 6) dNil))) dNil))) dNil)))) (gN 2))
theorem in56_ok {v : Vn} (ok : VnOk v) (tg : T56 S N n L) (hN : N ≤ 800000) (hL : L ≤ 1000) (q : ∀ n' S', T56 S' (N + 18) n' (L + 2) → De.nx (e56 y0 n' y3 y4 y5 (some (.str v.tt)) y7 y8 y9) S') : in56 (e56 y0 n y3 y4 y5 (some (.str v.tt)) y7 y8 y9) S De noE := by
  obtain ⟨T, ds, dk, n2, g, l, hd⟩ := tg.ex
  have tn : v.tt.length ≤ 400 := tripT_len ok.R ok.st
  have ta := asc_tt ok
  unfold in56
  refine bent3a_ok (B := 400) dk (by omega) tn (by decide) ta fun u S1 hu au d1 => ?_
  refine bent3a_ok (B := 400) d1 (by omega) tn (by decide) ta fun u2 S2 hu2 au2 d2 => ?_
  refine bent3a_ok (B := 2410) d2 (by omega) (by omega) (by decide) au2 fun u3 S3 hu3 au3 d3 => ?_
  refine ⟨szr rfl, ?_⟩
  have g3 := dk.same d3 n2 g
  refine onS (lstC_of g3) (onS (a := [.str u, .str u3]) rfl ⟨szd (by show ds.length + 2 ≤ 100000; omega), ?_⟩)
  refine q _ _ ⟨⟨_, ds ++ [.str u, .str u3], (d3.le (by omega)).snoc _, ?_, ?_, ?_, ?_⟩⟩
  · rw [d3.len]; omega
  · rw [List.getElem?_append_right (Nat.le_refl _), Nat.sub_self]
    rfl
  · rw [List.length_append]; show ds.length + 2 ≤ _; omega
  · intro d h
    rcases List.mem_append.mp h with h | h
    · exact hd d h
    · exact mem2 (P := Th) (th_str (by omega) au) (th_str (by omega) au3) d h
def aft56 : FS := (dAsg (dBin gAddC (dVar 2) (dLst (dCons (dVar 6) (dCons (dLst (dCons (dVar 6) dNil)) (dCons (dCallW F_law_odd_5 (dCons (dVar 1) dNil)) dNil))))) (gN 2))
theorem aft56_ok {v : Vn} (ok : VnOk v) (tg : T56 S N n L) (hN : N ≤ 800000) (hL : L ≤ 1000) (q : ∀ n' S', T56 S' (N + 1) n' (L + 3) → De.nx (e56 y0 n' y3 y4 y5 (some (.str v.tt)) y7 y8 y9) S') : aft56 (e56 y0 n y3 y4 y5 (some (.str v.tt)) y7 y8 y9) S De noE := by
  obtain ⟨T, ds, dk, n2, g, l, hd⟩ := tg.ex
  have tn : v.tt.length ≤ 400 := tripT_len ok.R ok.st
  have ta := asc_tt ok
  unfold aft56
  refine ⟨szr rfl, ?_⟩
  refine odd56_ok dk (by omega) fun o S1 ho d1 => ?_
  refine ⟨szr rfl, ?_⟩
  have g1 := dk.same d1 n2 g
  refine onS (lstC_of g1) (onS (a := [.str v.tt, .lst true [.str v.tt], o]) rfl ⟨szd (by show ds.length + 3 ≤ 100000; omega), ?_⟩)
  refine q _ _ ⟨⟨_, ds ++ [.str v.tt, .lst true [.str v.tt], o], d1.snoc _, ?_, ?_, ?_, ?_⟩⟩
  · rw [d1.len]; omega
  · rw [List.getElem?_append_right (Nat.le_refl _), Nat.sub_self]
    rfl
  · rw [List.length_append]; show ds.length + 3 ≤ _; omega
  · have t1 : Th (.str v.tt) := th_str (by omega) ta
    have g0 : Gv 0 400 (.str v.tt) := ⟨⟨_, rfl, Nice.str (n := 400) tn ta⟩, rfl, rfl, rfl⟩
    intro d h
    rcases List.mem_append.mp h with h | h
    · exact hd d h
    · refine mem3 (P := Th) t1 ⟨?_, fun t e => by cases e⟩ ho d h
      exact (Gv.lst (k := 0) (n := 400) (m := 401) (fun x hx => by rw [List.mem_singleton.mp hx]; exact g0) (by show 1 * (400 + 1) ≤ 401; decide)).mono (by decide) (by decide)
def turn56 : FS := (dSeq (dAsg (dCallW F_law_trip_text (dCons (dCall 2 F_law_state (dCons (dVar 1) (dCons (dC (.int 12)) (dCons (dC (.int 10)) dNil)))) dNil)) (gN 6))
 (dSeq (dFor (dRng1 (dCons (dC (.int 8)) dNil)) (gN 7) in56) aft56))
theorem turn56_ok (tg : T56 S N n L) (hN : N ≤ 700000) (hL : L ≤ 900) (q : ∀ n' S' y6 y7, T56 S' (N + 1000) n' (L + 19) → De.nx (e56 y0 n' y3 y4 y5 y6 y7 y8 y9) S') : turn56 (e56 y0 n y3 y4 y5 y6 y7 y8 y9) S De noE := by
  obtain ⟨T, ds, dk, n2, g, l, hd⟩ := tg.ex
  unfold turn56
  refine ⟨⟨rfl, dk.bel⟩, stateT_ok dk.take2.1 (by omega) (by omega) (by omega) (by decide) (by decide) fun wk rd bs st S0 R b1 hst n1 d1 l1 => ⟨dk.l2 l1, ?_⟩⟩
  replace d1 := dk.back d1
  generalize S0 ++ List.drop 2 S = S1 at d1
  have ok : VnOk ⟨wk, rd, bs, st⟩ := ⟨R, hst⟩
  generalize hv : (⟨wk, rd, bs, st⟩ : Vn) = v at ok
  have es : (D.tup [roadV wk rd bs, .tup (st.map D.int)]) = v.sd := by rw [← hv]; rfl
  show F_law_trip_text [D.tup [roadV wk rd bs, .tup (st.map D.int)]] S1 _ _
  rw [es]
  refine ltext_ok ok ?_
  show (dSeq (dFor (dRng1 (dCons (dC (.int 8)) dNil)) (gN 7) in56) aft56) (e56 y0 n y3 y4 y5 (some (.str v.tt)) y7 y8 y9) S1 De noE
  have tg1 : T56 S1 (N + 300) n L := ⟨⟨T, ds, d1.le (by omega), n2, dk.same d1 n2 g, l, hd⟩⟩
  refine ⟨⟨by decide, by decide⟩, ?_⟩
  refine for_rng 0 8 (fun i ρ S' => ∃ n' y7, ρ = e56 y0 n' y3 y4 y5 (some (.str v.tt)) y7 y8 y9 ∧ T56 S' (N + 300 + 18 * i) n' (L + 2 * i)) ⟨_, _, rfl, tg1.le (by omega) (by omega)⟩ ?_ ?_
  · rintro i ρ S' K hi hK ⟨n', z7, rfl, t'⟩
    exact in56_ok ok t' (by omega) (by omega) fun n'' S'' t'' => hK _ _ ⟨_, _, rfl, t''.le (by omega) (by omega)⟩
  · rintro ρ S' ⟨n', z7, rfl, t'⟩
    exact aft56_ok ok t' (by omega) (by omega) fun n'' S'' t'' => q _ _ _ _ (t''.le (by omega) (by omega))
theorem q9_ok (tg : T56 S N n L) (hN : N ≤ 100000) (hL : L ≤ 500) (q : ∀ S', De.rt (.bl true) S') : q56_9 (e56 y0 n y3 y4 y5 y6 y7 y8 y9) S De noE := by
  unfold q56_9
  refine ⟨⟨by decide, by decide⟩, ?_⟩
  refine for_rng 0 3 (fun i ρ S' => ∃ n' y5 y6 y7, ρ = e56 y0 n' y3 y4 y5 y6 y7 y8 y9 ∧ T56 S' (N + 1000 * i) n' (L + 19 * i)) ⟨_, _, _, _, rfl, tg.le (by omega) (by omega)⟩ ?_ ?_
  · rintro i ρ S' K hi hK ⟨n', z5, z6, z7, rfl, t'⟩
    exact turn56_ok t' (by omega) (by omega) fun n'' S'' z6 z7 t'' => hK _ _ ⟨_, _, _, _, rfl, t''.le (by omega) (by omega)⟩
  · rintro ρ S' ⟨n', z5, z6, z7, rfl, t'⟩
    exact q10_ok t' (by omega) q
def e8 : FS := (dAsg (dBin gAddC (dVar 2) (dLst (dCons (dBin gAdd (dBin gAdd (dC (.str "3/1 ")) (dJoin (dC (.str ",")) (dBin gMul (dLst (dCons (dC (.str "1")) dNil)) (dVar 4)))) (dC (.str " from 5"))) (dCons (dBin gAdd (dC (.str "3/1 0 from ")) (dJoin (dC (.str ",")) (dBin gMul (dLst (dCons (dC (.str "5")) dNil)) (dVar 4)))) dNil)))) (gN 2))
theorem rep_str (k : Nat) (t : Str) : (List.replicate k [D.str t]).flatten = (List.replicate k t).map D.str := by
  induction k with
  | zero => rfl
  | succ k ih =>
    rw [List.replicate_succ, List.flatten_cons, ih, List.replicate_succ, List.map_cons]
    rfl
theorem sumW_rep (k : Nat) (t : Str) (h : t.length = 1) : sumW (List.replicate k t) = k := by
  show ((List.replicate k t).map (·.length)).sum = k
  rw [List.map_replicate, h, List.sum_replicate_nat]
  omega
theorem mul_lst {f : Bool} {xs : List D} {k : Int} {Q : QD} (h1 : -(2 ^ 63) ≤ k) (h2 : k < 2 ^ 63) (h3 : xs.length * k.toNat ≤ sizeLine) (q : Q (.lst false (List.replicate k.toNat xs).flatten) S) : gMul (.lst f xs) (.int k) S Q := by
  show (-(2 ^ 63) ≤ k ∧ k < 2 ^ 63 ∧ xs.length * k.toNat ≤ sizeLine) ∧ Q (.lst false (List.replicate k.toNat xs).flatten) S
  exact ⟨⟨h1, h2, h3⟩, q⟩
theorem jn_ok {t : Str} {k : Nat} {Q : QD} {ρ : Rho} (ht : t.length = 1) (ha : Asc t) (hk : k ≤ 13) (h4 : getV ρ 4 = some (.int (k : Int))) (q : ∀ u, Sw 40 u → Q (.str u) S) : dJoin (dC (.str ",")) (dBin gMul (dLst (dCons (dC (.str t)) dNil)) (dVar 4)) ρ S Q noE := by
  have l1 : ("," : Str).length = 1 := by decide +kernel
  refine join_ok (ys := List.replicate k t) (b := false) (fun K hK => ?_) ?_ ?_
  · refine ⟨szr rfl, ?_⟩
    show onSome (getV ρ 4) _
    rw [h4]
    refine mul_lst (f := true) (by omega) (by omega) ?_ ?_
    · show 1 * (k : Int).toNat ≤ sizeLine
      exact szd (by omega)
    · rw [← rep_str] at hK
      exact hK
  · rw [sumW_rep k t ht, List.length_replicate, l1]
    omega
  · refine q _ ⟨?_, asc_join asc_comma fun p hp => by rw [(List.mem_replicate.mp hp).2]; exact ha⟩
    refine Nat.le_trans (len_join_le _ _) ?_
    show sumW (List.replicate k t) + (List.replicate k t).length * ("," : Str).length ≤ 40
    rw [sumW_rep k t ht, List.length_replicate, l1]
    omega
theorem e8_ok {k : Nat} (hk : k ≤ 13) (tg : T56 S N n L) (hL : L ≤ 1000) (q : ∀ n' S', T56 S' N n' (L + 2) → De.nx (e56 y0 n' y3 (some (.int (k : Int))) y5 y6 y7 y8 y9) S') : e8 (e56 y0 n y3 (some (.int (k : Int))) y5 y6 y7 y8 y9) S De noE := by
  obtain ⟨T, ds, dk, n2, g, l, hd⟩ := tg.ex
  have p1 : Sw 40 "3/1 " := sw_of (by decide +kernel)
  have p2 : Sw 40 " from 5" := sw_of (by decide +kernel)
  have p3 : Sw 40 "3/1 0 from " := sw_of (by decide +kernel)
  unfold e8
  dsimp only [dAsg, dBin, dLst, dCons, dNil, dC]
  refine onS (a := .cell n) rfl ?_
  dsimp only
  refine jn_ok (ρ := e56 y0 n y3 (some (.int (k : Int))) y5 y6 y7 y8 y9) (t := "1") (k := k) (by decide +kernel) (asc_of (by decide +kernel)) hk rfl fun u hu => ?_
  have w1 := p1.app hu (k := 80) (by decide)
  have w2 := w1.app p2 (k := 120) (by decide)
  have h1 := p1.1
  have h2 := p2.1
  have h3 := p3.1
  have h4 := hu.1
  have h5 := w1.1
  refine ⟨szd (by omega), szd (by omega), ?_⟩
  dsimp only
  refine jn_ok (ρ := e56 y0 n y3 (some (.int (k : Int))) y5 y6 y7 y8 y9) (t := "5") (k := k) (by decide +kernel) (asc_of (by decide +kernel)) hk rfl fun u2 hu2 => ?_
  have w3 := p3.app hu2 (k := 80) (by decide)
  have h6 := hu2.1
  refine ⟨szd (by omega), szr rfl, ?_⟩
  refine onS (lstC_of g) (onS (a := [.str ("3/1 " ++ u ++ " from 5"), .str ("3/1 0 from " ++ u2)]) rfl ⟨szd (by show ds.length + 2 ≤ 100000; omega), ?_⟩)
  refine q _ _ ⟨⟨_, ds ++ [.str ("3/1 " ++ u ++ " from 5"), .str ("3/1 0 from " ++ u2)], dk.snoc _, ?_, ?_, ?_, ?_⟩⟩
  · rw [dk.len]; omega
  · rw [List.getElem?_append_right (Nat.le_refl _), Nat.sub_self]
    rfl
  · rw [List.length_append]; show ds.length + 2 ≤ _; omega
  · intro d h
    rcases List.mem_append.mp h with h | h
    · exact hd d h
    · exact mem2 (P := Th) (w2.th (by decide)) (w3.th (by decide)) d h
theorem q8_ok (tg : T56 S N n L) (hN : N ≤ 100000) (hL : L ≤ 400) (q : ∀ S', De.rt (.bl true) S') : q56_8 (e56 y0 n y3 y4 y5 y6 y7 y8 y9) S De noE := by
  unfold q56_8
  refine ⟨szr rfl, ?_⟩
  have hks : ∀ x ∈ ([.int 9, .int 10, .int 11, .int 12, .int 13] : List D), ∃ k : Nat, x = .int (k : Int) ∧ k ≤ 13 := by
    intro x hx
    simp only [List.mem_cons, List.not_mem_nil, or_false] at hx
    rcases hx with rfl | rfl | rfl | rfl | rfl
    · exact ⟨9, rfl, by decide⟩
    · exact ⟨10, rfl, by decide⟩
    · exact ⟨11, rfl, by decide⟩
    · exact ⟨12, rfl, by decide⟩
    · exact ⟨13, rfl, by decide⟩
  have hl : ([.int 9, .int 10, .int 11, .int 12, .int 13] : List D).length ≤ 5 := by decide
  refine onS (a := ([.int 9, .int 10, .int 11, .int 12, .int 13] : List D)) rfl ?_
  generalize ([.int 9, .int 10, .int 11, .int 12, .int 13] : List D) = xs at hks hl ⊢
  refine for_inv (src := []) xs (fun k ρ S' => k ≤ 5 → ∃ n' y4, ρ = e56 y0 n' y3 y4 y5 y6 y7 y8 y9 ∧ T56 S' N n' (L + 2 * k)) (fun _ => ⟨_, _, rfl, tg⟩) ?_ ?_
  · intro i x ρ S' K hx hK hI
    have hi : i < xs.length := (List.getElem?_eq_some_iff.mp hx).1
    obtain ⟨n', z4, rfl, t'⟩ := hI (by omega)
    obtain ⟨k, rfl, hk⟩ := hks x (List.mem_of_getElem? hx)
    exact e8_ok hk t' (by omega) fun n'' S'' t'' => hK _ _ fun _ => ⟨_, _, rfl, t''.le (Int.le_refl _) (by omega)⟩
  · intro ρ S' hI
    obtain ⟨n', z4, rfl, t'⟩ := hI hl
    exact q9_ok t' hN (by omega) q
theorem q7_ok (tg : T56 S N n L) (hN : N ≤ 100000) (hL : L ≤ 390) (q : ∀ S', De.rt (.bl true) S') : q56_7 (e56 y0 n y3 y4 y5 y6 y7 y8 y9) S De noE := by
  unfold q56_7
  refine forW ["From", "FROM", "fro", "from,", "fromm", "for", "", "0"] (fun K hK => hK) (by decide) ?_
  refine loopW (m := 1) tg (sws (by decide +kernel)) (fun w n' L' S' De' hw t' hl' hq => f1_ok (p := "3/1 0 ") (a := " 5") (sw_of (by decide +kernel)) (sw_of (by decide +kernel)) hw t' (Nat.le_trans hl' (by show L + 1 * 8 ≤ 1000; omega)) hq) fun n' S' z3 t' => ?_
  exact q8_ok t' hN (by show L + 1 * 8 ≤ 400; omega) q
theorem q6_ok (tg : T56 S N n L) (hN : N ≤ 100000) (hL : L ≤ 370) (q : ∀ S', De.rt (.bl true) S') : q56_6 (e56 y0 n y3 y4 y5 y6 y7 y8 y9) S De noE := by
  unfold q56_6
  refine forW ["1000000", "1000001", "10000000", "0,1000000", "1000000,1000001", "5,5", "005", "5.0", "from"] (fun K hK => hK) (by decide) ?_
  refine loopW (m := 2) tg (sws (by decide +kernel)) (fun w n' L' S' De' hw t' hl' hq => d2_ok (p := "3/1 0 from ") (a := " 5") (sw_of (by decide +kernel)) (sw_of (by decide +kernel)) hw t' (Nat.le_trans hl' (by show L + 2 * 9 ≤ 1000; omega)) hq) fun n' S' z3 t' => ?_
  exact q7_ok t' hN (by show L + 2 * 9 ≤ 390; omega) q
theorem q5_ok (tg : T56 S N n L) (hN : N ≤ 100000) (hL : L ≤ 290) (q : ∀ S', De.rt (.bl true) S') : q56_5 (e56 y0 n y3 y4 y5 y6 y7 y8 y9) S De noE := by
  unfold q56_5
  refine forW ["0", "12", "13", "00", "01", "-1", "+1", "1,", ",1", ",", "1,1", "1,13", "1;1", "1_0", "x", "1,,1"] (fun K hK => hK) (by decide) ?_
  refine loopW (m := 5) tg (sws (by decide +kernel)) (fun w n' L' S' De' hw t' hl' hq => ?_) fun n' S' z3 t' => ?_
  · have hl' : L' ≤ L + 5 * 16 := hl'
    refine c3_ok (p := "3/1 ") (a := " from 5") (b := " From 5") (sw_of (by decide +kernel)) (sw_of (by decide +kernel)) (sw_of (by decide +kernel)) hw t' (by omega) fun n1 S1 t1 => ?_
    exact c2_ok (p := "3/1 0 from ") (r := "3/1 0,1,2 from 7,") (sw_of (by decide +kernel)) (sw_of (by decide +kernel)) hw t1 (by omega) hq
  · exact q6_ok t' hN (by show L + 5 * 16 ≤ 370; omega) q
theorem q4_ok (tg : T56 S N n L) (hN : N ≤ 100000) (hL : L ≤ 260) (q : ∀ S', De.rt (.bl true) S') : q56_4 (e56 y0 n y3 y4 y5 y6 y7 y8 y9) S De noE := by
  unfold q56_4
  refine forW ["3/", "/1", "3/1/1", "3,1", "3 /1", "3/1,", "3_0/1", "x/1", "3/1x", "30000000/1", "", "3:1", "//"] (fun K hK => hK) (by decide) ?_
  refine loopW (m := 2) tg (sws (by decide +kernel)) (fun w n' L' S' De' hw t' hl' hq => b2_ok (a := " 0 from 5") (b := " x from 5") (sw_of (by decide +kernel)) (sw_of (by decide +kernel)) hw t' (Nat.le_trans hl' (by show L + 2 * 13 ≤ 1000; omega)) hq) fun n' S' z3 t' => ?_
  exact q5_ok t' hN (by show L + 2 * 13 ≤ 290; omega) q
theorem q3_ok (tg : T56 S N n L) (hN : N ≤ 100000) (hL : L ≤ 220) (q : ∀ S', De.rt (.bl true) S') : q56_3 (e56 y0 n y3 y4 y5 y6 y7 y8 y9) S De noE := by
  unfold q56_3
  refine forW ["2/1", "1/1", "1/0", "1000/999", "1001/1", "1000/1000", "4/10", "03/1", "3/01", "+3/1", "3/-1", "3"] (fun K hK => hK) (by decide) ?_
  refine loopW (m := 3) tg (sws (by decide +kernel)) (fun w n' L' S' De' hw t' hl' hq => b3_ok (a := " 0 from 5") (b := " 0 to 5") (sw_of (by decide +kernel)) (sw_of (by decide +kernel)) hw t' (Nat.le_trans hl' (by show L + 3 * 12 ≤ 1000; omega)) hq) fun n' S' z3 t' => ?_
  exact q4_ok t' hN (by show L + 3 * 12 ≤ 260; omega) q
theorem strs_th {es : List Str} (h : ∀ w ∈ es, Sw 40 w) : ∀ d ∈ es.map D.str, Th d := fun d hd => by
  obtain ⟨w, hw, rfl⟩ := List.mem_map.mp hd
  exact (h w hw).th (by decide)
theorem q2_ok (tg : T56 S N n L) (hN : N ≤ 100000) (hL : L ≤ 200) (q : ∀ S', De.rt (.bl true) S') : q56_2 (e56 y0 n y3 y4 y5 y6 y7 y8 y9) S De noE := by
  unfold q56_2
  refine addC_ok (es := (["3/1  0 from 5", "3/1 0  from 5", "3/1 0 from  5", "from", "3/1 from 5", "3/1 0 5", "0 from 5"] : List Str).map D.str) (m := 7) tg rfl (fun K hK => hK) (strs_th (sws (by decide +kernel))) (by decide) (by omega) fun n' S' t' => ?_
  exact q3_ok t' hN (by omega) q
end
theorem law_ok : ∀ ns : List Int, ns.length ≤ 63 → F_law_k56 [.kls (ns.map D.int)] [] (fun d _ => d = .bl true) noE := by
  intro ns _
  unfold F_law_k56
  refine ⟨rfl, deck2_ok fun S dk => ?_⟩
  show q56_1 [some (.kls (ns.map D.int)), some (.cell 1), none, none, none, none, none, none, none, none] S _ _
  unfold q56_1
  refine ⟨szr rfl, ?_⟩
  have h9 : ∀ d ∈ (["", " ", "3/1", "3/1 0", "3/1 0 from", "3/1 0 from 5", "3/1 0 from 5 ", "3/1 0 from 5 x", " 3/1 0 from 5"] : List Str).map D.str, Th d := strs_th (sws (by decide +kernel))
  have d1 := dk.snoc (.lst ((["", " ", "3/1", "3/1 0", "3/1 0 from", "3/1 0 from 5", "3/1 0 from 5 ", "3/1 0 from 5 x", " 3/1 0 from 5"] : List Str).map D.str))
  have tg : T56 (S ++ [.lst ((["", " ", "3/1", "3/1 0", "3/1 0 from", "3/1 0 from 5", "3/1 0 from 5 ", "3/1 0 from 5 x", " 3/1 0 from 5"] : List Str).map D.str)]) 0 S.length 9 := ⟨⟨_, _, d1, by rw [dk.len]; omega, by rw [List.getElem?_append_right (Nat.le_refl _), Nat.sub_self]; rfl, by decide, h9⟩⟩
  exact q2_ok (y0 := some (.kls (ns.map D.int))) (y3 := none) (y4 := none) (y5 := none) (y6 := none) (y7 := none) (y8 := none) (y9 := none) tg (by decide) (by decide) fun S' => ⟨⟨rfl, rfl⟩, rfl⟩
end Pu
namespace Pu
open PySem PySem.Spec PyProof.Rows L2
theorem all_mk {l : PySem.W.OpenLaw} {w : World} {K : PySem.W.Frag} {h : Heap} {mg : Str → Option Value} {fa : Addr} (X : K.In h) (G : h.Ns mainGlobals mg) (hfa : mg "law" = some (.ref fa))
    {C_TripError : Addr}
    (aC_TripError : PySem.W.nsIn K mainGlobals "TripError" = some (some (.ref C_TripError)))
    {C_BadStarts : Addr}
    (aC_BadStarts : PySem.W.nsIn K mainGlobals "BadStarts" = some (some (.ref C_BadStarts)))
    {C_BadRoad : Addr}
    (aC_BadRoad : PySem.W.nsIn K mainGlobals "BadRoad" = some (some (.ref C_BadRoad)))
    {C_BadText : Addr}
    (aC_BadText : PySem.W.nsIn K mainGlobals "BadText" = some (some (.ref C_BadText)))
    {f_parse_trip : Addr} {od_parse_trip an_parse_trip : Option Addr} {sl_parse_trip : Array (Option Value)} {oc_parse_trip kV_parse_trip dc_parse_trip pm_parse_trip cd_parse_trip ct_parse_trip : Value}
    (a_parse_trip : PySem.W.nsIn K mainGlobals "parse_trip" = some (some (.ref f_parse_trip)))
    (l_parse_trip : K.lookup f_parse_trip = some ⟨oc_parse_trip, od_parse_trip, .func (PySem.W.fnOf "parse_trip" "parse_trip" (defArgs s_parse_trip) (defBody s_parse_trip) (defScope s_parse_trip) .none kV_parse_trip dc_parse_trip pm_parse_trip an_parse_trip cd_parse_trip ct_parse_trip), sl_parse_trip⟩)
    (c_parse_trip : PySem.W.codeIn K cd_parse_trip "parse_trip" = true)
    (k_parse_trip : PySem.W.keepIn K (.ref f_parse_trip) = true)
    {f_part_in : Addr} {od_part_in an_part_in : Option Addr} {sl_part_in : Array (Option Value)} {oc_part_in kV_part_in dc_part_in pm_part_in cd_part_in ct_part_in : Value}
    (a_part_in : PySem.W.nsIn K mainGlobals "part_in" = some (some (.ref f_part_in)))
    (l_part_in : K.lookup f_part_in = some ⟨oc_part_in, od_part_in, .func (PySem.W.fnOf "part_in" "part_in" (defArgs s_part_in) (defBody s_part_in) (defScope s_part_in) .none kV_part_in dc_part_in pm_part_in an_part_in cd_part_in ct_part_in), sl_part_in⟩)
    (c_part_in : PySem.W.codeIn K cd_part_in "part_in" = true)
    (k_part_in : PySem.W.keepIn K (.ref f_part_in) = true)
    {f_ticks_in : Addr} {od_ticks_in an_ticks_in : Option Addr} {sl_ticks_in : Array (Option Value)} {oc_ticks_in kV_ticks_in dc_ticks_in pm_ticks_in cd_ticks_in ct_ticks_in : Value}
    (a_ticks_in : PySem.W.nsIn K mainGlobals "ticks_in" = some (some (.ref f_ticks_in)))
    (l_ticks_in : K.lookup f_ticks_in = some ⟨oc_ticks_in, od_ticks_in, .func (PySem.W.fnOf "ticks_in" "ticks_in" (defArgs s_ticks_in) (defBody s_ticks_in) (defScope s_ticks_in) .none kV_ticks_in dc_ticks_in pm_ticks_in an_ticks_in cd_ticks_in ct_ticks_in), sl_ticks_in⟩)
    (c_ticks_in : PySem.W.codeIn K cd_ticks_in "ticks_in" = true)
    (k_ticks_in : PySem.W.keepIn K (.ref f_ticks_in) = true)
    {f_numbers_in : Addr} {od_numbers_in an_numbers_in : Option Addr} {sl_numbers_in : Array (Option Value)} {oc_numbers_in kV_numbers_in dc_numbers_in pm_numbers_in cd_numbers_in ct_numbers_in : Value}
    (a_numbers_in : PySem.W.nsIn K mainGlobals "numbers_in" = some (some (.ref f_numbers_in)))
    (l_numbers_in : K.lookup f_numbers_in = some ⟨oc_numbers_in, od_numbers_in, .func (PySem.W.fnOf "numbers_in" "numbers_in" (defArgs s_numbers_in) (defBody s_numbers_in) (defScope s_numbers_in) .none kV_numbers_in dc_numbers_in pm_numbers_in an_numbers_in cd_numbers_in ct_numbers_in), sl_numbers_in⟩)
    (c_numbers_in : PySem.W.codeIn K cd_numbers_in "numbers_in" = true)
    (k_numbers_in : PySem.W.keepIn K (.ref f_numbers_in) = true)
    {f_number_in : Addr} {od_number_in an_number_in : Option Addr} {sl_number_in : Array (Option Value)} {oc_number_in kV_number_in dc_number_in pm_number_in cd_number_in ct_number_in : Value}
    (a_number_in : PySem.W.nsIn K mainGlobals "number_in" = some (some (.ref f_number_in)))
    (l_number_in : K.lookup f_number_in = some ⟨oc_number_in, od_number_in, .func (PySem.W.fnOf "number_in" "number_in" (defArgs s_number_in) (defBody s_number_in) (defScope s_number_in) .none kV_number_in dc_number_in pm_number_in an_number_in cd_number_in ct_number_in), sl_number_in⟩)
    (c_number_in : PySem.W.codeIn K cd_number_in "number_in" = true)
    (k_number_in : PySem.W.keepIn K (.ref f_number_in) = true)
    {f__law_deck : Addr} {od__law_deck an__law_deck : Option Addr} {sl__law_deck : Array (Option Value)} {oc__law_deck kV__law_deck dc__law_deck pm__law_deck cd__law_deck ct__law_deck : Value}
    (a__law_deck : PySem.W.nsIn K mainGlobals "_law_deck" = some (some (.ref f__law_deck)))
    (l__law_deck : K.lookup f__law_deck = some ⟨oc__law_deck, od__law_deck, .func (PySem.W.fnOf "_law_deck" "_law_deck" (defArgs s__law_deck) (defBody s__law_deck) (defScope s__law_deck) .none kV__law_deck dc__law_deck pm__law_deck an__law_deck cd__law_deck ct__law_deck), sl__law_deck⟩)
    (c__law_deck : PySem.W.codeIn K cd__law_deck "_law_deck" = true)
    (k__law_deck : PySem.W.keepIn K (.ref f__law_deck) = true)
    {f__law_draw : Addr} {od__law_draw an__law_draw : Option Addr} {sl__law_draw : Array (Option Value)} {oc__law_draw kV__law_draw dc__law_draw pm__law_draw cd__law_draw ct__law_draw : Value}
    (a__law_draw : PySem.W.nsIn K mainGlobals "_law_draw" = some (some (.ref f__law_draw)))
    (l__law_draw : K.lookup f__law_draw = some ⟨oc__law_draw, od__law_draw, .func (PySem.W.fnOf "_law_draw" "_law_draw" (defArgs s__law_draw) (defBody s__law_draw) (defScope s__law_draw) .none kV__law_draw dc__law_draw pm__law_draw an__law_draw cd__law_draw ct__law_draw), sl__law_draw⟩)
    (c__law_draw : PySem.W.codeIn K cd__law_draw "_law_draw" = true)
    (k__law_draw : PySem.W.keepIn K (.ref f__law_draw) = true)
    {f__law_same : Addr} {od__law_same an__law_same : Option Addr} {sl__law_same : Array (Option Value)} {oc__law_same kV__law_same dc__law_same pm__law_same cd__law_same ct__law_same : Value}
    (a__law_same : PySem.W.nsIn K mainGlobals "_law_same" = some (some (.ref f__law_same)))
    (l__law_same : K.lookup f__law_same = some ⟨oc__law_same, od__law_same, .func (PySem.W.fnOf "_law_same" "_law_same" (defArgs s__law_same) (defBody s__law_same) (defScope s__law_same) .none kV__law_same dc__law_same pm__law_same an__law_same cd__law_same ct__law_same), sl__law_same⟩)
    (c__law_same : PySem.W.codeIn K cd__law_same "_law_same" = true)
    (k__law_same : PySem.W.keepIn K (.ref f__law_same) = true)
    {f__law_state : Addr} {od__law_state an__law_state : Option Addr} {sl__law_state : Array (Option Value)} {oc__law_state kV__law_state dc__law_state pm__law_state cd__law_state ct__law_state : Value}
    (a__law_state : PySem.W.nsIn K mainGlobals "_law_state" = some (some (.ref f__law_state)))
    (l__law_state : K.lookup f__law_state = some ⟨oc__law_state, od__law_state, .func (PySem.W.fnOf "_law_state" "_law_state" (defArgs s__law_state) (defBody s__law_state) (defScope s__law_state) .none kV__law_state dc__law_state pm__law_state an__law_state cd__law_state ct__law_state), sl__law_state⟩)
    (c__law_state : PySem.W.codeIn K cd__law_state "_law_state" = true)
    (k__law_state : PySem.W.keepIn K (.ref f__law_state) = true)
    {f__law_numbers_text : Addr} {od__law_numbers_text an__law_numbers_text : Option Addr} {sl__law_numbers_text : Array (Option Value)} {oc__law_numbers_text kV__law_numbers_text dc__law_numbers_text pm__law_numbers_text cd__law_numbers_text ct__law_numbers_text : Value}
    (a__law_numbers_text : PySem.W.nsIn K mainGlobals "_law_numbers_text" = some (some (.ref f__law_numbers_text)))
    (l__law_numbers_text : K.lookup f__law_numbers_text = some ⟨oc__law_numbers_text, od__law_numbers_text, .func (PySem.W.fnOf "_law_numbers_text" "_law_numbers_text" (defArgs s__law_numbers_text) (defBody s__law_numbers_text) (defScope s__law_numbers_text) .none kV__law_numbers_text dc__law_numbers_text pm__law_numbers_text an__law_numbers_text cd__law_numbers_text ct__law_numbers_text), sl__law_numbers_text⟩)
    (c__law_numbers_text : PySem.W.codeIn K cd__law_numbers_text "_law_numbers_text" = true)
    (k__law_numbers_text : PySem.W.keepIn K (.ref f__law_numbers_text) = true)
    {f__law_trip_text : Addr} {od__law_trip_text an__law_trip_text : Option Addr} {sl__law_trip_text : Array (Option Value)} {oc__law_trip_text kV__law_trip_text dc__law_trip_text pm__law_trip_text cd__law_trip_text ct__law_trip_text : Value}
    (a__law_trip_text : PySem.W.nsIn K mainGlobals "_law_trip_text" = some (some (.ref f__law_trip_text)))
    (l__law_trip_text : K.lookup f__law_trip_text = some ⟨oc__law_trip_text, od__law_trip_text, .func (PySem.W.fnOf "_law_trip_text" "_law_trip_text" (defArgs s__law_trip_text) (defBody s__law_trip_text) (defScope s__law_trip_text) .none kV__law_trip_text dc__law_trip_text pm__law_trip_text an__law_trip_text cd__law_trip_text ct__law_trip_text), sl__law_trip_text⟩)
    (c__law_trip_text : PySem.W.codeIn K cd__law_trip_text "_law_trip_text" = true)
    (k__law_trip_text : PySem.W.keepIn K (.ref f__law_trip_text) = true)
    {f__law_odd : Addr} {od__law_odd an__law_odd : Option Addr} {sl__law_odd : Array (Option Value)} {oc__law_odd kV__law_odd dc__law_odd pm__law_odd cd__law_odd ct__law_odd : Value}
    (a__law_odd : PySem.W.nsIn K mainGlobals "_law_odd" = some (some (.ref f__law_odd)))
    (l__law_odd : K.lookup f__law_odd = some ⟨oc__law_odd, od__law_odd, .func (PySem.W.fnOf "_law_odd" "_law_odd" (defArgs s__law_odd) (defBody s__law_odd) (defScope s__law_odd) .none kV__law_odd dc__law_odd pm__law_odd an__law_odd cd__law_odd ct__law_odd), sl__law_odd⟩)
    (c__law_odd : PySem.W.codeIn K cd__law_odd "_law_odd" = true)
    (k__law_odd : PySem.W.keepIn K (.ref f__law_odd) = true)
    {f__law_bent : Addr} {od__law_bent an__law_bent : Option Addr} {sl__law_bent : Array (Option Value)} {oc__law_bent kV__law_bent dc__law_bent pm__law_bent cd__law_bent ct__law_bent : Value}
    (a__law_bent : PySem.W.nsIn K mainGlobals "_law_bent" = some (some (.ref f__law_bent)))
    (l__law_bent : K.lookup f__law_bent = some ⟨oc__law_bent, od__law_bent, .func (PySem.W.fnOf "_law_bent" "_law_bent" (defArgs s__law_bent) (defBody s__law_bent) (defScope s__law_bent) .none kV__law_bent dc__law_bent pm__law_bent an__law_bent cd__law_bent ct__law_bent), sl__law_bent⟩)
    (c__law_bent : PySem.W.codeIn K cd__law_bent "_law_bent" = true)
    (k__law_bent : PySem.W.keepIn K (.ref f__law_bent) = true)
    {f__law_numbers : Addr} {od__law_numbers an__law_numbers : Option Addr} {sl__law_numbers : Array (Option Value)} {oc__law_numbers kV__law_numbers dc__law_numbers pm__law_numbers cd__law_numbers ct__law_numbers : Value}
    (a__law_numbers : PySem.W.nsIn K mainGlobals "_law_numbers" = some (some (.ref f__law_numbers)))
    (l__law_numbers : K.lookup f__law_numbers = some ⟨oc__law_numbers, od__law_numbers, .func (PySem.W.fnOf "_law_numbers" "_law_numbers" (defArgs s__law_numbers) (defBody s__law_numbers) (defScope s__law_numbers) .none kV__law_numbers dc__law_numbers pm__law_numbers an__law_numbers cd__law_numbers ct__law_numbers), sl__law_numbers⟩)
    (c__law_numbers : PySem.W.codeIn K cd__law_numbers "_law_numbers" = true)
    (k__law_numbers : PySem.W.keepIn K (.ref f__law_numbers) = true)
    {f__law_part : Addr} {od__law_part an__law_part : Option Addr} {sl__law_part : Array (Option Value)} {oc__law_part kV__law_part dc__law_part pm__law_part cd__law_part ct__law_part : Value}
    (a__law_part : PySem.W.nsIn K mainGlobals "_law_part" = some (some (.ref f__law_part)))
    (l__law_part : K.lookup f__law_part = some ⟨oc__law_part, od__law_part, .func (PySem.W.fnOf "_law_part" "_law_part" (defArgs s__law_part) (defBody s__law_part) (defScope s__law_part) .none kV__law_part dc__law_part pm__law_part an__law_part cd__law_part ct__law_part), sl__law_part⟩)
    (c__law_part : PySem.W.codeIn K cd__law_part "_law_part" = true)
    (k__law_part : PySem.W.keepIn K (.ref f__law_part) = true)
    {f__law_due : Addr} {od__law_due an__law_due : Option Addr} {sl__law_due : Array (Option Value)} {oc__law_due kV__law_due dc__law_due pm__law_due cd__law_due ct__law_due : Value}
    (a__law_due : PySem.W.nsIn K mainGlobals "_law_due" = some (some (.ref f__law_due)))
    (l__law_due : K.lookup f__law_due = some ⟨oc__law_due, od__law_due, .func (PySem.W.fnOf "_law_due" "_law_due" (defArgs s__law_due) (defBody s__law_due) (defScope s__law_due) .none kV__law_due dc__law_due pm__law_due an__law_due cd__law_due ct__law_due), sl__law_due⟩)
    (c__law_due : PySem.W.codeIn K cd__law_due "_law_due" = true)
    (k__law_due : PySem.W.keepIn K (.ref f__law_due) = true)
    {f__law_told : Addr} {od__law_told an__law_told : Option Addr} {sl__law_told : Array (Option Value)} {oc__law_told kV__law_told dc__law_told pm__law_told cd__law_told ct__law_told : Value}
    (a__law_told : PySem.W.nsIn K mainGlobals "_law_told" = some (some (.ref f__law_told)))
    (l__law_told : K.lookup f__law_told = some ⟨oc__law_told, od__law_told, .func (PySem.W.fnOf "_law_told" "_law_told" (defArgs s__law_told) (defBody s__law_told) (defScope s__law_told) .none kV__law_told dc__law_told pm__law_told an__law_told cd__law_told ct__law_told), sl__law_told⟩)
    (c__law_told : PySem.W.codeIn K cd__law_told "_law_told" = true)
    (k__law_told : PySem.W.keepIn K (.ref f__law_told) = true)
    {f_law : Addr} {od_law an_law : Option Addr} {sl_law : Array (Option Value)} {oc_law kV_law dc_law pm_law cd_law ct_law : Value}
    (a_law : PySem.W.nsIn K mainGlobals "law" = some (some (.ref f_law)))
    (l_law : K.lookup f_law = some ⟨oc_law, od_law, .func (PySem.W.fnOf "law" "law" (defArgs s_law) (defBody s_law) (defScope s_law) .none kV_law dc_law pm_law an_law cd_law ct_law), sl_law⟩)
    (c_law : PySem.W.codeIn K cd_law "law" = true)
    (k_law : PySem.W.keepIn K (.ref f_law) = true)
    (cgE : PySem.W.specialIn K (.builtin "object.__class__") "__get__" = some (some (.builtin "getset_descriptor.__get__")))
    (ctE : PySem.W.takesIn K (.builtin "object.__class__") = some true)
    (xmk_BadText : PySem.W.excInitIn K C_BadText [.type "ValueError", .type "Exception", .type "BaseException", .type "object"] "ValueError.__new__" = true)
    (xov_BadText : PySem.W.excOver K C_BadText [.type "ValueError", .type "Exception", .type "BaseException", .type "object"] = true)
    (xsa_BadText : PySem.W.findIn K (.ref C_BadText) "__setattr__" = some (some (.builtin "object.__setattr__")))
    (xga_BadText : PySem.W.findIn K (.ref C_BadText) "__getattribute__" = some (some (.builtin "BaseException.__getattribute__")))
    (xgg_BadText : PySem.W.findIn K (.ref C_BadText) "__getattr__" = some none)
    (xnb_BadText : PySem.W.findIn K (.ref C_BadText) "index" = some none)
    (xcl_BadText : PySem.W.findIn K (.ref C_BadText) "__class__" = some (some (.builtin "object.__class__")))
    (xco_BadText : PySem.W.mroIn K C_BadText (.type "object") = some true)
    (xkC_BadText : PySem.W.keepIn K (.ref C_BadText) = true)
    (xhd_BadText : PySem.W.hasDictIn K C_BadText = true)
    (xiC_BadText : PySem.W.isClsIn K C_BadText = true)
    (xtC_BadText : PySem.W.typeIn K (.ref C_BadText) = some (.type "type"))
    (xeC_BadText : PySem.W.subIn K (.ref C_BadText) (.type "BaseException") = some true)
    {f_iBadText : Addr} {od_iBadText an_iBadText : Option Addr} {sl_iBadText : Array (Option Value)} {oc_iBadText kV_iBadText dc_iBadText pm_iBadText cd_iBadText ct_iBadText : Value}
    (ini_BadText : PySem.W.findIn K (.ref C_BadText) "__init__" = some (some (.ref f_iBadText)))
    (tI_BadText : PySem.W.typeIn K (.ref f_iBadText) = some (.type "function"))
    (lI_BadText : K.lookup f_iBadText = some ⟨oc_iBadText, od_iBadText, .func (PySem.W.fnOf "__init__" "BadText.__init__" (defArgs si_BadText) (defBody si_BadText) (defScope si_BadText) .none kV_iBadText dc_iBadText pm_iBadText an_iBadText cd_iBadText ct_iBadText), sl_iBadText⟩)
    (cI_BadText : PySem.W.codeIn K cd_iBadText "BadText.__init__" = true)
    (kI_BadText : PySem.W.keepIn K (.ref f_iBadText) = true)
    (kx_BadText_BadRoad : PySem.W.kitOne K (.ref C_BadText) (.ref C_BadRoad) = some false)
    (kx_BadText_BadStarts : PySem.W.kitOne K (.ref C_BadText) (.ref C_BadStarts) = some false)
    (kx_BadText_LookupError : PySem.W.kitOne K (.ref C_BadText) (.type "LookupError") = some false)
    (kx_BadText_TripError : PySem.W.kitOne K (.ref C_BadText) (.ref C_TripError) = some true)
    (ex_BadText_BadText : PySem.W.exmOne K (.ref C_BadText) (.ref C_BadText) = some true)
    {t_WORDS : Tok}
    (v_WORDS : PySem.W.nsIn K mainGlobals "WORDS" = some (some (.int 4 t_WORDS)))
    {t_MAX_STAGES : Tok}
    (v_MAX_STAGES : PySem.W.nsIn K mainGlobals "MAX_STAGES" = some (some (.int 12 t_MAX_STAGES)))
    {t_MAX_BIKES : Tok}
    (v_MAX_BIKES : PySem.W.nsIn K mainGlobals "MAX_BIKES" = some (some (.int 12 t_MAX_BIKES)))
    {t_MAX_PEOPLE : Tok}
    (v_MAX_PEOPLE : PySem.W.nsIn K mainGlobals "MAX_PEOPLE" = some (some (.int 10 t_MAX_PEOPLE)))
    {t_MAX_START : Tok}
    (v_MAX_START : PySem.W.nsIn K mainGlobals "MAX_START" = some (some (.int 1000000 t_MAX_START)))
    {t_MAX_TICKS : Tok}
    (v_MAX_TICKS : PySem.W.nsIn K mainGlobals "MAX_TICKS" = some (some (.int 1000 t_MAX_TICKS)))
    (z_LookupError : PySem.W.nsIn K mainGlobals "LookupError" = some none)
    (z_abs : PySem.W.nsIn K mainGlobals "abs" = some none)
    (z_bool : PySem.W.nsIn K mainGlobals "bool" = some none)
    (z_enumerate : PySem.W.nsIn K mainGlobals "enumerate" = some none)
    (z_int : PySem.W.nsIn K mainGlobals "int" = some none)
    (z_isinstance : PySem.W.nsIn K mainGlobals "isinstance" = some none)
    (z_len : PySem.W.nsIn K mainGlobals "len" = some none)
    (z_max : PySem.W.nsIn K mainGlobals "max" = some none)
    (z_range : PySem.W.nsIn K mainGlobals "range" = some none)
    (z_repr : PySem.W.nsIn K mainGlobals "repr" = some none)
    (z_str : PySem.W.nsIn K mainGlobals "str" = some none)
    (z_tuple : PySem.W.nsIn K mainGlobals "tuple" = some none)
    (z_zip : PySem.W.nsIn K mainGlobals "zip" = some none)
    : ∃ fd : FuncData, (∀ (s : Shared) (v : Value), BindsTo s fd ⟨[v], []⟩ [("_law_script", v)]) ∧ ∀ base : Heap, K.In base → base.Ns mainGlobals mg → Rb.FnG l.prog w K mg base CX0 8 fa fd ["_law_script"] (spF (Pu.ct0 K mg) F_law_k56) := by
  cases hfa.symm.trans (PySem.W.mg_of X G a_law)
  have F_parse_trip := fun_mk (st := s_parse_trip) l_parse_trip c_parse_trip k_parse_trip
  have b_parse_trip := F_parse_trip.binds (ps := ["value"]) fun _ _ _ _ _ _ us hl => match us, hl with | [_], _ => rfl
  have F_part_in := fun_mk (st := s_part_in) l_part_in c_part_in k_part_in
  have b_part_in := F_part_in.binds (ps := ["word", "index"]) fun _ _ _ _ _ _ us hl => match us, hl with | [_, _], _ => rfl
  have F_ticks_in := fun_mk (st := s_ticks_in) l_ticks_in c_ticks_in k_ticks_in
  have b_ticks_in := F_ticks_in.binds (ps := ["word"]) fun _ _ _ _ _ _ us hl => match us, hl with | [_], _ => rfl
  have F_numbers_in := fun_mk (st := s_numbers_in) l_numbers_in c_numbers_in k_numbers_in
  have b_numbers_in := F_numbers_in.binds (ps := ["word", "many", "most"]) fun _ _ _ _ _ _ us hl => match us, hl with | [_, _, _], _ => rfl
  have F_number_in := fun_mk (st := s_number_in) l_number_in c_number_in k_number_in
  have b_number_in := F_number_in.binds (ps := ["text", "least", "most"]) fun _ _ _ _ _ _ us hl => match us, hl with | [_, _, _], _ => rfl
  have F__law_deck := fun_mk (st := s__law_deck) l__law_deck c__law_deck k__law_deck
  have b__law_deck := F__law_deck.binds (ps := ["_law_script"]) fun _ _ _ _ _ _ us hl => match us, hl with | [_], _ => rfl
  have F__law_draw := fun_mk (st := s__law_draw) l__law_draw c__law_draw k__law_draw
  have b__law_draw := F__law_draw.binds (ps := ["_law_deck_here", "_law_bound"]) fun _ _ _ _ _ _ us hl => match us, hl with | [_, _], _ => rfl
  have F__law_same := fun_mk (st := s__law_same) l__law_same c__law_same k__law_same
  have b__law_same := F__law_same.binds (ps := ["_law_found", "_law_due_here"]) fun _ _ _ _ _ _ us hl => match us, hl with | [_, _], _ => rfl
  have F__law_state := fun_mk (st := s__law_state) l__law_state c__law_state k__law_state
  have b__law_state := F__law_state.binds (ps := ["_law_deck_here", "_law_stages", "_law_people"]) fun _ _ _ _ _ _ us hl => match us, hl with | [_, _, _], _ => rfl
  have F__law_numbers_text := fun_mk (st := s__law_numbers_text) l__law_numbers_text c__law_numbers_text k__law_numbers_text
  have b__law_numbers_text := F__law_numbers_text.binds (ps := ["_law_numbers_here"]) fun _ _ _ _ _ _ us hl => match us, hl with | [_], _ => rfl
  have F__law_trip_text := fun_mk (st := s__law_trip_text) l__law_trip_text c__law_trip_text k__law_trip_text
  have b__law_trip_text := F__law_trip_text.binds (ps := ["_law_state_here"]) fun _ _ _ _ _ _ us hl => match us, hl with | [_], _ => rfl
  have F__law_odd := fun_mk (st := s__law_odd) l__law_odd c__law_odd k__law_odd
  have b__law_odd := F__law_odd.binds (ps := ["_law_deck_here"]) fun _ _ _ _ _ _ us hl => match us, hl with | [_], _ => rfl
  have F__law_bent := fun_mk (st := s__law_bent) l__law_bent c__law_bent k__law_bent
  have b__law_bent := F__law_bent.binds (ps := ["_law_deck_here", "_law_text"]) fun _ _ _ _ _ _ us hl => match us, hl with | [_, _], _ => rfl
  have F__law_numbers := fun_mk (st := s__law_numbers) l__law_numbers c__law_numbers k__law_numbers
  have b__law_numbers := F__law_numbers.binds (ps := ["_law_word", "_law_sign", "_law_most"]) fun _ _ _ _ _ _ us hl => match us, hl with | [_, _, _], _ => rfl
  have F__law_part := fun_mk (st := s__law_part) l__law_part c__law_part k__law_part
  have b__law_part := F__law_part.binds (ps := ["_law_index", "_law_word"]) fun _ _ _ _ _ _ us hl => match us, hl with | [_, _], _ => rfl
  have F__law_due := fun_mk (st := s__law_due) l__law_due c__law_due k__law_due
  have b__law_due := F__law_due.binds (ps := ["_law_text"]) fun _ _ _ _ _ _ us hl => match us, hl with | [_], _ => rfl
  have F__law_told := fun_mk (st := s__law_told) l__law_told c__law_told k__law_told
  have b__law_told := F__law_told.binds (ps := ["_law_text"]) fun _ _ _ _ _ _ us hl => match us, hl with | [_], _ => rfl
  have F_law := fun_mk (st := s_law) l_law c_law k_law
  have b_law := F_law.binds (ps := ["_law_script"]) fun _ _ _ _ _ _ us hl => match us, hl with | [_], _ => rfl
  have E_BadText : OwnI K C_BadText := ⟨⟨xga_BadText, xgg_BadText, xeC_BadText, xhd_BadText⟩, xiC_BadText, xcl_BadText, cgE, ctE, xco_BadText⟩
  have L_BadText : ErrC K C_BadText [.type "ValueError", .type "Exception", .type "BaseException", .type "object"] "ValueError.__new__" := ⟨xmk_BadText, xov_BadText, xhd_BadText, xsa_BadText, xeC_BadText, xtC_BadText, xkC_BadText⟩
  have FI_BadText := fun_mk (st := si_BadText) lI_BadText cI_BadText kI_BadText
  have bI_BadText := FI_BadText.binds (ps := ["self", "index"]) fun _ _ _ _ _ _ us hl => match us, hl with | [_, _], _ => rfl
  exact ⟨_, fun s v => .of_eq rfl, fun base _ _ => G_law (⟨_, _, F_parse_trip, PySem.W.mg_of X G a_parse_trip, b_parse_trip, _, _, F_part_in, PySem.W.mg_of X G a_part_in, b_part_in, _, _, F_ticks_in, PySem.W.mg_of X G a_ticks_in, b_ticks_in, _, _, F_numbers_in, PySem.W.mg_of X G a_numbers_in, b_numbers_in, _, _, F_number_in, PySem.W.mg_of X G a_number_in, b_number_in, _, _, F__law_deck, PySem.W.mg_of X G a__law_deck, b__law_deck, _, _, F__law_draw, PySem.W.mg_of X G a__law_draw, b__law_draw, _, _, F__law_same, PySem.W.mg_of X G a__law_same, b__law_same, _, _, F__law_state, PySem.W.mg_of X G a__law_state, b__law_state, _, _, F__law_numbers_text, PySem.W.mg_of X G a__law_numbers_text, b__law_numbers_text, _, _, F__law_trip_text, PySem.W.mg_of X G a__law_trip_text, b__law_trip_text, _, _, F__law_odd, PySem.W.mg_of X G a__law_odd, b__law_odd, _, _, F__law_bent, PySem.W.mg_of X G a__law_bent, b__law_bent, _, _, F__law_numbers, PySem.W.mg_of X G a__law_numbers, b__law_numbers, _, _, F__law_part, PySem.W.mg_of X G a__law_part, b__law_part, _, _, F__law_due, PySem.W.mg_of X G a__law_due, b__law_due, _, _, F__law_told, PySem.W.mg_of X G a__law_told, b__law_told, _, _, F_law, PySem.W.mg_of X G a_law, b_law, _, PySem.W.mg_of X G aC_TripError, _, PySem.W.mg_of X G aC_BadStarts, _, PySem.W.mg_of X G aC_BadRoad, _, PySem.W.mg_of X G aC_BadText, E_BadText, L_BadText, xnb_BadText, _, _, ini_BadText, tI_BadText, FI_BadText, bI_BadText, xi_own (PySem.W.mg_of X G aC_BadText) E_BadText (PySem.W.mg_of X G aC_BadRoad) kx_BadText_BadRoad, xi_own (PySem.W.mg_of X G aC_BadText) E_BadText (PySem.W.mg_of X G aC_BadStarts) kx_BadText_BadStarts, xi_ty (PySem.W.mg_of X G aC_BadText) E_BadText (PySem.W.mg_none_of X G z_LookupError) (by decide +kernel) kx_BadText_LookupError, xi_own (PySem.W.mg_of X G aC_BadText) E_BadText (PySem.W.mg_of X G aC_TripError) kx_BadText_TripError, ex_BadText_BadText, _, PySem.W.mg_of X G v_WORDS, _, PySem.W.mg_of X G v_MAX_STAGES, _, PySem.W.mg_of X G v_MAX_BIKES, _, PySem.W.mg_of X G v_MAX_PEOPLE, _, PySem.W.mg_of X G v_MAX_START, _, PySem.W.mg_of X G v_MAX_TICKS, PySem.W.mg_none_of X G z_LookupError, PySem.W.mg_none_of X G z_abs, PySem.W.mg_none_of X G z_bool, PySem.W.mg_none_of X G z_enumerate, PySem.W.mg_none_of X G z_int, PySem.W.mg_none_of X G z_isinstance, PySem.W.mg_none_of X G z_len, PySem.W.mg_none_of X G z_max, PySem.W.mg_none_of X G z_range, PySem.W.mg_none_of X G z_repr, PySem.W.mg_none_of X G z_str, PySem.W.mg_none_of X G z_tuple, PySem.W.mg_none_of X G z_zip⟩ : Tx K mg)⟩
end Pu
open PySem PySem.W PyProof.Rows
set_option maxHeartbeats 0 in
theorem PySem.Challenge.cw_roadbikes_k56_trips_parsed_holds : PySem.Challenge.rw_roadbikes_k56_trips_parsed.Holds := by
  w_on; o_law; k_head; (case hw => w_witness2)
  k_fill
  refine Pu.endP (l := PySem.Challenge.rw_roadbikes_k56_trips_parsed) (n := 63) (lv := 8) (x := "_law_script") (FL := Pu.F_law_k56) rfl (by decide) rfl ⟨rfl, by decide, by decide⟩ (fun w h Y => PySem.W.kIn_of Y) ?F Pu.law_ok
  case F =>
    intro w mg fa h KX G hmg
    refine' Pu.all_mk KX G hmg ?aC_TripError ?aC_BadStarts ?aC_BadRoad ?aC_BadText ?a_parse_trip ?l_parse_trip ?c_parse_trip ?k_parse_trip ?a_part_in ?l_part_in ?c_part_in ?k_part_in ?a_ticks_in ?l_ticks_in ?c_ticks_in ?k_ticks_in ?a_numbers_in ?l_numbers_in ?c_numbers_in ?k_numbers_in ?a_number_in ?l_number_in ?c_number_in ?k_number_in ?a__law_deck ?l__law_deck ?c__law_deck ?k__law_deck ?a__law_draw ?l__law_draw ?c__law_draw ?k__law_draw ?a__law_same ?l__law_same ?c__law_same ?k__law_same ?a__law_state ?l__law_state ?c__law_state ?k__law_state ?a__law_numbers_text ?l__law_numbers_text ?c__law_numbers_text ?k__law_numbers_text ?a__law_trip_text ?l__law_trip_text ?c__law_trip_text ?k__law_trip_text ?a__law_odd ?l__law_odd ?c__law_odd ?k__law_odd ?a__law_bent ?l__law_bent ?c__law_bent ?k__law_bent ?a__law_numbers ?l__law_numbers ?c__law_numbers ?k__law_numbers ?a__law_part ?l__law_part ?c__law_part ?k__law_part ?a__law_due ?l__law_due ?c__law_due ?k__law_due ?a__law_told ?l__law_told ?c__law_told ?k__law_told ?a_law ?l_law ?c_law ?k_law ?cgE ?ctE ?xmk_BadText ?xov_BadText ?xsa_BadText ?xga_BadText ?xgg_BadText ?xnb_BadText ?xcl_BadText ?xco_BadText ?xkC_BadText ?xhd_BadText ?xiC_BadText ?xtC_BadText ?xeC_BadText ?ini_BadText ?tI_BadText ?lI_BadText ?cI_BadText ?kI_BadText ?kx_BadText_BadRoad ?kx_BadText_BadStarts ?kx_BadText_LookupError ?kx_BadText_TripError ?ex_BadText_BadText ?v_WORDS ?v_MAX_STAGES ?v_MAX_BIKES ?v_MAX_PEOPLE ?v_MAX_START ?v_MAX_TICKS ?z_LookupError ?z_abs ?z_bool ?z_enumerate ?z_int ?z_isinstance ?z_len ?z_max ?z_range ?z_repr ?z_str ?z_tuple ?z_zip
    (case aC_TripError => k_is); (case aC_BadStarts => k_is); (case aC_BadRoad => k_is); (case aC_BadText => k_is); (case a_parse_trip => k_is); (case l_parse_trip => k_is); (case c_parse_trip => k_is); (case k_parse_trip => k_is); (case a_part_in => k_is); (case l_part_in => k_is); (case c_part_in => k_is); (case k_part_in => k_is); (case a_ticks_in => k_is); (case l_ticks_in => k_is); (case c_ticks_in => k_is); (case k_ticks_in => k_is); (case a_numbers_in => k_is); (case l_numbers_in => k_is); (case c_numbers_in => k_is); (case k_numbers_in => k_is); (case a_number_in => k_is); (case l_number_in => k_is); (case c_number_in => k_is); (case k_number_in => k_is); (case a__law_deck => k_is); (case l__law_deck => k_is); (case c__law_deck => k_is); (case k__law_deck => k_is); (case a__law_draw => k_is); (case l__law_draw => k_is); (case c__law_draw => k_is); (case k__law_draw => k_is); (case a__law_same => k_is); (case l__law_same => k_is); (case c__law_same => k_is); (case k__law_same => k_is); (case a__law_state => k_is); (case l__law_state => k_is); (case c__law_state => k_is); (case k__law_state => k_is); (case a__law_numbers_text => k_is); (case l__law_numbers_text => k_is); (case c__law_numbers_text => k_is); (case k__law_numbers_text => k_is); (case a__law_trip_text => k_is); (case l__law_trip_text => k_is); (case c__law_trip_text => k_is); (case k__law_trip_text => k_is); (case a__law_odd => k_is); (case l__law_odd => k_is); (case c__law_odd => k_is); (case k__law_odd => k_is); (case a__law_bent => k_is); (case l__law_bent => k_is); (case c__law_bent => k_is); (case k__law_bent => k_is); (case a__law_numbers => k_is); (case l__law_numbers => k_is); (case c__law_numbers => k_is); (case k__law_numbers => k_is); (case a__law_part => k_is); (case l__law_part => k_is); (case c__law_part => k_is); (case k__law_part => k_is); (case a__law_due => k_is); (case l__law_due => k_is); (case c__law_due => k_is); (case k__law_due => k_is); (case a__law_told => k_is); (case l__law_told => k_is); (case c__law_told => k_is); (case k__law_told => k_is); (case a_law => k_is); (case l_law => k_is); (case c_law => k_is); (case k_law => k_is); (case cgE => k_is); (case ctE => k_is); (case xmk_BadText => kx_is); (case xov_BadText => kx_is); (case xsa_BadText => k_is); (case xga_BadText => k_is); (case xgg_BadText => k_is); (case xnb_BadText => k_is); (case xcl_BadText => k_is); (case xco_BadText => k_is); (case xkC_BadText => k_is); (case xhd_BadText => k_is); (case xiC_BadText => k_is); (case xtC_BadText => k_is); (case xeC_BadText => k_is); (case ini_BadText => k_is); (case tI_BadText => k_is); (case lI_BadText => k_is); (case cI_BadText => k_is); (case kI_BadText => k_is); (case kx_BadText_BadRoad => kit_is); (case kx_BadText_BadStarts => kit_is); (case kx_BadText_LookupError => kit_is); (case kx_BadText_TripError => kit_is); (case ex_BadText_BadText => kts_exm); (case v_WORDS => k_is); (case v_MAX_STAGES => k_is); (case v_MAX_BIKES => k_is); (case v_MAX_PEOPLE => k_is); (case v_MAX_START => k_is); (case v_MAX_TICKS => k_is); (case z_LookupError => k_is); (case z_abs => k_is); (case z_bool => k_is); (case z_enumerate => k_is); (case z_int => k_is); (case z_isinstance => k_is); (case z_len => k_is); (case z_max => k_is); (case z_range => k_is); (case z_repr => k_is); (case z_str => k_is); (case z_tuple => k_is); (case z_zip => k_is)
