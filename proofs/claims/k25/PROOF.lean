import PyProof.Rows.All
import Wide.All
import OpenK.AllK
import Wide.FinOn
import HandS.GenList
import HandS.ForMost
import HandS.Wide
import HandS.TupAny
import HandS.TupMul
import HandS.Style
import HandS.Conv
import HandS.Zip
import PyProof.ReprRoads
import PyProof.SumWalkG
import PyProof.WalksMore
import KE.DataMinMax
import HandS.Evl
import PyProof.ReprBulk
import PyProof.FitsInt
import KE.GoesMore
import PyProof.Draws
import HandS.SortRule
import HandS.Walk
import KE.DatumOrd
import KE.DataFind
import HandS.SetFor
import PyProof.Rows.RowBridgeK
import KE.KExcIs
import HandS.Star
import HandS.ExcInit
import HandS.ExcField
import HandS.ExcOwn
import HandS.WordsExc
import HandS.NoneIn
import HandS.IsInst
import HandS.Lambda
import KE.KDictKeyed
import HandS.SortInts
import HandS.Strs
import HandS.TupLe
import HandS.Property
import KE.KExcInit
import KE.KOpsOwn
import PyProof.InstNe
import HandS.Flt
import HandS.FStr
import HandS.Text
import KE.KCallOwn
import HandS.Defaults
import HandS.ClsMeth
import HandS.Iter
import HandS.StrMore
import HandS.TryMany
import KE.KTryMore
import HandS.NamedTupSort
import PyProof.EqKinds
import PyProof.FactsAll.dict_1
import KE.DataEq
import PyProof.StrBlock2
import HandS.HotCalls
import HandS.RaiseMore
import HandS.ReplaceLit
import KE.KxField
import HandS.Finally
import HandS.EndTab
import HandS.SuiteRaise
import HandS.RaiseFrom
import HandS.ExcInitHot
import KE.KEqDict
import KE.GoesRev
import KE.KDictWalk
import KE.KDictDisplayH
import PyProof.Rows.ReprOcc
import KE.KExcLine
import KE.OsRunLaw
import PySem.Challenge.RW_roadbikes_k25_good_plans_counted
set_option Elab.async false
set_option linter.all false
set_option maxRecDepth 100000
set_option maxHeartbeats 4000000
namespace Pu
open PySem
/-! ## generators that sleep: a run that never wakes them does not know what is in them -/
/-- the same to look at; whoever wakes it is stuck -/
def poison : GenState → GenState
  | .suspended k l c p fs cl => .suspended (fun r => .fork c fun _ => k r) l c p fs cl
  | g => g
theorem poison_seen (x : GenState) : (poison x).seen = x.seen := by cases x <;> rfl
def isSusp : GenState → Bool
  | .suspended _ _ _ _ _ _ => true
  | _ => false
def frRet : Frame → Bool
  | .ret _ _ _ _ _ _ _ => true
  | .gen _ _ _ _ _ => false
/-- no generator is under way in these frames -/
def clF (fs : List Frame) : Prop := fs.all frRet = true
def clG : GenState → Prop
  | .suspended _ _ _ _ fs _ => clF fs
  | _ => True
abbrev sw (s : Shared) (G : Array GenState) : Shared := ⟨s.heap, G, s.drawn, s.toks, s.os⟩
/-- Z tells who sleeps; G has them poisoned, G' as they are -/
structure Zr (Z : Nat → Option GenState) (G G' : Array GenState) : Prop where
  size : G.size = G'.size
  slp : ∀ i x, Z i = some x → isSusp x = true ∧ G[i]? = some (poison x) ∧ G'[i]? = some x
  oth : ∀ i, Z i = none → G[i]? = G'[i]? ∧ ∀ y, G[i]? = some y → clG y
section
variable {Z : Nat → Option GenState} {G G' : Array GenState}
theorem Zr.lt (z : Zr Z G G') {i : Nat} {x : GenState} (h : Z i = some x) : i < G.size := (Array.getElem?_eq_some_iff.mp (z.slp i x h).2.1).1
theorem Zr.out (z : Zr Z G G') {i : Nat} (h : G.size ≤ i) : Z i = none := by
  cases e : Z i with
  | none => rfl
  | some x => have := z.lt e; omega
theorem Zr.push (z : Zr Z G G') {y : GenState} (hy : clG y) : Zr Z (G.push y) (G'.push y) := by
  refine ⟨by rw [Array.size_push, Array.size_push, z.size], fun i x h => ?_, fun i h => ?_⟩
  · have hi := z.lt h
    obtain ⟨a, b, c⟩ := z.slp i x h
    refine ⟨a, ?_, ?_⟩
    · rw [Array.getElem?_push, if_neg (by omega)]; exact b
    · rw [Array.getElem?_push, if_neg (by rw [← z.size]; omega)]; exact c
  · rw [Array.getElem?_push, Array.getElem?_push, z.size]
    by_cases e : i = G'.size
    · rw [if_pos e, if_pos e]
      exact ⟨rfl, fun u hu => by cases hu; exact hy⟩
    · rw [if_neg e, if_neg e]
      exact z.oth i h
theorem Zr.set (z : Zr Z G G') {g : Nat} {y : GenState} (hg : Z g = none) (hy : clG y) : Zr Z (G.setIfInBounds g y) (G'.setIfInBounds g y) := by
  refine ⟨by rw [Array.size_setIfInBounds, Array.size_setIfInBounds, z.size], fun i x h => ?_, fun i h => ?_⟩
  · have ne : g ≠ i := fun e => by rw [e, h] at hg; cases hg
    obtain ⟨a, b, c⟩ := z.slp i x h
    rw [Array.getElem?_setIfInBounds_ne ne, Array.getElem?_setIfInBounds_ne ne]
    exact ⟨a, b, c⟩
  · by_cases e : g = i
    · subst e
      rw [Array.getElem?_setIfInBounds_self, Array.getElem?_setIfInBounds_self, z.size]
      refine ⟨rfl, fun u hu => ?_⟩
      split at hu
      · cases hu; exact hy
      · cases hu
    · rw [Array.getElem?_setIfInBounds_ne e, Array.getElem?_setIfInBounds_ne e]
      exact z.oth i h
/-- a look at a state -/
theorem Zr.look (z : Zr Z G G') {g : Nat} {y : GenState} (h : G[g]? = some y) : ∃ y', G'[g]? = some y' ∧ y'.seen = y.seen := by
  cases e : Z g with
  | none => exact ⟨y, by rw [← (z.oth g e).1]; exact h, rfl⟩
  | some x =>
    obtain ⟨_, b, c⟩ := z.slp g x e
    rw [h] at b
    cases b
    exact ⟨x, c, (poison_seen x).symm⟩
end
end Pu
namespace Rb
open PySem PySem.Spec PyProof.Rows L2
/-! repr of data -/
/-! sum of a tuple of ints -/
def rSumT (K : PySem.W.Frag) : List V → Hp → VK → Prop := fun vs H Q => ∃ (a : Addr) (ns : List Int), vs = [V.ref a] ∧ SqT K H a (ns.map V.int) ∧ Q (.int ns.sum) H
theorem isTup_isTuple {h : Heap} {a : Addr} {items : Array Value} (x : IsTup h a items) : h.IsTuple a items := by
  obtain ⟨o, e, c, n, d⟩ := x
  exact ⟨o, e, c, n, d⟩
theorem cr_sumT {X : Cx} (hc : X.calm = true) : CallR X (.builtin "sum") (rSumT X.K) := by
  intro pins s σ H vs us Q I r h
  obtain ⟨a, ns, rfl, hs, q⟩ := h
  obtain ⟨its, rv, hl, _⟩ := I.tuple hs
  rw [Vals.ref1 r]
  have hi := rv.ints
  obtain ⟨xs, e⟩ := hi.allInts.items
  have hn : numsOf (intItems xs).toList = ns := by rw [← e]; exact hi.numsOf
  rw [nums_intItems] at hn
  rw [e] at hl
  have hl2 := isTup_isTuple hl
  have hh := I.ok.hd hc
  have hlt : a < s.heap.objs.size := by obtain ⟨_, e, _⟩ := hl2; exact Heap.lt_size e
  refine call_sum_walkG (wpAny_pyIter_tuple hl2 ?_)
  refine ⟨s.heap.objs.size, _, _, _, _, _, numAt xs, rfl, Walks.tuple (A := X.A.in1) hh _ a (Nat.ne_of_lt hlt) (intItems xs), ⟨⟨_, Heap.get?_push_size _ rfl, rfl, rfl⟩, hl2.push _⟩, ?_, fun _ _ => intItems_at, fun h' tk t' hk => ?_⟩
  · intro b hb
    show b < (s.heap.push _).objs.size
    rw [Heap.size_push]
    rcases List.mem_cons.mp hb with rfl | hb
    · exact Nat.lt_succ_self _
    · rcases List.mem_cons.mp hb with rfl | hb
      · exact Nat.lt_succ_of_lt hlt
      · cases hb
  · have hk2 : ∀ b o, s.heap.get? b = some o → h'.get? b = some o := fun b o eb => hk b o (fun hm => by
      simp only [List.mem_cons, List.not_mem_nil, or_false] at hm
      exact absurd (hm ▸ Heap.lt_size eb) (Nat.lt_irrefl _)) (Heap.get?_push_of_some _ eb)
    have z : preSum (numAt xs) (intItems xs).size = ns.sum := by
      rw [preSum_eq, List.take_of_length_le (by simp [intItems]), hn]
    rw [z]
    exact ⟨.int _, H, I.kept hk2, ⟨_, rfl⟩, q⟩
end Rb
namespace Rb
open PySem PySem.Spec PyProof.Rows L2
/-! defs that are run where no repr is under way -/
structure FnG (pr : Program) (wo : World) (K : PySem.W.Frag) (mg : Str → Option Value) (b0 : Heap) (cx : CXT) (lv : Nat) (fn : Addr) (dat : FuncData) (pars : List Str) (sp : Sp) : Prop where
  many : ∀ xs H Q E, sp xs H Q E → xs.length = pars.length
  goes : ∀ (A : Around) (out : List Env) (s : Shared) (H : Hp) (ar : Args) (us : List Value) (xs : List V) (Q : VK) (E : XK),
    Room lv A → A.guards = some [] → Env0 pr wo K mg b0 A out s H → BindsTo s dat ar (pars.zip us) → Vals xs us → sp xs H Q E →
    codeAny (model pr wo) A (.call (.ref fn) ar) (CR cx out pr wo H s Q E) s
section
variable {pr : Program} {wo : World} {K : PySem.W.Frag} {mg : Str → Option Value} {b0 : Heap} {cx : CXT} {lv : Nat} {fn : Addr} {dat : FuncData} {pars : List Str} {sp : Sp}
theorem FnG.of (F : FnOk pr wo K mg b0 cx lv fn dat pars sp) : FnG pr wo K mg b0 cx lv fn dat pars sp :=
  ⟨F.len, fun A out s H ar us xs Q E h1 _ h2 h3 h4 h5 => F.run A out s H ar us xs Q E h1 h2 h3 h4 h5⟩
end
section
variable {pr : Program} {wo : World} {K : PySem.W.Frag} {mg : Str → Option Value} {b0 : Heap} {lv : Nat} {sp : Sp}
theorem fnG_of {cx : CXT} {fn : Addr} {nm qn : Str} {pm : Arguments} {bd : List Stmt} {sco : Scope} {dV kV dc pv cdv ct oc : Value} {an od : Option Addr} {osl : Array (Option Value)} {NN pars : List Str}
    (at_ : K.lookup fn = some ⟨oc, od, .func (PySem.W.fnOf nm qn pm bd sco dV kV dc pv an cdv ct), osl⟩) (code : PySem.W.codeIn K cdv qn = true) (S : FnScope NN pars sco)
    (many : ∀ xs H Q E, sp xs H Q E → xs.length = pars.length)
    (body : ∀ (A : Around) (out : List Env) (s : Shared) (H : Hp) (xs : List V) (Q : VK) (E : XK), A.guards = some [] → Room lv (A.deeper (envOfC qn sco s.heap.objs.size fn cdv)) → sp xs H Q E →
      ∃ t, PSs (cxOf cx pr wo K mg b0 NN qn sco fn cdv A out s H E) bd t ∧ t { nx := fun _ H' => Q .non H', rt := Q } (start NN xs) H) :
    FnG pr wo K mg b0 cx (lv + 1) fn (PySem.W.fnOf nm qn pm bd sco dV kV dc pv an cdv ct) pars sp := by
  constructor
  · exact many
  intro A out s H ar us xs Q E rm gd e0 bi vx pro
  have old : ∀ b o, b0.get? b = some o → s.heap.get? b = some o := fun b o e => (e0.bs b o e).1
  have kin : K.In s.heap := e0.mod.kin.keeps old
  refine codeAny_call_function rm.depth (kin _ _ at_) rfl S.co S.gen rfl (PySem.W.codeRec_of kin code) (bi _ _ _ _ ?_)
  refine wpAny_newFunctionEnv_cells S.kind ?_ ?_
  · rintro ⟨n, v⟩ hy
    cases S.par n (List.of_mem_zip hy).1 with
    | inl q => exact Or.inl q
    | inr q => exact Or.inr ⟨q, PySem.W.cellsFrom_some _ _ _ (Or.inl q)⟩
  intro env he s1 ic
  subst he
  refine ⟨(e0.mod.nolimit.keeps old).keeps ic.toInCall.keep, codeAny_func ?_⟩
  obtain ⟨t, ht, rd⟩ := body A out s H xs Q E gd (rm.deeper _) pro
  have I : Inv (cxOf cx pr wo K mg b0 NN qn sco fn cdv A out s H E) [] (start NN xs) H s1 := inv_start S rm.hd e0 (many _ _ _ _ pro) vx ic
  refine wpAny_mono (ht.run [] s1 (start NN xs) H _ I rd) ?_ (fun _ _ z => z)
  intro fl s2 hs
  match fl, hs with
  | .ret u, ⟨v, σ2, H2, J, rv, q⟩ => exact ⟨v, H2, J.os, J.bare, J.base, J.hok, rv, q⟩
  | .next, ⟨σ2, H2, J, q⟩ => exact ⟨V.non, H2, J.os, J.bare, J.base, J.hok, rfl, q⟩
  | .brk, ⟨_, _, _, q⟩ => exact (q : False).elim
  | .cont, ⟨_, _, _, q⟩ => exact (q : False).elim
/-- a def of the text that is run where no repr is under way -/
theorem okG {x qn : Str} {st : Stmt} {fn : Addr} {dat : FuncData} {NN pars : List Str} (F : Fun K x qn st fn dat) (S : FnScope NN pars (defScope st)) (many : ∀ xs H Q E, sp xs H Q E → xs.length = pars.length)
    (body : ∀ (cdv : Value) (A : Around) (out : List Env) (s : Shared) (H : Hp) (xs : List V) (Q : VK) (E : XK), A.guards = some [] → Room lv (A.deeper (envOfC qn (defScope st) s.heap.objs.size fn cdv)) → sp xs H Q E →
      ∃ t, PSs (cxOf CX0 pr wo K mg b0 NN qn (defScope st) fn cdv A out s H E).nox (defBody st) t ∧ t { nx := fun _ H' => Q .non H', rt := Q } (start NN xs) H) :
    FnG pr wo K mg b0 CX0 (lv + 1) fn dat pars sp := by
  obtain ⟨oc, od, kV, dc, pv, an, cdv, ct, osl, rfl, at_, code⟩ := F.ex
  refine fnG_of at_ code S many fun A out s H xs Q E gd rm pro => ?_
  obtain ⟨t, h, q⟩ := body cdv A out s H xs Q E gd rm pro
  exact ⟨t, h.nox, q⟩
end
end Rb
namespace Rb
open PySem PySem.Spec PyProof.Rows L2
/-! the deck: a list of the cells and the count of draws -/
def Dk (H : Hp) (d c : Addr) (N : Int) : Prop := ∃ (cs : List Int) (n : Int), H d = some (.lst [.ref c, .int n]) ∧ H c = some (.lst (cs.map V.int)) ∧ cs.length ≤ 63 ∧ (∀ x ∈ cs, 0 ≤ x) ∧ 0 ≤ n ∧ n ≤ N
/-- all but the deck is kept -/
def Kp (d c : Addr) (H H' : Hp) : Prop := ∀ b o, H b = some o → b ≠ d → b ≠ c → H' b = some o
theorem Kp.refl {d c : Addr} {H : Hp} : Kp d c H H := fun _ _ e _ _ => e
theorem Kp.trans {d c : Addr} {H H1 H2 : Hp} (a : Kp d c H H1) (b : Kp d c H1 H2) : Kp d c H H2 := fun x o e n1 n2 => b x o (a x o e n1 n2) n1 n2
theorem Kp.ex {d c : Addr} {H H1 : Hp} (a : Evl.Ex H H1) : Kp d c H H1 := fun x o e _ _ => a x o e
theorem Kp.new {d c : Addr} {H : Hp} {p : Addr} {o : HO} (h : H p = none) : Kp d c H (upd H p o) := Kp.ex (Evl.Ex.new h)
theorem Dk.ex {H H' : Hp} {d c : Addr} {N : Int} (h : Dk H d c N) (e : Evl.Ex H H') : Dk H' d c N := by
  obtain ⟨cs, n, h1, h2, r⟩ := h
  exact ⟨cs, n, e _ _ h1, e _ _ h2, r⟩
theorem Dk.new {H : Hp} {d c p : Addr} {N : Int} {o : HO} (h : Dk H d c N) (hp : H p = none) : Dk (upd H p o) d c N := h.ex (Evl.Ex.new hp)
theorem Dk.le {H : Hp} {d c : Addr} {N M : Int} (h : Dk H d c N) (e : N ≤ M) : Dk H d c M := by
  obtain ⟨cs, n, h1, h2, h3, h4, h5, h6⟩ := h
  exact ⟨cs, n, h1, h2, h3, h4, h5, by omega⟩
theorem Dk.ne1 {H : Hp} {d c p : Addr} {N : Int} (h : Dk H d c N) (hp : H p = none) : p ≠ d := by
  obtain ⟨cs, n, h1, _⟩ := h
  rintro rfl
  rw [h1] at hp
  cases hp
theorem Dk.ne2 {H : Hp} {d c p : Addr} {N : Int} (h : Dk H d c N) (hp : H p = none) : p ≠ c := by
  obtain ⟨cs, n, _, h1, _⟩ := h
  rintro rfl
  rw [h1] at hp
  cases hp
/-- fresh behind is fresh before -/
theorem Kp.fresh {d c p : Addr} {H H' : Hp} {N : Int} (k : Kp d c H H') (h : Dk H' d c N) (hp : H' p = none) : H p = none := by
  cases e : H p with
  | none => rfl
  | some o =>
    rw [k p o e (h.ne1 hp) (h.ne2 hp)] at hp
    cases hp
theorem Kp.sqT {K : PySem.W.Frag} {d c a : Addr} {H H' : Hp} {N : Int} {xs : List V} (k : Kp d c H H') (h : Dk H d c N) (hs : SqT K H a xs) : SqT K H' a xs := by
  obtain ⟨cs, n, h1, h2, _⟩ := h
  have go : ∀ u : HO, (∀ ys, u ≠ .lst ys) → H a = some u → H' a = some u := fun u nu e => k a u e
    (by rintro rfl; rw [h1] at e; exact nu _ (Option.some.inj e).symm) (by rintro rfl; rw [h2] at e; exact nu _ (Option.some.inj e).symm)
  rcases hs with (e | ⟨o, e⟩) | e
  · exact .inl (.inl (go _ (fun _ z => nomatch z) e))
  · exact .inl (.inr ⟨o, go _ (fun _ z => nomatch z) e⟩)
  · exact .inr e
theorem tupOf {K : PySem.W.Frag} {H : Hp} {a : Addr} {xs : List V} (h : H a = some (.tup xs)) : SqT K H a xs := .inl (.inl h)
theorem lstOf {K : PySem.W.Frag} {H : Hp} {a : Addr} {xs : List V} (h : H a = some (.lst xs)) : SqL K H a xs := .inl (.inl h)
/-! picks from short lists -/
theorem pick3 {x y z : V} {r : Int} (h0 : 0 ≤ r) (h1 : r < 3) : ∃ v, atI [x, y, z] r = some v ∧ (v = x ∨ v = y ∨ v = z) := by
  rcases (by omega : r = 0 ∨ r = 1 ∨ r = 2) with rfl | rfl | rfl
  · exact ⟨x, rfl, .inl rfl⟩
  · exact ⟨y, rfl, .inr (.inl rfl)⟩
  · exact ⟨z, rfl, .inr (.inr rfl)⟩
theorem pick3i {x y z r : Int} (h0 : 0 ≤ r) (h1 : r < 3) : ∃ v : Int, atI [V.int x, V.int y, V.int z] r = some (V.int v) ∧ (v = x ∨ v = y ∨ v = z) := by
  rcases (by omega : r = 0 ∨ r = 1 ∨ r = 2) with rfl | rfl | rfl
  · exact ⟨x, rfl, .inl rfl⟩
  · exact ⟨y, rfl, .inr (.inl rfl)⟩
  · exact ⟨z, rfl, .inr (.inr rfl)⟩
theorem sz_le {n : Nat} (h : n ≤ 100000) : n ≤ sizeLine := Evl.sz_of h
/-- slices from the beginning -/
theorem cut_to {xs : List V} {k : Nat} : cutV xs none (some (k : Int)) = xs.take k := by
  unfold cutV
  rw [HT.sIx_none, HT.sIx_nat]
  show List.take (min k xs.length - 0) (xs.drop 0) = _
  rw [List.drop_zero, Nat.sub_zero]
  rcases Nat.le_total k xs.length with h | h
  · rw [Nat.min_eq_left h]
  · rw [Nat.min_eq_right h, List.take_length, List.take_of_length_le h]
/-! a road -/
def Road (K : PySem.W.Frag) (H : Hp) (v : V) (w r : Int) (bs : List Int) : Prop := ∃ a b, v = .ref a ∧ SqT K H a [.int w, .int r, .ref b] ∧ SqT K H b (bs.map V.int)
theorem Road.kp {K : PySem.W.Frag} {d c : Addr} {H H' : Hp} {N : Int} {v : V} {w r : Int} {bs : List Int} (x : Road K H v w r bs) (k : Kp d c H H') (h : Dk H d c N) : Road K H' v w r bs := by
  obtain ⟨a, b, e, h1, h2⟩ := x
  exact ⟨a, b, e, k.sqT h h1, k.sqT h h2⟩
theorem Road.ex {K : PySem.W.Frag} {H H' : Hp} {v : V} {w r : Int} {bs : List Int} (x : Road K H v w r bs) (k : Evl.Ex H H') : Road K H' v w r bs := by
  obtain ⟨a, b, e, h1, h2⟩ := x
  exact ⟨a, b, e, Evl.ex_t k h1, Evl.ex_t k h2⟩
/-! data of ints: what repr shows -/
theorem DpAll.ints {K : PySem.W.Frag} {H : Hp} : ∀ ns : List Int, DpAll K H (ns.map V.int) (ns.map PyData.int)
  | [] => .nil
  | n :: ns => .cons (.int n) (DpAll.ints ns)
theorem Dp.tupI {K : PySem.W.Frag} {H : Hp} {a : Addr} {ns : List Int} (h : SqT K H a (ns.map V.int)) : Dp K H (.ref a) (.tuple (ns.map .int)) := .tup h (DpAll.ints ns)
def roadD (w r : Int) (bs : List Int) : PyData := .tuple [.int w, .int r, .tuple (bs.map .int)]
theorem Road.dp {K : PySem.W.Frag} {H : Hp} {v : V} {w r : Int} {bs : List Int} (x : Road K H v w r bs) : Dp K H v (roadD w r bs) := by
  obtain ⟨a, b, rfl, h1, h2⟩ := x
  exact .tup h1 (.cons (.int w) (.cons (.int r) (.cons (Dp.tupI h2) .nil)))
/-! data that repr shows: what it asks, by parts -/
structure Nice (k n : Nat) (d : PyData) : Prop where
  sh : d.showable = true
  lv : d.leavesShort 100 = true
  dep : d.depth ≤ k
  blk : d.bulk ≤ n
theorem Nice.mono {k n k' n' : Nat} {d : PyData} (h : Nice k n d) (h1 : k ≤ k') (h2 : n ≤ n') : Nice k' n' d := ⟨h.sh, h.lv, Nat.le_trans h.dep h1, Nat.le_trans h.blk h2⟩
theorem Nice.int {i : Int} (h : i.natAbs < 10 ^ 99) : Nice 0 0 (.int i) := by
  refine ⟨?_, ?_, Nat.le_refl _, Nat.le_refl _⟩
  · simp only [PyData.showable, decide_eq_true_eq]
    by_cases z : i.natAbs = 0
    · rw [z]; decide
    · refine (Nat.log2_lt z).mpr (Nat.lt_of_lt_of_le h ?_)
      decide +kernel
  · simp only [PyData.leavesShort, decide_eq_true_eq, PyData.shown]
    refine decide_eq_true ?_
    rw [PySem.ofString_length]
    exact int_text_length_le10 (k := 99) (by decide) h
theorem Nice.none : Nice 0 0 .none := ⟨rfl, rfl, Nat.le_refl _, Nat.le_refl _⟩
theorem Nice.bool {b : Bool} : Nice 0 0 (.bool b) := ⟨rfl, rfl, Nat.le_refl _, Nat.le_refl _⟩
theorem Nice.str {x : Str} {n : Nat} (h : x.cps.size ≤ n) (hx : ∀ c ∈ x.cps.toList, c < 16 ^ 8) : Nice 0 n (.str x) := by
  refine ⟨rfl, ?_, Nat.le_refl _, h⟩
  simpa only [PyData.leavesShort, List.all_eq_true, decide_eq_true_eq] using hx
theorem nice_all {k n : Nat} : ∀ {xs : List PyData}, (∀ x ∈ xs, Nice k n x) → PyData.showableAll xs = true ∧ PyData.leavesShortAll 100 xs = true ∧ PyData.depthAll xs ≤ k ∧ PyData.bulkAll xs ≤ xs.length * (n + 1)
  | [], _ => ⟨rfl, rfl, Nat.zero_le _, Nat.zero_le _⟩
  | x :: xs, h => by
    obtain ⟨a, b, c, d⟩ := nice_all (xs := xs) fun y hy => h y (List.mem_cons_of_mem _ hy)
    have hx := h x List.mem_cons_self
    refine ⟨?_, ?_, ?_, ?_⟩
    · simp only [PyData.showableAll, hx.sh, a, Bool.and_true]
    · simp only [PyData.leavesShortAll, hx.lv, b, Bool.and_true]
    · simp only [PyData.depthAll]
      exact Nat.max_le.mpr ⟨hx.dep, c⟩
    · simp only [PyData.bulkAll, List.length_cons]
      have := hx.blk
      rw [Nat.add_mul]
      omega
theorem Nice.tup {k n m : Nat} {xs : List PyData} (h : ∀ x ∈ xs, Nice k n x) (hm : xs.length * (n + 1) ≤ m) : Nice (k + 1) m (.tuple xs) := by
  obtain ⟨a, b, c, d⟩ := nice_all h
  exact ⟨by simpa only [PyData.showable] using a, by simpa only [PyData.leavesShort] using b, by simp only [PyData.depth]; omega, by simp only [PyData.bulk]; omega⟩
theorem Nice.lst {k n m : Nat} {xs : List PyData} (h : ∀ x ∈ xs, Nice k n x) (hm : xs.length * (n + 1) ≤ m) : Nice (k + 1) m (.list xs) := by
  obtain ⟨a, b, c, d⟩ := nice_all h
  exact ⟨by simpa only [PyData.showable] using a, by simpa only [PyData.leavesShort] using b, by simp only [PyData.depth]; omega, by simp only [PyData.bulk]; omega⟩
theorem Nice.ints {ns : List Int} {m : Nat} (h : ∀ i ∈ ns, i.natAbs < 10 ^ 99) (hm : ns.length ≤ m) : Nice 1 m (.tuple (ns.map .int)) := by
  refine Nice.tup (k := 0) (n := 0) (fun x hx => ?_) (by rw [List.length_map]; omega)
  obtain ⟨i, hi, rfl⟩ := List.mem_map.mp hx
  exact Nice.int (h i hi)
theorem Nice.fits {k : Nat} {d : PyData} (n : Nice k 100000 d) : d.shown.length ≤ sizeLine := by
  have e := PyData.shown_le_bulk 100 (by decide) d n.lv
  have := n.blk
  have : (16777216 : Nat) ≤ sizeLine := by decide
  omega
/-! comprehensions whose element changes nothing -/
end Rb
namespace Rb
open PySem PySem.Spec PyProof.Rows L2
/-! data without lists: it never changes -/
mutual
inductive Tp (K : PySem.W.Frag) (H : Hp) : V → PyData → Prop
  | non : Tp K H .non .none
  | bl (b : Bool) : Tp K H (.bl b) (.bool b)
  | int (i : Int) : Tp K H (.int i) (.int i)
  | str (x : Str) : Tp K H (.str x) (.str x)
  | tup {a : Addr} {xs : List V} {ds : List PyData} : SqT K H a xs → TpAll K H xs ds → Tp K H (.ref a) (.tuple ds)
inductive TpAll (K : PySem.W.Frag) (H : Hp) : List V → List PyData → Prop
  | nil : TpAll K H [] []
  | cons {v : V} {vs : List V} {d : PyData} {ds : List PyData} : Tp K H v d → TpAll K H vs ds → TpAll K H (v :: vs) (d :: ds)
end
section
variable {K : PySem.W.Frag} {H H' : Hp}
mutual
theorem Tp.dp : ∀ (d : PyData) (v : V), Tp K H v d → Dp K H v d
  | .none, _, h => by cases h; exact .non
  | .bool b, _, h => by cases h; exact .bl b
  | .int i, _, h => by cases h; exact .int i
  | .str x, _, h => by cases h; exact .str x
  | .list _, _, h => by cases h
  | .dict _, _, h => by cases h
  | .tuple ds, _, h => by
    cases h with
    | tup hs ha => exact .tup hs (TpAll.dp ds _ ha)
theorem TpAll.dp : ∀ (ds : List PyData) (vs : List V), TpAll K H vs ds → DpAll K H vs ds
  | [], _, h => by cases h; exact .nil
  | d :: ds, _, h => by
    cases h with
    | cons h1 h2 => exact .cons (Tp.dp d _ h1) (TpAll.dp ds _ h2)
end
mutual
theorem Tp.keep (k : ∀ a xs, SqT K H a xs → SqT K H' a xs) : ∀ (d : PyData) (v : V), Tp K H v d → Tp K H' v d
  | .none, _, h => by cases h; exact .non
  | .bool b, _, h => by cases h; exact .bl b
  | .int i, _, h => by cases h; exact .int i
  | .str x, _, h => by cases h; exact .str x
  | .list _, _, h => by cases h
  | .dict _, _, h => by cases h
  | .tuple ds, _, h => by
    cases h with
    | tup hs ha => exact .tup (k _ _ hs) (TpAll.keep k ds _ ha)
theorem TpAll.keep (k : ∀ a xs, SqT K H a xs → SqT K H' a xs) : ∀ (ds : List PyData) (vs : List V), TpAll K H vs ds → TpAll K H' vs ds
  | [], _, h => by cases h; exact .nil
  | d :: ds, _, h => by
    cases h with
    | cons h1 h2 => exact .cons (Tp.keep k d _ h1) (TpAll.keep k ds _ h2)
end
theorem Tp.ex {v : V} {d : PyData} (h : Tp K H v d) (e : Evl.Ex H H') : Tp K H' v d := Tp.keep (fun _ _ z => Evl.ex_t e z) d v h
theorem TpAll.ex {vs : List V} {ds : List PyData} (h : TpAll K H vs ds) (e : Evl.Ex H H') : TpAll K H' vs ds := TpAll.keep (fun _ _ z => Evl.ex_t e z) ds vs h
theorem Tp.kp {d c : Addr} {N : Int} {v : V} {x : PyData} (h : Tp K H v x) (k : Kp d c H H') (dk : Dk H d c N) : Tp K H' v x := Tp.keep (fun _ _ z => k.sqT dk z) x v h
theorem TpAll.kp {d c : Addr} {N : Int} {vs : List V} {ds : List PyData} (h : TpAll K H vs ds) (k : Kp d c H H') (dk : Dk H d c N) : TpAll K H' vs ds := TpAll.keep (fun _ _ z => k.sqT dk z) ds vs h
theorem sqT_upd {D a : Addr} {ys zs xs : List V} (hD : H D = some (.lst ys)) (h : SqT K H a xs) : SqT K (upd H D (.lst zs)) a xs := by
  have go : ∀ u : HO, (∀ ys, u ≠ .lst ys) → H a = some u → upd H D (.lst zs) a = some u := fun u nu e => by
    rw [upd_ne (by rintro rfl; rw [hD] at e; exact nu _ (Option.some.inj e).symm)]
    exact e
  rcases h with (e | ⟨o, e⟩) | e
  · exact .inl (.inl (go _ (fun _ z => nomatch z) e))
  · exact .inl (.inr ⟨o, go _ (fun _ z => nomatch z) e⟩)
  · exact .inr e
theorem Tp.upd {D : Addr} {ys zs : List V} {v : V} {d : PyData} (h : Tp K H v d) (hD : H D = some (.lst ys)) : Tp K (upd H D (.lst zs)) v d := Tp.keep (fun _ _ z => sqT_upd hD z) d v h
theorem TpAll.upd {D : Addr} {ys zs : List V} {vs : List V} {ds : List PyData} (h : TpAll K H vs ds) (hD : H D = some (.lst ys)) : TpAll K (upd H D (.lst zs)) vs ds := TpAll.keep (fun _ _ z => sqT_upd hD z) ds vs h
theorem TpAll.length : ∀ {vs : List V} {ds : List PyData}, TpAll K H vs ds → vs.length = ds.length
  | _, _, .nil => rfl
  | _, _, .cons _ h => congrArg (· + 1) (TpAll.length h)
theorem TpAll.ints : ∀ ns : List Int, TpAll K H (ns.map V.int) (ns.map PyData.int)
  | [] => .nil
  | n :: ns => .cons (.int n) (TpAll.ints ns)
theorem Tp.tupI {a : Addr} {ns : List Int} (h : SqT K H a (ns.map V.int)) : Tp K H (.ref a) (.tuple (ns.map .int)) := .tup h (TpAll.ints ns)
theorem Road.tp {v : V} {w r : Int} {bs : List Int} (x : Road K H v w r bs) : Tp K H v (roadD w r bs) := by
  obtain ⟨a, b, rfl, h1, h2⟩ := x
  exact .tup h1 (.cons (.int w) (.cons (.int r) (.cons (Tp.tupI h2) .nil)))
end
/-! a comprehension over a range whose elements are such data -/
end Rb
namespace Rb
open PySem PySem.Spec PyProof.Rows L2
/-! enumerate of a tuple -/
abbrev tIter (t : Addr) : Obj := { cls := .type "tuple_iterator", data := .fields #[.ref t, .int 0 0] }
abbrev enObj (it : Addr) : Obj := { cls := .type "enumerate", data := .fields #[.none, .bool false, .ref it, rawInt 0, .none, .none] }
open AutoSeq1 (wpAny_loadPart') in
theorem enumTupNew (t : Addr) (its : Array Value) (n : Nat) (dc : Option Addr) (sl : Array (Option Value)) :
    Meets (Builtin.«enumerate.__new__» ⟨[.type "enumerate", .ref t], []⟩) (fun _ R s => s.heap.get? t = some { cls := .type "tuple", dict := dc, data := .seq its n, slots := sl } ∧
      R (.ok (.ret (.ref (s.heap.push (tIter t)).objs.size))) { s with heap := (s.heap.push (tIter t)).push (enObj s.heap.objs.size) }) := by
  refine .of_wp fun pr wo A R s h => ?_
  obtain ⟨hp, g, d, tk, os⟩ := s
  obtain ⟨ht, h⟩ := h
  have hsub := sub_enumerate
  have hT : Heap.IsTuple (Shared.heap ⟨hp, g, d, tk, os⟩) t its := ⟨_, ht, rfl, n, rfl⟩
  wp_walk using wpAny_loadPart' ht
  refine wpAny_stack_any fun st => wpAny_pure ?_
  split
  · rename_i c _ _ _ _ _
    cases (c == Value.type "enumerate") <;> (wp_walk using wpAny_loadPart' ht, wpAny_pyIter_tuple hT; exact ⟨_, rfl, h⟩)
  · wp_walk using wpAny_loadPart' ht, wpAny_pyIter_tuple hT
    exact ⟨_, rfl, h⟩
theorem enumTup {pr : Program} {wo : World} {A : Around} {E : Value → Shared → Prop} {s : Shared} {t : Addr} {its : Array Value} {Q : Value → Shared → Prop} (hT : s.heap.IsTuple t its)
    (h : ∀ h2, IsEnum h2 (s.heap.objs.size + 1) s.heap.objs.size 0 .none → h2.IsTupleIter s.heap.objs.size t 0 → (∀ b o, s.heap.get? b = some o → h2.get? b = some o) → Q (.ref (s.heap.objs.size + 1)) { s with heap := h2 }) :
    wpAny (model pr wo) A (call (.type "enumerate") [.ref t]) Q E s := by
  obtain ⟨⟨c, dc, dt, sl⟩, ht, hc, n, hd⟩ := hT
  cases (show c = .type "tuple" from hc)
  cases (show dt = .seq its n from hd)
  refine callType_new F.called_enumerate (by decide) (F.typeCall_enumerate_1 _) (F.newCall_enumerate_1 _) (fun obj => F.args_object_init_2 obj _) F.entry_enumerate_new (enumTupNew t its n dc sl) ⟨ht, ?_⟩
  have hz : (s.heap.push (tIter t)).objs.size = s.heap.objs.size + 1 := Heap.size_push ..
  have he : IsEnum ((s.heap.push (tIter t)).push (enObj s.heap.objs.size)) (s.heap.objs.size + 1) s.heap.objs.size 0 .none := by
    have q := Heap.get?_push_size (s.heap.push (tIter t)) (o := enObj s.heap.objs.size) rfl
    rw [hz] at q
    exact q
  show _ ∧ _
  rw [hz]
  exact ⟨⟨_, he, rfl⟩, h _ he ⟨_, Heap.get?_push_of_some _ (Heap.get?_push_size _ rfl), rfl, rfl⟩ fun b o x => Heap.get?_push_of_some _ (Heap.get?_push_of_some _ x)⟩
/-- the tuple at a, each item in a new pair with its place -/
def ItE (K : PySem.W.Frag) (a : Addr) : It where
  go i H := ∃ (xs : List V) (x : V), SqT K H a xs ∧ xs[i]? = some x
  yld i H v H' := ∃ T x, v = .ref T ∧ H T = none ∧ H' = upd H T (.tup [.int (i : Nat), x]) ∧ ∀ xs, SqT K H a xs → xs[i]? = some x
  stop i H := ∃ xs : List V, SqT K H a xs ∧ xs.length = i
theorem turnE {pr : Program} {wo : World} {K : PySem.W.Frag} {elts : List Expr} {kk : Nat} {tp : Pos} (a e it : Addr) :
    Turn pr wo K (.Tuple elts kk tp) (ItE K a) [e, it] e (fun i h => (∃ old, IsEnum h e it ((i : Nat) : Int) old) ∧ h.IsTupleIter it a i ∧ e ≠ it ∧ e ≠ a ∧ a ≠ it) := by
  have two : ∀ {b : Addr}, b ∈ [e, it] → b = e ∨ b = it := fun hb => by simpa using hb
  constructor
  case mem => exact List.mem_cons_self
  case obj =>
    rintro i h ⟨⟨old, he⟩, ⟨o, ho, hc, hd⟩, _⟩ b hb
    rcases two hb with rfl | rfl
    · exact ⟨_, he, fun v q => nomatch q⟩
    · exact ⟨o, ho, fun v q => by rw [hd] at q; cases q⟩
  case keep =>
    rintro i h h' ⟨⟨old, he⟩, hi, hn⟩ k
    exact ⟨⟨old, k e List.mem_cons_self _ he⟩, hi.at fun o q => k it (List.mem_cons_of_mem _ List.mem_cons_self) o q, hn⟩
  case item =>
    intro X h1 h2 h3 hc i pins s σ H E I hf st hg
    subst h1 h2 h3
    obtain ⟨⟨old, he⟩, hit, hne, hea, hai⟩ := st
    obtain ⟨xs, x, hq, hx⟩ := hg
    obtain ⟨its, rv, p, hz⟩ := I.tuple hq
    have p2 := isTup_isTuple p
    obtain ⟨u, hu, ru⟩ := rv.get hx
    have hel : e < s.heap.objs.size := Heap.lt_size he
    have hil : it < s.heap.objs.size := by obtain ⟨_, q, _⟩ := hit; exact Heap.lt_size q
    have ilt : i < its.toArray.size := by
      have := (List.getElem?_eq_some_iff.mp hu).1
      simpa using this
    refine wpAny_pyNext_enum_itemD (Draws.tuple (A := X.A.in1) (I.ok.hd hc) it a hai its.toArray) he ⟨hit, p2⟩ ilt hne (fun hm => ?_) fun x2 h' tk hP ho hs hT hsz hk => ?_
    · rcases List.mem_cons.mp hm with z | hm
      · exact hne z
      · exact hea (List.mem_singleton.mp hm)
    have hx2 : x2 = u := by
      have hP' : its.toArray[i]? = some x2 := hP
      rw [List.getElem?_toArray, hu] at hP'
      exact (Option.some.inj hP').symm
    subst hx2
    refine ⟨_, rfl, wpAny_letOwnedTupleGo_enum (s := { s with heap := h', toks := tk + 1 }) ho fun h2 he2 sb => ?_⟩
    have hT2 : h2.get? s.heap.objs.size = some { cls := .type "tuple", data := .seq #[.int i tk, x2] } := (sb.2 _ (Nat.ne_of_gt hel)).trans hT
    have new : ObjOk X.prog X.w (upd H s.heap.objs.size (.tup [.int (i : Nat), x])) h2 s.heap.objs.size (.tup [.int (i : Nat), x]) :=
      ⟨by show 2 ≤ sizeLine; decide, [.int i tk, x2], .cons ⟨_, rfl⟩ (.cons ru .nil), ⟨_, hT2, rfl, _, rfl⟩⟩
    have I1 : Inv X pins σ (upd H s.heap.objs.size (.tup [.int (i : Nat), x])) { s with heap := h2, toks := tk + 1 } :=
      I.turnedNew (ch := [e, it]) (fun b ob hb q => (sb.2 b (fun z => hb (by simp [z]))).trans (hk b ob (fun z => hb (by simp [z])) (fun z => hb (by simp [z])) q)) hf (Nat.le_refl _) new
    refine ⟨.ref s.heap.objs.size, _, I1, rfl, ⟨_, x, rfl, I.hok.fresh (Nat.le_refl _), rfl, fun ys hy => by rw [I.tuple_inj hy hq]; exact hx⟩, ⟨⟨x2, ?_⟩, hs.1.at fun o q => (sb.2 it (Ne.symm hne)).trans q, hne, hea, hai⟩, fun b hb => ?_⟩
    · rw [show ((i + 1 : Nat) : Int) = (i : Int) + 1 by omega]
      exact he2
    · have hb2 : b < s.heap.objs.size := by
        rcases two hb with rfl | rfl
        · exact hel
        · exact hil
      rw [upd_ne (Nat.ne_of_lt hb2)]
      exact (hf b hb).1
  case done =>
    intro X h1 h2 h3 hc i pins s σ H E I hf st hg
    subst h1 h2 h3
    obtain ⟨⟨old, he⟩, hit, hne, hea, hai⟩ := st
    obtain ⟨xs, hq, hx⟩ := hg
    obtain ⟨its, rv, p, hz⟩ := I.tuple hq
    obtain ⟨f0, f1, f2, f3, f4, f5⟩ := hf it (List.mem_cons_of_mem _ List.mem_cons_self)
    have hl := rv.length
    have ei : i = its.toArray.size := by simp; omega
    subst ei
    exact wpAny_pyNext_enum_endD (Draws.tuple (A := X.A.in1) (I.ok.hd hc) it a hai its.toArray) he ⟨hit, isTup_isTuple p⟩ fun h2 eb => ⟨rfl, I.turned (t' := s.toks) (fun b o hb q => eb b o hb q) f0 f1 f3 f4 f5⟩
  case self =>
    rintro A i s Q E ⟨⟨_, he⟩, _⟩ h
    exact wpAny_pyIter_enum he h
def iEnumT (K : PySem.W.Frag) (ta : TA) : TI := fun σ H R => ta σ H fun vs H1 => ∃ a xs, vs = [.ref a] ∧ SqT K H1 a xs ∧ R (ItE K a) H1
theorem pi_enumT {X : Cx} {e : Expr} {ta : TA} {p1 p2 p3 : Pos} {elts : List Expr} {kk : Nat} (gl : Gl X "enumerate") (nm : X.mg "enumerate" = none) (pa : PA X [e] ta) (st : starEach [e] X.env = [(false, eval e X.env)] := by rfl) :
    PI X (.Tuple elts kk p3) (.Call (.Name "enumerate" p1) [e] [] p2) (iEnumT X.K ta) := by
  constructor
  intro pins s σ H R I h
  refine Call_ (ld_blt I gl nm boot_enumerate (PyProof.Rows.callWith_type1 (thn (pa.run p2 pins s σ H _ I h) fun us s1 ⟨vs, H1, I1, r1, q1⟩ => ?_) st rfl))
  obtain ⟨a, xs, rfl, hq, q⟩ := q1
  obtain ⟨u, rfl, ru⟩ := vals1 r1
  cases ru
  obtain ⟨its, rv, p, hz⟩ := I1.tuple hq
  have p2 := isTup_isTuple p
  have alt : a < s1.heap.objs.size := by obtain ⟨_, e, _⟩ := p2; exact Heap.lt_size e
  refine enumTup p2 fun h2 he hit hk => wpAny_pyIter_enum he ?_
  have I2 : Inv X pins σ H1 { s1 with heap := h2 } := I1.kept (t' := s1.toks) hk
  refine ⟨s1.heap.objs.size + 1, [s1.heap.objs.size + 1, s1.heap.objs.size], _, _, H1, rfl, I2, turnE a (s1.heap.objs.size + 1) s1.heap.objs.size, ⟨⟨.none, he⟩, hit, Nat.succ_ne_self _, Nat.ne_of_gt (Nat.lt_succ_of_lt alt), Nat.ne_of_lt alt⟩, fun b hb => ?_, q⟩
  have hle : s1.heap.objs.size ≤ b := by
    rcases List.mem_cons.mp hb with rfl | hb
    · omega
    · rw [List.mem_singleton.mp hb]
      exact Nat.le_refl _
  exact I1.fpOk hle (I1.hok.fresh hle)
/-! loops over pairs: the pair is a new tuple -/
end Rb
namespace Rb
/-! ### plans and ticks: the mathematics -/
def mx (a b : Int) : Int := if b > a then b else a
def leP (p q : Int × Int) : Prop := p.1 < q.1 ∨ (p.1 = q.1 ∧ p.2 ≤ q.2)
instance (p q : Int × Int) : Decidable (leP p q) := inferInstanceAs (Decidable (p.1 < q.1 ∨ (p.1 = q.1 ∧ p.2 ≤ q.2)))
def insB {α : Type} (le : α → α → Bool) (x : α) : List α → List α
  | [] => [x]
  | y :: ys => if le x y = true then x :: y :: ys else y :: insB le x ys
def sortB {α : Type} (le : α → α → Bool) : List α → List α
  | [] => []
  | x :: xs => insB le x (sortB le xs)
theorem insB_perm {α : Type} (le : α → α → Bool) (x : α) : ∀ l : List α, (insB le x l).Perm (x :: l)
  | [] => List.Perm.refl _
  | y :: ys => by
    unfold insB
    split
    · exact List.Perm.refl _
    · exact ((insB_perm le x ys).cons y).trans (List.Perm.swap x y ys)
theorem sortB_perm {α : Type} (le : α → α → Bool) : ∀ l : List α, (sortB le l).Perm l
  | [] => List.Perm.refl _
  | x :: xs => (insB_perm le x _).trans ((sortB_perm le xs).cons x)
theorem insB_sorted {α : Type} {le : α → α → Bool} (tr : ∀ a b c, le a b = true → le b c = true → le a c = true) (tot : ∀ a b, le a b = true ∨ le b a = true) (x : α) : ∀ l : List α, l.Pairwise (fun a b => le a b = true) → (insB le x l).Pairwise (fun a b => le a b = true)
  | [], _ => List.pairwise_singleton _ _
  | y :: ys, h => by
    have hy := List.pairwise_cons.mp h
    unfold insB
    split
    · rename_i c
      refine List.pairwise_cons.mpr ⟨fun z hz => ?_, h⟩
      rcases List.mem_cons.mp hz with rfl | hz
      · exact c
      · exact tr _ _ _ c (hy.1 z hz)
    · rename_i c
      refine List.pairwise_cons.mpr ⟨fun z hz => ?_, insB_sorted tr tot x ys hy.2⟩
      rcases List.mem_cons.mp ((insB_perm le x ys).mem_iff.mp hz) with rfl | hz
      · exact (tot z y).resolve_left c
      · exact hy.1 z hz
theorem sortB_sorted {α : Type} {le : α → α → Bool} (tr : ∀ a b c, le a b = true → le b c = true → le a c = true) (tot : ∀ a b, le a b = true ∨ le b a = true) : ∀ l : List α, (sortB le l).Pairwise (fun a b => le a b = true)
  | [] => List.Pairwise.nil
  | x :: xs => insB_sorted tr tot x _ (sortB_sorted tr tot xs)
def srt (l : List Int) : List Int := sortB (fun a b => decide (a ≤ b)) l
def srtP (l : List (Int × Int)) : List (Int × Int) := sortB (fun a b => decide (leP a b)) l
theorem srt_perm (l : List Int) : (srt l).Perm l := sortB_perm _ l
theorem srtP_perm (l : List (Int × Int)) : (srtP l).Perm l := sortB_perm _ l
theorem srt_sorted (l : List Int) : (srt l).Pairwise (· ≤ ·) := by
  have h := sortB_sorted (le := fun a b : Int => decide (a ≤ b)) (fun a b c h1 h2 => by simp only [decide_eq_true_eq] at *; omega) (fun a b => by simp only [decide_eq_true_eq]; omega) l
  exact h.imp fun h => of_decide_eq_true h
theorem leP_trans {a b c : Int × Int} (h1 : leP a b) (h2 : leP b c) : leP a c := by
  unfold leP at *
  omega
theorem leP_total (a b : Int × Int) : leP a b ∨ leP b a := by
  unfold leP
  omega
theorem srtP_sorted (l : List (Int × Int)) : (srtP l).Pairwise leP := by
  have h := sortB_sorted (le := fun a b : Int × Int => decide (leP a b)) (fun a b c h1 h2 => decide_eq_true (leP_trans (of_decide_eq_true h1) (of_decide_eq_true h2))) (fun a b => by rcases leP_total a b with h | h <;> simp [h]) l
  exact h.imp fun h => of_decide_eq_true h
theorem leP_anti {a b : Int × Int} (h1 : leP a b) (h2 : leP b a) : a = b := by
  obtain ⟨a1, a2⟩ := a
  obtain ⟨b1, b2⟩ := b
  simp only [leP] at h1 h2
  have : a1 = b1 := by omega
  have : a2 = b2 := by omega
  simp [*]
theorem srt_uniq {l m : List Int} (hp : m.Perm l) (hs : m.Pairwise (· ≤ ·)) : m = srt l :=
  List.Perm.eq_of_pairwise (fun a b _ _ h1 h2 => Int.le_antisymm h1 h2) hs (srt_sorted l) (hp.trans (srt_perm l).symm)
theorem srtP_uniq {l m : List (Int × Int)} (hp : m.Perm l) (hs : m.Pairwise leP) : m = srtP l :=
  List.Perm.eq_of_pairwise (fun a b _ _ h1 h2 => leP_anti h1 h2) hs (srtP_sorted l) (hp.trans (srtP_perm l).symm)
theorem srt_len (l : List Int) : (srt l).length = l.length := (srt_perm l).length_eq
theorem srtP_len (l : List (Int × Int)) : (srtP l).length = l.length := (srtP_perm l).length_eq
/-- places set one after another -/
def setF (l : List Int) (zs : List (Nat × Int)) : List Int := zs.foldl (fun l z => l.set z.1 z.2) l
theorem setF_len : ∀ (zs : List (Nat × Int)) (l : List Int), (setF l zs).length = l.length
  | [], _ => rfl
  | z :: zs, l => by
    show (setF (l.set z.1 z.2) zs).length = _
    rw [setF_len zs, List.length_set]
theorem setF_snoc (l : List Int) (zs : List (Nat × Int)) (z : Nat × Int) : setF l (zs ++ [z]) = (setF l zs).set z.1 z.2 := by
  unfold setF
  rw [List.foldl_append]
  rfl
theorem setF_out : ∀ (zs : List (Nat × Int)) (l : List Int) (p : Nat), (∀ z ∈ zs, z.1 ≠ p) → (setF l zs)[p]? = l[p]?
  | [], _, _, _ => rfl
  | z :: zs, l, p, h => by
    show (setF (l.set z.1 z.2) zs)[p]? = _
    rw [setF_out zs _ p fun y hy => h y (List.mem_cons_of_mem _ hy), List.getElem?_set, if_neg (h z List.mem_cons_self)]
theorem setF_in : ∀ (zs : List (Nat × Int)) (l : List Int) (p : Nat) (x : Int), (zs.map (·.1)).Nodup → (p, x) ∈ zs → p < l.length → (setF l zs)[p]? = some x
  | [], _, _, _, _, h, _ => nomatch h
  | z :: zs, l, p, x, nd, h, hp => by
    show (setF (l.set z.1 z.2) zs)[p]? = _
    have nd' := List.nodup_cons.mp nd
    rcases List.mem_cons.mp h with e | h
    · subst e
      rw [setF_out zs _ p fun y hy e => nd'.1 (List.mem_map.mpr ⟨y, hy, e⟩), List.getElem?_set, if_pos rfl, if_pos hp]
    · exact setF_in zs _ p x nd'.2 h (by rw [List.length_set]; exact hp)
/-! one stage -/
section
variable (ticks : List Int) (riders brought : List Nat) (st : Nat) (walk ride : Int)
def tickAt (p : Nat) : Int := ticks.getD p 0
def queueM : List (Int × Int) := srtP (riders.map fun p => (tickAt ticks p, (p : Int)))
def bikesM : List Int := srt (List.replicate st 0 ++ brought.map fun p => tickAt ticks p)
def pairsM : List ((Int × Int) × Int) := (queueM ticks riders).zip (bikesM ticks brought st)
def leaveM : List Int := setF ticks ((pairsM ticks riders brought st).map fun z => (z.1.2.toNat, mx z.1.1 z.2))
def rowM : List Int := (leaveM ticks riders brought st).mapIdx fun p t => t + if p ∈ riders then ride else walk
end
section
variable {ticks : List Int} {riders brought : List Nat} {st : Nat} {walk ride : Int}
theorem queueM_len : (queueM ticks riders).length = riders.length := by
  unfold queueM
  rw [srtP_len, List.length_map]
theorem bikesM_len : (bikesM ticks brought st).length = st + brought.length := by
  unfold bikesM
  rw [srt_len, List.length_append, List.length_replicate, List.length_map]
theorem pairsM_len (h : riders.length ≤ st + brought.length) : (pairsM ticks riders brought st).length = riders.length := by
  unfold pairsM
  rw [List.length_zip, queueM_len, bikesM_len]
  omega
theorem leaveM_len : (leaveM ticks riders brought st).length = ticks.length := setF_len _ _
theorem rowM_len : (rowM ticks riders brought st walk ride).length = ticks.length := by
  unfold rowM
  rw [List.length_mapIdx, leaveM_len]
/-- the people of the pairs are the riders -/
theorem pairs_people (h : riders.length ≤ st + brought.length) : ((pairsM ticks riders brought st).map fun z => z.1.2.toNat).Perm riders := by
  have e : (pairsM ticks riders brought st).map (fun z => z.1.2.toNat) = (queueM ticks riders).map (fun z => z.2.toNat) := by
    unfold pairsM
    rw [show (fun z : (Int × Int) × Int => z.1.2.toNat) = (fun z : Int × Int => z.2.toNat) ∘ Prod.fst from rfl, ← List.map_map, List.map_fst_zip (by rw [queueM_len, bikesM_len]; exact h)]
  rw [e]
  have p := (srtP_perm (riders.map fun p => (tickAt ticks p, (p : Int)))).map fun z => z.2.toNat
  rw [List.map_map] at p
  have e2 : riders.map ((fun z : Int × Int => z.2.toNat) ∘ fun p => (tickAt ticks p, (p : Int))) = riders := by
    rw [show ((fun z : Int × Int => z.2.toNat) ∘ fun p : Nat => (tickAt ticks p, (p : Int))) = id from funext fun p => Int.toNat_natCast p, List.map_id]
  rw [e2] at p
  exact p
theorem pairs_mem {z : (Int × Int) × Int} (h : z ∈ pairsM ticks riders brought st) : ∃ p ∈ riders, z.1 = (tickAt ticks p, (p : Int)) := by
  have h1 : z.1 ∈ queueM ticks riders := (List.of_mem_zip (show (z.1, z.2) ∈ (queueM ticks riders).zip _ from h)).1
  have h2 := (srtP_perm _).mem_iff.mp h1
  obtain ⟨p, hp, e⟩ := List.mem_map.mp h2
  exact ⟨p, hp, e.symm⟩
/-- who leaves when -/
theorem leave_in (h : riders.length ≤ st + brought.length) (nd : riders.Nodup) {p : Nat} (hp : p ∈ riders) (hl : p < ticks.length) :
    ∃ b, ((tickAt ticks p, (p : Int)), b) ∈ pairsM ticks riders brought st ∧ (leaveM ticks riders brought st)[p]? = some (mx (tickAt ticks p) b) := by
  have pp := pairs_people (ticks := ticks) h
  obtain ⟨z, hz, e⟩ := List.mem_map.mp (pp.mem_iff.mpr hp)
  obtain ⟨p2, hp2, e2⟩ := pairs_mem hz
  have : p2 = p := by
    rw [e2] at e
    simpa using e
  subst this
  obtain ⟨z1, b⟩ := z
  simp only at e2
  subst e2
  refine ⟨b, hz, ?_⟩
  refine setF_in _ _ p2 _ ?_ (List.mem_map.mpr ⟨_, hz, by simp⟩) hl
  rw [List.map_map]
  exact pp.nodup_iff.mpr nd
theorem leave_out {p : Nat} (hp : p ∉ riders) : (leaveM ticks riders brought st)[p]? = ticks[p]? := by
  refine setF_out _ _ p fun y hy e => ?_
  obtain ⟨z, hz, rfl⟩ := List.mem_map.mp hy
  obtain ⟨p2, hp2, e2⟩ := pairs_mem hz
  simp only [e2] at e
  have : p2 = p := by simpa using e
  exact hp (this ▸ hp2)
/-! the law's own way: the same pairs, rides added at once, then the walkers -/
end
/-! a whole plan: the ticks at each station -/
structure PlanOk (bikes : List Int) (n : Nat) (plan : List (List Nat)) : Prop where
  len : plan.length = bikes.length
  nn : ∀ b ∈ bikes, 0 ≤ b
  asc : ∀ r ∈ plan, r.Pairwise (· < ·)
  lt : ∀ r ∈ plan, ∀ p ∈ r, p < n
  few : ∀ i, (plan.getD i []).length ≤ (bikes.getD i 0).toNat + (if i = 0 then 0 else (plan.getD (i - 1) []).length)
def brM (plan : List (List Nat)) (i : Nat) : List Nat := if i = 0 then [] else plan.getD (i - 1) []
def tkM (walk ride : Int) (bikes starts : List Int) (plan : List (List Nat)) : Nat → List Int
  | 0 => starts
  | i + 1 => rowM (tkM walk ride bikes starts plan i) (plan.getD i []) (brM plan i) (bikes.getD i 0).toNat walk ride
theorem tkM_len {walk ride : Int} {bikes starts : List Int} {plan : List (List Nat)} : ∀ i, (tkM walk ride bikes starts plan i).length = starts.length
  | 0 => rfl
  | i + 1 => by
    show (rowM _ _ _ _ _ _).length = _
    rw [rowM_len, tkM_len i]
/-! waits -/
section
variable {ticks w0 : List Int} {riders brought : List Nat} {st k : Nat} {ride : Int} {z : (Int × Int) × Int}
theorem take_snoc (hz : (pairsM ticks riders brought st)[k]? = some z) : (pairsM ticks riders brought st).take (k + 1) = (pairsM ticks riders brought st).take k ++ [z] := by
  rw [List.take_add_one, hz]
  rfl
end
/-- a least item of what is left is the next in order -/
theorem least_next {S l : List (Int × Int)} {k : Nat} {m : Int × Int} (hs : S.Pairwise leP) (hp : l.Perm (S.drop k)) (hm : m ∈ l) (hle : ∀ q ∈ l, leP m q) : S[k]? = some m ∧ S.drop k = m :: S.drop (k + 1) := by
  have hm2 := hp.mem_iff.mp hm
  have kl : k < S.length := by
    rcases Nat.lt_or_ge k S.length with c | c
    · exact c
    · rw [List.drop_of_length_le c] at hm2
      cases hm2
  have ed : S.drop k = S[k] :: S.drop (k + 1) := List.drop_eq_getElem_cons kl
  have h1 : leP m S[k] := hle _ (hp.mem_iff.mpr (by rw [ed]; exact List.mem_cons_self))
  have h2 : leP S[k] m := by
    have hs2 : (S.drop k).Pairwise leP := hs.sublist (List.drop_sublist _ _)
    rw [ed] at hs2 hm2
    rcases List.mem_cons.mp hm2 with e | e
    · rw [e]
      exact .inr ⟨rfl, Int.le_refl _⟩
    · exact (List.pairwise_cons.mp hs2).1 m e
  have e := leP_anti h1 h2
  exact ⟨by rw [List.getElem?_eq_getElem kl, e], by rw [e]; exact ed⟩
theorem erase_next {α : Type} {l r : List α} {m : α} {j : Nat} (hj : l[j]? = some m) (hp : l.Perm (m :: r)) : (l.eraseIdx j).Perm r := by
  have h : (m :: l.eraseIdx j).Perm l := by
    clear hp
    induction l generalizing j with
    | nil => simp at hj
    | cons x l ih =>
      cases j with
      | zero =>
        cases hj
        exact List.Perm.refl _
      | succ j => exact (List.Perm.swap x m _).trans ((ih hj).cons x)
  exact (h.trans hp).cons_inv
/-! bounds -/
def Bnd (M : Int) (l : List Int) : Prop := ∀ x ∈ l, 0 ≤ x ∧ x ≤ M
end Rb
namespace Rb
open PySem PySem.Spec PyProof.Rows L2
/-! pairs of ints in a list: min, remove, sorted -/
def pairD (p : Int × Int) : PyData := .tuple [.int p.1, .int p.2]
/-- the list's items are pairs, as told -/
def Prs (H : Hp) (xs : List V) (ps : List (Int × Int)) : Prop := xs.length = ps.length ∧ ∀ (i : Nat) (p : Int × Int), ps[i]? = some p → ∃ t, xs[i]? = some (.ref t) ∧ H t = some (.tup [.int p.1, .int p.2])
theorem Prs.nil {H : Hp} : Prs H [] [] := ⟨rfl, fun i p h => by simp at h⟩
theorem Prs.keep {H H' : Hp} {xs : List V} {ps : List (Int × Int)} (h : Prs H xs ps) (k : ∀ a ys, H a = some (.tup ys) → H' a = some (.tup ys)) : Prs H' xs ps :=
  ⟨h.1, fun i p hp => by
    obtain ⟨t, h1, h2⟩ := h.2 i p hp
    exact ⟨t, h1, k _ _ h2⟩⟩
theorem Prs.erase {H : Hp} {xs : List V} {ps : List (Int × Int)} (h : Prs H xs ps) (j : Nat) : Prs H (xs.eraseIdx j) (ps.eraseIdx j) := by
  refine ⟨by rw [List.length_eraseIdx, List.length_eraseIdx, h.1], fun i q hq => ?_⟩
  rw [List.getElem?_eraseIdx] at hq ⊢
  split at hq
  · rename_i hi
    rw [if_pos hi]
    exact h.2 i q hq
  · rename_i hi
    rw [if_neg hi]
    exact h.2 (i + 1) q hq
theorem Prs.dp {K : PySem.W.Frag} {H : Hp} : ∀ {xs : List V} {ps : List (Int × Int)}, Prs H xs ps → DpAll K H xs (ps.map pairD)
  | [], [], _ => .nil
  | [], _ :: _, h => by cases h.1
  | _ :: _, [], h => by cases h.1
  | x :: xs, p :: ps, h => by
    obtain ⟨t, h1, h2⟩ := h.2 0 p rfl
    cases (Option.some.inj h1)
    refine .cons (.tup (tupOf h2) (.cons (.int _) (.cons (.int _) .nil))) (Prs.dp ⟨Nat.succ.inj h.1, fun i q hq => ?_⟩)
    exact h.2 (i + 1) q hq
end Rb
namespace Rb
open PySem PySem.Spec PyProof.Rows L2
/-- rows: refs of tuples of ints -/
def Rws (K : PySem.W.Frag) (H : Hp) (xs : List V) (rows : List (List Int)) : Prop := xs.length = rows.length ∧ ∀ (i : Nat) (r : List Int), rows[i]? = some r → ∃ t, xs[i]? = some (.ref t) ∧ SqT K H t (r.map V.int)
section
variable {K : PySem.W.Frag} {H H' : Hp} {xs : List V} {rows : List (List Int)}
theorem Rws.nil : Rws K H [] [] := ⟨rfl, fun i p h => by simp at h⟩
theorem Rws.keep (h : Rws K H xs rows) (k : ∀ a ys, SqT K H a ys → SqT K H' a ys) : Rws K H' xs rows :=
  ⟨h.1, fun i p hp => by
    obtain ⟨t, h1, h2⟩ := h.2 i p hp
    exact ⟨t, h1, k _ _ h2⟩⟩
theorem Rws.ex (h : Rws K H xs rows) (e : Evl.Ex H H') : Rws K H' xs rows := h.keep fun _ _ z => Evl.ex_t e z
theorem Rws.kp {d c : Addr} {N : Int} (h : Rws K H xs rows) (k : Kp d c H H') (dk : Dk H d c N) : Rws K H' xs rows := h.keep fun _ _ z => k.sqT dk z
theorem Rws.upd {D : Addr} {ys zs : List V} (h : Rws K H xs rows) (hD : H D = some (.lst ys)) : Rws K (upd H D (.lst zs)) xs rows := h.keep fun _ _ z => sqT_upd hD z
theorem Rws.tp : ∀ {xs : List V} {rows : List (List Int)}, Rws K H xs rows → TpAll K H xs (rows.map fun r => .tuple (r.map .int))
  | [], [], _ => .nil
  | [], _ :: _, h => by cases h.1
  | _ :: _, [], h => by cases h.1
  | x :: xs, p :: ps, h => by
    obtain ⟨t, h1, h2⟩ := h.2 0 p rfl
    cases (Option.some.inj h1)
    exact .cons (Tp.tupI h2) (Rws.tp ⟨Nat.succ.inj h.1, fun i q hq => h.2 (i + 1) q hq⟩)
end
/-! comprehensions over enumerate(list), and whose elements are new pairs -/
/-! sorted pairs -/
def keyOf (H : Hp) (x : V) : Int × Int :=
  match x with
  | .ref t => match H t with
    | some (.tup [.int i, .int j]) => (i, j)
    | _ => (0, 0)
  | _ => (0, 0)
theorem keyOf_eq {H : Hp} {t : Addr} {p : Int × Int} (h : H t = some (.tup [.int p.1, .int p.2])) : keyOf H (.ref t) = p := by
  unfold keyOf
  simp only [h]
theorem Prs.keys {H : Hp} {xs : List V} {ps : List (Int × Int)} (h : Prs H xs ps) : xs.map (keyOf H) = ps := by
  apply List.ext_getElem?
  intro i
  rw [List.getElem?_map]
  cases e : ps[i]? with
  | none => rw [List.getElem?_eq_none (by rw [h.1]; exact List.getElem?_eq_none_iff.mp e)]; rfl
  | some p =>
    obtain ⟨t, h1, h2⟩ := h.2 i p e
    rw [h1]
    exact congrArg some (keyOf_eq h2)
theorem sorted_prs {K : PySem.W.Frag} {H : Hp} {a : Addr} {xs : List V} {ps : List (Int × Int)} {Q : VK} (hS : SqL K H a xs) (hP : Prs H xs ps) (q : ∀ ys p, Prs H ys (srtP ps) → H p = none → Q (.ref p) (upd H p (.lst ys))) : rSortedPO K [.ref a] H Q := by
  refine ⟨a, xs, keyOf H, rfl, hS, fun x hx => ?_, fun ys p h1 h2 np => q ys p ?_ np⟩
  · obtain ⟨i, hi, e⟩ := List.getElem_of_mem hx
    have il : i < ps.length := by rw [← hP.1]; exact hi
    obtain ⟨t, g1, g2⟩ := hP.2 i ps[i] (List.getElem?_eq_getElem il)
    rw [List.getElem?_eq_getElem hi, e] at g1
    cases Option.some.inj g1
    refine ⟨t, rfl, ?_⟩
    rw [keyOf_eq g2]
    exact g2
  · have e : ys.map (keyOf H) = srtP ps := by
      rw [← hP.keys]
      refine srtP_uniq (h2.perm.map _) ?_
      refine List.pairwise_map.mpr (List.Pairwise.imp (fun {x y} h => ?_) h1)
      have := SrtO.lexB_no.mp (show SrtO.lexB (keyOf H y) (keyOf H x) = false from h)
      unfold leP
      omega
    rw [← e]
    refine ⟨(List.length_map _).symm, fun i p hp => ?_⟩
    rw [List.getElem?_map] at hp
    obtain ⟨y, hy, rfl⟩ := Option.map_eq_some_iff.mp hp
    have ym : y ∈ xs := h2.perm.mem_iff.mp (List.mem_of_getElem? hy)
    obtain ⟨k, hk, ek⟩ := List.getElem_of_mem ym
    have kl : k < ps.length := by rw [← hP.1]; exact hk
    obtain ⟨t, g1, g2⟩ := hP.2 k ps[k] (List.getElem?_eq_getElem kl)
    rw [List.getElem?_eq_getElem hk, ek] at g1
    cases Option.some.inj g1
    refine ⟨t, hy, ?_⟩
    rw [keyOf_eq g2]
    exact g2
theorem rep_flat {x : V} : ∀ n : Nat, (List.replicate n [x]).flatten = List.replicate n x
  | 0 => rfl
  | n + 1 => by
    rw [List.replicate_succ, List.flatten_cons, List.replicate_succ, rep_flat n]
    rfl
theorem nodup_le {n : Nat} : ∀ {l : List Nat}, l.Nodup → (∀ p ∈ l, p < n) → l.length ≤ n := by
  induction n with
  | zero =>
    intro l _ h
    cases l with
    | nil => exact Nat.le_refl _
    | cons x r => exact absurd (h x List.mem_cons_self) (Nat.not_lt_zero _)
  | succ n ih =>
    intro l nd h
    have h1 : (l.erase n).length ≤ n := ih (nd.erase n) fun p hp => by
      have a := h p (List.mem_of_mem_erase hp)
      have b : p ≠ n := fun e => (nd.not_mem_erase (a := n)) (e ▸ hp)
      omega
    rw [List.length_erase] at h1
    split at h1 <;> omega
end Rb
namespace Rb
open PySem PySem.Spec PyProof.Rows L2
/-! a tuple times a number: once is the tuple itself -/
open AutoSeq1 (wpAny_loadPart') in
theorem tupMul1 (t : Addr) (its : Array Value) (n : Nat) (dc : Option Addr) (sl : Array (Option Value)) (u : Tok) :
    Meets (Builtin.«tuple.__mul__» ⟨[.ref t, .int 1 u], []⟩) (fun _ R s => s.heap.get? t = some { cls := .type "tuple", dict := dc, data := .seq its n, slots := sl } ∧ R (.ok (.ret (Value.ref t))) s) := by
  refine .of_wp fun pr wo A R s h => ?_
  obtain ⟨hp, g, d, tk, os⟩ := s
  obtain ⟨ht, h⟩ := h
  have f1 := AutoSeq1.idx_int
  wp_walk using wpAny_loadPart' ht
  repeat (first
    | (refine wpAny_ite_false (by decide) ?_; wp_walk using wpAny_loadPart' ht)
    | (refine wpAny_ite_true (decide_eq_true (by cases its.isEmpty <;> rfl)) ?_; wp_walk using wpAny_loadPart' ht))
  exact ⟨_, rfl, h⟩
/-! max of a tuple of ints -/
def rMaxT (K : PySem.W.Frag) : List V → Hp → VK → Prop := fun vs H Q => ∃ (a : Addr) (ns : List Int), vs = [V.ref a] ∧ SqT K H a (ns.map V.int) ∧ ns ≠ [] ∧ ∀ m, m ∈ ns → (∀ y ∈ ns, y ≤ m) → Q (.int m) H
theorem maxOf_most : ∀ (ns : List Int) (n : Int), (PySem.W.maxOf n ns ∈ n :: ns) ∧ ∀ q ∈ n :: ns, q ≤ PySem.W.maxOf n ns
  | [], n => ⟨List.mem_cons_self, fun q hq => by
    rw [List.mem_singleton.mp hq]
    exact Int.le_refl _⟩
  | y :: ys, n => by
    have e : PySem.W.maxOf n (y :: ys) = PySem.W.maxOf (if PySem.W.DatumOrd.lt n y = true then y else n) ys := rfl
    rw [e]
    have l1 : (PySem.W.DatumOrd.lt n y = true) ↔ n < y := by
      show decide (n < y) = true ↔ _
      exact decide_eq_true_iff
    by_cases c : PySem.W.DatumOrd.lt n y = true
    · rw [if_pos c]
      obtain ⟨h1, h2⟩ := maxOf_most ys y
      refine ⟨List.mem_cons_of_mem _ h1, fun q hq => ?_⟩
      rcases List.mem_cons.mp hq with rfl | hq
      · have a := h2 y List.mem_cons_self
        have b := l1.mp c
        omega
      · exact h2 q hq
    · rw [if_neg c]
      obtain ⟨h1, h2⟩ := maxOf_most ys n
      refine ⟨?_, fun q hq => ?_⟩
      · rcases List.mem_cons.mp h1 with h | h
        · rw [h]; exact List.mem_cons_self
        · exact List.mem_cons_of_mem _ (List.mem_cons_of_mem _ h)
      · rcases List.mem_cons.mp hq with rfl | hq
        · exact h2 q List.mem_cons_self
        · rcases List.mem_cons.mp hq with rfl | hq
          · have a := h2 n List.mem_cons_self
            have b : ¬ n < q := fun z => c (l1.mpr z)
            omega
          · exact h2 q (List.mem_cons_of_mem _ hq)
theorem cr_maxT {X : Cx} (hc : X.calm = true) (hu : X.A.units + 64 < cLine) : CallR X (.builtin "max") (rMaxT X.K) := by
  intro pins s σ H vs us Q I r h
  obtain ⟨a, ns, rfl, hs, hne, q⟩ := h
  obtain ⟨its, rv, hl, _⟩ := I.tuple hs
  rw [Vals.ref1 r]
  cases ns with
  | nil => exact absurd rfl hne
  | cons n ns =>
    obtain ⟨as, ra⟩ := Dp.readsAll I _ _ its (DpAll.ints (K := X.K) (n :: ns)) rv
    refine PySem.W.max_tuple_datum (α := Int) (x := n) (xs := ns) (I.ok.hd hc) (isTup_isTuple hl) ⟨as, ra⟩ (by show X.A.units + 1 + 0 < _; omega) fun i v h' tk hi hv hk => ?_
    obtain ⟨hm, hle⟩ := maxOf_most ns n
    obtain ⟨cs, rm⟩ := hv
    have rm' : Reads h' v (.int (PySem.W.maxOf n ns)) cs := rm
    cases rm' with
    | int _ t => exact ⟨.int _, H, I.kept hk, ⟨t, rfl⟩, q _ hm hle⟩
end Rb
namespace Rb
/-! waits by the ticks alone -/
theorem stages_ok {bikes : List Int} {n i : Nat} {plan : List (List Nat)} (h : PlanOk bikes n plan) (hi : i < plan.length) : (plan.getD i []).Nodup ∧ (∀ p ∈ plan.getD i [], p < n) ∧ (plan.getD i []).length ≤ (bikes.getD i 0).toNat + (brM plan i).length := by
  have hr : plan[i]? = some plan[i] := List.getElem?_eq_getElem hi
  have e : plan.getD i [] = plan[i] := by rw [List.getD_eq_getElem?_getD, hr]; rfl
  have hm : plan[i] ∈ plan := List.getElem_mem hi
  have f := h.few i
  refine ⟨by rw [e]; exact (h.asc _ hm).imp fun h => Nat.ne_of_lt h, by rw [e]; exact h.lt _ hm, ?_⟩
  unfold brM
  split
  · rename_i z
    rw [if_pos z] at f
    exact f
  · rename_i z
    rw [if_neg z] at f
    exact f
end Rb
namespace Rb
open PySem PySem.Spec PyProof.Rows L2
end Rb
namespace Rb
open PySem PySem.Spec PyProof.Rows L2
/-! own errors with one field: made, raised, caught, asked for their class -/
/-- __init__(self, f): self.f = f -/
def spIni (K : PySem.W.Frag) (C : Addr) (f : Str) : Sp := fun vs H Q _ => ∃ (a : Addr) (y : V), vs = [.ref a, y] ∧ H a = some (exo a C none) ∧ ∀ dx, H dx = none → dx ≠ a → Q .non (upd (upd H dx (exd dx [(f, y)])) a (exo a C (some dx)))
theorem made_eq {H : Hp} {a d C : Addr} {f : Str} {y : V} (ha : H a = none) (hd : d ≠ a) :
    upd (del (upd (upd (upd H a (exo a C none)) d (exd d [(f, y)])) a (exo a C (some d))) a) d (.xd [(f, y)]) = upd H d (.xd [(f, y)]) := by
  funext b
  by_cases h1 : b = d
  · subst h1
    rw [upd_same, upd_same]
  · rw [upd_ne h1, upd_ne h1]
    by_cases h2 : b = a
    · subst h2
      rw [del_same, ha]
    · rw [del_ne h2, upd_ne h2, upd_ne h1, upd_ne h2]
/-- what remains to show of raise C(e) -/
theorem mkO_of {K : PySem.W.Frag} {C : Addr} {f : Str} {H1 : Hp} {y : V} {W : XK} (q : ∀ d, H1 d = none → W (.ref C) (some d) (upd H1 d (.xd [(f, y)]))) :
    [y].length ≤ 1000 ∧ ∀ a, H1 a = none → spIni K C f (.ref a :: ([y] ++ [])) (upd H1 a (exo a C none))
      (fun v H2 => v = .non ∧ ∃ (d : Addr) (fs : List (Str × V)), H2 a = some (exo a C (some d)) ∧ H2 d = some (exd d fs) ∧ H1 d = none ∧ W (.ref C) (some d) (upd (del H2 a) d (.xd fs))) (fun _ _ _ => False) := by
  refine ⟨by show 1 ≤ 1000; decide, fun a ha => ⟨a, y, rfl, upd_same, fun d hd ne => ⟨rfl, d, [(f, y)], upd_same, ?_, ?_, ?_⟩⟩⟩
  · rw [upd_ne ne, upd_same]
  · rw [upd_ne ne] at hd
    exact hd
  · rw [made_eq ha ne]
    rw [upd_ne ne] at hd
    exact q d hd
/-! ### isinstance of the error that a suite holds -/
end Rb
namespace Rb
open PySem PySem.Spec PyProof.Rows L2
/-! roads one behind the other -/
abbrev Rd := Int × Int × List Int
/-- roads in a sequence -/
def Rds (K : PySem.W.Frag) (H : Hp) (xs : List V) (rs : List Rd) : Prop := xs.length = rs.length ∧ ∀ (i : Nat) (r : Rd), rs[i]? = some r → ∃ v, xs[i]? = some v ∧ Road K H v r.1 r.2.1 r.2.2
section
variable {K : PySem.W.Frag} {H H' : Hp} {xs : List V} {rs : List Rd}
theorem Rds.nil : Rds K H [] [] := ⟨rfl, fun i r h => by simp at h⟩
theorem Road.keep {v : V} {w r : Int} {bs : List Int} (x : Road K H v w r bs) (k : ∀ a ys, SqT K H a ys → SqT K H' a ys) : Road K H' v w r bs := by
  obtain ⟨a, b, rfl, h1, h2⟩ := x
  exact ⟨a, b, rfl, k _ _ h1, k _ _ h2⟩
theorem Rds.keep (h : Rds K H xs rs) (k : ∀ a ys, SqT K H a ys → SqT K H' a ys) : Rds K H' xs rs :=
  ⟨h.1, fun i r e => by
    obtain ⟨v, h1, h2⟩ := h.2 i r e
    exact ⟨v, h1, h2.keep k⟩⟩
theorem Rds.ex (h : Rds K H xs rs) (e : Evl.Ex H H') : Rds K H' xs rs := h.keep fun _ _ z => Evl.ex_t e z
theorem Rds.kp {d c : Addr} {N : Int} (h : Rds K H xs rs) (k : Kp d c H H') (dk : Dk H d c N) : Rds K H' xs rs := h.keep fun _ _ z => k.sqT dk z
theorem Rds.upd {D : Addr} {ys zs : List V} (h : Rds K H xs rs) (hD : H D = some (.lst ys)) : Rds K (upd H D (.lst zs)) xs rs := h.keep fun _ _ z => sqT_upd hD z
theorem Rds.cons {v : V} {r : Rd} (h1 : Road K H v r.1 r.2.1 r.2.2) (h : Rds K H xs rs) : Rds K H (v :: xs) (r :: rs) := by
  refine ⟨by rw [List.length_cons, List.length_cons, h.1], fun i s e => ?_⟩
  cases i with
  | zero =>
    cases e
    exact ⟨v, rfl, h1⟩
  | succ i => exact h.2 i s e
theorem Rds.uncons {v : V} {r : Rd} (h : Rds K H (v :: xs) (r :: rs)) : Road K H v r.1 r.2.1 r.2.2 ∧ Rds K H xs rs := by
  refine ⟨?_, by have := h.1; rw [List.length_cons, List.length_cons] at this; omega, fun i s e => h.2 (i + 1) s e⟩
  obtain ⟨u, h1, h2⟩ := h.2 0 r rfl
  cases h1
  exact h2
theorem Rds.at {i : Nat} {v : V} (h : Rds K H xs rs) (hv : xs[i]? = some v) : ∃ r, rs[i]? = some r ∧ Road K H v r.1 r.2.1 r.2.2 := by
  have hl := (List.getElem?_eq_some_iff.mp hv).1
  have e : rs[i]? = some (rs[i]'(by rw [← h.1]; exact hl)) := List.getElem?_eq_getElem _
  obtain ⟨u, h1, h2⟩ := h.2 i _ e
  rw [hv] at h1
  cases h1
  exact ⟨_, e, h2⟩
theorem Rds.set {i : Nat} {v : V} {r : Rd} (h : Rds K H xs rs) (h1 : Road K H v r.1 r.2.1 r.2.2) : Rds K H (xs.set i v) (rs.set i r) := by
  refine ⟨by simp [h.1], fun j s e => ?_⟩
  by_cases hij : i = j
  · subst hij
    by_cases hl : i < rs.length
    · rw [List.getElem?_set_self hl] at e
      cases e
      exact ⟨v, List.getElem?_set_self (by rw [h.1]; exact hl), h1⟩
    · rw [List.getElem?_eq_none (by simp; omega)] at e
      cases e
  · rw [List.getElem?_set_ne hij] at e
    obtain ⟨u, h2, h3⟩ := h.2 j s e
    exact ⟨u, by rw [List.getElem?_set_ne hij]; exact h2, h3⟩
theorem Rds.dp : ∀ {xs : List V} {rs : List Rd}, Rds K H xs rs → DpAll K H xs (rs.map fun r => roadD r.1 r.2.1 r.2.2)
  | [], [], _ => .nil
  | [], _ :: _, h => by cases h.1
  | _ :: _, [], h => by cases h.1
  | x :: xs, r :: rs, h => by
    obtain ⟨h1, h2⟩ := h.uncons
    exact .cons h1.dp (Rds.dp h2)
/-! the two ends of a road -/
end
/-! a result: plain immutable data, or a new list of a text and a number -/
def Res (K : PySem.W.Frag) (H0 H : Hp) (v : V) (d : PyData) : Prop := Tp K H v d ∨ ∃ (q : Addr) (x : Str) (n : Int), v = .ref q ∧ H0 q = none ∧ H q = some (.lst [.str x, .int n]) ∧ d = .list [.str x, .int n]
theorem Res.ex {K : PySem.W.Frag} {H0 H H' : Hp} {v : V} {d : PyData} (h : Res K H0 H v d) (e : Evl.Ex H H') : Res K H0 H' v d := by
  rcases h with h | ⟨q, x, n, h1, h2, h3, h4⟩
  · exact .inl (h.ex e)
  · exact .inr ⟨q, x, n, h1, h2, e _ _ h3, h4⟩
theorem Res.old {K : PySem.W.Frag} {H0 H1 H : Hp} {v : V} {d : PyData} (h : Res K H1 H v d) (e : Evl.Ex H0 H1) : Res K H0 H v d := by
  rcases h with h | ⟨q, x, n, h1, h2, h3, h4⟩
  · exact .inl h
  · refine .inr ⟨q, x, n, h1, ?_, h3, h4⟩
    cases z : H0 q with
    | none => rfl
    | some o => rw [e _ _ z] at h2; cases h2
theorem Res.dp {K : PySem.W.Frag} {H0 H : Hp} {v : V} {d : PyData} (h : Res K H0 H v d) : Dp K H v d := by
  rcases h with h | ⟨q, x, n, h1, h2, h3, h4⟩
  · exact Tp.dp _ _ h
  · subst h1 h4
    exact .lst (lstOf h3) (.cons (.str x) (.cons (.int n) .nil))
/-- the same of all, the lists none of them at D -/
inductive ResAll (K : PySem.W.Frag) (D : Addr) (H : Hp) : List V → List PyData → Prop
  | nil : ResAll K D H [] []
  | tp {v : V} {d : PyData} {vs : List V} {ds : List PyData} : Tp K H v d → ResAll K D H vs ds → ResAll K D H (v :: vs) (d :: ds)
  | ls {q : Addr} {x : Str} {n : Int} {vs : List V} {ds : List PyData} : q ≠ D → H q = some (.lst [.str x, .int n]) → ResAll K D H vs ds → ResAll K D H (.ref q :: vs) (.list [.str x, .int n] :: ds)
section
variable {K : PySem.W.Frag} {D : Addr} {H H' : Hp}
theorem ResAll.dp : ∀ {vs : List V} {ds : List PyData}, ResAll K D H vs ds → DpAll K H vs ds
  | _, _, .nil => .nil
  | _, _, .tp h r => .cons (Tp.dp _ _ h) r.dp
  | _, _, .ls _ h r => .cons (.lst (lstOf h) (.cons (.str _) (.cons (.int _) .nil))) r.dp
theorem ResAll.ex (e : Evl.Ex H H') : ∀ {vs : List V} {ds : List PyData}, ResAll K D H vs ds → ResAll K D H' vs ds
  | _, _, .nil => .nil
  | _, _, .tp h r => .tp (h.ex e) (r.ex e)
  | _, _, .ls n h r => .ls n (e _ _ h) (r.ex e)
theorem ResAll.upd {ys zs : List V} (hD : H D = some (.lst ys)) : ∀ {vs : List V} {ds : List PyData}, ResAll K D H vs ds → ResAll K D (upd H D (.lst zs)) vs ds
  | _, _, .nil => .nil
  | _, _, .tp h r => .tp (h.upd hD) (r.upd hD)
  | _, _, .ls n h r => .ls n (by rw [upd_ne n]; exact h) (r.upd hD)
theorem ResAll.length : ∀ {vs : List V} {ds : List PyData}, ResAll K D H vs ds → vs.length = ds.length
  | _, _, .nil => rfl
  | _, _, .tp _ r => congrArg Nat.succ r.length
  | _, _, .ls _ _ r => congrArg Nat.succ r.length
end
end Rb
namespace Rb
open PySem PySem.Spec PyProof.Rows L2
/-! any value: plain data, small dicts from texts to ints among it -/
def dicV (ps : List (Str × Int)) : List (Key × V) := ps.map fun p => (Sum.inr p.1, V.int p.2)
def dicD (ps : List (Str × Int)) : PyData := .dict (ps.map fun p => (.str p.1, .int p.2))
mutual
inductive Ap (K : PySem.W.Frag) (S : List Addr) (H : Hp) : V → PyData → Prop
  | non : Ap K S H .non .none
  | bl (b : Bool) : Ap K S H (.bl b) (.bool b)
  | int (i : Int) : Ap K S H (.int i) (.int i)
  | str (x : Str) : Ap K S H (.str x) (.str x)
  | lst {a : Addr} {xs : List V} {ds : List PyData} : a ∉ S → L2.Rd H a (.lst xs) → ApAll K S H xs ds → Ap K S H (.ref a) (.list ds)
  | tup {a : Addr} {xs : List V} {ds : List PyData} : SqT K H a xs → ApAll K S H xs ds → Ap K S H (.ref a) (.tuple ds)
  | dic {a : Addr} {ps : List (Str × Int)} : H a = some (.dK (dicV ps)) → Ap K S H (.ref a) (dicD ps)
inductive ApAll (K : PySem.W.Frag) (S : List Addr) (H : Hp) : List V → List PyData → Prop
  | nil : ApAll K S H [] []
  | cons {v : V} {vs : List V} {d : PyData} {ds : List PyData} : Ap K S H v d → ApAll K S H vs ds → ApAll K S H (v :: vs) (d :: ds)
end
section
variable {X : Cx} {pins : List (Addr × Obj)} {σ : L2.St} {H : Hp} {s : Shared} {S : List Addr}
theorem dic_reads {h : Heap} : ∀ {ps : List (Str × Int)} {vs : List (Key × Value)} {es : List DictEntry}, KV (dicV ps) vs → Pairs (mixKind X.prog X.w) es vs →
    ReadsAll h (es.map (·.key)) (ps.map fun p => PyData.str p.1) [] ∧ ReadsAll h (es.map (·.val)) (ps.map fun p => PyData.int p.2) []
  | [], _, _, .nil, .nil => ⟨.nil, .nil⟩
  | p :: ps, _, _, .cons hp r, .cons h1 h2 h3 => by
    obtain ⟨q1, q2⟩ := dic_reads r h3
    obtain ⟨e1, t, e2⟩ := hp
    have hk : keyIs (Sum.inr p.1) _ = true := e1 ▸ h1
    rcases keyIs_shape hk with ⟨i, t, z, _⟩ | ⟨x, t2, z, e3⟩
    · cases z
    · cases z
      refine ⟨?_, ?_⟩
      · rw [List.map_cons, List.map_cons, e3]
        exact ReadsAll.cons (as := []) (bs := []) (.str _ _) q1
      · rw [List.map_cons, List.map_cons, h2, e2]
        exact ReadsAll.cons (as := []) (bs := []) (.int _ _) q2
mutual
theorem Ap.reads (hm : sysModules ∈ S) (I : Inv X pins σ H s) : ∀ (d : PyData) (v : V) (u : Value), Ap X.K S H v d → RelV v u → ∃ as, Reads s.heap u d as ∧ sysModules ∉ as
  | .none, _, _, h, r => by
    cases h
    cases r
    exact ⟨_, Reads.none, (fun z => nomatch z)⟩
  | .bool b, _, _, h, r => by
    cases h
    cases r
    exact ⟨_, Reads.bool b, (fun z => nomatch z)⟩
  | .int i, _, _, h, r => by
    cases h
    obtain ⟨t, rfl⟩ := r
    exact ⟨_, Reads.int i t, (fun z => nomatch z)⟩
  | .str x, _, _, h, r => by
    cases h
    obtain ⟨t, rfl⟩ := r
    exact ⟨_, Reads.str x t, (fun z => nomatch z)⟩
  | .list ds, _, _, h, r => by
    cases h with
    | lst ne hs ha =>
      cases r
      obtain ⟨its, rv, ⟨o, n, ho, hc, _, hd⟩, _⟩ := I.list (show SqL X.K H _ _ from .inl hs)
      obtain ⟨as, hr, no⟩ := Ap.readsAll hm I ds _ its ha rv
      refine ⟨_, Reads.list ho hc hd hr, fun z => ?_⟩
      rcases List.mem_cons.mp z with z | z
      · exact ne (z ▸ hm)
      · exact no z
  | .tuple ds, _, _, h, r => by
    cases h with
    | tup hs ha =>
      cases r
      obtain ⟨its, rv, ⟨o, ho, hc, n, hd⟩, _⟩ := I.tuple hs
      obtain ⟨as, hr, no⟩ := Ap.readsAll hm I ds _ its ha rv
      exact ⟨_, Reads.tuple ho hc hd hr, no⟩
  | .dict kvs, _, _, h, r => by
    generalize e : PyData.dict kvs = dd at h
    cases h with
    | non => cases e
    | bl => cases e
    | int => cases e
    | str => cases e
    | lst => cases e
    | tup => cases e
    | @dic a ps hd =>
      cases (PyData.dict.inj e)
      cases r
      obtain ⟨_, ne, vs, rel, o, es, ep, ho, hx, hdat, _, hp, _⟩ := dk_of I.hok hd
      obtain ⟨q1, q2⟩ := dic_reads (X := X) (h := s.heap) rel hp
      have e1 : (ps.map fun p => ((PyData.str p.1, PyData.int p.2) : PyData × PyData)).map (·.1) = ps.map fun p => PyData.str p.1 := by rw [List.map_map]; rfl
      have e2 : (ps.map fun p => ((PyData.str p.1, PyData.int p.2) : PyData × PyData)).map (·.2) = ps.map fun p => PyData.int p.2 := by rw [List.map_map]; rfl
      refine ⟨_, Reads.dict (as := []) (bs := []) ho hx.1 hdat (by rw [e1]; exact q1) (by rw [e2]; exact q2), fun z => ?_⟩
      rcases List.mem_cons.mp z with z | z
      · rw [← z] at ne
        cases ne
      · cases z
theorem Ap.readsAll (hm : sysModules ∈ S) (I : Inv X pins σ H s) : ∀ (ds : List PyData) (vs : List V) (us : List Value), ApAll X.K S H vs ds → Vals vs us → ∃ as, ReadsAll s.heap us ds as ∧ sysModules ∉ as
  | [], _, _, h, r => by
    cases h
    cases r
    exact ⟨_, ReadsAll.nil, (fun z => nomatch z)⟩
  | d :: ds, _, _, h, r => by
    cases h with
    | cons h1 h2 =>
      cases r with
      | cons r1 r2 =>
        obtain ⟨as, q1, n1⟩ := Ap.reads hm I d _ _ h1 r1
        obtain ⟨bs, q2, n2⟩ := Ap.readsAll hm I ds _ _ h2 r2
        refine ⟨_, ReadsAll.cons q1 q2, fun z => ?_⟩
        rcases List.mem_append.mp z with z | z
        · exact n1 z
        · exact n2 z
end
end
/-! what stays -/
section
variable {K : PySem.W.Frag} {H H' : Hp} {S : List Addr}
mutual
theorem Ap.keep (kl : ∀ a xs, a ∉ S → L2.Rd H a (.lst xs) → L2.Rd H' a (.lst xs)) (kt : ∀ a xs, SqT K H a xs → SqT K H' a xs) (kd : ∀ a ps, H a = some (.dK ps) → H' a = some (.dK ps)) : ∀ (d : PyData) (v : V), Ap K S H v d → Ap K S H' v d
  | .none, _, h => by cases h; exact .non
  | .bool b, _, h => by cases h; exact .bl b
  | .int i, _, h => by cases h; exact .int i
  | .str x, _, h => by cases h; exact .str x
  | .list ds, _, h => by
    cases h with
    | lst ne hs ha => exact .lst ne (kl _ _ ne hs) (ApAll.keep kl kt kd ds _ ha)
  | .tuple ds, _, h => by
    cases h with
    | tup hs ha => exact .tup (kt _ _ hs) (ApAll.keep kl kt kd ds _ ha)
  | .dict kvs, _, h => by
    generalize e : PyData.dict kvs = dd at h ⊢
    cases h with
    | non => cases e
    | bl => cases e
    | int => cases e
    | str => cases e
    | lst => cases e
    | tup => cases e
    | dic hd => exact .dic (kd _ _ hd)
theorem ApAll.keep (kl : ∀ a xs, a ∉ S → L2.Rd H a (.lst xs) → L2.Rd H' a (.lst xs)) (kt : ∀ a xs, SqT K H a xs → SqT K H' a xs) (kd : ∀ a ps, H a = some (.dK ps) → H' a = some (.dK ps)) : ∀ (ds : List PyData) (vs : List V), ApAll K S H vs ds → ApAll K S H' vs ds
  | [], _, h => by cases h; exact .nil
  | d :: ds, _, h => by
    cases h with
    | cons h1 h2 => exact .cons (Ap.keep kl kt kd d _ h1) (ApAll.keep kl kt kd ds _ h2)
end
theorem Ap.ex {v : V} {d : PyData} (h : Ap K S H v d) (e : Evl.Ex H H') : Ap K S H' v d := Ap.keep (fun _ _ _ z => Evl.ex_rd e z) (fun _ _ z => Evl.ex_t e z) (fun _ _ z => e _ _ z) d v h
theorem ApAll.ex {vs : List V} {ds : List PyData} (h : ApAll K S H vs ds) (e : Evl.Ex H H') : ApAll K S H' vs ds := ApAll.keep (fun _ _ _ z => Evl.ex_rd e z) (fun _ _ z => Evl.ex_t e z) (fun _ _ z => e _ _ z) ds vs h
theorem ApAll.length : ∀ {vs : List V} {ds : List PyData}, ApAll K S H vs ds → vs.length = ds.length
  | _, _, .nil => rfl
  | _, _, .cons _ r => congrArg Nat.succ r.length
theorem ApAll.at : ∀ {vs : List V} {ds : List PyData} {i : Nat} {v : V}, ApAll K S H vs ds → vs[i]? = some v → ∃ d, ds[i]? = some d ∧ Ap K S H v d
  | _, _, i, _, .nil, h => by simp at h
  | _, _, 0, _, .cons h1 _, h => by
    cases h
    exact ⟨_, rfl, h1⟩
  | _, _, i + 1, _, .cons _ h2, h => ApAll.at (i := i) h2 h
theorem ApAll.append : ∀ {vs ws : List V} {ds es : List PyData}, ApAll K S H vs ds → ApAll K S H ws es → ApAll K S H (vs ++ ws) (ds ++ es)
  | _, _, _, _, .nil, h => h
  | _, _, _, _, .cons h1 h2, h => .cons h1 (h2.append h)
mutual
theorem Tp.ap : ∀ (d : PyData) (v : V), Tp K H v d → Ap K S H v d
  | .none, _, h => by cases h; exact .non
  | .bool b, _, h => by cases h; exact .bl b
  | .int i, _, h => by cases h; exact .int i
  | .str x, _, h => by cases h; exact .str x
  | .list ds, _, h => by cases h
  | .tuple ds, _, h => by
    cases h with
    | tup hs ha => exact .tup hs (TpAll.ap ds _ ha)
  | .dict kvs, _, h => by cases h
theorem TpAll.ap : ∀ (ds : List PyData) (vs : List V), TpAll K H vs ds → ApAll K S H vs ds
  | [], _, h => by cases h; exact .nil
  | d :: ds, _, h => by
    cases h with
    | cons h1 h2 => exact .cons (Tp.ap d _ h1) (TpAll.ap ds _ h2)
end
end
/-! the deck's two lists apart -/
theorem Kp.rd {d c a : Addr} {H H' : Hp} {u : HO} (k : Kp d c H H') (n1 : a ≠ d) (n2 : a ≠ c) (hs : L2.Rd H a u) : L2.Rd H' a u := by
  rcases hs with h | ⟨o, h⟩
  · exact .inl (k _ _ h n1 n2)
  · exact .inr ⟨o, k _ _ h n1 n2⟩
theorem Kp.dic {d c a : Addr} {H H' : Hp} {N : Int} {ps : List (Key × V)} (k : Kp d c H H') (dk : Dk H d c N) (h : H a = some (.dK ps)) : H' a = some (.dK ps) := by
  obtain ⟨cs, n, h1, h2, _⟩ := dk
  refine k _ _ h (fun z => ?_) (fun z => ?_)
  · rw [z, h1] at h
    cases h
  · rw [z, h2] at h
    cases h
/-- addresses that lists of values keep away from: the table of modules, the deck's two lists, and others that stand already -/
structure Sok (H : Hp) (d c : Addr) (S : List Addr) : Prop where
  m : sysModules ∈ S
  d : d ∈ S
  c : c ∈ S
  old : ∀ a ∈ S, a = sysModules ∨ ∃ o, H a = some o
theorem Sok.kp {H H' : Hp} {d c : Addr} {S : List Addr} {N M : Int} (h : Sok H d c S) (k : Kp d c H H') (dk : Dk H' d c M) : Sok H' d c S := by
  refine ⟨h.m, h.d, h.c, fun a ha => ?_⟩
  obtain ⟨cs, n, h1, h2, _⟩ := dk
  by_cases e1 : a = d
  · subst e1
    exact .inr ⟨_, h1⟩
  by_cases e2 : a = c
  · subst e2
    exact .inr ⟨_, h2⟩
  rcases h.old a ha with e | ⟨o, e⟩
  · exact .inl e
  · exact .inr ⟨o, k _ _ e e1 e2⟩
theorem Sok.ex {H H' : Hp} {d c : Addr} {S : List Addr} (h : Sok H d c S) (e : Evl.Ex H H') : Sok H' d c S := ⟨h.m, h.d, h.c, fun a ha => by
  rcases h.old a ha with z | ⟨o, z⟩
  · exact .inl z
  · exact .inr ⟨o, e _ _ z⟩⟩
theorem Sok.new {H : Hp} {d c p : Addr} {S : List Addr} (h : Sok H d c S) (np : H p = none) (ns : p ≠ sysModules) : p ∉ S := fun z => by
  rcases h.old p z with e | ⟨o, e⟩
  · exact ns e
  · rw [np] at e
    cases e
theorem Sok.more {H : Hp} {d c p : Addr} {S : List Addr} {o : HO} (h : Sok H d c S) (hp : H p = some o) : Sok H d c (p :: S) := ⟨.tail _ h.m, .tail _ h.d, .tail _ h.c, fun a ha => by
  rcases List.mem_cons.mp ha with rfl | ha
  · exact .inr ⟨o, hp⟩
  · exact h.old a ha⟩
theorem Ap.kp {K : PySem.W.Frag} {d c : Addr} {S : List Addr} {H H' : Hp} {N : Int} {v : V} {x : PyData} (h : Ap K S H v x) (ok : Sok H d c S) (k : Kp d c H H') (dk : Dk H d c N) : Ap K S H' v x :=
  Ap.keep (fun a _ n z => k.rd (fun e => n (e ▸ ok.d)) (fun e => n (e ▸ ok.c)) z) (fun _ _ z => k.sqT dk z) (fun _ _ z => k.dic dk z) x v h
theorem ApAll.kp {K : PySem.W.Frag} {d c : Addr} {S : List Addr} {H H' : Hp} {N : Int} {vs : List V} {xs : List PyData} (h : ApAll K S H vs xs) (ok : Sok H d c S) (k : Kp d c H H') (dk : Dk H d c N) : ApAll K S H' vs xs :=
  ApAll.keep (fun a _ n z => k.rd (fun e => n (e ▸ ok.d)) (fun e => n (e ▸ ok.c)) z) (fun _ _ z => k.sqT dk z) (fun _ _ z => k.dic dk z) xs vs h
/-! one more address that lists keep away from, because it was free -/
theorem rd_ne {H : Hp} {a D : Addr} {u : HO} (h : L2.Rd H a u) (n : H D = none) : a ≠ D := fun e => by
  subst e
  rcases h with h | ⟨o, h⟩ <;> rw [n] at h <;> cases h
mutual
theorem Ap.more {K : PySem.W.Frag} {S : List Addr} {H : Hp} {D : Addr} (n : H D = none) : ∀ (d : PyData) (v : V), Ap K S H v d → Ap K (D :: S) H v d
  | .none, _, h => by cases h; exact .non
  | .bool b, _, h => by cases h; exact .bl b
  | .int i, _, h => by cases h; exact .int i
  | .str x, _, h => by cases h; exact .str x
  | .list ds, _, h => by
    cases h with
    | lst ne hs ha => exact .lst (fun z => (List.mem_cons.mp z).elim (rd_ne hs n) ne) hs (ApAll.more n ds _ ha)
  | .tuple ds, _, h => by
    cases h with
    | tup hs ha => exact .tup hs (ApAll.more n ds _ ha)
  | .dict kvs, _, h => by
    generalize e : PyData.dict kvs = dd at h ⊢
    cases h with
    | non => cases e
    | bl => cases e
    | int => cases e
    | str => cases e
    | lst => cases e
    | tup => cases e
    | dic hd => exact .dic hd
theorem ApAll.more {K : PySem.W.Frag} {S : List Addr} {H : Hp} {D : Addr} (n : H D = none) : ∀ (ds : List PyData) (vs : List V), ApAll K S H vs ds → ApAll K (D :: S) H vs ds
  | [], _, h => by cases h; exact .nil
  | d :: ds, _, h => by
    cases h with
    | cons h1 h2 => exact .cons (Ap.more n d _ h1) (ApAll.more n ds _ h2)
end
/-! an address of S may be forgotten -/
/-- the list at D, of S, grows: values that keep away from it stay -/
theorem rd_upd {H : Hp} {a D : Addr} {u o : HO} (n : a ≠ D) (h : L2.Rd H a u) : L2.Rd (upd H D o) a u := by
  rcases h with h | ⟨z, h⟩
  · exact .inl (by rw [upd_ne n]; exact h)
  · exact .inr ⟨z, by rw [upd_ne n]; exact h⟩
theorem Ap.upd {K : PySem.W.Frag} {S : List Addr} {H : Hp} {D : Addr} {ys zs : List V} {v : V} {x : PyData} (h : Ap K S H v x) (hs : D ∈ S) (hD : H D = some (.lst ys)) : Ap K S (upd H D (.lst zs)) v x :=
  Ap.keep (fun a _ n z => rd_upd (fun e => n (e ▸ hs)) z) (fun _ _ z => sqT_upd hD z) (fun a ps z => by rw [upd_ne (fun e => by rw [e, hD] at z; cases z)]; exact z) x v h
/-! repr, ==, != of any such value -/
/-! lists that stand apart from the table of modules -/
def tLstN (t : TA) : TE := fun σ H Q => t σ H fun xs H1 => xs.length ≤ sizeLine ∧ ∀ p, H1 p = none → p ≠ sysModules → Q (.ref p) (upd H1 p (.lst xs))
theorem pe_lstN {X : Cx} {es : List Expr} {t : TA} {pos : Pos} (h : PA X es t) : PE X (.List es pos) (tLstN t) := by
  refine ⟨fun pins s σ H Q I hq => ?_⟩
  refine wpAny_List_spliced (thn (h.run pos pins s σ H _ I hq) fun us s1 ⟨xs, H1, I1, r, z, q⟩ => ⟨by rw [← r.length]; exact z, ?_⟩)
  have hf : H1 s1.heap.objs.size = none := I1.hok.fresh (Nat.le_refl _)
  refine ⟨.ref s1.heap.objs.size, upd H1 s1.heap.objs.size (.lst xs), I1.laid (t' := s1.toks) (fun b u e => Heap.get?_push_of_some _ e) (Nat.le_refl _) ?_, rfl, q _ hf (Nat.ne_of_gt I1.big)⟩
  exact ⟨z, us, 0, r, Heap.get?_push_size _ rfl⟩
def rListN (K : PySem.W.Frag) : List V → Hp → VK → Prop := fun xs H Q => ∃ p ys, xs = [.ref p] ∧ (SqL K H p ys ∨ SqT K H p ys) ∧ ∀ l, H l = none → l ≠ sysModules → Q (.ref l) (upd H l (.lst ys))
theorem call_listN {X : Cx} : CallR X (.type "list") (rListN X.K) := by
  intro pins s σ H xs us Q I r h
  obtain ⟨p, ys, rfl, hq, q⟩ := h
  obtain ⟨u, rfl, rx⟩ := vals1 r
  cases rx
  have fin : ∀ (its : List Value), Vals ys its → ys.length ≤ sizeLine → ∀ (h' : Heap) (c' : Nat), (∀ b o', s.heap.get? b = some o' → h'.get? b = some o') →
      h'.get? s.heap.objs.size = some { cls := .type "list", dict := none, data := .seq its.toArray c', slots := #[] } → EP X pins σ Q (.ref s.heap.objs.size) { s with heap := h' } := fun its r' hz h' c' kp e =>
    ⟨.ref s.heap.objs.size, _, I.laid (t' := s.toks) kp (Nat.le_refl _) (show ObjOk X.prog X.w _ h' _ (.lst ys) from ⟨hz, its, c', r', e⟩), rfl, q _ (I.hok.fresh (Nat.le_refl _)) (Nat.ne_of_gt I.big)⟩
  rcases hq with hq | hq
  · obtain ⟨its, r', pl, hz⟩ := I.list hq
    have hlen := r'.length
    obtain ⟨o, ho, hc, n, hd⟩ := pl.isList
    exact call_list_seq p (.inl rfl) ho hc hd (fun h' c' kp e => fin its r' hz h' c' kp e) (by simp only [List.size_toArray] <;> omega)
  · obtain ⟨its, r', pl, hz⟩ := I.tuple hq
    have hlen := r'.length
    obtain ⟨o, ho, hc, n, hd⟩ := pl
    exact call_list_seq p (.inr rfl) ho hc hd (fun h' c' kp e => fin its r' hz h' c' kp e) (by simp only [List.size_toArray] <;> omega)
/-! the type of a value -/
def tyD : PyData → String
  | .none => "NoneType"
  | .bool _ => "bool"
  | .int _ => "int"
  | .str _ => "str"
  | .list _ => "list"
  | .tuple _ => "tuple"
  | .dict _ => "dict"
theorem Ap.ty {K : PySem.W.Frag} {S : List Addr} {H : Hp} {v : V} {d : PyData} (h : Ap K S H v d) : TyX K H v (.type (tyD d)) := by
  cases h with
  | non => exact .base .non
  | bl b => exact .base (.bl b)
  | int i => exact .base (.int i)
  | str x => exact .base (.str x)
  | lst ne hs _ =>
    rcases hs with hs | ⟨o, hs⟩
    · exact .base (.lst hs)
    · exact .base (.frz hs)
  | tup hs _ =>
    rcases hs with (hs | ⟨o, hs⟩) | ⟨o, its, n, h1, h2, _⟩
    · exact .base (.tup hs)
    · exact .fTuple hs
    · exact .kTuple h1 h2
  | dic hd => exact .base (.dK hd)
end Rb
/-! t[::-1], t a tuple that is not empty -/
namespace Rb
open PySem PySem.Spec PyProof.Rows L2 HT
section
variable {prog : Program} {w : World} {A : Around} {E : Value → Shared → Prop} {s : Shared}
theorem backPlaces (n : Nat) : Builtin.Slice.slicePlaces ((n : Int) - 1) (-1) (-1) = n := by
  unfold Builtin.Slice.slicePlaces
  rw [if_neg (by decide)]
  by_cases h : (n : Int) - 1 > -1
  · rw [if_pos h, show (- -1 : Int) = 1 by decide, Int.ediv_one]
    omega
  · rw [if_neg h]
    omega
theorem backApplied {sl : Addr} {t : Tok} {n : Nat} {Q : Int × Int × Nat → Shared → Prop} (hs : s.heap.IsSliceOf sl .none .none (.int (-1) t)) (h : Q ((n : Int) - 1, -1, n) s) : wpAny (model prog w) A (Builtin.Slice.sliceApplied (.ref sl) (pure (n : Int))) Q E s := by
  obtain ⟨os, hos, hcs, hds⟩ := id hs
  unfold Builtin.Slice.sliceApplied Builtin.Slice.sliceFields
  refine wpAny_bind (wpAny_bind (wpAny_field hos hds (x := .none) rfl (wpAny_bind (wpAny_field hos hds (x := .none) rfl (wpAny_bind (wpAny_field hos hds (x := .int (-1) t) rfl (wpAny_pure ?_)))))))
  refine wpAny_bind (slicePart_ (.int (-1) t) ?_)
  show wpAny _ _ (if ((-1 : Int) == 0) = true then _ else _) _ _ s
  rw [if_neg (by decide)]
  refine wpAny_bind (slicePart_ .none (wpAny_bind (slicePart_ .none (wpAny_bind (wpAny_pure ?_)))))
  show wpAny _ _ (match Builtin.Slice.sliceAdjust none none (-1) (n : Int) with | (lo, hi) => pure (lo, (-1 : Int), Builtin.Slice.slicePlaces lo hi (-1))) _ _ s
  have e : Builtin.Slice.sliceAdjust none none (-1) (n : Int) = ((n : Int) - 1, -1) := rfl
  rw [e]
  show wpAny _ _ (pure ((n : Int) - 1, (-1 : Int), Builtin.Slice.slicePlaces ((n : Int) - 1) (-1) (-1))) _ _ s
  rw [backPlaces]
  exact wpAny_pure h
theorem backPick (xs : Array Value) : ((List.range xs.size).filterMap fun (m : Nat) => xs[((xs.size : Int) - 1 + (m : Int) * -1).toNat]?).toArray = xs.toList.reverse.toArray := by
  have e : (List.range xs.size).filterMap (fun (m : Nat) => xs[((xs.size : Int) - 1 + (m : Int) * -1).toNat]?) = xs.toList.reverse := by
    apply List.ext_getElem?
    intro i
    have hl : ∀ m ∈ List.range xs.size, (fun (m : Nat) => xs[((xs.size : Int) - 1 + (m : Int) * -1).toNat]?) m = some (xs.toList.reverse.getD m .none) := by
      intro m hm
      have hm2 := List.mem_range.mp hm
      have e1 : ((xs.size : Int) - 1 + (m : Int) * -1).toNat = xs.size - 1 - m := by omega
      have hx : xs.size - 1 - m < xs.size := by omega
      show xs[((xs.size : Int) - 1 + (m : Int) * -1).toNat]? = _
      rw [e1, Array.getElem?_eq_getElem hx, List.getD_eq_getElem?_getD, List.getElem?_reverse (by rw [Array.length_toList]; exact hm2), Array.length_toList, List.getElem?_eq_getElem (by rw [Array.length_toList]; exact hx)]
      rfl
    have e2 : (List.range xs.size).filterMap (fun (m : Nat) => xs[((xs.size : Int) - 1 + (m : Int) * -1).toNat]?) = (List.range xs.size).map (fun m => xs.toList.reverse.getD m .none) := by
      have go : ∀ l : List Nat, (∀ m ∈ l, (fun (m : Nat) => xs[((xs.size : Int) - 1 + (m : Int) * -1).toNat]?) m = some (xs.toList.reverse.getD m .none)) → l.filterMap (fun (m : Nat) => xs[((xs.size : Int) - 1 + (m : Int) * -1).toNat]?) = l.map (fun m => xs.toList.reverse.getD m .none) := by
        intro l
        induction l with
        | nil => intro _; rfl
        | cons a r ih =>
          intro h
          rw [List.filterMap_cons_some (f := fun (m : Nat) => xs[((xs.size : Int) - 1 + (m : Int) * -1).toNat]?) (h a List.mem_cons_self), List.map_cons, ih fun m hm => h m (List.mem_cons_of_mem _ hm)]
      exact go _ hl
    rw [e2, List.getElem?_map]
    by_cases hi : i < xs.size
    · rw [List.getElem?_range hi, Option.map_some, List.getD_eq_getElem?_getD]
      have : i < xs.toList.reverse.length := by rw [List.length_reverse, Array.length_toList]; exact hi
      rw [List.getElem?_eq_getElem this]
      rfl
    · rw [List.getElem?_eq_none (by rw [List.length_range]; omega), List.getElem?_eq_none (by rw [List.length_reverse, Array.length_toList]; omega)]
      rfl
  rw [e]
theorem getItem_back {t sl : Addr} {tk : Tok} {items : Array Value} {Q : Value → Shared → Prop} (ht : IsTup s.heap t items) (hs : s.heap.IsSliceOf sl .none .none (.int (-1) tk))
    (h : Q (.ref s.heap.objs.size) { s with heap := s.heap.push { cls := .type "tuple", data := .seq items.toList.reverse.toArray } })
    (hsz : items.size ≤ sizeLine) : wpAny (model prog w) A (getItem (.ref t) (.ref sl)) Q E s := by
  have htake : sizeOk (.seq items.toList.reverse.toArray) := by
    show items.toList.reverse.toArray.size ≤ sizeLine
    rw [List.size_toArray, List.length_reverse, Array.length_toList]
    exact hsz
  obtain ⟨os, hos, hcs, hds⟩ := id hs
  have hTs : s.TypeIs (.ref sl) "slice" := ⟨os, hos, hcs⟩
  unfold getItem
  try with_reducible refine wpAny_holding ?_
  first | refine wpAny_bind (wpAny_pure ?_) | skip
  refine wpAny_bind (wpAny_sequenceKey ht.typeIs (by decide) ?_)
  refine wpAny_bind (wpAny_callSpecial?_slot (name := Str.ofString "__getitem__") ht.typeIs PyProof.Rows.slot_tuple_getitem
    (wpAny_call_entry PyProof.Rows.slot_tuple_getitem ht.typeIs entry_tuple_getitem ?_ (args_tuple_getitem _ _)))
  show wpAny _ _ (Builtin.Tuple.tupleItemsOf (.ref t) >>= _) _ _ s
  refine wpAny_bind (tupleItemsOf_ ht ?_)
  refine wpAny_bind (wpAny_typeOf hTs ?_)
  rw [if_pos (by decide)]
  refine wpAny_bind (backApplied hs ?_)
  have hno : ¬ ((((items.size : Int) - 1) == 0 && (-1 : Int) == 1 && items.size == items.size) = true) := by
    rw [show ((-1 : Int) == 1) = false by decide, Bool.and_false, Bool.false_and]
    exact Bool.false_ne_true
  show wpAny _ _ (if ((((items.size : Int) - 1) == 0 && (-1 : Int) == 1 && items.size == items.size) = true) then _ else _) _ _ s
  rw [if_neg hno, backPick]
  first
    | exact wpAny_bind (m := Builtin.Tuple.tupleExact _) (wpAny_newObj_type (wpAny_pure ⟨_, rfl, wpAny_pure h⟩) htake)
    | exact wpAny_bind (m := Builtin.Tuple.tupleExact _) (wpAny_newObj_type (wpAny_bind (wpAny_pure (wpAny_pure ⟨_, rfl, wpAny_pure h⟩))) htake)
    | exact wpAny_bind (wpAny_bind (m := Builtin.Tuple.tupleExact _) (wpAny_newObj_type (wpAny_pure (wpAny_pure ⟨_, rfl, wpAny_pure h⟩)) htake))
    | exact wpAny_bind (wpAny_bind (m := Builtin.Tuple.tupleExact _) (wpAny_newObj_type (wpAny_pure ⟨_, rfl, wpAny_pure h⟩) htake))
end
section
variable {X : Cx}
def tRevT (K : PySem.W.Frag) (te : TE) : TE := fun σ H Q => te σ H fun x H1 => ∃ a xs, x = .ref a ∧ SqT K H1 a xs ∧ ∀ p, H1 p = none → Q (.ref p) (upd H1 p (.tup xs.reverse))
theorem pe_revT {e : Expr} {te : TE} {k : Nat} {p1 p2 p3 pos : Pos} (he : PE X e te) : PE X (.Subscript e (.Slice none none (some (.UnaryOp .USub (.Constant (.int 1) k p1) p2)) p3) pos) (tRevT X.K te) := by
  refine ⟨fun pins s σ H Q I h => ?_⟩
  refine Subscript_ (thn (he.run pins s σ H _ I h) fun v s1 ⟨x, H1, I1, r1, q1⟩ => ?_)
  obtain ⟨a, xs, ex, hx, q⟩ := q1
  subst ex
  cases r1
  have hst : PO X (some (.UnaryOp .USub (.Constant (.int 1) k p1) p2)) (tPart (tUn (rU fun i => .int (-i)) (tC (.int 1)))) := po_some (pe_un un_neg pe_int)
  refine wpAny_Slice (thn (po_none.run pins s1 σ H1 (fun o H2 => o = none ∧ H2 = H1) I1 ⟨rfl, rfl⟩) fun vl s2 ⟨l, H2, I2, pl, el, e2⟩ => ?_)
  subst el e2
  refine thn (po_none.run pins s2 σ H2 (fun o H3 => o = none ∧ H3 = H2) I2 ⟨rfl, rfl⟩) fun vu s3 ⟨u, H3, I3, pu, eu, e3⟩ => ?_
  subst eu e3
  refine thn (hst.run pins s3 σ H3 (fun o H4 => o = some (-1) ∧ H4 = H3) I3 ⟨1, rfl, -1, rfl, rfl, rfl⟩) fun vs s4 ⟨o, H4, I4, ps, eo, e4⟩ => ?_
  subst eo e4
  obtain rfl : vl = Value.none := by cases pl; rfl
  obtain rfl : vu = Value.none := by cases pu; rfl
  obtain ⟨tk, rfl⟩ : ∃ tk, vs = Value.int (-1) tk := by cases ps; exact ⟨_, rfl⟩
  have I5 : L2.Inv X pins σ H4 { s4 with heap := s4.heap.push { cls := .type "slice", data := .fields #[.none, .none, .int (-1) tk] } } := I4.kept (t' := s4.toks) fun b ob q => Heap.get?_push_of_some _ q
  obtain ⟨its, r, ht, hz⟩ := I5.tuple hx
  have hlen := r.length
  show wpAny (model X.prog X.w) X.A (subscriptTail e (.Slice none none (some (.UnaryOp .USub (.Constant (.int 1) k p1) p2)) p3) (.ref a) (.ref s4.heap.objs.size)) (EP X pins σ Q) X.xe { s4 with heap := s4.heap.push { cls := .type "slice", data := .fields #[.none, .none, .int (-1) tk] } }
  refine tail_any (ops := [.ref a, .ref s4.heap.objs.size]) ht.typeIs (PyProof.Rows.slot_tuple_getitem.lookup) ?_ (by with_unfolding_all rfl)
  refine getItem_back ht (Heap.IsSliceOf.new _ .none .none (.int (-1) tk)) ?_ (by rw [List.size_toArray]; omega)
  refine ⟨.ref _, _, I5.laid (t' := s4.toks) (o := .tup xs.reverse) (fun b ob q => Heap.get?_push_of_some _ q) (Nat.le_refl _) ?_, rfl, q _ (I5.hok.fresh (Nat.le_refl _))⟩
  exact ⟨by rw [List.length_reverse]; exact hz, _, r.reverse, IsTup.new _ _⟩
end
/-! any value of a bounded size -/
def Av (K : PySem.W.Frag) (S : List Addr) (H : Hp) (k n : Nat) (v : V) : Prop := ∃ x, Ap K S H v x ∧ Nice k n x
def Avs (K : PySem.W.Frag) (S : List Addr) (H : Hp) (k n : Nat) (xs : List V) : Prop := ∀ v ∈ xs, Av K S H k n v
section
variable {K : PySem.W.Frag} {S S' : List Addr} {d c D : Addr} {H H' : Hp} {N : Int} {k n k' n' : Nat} {v : V} {xs ys : List V}
theorem Av.ex (h : Av K S H k n v) (e : Evl.Ex H H') : Av K S H' k n v := by
  obtain ⟨x, h1, h2⟩ := h
  exact ⟨x, h1.ex e, h2⟩
theorem Av.kp (h : Av K S H k n v) (ok : Sok H d c S) (e : Kp d c H H') (dk : Dk H d c N) : Av K S H' k n v := by
  obtain ⟨x, h1, h2⟩ := h
  exact ⟨x, h1.kp ok e dk, h2⟩
theorem Av.mono (h : Av K S H k n v) (h1 : k ≤ k') (h2 : n ≤ n') : Av K S H k' n' v := by
  obtain ⟨x, h3, h4⟩ := h
  exact ⟨x, h3, h4.mono h1 h2⟩
theorem Av.more (h : Av K S H k n v) (nD : H D = none) : Av K (D :: S) H k n v := by
  obtain ⟨x, h1, h2⟩ := h
  exact ⟨x, Ap.more nD _ _ h1, h2⟩
theorem Av.upd {ys zs : List V} (h : Av K S H k n v) (hs : D ∈ S) (hD : H D = some (.lst ys)) : Av K S (L2.upd H D (.lst zs)) k n v := by
  obtain ⟨x, h1, h2⟩ := h
  exact ⟨x, h1.upd hs hD, h2⟩
theorem Avs.more (h : Avs K S H k n xs) (nD : H D = none) : Avs K (D :: S) H k n xs := fun v hv => (h v hv).more nD
theorem Avs.upd {ys zs : List V} (h : Avs K S H k n xs) (hs : D ∈ S) (hD : H D = some (.lst ys)) : Avs K S (L2.upd H D (.lst zs)) k n xs := fun v hv => (h v hv).upd hs hD
theorem Avs.ex (h : Avs K S H k n xs) (e : Evl.Ex H H') : Avs K S H' k n xs := fun v hv => (h v hv).ex e
theorem Avs.kp (h : Avs K S H k n xs) (ok : Sok H d c S) (e : Kp d c H H') (dk : Dk H d c N) : Avs K S H' k n xs := fun v hv => (h v hv).kp ok e dk
theorem Avs.mono (h : Avs K S H k n xs) (h1 : k ≤ k') (h2 : n ≤ n') : Avs K S H k' n' xs := fun v hv => (h v hv).mono h1 h2
theorem Avs.nil : Avs K S H k n [] := fun _ z => nomatch z
theorem Avs.cons (h1 : Av K S H k n v) (h : Avs K S H k n xs) : Avs K S H k n (v :: xs) := fun u hu => by
  rcases List.mem_cons.mp hu with rfl | hu
  · exact h1
  · exact h u hu
theorem Avs.append (h1 : Avs K S H k n xs) (h2 : Avs K S H k n ys) : Avs K S H k n (xs ++ ys) := fun u hu => by
  rcases List.mem_append.mp hu with hu | hu
  · exact h1 u hu
  · exact h2 u hu
theorem Avs.sub (h : Avs K S H k n xs) (hs : ∀ v ∈ ys, v ∈ xs) : Avs K S H k n ys := fun u hu => h u (hs u hu)
theorem Avs.data : ∀ {xs : List V}, Avs K S H k n xs → ∃ ds, ApAll K S H xs ds ∧ ∀ x ∈ ds, Nice k n x
  | [], _ => ⟨[], .nil, fun _ z => nomatch z⟩
  | v :: xs, h => by
    obtain ⟨x, h1, h2⟩ := h v List.mem_cons_self
    obtain ⟨ds, h3, h4⟩ := Avs.data fun u hu => h u (List.mem_cons_of_mem _ hu)
    refine ⟨x :: ds, .cons h1 h3, fun y hy => ?_⟩
    rcases List.mem_cons.mp hy with rfl | hy
    · exact h2
    · exact h4 y hy
theorem Av.tup {a : Addr} {m : Nat} (hs : SqT K H a xs) (h : Avs K S H k n xs) (hm : xs.length * (n + 1) ≤ m) : Av K S H (k + 1) m (.ref a) := by
  obtain ⟨ds, h1, h2⟩ := h.data
  exact ⟨_, .tup hs h1, Nice.tup h2 (by rw [← h1.length]; exact hm)⟩
theorem Av.lst {a : Addr} {m : Nat} (hn : a ∉ S) (hs : L2.Rd H a (.lst xs)) (h : Avs K S H k n xs) (hm : xs.length * (n + 1) ≤ m) : Av K S H (k + 1) m (.ref a) := by
  obtain ⟨ds, h1, h2⟩ := h.data
  exact ⟨_, .lst hn hs h1, Nice.lst h2 (by rw [← h1.length]; exact hm)⟩
theorem Av.int {i : Int} (h : i.natAbs < 10 ^ 99) : Av K S H k n (.int i) := ⟨_, .int i, (Nice.int h).mono (Nat.zero_le _) (Nat.zero_le _)⟩
theorem Av.bl {b : Bool} : Av K S H k n (.bl b) := ⟨_, .bl b, Nice.bool.mono (Nat.zero_le _) (Nat.zero_le _)⟩
theorem Avs.ints {ns : List Int} (h : ∀ i ∈ ns, i.natAbs < 10 ^ 99) : Avs K S H k n (ns.map V.int) := fun v hv => by
  obtain ⟨i, hi, rfl⟩ := List.mem_map.mp hv
  exact Av.int (h i hi)
end
/-! comprehensions over such values -/
end Rb
namespace Pu
open PySem PySem.Spec PyProof.Rows L2
/-- a lambda: its text, the names that it takes from the def around it -/
structure Lam where
  qual : Str
  params : Arguments
  body : Expr
  scope : Scope
  caps : List Str
/-! ## values without addresses (lst: k tells that the list is known to stand apart from the table of modules) -/
inductive D where
  | non | bl (b : Bool) | int (i : Int) | str (x : Str)
  | tup (xs : List D) | lst (k : Bool) (xs : List D) | dic (ps : List (Str × Int))
  | kls (xs : List D) | cell (n : Nat) | glo (x : Str) | ty (n : String)
  | ins (c : Str) (fs : List (Str × D))
  | exc (c : Str) (fs : List (Str × D))
  | fn (x : Lam) (ds : List D)
  | err (c : Str) (fs : List (Str × D))
instance : Inhabited D := ⟨.non⟩
/-- what stands in a cell -/
inductive Cl where
  | lst (xs : List D) | ins (c : Str) (fs : List (Str × D))
  /-- a dict whose keys are pairs of tuples of whole numbers, whose values are whole numbers (ep: how often it was written) -/
  | dct (ep : Nat) (ps : List ((List Int × List Int) × Int))
abbrev NK := List Int × List Int
abbrev Sto := List Cl
abbrev Rho := List (Option D)
/-- the addresses of the cells; addresses that no value mentions -/
structure Mu where
  m : List Addr
  av : List Addr
/-- the row's written part and names -/
structure Ct where
  K : PySem.W.Frag
  mg : Str → Option Value
  hx : Addr → Option (Value × Option Addr)
/-- where no error is held -/
abbrev ct0 (K : PySem.W.Frag) (mg : Str → Option Value) : Ct := ⟨K, mg, fun _ => none⟩
/-- the hash of such a key -/
def hN (k : NK) : Int := reduceHash (Builtin.Tuple.tupleHashOf [reduceHash (Builtin.Tuple.tupleHashOf (k.1.map hashInt)), reduceHash (Builtin.Tuple.tupleHashOf (k.2.map hashInt))])
/-- the object of such a dict -/
def dctP (a : Addr) (ep : Nat) (xs : List (NK × Addr × Int)) : Heap → Prop := fun h => ∃ (o : Obj) (es : Array DictEntry) (ts : List Value), h.get? a = some o ∧ o.ExactDict ∧ o.data = .dict es ep ∧
  Paired (fun (x : NK × Addr × Int) v => RelV (.int x.2.2) v) xs ts ∧ es.toList = (xs.zip ts).map fun p => (⟨hN p.1.1, .ref p.1.2.1, p.2⟩ : DictEntry)
def DctO (a : Addr) (ep : Nat) (xs : List (NK × Addr × Int)) : HO := .ext (dctP a ep xs)
def IsDct (φ : Heap → Prop) : Prop := ∃ a ep xs, φ = dctP a ep xs
/-- a heap that holds nothing but o -/
theorem heap_of (o : Obj) (hd : o.data ≠ .freed) (n : Nat) : ∃ h : Heap, h.get? n = some o ∧ ∀ b u, h.get? b = some u → u = o := by
  refine ⟨⟨Array.replicate (n + 1) o, {}⟩, ?_, fun b u e => ?_⟩
  · unfold Heap.get?
    rw [show (Array.replicate (n + 1) o)[n]? = some o by simp]
    obtain ⟨a, b, c, d⟩ := o
    cases c <;> first | rfl | exact absurd rfl hd
  · unfold Heap.get? at e
    by_cases hb : b < n + 1
    · rw [show (Array.replicate (n + 1) o)[b]? = some o by simp [hb]] at e
      obtain ⟨a, b, c, d⟩ := o
      cases c <;> first | exact (Option.some.inj e).symm | exact absurd rfl hd
    · have hz : (Array.replicate (n + 1) o)[b]? = none := Array.getElem?_eq_none (by rw [Array.size_replicate]; exact Nat.le_of_not_lt hb)
      rw [show (Heap.objs { objs := Array.replicate (n + 1) o, life := {} })[b]? = none from hz] at e
      cases e
theorem not_dct {φ : Heap → Prop} (o : Obj) (hd : o.data ≠ .freed) (hn : ∀ es ep, o.data ≠ .dict es ep) (n : Nat) (h : ∀ h : Heap, h.get? n = some o → φ h) : ¬ IsDct φ := fun ⟨a, ep, xs, e⟩ => by
  obtain ⟨hp, h1, h2⟩ := heap_of o hd n
  have q := h hp h1
  rw [e] at q
  obtain ⟨u, es, ts, g1, g2, g3, _⟩ := q
  rw [h2 a u g1] at g3
  exact hn _ _ g3
theorem exo_not {e C : Addr} {d : Option Addr} {φ : Heap → Prop} (h : exo e C d = .ext φ) : ¬ IsDct φ := by
  cases h
  exact not_dct { cls := .ref C, dict := d, data := .fields #[.ref 0, .none, .none, .none, .bool false, .none] } (fun z => nomatch z) (fun _ _ z => nomatch z) e fun h q => ⟨0, q⟩
theorem code_not {c : Addr} {q : Str} {φ : Heap → Prop} (h : LamX.CodeO c q = .ext φ) : ¬ IsDct φ := by
  cases h
  exact not_dct { cls := .none, data := .fields #[.none, .str q 0] } (fun z => nomatch z) (fun _ _ z => nomatch z) c fun h e => ⟨_, _, 0, e, rfl, rfl⟩
/-- a key where it stands -/
def KeyAt (H : Hp) (q : Addr) (k : NK) : Prop := ∃ t u, H q = some (.tup [.ref t, .ref u]) ∧ H t = some (.tup (k.1.map V.int)) ∧ H u = some (.tup (k.2.map V.int))
abbrev extT : HO := .ext fun _ => True
/-- the cells that a lambda holds, and what is in them -/
structure Caps (H : Hp) (av : List Addr) (cells : List (Str × Addr)) (ys : List Str) (vs : List V) : Prop where
  len : ys.length = vs.length
  dom : ∀ y c, cells.lookup y = some c → y ∈ ys
  inj : ∀ x y c, cells.lookup x = some c → cells.lookup y = some c → x = y
  at_ : ∀ (i : Nat) (y : Str) (v : V), ys[i]? = some y → vs[i]? = some v → ∃ c ob u, cells.lookup y = some c ∧ (H c = some (.frz ob extT) ∧ c ∉ av) ∧ ob.data = .cell (some u) ∧ RelV v u
def LamAt (H : Hp) (av : List Addr) (a : Addr) (x : Lam) (vs : List V) : Prop := ∃ cells pm c' ctv, H a = some (.frz (PySem.W.kla_obj "<lambda>" x.qual x.params x.body x.scope cells pm c' ctv) extT) ∧ H c' = some (LamX.CodeO c' x.qual) ∧ Caps H av cells x.caps vs
section
variable (c : Ct) (μ : Mu) (H : Hp)
mutual
inductive Rp : V → D → Prop
  | non : Rp .non .non
  | bl (b : Bool) : Rp (.bl b) (.bl b)
  | int (i : Int) : Rp (.int i) (.int i)
  | str (x : Str) : Rp (.str x) (.str x)
  | tup {a : Addr} {vs : List V} {ds : List D} : H a = some (.tup vs) → RpAll vs ds → Rp (.ref a) (.tup ds)
  | lst {a : Addr} {k : Bool} {vs : List V} {ds : List D} : H a = some (.lst vs) → a ∉ μ.m → a ∉ μ.av → (k = true → a ≠ sysModules) → RpAll vs ds → Rp (.ref a) (.lst k ds)
  | kls {a : Addr} {vs : List V} {ds : List D} : L2.Rd H a (.lst vs) → a ∉ μ.m → a ∉ μ.av → RpAll vs ds → Rp (.ref a) (.kls ds)
  | klsK {a : Addr} {vs : List V} {ds : List D} (o : Obj) (its : Array Value) (n : Nat) : c.K.lookup a = some o → o.cls = .type "list" → o.dict = none → o.data = .seq its n → its.size ≤ sizeLine → Vals vs its.toList → RpAll vs ds → Rp (.ref a) (.kls ds)
  | dic {a : Addr} {ps : List (Str × Int)} : H a = some (.dK (Rb.dicV ps)) → a ∉ μ.m → a ∉ μ.av → Rp (.ref a) (.dic ps)
  | cell {n : Nat} {a : Addr} : μ.m[n]? = some a → Rp (.ref a) (.cell n)
  | glo {x : Str} {v : V} {u : Value} : c.mg x = some u → RelV v u → Rp v (.glo x)
  | ty (n : String) : Rp (.ty n) (.ty n)
  | ins {a C dx : Addr} {x : Str} {fv : List (Str × V)} {fs : List (Str × D)} : H a = some (.ins C dx fv) → a ∉ μ.m → a ∉ μ.av → c.mg x = some (.ref C) → RpFs fv fs → Rp (.ref a) (.ins x fs)
  | exc0 {a : Addr} {x : Str} {cls : Value} : c.hx a = some (cls, none) → c.mg x = some cls → Rp (.ref a) (.exc x [])
  | exc1 {a dx : Addr} {x : Str} {cls : Value} {fv : List (Str × V)} {fs : List (Str × D)} : c.hx a = some (cls, some dx) → c.mg x = some cls → H dx = some (.xd fv) → RpFs fv fs → Rp (.ref a) (.exc x fs)
  | fn {a : Addr} {x : Lam} {vs : List V} {ds : List D} : LamAt H μ.av a x vs → RpAll vs ds → Rp (.ref a) (.fn x ds)
  | err0 {a C : Addr} {x : Str} : H a = some (exo a C none) → c.mg x = some (.ref C) → Rp (.ref a) (.err x [])
  | err1 {a C dx : Addr} {x : Str} {fv : List (Str × V)} {fs : List (Str × D)} : H a = some (exo a C (some dx)) → c.mg x = some (.ref C) → (H dx = some (exd dx fv) ∧ dx ∉ μ.m ∧ dx ∉ μ.av) → RpFs fv fs → Rp (.ref a) (.err x fs)
inductive RpAll : List V → List D → Prop
  | nil : RpAll [] []
  | cons {v : V} {vs : List V} {d : D} {ds : List D} : Rp v d → RpAll vs ds → RpAll (v :: vs) (d :: ds)
inductive RpFs : List (Str × V) → List (Str × D) → Prop
  | nil : RpFs [] []
  | cons {f : Str} {v : V} {vs : List (Str × V)} {d : D} {ds : List (Str × D)} : Rp v d → RpFs vs ds → RpFs ((f, v) :: vs) ((f, d) :: ds)
end
end
/-! ## what stays -/
/-- from one state to a later one: cells may have changed, new ones may have come; all else is kept -/
structure Fw (μ : Mu) (H : Hp) (μ' : Mu) (H' : Hp) : Prop where
  pre : ∃ t, μ'.m = μ.m ++ t
  av : μ'.av = μ.av
  keep : ∀ a o, H a = some o → a ∉ μ.m → (∀ ps, o ≠ .tbl ps) → H' a = some o ∧ a ∉ μ'.m
theorem Fw.refl {μ : Mu} {H : Hp} : Fw μ H μ H := ⟨⟨[], by simp⟩, rfl, fun _ _ e n _ => ⟨e, n⟩⟩
theorem Fw.trans {μ μ1 μ2 : Mu} {H H1 H2 : Hp} (a : Fw μ H μ1 H1) (b : Fw μ1 H1 μ2 H2) : Fw μ H μ2 H2 := by
  obtain ⟨t, e⟩ := a.pre
  obtain ⟨u, e'⟩ := b.pre
  exact ⟨⟨t ++ u, by rw [e', e, List.append_assoc]⟩, b.av.trans a.av, fun x o e n t => let ⟨h1, h2⟩ := a.keep x o e n t; b.keep x o h1 h2 t⟩
theorem Fw.at {μ μ' : Mu} {H H' : Hp} (f : Fw μ H μ' H') {n : Nat} {a : Addr} (h : μ.m[n]? = some a) : μ'.m[n]? = some a := by
  obtain ⟨t, e⟩ := f.pre
  rw [e, List.getElem?_append_left (List.getElem?_eq_some_iff.mp h).1]
  exact h
theorem Fw.new {μ : Mu} {H : Hp} {p : Addr} {o : HO} (hp : H p = none) : Fw μ H μ (upd H p o) :=
  ⟨⟨[], by simp⟩, rfl, fun a u e n _ => ⟨by rw [upd_ne (ne_of_none e hp)]; exact e, n⟩⟩
/-- a new object that becomes a cell -/
theorem Fw.newC {μ : Mu} {H : Hp} {p : Addr} {o : HO} (hp : H p = none) : Fw μ H ⟨μ.m ++ [p], μ.av⟩ (upd H p o) :=
  ⟨⟨[p], rfl⟩, rfl, fun a u e n _ => ⟨by rw [upd_ne (ne_of_none e hp)]; exact e, fun z => by
    rcases List.mem_append.mp z with z | z
    · exact n z
    · exact ne_of_none e hp (List.mem_singleton.mp z)⟩⟩
/-- a cell is written -/
theorem Fw.write {μ : Mu} {H : Hp} {p : Addr} {o : HO} (hp : p ∈ μ.m) : Fw μ H μ (upd H p o) :=
  ⟨⟨[], by simp⟩, rfl, fun a u e n _ => ⟨by rw [upd_ne (fun z => n (by rw [z]; exact hp))]; exact e, n⟩⟩
section
variable {c : Ct} {μ μ' : Mu} {H H' : Hp}
/-- the general form: what a value leans on is kept -/
structure Kp (c : Ct) (μ : Mu) (H : Hp) (μ' : Mu) (H' : Hp) : Prop where
  t : ∀ a xs, H a = some (.tup xs) → H' a = some (.tup xs)
  l : ∀ a xs, L2.Rd H a (.lst xs) → a ∉ μ.m → a ∉ μ.av → L2.Rd H' a (.lst xs) ∧ a ∉ μ'.m ∧ a ∉ μ'.av
  m : ∀ a xs, H a = some (.lst xs) → a ∉ μ.m → a ∉ μ.av → H' a = some (.lst xs) ∧ a ∉ μ'.m ∧ a ∉ μ'.av
  d : ∀ a ps, H a = some (.dK ps) → a ∉ μ.m → a ∉ μ.av → H' a = some (.dK ps) ∧ a ∉ μ'.m ∧ a ∉ μ'.av
  i : ∀ a C dx fs, H a = some (.ins C dx fs) → a ∉ μ.m → a ∉ μ.av → H' a = some (.ins C dx fs) ∧ a ∉ μ'.m ∧ a ∉ μ'.av
  cl : ∀ (n : Nat) (a : Addr), μ.m[n]? = some a → μ'.m[n]? = some a
  x : ∀ a fv, H a = some (.xd fv) → H' a = some (.xd fv)
  f : ∀ a ob φ, H a = some (.frz ob (.ext φ)) → H' a = some (.frz ob (.ext φ)) ∧ (a ∉ μ.av → a ∉ μ'.av)
  g : ∀ a φ, H a = some (.ext φ) → ¬ IsDct φ → H' a = some (.ext φ)
  gm : ∀ a φ, H a = some (.ext φ) → a ∉ μ.m → a ∉ μ.av → H' a = some (.ext φ) ∧ a ∉ μ'.m ∧ a ∉ μ'.av
theorem Caps.kp {av av' : List Addr} {cells : List (Str × Addr)} {ys : List Str} {vs : List V} (h : Caps H av cells ys vs) (k : ∀ a ob φ, H a = some (.frz ob (.ext φ)) → H' a = some (.frz ob (.ext φ)) ∧ (a ∉ av → a ∉ av')) : Caps H' av' cells ys vs :=
  ⟨h.len, h.dom, h.inj, fun i y v h1 h2 => let ⟨c, ob, u, e1, e2, e3, e4⟩ := h.at_ i y v h1 h2; ⟨c, ob, u, e1, ⟨(k _ _ _ e2.1).1, (k _ _ _ e2.1).2 e2.2⟩, e3, e4⟩⟩
theorem LamAt.kp {av av' : List Addr} {a : Addr} {x : Lam} {vs : List V} (h : LamAt H av a x vs) (k : ∀ a ob φ, H a = some (.frz ob (.ext φ)) → H' a = some (.frz ob (.ext φ)) ∧ (a ∉ av → a ∉ av')) (g : ∀ a φ, H a = some (.ext φ) → ¬ IsDct φ → H' a = some (.ext φ)) : LamAt H' av' a x vs :=
  let ⟨cells, pm, c', ctv, e1, e2, e3⟩ := h; ⟨cells, pm, c', ctv, (k _ _ _ e1).1, g _ _ e2 (code_not rfl), e3.kp k⟩
mutual
theorem Rp.kp (k : Kp c μ H μ' H') : ∀ {v : V} {d : D}, Rp c μ H v d → Rp c μ' H' v d
  | _, _, .non => .non
  | _, _, .bl b => .bl b
  | _, _, .int i => .int i
  | _, _, .str x => .str x
  | _, _, .tup h r => .tup (k.t _ _ h) (RpAll.kp k r)
  | _, _, .lst h n1 n2 n3 r => let ⟨a, b, d⟩ := k.m _ _ h n1 n2; .lst a b d n3 (RpAll.kp k r)
  | _, _, .kls h n1 n2 r => let ⟨a, b, d⟩ := k.l _ _ h n1 n2; .kls a b d (RpAll.kp k r)
  | _, _, .klsK o its n h1 h2 h3 h4 h5 h6 r => .klsK o its n h1 h2 h3 h4 h5 h6 (RpAll.kp k r)
  | _, _, .dic h n n2 => let ⟨a, b, d⟩ := k.d _ _ h n n2; .dic a b d
  | _, _, .cell h => .cell (k.cl _ _ h)
  | _, _, .glo h r => .glo h r
  | _, _, .ty n => .ty n
  | _, _, .ins h n n2 g r => let ⟨a, b, d⟩ := k.i _ _ _ _ h n n2; .ins a b d g (RpFs.kp k r)
  | _, _, .exc0 h g => .exc0 h g
  | _, _, .exc1 h g e r => .exc1 h g (k.x _ _ e) (RpFs.kp k r)
  | _, _, .fn h r => .fn (h.kp k.f k.g) (RpAll.kp k r)
  | _, _, .err0 h g => .err0 (k.g _ _ h (exo_not rfl)) g
  | _, _, .err1 h g e r => .err1 (k.g _ _ h (exo_not rfl)) g (k.gm _ _ e.1 e.2.1 e.2.2) (RpFs.kp k r)
theorem RpAll.kp (k : Kp c μ H μ' H') : ∀ {vs : List V} {ds : List D}, RpAll c μ H vs ds → RpAll c μ' H' vs ds
  | _, _, .nil => .nil
  | _, _, .cons h r => .cons (Rp.kp k h) (RpAll.kp k r)
theorem RpFs.kp (k : Kp c μ H μ' H') : ∀ {vs : List (Str × V)} {ds : List (Str × D)}, RpFs c μ H vs ds → RpFs c μ' H' vs ds
  | _, _, .nil => .nil
  | _, _, .cons h r => .cons (Rp.kp k h) (RpFs.kp k r)
end
end
/-- a cell's object -/
def ClOk (c : Ct) (μ : Mu) (H : Hp) (a : Addr) : Cl → Prop
  | .lst ds => ∃ vs, H a = some (.lst vs) ∧ RpAll c μ H vs ds
  | .ins x fs => ∃ C dx fv, H a = some (.ins C dx fv) ∧ c.mg x = some (.ref C) ∧ RpFs c μ H fv fs
  | .dct ep ps => ∃ xs, H a = some (DctO a ep xs) ∧ xs.map (fun x => (x.1, x.2.2)) = ps ∧ (xs.map (·.1)).Nodup ∧ xs.length ≤ sizeLine ∧ (a == sysModules) = false ∧ ∀ x ∈ xs, KeyAt H x.2.1 x.1
/-- the names of the defs whose tables are told: those that may make a lambda -/
def lamDefs : List Str := ["law", "_law_watch_right", "_law_long_right", "_law_tried", "_law_attempted", "_law_other", "_law_promise_busy"]
def codeQ (P : Addr) (o : Obj) : Option Str := match o.data with
  | .fields vs => (match vs.getD 11 .none, vs.getD 1 .none with
    | .ref a, .str q _ => if a = P ∧ lamDefs.contains q = true then some q else none
    | _, _ => none)
  | _ => none
/-- the name of the code object whose table stands at P -/
def tabQ (K : PySem.W.Frag) (P : Addr) : Option Str := (List.range 8).findSome? fun i => (K.lookup (P + i)).bind (codeQ P)
def lamQ (q : Str) : Str := (q ++ ".<locals>.") ++ "<lambda>"
/-- what is known of the tables that are told (they are not in the written part): what is in them are code objects of lambdas -/
def Tbs (c : Ct) (H : Hp) : Prop := ∀ (P : Addr) (q : Str), tabQ c.K P = some q → c.K.lookup P = none → LamX.TabS H P (lamQ q)
theorem Tbs.of {c : Ct} {H H' : Hp} (t : Tbs c H) (k1 : ∀ P ps, H P = some (.tbl ps) → H' P = some (.tbl ps)) (k2 : ∀ b φ, H b = some (.ext φ) → ¬ IsDct φ → H' b = some (.ext φ)) : Tbs c H' := fun P q h hn => by
  obtain ⟨ps, e, tr, ha⟩ := t P q h hn
  exact ⟨ps, k1 _ _ e, tr, fun pos cv hc => let ⟨c', e1, e2⟩ := ha pos cv hc; ⟨c', e1, k2 _ _ e2 (code_not rfl)⟩⟩
theorem Tbs.ct {c c' : Ct} {H : Hp} (t : Tbs c H) (e : c.K = c'.K) : Tbs c' H := fun P q h hn => t P q (e ▸ h) (e ▸ hn)
/-- one object more, or one written, that is no table and stood for no code object -/
theorem Tbs.upd {c : Ct} {H : Hp} {p : Addr} {o : HO} (t : Tbs c H) (h1 : ∀ ps, H p ≠ some (.tbl ps)) (h2 : ∀ φ, ¬ IsDct φ → H p ≠ some (.ext φ)) : Tbs c (L2.upd H p o) := t.of (fun P ps e => by rw [upd_ne (fun z => h1 ps (by rw [← z]; exact e))]; exact e) fun b φ e nd => by rw [upd_ne (fun z => h2 φ nd (by rw [← z]; exact e))]; exact e
/-- the told tables of code objects of the written part stand there, but those at cs -/
def tabChk (K : PySem.W.Frag) (cs : List Addr) : Bool := K.all fun e => match e.2.data with
  | .fields vs => (match vs.getD 11 .none, vs.getD 1 .none with
    | .ref a, .str q _ => !lamDefs.contains q || (K.lookup a).isSome || cs.contains a
    | _, _ => true)
  | _ => true
theorem lookup_memK {K : PySem.W.Frag} {a : Addr} {o : Obj} (h : K.lookup a = some o) : ∃ b, (b, o) ∈ K := by
  induction K with
  | nil => cases h
  | cons p r ih =>
    obtain ⟨b, u⟩ := p
    rw [List.lookup_cons] at h
    split at h
    · cases h
      exact ⟨_, List.mem_cons_self⟩
    · obtain ⟨b', hb⟩ := ih h
      exact ⟨b', List.mem_cons_of_mem _ hb⟩
theorem tab_in {K : PySem.W.Frag} {cs : List Addr} {P : Addr} {q : Str} (k : tabChk K cs = true) (h : tabQ K P = some q) (n : K.lookup P = none) : P ∈ cs := by
  obtain ⟨i, _, e⟩ := List.exists_of_findSome?_eq_some h
  obtain ⟨o, e1, e2⟩ := Option.bind_eq_some_iff.mp e
  obtain ⟨b, hb⟩ := lookup_memK e1
  have c := List.all_eq_true.mp k _ hb
  dsimp only at c
  unfold codeQ at e2
  split at e2
  · rename_i vs hd
    split at e2
    · rename_i a q' t h11 h1
      split at e2
      · rename_i ea
        obtain ⟨ea, eq⟩ := ea
        subst ea
        rw [hd] at c
        dsimp only at c
        rw [h11, h1] at c
        dsimp only at c
        rw [n, eq] at c
        simpa using c
      · cases e2
    · cases e2
  · cases e2
theorem Tbs.start {c : Ct} {H : Hp} {cs : List Addr} (k : tabChk c.K cs = true) (h : ∀ P ∈ cs, H P = some (.tbl #[])) : Tbs c H := fun P q hq hn => LamX.TabS.nil (h P (tab_in k hq hn))
structure Wd (c : Ct) (μ : Mu) (S : Sto) (H : Hp) : Prop where
  nd : μ.m.Nodup
  len : μ.m.length = S.length
  ap : ∀ a ∈ μ.m, a ∉ μ.av
  avs : ∀ a ∈ μ.av, H a ≠ none
  ok : ∀ (i : Nat) (a : Addr) (x : Cl), μ.m[i]? = some a → S[i]? = some x → ClOk c μ H a x
  tb : Tbs c H
theorem upd_some {H : Hp} {p a : Addr} {o : HO} (h : H a ≠ none) : upd H p o a ≠ none := by
  unfold upd
  split
  · exact fun z => nomatch z
  · exact h
theorem ClOk.there {c : Ct} {μ : Mu} {H : Hp} {a : Addr} : ∀ {x : Cl}, ClOk c μ H a x → ∃ o, H a = some o ∧ (∀ xs, o ≠ .tup xs) ∧ (∀ ob u, o ≠ .frz ob u) ∧ (∀ fv, o ≠ .xd fv) ∧ ∀ φ, o = .ext φ → IsDct φ
  | .lst _, ⟨_, h, _⟩ => ⟨_, h, (fun _ z => nomatch z), (fun _ _ z => nomatch z), (fun _ z => nomatch z), fun _ z => nomatch z⟩
  | .ins _ _, ⟨_, _, _, h, _⟩ => ⟨_, h, (fun _ z => nomatch z), (fun _ _ z => nomatch z), (fun _ z => nomatch z), fun _ z => nomatch z⟩
  | .dct ep _, ⟨xs, h, _⟩ => ⟨_, h, (fun _ z => nomatch z), (fun _ _ z => nomatch z), (fun _ z => nomatch z), fun _ z => by cases z; exact ⟨_, _, _, rfl⟩⟩
theorem ClOk.noT {c : Ct} {μ : Mu} {H : Hp} {a : Addr} {o : HO} (e : H a = some o) : ∀ {x : Cl}, ClOk c μ H a x → ∀ ps, o ≠ .tbl ps
  | .lst _, ⟨_, h, _⟩, ps, z => by rw [h] at e; cases e; cases z
  | .ins _ _, ⟨_, _, _, h, _⟩, ps, z => by rw [h] at e; cases e; cases z
  | .dct _ _, ⟨_, h, _⟩, ps, z => by rw [h] at e; cases e; cases z
theorem Wd.there {c : Ct} {μ : Mu} {S : Sto} {H : Hp} (w : Wd c μ S H) {a : Addr} (h : a ∈ μ.m) : ∃ o, H a = some o ∧ (∀ xs, o ≠ .tup xs) ∧ (∀ ob u, o ≠ .frz ob u) ∧ (∀ fv, o ≠ .xd fv) ∧ ∀ φ, o = .ext φ → IsDct φ := by
  obtain ⟨i, hi, e⟩ := List.getElem_of_mem h
  have h1 : μ.m[i]? = some a := List.getElem?_eq_some_iff.mpr ⟨hi, e⟩
  have h2 : i < S.length := by rw [← w.len]; exact hi
  exact (w.ok i a S[i] h1 (List.getElem?_eq_getElem h2)).there
theorem Wd.fresh {c : Ct} {μ : Mu} {S : Sto} {H : Hp} (w : Wd c μ S H) {p : Addr} (hp : H p = none) : p ∉ μ.m := fun z => by
  obtain ⟨o, e, _⟩ := w.there z
  rw [hp] at e
  cases e
theorem Wd.tupK {c : Ct} {μ μ' : Mu} {S : Sto} {H H' : Hp} (w : Wd c μ S H) (f : Fw μ H μ' H') {a : Addr} {xs : List V} (e : H a = some (.tup xs)) : H' a = some (.tup xs) := by
  refine (f.keep a _ e (fun z => ?_) (fun _ z => nomatch z)).1
  obtain ⟨o, e', n, _⟩ := w.there z
  rw [e] at e'
  exact n xs (Option.some.inj e').symm
theorem Wd.xdK {c : Ct} {μ μ' : Mu} {S : Sto} {H H' : Hp} (w : Wd c μ S H) (f : Fw μ H μ' H') {a : Addr} {fv : List (Str × V)} (e : H a = some (.xd fv)) : H' a = some (.xd fv) := by
  refine (f.keep a _ e (fun z => ?_) (fun _ z => nomatch z)).1
  obtain ⟨o, e', _, _, n, _⟩ := w.there z
  rw [e] at e'
  exact n fv (Option.some.inj e').symm
theorem Wd.frK {c : Ct} {μ μ' : Mu} {S : Sto} {H H' : Hp} (w : Wd c μ S H) (f : Fw μ H μ' H') {a : Addr} {ob : Obj} {u : HO} (e : H a = some (.frz ob u)) : H' a = some (.frz ob u) := by
  refine (f.keep a _ e (fun z => ?_) (fun _ z => nomatch z)).1
  obtain ⟨o, e', _, n, _⟩ := w.there z
  rw [e] at e'
  exact n ob u (Option.some.inj e').symm
theorem Wd.exK {c : Ct} {μ μ' : Mu} {S : Sto} {H H' : Hp} (w : Wd c μ S H) (f : Fw μ H μ' H') {a : Addr} {φ : Heap → Prop} (e : H a = some (.ext φ)) (nd : ¬ IsDct φ) : H' a = some (.ext φ) := by
  refine (f.keep a _ e (fun z => ?_) (fun _ z => nomatch z)).1
  obtain ⟨o, e', _, _, _, n⟩ := w.there z
  rw [e] at e'
  exact nd (n φ (Option.some.inj e').symm)
theorem Wd.kp {c : Ct} {μ μ' : Mu} {S : Sto} {H H' : Hp} (w : Wd c μ S H) (f : Fw μ H μ' H') : Kp c μ H μ' H' where
  t := fun _ _ h => w.tupK f h
  l := fun a xs h n1 n2 => by
    rcases h with e | ⟨o, e⟩
    · exact ⟨.inl (f.keep a _ e n1 (fun _ z => nomatch z)).1, (f.keep a _ e n1 (fun _ z => nomatch z)).2, f.av ▸ n2⟩
    · exact ⟨.inr ⟨o, (f.keep a _ e n1 (fun _ z => nomatch z)).1⟩, (f.keep a _ e n1 (fun _ z => nomatch z)).2, f.av ▸ n2⟩
  m := fun a xs e n1 n2 => ⟨(f.keep a _ e n1 (fun _ z => nomatch z)).1, (f.keep a _ e n1 (fun _ z => nomatch z)).2, f.av ▸ n2⟩
  d := fun a ps e n1 n2 => ⟨(f.keep a _ e n1 (fun _ z => nomatch z)).1, (f.keep a _ e n1 (fun _ z => nomatch z)).2, f.av ▸ n2⟩
  i := fun a C dx fs e n1 n2 => ⟨(f.keep a _ e n1 (fun _ z => nomatch z)).1, (f.keep a _ e n1 (fun _ z => nomatch z)).2, f.av ▸ n2⟩
  cl := fun n a h => f.at h
  x := fun _ _ h => w.xdK f h
  f := fun _ _ _ h => ⟨w.frK f h, fun n => f.av ▸ n⟩
  g := fun _ _ h nd => w.exK f h nd
  gm := fun a φ e n1 n2 => ⟨(f.keep a _ e n1 (fun _ z => nomatch z)).1, (f.keep a _ e n1 (fun _ z => nomatch z)).2, f.av ▸ n2⟩
section
variable {c : Ct} {μ μ' : Mu} {S : Sto} {H H' : Hp} {v : V} {d : D} {vs : List V} {ds : List D}
theorem Rp.fw (r : Rp c μ H v d) (w : Wd c μ S H) (f : Fw μ H μ' H') : Rp c μ' H' v d := r.kp (w.kp f)
theorem RpAll.fw (r : RpAll c μ H vs ds) (w : Wd c μ S H) (f : Fw μ H μ' H') : RpAll c μ' H' vs ds := r.kp (w.kp f)
theorem ClOk.kp (k : Kp c μ H μ' H') {a : Addr} (g : ∀ o, H a = some o → H' a = some o) : ∀ {x : Cl}, ClOk c μ H a x → ClOk c μ' H' a x
  | .lst _, ⟨vs, h, r⟩ => ⟨vs, g _ h, r.kp k⟩
  | .ins _ _, ⟨C, dx, fv, h, e, r⟩ => ⟨C, dx, fv, g _ h, e, r.kp k⟩
  | .dct _ _, ⟨xs, h, h2, h3, h4, h5, h6⟩ => ⟨xs, g _ h, h2, h3, h4, h5, fun x hx => let ⟨t, u, e1, e2, e3⟩ := h6 x hx; ⟨t, u, k.t _ _ e1, k.t _ _ e2, k.t _ _ e3⟩⟩
/-- a new object that is no cell -/
theorem Wd.new (w : Wd c μ S H) {p : Addr} {o : HO} (hp : H p = none) : Wd c μ S (upd H p o) :=
  ⟨w.nd, w.len, w.ap, fun a h => upd_some (w.avs a h), fun i a x h1 h2 => ClOk.kp (w.kp (Fw.new hp)) (fun u e => by rw [upd_ne (ne_of_none e hp)]; exact e) (w.ok i a x h1 h2), w.tb.upd (fun φ z => by rw [hp] at z; cases z) (fun φ _ z => by rw [hp] at z; cases z)⟩
theorem RpAll.length : ∀ {vs : List V} {ds : List D}, RpAll c μ H vs ds → vs.length = ds.length
  | _, _, .nil => rfl
  | _, _, .cons _ r => congrArg Nat.succ r.length
theorem RpAll.at : ∀ {vs : List V} {ds : List D} {i : Nat} {d : D}, RpAll c μ H vs ds → ds[i]? = some d → ∃ v, vs[i]? = some v ∧ Rp c μ H v d
  | _, _, i, _, .nil, h => by simp at h
  | _, _, 0, _, .cons h1 _, h => by cases h; exact ⟨_, rfl, h1⟩
  | _, _, i + 1, _, .cons _ h2, h => RpAll.at (i := i) h2 h
theorem RpAll.append : ∀ {vs ws : List V} {ds es : List D}, RpAll c μ H vs ds → RpAll c μ H ws es → RpAll c μ H (vs ++ ws) (ds ++ es)
  | _, _, _, _, .nil, h => h
  | _, _, _, _, .cons h1 h2, h => .cons h1 (h2.append h)
theorem RpAll.take : ∀ {vs : List V} {ds : List D} (n : Nat), RpAll c μ H vs ds → RpAll c μ H (vs.take n) (ds.take n)
  | _, _, 0, _ => .nil
  | _, _, _ + 1, .nil => .nil
  | _, _, n + 1, .cons h r => .cons h (RpAll.take n r)
theorem RpAll.drop : ∀ {vs : List V} {ds : List D} (n : Nat), RpAll c μ H vs ds → RpAll c μ H (vs.drop n) (ds.drop n)
  | _, _, 0, r => r
  | _, _, _ + 1, .nil => .nil
  | _, _, n + 1, .cons _ r => RpAll.drop n r
theorem RpAll.set {v : V} {d : D} (h : Rp c μ H v d) : ∀ {vs : List V} {ds : List D} (n : Nat), RpAll c μ H vs ds → RpAll c μ H (vs.set n v) (ds.set n d)
  | _, _, _, .nil => .nil
  | _, _, 0, .cons _ r => .cons h r
  | _, _, n + 1, .cons q r => .cons q (RpAll.set h n r)
theorem RpAll.rev : ∀ {vs : List V} {ds : List D}, RpAll c μ H vs ds → RpAll c μ H vs.reverse ds.reverse
  | _, _, .nil => .nil
  | _, _, .cons h r => by
    rw [List.reverse_cons, List.reverse_cons]
    exact r.rev.append (.cons h .nil)
theorem RpAll.erase : ∀ {vs : List V} {ds : List D} (n : Nat), RpAll c μ H vs ds → RpAll c μ H (vs.eraseIdx n) (ds.eraseIdx n)
  | _, _, _, .nil => .nil
  | _, _, 0, .cons _ r => r
  | _, _, n + 1, .cons q r => .cons q (RpAll.erase n r)
theorem RpAll.rep : ∀ (n : Nat), RpAll c μ H vs ds → RpAll c μ H (List.replicate n vs).flatten (List.replicate n ds).flatten
  | 0, _ => .nil
  | n + 1, r => by
    rw [List.replicate_succ, List.replicate_succ, List.flatten_cons, List.flatten_cons]
    exact r.append (RpAll.rep n r)
end
theorem ix_uniq {N : List Addr} (hN : N.Nodup) {i j : Nat} {x : Addr} (a : N[i]? = some x) (b : N[j]? = some x) : i = j := by
  obtain ⟨h1, e1⟩ := List.getElem?_eq_some_iff.mp a
  obtain ⟨h2, e2⟩ := List.getElem?_eq_some_iff.mp b
  exact (List.getElem_inj hN).mp (e1.trans e2.symm)
/-- one write to a cell -/
theorem Wd.set {c : Ct} {μ : Mu} {S : Sto} {H : Hp} (w : Wd c μ S H) {n : Nat} {a : Addr} {o : HO} {x : Cl} (h : μ.m[n]? = some a) (hx : ClOk c μ (upd H a o) a x) : Wd c μ (S.set n x) (upd H a o) := by
  have hm : a ∈ μ.m := List.mem_of_getElem? h
  refine ⟨w.nd, by rw [List.length_set]; exact w.len, w.ap, fun a h => upd_some (w.avs a h), fun i b y h1 h2 => ?_, w.tb.upd (fun ps z => by
    have hl : n < S.length := by rw [← w.len]; exact (List.getElem?_eq_some_iff.mp h).1
    exact (w.ok n a S[n] h (List.getElem?_eq_getElem hl)).noT z ps rfl) fun φ nd z => by
    obtain ⟨o', e', _, _, _, n⟩ := w.there hm
    rw [z] at e'
    exact nd (n φ (Option.some.inj e').symm)⟩
  by_cases hi : n = i
  · subst hi
    rw [h] at h1
    cases h1
    have : n < S.length := by rw [← w.len]; exact (List.getElem?_eq_some_iff.mp h).1
    rw [List.getElem?_set_self this] at h2
    cases h2
    exact hx
  · rw [List.getElem?_set_ne hi] at h2
    have ne : b ≠ a := fun z => by
      subst z
      exact hi (ix_uniq w.nd h h1)
    exact ClOk.kp (w.kp (Fw.write hm)) (fun u e => by rw [upd_ne ne]; exact e) (w.ok i b y h1 h2)
/-- a new cell -/
theorem Wd.newC {c : Ct} {μ : Mu} {S : Sto} {H : Hp} (w : Wd c μ S H) {p : Addr} {o : HO} {x : Cl} (hp : H p = none) (hx : ClOk c ⟨μ.m ++ [p], μ.av⟩ (upd H p o) p x) : Wd c ⟨μ.m ++ [p], μ.av⟩ (S ++ [x]) (upd H p o) := by
  have nm := w.fresh hp
  refine ⟨?_, by simp [w.len], fun a h => ?_, fun a h => upd_some (w.avs a h), fun i a y h1 h2 => ?_, w.tb.upd (fun φ z => by rw [hp] at z; cases z) (fun φ _ z => by rw [hp] at z; cases z)⟩
  · rw [List.nodup_append]
    exact ⟨w.nd, by simp, fun a ha b hb e => nm (by rw [List.mem_singleton.mp hb] at e; exact e ▸ ha)⟩
  · rcases List.mem_append.mp h with h | h
    · exact w.ap a h
    · rw [List.mem_singleton.mp h]; exact fun z => w.avs p z hp
  · have hl := w.len
    by_cases hi : i < μ.m.length
    · rw [List.getElem?_append_left hi] at h1
      rw [List.getElem?_append_left (by omega)] at h2
      exact ClOk.kp (w.kp (Fw.newC hp)) (fun u e => by rw [upd_ne (ne_of_none e hp)]; exact e) (w.ok i a y h1 h2)
    · have hi2 : i = μ.m.length := by
        have := (List.getElem?_eq_some_iff.mp h1).1
        simp at this
        omega
      subst hi2
      rw [List.getElem?_append_right (Nat.le_refl _), Nat.sub_self] at h1
      cases h1
      rw [List.getElem?_append_right (by omega), hl, Nat.sub_self] at h2
      cases h2
      exact hx
end Pu
namespace Pu
open PySem PySem.Spec PyProof.Rows L2
/-! ## meanings: what must hold so that a piece of code ends as wanted, over values without addresses -/
abbrev QD := D → Sto → Prop
/-- an error: its class, its fields -/
abbrev Er := Str × List (Str × D)
abbrev ED := Er → Sto → Prop
abbrev FX (α : Type) := Rho → Sto → (α → Sto → Prop) → ED → Prop
abbrev FE := FX D
abbrev FT := FX Bool
abbrev FA := FX (List D)
abbrev FO := FX (Option Int)
structure DEnds where
  nx : Rho → Sto → Prop
  rt : QD
  bk : Rho → Sto → Prop
  ct : Rho → Sto → Prop
abbrev FS := Rho → Sto → DEnds → ED → Prop
abbrev FG := D → Rho → Sto → (Rho → Sto → Prop) → ED → Prop
abbrev FGs := List D → Rho → Sto → (Rho → Sto → Prop) → ED → Prop
/-- a def -/
abbrev FF := List D → Sto → QD → ED → Prop
def hxOf (pn : List (Addr × Obj)) (a : Addr) : Option (Value × Option Addr) := match pn with
  | (b, o) :: _ => if b = a then some (o.cls, o.dict) else none
  | [] => none
def ct (X : Cx) : Ct := ⟨X.K, X.mg, if X.calm = true then fun _ => none else hxOf X.pn⟩
/-- what leaves by an error, whatever the slots -/
abbrev cE (E : XK) : L2.St → XK := fun _ => E
structure EnvR (c : Ct) (μ : Mu) (H : Hp) (σ : L2.St) (ρ : Rho) : Prop where
  len : σ.length = ρ.length
  ok : ∀ (i : Nat) (d : D), ρ[i]? = some (some d) → ∃ v, σ[i]? = some (some v) ∧ Rp c μ H v d
def RpX (c : Ct) (μ : Mu) (H : Hp) (cls : Value) (dx : Option Addr) (e : Er) : Prop :=
  c.mg e.1 = some cls ∧ match e.2 with
    | [] => dx = none
    | f :: fs => ∃ a fv, dx = some a ∧ H a = some (.xd fv) ∧ RpFs c μ H fv (f :: fs)
def PX (c : Ct) (μ : Mu) (H : Hp) (Ed : ED) (E : XK) : Prop := ∀ e S' cls dx H' μ', Ed e S' → Fw μ H μ' H' → Wd c μ' S' H' → RpX c μ' H' cls dx e → E cls dx H'
section
variable {c : Ct} {μ μ' : Mu} {S S' : Sto} {H H' : Hp} {σ : L2.St} {ρ : Rho} {Ed : ED} {E : XK}
theorem EnvR.fw (en : EnvR c μ H σ ρ) (w : Wd c μ S H) (f : Fw μ H μ' H') : EnvR c μ' H' σ ρ := ⟨en.len, fun i d h => let ⟨v, e, r⟩ := en.ok i d h; ⟨v, e, r.fw w f⟩⟩
theorem EnvR.kp (en : EnvR c μ H σ ρ) (k : Kp c μ H μ' H') : EnvR c μ' H' σ ρ := ⟨en.len, fun i d h => let ⟨v, e, r⟩ := en.ok i d h; ⟨v, e, r.kp k⟩⟩
theorem PX.fw (p : PX c μ H Ed E) (f : Fw μ H μ' H') : PX c μ' H' Ed E := fun e S' cls dx H2 μ2 h g w r => p e S' cls dx H2 μ2 h (f.trans g) w r
theorem EnvR.set (en : EnvR c μ H σ ρ) {i : Nat} {v : V} {d : D} (r : Rp c μ H v d) : EnvR c μ H (σ.set i (some v)) (ρ.set i (some d)) := by
  refine ⟨by rw [List.length_set, List.length_set]; exact en.len, fun j x h => ?_⟩
  by_cases e : i = j
  · subst e
    have hl : i < ρ.length := by
      have := (List.getElem?_eq_some_iff.mp h).1
      rwa [List.length_set] at this
    rw [List.getElem?_set_self hl] at h
    cases h
    exact ⟨v, by rw [List.getElem?_set_self (by rw [en.len]; exact hl)], r⟩
  · rw [List.getElem?_set_ne e] at h ⊢
    exact en.ok j x h
end
/-- the reading that a meaning gives -/
def tR {α β : Type} (c : Ct) (R : Mu → Hp → β → α → Prop) (E : L2.St → XK) (f : FX α) : L2.St → Hp → (β → Hp → Prop) → Prop := fun σ H Q =>
  ∃ μ S ρ Qd Ed, Wd c μ S H ∧ EnvR c μ H σ ρ ∧ f ρ S Qd Ed ∧ (∀ d S' v H' μ', Qd d S' → Fw μ H μ' H' → Wd c μ' S' H' → R μ' H' v d → Q v H') ∧ PX c μ H Ed (E σ)
theorem tR_of {α β : Type} {c : Ct} {R : Mu → Hp → β → α → Prop} {E : L2.St → XK} {f : FX α} {σ : L2.St} {H : Hp} {Q : β → Hp → Prop} {μ : Mu} {S : Sto} {ρ : Rho} {Qd : α → Sto → Prop} {Ed : ED}
    (w : Wd c μ S H) (en : EnvR c μ H σ ρ) (h : f ρ S Qd Ed) (px : PX c μ H Ed (E σ))
    (q : ∀ d S' v H' μ', Qd d S' → Fw μ H μ' H' → Wd c μ' S' H' → EnvR c μ' H' σ ρ → PX c μ' H' Ed (E σ) → R μ' H' v d → Q v H') : tR c R E f σ H Q :=
  ⟨μ, S, ρ, Qd, Ed, w, en, h, fun d S' v H' μ' h1 h2 h3 h4 => q d S' v H' μ' h1 h2 h3 (en.fw w h2) (px.fw h2) h4, px⟩
def rEqB {α : Type} : Mu → Hp → α → α → Prop := fun _ _ a b => a = b
abbrev tD (c : Ct) (E : L2.St → XK) (f : FE) : TE := tR c (Rp c) E f
abbrev tT (c : Ct) (E : L2.St → XK) (f : FT) : TT := tR c rEqB E f
abbrev tAr (c : Ct) (E : L2.St → XK) (f : FA) : TA := tR c (RpAll c) E f
abbrev tOp' (c : Ct) (E : L2.St → XK) (f : FO) : TO := tR c rEqB E f
abbrev PEd (X : Cx) (E : L2.St → XK) (e : Expr) (f : FE) : Prop := PE X e (tD (ct X) E f)
abbrev PTd (X : Cx) (E : L2.St → XK) (e : Expr) (f : FT) : Prop := PT X e (tT (ct X) E f)
abbrev PWd (X : Cx) (E : L2.St → XK) (e : Expr) (f : FT) : Prop := PW X e (tT (ct X) E f)
abbrev PAd (X : Cx) (E : L2.St → XK) (es : List Expr) (f : FA) : Prop := PA X es (tAr (ct X) E f)
abbrev POd (X : Cx) (E : L2.St → XK) (e : Option Expr) (f : FO) : Prop := PO X e (tOp' (ct X) E f)
section
variable {X : Cx}
theorem PE.imp {e : Expr} {t t' : TE} (h : PE X e t) (k : ∀ σ H Q, t' σ H Q → t σ H Q) : PE X e t' := ⟨fun pins s σ H Q I q => h.run pins s σ H Q I (k σ H Q q)⟩
theorem PT.imp {e : Expr} {t t' : TT} (h : PT X e t) (k : ∀ σ H Q, t' σ H Q → t σ H Q) : PT X e t' := ⟨fun pins s σ H Q I q => h.run pins s σ H Q I (k σ H Q q)⟩
theorem PW.imp {e : Expr} {t t' : TT} (h : PW X e t) (k : ∀ σ H Q, t' σ H Q → t σ H Q) : PW X e t' := ⟨fun wh pins s σ H Q I q => h.run wh pins s σ H Q I (k σ H Q q)⟩
theorem PA.imp {e : List Expr} {t t' : TA} (h : PA X e t) (k : ∀ σ H Q, t' σ H Q → t σ H Q) : PA X e t' := ⟨fun p pins s σ H Q I q => h.run p pins s σ H Q I (k σ H Q q)⟩
theorem PO.imp {e : Option Expr} {t t' : TO} (h : PO X e t) (k : ∀ σ H Q, t' σ H Q → t σ H Q) : PO X e t' := ⟨fun pins s σ H Q I q => h.run pins s σ H Q I (k σ H Q q)⟩
theorem PS.imp {e : Stmt} {t t' : TS} (h : PS X e t) (k : ∀ D σ H, t' D σ H → t D σ H) : PS X e t' := ⟨fun pins s σ H D I q => h.run pins s σ H D I (k D σ H q)⟩
theorem PSs.imp {e : List Stmt} {t t' : TS} (h : PSs X e t) (k : ∀ D σ H, t' D σ H → t D σ H) : PSs X e t' := ⟨fun pins s σ H D I q => h.run pins s σ H D I (k D σ H q)⟩
theorem PG.imp {e : Expr} {t t' : TG} (h : PG X e t) (k : ∀ v σ H Q, t' v σ H Q → t v σ H Q) : PG X e t' := ⟨fun pins s σ H v u Q I r q => h.run pins s σ H v u Q I r (k v σ H Q q)⟩
end
/-! ### names, constants -/
def getV : Rho → Nat → Option D
  | [], _ => none
  | x :: _, 0 => x
  | _ :: r, n + 1 => getV r n
theorem getV_some : ∀ {ρ : Rho} {i : Nat} {d : D}, getV ρ i = some d → ρ[i]? = some (some d)
  | [], _, _, h => by cases h
  | _ :: _, 0, _, h => by
    rw [List.getElem?_cons_zero]
    exact congrArg some h
  | _ :: r, n + 1, _, h => by
    rw [List.getElem?_cons_succ]
    exact getV_some (ρ := r) h
def onSome {α : Type} (o : Option α) (k : α → Prop) : Prop := match o with | some a => k a | none => False
theorem onSome_of {α : Type} {o : Option α} {k : α → Prop} (h : onSome o k) : ∃ a, o = some a ∧ k a := by
  cases o with
  | none => exact h.elim
  | some a => exact ⟨a, rfl, h⟩
def dVar (i : Nat) : FE := fun ρ S Q _ => onSome (getV ρ i) fun d => Q d S
def dC {α : Type} (d : α) : FX α := fun _ S Q _ => Q d S
section
variable {X : Cx} {E : L2.St → XK} {pos : Pos}
theorem d_var {i : Nat} {e : Expr} (h : PE X e (tVar i)) : PEd X E e (dVar i) := by
  refine PE.imp h fun σ H Q ⟨μ, S, ρ, Qd, Ed, w, en, hf, q, px⟩ => ?_
  obtain ⟨d, e1, hd⟩ := onSome_of hf
  obtain ⟨v, e2, r⟩ := en.ok i d (getV_some e1)
  exact ⟨v, e2, q d S v H μ hd Fw.refl w r⟩
theorem d_const {v : V} {d : D} {e : Expr} (h : PE X e (tC v)) (r : ∀ μ H, Rp (ct X) μ H v d) : PEd X E e (dC d) :=
  PE.imp h fun σ H Q ⟨μ, S, ρ, Qd, Ed, w, en, hf, q, px⟩ => q d S v H μ hf Fw.refl w (r μ H)
theorem d_int {i j} : PEd X E (.Constant (.int i) j pos) (dC (.int i)) := d_const pe_int fun _ _ => .int i
theorem d_bl {b j} : PEd X E (.Constant (.bool b) j pos) (dC (.bl b)) := d_const pe_bl fun _ _ => .bl b
theorem d_str {x j} : PEd X E (.Constant (.str x) j pos) (dC (.str x)) := d_const pe_str fun _ _ => .str x
/-- a module's int -/
theorem d_gint {x : Str} {i : Int} {t : Tok} (hg : Gl X x) (hm : X.mg x = some (.int i t)) (hd : (x == ("__debug__" : Str)) = false := by decide) : PEd X E (.Name x pos) (dC (.int i)) :=
  d_const (pe_glob hg hm (show RelV (V.int i) _ from ⟨_, rfl⟩) hd) fun _ _ => .int i
end
/-! ### argument lists -/
def dNil : FA := fun _ S Q _ => Q [] S
def dCons (f : FE) (g : FA) : FA := fun ρ S Q Ed => f ρ S (fun x S1 => g ρ S1 (fun xs S2 => Q (x :: xs) S2) Ed) Ed
section
variable {X : Cx} {E : L2.St → XK} {pos : Pos} {a b e : Expr} {es : List Expr} {fa fb : FE} {fs : FA}
theorem d_nil : PAd X E [] dNil := PA.imp pa_nil fun σ H Q ⟨μ, S, ρ, Qd, Ed, w, en, hf, q, px⟩ => q [] S [] H μ hf Fw.refl w .nil
theorem d_cons (ha : PEd X E e fa) (hr : PAd X E es fs) (hs : starEach (e :: es) X.env = (false, eval e X.env) :: starEach es X.env := by rfl) : PAd X E (e :: es) (dCons fa fs) := by
  refine PA.imp (pa_cons ha hr hs) fun σ H Q ⟨μ, S, ρ, Qd, Ed, w, en, hf, q, px⟩ => ?_
  refine tR_of w en hf px fun x S1 v H1 μ1 h1 f1 w1 en1 px1 r1 => ?_
  refine tR_of w1 en1 h1 px1 fun xs S2 vs H2 μ2 h2 f2 w2 en2 px2 r2 => ?_
  exact q _ S2 _ H2 μ2 h2 (f1.trans f2) w2 (.cons (r1.fw w1 f2) r2)
/-! ### operators by values -/
abbrev G2 := D → D → Sto → QD → Prop
def PostV (c : Ct) (μ : Mu) (H : Hp) (Qd : QD) (Q : VK) : Prop := ∀ d S' v H' μ', Qd d S' → Fw μ H μ' H' → Wd c μ' S' H' → Rp c μ' H' v d → Q v H'
def rD2 (c : Ct) (g : G2) : R2 := fun x y H Q => ∃ μ S dx dy Qd, Wd c μ S H ∧ Rp c μ H x dx ∧ Rp c μ H y dy ∧ g dx dy S Qd ∧ PostV c μ H Qd Q
def rD1 (c : Ct) (g : D → Sto → QD → Prop) : V → Hp → VK → Prop := fun x H Q => ∃ μ S dx Qd, Wd c μ S H ∧ Rp c μ H x dx ∧ g dx S Qd ∧ PostV c μ H Qd Q
def rDs (c : Ct) (g : List D → Sto → QD → Prop) : List V → Hp → VK → Prop := fun xs H Q => ∃ μ S ds Qd, Wd c μ S H ∧ RpAll c μ H xs ds ∧ g ds S Qd ∧ PostV c μ H Qd Q
def rDm (c : Ct) (g : D → List D → Sto → QD → Prop) : V → List V → Hp → VK → Prop := fun x xs H Q => ∃ μ S d ds Qd, Wd c μ S H ∧ Rp c μ H x d ∧ RpAll c μ H xs ds ∧ g d ds S Qd ∧ PostV c μ H Qd Q
def dBin (g : G2) (fa fb : FE) : FE := fun ρ S Q Ed => fa ρ S (fun x S1 => fb ρ S1 (fun y S2 => g x y S2 Q) Ed) Ed
def dUn (g : D → Sto → QD → Prop) (fa : FE) : FE := fun ρ S Q Ed => fa ρ S (fun x S1 => g x S1 Q) Ed
def dB (g : List D → Sto → QD → Prop) (fa : FA) : FE := fun ρ S Q Ed => fa ρ S (fun ds S1 => g ds S1 Q) Ed
theorem tBin {g : G2} {σ : L2.St} {H : Hp} {Q : VK} {c : Ct} (h : tD c E (dBin g fa fb) σ H Q) : tOp (rD2 c g) (tD c E fa) (tD c E fb) σ H Q := by
  obtain ⟨μ, S, ρ, Qd, Ed, w, en, hf, q, px⟩ := h
  refine tR_of w en hf px fun x S1 v H1 μ1 h1 f1 w1 en1 px1 r1 => ?_
  refine tR_of w1 en1 h1 px1 fun y S2 u H2 μ2 h2 f2 w2 en2 px2 r2 => ?_
  exact ⟨μ2, S2, x, y, Qd, w2, r1.fw w1 f2, r2, h2, fun d S' v' H' μ' h f w' r => q d S' v' H' μ' h (f1.trans (f2.trans f)) w' r⟩
theorem d_bin {op : Operator} {g : G2} (ho : OpR X (binaryOp op) (rD2 (ct X) g)) (ha : PEd X E a fa) (hb : PEd X E b fb) : PEd X E (.BinOp a op b pos) (dBin g fa fb) :=
  PE.imp (pe_op ho ha hb) fun _ _ _ h => tBin h
theorem d_un {op : UnaryOp} {g : D → Sto → QD → Prop} (ho : UnR X (unaryOp op) (rD1 (ct X) g)) (ha : PEd X E a fa) : PEd X E (.UnaryOp op a pos) (dUn g fa) := by
  refine PE.imp (pe_un ho ha) fun σ H Q ⟨μ, S, ρ, Qd, Ed, w, en, hf, q, px⟩ => ?_
  refine tR_of w en hf px fun x S1 v H1 μ1 h1 f1 w1 en1 px1 r1 => ?_
  exact ⟨μ1, S1, x, Qd, w1, r1, h1, fun d S' v' H' μ' h f w' r => q d S' v' H' μ' h (f1.trans f) w' r⟩
theorem d_cmp {op : CmpOp} {g : G2} (ho : OpR X (compareOp op) (rD2 (ct X) g)) (ha : PEd X E a fa) (hb : PEd X E b fb) (hm : behindInMarks op b = false) : PEd X E (.Compare a [op] [b] pos) (dBin g fa fb) :=
  PE.imp (pe_cmpR ho ha hb hm) fun _ _ _ h => tBin h
/-- a bool's test -/
def onBl (d : D) (k : Bool → Prop) : Prop := match d with | .bl b => k b | _ => False
theorem onBl_of {d : D} {k : Bool → Prop} (h : onBl d k) : ∃ b, d = .bl b ∧ k b := by
  cases d with
  | bl b => exact ⟨b, rfl, h⟩
  | _ => exact h.elim
def dTest (f : FE) : FT := fun ρ S Q Ed => f ρ S (fun d S1 => onBl d fun b => Q b S1) Ed
theorem Rp.bl_inv {c : Ct} {μ : Mu} {H : Hp} {v : V} {b : Bool} (h : Rp c μ H v (.bl b)) : v = .bl b := by cases h; rfl
theorem tTest_of {f : FE} {σ : L2.St} {H : Hp} {Q : Bool → Hp → Prop} {c : Ct} (h : tT c E (dTest f) σ H Q) : tD c E f σ H (fun x H' => ∃ k, x = .bl k ∧ Q k H') := by
  obtain ⟨μ, S, ρ, Qd, Ed, w, en, hf, q, px⟩ := h
  refine tR_of w en hf px fun x S1 v H1 μ1 h1 f1 w1 en1 px1 r1 => ?_
  obtain ⟨b, rfl, hb⟩ := onBl_of h1
  exact ⟨b, r1.bl_inv, q b S1 b H1 μ1 hb f1 w1 rfl⟩
theorem d_tcmp {op : CmpOp} {g : G2} (ho : OpR X (compareOp op) (rD2 (ct X) g)) (ha : PEd X E a fa) (hb : PEd X E b fb) (hm : behindInMarks op b = false) : PTd X E (.Compare a [op] [b] pos) (dTest (dBin g fa fb)) := by
  refine PT.imp (pt_cmpR ho ha hb hm) fun σ H Q h => ?_
  obtain ⟨μ, S, ρ, Qd, Ed, w, en, hf, q, px⟩ := h
  show tOp _ _ _ σ H _
  refine tBin ⟨μ, S, ρ, _, Ed, w, en, hf, fun d S' v H' μ' h1 f1 w1 r1 => ?_, px⟩
  obtain ⟨b, rfl, hb⟩ := onBl_of h1
  exact ⟨b, r1.bl_inv, q b S' b H' μ' hb f1 w1 rfl⟩
/-- an expression that is a bool, as a test -/
theorem d_tval {f : FE} (h : PEd X E e f) (he : ∀ whole, isTrue e X.env whole = (do let v ← whole; standAt e.pos; holding [v] (truthy v)) := by intro _; rfl) : PTd X E e (dTest f) :=
  PT.imp (pt_val h he) fun _ _ _ h => tTest_of h
end
/-! ### and, or, not, if -/
def dAnd (f g : FT) : FT := fun ρ S Q Ed => f ρ S (fun b S1 => if b = true then g ρ S1 Q Ed else Q false S1) Ed
def dOr (f g : FT) : FT := fun ρ S Q Ed => f ρ S (fun b S1 => if b = true then Q true S1 else g ρ S1 Q Ed) Ed
def dNot (f : FT) : FT := fun ρ S Q Ed => f ρ S (fun b S1 => Q (!b) S1) Ed
def dAndV (f g : FE) : FE := fun ρ S Q Ed => f ρ S (fun d S1 => onBl d fun b => if b = true then g ρ S1 Q Ed else Q (.bl false) S1) Ed
def dIf {α : Type} (t : FT) (f g : FX α) : FX α := fun ρ S Q Ed => t ρ S (fun b S1 => if b = true then f ρ S1 Q Ed else g ρ S1 Q Ed) Ed
section
variable {X : Cx} {E : L2.St → XK} {pos : Pos} {a b c e : Expr} {rest : List Expr} {f g : FT} {fa fb : FE}
theorem d_and1 (ha : PTd X E a f) : PWd X E (.BoolOp .And [a] pos) f := pw_and1 ha
theorem d_or1 (ha : PTd X E a f) : PWd X E (.BoolOp .Or [a] pos) f := pw_or1 ha
theorem d_and (ha : PTd X E a f) (hb : PWd X E (.BoolOp .And (b :: rest) pos) g) : PWd X E (.BoolOp .And (a :: b :: rest) pos) (dAnd f g) := by
  refine PW.imp (pw_and ha hb) fun σ H Q ⟨μ, S, ρ, Qd, Ed, w, en, hf, q, px⟩ => ?_
  refine tR_of w en hf px fun x S1 v H1 μ1 h1 f1 w1 en1 px1 r1 => ?_
  cases (r1 : v = x)
  split
  · rename_i hv
    rw [if_pos hv] at h1
    exact tR_of w1 en1 h1 px1 fun y S2 u H2 μ2 h2 f2 w2 en2 px2 r2 => q y S2 u H2 μ2 h2 (f1.trans f2) w2 r2
  · rename_i hv
    rw [if_neg hv] at h1
    exact q false S1 false H1 μ1 h1 f1 w1 rfl
theorem d_or (ha : PTd X E a f) (hb : PWd X E (.BoolOp .Or (b :: rest) pos) g) : PWd X E (.BoolOp .Or (a :: b :: rest) pos) (dOr f g) := by
  refine PW.imp (pw_or ha hb) fun σ H Q ⟨μ, S, ρ, Qd, Ed, w, en, hf, q, px⟩ => ?_
  refine tR_of w en hf px fun x S1 v H1 μ1 h1 f1 w1 en1 px1 r1 => ?_
  cases (r1 : v = x)
  split
  · rename_i hv
    rw [if_pos hv] at h1
    exact q true S1 true H1 μ1 h1 f1 w1 rfl
  · rename_i hv
    rw [if_neg hv] at h1
    exact tR_of w1 en1 h1 px1 fun y S2 u H2 μ2 h2 f2 w2 en2 px2 r2 => q y S2 u H2 μ2 h2 (f1.trans f2) w2 r2
theorem d_not (ha : PTd X E a f) : PTd X E (.UnaryOp .Not a pos) (dNot f) := by
  refine PT.imp (pt_not ha) fun σ H Q ⟨μ, S, ρ, Qd, Ed, w, en, hf, q, px⟩ => ?_
  refine tR_of w en hf px fun x S1 v H1 μ1 h1 f1 w1 en1 px1 r1 => ?_
  cases (r1 : v = x)
  exact q _ S1 _ H1 μ1 h1 f1 w1 rfl
theorem d_one {op} (h : PEd X E a fa) : PEd X E (.BoolOp op [a] pos) fa := pe_one h
theorem d_andV (ha : PEd X E a fa) (hb : PEd X E (.BoolOp .And (b :: rest) pos) fb) : PEd X E (.BoolOp .And (a :: b :: rest) pos) (dAndV fa fb) := by
  refine PE.imp (pe_and ha hb) fun σ H Q ⟨μ, S, ρ, Qd, Ed, w, en, hf, q, px⟩ => ?_
  refine tR_of w en hf px fun x S1 v H1 μ1 h1 f1 w1 en1 px1 r1 => ?_
  obtain ⟨k, rfl, hk⟩ := onBl_of h1
  refine ⟨k, r1.bl_inv, ?_⟩
  split
  · rename_i hv
    rw [if_pos hv] at hk
    exact tR_of w1 en1 hk px1 fun y S2 u H2 μ2 h2 f2 w2 en2 px2 r2 => q y S2 u H2 μ2 h2 (f1.trans f2) w2 r2
  · rename_i hv
    rw [if_neg hv] at hk
    exact q _ S1 _ H1 μ1 hk f1 w1 (.bl false)
theorem d_ifE (ht : PTd X E c f) (ha : PEd X E a fa) (hb : PEd X E b fb) : PEd X E (.IfExp c a b pos) (dIf f fa fb) := by
  refine PE.imp (pe_ifExp ht ha hb) fun σ H Q ⟨μ, S, ρ, Qd, Ed, w, en, hf, q, px⟩ => ?_
  refine tR_of w en hf px fun x S1 v H1 μ1 h1 f1 w1 en1 px1 r1 => ?_
  cases (r1 : v = x)
  split
  · rename_i hv
    rw [if_pos hv] at h1
    exact tR_of w1 en1 h1 px1 fun y S2 u H2 μ2 h2 f2 w2 en2 px2 r2 => q y S2 u H2 μ2 h2 (f1.trans f2) w2 r2
  · rename_i hv
    rw [if_neg hv] at h1
    exact tR_of w1 en1 h1 px1 fun y S2 u H2 μ2 h2 f2 w2 en2 px2 r2 => q y S2 u H2 μ2 h2 (f1.trans f2) w2 r2
end
/-! ### two comparisons in a row -/
end Pu
namespace Pu
open PySem PySem.Spec PyProof.Rows L2
/-! ## reading data -/
def lstAt : Option Cl → Option (List D)
  | some (.lst xs) => some xs
  | _ => none
theorem lstAt_inv {o : Option Cl} {xs : List D} (h : lstAt o = some xs) : o = some (.lst xs) := by
  cases o with
  | none => cases h
  | some x =>
    cases x with
    | lst ys => cases h; rfl
    | ins _ _ => cases h
    | dct _ _ => cases h
def seqOf (S : Sto) : D → Option (List D)
  | .tup xs => some xs
  | .lst _ xs => some xs
  | .kls xs => some xs
  | .cell n => lstAt S[n]?
  | _ => none
def lstOf (S : Sto) : D → Option (List D)
  | .lst _ xs => some xs
  | .cell n => lstAt S[n]?
  | _ => none
def cellOf (S : Sto) : D → Option (Nat × List D)
  | .cell n => (lstAt S[n]?).map ((n, ·))
  | _ => none
section
variable {c : Ct} {μ μ' : Mu} {S : Sto} {H H' : Hp} {v : V} {d : D} {xs : List D}
theorem Wd.atCell (w : Wd c μ S H) {n : Nat} {x : Cl} (h : S[n]? = some x) : ∃ a, μ.m[n]? = some a ∧ ClOk c μ H a x := by
  have h1 : n < μ.m.length := by rw [w.len]; exact (List.getElem?_eq_some_iff.mp h).1
  exact ⟨μ.m[n], List.getElem?_eq_getElem h1, w.ok n _ x (List.getElem?_eq_getElem h1) h⟩
theorem cellOf_inv {n : Nat} (e : cellOf S d = some (n, xs)) : d = .cell n ∧ S[n]? = some (.lst xs) := by
  cases d with
  | cell k =>
    obtain ⟨ys, h, e2⟩ := Option.map_eq_some_iff.mp (show (lstAt S[k]?).map ((k, ·)) = some (n, xs) from e)
    cases e2
    exact ⟨rfl, lstAt_inv h⟩
  | _ => cases e
theorem Wd.cellL (w : Wd c μ S H) (r : Rp c μ H v d) {n : Nat} (e : cellOf S d = some (n, xs)) : ∃ a vs, v = .ref a ∧ μ.m[n]? = some a ∧ H a = some (.lst vs) ∧ RpAll c μ H vs xs := by
  obtain ⟨rfl, h⟩ := cellOf_inv e
  cases r with
  | cell hm =>
    obtain ⟨vs, h1, h2⟩ := w.ok n _ _ hm h
    exact ⟨_, vs, rfl, hm, h1, h2⟩
theorem Rp.lstT (w : Wd c μ S H) (r : Rp c μ H v d) (e : lstOf S d = some xs) : ∃ a vs, v = .ref a ∧ H a = some (.lst vs) ∧ RpAll c μ H vs xs := by
  cases r with
  | lst h _ _ _ ra => cases e; exact ⟨_, _, rfl, h, ra⟩
  | @cell n a hm =>
    obtain ⟨vs, h1, h2⟩ := w.ok n _ _ hm (lstAt_inv e)
    exact ⟨_, vs, rfl, h1, h2⟩
  | _ => cases e
theorem Rp.seq (w : Wd c μ S H) (r : Rp c μ H v d) (e : seqOf S d = some xs) : ∃ a vs, v = .ref a ∧ (SqL c.K H a vs ∨ SqT c.K H a vs) ∧ RpAll c μ H vs xs := by
  cases r with
  | tup h ra => cases e; exact ⟨_, _, rfl, .inr (SqT.of h), ra⟩
  | lst h _ _ _ ra => cases e; exact ⟨_, _, rfl, .inl (SqL.of h), ra⟩
  | kls h _ _ ra => cases e; exact ⟨_, _, rfl, .inl (.inl h), ra⟩
  | klsK o its n h1 h2 h3 h4 h5 h6 ra => cases e; exact ⟨_, _, rfl, .inl (.inr ⟨o, its, n, h1, h2, h3, h4, h5, h6⟩), ra⟩
  | @cell n a hm =>
    obtain ⟨vs, h1, h2⟩ := w.ok n _ _ hm (lstAt_inv e)
    exact ⟨_, vs, rfl, .inl (SqL.of h1), h2⟩
  | _ => cases e
/-! what a new object is worth -/
theorem PostV.tup {Qd : QD} {Q : VK} (q : PostV c μ H Qd Q) (w : Wd c μ S H) {vs : List V} {ds : List D} (r : RpAll c μ H vs ds) (h : Qd (.tup ds) S) {p : Addr} (hp : H p = none) : Q (.ref p) (upd H p (.tup vs)) :=
  q _ S _ _ μ h (Fw.new hp) (w.new hp) (.tup upd_same (r.fw w (Fw.new hp)))
theorem Wd.newL (w : Wd c μ S H) {vs : List V} {ds : List D} (r : RpAll c μ H vs ds) {p : Addr} (hp : H p = none) {k : Bool} (hk : k = true → p ≠ sysModules) : Rp c μ (upd H p (.lst vs)) (.ref p) (.lst k ds) :=
  .lst upd_same (w.fresh hp) (fun z => w.avs p z hp) hk (r.fw w (Fw.new hp))
theorem PostV.lst {Qd : QD} {Q : VK} (q : PostV c μ H Qd Q) (w : Wd c μ S H) {vs : List V} {ds : List D} (r : RpAll c μ H vs ds) (h : Qd (.lst false ds) S) {p : Addr} (hp : H p = none) : Q (.ref p) (upd H p (.lst vs)) :=
  q _ S _ _ μ h (Fw.new hp) (w.new hp) (w.newL r hp fun z => nomatch z)
theorem PostV.lstN {Qd : QD} {Q : VK} (q : PostV c μ H Qd Q) (w : Wd c μ S H) {vs : List V} {ds : List D} (r : RpAll c μ H vs ds) (h : Qd (.lst true ds) S) {p : Addr} (hp : H p = none) (hs : p ≠ sysModules) : Q (.ref p) (upd H p (.lst vs)) :=
  q _ S _ _ μ h (Fw.new hp) (w.new hp) (w.newL r hp fun _ => hs)
theorem PostV.same {Qd : QD} {Q : VK} (q : PostV c μ H Qd Q) (w : Wd c μ S H) (r : Rp c μ H v d) (h : Qd d S) : Q v H := q _ S _ _ μ h Fw.refl w r
/-- a cell is written, a value given back -/
theorem PostV.cell {Qd : QD} {Q : VK} (q : PostV c μ H Qd Q) (w : Wd c μ S H) {n : Nat} {a : Addr} {vs : List V} {ds : List D} (hm : μ.m[n]? = some a) (r : RpAll c μ H vs ds) (rv : Rp c μ H v d) (h : Qd d (S.set n (.lst ds))) : Q v (upd H a (.lst vs)) := by
  have f : Fw μ H μ (upd H a (.lst vs)) := Fw.write (List.mem_of_getElem? hm)
  exact q _ _ _ _ μ h f (w.set hm ⟨vs, upd_same, r.fw w f⟩) (rv.fw w f)
end
/-! ints -/
def intsOf : List D → Option (List Int)
  | [] => some []
  | .int i :: r => (intsOf r).map (i :: ·)
  | _ :: _ => none
theorem intsOf_map (ns : List Int) : intsOf (ns.map D.int) = some ns := by
  induction ns with
  | nil => rfl
  | cons n ns ih => show (intsOf (ns.map D.int)).map (n :: ·) = _; rw [ih]; rfl
theorem intsOf_inv : ∀ {ds : List D} {ns : List Int}, intsOf ds = some ns → ds = ns.map D.int
  | [], ns, h => by cases h; rfl
  | .int i :: r, ns, h => by
    obtain ⟨ms, e, rfl⟩ := Option.map_eq_some_iff.mp (show (intsOf r).map (i :: ·) = some ns from h)
    rw [intsOf_inv e]
    rfl
  | .non :: _, _, h => by cases h
  | .bl _ :: _, _, h => by cases h
  | .str _ :: _, _, h => by cases h
  | .tup _ :: _, _, h => by cases h
  | .lst _ _ :: _, _, h => by cases h
  | .dic _ :: _, _, h => by cases h
  | .kls _ :: _, _, h => by cases h
  | .cell _ :: _, _, h => by cases h
  | .glo _ :: _, _, h => by cases h
  | .ty _ :: _, _, h => by cases h
  | .ins _ _ :: _, _, h => by cases h
  | .exc _ _ :: _, _, h => by cases h
  | .fn _ _ :: _, _, h => by cases h
  | .err _ _ :: _, _, h => by cases h
section
variable {c : Ct} {μ : Mu} {H : Hp}
theorem RpAll.ints : ∀ {vs : List V} {ns : List Int}, RpAll c μ H vs (ns.map D.int) → vs = ns.map V.int
  | _, [], h => by cases h; rfl
  | _, n :: ns, h => by
    cases h with
    | cons h1 h2 =>
      cases h1
      rw [RpAll.ints h2]
      rfl
theorem RpAll.ofInts : ∀ (ns : List Int), RpAll c μ H (ns.map V.int) (ns.map D.int)
  | [] => .nil
  | n :: ns => .cons (.int n) (RpAll.ofInts ns)
end
/-! ## displays -/
def dTup (f : FA) : FE := fun ρ S Q Ed => f ρ S (fun ds S1 => ds.length ≤ sizeLine ∧ Q (.tup ds) S1) Ed
def dLst (f : FA) : FE := fun ρ S Q Ed => f ρ S (fun ds S1 => ds.length ≤ sizeLine ∧ Q (.lst true ds) S1) Ed
/-- a list that will be changed -/
def dLstC (f : FA) : FE := fun ρ S Q Ed => f ρ S (fun ds S1 => ds.length ≤ sizeLine ∧ Q (.cell S1.length) (S1 ++ [.lst ds])) Ed
section
variable {X : Cx} {E : L2.St → XK} {pos : Pos} {es : List Expr} {fa : FA}
theorem d_tup {x1} (h : PAd X E es fa) : PEd X E (.Tuple es x1 pos) (dTup fa) := by
  refine PE.imp (pe_tup h) fun σ H Q ⟨μ, S, ρ, Qd, Ed, w, en, hf, q, px⟩ => ?_
  refine tR_of w en hf px fun ds S1 vs H1 μ1 h1 f1 w1 en1 px1 r1 => ⟨by rw [r1.length]; exact h1.1, fun p hp => ?_⟩
  exact PostV.tup (fun d S' v H' μ' h f w' r => q d S' v H' μ' h (f1.trans f) w' r) w1 r1 h1.2 hp
theorem d_lst (h : PAd X E es fa) : PEd X E (.List es pos) (dLst fa) := by
  refine PE.imp (Rb.pe_lstN h) fun σ H Q ⟨μ, S, ρ, Qd, Ed, w, en, hf, q, px⟩ => ?_
  refine tR_of w en hf px fun ds S1 vs H1 μ1 h1 f1 w1 en1 px1 r1 => ⟨by rw [r1.length]; exact h1.1, fun p hp hs => ?_⟩
  exact PostV.lstN (fun d S' v H' μ' h f w' r => q d S' v H' μ' h (f1.trans f) w' r) w1 r1 h1.2 hp hs
theorem Wd.lay {c : Ct} {μ : Mu} {S : Sto} {H : Hp} (w : Wd c μ S H) {vs : List V} {ds : List D} (r : RpAll c μ H vs ds) {p : Addr} (hp : H p = none) :
    Fw μ H ⟨μ.m ++ [p], μ.av⟩ (upd H p (.lst vs)) ∧ Wd c ⟨μ.m ++ [p], μ.av⟩ (S ++ [.lst ds]) (upd H p (.lst vs)) ∧ Rp c ⟨μ.m ++ [p], μ.av⟩ (upd H p (.lst vs)) (.ref p) (.cell S.length) := by
  have f : Fw μ H ⟨μ.m ++ [p], μ.av⟩ (upd H p (.lst vs)) := Fw.newC hp
  refine ⟨f, w.newC hp ⟨vs, upd_same, r.fw w f⟩, .cell ?_⟩
  show (μ.m ++ [p])[S.length]? = some p
  rw [← w.len, List.getElem?_append_right (Nat.le_refl _), Nat.sub_self]
  rfl
theorem d_lstC (h : PAd X E es fa) : PEd X E (.List es pos) (dLstC fa) := by
  refine PE.imp (pe_lst h) fun σ H Q ⟨μ, S, ρ, Qd, Ed, w, en, hf, q, px⟩ => ?_
  refine tR_of w en hf px fun ds S1 vs H1 μ1 h1 f1 w1 en1 px1 r1 => ⟨by rw [r1.length]; exact h1.1, fun p hp => ?_⟩
  obtain ⟨f2, w2, r2⟩ := w1.lay r1 hp
  exact q _ _ _ _ _ h1.2 (f1.trans f2) w2 r2
end
/-! ## built-ins that make a new list: as a value, as a cell -/
section
variable {X : Cx} {E : L2.St → XK} {e : Expr} {es : List Expr} {fa : FA} {id : String} {x : Str} {pos p2 : Pos}
theorem d_callB {g : List D → Sto → QD → Prop} (hc : CallR X (.builtin id) (rDs (ct X) g)) (hg : Gl X x) (hm : X.mg x = none) (hv : bootBuiltins x = some (.builtin id)) (ha : PAd X E (e :: es) fa) (hn : x ≠ "__name__" := by decide) (hdb : (x == ("__debug__" : Str)) = false := by decide)
    (hs : starEach (e :: es) X.env = (false, eval e X.env) :: starEach es X.env := by rfl) (hf2 : (backTo pos (starEach es X.env)).any (·.1) = false := by rfl) : PEd X E (.Call (.Name x p2) (e :: es) [] pos) (dB g fa) := by
  refine PE.imp (pe_callB hc hg hm hv ha hn hdb hs hf2) fun σ H Q ⟨μ, S, ρ, Qd, Ed, w, en, hf, q, px⟩ => ?_
  refine tR_of w en hf px fun ds S1 vs H1 μ1 h1 f1 w1 en1 px1 r1 => ?_
  exact ⟨μ1, S1, ds, Qd, w1, r1, h1, fun d S' v H' μ' h f w' r => q d S' v H' μ' h (f1.trans f) w' r⟩
theorem d_callT {T : String} {g : List D → Sto → QD → Prop} (hc : CallR X (.type T) (rDs (ct X) g)) (hg : Gl X x) (hm : X.mg x = none) (hv : bootBuiltins x = some (.type T)) (ha : PAd X E (e :: es) fa) (hn : x ≠ "__name__" := by decide) (hdb : (x == ("__debug__" : Str)) = false := by decide)
    (hs : starEach (e :: es) X.env = (false, eval e X.env) :: starEach es X.env := by rfl) (hf2 : (backTo pos (starEach es X.env)).any (·.1) = false := by rfl) : PEd X E (.Call (.Name x p2) (e :: es) [] pos) (dB g fa) := by
  refine PE.imp (pe_callTy hc hg hm hv ha hn hdb hs hf2) fun σ H Q ⟨μ, S, ρ, Qd, Ed, w, en, hf, q, px⟩ => ?_
  refine tR_of w en hf px fun ds S1 vs H1 μ1 h1 f1 w1 en1 px1 r1 => ?_
  exact ⟨μ1, S1, ds, Qd, w1, r1, h1, fun d S' v H' μ' h f w' r => q d S' v H' μ' h (f1.trans f) w' r⟩
end
end Pu
namespace Pu
open PySem PySem.Spec PyProof.Rows L2
/-! ## arithmetic -/
def gInt (f : Int → Int → D) (C : Int → Int → Prop) : G2 := fun x y S Q => match x, y with
  | .int i, .int j => C i j ∧ Q (f i j) S
  | _, _ => False
def gInt0 (f : Int → Int → D) : G2 := fun x y S Q => match x, y with
  | .int i, .int j => Q (f i j) S
  | _, _ => False
theorem gInt_inv {f : Int → Int → D} {C : Int → Int → Prop} {x y : D} {S : Sto} {Q : QD} (h : gInt f C x y S Q) : ∃ i j, x = .int i ∧ y = .int j ∧ C i j ∧ Q (f i j) S := by
  unfold gInt at h
  split at h
  · exact ⟨_, _, rfl, rfl, h⟩
  · exact h.elim
theorem gInt0_inv {f : Int → Int → D} {x y : D} {S : Sto} {Q : QD} (h : gInt0 f x y S Q) : ∃ i j, x = .int i ∧ y = .int j ∧ Q (f i j) S := by
  unfold gInt0 at h
  split at h
  · exact ⟨_, _, rfl, rfl, h⟩
  · exact h.elim
section
variable {c : Ct} {μ : Mu} {H : Hp} {v : V}
theorem Rp.int_inv {i : Int} (h : Rp c μ H v (.int i)) : v = .int i := by cases h; rfl
theorem Rp.str_inv {x : Str} (h : Rp c μ H v (.str x)) : v = .str x := by cases h; rfl
theorem Rp.tup_inv {ds : List D} (h : Rp c μ H v (.tup ds)) : ∃ a vs, v = .ref a ∧ H a = some (.tup vs) ∧ RpAll c μ H vs ds := by
  cases h with
  | tup h r => exact ⟨_, _, rfl, h, r⟩
end
section
variable {X : Cx}
theorem opInt {f : Value → Value → Sem Value} {C : Int → Int → Prop} {g : Int → Int → Int} (h : OpR X f (rI C fun i j => .int (g i j))) : OpR X f (rD2 (ct X) (gInt (fun i j => .int (g i j)) C)) := by
  intro pins s σ H x y v u Q I rx ry ⟨μ, S, dx, dy, Qd, w, r1, r2, hg, q⟩
  obtain ⟨i, j, rfl, rfl, hC, hq⟩ := gInt_inv hg
  exact h pins s σ H x y v u Q I rx ry ⟨i, j, r1.int_inv, r2.int_inv, hC, q.same w (.int _) hq⟩
theorem opInt0 {f : Value → Value → Sem Value} {g : Int → Int → Int} (h : OpR X f (rI0 fun i j => .int (g i j))) : OpR X f (rD2 (ct X) (gInt0 (fun i j => .int (g i j)))) := by
  intro pins s σ H x y v u Q I rx ry ⟨μ, S, dx, dy, Qd, w, r1, r2, hg, q⟩
  obtain ⟨i, j, rfl, rfl, hq⟩ := gInt0_inv hg
  exact h pins s σ H x y v u Q I rx ry ⟨i, j, r1.int_inv, r2.int_inv, q.same w (.int _) hq⟩
theorem opBl0 {f : Value → Value → Sem Value} {g : Int → Int → Bool} (h : OpR X f (rI0 fun i j => .bl (g i j))) : OpR X f (rD2 (ct X) (gInt0 (fun i j => .bl (g i j)))) := by
  intro pins s σ H x y v u Q I rx ry ⟨μ, S, dx, dy, Qd, w, r1, r2, hg, q⟩
  obtain ⟨i, j, rfl, rfl, hq⟩ := gInt0_inv hg
  exact h pins s σ H x y v u Q I rx ry ⟨i, j, r1.int_inv, r2.int_inv, q.same w (.bl _) hq⟩
end
abbrev gSub : G2 := gInt0 fun i j => .int (i - j)
abbrev gFdiv : G2 := gInt (fun i j => .int (i / j)) CDivW
abbrev gMod : G2 := gInt (fun i j => .int (i % j)) fun _ j => 0 < j
abbrev gPow : G2 := gInt (fun i j => .int (i ^ j.toNat)) CPow
abbrev gLt : G2 := gInt0 fun i j => .bl (decide (i < j))
abbrev gLe : G2 := gInt0 fun i j => .bl (decide (i ≤ j))
abbrev gGt : G2 := gInt0 fun i j => .bl (decide (j < i))
abbrev gGe : G2 := gInt0 fun i j => .bl (decide (j ≤ i))
section
variable {X : Cx}
theorem o_sub : OpR X (binaryOp .Sub) (rD2 (ct X) gSub) := opInt0 op_sub
theorem o_fdiv : OpR X (binaryOp .FloorDiv) (rD2 (ct X) gFdiv) := opInt op_fdivW
theorem o_mod : OpR X (binaryOp .Mod) (rD2 (ct X) gMod) := opInt op_mod
theorem o_pow : OpR X (binaryOp .Pow) (rD2 (ct X) gPow) := opInt op_pow
theorem o_lt : OpR X (compareOp .Lt) (rD2 (ct X) gLt) := opBl0 op_lt
theorem o_le : OpR X (compareOp .LtE) (rD2 (ct X) gLe) := opBl0 op_le
theorem o_gt : OpR X (compareOp .Gt) (rD2 (ct X) gGt) := opBl0 op_gt
theorem o_ge : OpR X (compareOp .GtE) (rD2 (ct X) gGe) := opBl0 op_ge
end
def gNeg : D → Sto → QD → Prop := fun x S Q => match x with
  | .int i => Q (.int (-i)) S
  | _ => False
def gAdd : G2 := fun x y S Q => match x, y with
  | .int i, .int j => Q (.int (i + j)) S
  | .tup xs, .tup ys => xs.length + ys.length ≤ sizeLine ∧ Q (.tup (xs ++ ys)) S
  | .str a, .str b => a.length + b.length ≤ sizeLine ∧ Q (.str (a ++ b)) S
  | x, y => onSome (lstOf S x) fun xs => onSome (lstOf S y) fun ys => xs.length + ys.length ≤ sizeLine ∧ Q (.lst false (xs ++ ys)) S
def gMul : G2 := fun x y S Q => match x, y with
  | .int i, .int j => (CMul i j ∨ CMulW i j) ∧ Q (.int (i * j)) S
  | .tup xs, .int k => (xs ≠ [] ∧ 1 ≤ k ∧ k ≤ 1000 ∧ xs.length ≤ 1000) ∧ Q (.tup (List.replicate k.toNat xs).flatten) S
  | x, .int k => onSome (lstOf S x) fun xs => (-(2 ^ 63) ≤ k ∧ k < 2 ^ 63 ∧ xs.length * k.toNat ≤ sizeLine) ∧ Q (.lst false (List.replicate k.toNat xs).flatten) S
  | _, _ => False
section
variable {X : Cx}
theorem u_neg : UnR X (unaryOp .USub) (rD1 (ct X) gNeg) := by
  intro pins s σ H x v Q I rx ⟨μ, S, dx, Qd, w, r1, hg, q⟩
  unfold gNeg at hg
  split at hg
  · exact un_neg pins s σ H x v Q I rx ⟨_, r1.int_inv, q.same w (.int _) hg⟩
  · exact hg.elim
theorem o_add : OpR X (binaryOp .Add) (rD2 (ct X) gAdd) := by
  intro pins s σ H x y v u Q I rx ry ⟨μ, S, dx, dy, Qd, w, r1, r2, hg, q⟩
  unfold gAdd at hg
  split at hg
  · exact op_add pins s σ H x y v u Q I rx ry ⟨_, _, r1.int_inv, r2.int_inv, q.same w (.int _) hg⟩
  · rename_i xs ys
    obtain ⟨a, vs, rfl, ha, ra⟩ := r1.tup_inv
    obtain ⟨b, ws, rfl, hb, rb⟩ := r2.tup_inv
    refine op_catA pins s σ H _ _ v u Q I rx ry ⟨a, b, vs, ws, rfl, rfl, SqT.of ha, SqT.of hb, by rw [ra.length, rb.length]; exact hg.1, fun e => ?_, fun _ e => ?_, fun _ _ p hp => ?_⟩
    · subst e
      cases ra
      exact q.same w (.tup hb rb) hg.2
    · subst e
      cases rb
      have h2 := hg.2
      rw [List.append_nil] at h2
      exact q.same w (.tup ha ra) h2
    · exact q.tup w (ra.append rb) hg.2 hp
  · exact op_add_str pins s σ H x y v u Q I rx ry ⟨_, _, r1.str_inv, r2.str_inv, hg.1, q.same w (.str _) hg.2⟩
  · obtain ⟨xs, e1, hg⟩ := onSome_of hg
    obtain ⟨ys, e2, hg⟩ := onSome_of hg
    obtain ⟨a, vs, rfl, ha, ra⟩ := r1.lstT w e1
    obtain ⟨b, ws, rfl, hb, rb⟩ := r2.lstT w e2
    exact op_cat pins s σ H _ _ v u Q I rx ry ⟨a, b, vs, ws, rfl, rfl, ha, hb, by rw [ra.length, rb.length]; exact hg.1, fun p hp => q.lst w (ra.append rb) hg.2 hp⟩
open Rb in
theorem op_rep1 : OpR X (binaryOp .Mult) (fun x y H Q => ∃ (l : Addr) (xs : List V), x = .ref l ∧ y = .int 1 ∧ SqT X.K H l xs ∧ Q (.ref l) H) := by
  intro pins s σ H x y v u Q I rx ry h
  obtain ⟨l, xs, rfl, rfl, hT, q⟩ := h
  cases rx
  obtain ⟨t, rfl⟩ := ry
  obtain ⟨its, r, ⟨⟨cls, dd, data, sl⟩, ho, hc, n, hd⟩, hs⟩ := I.tuple hT
  simp only at hc hd
  subst hc hd
  refine wpAny_binaryOp_repeat_ref (T := "tuple") (U := "int") (by decide) ⟨_, ho, rfl⟩ (fun s' => typeIs_int s' 1 t) noFill_tuple_mul F.fills_int_mul F.slot_int_rmul repeat_tuple F.slot_int_index.lookup
    (call_meets F.slot_int_rmul (typeIs_int s 1 t) F.entry_int_rmul (F.args_int_rmul_2 _ _) (int_rmul_tuple 1 t l its.toArray n dd sl)
      ⟨ho, rfl, ⟨_, ho, rfl⟩, call_meets F.slot_tuple_mul ⟨_, ho, rfl⟩ F.entry_tuple_mul (F.args_tuple_mul_2 _ _) (tupMul1 l its.toArray n dd sl t) ⟨ho, ?_⟩⟩)
  exact ⟨.ref l, H, I, rfl, q⟩
theorem o_mul : OpR X (binaryOp .Mult) (rD2 (ct X) gMul) := by
  intro pins s σ H x y v u Q I rx ry ⟨μ, S, dx, dy, Qd, w, r1, r2, hg, q⟩
  unfold gMul at hg
  split at hg
  · rcases hg.1 with hc | hc
    · exact op_mul pins s σ H x y v u Q I rx ry ⟨_, _, r1.int_inv, r2.int_inv, hc, q.same w (.int _) hg.2⟩
    · exact op_mulW pins s σ H x y v u Q I rx ry ⟨_, _, r1.int_inv, r2.int_inv, hc, q.same w (.int _) hg.2⟩
  · rename_i xs k
    obtain ⟨a, vs, rfl, ha, ra⟩ := r1.tup_inv
    obtain ⟨⟨ne, h1, h2, h3⟩, hq⟩ := hg
    have nv : vs ≠ [] := fun e => by
      subst e
      cases ra
      exact ne rfl
    by_cases hk : k = 1
    · subst hk
      refine op_rep1 pins s σ H _ _ v u Q I rx ry ⟨a, vs, rfl, r2.int_inv, SqT.of ha, ?_⟩
      have e : (List.replicate (1 : Int).toNat xs).flatten = xs := by show (List.replicate 1 xs).flatten = xs; simp
      rw [e] at hq
      exact q.same w (.tup ha ra) hq
    · refine op_repT pins s σ H _ _ v u Q I rx ry ⟨a, k, vs, rfl, r2.int_inv, SqT.of ha, nv, by omega, h2, by rw [ra.length]; exact h3, fun p hp => q.tup w (ra.rep _) hq hp⟩
  · rename_i k _ _
    obtain ⟨xs, e1, hg⟩ := onSome_of hg
    obtain ⟨a, vs, rfl, ha, ra⟩ := r1.lstT w e1
    exact op_rep pins s σ H _ _ v u Q I rx ry ⟨a, k, vs, rfl, r2.int_inv, ha, hg.1.1, hg.1.2.1, by rw [ra.length]; exact hg.1.2.2, fun p hp => q.lst w (ra.rep _) hg.2 hp⟩
  · exact hg.elim
end
end Pu
namespace Pu
open PySem PySem.Spec PyProof.Rows L2
/-! ## plain data -/
mutual
def toPy : D → Option PyData
  | .non => some .none
  | .bl b => some (.bool b)
  | .int i => some (.int i)
  | .str x => some (.str x)
  | .tup xs => (toPyAll xs).map .tuple
  | .lst _ xs => (toPyAll xs).map .list
  | .kls _ => none
  | .dic ps => some (Rb.dicD ps)
  | .cell _ => none
  | .glo _ => none
  | .ty _ => none
  | .ins _ _ => none
  | .exc _ _ => none
  | .fn _ _ => none
  | .err _ _ => none
def toPyAll : List D → Option (List PyData)
  | [] => some []
  | x :: xs => (toPy x).bind fun p => (toPyAll xs).map (p :: ·)
end
mutual
/-- all lists in it are known to stand apart from the table of modules -/
def known : D → Bool
  | .tup xs => knownAll xs
  | .lst k xs => k && knownAll xs
  | .kls _ => false
  | _ => true
def knownAll : List D → Bool
  | [] => true
  | x :: xs => known x && knownAll xs
end
def pyC (S : Sto) : D → Option PyData
  | .cell n => (lstAt S[n]?).bind fun xs => (toPyAll xs).map .list
  | d => toPy d
section
variable {X : Cx} {pins : List (Addr × Obj)} {σ : L2.St} {H : Hp} {s : Shared} {μ : Mu}
mutual
theorem Rp.reads (I : Inv X pins σ H s) : ∀ (d : D) (v : V) (u : Value) (p : PyData), Rp (ct X) μ H v d → RelV v u → toPy d = some p → ∃ as, Reads s.heap u p as ∧ (known d = true → sysModules ∉ as)
  | .non, _, _, _, h, r, e => by
    cases h; cases r; cases e
    exact ⟨_, Reads.none, fun _ z => nomatch z⟩
  | .bl b, _, _, _, h, r, e => by
    cases h; cases r; cases e
    exact ⟨_, Reads.bool b, fun _ z => nomatch z⟩
  | .int i, _, _, _, h, r, e => by
    cases h; cases e
    obtain ⟨t, rfl⟩ := r
    exact ⟨_, Reads.int i t, fun _ z => nomatch z⟩
  | .str x, _, _, _, h, r, e => by
    cases h; cases e
    obtain ⟨t, rfl⟩ := r
    exact ⟨_, Reads.str x t, fun _ z => nomatch z⟩
  | .tup ds, _, _, _, h, r, e => by
    cases h with
    | tup hs ha =>
      cases r
      obtain ⟨ps, e1, rfl⟩ := Option.map_eq_some_iff.mp (show (toPyAll ds).map PyData.tuple = some _ from e)
      obtain ⟨its, rv, ⟨o, ho, hc, n, hd⟩, _⟩ := I.tuple (SqT.of hs)
      obtain ⟨as, hr, no⟩ := RpAll.reads I ds _ its ps ha rv e1
      exact ⟨_, Reads.tuple ho hc hd hr, fun hk => no hk⟩
  | .lst k ds, _, _, _, h, r, e => by
    cases h with
    | lst hs _ _ ne ha =>
      cases r
      obtain ⟨ps, e1, rfl⟩ := Option.map_eq_some_iff.mp (show (toPyAll ds).map PyData.list = some _ from e)
      obtain ⟨its, rv, ⟨o, n, ho, hc, _, hd⟩, _⟩ := I.list (SqL.of hs)
      obtain ⟨as, hr, no⟩ := RpAll.reads I ds _ its ps ha rv e1
      refine ⟨_, Reads.list ho hc hd hr, fun hk z => ?_⟩
      obtain ⟨h1, h2⟩ := Bool.and_eq_true_iff.mp (show (k && knownAll ds) = true from hk)
      rcases List.mem_cons.mp z with z | z
      · exact ne h1 z.symm
      · exact no h2 z
  | .kls _, _, _, _, _, _, e => by cases e
  | .dic qs, _, _, _, h, r, e => by
    cases h with
    | dic hd _ _ =>
      cases e
      obtain ⟨as, h1, h2⟩ := Rb.Ap.reads (S := [sysModules]) List.mem_cons_self I (Rb.dicD qs) _ _ (.dic hd) r
      exact ⟨as, h1, fun _ => h2⟩
  | .cell _, _, _, _, _, _, e => by cases e
  | .glo _, _, _, _, _, _, e => by cases e
  | .ty _, _, _, _, _, _, e => by cases e
  | .ins _ _, _, _, _, _, _, e => by cases e
  | .exc _ _, _, _, _, _, _, e => by cases e
  | .fn _ _, _, _, _, _, _, e => by cases e
  | .err _ _, _, _, _, _, _, e => by cases e
theorem RpAll.reads (I : Inv X pins σ H s) : ∀ (ds : List D) (vs : List V) (us : List Value) (ps : List PyData), RpAll (ct X) μ H vs ds → Vals vs us → toPyAll ds = some ps → ∃ as, ReadsAll s.heap us ps as ∧ (knownAll ds = true → sysModules ∉ as)
  | [], _, _, _, h, r, e => by
    cases h; cases r; cases e
    exact ⟨_, ReadsAll.nil, fun _ z => nomatch z⟩
  | d :: ds, _, _, _, h, r, e => by
    cases h with
    | cons h1 h2 =>
      cases r with
      | cons r1 r2 =>
        obtain ⟨p, e1, e2⟩ := Option.bind_eq_some_iff.mp (show (toPy d).bind (fun p => (toPyAll ds).map (p :: ·)) = some _ from e)
        obtain ⟨ps, e3, rfl⟩ := Option.map_eq_some_iff.mp e2
        obtain ⟨as, q1, n1⟩ := Rp.reads I d _ _ p h1 r1 e1
        obtain ⟨bs, q2, n2⟩ := RpAll.reads I ds _ _ ps h2 r2 e3
        refine ⟨_, ReadsAll.cons q1 q2, fun hk z => ?_⟩
        obtain ⟨k1, k2⟩ := Bool.and_eq_true_iff.mp (show (known d && knownAll ds) = true from hk)
        rcases List.mem_append.mp z with z | z
        · exact n1 k1 z
        · exact n2 k2 z
end
theorem Wd.reads {S : Sto} (w : Wd (ct X) μ S H) (I : Inv X pins σ H s) {d : D} {v : V} {u : Value} {p : PyData} (h : Rp (ct X) μ H v d) (r : RelV v u) (e : pyC S d = some p) : ∃ as, Reads s.heap u p as := by
  by_cases hc : ∃ n, d = .cell n
  · obtain ⟨n, rfl⟩ := hc
    obtain ⟨xs, e1, e2⟩ := Option.bind_eq_some_iff.mp (show (lstAt S[n]?).bind (fun xs => (toPyAll xs).map .list) = some p from e)
    obtain ⟨ps, e3, rfl⟩ := Option.map_eq_some_iff.mp e2
    obtain ⟨a, vs, rfl, ha, ra⟩ := h.lstT w (show lstOf S (.cell n) = some xs from e1)
    cases r
    obtain ⟨its, rv, ⟨o, k, ho, hc, _, hd⟩, _⟩ := I.list (SqL.of ha)
    obtain ⟨as, hr, no⟩ := RpAll.reads I xs _ its ps ra rv e3
    exact ⟨_, Reads.list ho hc hd hr⟩
  · have e' : toPy d = some p := by
      cases d with
      | cell n => exact absurd ⟨n, rfl⟩ hc
      | _ => exact e
    obtain ⟨as, h1, _⟩ := Rp.reads I d v u p h r e'
    exact ⟨as, h1⟩
end
/-! ## repr -/
def gRepr : List D → Sto → QD → Prop := fun ds S Q => match ds with
  | [d] => onSome (toPy d) fun p => (Rb.Nice 20 100000 p ∧ (p.hasDict = false ∨ known d = true)) ∧ Q (.str p.shown) S
  | _ => False
theorem Rp.glo_py {c : Ct} {μ : Mu} {H : Hp} {v : V} {d : D} {p : PyData} (h : Rp c μ H v d) (e : toPy d = some p) : (∃ a, v = .ref a) ∨ (v = .non ∧ p = .none) ∨ (∃ b, v = .bl b ∧ p = .bool b) ∨ (∃ i, v = .int i ∧ p = .int i) ∨ ∃ x, v = .str x ∧ p = .str x := by
  cases h with
  | non => cases e; exact .inr (.inl ⟨rfl, rfl⟩)
  | bl b => cases e; exact .inr (.inr (.inl ⟨b, rfl, rfl⟩))
  | int i => cases e; exact .inr (.inr (.inr (.inl ⟨i, rfl, rfl⟩)))
  | str x => cases e; exact .inr (.inr (.inr (.inr ⟨x, rfl, rfl⟩)))
  | glo _ _ => cases e
  | ty _ => cases e
  | _ => exact .inl ⟨_, rfl⟩
theorem c_repr {X : Cx} (hg : X.A.guards = some []) (hu : X.A.units + 64 < cLine) : CallR X (.builtin "repr") (rDs (ct X) gRepr) := by
  intro pins s σ H vs us Q I r ⟨μ, S, ds, Qd, w, ra, hr, q⟩
  unfold gRepr at hr
  split at hr
  · rename_i d
    obtain ⟨p, e, ⟨hn, hk⟩, hq⟩ := onSome_of hr
    cases ra with
    | cons rd r0 =>
      cases r0
      obtain ⟨u, rfl, ru⟩ := vals1 r
      have fin := q.same w (.str p.shown) hq
      obtain ⟨as, rr, no⟩ := Rp.reads I d _ u p rd ru e
      have hsz := hn.fits
      have hdep := hn.dep
      have hs := hn.sh
      rcases rd.glo_py e with ⟨a, rfl⟩ | ⟨rfl, rfl⟩ | ⟨b, rfl, rfl⟩ | ⟨i, rfl, rfl⟩ | ⟨x, rfl, rfl⟩
      · cases ru
        refine repr_of_reads' rr hs (fun z => ?_) hg (by omega) (fun _ _ e => e) (fun h' t tk hk => ?_) hsz
        · rcases hk with hk | hk
          · rw [hk] at z; cases z
          · exact no hk
        · exact ⟨.str _, H, I.kept hk, ⟨_, rfl⟩, fin⟩
      · cases ru
        simp only [PyData.shown] at fin
        exact PySem.P.repr_of_none ⟨.str _, H, I.tok _, ⟨_, rfl⟩, fin⟩
      · cases ru
        simp only [PyData.shown] at fin
        exact PySem.P.repr_of_bool ⟨.str _, H, I.tok _, ⟨_, rfl⟩, fin⟩
      · obtain ⟨t, rfl⟩ := ru
        simp only [PyData.showable, decide_eq_true_eq] at hs
        simp only [PyData.shown] at fin
        exact PySem.P.repr_of_int hs ⟨.str _, H, I.tok _, ⟨_, rfl⟩, fin⟩
      · obtain ⟨t, rfl⟩ := ru
        simp only [PyData.shown] at fin hsz
        exact PySem.P.repr_of_str ⟨.str _, H, I.tok _, ⟨_, rfl⟩, fin⟩ hsz
  · exact hr.elim
/-! ## == and != -/
def nb : Bool → Bool → Bool
  | true, b => !b
  | false, b => b
def gEqB (neg : Bool) : G2 := fun x y S Q => match x, y with
  | .int i, .int j => Q (.bl (nb neg (decide (i = j)))) S
  | .str a, .str b => Q (.bl (nb neg (decide (a = b)))) S
  | x, y => onSome (pyC S x) fun p => onSome (pyC S y) fun q => (SeqAt.shaped p = true ∧ SeqAt.shaped q = true) ∧ Q (.bl (nb neg (PyData.eqv p q))) S
abbrev gEq : G2 := gEqB false
abbrev gNe : G2 := gEqB true
section
variable {X : Cx}
theorem dec_i {i j : Int} : decide (V.int i = V.int j) = decide (i = j) := by
  by_cases h : i = j
  · subst h; simp
  · rw [decide_eq_false h, decide_eq_false (fun z => h (V.int.inj z))]
theorem dec_s {i j : Str} : decide (V.str i = V.str j) = decide (i = j) := by
  by_cases h : i = j
  · subst h; simp
  · rw [decide_eq_false h, decide_eq_false (fun z => h (V.str.inj z))]
theorem o_eq (hu : X.A.units + 64 < cLine) : OpR X (compareOp .Eq) (rD2 (ct X) gEq) := by
  intro pins s σ H x y v u Q I rx ry ⟨μ, S, dx, dy, Qd, w, r1, r2, hg, q⟩
  unfold gEq gEqB at hg
  split at hg
  · cases r1.int_inv
    cases r2.int_inv
    refine op_eq pins s σ H _ _ v u Q I rx ry ⟨rfl, ?_⟩
    rw [dec_i]
    exact q.same w (.bl _) hg
  · cases r1.str_inv
    cases r2.str_inv
    refine op_eq pins s σ H _ _ v u Q I rx ry ⟨rfl, ?_⟩
    rw [dec_s]
    exact q.same w (.bl _) hg
  · obtain ⟨p, e1, hg⟩ := onSome_of hg
    obtain ⟨p', e2, ⟨s1, s2⟩, hg⟩ := onSome_of hg
    obtain ⟨as, h1⟩ := w.reads I r1 rx e1
    obtain ⟨bs, h2⟩ := w.reads I r2 ry e2
    exact SeqAt.compareEq_shaped h1 h2 s1 s2 hu ⟨.bl _, H, I, rfl, q.same w (.bl _) hg⟩
theorem o_ne (hu : X.A.units + 64 < cLine) : OpR X (compareOp .NotEq) (rD2 (ct X) gNe) := by
  intro pins s σ H x y v u Q I rx ry ⟨μ, S, dx, dy, Qd, w, r1, r2, hg, q⟩
  unfold gNe gEqB at hg
  split at hg
  · cases r1.int_inv
    cases r2.int_inv
    refine op_ne pins s σ H _ _ v u Q I rx ry ⟨rfl, ?_⟩
    rw [dec_i]
    exact q.same w (.bl _) hg
  · cases r1.str_inv
    cases r2.str_inv
    refine op_ne pins s σ H _ _ v u Q I rx ry ⟨rfl, ?_⟩
    rw [dec_s]
    exact q.same w (.bl _) hg
  · obtain ⟨p, e1, hg⟩ := onSome_of hg
    obtain ⟨p', e2, ⟨s1, s2⟩, hg⟩ := onSome_of hg
    obtain ⟨as, h1⟩ := w.reads I r1 rx e1
    obtain ⟨bs, h2⟩ := w.reads I r2 ry e2
    exact SeqAt.compareNe_shaped h1 h2 s1 s2 hu ⟨.bl _, H, I, rfl, q.same w (.bl _) hg⟩
end
/-! ## is None -/
/-! ## isinstance of a built-in type -/
inductive Ty6 where
  | int | bool | tup | lst | str | dic
def Ty6.name : Ty6 → String
  | .int => "int"
  | .bool => "bool"
  | .tup => "tuple"
  | .lst => "list"
  | .str => "str"
  | .dic => "dict"
end Pu
namespace Pu
open PySem PySem.Spec PyProof.Rows L2
section
variable {c : Ct} {μ : Mu} {S : Sto} {H : Hp}
theorem RpAll.one {vs : List V} {d : D} (h : RpAll c μ H vs [d]) : ∃ v, vs = [v] ∧ Rp c μ H v d := by
  cases h with
  | cons h1 h2 => cases h2; exact ⟨_, rfl, h1⟩
theorem RpAll.two {vs : List V} {d e : D} (h : RpAll c μ H vs [d, e]) : ∃ v u, vs = [v, u] ∧ Rp c μ H v d ∧ Rp c μ H u e := by
  cases h with
  | cons h1 h2 =>
    obtain ⟨u, rfl, h3⟩ := h2.one
    exact ⟨_, _, rfl, h1, h3⟩
theorem Rp.seq2 {v : V} {d : D} {xs : List D} (w : Wd c μ S H) (r : Rp c μ H v d) (e : seqOf S d = some xs) : (∃ a vs, d = .tup xs ∧ v = .ref a ∧ H a = some (.tup vs) ∧ RpAll c μ H vs xs) ∨ ∃ a vs, v = .ref a ∧ SqL c.K H a vs ∧ RpAll c μ H vs xs := by
  cases r with
  | tup h ra => cases e; exact .inl ⟨_, _, rfl, rfl, h, ra⟩
  | lst h _ _ _ ra => cases e; exact .inr ⟨_, _, rfl, SqL.of h, ra⟩
  | kls h _ _ ra => cases e; exact .inr ⟨_, _, rfl, .inl h, ra⟩
  | klsK o its n h1 h2 h3 h4 h5 h6 ra => cases e; exact .inr ⟨_, _, rfl, .inr ⟨o, its, n, h1, h2, h3, h4, h5, h6⟩, ra⟩
  | @cell n a hm =>
    obtain ⟨vs, h1, h2⟩ := w.ok n _ _ hm (lstAt_inv e)
    exact .inr ⟨_, vs, rfl, SqL.of h1, h2⟩
  | _ => cases e
end
/-! ## len, abs, int, sum, min, max, tuple, list, str, sorted -/
def gLen : List D → Sto → QD → Prop := fun ds S Q => match ds with
  | [.str x] => x.length ≤ sizeLine ∧ Q (.int x.length) S
  | [.dic ps] => Q (.int ps.length) S
  | [d] => onSome (seqOf S d) fun xs => Q (.int xs.length) S
  | _ => False
def gAbs : List D → Sto → QD → Prop := fun ds S Q => match ds with
  | [.int i] => Q (.int (if i < 0 then -i else i)) S
  | _ => False
def gToInt : List D → Sto → QD → Prop := fun ds S Q => match ds with
  | [.int i] => Q (.int i) S
  | [.bl b] => Q (.int (if b then 1 else 0)) S
  | _ => False
def gSum : List D → Sto → QD → Prop := fun ds S Q => match ds with
  | [d] => onSome (seqOf S d) fun xs => onSome (intsOf xs) fun ns => Q (.int ns.sum) S
  | _ => False
/-- the first greatest, the first least -/
def maxL : List Int → Int
  | [] => 0
  | [x] => x
  | x :: xs => max x (maxL xs)
def minL : List Int → Int
  | [] => 0
  | [x] => x
  | x :: xs => min x (minL xs)
theorem maxL_spec : ∀ {ns : List Int}, ns ≠ [] → maxL ns ∈ ns ∧ ∀ y ∈ ns, y ≤ maxL ns
  | [], h => absurd rfl h
  | [x], _ => ⟨List.mem_cons_self, fun y hy => by rw [List.mem_singleton.mp hy]; exact Int.le_refl _⟩
  | x :: y :: r, _ => by
    obtain ⟨h1, h2⟩ := maxL_spec (ns := y :: r) (fun z => nomatch z)
    have e : maxL (x :: y :: r) = max x (maxL (y :: r)) := rfl
    rw [e]
    refine ⟨?_, fun z hz => ?_⟩
    · rcases Int.le_total x (maxL (y :: r)) with h | h
      · rw [Int.max_eq_right h]; exact List.mem_cons_of_mem _ h1
      · rw [Int.max_eq_left h]; exact List.mem_cons_self
    · rcases List.mem_cons.mp hz with rfl | hz
      · exact Int.le_max_left _ _
      · exact Int.le_trans (h2 z hz) (Int.le_max_right _ _)
theorem minL_spec : ∀ {ns : List Int}, ns ≠ [] → minL ns ∈ ns ∧ ∀ y ∈ ns, minL ns ≤ y
  | [], h => absurd rfl h
  | [x], _ => ⟨List.mem_cons_self, fun y hy => by rw [List.mem_singleton.mp hy]; exact Int.le_refl _⟩
  | x :: y :: r, _ => by
    obtain ⟨h1, h2⟩ := minL_spec (ns := y :: r) (fun z => nomatch z)
    have e : minL (x :: y :: r) = min x (minL (y :: r)) := rfl
    rw [e]
    refine ⟨?_, fun z hz => ?_⟩
    · rcases Int.le_total x (minL (y :: r)) with h | h
      · rw [Int.min_eq_left h]; exact List.mem_cons_self
      · rw [Int.min_eq_right h]; exact List.mem_cons_of_mem _ h1
    · rcases List.mem_cons.mp hz with rfl | hz
      · exact Int.min_le_left _ _
      · exact Int.le_trans (Int.min_le_right _ _) (h2 z hz)
theorem maxL_uniq {ns : List Int} {m : Int} (h : m ∈ ns) (h2 : ∀ y ∈ ns, y ≤ m) : m = maxL ns := by
  obtain ⟨a, b⟩ := maxL_spec (ns := ns) (fun e => by rw [e] at h; cases h)
  have := h2 _ a
  have := b _ h
  omega
theorem minL_uniq {ns : List Int} {m : Int} (h : m ∈ ns) (h2 : ∀ y ∈ ns, m ≤ y) : m = minL ns := by
  obtain ⟨a, b⟩ := minL_spec (ns := ns) (fun e => by rw [e] at h; cases h)
  have := h2 _ a
  have := b _ h
  omega
def gMax : List D → Sto → QD → Prop := fun ds S Q => match ds with
  | [.int i, .int j] => Q (.int (if j > i then j else i)) S
  | [d] => onSome (seqOf S d) fun xs => onSome (intsOf xs) fun ns => ns ≠ [] ∧ Q (.int (maxL ns)) S
  | _ => False
def gMin : List D → Sto → QD → Prop := fun ds S Q => match ds with
  | [.int i, .int j] => Q (.int (if j < i then j else i)) S
  | [d] => onSome (seqOf S d) fun xs => onSome (intsOf xs) fun ns => ns ≠ [] ∧ Q (.int (minL ns)) S
  | _ => False
def gTuple : List D → Sto → QD → Prop := fun ds S Q => match ds with
  | [d] => onSome (seqOf S d) fun xs => Q (.tup xs) S
  | _ => False
def gListN : List D → Sto → QD → Prop := fun ds S Q => match ds with
  | [d] => onSome (seqOf S d) fun xs => Q (.lst true xs) S
  | _ => False
section
variable {X : Cx}
theorem c_len : CallR X (.builtin "len") (rDs (ct X) gLen) := by
  intro pins s σ H vs us Q I r ⟨μ, S, ds, Qd, w, ra, hg, q⟩
  unfold gLen at hg
  split at hg
  · obtain ⟨v, rfl, rv⟩ := ra.one
    cases rv.str_inv
    exact call_len pins s σ H _ us Q I r ⟨_, _, rfl, ⟨hg.1, rfl⟩, q.same w (.int _) hg.2⟩
  · obtain ⟨v, rfl, rv⟩ := ra.one
    cases rv with
    | dic hd _ _ =>
      refine call_lenD pins s σ H _ us Q I r ⟨_, _, rfl, hd, ?_⟩
      rw [show (Rb.dicV _).length = _ from List.length_map ..]
      exact q.same w (.int _) hg
  · obtain ⟨v, rfl, rv⟩ := ra.one
    obtain ⟨xs, e, hg⟩ := onSome_of hg
    obtain ⟨a, ws, rfl, hs, rs⟩ := rv.seq w e
    refine call_len_seq pins s σ H _ us Q I r ⟨a, ws, rfl, hs, ?_⟩
    rw [rs.length]
    exact q.same w (.int _) hg
  · exact hg.elim
theorem c_abs : CallR X (.builtin "abs") (rDs (ct X) gAbs) := by
  intro pins s σ H vs us Q I r ⟨μ, S, ds, Qd, w, ra, hg, q⟩
  unfold gAbs at hg
  split at hg
  · obtain ⟨v, rfl, rv⟩ := ra.one
    cases rv.int_inv
    exact call_abs pins s σ H _ us Q I r ⟨_, rfl, q.same w (.int _) hg⟩
  · exact hg.elim
theorem c_int : CallR X (.type "int") (rDs (ct X) gToInt) := by
  intro pins s σ H vs us Q I r ⟨μ, S, ds, Qd, w, ra, hg, q⟩
  unfold gToInt at hg
  split at hg
  · obtain ⟨v, rfl, rv⟩ := ra.one
    cases rv.int_inv
    exact call_int1 pins s σ H _ us Q I r (.inl ⟨_, rfl, q.same w (.int _) hg⟩)
  · obtain ⟨v, rfl, rv⟩ := ra.one
    cases rv.bl_inv
    exact call_int1 pins s σ H _ us Q I r (.inr ⟨_, rfl, q.same w (.int _) hg⟩)
  · exact hg.elim
theorem c_sum (hc : X.calm = true) : CallR X (.builtin "sum") (rDs (ct X) gSum) := by
  intro pins s σ H vs us Q I r ⟨μ, S, ds, Qd, w, ra, hg, q⟩
  unfold gSum at hg
  split at hg
  · obtain ⟨v, rfl, rv⟩ := ra.one
    obtain ⟨xs, e, hg⟩ := onSome_of hg
    obtain ⟨ns, e2, hg⟩ := onSome_of hg
    obtain ⟨a, ws, rfl, hs, rs⟩ := rv.seq w e
    rw [intsOf_inv e2] at rs
    rw [rs.ints] at hs
    have fin := q.same w (.int _) hg
    rcases hs with hs | hs
    · exact cr_sum hc pins s σ H _ us Q I r ⟨a, ns, rfl, hs, fin⟩
    · exact Rb.cr_sumT hc pins s σ H _ us Q I r ⟨a, ns, rfl, hs, fin⟩
  · exact hg.elim
theorem c_max (hc : X.calm = true) (hu : X.A.units + 64 < cLine) : CallR X (.builtin "max") (rDs (ct X) gMax) := by
  intro pins s σ H vs us Q I r ⟨μ, S, ds, Qd, w, ra, hg, q⟩
  unfold gMax at hg
  split at hg
  · obtain ⟨v, u, rfl, rv, ru⟩ := ra.two
    cases rv.int_inv
    cases ru.int_inv
    exact call_max2 hc pins s σ H _ us Q I r ⟨_, _, rfl, q.same w (.int _) hg⟩
  · obtain ⟨v, rfl, rv⟩ := ra.one
    obtain ⟨xs, e, hg⟩ := onSome_of hg
    obtain ⟨ns, e2, ne, hg⟩ := onSome_of hg
    obtain ⟨a, ws, rfl, hs, rs⟩ := rv.seq w e
    rw [intsOf_inv e2] at rs
    rw [rs.ints] at hs
    have fin : ∀ m, m ∈ ns → (∀ y ∈ ns, y ≤ m) → Q (.int m) H := fun m h1 h2 => by
      rw [maxL_uniq h1 h2]
      exact q.same w (.int _) hg
    rcases hs with hs | hs
    · exact cr_max hc pins s σ H _ us Q I r ⟨a, ns, rfl, hs, List.length_pos_iff.mpr ne, fun m h1 h2 => fin m h1 h2⟩
    · exact Rb.cr_maxT hc hu pins s σ H _ us Q I r ⟨a, ns, rfl, hs, ne, fin⟩
  · exact hg.elim
def gMinL : List D → Sto → QD → Prop := fun ds S Q => match ds with
  | [.int i, .int j] => Q (.int (if j < i then j else i)) S
  | [d] => onSome (lstOf S d) fun xs => onSome (intsOf xs) fun ns => ns ≠ [] ∧ Q (.int (minL ns)) S
  | _ => False
theorem c_minL (hc : X.calm = true) : CallR X (.builtin "min") (rDs (ct X) gMinL) := by
  intro pins s σ H vs us Q I r ⟨μ, S, ds, Qd, w, ra, hg, q⟩
  unfold gMinL at hg
  split at hg
  · obtain ⟨v, u, rfl, rv, ru⟩ := ra.two
    cases rv.int_inv
    cases ru.int_inv
    exact call_min2 hc pins s σ H _ us Q I r ⟨_, _, rfl, q.same w (.int _) hg⟩
  · obtain ⟨v, rfl, rv⟩ := ra.one
    obtain ⟨xs, e, hg⟩ := onSome_of hg
    obtain ⟨ns, e2, ne, hg⟩ := onSome_of hg
    obtain ⟨a, ws, rfl, hs, rs⟩ := rv.lstT w e
    rw [intsOf_inv e2] at rs
    rw [rs.ints] at hs
    exact cr_min hc pins s σ H _ us Q I r ⟨a, ns, rfl, SqL.of hs, List.length_pos_iff.mpr ne, fun m h1 h2 => by
      rw [minL_uniq h1 h2]
      exact q.same w (.int _) hg⟩
  · exact hg.elim
theorem c_tuple : CallR X (.type "tuple") (rDs (ct X) gTuple) := by
  intro pins s σ H vs us Q I r ⟨μ, S, ds, Qd, w, ra, hg, q⟩
  unfold gTuple at hg
  split at hg
  · rename_i d
    obtain ⟨v, rfl, rv⟩ := ra.one
    obtain ⟨xs, e, hg⟩ := onSome_of hg
    rcases rv.seq2 w e with ⟨a, ws, rfl, rfl, ha, rs⟩ | ⟨a, ws, rfl, hs, rs⟩
    · exact call_tuple_of pins s σ H _ us Q I r ⟨a, ws, rfl, .inr ⟨SqT.of ha, q.same w (.tup ha rs) hg⟩⟩
    · exact call_tuple_of pins s σ H _ us Q I r ⟨a, ws, rfl, .inl ⟨hs, fun p hp => q.tup w rs hg hp⟩⟩
  · exact hg.elim
theorem c_listN : CallR X (.type "list") (rDs (ct X) gListN) := by
  intro pins s σ H vs us Q I r ⟨μ, S, ds, Qd, w, ra, hg, q⟩
  unfold gListN at hg
  split at hg
  · obtain ⟨v, rfl, rv⟩ := ra.one
    obtain ⟨xs, e, hg⟩ := onSome_of hg
    obtain ⟨a, ws, rfl, hs, rs⟩ := rv.seq w e
    exact Rb.call_listN pins s σ H _ us Q I r ⟨a, ws, rfl, hs, fun p hp hm => q.lstN w rs hg hp hm⟩
  · exact hg.elim
theorem PostV.lay {c : Ct} {μ : Mu} {S : Sto} {H : Hp} {Qd : QD} {Q : VK} (q : PostV c μ H Qd Q) (w : Wd c μ S H) {vs : List V} {ds : List D} (r : RpAll c μ H vs ds) (h : Qd (.cell S.length) (S ++ [.lst ds])) {p : Addr} (hp : H p = none) : Q (.ref p) (upd H p (.lst vs)) := by
  obtain ⟨f2, w2, r2⟩ := w.lay r hp
  exact q _ _ _ _ _ h f2 w2 r2
end
/-! ## sorted: ints, pairs of ints -/
def gSorted : List D → Sto → QD → Prop := fun ds S Q => match ds with
  | [d] => onSome (lstOf S d) fun xs => (∃ ns, xs = ns.map D.int ∧ Q (.lst false ((Rb.srt ns).map D.int)) S) ∨ ∃ ps : List (Int × Int), xs = ps.map (fun p => D.tup [.int p.1, .int p.2]) ∧ Q (.lst false ((Rb.srtP ps).map fun p => D.tup [.int p.1, .int p.2])) S
  | _ => False
section
variable {X : Cx} {c : Ct} {μ : Mu} {H : Hp}
theorem RpAll.prs : ∀ {vs : List V} {ps : List (Int × Int)}, RpAll c μ H vs (ps.map fun p => D.tup [.int p.1, .int p.2]) → Rb.Prs H vs ps := by
  intro vs ps h
  refine ⟨by have := h.length; rw [List.length_map] at this; exact this, fun i p hp => ?_⟩
  obtain ⟨v, e, r⟩ := h.at (i := i) (d := D.tup [.int p.1, .int p.2]) (by rw [List.getElem?_map, hp]; rfl)
  obtain ⟨a, ws, rfl, ha, ra⟩ := r.tup_inv
  obtain ⟨x, y, rfl, rx, ry⟩ := ra.two
  cases rx.int_inv
  cases ry.int_inv
  exact ⟨a, e, ha⟩
theorem RpAll.ofPrs {vs : List V} : ∀ {ps : List (Int × Int)}, Rb.Prs H vs ps → RpAll c μ H vs (ps.map fun p => D.tup [.int p.1, .int p.2]) := by
  induction vs with
  | nil =>
    intro ps h
    have : ps = [] := List.length_eq_zero_iff.mp (by rw [← h.1]; rfl)
    subst this
    exact .nil
  | cons v vs ih =>
    intro ps h
    match ps, h with
    | [], h => exact absurd h.1 (by simp)
    | p :: ps, h =>
      obtain ⟨t, e1, e2⟩ := h.2 0 p rfl
      cases e1
      refine .cons (.tup e2 (.cons (.int _) (.cons (.int _) .nil))) (ih ⟨Nat.succ.inj h.1, fun i q hq => ?_⟩)
      exact h.2 (i + 1) q hq
theorem c_sorted : CallR X (.builtin "sorted") (rDs (ct X) gSorted) := by
  intro pins s σ H vs us Q I r ⟨μ, S, ds, Qd, w, ra, hg, q⟩
  unfold gSorted at hg
  split at hg
  · obtain ⟨v, rfl, rv⟩ := ra.one
    obtain ⟨xs, e, hg⟩ := onSome_of hg
    obtain ⟨a, ws, rfl, hs, rs⟩ := rv.lstT w e
    rcases hg with ⟨ns, rfl, hg⟩ | ⟨ps, rfl, hg⟩
    · rw [rs.ints] at hs
      refine cr_sortedI pins s σ H _ us Q I r ⟨a, ns, rfl, SqL.of hs, fun ns' p h1 h2 hp => ?_⟩
      rw [Rb.srt_uniq h1 h2]
      exact q.lst w (RpAll.ofInts _) hg hp
    · refine cr_sortedPO pins s σ H _ us Q I r (Rb.sorted_prs (SqL.of hs) rs.prs fun ys p hP hp => ?_)
      exact q.lst w (RpAll.ofPrs hP) hg hp
  · exact hg.elim
end
end Pu
namespace Pu
open PySem PySem.Spec PyProof.Rows L2
/-! ## subscripts, slices, in -/
theorem atI_map {α β : Type} {R : α → β → Prop} {xs : List α} {ys : List β} (hl : xs.length = ys.length) (h : ∀ (i : Nat) y, ys[i]? = some y → ∃ x, xs[i]? = some x ∧ R x y) {i : Int} {y : β} (e : atI ys i = some y) : ∃ x, atI xs i = some x ∧ R x y := by
  unfold atI at e ⊢
  rw [hl]
  obtain ⟨j, e1, e2⟩ := Option.bind_eq_some_iff.mp e
  obtain ⟨x, e3, r⟩ := h j y e2
  exact ⟨x, by rw [e1]; exact e3, r⟩
def gIx : G2 := fun x y S Q => match x, y with
  | .str z, .int i => z.length ≤ sizeLine ∧ onSome (atI z.cps.toList i) fun c => Q (.str ⟨#[c]⟩) S
  | x, .int i => onSome (seqOf S x) fun xs => onSome (atI xs i) fun d => Q d S
  | _, _ => False
/-- the items of xs[lo:hi] -/
def cutD (xs : List D) (lo hi : Option Int) : List D := (xs.drop (HT.sIx xs.length 0 lo)).take (HT.sIx xs.length xs.length hi - HT.sIx xs.length 0 lo)
def gSl : D → Option Int → Option Int → Sto → QD → Prop := fun x lo hi S Q => match x with
  | .tup xs => Q (.tup (cutD xs lo hi)) S
  | .str z => z.length ≤ sizeLine ∧ Q (.str (cutS z lo hi)) S
  | x => onSome (seqOf S x) fun xs => Q (.lst false (cutD xs lo hi)) S
def rDsl (c : Ct) (g : D → Option Int → Option Int → Sto → QD → Prop) : V → Option Int → Option Int → Hp → VK → Prop := fun x lo hi H Q => ∃ μ S d Qd, Wd c μ S H ∧ Rp c μ H x d ∧ g d lo hi S Qd ∧ PostV c μ H Qd Q
def dSl (fe : FE) (fl fh : FO) : FE := fun ρ S Q Ed => fe ρ S (fun x S1 => fl ρ S1 (fun l S2 => fh ρ S2 (fun h S3 => gSl x l h S3 Q) Ed) Ed) Ed
def dPart (f : FE) : FO := fun ρ S Q Ed => f ρ S (fun d S1 => match d with | .int i => Q (some i) S1 | _ => False) Ed
def dNoP : FO := fun _ S Q _ => Q none S
section
variable {c : Ct} {μ : Mu} {S : Sto} {H : Hp}
theorem cutV_eq {vs : List V} {ds : List D} (r : RpAll c μ H vs ds) (lo hi : Option Int) : RpAll c μ H (cutV vs lo hi) (cutD ds lo hi) := by
  unfold cutV cutD
  rw [r.length]
  exact (r.drop _).take _
end
section
variable {X : Cx} {E : L2.St → XK} {a b e : Expr} {fa fb fe : FE} {lo hi : Option Expr} {fl fh : FO} {pos p2 : Pos}
theorem ix_D : IxR X (rD2 (ct X) gIx) := by
  intro value slice pins s σ H x y v u Q I rx ry ⟨μ, S, dx, dy, Qd, w, r1, r2, hg, q⟩ hs
  unfold gIx at hg
  split at hg
  · obtain ⟨hz, hg⟩ := hg
    obtain ⟨c, e, hg⟩ := onSome_of hg
    cases r1.str_inv
    cases r2.int_inv
    exact ix_str value slice pins s σ H _ _ v u Q I rx ry ⟨_, _, c, rfl, rfl, hz, e, q.same w (.str _) hg⟩ hs
  · obtain ⟨xs, e1, hg⟩ := onSome_of hg
    obtain ⟨d, e2, hg⟩ := onSome_of hg
    obtain ⟨a, ws, rfl, hq, rs⟩ := r1.seq w e1
    cases r2.int_inv
    obtain ⟨z, e3, rz⟩ := atI_map rs.length (fun i y h => rs.at h) e2
    have fin := q.same w rz hg
    rcases hq with hq | hq
    · exact ix_list value slice pins s σ H _ _ v u Q I rx ry ⟨a, ws, _, z, rfl, rfl, hq, e3, fin⟩ hs
    · exact ix_tup value slice pins s σ H _ _ v u Q I rx ry ⟨a, ws, _, z, rfl, rfl, hq, e3, fin⟩ hs
  · exact hg.elim
theorem d_ix (ha : PEd X E a fa) (hb : PEd X E b fb) (hs : PlainIx b) : PEd X E (.Subscript a b pos) (dBin gIx fa fb) := PE.imp (pe_ix ix_D ha hb hs) fun _ _ _ h => tBin h
theorem sl_D : SlR X (rDsl (ct X) gSl) := by
  intro pins s σ H x v vl vu lo hi sl Q I rx hs pl pu ⟨μ, S, d, Qd, w, r1, hg, q⟩
  unfold gSl at hg
  split at hg
  · obtain ⟨a, ws, rfl, ha, rs⟩ := r1.tup_inv
    refine sl_tupA pins s σ H _ v vl vu lo hi sl Q I rx hs pl pu ⟨a, ws, rfl, SqT.of ha, fun hw => ?_, fun hw p hp => q.tup w (cutV_eq rs lo hi) hg hp⟩
    refine q.same w (.tup ha ?_) hg
    have : cutV ws lo hi = ws := by
      unfold cutV
      rw [hw.1, hw.2, List.drop_zero, Nat.sub_zero, List.take_length]
    rw [← this]
    exact cutV_eq rs lo hi
  · cases r1.str_inv
    exact sl_str pins s σ H _ v vl vu lo hi sl Q I rx hs pl pu ⟨_, rfl, hg.1, q.same w (.str _) hg.2⟩
  · rename_i hnt0 hnt1
    obtain ⟨xs, e1, hg⟩ := onSome_of hg
    rcases r1.seq2 w e1 with ⟨a, ws, rfl, rfl, ha, rs⟩ | ⟨a, ws, rfl, hq, rs⟩
    · exact absurd rfl (hnt0 _)
    · exact sl_list pins s σ H _ v vl vu lo hi sl Q I rx hs pl pu ⟨a, ws, rfl, hq, fun p hp => q.lst w (cutV_eq rs lo hi) hg hp⟩
theorem d_slice (he : PEd X E e fe) (hl : POd X E lo fl) (hh : POd X E hi fh) : PEd X E (.Subscript e (.Slice lo hi none p2) pos) (dSl fe fl fh) := by
  refine PE.imp (pe_slice sl_D he hl hh) fun σ H Q ⟨μ, S, ρ, Qd, Ed, w, en, hf, q, px⟩ => ?_
  refine tR_of w en hf px fun x S1 v H1 μ1 h1 f1 w1 en1 px1 r1 => ?_
  refine tR_of w1 en1 h1 px1 fun l S2 l' H2 μ2 h2 f2 w2 en2 px2 r2 => ?_
  cases (r2 : l' = l)
  refine tR_of w2 en2 h2 px2 fun h S3 h' H3 μ3 h3 f3 w3 en3 px3 r3 => ?_
  cases (r3 : h' = h)
  exact ⟨μ3, S3, x, Qd, w3, (r1.fw w1 f2).fw w2 f3, h3, fun d S' v' H' μ' h f w' r => q d S' v' H' μ' h (f1.trans (f2.trans (f3.trans f))) w' r⟩
theorem d_noP : POd X E none dNoP := PO.imp po_none fun σ H Q ⟨μ, S, ρ, Qd, Ed, w, en, hf, q, px⟩ => q none S none H μ hf Fw.refl w rfl
theorem d_part (he : PEd X E e fe) : POd X E (some e) (dPart fe) := by
  refine PO.imp (po_some he) fun σ H Q ⟨μ, S, ρ, Qd, Ed, w, en, hf, q, px⟩ => ?_
  refine tR_of w en hf px fun x S1 v H1 μ1 h1 f1 w1 en1 px1 r1 => ?_
  split at h1
  · exact ⟨_, r1.int_inv, q _ S1 _ H1 μ1 h1 f1 w1 rfl⟩
  · exact h1.elim
/-- t[::-1] -/
def gRevT : D → Sto → QD → Prop := fun x S Q => match x with
  | .tup xs => Q (.tup xs.reverse) S
  | _ => False
theorem d_revT {k : Nat} {p1 p3 : Pos} (he : PEd X E e fe) : PEd X E (.Subscript e (.Slice none none (some (.UnaryOp .USub (.Constant (.int 1) k p1) p2)) p3) pos) (dUn gRevT fe) := by
  refine PE.imp (Rb.pe_revT he) fun σ H Q ⟨μ, S, ρ, Qd, Ed, w, en, hf, q, px⟩ => ?_
  refine tR_of w en hf px fun x S1 v H1 μ1 h1 f1 w1 en1 px1 r1 => ?_
  unfold gRevT at h1
  split at h1
  · obtain ⟨a, ws, rfl, ha, rs⟩ := r1.tup_inv
    exact ⟨a, ws, rfl, SqT.of ha, fun p hp => PostV.tup (fun d S' v H' μ' h f w' r => q d S' v H' μ' h (f1.trans f) w' r) w1 rs.rev h1 hp⟩
  · exact h1.elim
end
def gIn (neg : Bool) : G2 := fun x y S Q => match x with
  | .int i => onSome (seqOf S y) fun xs => onSome (intsOf xs) fun ns => Q (.bl (nb neg (decide (i ∈ ns)))) S
  | _ => False
theorem inV_ints {i : Int} : ∀ {ns : List Int}, inV (.int i) (ns.map V.int) = decide (i ∈ ns)
  | [] => by simp [inV]
  | n :: ns => by
    have ih := inV_ints (i := i) (ns := ns)
    unfold inV at *
    simp only [List.map_cons, List.any_cons]
    rw [ih]
    by_cases e : n = i
    · subst e
      simp [eqV]
    · have e2 : ¬ i = n := fun z => e z.symm
      simp [e, e2, eqV]
section
variable {X : Cx}
theorem flat_ints (ns : List Int) : (ns.map V.int).all flatV = true := by
  rw [List.all_map, List.all_eq_true]
  intro x _
  rfl
theorem o_notin : OpR X (compareOp .NotIn) (rD2 (ct X) (gIn true)) := by
  intro pins s σ H x y v u Q I rx ry ⟨μ, S, dx, dy, Qd, w, r1, r2, hg, q⟩
  unfold gIn at hg
  split at hg
  · obtain ⟨xs, e1, hg⟩ := onSome_of hg
    obtain ⟨ns, e2, hg⟩ := onSome_of hg
    obtain ⟨a, ws, rfl, hq, rs⟩ := r2.seq w e1
    cases r1.int_inv
    rw [intsOf_inv e2] at rs
    rw [rs.ints] at hq
    refine op_notIn_seq pins s σ H _ _ v u Q I rx ry ⟨a, _, rfl, hq, rfl, flat_ints ns, ?_⟩
    rw [inV_ints]
    exact q.same w (.bl _) hg
  · exact hg.elim
end
/-! ## methods of lists -/
abbrev GM := D → List D → Sto → QD → Prop
def dML (g : GM) (fo : FE) (fa : FA) : FE := fun ρ S Q Ed => fo ρ S (fun x S1 => onSome (cellOf S1 x) fun _ => fa ρ S1 (fun ds S2 => g x ds S2 Q) Ed) Ed
def gAppend : GM := fun x ds S Q => match ds with
  | [d] => onSome (cellOf S x) fun nx => nx.2.length < sizeLine ∧ Q .non (S.set nx.1 (.lst (nx.2 ++ [d])))
  | _ => False
section
variable {X : Cx} {E : L2.St → XK} {o e : Expr} {es : List Expr} {fo : FE} {fa : FA} {name : Str} {id : String} {apos cpos : Pos}
theorem d_ml {g : GM} (slot : Slot "list" name id) (hty : typeOf (.builtin id) = pure (.type "method_descriptor")) (hm : MtR X id (rDm (ct X) g)) (ho : PEd X E o fo) (ha : PAd X E (e :: es) fa)
    (hbase : attributeBase o name X.env (eval o X.env) = eval o X.env := by rfl)
    (hfew : ((backTo cpos (starEach (e :: es) X.env)).all (fun x => !x.1) && (backToKw cpos (keywordEach [] X.env)).all (fun x => x.1.isSome)
      && decide ((e :: es).length + ([] : List Keyword).length + (if ([] : List Keyword).isEmpty then 0 else 1) < 30)) = true := by rfl)
    (hline : (apos.endLine == cpos.line) = true := by rfl) (hs : starEach (e :: es) X.env = (false, eval e X.env) :: starEach es X.env := by rfl) (hplain : (backTo cpos (starEach es X.env)).any (·.1) = false := by rfl) :
    PEd X E (.Call (.Attribute o name apos) (e :: es) [] cpos) (dML g fo fa) := by
  refine PE.imp (pe_bm PySem.F.plainAttrs_list slot hty hm ho ha hbase hfew hline hs hplain) fun σ H Q ⟨μ, S, ρ, Qd, Ed, w, en, hf, q, px⟩ => ?_
  refine tR_of w en hf px fun x S1 v H1 μ1 h1 f1 w1 en1 px1 r1 => ?_
  obtain ⟨nx, e1, h1⟩ := onSome_of h1
  obtain ⟨a, vs, rfl, hm', ha', ra⟩ := w1.cellL r1 e1
  refine ⟨.inl ⟨rfl, vs, SqL.of ha'⟩, ?_⟩
  refine tR_of w1 en1 h1 px1 fun ds S2 us H2 μ2 h2 f2 w2 en2 px2 r2 => ?_
  exact ⟨μ2, S2, x, ds, Qd, w2, r1.fw w1 f2, r2, h2, fun d S' v' H' μ' h f w' r => q d S' v' H' μ' h (f1.trans (f2.trans f)) w' r⟩
theorem m_append : MtR X "list.append" (rDm (ct X) gAppend) := by
  intro pins s σ H x xs v us Q I rx rs ⟨μ, S, d, ds, Qd, w, r1, ra, hg, q⟩
  unfold gAppend at hg
  split at hg
  · obtain ⟨y, rfl, ry⟩ := ra.one
    obtain ⟨⟨n, zs⟩, e, hz, hg⟩ := onSome_of hg
    obtain ⟨a, vs, rfl, hm, ha, rz⟩ := w.cellL r1 e
    exact mt_append pins s σ H _ _ v us Q I rx rs ⟨a, vs, y, rfl, rfl, ha, by rw [rz.length]; exact hz, q.cell w hm (rz.append (.cons ry .nil)) .non hg⟩
  · exact hg.elim
end
end Pu
namespace Pu
open PySem PySem.Spec PyProof.Rows L2
/-! ## statements -/
structure EndsOk (c : Ct) (μ : Mu) (H : Hp) (De : DEnds) (D : Ends) : Prop where
  nx : ∀ ρ' S' σ' H' μ', De.nx ρ' S' → Fw μ H μ' H' → Wd c μ' S' H' → EnvR c μ' H' σ' ρ' → D.nx σ' H'
  rt : PostV c μ H De.rt D.rt
  bk : ∀ ρ' S' σ' H' μ', De.bk ρ' S' → Fw μ H μ' H' → Wd c μ' S' H' → EnvR c μ' H' σ' ρ' → D.bk σ' H'
  ct : ∀ ρ' S' σ' H' μ', De.ct ρ' S' → Fw μ H μ' H' → Wd c μ' S' H' → EnvR c μ' H' σ' ρ' → D.ct σ' H'
theorem PostV.fw {c : Ct} {μ μ' : Mu} {H H' : Hp} {Qd : QD} {Q : VK} (q : PostV c μ H Qd Q) (f : Fw μ H μ' H') : PostV c μ' H' Qd Q := fun d S' v H2 μ2 h g w r => q d S' v H2 μ2 h (f.trans g) w r
theorem EndsOk.fw {c : Ct} {μ μ' : Mu} {H H' : Hp} {De : DEnds} {D : Ends} (k : EndsOk c μ H De D) (f : Fw μ H μ' H') : EndsOk c μ' H' De D :=
  ⟨fun ρ S σ H2 μ2 h g w e => k.nx ρ S σ H2 μ2 h (f.trans g) w e, k.rt.fw f, fun ρ S σ H2 μ2 h g w e => k.bk ρ S σ H2 μ2 h (f.trans g) w e, fun ρ S σ H2 μ2 h g w e => k.ct ρ S σ H2 μ2 h (f.trans g) w e⟩
def tS (c : Ct) (E : XK) (f : FS) : TS := fun D σ H => ∃ μ S ρ De Ed, Wd c μ S H ∧ EnvR c μ H σ ρ ∧ f ρ S De Ed ∧ EndsOk c μ H De D ∧ PX c μ H Ed E
abbrev PSd (X : Cx) (E : XK) (st : Stmt) (f : FS) : Prop := PS X st (tS (ct X) E f)
abbrev PBd (X : Cx) (E : XK) (sts : List Stmt) (f : FS) : Prop := PSs X sts (tS (ct X) E f)
def dSkip : FS := fun ρ S De _ => De.nx ρ S
def dSeq (f g : FS) : FS := fun ρ S De Ed => f ρ S { De with nx := fun ρ' S' => g ρ' S' De Ed } Ed
def dDrop (f : FE) : FS := fun ρ S De Ed => f ρ S (fun _ S1 => De.nx ρ S1) Ed
def dRet (f : FE) : FS := fun ρ S De Ed => f ρ S De.rt Ed
def dIfS (t : FT) (f g : FS) : FS := fun ρ S De Ed => t ρ S (fun b S1 => if b = true then f ρ S1 De Ed else g ρ S1 De Ed) Ed
def dAsg (f : FE) (g : FG) : FS := fun ρ S De Ed => f ρ S (fun d S1 => g d ρ S1 De.nx Ed) Ed
section
variable {X : Cx} {E : XK} {st : Stmt} {rest : List Stmt} {f g : FS} {e : Expr} {fe : FE} {pos : Pos}
theorem d_end : PBd X E [] dSkip := PSs.imp pss_nil fun D σ H ⟨μ, S, ρ, De, Ed, w, en, hf, k, px⟩ => k.nx ρ S σ H μ hf Fw.refl w en
theorem d_seq (h1 : PSd X E st f) (h2 : PBd X E rest g) : PBd X E (st :: rest) (dSeq f g) := by
  refine PSs.imp (pss_cons h1 h2) fun D σ H ⟨μ, S, ρ, De, Ed, w, en, hf, k, px⟩ => ?_
  exact ⟨μ, S, ρ, _, Ed, w, en, hf, ⟨fun ρ' S' σ' H' μ' h fw w' en' => ⟨μ', S', ρ', De, Ed, w', en', h, k.fw fw, px.fw fw⟩, k.rt, k.bk, k.ct⟩, px⟩
theorem d_last (h1 : PSd X E st f) : PBd X E [st] f := pss_one h1
theorem d_expr (he : PEd X (cE E) e fe) (hs : swapsWith e none pos.line X.env = pure false := by rfl) : PSd X E (.Expr e pos) (dDrop fe) := by
  refine PS.imp (ps_expr he hs) fun D σ H ⟨μ, S, ρ, De, Ed, w, en, hf, k, px⟩ => ?_
  exact tR_of w en hf px fun x S1 v H1 μ1 h1 f1 w1 en1 px1 r1 => k.nx ρ S1 σ H1 μ1 h1 f1 w1 en1
theorem d_ret (he : PEd X (cE E) e fe) : PSd X E (.Return (some e) pos) (dRet fe) := by
  refine PS.imp (ps_ret he) fun D σ H ⟨μ, S, ρ, De, Ed, w, en, hf, k, px⟩ => ?_
  exact tR_of w en hf px fun x S1 v H1 μ1 h1 f1 w1 en1 px1 r1 => k.rt x S1 v H1 μ1 h1 f1 w1 r1
theorem d_if {c : Expr} {a b : List Stmt} {t : FT} (hc : PTd X (cE E) c t) (ha : PBd X E a f) (hb : PBd X E b g) : PSd X E (.If c a b pos) (dIfS t f g) := by
  refine PS.imp (ps_if hc ha hb) fun D σ H ⟨μ, S, ρ, De, Ed, w, en, hf, k, px⟩ => ?_
  refine tR_of w en hf px fun x S1 v H1 μ1 h1 f1 w1 en1 px1 r1 => ?_
  cases (r1 : v = x)
  split
  · rename_i hv
    rw [if_pos hv] at h1
    exact ⟨μ1, S1, ρ, De, Ed, w1, en1, h1, k.fw f1, px1⟩
  · rename_i hv
    rw [if_neg hv] at h1
    exact ⟨μ1, S1, ρ, De, Ed, w1, en1, h1, k.fw f1, px1⟩
end
/-! ## targets -/
def tG (c : Ct) (E : XK) (g : FG) : TG := fun v σ H Q => ∃ μ S ρ d Qd Ed, Wd c μ S H ∧ EnvR c μ H σ ρ ∧ Rp c μ H v d ∧ g d ρ S Qd Ed ∧ (∀ ρ' S' σ' H' μ', Qd ρ' S' → Fw μ H μ' H' → Wd c μ' S' H' → EnvR c μ' H' σ' ρ' → Q σ' H') ∧ PX c μ H Ed E
def tGs (c : Ct) (E : XK) (g : FGs) : TGs := fun vs σ H Q => ∃ μ S ρ ds Qd Ed, Wd c μ S H ∧ EnvR c μ H σ ρ ∧ RpAll c μ H vs ds ∧ g ds ρ S Qd Ed ∧ (∀ ρ' S' σ' H' μ', Qd ρ' S' → Fw μ H μ' H' → Wd c μ' S' H' → EnvR c μ' H' σ' ρ' → Q σ' H') ∧ PX c μ H Ed E
abbrev PGd (X : Cx) (E : XK) (tg : Expr) (g : FG) : Prop := PG X tg (tG (ct X) E g)
abbrev PGsd (X : Cx) (E : XK) (tgs : List Expr) (g : FGs) : Prop := PGs X tgs (tGs (ct X) E g)
/-- the slot i is filled, the list of slots written out -/
def setK : Rho → Nat → D → (Rho → Prop) → Prop
  | [], _, _, k => k []
  | _ :: r, 0, d, k => k (some d :: r)
  | x :: r, n + 1, d, k => setK r n d fun r' => k (x :: r')
theorem setK_eq : ∀ {ρ : Rho} {i : Nat} {d : D} {k : Rho → Prop}, setK ρ i d k → k (ρ.set i (some d))
  | [], _, _, _, h => h
  | _ :: r, 0, d, k, h => h
  | x :: r, n + 1, d, k, h => setK_eq (ρ := r) (i := n) (d := d) (k := fun r' => k (x :: r')) h
def gN (i : Nat) : FG := fun d ρ S Q _ => setK ρ i d fun ρ' => Q ρ' S
def gsNil : FGs := fun ds ρ S Q _ => match ds with
  | [] => Q ρ S
  | _ => False
def gsCons (g : FG) (gs : FGs) : FGs := fun ds ρ S Q Ed => match ds with
  | d :: r => g d ρ S (fun ρ1 S1 => gs r ρ1 S1 Q Ed) Ed
  | [] => False
def gTp (n : Nat) (gs : FGs) : FG := fun d ρ S Q Ed => match d with
  | .tup ds => ds.length = n ∧ gs ds ρ S Q Ed
  | _ => False
def gUn (n : Nat) (gs : FGs) : FG := fun d ρ S Q Ed => onSome (lstOf S d) fun ds => ds.length = n ∧ gs ds ρ S Q Ed
/-- o[i] = .. -/
def gSetI (fo fi : FE) : FG := fun d ρ S Q Ed => fo ρ S (fun x S1 => fi ρ S1 (fun y S2 => match y with
  | .int k => onSome (cellOf S2 x) fun nx => onSome (ixN nx.2.length k) fun j => Q ρ (S2.set nx.1 (.lst (nx.2.set j d)))
  | _ => False) Ed) Ed
section
variable {X : Cx} {E : XK} {pos : Pos} {tg e o ie : Expr} {es : List Expr} {g : FG} {gs : FGs} {fe fo fi : FE}
theorem PGs.imp {t t' : TGs} (h : PGs X es t) (k : ∀ v σ H Q, t' v σ H Q → t v σ H Q) : PGs X es t' := ⟨fun pins s σ H v u Q I r q => h.run pins s σ H v u Q I r (k v σ H Q q)⟩
theorem d_gn {i : Nat} (h : PG X tg (gName i)) : PGd X E tg (gN i) :=
  PG.imp h fun v σ H Q ⟨μ, S, ρ, d, Qd, Ed, w, en, r, hg, q, px⟩ => q _ S _ H μ (setK_eq (k := fun ρ' => Qd ρ' S) hg) Fw.refl w (en.set r)
theorem d_gnil : PGsd X E [] gsNil := by
  refine PGs.imp pgs_nil fun vs σ H Q ⟨μ, S, ρ, ds, Qd, Ed, w, en, r, hg, q, px⟩ => ?_
  unfold gsNil at hg
  split at hg
  · cases r
    exact ⟨rfl, q ρ S σ H μ hg Fw.refl w en⟩
  · exact hg.elim
theorem d_gcons (h1 : PGd X E e g) (h2 : PGsd X E es gs) (hs : (assignEach (e :: es) X.env).map (·.2) = assign e X.env :: (assignEach es X.env).map (·.2) := by rfl) : PGsd X E (e :: es) (gsCons g gs) := by
  refine PGs.imp (pgs_cons h1 h2 hs) fun vs σ H Q ⟨μ, S, ρ, ds, Qd, Ed, w, en, r, hg, q, px⟩ => ?_
  unfold gsCons at hg
  split at hg
  · cases r with
    | cons r1 r2 =>
      refine ⟨_, _, rfl, μ, S, ρ, _, _, Ed, w, en, r1, hg, fun ρ1 S1 σ1 H1 μ1 h1 f1 w1 en1 => ?_, px⟩
      exact ⟨μ1, S1, ρ1, _, Qd, Ed, w1, en1, r2.fw w f1, h1, fun ρ2 S2 σ2 H2 μ2 h2 f2 w2 en2 => q ρ2 S2 σ2 H2 μ2 h2 (f1.trans f2) w2 en2, px.fw f1⟩
  · exact hg.elim
theorem d_gtup {k n : Nat} (hc : X.calm = true) (h : PGsd X E es gs) (hn : (assignEach es X.env).length = n := by rfl) (hst : (assignEach es X.env).findIdx? (·.1) = none := by rfl) : PGd X E (.Tuple es k pos) (gTp n gs) := by
  refine PG.imp (pg_tup hc h hn hst) fun v σ H Q ⟨μ, S, ρ, d, Qd, Ed, w, en, r, hg, q, px⟩ => ?_
  unfold gTp at hg
  split at hg
  · obtain ⟨a, ws, rfl, ha, rs⟩ := r.tup_inv
    exact ⟨a, ws, rfl, SqT.of ha, by rw [rs.length]; exact hg.1, μ, S, ρ, _, Qd, Ed, w, en, rs, hg.2, q, px⟩
  · exact hg.elim
theorem d_gunl {k n : Nat} (hc : X.calm = true) (h : PGsd X E es gs) (hn : (assignEach es X.env).length = n := by rfl) (hst : (assignEach es X.env).findIdx? (·.1) = none := by rfl) : PGd X E (.Tuple es k pos) (gUn n gs) := by
  refine PG.imp (pg_unl hc h hn hst) fun v σ H Q ⟨μ, S, ρ, d, Qd, Ed, w, en, r, hg, q, px⟩ => ?_
  obtain ⟨ds, e, hl, hg⟩ := onSome_of hg
  obtain ⟨a, ws, rfl, ha, rs⟩ := r.lstT w e
  exact ⟨a, ws, rfl, SqL.of ha, by rw [rs.length]; exact hl, μ, S, ρ, _, Qd, Ed, w, en, rs, hg, q, px⟩
theorem d_gsub (ho : PEd X (cE E) o fo) (hi : PEd X (cE E) ie fi)
    (ha : ∀ v, assign (.Subscript o ie pos) X.env v = (do
      let ov ← holding [v] (eval o X.env)
      let iv ← holding [v, ov] (eval ie X.env)
      standAt pos
      holding [v, ov, iv] (setItem ov iv v)
      release [v, ov, iv] []) := by intro _; rfl) : PGd X E (.Subscript o ie pos) (gSetI fo fi) := by
  refine PG.imp (pg_sub ho hi set_list ha) fun v σ H Q ⟨μ, S, ρ, d, Qd, Ed, w, en, r, hg, q, px⟩ => ?_
  refine tR_of w en hg px fun x S1 vx H1 μ1 h1 f1 w1 en1 px1 r1 => ?_
  refine tR_of w1 en1 h1 px1 fun y S2 vy H2 μ2 h2 f2 w2 en2 px2 r2 => ?_
  split at h2
  · obtain ⟨⟨n, zs⟩, e, h2⟩ := onSome_of h2
    obtain ⟨j, e2, h2⟩ := onSome_of h2
    obtain ⟨a, vs, rfl, hm, hl, rz⟩ := w2.cellL (r1.fw w1 f2) e
    have fw : Fw μ2 H2 μ2 (upd H2 a (.lst (vs.set j v))) := Fw.write (List.mem_of_getElem? hm)
    have rd := ((r.fw w f1).fw w1 f2)
    refine ⟨a, vs, _, j, rfl, r2.int_inv, hl, by rw [rz.length]; exact e2, ?_⟩
    exact q ρ _ σ _ μ2 h2 (f1.trans (f2.trans fw)) (w2.set hm ⟨_, upd_same, (rz.set rd j).fw w2 fw⟩) (en2.fw w2 fw)
  · exact h2.elim
theorem d_asg (he : PEd X (cE E) e fe) (hg : PGd X E tg g) (hs : swapsWithSole [tg] e pos.line X.env = pure false := by rfl) (hw : swappedStores [tg] e X.env = pure none := by rfl)
    (h1 : (assignEach [tg] X.env).map (·.2) = [assign tg X.env] := by rfl) : PSd X E (.Assign [tg] e pos) (dAsg fe g) := by
  refine PS.imp (ps_asg he hg hs hw h1) fun D σ H ⟨μ, S, ρ, De, Ed, w, en, hf, k, px⟩ => ?_
  refine tR_of w en hf px fun x S1 v H1 μ1 h1 f1 w1 en1 px1 r1 => ?_
  exact ⟨μ1, S1, ρ, x, _, Ed, w1, en1, r1, h1, fun ρ2 S2 σ2 H2 μ2 h2 f2 w2 en2 => k.nx ρ2 S2 σ2 H2 μ2 h2 (f1.trans f2) w2 en2, px1⟩
theorem d_set {i : Nat} {x : Str} {pos' : Pos} (hN : X.N.Nodup) (hi : X.N[i]? = some x) (hx : Loc X.env.scope x) (he : PEd X (cE E) e fe) (hs : swapsWith e (some (.Name x pos')) pos.line X.env = pure false := by rfl)
    (hf : X.fn x = true ∨ X.env.scope.names.lookup x = some .local := by first | exact .inl rfl | exact .inr rfl | assumption) : PSd X E (.Assign [.Name x pos'] e pos) (dAsg fe (gN i)) := by
  refine PS.imp (ps_set hN hi hx he hs hf) fun D σ H ⟨μ, S, ρ, De, Ed, w, en, hf, k, px⟩ => ?_
  refine tR_of w en hf px fun x S1 v H1 μ1 h1 f1 w1 en1 px1 r1 => ?_
  exact k.nx _ S1 _ H1 μ1 (setK_eq (k := fun ρ' => De.nx ρ' S1) h1) f1 w1 (en1.set r1)
end
/-- a, b = x, y -/
def dPar (i j : Nat) (fa : FA) : FS := fun ρ S De Ed => fa ρ S (fun ds S1 => match ds with
  | [d, e] => setK ρ i d fun ρ1 => setK ρ1 j e fun ρ2 => De.nx ρ2 S1
  | _ => False) Ed
section
variable {X : Cx} {E : XK} {pos : Pos} {a b c : Expr} {fa : FA}
theorem d_par {i j : Nat} {x y : Str} {px py pt : Pos} {kt k2 pt2} (hc : X.calm = true) (hN : X.N.Nodup) (hi : X.N[i]? = some x) (hj : X.N[j]? = some y) (hij : i ≠ j)
    (hx : X.env.scope.names.lookup x = some .local) (hy : X.env.scope.names.lookup y = some .local) (ha : PAd X (cE E) [a, b] fa)
    (hw : swappedStores [.Tuple [.Name x px, .Name y py] kt pt] (.Tuple [a, b] k2 pt2) X.env = pure (some [x, y]))
    (hs : swapsWithSole [.Tuple [.Name x px, .Name y py] kt pt] (.Tuple [a, b] k2 pt2) pos.line X.env = pure false := by rfl) :
    PSd X E (.Assign [.Tuple [.Name x px, .Name y py] kt pt] (.Tuple [a, b] k2 pt2) pos) (dPar i j fa) := by
  refine PS.imp (ps_par hc hN hi hj hij hx hy ha hw hs) fun D σ H ⟨μ, S, ρ, De, Ed, w, en, hf, k, px⟩ => ?_
  refine tR_of w en hf px fun ds S1 vs H1 μ1 h1 f1 w1 en1 px1 r1 => ?_
  split at h1
  · obtain ⟨u, v, rfl, ru, rv⟩ := r1.two
    exact ⟨u, v, rfl, k.nx _ S1 _ H1 μ1 (setK_eq (k := fun ρ2 => De.nx ρ2 S1) (setK_eq (k := fun ρ1 => setK ρ1 _ _ fun ρ2 => De.nx ρ2 S1) h1)) f1 w1 ((en1.set ru).set rv)⟩
  · exact h1.elim
end
end Pu
namespace Pu
open PySem PySem.Spec PyProof.Rows L2
/-! ## what a loop walks: its items, the cells that must stay as they are -/
abbrev Src := List (Nat × List D)
def srcOk : Src → Sto → Prop → Prop
  | [], _, P => P
  | (n, xs) :: r, S, P => S[n]? = some (.lst xs) ∧ srcOk r S P
theorem srcOk_iff {src : Src} {S : Sto} {P : Prop} : srcOk src S P ↔ (∀ p ∈ src, S[p.1]? = some (.lst p.2)) ∧ P := by
  induction src with
  | nil => exact ⟨fun h => ⟨(fun _ z => nomatch z), h⟩, fun h => h.2⟩
  | cons p r ih =>
    obtain ⟨n, xs⟩ := p
    constructor
    · rintro ⟨h1, h2⟩
      obtain ⟨h3, h4⟩ := ih.mp h2
      refine ⟨fun q hq => ?_, h4⟩
      rcases List.mem_cons.mp hq with rfl | hq
      · exact h1
      · exact h3 q hq
    · rintro ⟨h1, h2⟩
      exact ⟨h1 _ List.mem_cons_self, ih.mpr ⟨fun q hq => h1 q (List.mem_cons_of_mem _ hq), h2⟩⟩
def src1 (n : Nat) : Option (List D) → Src
  | some xs => [(n, xs)]
  | none => []
def srcOf (S : Sto) : D → Src
  | .cell n => src1 n (lstAt S[n]?)
  | _ => []
theorem srcOf_seq {S S' : Sto} {d : D} {xs : List D} (e : seqOf S d = some xs) (h : ∀ p ∈ srcOf S d, S'[p.1]? = some (.lst p.2)) : seqOf S' d = some xs := by
  cases d with
  | cell n =>
    have e' : lstAt S[n]? = some xs := e
    have h1 : srcOf S (.cell n) = [(n, xs)] := by show src1 n (lstAt S[n]?) = _; rw [e']; rfl
    rw [h1] at h
    have := h (n, xs) List.mem_cons_self
    show lstAt S'[n]? = some xs
    rw [this]
    rfl
  | _ => exact e
structure ItOk (c : Ct) (J : It) (items : List D) (src : Src) (Anc : Mu → Hp → Prop) : Prop where
  keep : ∀ {μ H μ' H'}, Anc μ H → Kp c μ H μ' H' → Anc μ' H'
  go : ∀ {μ S H}, Anc μ H → Wd c μ S H → (∀ p ∈ src, S[p.1]? = some (.lst p.2)) → ∀ (i : Nat) (d : D), items[i]? = some d → J.go i H ∧ ∀ x H', J.yld i H x H' → Fw μ H μ H' ∧ Wd c μ S H' ∧ Rp c μ H' x d
  stop : ∀ {μ S H}, Anc μ H → Wd c μ S H → (∀ p ∈ src, S[p.1]? = some (.lst p.2)) → J.stop items.length H
abbrev FI := FX (List D × Src)
def tI (c : Ct) (E : L2.St → XK) (fi : FI) : TI := fun σ H R => ∃ μ S ρ Qi Ed, Wd c μ S H ∧ EnvR c μ H σ ρ ∧ fi ρ S Qi Ed ∧
  (∀ is S' H' μ' J Anc, Qi is S' → Fw μ H μ' H' → Wd c μ' S' H' → ItOk c J is.1 is.2 Anc → Anc μ' H' → (∀ p ∈ is.2, S'[p.1]? = some (.lst p.2)) → R J H') ∧ PX c μ H Ed (E σ)
abbrev PId (X : Cx) (E : L2.St → XK) (tg e : Expr) (fi : FI) : Prop := PI X tg e (tI (ct X) E fi)
theorem PI.imp {X : Cx} {tg e : Expr} {t t' : TI} (h : PI X tg e t) (k : ∀ σ H R, t' σ H R → t σ H R) : PI X tg e t' := ⟨fun pins s σ H R I q => h.run pins s σ H R I (k σ H R q)⟩
theorem srcOf_ok {S : Sto} {d : D} {xs : List D} (e : seqOf S d = some xs) : ∀ p ∈ srcOf S d, S[p.1]? = some (.lst p.2) := by
  intro p hp
  cases d with
  | cell n =>
    have e' : lstAt S[n]? = some xs := e
    have h1 : srcOf S (.cell n) = [(n, xs)] := by show src1 n (lstAt S[n]?) = _; rw [e']; rfl
    rw [h1] at hp
    cases List.mem_singleton.mp hp
    exact lstAt_inv e'
  | _ => cases hp
/-! ### a list or a tuple -/
def iSeq (K : PySem.W.Frag) (tl : TE) : TI := fun σ H R => tl σ H fun x H1 => ∃ a, x = .ref a ∧ (((∃ xs, SqL K H1 a xs) ∧ R (Itl K a) H1) ∨ ((∃ xs, SqT K H1 a xs) ∧ R (Itt K a) H1))
section
variable {X : Cx} {E : L2.St → XK} {tg e : Expr} {fe : FE} {fa : FA}
theorem pi_seq {tl : TE} (hl : PE X e tl) : PI X tg e (iSeq X.K tl) := by
  constructor
  intro pins s σ H R I h
  refine thn (hl.run pins s σ H _ I h) fun v s1 hv => ?_
  obtain ⟨x, H1, I1, r1, a, rfl, q⟩ := hv
  cases r1
  have own : ∀ b, b ∈ [s1.heap.objs.size] → FpOk X pins H1 b := fun b hb => by
    rw [List.mem_singleton.mp hb]
    exact I1.fpOk (Nat.le_refl _) (I1.hok.fresh (Nat.le_refl _))
  rcases q with ⟨⟨xs, hq⟩, q⟩ | ⟨⟨xs, hq⟩, q⟩
  · obtain ⟨its, rv, pl, _⟩ := I1.list hq
    exact wpAny_pyIter_list pl.isList
      ⟨_, _, _, _, H1, rfl, I1.kept (t' := s1.toks) (fun b o eb => Heap.get?_push_of_some _ eb), turn_list a _, ⟨_, Heap.get?_push_size _ rfl, rfl, rfl⟩, own, q⟩
  · obtain ⟨its, rv, pl, _⟩ := I1.tuple hq
    exact wpAny_pyIter_tuple (Rb.isTup_isTuple pl)
      ⟨_, _, _, _, H1, rfl, I1.kept (t' := s1.toks) (fun b o eb => Heap.get?_push_of_some _ eb), turn_tuple a _, ⟨_, Heap.get?_push_size _ rfl, rfl, rfl⟩, own, q⟩
def dItS (fe : FE) : FI := fun ρ S Q Ed => fe ρ S (fun d S1 => onSome (seqOf S1 d) fun xs => Q (xs, srcOf S1 d) S1) Ed
theorem itl_ok {c : Ct} {S0 : Sto} {a : Addr} {d : D} {xs : List D} (hn : ∀ ys, d ≠ .tup ys) (e : seqOf S0 d = some xs) : ItOk c (Itl c.K a) xs (srcOf S0 d) (fun μ H => Rp c μ H (.ref a) d) where
  keep := fun r k => r.kp k
  go := fun {μ S H} r w hs i x hx => by
    rcases r.seq2 w (srcOf_seq e hs) with ⟨_, _, rfl, _⟩ | ⟨b, vs, eb, hq, rs⟩
    · exact absurd rfl (hn _)
    cases eb
    obtain ⟨v, ev, rv⟩ := rs.at hx
    refine ⟨⟨vs, v, hq, ev⟩, fun y H' hy => ?_⟩
    obtain ⟨rfl, hy⟩ := hy
    have := hy vs hq
    rw [ev] at this
    cases this
    exact ⟨Fw.refl, w, rv⟩
  stop := fun {μ S H} r w hs => by
    rcases r.seq2 w (srcOf_seq e hs) with ⟨_, _, rfl, _⟩ | ⟨b, vs, eb, hq, rs⟩
    · exact absurd rfl (hn _)
    cases eb
    exact ⟨vs, hq, by rw [rs.length]; exact Nat.le_refl _⟩
theorem itt_ok {c : Ct} {a : Addr} {xs : List D} : ItOk c (Itt c.K a) xs [] (fun μ H => Rp c μ H (.ref a) (.tup xs)) where
  keep := fun r k => r.kp k
  go := fun {μ S H} r w hs i x hx => by
    obtain ⟨b, vs, eb, ha, rs⟩ := r.tup_inv
    cases eb
    obtain ⟨v, ev, rv⟩ := rs.at hx
    refine ⟨⟨vs, v, SqT.of ha, ev⟩, fun y H' hy => ?_⟩
    obtain ⟨rfl, hy⟩ := hy
    have := hy vs (SqT.of ha)
    rw [ev] at this
    cases this
    exact ⟨Fw.refl, w, rv⟩
  stop := fun {μ S H} r w hs => by
    obtain ⟨b, vs, eb, ha, rs⟩ := r.tup_inv
    cases eb
    exact ⟨vs, SqT.of ha, by rw [rs.length]; exact Nat.le_refl _⟩
theorem d_iseq (he : PEd X E e fe) : PId X E tg e (dItS fe) := by
  refine PI.imp (pi_seq he) fun σ H R ⟨μ, S, ρ, Qi, Ed, w, en, hf, q, px⟩ => ?_
  refine tR_of w en hf px fun d S1 v H1 μ1 h1 f1 w1 en1 px1 r1 => ?_
  obtain ⟨xs, e1, hq⟩ := onSome_of h1
  rcases r1.seq2 w1 e1 with ⟨a, vs, rfl, rfl, ha, rs⟩ | ⟨a, vs, rfl, hs, rs⟩
  · exact ⟨a, rfl, .inr ⟨⟨vs, SqT.of ha⟩, q _ S1 H1 μ1 _ _ hq f1 w1 itt_ok r1 (fun _ z => nomatch z)⟩⟩
  · by_cases ht : ∃ ys, d = .tup ys
    · obtain ⟨ys, rfl⟩ := ht
      cases e1
      obtain ⟨b, ws, eb, hb, rs'⟩ := r1.tup_inv
      cases eb
      exact ⟨a, rfl, .inr ⟨⟨ws, SqT.of hb⟩, q _ S1 H1 μ1 _ _ hq f1 w1 itt_ok r1 (fun _ z => nomatch z)⟩⟩
    · exact ⟨a, rfl, .inl ⟨⟨vs, hs⟩, q _ S1 H1 μ1 _ _ hq f1 w1 (itl_ok (fun ys z => ht ⟨ys, z⟩) e1) r1 (srcOf_ok e1)⟩⟩
/-! ### range -/
def rangeD (lo : Int) (n : Nat) : List D := (List.range n).map fun i : Nat => D.int (lo + (i : Int))
theorem rangeD_get {lo : Int} {n i : Nat} {d : D} (h : (rangeD lo n)[i]? = some d) : i < n ∧ d = .int (lo + (i : Int)) := by
  unfold rangeD at h
  rw [List.getElem?_map] at h
  obtain ⟨j, e1, rfl⟩ := Option.map_eq_some_iff.mp h
  obtain ⟨h1, h2⟩ := List.getElem?_eq_some_iff.mp e1
  rw [List.getElem_range] at h2
  rw [List.length_range] at h1
  subst h2
  exact ⟨h1, rfl⟩
theorem itr_ok {c : Ct} {lo : Int} {n : Nat} : ItOk c (Itr lo n) (rangeD lo n) [] (fun _ _ => True) where
  keep := fun _ _ => trivial
  go := fun {μ S H} _ w _ i d hd => by
    obtain ⟨h1, rfl⟩ := rangeD_get hd
    refine ⟨h1, fun x H' hy => ?_⟩
    obtain ⟨rfl, rfl⟩ := hy
    exact ⟨Fw.refl, w, .int _⟩
  stop := fun {μ S H} _ _ _ => by
    show n ≤ (rangeD lo n).length
    unfold rangeD
    rw [List.length_map, List.length_range]
    exact Nat.le_refl _
def dRng1 (fa : FA) : FI := fun ρ S Q Ed => fa ρ S (fun ds S1 => match ds with
  | [.int j] => (-(2 ^ 62) ≤ j ∧ j < 2 ^ 62) ∧ Q (rangeD 0 j.toNat, []) S1
  | _ => False) Ed
def dRng2 (fa : FA) : FI := fun ρ S Q Ed => fa ρ S (fun ds S1 => match ds with
  | [.int i, .int j] => (-(2 ^ 62) ≤ i ∧ i < 2 ^ 62 ∧ -(2 ^ 62) ≤ j ∧ j < 2 ^ 62) ∧ Q (rangeD i (j - i).toNat, []) S1
  | _ => False) Ed
theorem d_rng1 {a : Expr} {p pos : Pos} (hg : Gl X "range") (hm : X.mg "range" = none) (ha : PAd X E [a] fa) (hs : starEach [a] X.env = [(false, eval a X.env)] := by rfl) : PId X E tg (.Call (.Name "range" p) [a] [] pos) (dRng1 fa) := by
  refine PI.imp (pi_range1 hg hm ha hs) fun σ H R ⟨μ, S, ρ, Qi, Ed, w, en, hf, q, px⟩ => ?_
  refine tR_of w en hf px fun ds S1 vs H1 μ1 h1 f1 w1 en1 px1 r1 => ?_
  split at h1
  · obtain ⟨v, rfl, rv⟩ := r1.one
    cases rv.int_inv
    exact ⟨_, rfl, h1.1.1, h1.1.2, q _ S1 H1 μ1 _ _ h1.2 f1 w1 itr_ok trivial (fun _ z => nomatch z)⟩
  · exact h1.elim
theorem d_rng2 {a b : Expr} {p pos : Pos} (hg : Gl X "range") (hm : X.mg "range" = none) (ha : PAd X E [a, b] fa) (hs : starEach [a, b] X.env = [(false, eval a X.env), (false, eval b X.env)] := by rfl) (hs2 : starEach [b] X.env = [(false, eval b X.env)] := by rfl) : PId X E tg (.Call (.Name "range" p) [a, b] [] pos) (dRng2 fa) := by
  refine PI.imp (pi_range2 hg hm ha hs hs2) fun σ H R ⟨μ, S, ρ, Qi, Ed, w, en, hf, q, px⟩ => ?_
  refine tR_of w en hf px fun ds S1 vs H1 μ1 h1 f1 w1 en1 px1 r1 => ?_
  split at h1
  · obtain ⟨v, u, rfl, rv, ru⟩ := r1.two
    cases rv.int_inv
    cases ru.int_inv
    exact ⟨_, _, rfl, h1.1, q _ S1 H1 μ1 _ _ h1.2 f1 w1 itr_ok trivial (fun _ z => nomatch z)⟩
  · exact h1.elim
/-! ### enumerate -/
def enumD (xs : List D) : List D := xs.mapIdx fun i x => D.tup [.int (i : Int), x]
theorem enumD_get {xs : List D} {i : Nat} {d : D} (h : (enumD xs)[i]? = some d) : ∃ x, xs[i]? = some x ∧ d = .tup [.int (i : Int), x] := by
  unfold enumD at h
  rw [List.getElem?_mapIdx] at h
  obtain ⟨x, e1, rfl⟩ := Option.map_eq_some_iff.mp h
  exact ⟨x, e1, rfl⟩
theorem Wd.pair {c : Ct} {μ : Mu} {S : Sto} {H : Hp} (w : Wd c μ S H) {x y : V} {d e : D} (rx : Rp c μ H x d) (ry : Rp c μ H y e) {T : Addr} (hT : H T = none) : Fw μ H μ (upd H T (.tup [x, y])) ∧ Wd c μ S (upd H T (.tup [x, y])) ∧ Rp c μ (upd H T (.tup [x, y])) (.ref T) (.tup [d, e]) :=
  ⟨Fw.new hT, w.new hT, .tup upd_same (.cons (rx.fw w (Fw.new hT)) (.cons (ry.fw w (Fw.new hT)) .nil))⟩
theorem ite_ok {c : Ct} {S0 : Sto} {a : Addr} {d : D} {xs : List D} (hn : ∀ ys, d ≠ .tup ys) (e : seqOf S0 d = some xs) : ItOk c (Ite c.K a) (enumD xs) (srcOf S0 d) (fun μ H => Rp c μ H (.ref a) d) where
  keep := fun r k => r.kp k
  go := fun {μ S H} r w hs i x hx => by
    rcases r.seq2 w (srcOf_seq e hs) with ⟨_, _, rfl, _⟩ | ⟨b, vs, eb, hq, rs⟩
    · exact absurd rfl (hn _)
    cases eb
    obtain ⟨z, ez, rfl⟩ := enumD_get hx
    obtain ⟨v, ev, rv⟩ := rs.at ez
    refine ⟨⟨vs, v, hq, ev⟩, fun y H' hy => ?_⟩
    obtain ⟨T, u, rfl, hT, rfl, hy⟩ := hy
    have := hy vs hq
    rw [ev] at this
    cases this
    exact w.pair (.int _) rv hT
  stop := fun {μ S H} r w hs => by
    rcases r.seq2 w (srcOf_seq e hs) with ⟨_, _, rfl, _⟩ | ⟨b, vs, eb, hq, rs⟩
    · exact absurd rfl (hn _)
    cases eb
    refine ⟨vs, hq, ?_⟩
    unfold enumD
    rw [List.length_mapIdx, rs.length]
    exact Nat.le_refl _
theorem itE_ok {c : Ct} {a : Addr} {xs : List D} : ItOk c (Rb.ItE c.K a) (enumD xs) [] (fun μ H => Rp c μ H (.ref a) (.tup xs)) where
  keep := fun r k => r.kp k
  go := fun {μ S H} r w hs i x hx => by
    obtain ⟨b, vs, eb, ha, rs⟩ := r.tup_inv
    cases eb
    obtain ⟨z, ez, rfl⟩ := enumD_get hx
    obtain ⟨v, ev, rv⟩ := rs.at ez
    refine ⟨⟨vs, v, SqT.of ha, ev⟩, fun y H' hy => ?_⟩
    obtain ⟨T, u, rfl, hT, rfl, hy⟩ := hy
    have := hy vs (SqT.of ha)
    rw [ev] at this
    cases this
    exact w.pair (.int _) rv hT
  stop := fun {μ S H} r w hs => by
    obtain ⟨b, vs, eb, ha, rs⟩ := r.tup_inv
    cases eb
    refine ⟨vs, SqT.of ha, ?_⟩
    unfold enumD
    rw [List.length_mapIdx, rs.length]
def dEnT (fa : FA) : FI := fun ρ S Q Ed => fa ρ S (fun ds S1 => match ds with
  | [.tup xs] => Q (enumD xs, []) S1
  | _ => False) Ed
def dEnL (fa : FA) : FI := fun ρ S Q Ed => fa ρ S (fun ds S1 => match ds with
  | [d] => onSome (lstOf S1 d) fun xs => Q (enumD xs, srcOf S1 d) S1
  | _ => False) Ed
theorem lst_seq {S : Sto} {d : D} {xs : List D} (e : lstOf S d = some xs) : seqOf S d = some xs ∧ ∀ ys, d ≠ .tup ys := by
  cases d with
  | lst k ys => exact ⟨e, fun _ z => nomatch z⟩
  | cell n => exact ⟨e, fun _ z => nomatch z⟩
  | _ => cases e
theorem d_enT {elts : List Expr} {kk : Nat} {p pos tp : Pos} (hg : Gl X "enumerate") (hm : X.mg "enumerate" = none) (ha : PAd X E [e] fa) (hs : starEach [e] X.env = [(false, eval e X.env)] := by rfl) : PId X E (.Tuple elts kk tp) (.Call (.Name "enumerate" p) [e] [] pos) (dEnT fa) := by
  refine PI.imp (Rb.pi_enumT hg hm ha hs) fun σ H R ⟨μ, S, ρ, Qi, Ed, w, en, hf, q, px⟩ => ?_
  refine tR_of w en hf px fun ds S1 vs H1 μ1 h1 f1 w1 en1 px1 r1 => ?_
  split at h1
  · obtain ⟨v, rfl, rv⟩ := r1.one
    obtain ⟨a, ws, rfl, ha', rs⟩ := id rv.tup_inv
    exact ⟨a, ws, rfl, SqT.of ha', q _ S1 H1 μ1 _ _ h1 f1 w1 itE_ok rv (fun _ z => nomatch z)⟩
  · exact h1.elim
theorem d_enL {elts : List Expr} {kk : Nat} {p pos tp : Pos} (hg : Gl X "enumerate") (hm : X.mg "enumerate" = none) (ha : PAd X E [e] fa) (hs : starEach [e] X.env = [(false, eval e X.env)] := by rfl) : PId X E (.Tuple elts kk tp) (.Call (.Name "enumerate" p) [e] [] pos) (dEnL fa) := by
  refine PI.imp (pi_enum hg hm ha hs) fun σ H R ⟨μ, S, ρ, Qi, Ed, w, en, hf, q, px⟩ => ?_
  refine tR_of w en hf px fun ds S1 vs H1 μ1 h1 f1 w1 en1 px1 r1 => ?_
  split at h1
  · obtain ⟨v, rfl, rv⟩ := r1.one
    obtain ⟨xs, e1, hq⟩ := onSome_of h1
    obtain ⟨a, ws, rfl, hs, rs⟩ := rv.lstT w1 e1
    obtain ⟨e2, hn⟩ := lst_seq e1
    exact ⟨a, ws, rfl, SqL.of hs, q _ S1 H1 μ1 _ _ hq f1 w1 (ite_ok hn e2) rv (srcOf_ok e2)⟩
  · exact h1.elim
/-! ### zip -/
def zipD : List D → List D → List D
  | x :: xs, y :: ys => D.tup [x, y] :: zipD xs ys
  | _, _ => []
theorem zipD_get : ∀ {xs ys : List D} {i : Nat} {d : D}, (zipD xs ys)[i]? = some d → ∃ x y, xs[i]? = some x ∧ ys[i]? = some y ∧ d = .tup [x, y]
  | x :: xs, y :: ys, 0, d, h => by cases h; exact ⟨x, y, rfl, rfl, rfl⟩
  | x :: xs, y :: ys, i + 1, d, h => zipD_get (xs := xs) (ys := ys) (i := i) h
  | [], _, _, _, h => by cases h
  | _ :: _, [], _, _, h => by cases h
theorem zipD_len : ∀ {xs ys : List D}, xs.length ≤ (zipD xs ys).length ∨ ys.length ≤ (zipD xs ys).length
  | x :: xs, y :: ys => by
    rcases zipD_len (xs := xs) (ys := ys) with h | h
    · exact .inl (Nat.succ_le_succ h)
    · exact .inr (Nat.succ_le_succ h)
  | [], _ => .inl (Nat.zero_le _)
  | _ :: _, [] => .inr (Nat.zero_le _)
theorem itzT_ok {c : Ct} {a b : Addr} {xs ys : List D} : ItOk c (RZ.ItzT c.K a b) (zipD xs ys) [] (fun μ H => Rp c μ H (.ref a) (.tup xs) ∧ Rp c μ H (.ref b) (.tup ys)) where
  keep := fun r k => ⟨r.1.kp k, r.2.kp k⟩
  go := fun {μ S H} r w hs i x hx => by
    obtain ⟨a', vs, ea, ha, ra⟩ := r.1.tup_inv
    obtain ⟨b', us, eb, hb, rb⟩ := r.2.tup_inv
    cases ea
    cases eb
    obtain ⟨p, q, ep, eq, rfl⟩ := zipD_get hx
    obtain ⟨v, ev, rv⟩ := ra.at ep
    obtain ⟨u, eu, ru⟩ := rb.at eq
    refine ⟨⟨vs, us, v, u, SqT.of ha, SqT.of hb, ev, eu⟩, fun y H' hy => ?_⟩
    obtain ⟨T, v2, u2, rfl, hT, rfl, h1, h2⟩ := hy
    have := h1 vs (SqT.of ha)
    rw [ev] at this
    cases this
    have := h2 us (SqT.of hb)
    rw [eu] at this
    cases this
    exact w.pair rv ru hT
  stop := fun {μ S H} r w hs => by
    obtain ⟨a', vs, ea, ha, ra⟩ := r.1.tup_inv
    obtain ⟨b', us, eb, hb, rb⟩ := r.2.tup_inv
    cases ea
    cases eb
    exact ⟨vs, us, SqT.of ha, SqT.of hb, by rw [ra.length, rb.length]; exact zipD_len⟩
theorem itz_ok {c : Ct} {S0 : Sto} {a b : Addr} {d e : D} {xs ys : List D} (nd : ∀ zs, d ≠ .tup zs) (ne : ∀ zs, e ≠ .tup zs) (ed : seqOf S0 d = some xs) (ee : seqOf S0 e = some ys) :
    ItOk c (Itz c.K a b) (zipD xs ys) (srcOf S0 d ++ srcOf S0 e) (fun μ H => Rp c μ H (.ref a) d ∧ Rp c μ H (.ref b) e) where
  keep := fun r k => ⟨r.1.kp k, r.2.kp k⟩
  go := fun {μ S H} r w hs i x hx => by
    rcases r.1.seq2 w (srcOf_seq ed fun p hp => hs p (List.mem_append_left _ hp)) with ⟨_, _, rfl, _⟩ | ⟨a', vs, ea, ha, ra⟩
    · exact absurd rfl (nd _)
    rcases r.2.seq2 w (srcOf_seq ee fun p hp => hs p (List.mem_append_right _ hp)) with ⟨_, _, rfl, _⟩ | ⟨b', us, eb, hb, rb⟩
    · exact absurd rfl (ne _)
    cases ea
    cases eb
    obtain ⟨p, q, ep, eq, rfl⟩ := zipD_get hx
    obtain ⟨v, ev, rv⟩ := ra.at ep
    obtain ⟨u, eu, ru⟩ := rb.at eq
    refine ⟨⟨vs, us, v, u, ha, hb, ev, eu⟩, fun y H' hy => ?_⟩
    obtain ⟨T, v2, u2, rfl, hT, rfl, h1, h2⟩ := hy
    have := h1 vs ha
    rw [ev] at this
    cases this
    have := h2 us hb
    rw [eu] at this
    cases this
    exact w.pair rv ru hT
  stop := fun {μ S H} r w hs => by
    rcases r.1.seq2 w (srcOf_seq ed fun p hp => hs p (List.mem_append_left _ hp)) with ⟨_, _, rfl, _⟩ | ⟨a', vs, ea, ha, ra⟩
    · exact absurd rfl (nd _)
    rcases r.2.seq2 w (srcOf_seq ee fun p hp => hs p (List.mem_append_right _ hp)) with ⟨_, _, rfl, _⟩ | ⟨b', us, eb, hb, rb⟩
    · exact absurd rfl (ne _)
    cases ea
    cases eb
    exact ⟨vs, us, ha, hb, by rw [ra.length, rb.length]; exact zipD_len⟩
def dZip (fa : FA) : FI := fun ρ S Q Ed => fa ρ S (fun ds S1 => match ds with
  | [.tup xs, .tup ys] => Q (zipD xs ys, []) S1
  | [d, e] => onSome (lstOf S1 d) fun xs => onSome (lstOf S1 e) fun ys => Q (zipD xs ys, srcOf S1 d ++ srcOf S1 e) S1
  | _ => False) Ed
theorem d_zip {e2 : Expr} {elts : List Expr} {kk : Nat} {p pos tp : Pos} (hg : Gl X "zip") (hm : X.mg "zip" = none) (ha : PAd X E [e, e2] fa)
    (hs : starEach [e, e2] X.env = (false, eval e X.env) :: starEach [e2] X.env := by rfl) (hpl : (backTo pos (starEach [e2] X.env)).any (·.1) = false := by rfl) : PId X E (.Tuple elts kk tp) (.Call (.Name "zip" p) [e, e2] [] pos) (dZip fa) := by
  refine PI.imp (RZ.pi_zipA hg hm ha hs hpl) fun σ H R ⟨μ, S, ρ, Qi, Ed, w, en, hf, q, px⟩ => ?_
  refine tR_of w en hf px fun ds S1 vs H1 μ1 h1 f1 w1 en1 px1 r1 => ?_
  split at h1
  · obtain ⟨v, u, rfl, rv, ru⟩ := r1.two
    obtain ⟨a, ws, rfl, ha', rs⟩ := id rv.tup_inv
    obtain ⟨b, us, rfl, hb', rt⟩ := id ru.tup_inv
    exact ⟨a, b, ws, us, rfl, .inr ⟨SqT.of ha', SqT.of hb', q _ S1 H1 μ1 _ _ h1 f1 w1 itzT_ok ⟨rv, ru⟩ (fun _ z => nomatch z)⟩⟩
  · obtain ⟨v, u, rfl, rv, ru⟩ := r1.two
    obtain ⟨xs, e1, h1⟩ := onSome_of h1
    obtain ⟨ys, e2, hq⟩ := onSome_of h1
    obtain ⟨a, ws, rfl, hs1, rs⟩ := rv.lstT w1 e1
    obtain ⟨b, us, rfl, hs2, rt⟩ := ru.lstT w1 e2
    obtain ⟨e3, n3⟩ := lst_seq e1
    obtain ⟨e4, n4⟩ := lst_seq e2
    refine ⟨a, b, ws, us, rfl, .inl ⟨SqL.of hs1, SqL.of hs2, q _ S1 H1 μ1 _ _ hq f1 w1 (itz_ok n3 n4 e3 e4) ⟨rv, ru⟩ fun p hp => ?_⟩⟩
    rcases List.mem_append.mp hp with hp | hp
    · exact srcOf_ok e3 p hp
    · exact srcOf_ok e4 p hp
  · exact h1.elim
end
/-! ## for -/
def dLoop (g : FG) (fb : FS) (src : Src) : List D → FS
  | [], ρ, S, De, _ => De.nx ρ S
  | x :: xs, ρ, S, De, Ed => g x ρ S (fun ρ1 S1 => fb ρ1 S1 { nx := fun ρ2 S2 => srcOk src S2 (dLoop g fb src xs ρ2 S2 De Ed), ct := fun ρ2 S2 => srcOk src S2 (dLoop g fb src xs ρ2 S2 De Ed), bk := De.nx, rt := De.rt } Ed) Ed
def dFor (fi : FI) (g : FG) (fb : FS) : FS := fun ρ S De Ed => fi ρ S (fun is S1 => dLoop g fb is.2 is.1 ρ S1 De Ed) Ed
section
variable {X : Cx} {E : XK} {tg iter : Expr} {body : List Stmt} {fi : FI} {g : FG} {fb : FS} {pos : Pos}
theorem drop_cons {α : Type} {xs : List α} {i : Nat} {x : α} (h : xs[i]? = some x) : xs.drop i = x :: xs.drop (i + 1) := by
  obtain ⟨h1, h2⟩ := List.getElem?_eq_some_iff.mp h
  rw [List.drop_eq_getElem_cons h1, h2]
theorem d_for (hp : PassesOwn (model X.prog X.w) X.A X.env X.xe) (hc : X.calm = true) (hi : PId X (cE E) tg iter fi) (hg : PGd X E tg g) (hb : PBd X E body fb) (hs : ∀ x, foldedSetIterable iter X.env x = pure x := by intro _; rfl) : PSd X E (.For tg iter body [] pos) (dFor fi g fb) := by
  refine PS.imp (ps_for hp hc hi hg hb hs) fun D σ H ⟨μ, S, ρ, De, Ed, w, en, hf, k, px⟩ => ?_
  refine ⟨μ, S, ρ, _, Ed, w, en, hf, fun is S1 H1 μ1 J Anc h1 f1 w1 ok anc hsrc => ?_, px⟩
  obtain ⟨items, src⟩ := is
  refine ⟨fun i m σ' H' => m = items.length - i ∧ i ≤ items.length ∧ ∃ μ' S' ρ', Fw μ1 H1 μ' H' ∧ Wd (ct X) μ' S' H' ∧ EnvR (ct X) μ' H' σ' ρ' ∧ Anc μ' H' ∧ (∀ p ∈ src, S'[p.1]? = some (.lst p.2)) ∧ dLoop g fb src (items.drop i) ρ' S' De Ed,
    ⟨_, rfl, Nat.zero_le _, μ1, S1, ρ, Fw.refl, w1, en.fw w f1, anc, hsrc, h1⟩, ?_⟩
  rintro i m σ' H' ⟨rfl, hi, μ', S', ρ', f', w', en', anc', hs', h'⟩
  by_cases hlt : i < items.length
  · have hx := List.getElem?_eq_getElem hlt
    obtain ⟨go, yl⟩ := ok.go anc' w' hs' i _ hx
    rw [drop_cons hx] at h'
    refine .inr ⟨go, fun σ2 H2 => i + 1 ≤ items.length ∧ ∃ μ2 S2 ρ2, Fw μ1 H1 μ2 H2 ∧ Wd (ct X) μ2 S2 H2 ∧ EnvR (ct X) μ2 H2 σ2 ρ2 ∧ Anc μ2 H2 ∧ (∀ p ∈ src, S2[p.1]? = some (.lst p.2)) ∧ dLoop g fb src (items.drop (i + 1)) ρ2 S2 De Ed,
      fun σ2 H2 hN => ⟨_, by omega, rfl, hN.1, hN.2⟩, fun x H2 hy => ?_⟩
    obtain ⟨fy, wy, ry⟩ := yl x H2 hy
    refine ⟨μ', S', ρ', _, _, Ed, wy, en'.fw w' fy, ry, h', fun ρ3 S3 σ3 H3 μ3 h3 f3 w3 en3 => ?_, (px.fw f1).fw (f'.trans fy)⟩
    have ff := f1.trans (f'.trans (fy.trans f3))
    refine ⟨μ3, S3, ρ3, _, Ed, w3, en3, h3, ⟨fun ρ4 S4 σ4 H4 μ4 h4 f4 w4 en4 => ?_, k.rt.fw ff, fun ρ4 S4 σ4 H4 μ4 h4 f4 w4 en4 => k.nx ρ4 S4 σ4 H4 μ4 h4 (ff.trans f4) w4 en4, fun ρ4 S4 σ4 H4 μ4 h4 f4 w4 en4 => ?_⟩, px.fw ff⟩
    · obtain ⟨q1, q2⟩ := srcOk_iff.mp h4
      exact ⟨hlt, μ4, S4, ρ4, f'.trans (fy.trans (f3.trans f4)), w4, en4, ok.keep (ok.keep (ok.keep anc' (w'.kp fy)) (wy.kp f3)) (w3.kp f4), q1, q2⟩
    · obtain ⟨q1, q2⟩ := srcOk_iff.mp h4
      exact ⟨hlt, μ4, S4, ρ4, f'.trans (fy.trans (f3.trans f4)), w4, en4, ok.keep (ok.keep (ok.keep anc' (w'.kp fy)) (wy.kp f3)) (w3.kp f4), q1, q2⟩
  · have e : i = items.length := by omega
    subst e
    rw [List.drop_length] at h'
    exact .inl ⟨ok.stop anc' w' hs', k.nx ρ' S' σ' H' μ' h' (f1.trans f') w' en'⟩
end
end Pu
namespace Pu
open PySem PySem.Spec PyProof.Rows L2
/-! ## comprehensions -/
def noE : ED := fun _ _ => False
def dYes : FT := fun _ S Q _ => Q true S
def dCompL (st : D → Rho → Option Rho) (t : FT) (f : FE) (src : Src) : List D → List D → Rho → Sto → (List D → Sto → Prop) → Prop
  | [], acc, _, S, k => k acc S
  | x :: xs, acc, ρ, S, k => onSome (st x ρ) fun ρ1 => t ρ1 S (fun b S1 => if b = true then f ρ1 S1 (fun y S2 => srcOk src S2 (dCompL st t f src xs (acc ++ [y]) ρ S2 k)) noE else srcOk src S1 (dCompL st t f src xs acc ρ S1 k)) noE
def dLc (st : D → Rho → Option Rho) (t : FT) (f : FE) (fi : FI) : FE := fun ρ S Q Ed => fi ρ S (fun is S1 => is.1.length ≤ sizeLine ∧ dCompL st t f is.2 is.1 [] ρ S1 fun acc S2 => Q (.lst false acc) S2) Ed
/-- a list that will be changed -/
def dLcC (st : D → Rho → Option Rho) (t : FT) (f : FE) (fi : FI) : FE := fun ρ S Q Ed => fi ρ S (fun is S1 => is.1.length ≤ sizeLine ∧ dCompL st t f is.2 is.1 [] ρ S1 fun acc S2 => Q (.cell S2.length) (S2 ++ [.lst acc])) Ed
def st1 (j : Nat) : D → Rho → Option Rho := fun x ρ => some (ρ.set j (some x))
def st2 (i j : Nat) : D → Rho → Option Rho := fun x ρ => match x with
  | .tup [a, b] => some ((ρ.set i (some a)).set j (some b))
  | _ => none
/-- what the target does -/
def LcT (c : Ct) (g : TG) (st : D → Rho → Option Rho) (vs : List Nat) : Prop :=
  ∀ {μ : Mu} {S : Sto} {H : Hp} {σ : L2.St} {ρ ρ1 : Rho} {x : V} {d : D} {k : L2.St → Hp → Prop}, Wd c μ S H → EnvR c μ H σ ρ → Rp c μ H x d → st d ρ = some ρ1 → (∀ σ2, EnvR c μ H σ2 ρ1 → wipe σ2 vs = wipe σ vs → k σ2 H) → g x (wipe σ vs) H k
theorem lct1 {c : Ct} {j : Nat} : LcT c (gName j) (st1 j) [j] := by
  intro μ S H σ ρ ρ1 x d k w en r e h
  cases e
  show k ((σ.set j none).set j (some x)) H
  rw [List.set_set]
  exact h _ (en.set r) (by show ((σ.set j (some x)).set j none) = σ.set j none; rw [List.set_set])
theorem lct2 {c : Ct} {i j : Nat} (ne : i ≠ j) : LcT c (gTup c.K 2 (gCons (gName i) (gCons (gName j) gNil))) (st2 i j) [i, j] := by
  intro μ S H σ ρ ρ1 x d k w en r e h
  unfold st2 at e
  split at e
  · cases e
    obtain ⟨a, vs, rfl, ha, ra⟩ := r.tup_inv
    obtain ⟨u, v, rfl, ru, rv⟩ := ra.two
    refine ⟨a, [u, v], rfl, SqT.of ha, rfl, u, [v], rfl, v, [], rfl, rfl, ?_⟩
    show k ((((σ.set j none).set i none).set i (some u)).set j (some v)) H
    rw [List.set_set, List.set_comm none (some u) (Ne.symm ne), List.set_set]
    refine h _ ((en.set ru).set rv) ?_
    show ((((σ.set i (some u)).set j (some v)).set j none).set i none) = ((σ.set j none).set i none)
    rw [List.set_set, List.set_comm none none (Ne.symm ne), List.set_set, List.set_comm none none ne]
  · cases e
section
variable {c : Ct} {m av : List Addr} {D1 : Addr} {H : Hp} {S : Sto} {vs : List V}
theorem kpD {ws : List V} (hD : H D1 = some (.lst vs)) : Kp c ⟨m, D1 :: av⟩ H ⟨m, D1 :: av⟩ (upd H D1 (.lst ws)) where
  t := fun a xs e => by rw [upd_ne (fun z => by rw [z, hD] at e; cases e)]; exact e
  l := fun a xs e n1 n2 => by
    have ne : a ≠ D1 := fun z => n2 (by rw [z]; exact List.mem_cons_self)
    rcases e with e | ⟨o, e⟩
    · exact ⟨.inl (by rw [upd_ne ne]; exact e), n1, n2⟩
    · exact ⟨.inr ⟨o, by rw [upd_ne ne]; exact e⟩, n1, n2⟩
  m := fun a xs e n1 n2 => ⟨by rw [upd_ne (fun z => n2 (by rw [z]; exact List.mem_cons_self))]; exact e, n1, n2⟩
  d := fun a ps e n n2 => ⟨by rw [upd_ne (fun z => by rw [z, hD] at e; cases e)]; exact e, n, n2⟩
  i := fun a C dx fs e n n2 => ⟨by rw [upd_ne (fun z => by rw [z, hD] at e; cases e)]; exact e, n, n2⟩
  cl := fun _ _ h => h
  x := fun a fv e => by rw [upd_ne (fun z => by rw [z, hD] at e; cases e)]; exact e
  f := fun a ob φ e => ⟨by rw [upd_ne (fun z => by rw [z, hD] at e; cases e)]; exact e, fun n => n⟩
  g := fun a φ e _ => by rw [upd_ne (fun z => by rw [z, hD] at e; cases e)]; exact e
  gm := fun a φ e n1 n2 => ⟨by rw [upd_ne (fun z => by rw [z, hD] at e; cases e)]; exact e, n1, n2⟩
theorem wdD {ws : List V} (w : Wd c ⟨m, D1 :: av⟩ S H) (hD : H D1 = some (.lst vs)) : Wd c ⟨m, D1 :: av⟩ S (upd H D1 (.lst ws)) :=
  ⟨w.nd, w.len, w.ap, fun a h => upd_some (w.avs a h), fun i a x h1 h2 => ClOk.kp (kpD hD) (fun o e => by
    rw [upd_ne (fun z => w.ap a (List.mem_of_getElem? h1) (by rw [z]; exact List.mem_cons_self))]
    exact e) (w.ok i a x h1 h2), w.tb.upd (fun φ z => by rw [hD] at z; cases z) (fun φ _ z => by rw [hD] at z; cases z)⟩
theorem kpStart {μ : Mu} (hD : H D1 = none) : Kp c μ H ⟨μ.m, D1 :: μ.av⟩ (upd H D1 (.lst [])) := by
  have av2 : ∀ {a : Addr} {o : HO}, H a = some o → a ∉ μ.av → a ∉ D1 :: μ.av := fun e n z => by
    rcases List.mem_cons.mp z with z | z
    · exact ne_of_none e hD z
    · exact n z
  refine ⟨fun a xs e => ?_, fun a xs e n1 n2 => ?_, fun a xs e n1 n2 => ⟨?_, n1, av2 e n2⟩, fun a ps e n n2 => ⟨?_, n, av2 e n2⟩, fun a C dx fs e n n2 => ⟨?_, n, av2 e n2⟩, (fun _ _ h => h), fun a fv e => ?_, fun a ob φ e => ⟨by rw [upd_ne (ne_of_none e hD)]; exact e, av2 e⟩, fun a φ e _ => by rw [upd_ne (ne_of_none e hD)]; exact e, fun a φ e n1 n2 => ⟨by rw [upd_ne (ne_of_none e hD)]; exact e, n1, av2 e n2⟩⟩
  · rw [upd_ne (ne_of_none e hD)]; exact e
  · rcases e with e | ⟨o, e⟩
    · exact ⟨.inl (by rw [upd_ne (ne_of_none e hD)]; exact e), n1, av2 e n2⟩
    · exact ⟨.inr ⟨o, by rw [upd_ne (ne_of_none e hD)]; exact e⟩, n1, av2 e n2⟩
  · rw [upd_ne (ne_of_none e hD)]; exact e
  · rw [upd_ne (ne_of_none e hD)]; exact e
  · rw [upd_ne (ne_of_none e hD)]; exact e
  · rw [upd_ne (ne_of_none e hD)]; exact e
theorem wdStart {μ : Mu} (w : Wd c μ S H) (hD : H D1 = none) : Wd c ⟨μ.m, D1 :: μ.av⟩ S (upd H D1 (.lst [])) :=
  ⟨w.nd, w.len, fun a h z => by
    rcases List.mem_cons.mp z with z | z
    · exact w.fresh hD (z ▸ h)
    · exact w.ap a h z, fun a h => by
    rcases List.mem_cons.mp h with h | h
    · rw [h, upd_same]; exact fun z => nomatch z
    · exact upd_some (w.avs a h), fun i a x h1 h2 => ClOk.kp (kpStart hD) (fun o e => by rw [upd_ne (ne_of_none e hD)]; exact e) (w.ok i a x h1 h2), w.tb.upd (fun φ z => by rw [hD] at z; cases z) (fun φ _ z => by rw [hD] at z; cases z)⟩
theorem kpEnd : Kp c ⟨m, D1 :: av⟩ H ⟨m, av⟩ H :=
  ⟨fun _ _ e => e, fun _ _ e n1 n2 => ⟨e, n1, fun z => n2 (List.mem_cons_of_mem _ z)⟩, fun _ _ e n1 n2 => ⟨e, n1, fun z => n2 (List.mem_cons_of_mem _ z)⟩, fun _ _ e n1 n2 => ⟨e, n1, fun z => n2 (List.mem_cons_of_mem _ z)⟩, fun _ _ _ _ e n1 n2 => ⟨e, n1, fun z => n2 (List.mem_cons_of_mem _ z)⟩, (fun _ _ h => h), fun _ _ e => e, fun _ _ _ e => ⟨e, fun n z => n (List.mem_cons_of_mem _ z)⟩, fun _ _ e _ => e, fun _ _ e n1 n2 => ⟨e, n1, fun z => n2 (List.mem_cons_of_mem _ z)⟩⟩
theorem kpEndC (hD : H D1 = some (.lst vs)) : Kp c ⟨m, D1 :: av⟩ H ⟨m ++ [D1], av⟩ H := by
  have nm : ∀ {a : Addr}, a ∉ m → a ≠ D1 → a ∉ m ++ [D1] := fun n1 n2 z => by
    rcases List.mem_append.mp z with z | z
    · exact n1 z
    · exact n2 (List.mem_singleton.mp z)
  have ne : ∀ {a : Addr}, a ∉ D1 :: av → a ≠ D1 := fun n z => n (by rw [z]; exact List.mem_cons_self)
  refine ⟨fun _ _ e => e, fun _ _ e n1 n2 => ⟨e, nm n1 (ne n2), fun z => n2 (List.mem_cons_of_mem _ z)⟩, fun _ _ e n1 n2 => ⟨e, nm n1 (ne n2), fun z => n2 (List.mem_cons_of_mem _ z)⟩, fun a _ e n1 n2 => ⟨e, nm n1 (ne n2), fun z => n2 (List.mem_cons_of_mem _ z)⟩,
    fun a _ _ _ e n1 n2 => ⟨e, nm n1 (ne n2), fun z => n2 (List.mem_cons_of_mem _ z)⟩, fun n a h => ?_, fun _ _ e => e, fun _ _ _ e => ⟨e, fun n z => n (List.mem_cons_of_mem _ z)⟩, fun _ _ e _ => e, fun a _ e n1 n2 => ⟨e, nm n1 (ne n2), fun z => n2 (List.mem_cons_of_mem _ z)⟩⟩
  show (m ++ [D1])[n]? = some a
  rw [List.getElem?_append_left (List.getElem?_eq_some_iff.mp (show m[n]? = some a from h)).1]
  exact h
end
/-- the state of a comprehension: D1 the list that is made -/
def LcI (c : Ct) (μ1 : Mu) (H1 : Hp) (D1 : Addr) (σ : L2.St) (ρ : Rho) (Anc : Mu → Hp → Prop) (src : Src) (i : Nat) (go : List D → Sto → Prop) (H : Hp) : Prop :=
  ∃ m' S' acc vs, acc.length ≤ i ∧ Wd c ⟨m', D1 :: μ1.av⟩ S' H ∧ (∃ t, m' = μ1.m ++ t) ∧ (∀ a o, H1 a = some o → a ∉ μ1.m → (∀ ps, o ≠ .tbl ps) → H a = some o ∧ a ∉ m') ∧ H D1 = some (.lst vs) ∧ RpAll c ⟨m', D1 :: μ1.av⟩ H vs acc ∧
    EnvR c ⟨m', D1 :: μ1.av⟩ H σ ρ ∧ Anc ⟨m', D1 :: μ1.av⟩ H ∧ (∀ p ∈ src, S'[p.1]? = some (.lst p.2)) ∧ go acc S'
theorem pxNo {c : Ct} {μ : Mu} {H : Hp} {E : XK} : PX c μ H noE E := fun _ _ _ _ _ _ h => h.elim
theorem lc_W {c : Ct} {g : TG} {st : D → Rho → Option Rho} {t : FT} {f : FE} {vs : List Nat} {μ1 : Mu} {S1 : Sto} {H1 : Hp} {σ : L2.St} {ρ : Rho} {J : It} {items : List D} {src : Src} {Anc : Mu → Hp → Prop} {k : List D → Sto → Prop} {D1 : Addr} {Qd : Hp → Prop} {E : L2.St → XK}
    (hT : LcT c g st vs) (w1 : Wd c μ1 S1 H1) (en1 : EnvR c μ1 H1 σ ρ) (ok : ItOk c J items src Anc) (anc : Anc μ1 H1) (hsrc : ∀ p ∈ src, S1[p.1]? = some (.lst p.2)) (hz : items.length ≤ sizeLine)
    (h : dCompL st t f src items [] ρ S1 k) (nD : H1 D1 = none) (fin : ∀ H, LcI c μ1 H1 D1 σ ρ Anc src items.length k H → Qd H) :
    ∃ W : Nat → Nat → Hp → Prop, (∃ m, W 0 m (upd H1 D1 (.lst []))) ∧ ∀ i m H, W i m H →
      (J.stop i H ∧ Qd H) ∨ (J.go i H ∧ ∃ Nx : Hp → Prop, (∀ H', Nx H' → ∃ m', m' < m ∧ W (i + 1) m' H') ∧ ∀ x H', J.yld i H x H' → g x (wipe σ vs) H' fun σ2 H2 => wipe σ2 vs = wipe σ vs ∧ tT c E t σ2 H2 fun b H3 =>
        if b = true then tD c E f σ2 H3 fun y H4 => ∃ acc, H4 D1 = some (.lst acc) ∧ acc.length < sizeLine ∧ Nx (upd H4 D1 (.lst (acc ++ [y]))) else Nx H3) := by
  refine ⟨fun i m H => m = items.length - i ∧ i ≤ items.length ∧ LcI c μ1 H1 D1 σ ρ Anc src i (fun acc S => dCompL st t f src (items.drop i) acc ρ S k) H, ⟨_, rfl, Nat.zero_le _, ?_⟩, ?_⟩
  · refine ⟨μ1.m, S1, [], [], Nat.le_refl _, wdStart w1 nD, ⟨[], by simp⟩, fun a o e n _ => ⟨?_, n⟩, upd_same, .nil, en1.kp (kpStart nD), ok.keep anc (kpStart nD), hsrc, h⟩
    rw [upd_ne (ne_of_none e nD)]
    exact e
  · rintro i m H ⟨rfl, hi, m', S', acc, ws, hl, w, ⟨tt, em⟩, keep, hD, ra, en, anc', hs', h'⟩
    by_cases hlt : i < items.length
    · have hx := List.getElem?_eq_getElem hlt
      obtain ⟨go, yl⟩ := ok.go anc' w hs' i _ hx
      rw [drop_cons hx] at h'
      refine .inr ⟨go, fun H' => i + 1 ≤ items.length ∧ LcI c μ1 H1 D1 σ ρ Anc src (i + 1) (fun acc S => dCompL st t f src (items.drop (i + 1)) acc ρ S k) H', fun H' hN => ⟨_, by omega, rfl, hN.1, hN.2⟩, fun x H2 hy => ?_⟩
      obtain ⟨fy, wy, ry⟩ := yl x H2 hy
      obtain ⟨ρ1, e1, h1⟩ := onSome_of h'
      refine hT wy (en.fw w fy) ry e1 fun σ2 en2 hw => ⟨hw, ?_⟩
      refine tR_of wy en2 h1 pxNo fun b S3 b' H3 μ3 h3 f3 w3 en3 px3 r3 => ?_
      cases (r3 : b' = b)
      have nDm : ∀ {μ : Mu} {S : Sto} {HH : Hp}, Wd c μ S HH → μ.av = D1 :: μ1.av → D1 ∉ μ.m := fun wx ex z => wx.ap D1 z (by rw [ex]; exact List.mem_cons_self)
      have all3 : ∀ {μ4 : Mu} {H4 : Hp} {S4 : Sto}, Wd c μ4 S4 H4 → Fw ⟨m', D1 :: μ1.av⟩ H μ4 H4 → μ4 = ⟨μ4.m, D1 :: μ1.av⟩ ∧ (∃ t, μ4.m = μ1.m ++ t) ∧ (∀ a o, H1 a = some o → a ∉ μ1.m → (∀ ps, o ≠ .tbl ps) → H4 a = some o ∧ a ∉ μ4.m) ∧ H4 D1 = some (.lst ws) ∧ RpAll c μ4 H4 ws acc ∧ EnvR c μ4 H4 σ ρ ∧ Anc μ4 H4 := fun {μ4 H4 S4} w4 ff => by
        have eav : μ4.av = D1 :: μ1.av := ff.av
        refine ⟨by rw [← eav], ?_, fun a o e n nt => ?_, (ff.keep D1 _ hD (nDm w rfl) (fun _ z => nomatch z)).1, ra.fw w ff, en.fw w ff, ok.keep anc' (w.kp ff)⟩
        · obtain ⟨t2, e2⟩ := ff.pre
          exact ⟨tt ++ t2, by rw [e2]; show m' ++ t2 = _; rw [em, List.append_assoc]⟩
        · obtain ⟨q1, q2⟩ := keep a o e n nt
          exact ff.keep a o q1 q2 nt
      split
      · rename_i hb
        rw [if_pos hb] at h3
        refine tR_of w3 en3 h3 pxNo fun y S4 vy H4 μ4 h4 f4 w4 en4 px4 r4 => ?_
        obtain ⟨e4, t4, k4, D4, ra4, en4', anc4⟩ := all3 w4 (fy.trans (f3.trans f4))
        rw [e4] at w4 ra4 en4' anc4 r4
        obtain ⟨q1, q2⟩ := srcOk_iff.mp h4
        refine ⟨ws, D4, by rw [ra4.length]; omega, hlt, ?_⟩
        refine ⟨μ4.m, S4, acc ++ [y], ws ++ [vy], by rw [List.length_append]; show acc.length + 1 ≤ i + 1; omega, wdD w4 D4, t4, fun a o e n nt => ?_, upd_same, (ra4.append (.cons r4 .nil)).kp (kpD D4), en4'.kp (kpD D4), ok.keep anc4 (kpD D4), q1, q2⟩
        obtain ⟨z1, z2⟩ := k4 a o e n nt
        refine ⟨?_, z2⟩
        rw [upd_ne (ne_of_none e nD)]
        exact z1
      · rename_i hb
        rw [if_neg hb] at h3
        obtain ⟨e4, t4, k4, D4, ra4, en4', anc4⟩ := all3 w3 (fy.trans f3)
        rw [e4] at w3 ra4 en4' anc4
        obtain ⟨q1, q2⟩ := srcOk_iff.mp h3
        exact ⟨hlt, μ3.m, S3, acc, ws, by omega, w3, t4, k4, D4, ra4, en4', anc4, q1, q2⟩
    · have e : i = items.length := by omega
      subst e
      rw [List.drop_length] at h'
      exact .inl ⟨ok.stop anc' w hs', fin H ⟨m', S', acc, ws, hl, w, ⟨tt, em⟩, keep, hD, ra, en, anc', hs', h'⟩⟩
section
variable {X : Cx} {E : L2.St → XK} {elt tg iter : Expr} {ifs : List Expr} {scope : Scope} {own : List (Str × Nat)} {pos : Pos} {fi : FI} {g : TG} {st : D → Rho → Option Rho} {t : FT} {f : FE}
theorem d_tnil : PTs X [] (tT (ct X) E dYes) := ⟨fun pins s σ H Q I ⟨μ, S, ρ, Qd, Ed, w, en, hf, q, px⟩ => pts_nil.run pins s σ H Q I (q true S true H μ hf Fw.refl w rfl)⟩
theorem d_tone {c : Expr} (h : PTd X E c t) : PTs X [c] (tT (ct X) E t) := pts_one h
theorem lc_end {c : Ct} {μ μ1 : Mu} {S S1 : Sto} {H H1 : Hp} {σ : L2.St} {ρ : Rho} {Anc : Mu → Hp → Prop} {src : Src} {n : Nat} {Qd : QD} {Q : VK} {D1 : Addr} (q : ∀ d S' v H' μ', Qd d S' → Fw μ H μ' H' → Wd c μ' S' H' → Rp c μ' H' v d → Q v H') (f1 : Fw μ H μ1 H1) (w1 : Wd c μ1 S1 H1) (nD : H1 D1 = none)
    {H' : Hp} (h : LcI c μ1 H1 D1 σ ρ Anc src n (fun acc S2 => Qd (.lst false acc) S2) H') : Q (.ref D1) H' := by
  obtain ⟨m', S', acc, ws, hl, w, ⟨tt, em⟩, keep, hD, ra, en, anc', hs', h'⟩ := h
  have f2 : Fw μ1 H1 ⟨m', μ1.av⟩ H' := ⟨⟨tt, em⟩, rfl, keep⟩
  have nm : D1 ∉ m' := fun z => w.ap D1 z List.mem_cons_self
  refine q _ S' _ H' ⟨m', μ1.av⟩ h' (f1.trans f2) ⟨w.nd, w.len, fun a h z => w.ap a h (List.mem_cons_of_mem _ z), fun a h => w.avs a (List.mem_cons_of_mem _ h), fun i a x h1 h2 => ClOk.kp kpEnd (fun _ e => e) (w.ok i a x h1 h2), w.tb⟩ ?_
  exact .lst hD nm (fun z => w1.avs D1 z nD) (fun z => nomatch z) (ra.kp kpEnd)
theorem lc_endC {c : Ct} {μ μ1 : Mu} {S S1 : Sto} {H H1 : Hp} {σ : L2.St} {ρ : Rho} {Anc : Mu → Hp → Prop} {src : Src} {n : Nat} {Qd : QD} {Q : VK} {D1 : Addr} (q : ∀ d S' v H' μ', Qd d S' → Fw μ H μ' H' → Wd c μ' S' H' → Rp c μ' H' v d → Q v H') (f1 : Fw μ H μ1 H1) (w1 : Wd c μ1 S1 H1) (nD : H1 D1 = none)
    {H' : Hp} (h : LcI c μ1 H1 D1 σ ρ Anc src n (fun acc S2 => Qd (.cell S2.length) (S2 ++ [.lst acc])) H') : Q (.ref D1) H' := by
  obtain ⟨m', S', acc, ws, hl, w, ⟨tt, em⟩, keep, hD, ra, en, anc', hs', h'⟩ := h
  have nm : D1 ∉ m' := fun z => w.ap D1 z List.mem_cons_self
  have f2 : Fw μ1 H1 ⟨m' ++ [D1], μ1.av⟩ H' := ⟨⟨tt ++ [D1], by show m' ++ [D1] = _; rw [em, List.append_assoc]⟩, rfl, fun a o e n nt => ⟨(keep a o e n nt).1, fun z => by
    rcases List.mem_append.mp z with z | z
    · exact (keep a o e n nt).2 z
    · exact ne_of_none e nD (List.mem_singleton.mp z)⟩⟩
  have hlen : m'.length = S'.length := w.len
  refine q _ _ _ H' ⟨m' ++ [D1], μ1.av⟩ h' (f1.trans f2) ⟨?_, ?_, fun a h z => ?_, fun a h => w.avs a (List.mem_cons_of_mem _ h), fun i a x h1 h2 => ?_, w.tb⟩ (.cell ?_)
  · show (m' ++ [D1]).Nodup
    rw [List.nodup_append]
    exact ⟨w.nd, by simp, fun a ha b hb e => nm (by rw [List.mem_singleton.mp hb] at e; exact e ▸ ha)⟩
  · show (m' ++ [D1]).length = (S' ++ [Cl.lst acc]).length
    rw [List.length_append, List.length_append, hlen]
    rfl
  · rcases List.mem_append.mp h with h | h
    · exact w.ap a h (List.mem_cons_of_mem _ z)
    · rw [List.mem_singleton.mp h] at z
      exact w1.avs D1 z nD
  · by_cases hi : i < m'.length
    · have h1' : m'[i]? = some a := by rw [← List.getElem?_append_left hi]; exact h1
      rw [List.getElem?_append_left (by omega)] at h2
      exact ClOk.kp (kpEndC hD) (fun _ e => e) (w.ok i a x h1' h2)
    · have h1' : (m' ++ [D1])[i]? = some a := h1
      have hi2 : i = m'.length := by
        have := (List.getElem?_eq_some_iff.mp h1').1
        simp at this
        omega
      subst hi2
      rw [List.getElem?_append_right (Nat.le_refl _), Nat.sub_self] at h1'
      cases h1'
      rw [List.getElem?_append_right (by omega), hlen, Nat.sub_self] at h2
      cases h2
      exact ⟨ws, hD, ra.kp (kpEndC hD)⟩
  · show (m' ++ [D1])[S'.length]? = some D1
    rw [← hlen, List.getElem?_append_right (Nat.le_refl _), Nat.sub_self]
    rfl
theorem d_lc (hT : LcT (ct X) g st (own.map (·.2))) (hc : X.calm = true) (hN : X.N.Nodup) (hi : PId X E tg iter fi) (ok : BlkOk X.N X.env.scope scope own)
    (hg : ∀ (s : Shared) (H : Hp) (C : Addr) (cl : List (Str × Addr)) (fp : List Addr), PG (X.blk s H scope (compEnvC scope cl C X.env) fp) tg g)
    (ht : ∀ (s : Shared) (H : Hp) (C : Addr) (cl : List (Str × Addr)) (fp : List Addr), PTs (X.blk s H scope (compEnvC scope cl C X.env) fp) ifs (tT (ct X) (cE E0) t))
    (he : ∀ (s : Shared) (H : Hp) (C : Addr) (cl : List (Str × Addr)) (fp : List Addr), PE (X.blk s H scope (compEnvC scope cl C X.env) fp) elt (tD (ct X) (cE E0) f)) (hs : ∀ x, foldedSetIterable iter X.env x = pure x := by intro _; rfl) :
    PEd X E (.ListComp elt [⟨tg, iter, ifs, 0⟩] scope pos) (dLc st t f fi) := by
  refine PE.imp (pe_lc hc hN hi ok hg ht he hs) fun σ H Q ⟨μ, S, ρ, Qd, Ed, w, en, hf, q, px⟩ => ?_
  refine ⟨μ, S, ρ, _, Ed, w, en, hf, fun is S1 H1 μ1 J Anc h1 f1 w1 ok' anc hsrc D1 nD => ?_, px⟩
  exact lc_W hT w1 (en.fw w f1) ok' anc hsrc h1.1 h1.2 nD fun H' h => lc_end (S := S) q f1 w1 nD h
theorem d_lcC (hT : LcT (ct X) g st (own.map (·.2))) (hc : X.calm = true) (hN : X.N.Nodup) (hi : PId X E tg iter fi) (ok : BlkOk X.N X.env.scope scope own)
    (hg : ∀ (s : Shared) (H : Hp) (C : Addr) (cl : List (Str × Addr)) (fp : List Addr), PG (X.blk s H scope (compEnvC scope cl C X.env) fp) tg g)
    (ht : ∀ (s : Shared) (H : Hp) (C : Addr) (cl : List (Str × Addr)) (fp : List Addr), PTs (X.blk s H scope (compEnvC scope cl C X.env) fp) ifs (tT (ct X) (cE E0) t))
    (he : ∀ (s : Shared) (H : Hp) (C : Addr) (cl : List (Str × Addr)) (fp : List Addr), PE (X.blk s H scope (compEnvC scope cl C X.env) fp) elt (tD (ct X) (cE E0) f)) (hs : ∀ x, foldedSetIterable iter X.env x = pure x := by intro _; rfl) :
    PEd X E (.ListComp elt [⟨tg, iter, ifs, 0⟩] scope pos) (dLcC st t f fi) := by
  refine PE.imp (pe_lc hc hN hi ok hg ht he hs) fun σ H Q ⟨μ, S, ρ, Qd, Ed, w, en, hf, q, px⟩ => ?_
  refine ⟨μ, S, ρ, _, Ed, w, en, hf, fun is S1 H1 μ1 J Anc h1 f1 w1 ok' anc hsrc D1 nD => ?_, px⟩
  exact lc_W hT w1 (en.fw w f1) ok' anc hsrc h1.1 h1.2 nD fun H' h => lc_endC (S := S) q f1 w1 nD h
/-- name = [..] on one row -/
theorem d_setLc {E2 : XK} {i : Nat} {y : Str} {py spos : Pos} (hT : LcT (ct X) g st (own.map (·.2))) (hc : X.calm = true) (hN : X.N.Nodup) (hy : X.N[i]? = some y) (hyl : X.env.scope.names.lookup y = some .local)
    (hsw : swapsWith (.ListComp elt [⟨tg, iter, ifs, 0⟩] scope pos) (some (.Name y py)) spos.line X.env = pure true) (hi : PId X (cE E2) tg iter fi) (ok : BlkOk X.N X.env.scope scope own)
    (hg : ∀ (s : Shared) (H : Hp) (C : Addr) (cl : List (Str × Addr)) (fp : List Addr), PG (X.blk s H scope (compEnvC scope cl C X.env) fp) tg g)
    (ht : ∀ (s : Shared) (H : Hp) (C : Addr) (cl : List (Str × Addr)) (fp : List Addr), PTs (X.blk s H scope (compEnvC scope cl C X.env) fp) ifs (tT (ct X) (cE E0) t))
    (he : ∀ (s : Shared) (H : Hp) (C : Addr) (cl : List (Str × Addr)) (fp : List Addr), PE (X.blk s H scope (compEnvC scope cl C X.env) fp) elt (tD (ct X) (cE E0) f)) (hs : ∀ x, foldedSetIterable iter X.env x = pure x := by intro _; rfl) :
    PSd X E2 (.Assign [.Name y py] (.ListComp elt [⟨tg, iter, ifs, 0⟩] scope pos) spos) (dAsg (dLc st t f fi) (gN i)) := by
  refine PS.imp (ps_setLc hc hN hy hyl hsw hi ok hg ht he hs) fun D σ H ⟨μ, S, ρ, De, Ed, w, en, hf, k, px⟩ => ?_
  refine ⟨μ, S, ρ, _, Ed, w, en, hf, fun is S1 H1 μ1 J Anc h1 f1 w1 ok' anc hsrc D1 nD => ?_, px⟩
  refine lc_W (Qd := fun H' => D.nx (σ.set i (some (.ref D1))) H') hT w1 (en.fw w f1) ok' anc hsrc h1.1 h1.2 nD fun H' h => ?_
  exact lc_end (S := S) (Q := fun v H' => D.nx (σ.set i (some v)) H') (fun d S' v H' μ' hq ff w' r => k.nx _ S' _ H' μ' (setK_eq (k := fun ρ' => De.nx ρ' S') hq) ff w' ((en.fw w ff).set r)) f1 w1 nD h
end
end Pu
namespace Pu
open PySem PySem.Spec PyProof.Rows L2
/-! ## defs and their calls -/
def spF (c : Ct) (F : FF) : Sp := fun vs H Q E => ∃ μ S ds Qd Ed, Wd c μ S H ∧ RpAll c μ H vs ds ∧ F ds S Qd Ed ∧ PostV c μ H Qd Q ∧ PX c μ H Ed E
/-- a call in which the callee sees all cells -/
def dCallW (F : FF) (fa : FA) : FE := fun ρ S Q Ed => fa ρ S (fun ds S1 => F ds S1 Q Ed) Ed
mutual
/-- it mentions no cell but the first k -/
def below (k : Nat) : D → Bool
  | .cell n => decide (n < k)
  | .tup xs => belowAll k xs
  | .lst _ xs => belowAll k xs
  | .kls xs => belowAll k xs
  | .ins _ fs => belowFs k fs
  | .exc _ fs => belowFs k fs
  | .fn _ _ => false
  | .err _ fs => belowFs k fs
  | _ => true
def belowAll (k : Nat) : List D → Bool
  | [] => true
  | x :: xs => below k x && belowAll k xs
def belowFs (k : Nat) : List (Str × D) → Bool
  | [] => true
  | (_, x) :: xs => below k x && belowFs k xs
end
def Cl.below (k : Nat) : Cl → Bool
  | .lst xs => belowAll k xs
  | .ins _ fs => belowFs k fs
  | .dct _ _ => true
/-- a call in which the callee sees the first k cells -/
def dCall (k : Nat) (F : FF) (fa : FA) : FE := fun ρ S Q Ed => fa ρ S (fun ds S1 => (belowAll k ds = true ∧ (S1.take k).all (Cl.below k) = true) ∧
  F ds (S1.take k) (fun d S2 => S2.length = (S1.take k).length ∧ Q d (S2 ++ S1.drop k)) fun e S2 => S2.length = (S1.take k).length ∧ Ed e (S2 ++ S1.drop k)) Ed
section
variable {c : Ct} {μ : Mu} {H : Hp} {k : Nat}
def sub (μ : Mu) (k : Nat) : Mu := ⟨μ.m.take k, μ.m.drop k ++ μ.av⟩
theorem not_sub {a : Addr} (h1 : a ∉ μ.m) (h2 : a ∉ μ.av) : a ∉ (sub μ k).m ∧ a ∉ (sub μ k).av :=
  ⟨fun z => h1 (List.mem_of_mem_take z), fun z => by
    rcases List.mem_append.mp z with z | z
    · exact h1 (List.mem_of_mem_drop z)
    · exact h2 z⟩
theorem of_sub {a : Addr} (h1 : a ∉ (sub μ k).m) (h2 : a ∉ (sub μ k).av) : a ∉ μ.m ∧ a ∉ μ.av :=
  ⟨fun z => by
    rw [← List.take_append_drop k μ.m] at z
    rcases List.mem_append.mp z with z | z
    · exact h1 z
    · exact h2 (List.mem_append_left _ z), fun z => h2 (List.mem_append_right _ z)⟩
mutual
theorem Rp.sub : ∀ {v : V} {d : D}, Rp c μ H v d → below k d = true → Rp c (Pu.sub μ k) H v d
  | _, _, .non, _ => .non
  | _, _, .bl b, _ => .bl b
  | _, _, .int i, _ => .int i
  | _, _, .str x, _ => .str x
  | _, _, .tup h r, b => .tup h (RpAll.sub r b)
  | _, _, .lst h n1 n2 n3 r, b => .lst h (not_sub n1 n2).1 (not_sub n1 n2).2 n3 (RpAll.sub r b)
  | _, _, .kls h n1 n2 r, b => .kls h (not_sub n1 n2).1 (not_sub n1 n2).2 (RpAll.sub r b)
  | _, _, .klsK o its n h1 h2 h3 h4 h5 h6 r, b => .klsK o its n h1 h2 h3 h4 h5 h6 (RpAll.sub r b)
  | _, _, .dic h n n2, _ => .dic h (not_sub n n2).1 (not_sub n n2).2
  | _, _, .cell h, b => .cell (by
    show (μ.m.take k)[_]? = _
    rw [List.getElem?_take_of_lt (of_decide_eq_true b)]
    exact h)
  | _, _, .glo h r, _ => .glo h r
  | _, _, .ty n, _ => .ty n
  | _, _, .ins h n n2 g r, b => .ins h (not_sub n n2).1 (not_sub n n2).2 g (RpFs.sub r b)
  | _, _, .exc0 h g, _ => .exc0 h g
  | _, _, .exc1 h g e r, b => .exc1 h g e (RpFs.sub r b)
  | _, _, .fn _ _, b => nomatch b
  | _, _, .err0 h g, _ => .err0 h g
  | _, _, .err1 h g e r, b => .err1 h g ⟨e.1, not_sub e.2.1 e.2.2⟩ (RpFs.sub r b)
theorem RpAll.sub : ∀ {vs : List V} {ds : List D}, RpAll c μ H vs ds → belowAll k ds = true → RpAll c (Pu.sub μ k) H vs ds
  | _, _, .nil, _ => .nil
  | _, _, .cons h r, b => .cons (Rp.sub h (Bool.and_eq_true_iff.mp b).1) (RpAll.sub r (Bool.and_eq_true_iff.mp b).2)
theorem RpFs.sub : ∀ {vs : List (Str × V)} {ds : List (Str × D)}, RpFs c μ H vs ds → belowFs k ds = true → RpFs c (Pu.sub μ k) H vs ds
  | _, _, .nil, _ => .nil
  | _, _, .cons h r, b => .cons (Rp.sub h (Bool.and_eq_true_iff.mp b).1) (RpFs.sub r (Bool.and_eq_true_iff.mp b).2)
end
theorem Wd.disj {S : Sto} (w : Wd c μ S H) {a : Addr} (h1 : a ∈ μ.m.take k) (h2 : a ∈ μ.m.drop k) : False := by
  have nd := w.nd
  rw [← List.take_append_drop k μ.m, List.nodup_append] at nd
  exact nd.2.2 a h1 a h2 rfl
theorem Wd.sub {S : Sto} (w : Wd c μ S H) (hb : (S.take k).all (Cl.below k) = true) : Wd c (Pu.sub μ k) (S.take k) H := by
  refine ⟨?_, ?_, fun a h z => ?_, fun a h => ?_, fun i a x h1 h2 => ?_, w.tb⟩
  · show (μ.m.take k).Nodup
    have nd := w.nd
    rw [← List.take_append_drop k μ.m, List.nodup_append] at nd
    exact nd.1
  · show (μ.m.take k).length = (S.take k).length
    rw [List.length_take, List.length_take, w.len]
  · rcases List.mem_append.mp z with z | z
    · exact w.disj h z
    · exact w.ap a (List.mem_of_mem_take h) z
  · rcases List.mem_append.mp h with h | h
    · obtain ⟨o, e, _⟩ := w.there (List.mem_of_mem_drop h)
      rw [e]
      exact fun z => nomatch z
    · exact w.avs a h
  · have hi : i < k := by
      have := (List.getElem?_eq_some_iff.mp (show (μ.m.take k)[i]? = some a from h1)).1
      rw [List.length_take] at this
      omega
    have e1 : μ.m[i]? = some a := by
      rw [← List.getElem?_take_of_lt hi]
      exact h1
    have e2 : S[i]? = some x := by
      rw [← List.getElem?_take_of_lt hi]
      exact h2
    have bx : Cl.below k x = true := List.all_eq_true.mp hb x (List.mem_of_getElem? h2)
    have o := w.ok i a x e1 e2
    cases x with
    | lst ds =>
      obtain ⟨vs, h3, h4⟩ := o
      exact ⟨vs, h3, h4.sub bx⟩
    | ins cn fs =>
      obtain ⟨C, dx, fv, h3, h4, h5⟩ := o
      exact ⟨C, dx, fv, h3, h4, h5.sub bx⟩
    | dct ep ps => exact o
theorem kp_unsub : Kp c (Pu.sub μ k) H μ H := by
  have cl : ∀ (n : Nat) (a : Addr), (μ.m.take k)[n]? = some a → μ.m[n]? = some a := fun n a h => by
    have hi : n < k := by
      have := (List.getElem?_eq_some_iff.mp h).1
      rw [List.length_take] at this
      omega
    rw [← List.getElem?_take_of_lt hi]
    exact h
  exact ⟨fun _ _ e => e, fun _ _ e n1 n2 => ⟨e, (of_sub n1 n2).1, (of_sub n1 n2).2⟩, fun _ _ e n1 n2 => ⟨e, (of_sub n1 n2).1, (of_sub n1 n2).2⟩, fun _ _ e n1 n2 => ⟨e, (of_sub n1 n2).1, (of_sub n1 n2).2⟩, fun _ _ _ _ e n1 n2 => ⟨e, (of_sub n1 n2).1, (of_sub n1 n2).2⟩, cl, fun _ _ e => e, fun _ _ _ e => ⟨e, fun n z => n (List.mem_append_right _ z)⟩, fun _ _ e _ => e, fun _ _ e n1 n2 => ⟨e, (of_sub n1 n2).1, (of_sub n1 n2).2⟩⟩
/-- back from a callee that saw the first k cells -/
theorem Wd.back {S S2 : Sto} {H' : Hp} {μ' : Mu} (w : Wd c μ S H) (f : Fw (Pu.sub μ k) H μ' H') (w' : Wd c μ' S2 H') (hl : S2.length = (S.take k).length) :
    Fw μ H μ H' ∧ Wd c μ (S2 ++ S.drop k) H' ∧ μ' = Pu.sub μ k := by
  obtain ⟨t, e⟩ := f.pre
  have hmt : (μ.m.take k).length = (S.take k).length := by rw [List.length_take, List.length_take, w.len]
  have ht : t = [] := by
    have h1 := w'.len
    rw [e, List.length_append] at h1
    have h2 : (Pu.sub μ k).m.length = (S.take k).length := hmt
    have : t.length = 0 := by omega
    exact List.length_eq_zero_iff.mp this
  subst ht
  rw [List.append_nil] at e
  have em : μ' = Pu.sub μ k := by
    cases μ'
    cases e
    cases (show _ = (Pu.sub μ k).av from f.av)
    rfl
  subst em
  have fw : Fw μ H μ H' := ⟨⟨[], by simp⟩, rfl, fun a o ea na nt => ⟨(f.keep a o ea (fun z => na (List.mem_of_mem_take z)) nt).1, na⟩⟩
  refine ⟨fw, ⟨w.nd, ?_, w.ap, fun a h => ?_, fun i a x h1 h2 => ?_, w'.tb⟩, rfl⟩
  · rw [List.length_append, hl, List.length_take, List.length_drop, w.len]
    omega
  · exact w'.avs a (List.mem_append_right _ h)
  · by_cases hi : i < S2.length
    · rw [List.getElem?_append_left hi] at h2
      have hk : i < k := by rw [hl, List.length_take] at hi; omega
      have e1 : (Pu.sub μ k).m[i]? = some a := by
        show (μ.m.take k)[i]? = some a
        rw [List.getElem?_take_of_lt hk]
        exact h1
      exact ClOk.kp kp_unsub (fun _ z => z) (w'.ok i a x e1 h2)
    · have hge : S2.length ≤ i := by omega
      rw [List.getElem?_append_right hge, List.getElem?_drop] at h2
      have hlt : k + (i - S2.length) < S.length := (List.getElem?_eq_some_iff.mp h2).1
      have hl2 : S2.length = k := by rw [hl, List.length_take]; omega
      have ei : k + (i - S2.length) = i := by omega
      rw [ei] at h2
      have nt : a ∉ (Pu.sub μ k).m := fun z => by
        obtain ⟨j, hj, ej⟩ := List.getElem_of_mem (show a ∈ μ.m.take k from z)
        have hj2 : (μ.m.take k)[j]? = some a := List.getElem?_eq_some_iff.mpr ⟨hj, ej⟩
        have hjk : j < k := by rw [List.length_take] at hj; omega
        rw [List.getElem?_take_of_lt hjk] at hj2
        have := ix_uniq w.nd hj2 h1
        omega
      exact ClOk.kp (w.kp fw) (fun o eo => (f.keep a o eo nt ((w.ok i a x h1 h2).noT eo)).1) (w.ok i a x h1 h2)
end
section
variable {X : Cx} {cx : CXT} {lv : Nat} {fn : Addr} {dat : FuncData} {pars : List Str} {sp : Sp} {E : L2.St → XK} {nm : Str} {p1 p2 : Pos} {a0 : Expr} {as : List Expr} {ta : TA}
theorem passG : ∀ σ, PassesAt CX0 X σ (E σ) := fun _ _ _ _ _ _ _ z => z.elim
theorem runGS {pins : List (Addr × Obj)} {σ : L2.St} {H : Hp} {s : Shared} {Q : VK} {us : List Value} {xs : List V} {E1 : XK} (F : Rb.FnG X.prog X.w X.K X.mg X.base cx lv fn dat pars sp) (gd : X.A.guards = some []) (rm : Room lv X.A)
    (bi : Binds X.K dat pars []) (ps : PassesAt cx X σ E1) (I : Inv X pins σ H s) (vx : Vals xs us) (pro : sp xs H Q E1) :
    wpAny (model X.prog X.w) X.A (call (.ref fn) us) (EP X pins σ Q) X.xe s := by
  have l2 : (us ++ []).length = pars.length := by rw [List.append_nil]; exact vx.length ▸ F.many _ _ _ _ pro
  have b := bi s us I.kIn l2
  rw [List.append_nil] at b
  refine wpAny_call (codeAny_mono (F.goes X.A X.stack s H ⟨us, []⟩ us xs Q E1 rm gd I.env0 b vx pro) ?_)
  intro res s2 fin
  match res, fin with
  | .error e, fin => exact ps pins H s e s2 I fin
  | .ok (.ret u), fin => exact I.after fin
  | .ok .next, fin => exact (fin : False).elim
  | .ok .brk, fin => exact (fin : False).elim
  | .ok .cont, fin => exact (fin : False).elim
theorem pe_callGS (F : Rb.FnG X.prog X.w X.K X.mg X.base cx lv fn dat pars sp) (gd : X.A.guards = some []) (rm : Room lv X.A) (gl : Gl X nm) (at_ : X.mg nm = some (.ref fn)) (kp : PySem.W.keepIn X.K (.ref fn) = true)
    (bi : Binds X.K dat pars []) (ps : ∀ σ, PassesAt cx X σ (E σ)) (pa : PA X (a0 :: as) ta) (ndb : (nm == ("__debug__" : Str)) = false := by decide)
    (st1 : starEach (a0 :: as) X.env = (false, eval a0 X.env) :: starEach as X.env := by rfl) (st2 : (backTo p2 (starEach as X.env)).any (·.1) = false := by rfl) :
    PE X (.Call (.Name nm p1) (a0 :: as) [] p2) (tCallS sp E ta) := by
  constructor
  intro pins s σ H Q I pre
  refine wpAny_Call_Name_kw (ld_glob I gl at_ ?_ ndb)
  exact PySem.W.callWith_K (h₀ := X.base) I.ok.mod.kin kp (thn (pa.run p2 pins s σ H _ I pre) fun us s1 ⟨xs, H1, I1, rx, q1⟩ => ⟨I1.kIn, runGS F gd rm bi (ps σ) I1 rx q1⟩) st1 st2
end
section
variable {X : Cx} {E : L2.St → XK} {cx : CXT} {lv : Nat} {fn : Addr} {dat : FuncData} {pars : List Str} {nm : Str} {p1 p2 : Pos} {a0 : Expr} {as : List Expr} {FN : FF} {fa : FA}
theorem d_callW (F : Rb.FnG X.prog X.w X.K X.mg X.base cx lv fn dat pars (spF (ct X) FN)) (gd : X.A.guards = some []) (rm : Room lv X.A) (gl : Gl X nm) (at_ : X.mg nm = some (.ref fn)) (kp : PySem.W.keepIn X.K (.ref fn) = true)
    (bi : Binds X.K dat pars []) (ps : ∀ σ, PassesAt cx X σ (E σ)) (pa : PAd X E (a0 :: as) fa) (ndb : (nm == ("__debug__" : Str)) = false := by decide)
    (s1 : starEach (a0 :: as) X.env = (false, eval a0 X.env) :: starEach as X.env := by rfl) (s2 : (backTo p2 (starEach as X.env)).any (·.1) = false := by rfl) : PEd X E (.Call (.Name nm p1) (a0 :: as) [] p2) (dCallW FN fa) := by
  refine PE.imp (pe_callGS F gd rm gl at_ kp bi ps pa ndb s1 s2) fun σ H Q ⟨μ, S, ρ, Qd, Ed, w, en, hf, q, px⟩ => ?_
  refine tR_of w en hf px fun ds S1 vs H1 μ1 h1 f1 w1 en1 px1 r1 => ?_
  exact ⟨μ1, S1, ds, Qd, Ed, w1, r1, h1, PostV.fw q f1, px1⟩
theorem d_call (k : Nat) (F : Rb.FnG X.prog X.w X.K X.mg X.base cx lv fn dat pars (spF (ct X) FN)) (gd : X.A.guards = some []) (rm : Room lv X.A) (gl : Gl X nm) (at_ : X.mg nm = some (.ref fn)) (kp : PySem.W.keepIn X.K (.ref fn) = true)
    (bi : Binds X.K dat pars []) (ps : ∀ σ, PassesAt cx X σ (E σ)) (pa : PAd X E (a0 :: as) fa) (ndb : (nm == ("__debug__" : Str)) = false := by decide)
    (s1 : starEach (a0 :: as) X.env = (false, eval a0 X.env) :: starEach as X.env := by rfl) (s2 : (backTo p2 (starEach as X.env)).any (·.1) = false := by rfl) : PEd X E (.Call (.Name nm p1) (a0 :: as) [] p2) (dCall k FN fa) := by
  refine PE.imp (pe_callGS F gd rm gl at_ kp bi ps pa ndb s1 s2) fun σ H Q ⟨μ, S, ρ, Qd, Ed, w, en, hf, q, px⟩ => ?_
  refine tR_of w en hf px fun ds S1 vs H1 μ1 h1 f1 w1 en1 px1 r1 => ?_
  obtain ⟨⟨b1, b2⟩, h1⟩ := h1
  refine ⟨sub μ1 k, S1.take k, ds, _, _, w1.sub b2, r1.sub b1, h1, fun d S2 v H2 μ2 h2 f2 w2 r2 => ?_, fun e S2 cls dx H2 μ2 h2 f2 w2 r2 => ?_⟩
  · obtain ⟨f3, w3, rfl⟩ := w1.back f2 w2 h2.1
    exact q d _ v H2 μ1 h2.2 (f1.trans f3) w3 (r2.kp kp_unsub)
  · obtain ⟨f3, w3, rfl⟩ := w1.back f2 w2 h2.1
    refine px1 e _ cls dx H2 μ1 h2.2 f3 w3 ⟨r2.1, ?_⟩
    have r3 := r2.2
    split at r3
    · exact r3
    · obtain ⟨a, fv, z1, z2, z3⟩ := r3
      exact ⟨a, fv, z1, z2, z3.kp kp_unsub⟩
end
/-! ### what a def does -/
def startD (n : Nat) (ds : List D) : Rho := ds.map some ++ List.replicate (n - ds.length) none
theorem startD_env {c : Ct} {μ : Mu} {H : Hp} {N : List Str} {vs : List V} {ds : List D} (r : RpAll c μ H vs ds) : EnvR c μ H (L2.start N vs) (startD N.length ds) := by
  refine ⟨?_, fun i d h => ?_⟩
  · unfold L2.start startD
    rw [List.length_append, List.length_append, List.length_map, List.length_map, List.length_replicate, List.length_replicate, r.length]
  · unfold L2.start
    unfold startD at h
    have hl := r.length
    by_cases hi : i < ds.length
    · rw [List.getElem?_append_left (by rw [List.length_map]; exact hi), List.getElem?_map] at h
      obtain ⟨d', e1, e2⟩ := Option.map_eq_some_iff.mp h
      cases e2
      obtain ⟨v, e3, rv⟩ := r.at e1
      refine ⟨v, ?_, rv⟩
      rw [List.getElem?_append_left (by rw [List.length_map]; omega), List.getElem?_map, e3]
      rfl
    · rw [List.getElem?_append_right (by rw [List.length_map]; omega)] at h
      have := List.mem_of_getElem? h
      cases (List.mem_replicate.mp this).2
/-- a def without cells of its own, or one whose new cells stay -/
def dDef (np n : Nat) (fb : FS) : FF := fun ds S Q Ed => ds.length = np ∧ fb (startD n ds) S { nx := fun _ S' => Q .non S', rt := Q, bk := fun _ _ => False, ct := fun _ _ => False } noE
/-- .. that may raise -/
def dDefX (np n : Nat) (fb : FS) : FF := fun ds S Q Ed => ds.length = np ∧ fb (startD n ds) S { nx := fun _ S' => Q .non S', rt := Q, bk := fun _ _ => False, ct := fun _ _ => False } Ed
/-- a value that leaves a def whose cells, from n on, are gone -/
def frz (S : Sto) (n : Nat) : D → Option D
  | .cell k => if k < n then some (.cell k) else match S[k]? with
    | some (.lst xs) => if belowAll n xs = true then some (.lst false xs) else none
    | some (.ins x fs) => if belowFs n fs = true then some (.ins x fs) else none
    | some (.dct _ _) => none
    | none => none
  | d => if below n d = true then some d else none
/-- a def with cells of its own -/
def dDefC (np n : Nat) (fb : FS) : FF := fun ds S Q Ed => ds.length = np ∧ fb (startD n ds) S
  { nx := fun _ S' => ((S'.take S.length).length = S.length ∧ (S'.take S.length).all (Cl.below S.length) = true) ∧ Q .non (S'.take S.length),
    rt := fun d S' => ((S'.take S.length).length = S.length ∧ (S'.take S.length).all (Cl.below S.length) = true) ∧ onSome (frz S' S.length d) fun d' => Q d' (S'.take S.length), bk := fun _ _ => False, ct := fun _ _ => False } noE
section
variable {pr : Program} {wo : World} {K : PySem.W.Frag} {mg : Str → Option Value} {b0 : Heap} {lv : Nat} {x qn : Str} {st : Stmt} {fn : Addr} {dat : FuncData} {NN pars : List Str} {fb : FS}
theorem d_fn (F : Fun K x qn st fn dat) (S : FnScope NN pars (defScope st))
    (body : ∀ (cdv : Value) (A : Around) (out : List Env) (s : Shared) (H : Hp) (E : XK), A.guards = some [] → Room lv (A.deeper (envOfC qn (defScope st) s.heap.objs.size fn cdv)) → PBd (cxOf CX0 pr wo K mg b0 NN qn (defScope st) fn cdv A out s H E).nox E0 (defBody st) fb) :
    Rb.FnG pr wo K mg b0 CX0 (lv + 1) fn dat pars (spF (ct0 K mg) (dDef pars.length NN.length fb)) := by
  refine Rb.okG F S (fun xs H Q E pro => ?_) fun cdv A out s H xs Q E gd rm pro => ⟨_, body cdv A out s H E gd rm, ?_⟩
  · obtain ⟨μ, S, ds, Qd, Ed, w, r, ⟨hl, _⟩, _⟩ := pro
    rw [r.length]
    exact hl
  · obtain ⟨μ, S, ds, Qd, Ed, w, r, ⟨hl, h⟩, q, px⟩ := pro
    exact ⟨μ, S, _, _, noE, w, startD_env r, h, ⟨fun ρ' S' σ' H' μ' hq f w' en => q .non S' .non H' μ' hq f w' .non, q, fun _ _ _ _ _ z => z.elim, fun _ _ _ _ _ z => z.elim⟩, pxNo⟩
theorem Wd.drop {c : Ct} {μ μ' : Mu} {S S' : Sto} {H H' : Hp} (w : Wd c μ S H) (f : Fw μ H μ' H') (w' : Wd c μ' S' H') (hb : (S'.take S.length).all (Cl.below S.length) = true) :
    Fw μ H μ H' ∧ Wd c μ (S'.take S.length) H' ∧ (Kp c (Pu.sub μ' S.length) H' μ H') := by
  obtain ⟨t, e⟩ := f.pre
  have em : (Pu.sub μ' S.length).m = μ.m := by
    show μ'.m.take S.length = μ.m
    rw [e, ← w.len, List.take_append_of_le_length (Nat.le_refl _), List.take_length]
  have ws := w'.sub hb
  have av2 : ∀ {a : Addr}, a ∉ (Pu.sub μ' S.length).av → a ∉ μ.av := fun n z => n (List.mem_append_right _ (by rw [f.av]; exact z))
  have kp : Kp c (Pu.sub μ' S.length) H' μ H' := ⟨fun _ _ e => e, fun _ _ e n1 n2 => ⟨e, em ▸ n1, av2 n2⟩, fun _ _ e n1 n2 => ⟨e, em ▸ n1, av2 n2⟩, fun _ _ e n1 n2 => ⟨e, em ▸ n1, av2 n2⟩, fun _ _ _ _ e n1 n2 => ⟨e, em ▸ n1, av2 n2⟩, (fun n a h => by rw [← em]; exact h), fun _ _ e => e, fun _ _ _ e => ⟨e, av2⟩, fun _ _ e _ => e, fun _ _ e n1 n2 => ⟨e, em ▸ n1, av2 n2⟩⟩
  refine ⟨⟨⟨[], by simp⟩, rfl, fun a o ea na nt => ⟨(f.keep a o ea na nt).1, na⟩⟩, ⟨w.nd, ?_, w.ap, fun a h => ?_, fun i a x h1 h2 => ClOk.kp kp (fun _ z => z) (ws.ok i a x (by rw [em]; exact h1) h2), w'.tb⟩, kp⟩
  · rw [← em]; exact ws.len
  · exact ws.avs a (List.mem_append_right _ (by rw [f.av]; exact h))
theorem d_fnC (F : Fun K x qn st fn dat) (S : FnScope NN pars (defScope st))
    (body : ∀ (cdv : Value) (A : Around) (out : List Env) (s : Shared) (H : Hp) (E : XK), A.guards = some [] → Room lv (A.deeper (envOfC qn (defScope st) s.heap.objs.size fn cdv)) → PBd (cxOf CX0 pr wo K mg b0 NN qn (defScope st) fn cdv A out s H E).nox E0 (defBody st) fb) :
    Rb.FnG pr wo K mg b0 CX0 (lv + 1) fn dat pars (spF (ct0 K mg) (dDefC pars.length NN.length fb)) := by
  refine Rb.okG F S (fun xs H Q E pro => ?_) fun cdv A out s H xs Q E gd rm pro => ⟨_, body cdv A out s H E gd rm, ?_⟩
  · obtain ⟨μ, S, ds, Qd, Ed, w, r, ⟨hl, _⟩, _⟩ := pro
    rw [r.length]
    exact hl
  · obtain ⟨μ, S, ds, Qd, Ed, w, r, ⟨hl, h⟩, q, px⟩ := pro
    refine ⟨μ, S, _, _, noE, w, startD_env r, h, ⟨fun ρ' S' σ' H' μ' hq f w' en => ?_, fun d S' v H' μ' hq f w' rv => ?_, fun _ _ _ _ _ z => z.elim, fun _ _ _ _ _ z => z.elim⟩, pxNo⟩
    · obtain ⟨f2, w2, _⟩ := w.drop f w' hq.1.2
      exact q .non _ .non H' μ hq.2 f2 w2 .non
    · obtain ⟨⟨_, hb⟩, hq⟩ := hq
      obtain ⟨f2, w2, kp⟩ := w.drop f w' hb
      obtain ⟨d', e, hq⟩ := onSome_of hq
      refine q d' _ v H' μ hq f2 w2 ?_
      unfold frz at e
      split at e
      · rename_i k
        split at e
        · rename_i hk
          cases e
          exact (rv.sub (k := S.length) (decide_eq_true hk)).kp kp
        · rename_i hk
          cases rv with
          | @cell k2 a hm =>
          have hmem := List.mem_of_getElem? hm
          have nm : a ∉ μ.m := fun z => by
            obtain ⟨t, et⟩ := f.pre
            obtain ⟨j, hj, ej⟩ := List.getElem_of_mem z
            have hj2 : μ'.m[j]? = some (μ.m[j]) := by rw [et, List.getElem?_append_left hj]; exact List.getElem?_eq_getElem hj
            rw [ej] at hj2
            have := ix_uniq w'.nd hj2 hm
            have := w.len
            omega
          split at e
          · rename_i ys e1
            split at e
            · rename_i hb2
              cases e
              obtain ⟨vs, h1, h2⟩ := w'.ok k _ _ hm e1
              exact .lst h1 nm (fun z => w'.ap _ hmem (by rw [f.av]; exact z)) (fun z => nomatch z) ((h2.sub hb2).kp kp)
            · cases e
          · rename_i y gs e1
            split at e
            · rename_i hb2
              cases e
              obtain ⟨C, dx, fv, h1, h2, h3⟩ := w'.ok k _ _ hm e1
              exact .ins h1 nm (fun z => w'.ap _ hmem (by rw [f.av]; exact z)) h2 ((h3.sub hb2).kp kp)
            · cases e
          · cases e
          · cases e
      · split at e
        · rename_i hb2
          cases e
          exact (rv.sub hb2).kp kp
        · cases e
end
end Pu
namespace Pu
open PySem PySem.Spec PyProof.Rows L2
/-! ## small dicts, list(range(n)), tuple(range(n)) -/
section
variable {X : Cx} {E : L2.St → XK} {pos : Pos} {a : Expr} {fe : FE}
theorem PostV.dic {c : Ct} {μ : Mu} {S : Sto} {H : Hp} {Qd : QD} {Q : VK} (q : PostV c μ H Qd Q) (w : Wd c μ S H) {ps : List (Str × Int)} (h : Qd (.dic ps) S) {p : Addr} (hp : H p = none) : Q (.ref p) (upd H p (.dK (Rb.dicV ps))) :=
  q _ S _ _ μ h (Fw.new hp) (w.new hp) (.dic upd_same (w.fresh hp) fun z => w.avs p z hp)
def rngOk (n : Int) : Prop := 0 ≤ n ∧ n ≤ 16777216
theorem rngOk.of {n : Int} (h : rngOk n) : RgOk 0 n := RgOk.of_le (Int.le_refl _) h.2 (by decide) h.1
variable {p p2 p3 : Pos}
end
end Pu
namespace Pu
open PySem PySem.Spec PyProof.Rows L2
/-! ## min of a tuple or a list -/
theorem minOf_leastI : ∀ (ns : List Int) (n : Int), (PySem.W.minOf n ns ∈ n :: ns) ∧ ∀ q ∈ n :: ns, PySem.W.minOf n ns ≤ q
  | [], n => ⟨List.mem_cons_self, fun q hq => by
    rw [List.mem_singleton.mp hq]
    exact Int.le_refl _⟩
  | y :: ys, n => by
    have e : PySem.W.minOf n (y :: ys) = PySem.W.minOf (if PySem.W.DatumOrd.lt y n = true then y else n) ys := rfl
    rw [e]
    have l1 : (PySem.W.DatumOrd.lt y n = true) ↔ y < n := by
      show decide (y < n) = true ↔ _
      exact decide_eq_true_iff
    by_cases c : PySem.W.DatumOrd.lt y n = true
    · rw [if_pos c]
      obtain ⟨h1, h2⟩ := minOf_leastI ys y
      refine ⟨List.mem_cons_of_mem _ h1, fun q hq => ?_⟩
      rcases List.mem_cons.mp hq with rfl | hq
      · have a := h2 y List.mem_cons_self
        have b := l1.mp c
        omega
      · exact h2 q hq
    · rw [if_neg c]
      obtain ⟨h1, h2⟩ := minOf_leastI ys n
      refine ⟨?_, fun q hq => ?_⟩
      · rcases List.mem_cons.mp h1 with h | h
        · rw [h]; exact List.mem_cons_self
        · exact List.mem_cons_of_mem _ (List.mem_cons_of_mem _ h)
      · rcases List.mem_cons.mp hq with rfl | hq
        · exact h2 q List.mem_cons_self
        · rcases List.mem_cons.mp hq with rfl | hq
          · have a := h2 n List.mem_cons_self
            have b : ¬ q < n := fun z => c (l1.mpr z)
            omega
          · exact h2 q (List.mem_cons_of_mem _ hq)
def rMinT (K : PySem.W.Frag) : List V → Hp → VK → Prop := fun vs H Q => ∃ (a : Addr) (ns : List Int), vs = [V.ref a] ∧ SqT K H a (ns.map V.int) ∧ ns ≠ [] ∧ ∀ m, m ∈ ns → (∀ y ∈ ns, m ≤ y) → Q (.int m) H
theorem cr_minT {X : Cx} (hc : X.calm = true) (hu : X.A.units + 64 < cLine) : CallR X (.builtin "min") (rMinT X.K) := by
  intro pins s σ H vs us Q I r h
  obtain ⟨a, ns, rfl, hs, hne, q⟩ := h
  obtain ⟨its, rv, hl, _⟩ := I.tuple hs
  rw [Vals.ref1 r]
  cases ns with
  | nil => exact absurd rfl hne
  | cons n ns =>
    obtain ⟨as, ra⟩ := Dp.readsAll I _ _ its (Rb.DpAll.ints (K := X.K) (n :: ns)) rv
    refine PySem.W.min_tuple_datum (α := Int) (x := n) (xs := ns) (I.ok.hd hc) (Rb.isTup_isTuple hl) ⟨as, ra⟩ (by show X.A.units + 1 + 0 < _; omega) fun i v h' tk hi hv hk => ?_
    obtain ⟨hm, hle⟩ := minOf_leastI ns n
    obtain ⟨cs, rm⟩ := hv
    have rm' : Reads h' v (.int (PySem.W.minOf n ns)) cs := rm
    cases rm' with
    | int _ t => exact ⟨.int _, H, I.kept hk, ⟨t, rfl⟩, q _ hm hle⟩
section
variable {X : Cx}
theorem c_min (hc : X.calm = true) (hu : X.A.units + 64 < cLine) : CallR X (.builtin "min") (rDs (ct X) gMin) := by
  intro pins s σ H vs us Q I r ⟨μ, S, ds, Qd, w, ra, hg, q⟩
  unfold gMin at hg
  split at hg
  · obtain ⟨v, u, rfl, rv, ru⟩ := ra.two
    cases rv.int_inv
    cases ru.int_inv
    exact call_min2 hc pins s σ H _ us Q I r ⟨_, _, rfl, q.same w (.int _) hg⟩
  · obtain ⟨v, rfl, rv⟩ := ra.one
    obtain ⟨xs, e, hg⟩ := onSome_of hg
    obtain ⟨ns, e2, ne, hg⟩ := onSome_of hg
    obtain ⟨a, ws, rfl, hs, rs⟩ := rv.seq w e
    rw [intsOf_inv e2] at rs
    rw [rs.ints] at hs
    have fin : ∀ m, m ∈ ns → (∀ y ∈ ns, m ≤ y) → Q (.int m) H := fun m h1 h2 => by
      rw [minL_uniq h1 h2]
      exact q.same w (.int _) hg
    rcases hs with hs | hs
    · exact cr_min hc pins s σ H _ us Q I r ⟨a, ns, rfl, hs, List.length_pos_iff.mpr ne, fun m h1 h2 => fin m h1 h2⟩
    · exact cr_minT hc hu pins s σ H _ us Q I r ⟨a, ns, rfl, hs, ne, fin⟩
  · exact hg.elim
end
/-! ## while -/
def dWhile (t : FT) (fb : FS) : FS := fun ρ S De Ed => ∃ W : Nat → Rho → Sto → Prop, (∃ m, W m ρ S) ∧ ∀ m ρ S, W m ρ S →
  t ρ S (fun b S1 => if b = true then fb ρ S1 { nx := fun ρ' S' => ∃ m', m' < m ∧ W m' ρ' S', ct := fun ρ' S' => ∃ m', m' < m ∧ W m' ρ' S', bk := De.nx, rt := De.rt } Ed else De.nx ρ S1) Ed
theorem d_while {X : Cx} {E : XK} {c : Expr} {body : List Stmt} {pos : Pos} {t : FT} {fb : FS} (hp : PassesOwn (model X.prog X.w) X.A X.env X.xe) (hc : PTd X (cE E) c t) (hb : PBd X E body fb) : PSd X E (.While c body [] pos) (dWhile t fb) := by
  refine PS.imp (ps_while hp hc hb) fun D σ H ⟨μ, S, ρ, De, Ed, w, en, ⟨W, ⟨m0, hm0⟩, turn⟩, k, px⟩ => ?_
  refine ⟨fun m σ' H' => ∃ μ' S' ρ', Fw μ H μ' H' ∧ Wd (ct X) μ' S' H' ∧ EnvR (ct X) μ' H' σ' ρ' ∧ W m ρ' S', ⟨m0, μ, S, ρ, Fw.refl, w, en, hm0⟩, ?_⟩
  rintro m σ' H' ⟨μ', S', ρ', f', w', en', hw⟩
  refine tR_of w' en' (turn m ρ' S' hw) (px.fw f') fun b S1 v H1 μ1 h1 f1 w1 en1 px1 r1 => ?_
  cases (r1 : v = b)
  have ff := f'.trans f1
  split
  · rename_i hv
    rw [if_pos hv] at h1
    refine ⟨fun σ2 H2 => ∃ m', m' < m ∧ ∃ μ2 S2 ρ2, Fw μ H μ2 H2 ∧ Wd (ct X) μ2 S2 H2 ∧ EnvR (ct X) μ2 H2 σ2 ρ2 ∧ W m' ρ2 S2, fun σ2 H2 h => h, ?_⟩
    refine ⟨μ1, S1, ρ', _, Ed, w1, en1, h1, ⟨fun ρ4 S4 σ4 H4 μ4 h4 f4 w4 en4 => ?_, k.rt.fw ff, fun ρ4 S4 σ4 H4 μ4 h4 f4 w4 en4 => k.nx ρ4 S4 σ4 H4 μ4 h4 (ff.trans f4) w4 en4, fun ρ4 S4 σ4 H4 μ4 h4 f4 w4 en4 => ?_⟩, px1⟩
    · obtain ⟨m', hm', hw'⟩ := h4
      exact ⟨m', hm', μ4, S4, ρ4, ff.trans f4, w4, en4, hw'⟩
    · obtain ⟨m', hm', hw'⟩ := h4
      exact ⟨m', hm', μ4, S4, ρ4, ff.trans f4, w4, en4, hw'⟩
  · rename_i hv
    rw [if_neg hv] at h1
    exact k.nx ρ' S1 σ' H1 μ1 h1 ff w1 en1
/-! ## remove, extend, pop() on a list that is a cell -/
def gExtend : GM := fun x ds S Q => match ds with
  | [d] => onSome (cellOf S x) fun nx => onSome (lstOf S d) fun zs => nx.2.length + zs.length ≤ sizeLine ∧ Q .non (S.set nx.1 (.lst (nx.2 ++ zs)))
  | _ => False
section
variable {X : Cx}
theorem m_extend : MtR X "list.extend" (rDm (ct X) gExtend) := by
  intro pins s σ H x xs v us Q I rx rs ⟨μ, S, d, ds, Qd, w, r1, ra, hg, q⟩
  unfold gExtend at hg
  split at hg
  · obtain ⟨y, rfl, ry⟩ := ra.one
    obtain ⟨⟨n, zs⟩, e, hg⟩ := onSome_of hg
    obtain ⟨ys, e2, hz, hg⟩ := onSome_of hg
    obtain ⟨a, vs, rfl, hm, ha, rz⟩ := w.cellL r1 e
    obtain ⟨b, ws, rfl, hb, rb⟩ := ry.lstT w e2
    exact mt_extend pins s σ H _ _ v us Q I rx rs ⟨a, b, vs, ws, rfl, rfl, ha, hb, by rw [rz.length, rb.length]; exact hz, q.cell w hm (rz.append rb) .non hg⟩
  · exact hg.elim
end
/-! ## repr and == that are not looked into -/
@[irreducible] def iRepr : List D → Sto → QD → Prop := gRepr
@[irreducible] def iEqB (neg : Bool) : G2 := gEqB neg
abbrev iEq : G2 := iEqB false
abbrev iNe : G2 := iEqB true
theorem iRepr_of {ds : List D} {S : Sto} {Q : QD} (h : gRepr ds S Q) : iRepr ds S Q := by
  unfold iRepr
  exact h
theorem iEqB_of {neg : Bool} {x y : D} {S : Sto} {Q : QD} (h : gEqB neg x y S Q) : iEqB neg x y S Q := by
  unfold iEqB
  exact h
theorem eq_str {neg : Bool} {a b : Str} {S : Sto} {Q : QD} (q : Q (.bl (nb neg (decide (a = b)))) S) : iEqB neg (.str a) (.str b) S Q := iEqB_of q
theorem eq_int {neg : Bool} {a b : Int} {S : Sto} {Q : QD} (q : Q (.bl (nb neg (decide (a = b)))) S) : iEqB neg (.int a) (.int b) S Q := iEqB_of q
theorem ne_str {neg : Bool} {a b : Str} {S : Sto} {Q : QD} (e : a = b) (q : Q (.bl (nb neg true)) S) : iEqB neg (.str a) (.str b) S Q := eq_str (by rw [decide_eq_true e]; exact q)
theorem ne_int {neg : Bool} {a b : Int} {S : Sto} {Q : QD} (e : a = b) (q : Q (.bl (nb neg true)) S) : iEqB neg (.int a) (.int b) S Q := eq_int (by rw [decide_eq_true e]; exact q)
section
variable {X : Cx}
theorem c_irepr (hg : X.A.guards = some []) (hu : X.A.units + 64 < cLine) : CallR X (.builtin "repr") (rDs (ct X) iRepr) := by
  unfold iRepr
  exact c_repr hg hu
theorem o_ieq (hu : X.A.units + 64 < cLine) : OpR X (compareOp .Eq) (rD2 (ct X) iEq) := by
  unfold iEq iEqB
  exact o_eq hu
theorem o_ine (hu : X.A.units + 64 < cLine) : OpR X (compareOp .NotEq) (rD2 (ct X) iNe) := by
  unfold iNe iEqB
  exact o_ne hu
end
/-! ## enumerate of a tuple or of a list -/
end Pu
namespace Pu
open PySem PySem.Spec PyProof.Rows L2
/-! ## is True, is False -/
section
variable {X : Cx}
/-! ## xs[::-1] of a list -/
def gRevL : D → Sto → QD → Prop := fun x S Q => onSome (lstOf S x) fun xs => Q (.lst false xs.reverse) S
theorem d_revL {E : L2.St → XK} {e : Expr} {fe : FE} {k : Nat} {p1 p2 p3 pos : Pos} (he : PEd X E e fe) : PEd X E (.Subscript e (.Slice none none (some (.UnaryOp .USub (.Constant (.int 1) k p1) p2)) p3) pos) (dUn gRevL fe) := by
  refine PE.imp (pe_revL he) fun σ H Q ⟨μ, S, ρ, Qd, Ed, w, en, hf, q, px⟩ => ?_
  refine tR_of w en hf px fun x S1 v H1 μ1 h1 f1 w1 en1 px1 r1 => ?_
  obtain ⟨xs, e1, hq⟩ := onSome_of h1
  obtain ⟨a, ws, rfl, ha, rs⟩ := r1.lstT w1 e1
  exact ⟨a, ws, rfl, SqL.of ha, fun p hp => PostV.lst (fun d S' v H' μ' h f w' r => q d S' v H' μ' h (f1.trans f) w' r) w1 rs.rev hq hp⟩
end
end Pu
namespace Pu
open PySem PySem.Spec PyProof.Rows L2
/-! ## instances: fields, methods, properties, new ones -/
/-- the field by its name -/
def lookF (f : Str) : List (Str × D) → Option D
  | [] => none
  | (g, d) :: r => if g = f then some d else lookF f r
section
variable {c : Ct} {μ : Mu} {S : Sto} {H : Hp} {v : V} {d : D} {f : Str}
theorem RpFs.look : ∀ {fv : List (Str × V)} {fs : List (Str × D)} {d : D}, RpFs c μ H fv fs → lookF f fs = some d → ∃ v, fv.lookup f = some v ∧ Rp c μ H v d
  | _, _, _, .nil, e => by cases e
  | _, _, _, .cons (f := g) h r, e => by
    unfold lookF at e
    by_cases z : g = f
    · rw [if_pos z] at e
      cases e
      refine ⟨_, ?_, h⟩
      rw [List.lookup_cons, show (f == g) = true by rw [z]; exact beq_self_eq_true f]
    · rw [if_neg z] at e
      obtain ⟨v, e1, e2⟩ := RpFs.look r e
      refine ⟨v, ?_, e2⟩
      rw [List.lookup_cons, show (f == g) = false by exact beq_eq_false_iff_ne.mpr fun q => z q.symm]
      exact e1
theorem RpFs.none : ∀ {fv : List (Str × V)} {fs : List (Str × D)}, RpFs c μ H fv fs → lookF f fs = none → fv.lookup f = none
  | _, _, .nil, _ => rfl
  | _, _, .cons (f := g) h r, e => by
    unfold lookF at e
    by_cases z : g = f
    · rw [if_pos z] at e
      cases e
    · rw [if_neg z] at e
      rw [List.lookup_cons, show (f == g) = false by exact beq_eq_false_iff_ne.mpr fun q => z q.symm]
      exact RpFs.none r e
theorem RpFs.length : ∀ {fv : List (Str × V)} {fs : List (Str × D)}, RpFs c μ H fv fs → fv.length = fs.length
  | _, _, .nil => rfl
  | _, _, .cons _ r => congrArg Nat.succ (RpFs.length r)
theorem RpFs.fw {μ' : Mu} {H' : Hp} {fv : List (Str × V)} {fs : List (Str × D)} (r : RpFs c μ H fv fs) (w : Wd c μ S H) (g : Fw μ H μ' H') : RpFs c μ' H' fv fs := r.kp (w.kp g)
end
/-! ### fields -/
section
variable {X : Cx} {E : L2.St → XK} {E1 : XK} {e o value : Expr} {fo fe : FE} {f : Str} {xs : List Str} {pos pos' : Pos}
theorem mem_of_contains {x : Str} (h : xs.contains x = true) : x ∈ xs := List.contains_iff_mem.mp h
end
/-! ### a constant of the class -/
/-! ### methods: the def by the object's class -/
end Pu
namespace Pu
open PySem PySem.Spec PyProof.Rows L2
/-! ## values without a held error -/
mutual
def noX : D → Bool
  | .exc _ _ => false
  | .tup xs => noXs xs
  | .lst _ xs => noXs xs
  | .kls xs => noXs xs
  | .ins _ fs => noXf fs
  | .fn _ xs => noXs xs
  | .err _ fs => noXf fs
  | _ => true
def noXs : List D → Bool
  | [] => true
  | x :: xs => noX x && noXs xs
def noXf : List (Str × D) → Bool
  | [] => true
  | (_, x) :: xs => noX x && noXf xs
end
/-- the same row, more errors held -/
structure CtLe (c c' : Ct) : Prop where
  K : c.K = c'.K
  mg : c.mg = c'.mg
  hx : ∀ a z, c.hx a = some z → c'.hx a = some z
section
variable {c c' : Ct} {μ : Mu} {H : Hp}
mutual
theorem Rp.ct (k : CtLe c c') : ∀ {v : V} {d : D}, Rp c μ H v d → Rp c' μ H v d
  | _, _, .non => .non
  | _, _, .bl b => .bl b
  | _, _, .int i => .int i
  | _, _, .str x => .str x
  | _, _, .tup h r => .tup h (RpAll.ct k r)
  | _, _, .lst h n1 n2 n3 r => .lst h n1 n2 n3 (RpAll.ct k r)
  | _, _, .kls h n1 n2 r => .kls h n1 n2 (RpAll.ct k r)
  | _, _, .klsK o its n h1 h2 h3 h4 h5 h6 r => .klsK o its n (k.K ▸ h1) h2 h3 h4 h5 h6 (RpAll.ct k r)
  | _, _, .dic h n n2 => .dic h n n2
  | _, _, .cell h => .cell h
  | _, _, .glo h r => .glo (k.mg ▸ h) r
  | _, _, .ty n => .ty n
  | _, _, .ins h n n2 g r => .ins h n n2 (k.mg ▸ g) (RpFs.ct k r)
  | _, _, .exc0 h g => .exc0 (k.hx _ _ h) (k.mg ▸ g)
  | _, _, .exc1 h g e r => .exc1 (k.hx _ _ h) (k.mg ▸ g) e (RpFs.ct k r)
  | _, _, .fn h r => .fn h (RpAll.ct k r)
  | _, _, .err0 h g => .err0 h (k.mg ▸ g)
  | _, _, .err1 h g e r => .err1 h (k.mg ▸ g) e (RpFs.ct k r)
theorem RpAll.ct (k : CtLe c c') : ∀ {vs : List V} {ds : List D}, RpAll c μ H vs ds → RpAll c' μ H vs ds
  | _, _, .nil => .nil
  | _, _, .cons h r => .cons (Rp.ct k h) (RpAll.ct k r)
theorem RpFs.ct (k : CtLe c c') : ∀ {vs : List (Str × V)} {ds : List (Str × D)}, RpFs c μ H vs ds → RpFs c' μ H vs ds
  | _, _, .nil => .nil
  | _, _, .cons h r => .cons (Rp.ct k h) (RpFs.ct k r)
end
/-! back, where no held error is mentioned -/
mutual
theorem Rp.un (eK : c'.K = c.K) (eg : c'.mg = c.mg) : ∀ {v : V} {d : D}, Rp c' μ H v d → noX d = true → Rp c μ H v d
  | _, _, .non, _ => .non
  | _, _, .bl b, _ => .bl b
  | _, _, .int i, _ => .int i
  | _, _, .str x, _ => .str x
  | _, _, .tup h r, n => .tup h (RpAll.un eK eg r n)
  | _, _, .lst h n1 n2 n3 r, n => .lst h n1 n2 n3 (RpAll.un eK eg r n)
  | _, _, .kls h n1 n2 r, n => .kls h n1 n2 (RpAll.un eK eg r n)
  | _, _, .klsK o its k h1 h2 h3 h4 h5 h6 r, n => .klsK o its k (eK ▸ h1) h2 h3 h4 h5 h6 (RpAll.un eK eg r n)
  | _, _, .dic h n n2, _ => .dic h n n2
  | _, _, .cell h, _ => .cell h
  | _, _, .glo h r, _ => .glo (eg ▸ h) r
  | _, _, .ty n, _ => .ty n
  | _, _, .ins h n1 n2 g r, n => .ins h n1 n2 (eg ▸ g) (RpFs.un eK eg r n)
  | _, _, .exc0 _ _, n => nomatch n
  | _, _, .exc1 _ _ _ _, n => nomatch n
  | _, _, .fn h r, n => .fn h (RpAll.un eK eg r n)
  | _, _, .err0 h g, _ => .err0 h (eg ▸ g)
  | _, _, .err1 h g e r, n => .err1 h (eg ▸ g) e (RpFs.un eK eg r n)
theorem RpAll.un (eK : c'.K = c.K) (eg : c'.mg = c.mg) : ∀ {vs : List V} {ds : List D}, RpAll c' μ H vs ds → noXs ds = true → RpAll c μ H vs ds
  | _, _, .nil, _ => .nil
  | _, _, .cons h r, n => have n' := Bool.and_eq_true_iff.mp n; .cons (Rp.un eK eg h n'.1) (RpAll.un eK eg r n'.2)
theorem RpFs.un (eK : c'.K = c.K) (eg : c'.mg = c.mg) : ∀ {vs : List (Str × V)} {ds : List (Str × D)}, RpFs c' μ H vs ds → noXf ds = true → RpFs c μ H vs ds
  | _, _, .nil, _ => .nil
  | _, _, .cons h r, n => have n' := Bool.and_eq_true_iff.mp n; .cons (Rp.un eK eg h n'.1) (RpFs.un eK eg r n'.2)
end
/-! where none is held, none is mentioned -/
mutual
theorem Rp.free (no : ∀ a, c.hx a = none) : ∀ {v : V} {d : D}, Rp c μ H v d → noX d = true
  | _, _, .non => rfl
  | _, _, .bl b => rfl
  | _, _, .int i => rfl
  | _, _, .str x => rfl
  | _, _, .tup h r => RpAll.free no r
  | _, _, .lst h n1 n2 n3 r => RpAll.free no r
  | _, _, .kls h n1 n2 r => RpAll.free no r
  | _, _, .klsK o its k h1 h2 h3 h4 h5 h6 r => RpAll.free no r
  | _, _, .dic h n n2 => rfl
  | _, _, .cell h => rfl
  | _, _, .glo h r => rfl
  | _, _, .ty n => rfl
  | _, _, .ins h n1 n2 g r => RpFs.free no r
  | _, _, .exc0 h _ => by rw [no] at h; cases h
  | _, _, .exc1 h _ _ _ => by rw [no] at h; cases h
  | _, _, .fn h r => RpAll.free no r
  | _, _, .err0 h g => rfl
  | _, _, .err1 h g e r => RpFs.free no r
theorem RpAll.free (no : ∀ a, c.hx a = none) : ∀ {vs : List V} {ds : List D}, RpAll c μ H vs ds → noXs ds = true
  | _, _, .nil => rfl
  | _, _, .cons h r => Bool.and_eq_true_iff.mpr ⟨Rp.free no h, RpAll.free no r⟩
theorem RpFs.free (no : ∀ a, c.hx a = none) : ∀ {vs : List (Str × V)} {ds : List (Str × D)}, RpFs c μ H vs ds → noXf ds = true
  | _, _, .nil => rfl
  | _, _, .cons h r => Bool.and_eq_true_iff.mpr ⟨Rp.free no h, RpFs.free no r⟩
end
end
section
variable {c c' : Ct} {μ μ' : Mu} {S : Sto} {H H' : Hp} {σ : L2.St} {ρ : Rho}
theorem Wd.ct (k : CtLe c c') (w : Wd c μ S H) : Wd c' μ S H := ⟨w.nd, w.len, w.ap, w.avs, fun i a x h1 h2 => by
  have := w.ok i a x h1 h2
  cases x with
  | lst ds =>
    obtain ⟨vs, e, r⟩ := this
    exact ⟨vs, e, r.ct k⟩
  | ins y fs =>
    obtain ⟨C, dx, fv, e, g, r⟩ := this
    exact ⟨C, dx, fv, e, k.mg ▸ g, r.ct k⟩
  | dct ep ps => exact this, w.tb.ct k.K⟩
theorem EnvR.ct (k : CtLe c c') (en : EnvR c μ H σ ρ) : EnvR c' μ H σ ρ := ⟨en.len, fun i d h => let ⟨v, e, r⟩ := en.ok i d h; ⟨v, e, r.ct k⟩⟩
/-- the cells as they were before -/
theorem Wd.un (eK : c'.K = c.K) (eg : c'.mg = c.mg) (no : ∀ a, c.hx a = none) (w0 : Wd c μ S H) (w : Wd c' μ' S H') : Wd c μ' S H' := ⟨w.nd, w.len, w.ap, w.avs, fun i a x h1 h2 => by
  obtain ⟨a0, e0, o0⟩ := w0.atCell h2
  have := w.ok i a x h1 h2
  cases x with
  | lst ds =>
    obtain ⟨vs0, _, r0⟩ := o0
    obtain ⟨vs, e, r⟩ := this
    exact ⟨vs, e, r.un eK eg (r0.free no)⟩
  | ins y fs =>
    obtain ⟨_, _, fv0, _, _, r0⟩ := o0
    obtain ⟨C, dx, fv, e, g, r⟩ := this
    exact ⟨C, dx, fv, e, eg ▸ g, r.un eK eg (r0.free no)⟩
  | dct ep ps => exact this, w.tb.ct eK⟩
/-- the slots as they were before, or without a held error -/
def sameX : Rho → Rho → Prop
  | [], [] => True
  | x :: r, y :: s => (x = y ∨ y = none ∨ ∃ d, y = some d ∧ noX d = true) ∧ sameX r s
  | _, _ => False
theorem sameX_at : ∀ {ρ ρ' : Rho} {i : Nat} {d : D}, sameX ρ ρ' → ρ'[i]? = some (some d) → ρ[i]? = some (some d) ∨ noX d = true
  | [], [], i, d, _, h => by simp at h
  | x :: r, y :: s, 0, d, h, e => by
    have e' : y = some d := by simpa using e
    rcases h.1 with z | z | ⟨d', z, n⟩
    · exact .inl (by rw [z, e']; rfl)
    · rw [z] at e'; cases e'
    · rw [z] at e'; cases e'; exact .inr n
  | x :: r, y :: s, i + 1, d, h, e => by
    rw [List.getElem?_cons_succ] at e ⊢
    exact sameX_at h.2 e
  | [], _ :: _, _, _, h, _ => h.elim
  | _ :: _, [], _, _, h, _ => h.elim
theorem EnvR.un {ρ0 : Rho} {σ0 : L2.St} {μ0 : Mu} {H0 : Hp} (eK : c'.K = c.K) (eg : c'.mg = c.mg) (no : ∀ a, c.hx a = none) (en0 : EnvR c μ0 H0 σ0 ρ0) (s : sameX ρ0 ρ) (en : EnvR c' μ H σ ρ) : EnvR c μ H σ ρ := ⟨en.len, fun i d h => by
  obtain ⟨v, e, r⟩ := en.ok i d h
  refine ⟨v, e, r.un eK eg ?_⟩
  rcases sameX_at s h with z | z
  · obtain ⟨_, _, r0⟩ := en0.ok i d z
    exact r0.free no
  · exact z⟩
theorem EnvR.unset {i : Nat} (en : EnvR c μ H σ ρ) : EnvR c μ H (σ.set i none) (ρ.set i none) := by
  refine ⟨by rw [List.length_set, List.length_set]; exact en.len, fun j x h => ?_⟩
  by_cases e : i = j
  · subst e
    have hl : i < ρ.length := by
      have := (List.getElem?_eq_some_iff.mp h).1
      rwa [List.length_set] at this
    rw [List.getElem?_set_self hl] at h
    cases h
  · rw [List.getElem?_set_ne e] at h ⊢
    exact en.ok j x h
end
/-! ## raise -/
def dRaise (x f : Str) (fe : FE) : FS := fun ρ S De Ed => fe ρ S (fun d S1 => Ed (x, [(f, d)]) S1) Ed
/-! ## statements in a try: what leaves by an error leans on the slots at their beginning -/
def tSx (c : Ct) (E : L2.St → XK) (f : FS) : TS := fun D σ H => ∃ μ S ρ De Ed, Wd c μ S H ∧ EnvR c μ H σ ρ ∧ f ρ S De Ed ∧ EndsOk c μ H De D ∧ PX c μ H Ed (E σ)
abbrev PSx (X : Cx) (E : L2.St → XK) (st : Stmt) (f : FS) : Prop := PS X st (tSx (ct X) E f)
abbrev PBx (X : Cx) (E : L2.St → XK) (sts : List Stmt) (f : FS) : Prop := PSs X sts (tSx (ct X) E f)
section
variable {X : Cx} {E : L2.St → XK} {st : Stmt} {rest a b : List Stmt} {f g : FS} {e c : Expr} {fe : FE} {t : FT} {pos : Pos}
theorem x_last (h1 : PSx X E st f) : PBx X E [st] f := pss_one h1
theorem x_ret (he : PEd X E e fe) : PSx X E (.Return (some e) pos) (dRet fe) := by
  refine PS.imp (ps_ret he) fun D σ H ⟨μ, S, ρ, De, Ed, w, en, hf, k, px⟩ => ?_
  exact tR_of w en hf px fun x S1 v H1 μ1 h1 f1 w1 en1 px1 r1 => k.rt x S1 v H1 μ1 h1 f1 w1 r1
end
/-! ## try: .. except C as n: .. -/
def lookB : List (Str × Bool) → Str → Option Bool
  | [], _ => none
  | (y, b) :: r, x => if y = x then some b else lookB r x
def dTry (i : Nat) (tab : List (Str × Bool)) (fb fh : FS) : FS := fun ρ S De Ed => fb ρ S De fun er S1 => onSome (lookB tab er.1) fun b =>
  if b = true then fh (ρ.set i (some (.exc er.1 er.2))) S1 { nx := fun ρ' S2 => (S2 = S1 ∧ sameX ρ (ρ'.set i none)) ∧ De.nx (ρ'.set i none) S2, rt := fun d S2 => (S2 = S1 ∧ noX d = true) ∧ De.rt d S2, bk := fun _ _ => False, ct := fun _ _ => False } noE
  else Ed er S1
def cH (K : PySem.W.Frag) (mg : Str → Option Value) (a : Addr) (cls : Value) (d : Option Addr) : Ct := ⟨K, mg, fun b => if a = b then some (cls, d) else none⟩
theorem ct_suite {X : Cx} {a : Addr} {oe : Obj} {pn : List (Addr × Obj)} : ct (X.suite a ((a, oe) :: pn)) = cH X.K X.mg a oe.cls oe.dict := by
  unfold ct cH
  congr 1
theorem ct_calm {X : Cx} (h : X.calm = true) : ct X = ct0 X.K X.mg := by
  unfold ct
  rw [if_pos h]
section
variable {X : Cx} {E : XK} {x n : Str} {cv : Value} {i : Nat} {tab : List (Str × Bool)} {body suite : List Stmt} {b0 : Stmt} {np pos p2 : Pos} {fb fh : FS}
theorem d_try (hcal : X.calm = true) (hs : X.stack = X.env :: X.outer) (hf : X.env.frame = some X.env.locals) (hN : X.N.Nodup) (hi : X.N[i]? = some n) (hln : X.env.kindOf n = some .local) (hc : Names X x cv) (tk : Takes X (fun cls d _ H => E cls d H))
    (ht : ∀ y b, lookB tab y = some b → ∀ cls, X.mg y = some cls → PySem.W.exmOne X.K cls cv = some b)
    (hb : ∀ (W : WX) (pn : List (Addr × Obj)) (xe : Value → Shared → Prop), Takes (X.tr pn xe) W → PassesOwn (model X.prog X.w) X.A X.env xe → PBx (X.tr pn xe) (WE W) body fb)
    (hsu : ∀ (a : Addr) (oe : Obj) (pn : List (Addr × Obj)), (∃ vs, oe.data = .fields vs) → PBd (X.suite a ((a, oe) :: pn)) E0 (b0 :: suite) fh) :
    PSd X E (.Try body [.ExceptHandler (some (.Name x np)) (some n) (b0 :: suite) p2] [] [] pos) (dTry i tab fb fh) := by
  have ec := ct_calm hcal
  have e1 : ∀ (pn : List (Addr × Obj)) (xe : Value → Shared → Prop), ct (X.tr pn xe) = ct X := fun pn xe => by
    rw [ec]
    exact ct_calm (X := X.tr pn xe) hcal
  have no : ∀ a, (ct X).hx a = none := fun a => by rw [ec]
  refine PS.imp (ps_try_as (i := i) (tb := fun W => tSx (ct X) (WE W) fb) (ts := fun a cls d => tS (cH X.K X.mg a cls d) E0 fh) (Wout := fun cls d _ H => E cls d H) hs hf hN hi hln hc tk (fun W pn xe tk po => ?_) (fun a oe cls d pn hz hf => ?_)) fun D σ H ⟨μ, S, ρ, De, Ed, w, en, hff, k, px⟩ => ?_
  · have this : PSs (X.tr pn xe) body (tSx (ct (X.tr pn xe)) (WE W) fb) := hb W pn xe tk po
    have e := e1 pn xe
    generalize ct (X.tr pn xe) = c1 at this e
    subst e
    exact this
  · have this : PSs (X.suite a ((a, oe) :: pn)) (b0 :: suite) (tS (ct (X.suite a ((a, oe) :: pn))) E0 fh) := hsu a oe pn hf
    have e : ct (X.suite a ((a, oe) :: pn)) = cH X.K X.mg a cls d := by rw [ct_suite, hz.1, hz.2]
    generalize ct (X.suite a ((a, oe) :: pn)) = c1 at this e
    subst e
    exact this
  refine ⟨μ, S, ρ, De, _, w, en, hff, k, fun er S1 cls dx H1 μ1 hE f1 w1 rx => ?_⟩
  obtain ⟨b, eb, hE⟩ := onSome_of hE
  refine ⟨b, ht _ b eb cls rx.1, fun hb1 a na => ?_, fun hb0 => ?_⟩
  · rw [if_pos hb1] at hE
    have le : CtLe (ct X) (cH X.K X.mg a cls dx) := ⟨rfl, rfl, fun b z h => by rw [no] at h; cases h⟩
    have en1 := en.fw w f1
    have rexc : Rp (cH X.K X.mg a cls dx) μ1 H1 (.ref a) (.exc er.1 er.2) := by
      obtain ⟨xn, fs⟩ := er
      obtain ⟨g, r⟩ := rx
      have hh : (cH X.K X.mg a cls dx).hx a = some (cls, dx) := if_pos rfl
      cases fs with
      | nil =>
        have r' : dx = none := r
        rw [r'] at hh ⊢
        exact .exc0 hh g
      | cons f fs =>
        obtain ⟨d1, fv, r1, r2, r3⟩ := r
        rw [r1] at hh ⊢
        exact .exc1 hh g r2 (r3.ct (r1 ▸ le))
    refine ⟨μ1, S1, _, _, noE, w1.ct le, (en1.ct le).set rexc, hE, ⟨fun ρ' S' σ' H' μ' hq fw w' en' => ?_, fun d S' v H' μ' hq fw w' r => ?_, fun _ _ _ _ _ z => z.elim, fun _ _ _ _ _ z => z.elim⟩, pxNo⟩
    · obtain ⟨⟨rfl, sx⟩, hn⟩ := hq
      exact k.nx _ S' _ H' μ' hn (f1.trans fw) (Wd.un (c' := cH X.K X.mg a cls dx) rfl rfl no w1 w') (EnvR.un (c' := cH X.K X.mg a cls dx) rfl rfl no en1 sx en'.unset)
    · obtain ⟨⟨rfl, nx⟩, hn⟩ := hq
      exact k.rt d S' v H' μ' hn (f1.trans fw) (Wd.un (c' := cH X.K X.mg a cls dx) rfl rfl no w1 w') (Rp.un (c := ct X) (c' := cH X.K X.mg a cls dx) rfl rfl r nx)
  · rw [if_neg (by rw [hb0]; exact Bool.false_ne_true)] at hE
    exact px er S1 cls dx H1 μ1 hE f1 w1 rx
end
end Pu
namespace Pu
open PySem PySem.Spec PyProof.Rows L2
/-! ## what a handler asks of its error -/
def onExc (o : Option D) (k : Str → List (Str × D) → Prop) : Prop := match o with | some (.exc x fs) => k x fs | _ => False
theorem onExc_of {o : Option D} {k : Str → List (Str × D) → Prop} (h : onExc o k) : ∃ x fs, o = some (.exc x fs) ∧ k x fs := by
  match o, h with
  | some (.exc x fs), h => exact ⟨x, fs, rfl, h⟩
/-- e.f -/
def dXf (xs : List Str) (i : Nat) (f : Str) : FE := fun ρ S Q _ => onExc (getV ρ i) fun x fs => xs.contains x = true ∧ onSome (lookF f fs) fun v => Q v S
theorem rp_exc_inv {X : Cx} {a : Addr} {oe : Obj} {pn : List (Addr × Obj)} {μ : Mu} {H : Hp} {v : V} {x : Str} {fs : List (Str × D)} (r : Rp (ct (X.suite a ((a, oe) :: pn))) μ H v (.exc x fs)) :
    v = .ref a ∧ X.mg x = some oe.cls ∧ ((oe.dict = none ∧ fs = []) ∨ ∃ dx fv, oe.dict = some dx ∧ H dx = some (.xd fv) ∧ RpFs (ct (X.suite a ((a, oe) :: pn))) μ H fv fs) := by
  cases r with
  | @exc0 b _ cls hh g =>
    rw [ct_suite] at hh
    unfold cH at hh
    dsimp only at hh
    by_cases e : a = b
    · rw [if_pos e] at hh
      have hh' := Prod.mk.inj (Option.some.inj hh)
      exact ⟨by rw [e], by rw [hh'.1]; exact g, .inl ⟨hh'.2, rfl⟩⟩
    · rw [if_neg e] at hh
      cases hh
  | @exc1 b dx _ cls fv _ hh g hd rf =>
    rw [ct_suite] at hh
    unfold cH at hh
    dsimp only at hh
    by_cases e : a = b
    · rw [if_pos e] at hh
      have hh' := Prod.mk.inj (Option.some.inj hh)
      exact ⟨by rw [e], by rw [hh'.1]; exact g, .inr ⟨dx, fv, hh'.2, hd, rf⟩⟩
    · rw [if_neg e] at hh
      cases hh
section
variable {X : Cx} {E : L2.St → XK} {a : Addr} {oe : Obj} {pn : List (Addr × Obj)} {i : Nat} {f : Str} {xs : List Str} {e : Expr} {pos : Pos}
theorem d_xf (hfd : ∃ vs, oe.data = .fields vs) (hT : ∀ y ∈ xs, ∃ C, X.mg y = some (.ref C) ∧ XfC X.K C ∧ PySem.W.findIn X.K (.ref C) f = some none) (he : PE (X.suite a ((a, oe) :: pn)) e (tVar i))
    (hab : attributeBase e f X.env (eval e X.env) = eval e X.env := by rfl) : PEd (X.suite a ((a, oe) :: pn)) E (.Attribute e f pos) (dXf xs i f) := by
  refine ⟨fun pins s σ H Q I ⟨μ, S, ρ, Qd, Ed, w, en, hf, q, px⟩ => ?_⟩
  obtain ⟨x, fs, e1, hc, h1⟩ := onExc_of hf
  obtain ⟨d, e2, hq⟩ := onSome_of h1
  obtain ⟨v, ev, rv⟩ := en.ok i _ (getV_some e1)
  obtain ⟨rfl, g, alt⟩ := rp_exc_inv rv
  obtain ⟨C, gC, T, hno⟩ := hT x (mem_of_contains hc)
  have ec : oe.cls = .ref C := by rw [g] at gC; exact Option.some.inj gC
  rcases alt with ⟨_, rfl⟩ | ⟨dx, fv, ed, hd, rf⟩
  · cases e2
  · obtain ⟨y, ey, ry⟩ := rf.look e2
    refine (pe_xf (cls := oe.cls) (d := oe.dict) T hno ⟨rfl, rfl⟩ hfd he hab).run pins s σ H Q I ?_
    exact ⟨.ref a, ev, rfl, ec, dx, fv, y, ed, hd, ey, q d S y H μ hq Fw.refl w ry⟩
end
/-! ### isinstance -/
/-- of a class of errors x and a class named y (of the row or built in): whether y is above x -/
def lookX : List (Str × Str × Bool) → Str → Str → Option Bool
  | [], _, _ => none
  | (x, y, b) :: r, u, v => if x = u ∧ y = v then some b else lookX r u v
theorem lookX_mem : ∀ {tab : List (Str × Str × Bool)} {u v : Str} {b : Bool}, lookX tab u v = some b → (u, v, b) ∈ tab
  | [], _, _, _, h => by cases h
  | (x, y, c) :: r, u, v, b, h => by
    unfold lookX at h
    by_cases z : x = u ∧ y = v
    · rw [if_pos z] at h
      cases h
      obtain ⟨rfl, rfl⟩ := z
      exact List.mem_cons_self
    · rw [if_neg z] at h
      exact List.mem_cons_of_mem _ (lookX_mem h)
/-- what isinstance asks of a class of errors -/
structure OwnI (K : PySem.W.Frag) (C : Addr) : Prop where
  xf : XfC K C
  is : PySem.W.isClsIn K C = true
  cl : PySem.W.findIn K (.ref C) "__class__" = some (some (.builtin "object.__class__"))
  cg : PySem.W.specialIn K (.builtin "object.__class__") "__get__" = some (some (.builtin "getset_descriptor.__get__"))
  ct : PySem.W.takesIn K (.builtin "object.__class__") = some true
  co : PySem.W.mroIn K C (.type "object") = some true
def clsV (mg : Str → Option Value) (y : Str) (u : Value) : Prop := mg y = some u ∨ (mg y = none ∧ bootBuiltins y = some u)
def XI (K : PySem.W.Frag) (mg : Str → Option Value) (x y : Str) (b : Bool) : Prop := ∃ C, mg x = some (.ref C) ∧ OwnI K C ∧ ∀ u, clsV mg y u → PySem.W.kitOne K (.ref C) u = some b
/-- isinstance(e, C) -/
def dIsX (tab : List (Str × Str × Bool)) (i : Nat) (y : Str) : FE := fun ρ S Q _ => onExc (getV ρ i) fun x _ => onSome (lookX tab x y) fun b => Q (.bl b) S
def anyX (tab : List (Str × Str × Bool)) (x : Str) : List Str → Option Bool
  | [] => some false
  | y :: r => match lookX tab x y with | some true => some true | some false => anyX tab x r | none => none
/-- isinstance(e, (C, ..)) -/
def dIsXT (tab : List (Str × Str × Bool)) (i : Nat) (ys : List Str) : FE := fun ρ S Q _ => onExc (getV ρ i) fun x _ => onSome (anyX tab x ys) fun b => Q (.bl b) S
def rIsY (K : PySem.W.Frag) (a : Addr) (oe : Obj) : List V → Hp → VK → Prop := fun xs H Q => ∃ (C : Addr) (cv : V) (b : Bool), oe.cls = .ref C ∧ OwnI K C ∧ (oe.dict = none ∨ ∃ dx fv, oe.dict = some dx ∧ H dx = some (.xd fv)) ∧ xs = [.ref a, cv] ∧
  ((∃ u, ClsV cv u ∧ PySem.W.kitOne K (.ref C) u = some b) ∨ ∃ tp cs us, cv = .ref tp ∧ H tp = some (.tup cs) ∧ Paired ClsV cs us ∧ PySem.W.kitAny K (.ref C) us = some b) ∧ Q (.bl b) H
theorem call_isY {X : Cx} {a : Addr} {oe : Obj} {pn : List (Addr × Obj)} (hfd : ∃ vs, oe.data = .fields vs) : CallR (X.suite a ((a, oe) :: pn)) (.builtin "isinstance") (rIsY X.K a oe) := by
  intro pins s σ H xs us Q I r h
  obtain ⟨C, cv, b, ecl, W, hdict, rfl, alt, q⟩ := h
  cases r with
  | cons ra rr =>
    cases rr with
    | cons rt rr =>
      cases rr
      cases ra
      obtain ⟨hget, _⟩ := I.pin (a, oe) (List.mem_append.mpr (.inl List.mem_cons_self))
      obtain ⟨vs, hv⟩ := hfd
      have noc : PySem.W.notCls oe = true := by unfold PySem.W.notCls; rw [hv] <;> rfl
      have J : ∃ od, PySem.W.InstAt s.heap a oe C od := by
        rcases hdict with ed | ⟨dx, fv, ed, hx⟩
        · exact ⟨none, hget, ecl, noc, by rw [ed]; trivial⟩
        · have ho : ObjOk X.prog X.w H s.heap dx (.xd fv) := I.hok dx _ hx
          obtain ⟨mm, hns, _⟩ := ho
          obtain ⟨od, ho, _⟩ := lookIn_ns hns
          exact ⟨some od, hget, ecl, noc, by rw [ed]; exact ho⟩
      obtain ⟨od, J⟩ := J
      have Z := PySem.W.kitx_exc (x := a) (ox := oe) (od := od) W.is W.xf.ga W.xf.gg W.xf.exC W.cl W.cg W.ct W.co
      rcases alt with ⟨u, cu, e⟩ | ⟨tp, cs, uu, rfl, ht, pr, e⟩
      · rw [cu.eq rt]
        exact PySem.W.kia_one Z I.kIn J e (fun z => nomatch z) fun tk => ⟨.bl b, H, I.kept (t' := tk) fun _ _ z => z, rfl, q⟩
      · cases rt
        have hto : ObjOk X.prog X.w H s.heap tp (.tup cs) := I.hok tp _ ht
        obtain ⟨_, ws, rv, ⟨o, hoc, hcl, n, hdat⟩⟩ := hto
        have eu := ClsV.all pr rv
        subst eu
        obtain ⟨oc, odd, oda, osl⟩ := o
        dsimp only at hcl hdat
        subst hcl hdat
        exact PySem.W.kia_tup Z I.kIn J hoc e (fun z => nomatch z) fun tk => ⟨.bl b, H, I.kept (t' := tk) fun _ _ z => z, rfl, q⟩
/-- a class by its name, in an expression -/
structure ClE (X : Cx) (e : Expr) (y : Str) (u : Value) : Prop where
  ex : ∃ v, PE X e (tC v) ∧ ClsV v u
  at_ : clsV X.mg y u
theorem cl_own {X : Cx} {y : Str} {C : Addr} {pos : Pos} (hg : Gl X y) (hm : X.mg y = some (.ref C)) (hd : (y == ("__debug__" : Str)) = false := by decide) : ClE X (.Name y pos) y (.ref C) :=
  ⟨⟨.ref C, pe_glob hg hm (show RelV (V.ref C) _ from rfl) hd, .own C⟩, .inl hm⟩
theorem cl_ty {X : Cx} {y : Str} {n : String} {pos : Pos} (hg : Gl X y) (hm : X.mg y = none) (hv : bootBuiltins y = some (.type n)) (hn : y ≠ "__name__" := by decide) (hd : (y == ("__debug__" : Str)) = false := by decide) : ClE X (.Name y pos) y (.type n) :=
  ⟨⟨.ty n, pe_bltn hg hm hv (show RelV (V.ty n) _ from rfl) hn hd, .ty n⟩, .inr ⟨hm, hv⟩⟩
/-- classes by their names -/
inductive ClEs (X : Cx) : List Expr → List Str → List Value → Prop where
  | nil : ClEs X [] [] []
  | cons {e : Expr} {es : List Expr} {y : Str} {ys : List Str} {u : Value} {us : List Value} (h : ClE X e y u) (r : ClEs X es ys us) (hs : starEach (e :: es) X.env = (false, eval e X.env) :: starEach es X.env := by rfl) : ClEs X (e :: es) (y :: ys) (u :: us)
theorem ClEs.pa {X : Cx} : ∀ {es : List Expr} {ys : List Str} {us : List Value}, ClEs X es ys us → ∃ vs, PA X es (fun _ H Q => Q vs H) ∧ Paired ClsV vs us
  | _, _, _, .nil => ⟨[], pa_nil, .nil⟩
  | _, _, _, .cons h r hs => by
    obtain ⟨v, h1, h2⟩ := h.ex
    obtain ⟨vs, h3, h4⟩ := ClEs.pa r
    exact ⟨v :: vs, PA.imp (pa_cons h1 h3 hs) fun σ H Q q => q, .cons h2 h4⟩
section
variable {X : Cx} {E : L2.St → XK} {a : Addr} {oe : Obj} {pn : List (Addr × Obj)} {i : Nat} {tab : List (Str × Str × Bool)} {e ce : Expr} {ces : List Expr} {y : Str} {ys : List Str} {u : Value} {us : List Value} {p pos tpos : Pos} {kt : Nat}
theorem exc_dict {μ : Mu} {H : Hp} {v : V} {x : Str} {fs : List (Str × D)} (r : Rp (ct (X.suite a ((a, oe) :: pn))) μ H v (.exc x fs)) : v = .ref a ∧ X.mg x = some oe.cls ∧ (oe.dict = none ∨ ∃ dx fv, oe.dict = some dx ∧ H dx = some (.xd fv)) := by
  obtain ⟨h1, h2, h3⟩ := rp_exc_inv r
  refine ⟨h1, h2, ?_⟩
  rcases h3 with ⟨h3, _⟩ | ⟨dx, fv, h3, h4, _⟩
  · exact .inl h3
  · exact .inr ⟨dx, fv, h3, h4⟩
theorem d_isX (hfd : ∃ vs, oe.data = .fields vs) (ht : ∀ z ∈ tab, XI X.K X.mg z.1 z.2.1 z.2.2) (hg : Gl X "isinstance") (hm : X.mg "isinstance" = none) (he : PE (X.suite a ((a, oe) :: pn)) e (tVar i)) (hc : ClE (X.suite a ((a, oe) :: pn)) ce y u)
    (s1 : starEach [e, ce] X.env = (false, eval e X.env) :: starEach [ce] X.env := by rfl) (s2 : starEach [ce] X.env = (false, eval ce X.env) :: starEach [] X.env := by rfl) (s3 : (backTo pos (starEach [ce] X.env)).any (·.1) = false := by rfl) :
    PEd (X.suite a ((a, oe) :: pn)) E (.Call (.Name "isinstance" p) [e, ce] [] pos) (dIsX tab i y) := by
  obtain ⟨vc, hvc, cv⟩ := hc.ex
  refine PE.imp (pe_callB (call_isY hfd) hg hm (show bootBuiltins "isinstance" = some (.builtin "isinstance") by decide +kernel) (pa_cons he (pa_cons hvc pa_nil s2) s1) (by decide) (by decide) s1 s3) fun σ H Q ⟨μ, S, ρ, Qd, Ed, w, en, hf, q, px⟩ => ?_
  obtain ⟨x, fs, e1, h1⟩ := onExc_of hf
  obtain ⟨b, e2, hq⟩ := onSome_of h1
  obtain ⟨v, ev, rv⟩ := en.ok i _ (getV_some e1)
  obtain ⟨rfl, g, alt⟩ := exc_dict rv
  obtain ⟨C, gC, W, hk⟩ := ht _ (lookX_mem e2)
  have ec : oe.cls = .ref C := by rw [g] at gC; exact Option.some.inj gC
  exact ⟨.ref a, ev, C, vc, b, ec, W, alt, rfl, .inl ⟨u, cv, hk u hc.at_⟩, q _ S _ H μ hq Fw.refl w (.bl b)⟩
theorem ClEs.any {K : PySem.W.Frag} {x : Str} {C : Addr} {X' : Cx} (hx : X'.mg x = some (.ref C)) (ht : ∀ z ∈ tab, XI K X'.mg z.1 z.2.1 z.2.2) : ∀ {es : List Expr} {ys : List Str} {us : List Value} {b : Bool}, ClEs X' es ys us → anyX tab x ys = some b → PySem.W.kitAny K (.ref C) us = some b
  | _, _, _, b, .nil, e => by cases e; rfl
  | _, _, _, b, .cons (y := y) h r _, e => by
    unfold anyX at e
    unfold PySem.W.kitAny
    cases e1 : lookX tab x y with
    | none => rw [e1] at e; cases e
    | some k =>
      rw [e1] at e
      obtain ⟨C', gC, _, hk⟩ := ht _ (lookX_mem e1)
      have : C' = C := by
        have z : X'.mg x = some (.ref C') := gC
        rw [hx] at z
        cases z
        rfl
      subst this
      rw [hk _ h.at_]
      cases k with
      | true => cases e; rfl
      | false => exact ClEs.any hx ht r e
theorem d_isXT (hfd : ∃ vs, oe.data = .fields vs) (ht : ∀ z ∈ tab, XI X.K X.mg z.1 z.2.1 z.2.2) (hg : Gl X "isinstance") (hm : X.mg "isinstance" = none) (he : PE (X.suite a ((a, oe) :: pn)) e (tVar i)) (hc : ClEs (X.suite a ((a, oe) :: pn)) ces (y :: ys) us) (hl : us.length ≤ 100)
    (s1 : starEach [e, .Tuple ces kt tpos] X.env = (false, eval e X.env) :: starEach [.Tuple ces kt tpos] X.env := by rfl) (s2 : starEach [.Tuple ces kt tpos] X.env = (false, eval (.Tuple ces kt tpos) X.env) :: starEach [] X.env := by rfl) (s3 : (backTo pos (starEach [.Tuple ces kt tpos] X.env)).any (·.1) = false := by rfl) :
    PEd (X.suite a ((a, oe) :: pn)) E (.Call (.Name "isinstance" p) [e, .Tuple ces kt tpos] [] pos) (dIsXT tab i (y :: ys)) := by
  obtain ⟨vs, hvs, pr⟩ := hc.pa
  refine PE.imp (pe_callB (call_isY hfd) hg hm (show bootBuiltins "isinstance" = some (.builtin "isinstance") by decide +kernel) (pa_cons he (pa_cons (pe_tup hvs) pa_nil s2) s1) (by decide) (by decide) s1 s3) fun σ H Q ⟨μ, S, ρ, Qd, Ed, w, en, hf, q, px⟩ => ?_
  obtain ⟨x, fs, e1, h1⟩ := onExc_of hf
  obtain ⟨b, e2, hq⟩ := onSome_of h1
  obtain ⟨v, ev, rv⟩ := en.ok i _ (getV_some e1)
  obtain ⟨rfl, g, alt⟩ := exc_dict rv
  have pl : vs.length = us.length := by
    clear hvs hc hl
    induction pr with
    | nil => rfl
    | cons _ _ ih => exact congrArg Nat.succ ih
  refine ⟨.ref a, ev, by rw [pl]; exact Nat.le_trans hl (by rw [sizeLine_eq]; omega), fun tp ntp => ?_⟩
  obtain ⟨C, gC, W⟩ : ∃ C, X.mg x = some (.ref C) ∧ OwnI X.K C := by
    have e3 := e2
    unfold anyX at e3
    cases e4 : lookX tab x y with
    | none => rw [e4] at e3; cases e3
    | some k =>
      obtain ⟨C, gC, W, _⟩ := ht _ (lookX_mem e4)
      exact ⟨C, gC, W⟩
  have ec : oe.cls = .ref C := by rw [g] at gC; exact Option.some.inj gC
  have ka := ClEs.any (K := X.K) (X' := X.suite a ((a, oe) :: pn)) gC ht hc e2
  have fN : Fw μ H μ (upd H tp (.tup vs)) := Fw.new ntp
  refine ⟨C, .ref tp, b, ec, W, ?_, rfl, .inr ⟨tp, vs, us, rfl, upd_same, pr, ka⟩, q _ S _ _ μ hq fN (w.new ntp) (.bl b)⟩
  rcases alt with z | ⟨dx, fv, z1, z2⟩
  · exact .inl z
  · exact .inr ⟨dx, fv, z1, w.xdK fN z2⟩
end
end Pu
namespace Pu
open PySem PySem.Spec PyProof.Rows L2
/-! ## defs that may raise -/
theorem passW {X : Cx} {W : WX} (tk : Takes X W) : ∀ σ, PassesAt (L2.CX X.prog X.w) X σ (WE W σ) := fun σ => passAt tk σ
section
variable {pr : Program} {wo : World} {K : PySem.W.Frag} {mg : Str → Option Value} {b0 : Heap} {lv : Nat} {x qn : Str} {st : Stmt} {fn : Addr} {dat : FuncData} {NN pars : List Str} {fb : FS}
theorem d_fnX (F : Fun K x qn st fn dat) (S : FnScope NN pars (defScope st))
    (body : ∀ (cdv : Value) (A : Around) (out : List Env) (s : Shared) (H : Hp) (E : XK), A.guards = some [] → Room lv (A.deeper (envOfC qn (defScope st) s.heap.objs.size fn cdv)) → PBd (cxOf (L2.CX pr wo) pr wo K mg b0 NN qn (defScope st) fn cdv A out s H E) E (defBody st) fb) :
    Rb.FnG pr wo K mg b0 (L2.CX pr wo) (lv + 1) fn dat pars (spF (ct0 K mg) (dDefX pars.length NN.length fb)) := by
  obtain ⟨oc, od, kV, dc, pv, an, cdv, ct, osl, rfl, at_, code⟩ := F.ex
  refine Rb.fnG_of at_ code S (fun xs H Q E pro => ?_) fun A out s H xs Q E gd rm pro => ⟨_, body cdv A out s H E gd rm, ?_⟩
  · obtain ⟨μ, S, ds, Qd, Ed, w, r, ⟨hl, _⟩, _⟩ := pro
    rw [r.length]
    exact hl
  · obtain ⟨μ, S, ds, Qd, Ed, w, r, ⟨hl, h⟩, q, px⟩ := pro
    exact ⟨μ, S, _, _, Ed, w, startD_env r, h, ⟨fun ρ' S' σ' H' μ' hq f w' en => q .non S' .non H' μ' hq f w' .non, q, fun _ _ _ _ _ z => z.elim, fun _ _ _ _ _ z => z.elim⟩, px⟩
end
/-! ## list.count of bools -/
/-! ## isinstance of values, instances among them -/
end Pu
namespace Pu
open PySem PySem.Spec PyProof.Rows L2
/-! ## small words for the printed terms -/
theorem all0 {α : Type} {P : α → Prop} : ∀ x ∈ ([] : List α), P x := fun _ z => nomatch z
theorem allS {α : Type} {P : α → Prop} {a : α} {l : List α} (h : P a) (r : ∀ x ∈ l, P x) : ∀ x ∈ a :: l, P x := fun x hx => by
  rcases List.mem_cons.mp hx with rfl | hx
  · exact h
  · exact r x hx
section
variable {K : PySem.W.Frag} {mg : Str → Option Value} {x f y : Str} {C : Addr}
theorem xi_own {D : Addr} {b : Bool} (g : mg x = some (.ref C)) (e : OwnI K C) (gy : mg y = some (.ref D)) (k : PySem.W.kitOne K (.ref C) (.ref D) = some b) : XI K mg x y b := ⟨C, g, e, fun u hu => by
  rcases hu with h | ⟨h, _⟩
  · rw [gy] at h
    cases h
    exact k
  · rw [gy] at h
    cases h⟩
theorem xi_ty {n : String} {b : Bool} (g : mg x = some (.ref C)) (e : OwnI K C) (gy : mg y = none) (bo : bootBuiltins y = some (.type n)) (k : PySem.W.kitOne K (.ref C) (.type n) = some b) : XI K mg x y b := ⟨C, g, e, fun u hu => by
  rcases hu with h | ⟨_, h⟩
  · rw [gy] at h
    cases h
  · rw [bo] at h
    cases h
    exact k⟩
/-- which errors an except clause takes -/
theorem xt_of {cv : Value} {b : Bool} (g : mg x = some (.ref C)) (k : PySem.W.exmOne K (.ref C) cv = some b) : ∀ cls, mg x = some cls → PySem.W.exmOne K cls cv = some b := fun cls h => by
  rw [g] at h
  cases h
  exact k
theorem tab_of {cv : Value} : ∀ {tab : List (Str × Bool)}, (∀ z ∈ tab, ∀ cls, mg z.1 = some cls → PySem.W.exmOne K cls cv = some z.2) → ∀ y b, lookB tab y = some b → ∀ cls, mg y = some cls → PySem.W.exmOne K cls cv = some b
  | [], _, _, _, h => by cases h
  | (z, k) :: r, ht, y, b, h => by
    unfold lookB at h
    by_cases e : z = y
    · rw [if_pos e] at h
      cases h
      subst e
      exact ht _ List.mem_cons_self
    · rw [if_neg e] at h
      exact tab_of (fun u hu => ht u (List.mem_cons_of_mem _ hu)) y b h
end
theorem takes0E {X : Cx} : Takes X (fun cls d _ H => E0 cls d H) := fun _ _ z => by
  obtain ⟨_, _, _, _, _, _, _, _, _, _, _, _, _, _, _, _, z⟩ := z
  exact z.elim
end Pu
namespace Pu
open PySem PySem.Spec PyProof.Rows L2
/-- sorted of a tuple of whole numbers -/
def gSortTI : List D → Sto → QD → Prop := fun ds S Q => match ds with
  | [.tup xs] => onSome (intsOf xs) fun ns => Q (.lst false ((Rb.srt ns).map D.int)) S
  | _ => False
theorem c_sortTI {X : Cx} : CallR X (.builtin "sorted") (rDs (ct X) gSortTI) := by
  intro pins s σ H vs us Q I r ⟨μ, S, ds, Qd, w, ra, hg, q⟩
  unfold gSortTI at hg
  split at hg
  · obtain ⟨v, rfl, rv⟩ := ra.one
    obtain ⟨ns, e, hg⟩ := onSome_of hg
    obtain ⟨a, ws, rfl, ha, rs⟩ := rv.tup_inv
    rw [intsOf_inv e] at rs
    rw [rs.ints] at ha
    obtain ⟨u, rfl, ru⟩ := vals1 r
    obtain rfl : u = Value.ref a := ru
    obtain ⟨its, rt, ⟨o, ho, hc, n, hd⟩, hz⟩ := I.tuple (SqT.of ha)
    have are : IntsAre its ns := rt.ints
    have len : its.length ≤ sizeLine := by rw [← rt.length]; exact hz
    refine Calls.call_function_entry kind_sorted plain_sorted entry_sorted (args_sorted1 _) ?_
    unfold Builtin.«sorted»
    refine wpAny_bind (m := checkCount "sorted" 1 1 _) (wpAny_pure (wpAny_bind (wpAny_collect_seq a (.inr rfl) ho hc hd (fun h' hk => ?_) (by rw [List.size_toArray]; exact len))))
    rw [show its.toArray.toList = its from rfl]
    have I1 := I.kept (t' := s.toks) hk
    refine wpAny_bind (wpAny_newList ?_ len)
    have at1 : (h'.push (seqObj "list" its.toArray 0)).get? h'.objs.size = some (seqObj "list" its.toArray 0) := Heap.get?_push_size _ rfl
    refine wpAny_bind (wpAny_holding (wpAny_call_entry PyProof.Rows.slot_list_sort ⟨_, at1, rfl⟩ PyProof.Rows.entry_list_sort (SrtO.list_sort_ord SrtO.swo_int at1 len (fun h2 => SrtO.ints_sortable are h2) fun out c1 c2 => ⟨_, rfl, ?_⟩) (PyProof.Rows.args_list_sort _)))
    obtain ⟨a1, a2, a3⟩ := SrtO.ints_out are c1 c2
    obtain ⟨c, hc2⟩ := PyProof.Rows.sortedHeap_at (vs := its) (out := out.toArray) at1
    have fin := q.lst (μ := μ) w (RpAll.ofInts _) hg (I1.hok.fresh (Nat.le_refl _))
    rw [← Rb.srt_uniq a2 a3] at fin
    refine wpAny_pure ⟨_, rfl, .ref h'.objs.size, upd H h'.objs.size (.lst ((out.map SrtO.iv).map V.int)), I1.laid (t' := s.toks) (fun b x e => ?_) (Nat.le_refl _) ⟨?_, out, c, vals_of_ints a1, hc2⟩, rfl, fin⟩
    · have bl := Heap.lt_size e
      show (PyProof.Rows.sortedHeap (h'.push (seqObj "list" its.toArray 0)) h'.objs.size its out.toArray).get? b = some x
      rw [PyProof.Rows.sortedHeap_old (Nat.ne_of_lt bl) (by rw [Heap.size_push]; exact Nat.lt_succ_of_lt bl)]
      exact Heap.get?_push_of_some _ e
    · rw [List.length_map, a2.length_eq, ← are.length]
      exact len
  · exact hg.elim
end Pu
namespace Pu
open PySem PySem.Spec PyProof.Rows L2
/-! ## own errors over any built-in class: with one field, or with none -/
/-- of a class of errors: over the built-in class whose order of classes is bs, whose objects nw makes -/
structure ErrC (kit : PySem.W.Frag) (at_ : Addr) (bs : List Value) (nw : String) : Prop where
  mkd : PySem.W.excInitIn kit at_ bs nw = true
  ov : PySem.W.excOver kit at_ bs = true
  hd : PySem.W.hasDictIn kit at_ = true
  sa : PySem.W.findIn kit (.ref at_) "__setattr__" = some (some (.builtin "object.__setattr__"))
  ex : PySem.W.subIn kit (.ref at_) (.type "BaseException") = some true
  ty : PySem.W.typeIn kit (.ref at_) = some (.type "type")
  kp : PySem.W.keepIn kit (.ref at_) = true
section
variable {X : Cx} {pins : List (Addr × Obj)} {σ : L2.St} {H : Hp} {s : Shared} {a C : Addr} {f : Str} {y : V} {u : Value} {bs : List Value} {nw B : String}
theorem upd_twice {a b : Addr} {o p q : HO} (n : a ≠ b) : upd (upd (upd H b o) a p) b q = upd (upd H b q) a p := by
  funext z
  by_cases h1 : z = b
  · subst h1
    rw [upd_same, upd_ne (Ne.symm n), upd_same]
  · rw [upd_ne h1]
    by_cases h2 : z = a
    · subst h2
      rw [upd_same, upd_same]
    · rw [upd_ne h2, upd_ne h2, upd_ne h1, upd_ne h1]
/-- the first field of an error that is being made: in three steps, the empty dict, the error that has it, the field in it -/
theorem put_first (T : ErrC X.K C bs nw) (SF : StoreFacts B bs "object.__setattr__" "object") (I : Inv X pins σ H s) (at_ : H a = some (exo a C none)) (no : PySem.W.findIn X.K (.ref C) f = some none) (ry : RelV y u) {A : Around} {Q : Unit → Shared → Prop} {E : Value → Shared → Prop}
    (k : ∀ n s', H n = none → n ≠ a → Inv X pins σ (upd (upd H n (exd n [(f, y)])) a (exo a C (some n))) s' → Q () s') : wpAny (model X.prog X.w) A (setAttr (.ref a) f u) Q E s := by
  obtain ⟨t1, here⟩ := exo_at I.hok at_
  obtain ⟨cd, hc, hasd⟩ := PySem.W.any_some T.hd
  obtain ⟨hp, gs, dr, tk, os⟩ := s
  have lt : a < hp.objs.size := Heap.lt_size here
  have tkr : PySem.W.takerIn X.K C f = some none := by unfold PySem.W.takerIn; rw [no]; rfl
  refine PySem.W.set_plain I.kIn (od := none) ⟨here, rfl, rfl, trivial⟩ T.sa (PySem.W.osa_openX (od := none) SF I.kIn ⟨here, rfl, rfl, trivial⟩ T.ov tkr fun b => ?_)
  refine wpAny_bind (wpAny_pure (wpAny_bind (PySem.W.instanceDict_exc here (PySem.W.looks_clsIn I.kIn hc) hasd ?_)))
  have newd : (hp.push (PySem.W.dictOf [] 0)).get? hp.objs.size = some (PySem.W.dictOf [] 0) := Heap.get?_push_at rfl rfl
  have empty : (hp.push (PySem.W.dictOf [] 0)).Ns hp.objs.size (fun _ => none) := ⟨_, #[], _, newd, rfl, fun e he => absurd he (by simp), fun _ => rfl⟩
  have stay : ∀ b o, b ≠ a → (hp.push (PySem.W.dictOf [] 0)).get? b = some o → ((hp.push (PySem.W.dictOf [] 0)).update a fun o => { o with dict := some hp.objs.size }).get? b = some o := fun b o n q => (Heap.get?_update_ne _ _ _ _ n).trans q
  have has : ((hp.push (PySem.W.dictOf [] 0)).update a fun o => { o with dict := some hp.objs.size }).get? a = some ({ cls := .ref C, dict := some hp.objs.size, data := .fields #[.ref t1, .none, .none, .none, .bool false, .none] } : Obj) := Heap.get?_update_self _ (Heap.get?_push_of_some _ here) rfl
  have I1 := I.laid (a := hp.objs.size) (o := exd hp.objs.size []) (h' := hp.push (PySem.W.dictOf [] 0)) (t' := tk) (fun b o q => Heap.get?_push_of_some _ q) (Nat.le_refl _) (exd_ok (Heap.Ns1.of_empty empty) fun _ => True.intro)
  have I2 := I1.write (x := a) (e := a) (o := exo a C (some hp.objs.size)) (t' := tk) (by rw [upd_ne (Nat.ne_of_lt lt), at_]; exact True.intro) (.inl rfl) stay ⟨_, has⟩ (exo_ok has)
  show wpAny _ _ (Builtin.ObjectAttr.storeInDict hp.objs.size (.str f _) f u) _ _ _
  refine PySem.HandSPX.store_in_new ⟨_, #[], _, stay _ _ (Nat.ne_of_gt lt) newd, rfl, fun e he => absurd he (by simp), fun _ => rfl⟩ fun h' t' named same => ?_
  have I3 := I2.write (x := hp.objs.size) (e := hp.objs.size) (o := exd hp.objs.size [(f, y)]) (t' := t') (h' := h') (by rw [upd_ne (Nat.ne_of_gt lt), upd_same]; exact True.intro) (.inl rfl) (fun b o n q => (same.2 b n).trans q)
    (by obtain ⟨o, _, _, e', _⟩ := named; exact ⟨o, e'⟩) (exd_ok named (relO_put (fs := []) ry fun _ => True.intro))
  rw [upd_twice (Nat.ne_of_lt lt)] at I3
  exact k _ _ (I.hok.fresh (Nat.le_refl _)) (Nat.ne_of_gt lt) I3
/-- self.f = e in the __init__ of such a class -/
def tPutE (K : PySem.W.Frag) (bs : List Value) (nw : String) (f : Str) (to te : TE) : TS := fun D σ H => te σ H fun y H1 => to σ H1 fun x H2 => ∃ a C : Addr, (x = .ref a ∧ H2 a = some (exo a C none)) ∧ ErrC K C bs nw ∧ PySem.W.findIn K (.ref C) f = some none ∧
  ∀ n, H2 n = none → n ≠ a → D.nx σ (upd (upd H2 n (exd n [(f, y)])) a (exo a C (some n)))
theorem ps_putE (SF : StoreFacts B bs "object.__setattr__" "object") {o e : Expr} {to te : TE} {p' pos : Pos} (ho : PE X o to) (he : PE X e te) (sw : swapsWith e (some (.Attribute o f p')) pos.line X.env = pure false := by rfl) :
    PS X (.Assign [.Attribute o f p'] e pos) (tPutE X.K bs nw f to te) := by
  refine ⟨fun pins s σ H D I pre => plainObj_wpAny_Assign_Attribute (thn (he.run pins s σ H _ I pre) fun _ s1 ⟨y, H1, I1, ry, q1⟩ => thn (ho.run pins s1 σ H1 _ I1 q1) fun _ s2 ⟨x, H2, I2, rx, a, C, ⟨ex, at_⟩, T, no, go⟩ => ?_) sw⟩
  subst ex
  cases rx
  exact put_first T SF I2 at_ no ry fun n s' fresh ne J => ⟨σ, _, J, go n fresh ne⟩
/-- __init__(self, f): self.f = f -/
theorem iniE {P : Program} {w : World} {K : PySem.W.Frag} {mg : Str → Option Value} {base : Heap} {fI : Addr} {fd : FuncData} {x qn : Str} {st : Stmt} {s0 : Str} (F : Fun K x qn st fI fd) (S : FnScope [s0, f] [s0, f] (defScope st)) (T : ErrC K C bs nw) (no : PySem.W.findIn K (.ref C) f = some none)
    (b : ∀ (cdv : Value) (A : Around) (out : List Env) (s : Shared) (H : Hp) (E : XK), PSs (cxOf CX0 P w K mg base [s0, f] qn (defScope st) fI cdv A out s H E).nox (defBody st) (tPutE K bs nw f (tVar 0) (tVar 1))) : FnOk P w K mg base CX0 1 fI fd [s0, f] (Rb.spIni K C f) := by
  refine F.ok S (fun vs H Q E ⟨a, y, e, _⟩ => by rw [e]; rfl) fun cdv A outer s H vs Q E rm ⟨a, y, e, at_, go⟩ => ?_
  subst e
  exact ⟨_, b cdv A outer s H E, _, rfl, _, rfl, a, C, ⟨rfl, at_⟩, T, no, go⟩
/-- C(e): the error is made, its one field is the value -/
theorem pmkE {ini : String} {x : Str} {e : Expr} {te : TE} {fI : Addr} {lv : Nat} {fd : FuncData} {sps : List Str} {p pos : Pos} (FB : ExcBaseFacts B nw ini bs) (T : ErrC X.K C bs nw) (iC : PySem.W.findIn X.K (.ref C) "__init__" = some (some (.ref fI)))
    (tI : PySem.W.typeIn X.K (.ref fI) = some (.type "function")) (G : FnOk X.prog X.w X.K X.mg X.base CX0 lv fI fd sps (Rb.spIni X.K C f)) (rm : Room (lv + 1) X.A) (hb : Binds X.K fd sps []) (gl : Gl X x) (at_ : X.mg x = some (.ref C)) (he : PE X e te)
    (ndb : (x == ("__debug__" : Str)) = false := by decide) (s1 : starEach [e] X.env = (false, eval e X.env) :: starEach [] X.env := by rfl) (s2 : (backTo pos (starEach [] X.env)).any (·.1) = false := by rfl) :
    PMk X (.Call (.Name x p) [e] [] pos) (fun σ H Q => te σ H fun y H1 => ∀ n, H1 n = none → Q (.ref C) (some n) (upd H1 n (.xd [(f, y)]))) := by
  intro pins s σ H Q I pre
  have pa : PA X [e] (tCons te tNil) := pa_cons he pa_nil s1
  refine wpAny_Call_Name_kw (ld_glob I gl at_ ?_ ndb)
  refine PySem.W.callWith_K (h₀ := X.base) I.ok.mod.kin T.kp (thn (pa.run pos pins s σ H (fun vs H1 => match vs with | [y] => ∀ n, H1 n = none → Q (.ref C) (some n) (upd H1 n (.xd [(f, y)])) | _ => False) I pre) fun us s1 ⟨vs, H1, I1, rs, q1⟩ => ⟨I1.kIn, ?_⟩) s1 s2
  match vs, q1 with
  | [y], q1 =>
    obtain ⟨u, rfl, ru⟩ := rs.one
    obtain ⟨nm, N, qn, bs', bm, hdct, sn, sub, ab, col, dd, k0, k1, k2, k3, k5, isC, tail⟩ := PySem.W.excInit_of I1.kIn T.mkd
    obtain ⟨hp, gs, dr, tk, os⟩ := s1
    have fresh : H1 (hp.objs.size + 1) = none := I1.hok.fresh (Nat.le_succ _)
    have old : ∀ b o, hp.get? b = some o → ((hp.push (PySem.W.kdv_tup [u])).push (PySem.HandSPX.excO C hp.objs.size)).get? b = some o := fun b o z => Heap.get?_push_of_some _ (Heap.get?_push_of_some _ z)
    have made : ((hp.push (PySem.W.kdv_tup [u])).push (PySem.HandSPX.excO C hp.objs.size)).get? (hp.objs.size + 1) = some (PySem.HandSPX.excO C hp.objs.size) := by heap_get
    have I2 := I1.laid (t' := tk) (a := hp.objs.size + 1) (o := exo (hp.objs.size + 1) C none) old (Nat.le_succ _) (exo_ok made)
    have rs2 : Vals [V.ref (hp.objs.size + 1), y] [Value.ref (hp.objs.size + 1), u] := .cons rfl (.cons ru .nil)
    have job := (Rb.mkO_of (K := X.K) (C := C) (f := f) (y := y) (W := Q) q1).2 (hp.objs.size + 1) fresh
    have many : [Value.ref (hp.objs.size + 1), u].length = sps.length := rs2.length.symm.trans (G.len _ _ _ _ job)
    refine wpAny_call (PySem.HandSPX.call_own FB tail isC (PySem.W.looks_findIn I1.kIn iC) (fun self => PySem.W.bind_fn I1.kIn self tI) (by show 1 ≤ sizeLine; rw [sizeLine_eq]; omega) ?_)
    refine codeAny_mono (G.run _ X.stack _ _ ⟨[Value.ref (hp.objs.size + 1), u], []⟩ [Value.ref (hp.objs.size + 1), u] _ _ (fun _ _ _ => False) (rm.make C [u] []) (I2.env0.make C [u] []) (hb _ _ I2.kIn many) rs2 job) fun r s' fin => ?_
    match r, fin with
    | .ok (.ret w), fin =>
      obtain ⟨v, H2, os2, bare, un, hok, rv, rfl, n, fs, ea, ed, hn, q2⟩ := fin
      exact ⟨rv, mk_end (raises_own T.ex T.ty) I1 (Nat.le_succ _) old un hok os2 bare ea ed hn q2⟩
    | .ok .next, fin => exact (fin : False).elim
    | .ok .brk, fin => exact (fin : False).elim
    | .ok .cont, fin => exact (fin : False).elim
    | .error er, fin =>
      obtain ⟨_, _, _, _, _, _, _, _, _, _, _, _, _, _, _, _, z⟩ := fin
end
section
variable {X : Cx} {E : XK} {C fI : Addr} {fd : FuncData} {lv : Nat} {x f : Str} {sps : List Str} {e : Expr} {fe : FE} {bs : List Value} {nw B ini : String} {p p2 pos : Pos}
/-- raise C(e) -/
theorem d_raiseE (hc : X.calm = true) (tk : Takes X (fun cls d _ H => E cls d H)) (FB : ExcBaseFacts B nw ini bs) (T : ErrC X.K C bs nw) (iC : PySem.W.findIn X.K (.ref C) "__init__" = some (some (.ref fI))) (tI : PySem.W.typeIn X.K (.ref fI) = some (.type "function"))
    (G : FnOk X.prog X.w X.K X.mg X.base CX0 lv fI fd sps (Rb.spIni X.K C f)) (rm : Room (lv + 1) X.A) (hb : Binds X.K fd sps []) (gl : Gl X x) (at_ : X.mg x = some (.ref C)) (he : PEd X (cE E) e fe)
    (ndb : (x == ("__debug__" : Str)) = false := by decide) (s1 : starEach [e] X.env = (false, eval e X.env) :: starEach [] X.env := by rfl) (s2 : (backTo p2 (starEach [] X.env)).any (·.1) = false := by rfl) :
    PSd X E (.Raise (some (.Call (.Name x p) [e] [] p2)) none pos) (dRaise x f fe) := by
  refine PS.imp (ps_raise hc tk (pmkE FB T iC tI G rm hb gl at_ he ndb s1 s2)) fun D σ H ⟨μ, S, ρ, De, Ed, w, en, hf, k, px⟩ => ?_
  exact tR_of w en hf px fun d S1 v H1 μ1 h1 f1 w1 en1 px1 r1 n free => px1 (x, [(f, d)]) S1 (.ref C) (some n) _ μ1 h1 (Fw.new free) (w1.new free) ⟨at_, n, [(f, v)], rfl, upd_same, .cons (r1.fw w1 (Fw.new free)) .nil⟩
end
end Pu
namespace Pu
open PySem PySem.Spec PyProof.Rows L2
/-! ## a class's own operators: a + b, a >> i, a == b, x in a, a(x) -/
/-- what stands when both operands are there -/
def Two (X : Cx) (cx : CXT) (lv : Nat) (E1 : XK) (Q : VK) (x y : V) (H : Hp) (Y : Addr → Addr → V → Hp → Prop) : Prop :=
  ∃ (a C dx : Addr) (fv : List (Str × V)) (fn : Addr) (dat : FuncData) (pars : List Str) (F : FF) (d i : D) (μ : Mu) (S : Sto) (Qd : QD) (Ed : ED), (x = .ref a ∧ H a = some (.ins C dx fv) ∧ Y C fn y H) ∧
    Rb.FnG X.prog X.w X.K X.mg X.base cx lv fn dat pars (spF (ct X) F) ∧ Binds X.K dat pars [] ∧ Wd (ct X) μ S H ∧ Rp (ct X) μ H x d ∧ Rp (ct X) μ H y i ∧ F [d, i] S Qd Ed ∧ PostV (ct X) μ H Qd Q ∧ PX (ct X) μ H Ed E1
section
variable {X : Cx} {cx : CXT} {lv : Nat} {tab : List (Str × FF)}
theorem Two.run {pins : List (Addr × Obj)} {σ : L2.St} {s : Shared} {E1 : XK} {Q : VK} {x y : V} {v u : Value} {H : Hp} {Y : Addr → Addr → V → Hp → Prop} (gd : X.A.guards = some []) (rm : Room lv X.A) (ps : PassesAt cx X σ E1) (I : Inv X pins σ H s) (rx : RelV x v) (ry : RelV y u) (t : Two X cx lv E1 Q x y H Y) :
    ∃ (a C fn : Addr) (ox : Obj) (od : Option Obj) (m : Str → Option Value), v = .ref a ∧ Y C fn y H ∧ ox.data = .plain ∧ PySem.W.InstAt s.heap a ox C od ∧ Fr X.base X.env.locals s.heap m ∧ wpAny (model X.prog X.w) X.A (call (.ref fn) [.ref a, u]) (EP X pins σ Q) X.xe s := by
  obtain ⟨a, C, dx, fv, fn, dat, pars, F, d, i, μ, S, Qd, Ed, ⟨rfl, ea, hy⟩, c4, c5, w2, r1, r2, h2, q2, px2⟩ := t
  obtain rfl : v = Value.ref a := rx
  obtain ⟨mm, ob, _, _, _, _⟩ := ins_get I.hok ea
  obtain ⟨od, J, _⟩ := ob.look
  obtain ⟨m, fr⟩ := I.fr
  exact ⟨a, C, fn, _, od, m, rfl, hy, rfl, J, fr, runGS (us := [.ref a, u]) (xs := [.ref a, y]) c4 gd rm c5 ps I (.cons rfl (.cons ry .nil)) ⟨μ, S, [d, i], Qd, Ed, w2, .cons r1 (.cons r2 .nil), h2, q2, px2⟩⟩
end
end Pu
namespace Pu
open PySem PySem.Spec PyProof.Rows L2
/-! ## defs that are run whatever repr is under way (what a generator's body calls) -/
structure FnU (pr : Program) (wo : World) (K : PySem.W.Frag) (mg : Str → Option Value) (b0 : Heap) (cx : CXT) (lv : Nat) (fn : Addr) (dat : FuncData) (pars : List Str) (sp : Sp) : Prop where
  many : ∀ xs H Q E, sp xs H Q E → xs.length = pars.length
  goes : ∀ (A : Around) (out : List Env) (s : Shared) (H : Hp) (ar : Args) (us : List Value) (xs : List V) (Q : VK) (E : XK),
    Room lv A → Env0 pr wo K mg b0 A out s H → BindsTo s dat ar (pars.zip us) → Vals xs us → sp xs H Q E →
    codeAny (model pr wo) A (.call (.ref fn) ar) (CR cx out pr wo H s Q E) s
theorem FnU.g {pr : Program} {wo : World} {K : PySem.W.Frag} {mg : Str → Option Value} {b0 : Heap} {cx : CXT} {lv : Nat} {fn : Addr} {dat : FuncData} {pars : List Str} {sp : Sp} (F : FnU pr wo K mg b0 cx lv fn dat pars sp) : Rb.FnG pr wo K mg b0 cx lv fn dat pars sp :=
  ⟨F.many, fun A out s H ar us xs Q E h1 _ h2 h3 h4 h5 => F.goes A out s H ar us xs Q E h1 h2 h3 h4 h5⟩
end Pu
namespace Pu
open PySem PySem.Spec PyProof.Rows L2 GenW
/-! ## a generator's body: what is out so far goes along -/
theorem GS.imp {X : Cx} {st : Stmt} {t t' : TGn} (h : GS X st t) (k : ∀ D ys σ H, t' D ys σ H → t D ys σ H) : GS X st t' :=
  ⟨fun A S ip R n ys s₀ c fs K J gd lv s σ H D g hn kk hI ht => h.run A S ip R n ys s₀ c fs K J gd lv s σ H D g hn kk hI (k D ys σ H ht)⟩
theorem GSs.imp {X : Cx} {st : List Stmt} {t t' : TGn} (h : GSs X st t) (k : ∀ D ys σ H, t' D ys σ H → t D ys σ H) : GSs X st t' :=
  ⟨fun A S ip R n ys s₀ c fs K J gd lv s σ H D g hn kk hI ht => h.run A S ip R n ys s₀ c fs K J gd lv s σ H D g hn kk hI (k D ys σ H ht)⟩
/-! ## the def, its promise -/
end Pu
namespace Pu
open PySem PySem.Spec PyProof.Rows L2
/-! ## the truth of a tuple, as a test -/
def onTr (d : D) (k : Bool → Prop) : Prop := match d with | .tup xs => k (!xs.isEmpty) | .bl b => k b | _ => False
theorem onTr_of {d : D} {k : Bool → Prop} (h : onTr d k) : (∃ xs, d = .tup xs ∧ k (!xs.isEmpty)) ∨ ∃ b, d = .bl b ∧ k b := by
  cases d with
  | tup xs => exact .inl ⟨xs, rfl, h⟩
  | bl b => exact .inr ⟨b, rfl, h⟩
  | _ => exact h.elim
def dTestU (f : FE) : FT := fun ρ S Q Ed => f ρ S (fun d S1 => onTr d fun b => Q b S1) Ed
section
variable {X : Cx} {E : L2.St → XK} {e : Expr}
theorem d_tvalU {f : FE} (h : PEd X E e f) (he : ∀ whole, isTrue e X.env whole = (do let v ← whole; standAt e.pos; holding [v] (truthy v)) := by intro _; rfl) : PTd X E e (dTestU f) := by
  refine PT.imp (pt_truth h he) fun σ H Q ⟨μ, S, ρ, Qd, Ed, w, en, hf, q, px⟩ => ?_
  refine tR_of w en hf px fun x S1 v H1 μ1 h1 f1 w1 en1 px1 r1 => ?_
  rcases onTr_of h1 with ⟨xs, rfl, hb⟩ | ⟨b, rfl, hb⟩
  · obtain ⟨a, vs, rfl, ha, ra⟩ := r1.tup_inv
    refine ⟨!xs.isEmpty, .inr (.inl ⟨vs, SqT.of ha, ?_⟩), q _ S1 _ H1 μ1 hb f1 w1 rfl⟩
    cases ra <;> rfl
  · rw [r1.bl_inv]
    exact ⟨b, rfl, q b S1 b H1 μ1 hb f1 w1 rfl⟩
end
end Pu
namespace Pu
open PySem PySem.Spec PyProof.Rows L2
/-! ## several except clauses, each of one class or of two, with a name or without -/
section
variable {X : Cx}
/-- an error in the hand of the clauses: sI is the state without it -/
structure InHand (X : Cx) (B : Heap) (a : Addr) (cls : Value) (d : Option Addr) (pins : List (Addr × Obj)) (σ : L2.St) (H : Hp) (sI s' : Shared) : Prop where
  inv : Inv X pins σ H sI
  gr : ∀ b o, sI.heap.get? b = some o → b ∉ frs X.stack → B.get? b = some o
  na : H a = none
  os : s'.os = sI.os
  ag : AllBare s'.gens
section
variable {B : Heap} {a : Addr} {cls : Value} {d : Option Addr} {pins : List (Addr × Obj)} {σ : L2.St} {H : Hp} {sI s' : Shared} {h : Heap}
theorem InHand.now (c : InHand X B a cls d pins σ H sI s') (f : HandSPX.FlyingZ B (X.env :: X.outer) a (Zc cls d) h) (u : sI.heap.UpToSlots h) : Inv X pins σ H { s' with heap := h } := c.inv.landed c.gr f.1 u c.os c.ag
theorem flying_apart (f : HandSPX.FlyingZ B (X.env :: X.outer) a (Zc cls d) h) : a ∉ frs (X.env :: X.outer) := by
  obtain ⟨o, vs, e1, _, e2⟩ := f.there
  intro z
  obtain ⟨_, o', e3, nf⟩ := f.2.2.1.mem z
  rw [e1] at e3
  cases e3
  exact nf _ e2
theorem InHand.suite (c : InHand X B a cls d pins σ H sI s') (hf : X.env.frame = some X.env.locals) (f : HandSPX.FlyingZ B (X.env :: X.outer) a (Zc cls d) h) (u : sI.heap.UpToSlots h) :
    ∃ oe vs, h.get? a = some oe ∧ Zc cls d oe ∧ oe.data = .fields vs ∧ Inv (X.suite a ((a, oe) :: (X.pn ++ pins))) [] σ H { s' with heap := h } := by
  obtain ⟨o, vs, e1, z, e2⟩ := f.there
  have ap := flying_apart f
  refine ⟨o, vs, e1, z, e2, (c.now f u).suite e1 e2 c.na (fun w => ap ?_) fun w => ap ?_⟩
  · exact List.mem_filterMap.mpr ⟨X.env, List.mem_cons_self, w ▸ hf⟩
  · obtain ⟨e, m1, m2⟩ := List.mem_filterMap.mp w
    exact List.mem_filterMap.mpr ⟨e, List.mem_cons_of_mem _ m1, m2⟩
end
end
end Pu
/-! sorted of tuples of whole numbers, of any lengths, the first one empty -/
namespace PuSt
open PySem PySem.Calls PySem.W PyProof.Rows
def IsTI (hp : Heap) (v : Value) (ns : List Int) : Prop := ∃ (a : Addr) (dd : Option Addr) (items : Array Value) (n : Nat) (sl : Array (Option Value)), v = .ref a ∧ hp.get? a = some { cls := .type "tuple", dict := dd, data := .seq items n, slots := sl } ∧ IntsAre items.toList ns
theorem IsTI.keeps {hp hp' : Heap} {v : Value} {ns : List Int} (x : IsTI hp v ns) (k : ∀ b o, hp.get? b = some o → o.cls = .type "tuple" → hp'.get? b = some o) : IsTI hp' v ns := by
  obtain ⟨a, dd, items, n, sl, e, g, i⟩ := x
  exact ⟨a, dd, items, n, sl, e, k _ _ g rfl, i⟩
theorem IsTI.type {M : Model} {hp : Heap} {v : Value} {ns : List Int} (x : IsTI hp v ns) : Looks M hp (typeOf v) (.type "tuple") := by
  obtain ⟨a, dd, items, n, sl, rfl, g, i⟩ := x
  exact (Looks.ld g).andThen .now
section
variable {prog : Program} {w : World} {A : Around} {E : Value → Shared → Prop} {s : Shared}
theorem lt_ti {v u : Value} {ns ms : List Int} {Q : Bool → Shared → Prop} (hu : A.units < cLine) (hv : IsTI s.heap v ns) (hw : IsTI s.heap u ms) (h : Q (HT.lexLt ns ms) s) : wpAny (model prog w) A (keyLt' oneType' v u) Q E s := by
  have tv : Looks (model prog w) s.heap (typeOf v) (.type "tuple") := hv.type
  have sp : Looks (model prog w) s.heap (specialOf v "__lt__") (some (.builtin "tuple.__lt__")) := tv.andThen (by rw [show typeLookup (.type "tuple") "__lt__" = pure (some (.builtin "tuple.__lt__")) from PySem.F.slot_tuple_lt.lookup]; exact .now)
  obtain ⟨a, dd, items, n, sl, rfl, ga, ia⟩ := hv
  obtain ⟨b, dd2, items2, n2, sl2, rfl, gb, ib⟩ := hw
  rw [keyLt'_oneType, oneLt'_eq]
  simp only [if_true]
  refine wpAny_bind (wpAny_cRoomFor hu ?_)
  refine wpAny_bind (NtL.csib (E := E) sp (PySem.F.slot_tuple_lt.bind _) (call_meets PySem.F.slot_tuple_lt ⟨_, ga, rfl⟩ PySem.F.entry_tuple_lt (PySem.F.args_tuple_lt_2 _ _) (HT.tuple_lt_ints a b items items2 n n2 dd dd2 sl sl2 ns ms ia ib) ⟨ga, gb, ?_⟩))
  exact wpAny_truthy_bool h
theorem firsts_ti : ∀ (vs : List Value) {k : Value → List Int} {Q : List (Option Value) → Shared → Prop}, (∀ v ∈ vs, IsTI s.heap v (k v)) → (∀ fs : List (Option Value), fs.length = vs.length → (∀ (i : Nat) (v : Value), vs[i]? = some v → k v = [] → fs[i]? = some none) → Q fs s) → wpAny (model prog w) A (vs.mapM firstOfTuple') Q E s
  | [], k, Q, _, h => by rw [List.mapM_nil]; exact wpAny_pure (h [] rfl fun i v e _ => by simp at e)
  | v :: vs, k, Q, t, h => by
    obtain ⟨a, dd, items, n, sl, rfl, ga, ia⟩ := t v List.mem_cons_self
    rw [List.mapM_cons]
    refine wpAny_bind ?_
    rw [kas_first_eq]
    refine wpAny_bind (Looks.here (show Looks (model prog w) s.heap (typeOf (.ref a)) (.type "tuple") from (Looks.ld ga).andThen .now) ?_)
    rw [if_neg (by first | decide | simp)]
    refine wpAny_bind (listItems_at ga rfl (wpAny_pure ?_))
    refine wpAny_bind (firsts_ti vs (k := k) (Q := fun bs s' => wpAny (model prog w) A (pure (items[0]? :: bs)) Q E s') (fun u hu => t u (List.mem_cons_of_mem _ hu)) fun fs hl hf => wpAny_pure (h _ (by rw [List.length_cons, List.length_cons, hl]) fun i u e z => ?_))
    cases i with
    | zero =>
      cases e
      rw [z] at ia
      have : items.toList = [] := by cases hq : items.toList with
        | nil => rfl
        | cons x r => rw [hq] at ia; cases ia
      rw [show items = #[] from Array.toList_eq_nil_iff.mp this]
      rfl
    | succ i => exact hf i u e z
theorem kind_ti {v : Value} {vs : List Value} {k : Value → List Int} {Q : SortKind → Shared → Prop} (t : ∀ u ∈ v :: vs, IsTI s.heap u (k u)) (h0 : k v = []) (h : Q oneType' s) : wpAny (model prog w) A (keyKind' (v :: vs).toArray) Q E s := by
  rw [keyKind'_eq, List.mapM_toArray, map_eq_pure_bind]
  refine wpAny_bind (wpAny_bind (firsts_ti (v :: vs) t fun fs hl hf => wpAny_pure ?_))
  have h1 := hf 0 v rfl h0
  cases fs with
  | nil => simp at hl
  | cons f fr =>
    cases h1
    rw [if_neg (by simp), if_neg (by simp)]
    rw [oneTypeOnly'_eq, List.mapM_toArray, map_eq_pure_bind]
    refine wpAny_bind (wpAny_bind (wpAny_bind (kas_mapM (r := .type "tuple") _ (fun u hv Q' hq => ((t u hv).type).here hq) (wpAny_pure ?_))))
    have hall : ((List.map (fun _ => Value.type "tuple") (v :: vs)).toArray.all fun x => x == Value.type "tuple") = true := by
      simp only [List.all_toArray, List.all_map, List.all_eq_true]
      intro _ _
      rfl
    have h0 : (List.map (fun _ => Value.type "tuple") (v :: vs)).toArray[0]? = some (Value.type "tuple") := by simp
    rw [h0]
    simp only [hall, if_true]
    exact wpAny_pure (wpAny_pure h)
theorem sortable_ti {a : Addr} {v : Value} {vs : List Value} {k : Value → List Int} (hu : A.units < cLine) (hv : ∀ u ∈ v :: vs, IsTI s.heap u (k u)) (h0 : k v = []) (ha : ∀ o, s.heap.get? a = some o → o.cls ≠ .type "tuple") :
    SrtO.SortableO prog w A s a (v :: vs) fun v u => HT.lexLt (k v) (k u) := by
  intro h' keep
  have hv' : ∀ u ∈ v :: vs, IsTI h' u (k u) := fun u hm => (hv u hm).keeps fun b o e c => keep b o (fun z => by subst z; exact ha o e c) e
  refine ⟨oneType', fun Q E hq => kind_ti (s := { s with heap := h' }) hv' h0 hq, ?_⟩
  intro p q hp hq
  exact lt_ti (s := { s with heap := h' }) (Q := fun r s' => s' = { s with heap := h' } ∧ r = HT.lexLt (k p.1) (k q.1)) (E := fun _ _ => False) hu (hv' p.1 hp) (hv' q.1 hq) ⟨rfl, rfl⟩
theorem sorted_ti {l : Addr} {v : Value} {vs : List Value} {k : Value → List Int} {Q : Value → Shared → Prop} (hu : A.in1.in1.units < cLine) (hl : s.heap.IsList l (v :: vs).toArray) (hz : (v :: vs).length ≤ sizeLine) (hp : ∀ u ∈ v :: vs, IsTI s.heap u (k u)) (h0 : k v = [])
    (h : ∀ (h' : Heap) (d : Addr) (out : List Value), SrtO.Srtd (fun v u => HT.lexLt (k v) (k u)) out → SrtO.Stb (fun v u => HT.lexLt (k v) (k u)) out (v :: vs) → (∀ b o, s.heap.get? b = some o → h'.get? b = some o) → s.heap.objs.size ≤ d → (∃ n, h'.get? d = some (seqObj "list" out.toArray n)) → Q (.ref d) { s with heap := h' }) :
    wpAny (model prog w) A (call (.builtin "sorted") [.ref l]) Q E s := by
  refine SrtO.sorted_ord (NtL.swo_lexL k) hl hz (fun h2 h₁ a ha kk => ?_) fun out hs hb => ?_
  · refine sortable_ti (s := { s with heap := h₁ }) hu (fun u hm => (hp u hm).keeps fun b o e _ => (kk b o e).2) h0 fun o e => ?_
    have e' : some o = some (seqObj "list" (v :: vs).toArray 0) := e.symm.trans ha
    cases e'
    intro c
    exact absurd (Value.type.inj c) (by decide)
  · exact h _ _ out hs hb (fun b o e => sortedAll_old e) (Nat.le_succ _) (sortedAll_at s.heap (v :: vs) out.toArray)
end
end PuSt
namespace Pu
open PySem PySem.Spec PyProof.Rows L2
def tupI (ns : List Int) : D := .tup (ns.map D.int)
@[irreducible] def gSortT : List D → Sto → QD → Prop := fun ds S Q => match ds with
  | [d] => onSome (lstOf S d) fun xs => ∃ nss : List (List Int), xs = ([] :: nss).map tupI ∧ ∀ mss : List (List Int), mss.Perm ([] :: nss) → mss.Pairwise (fun a b => HT.lexLt b a = false) → Q (.lst false (mss.map tupI)) S
  | _ => False
def iV : V → Int
  | .int i => i
  | _ => 0
def kT (H : Hp) : V → List Int
  | .ref t => match H t with
    | some (.tup vs) => vs.map iV
    | _ => []
  | _ => []
theorem iV_ints : ∀ ns : List Int, (ns.map V.int).map iV = ns
  | [] => rfl
  | n :: ns => congrArg (n :: ·) (iV_ints ns)
theorem ints_are : ∀ {ns : List Int} {us : List Value}, Vals (ns.map V.int) us → IntsAre us ns
  | [], _, .nil => .nil
  | n :: ns, _, .cons h r => by
    obtain ⟨t, rfl⟩ := h
    exact .cons n t (ints_are r)
section
variable {X : Cx} {c : Ct} {μ : Mu} {H : Hp}
theorem RpAll.tis : ∀ {vs : List V} {nss : List (List Int)}, RpAll c μ H vs (nss.map tupI) → (∀ v ∈ vs, ∃ t, v = .ref t ∧ H t = some (.tup ((kT H v).map V.int))) ∧ vs.map (kT H) = nss
  | [], [], _ => ⟨fun v h => absurd h List.not_mem_nil, rfl⟩
  | [], _ :: _, h => nomatch h
  | _ :: _, [], h => nomatch h
  | v :: vs, ns :: nss, .cons r rs => by
    obtain ⟨h1, h2⟩ := RpAll.tis rs
    obtain ⟨a, ws, rfl, ha, ra⟩ := Rp.tup_inv r
    rw [ra.ints] at ha
    have ek : kT H (.ref a) = ns := by
      show (match H a with
        | some (.tup vs) => vs.map iV
        | _ => []) = ns
      rw [ha]
      exact iV_ints ns
    refine ⟨fun u hu => ?_, by rw [List.map_cons, ek, h2]⟩
    rcases List.mem_cons.mp hu with rfl | hu
    · exact ⟨a, rfl, by rw [ek]; exact ha⟩
    · exact h1 u hu
theorem RpAll.ofTis : ∀ {vs : List V}, (∀ v ∈ vs, ∃ t, v = .ref t ∧ H t = some (.tup ((kT H v).map V.int))) → RpAll c μ H vs ((vs.map (kT H)).map tupI)
  | [], _ => .nil
  | v :: vs, h => by
    obtain ⟨t, e, ht⟩ := h v List.mem_cons_self
    refine .cons ?_ (RpAll.ofTis fun u hu => h u (List.mem_cons_of_mem _ hu))
    rw [e] at ht ⊢
    exact .tup ht (RpAll.ofInts _)
theorem c_sortT (hu : X.A.units + 64 < cLine) : CallR X (.builtin "sorted") (rDs (ct X) gSortT) := by
  intro pins s σ H vs us Q I r ⟨μ, S, ds, Qd, w, ra, hg, q⟩
  unfold gSortT at hg
  split at hg
  · obtain ⟨v, rfl, rv⟩ := ra.one
    obtain ⟨xs, e, hg⟩ := onSome_of hg
    obtain ⟨a, ws, rfl, hs, rs⟩ := rv.lstT w e
    obtain ⟨nss, rfl, hg⟩ := hg
    obtain ⟨t1, t2⟩ := rs.tis
    obtain ⟨its, rw', hl, hz⟩ := I.list (SqL.of hs)
    obtain ⟨u, rfl, ru⟩ := vals1 r
    obtain rfl : u = Value.ref a := ru
    obtain ⟨e1, e2⟩ := refs_back rw' fun x m => by
      obtain ⟨t, e, _⟩ := t1 x m
      exact ⟨t, e⟩
    cases its with
    | nil => rw [e1] at t2; simp at t2
    | cons v0 its =>
      have k0 : kT H (backV v0) = [] := by
        rw [e1, List.map_cons, List.map_cons] at t2
        exact (List.cons.inj t2).1
      refine PuSt.sorted_ti (k := fun u => kT H (backV u)) (by show X.A.units + 1 + 1 < cLine; omega) hl.isList (by rw [← rw'.length]; exact hz) (fun v hv => ?_) k0 fun h' d out h1 h2 kp hd hn => ?_
      · obtain ⟨t, rfl⟩ := e2 v hv
        have hm : V.ref t ∈ ws := by rw [e1]; exact List.mem_map.mpr ⟨_, hv, rfl⟩
        obtain ⟨t', e, ht⟩ := t1 _ hm
        cases e
        obtain ⟨_, its2, r2, o, ho, hc, n, hd⟩ := I.hok _ _ ht
        obtain ⟨cls, dd, data, sl⟩ := o
        simp only at hc hd
        subst hc hd
        exact ⟨t, dd, its2.toArray, n, sl, rfl, ho, ints_are (by rw [show its2.toArray.toList = its2 from rfl]; exact r2)⟩
      · have h3 : ∀ u ∈ out, ∃ a, u = Value.ref a := fun u hu => e2 u (h2.perm.mem_iff.mp hu)
        obtain ⟨n, hn⟩ := hn
        have pm : (out.map backV).Perm ws := by
          rw [e1]
          exact h2.perm.map backV
        have pk := pm.map (kT H)
        rw [t2] at pk
        have t3 : ∀ v ∈ out.map backV, ∃ t, v = .ref t ∧ H t = some (.tup ((kT H v).map V.int)) := fun v hv => t1 v (pm.mem_iff.mp hv)
        have sr : ((out.map backV).map (kT H)).Pairwise (fun a b => HT.lexLt b a = false) := by
          rw [List.map_map]
          exact List.pairwise_map.mpr h1
        have fin := q.lst w (RpAll.ofTis t3) (hg _ pk sr) (I.hok.fresh hd)
        refine ⟨.ref d, upd H d (.lst (out.map backV)), I.laid (t' := s.toks) kp hd ⟨?_, out, n, vals_back h3, hn⟩, rfl, fin⟩
        rw [pm.length_eq]
        exact hz
  · exact hg.elim
theorem sortT_of {d : D} {S : Sto} {Q : QD} {xs : List D} {nss : List (List Int)} (e : lstOf S d = some xs) (ex : xs = ([] :: nss).map tupI) (q : ∀ mss : List (List Int), mss.Perm ([] :: nss) → mss.Pairwise (fun a b => HT.lexLt b a = false) → Q (.lst false (mss.map tupI)) S) : gSortT [d] S Q := by
  unfold gSortT
  show onSome (lstOf S d) _
  rw [e]
  exact ⟨nss, ex, q⟩
end
end Pu
namespace Pu
open PySem PySem.Spec PyProof.Rows L2
/-! ## a def that is called with the error that is handled -/
structure RmE (k : Nat) (A : Around) : Prop where
  dp : A.depth + 3 * k + 5 < recursionLimit
  un : A.units + 16 * k + 200 < cLine
theorem RmE.units {k : Nat} {A : Around} (r : RmE k A) : A.units + 64 < cLine := by have := r.un; omega
theorem RmE.mono {j k : Nat} {A : Around} (r : RmE k A) (h : j ≤ k) : RmE j A := ⟨by have := r.dp; omega, by have := r.un; omega⟩
theorem RmE.of {k : Nat} {A : Around} (r : Room k A) : RmE k A := ⟨r.dp, r.un⟩
end Pu
namespace Pu
open PySem PySem.Spec PyProof.Rows L2 Builtin Builtin.Str
/-! ## upper of a text -/
/-! ## replace with a count -/
/-! ## where a token has been given out -/
section
variable {X : Cx}
theorem PET.imp {e : Expr} {t t' : TE} (h : PET X e t) (k : ∀ σ H Q, t' σ H Q → t σ H Q) : PET X e t' := fun pins s σ H Q h0 I q => h pins s σ H Q h0 I (k σ H Q q)
theorem PST.imp {e : Stmt} {t t' : TS} (h : PST X e t) (k : ∀ D σ H, t' D σ H → t D σ H) : PST X e t' := fun pins s σ H D h0 I q => h pins s σ H D h0 I (k D σ H q)
theorem PSsT.imp {e : List Stmt} {t t' : TS} (h : PSsT X e t) (k : ∀ D σ H, t' D σ H → t D σ H) : PSsT X e t' := fun pins s σ H D h0 I q => h pins s σ H D h0 I (k D σ H q)
end
/-! ## what gives a token out -/
/-! ## a text, a few times -/
/-! ## a text not in a text -/
end Pu
namespace Pu
open PySem PySem.Spec PyProof.Rows L2 Builtin PySem.W
/-! ## a whole number in a field of eight, with commas -/
def sp8 : Str := ">8,"
def f8 : Float.FormatSpec := match Float.parseFormatSpec sp8.cps.toList "int" 62 with
  | .ok f => f
  | .error _ => { align := 62 }
end Pu
namespace Pu
open PySem PySem.Spec PyProof.Rows L2 LamX
/-! ## cells of the def around, told for the time of a call -/
def rem (cs : List Addr) (H : Hp) : Hp := fun b => if b ∈ cs then none else H b
def add (cs : List Addr) (G H : Hp) : Hp := fun b => if b ∈ cs then G b else H b
section
variable {cs : List Addr} {G H : Hp} {b : Addr}
/-- what stands at cs are told things of which nothing is said -/
def FzH (cs : List Addr) (G : Hp) : Prop := ∀ b ∈ cs, ∃ o, G b = some (.frz o extT)
end
/-! ### what is known, with more and with less -/
/-! ## a lambda of one parameter, called -/
structure LamG (pr : Program) (wo : World) (K : PySem.W.Frag) (mg : Str → Option Value) (b0 : Heap) (lv : Nat) (x : Lam) (sp : Sp) : Prop where
  goes : ∀ (A : Around) (out : List Env) (s : Shared) (H : Hp) (av : List Addr) (f : Addr) (us : List Value) (xs vs : List V) (Q : VK), Room lv A → A.guards = some [] → Env0 pr wo K mg b0 A out s H → LamAt H av f x vs → Vals xs us →
    (∀ cs : List Addr, FzH cs H → (∀ b ∈ cs, b ∉ av) → sp (xs ++ vs) (rem cs H) (fun v H' => (∀ b ∈ cs, H' b = none) → Q v (add cs H H')) fun _ _ _ => False) →
    codeAny (model pr wo) A (.call (.ref f) ⟨us, []⟩) (CR CX0 out pr wo H s Q fun _ _ _ => False) s
end Pu
namespace Pu
open PySem PySem.Spec PyProof.Rows L2 LamX
/-! ## a lambda is made -/
/-! ## a lambda's meaning -/
def LamF (pr : Program) (wo : World) (K : PySem.W.Frag) (mg : Str → Option Value) (b0 : Heap) (lv : Nat) (x : Lam) (F : FF) : Prop := LamG pr wo K mg b0 lv x (spF (ct0 K mg) F)
/-! ## a name that holds a lambda is called -/
end Pu
namespace Pu
open PySem PySem.Spec PyProof.Rows L2 LamX
/-! ## what the written part says of a def in which a lambda stands -/
structure TabK (K : PySem.W.Frag) (mg : Str → Option Value) (c P : Addr) : Prop where
  code : ∃ o vs file tf flags tg inF text tt, K.lookup c = some o ∧ o.cls = .type "code" ∧ o.data = .fields vs ∧ vs[11]? = some (.ref P) ∧ vs.getD 11 .none = .ref P ∧ vs.getD 18 .none = .str file tf ∧
    vs.getD 7 .none = .int flags tg ∧ vs.getD 9 .none = .bool inF ∧ vs.getD 10 .none = .int text tt ∧ c ≠ P
  bm : ∃ a, mg "__builtins__" = some (.ref a) ∧ a ≠ builtinsNs ∧ a ≠ mainGlobals ∧ a ≠ P
  gP : mainGlobals ≠ P
/-- what stands at the module of built-ins -/
def BmB (b : Heap) (mg : Str → Option Value) : Prop := ∀ a, mg "__builtins__" = some (.ref a) → ∃ o, b.get? a = some o ∧ o.cls = .type "module" ∧ o.dict = some builtinsNs ∧ o.data = .plain
theorem TabK.at_ {K : PySem.W.Frag} {mg : Str → Option Value} {c P : Addr} {b : Heap} (t : TabK K mg c P) (hB : BmB b mg) (k : K.In b) : TabB b mg c P := by
  obtain ⟨o, vs, file, tf, flags, tg, inF, text, tt, e, r⟩ := t.code
  obtain ⟨a, e1, e2, e3, e4⟩ := t.bm
  obtain ⟨oa, e5, e6⟩ := hB a e1
  exact ⟨⟨o, vs, file, tf, flags, tg, inF, text, tt, k _ _ e, r⟩, ⟨a, oa, e1, e2, e3, e4, e5, e6⟩, t.gP⟩
/-! ## a def whose code object is known -/
theorem LamF.mono {pr : Program} {wo : World} {K : PySem.W.Frag} {mg : Str → Option Value} {b0 : Heap} {lv l2 : Nat} {x : Lam} {F : FF} (G : LamF pr wo K mg b0 lv x F) (h : lv ≤ l2) : LamF pr wo K mg b0 l2 x F :=
  ⟨fun A out s H av f us xs vs Q rm => G.goes A out s H av f us xs vs Q (rm.mono h)⟩
/-! ## where a lambda stands in a def's text -/
end Pu
namespace Pu
open PySem PySem.Spec PyProof.Rows L2 LamX
/-! ## the law's own call, where the tables of some defs are told -/
theorem lawGT {pr : Program} {wo : World} {K : PySem.W.Frag} {mg mb : Str → Option Value} {lv : Nat} {fn sc : Addr} {dat : FuncData} {x : Str} {sp : Sp} {s : Shared} {us : List Value} {ns : List Int} {cs : List (Addr × Addr)}
    (kin : K.In s.heap) (gns : s.heap.Ns mainGlobals mg) (bns : s.heap.Ns builtinsNs mb) (boot : ∀ y : Str, y ≠ "__name__" → mb y = bootBuiltins y) (nol : s.heap.NoLimit) (ge : s.gens = #[])
    (tabs : ∀ p ∈ cs, s.heap.get? p.2 = some { cls := .none, data := .fields #[] } ∧ K.lookup p.2 = none ∧ PySem.W.CodeHd s.heap p.1 p.2)
    (at_ : s.heap.get? sc = some { cls := .type "list", data := .seq us.toArray }) (ia : IntsAre us ns) (few : ns.length ≤ sizeLine) (rm : Room lv callerA)
    (hBm : BmB s.heap mg) (F : ∀ b0 : Heap, K.In b0 → b0.Ns mainGlobals mg → BmB b0 mg → Rb.FnG pr wo K mg b0 CX0 lv fn dat [x] sp) (bi : ∀ (z : Shared) (u : Value), BindsTo z dat ⟨[u], []⟩ [(x, u)])
    (pro : ∀ H : Hp, (∀ p ∈ cs, H p.2 = some (.tbl #[])) → SqL K H sc (ns.map V.int) → sp [.ref sc] H (fun v _ => v = .bl true) fun _ _ _ => False) :
    codeAny (model pr wo) callerA (.call (.ref fn) ⟨[.ref sc], []⟩) (fun r z => r = .ok (.ret (.bool true)) ∧ OldK s.heap z.heap ∧ z.os = s.os ∧ AllBare z.gens) s := by
  have scT : sc ∉ cs.map (·.2) := fun z => by
    obtain ⟨p, hp, e⟩ := List.mem_map.mp z
    have := (tabs p hp).1
    rw [e, at_] at this
    cases (show Data.seq us.toArray _ = Data.fields #[] from congrArg Obj.data (Option.some.inj this))
  have tabAt : ∀ b ∈ cs.map (·.2), s.heap.get? b = some { cls := .none, data := .fields #[] } := fun b hb => by
    obtain ⟨p, hp, e⟩ := List.mem_map.mp hb
    rw [← e]
    exact (tabs p hp).1
  have go : ∀ H : Hp, (∀ b o, H b = some o → (b = sc ∧ ∃ ob xs, o = .frz ob (.lst xs)) ∨ (b ∈ cs.map (·.2) ∧ o = .tbl #[])) → (∀ p ∈ cs, H p.2 = some (.tbl #[])) → SqL K H sc (ns.map V.int) → HOk pr wo H s.heap → (H sc ≠ none → K.lookup sc = none) →
      codeAny (model pr wo) callerA (.call (.ref fn) ⟨[.ref sc], []⟩) (fun r z => r = .ok (.ret (.bool true)) ∧ OldK s.heap z.heap ∧ z.os = s.os ∧ AllBare z.gens) s := by
    intro H one tb sq hok notK
    have dicts : ∀ {b : Addr} {o : Obj} {es : Array DictEntry} {ep : Nat}, s.heap.get? b = some o → o.data = .dict es ep → H b = none := by
      intro b o es ep e d
      match q : H b with
      | none => rfl
      | some u =>
        rcases one b u q with ⟨rfl, _⟩ | ⟨hb, _⟩
        · rw [at_] at e
          cases e
          cases (show Data.seq us.toArray _ = Data.dict es ep from d)
        · rw [tabAt b hb] at e
          cases e
          cases (show Data.fields #[] = Data.dict es ep from d)
    have names : ∀ {b : Addr} {m : Str → Option Value}, s.heap.Ns b m → (hidT s.heap H).Ns b m := by
      rintro b m ⟨o, es, ep, e, d, r⟩
      exact ⟨o, es, ep, hidT_get e (dicts e d), d, r⟩
    have kin2 : K.In (hidT s.heap H) := by
      intro b o e
      refine hidT_get (kin b o e) ?_
      match q : H b with
      | none => rfl
      | some u =>
        rcases one b u q with ⟨rfl, _⟩ | ⟨hb, _⟩
        · rw [notK (by rw [q]; exact Option.some_ne_none u)] at e
          cases e
        · obtain ⟨p, hp, rfl⟩ := List.mem_map.mp hb
          rw [(tabs p hp).2.1] at e
          cases e
    have bmb : BmB (hidT s.heap H) mg := fun a ea => by
      obtain ⟨o, e1, e2, e3, e4⟩ := hBm a ea
      refine ⟨o, hidT_get e1 ?_, e2, e3, e4⟩
      match q : H a with
      | none => rfl
      | some u =>
        rcases one a u q with ⟨rfl, _⟩ | ⟨hb, _⟩
        · rw [at_] at e1
          cases e1
          exact absurd (Value.type.inj (show Value.type "list" = Value.type "module" from e2)) (by decide)
        · rw [tabAt a hb] at e1
          cases e1
          cases (show Value.none = Value.type "module" from e2)
    have md : Mod K mg (hidT s.heap H) := by
      obtain ⟨mc, n1, n2⟩ := nol
      exact ⟨kin2, names gns, ⟨mb, names bns, boot⟩, ⟨mc, names n1, n2⟩⟩
    have env : Env0 pr wo K mg (hidT s.heap H) callerA [] s H :=
      { frames := rfl, mod := md, bs := fun _ _ e => of_hidT e, bsz := Nat.le_of_eq (hidT_size _ _), funs := trivial, frf := (fun _ z => nomatch z), hok := hok, bare := .of_eq ge }
    refine codeAny_mono ((F _ kin2 (names gns) bmb).goes callerA [] s H ⟨[.ref sc], []⟩ [.ref sc] [.ref sc] _ _ rm rfl env (bi s (.ref sc)) (.cons rfl .nil) (pro H tb sq)) ?_
    intro res z fin
    match res, fin with
    | .error e, fin => exact (fin : False).elim
    | .ok .next, fin => exact (fin : False).elim
    | .ok .brk, fin => exact (fin : False).elim
    | .ok .cont, fin => exact (fin : False).elim
    | .ok (.ret u), ⟨v, H2, os, bare, un, hok2, rv, q⟩ =>
      cases (q : v = .bl true)
      cases (rv : u = Value.bool true)
      have same : ∀ b o, b ∉ cs.map (·.2) → s.heap.get? b = some o → z.heap.get? b = some o := by
        intro b o nb e
        match w : H b with
        | none => exact un.keep b o e w (fun z => nomatch z) (fun z => nomatch z)
        | some uo =>
          rcases one b uo w with ⟨rfl, ob, xs, rfl⟩ | ⟨hb, _⟩
          · have e1 := (hok b _ w).1
            have e2 := (hok2 b _ (un.frzs b ob _ w)).1
            exact e2.trans (e1.symm.trans e)
          · exact absurd hb nb
      have wider : ∀ p ∈ cs, ∃ more : Array Value, z.heap.get? p.2 = some { cls := .none, data := .fields more } := fun p hp => by
        obtain ⟨m, hm⟩ := un.tbls p.2 #[] (tb p hp)
        exact ⟨_, hok2 p.2 _ hm⟩
      refine ⟨rfl, ⟨?_, ?_⟩, os, bare⟩
      · intro b o e
        by_cases hb : b ∈ cs.map (·.2)
        · obtain ⟨p, hp, rfl⟩ := List.mem_map.mp hb
          obtain ⟨m, hm⟩ := wider p hp
          obtain ⟨t1, _, t3⟩ := tabs p hp
          rw [t1] at e
          cases e
          refine .inr (.inl ⟨(t3.tab t1).isCodeTable, rfl, #[], m, rfl, ?_⟩)
          rw [Array.empty_append]
          exact hm
        · exact .inl (same b o hb e)
      · intro b o e
        by_cases hb : b ∈ cs.map (·.2)
        · obtain ⟨p, hp, rfl⟩ := List.mem_map.mp hb
          obtain ⟨m, hm⟩ := wider p hp
          exact ⟨_, hm⟩
        · exact ⟨o, same b o hb e⟩
  have vx := vals_ints ia
  have ln := ia.length
  let base : Hp := fun b => if b ∈ cs.map (·.2) then some (.tbl #[]) else none
  have baseOk : HOk pr wo base s.heap := fun b o z => by
    by_cases hb : b ∈ cs.map (·.2)
    · have z : some (HO.tbl #[]) = some o := by rw [← z]; exact (if_pos hb).symm
      cases z
      exact tabAt b hb
    · have z : none = some o := by rw [← z]; exact (if_neg hb).symm
      cases z
  match kk : K.lookup sc with
  | some o =>
    have e := kin sc o kk
    rw [at_] at e
    cases e
    refine go base (fun b o z => ?_) (fun p hp => if_pos (List.mem_map.mpr ⟨p, hp, rfl⟩)) (.inr ⟨_, us.toArray, _, kk, rfl, rfl, rfl, by rw [List.size_toArray, ln]; exact few, by simpa using vx⟩) baseOk (fun z => absurd (if_neg scT) z)
    by_cases hb : b ∈ cs.map (·.2)
    · have z : some (HO.tbl #[]) = some o := by rw [← z]; exact (if_pos hb).symm
      cases z
      exact .inr ⟨hb, rfl⟩
    · have z : none = some o := by rw [← z]; exact (if_neg hb).symm
      cases z
  | none =>
    let one : HO := .frz { cls := .type "list", data := .seq us.toArray } (.lst (ns.map V.int))
    refine go (upd base sc one) ?_ ?_ (.inl (.inr ⟨_, upd_same⟩)) ?_ (fun _ => kk)
    · intro b o z
      by_cases hb : b = sc
      · subst hb
        rw [upd_same] at z
        cases z
        exact .inl ⟨rfl, _, _, rfl⟩
      · rw [upd_ne hb] at z
        by_cases hb2 : b ∈ cs.map (·.2)
        · have z : some (HO.tbl #[]) = some o := by rw [← z]; exact (if_pos hb2).symm
          cases z
          exact .inr ⟨hb2, rfl⟩
        · have z : none = some o := by rw [← z]; exact (if_neg hb2).symm
          cases z
    · intro p hp
      have hm : p.2 ∈ cs.map (·.2) := List.mem_map.mpr ⟨p, hp, rfl⟩
      rw [upd_ne (fun z => scT (by rw [← z]; exact hm))]
      exact if_pos hm
    · intro b o z
      by_cases hb : b = sc
      · subst hb
        rw [upd_same] at z
        cases z
        exact ⟨at_, by rw [List.length_map]; exact few, us, _, vx, at_⟩
      · rw [upd_ne hb] at z
        have := baseOk b o z
        exact this.stay (fun _ _ _ q => q) (fun c q => by
          by_cases hc : c ∈ cs.map (·.2)
          · have q : some (HO.tbl #[]) = some (HO.own b) := by rw [← q]; exact (if_pos hc).symm
            cases q
          · have q : none = some (HO.own b) := by rw [← q]; exact (if_neg hc).symm
            cases q) fun c xs q => by
          by_cases hc : c ∈ cs.map (·.2)
          · have q : some (HO.tbl #[]) = some (HO.tup xs) := by rw [← q]; exact (if_pos hc).symm
            cases q
          · have q : none = some (HO.tup xs) := by rw [← q]; exact (if_neg hc).symm
            cases q
/-- what is asked of a def whose table is told: its name, its code object, its table -/
def TabIs (q : Program) (K : PySem.W.Frag) (p : Str × Addr × Addr) : Prop := ((recsOf q).any fun e => e.name == p.1) = true ∧ K.lookup p.2.2 = none ∧ ∃ fa o fd e dd vs sl, PySem.W.nsIn K mainGlobals p.1 = some (some (.ref fa)) ∧ K.lookup fa = some o ∧ o.data = .func fd ∧ fd.code = .ref p.2.1 ∧ K.lookup p.2.1 = some ⟨e, dd, .fields vs, sl⟩ ∧ vs[11]? = some (.ref p.2.2)
theorem tab_is {q : Program} {K : PySem.W.Frag} {nm : Str} {c P fa : Addr} {o : Obj} {fd : FuncData} {e : Value} {dd : Option Addr} {vs : Array Value} {sl : Array (Option Value)} (e1 : ((recsOf q).any fun e => e.name == nm) = true) (e2 : K.lookup P = none) (e3 : PySem.W.nsIn K mainGlobals nm = some (some (.ref fa))) (e4 : K.lookup fa = some o) (e5 : o.data = .func fd) (e6 : fd.code = .ref c) (e7 : K.lookup c = some ⟨e, dd, .fields vs, sl⟩) (e8 : vs[11]? = some (.ref P)) : TabIs q K (nm, c, P) :=
  ⟨e1, e2, fa, o, fd, e, dd, vs, sl, e3, e4, e5, e6, e7, e8⟩
/-- from what the law's own meaning gives to the row's claim; cs: the defs whose tables are told, their code objects and their tables -/
theorem endPT {l : PySem.W.OpenLaw} {n lv : Nat} {q : Program} {loose : List Str} {XP : (Str → Option Value) → Heap → Prop} {YP : World → Heap → Prop} {d : DefRec} {KK : Params → PySem.W.Frag} {FL : FF} {x : Str} (cs : List (Str × Addr × Addr))
    (most : l.most = some n) (few : n ≤ sizeLine) (nodef : d.params.defaults = []) (rm : Room lv callerA) (inY : ∀ (w : World) (h : Heap), YP w h → (KK w.params).In h)
    (tab : ∀ (pr : Params), ∀ p ∈ cs, TabIs q (KK pr) p)
    (F : ∀ (w : World) (mg : Str → Option Value) (fn : Addr) (h : Heap), (KK w.params).In h → h.Ns mainGlobals mg → mg d.name = some (.ref fn) →
      ∃ dat : FuncData, (∀ (s : Shared) (u : Value), BindsTo s dat ⟨[u], []⟩ [(x, u)]) ∧ ∀ b0 : Heap, (KK w.params).In b0 → b0.Ns mainGlobals mg → BmB b0 mg → Rb.FnG l.prog w (KK w.params) mg b0 CX0 lv fn dat [x] (spF (ct0 (KK w.params) mg) FL))
    (law : ∀ ns : List Int, ns.length ≤ n → FL [.kls (ns.map D.int)] [] (fun d _ => d = .bl true) noE) (hTb : ∀ pr : Params, tabChk (KK pr) (cs.map (·.2.2)) = true) :
    PySem.W.WalkO q loose XP YP l.row.toRowW d [] (fun f vs => PySem.call f vs) := by
  refine Att.attach_call most nodef ?_
  intro w s0 s1 mg mb fn o pm cd dc a us ns G Y at_ dd cdd gm ob ia ln ge
  have kin := inY w _ Y
  obtain ⟨dat, bi, ok⟩ := F w mg fn _ kin G.T.g gm
  have told : ∀ p ∈ cs, s1.heap.get? p.2.2 = some { cls := .none, data := .fields #[] } ∧ (KK w.params).lookup p.2.2 = none ∧ PySem.W.CodeHd s1.heap p.2.1 p.2.2 := fun p hp => by
    obtain ⟨t1, t2, fa, fo, fd, e, fdd, vs, sl, t3, t4, t5, t6, t7, t8⟩ := tab w.params p hp
    obtain ⟨dL, hm, hn1⟩ := List.any_eq_true.mp t1
    have hn2 : dL.name = p.1 := beq_iff_eq.mp hn1
    obtain ⟨a', o', fd', c', P', h1, h2, h3, h4, h5, h6⟩ := G.T.tab dL hm
    rw [hn2, PySem.W.mg_of kin G.T.g t3] at h1
    cases h1
    have g1 := kin _ _ t4
    rw [g1] at h2
    cases h2
    rw [t5] at h3
    cases h3
    rw [t6] at h4
    cases h4
    have hd := PySem.W.CodeHd.of h5 h6
    obtain ⟨⟨oc, vc, e1, e2, e3, e4⟩, hP⟩ := h6
    have g2 := kin _ _ t7
    rw [g2] at e1
    cases e1
    cases e3
    rw [t8] at e4
    cases e4
    exact ⟨hP, t2, hd⟩
  have ln2 := Nat.le_trans ln few
  refine lawGT (cs := cs.map (·.2)) kin G.T.g G.T.b G.T.builtins G.T.nolimit ge (fun p hp => ?_) ob ia ln2 rm (by
    intro a ea
    obtain ⟨bm, ob, b1, b2, b3, b4, b5, b6⟩ := G.T.bmain
    cases b1.symm.trans ea
    exact ⟨ob, b3, b4, b5, b6⟩) ok bi fun H tb sq => ?_
  · obtain ⟨p', hp', rfl⟩ := List.mem_map.mp hp
    exact told p' hp'
  · refine ⟨⟨[], []⟩, [], _, _, noE, ⟨List.nodup_nil, rfl, (fun _ z => nomatch z), (fun _ z => nomatch z), (fun _ _ _ z => nomatch z), Tbs.start (hTb w.params) fun P hP => ?_⟩, .cons ?_ .nil, law ns ln, fun d S' v H' μ' hq _ _ r => ?_, pxNo⟩
    · obtain ⟨p, hp, rfl⟩ := List.mem_map.mp hP
      exact tb p.2 (List.mem_map.mpr ⟨p, hp, rfl⟩)
    · rcases sq with sq | ⟨o, its, k, h1, h2, h3, h4, h5, h6⟩
      · exact .kls sq (fun z => nomatch z) (fun z => nomatch z) (RpAll.ofInts ns)
      · exact .klsK o its k h1 h2 h3 h4 h5 h6 (RpAll.ofInts ns)
    · cases (hq : d = .bl true)
      exact r.bl_inv
/-- one such def -/
theorem endPT1 {l : PySem.W.OpenLaw} {n lv : Nat} {q : Program} {loose : List Str} {XP : (Str → Option Value) → Heap → Prop} {YP : World → Heap → Prop} {d : DefRec} {KK : Params → PySem.W.Frag} {FL : FF} {x : Str} {c P : Addr} (nm : Str)
    (most : l.most = some n) (few : n ≤ sizeLine) (nodef : d.params.defaults = []) (rm : Room lv callerA) (inY : ∀ (w : World) (h : Heap), YP w h → (KK w.params).In h)
    (tab : ∀ (pr : Params), TabIs q (KK pr) (nm, c, P))
    (F : ∀ (w : World) (mg : Str → Option Value) (fn : Addr) (h : Heap), (KK w.params).In h → h.Ns mainGlobals mg → mg d.name = some (.ref fn) →
      ∃ dat : FuncData, (∀ (s : Shared) (u : Value), BindsTo s dat ⟨[u], []⟩ [(x, u)]) ∧ ∀ b0 : Heap, (KK w.params).In b0 → b0.Ns mainGlobals mg → BmB b0 mg → Rb.FnG l.prog w (KK w.params) mg b0 CX0 lv fn dat [x] (spF (ct0 (KK w.params) mg) FL))
    (law : ∀ ns : List Int, ns.length ≤ n → FL [.kls (ns.map D.int)] [] (fun d _ => d = .bl true) noE) (hTb : ∀ pr : Params, tabChk (KK pr) [P] = true) :
    PySem.W.WalkO q loose XP YP l.row.toRowW d [] (fun f vs => PySem.call f vs) :=
  endPT [(nm, c, P)] most few nodef rm inY (fun pr p hp => by
    cases List.mem_singleton.mp hp
    exact tab pr) F law hTb
end Pu
namespace Pu
open PySem PySem.Spec PyProof.Rows L2
/-! ## repr of a list that is a cell -/
section
variable {prog : Program} {w : World} {h₀ : Heap} {a : Addr} {o : Obj} {vs : Array Value} {n : Nat} {xs : List PyData} {bs₀ : List Addr} {A : Around} {E : Value → Shared → Prop} {s : Shared} {Q : Value → Shared → Prop}
/-- the list itself may stand anywhere; what is in it stands apart from the table of modules -/
theorem repr_listC (h1 : h₀.get? a = some o) (h2 : o.cls = .type "list") (h3 : o.data = .seq vs n) (h4 : ReadsAll h₀ vs.toList xs bs₀) (hs : (PyData.list xs).showable = true) (hsm : (PyData.list xs).hasDict = true → sysModules ∉ bs₀) (hg : A.guards = some []) (hu : A.units + ((PyData.list xs).depth + 1) < cLine) (hk0 : ∀ b o, h₀.get? b = some o → s.heap.get? b = some o)
    (hQ : ∀ h' u tk, (∀ b o, s.heap.get? b = some o → h'.get? b = some o) → Q (.str (PyData.list xs).shown u) { s with heap := h', toks := tk })
    (hsz : (PyData.list xs).shown.length ≤ sizeLine) : wpAny (model prog w) A (call (.builtin "repr") [.ref a]) Q E s := by
  have S : ShowsBy prog w h₀ a (.list xs) "list" "list.__repr__" := by
    have hz' : (listText (PyData.shownAll xs)).length ≤ sizeLine := by simpa only [PyData.shown] using hsz
    obtain ⟨bs, hb, hk⟩ := ReprAllK.of_readsAll (prog := prog) (w := w) h4 (by simpa [PyData.showable] using hs) (fun hx => hsm (by simpa [PyData.hasDict] using hx)) (fun t ht => Nat.le_trans (listText_mem_le ht) hz')
    have hna : a ∉ bs := not_mem_of_deeper (.list h1 h2 h3 h4) (by simp only [PyData.depth]; omega) hb
    refine ⟨F.slot_list_repr.toG, F.slot_list_str, F.slot_list_format, fun s hk0 => ⟨o, hk0 _ _ h1, h2⟩, fun A E s Q hg hu hk0 hQ => ?_⟩
    simp only [PyData.depth] at hu
    simp only [PyData.shown] at hQ
    obtain ⟨l⟩ := vs
    cases l with
    | nil =>
      have h4' : ReadsAll h₀ [] xs _ := h4
      cases h4'
      simp only [PyData.shownAll, listText_nil] at hQ
      exact call_list_repr_empty ⟨o, hk0 _ _ h1, h2⟩ (hk0 _ _ h1) h3 (hQ s.heap _ _ fun _ _ e => e)
    | cons x l =>
      exact call_list_reprK h1 h2 h3 hna (by simpa using hk.length_eq) (fun i y e => hk.item i y (by simpa using e)) hg (fun b _ => Clear.nil b) hu hk0 hQ hz'
  exact call_repr_slot (by omega) (S.typeIs s hk0) S.slotRepr (S.call A.in1 E s _ hg (by show A.units + 1 + (PyData.list xs).depth < cLine; omega) hk0 fun h' u tk hk => ⟨_, _, rfl, hQ h' u tk hk⟩)
end
@[irreducible] def gReprC : List D → Sto → QD → Prop := fun ds S Q => match ds with
  | [.cell n] => onSome (lstAt S[n]?) fun xs => onSome (toPyAll xs) fun ps => (Rb.Nice 20 100000 (.list ps) ∧ ((PyData.list ps).hasDict = false ∨ knownAll xs = true)) ∧ Q (.str (PyData.list ps).shown) S
  | ds => iRepr ds S Q
theorem c_reprC {X : Cx} (hg : X.A.guards = some []) (hu : X.A.units + 64 < cLine) : CallR X (.builtin "repr") (rDs (ct X) gReprC) := by
  intro pins s σ H vs us Q I r ⟨μ, S, ds, Qd, w, ra, hr, q⟩
  unfold gReprC at hr
  split at hr
  · rename_i n
    obtain ⟨xs, e1, hr⟩ := onSome_of hr
    obtain ⟨ps, e3, ⟨hn, hk⟩, hq⟩ := onSome_of hr
    cases ra with
    | cons rd r0 =>
      cases r0
      obtain ⟨u, rfl, ru⟩ := vals1 r
      have fin := q.same w (.str (PyData.list ps).shown) hq
      obtain ⟨a, vs, rfl, ha, rz⟩ := rd.lstT w (show lstOf S (.cell n) = some xs from e1)
      cases ru
      obtain ⟨its, rv, ⟨o, k, ho, hc, _, hd⟩, _⟩ := I.list (SqL.of ha)
      obtain ⟨as, hr, no⟩ := RpAll.reads I xs _ its ps rz rv e3
      have hdep := hn.dep
      refine repr_listC ho hc hd hr hn.sh (fun z => ?_) hg (by omega) (fun _ _ e => e) (fun h' t tk hk => ⟨.str _, H, I.kept hk, ⟨_, rfl⟩, fin⟩) hn.fits
      rcases hk with hk | hk
      · rw [hk] at z; cases z
      · exact no hk
  · exact (c_irepr hg hu) pins s σ H vs us Q I r ⟨μ, S, ds, Qd, w, ra, hr, q⟩
theorem reprC_of {d : D} {S : Sto} {Q : QD} (hc : ∀ n, d ≠ .cell n) (h : iRepr [d] S Q) : gReprC [d] S Q := by
  unfold gReprC
  split
  · rename_i n e; cases e; exact (hc n rfl).elim
  · exact h
end Pu
namespace Pu
open PySem PySem.Spec PyProof.Rows L2 GenW
/-! ## a heap's first addresses -/
def trHeap (n : Nat) (h : Heap) : Heap := ⟨h.objs.extract 0 n, h.life⟩
def Tr (n : Nat) (s : Shared) : Shared := ⟨trHeap n s.heap, s.gens, s.drawn, s.toks, s.os⟩
/-! ## the context of a generator's body: its locals lie at n -/
def gcxN (n : Nat) (P : Program) (w : World) (K : PySem.W.Frag) (mg : Str → Option Value) (base : Heap) (N : List Str) (qual : Str) (sc : Scope) (f : Addr) (cd : Value) (A : Around) (out : List Env) (s : Shared) (H : Hp) (E : XK) : Cx :=
  { prog := P, w := w, K := K, mg := mg, base := base, A := A.deeper (envOfC qual sc n f cd), N := N, s_0 := s, H_0 := H, env := envOfC qual sc n f cd, outer := out, stack := envOfC qual sc n f cd :: out, ex := [], fn := fun _ => true, calm := true, pn := [],
    xe := fun e s' => wpAny (model P w) (A.deeper (envOfC qual sc n f cd)) (leaving (envOfC qual sc n f cd) e) (fun x s'' => L2.CX P w out H s E e s'' ∧ ∀ p ∈ ([] : List (Addr × Obj)), s''.heap.get? p.1 = some p.2) (fun _ _ => False) s' }
section
variable {n : Nat} {P : Program} {w : World} {K : PySem.W.Frag} {mg : Str → Option Value} {base : Heap} {N : List Str} {qual : Str} {sc : Scope} {f : Addr} {cd : Value} {A : Around} {out : List Env} {s s' : Shared} {H H' : Hp} {E : XK}
/-- what lies around a generator when it is woken -/
structure Wake (n : Nat) (P : Program) (w : World) (base : Heap) (out : List Env) (B : List Addr) (gp : List (Addr × Obj)) (h1 : Heap) (s2 : Shared) (H2 : Hp) : Prop where
  bare : AllBare s2.gens
  hok : HOk P w H2 s2.heap
  big : n ≤ s2.heap.objs.size
  bs : ∀ (b : Addr) (o : Obj), base.get? b = some o → s2.heap.get? b = some o ∧ H2 b = none
  ff : s2.heap.FunFrames base out
  fz : ∀ b ∈ frs out, H2 b = none
  loc : s2.heap.get? n = h1.get? n
  lz : H2 n = none
  pin : ∀ p ∈ gp, s2.heap.get? p.1 = some p.2 ∧ H2 p.1 = none
  bp : ∀ b ∈ B, ∃ o, s2.heap.get? b = some o ∧ H2 b = none ∧ b ≠ n ∧ b ∉ frs out ∧ ∀ v, o.data ≠ .cell v
end
end Pu
namespace Pu
open PySem PySem.Spec PyProof.Rows L2 GenW
/-! ## a generator's body that may be left and woken again -/
structure Gx where
  n : Nat
  P : Program
  w : World
  K : PySem.W.Frag
  mg : Str → Option Value
  base : Heap
  N : List Str
  qual : Str
  sc : Scope
  f : Addr
  cd : Value
  A : Around
  out : List Env
  E : XK
  q : List (Addr × Obj) → Prop
def Gx.env (g : Gx) : Env := envOfC g.qual g.sc g.n g.f g.cd
def Gx.at (g : Gx) (s : Shared) (H : Hp) : Cx := gcxN g.n g.P g.w g.K g.mg g.base g.N g.qual g.sc g.f g.cd g.A g.out (Tr g.n s) H g.E
def Gx.c (g : Gx) : Ct := ct0 g.K g.mg
/-- who asks: i items are out; the cells, the store, the heap and the state when the generator is woken -/
abbrev CZ := Nat → Mu → Sto → Hp → Shared → Prop
def YZ (g : Gx) (ds : List D) (C : CZ) (B : List Addr) : Protocol := fun n s₀ v s1 kap => ∃ i μ0 S₀ H₀ x d gp σ μ1 H1, n + 1 + i = ds.length ∧ C i μ0 S₀ H₀ s₀ ∧ RelV x v ∧ Inv (g.at s₀ H₀) (gp ++ pinsAt B s₀.heap) σ H1 s1 ∧ (g.q gp ∧ ∀ p ∈ gp, g.n ≤ p.1 ∧ p.1 ∉ B) ∧ Fw μ0 H₀ μ1 H1 ∧ Wd g.c μ1 S₀ H1 ∧ ds[i]? = some d ∧ Rp g.c μ1 H1 x d ∧
  ∀ μ2 S2 H2 s2, C (i + 1) μ2 S2 H2 s2 → Kp g.c μ1 H1 μ2 H2 → Wd g.c μ2 S2 H2 → Wake g.n g.P g.w g.base g.out B gp s1.heap s2 H2 → kap (.send .none) s2 ∧ kap (.send (.bool true)) s2
theorem inv_perm {X : Cx} {pa pb : List (Addr × Obj)} {σ : L2.St} {H : Hp} {s : Shared} (I : Inv X pa σ H s) (h : ∀ p ∈ pb, p ∈ pa) : Inv X pb σ H s := by
  refine ⟨I.ok, I.os, I.bare, I.base, I.loc, I.cell, I.free, I.freeC, fun p hp => ?_, I.hok, I.len⟩
  rcases List.mem_append.mp hp with z | z
  · exact I.pin p (List.mem_append_left _ z)
  · exact I.pin p (List.mem_append_right _ (h p z))
end Pu
namespace Pu
open PySem PySem.Spec PyProof.Rows L2 GenW
/-! ## a generator is made -/
def genEnd (F : Nat → Shared → Shared → Prop) : GenEnd := fun n s₀ r s₁ => (r = .ok (.ret .none) ∨ r = .ok .next) ∧ F n s₀ s₁ ∨ ∃ e, r = .error e ∧ (fun (_ : Value) (_ : Shared) => False) e s₁
def FZe (g : Gx) (ds : List D) (C : CZ) (B : List Addr) : Nat → Shared → Shared → Prop := fun n s₀ s1 => n = 0 ∧ ∃ μ0 S₀ H₀ gp σ μ1 H1, C ds.length μ0 S₀ H₀ s₀ ∧ Inv (g.at s₀ H₀) (gp ++ pinsAt B s₀.heap) σ H1 s1 ∧ Fw μ0 H₀ μ1 H1 ∧ Wd g.c μ1 S₀ H1
end Pu
namespace Pu
open PySem PySem.Spec PyProof.Rows L2 GenW
def gOf (X : Cx) (n : Nat) (N : List Str) (qual : Str) (sc : Scope) (fn : Addr) (cdv : Value) (q : List (Addr × Obj) → Prop) : Gx := ⟨n, X.prog, X.w, X.K, X.mg, X.base, N, qual, sc, fn, cdv, X.A.in1, X.stack, fun _ _ _ => False, q⟩
end Pu
namespace Pu
open PySem PySem.Spec PyProof.Rows L2 GenW
/-- who asks: what lies from n on and may be changed is none of his -/
structure Born (X : Cx) (pins : List (Addr × Obj)) (n : Nat) (B T : List Addr) : Prop where
  ex : ∀ b, n ≤ b → b ∉ B → b ∉ T → (b ∈ X.ex ∨ X.s_0.heap.objs.size ≤ b) ∧ b ≠ X.env.locals ∧ (∀ x c, X.env.cells.lookup x = some c → c ≠ b) ∧ ∀ p ∈ X.pn ++ pins, p.1 ≠ b
  lt : ∀ L ∈ frs X.stack, L < n
  bz : X.base.objs.size ≤ n
section
variable {X : Cx} {pins gp : List (Addr × Obj)} {B T : List Addr} {σ : L2.St} {H H1 : Hp} {s s0 s1 : Shared} {N : List Str} {qual : Str} {sc : Scope} {fn : Addr} {cdv : Value} {q : List (Addr × Obj) → Prop} {n : Nat} {σg : L2.St}
/-- what he holds against the generator -/
def BOk (X : Cx) (n : Nat) (B : List Addr) (H : Hp) (s : Shared) : Prop := ∀ b ∈ B, ∃ o, s.heap.get? b = some o ∧ H b = none ∧ b ≠ n ∧ b ∉ frs X.stack ∧ ∀ v, o.data ≠ .cell v
end
end Pu
namespace Pu
open PySem PySem.Spec PyProof.Rows L2 GenW
theorem Kp.trans {c : Ct} {μ μ1 μ2 : Mu} {H H1 H2 : Hp} (a : Kp c μ H μ1 H1) (b : Kp c μ1 H1 μ2 H2) : Kp c μ H μ2 H2 where
  t := fun x xs e => b.t x xs (a.t x xs e)
  l := fun x xs e n1 n2 => let ⟨p, q, r⟩ := a.l x xs e n1 n2; b.l x xs p q r
  m := fun x xs e n1 n2 => let ⟨p, q, r⟩ := a.m x xs e n1 n2; b.m x xs p q r
  d := fun x xs e n1 n2 => let ⟨p, q, r⟩ := a.d x xs e n1 n2; b.d x xs p q r
  i := fun x C dx fs e n1 n2 => let ⟨p, q, r⟩ := a.i x C dx fs e n1 n2; b.i x C dx fs p q r
  cl := fun n x h => b.cl n x (a.cl n x h)
  x := fun x fv e => b.x x fv (a.x x fv e)
  f := fun x ob φ e => let ⟨p, q⟩ := a.f x ob φ e; let ⟨r, s⟩ := b.f x ob φ p; ⟨r, fun z => s (q z)⟩
  g := fun x φ e nd => b.g x φ (a.g x φ e nd) nd
  gm := fun x φ e n1 n2 => let ⟨p, q, r⟩ := a.gm x φ e n1 n2; b.gm x φ p q r
end Pu
namespace Pu
open PySem PySem.Spec PyProof.Rows L2
/-! ## a tuple times zero -/
open AutoSeq1 (wpAny_loadPart') in
theorem tupMul0 (t : Addr) (its : Array Value) (n : Nat) (dc : Option Addr) (sl : Array (Option Value)) (u : Tok) (ne : its.isEmpty = false) :
    Meets (Builtin.«tuple.__mul__» ⟨[.ref t, .int 0 u], []⟩) (fun _ R s => s.heap.get? t = some { cls := .type "tuple", dict := dc, data := .seq its n, slots := sl } ∧ R (.ok (.ret (Value.ref s.heap.objs.size))) { s with heap := s.heap.push { cls := Value.type "tuple", data := Data.seq #[] } }) := by
  refine .of_wp fun pr wo A R s h => ?_
  obtain ⟨hp, g, d, tk, os⟩ := s
  obtain ⟨ht, h⟩ := h
  have f1 := AutoSeq1.idx_int
  have c1 : (its.isEmpty || (0 : Int) == 1) = false := by rw [ne]; rfl
  have c2 : (decide ((0 : Int) ≤ 0) || its.isEmpty) = true := rfl
  wp_walk using wpAny_loadPart' ht
  repeat (first
    | (refine wpAny_ite_false (by decide) ?_; wp_walk using wpAny_loadPart' ht)
    | (refine wpAny_ite_false (decide_eq_false (by rw [c1]; exact Bool.false_ne_true)) ?_; wp_walk using wpAny_loadPart' ht)
    | (refine wpAny_ite_true (decide_eq_true c2) ?_; wp_walk using wpAny_loadPart' ht))
  exact ⟨_, rfl, h⟩
section
variable {X : Cx}
theorem op_rep0 : OpR X (binaryOp .Mult) (fun x y H Q => ∃ (l : Addr) (xs : List V), x = .ref l ∧ y = .int 0 ∧ SqT X.K H l xs ∧ xs ≠ [] ∧ ∀ p, H p = none → Q (.ref p) (upd H p (.tup []))) := by
  intro pins s σ H x y v u Q I rx ry h
  obtain ⟨l, xs, rfl, rfl, hT, hne, q⟩ := h
  cases rx
  obtain ⟨t, rfl⟩ := ry
  obtain ⟨its, r, ⟨⟨cls, dd, data, sl⟩, ho, hc, n, hd⟩, hs⟩ := I.tuple hT
  simp only at hc hd
  subst hc hd
  have hle : its.length = xs.length := r.length.symm
  have hi : its.toArray.isEmpty = false := by
    cases its with
    | nil => exact absurd (List.eq_nil_of_length_eq_zero hle.symm) hne
    | cons a b => rfl
  refine wpAny_binaryOp_repeat_ref (T := "tuple") (U := "int") (by decide) ⟨_, ho, rfl⟩ (fun s' => typeIs_int s' 0 t) noFill_tuple_mul F.fills_int_mul F.slot_int_rmul repeat_tuple F.slot_int_index.lookup
    (call_meets F.slot_int_rmul (typeIs_int s 0 t) F.entry_int_rmul (F.args_int_rmul_2 _ _) (int_rmul_tuple 0 t l its.toArray n dd sl)
      ⟨ho, rfl, ⟨_, ho, rfl⟩, call_meets F.slot_tuple_mul ⟨_, ho, rfl⟩ F.entry_tuple_mul (F.args_tuple_mul_2 _ _) (tupMul0 l its.toArray n dd sl t hi) ⟨ho, ?_⟩⟩)
  refine ⟨.ref s.heap.objs.size, _, I.laid (t' := s.toks) (o := .tup []) (fun b ob q => Heap.get?_push_of_some _ q) (Nat.le_refl _) ?_, rfl, q _ (I.hok.fresh (Nat.le_refl _))⟩
  exact ⟨Nat.zero_le _, [], .nil, IsTup.new _ _⟩
/-- times a number, zero too -/
def gMul0 : G2 := fun x y S Q => match x, y with
  | .tup xs, .int k => (xs ≠ [] ∧ 0 ≤ k ∧ k ≤ 1000 ∧ xs.length ≤ 1000) ∧ Q (.tup (List.replicate k.toNat xs).flatten) S
  | _, _ => False
theorem o_mul0 : OpR X (binaryOp .Mult) (rD2 (ct X) gMul0) := by
  intro pins s σ H x y v u Q I rx ry ⟨μ, S, dx, dy, Qd, w, r1, r2, hg, q⟩
  unfold gMul0 at hg
  split at hg
  · rename_i xs k
    obtain ⟨⟨ne, h1, h2, h3⟩, hq⟩ := hg
    by_cases hk : k = 0
    · subst hk
      obtain ⟨a, vs, rfl, ha, ra⟩ := r1.tup_inv
      have nv : vs ≠ [] := fun e => by
        subst e
        cases ra
        exact ne rfl
      exact op_rep0 pins s σ H _ _ v u Q I rx ry ⟨a, vs, rfl, r2.int_inv, SqT.of ha, nv, fun p hp => q.tup w .nil hq hp⟩
    · exact o_mul pins s σ H _ _ v u Q I rx ry ⟨μ, S, .tup xs, .int k, Qd, w, r1, r2, ⟨⟨ne, by omega, h2, h3⟩, hq⟩, q⟩
  · exact hg.elim
end
end Pu
namespace Pu
open PySem PySem.Spec PyProof.Rows L2 GenW
/-! ## runs that make, look at and wake no generator -/
abbrev EPk (X : Cx) (pins : List (Addr × Obj)) (σ : L2.St) (G : Array GenState) (Q : VK) (u : Value) (s : Shared) : Prop := EP X pins σ Q u s ∧ s.gens = G
structure PEk (X : Cx) (e : Expr) (t : TE) : Prop where
  run : ∀ (pins : List (Addr × Obj)) (s : Shared) (σ : L2.St) (H : Hp) (Q : VK), Inv X pins σ H s → t σ H Q → wpAny (model X.prog X.w) X.A (eval e X.env) (EPk X pins σ s.gens Q) X.xe s
structure PTk (X : Cx) (e : Expr) (t : TT) : Prop where
  run : ∀ (pins : List (Addr × Obj)) (s : Shared) (σ : L2.St) (H : Hp) (Q : Bool → Hp → Prop), Inv X pins σ H s → t σ H Q → wpAny (model X.prog X.w) X.A (isTrue e X.env (eval e X.env)) (fun b s' => (∃ H', Inv X pins σ H' s' ∧ Q b H') ∧ s'.gens = s.gens) X.xe s
section
variable {X : Cx} {e a b : Expr} {es : List Expr} {t ta tb te : TE} {ts : TA} {pos p : Pos}
theorem PEk.imp {t' : TE} (h : PEk X e t) (k : ∀ σ H Q, t' σ H Q → t σ H Q) : PEk X e t' := ⟨fun pins s σ H Q I q => h.run pins s σ H Q I (k σ H Q q)⟩
theorem PTk.imp {t t' : TT} (h : PTk X e t) (k : ∀ σ H Q, t' σ H Q → t σ H Q) : PTk X e t' := ⟨fun pins s σ H Q I q => h.run pins s σ H Q I (k σ H Q q)⟩
end
/-! ### of tuples alone -/
section
variable {X : Cx} {E : L2.St → XK} {e a b : Expr} {es : List Expr} {fa fb fe : FE} {fs : FA} {pos p : Pos}
abbrev PKt (X : Cx) (E : L2.St → XK) (e : Expr) (f : FT) : Prop := PTk X e (tT (ct X) E f)
end
end Pu
namespace Pu
open PySem PySem.Spec PyProof.Rows L2 GenW
section
variable {X : Cx}
/-! ### a statement -/
theorem PKt.pt {E : L2.St → XK} {e : Expr} {f : FT} (h : PKt X E e f) : PTd X E e f := ⟨fun pins s σ H Q I q => thn (h.run pins s σ H Q I q) fun _ _ z => z.1⟩
end
end Pu
namespace Pu
open PySem PySem.Spec PyProof.Rows L2 GenW
/-! ## a generator whose first stretch makes, looks at and wakes no other -/
/-- .. and the first item says that nobody else was woken -/
def YF (g : Gx) (ds : List D) (C : CZ) (B : List Addr) : Protocol := fun n s₀ v s1 kap => YZ g ds C B n s₀ v s1 kap ∧ ((∃ r s, kap r s) → n + 1 = ds.length → s1.gens = s₀.gens)
end Pu
namespace Pu
open PySem PySem.Spec PyProof.Rows L2 GenW
/-! ## a generator asked from within zip -/
/-- who asks: nobody sleeps, or it is so -/
abbrev LZ := Nat → Mu → Sto → Hp → L2.St → Shared → Prop
def Cy (X : Cx) (pins : List (Addr × Obj)) (n : Nat) (B : List Addr) (a : Addr) (oa : Obj) (Lp : LZ) : CZ := fun i μ S H s => ∃ σ, Inv X pins σ H s ∧ BOk X n B H s ∧ s.heap.get? a = some oa ∧ Wd (ct X) μ S H ∧ (s.gens.size = 0 ∨ Lp i μ S H σ s)
def Iy (X : Cx) (pins : List (Addr × Obj)) (g : Gx) (ds : List D) (B : List Addr) (a : Addr) (oa : Obj) (gi : Nat) (Lp : LZ) (i : Nat) (s : Shared) : Prop := ∃ μ S H gs, i ≤ ds.length ∧ Cy X pins g.n B a oa Lp i μ S H s ∧ s.heap.IsGen a gi ∧ s.gens[gi]? = some gs ∧ g.n ≤ s.heap.objs.size ∧
  GenState.Goes (model X.prog X.w) X.A.in1 (genEnd (FZe g ds (Cy X pins g.n B a oa Lp) B)) (YF g ds (Cy X pins g.n B a oa Lp) B) (ds.length - i) gs (.send .none) (s.setGen gi .running)
section
variable {X : Cx} {pins : List (Addr × Obj)} {s : Shared} {N : List Str} {qual : Str} {sc : Scope} {fn : Addr} {cdv : Value} {n gi i : Nat} {B : List Addr} {a : Addr} {oa : Obj} {ds : List D} {Lp : LZ}
abbrev qN : List (Addr × Obj) → Prop := fun gp => gp = []
end
end Pu
namespace Pu
open PySem PySem.Spec PyProof.Rows L2 GenW
/-! ## one call deeper -/
abbrev inA (X : Cx) : Cx := { X with A := X.A.in1 }
/-! ## all sleep but one -/
end Pu
namespace Pu
open PySem PySem.Spec PyProof.Rows L2 GenW
/-! ## two generators that are asked in turn: what each asker's facts say of the other -/
section
variable {X : Cx} {pins : List (Addr × Obj)} {s : Shared} {N : List Str} {qual : Str} {sc : Scope} {fn : Addr} {cdv : Value} {n gi i : Nat} {B : List Addr} {a : Addr} {oa : Obj} {ds : List D} {Lp Lp' : LZ}
/-- what must be so that someone may ask -/
structure Asks (X : Cx) (pins : List (Addr × Obj)) (n : Nat) (B : List Addr) (a : Addr) : Prop where
  hct : ct X = ct0 X.K X.mg
  bn : Born X pins n B []
  hl : ∀ b, n ≤ b → b ≠ X.env.locals ∨ b ∈ B
  ha : n < a
  aB : a ∈ B
  al : a ≠ X.env.locals
end
/-! ### who sleeps, and may be asked again -/
structure Gn where
  n : Nat
  N : List Str
  qual : Str
  sc : Scope
  fn : Addr
  cdv : Value
  B : List Addr
  a : Addr
  oa : Obj
  gi : Nat
  ds : List D
abbrev Gn.g (G : Gn) (X : Cx) : Gx := gOf X G.n G.N G.qual G.sc G.fn G.cdv qN
/-- asleep at i in the state y, seen from μ, H: it may be asked from any later place -/
def AZ (X : Cx) (pins : List (Addr × Obj)) (G : Gn) (Lp : LZ) (i : Nat) (y : GenState) (oL : Obj) (μ : Mu) (H : Hp) : Prop := ∀ μ' S' H' σ' (s' : Shared), Inv X (pins ++ [(G.n, oL), (G.a, G.oa)]) σ' H' s' → BOk X G.n G.B H' s' → Lp i μ' S' H' σ' s' → Kp (ct X) μ H μ' H' → Wd (ct X) μ' S' H' → s'.gens[G.gi]? = some y → Iy X pins (G.g X) G.ds G.B G.a G.oa G.gi Lp i s'
end Pu
namespace Pu
open PySem PySem.Spec PyProof.Rows L2 GenW
theorem kp_trans {c : Ct} {μ1 μ2 μ3 : Mu} {H1 H2 H3 : Hp} (a : Kp c μ1 H1 μ2 H2) (b : Kp c μ2 H2 μ3 H3) : Kp c μ1 H1 μ3 H3 where
  t := fun x xs h => b.t x xs (a.t x xs h)
  l := fun x xs h n1 n2 => by
    obtain ⟨h', m1, m2⟩ := a.l x xs h n1 n2
    exact b.l x xs h' m1 m2
  m := fun x xs h n1 n2 => by
    obtain ⟨h', m1, m2⟩ := a.m x xs h n1 n2
    exact b.m x xs h' m1 m2
  d := fun x xs h n1 n2 => by
    obtain ⟨h', m1, m2⟩ := a.d x xs h n1 n2
    exact b.d x xs h' m1 m2
  i := fun x C dx fs h n1 n2 => by
    obtain ⟨h', m1, m2⟩ := a.i x C dx fs h n1 n2
    exact b.i x C dx fs h' m1 m2
  cl := fun n x h => b.cl n x (a.cl n x h)
  x := fun x fv h => b.x x fv (a.x x fv h)
  g := fun x φ h nd => b.g x φ (a.g x φ h nd) nd
  gm := fun x φ h n1 n2 => by
    obtain ⟨h', m1, m2⟩ := a.gm x φ h n1 n2
    exact b.gm x φ h' m1 m2
  f := fun x ob φ h => ⟨(b.f x ob φ (a.f x ob φ h).1).1, fun n => (b.f x ob φ (a.f x ob φ h).1).2 ((a.f x ob φ h).2 n)⟩
theorem AZ.kp {X : Cx} {pins : List (Addr × Obj)} {G : Gn} {Lp : LZ} {i : Nat} {y : GenState} {oL : Obj} {μ μ' : Mu} {H H' : Hp} (z : AZ X pins G Lp i y oL μ H) (k : Kp (ct X) μ H μ' H') : AZ X pins G Lp i y oL μ' H' := fun μ2 S2 H2 σ2 s2 a1 a2 a3 a4 a5 a6 => z μ2 S2 H2 σ2 s2 a1 a2 a3 (kp_trans k a4) a5 a6
end Pu
namespace Pu
open PySem PySem.Spec PyProof.Rows L2 GenW RZ
/-- zip's own three -/
structure Zo (z TI TO : Addr) (a1 a2 : Addr) (f0 : Value) (H : Hp) (h : Heap) : Prop where
  iz : IsZip h z TI TO f0
  iti : IsPair h TI (.ref a1) (.ref a2)
  ito : ∃ v w, IsPair h TO v w
  hz : H z = none
  hti : H TI = none
  hto : H TO = none
def P12 (G1 G2 : Gn) (o1 o2 : Obj) : List (Addr × Obj) := [(G1.n, o1), (G1.a, G1.oa)] ++ [(G2.n, o2), (G2.a, G2.oa)]
/-- where everything lies -/
structure ZL (X : Cx) (pins : List (Addr × Obj)) (G1 G2 : Gn) (z TI TO : Addr) : Prop where
  k1 : Asks (inA X) pins G1.n G1.B G1.a
  k2 : Asks (inA X) pins G2.n G2.B G2.a
  mem1 : ∀ b ∈ [G2.n, G2.a, z, TI, TO], b ∈ G1.B
  mem2 : ∀ b ∈ [G1.n, G1.a, z, TI, TO], b ∈ G2.B
  in1 : ∀ b ∈ G1.B, b ∈ [G1.a, G2.n, G2.a, z, TI, TO] ∨ ∃ p ∈ X.pn ++ pins, p.1 = b
  in2 : ∀ b ∈ G2.B, b ∈ [G2.a, G1.n, G1.a, z, TI, TO] ∨ ∃ p ∈ X.pn ++ pins, p.1 = b
  ne1 : ∀ b ∈ G1.B, b ≠ G1.n ∧ b ∉ frs X.stack
  ne2 : ∀ b ∈ G2.B, b ≠ G2.n ∧ b ∉ frs X.stack
  fz : ∀ c ∈ [z, TI, TO], c ≠ X.env.locals ∧ c ∉ X.fs ∧ (c ∈ X.ex ∨ X.s_0.heap.objs.size ≤ c) ∧ (∀ x c', X.env.cells.lookup x = some c' → c' ≠ c) ∧ (∀ p ∈ X.pn ++ pins, p.1 ≠ c) ∧ c ≠ G1.n ∧ c ≠ G1.a ∧ c ≠ G2.n ∧ c ≠ G2.a
  toz : TO ≠ z
  tiz : TI ≠ z
  tito : TI ≠ TO
  gi : G1.gi ≠ G2.gi
end Pu
namespace Pu
open PySem PySem.Spec PyProof.Rows L2 GenW RZ
/-- what the loop knows when i turns are over -/
def BsOf (X : Cx) (E : XK) (gg : FG) (fb : FS) (prs : List D) (Dv : Ends) (De : DEnds) (Ed : ED) (S2 : Sto) (vs1 vs2 : List V) (as1 as2 : List D) : Nat → Mu → Sto → Hp → L2.St → Prop := fun i μ S H σ => (∃ ρ, EnvR (ct X) μ H σ ρ ∧ dLoop gg fb [] (prs.drop i) ρ S De Ed) ∧ EndsOk (ct X) μ H De Dv ∧ PX (ct X) μ H Ed E ∧ (i = 0 → S = S2 ∧ RpAll (ct X) μ H vs1 as1 ∧ RpAll (ct X) μ H vs2 as2)
theorem BsOf.fw {X : Cx} {E : XK} {gg : FG} {fb : FS} {prs : List D} {Dv : Ends} {De : DEnds} {Ed : ED} {S2 : Sto} {vs1 vs2 : List V} {as1 as2 : List D} {i : Nat} {μ μ' : Mu} {S : Sto} {H H' : Hp} {σ : L2.St} (h : BsOf X E gg fb prs Dv De Ed S2 vs1 vs2 as1 as2 i μ S H σ) (w : Wd (ct X) μ S H) (f : Fw μ H μ' H') : BsOf X E gg fb prs Dv De Ed S2 vs1 vs2 as1 as2 i μ' S H' σ := by
  obtain ⟨⟨ρ, en, hl⟩, k, px, z⟩ := h
  exact ⟨⟨ρ, en.fw w f, hl⟩, k.fw f, px.fw f, fun e => ⟨(z e).1, (z e).2.1.fw w f, (z e).2.2.fw w f⟩⟩
section
variable {X : Cx} {pins : List (Addr × Obj)} {G1 G2 : Gn} {z TI TO : Addr} {len : Nat} {Bs : Nat → Mu → Sto → Hp → L2.St → Prop}
/-- .. and let go -/
theorem ZL.free {o1 o2 oz ot oo : Obj} {f0 : Value} {H0 H : Hp} {σ : L2.St} {s0 s : Shared} (Z : Zo z TI TO G1.a G2.a f0 H0 s0.heap) (ez : s0.heap.get? z = some oz) (et : s0.heap.get? TI = some ot) (eo : s0.heap.get? TO = some oo) (I : Inv X (pins ++ (P12 G1 G2 o1 o2 ++ [(z, oz), (TI, ot), (TO, oo)])) σ H s) : Inv X (pins ++ P12 G1 G2 o1 o2) σ H s ∧ Zo z TI TO G1.a G2.a f0 H s.heap := by
  have q1 := I.pin (z, oz) (List.mem_append_right _ (List.mem_append_right _ (List.mem_append_right _ (by simp))))
  have q2 := I.pin (TI, ot) (List.mem_append_right _ (List.mem_append_right _ (List.mem_append_right _ (by simp))))
  have q3 := I.pin (TO, oo) (List.mem_append_right _ (List.mem_append_right _ (List.mem_append_right _ (by simp))))
  obtain ⟨v, w, e⟩ := Z.ito
  refine ⟨inv_perm I fun p hp => ?_, ⟨(q1.1.trans ez.symm).trans Z.iz, (q2.1.trans et.symm).trans Z.iti, ⟨v, w, (q3.1.trans eo.symm).trans e⟩, q1.2.1, q2.2.1, q3.2.1⟩⟩
  rcases List.mem_append.mp hp with q | q
  · exact List.mem_append_left _ q
  · exact List.mem_append_right _ (List.mem_append_left _ q)
end
end Pu
namespace Pu
open PySem PySem.Spec PyProof.Rows L2
/-! ## dicts whose keys are pairs of tuples of whole numbers: on the heap -/
def nkey (k : NK) : NestedKey := .tup [.tup (k.1.map .num), .tup (k.2.map .num)]
theorem hashes_num (w : World) : ∀ ns : List Int, NestedKey.hashes w (ns.map .num) = ns.map hashInt
  | [] => rfl
  | n :: ns => by
    show NestedKey.hash w (.num n) :: NestedKey.hashes w (ns.map .num) = _
    rw [hashes_num w ns]
    rfl
theorem hash_nkey (w : World) (k : NK) : (nkey k).hash w = hN k := by
  show reduceHash (Builtin.Tuple.tupleHashOf [reduceHash (Builtin.Tuple.tupleHashOf (NestedKey.hashes w (k.1.map .num))), reduceHash (Builtin.Tuple.tupleHashOf (NestedKey.hashes w (k.2.map .num)))]) = _
  rw [hashes_num, hashes_num]
  rfl
theorem nums_inj : ∀ {a b : List Int}, a.map NestedKey.num = b.map NestedKey.num → a = b
  | [], [], _ => rfl
  | [], _ :: _, h => by cases h
  | _ :: _, [], h => by cases h
  | x :: xs, y :: ys, h => by
    rw [List.map_cons, List.map_cons] at h
    injection h with h1 h2
    injection h1 with h1
    rw [h1, nums_inj h2]
theorem nkey_inj {a b : NK} (h : nkey a = nkey b) : a = b := by
  unfold nkey at h
  injection h with h
  injection h with h1 h2
  injection h2 with h2 _
  injection h1 with h1
  injection h2 with h2
  exact Prod.ext (nums_inj h1) (nums_inj h2)
theorem depths_num : ∀ ns : List Int, NestedKey.depthAll (ns.map .num) = 0
  | [] => rfl
  | n :: ns => by
    show max (NestedKey.depth (.num n)) (NestedKey.depthAll (ns.map .num)) = 0
    rw [depths_num ns]
    rfl
theorem nkey_depth (k : NK) : (nkey k).depth ≤ 8 := by
  show max (NestedKey.depthAll (k.1.map .num) + 1) (max (NestedKey.depthAll (k.2.map .num) + 1) 0) + 1 ≤ 8
  rw [depths_num, depths_num]
  decide
section
variable {P : Program} {w : World} {H : Hp} {h : Heap}
theorem nums_at {ns : List Int} : ∀ {its : List Value}, Vals (ns.map V.int) its → NestedAll h (ns.map .num) its := by
  induction ns with
  | nil => intro its r; cases r; exact .nil
  | cons n ns ih =>
    intro its r
    cases r with
    | cons r1 r2 =>
      obtain ⟨t, rfl⟩ := r1
      exact .cons (.int _ _) (ih r2)
theorem tup_nums (ok : HOk P w H h) {t : Addr} {ns : List Int} (e : H t = some (.tup (ns.map V.int))) : NestedIs h (.tup (ns.map .num)) (.ref t) := by
  obtain ⟨_, its, r, o, h1, h2, n, h3⟩ := (show ObjOk P w H h t (.tup (ns.map V.int)) from ok t _ e)
  exact .tup h1 h2 h3 (by simpa using nums_at r)
theorem key_nested (ok : HOk P w H h) {q : Addr} {k : NK} (e : KeyAt H q k) : (nestedKind P w).is h (nkey k) q := by
  obtain ⟨t, u, e1, e2, e3⟩ := e
  obtain ⟨_, its, r, o, h1, h2, n, h3⟩ := (show ObjOk P w H h q (.tup [.ref t, .ref u]) from ok q _ e1)
  refine ⟨.tup h1 h2 h3 ?_, nkey_depth k⟩
  cases r with
  | cons r1 r2 => cases r2 with
    | cons r2 r3 =>
      cases r3
      cases r1
      cases r2
      exact .cons (tup_nums ok e2) (.cons (tup_nums ok e3) .nil)
end
/-- the entries as the library has them -/
abbrev KX : List (NK × Addr × Int) → List (NestedKey × Addr × Value) → Prop := Paired fun x y => y.1 = nkey x.1 ∧ y.2.1 = x.2.1 ∧ RelV (.int x.2.2) y.2.2
theorem kx_of : ∀ {xs : List (NK × Addr × Int)} {ts : List Value}, Paired (fun (x : NK × Addr × Int) v => RelV (.int x.2.2) v) xs ts → KX xs ((xs.zip ts).map fun p => (nkey p.1.1, p.1.2.1, p.2))
  | _, _, .nil => .nil
  | _, _, .cons r t => .cons ⟨rfl, rfl, r⟩ (kx_of t)
theorem kx_vals : ∀ {xs : List (NK × Addr × Int)} {ys : List (NestedKey × Addr × Value)}, KX xs ys → Paired (fun (x : NK × Addr × Int) v => RelV (.int x.2.2) v) xs (ys.map (·.2.2))
  | _, _, .nil => .nil
  | _, _, .cons r t => .cons r.2.2 (kx_vals t)
theorem kx_ents {P : Program} {w : World} : ∀ {xs : List (NK × Addr × Int)} {ys : List (NestedKey × Addr × Value)}, KX xs ys → ys.map (entryOfKey (nestedKind P w)) = (xs.zip (ys.map (·.2.2))).map fun p => (⟨hN p.1.1, .ref p.1.2.1, p.2⟩ : DictEntry)
  | _, _, .nil => rfl
  | _, _, .cons (a := x) (b := y) r t => by
    have ih := kx_ents (P := P) (w := w) t
    rw [List.map_cons, List.map_cons, List.zip_cons_cons, List.map_cons, ← ih]
    obtain ⟨r1, r2, r3⟩ := r
    congr 1
    show (⟨NestedKey.hash w y.1, .ref y.2.1, y.2.2⟩ : DictEntry) = _
    rw [r1, r2, hash_nkey]
theorem kx_keys : ∀ {xs : List (NK × Addr × Int)} {ys : List (NestedKey × Addr × Value)}, KX xs ys → ys.map (·.1) = (xs.map (·.1)).map nkey
  | _, _, .nil => rfl
  | _, _, .cons r t => by
    rw [List.map_cons, List.map_cons, List.map_cons, kx_keys t, r.1]
theorem nodup_nkey {l : List NK} (h : l.Nodup) : (l.map nkey).Nodup := by
  exact List.pairwise_map.mpr (List.Pairwise.imp (fun ne z => ne (nkey_inj z)) h)
theorem kx_zip : ∀ {xs : List (NK × Addr × Int)} {ts : List Value}, Paired (fun (x : NK × Addr × Int) v => RelV (.int x.2.2) v) xs ts → ((xs.zip ts).map fun p => (nkey p.1.1, p.1.2.1, p.2)).map (·.2.2) = ts
  | _, _, .nil => rfl
  | _, _, .cons r t => by
    rw [List.zip_cons_cons, List.map_cons, List.map_cons, kx_zip t]
section
variable {P : Program} {w : World} {H : Hp} {h : Heap} {a : Addr} {ep : Nat} {xs : List (NK × Addr × Int)}
structure DctW (H : Hp) (a : Addr) (ep : Nat) (xs : List (NK × Addr × Int)) : Prop where
  at_ : H a = some (DctO a ep xs)
  nd : (xs.map (·.1)).Nodup
  len : xs.length ≤ sizeLine
  ns : (a == sysModules) = false
  key : ∀ x ∈ xs, KeyAt H x.2.1 x.1
theorem dct_raw (ok : HOk P w H h) (e : H a = some (DctO a ep xs)) : ∃ o es ys, KX xs ys ∧ h.get? a = some o ∧ o.ExactDict ∧ o.data = .dict es ep ∧ es.toList = ys.map (entryOfKey (nestedKind P w)) := by
  obtain ⟨⟨o, es, ts, h1, h2, h3, h4, h5⟩, _⟩ := (show ObjOk P w H h a (.ext (dctP a ep xs)) from ok a _ e)
  refine ⟨o, es, _, kx_of h4, h1, h2, h3, ?_⟩
  rw [h5, kx_ents (kx_of h4), kx_zip h4]
theorem dct_of (ok : HOk P w H h) (d : DctW H a ep xs) : ∃ ys, KX xs ys ∧ h.DictOfH (nestedKind P w) a ys := by
  obtain ⟨o, es, ys, r, h1, h2, h3, h4⟩ := dct_raw ok d.at_
  refine ⟨ys, r, o, es, ep, h1, h2, h3, h4, fun y hy => ?_, by rw [kx_keys r]; exact nodup_nkey d.nd⟩
  have all : ∀ {l : List (NK × Addr × Int)} {m : List (NestedKey × Addr × Value)}, KX l m → (∀ x ∈ l, KeyAt H x.2.1 x.1) → ∀ y ∈ m, (nestedKind P w).is h y.1 y.2.1 := by
    intro l m q
    induction q with
    | nil => intro _ y hy; exact nomatch hy
    | @cons p q ps qs hq t ih =>
      intro hk y hy
      rcases List.mem_cons.mp hy with e | hy
      · subst e
        rw [hq.1, hq.2.1]
        exact key_nested ok (hk p List.mem_cons_self)
      · exact ih (fun x hx => hk x (List.mem_cons_of_mem _ hx)) y hy
  exact all r d.key y hy
/-- what is written back -/
theorem dct_ok {ys : List (NestedKey × Addr × Value)} (r : KX xs ys) (d : h.DictOfH (nestedKind P w) a ys) : ∃ ep', ObjOk P w H h a (DctO a ep' xs) ∧ ∃ o, h.get? a = some o := by
  obtain ⟨o, es, ep', h1, h2, h3, h4, _, _⟩ := d
  refine ⟨ep', ⟨⟨o, es, _, h1, h2, h3, kx_vals r, by rw [h4, kx_ents r]⟩, ⟨o, h1⟩, fun hp hq => ?_⟩, o, h1⟩
  rintro ⟨o', es', ts, g1, g2⟩ k
  exact ⟨o', es', ts, k _ g1, g2⟩
end
/-- the value at a key -/
def valN : List (NK × Int) → NK → Option Int
  | [], _ => none
  | (a, x) :: l, k => if a = k then some x else valN l k
/-- d[k] = v -/
def putN : List (NK × Int) → NK → Int → List (NK × Int)
  | [], k, v => [(k, v)]
  | (a, x) :: l, k, v => if a = k then (a, v) :: l else (a, x) :: putN l k v
def putA : List (NK × Addr × Int) → NK → Addr → Int → List (NK × Addr × Int)
  | [], k, b, v => [(k, b, v)]
  | (a, q, x) :: l, k, b, v => if a = k then (a, q, v) :: l else (a, q, x) :: putA l k b v
abbrev prs (xs : List (NK × Addr × Int)) : List (NK × Int) := xs.map fun x => (x.1, x.2.2)
theorem putA_prs {k : NK} {b : Addr} {v : Int} : ∀ xs : List (NK × Addr × Int), prs (putA xs k b v) = putN (prs xs) k v
  | [] => rfl
  | (a, q, x) :: l => by
    unfold putA
    show _ = putN ((a, x) :: prs l) k v
    unfold putN
    split
    · rfl
    · show (a, x) :: prs (putA l k b v) = _
      rw [putA_prs l]
theorem putA_mem {k : NK} {b : Addr} {v : Int} : ∀ {xs : List (NK × Addr × Int)} {x : NK × Addr × Int}, x ∈ putA xs k b v → (x.1 = k ∧ x.2.1 = b) ∨ ∃ y ∈ xs, y.1 = x.1 ∧ y.2.1 = x.2.1
  | [], x, h => by rw [List.mem_singleton.mp h]; exact .inl ⟨rfl, rfl⟩
  | (a, q, y) :: l, x, h => by
    unfold putA at h
    split at h
    · rcases List.mem_cons.mp h with rfl | h
      · exact .inr ⟨_, List.mem_cons_self, rfl, rfl⟩
      · exact .inr ⟨x, List.mem_cons_of_mem _ h, rfl, rfl⟩
    · rcases List.mem_cons.mp h with rfl | h
      · exact .inr ⟨_, List.mem_cons_self, rfl, rfl⟩
      · rcases putA_mem (xs := l) h with h | ⟨z, h1, h2⟩
        · exact .inl h
        · exact .inr ⟨z, List.mem_cons_of_mem _ h1, h2⟩
theorem putA_sub {k : NK} {b : Addr} {v : Int} : ∀ {xs : List (NK × Addr × Int)} {j : NK}, j ∈ (putA xs k b v).map (·.1) → j = k ∨ j ∈ xs.map (·.1)
  | [], j, h => .inl (List.mem_singleton.mp h)
  | (a, q, y) :: l, j, h => by
    unfold putA at h
    split at h
    · exact .inr h
    · rcases List.mem_cons.mp h with rfl | h
      · exact .inr List.mem_cons_self
      · exact (putA_sub (xs := l) h).imp id fun z => List.mem_cons_of_mem _ z
theorem putA_nodup {k : NK} {b : Addr} {v : Int} : ∀ {xs : List (NK × Addr × Int)}, (xs.map (·.1)).Nodup → ((putA xs k b v).map (·.1)).Nodup
  | [], _ => by simp [putA]
  | (a, q, y) :: l, h => by
    unfold putA
    rw [List.map_cons, List.nodup_cons] at h
    split
    · rw [List.map_cons, List.nodup_cons]; exact h
    · rename_i hne
      rw [List.map_cons, List.nodup_cons]
      refine ⟨fun z => ?_, putA_nodup h.2⟩
      rcases putA_sub z with z | z
      · exact hne z
      · exact h.1 z
theorem putA_len {k : NK} {b : Addr} {v : Int} : ∀ xs : List (NK × Addr × Int), (putA xs k b v).length ≤ xs.length + 1
  | [] => Nat.le_refl _
  | (a, q, y) :: l => by
    unfold putA
    split
    · rw [List.length_cons, List.length_cons]; omega
    · have := putA_len (k := k) (b := b) (v := v) l
      rw [List.length_cons, List.length_cons]; omega
/-! the library's own tables -/
theorem kx_val : ∀ {xs : List (NK × Addr × Int)} {ys : List (NestedKey × Addr × Value)}, KX xs ys → ∀ k : NK, (valN (prs xs) k = none ∧ atKey ys (nkey k) = none) ∨ ∃ i p, valN (prs xs) k = some i ∧ atKey ys (nkey k) = some p ∧ RelV (.int i) p.2
  | _, _, .nil, k => .inl ⟨rfl, rfl⟩
  | _, _, .cons (a := x) (b := y) (l₁ := xs) (l₂ := ys) r t, k => by
    obtain ⟨r1, r2, r3⟩ := r
    by_cases e : x.1 = k
    · refine .inr ⟨x.2.2, y.2, ?_, ?_, r3⟩
      · show valN ((x.1, x.2.2) :: prs xs) k = _
        unfold valN
        rw [if_pos e]
      · unfold atKey
        rw [List.find?_cons_of_pos (by simp [r1, e])]
        rfl
    · have h1 : valN (prs (x :: xs)) k = valN (prs xs) k := by
        show valN ((x.1, x.2.2) :: prs xs) k = _
        rw [valN, if_neg e]
      have h2 : atKey (y :: ys) (nkey k) = atKey ys (nkey k) := by
        unfold atKey
        rw [List.find?_cons_of_neg (by rw [r1]; simp only [decide_eq_true_eq]; exact fun z => e (nkey_inj z))]
      rw [h1, h2]
      exact kx_val t k
theorem kx_repl {k : NK} {b : Addr} {v : Int} {u : Value} (rv : RelV (.int v) u) : ∀ {xs : List (NK × Addr × Int)} {ys : List (NestedKey × Addr × Value)}, KX xs ys → (xs.map (·.1)).Nodup → (atKey ys (nkey k)).isSome = true → KX (putA xs k b v) (ys.map (putAt (nkey k) u))
  | _, _, .nil, _, h => by cases h
  | _, _, .cons (a := x) (b := y) (l₁ := xs) (l₂ := ys) r t, nd, h => by
    obtain ⟨a, q, i⟩ := x
    obtain ⟨r1, r2, r3⟩ := r
    rw [List.map_cons, List.nodup_cons] at nd
    unfold putA
    rw [List.map_cons]
    by_cases e : a = k
    · rw [if_pos e]
      refine .cons ?_ ?_
      · unfold putAt
        rw [if_pos (by rw [r1]; exact congrArg nkey e)]
        exact ⟨r1, r2, rv⟩
      · -- no further one
        have rest : ∀ {l : List (NK × Addr × Int)} {m : List (NestedKey × Addr × Value)}, KX l m → a ∉ l.map (·.1) → m.map (putAt (nkey k) u) = m := by
          intro l m q
          induction q with
          | nil => intro _; rfl
          | @cons p q ps qs hq t ih =>
            intro hn
            rw [List.map_cons] at hn
            rw [List.map_cons, ih fun z => hn (List.mem_cons_of_mem _ z)]
            congr 1
            unfold putAt
            rw [if_neg]
            rw [hq.1]
            intro z
            exact hn (by rw [e, ← nkey_inj z]; exact List.mem_cons_self)
        rw [rest t nd.1]
        exact t
    · rw [if_neg e]
      have hne : ¬ y.1 = nkey k := by rw [r1]; exact fun z => e (nkey_inj z)
      refine .cons ?_ (kx_repl rv t nd.2 ?_)
      · unfold putAt
        rw [if_neg hne]
        exact ⟨r1, r2, r3⟩
      · unfold atKey at h ⊢
        rw [List.find?_cons_of_neg (by simpa using hne)] at h
        exact h
theorem kx_snoc {k : NK} {b : Addr} {v : Int} {u : Value} (rv : RelV (.int v) u) : ∀ {xs : List (NK × Addr × Int)} {ys : List (NestedKey × Addr × Value)}, KX xs ys → valN (prs xs) k = none → KX (putA xs k b v) (ys ++ [(nkey k, b, u)])
  | _, _, .nil, _ => .cons ⟨rfl, rfl, rv⟩ .nil
  | _, _, .cons (a := x) (b := y) (l₁ := xs) (l₂ := ys) r t, h => by
    obtain ⟨a, q, i⟩ := x
    have hne : ¬ a = k := fun z => by
      have h' : valN ((a, i) :: prs xs) k = none := h
      unfold valN at h'
      rw [if_pos z] at h'
      cases h'
    have h2 : valN (prs xs) k = none := by
      have h' : valN ((a, i) :: prs xs) k = none := h
      unfold valN at h'
      rw [if_neg hne] at h'
      exact h'
    unfold putA
    rw [if_neg hne, List.cons_append]
    exact .cons r (kx_snoc rv t h2)
theorem kx_put {k : NK} {b : Addr} {v : Int} {u : Value} (rv : RelV (.int v) u) {xs : List (NK × Addr × Int)} {ys : List (NestedKey × Addr × Value)} (r : KX xs ys) (nd : (xs.map (·.1)).Nodup) : KX (putA xs k b v) (storedH ys (nkey k) b u) := by
  unfold storedH
  rcases kx_val r k with ⟨h1, h2⟩ | ⟨i, p, h1, h2, h3⟩
  · rw [if_neg (by rw [h2]; exact Bool.false_ne_true)]
    exact kx_snoc rv r h1
  · rw [if_pos (by rw [h2]; rfl)]
    exact kx_repl rv r nd (by rw [h2]; rfl)
end Pu
namespace Pu
open PySem PySem.Spec PyProof.Rows L2
/-! ## rules on the heap for such dicts -/
theorem dct_empty {P : Program} {w : World} {H : Hp} (h : Heap) : ObjOk P w H (h.push { cls := .type "dict", data := .dict #[] }) h.objs.size (DctO h.objs.size 0 []) := by
  refine ⟨⟨_, #[], [], Heap.get?_push_size _ rfl, ⟨rfl, rfl, rfl⟩, rfl, .nil, rfl⟩, ⟨_, Heap.get?_push_size _ rfl⟩, fun hp hq => ?_⟩
  rintro ⟨o', es', ts, g1, g2⟩ k
  exact ⟨o', es', ts, k _ g1, g2⟩
theorem DctW.nil {H : Hp} {p : Addr} (hn : (p == sysModules) = false) (h : H p = some (DctO p 0 [])) : DctW H p 0 [] := ⟨h, List.nodup_nil, Nat.zero_le _, hn, fun _ z => nomatch z⟩
section
variable {X : Cx} {pins : List (Addr × Obj)} {σ : L2.St} {H : Hp} {s : Shared} {a b : Addr} {ep : Nat} {xs : List (NK × Addr × Int)} {k : NK}
theorem dct_at (I : Inv X pins σ H s) (e : H a = some (DctO a ep xs)) : s.TypeIs (.ref a) "dict" ∧ (∀ c, Value.ref a = .ref c → ∃ ob, s.heap.get? c = some ob ∧ ob.dict = none) := by
  obtain ⟨o, es, ys, r, h1, h2, h3, h4⟩ := dct_raw I.hok e
  exact ⟨⟨o, h1, h2.1⟩, fun c q => by cases q; exact ⟨o, h1, h2.2.1⟩⟩
theorem dct_raws (I : Inv X pins σ H s) (e : H a = some (DctO a ep xs)) : ∃ es ys, KX xs ys ∧ s.heap.DictRaw a es ep ∧ es.size = xs.length ∧ ∀ i : Nat, es[i]? = (ys[i]?).map (entryOfKey (nestedKind X.prog X.w)) := by
  obtain ⟨o, es, ys, r, h1, h2, h3, h4⟩ := dct_raw I.hok e
  refine ⟨es, ys, r, ⟨o, h1, h2, h3⟩, ?_, fun i => ?_⟩
  · rw [← Array.length_toList, h4, List.length_map, ← Paired.length r]
  · rw [← Array.getElem?_toList, h4, List.getElem?_map]
/-- d[k] = n -/
theorem dct_set {A : Around} {E : Value → Shared → Prop} {n : Int} {u : Value} {Q : Unit → Shared → Prop} (hu : A.units + 9 < cLine) (I : Inv X pins σ H s) (d : DctW H a ep xs) (hk : KeyAt H b k) (hl : xs.length < sizeLine) (ru : RelV (.int n) u)
    (h : ∀ ep' s', Inv X pins σ (upd H a (DctO a ep' (putA xs k b n))) s' → Q () s') : wpAny (model X.prog X.w) A (setItem (.ref a) (.ref b) u) Q E s := by
  obtain ⟨ys, r, dd⟩ := dct_of I.hok d
  refine wpAny_setItem_heap (knd := nestedKind X.prog X.w) (hsz := by rw [← Paired.length r]; exact d.len) (show A.units + 1 + 8 < cLine by omega) (key_nested I.hok hk) dd fun h' dd' hs => ?_
  obtain ⟨ep', ok, he⟩ := dct_ok (H := upd H a (DctO a 0 [])) (kx_put ru r d.nd) dd'
  refine h ep' _ (d_write I (by rw [d.at_]; exact True.intro) hs he ?_)
  exact ok
def rSetN : V → V → V → Hp → (Hp → Prop) → Prop := fun o i v H Q => ∃ a ep xs b k n, o = .ref a ∧ i = .ref b ∧ v = .int n ∧ DctW H a ep xs ∧ KeyAt H b k ∧ xs.length < sizeLine ∧ ∀ ep', Q (upd H a (DctO a ep' (putA xs k b n)))
theorem set_dctN (hu : X.A.units + 9 < cLine) : PSet X rSetN := by
  intro pins s σ H o i v ov iv u Q I ro ri rv h
  obtain ⟨a, ep, xs, b, k, n, rfl, rfl, rfl, d, hk, hl, q⟩ := h
  cases ro
  cases ri
  exact dct_set hu I d hk hl rv fun ep' s' I' => ⟨_, I', q ep'⟩
end
section
variable {X : Cx} {pos : Pos} {kx vx : Expr} {tk tv : TE}
/-- {} -/
def tDNewN : TE := fun _ H Q => ∀ p, H p = none → (p == sysModules) = false → Q (.ref p) (upd H p (DctO p 0 []))
theorem sys_new {pins : List (Addr × Obj)} {σ : L2.St} {H : Hp} {s : Shared} (I : Inv X pins σ H s) : (s.heap.objs.size == sysModules) = false := beq_eq_false_iff_ne.mpr (Ne.symm (Nat.ne_of_lt I.big))
theorem pe_dnewN : PE X (.Dict [] [] pos) tDNewN := ⟨fun pins s σ H Q I h =>
  wpAny_Dict_empty ⟨.ref s.heap.objs.size, _, I.laid (a := s.heap.objs.size) (o := DctO s.heap.objs.size 0 []) (t' := s.toks) (fun _ _ q => Heap.get?_push_of_some _ q) (Nat.le_refl _) (dct_empty s.heap), rfl, h _ (I.hok.fresh (Nat.le_refl _)) (sys_new I)⟩⟩
/-- {k: v} -/
def tDOneN (tk tv : TE) : TE := fun σ H Q => ∀ p, H p = none → (p == sysModules) = false → tk σ (upd H p (DctO p 0 [])) fun x H1 => tv σ H1 fun y H2 => ∃ b k n, x = .ref b ∧ y = .int n ∧ KeyAt H2 b k ∧ H2 p = some (DctO p 0 []) ∧ ∀ ep', Q (.ref p) (upd H2 p (DctO p ep' [(k, b, n)]))
theorem pe_doneN (hu : X.A.units + 8 < cLine) (hk : PE X kx tk) (hv : PE X vx tv) : PE X (.Dict [some kx] [vx] pos) (tDOneN tk tv) := by
  refine ⟨fun pins s σ H Q I h => ?_⟩
  have hn := I.hok.fresh (Nat.le_refl s.heap.objs.size)
  have I1 := I.laid (a := s.heap.objs.size) (o := DctO s.heap.objs.size 0 []) (h' := s.heap.push { cls := .type "dict", data := .dict #[] }) (t' := s.toks) (fun _ _ q => Heap.get?_push_of_some _ q) (Nat.le_refl _) (dct_empty s.heap)
  have hsh := zip_pairTrees [some kx] [vx] X.env pos rfl rfl
  rw [arm_eval_Dict, hsh, dictDisplay_pairs (pairTrees [some kx] [vx] X.env pos) (by simp [pairTrees]) (by simp [pairTrees])]
  refine wpAny_bind (wpAny_standAt (wpAny_bind (wpAny_subDictH (knd := nestedKind X.prog X.w) (Q := fun d s' => wpAny (model X.prog X.w) X.A (pure (Value.ref d)) _ _ s') hu (by simp [pairTrees]) ?_)))
  refine pairTrees_cons_walk (thn (hk.run pins _ σ _ _ I1 (h _ hn (sys_new I))) fun u s1 ⟨x, H1, I2, rx, q1⟩ => thn (hv.run pins s1 σ H1 _ I2 q1) fun w2 s2 ⟨y, H2, I3, ry, b, k, n, ex, ey, hka, hp, q2⟩ => pairTrees_nil_walk ?_)
  subst ex ey
  cases rx
  obtain ⟨ys, r, dd⟩ := dct_of I3.hok (DctW.nil (sys_new I) hp)
  cases r
  refine ⟨[(nkey k, b, w2)], ⟨rfl, rfl, key_nested I3.hok hka, trivial⟩, dd, fun h' tk' dd' hs => wpAny_pure ?_⟩
  obtain ⟨ep', ok, he⟩ := dct_ok (H := upd H2 s.heap.objs.size (DctO s.heap.objs.size 0 [])) (xs := [(k, b, n)]) (ys := [(nkey k, b, w2)]) (.cons ⟨rfl, rfl, ry⟩ .nil) dd'
  exact ⟨.ref s.heap.objs.size, _, d_write I3 (by rw [hp]; exact True.intro) hs he ok, rfl, q2 ep'⟩
/-- d.get(k, n) -/
def tDGetN (td ty tx : TE) : TE := fun σ H Q => td σ H fun x H1 => ∃ a, x = .ref a ∧ (∃ ep xs, H1 a = some (DctO a ep xs)) ∧ ty σ H1 fun y H2 => tx σ H2 fun z H3 => ∃ ep xs b k n, DctW H3 a ep xs ∧ y = .ref b ∧ KeyAt H3 b k ∧ z = .int n ∧ Q (.int ((valN (prs xs) k).getD n)) H3
theorem pe_dgetN {o e f : Expr} {apos cpos : Pos} {td ty tx : TE} (hu : X.A.units + 9 < cLine) (ho : PE X o td) (he : PE X e ty) (hf : PE X f tx) (m : M2 X o "get" apos e f cpos) : PE X (.Call (.Attribute o "get" apos) [e, f] [] cpos) (tDGetN td ty tx) := by
  refine ⟨fun pins s σ H Q I h => ?_⟩
  refine wpAny_Call_method m.base m.few m.line PySem.F.plainAttrs_dict PySem.F.slot_dict_get PySem.F.type_dict_get (thn (ho.run pins s σ H _ I h) fun u s1 ⟨x, H1, I1, rx, a, ex, ⟨ep, xs, hd⟩, q1⟩ => ?_)
  subst ex
  obtain rfl : u = Value.ref a := rx
  obtain ⟨t1, t2⟩ := dct_at I1 hd
  refine ⟨t1, t2, ?_⟩
  rw [m.trees]
  refine Calls.callWith_builtin rfl (Calls.evalArgs_plain (Calls.spliced_cons (thn (he.run pins s1 σ H1 _ I1 q1) fun iv s2 ⟨y, H2, I2, ry, q2⟩ =>
    Calls.spliced_cons (thn (hf.run pins s2 σ H2 _ I2 q2) fun fv s3 ⟨z, H3, I3, rz, ep2, xs2, b, k, n, d, ey, hk, ez, q3⟩ => Calls.spliced_nil ?_))))
  subst ey ez
  cases ry
  obtain ⟨ys, r, dd⟩ := dct_of I3.hok d
  refine call_meetsIn PySem.F.slot_dict_get dd.typeIs PySem.F.entry_dict_get (PySem.F.args_dict_get_3 _ _ _) (meetsH_dict_get_default (nestedKind X.prog X.w) a b d.ns fv) ⟨show X.A.units + 1 + 8 < cLine by omega, nkey k, ys, key_nested I3.hok hk, dd, ?_⟩
  refine ⟨.int ((valN (prs xs2) k).getD n), H3, I3.tok _, ?_, q3⟩
  rcases kx_val r k with ⟨h1, h2⟩ | ⟨i, p, h1, h2, h3⟩
  · rw [h1, h2]; exact rz
  · rw [h1, h2]; exact h3
end
/-! ### for .. in d.items() -/
def ItN (a : Addr) (ep n : Nat) : It where
  go i H := ∃ xs, H a = some (DctO a ep xs) ∧ xs.length = n ∧ i < n
  yld i H x H' := ∃ T q v, x = .ref T ∧ H T = none ∧ H' = upd H T (.tup [.ref q, .int v]) ∧ ∀ xs, H a = some (DctO a ep xs) → ∃ k, xs[i]? = some (k, q, v)
  stop i H := ∃ xs, H a = some (DctO a ep xs) ∧ xs.length = n ∧ n ≤ i
theorem turn_itemsN {P : Program} {w : World} {K : PySem.W.Frag} {elts : List Expr} {kk : Nat} {tpos : Pos} (a it : Addr) (ep n : Nat) :
    Turn P w K (.Tuple elts kk tpos) (ItN a ep n) [it] it (fun i h => ∃ ok ov, IsItemIter h it a i n ep ok ov) where
  mem := by simp
  obj := fun i h st b hb => by
    have e : b = it := by simpa using hb
    subst e
    obtain ⟨ok, ov, e⟩ := st
    exact ⟨_, e, fun v z => nomatch z⟩
  keep := fun i h h' st k => let ⟨ok, ov, e⟩ := st; ⟨ok, ov, k it (by simp) _ e⟩
  item := by
    intro X hP hw hK hc i pins s σ H E I hf st hg
    subst hP hw hK
    obtain ⟨xs, hd, hn, hi⟩ := hg
    obtain ⟨es, ys, r, raw, hsz, hat⟩ := dct_raws I hd
    obtain ⟨ok, ov, he⟩ := st
    have hlt : it < s.heap.objs.size := Heap.lt_size he
    have hi2 : i < es.size := by omega
    have he' : IsItemIter s.heap it a i es.size ep ok ov := by rw [hsz, hn]; exact he
    refine wpAny_pyNext_items_item_raw he' raw hi2 fun h' ho hT hz hk => ?_
    refine ⟨_, rfl, wpAny_letOwnedTupleGo_items (s := { s with heap := h' }) ho fun h'' he'' sb => ?_⟩
    have hT2 : h''.get? s.heap.objs.size = some { cls := .type "tuple", data := .seq #[es[i].key, es[i].val] } := (sb.2 _ (Nat.ne_of_gt hlt)).trans hT
    -- what the entry is
    have hx := List.getElem?_eq_getElem (l := xs) (i := i) (by omega)
    have ent : ∀ {xs' : List (NK × Addr × Int)} {ys' : List (NestedKey × Addr × Value)} {x : NK × Addr × Int}, KX xs' ys' → es[i]? = (ys'[i]?).map (entryOfKey (nestedKind X.prog X.w)) → xs'[i]? = some x → es[i].key = .ref x.2.1 ∧ RelV (.int x.2.2) es[i].val := by
      intro xs' ys' x r' e' hx'
      obtain ⟨y, hy, r1, r2, r3⟩ := paired_get r' hx'
      rw [hy, Array.getElem?_eq_getElem hi2] at e'
      have e2 : es[i] = entryOfKey (nestedKind X.prog X.w) y := Option.some.inj e'
      rw [e2]
      exact ⟨by show Value.ref y.2.1 = _; rw [r2], r3⟩
    obtain ⟨k1, v1⟩ := ent r (hat i) hx
    have new : ObjOk X.prog X.w (upd H s.heap.objs.size (.tup [.ref xs[i].2.1, .int xs[i].2.2])) h'' s.heap.objs.size (.tup [.ref xs[i].2.1, .int xs[i].2.2]) :=
      ⟨by show 2 ≤ sizeLine; decide, [es[i].key, es[i].val], .cons k1 (.cons v1 .nil), ⟨_, hT2, rfl, _, rfl⟩⟩
    have I1 : Inv X pins σ (upd H s.heap.objs.size (.tup [.ref xs[i].2.1, .int xs[i].2.2])) { s with heap := h'' } :=
      I.turnedNew (t' := s.toks) (ch := [it]) (fun b ob hb e => (sb.2 b (by simpa using hb)).trans (hk b ob (by simpa using hb) e)) hf (Nat.le_refl _) new
    refine ⟨.ref s.heap.objs.size, _, I1, rfl, ⟨_, _, _, rfl, I.hok.fresh (Nat.le_refl _), rfl, fun xs' hd' => ?_⟩, ⟨es[i].key, es[i].val, ?_⟩, fun b hb => ?_⟩
    · obtain ⟨es', ys', r', raw', hsz', hat'⟩ := dct_raws I hd'
      have ees : es' = es := by
        obtain ⟨o1, g1, _, g3⟩ := raw
        obtain ⟨o2, g4, _, g6⟩ := raw'
        rw [g1] at g4
        cases g4
        rw [g3] at g6
        cases g6
        rfl
      subst ees
      have hx' := List.getElem?_eq_getElem (l := xs') (i := i) (by omega)
      obtain ⟨k2, v2⟩ := ent r' (hat' i) hx'
      refine ⟨xs'[i].1, ?_⟩
      rw [hx']
      rw [k1] at k2
      obtain ⟨t1, e1⟩ := v1
      obtain ⟨t2, e2⟩ := v2
      rw [e1] at e2
      injection k2 with k2
      injection e2 with e2 _
      rw [k2, e2]
    · rw [hsz, hn] at he''
      exact he''
    · have e : b = it := by simpa using hb
      rw [e, upd_ne (Nat.ne_of_lt hlt)]
      exact (hf it (by simp)).1
  done := by
    intro X hP hw hK hc i pins s σ H E I hf st hg
    subst hP hw hK
    obtain ⟨xs, hd, hn, hi⟩ := hg
    obtain ⟨f0, f1, f2, f3, f4, f5⟩ := hf it (by simp)
    obtain ⟨es, ys, r, raw, hsz, hat⟩ := dct_raws I hd
    obtain ⟨ok, ov, he⟩ := st
    have he' : IsItemIter s.heap it a i es.size ep ok ov := by rw [hsz, hn]; exact he
    exact wpAny_pyNext_items_end_raw (I.ok.hd hc) he' raw (by omega) fun h' eb => ⟨rfl, I.turned (t' := s.toks) (fun b ob hb e => eb b ob hb e) f0 f1 f3 f4 f5⟩
  self := fun A i s Q E st h => let ⟨_, _, e⟩ := st; PySem.W.kcp_self e h
def iItemsN (td : TE) : TI := fun σ H R => td σ H fun x H1 => ∃ a ep xs, x = .ref a ∧ H1 a = some (DctO a ep xs) ∧ (a == sysModules) = false ∧ R (ItN a ep xs.length) H1
theorem pi_itemsN {X : Cx} {e : Expr} {td : TE} {apos cpos : Pos} {elts : List Expr} {kk : Nat} {tpos : Pos} (he : PE X e td) (hbase : attributeBase e "items" X.env (eval e X.env) = eval e X.env := by rfl) (hline : (apos.endLine == cpos.line) = true := by rfl) :
    PI X (.Tuple elts kk tpos) (.Call (.Attribute e "items" apos) [] [] cpos) (iItemsN td) := by
  refine ⟨fun pins s σ H R I h => ?_⟩
  refine wpAny_Call_method (T := "dict") (id := "dict.items") hbase rfl hline F.plainAttrs_dict F.slot_dict_items F.type_dict_items (thn (he.run pins s σ H _ I h) fun u s1 ⟨x, H1, I1, rx, d, ep, xs, ex, hd, hs, q⟩ => ?_)
  subst ex
  obtain rfl : u = Value.ref d := rx
  obtain ⟨es, ys, r, raw, hsz, hat⟩ := dct_raws I1 hd
  obtain ⟨t1, t2⟩ := dct_at I1 hd
  refine ⟨t1, t2, ?_⟩
  have I2 : Inv X pins σ H1 { s1 with heap := s1.heap.push { cls := .type "dict_items", data := .fields #[.ref d] } } := I1.kept (t' := s1.toks) fun b ob q => Heap.get?_push_of_some _ q
  have fin : wpAny (model X.prog X.w) X.A (pyIter (.ref s1.heap.objs.size)) (PIE X pins σ (.Tuple elts kk tpos) R) X.xe { s1 with heap := s1.heap.push { cls := .type "dict_items", data := .fields #[.ref d] } } := by
    refine wpAny_pyIter_items_raw (d := d) (es := es) (ep := ep) ⟨_, Heap.get?_push_size _ rfl, rfl, rfl⟩ (raw.at fun o e => Heap.get?_push_of_some _ e) (pi_one (tk := s1.toks) I2 _ (turn_itemsN d _ ep xs.length) ⟨.none, .none, ?_⟩ q)
    rw [hsz]
    exact Heap.get?_push_size _ rfl
  show wpAny _ _ (callWith cpos (.builtin "dict.items") [.ref d] [] []) _ X.xe s1
  exact method_meetsIn F.slot_dict_items F.entry_dict_items rfl (PySem.evalArgs_none ⟨rfl, t1, F.args_dict_items_1 _, _, meets_dict_items_raw d hs, ⟨es, ep, raw⟩, fin⟩)
end Pu
namespace Pu
open PySem PySem.Spec PyProof.Rows L2
/-! ## dicts whose keys are pairs of tuples: the layer -/
/-- a key as a value -/
def kD (k : NK) : D := .tup [.tup (k.1.map D.int), .tup (k.2.map D.int)]
section
variable {c : Ct} {μ : Mu} {S : Sto} {H : Hp}
theorem rp_ints : ∀ {ns : List Int} {vs : List V}, RpAll c μ H vs (ns.map D.int) → vs = ns.map V.int
  | [], _, .nil => rfl
  | n :: ns, _, .cons h r => by
    cases h
    rw [rp_ints r]
    rfl
theorem rp_key {v : V} {k : NK} (r : Rp c μ H v (kD k)) : ∃ b, v = .ref b ∧ KeyAt H b k := by
  obtain ⟨b, vs, rfl, hb, rs⟩ := r.tup_inv
  obtain ⟨x, y, rfl, r1, r2⟩ := rs.two
  obtain ⟨t, us, rfl, ht, rt⟩ := r1.tup_inv
  obtain ⟨u, ws, rfl, hu, ru⟩ := r2.tup_inv
  cases rp_ints rt
  cases rp_ints ru
  exact ⟨b, rfl, t, u, hb, ht, hu⟩
theorem all_ints : ∀ ns : List Int, RpAll c μ H (ns.map V.int) (ns.map D.int)
  | [] => .nil
  | n :: ns => .cons (.int n) (all_ints ns)
theorem key_rp {b : Addr} {k : NK} (h : KeyAt H b k) : Rp c μ H (.ref b) (kD k) := by
  obtain ⟨t, u, h1, h2, h3⟩ := h
  exact .tup h1 (.cons (.tup h2 (all_ints _)) (.cons (.tup h3 (all_ints _)) .nil))
theorem KeyAt.kp {μ' : Mu} {H' : Hp} {b : Addr} {k : NK} (h : KeyAt H b k) (kp : Kp c μ H μ' H') : KeyAt H' b k := by
  obtain ⟨t, u, h1, h2, h3⟩ := h
  exact ⟨t, u, kp.t _ _ h1, kp.t _ _ h2, kp.t _ _ h3⟩
theorem Wd.dctN (w : Wd c μ S H) {m ep : Nat} {ps : List (NK × Int)} {v : V} (r : Rp c μ H v (.cell m)) (h : S[m]? = some (.dct ep ps)) : ∃ a xs, v = .ref a ∧ μ.m[m]? = some a ∧ DctW H a ep xs ∧ prs xs = ps := by
  cases r with
  | @cell n a hm =>
    obtain ⟨xs, h1, h2, h3, h4, h5, h6⟩ := w.ok m a _ hm h
    exact ⟨a, xs, rfl, hm, ⟨h1, h3, h4, h5, h6⟩, h2⟩
theorem DctW.cl {a : Addr} {ep : Nat} {xs : List (NK × Addr × Int)} {ps : List (NK × Int)} (d : DctW H a ep xs) (e : prs xs = ps) : ClOk c μ H a (.dct ep ps) := ⟨xs, d.at_, e, d.nd, d.len, d.ns, d.key⟩
theorem key_upd {p b : Addr} {o : HO} {k : NK} (h : KeyAt H b k) (hp : ∀ xs, H p ≠ some (.tup xs)) : KeyAt (upd H p o) b k := by
  obtain ⟨t, u, h1, h2, h3⟩ := h
  have ne : ∀ {x ys}, H x = some (.tup ys) → upd H p o x = some (.tup ys) := fun {x ys} e => by
    rw [upd_ne (fun z => hp ys (by rw [← z]; exact e))]
    exact e
  exact ⟨t, u, ne h1, ne h2, ne h3⟩
end
/-- {} -/
def dNewN : FE := fun ρ S Q _ => Q (.cell S.length) (S ++ [.dct 0 []])
/-- {k: v} -/
def dOneN (fk fv : FE) : FE := fun ρ S Q Ed => fk ρ (S ++ [.dct 0 []]) (fun x S1 => fv ρ S1 (fun y S2 => ∃ k n, x = kD k ∧ y = .int n ∧ S2[S.length]? = some (.dct 0 []) ∧ ∀ ep, Q (.cell S.length) (S2.set S.length (.dct ep [(k, n)]))) Ed) Ed
/-- o[k] = n -/
def gSetN (fo fk : FE) : FG := fun d ρ S Q Ed => fo ρ S (fun x S1 => fk ρ S1 (fun y S2 => ∃ m ep ps k n, x = .cell m ∧ S2[m]? = some (.dct ep ps) ∧ y = kD k ∧ d = .int n ∧ ps.length < 16777216 ∧ ∀ ep', Q ρ (S2.set m (.dct ep' (putN ps k n)))) Ed) Ed
/-- o.get(k, n) -/
def dGetN (fo fk fz : FE) : FE := fun ρ S Q Ed => fo ρ S (fun x S1 => ∃ m, x = .cell m ∧ (∃ ep ps, S1[m]? = some (.dct ep ps)) ∧ fk ρ S1 (fun y S2 => fz ρ S2 (fun z S3 => ∃ ep ps k n, S3[m]? = some (.dct ep ps) ∧ y = kD k ∧ z = .int n ∧ Q (.int ((valN ps k).getD n)) S3) Ed) Ed) Ed
/-- for .. in o.items() -/
def dLoopN (g : FG) (fb : FS) (m ep : Nat) (ps0 : List (NK × Int)) : List (NK × Int) → FS
  | [], ρ, S, De, _ => De.nx ρ S
  | (k, n) :: r, ρ, S, De, Ed => g (.tup [kD k, .int n]) ρ S (fun ρ1 S1 => fb ρ1 S1 { nx := fun ρ2 S2 => S2[m]? = some (.dct ep ps0) ∧ dLoopN g fb m ep ps0 r ρ2 S2 De Ed, ct := fun ρ2 S2 => S2[m]? = some (.dct ep ps0) ∧ dLoopN g fb m ep ps0 r ρ2 S2 De Ed, bk := De.nx, rt := De.rt } Ed) Ed
def dForN (fe : FE) (g : FG) (fb : FS) : FS := fun ρ S De Ed => fe ρ S (fun x S1 => ∃ m ep ps, x = .cell m ∧ S1[m]? = some (.dct ep ps) ∧ dLoopN g fb m ep ps ps ρ S1 De Ed) Ed
section
variable {X : Cx} {E : L2.St → XK} {pos : Pos} {kx vx : Expr} {fk fv fo fz : FE}
theorem newN_ok {c : Ct} {μ : Mu} {S : Sto} {H : Hp} (w : Wd c μ S H) {p : Addr} (np : H p = none) (ns : (p == sysModules) = false) :
    Fw μ H ⟨μ.m ++ [p], μ.av⟩ (upd H p (DctO p 0 [])) ∧ Wd c ⟨μ.m ++ [p], μ.av⟩ (S ++ [.dct 0 []]) (upd H p (DctO p 0 [])) ∧ (μ.m ++ [p])[S.length]? = some p := by
  refine ⟨Fw.newC np, w.newC np ((DctW.nil ns upd_same).cl rfl), ?_⟩
  rw [← w.len]
  exact List.getElem?_concat_length ..
theorem d_newN : PEd X E (.Dict [] [] pos) dNewN :=
  PE.imp pe_dnewN fun σ H Q ⟨μ, S, ρ, Qd, Ed, w, en, hf, q, px⟩ p np ns => by
    obtain ⟨f, w', e⟩ := newN_ok w np ns
    exact q _ _ _ _ _ hf f w' (.cell e)
theorem d_oneN (hu : X.A.units + 8 < cLine) (hk : PEd X E kx fk) (hv : PEd X E vx fv) : PEd X E (.Dict [some kx] [vx] pos) (dOneN fk fv) :=
  PE.imp (pe_doneN hu hk hv) fun σ H Q ⟨μ, S, ρ, Qd, Ed, w, en, hf, q, px⟩ p np ns => by
    obtain ⟨f0, w0, e0⟩ := newN_ok w np ns
    refine tR_of w0 (en.fw w f0) hf (px.fw f0) fun x S1 vx H1 μ1 h1 f1 w1 en1 px1 r1 => ?_
    refine tR_of w1 en1 h1 px1 fun y S2 vy H2 μ2 h2 f2 w2 en2 px2 r2 => ?_
    obtain ⟨k, n, rfl, rfl, hS, hq⟩ := h2
    have hm : μ2.m[S.length]? = some p := f2.at (f1.at e0)
    obtain ⟨a, xs, ea, hm', d, ep⟩ := w2.dctN (.cell hm) hS
    cases ea
    have hx : xs = [] := by
      cases xs with
      | nil => rfl
      | cons _ _ => cases ep
    subst hx
    obtain ⟨b, rfl, hb⟩ := rp_key ((r1.fw w1 f2))
    refine ⟨b, k, n, rfl, r2.int_inv, hb, d.at_, fun ep' => ?_⟩
    have fw : Fw μ2 H2 μ2 (upd H2 p (DctO p ep' [(k, b, n)])) := Fw.write (List.mem_of_getElem? hm)
    have hp : ∀ xs, H2 p ≠ some (.tup xs) := fun xs z => by rw [d.at_] at z; cases z
    refine q _ _ _ _ μ2 (hq ep') (f0.trans (f1.trans (f2.trans fw))) (w2.set hm ⟨[(k, b, n)], upd_same, rfl, by simp, by show 1 ≤ sizeLine; decide, d.ns, fun x hx => ?_⟩) (.cell hm)
    rw [List.mem_singleton.mp hx]
    exact key_upd hb hp
theorem d_getN {e f : Expr} {apos cpos : Pos} (hu : X.A.units + 9 < cLine) (ho : PEd X E kx fo) (he : PEd X E e fk) (hf' : PEd X E f fz) (m : M2 X kx "get" apos e f cpos) : PEd X E (.Call (.Attribute kx "get" apos) [e, f] [] cpos) (dGetN fo fk fz) :=
  PE.imp (pe_dgetN hu ho he hf' m) fun σ H Q ⟨μ, S, ρ, Qd, Ed, w, en, hf, q, px⟩ => by
    refine tR_of w en hf px fun x S1 vx H1 μ1 h1 f1 w1 en1 px1 r1 => ?_
    obtain ⟨m, rfl, ⟨ep, ps, hS⟩, h1⟩ := h1
    obtain ⟨a, xs, rfl, hm, d, _⟩ := w1.dctN r1 hS
    refine ⟨a, rfl, ⟨ep, xs, d.at_⟩, ?_⟩
    refine tR_of w1 en1 h1 px1 fun y S2 vy H2 μ2 h2 f2 w2 en2 px2 r2 => ?_
    refine tR_of w2 en2 h2 px2 fun z S3 vz H3 μ3 h3 f3 w3 en3 px3 r3 => ?_
    obtain ⟨ep3, ps3, k, n, hS3, rfl, rfl, hq⟩ := h3
    obtain ⟨a3, xs3, ea, hm3, d3, ep3'⟩ := w3.dctN (.cell (f3.at (f2.at hm))) hS3
    cases ea
    obtain ⟨b, rfl, hb⟩ := rp_key (r2.fw w2 f3)
    refine ⟨ep3, xs3, b, k, n, d3, rfl, hb, r3.int_inv, ?_⟩
    rw [ep3']
    exact q _ S3 _ H3 μ3 hq (f1.trans (f2.trans f3)) w3 (.int _)
end
section
variable {X : Cx} {E : XK} {pos : Pos} {o ie : Expr} {fo fi fe : FE}
theorem d_gsubN (hu : X.A.units + 9 < cLine) (ho : PEd X (cE E) o fo) (hi : PEd X (cE E) ie fi)
    (ha : ∀ v, assign (.Subscript o ie pos) X.env v = (do
      let ov ← holding [v] (eval o X.env)
      let iv ← holding [v, ov] (eval ie X.env)
      standAt pos
      holding [v, ov, iv] (setItem ov iv v)
      release [v, ov, iv] []) := by intro _; rfl) : PGd X E (.Subscript o ie pos) (gSetN fo fi) := by
  refine PG.imp (pg_sub ho hi (set_dctN hu) ha) fun v σ H Q ⟨μ, S, ρ, d, Qd, Ed, w, en, r, hg, q, px⟩ => ?_
  refine tR_of w en hg px fun x S1 vx H1 μ1 h1 f1 w1 en1 px1 r1 => ?_
  refine tR_of w1 en1 h1 px1 fun y S2 vy H2 μ2 h2 f2 w2 en2 px2 r2 => ?_
  obtain ⟨m, ep, ps, k, n, rfl, hS, rfl, rfl, hl, hq⟩ := h2
  obtain ⟨a, xs, rfl, hm, d, ep'⟩ := w2.dctN (r1.fw w1 f2) hS
  obtain ⟨b, rfl, hb⟩ := rp_key r2
  have hlx : xs.length < sizeLine := by
    have : (prs xs).length = xs.length := List.length_map ..
    rw [← this, ep', sizeLine_eq]
    exact hl
  refine ⟨a, ep, xs, b, k, n, rfl, rfl, r.int_inv, d, hb, hlx, fun ep2 => ?_⟩
  have fw : Fw μ2 H2 μ2 (upd H2 a (DctO a ep2 (putA xs k b n))) := Fw.write (List.mem_of_getElem? hm)
  have hp : ∀ ys, H2 a ≠ some (.tup ys) := fun ys z => by rw [d.at_] at z; cases z
  refine q ρ _ σ _ μ2 (hq ep2) (f1.trans (f2.trans fw)) (w2.set hm ⟨putA xs k b n, upd_same, ?_, putA_nodup d.nd, Nat.le_trans (putA_len xs) hlx, d.ns, fun x hx => ?_⟩) (en2.fw w2 fw)
  · rw [← ep']
    exact putA_prs xs
  · rcases putA_mem hx with ⟨e1, e2⟩ | ⟨y, hy, e1, e2⟩
    · rw [e1, e2]
      exact key_upd hb hp
    · rw [← e1, ← e2]
      exact key_upd (d.key y hy) hp
theorem d_forN {e : Expr} {apos cpos tpos : Pos} {elts : List Expr} {kk : Nat} {body : List Stmt} {g : FG} {fb : FS} (hp : PassesOwn (model X.prog X.w) X.A X.env X.xe) (hc : X.calm = true) (he : PEd X (cE E) e fe) (hg : PGd X E (.Tuple elts kk tpos) g) (hb : PBd X E body fb)
    (hbase : attributeBase e "items" X.env (eval e X.env) = eval e X.env := by rfl) (hline : (apos.endLine == cpos.line) = true := by rfl)
    (hs : ∀ x, foldedSetIterable (.Call (.Attribute e "items" apos) [] [] cpos) X.env x = pure x := by intro _; rfl) : PSd X E (.For (.Tuple elts kk tpos) (.Call (.Attribute e "items" apos) [] [] cpos) body [] pos) (dForN fe g fb) := by
  refine PS.imp (ps_for hp hc (pi_itemsN he hbase hline) hg hb hs) fun D σ H ⟨μ, S, ρ, De, Ed, w, en, hf, k, px⟩ => ?_
  refine tR_of w en hf px fun x S1 vx H1 μ1 h1 f1 w1 en1 px1 r1 => ?_
  obtain ⟨m, ep, ps, rfl, hS, h1⟩ := h1
  obtain ⟨a, xs0, rfl, hm, d, ep0⟩ := w1.dctN r1 hS
  have hl0 : xs0.length = ps.length := by rw [← ep0]; exact (List.length_map ..).symm
  refine ⟨a, ep, xs0, rfl, d.at_, d.ns, ?_⟩
  refine ⟨fun i n σ' H' => n = ps.length - i ∧ i ≤ ps.length ∧ ∃ μ' S' ρ', Fw μ1 H1 μ' H' ∧ Wd (ct X) μ' S' H' ∧ EnvR (ct X) μ' H' σ' ρ' ∧ S'[m]? = some (.dct ep ps) ∧ dLoopN g fb m ep ps (ps.drop i) ρ' S' De Ed,
    ⟨_, rfl, Nat.zero_le _, μ1, S1, ρ, Fw.refl, w1, en1, hS, h1⟩, ?_⟩
  rintro i n σ' H' ⟨rfl, hi, μ', S', ρ', f', w', en', hS', h'⟩
  obtain ⟨a', xs, ea, hm', d', epx⟩ := w'.dctN (.cell (f'.at hm)) hS'
  cases ea
  have hl : xs.length = ps.length := by rw [← epx]; exact (List.length_map ..).symm
  by_cases hlt : i < ps.length
  · have hx := List.getElem?_eq_getElem hlt
    rw [drop_cons hx] at h'
    refine .inr ⟨⟨xs, d'.at_, hl.trans hl0.symm, by omega⟩, fun σ2 H2 => i + 1 ≤ ps.length ∧ ∃ μ2 S2 ρ2, Fw μ1 H1 μ2 H2 ∧ Wd (ct X) μ2 S2 H2 ∧ EnvR (ct X) μ2 H2 σ2 ρ2 ∧ S2[m]? = some (.dct ep ps) ∧ dLoopN g fb m ep ps (ps.drop (i + 1)) ρ2 S2 De Ed,
      fun σ2 H2 hN => ⟨_, by omega, rfl, hN.1, hN.2⟩, fun x H2 hy => ?_⟩
    obtain ⟨T, q, v, rfl, hT, rfl, hxs⟩ := hy
    obtain ⟨kk2, hk2⟩ := hxs xs d'.at_
    have hpk : ps[i] = (kk2, v) := by
      have : ps[i]? = some (kk2, v) := by rw [← epx, List.getElem?_map, hk2]; rfl
      rw [hx] at this
      exact Option.some.inj this
    rw [hpk] at h'
    have rk : Rp (ct X) μ' H' (.ref q) (kD kk2) := key_rp (d'.key _ (List.mem_of_getElem? hk2))
    obtain ⟨fy, wy, ry⟩ := w'.pair rk (.int v) hT
    refine ⟨μ', S', ρ', _, _, Ed, wy, en'.fw w' fy, ry, h', fun ρ3 S3 σ3 H3 μ3 h3 f3 w3 en3 => ?_, (px1.fw f').fw fy⟩
    have ff := f1.trans (f'.trans (fy.trans f3))
    have ff1 := f'.trans (fy.trans f3)
    refine ⟨μ3, S3, ρ3, _, Ed, w3, en3, h3, ⟨fun ρ4 S4 σ4 H4 μ4 h4 f4 w4 en4 => ?_, k.rt.fw ff, fun ρ4 S4 σ4 H4 μ4 h4 f4 w4 en4 => k.nx ρ4 S4 σ4 H4 μ4 h4 (ff.trans f4) w4 en4, fun ρ4 S4 σ4 H4 μ4 h4 f4 w4 en4 => ?_⟩, px.fw ff⟩
    · exact ⟨hlt, μ4, S4, ρ4, ff1.trans f4, w4, en4, h4.1, h4.2⟩
    · exact ⟨hlt, μ4, S4, ρ4, ff1.trans f4, w4, en4, h4.1, h4.2⟩
  · have e : i = ps.length := by omega
    subst e
    rw [List.drop_length] at h'
    exact .inl ⟨⟨xs, d'.at_, hl.trans hl0.symm, by omega⟩, k.nx ρ' S' σ' H' μ' h' (f1.trans f') w' en'⟩
end
end Pu
namespace Pu
open PySem PySem.Spec PyProof.Rows L2
theorem un8 {A : Around} (h : A.units + 64 < cLine) : A.units + 8 < cLine := by omega
theorem un9 {A : Around} (h : A.units + 64 < cLine) : A.units + 9 < cLine := by omega
/-! ## a comprehension with two fors -/
def dCompI (st1 : D → Rho → Option Rho) (f : FE) (src1 : Src) : List D → List D → Rho → Sto → (List D → Sto → Prop) → Prop
  | [], acc, _, S, k => k acc S
  | y :: ys, acc, ρ1, S, k => onSome (st1 y ρ1) fun ρ2 => f ρ2 S (fun z S2 => acc.length < 16777216 ∧ srcOk src1 S2 (dCompI st1 f src1 ys (acc ++ [z]) ρ1 S2 k)) noE
def dCompO (st st1 : D → Rho → Option Rho) (fi1 : FI) (f : FE) (src : Src) : List D → List D → Rho → Sto → (List D → Sto → Prop) → Prop
  | [], acc, _, S, k => k acc S
  | x :: xs, acc, ρ, S, k => onSome (st x ρ) fun ρ1 => fi1 ρ1 S (fun is S1 => dCompI st1 f is.2 is.1 acc ρ1 S1 fun acc2 S2 => srcOk src S2 (dCompO st st1 fi1 f src xs acc2 ρ S2 k)) noE
def dLc2 (st st1 : D → Rho → Option Rho) (f : FE) (fi fi1 : FI) : FE := fun ρ S Q Ed => fi ρ S (fun is S1 => dCompO st st1 fi1 f is.2 is.1 [] ρ S1 fun acc S2 => Q (.lst false acc) S2) Ed
/-- the outer target's slot j, the inner one's l -/
def st12 (j l : Nat) : D → Rho → Option Rho := fun x ρ => some ((ρ.set l none).set j (some x))
theorem lct12 {c : Ct} {j l : Nat} (ne : j ≠ l) : LcT c (gName j) (st12 j l) [j, l] := by
  intro μ S H σ ρ ρ1 x d k w en r e h
  cases e
  show k ((((σ.set l none).set j none)).set j (some x)) H
  rw [List.set_set]
  refine h _ ((en.unset (i := l)).set r) ?_
  show ((((σ.set l none).set j (some x)).set l none).set j none) = ((σ.set l none).set j none)
  rw [List.set_comm (some x) none ne, List.set_set, List.set_set]
/-- from one state of a comprehension to a later one -/
theorem lc_all {c : Ct} {μ1 : Mu} {H1 : Hp} {D1 : Addr} {σ : L2.St} {ρ : Rho} {Anc : Mu → Hp → Prop} (ak : ∀ {μ H μ' H'}, Anc μ H → Kp c μ H μ' H' → Anc μ' H') {m' t : List Addr} {S' S4 : Sto} {H H4 : Hp} {acc : List D} {vs : List V} {μ4 : Mu}
    (w : Wd c ⟨m', D1 :: μ1.av⟩ S' H) (em : m' = μ1.m ++ t) (keep : ∀ a o, H1 a = some o → a ∉ μ1.m → (∀ ps, o ≠ .tbl ps) → H a = some o ∧ a ∉ m') (hD : H D1 = some (.lst vs)) (ra : RpAll c ⟨m', D1 :: μ1.av⟩ H vs acc) (en : EnvR c ⟨m', D1 :: μ1.av⟩ H σ ρ) (anc : Anc ⟨m', D1 :: μ1.av⟩ H)
    (w4 : Wd c μ4 S4 H4) (ff : Fw ⟨m', D1 :: μ1.av⟩ H μ4 H4) :
    ∃ m4, μ4 = ⟨m4, D1 :: μ1.av⟩ ∧ (∃ t, m4 = μ1.m ++ t) ∧ (∀ a o, H1 a = some o → a ∉ μ1.m → (∀ ps, o ≠ .tbl ps) → H4 a = some o ∧ a ∉ m4) ∧ H4 D1 = some (.lst vs) ∧ RpAll c μ4 H4 vs acc ∧ EnvR c μ4 H4 σ ρ ∧ Anc μ4 H4 := by
  have eav : μ4.av = D1 :: μ1.av := ff.av
  have nDm : D1 ∉ m' := fun z => w.ap D1 z List.mem_cons_self
  refine ⟨μ4.m, by rw [← eav], ?_, fun a o e n nt => ?_, (ff.keep D1 _ hD nDm (fun _ z => nomatch z)).1, ra.fw w ff, en.fw w ff, ak anc (w.kp ff)⟩
  · obtain ⟨t2, e2⟩ := ff.pre
    exact ⟨t ++ t2, by rw [e2]; show m' ++ t2 = _; rw [em, List.append_assoc]⟩
  · obtain ⟨q1, q2⟩ := keep a o e n nt
    exact ff.keep a o q1 q2 nt
theorem lc2_W {c : Ct} {g g1 : TG} {st st1 : D → Rho → Option Rho} {f : FE} {fi1 : FI} {vs vs1 : List Nat} {μ1 : Mu} {S1 : Sto} {H1 : Hp} {σ : L2.St} {ρ : Rho} {J : It} {items : List D} {src : Src} {Anc : Mu → Hp → Prop} {k : List D → Sto → Prop} {D1 : Addr} {Qd : Hp → Prop} {E E1 E2 : L2.St → XK}
    (hT : LcT c g st vs) (hT1 : LcT c g1 st1 vs1) (w1 : Wd c μ1 S1 H1) (en1 : EnvR c μ1 H1 σ ρ) (ok : ItOk c J items src Anc) (anc : Anc μ1 H1) (hsrc : ∀ p ∈ src, S1[p.1]? = some (.lst p.2))
    (h : dCompO st st1 fi1 f src items [] ρ S1 k) (nD : H1 D1 = none) (fin : ∀ H, LcI c μ1 H1 D1 σ ρ Anc src 16777216 k H → Qd H) :
    ∃ W : Nat → Nat → Hp → Prop, (∃ m, W 0 m (upd H1 D1 (.lst []))) ∧ ∀ i m H, W i m H →
      (J.stop i H ∧ Qd H) ∨ (J.go i H ∧ ∃ Nx : Hp → Prop, (∀ H', Nx H' → ∃ m', m' < m ∧ W (i + 1) m' H') ∧ ∀ x H', J.yld i H x H' → g x (wipe σ vs) H' fun σ2 H2 => wipe σ2 vs = wipe σ vs ∧ tT c E dYes σ2 H2 fun b H3 =>
        if b = true then tI c E1 fi1 σ2 H3 fun J1 H4 => ∃ W1 : Nat → Nat → Hp → Prop, (∃ m, W1 0 m H4) ∧ ∀ j k H, W1 j k H →
          (J1.stop j H ∧ Nx H) ∨ (J1.go j H ∧ ∃ Nx1 : Hp → Prop, (∀ H', Nx1 H' → ∃ k', k' < k ∧ W1 (j + 1) k' H') ∧ ∀ x H', J1.yld j H x H' → g1 x (wipe σ2 vs1) H' fun σ3 H5 => wipe σ3 vs1 = wipe σ2 vs1 ∧ tT c E dYes σ3 H5 fun b H6 =>
            if b = true then tD c E2 f σ3 H6 fun y H7 => ∃ acc, H7 D1 = some (.lst acc) ∧ acc.length < sizeLine ∧ Nx1 (upd H7 D1 (.lst (acc ++ [y]))) else Nx1 H6)
        else Nx H3) := by
  refine ⟨fun i m H => m = items.length - i ∧ i ≤ items.length ∧ LcI c μ1 H1 D1 σ ρ Anc src 16777216 (fun acc S => dCompO st st1 fi1 f src (items.drop i) acc ρ S k) H, ⟨_, rfl, Nat.zero_le _, ?_⟩, ?_⟩
  · refine ⟨μ1.m, S1, [], [], Nat.zero_le _, wdStart w1 nD, ⟨[], by simp⟩, fun a o e n _ => ⟨?_, n⟩, upd_same, .nil, en1.kp (kpStart nD), ok.keep anc (kpStart nD), hsrc, h⟩
    rw [upd_ne (ne_of_none e nD)]
    exact e
  · rintro i m H ⟨rfl, hi, m', S', acc, ws, hl, w, ⟨tt, em⟩, keep, hD, ra, en, anc', hs', h'⟩
    by_cases hlt : i < items.length
    · have hx := List.getElem?_eq_getElem hlt
      obtain ⟨go, yl⟩ := ok.go anc' w hs' i _ hx
      rw [drop_cons hx] at h'
      refine .inr ⟨go, fun H' => i + 1 ≤ items.length ∧ LcI c μ1 H1 D1 σ ρ Anc src 16777216 (fun acc S => dCompO st st1 fi1 f src (items.drop (i + 1)) acc ρ S k) H', fun H' hN => ⟨_, by omega, rfl, hN.1, hN.2⟩, fun x H2 hy => ?_⟩
      obtain ⟨fy, wy, ry⟩ := yl x H2 hy
      obtain ⟨ρ1, e1, h1⟩ := onSome_of h'
      refine hT wy (en.fw w fy) ry e1 fun σ2 en2 hw => ⟨hw, ?_⟩
      refine tR_of wy en2 (show dYes ρ1 S' (fun b S3 => b = true ∧ S3 = S') noE from ⟨rfl, rfl⟩) pxNo fun b S3 b' H3 μ3 h3 f3 w3 en3 px3 r3 => ?_
      obtain ⟨rfl, rfl⟩ := h3
      cases (r3 : b' = true)
      rw [if_pos rfl]
      refine ⟨μ3, S3, ρ1, _, noE, w3, en3, h1, fun is S4 H4 μ4 J1 Anc1 h4 f4 w4 ok1 anc1 hsrc1 => ?_, pxNo⟩
      obtain ⟨items1, src1⟩ := is
      obtain ⟨m4, rfl, t4, k4, D4, ra4, en4, anc4⟩ := lc_all ok.keep w em keep hD ra en anc' w4 (fy.trans (f3.trans f4))
      refine ⟨fun j n H => n = items1.length - j ∧ j ≤ items1.length ∧ LcI c μ1 H1 D1 σ2 ρ1 (fun μ H => (Anc μ H ∧ Anc1 μ H) ∧ EnvR c μ H σ ρ) src1 16777216 (fun acc S => dCompI st1 f src1 (items1.drop j) acc ρ1 S fun acc2 S2 => srcOk src S2 (dCompO st st1 fi1 f src (items.drop (i + 1)) acc2 ρ S2 k)) H,
        ⟨_, rfl, Nat.zero_le _, m4, S4, acc, ws, hl, w4, t4, k4, D4, ra4, en3.fw w3 f4, ⟨⟨anc4, anc1⟩, en4⟩, hsrc1, h4⟩, ?_⟩
      rintro j n H5 ⟨rfl, hj, m5, S5, acc5, ws5, hl5, w5, ⟨t5, em5⟩, k5, D5, ra5, en5, ⟨⟨anc5, anc15⟩, enO5⟩, hs5, h5⟩
      by_cases hjt : j < items1.length
      · have hx5 := List.getElem?_eq_getElem hjt
        obtain ⟨go5, yl5⟩ := ok1.go anc15 w5 hs5 j _ hx5
        rw [drop_cons hx5] at h5
        refine .inr ⟨go5, fun H' => j + 1 ≤ items1.length ∧ LcI c μ1 H1 D1 σ2 ρ1 (fun μ H => (Anc μ H ∧ Anc1 μ H) ∧ EnvR c μ H σ ρ) src1 16777216 (fun acc S => dCompI st1 f src1 (items1.drop (j + 1)) acc ρ1 S fun acc2 S2 => srcOk src S2 (dCompO st st1 fi1 f src (items.drop (i + 1)) acc2 ρ S2 k)) H', fun H' hN => ⟨_, by omega, rfl, hN.1, hN.2⟩, fun x6 H6 hy6 => ?_⟩
        obtain ⟨fy6, wy6, ry6⟩ := yl5 x6 H6 hy6
        obtain ⟨ρ2, e2, h2⟩ := onSome_of h5
        refine hT1 wy6 (en5.fw w5 fy6) ry6 e2 fun σ3 en6 hw6 => ⟨hw6, ?_⟩
        refine tR_of wy6 en6 (show dYes ρ2 S5 (fun b S3 => b = true ∧ S3 = S5) noE from ⟨rfl, rfl⟩) pxNo fun b7 S7 b7' H7 μ7 h7 f7 w7 en7 px7 r7 => ?_
        obtain ⟨rfl, rfl⟩ := h7
        cases (r7 : b7' = true)
        rw [if_pos rfl]
        refine tR_of w7 en7 h2 pxNo fun y S8 vy H8 μ8 h8 f8 w8 en8 px8 r8 => ?_
        obtain ⟨m8, rfl, t8, k8, D8, ra8, en8', anc8⟩ := lc_all (Anc := fun μ H => (Anc μ H ∧ Anc1 μ H) ∧ EnvR c μ H σ ρ) (fun z kp => ⟨⟨ok.keep z.1.1 kp, ok1.keep z.1.2 kp⟩, z.2.kp kp⟩) w5 em5 k5 D5 ra5 en5 ⟨⟨anc5, anc15⟩, enO5⟩ w8 (fy6.trans (f7.trans f8))
        obtain ⟨hlt8, h8⟩ := h8
        obtain ⟨q1, q2⟩ := srcOk_iff.mp h8
        refine ⟨ws5, D8, by rw [ra8.length, sizeLine_eq]; exact hlt8, hjt, ?_⟩
        refine ⟨m8, S8, acc5 ++ [y], ws5 ++ [vy], by rw [List.length_append]; show acc5.length + 1 ≤ 16777216; omega, wdD w8 D8, t8, fun a o e n nt => ?_, upd_same, (ra8.append (.cons r8 .nil)).kp (kpD D8), en8'.kp (kpD D8), ⟨⟨ok.keep anc8.1.1 (kpD D8), ok1.keep anc8.1.2 (kpD D8)⟩, anc8.2.kp (kpD D8)⟩, q1, q2⟩
        obtain ⟨z1, z2⟩ := k8 a o e n nt
        refine ⟨?_, z2⟩
        rw [upd_ne (ne_of_none e nD)]
        exact z1
      · have e5 : j = items1.length := by omega
        subst e5
        rw [List.drop_length] at h5
        obtain ⟨q1, q2⟩ := srcOk_iff.mp h5
        exact .inl ⟨ok1.stop anc15 w5 hs5, hlt, m5, S5, acc5, ws5, hl5, w5, ⟨t5, em5⟩, k5, D5, ra5, enO5, anc5, q1, q2⟩
    · have e : i = items.length := by omega
      subst e
      rw [List.drop_length] at h'
      exact .inl ⟨ok.stop anc' w hs', fin H ⟨m', S', acc, ws, hl, w, ⟨tt, em⟩, keep, hD, ra, en, anc', hs', h'⟩⟩
section
variable {X : Cx} {elt tg iter tg1 iter1 : Expr} {scope : Scope} {own : List (Str × Nat)} {vs1 : List Nat} {pos : Pos} {fi fi1 : FI} {g g1 : TG} {st st1 : D → Rho → Option Rho} {f : FE}
theorem d_setLc2 {E2 : XK} {i : Nat} {y : Str} {py spos : Pos} (hT : LcT (ct X) g st (own.map (·.2))) (hT1 : LcT (ct X) g1 st1 vs1) (hc : X.calm = true) (hN : X.N.Nodup) (hy : X.N[i]? = some y) (hyl : X.env.scope.names.lookup y = some .local)
    (hsw : swapsWith (.ListComp elt [⟨tg, iter, [], 0⟩, ⟨tg1, iter1, [], 0⟩] scope pos) (some (.Name y py)) spos.line X.env = pure true) (hi : PId X (cE E2) tg iter fi) (ok : BlkOk X.N X.env.scope scope own) (hv : ∀ i ∈ vs1, i ∈ own.map (·.2))
    (hg : ∀ (s : Shared) (H : Hp) (C : Addr) (cl : List (Str × Addr)) (fp : List Addr), PG (X.blk s H scope (compEnvC scope cl C X.env) fp) tg g)
    (hi1 : ∀ (s : Shared) (H : Hp) (C : Addr) (cl : List (Str × Addr)) (fp : List Addr), PI (X.blk s H scope (compEnvC scope cl C X.env) fp) tg1 iter1 (tI (ct X) (cE E0) fi1))
    (hg1 : ∀ (s : Shared) (H : Hp) (C : Addr) (cl : List (Str × Addr)) (fp : List Addr), PG (X.blk s H scope (compEnvC scope cl C X.env) fp) tg1 g1)
    (ht : ∀ (s : Shared) (H : Hp) (C : Addr) (cl : List (Str × Addr)) (fp : List Addr), PTs (X.blk s H scope (compEnvC scope cl C X.env) fp) [] (tT (ct X) (cE E0) dYes))
    (he : ∀ (s : Shared) (H : Hp) (C : Addr) (cl : List (Str × Addr)) (fp : List Addr), PE (X.blk s H scope (compEnvC scope cl C X.env) fp) elt (tD (ct X) (cE E0) f)) (hs : ∀ x, foldedSetIterable iter X.env x = pure x := by intro _; rfl) (hs1 : ∀ env x, foldedSetIterable iter1 env x = pure x := by intro _ _; rfl) :
    PSd X E2 (.Assign [.Name y py] (.ListComp elt [⟨tg, iter, [], 0⟩, ⟨tg1, iter1, [], 0⟩] scope pos) spos) (dAsg (dLc2 st st1 f fi fi1) (gN i)) := by
  refine PS.imp (ps_setLc2 hc hN hy hyl hsw hi ok hv hg ht hi1 hg1 ht he hs hs1) fun D σ H ⟨μ, S, ρ, De, Ed, w, en, hf, k, px⟩ => ?_
  refine ⟨μ, S, ρ, _, Ed, w, en, hf, fun is S1 H1 μ1 J Anc h1 f1 w1 ok' anc hsrc D1 nD => ?_, px⟩
  refine lc2_W (Qd := fun H' => D.nx (σ.set i (some (.ref D1))) H') hT hT1 w1 (en.fw w f1) ok' anc hsrc h1 nD fun H' h => ?_
  exact lc_end (S := S) (Q := fun v H' => D.nx (σ.set i (some v)) H') (fun d S' v H' μ' hq ff w' r => k.nx _ S' _ H' μ' (setK_eq (k := fun ρ' => De.nx ρ' S') hq) ff w' ((en.fw w ff).set r)) f1 w1 nD h
end
end Pu
namespace Pu
open PySem PySem.Spec PyProof.Rows L2
/-! ## name += number -/
def dAugI (i : Nat) (fe : FE) : FS := fun ρ S De Ed => onSome (getV ρ i) fun x => fe ρ S (fun y S1 => ∃ a b, x = .int a ∧ y = .int b ∧ setK ρ i (.int (a + b)) fun ρ' => De.nx ρ' S1) Ed
theorem d_augI {X : Cx} {E : XK} {pos : Pos} {i : Nat} {x : Str} {e : Expr} {fe : FE} {pos' : Pos} (hN : X.N.Nodup) (hi : X.N[i]? = some x) (hx : Loc X.env.scope x) (he : PEd X (cE E) e fe)
    (hf : X.fn x = true ∨ X.env.scope.names.lookup x = some .local := by first | exact .inl rfl | exact .inr rfl | assumption) : PSd X E (.AugAssign (.Name x pos') .Add e pos) (dAugI i fe) := by
  refine PS.imp (ps_aug hN hi hx he ip_add hf) fun D σ H ⟨μ, S, ρ, De, Ed, w, en, hf, k, px⟩ => ?_
  obtain ⟨d, e1, hq⟩ := onSome_of hf
  obtain ⟨v, ev, rv⟩ := en.ok i d (getV_some e1)
  refine ⟨v, ev, ?_⟩
  refine tR_of w en hq px fun y S1 vy H1 μ1 h1 f1 w1 en1 px1 r1 => ?_
  obtain ⟨a, b, rfl, rfl, h1⟩ := h1
  refine ⟨a, b, rv.int_inv, r1.int_inv, ?_⟩
  exact k.nx _ S1 _ H1 μ1 (setK_eq (k := fun ρ' => De.nx ρ' S1) h1) f1 w1 (en1.set (.int _))
end Pu
namespace Pu
open PySem PySem.Spec PyProof.Rows L2
/-! ## xs[::k] -/
def tStep (K : PySem.W.Frag) (te tk : TE) : TE := fun σ H Q => te σ H fun x H1 => tk σ H1 fun y H2 => ∃ a xs i, x = .ref a ∧ SqL K H2 a xs ∧ y = .int i ∧ i ≠ 0 ∧ ∀ p (js : List Nat), H2 p = none → (js.filterMap (xs[·]?)).length ≤ xs.length → Q (.ref p) (upd H2 p (.lst (js.filterMap (xs[·]?))))
theorem vals_pick {xs : List V} {us : List Value} (r : Vals xs us) : ∀ js : List Nat, Vals (js.filterMap (xs[·]?)) (js.filterMap (us[·]?))
  | [] => .nil
  | j :: js => by
    cases h : xs[j]? with
    | none =>
      rw [List.filterMap_cons_none h, List.filterMap_cons_none (r.none_of h)]
      exact vals_pick r js
    | some x =>
      obtain ⟨u, hu, ru⟩ := r.get h
      rw [List.filterMap_cons_some h, List.filterMap_cons_some hu]
      exact .cons ru (vals_pick r js)
theorem all_pick {c : Ct} {μ : Mu} {H : Hp} {vs : List V} {ds : List D} (r : RpAll c μ H vs ds) : ∀ js : List Nat, RpAll c μ H (js.filterMap (vs[·]?)) (js.filterMap (ds[·]?))
  | [] => .nil
  | j :: js => by
    cases h : ds[j]? with
    | none =>
      have hv : vs[j]? = none := by
        rw [List.getElem?_eq_none_iff, r.length]
        exact List.getElem?_eq_none_iff.mp h
      rw [List.filterMap_cons_none h, List.filterMap_cons_none hv]
      exact all_pick r js
    | some d =>
      obtain ⟨v, hv, rv⟩ := r.at h
      rw [List.filterMap_cons_some h, List.filterMap_cons_some hv]
      exact .cons rv (all_pick r js)
theorem pe_step {X : Cx} {e st : Expr} {te tk : TE} {p3 pos : Pos} (he : PE X e te) (hk : PE X st tk) : PE X (.Subscript e (.Slice none none (some st) p3) pos) (tStep X.K te tk) := by
  refine ⟨fun pins s σ H Q I h => ?_⟩
  refine Subscript_ (thn (he.run pins s σ H _ I h) fun v s1 ⟨x, H1, I1, r1, q1⟩ => ?_)
  refine wpAny_Slice (thn (po_none.run pins s1 σ H1 (fun o H2 => o = none ∧ H2 = H1) I1 ⟨rfl, rfl⟩) fun vl s2 ⟨l, H2, I2, pl, el, e2⟩ => ?_)
  subst el e2
  refine thn (po_none.run pins s2 σ H2 (fun o H3 => o = none ∧ H3 = H2) I2 ⟨rfl, rfl⟩) fun vu s3 ⟨u, H3, I3, pu, eu, e3⟩ => ?_
  subst eu e3
  rw [evalPart_some]
  refine thn (hk.run pins s3 σ H3 _ I3 q1) fun vs s4 ⟨y, H4, I4, r4, a, xs, i, ex, hx, ey, hi, q⟩ => ?_
  subst ex ey
  cases r1
  obtain ⟨tt, rfl⟩ := r4
  have I5 : Inv X pins σ H4 { s4 with heap := s4.heap.push { cls := .type "slice", data := .fields #[vl, vu, .int i tt] } } := I4.kept (t' := s4.toks) fun b ob q => Heap.get?_push_of_some _ q
  obtain ⟨its, r, ht, hz⟩ := I5.list hx
  have hlen := r.length
  show wpAny (model X.prog X.w) X.A (subscriptTail e (.Slice none none (some st) p3) (.ref a) (.ref s4.heap.objs.size)) (EP X pins σ Q) X.xe { s4 with heap := s4.heap.push { cls := .type "slice", data := .fields #[vl, vu, .int i tt] } }
  refine tail_any (ops := [.ref a, .ref s4.heap.objs.size]) ht.isList.typeIs (PySem.slot_list_getitem.lookup) ?_ rfl
  refine wpAny_getItem_list_slice (st := some i) ht.isList (Heap.IsSliceOf.new _ vl vu _) pl pu (.int i tt) (fun z => hi (Option.some.inj z)) ?_ (by rw [List.size_toArray]; omega)
  have hsz := slicePick_size_le its.toArray none none (some i)
  unfold slicePick at hsz ⊢
  generalize sliceRange (sliceBounds none none (some i) its.toArray.size).1 (sliceBounds none none (some i) its.toArray.size).2.1 (sliceBounds none none (some i) its.toArray.size).2.2 = js at hsz ⊢
  have ef : js.filterMap (its.toArray[·]?) = js.filterMap (its[·]?) := by
    congr 1
    funext j
    exact List.getElem?_toArray ..
  rw [ef] at hsz ⊢
  rw [List.size_toArray, List.size_toArray] at hsz
  have rp := vals_pick r js
  have hl2 : (js.filterMap (xs[·]?)).length ≤ xs.length := by rw [rp.length, hlen]; exact hsz
  refine ⟨.ref _, _, I5.laid (t' := s4.toks) (o := .lst (js.filterMap (xs[·]?))) (fun b ob q => Heap.get?_push_of_some _ q) (Nat.le_refl _) ?_, rfl, q _ js (I5.hok.fresh (Nat.le_refl _)) hl2⟩
  exact ⟨Nat.le_trans hl2 hz, _, 0, rp, Heap.get?_push_size _ rfl⟩
/-- what comes out is some of what is in it -/
def dStep (fe fk : FE) : FE := fun ρ S Q Ed => fe ρ S (fun d S1 => fk ρ S1 (fun k S2 => onSome (lstOf S2 d) fun xs => ∃ i, k = .int i ∧ i ≠ 0 ∧ ∀ ys, ys.length ≤ xs.length → (∀ y ∈ ys, y ∈ xs) → Q (.lst false ys) S2) Ed) Ed
theorem d_step {X : Cx} {E : L2.St → XK} {e st : Expr} {fe fk : FE} {p3 pos : Pos} (he : PEd X E e fe) (hk : PEd X E st fk) : PEd X E (.Subscript e (.Slice none none (some st) p3) pos) (dStep fe fk) := by
  refine PE.imp (pe_step he hk) fun σ H Q ⟨μ, S, ρ, Qd, Ed, w, en, hf, q, px⟩ => ?_
  refine tR_of w en hf px fun x S1 v H1 μ1 h1 f1 w1 en1 px1 r1 => ?_
  refine tR_of w1 en1 h1 px1 fun y S2 vy H2 μ2 h2 f2 w2 en2 px2 r2 => ?_
  obtain ⟨xs, e1, i, rfl, hi, hq⟩ := onSome_of h2
  obtain ⟨a, ws, rfl, ha, rs⟩ := (r1.fw w1 f2).lstT w2 e1
  refine ⟨a, ws, i, rfl, SqL.of ha, r2.int_inv, hi, fun p js hp hl => ?_⟩
  have ra := all_pick rs js
  refine PostV.lst (fun d S' v H' μ' h f w' r => q d S' v H' μ' h (f1.trans (f2.trans f)) w' r) w2 ra (hq _ ?_ fun z hz => ?_) hp
  · rw [← ra.length, ← rs.length]
    exact hl
  · obtain ⟨j, _, hj⟩ := List.mem_filterMap.mp hz
    exact List.mem_of_getElem? hj
end Pu
namespace Pu
open PySem L2
def den_law_draws : FS := (dSeq (dAsg (dBin gAdd (dLc (st1 2) dYes (dB gAbs (dCons (dVar 2) dNil)) (dItS (dSl (dVar 0) dNoP (dPart (dC (.int 63)))))) (dBin gMul (dLst (dCons (dC (.int 0)) dNil)) (dB gToInt (dCons (dBin iEq (dB gLen (dCons (dVar 0) dNil)) (dC (.int 0))) dNil)))) (gN 1))
 (dRet (dLstC (dCons (dVar 1) (dCons (dC (.int 0)) (dCons (dLcC (st1 2) dYes (dBin gMul (dVar 2) (dB gToInt (dCons (dBin gGe (dVar 2) (dBin gPow (dC (.int 10)) (dC (.int 18)))) dNil))) (dItS (dVar 1))) dNil))))))
@[irreducible] def F_law_draws : FF := dDef 1 3 den_law_draws
def den_law_next : FS := (dSeq (dAsg (dVar 0) (gUn 3 (gsCons (gN 2) (gsCons (gN 3) (gsCons (gN 4) gsNil)))))
 (dSeq (dAsg (dBin gMod (dVar 3) (dB gLen (dCons (dVar 2) dNil))) (gN 5))
 (dSeq (dAsg (dBin gAdd (dVar 3) (dC (.int 1))) (gSetI (dVar 0) (dC (.int 1))))
 (dSeq (dIfS (dTest (dBin gGt (dBin gIx (dVar 4) (dVar 5)) (dC (.int 0))))
 (dSeq (dAsg (dBin gMod (dBin gIx (dVar 4) (dVar 5)) (dVar 1)) (gN 6))
 (dSeq (dAsg (dBin gFdiv (dBin gIx (dVar 4) (dVar 5)) (dVar 1)) (gSetI (dVar 4) (dVar 5)))
 (dRet (dVar 6))))
 dSkip)
 (dSeq (dAsg (dBin gMod (dBin gPow (dBin gAdd (dBin gAdd (dBin gMod (dBin gIx (dVar 2) (dVar 5)) (dC (.int 2147483629))) (dBin gMul (dC (.int 40037)) (dVar 3))) (dC (.int 9203))) (dC (.int 3))) (dC (.int 2147483587))) (gN 7))
 (dSeq (dAsg (dBin gMod (dBin gPow (dBin gAdd (dBin gAdd (dVar 7) (dBin gMul (dBin gMul (dC (.int 5039)) (dVar 3)) (dVar 3))) (dC (.int 43))) (dC (.int 3))) (dC (.int 2147483563))) (gN 7))
 (dRet (dBin gMod (dBin gFdiv (dBin gMod (dBin gMul (dVar 7) (dC (.int 65537))) (dC (.int 2305843009213693951))) (dC (.int 8))) (dVar 1)))))))))
@[irreducible] def F_law_next : FF := dDef 2 8 den_law_next
def den_law_road_3 : FS := (dSeq (dAsg (dBin gAdd (dC (.int 1)) (dCallW F_law_next (dCons (dVar 0) (dCons (dBin gIx (dLst (dCons (dC (.int 4)) (dCons (dC (.int 30)) (dCons (dC (.int 999)) dNil)))) (dCallW F_law_next (dCons (dVar 0) (dCons (dC (.int 3)) dNil)))) dNil)))) (gN 3))
 (dSeq (dPar 4 5 (dCons (dBin gAdd (dBin gAdd (dVar 3) (dC (.int 1))) (dCallW F_law_next (dCons (dVar 0) (dCons (dB gMinL (dCons (dBin gSub (dC (.int 1000)) (dVar 3)) (dCons (dBin gIx (dLst (dCons (dC (.int 3)) (dCons (dC (.int 30)) (dCons (dC (.int 999)) dNil)))) (dCallW F_law_next (dCons (dVar 0) (dCons (dC (.int 3)) dNil)))) dNil))) dNil)))) (dCons (dTup dNil) dNil)))
 (dSeq (dFor (dRng1 (dCons (dBin gAdd (dC (.int 1)) (dCallW F_law_next (dCons (dVar 0) (dCons (dVar 1) dNil)))) dNil)) (gN 6)
 (dAsg (dBin gAdd (dVar 5) (dTup (dCons (dBin gIx (dLst (dCons (dCallW F_law_next (dCons (dVar 0) (dCons (dBin gAdd (dVar 2) (dC (.int 1))) dNil))) (dCons (dC (.int 0)) (dCons (dC (.int 0)) (dCons (dC (.int 1)) dNil))))) (dCallW F_law_next (dCons (dVar 0) (dCons (dC (.int 4)) dNil)))) dNil))) (gN 5)))
 (dRet (dTup (dCons (dVar 4) (dCons (dVar 3) (dCons (dVar 5) dNil))))))))
@[irreducible] def F_law_road_3 : FF := dDef 3 7 den_law_road_3
end Pu
namespace Pu
open PySem L2
def den_subset_counts : FS := (dSeq (dAsg (dLstC (dCons (dC (.int 1)) dNil)) (gN 1))
 (dSeq (dFor (dRng1 (dCons (dVar 0) dNil)) (gN 2)
 (dDrop (dML gAppend (dVar 1) (dCons (dBin gFdiv (dBin gMul (dBin gIx (dVar 1) (dUn gNeg (dC (.int 1)))) (dBin gSub (dVar 0) (dVar 2))) (dBin gAdd (dVar 2) (dC (.int 1)))) dNil))))
 (dRet (dVar 1))))
@[irreducible] def F_subset_counts : FF := dDefC 1 3 den_subset_counts
def den_law_groups : FS := (dSeq (dAsg (dLst (dCons (dTup dNil) dNil)) (gN 2))
 (dSeq (dFor (dRng1 (dCons (dVar 0) dNil)) (gN 3)
 (dAsg (dBin gAdd (dVar 2) (dLc (st1 4) (dTest (dBin gLt (dB gLen (dCons (dVar 4) dNil)) (dVar 1))) (dBin gAdd (dVar 4) (dTup (dCons (dVar 3) dNil))) (dItS (dVar 2)))) (gN 2)))
 (dRet (dB gSortT (dCons (dVar 2) dNil)))))
@[irreducible] def F_law_groups : FF := dDef 2 5 den_law_groups
def den_ways_on : FS := (dSeq (dAsg (dCall 0 F_subset_counts (dCons (dVar 1) dNil)) (gN 2))
 (dSeq (dAsg (dLstC (dCons (dBin gMul (dLst (dCons (dC (.int 1)) dNil)) (dBin gAdd (dVar 1) (dC (.int 1)))) dNil)) (gN 3))
 (dSeq (dFor (dItS (dUn gRevT (dBin gIx (dVar 0) (dC (.int 2))))) (gN 4)
 (dSeq (dAsg (dLc (st1 6) dYes (dBin gMul (dBin gIx (dVar 2) (dVar 6)) (dBin gIx (dBin gIx (dVar 3) (dUn gNeg (dC (.int 1)))) (dVar 6))) (dRng1 (dCons (dBin gAdd (dVar 1) (dC (.int 1))) dNil))) (gN 5))
 (dDrop (dML gAppend (dVar 3) (dCons (dLc (st1 7) dYes (dB gSum (dCons (dSl (dVar 5) dNoP (dPart (dBin gAdd (dBin gAdd (dVar 7) (dVar 4)) (dC (.int 1))))) dNil)) (dRng1 (dCons (dBin gAdd (dVar 1) (dC (.int 1))) dNil))) dNil)))))
 (dRet (dUn gRevL (dVar 3))))))
@[irreducible] def F_ways_on : FF := dDefC 2 8 den_ways_on
def den_law_plans : FS := (dSeq (dAsg (dLst (dCons (dTup dNil) dNil)) (gN 2))
 (dSeq (dFor (dItS (dBin gIx (dVar 0) (dC (.int 2)))) (gN 3)
 (dSeq (dAsg (dLstC dNil) (gN 4))
 (dSeq (dFor (dItS (dVar 2)) (gN 5)
 (dSeq (dAsg (dIf (dTest (dBin iNe (dVar 5) (dTup dNil))) (dB gLen (dCons (dBin gIx (dVar 5) (dUn gNeg (dC (.int 1)))) dNil)) (dC (.int 0))) (gN 6))
 (dDrop (dML gExtend (dVar 4) (dCons (dLc (st1 7) dYes (dBin gAdd (dVar 5) (dTup (dCons (dVar 7) dNil))) (dItS (dCallW F_law_groups (dCons (dVar 1) (dCons (dBin gAdd (dVar 6) (dVar 3)) dNil))))) dNil)))))
 (dAsg (dVar 4) (gN 2)))))
 (dRet (dVar 2))))
@[irreducible] def F_law_plans : FF := dDefC 2 8 den_law_plans
def den_law_bound : FS := (dSeq (dAsg (dTup (dCons (dC (.int 1)) (dCons (dC (.int 0)) dNil))) (gTp 2 (gsCons (gN 2) (gsCons (gN 3) gsNil))))
 (dSeq (dFor (dItS (dBin gIx (dVar 0) (dC (.int 2)))) (gN 4)
 (dSeq (dAsg (dB gMinL (dCons (dVar 1) (dCons (dBin gAdd (dVar 3) (dVar 4)) dNil))) (gN 3))
 (dAsg (dBin gMul (dVar 2) (dB gLen (dCons (dCallW F_law_groups (dCons (dVar 1) (dCons (dVar 3) dNil))) dNil))) (gN 2))))
 (dRet (dVar 2))))
@[irreducible] def F_law_bound : FF := dDef 2 5 den_law_bound
def den_count_plans : FS := (dRet (dBin gIx (dBin gIx (dCall 0 F_ways_on (dCons (dVar 0) (dCons (dVar 1) dNil))) (dC (.int 0))) (dC (.int 0))))
@[irreducible] def F_count_plans : FF := dDef 2 2 den_count_plans
def den_law_small : FS := (dSeq (dPar 2 3 (dCons (dCallW F_law_road_3 (dCons (dVar 0) (dCons (dC (.int 5)) (dCons (dC (.int 2)) dNil)))) (dCons (dBin gAdd (dC (.int 1)) (dCallW F_law_next (dCons (dVar 0) (dCons (dC (.int 4)) dNil)))) dNil)))
 (dSeq (dWhile (dTest (dBin gGt (dCallW F_law_bound (dCons (dVar 2) (dCons (dVar 3) dNil))) (dVar 1)))
 (dAsg (dTup (dCons (dBin gIx (dVar 2) (dC (.int 0))) (dCons (dBin gIx (dVar 2) (dC (.int 1))) (dCons (dSl (dBin gIx (dVar 2) (dC (.int 2))) dNoP (dPart (dUn gNeg (dC (.int 1))))) dNil)))) (gN 2)))
 (dRet (dLst (dCons (dVar 2) (dCons (dVar 3) dNil))))))
@[irreducible] def F_law_small : FF := dDef 2 4 den_law_small
end Pu
namespace Pu
open PySem L2
def den_groups_up_to : FS := (dSeq (dAsg (dLst (dCons (dTup dNil) dNil)) (gN 2))
 (dSeq (dAsg (dLstC (dCons (dVar 2) dNil)) (gN 3))
 (dSeq (dFor (dRng1 (dCons (dVar 1) dNil)) (gN 4)
 (dSeq (dAsg (dLc2 (st12 5 6) (st1 6) (dBin gAdd (dVar 5) (dTup (dCons (dVar 6) dNil))) (dItS (dVar 2)) (dRng2 (dCons (dIf (dTestU (dVar 5)) (dBin gAdd (dBin gIx (dVar 5) (dUn gNeg (dC (.int 1)))) (dC (.int 1))) (dC (.int 0))) (dCons (dVar 0) dNil)))) (gN 2))
 (dDrop (dML gAppend (dVar 3) (dCons (dBin gAdd (dBin gIx (dVar 3) (dUn gNeg (dC (.int 1)))) (dVar 2)) dNil)))))
 (dRet (dVar 3)))))
@[irreducible] def F_groups_up_to : FF := dDefC 2 7 den_groups_up_to
def den_is_surely_good : FS := (dRet (dBin gLe (dBin gAdd (dBin gIx (dVar 2) (dUn gNeg (dC (.int 1)))) (dBin gMul (dBin gIx (dVar 0) (dC (.int 0))) (dBin gSub (dB gLen (dCons (dBin gIx (dVar 0) (dC (.int 2))) dNil)) (dVar 1)))) (dVar 3)))
@[irreducible] def F_is_surely_good : FF := dDef 4 4 den_is_surely_good
def den_is_maybe_good : FS := (dRet (dBin gLe (dBin gAdd (dBin gIx (dVar 2) (dUn gNeg (dC (.int 1)))) (dBin gMul (dBin gIx (dVar 0) (dC (.int 1))) (dBin gSub (dB gLen (dCons (dBin gIx (dVar 0) (dC (.int 2))) dNil)) (dVar 1)))) (dVar 3)))
@[irreducible] def F_is_maybe_good : FF := dDef 4 4 den_is_maybe_good
def den_next_arrival : FS := (dSeq (dAsg (dSl (dVar 0) dNoP (dPart (dC (.int 2)))) (gTp 2 (gsCons (gN 4) (gsCons (gN 5) gsNil))))
 (dSeq (dAsg (dLc (st2 8 9) dYes (dBin gAdd (dB gMax (dCons (dBin gIx (dVar 1) (dVar 8)) (dCons (dVar 9) dNil))) (dVar 5)) (dZip (dCons (dVar 3) (dCons (dVar 2) dNil)))) (gN 6))
 (dSeq (dAsg (dLc (st2 8 10) (dTest (dBin (gIn true) (dVar 8) (dVar 3))) (dBin gAdd (dVar 10) (dVar 4)) (dEnT (dCons (dVar 1) dNil))) (gN 7))
 (dRet (dTup (dCons (dB gTuple (dCons (dB gSorted (dCons (dBin gAdd (dVar 6) (dVar 7)) dNil)) dNil)) (dCons (dB gTuple (dCons (dVar 6) dNil)) dNil)))))))
@[irreducible] def F_next_arrival : FF := dDef 4 11 den_next_arrival
def den_law_finish_4 : FS := (dSeq (dAsg (dTup (dCons (dB gListN (dCons (dVar 1) dNil)) (dCons (dLstC dNil) dNil))) (gTp 2 (gsCons (gN 3) (gsCons (gN 4) gsNil))))
 (dSeq (dFor (dRng1 (dCons (dB gLen (dCons (dVar 2) dNil)) dNil)) (gN 5)
 (dSeq (dAsg (dB gSorted (dCons (dBin gAdd (dVar 4) (dBin gMul (dLst (dCons (dC (.int 0)) dNil)) (dBin gIx (dBin gIx (dVar 0) (dC (.int 2))) (dVar 5)))) dNil)) (gN 6))
 (dSeq (dAsg (dB gSorted (dCons (dLc (st1 11) dYes (dTup (dCons (dBin gIx (dVar 3) (dVar 11)) (dCons (dVar 11) dNil))) (dItS (dBin gIx (dVar 2) (dVar 5)))) dNil)) (gN 7))
 (dSeq (dPar 8 4 (dCons (dLcC (st1 10) dYes (dBin gAdd (dVar 10) (dBin gIx (dVar 0) (dC (.int 0)))) (dItS (dVar 3))) (dCons (dLstC dNil) dNil)))
 (dSeq (dFor (dRng1 (dCons (dB gLen (dCons (dVar 7) dNil)) dNil)) (gN 9)
 (dSeq (dAsg (dBin gIx (dVar 7) (dVar 9)) (gTp 2 (gsCons (gN 10) (gsCons (gN 11) gsNil))))
 (dSeq (dAsg (dBin gAdd (dB gMax (dCons (dVar 10) (dCons (dBin gIx (dVar 6) (dVar 9)) dNil))) (dBin gIx (dVar 0) (dC (.int 1)))) (gSetI (dVar 8) (dVar 11)))
 (dDrop (dML gAppend (dVar 4) (dCons (dBin gIx (dVar 8) (dVar 11)) dNil))))))
 (dAsg (dVar 8) (gN 3)))))))
 (dRet (dB gMax (dCons (dVar 3) dNil)))))
@[irreducible] def F_law_finish_4 : FF := dDefC 3 12 den_law_finish_4
def den_next_arrivals : FS := (dSeq (dAsg (dVar 0) (gTp 3 (gsCons (gN 5) (gsCons (gN 6) (gsCons (gN 7) gsNil)))))
 (dSeq (dAsg (dBin gSub (dBin gSub (dVar 4) (dVar 5)) (dBin gMul (dVar 6) (dBin gSub (dBin gSub (dB gLen (dCons (dVar 7) dNil)) (dVar 1)) (dC (.int 1))))) (gN 8))
 (dSeq (dAsg dNewN (gN 9))
 (dSeq (dForN (dVar 2) (gTp 2 (gsCons (gTp 2 (gsCons (gN 10) (gsCons (gN 11) gsNil))) (gsCons (gN 12) gsNil)))
 (dSeq (dAsg (dBin gAdd (dBin gMul0 (dTup (dCons (dC (.int 0)) dNil)) (dBin gIx (dVar 7) (dVar 1))) (dVar 11)) (gN 13))
 (dSeq (dAsg (dB gTuple (dCons (dLc (st2 17 18) (dTest (dBin gGt (dVar 18) (dVar 8))) (dVar 17) (dEnT (dCons (dVar 10) dNil))) dNil)) (gN 14))
 (dFor (dItS (dBin gIx (dVar 3) (dB gMinL (dCons (dB gLen (dCons (dVar 10) dNil)) (dCons (dB gLen (dCons (dVar 13) dNil)) dNil))))) (gN 15)
 (dIfS (dTest (dBin iEq (dSl (dVar 15) (dPart (dBin gSub (dB gLen (dCons (dVar 15) dNil)) (dB gLen (dCons (dVar 14) dNil)))) dNoP) (dVar 14)))
 (dSeq (dAsg (dCallW F_next_arrival (dCons (dVar 0) (dCons (dVar 10) (dCons (dVar 13) (dCons (dVar 15) dNil))))) (gN 16))
 (dAsg (dBin gAdd (dGetN (dVar 9) (dVar 16) (dC (.int 0))) (dVar 12)) (gSetN (dVar 9) (dVar 16))))
 dSkip)))))
 (dRet (dVar 9))))))
@[irreducible] def F_next_arrivals : FF := dDef 5 19 den_next_arrivals
def den_count_good : FS := (dSeq (dAsg (dCall 0 F_ways_on (dCons (dVar 0) (dCons (dB gLen (dCons (dVar 1) dNil)) dNil))) (gN 3))
 (dSeq (dIfS (dTest (dBin gGt (dBin gIx (dBin gIx (dVar 3) (dC (.int 0))) (dC (.int 0))) (dC (.int 5000))))
 (dRaise "TooLarge" "bound" (dC (.int 5000)))
 dSkip)
 (dSeq (dAsg (dCall 0 F_groups_up_to (dCons (dB gLen (dCons (dVar 1) dNil)) (dCons (dB gMinL (dCons (dB gLen (dCons (dVar 1) dNil)) (dCons (dB gSum (dCons (dBin gIx (dVar 0) (dC (.int 2))) dNil)) dNil))) dNil))) (gN 4))
 (dSeq (dAsg (dOneN (dTup (dCons (dB gTuple (dCons (dB gSortTI (dCons (dVar 1) dNil)) dNil)) (dCons (dTup dNil) dNil))) (dC (.int 1))) (gN 5))
 (dSeq (dAsg (dC (.int 0)) (gN 6))
 (dSeq (dFor (dEnL (dCons (dVar 3) dNil)) (gTp 2 (gsCons (gN 7) (gsCons (gN 8) gsNil)))
 (dSeq (dAsg dNewN (gN 9))
 (dSeq (dForN (dVar 5) (gTp 2 (gsCons (gTp 2 (gsCons (gN 10) (gsCons (gN 11) gsNil))) (gsCons (gN 12) gsNil)))
 (dIfS (dTest (dCallW F_is_surely_good (dCons (dVar 0) (dCons (dVar 7) (dCons (dVar 10) (dCons (dVar 2) dNil))))))
 (dAugI 6 (dBin gMul (dVar 12) (dBin gIx (dVar 8) (dB gLen (dCons (dVar 11) dNil)))))
 (dIfS (dTest (dCallW F_is_maybe_good (dCons (dVar 0) (dCons (dVar 7) (dCons (dVar 10) (dCons (dVar 2) dNil))))))
 (dAsg (dVar 12) (gSetN (dVar 9) (dTup (dCons (dVar 10) (dCons (dVar 11) dNil)))))
 dSkip)))
 (dAsg (dCallW F_next_arrivals (dCons (dVar 0) (dCons (dVar 7) (dCons (dVar 9) (dCons (dVar 4) (dCons (dVar 2) dNil)))))) (gN 5)))))
 (dRet (dVar 6))))))))
@[irreducible] def F_count_good : FF := dDefX 3 13 den_count_good
def den_law_told_3 : FS := (dTry 3 [("TooLarge", true)] (dRet (dCallW F_count_good (dCons (dVar 0) (dCons (dVar 1) (dCons (dVar 2) dNil)))))
 (dSeq (dAsg (dIsXT [("TooLarge", "BadEnd", false), ("TooLarge", "BadRoad", false), ("TooLarge", "BadStarts", false), ("TooLarge", "TooLate", false), ("TooLarge", "TooLong", false), ("TooLarge", "TooMuch", false), ("TooLarge", "LookupError", false)] 3 ["BadEnd", "BadRoad", "BadStarts", "TooLate", "TooLong", "TooMuch", "LookupError"]) (gN 4))
 (dRet (dIf (dAnd (dTest (dIsX [("TooLarge", "TooLarge", true)] 3 "TooLarge")) (dNot (dTest (dVar 4)))) (dLst (dCons (dXf ["TooLarge"] 3 "bound") dNil)) (dLst (dCons (dC (.str "other")) dNil))))))
@[irreducible] def F_law_told_3 : FF := dDefC 3 5 den_law_told_3
def den_law_k25 : FS := (dSeq (dAsg (dCallW F_law_draws (dCons (dVar 0) dNil)) (gN 1))
 (dSeq (dFor (dRng1 (dCons (dC (.int 6)) dNil)) (gN 2)
 (dSeq (dAsg (dCallW F_law_small (dCons (dVar 1) (dCons (dC (.int 300)) dNil))) (gUn 2 (gsCons (gN 3) (gsCons (gN 4) gsNil))))
 (dSeq (dAsg (dBin gIx (dLst (dCons (dC (.int 1)) (dCons (dC (.int 9)) (dCons (dBin gAdd (dBin gPow (dC (.int 10)) (dC (.int 6))) (dC (.int 1))) dNil)))) (dCallW F_law_next (dCons (dVar 1) (dCons (dC (.int 3)) dNil)))) (gN 5))
 (dSeq (dAsg (dB gTuple (dCons (dLc (st1 14) dYes (dCallW F_law_next (dCons (dVar 1) (dCons (dVar 5) dNil))) (dRng1 (dCons (dVar 4) dNil))) dNil)) (gN 6))
 (dSeq (dAsg (dLc (st1 15) dYes (dCall 0 F_law_finish_4 (dCons (dVar 3) (dCons (dVar 6) (dCons (dVar 15) dNil)))) (dItS (dCall 0 F_law_plans (dCons (dVar 3) (dCons (dVar 4) dNil))))) (gN 7))
 (dSeq (dPar 8 9 (dCons (dStep (dVar 7) (dBin gAdd (dC (.int 1)) (dBin gFdiv (dB gLen (dCons (dVar 7) dNil)) (dC (.int 2))))) (dCons (dB gReprC (dCons (dLst (dCons (dVar 3) (dCons (dVar 6) dNil))) dNil)) dNil)))
 (dSeq (dFor (dItS (dBin gAdd (dBin gAdd (dLst (dCons (dB gMin (dCons (dVar 7) dNil)) (dCons (dB gMin (dCons (dVar 7) dNil)) dNil))) (dVar 8)) (dLst (dCons (dB gMax (dCons (dC (.int 0)) (dCons (dBin gSub (dB gMin (dCons (dVar 7) dNil)) (dC (.int 1))) dNil))) (dCons (dB gMax (dCons (dVar 7) dNil)) (dCons (dC (.int 0)) (dCons (dBin gPow (dC (.int 10)) (dC (.int 7))) dNil))))))) (gN 10)
 (dSeq (dAsg (dB gLen (dCons (dLc (st1 16) (dTest (dBin gLe (dVar 16) (dVar 10))) (dVar 16) (dItS (dVar 7))) dNil)) (gN 11))
 (dIfS (dOr (dTest (dBin iNe (dB gReprC (dCons (dCall 0 F_law_told_3 (dCons (dVar 3) (dCons (dVar 6) (dCons (dVar 10) dNil)))) dNil)) (dB gReprC (dCons (dVar 11) dNil)))) (dTest (dBin iNe (dB gReprC (dCons (dLst (dCons (dVar 3) (dCons (dVar 6) dNil))) dNil)) (dVar 9))))
 (dRet (dC (.bl false)))
 dSkip)))
 (dSeq (dAsg (dCallW F_law_road_3 (dCons (dVar 1) (dCons (dC (.int 12)) (dCons (dC (.int 12)) dNil)))) (gN 12))
 (dIfS (dAnd (dTest (dBin gGt (dCallW F_count_plans (dCons (dVar 12) (dCons (dC (.int 10)) dNil))) (dC (.int 5000)))) (dTest (dBin iNe (dB gReprC (dCons (dCall 0 F_law_told_3 (dCons (dVar 12) (dCons (dBin gMul (dTup (dCons (dC (.int 0)) dNil)) (dC (.int 10))) (dCons (dBin gPow (dC (.int 10)) (dC (.int 7))) dNil)))) dNil)) (dB gReprC (dCons (dLst (dCons (dC (.int 5000)) dNil)) dNil)))))
 (dRet (dC (.bl false)))
 dSkip)))))))))
 (dSeq (dAsg (dLstC (dCons (dCall 0 F_law_told_3 (dCons (dTup (dCons (dC (.int 2)) (dCons (dC (.int 1)) (dCons (dTup (dCons (dC (.int 12)) (dCons (dC (.int 0)) dNil))) dNil)))) (dCons (dBin gMul (dTup (dCons (dC (.int 0)) dNil)) (dC (.int 9))) (dCons (dC (.int 0)) dNil)))) (dCons (dCall 0 F_law_told_3 (dCons (dTup (dCons (dC (.int 2)) (dCons (dC (.int 1)) (dCons (dTup (dCons (dC (.int 1)) (dCons (dC (.int 0)) (dCons (dC (.int 0)) dNil)))) dNil)))) (dCons (dTup (dCons (dC (.int 0)) (dCons (dC (.int 0)) dNil))) (dCons (dBin gPow (dC (.int 10)) (dC (.int 7))) dNil)))) dNil))) (gN 13))
 (dSeq (dDrop (dML gAppend (dVar 13) (dCons (dCall 0 F_law_told_3 (dCons (dTup (dCons (dC (.int 10)) (dCons (dC (.int 4)) (dCons (dTup (dCons (dC (.int 3)) (dCons (dC (.int 0)) (dCons (dC (.int 0)) (dCons (dC (.int 0)) (dCons (dC (.int 0)) dNil)))))) dNil)))) (dCons (dTup (dCons (dC (.int 0)) (dCons (dC (.int 0)) (dCons (dC (.int 0)) dNil)))) (dCons (dBin gPow (dC (.int 10)) (dC (.int 7))) dNil)))) dNil)))
 (dRet (dAndV (dBin iEq (dB gReprC (dCons (dVar 13) dNil)) (dB gReprC (dCons (dLst (dCons (dLst (dCons (dC (.int 5000)) dNil)) (dCons (dC (.int 15)) (dCons (dC (.int 2736)) dNil)))) dNil))) (dBin iEq (dC (.int 5000)) (dC (.int 5000)))))))))
@[irreducible] def F_law_k25 : FF := dDefC 1 17 den_law_k25
end Pu
namespace Pu
open PySem PySem.Spec PyProof.Rows L2
def topS (i : Nat) : Stmt := PySem.Challenge.pw_roadbikes_k25_good_plans_counted.main.body.getD i (.Pass ⟨0, 0, 0, 0⟩)
abbrev s_count_plans : Stmt := topS 11
abbrev s_ways_on : Stmt := topS 12
abbrev s_subset_counts : Stmt := topS 13
abbrev s_count_good : Stmt := topS 14
abbrev s_groups_up_to : Stmt := topS 15
abbrev s_is_surely_good : Stmt := topS 16
abbrev s_is_maybe_good : Stmt := topS 17
abbrev s_next_arrivals : Stmt := topS 18
abbrev s_next_arrival : Stmt := topS 19
abbrev s__law_draws : Stmt := topS 21
abbrev s__law_next : Stmt := topS 22
abbrev s__law_road : Stmt := topS 23
abbrev s__law_groups : Stmt := topS 24
abbrev s__law_plans : Stmt := topS 25
abbrev s__law_small : Stmt := topS 26
abbrev s__law_bound : Stmt := topS 27
abbrev s__law_finish : Stmt := topS 28
abbrev s__law_told : Stmt := topS 29
abbrev s_law : Stmt := topS 30
abbrev si_TooLarge : Stmt := inClass (topS 4) 0
abbrev N_count_plans : List Str := ["road", "people"]
theorem sc_count_plans : FnScope N_count_plans ["road", "people"] (defScope s_count_plans) := ⟨rfl, rfl, rfl, by decide +kernel, rfl, by decide +kernel, by decide +kernel⟩
abbrev N_ways_on : List Str := ["road", "people", "groups", "rows", "standing", "ways", "many", "brought"]
theorem sc_ways_on : FnScope N_ways_on ["road", "people"] (defScope s_ways_on) := ⟨rfl, rfl, rfl, by decide +kernel, rfl, by decide +kernel, by decide +kernel⟩
abbrev N_subset_counts : List Str := ["people", "ways", "many"]
theorem sc_subset_counts : FnScope N_subset_counts ["people"] (defScope s_subset_counts) := ⟨rfl, rfl, rfl, by decide +kernel, rfl, by decide +kernel, by decide +kernel⟩
abbrev N_count_good : List Str := ["road", "starts", "end", "ways", "groups", "arrivals", "good", "station", "row", "undecided", "ticks", "brought", "many"]
theorem sc_count_good : FnScope N_count_good ["road", "starts", "end"] (defScope s_count_good) := ⟨rfl, rfl, rfl, by decide +kernel, rfl, by decide +kernel, by decide +kernel⟩
abbrev N_groups_up_to : List Str := ["people", "most", "newest", "rows", "size", "group", "person"]
theorem sc_groups_up_to : FnScope N_groups_up_to ["people", "most"] (defScope s_groups_up_to) := ⟨rfl, rfl, rfl, by decide +kernel, rfl, by decide +kernel, by decide +kernel⟩
abbrev N_is_surely_good : List Str := ["road", "station", "ticks", "end"]
theorem sc_is_surely_good : FnScope N_is_surely_good ["road", "station", "ticks", "end"] (defScope s_is_surely_good) := ⟨rfl, rfl, rfl, by decide +kernel, rfl, by decide +kernel, by decide +kernel⟩
abbrev N_is_maybe_good : List Str := ["road", "station", "ticks", "end"]
theorem sc_is_maybe_good : FnScope N_is_maybe_good ["road", "station", "ticks", "end"] (defScope s_is_maybe_good) := ⟨rfl, rfl, rfl, by decide +kernel, rfl, by decide +kernel, by decide +kernel⟩
abbrev N_next_arrivals : List Str := ["road", "station", "arrivals", "groups", "end", "walk", "ride", "bikes", "latest", "following", "ticks", "brought", "many", "present", "needed", "riders", "arrival", "person", "tick"]
theorem sc_next_arrivals : FnScope N_next_arrivals ["road", "station", "arrivals", "groups", "end"] (defScope s_next_arrivals) := ⟨rfl, rfl, rfl, by decide +kernel, rfl, by decide +kernel, by decide +kernel⟩
abbrev N_next_arrival : List Str := ["road", "ticks", "bikes", "riders", "walk", "ride", "riding", "walking", "person", "bike", "tick"]
theorem sc_next_arrival : FnScope N_next_arrival ["road", "ticks", "bikes", "riders"] (defScope s_next_arrival) := ⟨rfl, rfl, rfl, by decide +kernel, rfl, by decide +kernel, by decide +kernel⟩
abbrev N__law_draws : List Str := ["_law_script", "_law_cells", "_law_cell"]
theorem sc__law_draws : FnScope N__law_draws ["_law_script"] (defScope s__law_draws) := ⟨rfl, rfl, rfl, by decide +kernel, rfl, by decide +kernel, by decide +kernel⟩
abbrev N__law_next : List Str := ["_law_state", "_law_many", "_law_cells", "_law_count", "_law_rests", "_law_index", "_law_digit", "_law_mixed"]
theorem sc__law_next : FnScope N__law_next ["_law_state", "_law_many"] (defScope s__law_next) := ⟨rfl, rfl, rfl, by decide +kernel, rfl, by decide +kernel, by decide +kernel⟩
abbrev N__law_road : List Str := ["_law_state", "_law_stages", "_law_most", "_law_ride", "_law_walk", "_law_bikes", "_law_stage"]
theorem sc__law_road : FnScope N__law_road ["_law_state", "_law_stages", "_law_most"] (defScope s__law_road) := ⟨rfl, rfl, rfl, by decide +kernel, rfl, by decide +kernel, by decide +kernel⟩
abbrev N__law_groups : List Str := ["_law_people", "_law_most", "_law_found", "_law_person", "_law_group"]
theorem sc__law_groups : FnScope N__law_groups ["_law_people", "_law_most"] (defScope s__law_groups) := ⟨rfl, rfl, rfl, by decide +kernel, rfl, by decide +kernel, by decide +kernel⟩
abbrev N__law_plans : List Str := ["_law_road_here", "_law_people", "_law_found", "_law_standing", "_law_longer", "_law_begun", "_law_before", "_law_group"]
theorem sc__law_plans : FnScope N__law_plans ["_law_road_here", "_law_people"] (defScope s__law_plans) := ⟨rfl, rfl, rfl, by decide +kernel, rfl, by decide +kernel, by decide +kernel⟩
abbrev N__law_small : List Str := ["_law_state", "_law_plans_here", "_law_road_here", "_law_people"]
theorem sc__law_small : FnScope N__law_small ["_law_state", "_law_plans_here"] (defScope s__law_small) := ⟨rfl, rfl, rfl, by decide +kernel, rfl, by decide +kernel, by decide +kernel⟩
abbrev N__law_bound : List Str := ["_law_road_here", "_law_people", "_law_found", "_law_count", "_law_standing"]
theorem sc__law_bound : FnScope N__law_bound ["_law_road_here", "_law_people"] (defScope s__law_bound) := ⟨rfl, rfl, rfl, by decide +kernel, rfl, by decide +kernel, by decide +kernel⟩
abbrev N__law_finish : List Str := ["_law_road_here", "_law_starts", "_law_plan", "_law_now", "_law_there", "_law_stage", "_law_free", "_law_order", "_law_later", "_law_k", "_law_tick", "_law_person"]
theorem sc__law_finish : FnScope N__law_finish ["_law_road_here", "_law_starts", "_law_plan"] (defScope s__law_finish) := ⟨rfl, rfl, rfl, by decide +kernel, rfl, by decide +kernel, by decide +kernel⟩
abbrev N__law_told : List Str := ["_law_road_here", "_law_starts", "_law_end", "error", "_law_others"]
theorem sc__law_told : FnScope N__law_told ["_law_road_here", "_law_starts", "_law_end"] (defScope s__law_told) := ⟨rfl, rfl, rfl, by decide +kernel, rfl, by decide +kernel, by decide +kernel⟩
abbrev N_law : List Str := ["_law_script", "_law_state", "_law_turn", "_law_road_here", "_law_people", "_law_bound_here", "_law_starts", "_law_finishes", "_law_some", "_law_shown", "_law_end", "_law_due", "_law_wide", "_law_found", "_law_person", "_law_plan", "_law_finish_here"]
theorem sc_law : FnScope N_law ["_law_script"] (defScope s_law) := ⟨rfl, rfl, rfl, by decide +kernel, rfl, by decide +kernel, by decide +kernel⟩
theorem sci_TooLarge : FnScope ["self", "bound"] ["self", "bound"] (defScope si_TooLarge) := ⟨rfl, rfl, rfl, by decide +kernel, rfl, by decide +kernel, by decide +kernel⟩
structure Tx (K : PySem.W.Frag) (mg : Str → Option Value) where
  f_count_plans : Addr
  fd_count_plans : FuncData
  F_count_plans : Fun K "count_plans" "count_plans" s_count_plans f_count_plans fd_count_plans
  g_count_plans : mg "count_plans" = some (.ref f_count_plans)
  b_count_plans : Binds K fd_count_plans ["road", "people"] []
  f_ways_on : Addr
  fd_ways_on : FuncData
  F_ways_on : Fun K "ways_on" "ways_on" s_ways_on f_ways_on fd_ways_on
  g_ways_on : mg "ways_on" = some (.ref f_ways_on)
  b_ways_on : Binds K fd_ways_on ["road", "people"] []
  f_subset_counts : Addr
  fd_subset_counts : FuncData
  F_subset_counts : Fun K "subset_counts" "subset_counts" s_subset_counts f_subset_counts fd_subset_counts
  g_subset_counts : mg "subset_counts" = some (.ref f_subset_counts)
  b_subset_counts : Binds K fd_subset_counts ["people"] []
  f_count_good : Addr
  fd_count_good : FuncData
  F_count_good : Fun K "count_good" "count_good" s_count_good f_count_good fd_count_good
  g_count_good : mg "count_good" = some (.ref f_count_good)
  b_count_good : Binds K fd_count_good ["road", "starts", "end"] []
  f_groups_up_to : Addr
  fd_groups_up_to : FuncData
  F_groups_up_to : Fun K "groups_up_to" "groups_up_to" s_groups_up_to f_groups_up_to fd_groups_up_to
  g_groups_up_to : mg "groups_up_to" = some (.ref f_groups_up_to)
  b_groups_up_to : Binds K fd_groups_up_to ["people", "most"] []
  f_is_surely_good : Addr
  fd_is_surely_good : FuncData
  F_is_surely_good : Fun K "is_surely_good" "is_surely_good" s_is_surely_good f_is_surely_good fd_is_surely_good
  g_is_surely_good : mg "is_surely_good" = some (.ref f_is_surely_good)
  b_is_surely_good : Binds K fd_is_surely_good ["road", "station", "ticks", "end"] []
  f_is_maybe_good : Addr
  fd_is_maybe_good : FuncData
  F_is_maybe_good : Fun K "is_maybe_good" "is_maybe_good" s_is_maybe_good f_is_maybe_good fd_is_maybe_good
  g_is_maybe_good : mg "is_maybe_good" = some (.ref f_is_maybe_good)
  b_is_maybe_good : Binds K fd_is_maybe_good ["road", "station", "ticks", "end"] []
  f_next_arrivals : Addr
  fd_next_arrivals : FuncData
  F_next_arrivals : Fun K "next_arrivals" "next_arrivals" s_next_arrivals f_next_arrivals fd_next_arrivals
  g_next_arrivals : mg "next_arrivals" = some (.ref f_next_arrivals)
  b_next_arrivals : Binds K fd_next_arrivals ["road", "station", "arrivals", "groups", "end"] []
  f_next_arrival : Addr
  fd_next_arrival : FuncData
  F_next_arrival : Fun K "next_arrival" "next_arrival" s_next_arrival f_next_arrival fd_next_arrival
  g_next_arrival : mg "next_arrival" = some (.ref f_next_arrival)
  b_next_arrival : Binds K fd_next_arrival ["road", "ticks", "bikes", "riders"] []
  f__law_draws : Addr
  fd__law_draws : FuncData
  F__law_draws : Fun K "_law_draws" "_law_draws" s__law_draws f__law_draws fd__law_draws
  g__law_draws : mg "_law_draws" = some (.ref f__law_draws)
  b__law_draws : Binds K fd__law_draws ["_law_script"] []
  f__law_next : Addr
  fd__law_next : FuncData
  F__law_next : Fun K "_law_next" "_law_next" s__law_next f__law_next fd__law_next
  g__law_next : mg "_law_next" = some (.ref f__law_next)
  b__law_next : Binds K fd__law_next ["_law_state", "_law_many"] []
  f__law_road : Addr
  fd__law_road : FuncData
  F__law_road : Fun K "_law_road" "_law_road" s__law_road f__law_road fd__law_road
  g__law_road : mg "_law_road" = some (.ref f__law_road)
  b__law_road : Binds K fd__law_road ["_law_state", "_law_stages", "_law_most"] []
  f__law_groups : Addr
  fd__law_groups : FuncData
  F__law_groups : Fun K "_law_groups" "_law_groups" s__law_groups f__law_groups fd__law_groups
  g__law_groups : mg "_law_groups" = some (.ref f__law_groups)
  b__law_groups : Binds K fd__law_groups ["_law_people", "_law_most"] []
  f__law_plans : Addr
  fd__law_plans : FuncData
  F__law_plans : Fun K "_law_plans" "_law_plans" s__law_plans f__law_plans fd__law_plans
  g__law_plans : mg "_law_plans" = some (.ref f__law_plans)
  b__law_plans : Binds K fd__law_plans ["_law_road_here", "_law_people"] []
  f__law_small : Addr
  fd__law_small : FuncData
  F__law_small : Fun K "_law_small" "_law_small" s__law_small f__law_small fd__law_small
  g__law_small : mg "_law_small" = some (.ref f__law_small)
  b__law_small : Binds K fd__law_small ["_law_state", "_law_plans_here"] []
  f__law_bound : Addr
  fd__law_bound : FuncData
  F__law_bound : Fun K "_law_bound" "_law_bound" s__law_bound f__law_bound fd__law_bound
  g__law_bound : mg "_law_bound" = some (.ref f__law_bound)
  b__law_bound : Binds K fd__law_bound ["_law_road_here", "_law_people"] []
  f__law_finish : Addr
  fd__law_finish : FuncData
  F__law_finish : Fun K "_law_finish" "_law_finish" s__law_finish f__law_finish fd__law_finish
  g__law_finish : mg "_law_finish" = some (.ref f__law_finish)
  b__law_finish : Binds K fd__law_finish ["_law_road_here", "_law_starts", "_law_plan"] []
  f__law_told : Addr
  fd__law_told : FuncData
  F__law_told : Fun K "_law_told" "_law_told" s__law_told f__law_told fd__law_told
  g__law_told : mg "_law_told" = some (.ref f__law_told)
  b__law_told : Binds K fd__law_told ["_law_road_here", "_law_starts", "_law_end"] []
  f_law : Addr
  fd_law : FuncData
  F_law : Fun K "law" "law" s_law f_law fd_law
  g_law : mg "law" = some (.ref f_law)
  b_law : Binds K fd_law ["_law_script"] []
  C_TripError : Addr
  gC_TripError : mg "TripError" = some (.ref C_TripError)
  C_TooLong : Addr
  gC_TooLong : mg "TooLong" = some (.ref C_TooLong)
  C_TooLarge : Addr
  gC_TooLarge : mg "TooLarge" = some (.ref C_TooLarge)
  C_BadStarts : Addr
  gC_BadStarts : mg "BadStarts" = some (.ref C_BadStarts)
  C_TooLate : Addr
  gC_TooLate : mg "TooLate" = some (.ref C_TooLate)
  C_BadRoad : Addr
  gC_BadRoad : mg "BadRoad" = some (.ref C_BadRoad)
  C_TooMuch : Addr
  gC_TooMuch : mg "TooMuch" = some (.ref C_TooMuch)
  C_BadEnd : Addr
  gC_BadEnd : mg "BadEnd" = some (.ref C_BadEnd)
  E_TooLarge : OwnI K C_TooLarge
  L_TooLarge : ErrC K C_TooLarge [.type "ValueError", .type "Exception", .type "BaseException", .type "object"] "ValueError.__new__"
  no_TooLarge : PySem.W.findIn K (.ref C_TooLarge) "bound" = some none
  fI_TooLarge : Addr
  fdI_TooLarge : FuncData
  iC_TooLarge : PySem.W.findIn K (.ref C_TooLarge) "__init__" = some (some (.ref fI_TooLarge))
  tI_TooLarge : PySem.W.typeIn K (.ref fI_TooLarge) = some (.type "function")
  FI_TooLarge : Fun K "__init__" "TooLarge.__init__" si_TooLarge fI_TooLarge fdI_TooLarge
  bI_TooLarge : Binds K fdI_TooLarge ["self", "bound"] []
  xi_TooLarge_BadEnd : XI K mg "TooLarge" "BadEnd" false
  xi_TooLarge_BadRoad : XI K mg "TooLarge" "BadRoad" false
  xi_TooLarge_BadStarts : XI K mg "TooLarge" "BadStarts" false
  xi_TooLarge_LookupError : XI K mg "TooLarge" "LookupError" false
  xi_TooLarge_TooLarge : XI K mg "TooLarge" "TooLarge" true
  xi_TooLarge_TooLate : XI K mg "TooLarge" "TooLate" false
  xi_TooLarge_TooLong : XI K mg "TooLarge" "TooLong" false
  xi_TooLarge_TooMuch : XI K mg "TooLarge" "TooMuch" false
  x_TooLarge_TripError : PySem.W.exmOne K (.ref C_TooLarge) (.ref C_TripError) = some true
  t_SMALL_PLANS : Tok
  c_SMALL_PLANS : mg "SMALL_PLANS" = some (.int 5000 t_SMALL_PLANS)
  z_LookupError : mg "LookupError" = none
  z_abs : mg "abs" = none
  z_enumerate : mg "enumerate" = none
  z_int : mg "int" = none
  z_isinstance : mg "isinstance" = none
  z_len : mg "len" = none
  z_list : mg "list" = none
  z_max : mg "max" = none
  z_min : mg "min" = none
  z_range : mg "range" = none
  z_repr : mg "repr" = none
  z_sorted : mg "sorted" = none
  z_sum : mg "sum" = none
  z_tuple : mg "tuple" = none
  z_zip : mg "zip" = none
section
variable {P : Program} {w : World} {K : PySem.W.Frag} {mg : Str → Option Value} {base : Heap}
theorem Gi_TooLarge (T : Tx K mg) : FnOk P w K mg base CX0 1 T.fI_TooLarge T.fdI_TooLarge ["self", "bound"] (Rb.spIni K T.C_TooLarge "bound") :=
  iniE T.FI_TooLarge sci_TooLarge T.L_TooLarge T.no_TooLarge (fun _ _ _ _ _ _ => pss_one (ps_putE PySem.F.store_ValueError (pv 0) (pv 1)))
theorem G_subset_counts (T : Tx K mg) : Rb.FnG P w K mg base CX0 1 T.f_subset_counts T.fd_subset_counts ["people"] (spF (ct0 K mg) F_subset_counts) := by
  unfold F_subset_counts
  exact
   d_fnC T.F_subset_counts sc_subset_counts fun cdv A out s H E hg hr => (d_seq (d_set (i := 1) sc_subset_counts.nd rfl (.inl rfl) (d_lstC (d_cons d_int d_nil)))
 (d_seq (d_for PassesOwn.never rfl (d_rng1 (by rfl) T.z_range (d_cons (d_var (pv 0)) d_nil)) (d_gn (pg_name (i := 2) sc_subset_counts.nd rfl (.inl rfl)))
 (d_last (d_expr (d_ml PySem.F.slot_list_append PySem.F.type_list_append m_append (d_var (pv 1)) (d_cons (d_bin o_fdiv (d_bin o_mul (d_ix (d_var (pv 1)) (d_un u_neg d_int) (fun _ _ => rfl)) (d_bin o_sub (d_var (pv 0)) (d_var (pv 2)))) (d_bin o_add (d_var (pv 2)) d_int)) d_nil)))))
 (d_last (d_ret (d_var (pv 1))))))
theorem G_groups_up_to (T : Tx K mg) : Rb.FnG P w K mg base CX0 1 T.f_groups_up_to T.fd_groups_up_to ["people", "most"] (spF (ct0 K mg) F_groups_up_to) := by
  unfold F_groups_up_to
  exact
   d_fnC T.F_groups_up_to sc_groups_up_to fun cdv A out s H E hg hr => (d_seq (d_set (i := 2) sc_groups_up_to.nd rfl (.inl rfl) (d_lst (d_cons (d_tup d_nil) d_nil)))
 (d_seq (d_set (i := 3) sc_groups_up_to.nd rfl (.inl rfl) (d_lstC (d_cons (d_var (pv 2)) d_nil)))
 (d_seq (d_for PassesOwn.never rfl (d_rng1 (by rfl) T.z_range (d_cons (d_var (pv 1)) d_nil)) (d_gn (pg_name (i := 4) sc_groups_up_to.nd rfl (.inl rfl)))
 (d_seq (d_setLc2 (i := 2) (own := [("group", 5), ("person", 6)]) (vs1 := [6]) (g := (gName 5)) (g1 := (gName 6)) (st := (st12 5 6)) (st1 := (st1 6)) (lct12 (by decide)) lct1 (by rfl) sc_groups_up_to.nd rfl rfl (sw_true rfl rfl rfl (by decide +kernel)) (d_iseq (d_var (pv 2))) (blkOk_by (own := [("group", 5), ("person", 6)]) (N := N_groups_up_to) (sc := defScope s_groups_up_to) (by decide +kernel)) (by decide) (fun _ _ _ _ _ => (pg_name (i := 5) sc_groups_up_to.nd rfl (.inl rfl))) (fun _ _ _ _ _ => (d_rng2 (by rfl) T.z_range (d_cons (d_ifE (d_tvalU (d_var (pv 5))) (d_bin o_add (d_ix (d_var (pv 5)) (d_un u_neg d_int) (fun _ _ => rfl)) d_int) d_int) (d_cons (d_var (pv 0)) d_nil)))) (fun _ _ _ _ _ => (pg_name (i := 6) sc_groups_up_to.nd rfl (.inl rfl))) (fun _ _ _ _ _ => d_tnil) (fun _ _ _ _ _ => (d_bin o_add (d_var (pv 5)) (d_tup (d_cons (d_var (pv 6)) d_nil)))))
 (d_last (d_expr (d_ml PySem.F.slot_list_append PySem.F.type_list_append m_append (d_var (pv 3)) (d_cons (d_bin o_add (d_ix (d_var (pv 3)) (d_un u_neg d_int) (fun _ _ => rfl)) (d_var (pv 2))) d_nil))))))
 (d_last (d_ret (d_var (pv 3)))))))
theorem G_is_surely_good (T : Tx K mg) : Rb.FnG P w K mg base CX0 1 T.f_is_surely_good T.fd_is_surely_good ["road", "station", "ticks", "end"] (spF (ct0 K mg) F_is_surely_good) := by
  unfold F_is_surely_good
  exact
   d_fn T.F_is_surely_good sc_is_surely_good fun cdv A out s H E hg hr => (d_last (d_ret (d_cmp o_le (d_bin o_add (d_ix (d_var (pv 2)) (d_un u_neg d_int) (fun _ _ => rfl)) (d_bin o_mul (d_ix (d_var (pv 0)) d_int (fun _ _ => rfl)) (d_bin o_sub (d_callB c_len (by rfl) T.z_len (by decide +kernel) (d_cons (d_ix (d_var (pv 0)) d_int (fun _ _ => rfl)) d_nil)) (d_var (pv 1))))) (d_var (pv 3)) (nomark _))))
theorem G_is_maybe_good (T : Tx K mg) : Rb.FnG P w K mg base CX0 1 T.f_is_maybe_good T.fd_is_maybe_good ["road", "station", "ticks", "end"] (spF (ct0 K mg) F_is_maybe_good) := by
  unfold F_is_maybe_good
  exact
   d_fn T.F_is_maybe_good sc_is_maybe_good fun cdv A out s H E hg hr => (d_last (d_ret (d_cmp o_le (d_bin o_add (d_ix (d_var (pv 2)) (d_un u_neg d_int) (fun _ _ => rfl)) (d_bin o_mul (d_ix (d_var (pv 0)) d_int (fun _ _ => rfl)) (d_bin o_sub (d_callB c_len (by rfl) T.z_len (by decide +kernel) (d_cons (d_ix (d_var (pv 0)) d_int (fun _ _ => rfl)) d_nil)) (d_var (pv 1))))) (d_var (pv 3)) (nomark _))))
theorem G_next_arrival (T : Tx K mg) : Rb.FnG P w K mg base CX0 1 T.f_next_arrival T.fd_next_arrival ["road", "ticks", "bikes", "riders"] (spF (ct0 K mg) F_next_arrival) := by
  unfold F_next_arrival
  exact
   d_fn T.F_next_arrival sc_next_arrival fun cdv A out s H E hg hr => (d_seq (d_asg (d_slice (d_var (pv 0)) d_noP (d_part d_int)) (d_gtup rfl (d_gcons (d_gn (pg_name (i := 4) sc_next_arrival.nd rfl (.inr rfl))) (d_gcons (d_gn (pg_name (i := 5) sc_next_arrival.nd rfl (.inr rfl))) d_gnil))))
 (d_seq (d_setLc (i := 6) (own := [("person", 8), ("bike", 9)]) (g := (gTup K 2 (gCons (gName 8) (gCons (gName 9) gNil)))) (st := (st2 8 9)) (lct2 (by decide)) (by rfl) sc_next_arrival.nd rfl rfl (sw_true rfl rfl rfl (by decide +kernel)) (d_zip (by rfl) T.z_zip (d_cons (d_var (pv 3)) (d_cons (d_var (pv 2)) d_nil))) (blkOk_by (own := [("person", 8), ("bike", 9)]) (N := N_next_arrival) (sc := defScope s_next_arrival) (by decide +kernel)) (fun _ _ _ _ _ => (pg_tup rfl (pgs_cons (pg_name (i := 8) sc_next_arrival.nd rfl (.inl rfl)) (pgs_cons (pg_name (i := 9) sc_next_arrival.nd rfl (.inl rfl)) pgs_nil)))) (fun _ _ _ _ _ => d_tnil) (fun _ _ _ _ _ => (d_bin o_add (d_callB (c_max rfl hr.units) (by rfl) T.z_max (by decide +kernel) (d_cons (d_ix (d_var (pv 1)) (d_var (pv 8)) (fun _ _ => rfl)) (d_cons (d_var (pv 9)) d_nil))) (d_var (pv 5)))))
 (d_seq (d_setLc (i := 7) (own := [("person", 8), ("tick", 10)]) (g := (gTup K 2 (gCons (gName 8) (gCons (gName 10) gNil)))) (st := (st2 8 10)) (lct2 (by decide)) (by rfl) sc_next_arrival.nd rfl rfl (sw_true rfl rfl rfl (by decide +kernel)) (d_enT (by rfl) T.z_enumerate (d_cons (d_var (pv 1)) d_nil)) (blkOk_by (own := [("person", 8), ("tick", 10)]) (N := N_next_arrival) (sc := defScope s_next_arrival) (by decide +kernel)) (fun _ _ _ _ _ => (pg_tup rfl (pgs_cons (pg_name (i := 8) sc_next_arrival.nd rfl (.inl rfl)) (pgs_cons (pg_name (i := 10) sc_next_arrival.nd rfl (.inl rfl)) pgs_nil)))) (fun _ _ _ _ _ => (d_tone (d_tcmp o_notin (d_var (pv 8)) (d_var (pv 3)) (by rfl)))) (fun _ _ _ _ _ => (d_bin o_add (d_var (pv 10)) (d_var (pv 4)))))
 (d_last (d_ret (d_tup (d_cons (d_callT c_tuple (by rfl) T.z_tuple (by decide +kernel) (d_cons (d_callB c_sorted (by rfl) T.z_sorted (by decide +kernel) (d_cons (d_bin o_add (d_var (pv 6)) (d_var (pv 7))) d_nil)) d_nil)) (d_cons (d_callT c_tuple (by rfl) T.z_tuple (by decide +kernel) (d_cons (d_var (pv 6)) d_nil)) d_nil))))))))
theorem G_law_draws (T : Tx K mg) : Rb.FnG P w K mg base CX0 1 T.f__law_draws T.fd__law_draws ["_law_script"] (spF (ct0 K mg) F_law_draws) := by
  unfold F_law_draws
  exact
   d_fn T.F__law_draws sc__law_draws fun cdv A out s H E hg hr => (d_seq (d_set (i := 1) sc__law_draws.nd rfl (.inl rfl) (d_bin o_add (d_lc (own := [("_law_cell", 2)]) (g := (gName 2)) (st := (st1 2)) lct1 (by rfl) sc__law_draws.nd (d_iseq (d_slice (d_var (pv 0)) d_noP (d_part d_int))) (blkOk_by (own := [("_law_cell", 2)]) (N := N__law_draws) (sc := defScope s__law_draws) (by decide +kernel)) (fun _ _ _ _ _ => (pg_name (i := 2) sc__law_draws.nd rfl (.inl rfl))) (fun _ _ _ _ _ => d_tnil) (fun _ _ _ _ _ => (d_callB c_abs (by rfl) T.z_abs (by decide +kernel) (d_cons (d_var (pv 2)) d_nil)))) (d_bin o_mul (d_lst (d_cons d_int d_nil)) (d_callT c_int (by rfl) T.z_int (by decide +kernel) (d_cons (d_cmp (o_ieq hr.units) (d_callB c_len (by rfl) T.z_len (by decide +kernel) (d_cons (d_var (pv 0)) d_nil)) d_int (nomark _)) d_nil)))))
 (d_last (d_ret (d_lstC (d_cons (d_var (pv 1)) (d_cons d_int (d_cons (d_lcC (own := [("_law_cell", 2)]) (g := (gName 2)) (st := (st1 2)) lct1 (by rfl) sc__law_draws.nd (d_iseq (d_var (pv 1))) (blkOk_by (own := [("_law_cell", 2)]) (N := N__law_draws) (sc := defScope s__law_draws) (by decide +kernel)) (fun _ _ _ _ _ => (pg_name (i := 2) sc__law_draws.nd rfl (.inl rfl))) (fun _ _ _ _ _ => d_tnil) (fun _ _ _ _ _ => (d_bin o_mul (d_var (pv 2)) (d_callT c_int (by rfl) T.z_int (by decide +kernel) (d_cons (d_cmp o_ge (d_var (pv 2)) (d_bin o_pow d_int d_int) (nomark _)) d_nil))))) d_nil)))))))
theorem G_law_next (T : Tx K mg) : Rb.FnG P w K mg base CX0 1 T.f__law_next T.fd__law_next ["_law_state", "_law_many"] (spF (ct0 K mg) F_law_next) := by
  unfold F_law_next
  exact
   d_fn T.F__law_next sc__law_next fun cdv A out s H E hg hr => (d_seq (d_asg (d_var (pv 0)) (d_gunl rfl (d_gcons (d_gn (pg_name (i := 2) sc__law_next.nd rfl (.inl rfl))) (d_gcons (d_gn (pg_name (i := 3) sc__law_next.nd rfl (.inl rfl))) (d_gcons (d_gn (pg_name (i := 4) sc__law_next.nd rfl (.inl rfl))) d_gnil)))))
 (d_seq (d_set (i := 5) sc__law_next.nd rfl (.inl rfl) (d_bin o_mod (d_var (pv 3)) (d_callB c_len (by rfl) T.z_len (by decide +kernel) (d_cons (d_var (pv 2)) d_nil))))
 (d_seq (d_asg (d_bin o_add (d_var (pv 3)) d_int) (d_gsub (d_var (pv 0)) d_int))
 (d_seq (d_if (d_tcmp o_gt (d_ix (d_var (pv 4)) (d_var (pv 5)) (fun _ _ => rfl)) d_int (nomark _))
 (d_seq (d_set (i := 6) sc__law_next.nd rfl (.inl rfl) (d_bin o_mod (d_ix (d_var (pv 4)) (d_var (pv 5)) (fun _ _ => rfl)) (d_var (pv 1))))
 (d_seq (d_asg (d_bin o_fdiv (d_ix (d_var (pv 4)) (d_var (pv 5)) (fun _ _ => rfl)) (d_var (pv 1))) (d_gsub (d_var (pv 4)) (d_var (pv 5))))
 (d_last (d_ret (d_var (pv 6))))))
 d_end)
 (d_seq (d_set (i := 7) sc__law_next.nd rfl (.inl rfl) (d_bin o_mod (d_bin o_pow (d_bin o_add (d_bin o_add (d_bin o_mod (d_ix (d_var (pv 2)) (d_var (pv 5)) (fun _ _ => rfl)) d_int) (d_bin o_mul d_int (d_var (pv 3)))) d_int) d_int) d_int))
 (d_seq (d_set (i := 7) sc__law_next.nd rfl (.inl rfl) (d_bin o_mod (d_bin o_pow (d_bin o_add (d_bin o_add (d_var (pv 7)) (d_bin o_mul (d_bin o_mul d_int (d_var (pv 3))) (d_var (pv 3)))) d_int) d_int) d_int))
 (d_last (d_ret (d_bin o_mod (d_bin o_fdiv (d_bin o_mod (d_bin o_mul (d_var (pv 7)) d_int) d_int) d_int) (d_var (pv 1)))))))))))
theorem G_law_groups (T : Tx K mg) : Rb.FnG P w K mg base CX0 1 T.f__law_groups T.fd__law_groups ["_law_people", "_law_most"] (spF (ct0 K mg) F_law_groups) := by
  unfold F_law_groups
  exact
   d_fn T.F__law_groups sc__law_groups fun cdv A out s H E hg hr => (d_seq (d_set (i := 2) sc__law_groups.nd rfl (.inl rfl) (d_lst (d_cons (d_tup d_nil) d_nil)))
 (d_seq (d_for PassesOwn.never rfl (d_rng1 (by rfl) T.z_range (d_cons (d_var (pv 0)) d_nil)) (d_gn (pg_name (i := 3) sc__law_groups.nd rfl (.inr rfl)))
 (d_last (d_set (i := 2) sc__law_groups.nd rfl (.inl rfl) (d_bin o_add (d_var (pv 2)) (d_lc (own := [("_law_group", 4)]) (g := (gName 4)) (st := (st1 4)) lct1 (by rfl) sc__law_groups.nd (d_iseq (d_var (pv 2))) (blkOk_by (own := [("_law_group", 4)]) (N := N__law_groups) (sc := defScope s__law_groups) (by decide +kernel)) (fun _ _ _ _ _ => (pg_name (i := 4) sc__law_groups.nd rfl (.inl rfl))) (fun _ _ _ _ _ => (d_tone (d_tcmp o_lt (d_callB c_len (by rfl) T.z_len (by decide +kernel) (d_cons (d_var (pv 4)) d_nil)) (d_var (pv 1)) (nomark _)))) (fun _ _ _ _ _ => (d_bin o_add (d_var (pv 4)) (d_tup (d_cons (d_var (pv 3)) d_nil)))))))))
 (d_last (d_ret (d_callB (c_sortT hr.units) (by rfl) T.z_sorted (by decide +kernel) (d_cons (d_var (pv 2)) d_nil))))))
theorem G_law_finish (T : Tx K mg) : Rb.FnG P w K mg base CX0 1 T.f__law_finish T.fd__law_finish ["_law_road_here", "_law_starts", "_law_plan"] (spF (ct0 K mg) F_law_finish_4) := by
  unfold F_law_finish_4
  exact
   d_fnC T.F__law_finish sc__law_finish fun cdv A out s H E hg hr => (d_seq (d_asg (d_tup (d_cons (d_callT c_listN (by rfl) T.z_list (by decide +kernel) (d_cons (d_var (pv 1)) d_nil)) (d_cons (d_lstC d_nil) d_nil))) (d_gtup rfl (d_gcons (d_gn (pg_name (i := 3) sc__law_finish.nd rfl (.inr rfl))) (d_gcons (d_gn (pg_name (i := 4) sc__law_finish.nd rfl (.inl rfl))) d_gnil))))
 (d_seq (d_for PassesOwn.never rfl (d_rng1 (by rfl) T.z_range (d_cons (d_callB c_len (by rfl) T.z_len (by decide +kernel) (d_cons (d_var (pv 2)) d_nil)) d_nil)) (d_gn (pg_name (i := 5) sc__law_finish.nd rfl (.inl rfl)))
 (d_seq (d_set (i := 6) sc__law_finish.nd rfl (.inl rfl) (d_callB c_sorted (by rfl) T.z_sorted (by decide +kernel) (d_cons (d_bin o_add (d_var (pv 4)) (d_bin o_mul (d_lst (d_cons d_int d_nil)) (d_ix (d_ix (d_var (pv 0)) d_int (fun _ _ => rfl)) (d_var (pv 5)) (fun _ _ => rfl)))) d_nil)))
 (d_seq (d_set (i := 7) sc__law_finish.nd rfl (.inl rfl) (d_callB c_sorted (by rfl) T.z_sorted (by decide +kernel) (d_cons (d_lc (own := [("_law_person", 11)]) (g := (gName 11)) (st := (st1 11)) lct1 (by rfl) sc__law_finish.nd (d_iseq (d_ix (d_var (pv 2)) (d_var (pv 5)) (fun _ _ => rfl))) (blkOk_by (own := [("_law_person", 11)]) (N := N__law_finish) (sc := defScope s__law_finish) (by decide +kernel)) (fun _ _ _ _ _ => (pg_name (i := 11) sc__law_finish.nd rfl (.inl rfl))) (fun _ _ _ _ _ => d_tnil) (fun _ _ _ _ _ => (d_tup (d_cons (d_ix (d_var (pv 3)) (d_var (pv 11)) (fun _ _ => rfl)) (d_cons (d_var (pv 11)) d_nil))))) d_nil)))
 (d_seq (d_par (i := 8) (j := 4) (by rfl) sc__law_finish.nd rfl rfl (by decide) rfl rfl (d_cons (d_lcC (own := [("_law_tick", 10)]) (g := (gName 10)) (st := (st1 10)) lct1 (by rfl) sc__law_finish.nd (d_iseq (d_var (pv 3))) (blkOk_by (own := [("_law_tick", 10)]) (N := N__law_finish) (sc := defScope s__law_finish) (by decide +kernel)) (fun _ _ _ _ _ => (pg_name (i := 10) sc__law_finish.nd rfl (.inl rfl))) (fun _ _ _ _ _ => d_tnil) (fun _ _ _ _ _ => (d_bin o_add (d_var (pv 10)) (d_ix (d_var (pv 0)) d_int (fun _ _ => rfl))))) (d_cons (d_lstC d_nil) d_nil)) (by rfl))
 (d_seq (d_for PassesOwn.never rfl (d_rng1 (by rfl) T.z_range (d_cons (d_callB c_len (by rfl) T.z_len (by decide +kernel) (d_cons (d_var (pv 7)) d_nil)) d_nil)) (d_gn (pg_name (i := 9) sc__law_finish.nd rfl (.inl rfl)))
 (d_seq (d_asg (d_ix (d_var (pv 7)) (d_var (pv 9)) (fun _ _ => rfl)) (d_gtup rfl (d_gcons (d_gn (pg_name (i := 10) sc__law_finish.nd rfl (.inl rfl))) (d_gcons (d_gn (pg_name (i := 11) sc__law_finish.nd rfl (.inl rfl))) d_gnil))))
 (d_seq (d_asg (d_bin o_add (d_callB (c_max rfl hr.units) (by rfl) T.z_max (by decide +kernel) (d_cons (d_var (pv 10)) (d_cons (d_ix (d_var (pv 6)) (d_var (pv 9)) (fun _ _ => rfl)) d_nil))) (d_ix (d_var (pv 0)) d_int (fun _ _ => rfl))) (d_gsub (d_var (pv 8)) (d_var (pv 11))))
 (d_last (d_expr (d_ml PySem.F.slot_list_append PySem.F.type_list_append m_append (d_var (pv 4)) (d_cons (d_ix (d_var (pv 8)) (d_var (pv 11)) (fun _ _ => rfl)) d_nil)))))))
 (d_last (d_set (i := 3) sc__law_finish.nd rfl (.inr rfl) (d_var (pv 8)))))))))
 (d_last (d_ret (d_callB (c_max rfl hr.units) (by rfl) T.z_max (by decide +kernel) (d_cons (d_var (pv 3)) d_nil))))))
theorem G_ways_on (T : Tx K mg) : Rb.FnG P w K mg base CX0 2 T.f_ways_on T.fd_ways_on ["road", "people"] (spF (ct0 K mg) F_ways_on) := by
  unfold F_ways_on
  exact
   d_fnC T.F_ways_on sc_ways_on fun cdv A out s H E hg hr => (d_seq (d_set (i := 2) sc_ways_on.nd rfl (.inr rfl) (d_call 0 (G_subset_counts T) hg hr (by rfl) T.g_subset_counts T.F_subset_counts.kp T.b_subset_counts passG (d_cons (d_var (pv 1)) d_nil)))
 (d_seq (d_set (i := 3) sc_ways_on.nd rfl (.inr rfl) (d_lstC (d_cons (d_bin o_mul (d_lst (d_cons d_int d_nil)) (d_bin o_add (d_var (pv 1)) d_int)) d_nil)))
 (d_seq (d_for PassesOwn.never rfl (d_iseq (d_revT (d_ix (d_var (pv 0)) d_int (fun _ _ => rfl)))) (d_gn (pg_name (i := 4) sc_ways_on.nd rfl (.inr rfl)))
 (d_seq (d_set (i := 5) sc_ways_on.nd rfl (.inr rfl) (d_lc (own := [("many", 6)]) (g := (gName 6)) (st := (st1 6)) lct1 (by rfl) sc_ways_on.nd (d_rng1 (by rfl) T.z_range (d_cons (d_bin o_add (d_var (pv 1)) d_int) d_nil)) (blkOk_by (own := [("many", 6)]) (N := N_ways_on) (sc := defScope s_ways_on) (by decide +kernel)) (fun _ _ _ _ _ => (pg_name (i := 6) sc_ways_on.nd rfl (.inl rfl))) (fun _ _ _ _ _ => d_tnil) (fun _ _ _ _ _ => (d_bin o_mul (d_ix (d_var (pv 2)) (d_var (pv 6)) (fun _ _ => rfl)) (d_ix (d_ix (d_var (pv 3)) (d_un u_neg d_int) (fun _ _ => rfl)) (d_var (pv 6)) (fun _ _ => rfl))))))
 (d_last (d_expr (d_ml PySem.F.slot_list_append PySem.F.type_list_append m_append (d_var (pv 3)) (d_cons (d_lc (own := [("brought", 7)]) (g := (gName 7)) (st := (st1 7)) lct1 (by rfl) sc_ways_on.nd (d_rng1 (by rfl) T.z_range (d_cons (d_bin o_add (d_var (pv 1)) d_int) d_nil)) (blkOk_by (own := [("brought", 7)]) (N := N_ways_on) (sc := defScope s_ways_on) (by decide +kernel)) (fun _ _ _ _ _ => (pg_name (i := 7) sc_ways_on.nd rfl (.inl rfl))) (fun _ _ _ _ _ => d_tnil) (fun _ _ _ _ _ => (d_callB (c_sum rfl) (by rfl) T.z_sum (by decide +kernel) (d_cons (d_slice (d_var (pv 5)) d_noP (d_part (d_bin o_add (d_bin o_add (d_var (pv 7)) (d_var (pv 4))) d_int))) d_nil)))) d_nil))))))
 (d_last (d_ret (d_revL (d_var (pv 3))))))))
theorem G_next_arrivals (T : Tx K mg) : Rb.FnG P w K mg base CX0 2 T.f_next_arrivals T.fd_next_arrivals ["road", "station", "arrivals", "groups", "end"] (spF (ct0 K mg) F_next_arrivals) := by
  unfold F_next_arrivals
  exact
   d_fn T.F_next_arrivals sc_next_arrivals fun cdv A out s H E hg hr => (d_seq (d_asg (d_var (pv 0)) (d_gtup rfl (d_gcons (d_gn (pg_name (i := 5) sc_next_arrivals.nd rfl (.inl rfl))) (d_gcons (d_gn (pg_name (i := 6) sc_next_arrivals.nd rfl (.inl rfl))) (d_gcons (d_gn (pg_name (i := 7) sc_next_arrivals.nd rfl (.inl rfl))) d_gnil)))))
 (d_seq (d_set (i := 8) sc_next_arrivals.nd rfl (.inr rfl) (d_bin o_sub (d_bin o_sub (d_var (pv 4)) (d_var (pv 5))) (d_bin o_mul (d_var (pv 6)) (d_bin o_sub (d_bin o_sub (d_callB c_len (by rfl) T.z_len (by decide +kernel) (d_cons (d_var (pv 7)) d_nil)) (d_var (pv 1))) d_int))))
 (d_seq (d_set (i := 9) sc_next_arrivals.nd rfl (.inl rfl) d_newN)
 (d_seq (d_forN PassesOwn.never rfl (d_var (pv 2)) (d_gtup rfl (d_gcons (d_gtup rfl (d_gcons (d_gn (pg_name (i := 10) sc_next_arrivals.nd rfl (.inl rfl))) (d_gcons (d_gn (pg_name (i := 11) sc_next_arrivals.nd rfl (.inl rfl))) d_gnil))) (d_gcons (d_gn (pg_name (i := 12) sc_next_arrivals.nd rfl (.inl rfl))) d_gnil)))
 (d_seq (d_set (i := 13) sc_next_arrivals.nd rfl (.inl rfl) (d_bin o_add (d_bin o_mul0 (d_tup (d_cons d_int d_nil)) (d_ix (d_var (pv 7)) (d_var (pv 1)) (fun _ _ => rfl))) (d_var (pv 11))))
 (d_seq (d_set (i := 14) sc_next_arrivals.nd rfl (.inl rfl) (d_callT c_tuple (by rfl) T.z_tuple (by decide +kernel) (d_cons (d_lc (own := [("person", 17), ("tick", 18)]) (g := (gTup K 2 (gCons (gName 17) (gCons (gName 18) gNil)))) (st := (st2 17 18)) (lct2 (by decide)) (by rfl) sc_next_arrivals.nd (d_enT (by rfl) T.z_enumerate (d_cons (d_var (pv 10)) d_nil)) (blkOk_by (own := [("person", 17), ("tick", 18)]) (N := N_next_arrivals) (sc := defScope s_next_arrivals) (by decide +kernel)) (fun _ _ _ _ _ => (pg_tup rfl (pgs_cons (pg_name (i := 17) sc_next_arrivals.nd rfl (.inl rfl)) (pgs_cons (pg_name (i := 18) sc_next_arrivals.nd rfl (.inl rfl)) pgs_nil)))) (fun _ _ _ _ _ => (d_tone (d_tcmp o_gt (d_var (pv 18)) (d_var (pv 8)) (nomark _)))) (fun _ _ _ _ _ => (d_var (pv 17)))) d_nil)))
 (d_last (d_for PassesOwn.never rfl (d_iseq (d_ix (d_var (pv 3)) (d_callB (c_minL rfl) (by rfl) T.z_min (by decide +kernel) (d_cons (d_callB c_len (by rfl) T.z_len (by decide +kernel) (d_cons (d_var (pv 10)) d_nil)) (d_cons (d_callB c_len (by rfl) T.z_len (by decide +kernel) (d_cons (d_var (pv 13)) d_nil)) d_nil))) (fun _ _ => rfl))) (d_gn (pg_name (i := 15) sc_next_arrivals.nd rfl (.inl rfl)))
 (d_last (d_if (d_tcmp (o_ieq hr.units) (d_slice (d_var (pv 15)) (d_part (d_bin o_sub (d_callB c_len (by rfl) T.z_len (by decide +kernel) (d_cons (d_var (pv 15)) d_nil)) (d_callB c_len (by rfl) T.z_len (by decide +kernel) (d_cons (d_var (pv 14)) d_nil)))) d_noP) (d_var (pv 14)) (nomark _))
 (d_seq (d_set (i := 16) sc_next_arrivals.nd rfl (.inl rfl) (d_callW (G_next_arrival T) hg hr (by rfl) T.g_next_arrival T.F_next_arrival.kp T.b_next_arrival passG (d_cons (d_var (pv 0)) (d_cons (d_var (pv 10)) (d_cons (d_var (pv 13)) (d_cons (d_var (pv 15)) d_nil))))))
 (d_last (d_asg (d_bin o_add (d_getN (un9 hr.units) (d_var (pv 9)) (d_var (pv 16)) d_int ⟨rfl, rfl, rfl, rfl⟩) (d_var (pv 12))) (d_gsubN (un9 hr.units) (d_var (pv 9)) (d_var (pv 16))))))
 d_end)))))))
 (d_last (d_ret (d_var (pv 9))))))))
theorem G_law_road (T : Tx K mg) : Rb.FnG P w K mg base CX0 2 T.f__law_road T.fd__law_road ["_law_state", "_law_stages", "_law_most"] (spF (ct0 K mg) F_law_road_3) := by
  unfold F_law_road_3
  exact
   d_fn T.F__law_road sc__law_road fun cdv A out s H E hg hr => (d_seq (d_set (i := 3) sc__law_road.nd rfl (.inl rfl) (d_bin o_add d_int (d_callW (G_law_next T) hg hr (by rfl) T.g__law_next T.F__law_next.kp T.b__law_next passG (d_cons (d_var (pv 0)) (d_cons (d_ix (d_lst (d_cons d_int (d_cons d_int (d_cons d_int d_nil)))) (d_callW (G_law_next T) hg hr (by rfl) T.g__law_next T.F__law_next.kp T.b__law_next passG (d_cons (d_var (pv 0)) (d_cons d_int d_nil))) (fun _ _ => rfl)) d_nil)))))
 (d_seq (d_par (i := 4) (j := 5) (by rfl) sc__law_road.nd rfl rfl (by decide) rfl rfl (d_cons (d_bin o_add (d_bin o_add (d_var (pv 3)) d_int) (d_callW (G_law_next T) hg hr (by rfl) T.g__law_next T.F__law_next.kp T.b__law_next passG (d_cons (d_var (pv 0)) (d_cons (d_callB (c_minL rfl) (by rfl) T.z_min (by decide +kernel) (d_cons (d_bin o_sub d_int (d_var (pv 3))) (d_cons (d_ix (d_lst (d_cons d_int (d_cons d_int (d_cons d_int d_nil)))) (d_callW (G_law_next T) hg hr (by rfl) T.g__law_next T.F__law_next.kp T.b__law_next passG (d_cons (d_var (pv 0)) (d_cons d_int d_nil))) (fun _ _ => rfl)) d_nil))) d_nil)))) (d_cons (d_tup d_nil) d_nil)) (by rfl))
 (d_seq (d_for PassesOwn.never rfl (d_rng1 (by rfl) T.z_range (d_cons (d_bin o_add d_int (d_callW (G_law_next T) hg hr (by rfl) T.g__law_next T.F__law_next.kp T.b__law_next passG (d_cons (d_var (pv 0)) (d_cons (d_var (pv 1)) d_nil)))) d_nil)) (d_gn (pg_name (i := 6) sc__law_road.nd rfl (.inl rfl)))
 (d_last (d_set (i := 5) sc__law_road.nd rfl (.inl rfl) (d_bin o_add (d_var (pv 5)) (d_tup (d_cons (d_ix (d_lst (d_cons (d_callW (G_law_next T) hg hr (by rfl) T.g__law_next T.F__law_next.kp T.b__law_next passG (d_cons (d_var (pv 0)) (d_cons (d_bin o_add (d_var (pv 2)) d_int) d_nil))) (d_cons d_int (d_cons d_int (d_cons d_int d_nil))))) (d_callW (G_law_next T) hg hr (by rfl) T.g__law_next T.F__law_next.kp T.b__law_next passG (d_cons (d_var (pv 0)) (d_cons d_int d_nil))) (fun _ _ => rfl)) d_nil))))))
 (d_last (d_ret (d_tup (d_cons (d_var (pv 4)) (d_cons (d_var (pv 3)) (d_cons (d_var (pv 5)) d_nil)))))))))
theorem G_law_plans (T : Tx K mg) : Rb.FnG P w K mg base CX0 2 T.f__law_plans T.fd__law_plans ["_law_road_here", "_law_people"] (spF (ct0 K mg) F_law_plans) := by
  unfold F_law_plans
  exact
   d_fnC T.F__law_plans sc__law_plans fun cdv A out s H E hg hr => (d_seq (d_set (i := 2) sc__law_plans.nd rfl (.inl rfl) (d_lst (d_cons (d_tup d_nil) d_nil)))
 (d_seq (d_for PassesOwn.never rfl (d_iseq (d_ix (d_var (pv 0)) d_int (fun _ _ => rfl))) (d_gn (pg_name (i := 3) sc__law_plans.nd rfl (.inl rfl)))
 (d_seq (d_set (i := 4) sc__law_plans.nd rfl (.inl rfl) (d_lstC d_nil))
 (d_seq (d_for PassesOwn.never rfl (d_iseq (d_var (pv 2))) (d_gn (pg_name (i := 5) sc__law_plans.nd rfl (.inr rfl)))
 (d_seq (d_set (i := 6) sc__law_plans.nd rfl (.inl rfl) (d_ifE (d_tcmp (o_ine hr.units) (d_var (pv 5)) (d_tup d_nil) (nomark _)) (d_callB c_len (by rfl) T.z_len (by decide +kernel) (d_cons (d_ix (d_var (pv 5)) (d_un u_neg d_int) (fun _ _ => rfl)) d_nil)) d_int))
 (d_last (d_expr (d_ml PySem.F.slot_list_extend PySem.F.type_list_extend m_extend (d_var (pv 4)) (d_cons (d_lc (own := [("_law_group", 7)]) (g := (gName 7)) (st := (st1 7)) lct1 (by rfl) sc__law_plans.nd (d_iseq (d_callW (G_law_groups T) hg hr (by rfl) T.g__law_groups T.F__law_groups.kp T.b__law_groups passG (d_cons (d_var (pv 1)) (d_cons (d_bin o_add (d_var (pv 6)) (d_var (pv 3))) d_nil)))) (blkOk_by (own := [("_law_group", 7)]) (N := N__law_plans) (sc := defScope s__law_plans) (by decide +kernel)) (fun _ _ _ _ _ => (pg_name (i := 7) sc__law_plans.nd rfl (.inl rfl))) (fun _ _ _ _ _ => d_tnil) (fun _ _ _ _ _ => (d_bin o_add (d_var (pv 5)) (d_tup (d_cons (d_var (pv 7)) d_nil))))) d_nil))))))
 (d_last (d_set (i := 2) sc__law_plans.nd rfl (.inl rfl) (d_var (pv 4)))))))
 (d_last (d_ret (d_var (pv 2))))))
theorem G_law_bound (T : Tx K mg) : Rb.FnG P w K mg base CX0 2 T.f__law_bound T.fd__law_bound ["_law_road_here", "_law_people"] (spF (ct0 K mg) F_law_bound) := by
  unfold F_law_bound
  exact
   d_fn T.F__law_bound sc__law_bound fun cdv A out s H E hg hr => (d_seq (d_asg (d_tup (d_cons d_int (d_cons d_int d_nil))) (d_gtup rfl (d_gcons (d_gn (pg_name (i := 2) sc__law_bound.nd rfl (.inl rfl))) (d_gcons (d_gn (pg_name (i := 3) sc__law_bound.nd rfl (.inl rfl))) d_gnil))))
 (d_seq (d_for PassesOwn.never rfl (d_iseq (d_ix (d_var (pv 0)) d_int (fun _ _ => rfl))) (d_gn (pg_name (i := 4) sc__law_bound.nd rfl (.inl rfl)))
 (d_seq (d_set (i := 3) sc__law_bound.nd rfl (.inl rfl) (d_callB (c_minL rfl) (by rfl) T.z_min (by decide +kernel) (d_cons (d_var (pv 1)) (d_cons (d_bin o_add (d_var (pv 3)) (d_var (pv 4))) d_nil))))
 (d_last (d_set (i := 2) sc__law_bound.nd rfl (.inl rfl) (d_bin o_mul (d_var (pv 2)) (d_callB c_len (by rfl) T.z_len (by decide +kernel) (d_cons (d_callW (G_law_groups T) hg hr (by rfl) T.g__law_groups T.F__law_groups.kp T.b__law_groups passG (d_cons (d_var (pv 1)) (d_cons (d_var (pv 3)) d_nil))) d_nil)))))))
 (d_last (d_ret (d_var (pv 2))))))
theorem G_count_plans (T : Tx K mg) : Rb.FnG P w K mg base CX0 3 T.f_count_plans T.fd_count_plans ["road", "people"] (spF (ct0 K mg) F_count_plans) := by
  unfold F_count_plans
  exact
   d_fn T.F_count_plans sc_count_plans fun cdv A out s H E hg hr => (d_last (d_ret (d_ix (d_ix (d_call 0 (G_ways_on T) hg hr (by rfl) T.g_ways_on T.F_ways_on.kp T.b_ways_on passG (d_cons (d_var (pv 0)) (d_cons (d_var (pv 1)) d_nil))) d_int (fun _ _ => rfl)) d_int (fun _ _ => rfl))))
theorem G_count_good (T : Tx K mg) : Rb.FnG P w K mg base (L2.CX P w) 3 T.f_count_good T.fd_count_good ["road", "starts", "end"] (spF (ct0 K mg) F_count_good) := by
  unfold F_count_good
  exact
   d_fnX T.F_count_good sc_count_good fun cdv A out s H E hg hr => (d_seq (d_set (i := 3) sc_count_good.nd rfl (.inl rfl) (d_call 0 (G_ways_on T) hg hr (by rfl) T.g_ways_on T.F_ways_on.kp T.b_ways_on passG (d_cons (d_var (pv 0)) (d_cons (d_callB c_len (by rfl) T.z_len (by decide +kernel) (d_cons (d_var (pv 1)) d_nil)) d_nil))))
 (d_seq (d_if (d_tcmp o_gt (d_ix (d_ix (d_var (pv 3)) d_int (fun _ _ => rfl)) d_int (fun _ _ => rfl)) (d_gint (by rfl) T.c_SMALL_PLANS) (nomark _))
 (d_last (d_raiseE rfl (takes_of rfl rfl rfl rfl) PySem.F.excBase_ValueError T.L_TooLarge T.iC_TooLarge T.tI_TooLarge (Gi_TooLarge T) hr T.bI_TooLarge (by rfl) T.gC_TooLarge (d_gint (by rfl) T.c_SMALL_PLANS)))
 d_end)
 (d_seq (d_set (i := 4) sc_count_good.nd rfl (.inl rfl) (d_call 0 (G_groups_up_to T) hg (hr.mono (by decide)) (by rfl) T.g_groups_up_to T.F_groups_up_to.kp T.b_groups_up_to passG (d_cons (d_callB c_len (by rfl) T.z_len (by decide +kernel) (d_cons (d_var (pv 1)) d_nil)) (d_cons (d_callB (c_minL rfl) (by rfl) T.z_min (by decide +kernel) (d_cons (d_callB c_len (by rfl) T.z_len (by decide +kernel) (d_cons (d_var (pv 1)) d_nil)) (d_cons (d_callB (c_sum rfl) (by rfl) T.z_sum (by decide +kernel) (d_cons (d_ix (d_var (pv 0)) d_int (fun _ _ => rfl)) d_nil)) d_nil))) d_nil))))
 (d_seq (d_set (i := 5) sc_count_good.nd rfl (.inl rfl) (d_oneN (un8 hr.units) (d_tup (d_cons (d_callT c_tuple (by rfl) T.z_tuple (by decide +kernel) (d_cons (d_callB c_sortTI (by rfl) T.z_sorted (by decide +kernel) (d_cons (d_var (pv 1)) d_nil)) d_nil)) (d_cons (d_tup d_nil) d_nil))) d_int))
 (d_seq (d_set (i := 6) sc_count_good.nd rfl (.inl rfl) d_int)
 (d_seq (d_for (passes_of rfl) rfl (d_enL (by rfl) T.z_enumerate (d_cons (d_var (pv 3)) d_nil)) (d_gtup rfl (d_gcons (d_gn (pg_name (i := 7) sc_count_good.nd rfl (.inl rfl))) (d_gcons (d_gn (pg_name (i := 8) sc_count_good.nd rfl (.inl rfl))) d_gnil)))
 (d_seq (d_set (i := 9) sc_count_good.nd rfl (.inl rfl) d_newN)
 (d_seq (d_forN (passes_of rfl) rfl (d_var (pv 5)) (d_gtup rfl (d_gcons (d_gtup rfl (d_gcons (d_gn (pg_name (i := 10) sc_count_good.nd rfl (.inl rfl))) (d_gcons (d_gn (pg_name (i := 11) sc_count_good.nd rfl (.inl rfl))) d_gnil))) (d_gcons (d_gn (pg_name (i := 12) sc_count_good.nd rfl (.inl rfl))) d_gnil)))
 (d_last (d_if (d_tval (d_callW (G_is_surely_good T) hg (hr.mono (by decide)) (by rfl) T.g_is_surely_good T.F_is_surely_good.kp T.b_is_surely_good passG (d_cons (d_var (pv 0)) (d_cons (d_var (pv 7)) (d_cons (d_var (pv 10)) (d_cons (d_var (pv 2)) d_nil))))))
 (d_last (d_augI (i := 6) sc_count_good.nd rfl (.inl rfl) (d_bin o_mul (d_var (pv 12)) (d_ix (d_var (pv 8)) (d_callB c_len (by rfl) T.z_len (by decide +kernel) (d_cons (d_var (pv 11)) d_nil)) (fun _ _ => rfl)))))
 (d_last (d_if (d_tval (d_callW (G_is_maybe_good T) hg (hr.mono (by decide)) (by rfl) T.g_is_maybe_good T.F_is_maybe_good.kp T.b_is_maybe_good passG (d_cons (d_var (pv 0)) (d_cons (d_var (pv 7)) (d_cons (d_var (pv 10)) (d_cons (d_var (pv 2)) d_nil))))))
 (d_last (d_asg (d_var (pv 12)) (d_gsubN (un9 hr.units) (d_var (pv 9)) (d_tup (d_cons (d_var (pv 10)) (d_cons (d_var (pv 11)) d_nil))))))
 d_end)))))
 (d_last (d_set (i := 5) sc_count_good.nd rfl (.inl rfl) (d_callW (G_next_arrivals T) hg hr (by rfl) T.g_next_arrivals T.F_next_arrivals.kp T.b_next_arrivals passG (d_cons (d_var (pv 0)) (d_cons (d_var (pv 7)) (d_cons (d_var (pv 9)) (d_cons (d_var (pv 4)) (d_cons (d_var (pv 2)) d_nil)))))))))))
 (d_last (d_ret (d_var (pv 6))))))))))
theorem G_law_small (T : Tx K mg) : Rb.FnG P w K mg base CX0 3 T.f__law_small T.fd__law_small ["_law_state", "_law_plans_here"] (spF (ct0 K mg) F_law_small) := by
  unfold F_law_small
  exact
   d_fn T.F__law_small sc__law_small fun cdv A out s H E hg hr => (d_seq (d_par (i := 2) (j := 3) (by rfl) sc__law_small.nd rfl rfl (by decide) rfl rfl (d_cons (d_callW (G_law_road T) hg hr (by rfl) T.g__law_road T.F__law_road.kp T.b__law_road passG (d_cons (d_var (pv 0)) (d_cons d_int (d_cons d_int d_nil)))) (d_cons (d_bin o_add d_int (d_callW (G_law_next T) hg (hr.mono (by decide)) (by rfl) T.g__law_next T.F__law_next.kp T.b__law_next passG (d_cons (d_var (pv 0)) (d_cons d_int d_nil)))) d_nil)) (by rfl))
 (d_seq (d_while PassesOwn.never (d_tcmp o_gt (d_callW (G_law_bound T) hg hr (by rfl) T.g__law_bound T.F__law_bound.kp T.b__law_bound passG (d_cons (d_var (pv 2)) (d_cons (d_var (pv 3)) d_nil))) (d_var (pv 1)) (nomark _))
 (d_last (d_set (i := 2) sc__law_small.nd rfl (.inl rfl) (d_tup (d_cons (d_ix (d_var (pv 2)) d_int (fun _ _ => rfl)) (d_cons (d_ix (d_var (pv 2)) d_int (fun _ _ => rfl)) (d_cons (d_slice (d_ix (d_var (pv 2)) d_int (fun _ _ => rfl)) d_noP (d_part (d_un u_neg d_int))) d_nil)))))))
 (d_last (d_ret (d_lst (d_cons (d_var (pv 2)) (d_cons (d_var (pv 3)) d_nil)))))))
theorem G_law_told (T : Tx K mg) : Rb.FnG P w K mg base CX0 4 T.f__law_told T.fd__law_told ["_law_road_here", "_law_starts", "_law_end"] (spF (ct0 K mg) F_law_told_3) := by
  unfold F_law_told_3
  exact
   d_fnC T.F__law_told sc__law_told fun cdv A out s H E hg hr => (d_last (d_try (i := 3) rfl rfl rfl sc__law_told.nd rfl rfl ⟨by rfl, by decide, Or.inl T.gC_TripError⟩ takes0E (tab_of (allS (xt_of T.gC_TooLarge T.x_TooLarge_TripError) all0))
 (fun W pn xe tk _ => (x_last (x_ret (d_callW (G_count_good T) hg hr (by rfl) T.g_count_good T.F_count_good.kp T.b_count_good (passW tk) (d_cons (d_var (pv 0)) (d_cons (d_var (pv 1)) (d_cons (d_var (pv 2)) d_nil)))))))
 (fun a oe pn hfd => (d_seq (d_set (i := 4) sc__law_told.nd rfl (.inl rfl) (d_isXT hfd (allS T.xi_TooLarge_BadEnd (allS T.xi_TooLarge_BadRoad (allS T.xi_TooLarge_BadStarts (allS T.xi_TooLarge_TooLate (allS T.xi_TooLarge_TooLong (allS T.xi_TooLarge_TooMuch (allS T.xi_TooLarge_LookupError all0))))))) (by rfl) T.z_isinstance (pv 3) (ClEs.cons (cl_own (by rfl) T.gC_BadEnd) (ClEs.cons (cl_own (by rfl) T.gC_BadRoad) (ClEs.cons (cl_own (by rfl) T.gC_BadStarts) (ClEs.cons (cl_own (by rfl) T.gC_TooLate) (ClEs.cons (cl_own (by rfl) T.gC_TooLong) (ClEs.cons (cl_own (by rfl) T.gC_TooMuch) (ClEs.cons (cl_ty (n := "LookupError") (by rfl) T.z_LookupError (by decide +kernel)) ClEs.nil))))))) (Nat.le_of_ble_eq_true rfl)))
 (d_last (d_ret (d_ifE (PW.pt (d_and (d_tval (d_isX hfd (allS T.xi_TooLarge_TooLarge all0) (by rfl) T.z_isinstance (pv 3) (cl_own (by rfl) T.gC_TooLarge))) (d_and1 (d_not (d_tval (d_var (pv 4))))))) (d_lst (d_cons (d_xf hfd (allS ⟨_, T.gC_TooLarge, T.E_TooLarge.xf, T.no_TooLarge⟩ all0) (pv 3)) d_nil)) (d_lst (d_cons d_str d_nil)))))))))
theorem G_law (T : Tx K mg) : Rb.FnG P w K mg base CX0 5 T.f_law T.fd_law ["_law_script"] (spF (ct0 K mg) F_law_k25) := by
  unfold F_law_k25
  exact
   d_fnC T.F_law sc_law fun cdv A out s H E hg hr => (d_seq (d_set (i := 1) sc_law.nd rfl (.inr rfl) (d_callW (G_law_draws T) hg (hr.mono (by decide)) (by rfl) T.g__law_draws T.F__law_draws.kp T.b__law_draws passG (d_cons (d_var (pv 0)) d_nil)))
 (d_seq (d_for PassesOwn.never rfl (d_rng1 (by rfl) T.z_range (d_cons d_int d_nil)) (d_gn (pg_name (i := 2) sc_law.nd rfl (.inl rfl)))
 (d_seq (d_asg (d_callW (G_law_small T) hg (hr.mono (by decide)) (by rfl) T.g__law_small T.F__law_small.kp T.b__law_small passG (d_cons (d_var (pv 1)) (d_cons d_int d_nil))) (d_gunl rfl (d_gcons (d_gn (pg_name (i := 3) sc_law.nd rfl (.inr rfl))) (d_gcons (d_gn (pg_name (i := 4) sc_law.nd rfl (.inl rfl))) d_gnil))))
 (d_seq (d_set (i := 5) sc_law.nd rfl (.inr rfl) (d_ix (d_lst (d_cons d_int (d_cons d_int (d_cons (d_bin o_add (d_bin o_pow d_int d_int) d_int) d_nil)))) (d_callW (G_law_next T) hg (hr.mono (by decide)) (by rfl) T.g__law_next T.F__law_next.kp T.b__law_next passG (d_cons (d_var (pv 1)) (d_cons d_int d_nil))) (fun _ _ => rfl)))
 (d_seq (d_set (i := 6) sc_law.nd rfl (.inr rfl) (d_callT c_tuple (by rfl) T.z_tuple (by decide +kernel) (d_cons (d_lc (own := [("_law_person", 14)]) (g := (gName 14)) (st := (st1 14)) lct1 (by rfl) sc_law.nd (d_rng1 (by rfl) T.z_range (d_cons (d_var (pv 4)) d_nil)) (blkOk_by (own := [("_law_person", 14)]) (N := N_law) (sc := defScope s_law) (by decide +kernel)) (fun _ _ _ _ _ => (pg_name (i := 14) sc_law.nd rfl (.inl rfl))) (fun _ _ _ _ _ => d_tnil) (fun _ _ _ _ _ => (d_callW (G_law_next T) hg (hr.mono (by decide)) (by rfl) T.g__law_next T.F__law_next.kp T.b__law_next passG (d_cons (d_var (pv 1)) (d_cons (d_var (pv 5)) d_nil))))) d_nil)))
 (d_seq (d_setLc (i := 7) (own := [("_law_plan", 15)]) (g := (gName 15)) (st := (st1 15)) lct1 (by rfl) sc_law.nd rfl rfl (sw_true rfl rfl rfl (by decide +kernel)) (d_iseq (d_call 0 (G_law_plans T) hg (hr.mono (by decide)) (by rfl) T.g__law_plans T.F__law_plans.kp T.b__law_plans passG (d_cons (d_var (pv 3)) (d_cons (d_var (pv 4)) d_nil)))) (blkOk_by (own := [("_law_plan", 15)]) (N := N_law) (sc := defScope s_law) (by decide +kernel)) (fun _ _ _ _ _ => (pg_name (i := 15) sc_law.nd rfl (.inl rfl))) (fun _ _ _ _ _ => d_tnil) (fun _ _ _ _ _ => (d_call 0 (G_law_finish T) hg (hr.mono (by decide)) (by rfl) T.g__law_finish T.F__law_finish.kp T.b__law_finish passG (d_cons (d_var (pv 3)) (d_cons (d_var (pv 6)) (d_cons (d_var (pv 15)) d_nil))))))
 (d_seq (d_par (i := 8) (j := 9) (by rfl) sc_law.nd rfl rfl (by decide) rfl rfl (d_cons (d_step (d_var (pv 7)) (d_bin o_add d_int (d_bin o_fdiv (d_callB c_len (by rfl) T.z_len (by decide +kernel) (d_cons (d_var (pv 7)) d_nil)) d_int))) (d_cons (d_callB (c_reprC hg hr.units) (by rfl) T.z_repr (by decide +kernel) (d_cons (d_lst (d_cons (d_var (pv 3)) (d_cons (d_var (pv 6)) d_nil))) d_nil)) d_nil)) (by rfl))
 (d_seq (d_for PassesOwn.never rfl (d_iseq (d_bin o_add (d_bin o_add (d_lst (d_cons (d_callB (c_min rfl hr.units) (by rfl) T.z_min (by decide +kernel) (d_cons (d_var (pv 7)) d_nil)) (d_cons (d_callB (c_min rfl hr.units) (by rfl) T.z_min (by decide +kernel) (d_cons (d_var (pv 7)) d_nil)) d_nil))) (d_var (pv 8))) (d_lst (d_cons (d_callB (c_max rfl hr.units) (by rfl) T.z_max (by decide +kernel) (d_cons d_int (d_cons (d_bin o_sub (d_callB (c_min rfl hr.units) (by rfl) T.z_min (by decide +kernel) (d_cons (d_var (pv 7)) d_nil)) d_int) d_nil))) (d_cons (d_callB (c_max rfl hr.units) (by rfl) T.z_max (by decide +kernel) (d_cons (d_var (pv 7)) d_nil)) (d_cons d_int (d_cons (d_bin o_pow d_int d_int) d_nil))))))) (d_gn (pg_name (i := 10) sc_law.nd rfl (.inr rfl)))
 (d_seq (d_set (i := 11) sc_law.nd rfl (.inl rfl) (d_callB c_len (by rfl) T.z_len (by decide +kernel) (d_cons (d_lc (own := [("_law_finish_here", 16)]) (g := (gName 16)) (st := (st1 16)) lct1 (by rfl) sc_law.nd (d_iseq (d_var (pv 7))) (blkOk_by (own := [("_law_finish_here", 16)]) (N := N_law) (sc := defScope s_law) (by decide +kernel)) (fun _ _ _ _ _ => (pg_name (i := 16) sc_law.nd rfl (.inl rfl))) (fun _ _ _ _ _ => (d_tone (d_tcmp o_le (d_var (pv 16)) (d_var (pv 10)) (nomark _)))) (fun _ _ _ _ _ => (d_var (pv 16)))) d_nil)))
 (d_last (d_if (PW.pt (d_or (d_tcmp (o_ine hr.units) (d_callB (c_reprC hg hr.units) (by rfl) T.z_repr (by decide +kernel) (d_cons (d_call 0 (G_law_told T) hg hr (by rfl) T.g__law_told T.F__law_told.kp T.b__law_told passG (d_cons (d_var (pv 3)) (d_cons (d_var (pv 6)) (d_cons (d_var (pv 10)) d_nil)))) d_nil)) (d_callB (c_reprC hg hr.units) (by rfl) T.z_repr (by decide +kernel) (d_cons (d_var (pv 11)) d_nil)) (nomark _)) (d_or1 (d_tcmp (o_ine hr.units) (d_callB (c_reprC hg hr.units) (by rfl) T.z_repr (by decide +kernel) (d_cons (d_lst (d_cons (d_var (pv 3)) (d_cons (d_var (pv 6)) d_nil))) d_nil)) (d_var (pv 9)) (nomark _)))))
 (d_last (d_ret d_bl))
 d_end))))
 (d_seq (d_set (i := 12) sc_law.nd rfl (.inl rfl) (d_callW (G_law_road T) hg (hr.mono (by decide)) (by rfl) T.g__law_road T.F__law_road.kp T.b__law_road passG (d_cons (d_var (pv 1)) (d_cons d_int (d_cons d_int d_nil)))))
 (d_last (d_if (PW.pt (d_and (d_tcmp o_gt (d_callW (G_count_plans T) hg (hr.mono (by decide)) (by rfl) T.g_count_plans T.F_count_plans.kp T.b_count_plans passG (d_cons (d_var (pv 12)) (d_cons d_int d_nil))) d_int (nomark _)) (d_and1 (d_tcmp (o_ine hr.units) (d_callB (c_reprC hg hr.units) (by rfl) T.z_repr (by decide +kernel) (d_cons (d_call 0 (G_law_told T) hg hr (by rfl) T.g__law_told T.F__law_told.kp T.b__law_told passG (d_cons (d_var (pv 12)) (d_cons (d_bin o_mul (d_tup (d_cons d_int d_nil)) d_int) (d_cons (d_bin o_pow d_int d_int) d_nil)))) d_nil)) (d_callB (c_reprC hg hr.units) (by rfl) T.z_repr (by decide +kernel) (d_cons (d_lst (d_cons d_int d_nil)) d_nil)) (nomark _)))))
 (d_last (d_ret d_bl))
 d_end))))))))))
 (d_seq (d_set (i := 13) sc_law.nd rfl (.inl rfl) (d_lstC (d_cons (d_call 0 (G_law_told T) hg hr (by rfl) T.g__law_told T.F__law_told.kp T.b__law_told passG (d_cons (d_tup (d_cons d_int (d_cons d_int (d_cons (d_tup (d_cons d_int (d_cons d_int d_nil))) d_nil)))) (d_cons (d_bin o_mul (d_tup (d_cons d_int d_nil)) d_int) (d_cons d_int d_nil)))) (d_cons (d_call 0 (G_law_told T) hg hr (by rfl) T.g__law_told T.F__law_told.kp T.b__law_told passG (d_cons (d_tup (d_cons d_int (d_cons d_int (d_cons (d_tup (d_cons d_int (d_cons d_int (d_cons d_int d_nil)))) d_nil)))) (d_cons (d_tup (d_cons d_int (d_cons d_int d_nil))) (d_cons (d_bin o_pow d_int d_int) d_nil)))) d_nil))))
 (d_seq (d_expr (d_ml PySem.F.slot_list_append PySem.F.type_list_append m_append (d_var (pv 13)) (d_cons (d_call 0 (G_law_told T) hg hr (by rfl) T.g__law_told T.F__law_told.kp T.b__law_told passG (d_cons (d_tup (d_cons d_int (d_cons d_int (d_cons (d_tup (d_cons d_int (d_cons d_int (d_cons d_int (d_cons d_int (d_cons d_int d_nil)))))) d_nil)))) (d_cons (d_tup (d_cons d_int (d_cons d_int (d_cons d_int d_nil)))) (d_cons (d_bin o_pow d_int d_int) d_nil)))) d_nil)))
 (d_last (d_ret (d_andV (d_cmp (o_ieq hr.units) (d_callB (c_reprC hg hr.units) (by rfl) T.z_repr (by decide +kernel) (d_cons (d_var (pv 13)) d_nil)) (d_callB (c_reprC hg hr.units) (by rfl) T.z_repr (by decide +kernel) (d_cons (d_lst (d_cons (d_lst (d_cons d_int d_nil)) (d_cons d_int (d_cons d_int d_nil)))) d_nil)) (nomark _)) (d_one (d_cmp (o_ieq hr.units) (d_gint (by rfl) T.c_SMALL_PLANS) d_int (nomark _))))))))))
end
end Pu
namespace Rb
/-! ## count_good: what comes behind a stage depends on the sorted ticks alone -/
section
variable {ticks : List Int} {riders brought : List Nat} {st : Nat} {walk ride : Int}
theorem row_pair (h : riders.length ≤ st + brought.length) (nd : riders.Nodup) (hl : ∀ p ∈ riders, p < ticks.length) {z : (Int × Int) × Int} (hz : z ∈ pairsM ticks riders brought st) :
    tickAt (rowM ticks riders brought st walk ride) z.1.2.toNat = mx z.1.1 z.2 + ride := by
  obtain ⟨p, hp, e⟩ := pairs_mem hz
  have ep : z.1.2.toNat = p := by rw [e]; exact Int.toNat_natCast p
  have pp := pairs_people (ticks := ticks) h
  have e2 : (leaveM ticks riders brought st)[p]? = some (mx z.1.1 z.2) := by
    refine setF_in _ _ p _ ?_ (List.mem_map.mpr ⟨_, hz, by rw [ep]⟩) (hl p hp)
    rw [List.map_map]
    exact pp.nodup_iff.mpr nd
  rw [ep]
  unfold tickAt rowM
  rw [List.getD_eq_getElem?_getD, List.getElem?_mapIdx, e2]
  simp only [Option.map_some, hp, if_true, Option.getD_some]
theorem row_walk {p : Nat} (hp : p ∉ riders) (hl : p < ticks.length) : tickAt (rowM ticks riders brought st walk ride) p = tickAt ticks p + walk := by
  unfold tickAt rowM
  rw [List.getD_eq_getElem?_getD, List.getElem?_mapIdx, leave_out hp, List.getElem?_eq_getElem hl, List.getD_eq_getElem?_getD, List.getElem?_eq_getElem hl]
  simp only [Option.map_some, hp, if_false, Option.getD_some]
theorem queue_fst : (queueM ticks riders).map (·.1) = srt (riders.map (tickAt ticks)) := by
  refine srt_uniq ?_ ?_
  · have p := (srtP_perm (riders.map fun p => (tickAt ticks p, (p : Int)))).map (·.1)
    rw [List.map_map] at p
    exact p
  · refine List.pairwise_map.mpr ?_
    refine (srtP_sorted (riders.map fun p => (tickAt ticks p, (p : Int)))).imp fun {a b} h => ?_
    unfold leP at h
    omega
/-- the ticks of who rides, sorted: sorted ticks and sorted bicycles, one beside the other -/
def rideK (X B : List Int) (ride : Int) : List Int := (X.zip B).map fun z => mx z.1 z.2 + ride
theorem pairs_ride : (pairsM ticks riders brought st).map (fun z => mx z.1.1 z.2 + ride) = rideK (srt (riders.map (tickAt ticks))) (bikesM ticks brought st) ride := by
  unfold rideK pairsM
  rw [← queue_fst, List.zip_map_left, List.map_map]
  rfl
theorem mx_mono {a b c d : Int} (h1 : a ≤ c) (h2 : b ≤ d) : mx a b ≤ mx c d := by
  unfold mx
  split <;> split <;> omega
theorem zip_asc : ∀ {X B : List Int}, X.Pairwise (· ≤ ·) → B.Pairwise (· ≤ ·) → (rideK X B ride).Pairwise (· ≤ ·)
  | [], _, _, _ => .nil
  | _ :: _, [], _, _ => .nil
  | x :: X, b :: B, hx, hb => by
    have hx' := List.pairwise_cons.mp hx
    have hb' := List.pairwise_cons.mp hb
    refine List.pairwise_cons.mpr ⟨fun y hy => ?_, zip_asc hx'.2 hb'.2⟩
    obtain ⟨z, hz, rfl⟩ := List.mem_map.mp hy
    obtain ⟨m1, m2⟩ := List.of_mem_zip (show (z.1, z.2) ∈ X.zip B from hz)
    have := mx_mono (hx'.1 _ m1) (hb'.1 _ m2)
    show mx x b + ride ≤ mx z.1 z.2 + ride
    omega
theorem ride_key (h : riders.length ≤ st + brought.length) (nd : riders.Nodup) (hl : ∀ p ∈ riders, p < ticks.length) :
    srt (riders.map (tickAt (rowM ticks riders brought st walk ride))) = rideK (srt (riders.map (tickAt ticks))) (bikesM ticks brought st) ride := by
  symm
  refine srt_uniq ?_ (zip_asc (srt_sorted _) (srt_sorted _))
  have pp := (pairs_people (ticks := ticks) h).map (tickAt (rowM ticks riders brought st walk ride))
  rw [List.map_map] at pp
  rw [← pairs_ride]
  refine (List.Perm.of_eq ?_).trans pp
  refine List.map_congr_left fun z hz => ?_
  exact (row_pair h nd hl hz).symm
/-- who walks -/
def restM (n : Nat) (riders : List Nat) : List Nat := (List.range n).filter fun p => decide (p ∉ riders)
theorem rest_perm {n : Nat} (nd : riders.Nodup) (hl : ∀ p ∈ riders, p < n) : (riders ++ restM n riders).Perm (List.range n) := by
  refine (List.perm_ext_iff_of_nodup ?_ List.nodup_range).mpr fun p => ?_
  · refine List.nodup_append.mpr ⟨nd, List.nodup_range.filter _, fun a ha b hb e => ?_⟩
    subst e
    have := (List.mem_filter.mp hb).2
    exact of_decide_eq_true this ha
  · rw [List.mem_append, List.mem_range]
    unfold restM
    rw [List.mem_filter, List.mem_range, decide_eq_true_eq]
    constructor
    · rintro (h | h)
      · exact hl p h
      · exact h.1
    · intro h
      by_cases hp : p ∈ riders
      · exact .inl hp
      · exact .inr ⟨h, hp⟩
theorem ticks_range (l : List Int) : (List.range l.length).map (tickAt l) = l := by
  refine List.ext_getElem (by simp) fun i h1 h2 => ?_
  simp only [List.getElem_map, List.getElem_range]
  unfold tickAt
  rw [List.getD_eq_getElem?_getD, List.getElem?_eq_getElem h2]
  rfl
/-- the sorted ticks behind a stage -/
def nextK (X W B : List Int) (walk ride : Int) : List Int := srt (rideK X B ride ++ W.map (· + walk))
theorem row_key (h : riders.length ≤ st + brought.length) (nd : riders.Nodup) (hl : ∀ p ∈ riders, p < ticks.length) :
    srt (rowM ticks riders brought st walk ride) = nextK (srt (riders.map (tickAt ticks))) (srt ((restM ticks.length riders).map (tickAt ticks))) (bikesM ticks brought st) walk ride := by
  unfold nextK
  refine srt_uniq ((srt_perm _).trans ?_) (srt_sorted _)
  have p0 := (rest_perm nd hl).map (tickAt (rowM ticks riders brought st walk ride))
  have e0 : (List.range ticks.length).map (tickAt (rowM ticks riders brought st walk ride)) = rowM ticks riders brought st walk ride := by
    have := ticks_range (rowM ticks riders brought st walk ride)
    rw [rowM_len] at this
    exact this
  rw [e0, List.map_append] at p0
  refine p0.symm.trans (List.Perm.append ?_ ?_)
  · rw [← ride_key (walk := walk) h nd hl]
    exact (srt_perm _).symm
  · have e1 : (restM ticks.length riders).map (tickAt (rowM ticks riders brought st walk ride)) = ((restM ticks.length riders).map (tickAt ticks)).map (· + walk) := by
      rw [List.map_map]
      refine List.map_congr_left fun p hp => ?_
      have := List.mem_filter.mp hp
      exact row_walk (of_decide_eq_true this.2) (List.mem_range.mp this.1)
    rw [e1]
    exact (srt_perm _).symm.map _
end
end Rb
namespace Gm
/-! ## sums over sets of people, and the step of the rule -/
def sumP (P : Nat → Bool) (f : Nat → Int) : Nat → Int
  | 0 => 0
  | n + 1 => sumP P f n + if P n = true then f n else 0
def card (P : Nat → Bool) (n : Nat) : Int := sumP P (fun _ => 1) n
def upP (P : Nat → Bool) (j : Nat) (b : Bool) : Nat → Bool := fun i => if i = j then b else P i
theorem sumP_congr {P P' : Nat → Bool} {f f' : Nat → Int} : ∀ {n : Nat}, (∀ i, i < n → P i = P' i) → (∀ i, i < n → P i = true → f i = f' i) → sumP P f n = sumP P' f' n
  | 0, _, _ => rfl
  | n + 1, h, h2 => by
    show sumP P f n + (if P n = true then f n else 0) = sumP P' f' n + (if P' n = true then f' n else 0)
    rw [sumP_congr (n := n) (fun i hi => h i (by omega)) (fun i hi => h2 i (by omega)), h n (by omega)]
    by_cases c : P' n = true
    · rw [if_pos c, if_pos c, h2 n (by omega) (by rw [h n (by omega)]; exact c)]
    · rw [if_neg c, if_neg c]
theorem sumP_le {P P' : Nat → Bool} {f f' : Nat → Int} : ∀ {n : Nat}, (∀ i, i < n → (if P i = true then f i else 0) ≤ (if P' i = true then f' i else 0)) → sumP P f n ≤ sumP P' f' n
  | 0, _ => Int.le_refl _
  | n + 1, h => by
    have a := sumP_le (n := n) (P := P) (P' := P') (f := f) (f' := f') fun i hi => h i (by omega)
    have b := h n (by omega)
    show sumP P f n + (if P n = true then f n else 0) ≤ sumP P' f' n + (if P' n = true then f' n else 0)
    omega
theorem sumP_up {P : Nat → Bool} {f : Nat → Int} {j : Nat} {b : Bool} : ∀ {n : Nat}, j < n → sumP (upP P j b) f n = sumP P f n - (if P j = true then f j else 0) + (if b = true then f j else 0)
  | 0, h => absurd h (Nat.not_lt_zero _)
  | n + 1, h => by
    show sumP (upP P j b) f n + (if upP P j b n = true then f n else 0) = (sumP P f n + (if P n = true then f n else 0)) - _ + _
    by_cases e : j = n
    · subst e
      have e1 : sumP (upP P j b) f j = sumP P f j := sumP_congr (fun i hi => by unfold upP; rw [if_neg (by omega)]) fun _ _ _ => rfl
      have e2 : upP P j b j = b := by unfold upP; rw [if_pos rfl]
      rw [e1, e2]
      omega
    · have e2 : upP P j b n = P n := by unfold upP; rw [if_neg (by omega)]
      rw [sumP_up (n := n) (by omega), e2]
      omega
/-! ## the room of some stages -/
end Gm
namespace Pu
open PySem L2
theorem ifT {b : Bool} {P Q : Prop} (h : b = true) (p : P) : if b = true then P else Q := by rw [if_pos h]; exact p
theorem ifF {b : Bool} {P Q : Prop} (h : b = false) (p : Q) : if b = true then P else Q := by rw [h, if_neg Bool.false_ne_true]; exact p
theorem ifB {b : Bool} {P Q : Prop} (h1 : b = true → P) (h2 : b = false → Q) : if b = true then P else Q := by
  cases b with
  | true => exact ifT rfl (h1 rfl)
  | false => exact ifF rfl (h2 rfl)
theorem onS {α : Type} {o : Option α} {a : α} {k : α → Prop} (h : o = some a) (p : k a) : onSome o k := by rw [h]; exact p
/-! ## numbers in a range, any value -/
/-! ## the deck -/
def deckS (cs : List Int) (n : Int) : Sto := [.lst (cs.map D.int), .lst [.cell 0, .int n]]
def Dk (S : Sto) (N : Int) (T : Sto) : Prop := ∃ cs n, S = deckS cs n ++ T ∧ cs.length ≤ 63 ∧ (∀ x ∈ cs, 0 ≤ x) ∧ 0 ≤ n ∧ n ≤ N
theorem Dk.le {S : Sto} {N M : Int} {T : Sto} (h : Dk S N T) (e : N ≤ M) : Dk S M T := by
  obtain ⟨cs, n, h1, h2, h3, h4, h5⟩ := h
  exact ⟨cs, n, h1, h2, h3, h4, by omega⟩
/-- a comprehension whose element changes nothing -/
theorem comp_map {st : D → Rho → Option Rho} {f : FE} {src : Src} {k : List D → Sto → Prop} {S : Sto} {ρ : Rho} {g : D → D} (hsrc : ∀ P : Prop, P → srcOk src S P) : ∀ (xs acc : List D), (∀ x ∈ xs, ∃ ρ1, st x ρ = some ρ1 ∧ ∀ Q : QD, Q (g x) S → f ρ1 S Q noE) → k (acc ++ xs.map g) S → dCompL st dYes f src xs acc ρ S k
  | [], acc, _, h => by rw [List.map_nil, List.append_nil] at h; exact h
  | x :: xs, acc, hx, h => by
    obtain ⟨ρ1, e, hf⟩ := hx x List.mem_cons_self
    refine onS e ?_
    refine ifT (b := true) (Q := srcOk src S (dCompL st dYes f src xs acc ρ S k)) rfl ?_
    refine hf _ (hsrc _ (comp_map hsrc xs _ (fun y hy => hx y (List.mem_cons_of_mem _ hy)) ?_))
    rw [List.append_assoc]
    exact h
def absI (i : Int) : Int := if i < 0 then -i else i
theorem absI_nn (i : Int) : 0 ≤ absI i := by unfold absI; split <;> omega
end Pu
namespace Pu
open PySem L2
/-- a loop by an invariant -/
theorem for_inv {g : FG} {fb : FS} {src : Src} {De : DEnds} {Ed : ED} {ρ : Rho} {S : Sto} (xs : List D) (I : Nat → Rho → Sto → Prop) (h0 : I 0 ρ S)
    (hs : ∀ (i : Nat) (x : D) (ρ : Rho) (S : Sto) (K : Rho → Sto → Prop), xs[i]? = some x → (∀ ρ' S', I (i + 1) ρ' S' → K ρ' S') → I i ρ S → g x ρ S (fun ρ1 S1 => fb ρ1 S1 ⟨K, De.rt, De.nx, K⟩ Ed) Ed)
    (hd : ∀ ρ S, I xs.length ρ S → De.nx ρ S) (hsrc : ∀ i ρ S, I i ρ S → ∀ P : Prop, P → srcOk src S P := by intro _ _ _ _ _ p; exact p) : dLoop g fb src xs ρ S De Ed := by
  have go : ∀ (m n : Nat) (ρ : Rho) (S : Sto), n + m = xs.length → I n ρ S → dLoop g fb src (xs.drop n) ρ S De Ed := by
    intro m
    induction m with
    | zero =>
      intro n ρ S e h
      have : n = xs.length := by omega
      subst this
      rw [List.drop_length]
      exact hd ρ S h
    | succ m ih =>
      intro n ρ S e h
      have hlt : n < xs.length := by omega
      have hx := List.getElem?_eq_getElem hlt
      rw [drop_cons hx]
      exact hs n _ ρ S _ hx (fun ρ' S' h' => hsrc _ _ _ h' _ (ih (n + 1) ρ' S' (by omega) h')) h
  exact go xs.length 0 ρ S (by omega) h0
theorem rangeD_len {lo : Int} {n : Nat} : (rangeD lo n).length = n := by unfold rangeD; rw [List.length_map, List.length_range]
theorem for_rng {g : FG} {fb : FS} {De : DEnds} {Ed : ED} {ρ : Rho} {S : Sto} (lo : Int) (n : Nat) (I : Nat → Rho → Sto → Prop) (h0 : I 0 ρ S)
    (hs : ∀ (i : Nat) (ρ : Rho) (S : Sto) (K : Rho → Sto → Prop), i < n → (∀ ρ' S', I (i + 1) ρ' S' → K ρ' S') → I i ρ S → g (.int (lo + (i : Int))) ρ S (fun ρ1 S1 => fb ρ1 S1 ⟨K, De.rt, De.nx, K⟩ Ed) Ed)
    (hd : ∀ ρ S, I n ρ S → De.nx ρ S) : dLoop g fb [] (rangeD lo n) ρ S De Ed := by
  refine for_inv (rangeD lo n) I h0 (fun i x ρ S K hx hK hI => ?_) (fun ρ S h => hd ρ S (by rw [rangeD_len] at h; exact h))
  obtain ⟨h1, rfl⟩ := rangeD_get hx
  exact hs i ρ S K h1 hK hI
theorem pick3 {α : Type} {x y z : α} {r : Int} (h0 : 0 ≤ r) (h1 : r < 3) : ∃ v, atI [x, y, z] r = some v ∧ (v = x ∨ v = y ∨ v = z) := by
  rcases (by omega : r = 0 ∨ r = 1 ∨ r = 2) with rfl | rfl | rfl
  · exact ⟨x, rfl, .inl rfl⟩
  · exact ⟨y, rfl, .inr (.inl rfl)⟩
  · exact ⟨z, rfl, .inr (.inr rfl)⟩
theorem pick3i {x y z r : Int} (h0 : 0 ≤ r) (h1 : r < 3) : ∃ v : Int, atI [D.int x, D.int y, D.int z] r = some (.int v) ∧ (v = x ∨ v = y ∨ v = z) := by
  obtain ⟨v, e, rfl | rfl | rfl⟩ := pick3 (x := D.int x) (y := D.int y) (z := D.int z) h0 h1
  · exact ⟨x, e, .inl rfl⟩
  · exact ⟨y, e, .inr (.inl rfl)⟩
  · exact ⟨z, e, .inr (.inr rfl)⟩
theorem szd {n : Nat} (h : n ≤ 100000) : n ≤ sizeLine := Rb.sz_le h
def roadV (wk rd : Int) (bs : List Int) : D := .tup [.int wk, .int rd, .tup (bs.map .int)]
end Pu
namespace Pu
open PySem L2
theorem py_ints (ns : List Int) : toPyAll (ns.map D.int) = some (ns.map .int) := by
  induction ns with
  | nil => rfl
  | cons n ns ih =>
    show (toPy (.int n)).bind (fun p => (toPyAll (ns.map D.int)).map (p :: ·)) = _
    rw [ih]
    rfl
end Pu
namespace Pu
open PySem L2
theorem szr {n : Nat} (h : Nat.ble n 100000 = true) : n ≤ sizeLine := szd (Nat.le_of_ble_eq_true h)
/-! ## any value, of a bounded size -/
structure Av (k n : Nat) (d : D) : Prop where
  py : ∃ p, toPy d = some p ∧ Rb.Nice k n p
  kn : known d = true
abbrev Avs (k n : Nat) (ds : List D) : Prop := ∀ d ∈ ds, Av k n d
theorem Av.some {k n : Nat} {d : D} (h : Av k n d) : (toPy d).isSome = true := by
  obtain ⟨p, e, _⟩ := h.py
  rw [e]
  rfl
theorem Av.mono {k n k' n' : Nat} {d : D} (h : Av k n d) (h1 : k ≤ k') (h2 : n ≤ n') : Av k' n' d := by
  obtain ⟨p, e, hn⟩ := h.py
  exact ⟨⟨p, e, hn.mono h1 h2⟩, h.kn⟩
theorem Av.int {i : Int} (h : i.natAbs < 10 ^ 99) : Av 0 0 (.int i) := ⟨⟨_, rfl, Rb.Nice.int h⟩, rfl⟩
theorem Av.non : Av 0 0 .non := ⟨⟨_, rfl, Rb.Nice.none⟩, rfl⟩
theorem Av.bl {b : Bool} : Av 0 0 (.bl b) := ⟨⟨_, rfl, Rb.Nice.bool⟩, rfl⟩
theorem avs_py {k n : Nat} : ∀ {ds : List D}, Avs k n ds → (∃ ps, toPyAll ds = some ps ∧ ps.length = ds.length ∧ ∀ p ∈ ps, Rb.Nice k n p) ∧ knownAll ds = true
  | [], _ => ⟨⟨[], rfl, rfl, fun _ z => nomatch z⟩, rfl⟩
  | d :: ds, h => by
    obtain ⟨⟨ps, e, hl, hn⟩, hk⟩ := avs_py (ds := ds) fun x hx => h x (List.mem_cons_of_mem _ hx)
    obtain ⟨⟨p, e1, h1⟩, k1⟩ := h d List.mem_cons_self
    refine ⟨⟨p :: ps, ?_, by rw [List.length_cons, List.length_cons, hl], fun q hq => ?_⟩, ?_⟩
    · show (toPy d).bind (fun p => (toPyAll ds).map (p :: ·)) = _
      rw [e1, e]
      rfl
    · rcases List.mem_cons.mp hq with rfl | hq
      · exact h1
      · exact hn q hq
    · show (known d && knownAll ds) = true
      rw [k1, hk]
      rfl
theorem Av.tup {k n m : Nat} {ds : List D} (h : Avs k n ds) (hm : ds.length * (n + 1) ≤ m) : Av (k + 1) m (.tup ds) := by
  obtain ⟨⟨ps, e, hl, hn⟩, hk⟩ := avs_py h
  refine ⟨⟨.tuple ps, ?_, Rb.Nice.tup hn (by rw [hl]; exact hm)⟩, hk⟩
  show (toPyAll ds).map PyData.tuple = _
  rw [e]
  rfl
theorem Av.lst {k n m : Nat} {ds : List D} (h : Avs k n ds) (hm : ds.length * (n + 1) ≤ m) : Av (k + 1) m (.lst true ds) := by
  obtain ⟨⟨ps, e, hl, hn⟩, hk⟩ := avs_py h
  refine ⟨⟨.list ps, ?_, Rb.Nice.lst hn (by rw [hl]; exact hm)⟩, hk⟩
  show (toPyAll ds).map PyData.list = _
  rw [e]
  rfl
theorem Avs.nil {k n : Nat} : Avs k n [] := fun _ z => nomatch z
theorem Avs.cons {k n : Nat} {d : D} {ds : List D} (h : Av k n d) (t : Avs k n ds) : Avs k n (d :: ds) := fun x hx => by
  rcases List.mem_cons.mp hx with rfl | hx
  · exact h
  · exact t x hx
theorem Avs.app {k n : Nat} {ds es : List D} (h : Avs k n ds) (t : Avs k n es) : Avs k n (ds ++ es) := fun x hx => by
  rcases List.mem_append.mp hx with hx | hx
  · exact h x hx
  · exact t x hx
theorem Avs.ints {ns : List Int} (h : ∀ i ∈ ns, i.natAbs < 10 ^ 99) : Avs 0 0 (ns.map D.int) := fun x hx => by
  obtain ⟨i, hi, rfl⟩ := List.mem_map.mp hx
  exact Av.int (h i hi)
theorem Avs.mono {k n k' n' : Nat} {ds : List D} (h : Avs k n ds) (h1 : k ≤ k') (h2 : n ≤ n') : Avs k' n' ds := fun x hx => (h x hx).mono h1 h2
theorem Avs.rep {k n m : Nat} {ds : List D} (h : Avs k n ds) : Avs k n (List.replicate m ds).flatten := fun x hx => by
  obtain ⟨l, hl, hx⟩ := List.mem_flatten.mp hx
  rw [(List.mem_replicate.mp hl).2] at hx
  exact h x hx
/-! ## odd values -/
end Pu
namespace Pu
open PySem L2 Rb
/-! ## people, plans -/
def natsV (r : List Nat) : List D := r.map fun p : Nat => D.int (p : Int)
def ridersV (r : List Nat) : D := .tup (natsV r)
def planV (plan : List (List Nat)) : D := .tup (plan.map ridersV)
def nI (r : List Nat) : List Int := r.map fun p : Nat => (p : Int)
theorem natsV_eq (r : List Nat) : natsV r = (nI r).map D.int := by unfold natsV nI; rw [List.map_map]; rfl
theorem nI_len (r : List Nat) : (nI r).length = r.length := by unfold nI; rw [List.length_map]
theorem natsV_len (r : List Nat) : (natsV r).length = r.length := by unfold natsV; rw [List.length_map]
theorem nI_toNat (r : List Nat) : (nI r).map Int.toNat = r := by
  unfold nI
  rw [List.map_map]
  have : (Int.toNat ∘ fun p : Nat => (p : Int)) = id := funext fun p => Int.toNat_natCast p
  rw [this, List.map_id]
structure PlanPre (bikes : List Int) (n : Nat) (plan : List (List Nat)) : Prop where
  asc : ∀ r ∈ plan, r.Pairwise (· < ·)
  lt : ∀ r ∈ plan, ∀ p ∈ r, p < n
  few : ∀ i, i < plan.length → (plan.getD i []).length ≤ (bikes.getD i 0).toNat + (brM plan i).length
theorem getD_app {α : Type} {l m : List α} {i : Nat} {d : α} (h : i < l.length) : (l ++ m).getD i d = l.getD i d := by
  rw [List.getD_eq_getElem?_getD, List.getD_eq_getElem?_getD, List.getElem?_append_left h]
theorem PlanPre.ok {bikes : List Int} {n : Nat} {plan : List (List Nat)} (h : PlanPre bikes n plan) (hl : plan.length = bikes.length) (hn : ∀ b ∈ bikes, 0 ≤ b) : PlanOk bikes n plan := by
  refine ⟨hl, hn, h.asc, h.lt, fun i => ?_⟩
  by_cases hi : i < plan.length
  · have := h.few i hi
    have e : (brM plan i).length = if i = 0 then 0 else (plan.getD (i - 1) []).length := by
      unfold brM
      split <;> rfl
    rw [← e]
    exact this
  · rw [List.getD_eq_getElem?_getD, List.getElem?_eq_none (by omega)]
    exact Nat.zero_le _
/-! what is below -/
theorem below_ints {k : Nat} : ∀ (ns : List Int), belowAll k (ns.map D.int) = true
  | [] => rfl
  | n :: ns => below_ints ns
theorem below_nats {k : Nat} (r : List Nat) : belowAll k (natsV r) = true := by rw [natsV_eq]; exact below_ints _
theorem cell_last {A : Sto} {xs : List D} : cellOf (A ++ [.lst xs]) (.cell A.length) = some (A.length, xs) := by
  show (lstAt (A ++ [Cl.lst xs])[A.length]?).map _ = _
  rw [List.getElem?_append_right (Nat.le_refl _), Nat.sub_self]
  rfl
theorem set_last {A : Sto} {c d : Cl} : (A ++ [c]).set A.length d = A ++ [d] := by
  rw [List.set_append_right _ _ (Nat.le_refl _), Nat.sub_self]
  rfl
theorem Dk.len {S : Sto} {N : Int} {T : Sto} (h : Dk S N T) : S.length = 2 + T.length := by
  obtain ⟨cs, n, rfl, _⟩ := h
  rw [List.length_append]
  rfl
theorem Dk.take2 {S : Sto} {N : Int} {T : Sto} (h : Dk S N T) : Dk (S.take 2) N [] ∧ S.drop 2 = T ∧ (S.take 2).all (Cl.below 2) = true ∧ (S.take 2).length = 2 := by
  obtain ⟨cs, n, rfl, h⟩ := h
  refine ⟨⟨cs, n, rfl, h⟩, rfl, ?_, rfl⟩
  show (belowAll 2 (cs.map D.int) && ((true && (true && true)) && true)) = true
  rw [below_ints]
  rfl
end Pu
namespace Pu
open PySem L2 Rb
/-! ## what is a plan -/
/-! the law's own look -/
theorem eqv_ints : ∀ (ns ms : List Int), PyData.eqvAll (ns.map .int) (ms.map .int) = decide (ns = ms)
  | [], [] => rfl
  | [], _ :: _ => rfl
  | _ :: _, [] => rfl
  | n :: ns, m :: ms => by
    show ((n == m) && PyData.eqvAll (ns.map .int) (ms.map .int)) = _
    rw [eqv_ints ns ms]
    by_cases h : n = m
    · subst h
      by_cases h2 : ns = ms
      · subst h2; simp
      · simp [h2]
    · simp [h]
end Pu
namespace Pu
open PySem L2 Rb
def tupLe (k : Nat) : D → Bool
  | .tup xs => Nat.ble xs.length k
  | _ => true
def smallD (k : Nat) : D → Bool
  | .tup vs => vs.all (tupLe k)
  | _ => true
theorem tupLe_tup {k : Nat} {xs : List D} (h : xs.length ≤ k) : tupLe k (.tup xs) = true := Nat.ble_eq_true_of_le h
/-- an item of a plan -/
structure Ri (d : D) : Prop where
  av : Av 3 1000 d
  le : tupLe 60 d = true
structure Ok2 (d : D) : Prop where
  av : Av 5 40000 d
  sm : smallD 60 d = true
theorem Ri.tup {ds : List D} (h : Avs 2 20 ds) (hl : ds.length ≤ 40) : Ri (.tup ds) := ⟨Av.tup h (by omega), tupLe_tup (by omega)⟩
theorem Ri.lst {ds : List D} (h : Avs 2 20 ds) (hl : ds.length ≤ 40) : Ri (.lst true ds) := ⟨Av.lst h (by omega), rfl⟩
theorem Ok2.tup {ds : List D} (h : ∀ d ∈ ds, Ri d) (hl : ds.length ≤ 30) : Ok2 (.tup ds) := ⟨(Av.tup (k := 3) (n := 1000) (m := 40000) (fun d hd => (h d hd).av) (by omega)).mono (by decide) (by decide), List.all_eq_true.mpr fun d hd => (h d hd).le⟩
theorem Ok2.lst {ds : List D} (h : ∀ d ∈ ds, Ri d) (hl : ds.length ≤ 30) : Ok2 (.lst true ds) := ⟨(Av.lst (k := 3) (n := 1000) (m := 40000) (fun d hd => (h d hd).av) (by omega)).mono (by decide) (by decide), rfl⟩
end Pu
namespace Pu
open PySem L2 Rb
def tkD (ticks : List Int) : D := .tup (ticks.map D.int)
theorem atI_tick {ticks : List Int} {p : Nat} (h : p < ticks.length) : atI (ticks.map D.int) (p : Int) = some (.int (tickAt ticks p)) := by
  refine atI_nat ?_
  rw [List.getElem?_map, List.getElem?_eq_getElem h]
  unfold tickAt
  rw [List.getD_eq_getElem?_getD, List.getElem?_eq_getElem h]
  rfl
end Pu
namespace Pu
open PySem L2 Rb
theorem nI_mem {r : List Nat} {p : Nat} : (p : Int) ∈ nI r ↔ p ∈ r := by
  unfold nI
  constructor
  · intro h
    obtain ⟨q, hq, e⟩ := List.mem_map.mp h
    have : q = p := by omega
    exact this ▸ hq
  · intro h
    exact List.mem_map.mpr ⟨p, h, rfl⟩
end Pu
namespace Pu
open PySem L2 Rb
theorem cut_to {xs : List D} {m : Nat} : cutD xs none (some (m : Int)) = xs.take m := by
  unfold cutD
  have h1 : HT.sIx xs.length 0 none = 0 := HT.sIx_none ..
  have h2 : HT.sIx xs.length xs.length (some (m : Int)) = min m xs.length := HT.sIx_nat ..
  rw [h1, h2, List.drop_zero, Nat.sub_zero]
  by_cases h : m ≤ xs.length
  · rw [Nat.min_eq_left h]
  · rw [Nat.min_eq_right (by omega), List.take_length, List.take_of_length_le (by omega)]
end Pu
namespace Pu
open PySem L2 Rb
/-! ## parts of a road -/
theorem getD_take {α : Type} {l : List α} {i k : Nat} {d : α} (h : i < k) : (l.take k).getD i d = l.getD i d := by
  rw [List.getD_eq_getElem?_getD, List.getD_eq_getElem?_getD, List.getElem?_take_of_lt h]
theorem PlanOk.take {bs : List Int} {n k : Nat} {plan : List (List Nat)} (ok : PlanOk bs n plan) (hk : k ≤ bs.length) : PlanOk (bs.take k) n (plan.take k) := by
  refine ⟨by rw [List.length_take, List.length_take, ok.len], fun b h => ok.nn b (List.mem_of_mem_take h), fun r h => ok.asc r (List.mem_of_mem_take h), fun r h => ok.lt r (List.mem_of_mem_take h), fun i => ?_⟩
  by_cases h : i < k
  · rw [getD_take h, getD_take h]
    have := ok.few i
    by_cases z : i = 0
    · rw [if_pos z] at this ⊢
      exact this
    · rw [if_neg z] at this ⊢
      rw [getD_take (by omega)]
      exact this
  · have : (plan.take k).getD i [] = [] := by
      rw [List.getD_eq_getElem?_getD, List.getElem?_eq_none (by rw [List.length_take]; omega)]
      rfl
    rw [this]
    exact Nat.zero_le _
/-! ## no tick is below 0: the bicycles that stand there come first -/
end Pu
namespace Pu
open PySem L2 Rb
/-! ## all ticks moved by one growing map: shifts and multiples -/
structure Grow (f : Int → Int) : Prop where
  lt : ∀ a b, a < b → f a < f b
  nn : ∀ t, 0 ≤ t → 0 ≤ f t
section
variable {f : Int → Int} (G : Grow f)
include G
theorem Grow.le {a b : Int} (h : a ≤ b) : f a ≤ f b := by
  rcases Int.lt_or_eq_of_le h with h | h
  · exact Int.le_of_lt (G.lt a b h)
  · rw [h]; exact Int.le_refl _
end
theorem br_lt {bs : List Int} {n : Nat} {plan : List (List Nat)} (ok : PlanOk bs n plan) (i : Nat) : (∀ p ∈ plan.getD i [], p < n) ∧ ∀ p ∈ brM plan i, p < n := by
  have go : ∀ i, ∀ p ∈ plan.getD i [], p < n := fun i p hp => by
    by_cases e : i < plan.length
    · rw [List.getD_eq_getElem?_getD, List.getElem?_eq_getElem e] at hp
      exact ok.lt _ (List.getElem_mem e) p hp
    · rw [List.getD_eq_getElem?_getD, List.getElem?_eq_none (by omega)] at hp
      cases hp
  refine ⟨go i, fun p hp => ?_⟩
  unfold brM at hp
  split at hp
  · cases hp
  · exact go _ p hp
end Pu
namespace Pu
open PySem L2 Rb
/-! ## one road behind the other -/
theorem getD_right {α : Type} {l m : List α} {i : Nat} {d : α} : (l ++ m).getD (l.length + i) d = m.getD i d := by
  rw [List.getD_eq_getElem?_getD, List.getD_eq_getElem?_getD, List.getElem?_append_right (by omega), Nat.add_sub_cancel_left]
section
variable {wk rd : Int} {bs bs2 starts : List Int} {plan plan2 : List (List Nat)}
theorem PlanOk.join {n : Nat} (ok : PlanOk bs n plan) (ok2 : PlanOk bs2 n plan2) : PlanOk (bs ++ bs2) n (plan ++ plan2) := by
  have hl := ok.len
  refine ⟨by rw [List.length_append, List.length_append, ok.len, ok2.len], fun b h => ?_, fun r h => ?_, fun r h => ?_, fun i => ?_⟩
  · rcases List.mem_append.mp h with h | h
    · exact ok.nn b h
    · exact ok2.nn b h
  · rcases List.mem_append.mp h with h | h
    · exact ok.asc r h
    · exact ok2.asc r h
  · rcases List.mem_append.mp h with h | h
    · exact ok.lt r h
    · exact ok2.lt r h
  · by_cases h : i < bs.length
    · rw [getD_app (by omega), getD_app h]
      have := ok.few i
      by_cases z : i = 0
      · rw [if_pos z] at this ⊢
        exact this
      · rw [if_neg z] at this ⊢
        rw [getD_app (by omega)]
        exact this
    · obtain ⟨j, rfl⟩ : ∃ j, i = bs.length + j := ⟨i - bs.length, by omega⟩
      have e : (plan ++ plan2).getD (bs.length + j) [] = plan2.getD j [] := by rw [← hl]; exact getD_right
      rw [e, getD_right]
      have := ok2.few j
      by_cases z : j = 0
      · rw [if_pos z] at this
        omega
      · rw [if_neg z] at this
        rw [if_neg (by omega)]
        have e2 : bs.length + j - 1 = plan.length + (j - 1) := by omega
        rw [e2, getD_right]
        exact this
end
end Pu
namespace Pu
open PySem L2 Rb
structure RoadOk (wk rd : Int) (bs : List Int) : Prop where
  rd1 : 1 ≤ rd
  lt : rd < wk
  w2 : wk ≤ 1000
  l1 : 1 ≤ bs.length
  l2 : bs.length ≤ 12
  hb : ∀ b ∈ bs, 0 ≤ b ∧ b ≤ 12
end Pu
namespace Pu
open PySem L2 Rb
theorem RoadOk.take {wk rd : Int} {bs : List Int} (h : RoadOk wk rd bs) {k : Nat} (h1 : 1 ≤ k) : RoadOk wk rd (bs.take k) :=
  ⟨h.rd1, h.lt, h.w2, by rw [List.length_take]; have := h.l1; omega, by rw [List.length_take]; have := h.l2; omega, fun b hb => h.hb b (List.mem_of_mem_take hb)⟩
end Pu
namespace Pu
open PySem L2 Rb
theorem below_roadV {k : Nat} {wk rd : Int} {bs : List Int} : below k (roadV wk rd bs) = true := by
  show (true && (true && (belowAll k (bs.map D.int) && true))) = true
  rw [below_ints]
  rfl
theorem Dk.app {S T : Sto} {N : Int} (h : Dk S N []) : Dk (S ++ T) N T := by
  obtain ⟨cs, n, rfl, h⟩ := h
  exact ⟨cs, n, by rw [List.append_nil], h⟩
theorem Dk.l2 {S T S1 : Sto} {N : Int} (h : Dk S N T) (l : S1.length = 2) : S1.length = (S.take 2).length := l.trans h.take2.2.2.2.symm
theorem Dk.back {S T S1 : Sto} {N M : Int} (h : Dk S N T) (d : Dk S1 M []) : Dk (S1 ++ S.drop 2) M T := by
  rw [h.take2.2.1]
  exact d.app
end Pu
namespace Pu
open PySem L2 Rb
/-! ## texts of small signs -/
def Fine (x : Str) : Prop := ∀ c ∈ x.cps.toList, c < 1114112
theorem app_cps (a b : Str) : (a ++ b).cps.toList = a.cps.toList ++ b.cps.toList := by
  show (a.cps ++ b.cps).toList = _
  exact Array.toList_append
theorem Fine.app {a b : Str} (ha : Fine a) (hb : Fine b) : Fine (a ++ b) := fun c hc => by
  rw [app_cps] at hc
  rcases List.mem_append.mp hc with h | h
  · exact ha c h
  · exact hb c h
theorem fine_of {x : Str} (h : x.cps.toList.all (fun c => decide (c < 1114112)) = true) : Fine x := fun c hc => of_decide_eq_true (List.all_eq_true.mp h c hc)
theorem fine_join {sep : Str} (hs : Fine sep) : ∀ {ts : List Str}, (∀ t ∈ ts, Fine t) → Fine (Str.join sep ts)
  | [], _ => fine_of rfl
  | [x], h => h x List.mem_cons_self
  | x :: y :: r, h => by
    show Fine (x ++ sep ++ Str.join sep (y :: r))
    exact ((h x List.mem_cons_self).app hs).app (fine_join hs fun t ht => h t (List.mem_cons_of_mem _ ht))
theorem fine_from : ∀ (ts : List Str) (k : Nat) (acc : Str), Fine acc → (∀ t ∈ ts, Fine t) → Fine (textFrom k acc ts)
  | [], _, acc, ha, _ => ha
  | t :: ts, k, acc, ha, h => by
    show Fine (textFrom (k + 1) (acc ++ (if k > 0 then ", " else "" : String) ++ t) ts)
    refine fine_from ts (k + 1) _ ((ha.app ?_).app (h t List.mem_cons_self)) fun x hx => h x (List.mem_cons_of_mem _ hx)
    split
    · exact fine_of (by decide)
    · exact fine_of (by decide)
theorem fine_int (i : Int) : Fine (PyData.int i).shown := fun c hc => by
  by_cases h : c < 1114112
  · exact h
  · exact absurd hc (PyProof.Rows.shown_int_free' ⟨by omega, by omega⟩ i)
theorem fine_list {ts : List Str} (h : ∀ t ∈ ts, Fine t) : Fine (listText ts) := (fine_from ts 0 _ (fine_of (by decide)) h).app (fine_of (by decide))
theorem fine_tuple {ts : List Str} (h : ∀ t ∈ ts, Fine t) : Fine (tupleText ts) := by
  unfold tupleText
  refine ((fine_of (by decide)).app (fine_join (fine_of (by decide)) h)).app ?_
  split
  · exact fine_of (by decide)
  · exact fine_of (by decide)
/-! ## repr and == of values without dicts -/
structure RepP (k n : Nat) (p : PyData) : Prop where
  nice : Rb.Nice k n p
  nod : p.hasDict = false
  lay : PyData.canLay0 p = true
  fine : Fine p.shown
structure Rep (k n : Nat) (d : D) : Prop where
  py : ∃ p, toPy d = some p ∧ RepP k n p
theorem RepP.mono {k n k' n' : Nat} {p : PyData} (h : RepP k n p) (h1 : k ≤ k') (h2 : n ≤ n') : RepP k' n' p := ⟨h.nice.mono h1 h2, h.nod, h.lay, h.fine⟩
theorem Rep.mono {k n k' n' : Nat} {d : D} (h : Rep k n d) (h1 : k ≤ k') (h2 : n ≤ n') : Rep k' n' d := by
  obtain ⟨p, e, hp⟩ := h.py
  exact ⟨p, e, hp.mono h1 h2⟩
theorem Rep.int {i : Int} (h1 : -1000000000000 ≤ i) (h2 : i ≤ 1000000000000) : Rep 0 0 (.int i) := ⟨_, rfl, Rb.Nice.int (Nat.lt_of_lt_of_le (show i.natAbs < 10000000000000 by omega) (by decide)), rfl, rfl, fine_int i⟩
theorem Rep.non : Rep 0 0 .non := ⟨_, rfl, Rb.Nice.none, rfl, rfl, fine_of (by decide)⟩
theorem Rep.bl {b : Bool} : Rep 0 0 (.bl b) := ⟨_, rfl, Rb.Nice.bool, rfl, rfl, by cases b <;> exact fine_of (by decide)⟩
theorem Rep.str {x : Str} {n : Nat} (h : x.cps.size ≤ n) (hx : ∀ c ∈ x.cps.toList, c < 16 ^ 8) (ho : PyData.canLay0 (.str x) = true) (hf : Fine (PyData.str x).shown) : Rep 0 n (.str x) := ⟨_, rfl, Rb.Nice.str h hx, rfl, ho, hf⟩
theorem reps_py {k n : Nat} : ∀ {ds : List D}, (∀ d ∈ ds, Rep k n d) → ∃ ps, toPyAll ds = some ps ∧ ps.length = ds.length ∧ (∀ p ∈ ps, Rb.Nice k n p) ∧ PyData.hasDictAll ps = false ∧ PyData.canLayAll0 ps = true ∧ ∀ t ∈ PyData.shownAll ps, Fine t
  | [], _ => ⟨[], rfl, rfl, (fun _ z => nomatch z), rfl, rfl, fun _ z => nomatch z⟩
  | d :: ds, h => by
    obtain ⟨p, e, hn, hd, hc, hf⟩ := (h d List.mem_cons_self).py
    obtain ⟨ps, e2, hl, hn2, hd2, hc2, hf2⟩ := reps_py (ds := ds) fun x hx => h x (List.mem_cons_of_mem _ hx)
    refine ⟨p :: ps, ?_, congrArg Nat.succ hl, fun q hq => ?_, ?_, ?_, fun t ht => ?_⟩
    · show (toPy d).bind _ = _
      rw [e, e2]
      rfl
    · rcases List.mem_cons.mp hq with rfl | hq
      · exact hn
      · exact hn2 q hq
    · simp only [PyData.hasDictAll, hd, hd2, Bool.or_self]
    · simp only [PyData.canLayAll0, hc, hc2, Bool.and_self]
    · rcases List.mem_cons.mp (show t ∈ p.shown :: PyData.shownAll ps from ht) with rfl | ht
      · exact hf
      · exact hf2 t ht
theorem Rep.tup {k n m : Nat} {ds : List D} (h : ∀ d ∈ ds, Rep k n d) (hm : ds.length * (n + 1) ≤ m) : Rep (k + 1) m (.tup ds) := by
  obtain ⟨ps, e, hl, hn, hd, hc, hf⟩ := reps_py h
  refine ⟨.tuple ps, ?_, Rb.Nice.tup hn (by rw [hl]; exact hm), ?_, ?_, ?_⟩
  · show (toPyAll ds).map PyData.tuple = _
    rw [e]
    rfl
  · simp only [PyData.hasDict, hd]
  · simp only [PyData.canLay0, hc]
  · simp only [PyData.shown]
    exact fine_tuple hf
theorem Rep.lst {k n m : Nat} {b : Bool} {ds : List D} (h : ∀ d ∈ ds, Rep k n d) (hm : ds.length * (n + 1) ≤ m) : Rep (k + 1) m (.lst b ds) := by
  obtain ⟨ps, e, hl, hn, hd, hc, hf⟩ := reps_py h
  refine ⟨.list ps, ?_, Rb.Nice.lst hn (by rw [hl]; exact hm), ?_, ?_, ?_⟩
  · show (toPyAll ds).map PyData.list = _
    rw [e]
    rfl
  · simp only [PyData.hasDict, hd]
  · simp only [PyData.canLay0, hc]
  · simp only [PyData.shown]
    exact fine_list hf
theorem Rep.ints {ns : List Int} {m : Nat} (h : ∀ i ∈ ns, -1000000000000 ≤ i ∧ i ≤ 1000000000000) (hm : ns.length ≤ m) : Rep 1 m (.tup (ns.map D.int)) :=
  Rep.tup (k := 0) (n := 0) (fun d hd => by
    obtain ⟨i, hi, rfl⟩ := List.mem_map.mp hd
    exact Rep.int (h i hi).1 (h i hi).2) (by rw [List.length_map]; omega)
theorem Rep.road {wk rd : Int} {bs : List Int} (R : RoadOk wk rd bs) : Rep 2 39 (roadV wk rd bs) := by
  have h1 := R.rd1
  have h2 := R.lt
  have h3 := R.w2
  refine Rep.tup (k := 1) (n := 12) (fun d hd => ?_) (Nat.le_of_ble_eq_true rfl)
  simp only [List.mem_cons, List.not_mem_nil, or_false] at hd
  rcases hd with rfl | rfl | rfl
  · exact (Rep.int (by omega) (by omega)).mono (by decide) (by decide)
  · exact (Rep.int (by omega) (by omega)).mono (by decide) (by decide)
  · exact Rep.ints (fun i hi => by have := R.hb i hi; omega) R.l2
theorem Rep.starts {starts : List Int} (n2 : starts.length ≤ 10) (hb : Bnd 1000000 starts) : Rep 1 10 (tkD starts) := Rep.ints (fun i hi => by have := hb i hi; omega) n2
theorem Rep.two {a b : D} {k n m : Nat} {f : Bool} (ha : Rep k n a) (hb : Rep k n b) (hm : 2 * (n + 1) ≤ m) : Rep (k + 1) m (.lst f [a, b]) :=
  Rep.lst (fun d hd => by
    simp only [List.mem_cons, List.not_mem_nil, or_false] at hd
    rcases hd with rfl | rfl
    · exact ha
    · exact hb) hm
def shw (d : D) : Str := match toPy d with
  | some p => p.shown
  | none => ""
theorem repr_ok {d : D} {S : Sto} {Q : QD} {k n : Nat} (h : Rep k n d) (q : Q (.str (shw d)) S) (hk : k ≤ 20 := by decide) (hn : n ≤ 100000 := by decide) : iRepr [d] S Q := by
  refine iRepr_of ?_
  obtain ⟨p, e, hp⟩ := (h.mono hk hn).py
  refine onS e ⟨⟨hp.nice, .inl hp.nod⟩, ?_⟩
  unfold shw at q
  rw [e] at q
  exact q
theorem eqB_ok {neg : Bool} {x y : D} {S : Sto} {Q : QD} {p q : PyData} (h1 : pyC S x = some p) (h2 : pyC S y = some q) (s1 : SeqAt.shaped p = true) (s2 : SeqAt.shaped q = true) (r : Q (.bl (nb neg (PyData.eqv p q))) S) : iEqB neg x y S Q := by
  refine iEqB_of ?_
  unfold gEqB
  split
  · cases h1
    cases h2
    rename_i i j
    have e : PyData.eqv (.int i) (.int j) = decide (i = j) := by simp only [PyData.eqv]; by_cases h : i = j <;> simp [h]
    rw [e] at r
    exact r
  · cases h1
    cases h2
    rename_i i j
    have e : PyData.eqv (.str i) (.str j) = decide (i = j) := by simp only [PyData.eqv]; by_cases h : i = j <;> simp [h]
    rw [e] at r
    exact r
  · exact onS h1 (onS h2 ⟨⟨s1, s2⟩, r⟩)
theorem pyC_of {S : Sto} {d : D} {p : PyData} (h : toPy d = some p) : pyC S d = some p := by
  cases d with
  | cell n => cases h
  | _ => exact h
/-- what == can be asked of -/
structure Shp (k : Nat) (d : D) : Prop where
  py : ∃ p, toPy d = some p ∧ PyData.canLay0 p = true ∧ p.depth ≤ k
theorem Shp.mono {k k' : Nat} {d : D} (h : Shp k d) (h1 : k ≤ k') : Shp k' d := by
  obtain ⟨p, e, h2, h3⟩ := h.py
  exact ⟨p, e, h2, Nat.le_trans h3 h1⟩
theorem Shp.str {x : Str} (h : Fine x) : Shp 0 (.str x) := by
  refine ⟨_, rfl, ?_, Nat.le_refl _⟩
  show PyData.strOk x = true
  unfold PyData.strOk
  rw [← Array.all_toList, List.all_eq_true]
  intro c hc
  exact decide_eq_true (h c hc)
theorem shps_py {k : Nat} : ∀ {ds : List D}, (∀ d ∈ ds, Shp k d) → ∃ ps, toPyAll ds = some ps ∧ PyData.canLayAll0 ps = true ∧ PyData.depthAll ps ≤ k
  | [], _ => ⟨[], rfl, rfl, Nat.zero_le _⟩
  | d :: ds, h => by
    obtain ⟨p, e, hc, hd⟩ := (h d List.mem_cons_self).py
    obtain ⟨ps, e2, hc2, hd2⟩ := shps_py (ds := ds) fun x hx => h x (List.mem_cons_of_mem _ hx)
    refine ⟨p :: ps, ?_, ?_, ?_⟩
    · show (toPy d).bind _ = _
      rw [e, e2]
      rfl
    · simp only [PyData.canLayAll0, hc, hc2, Bool.and_self]
    · simp only [PyData.depthAll]
      exact Nat.max_le.mpr ⟨hd, hd2⟩
theorem Shp.lst {k : Nat} {b : Bool} {ds : List D} (h : ∀ d ∈ ds, Shp k d) : Shp (k + 1) (.lst b ds) := by
  obtain ⟨ps, e, hc, hd⟩ := shps_py h
  refine ⟨.list ps, ?_, ?_, ?_⟩
  · show (toPyAll ds).map PyData.list = _
    rw [e]
    rfl
  · simp only [PyData.canLay0, hc]
  · simp only [PyData.depth]
    omega
theorem Shp.tup {k : Nat} {ds : List D} (h : ∀ d ∈ ds, Shp k d) : Shp (k + 1) (.tup ds) := by
  obtain ⟨ps, e, hc, hd⟩ := shps_py h
  refine ⟨.tuple ps, ?_, ?_, ?_⟩
  · show (toPyAll ds).map PyData.tuple = _
    rw [e]
    rfl
  · simp only [PyData.canLay0, hc]
  · simp only [PyData.depth]
    omega
theorem Shp.int {i : Int} : Shp 0 (.int i) := ⟨_, rfl, rfl, Nat.le_refl _⟩
theorem Shp.sh {k : Nat} {d : D} (h : Shp k d) (hk : k ≤ 64) : ∃ p, toPy d = some p ∧ SeqAt.shaped p = true ∧ PyData.canLay0 p = true := by
  obtain ⟨p, e, hc, hd⟩ := h.py
  refine ⟨p, e, ?_, hc⟩
  unfold SeqAt.shaped
  rw [hc, decide_eq_true (Nat.le_trans hd hk)]
  rfl
end Pu
namespace Pu
open PySem L2 Rb
/-! ## the latest people -/
def ordM (ticks : List Int) : List (Int × Int) := srtP (ticks.mapIdx fun p t => (-t, (p : Int)))
def grM (ticks : List Int) (c : Nat) : List Nat := (srt (((ordM ticks).take c).map (·.2))).map Int.toNat
theorem tickAt_get {ticks : List Int} {p : Nat} {t : Int} (h : ticks[p]? = some t) : tickAt ticks p = t := by
  unfold tickAt
  rw [List.getD_eq_getElem?_getD, h]
  rfl
theorem ord_len (ticks : List Int) : (ordM ticks).length = ticks.length := by
  unfold ordM
  rw [srtP_len, List.length_mapIdx]
theorem ord_mem {ticks : List Int} {z : Int × Int} : z ∈ ordM ticks ↔ ∃ p : Nat, p < ticks.length ∧ z = (-(tickAt ticks p), (p : Int)) := by
  unfold ordM
  rw [(srtP_perm _).mem_iff]
  constructor
  · intro h
    obtain ⟨p, hp, e⟩ := List.getElem_of_mem h
    rw [List.length_mapIdx] at hp
    rw [List.getElem_mapIdx] at e
    exact ⟨p, hp, by rw [tickAt_get (List.getElem?_eq_getElem hp)]; exact e.symm⟩
  · rintro ⟨p, hp, rfl⟩
    rw [tickAt_get (List.getElem?_eq_getElem hp)]
    refine List.mem_of_getElem? (i := p) ?_
    rw [List.getElem?_mapIdx, List.getElem?_eq_getElem hp]
    rfl
theorem take_snd {ticks : List Int} {c : Nat} {y : Int} (h : y ∈ ((ordM ticks).take c).map (·.2)) : ∃ p : Nat, p < ticks.length ∧ y = (p : Int) := by
  obtain ⟨z, hz, rfl⟩ := List.mem_map.mp h
  obtain ⟨p, hp, rfl⟩ := ord_mem.mp (List.mem_of_mem_take hz)
  exact ⟨p, hp, rfl⟩
theorem nI_toNat_of {l : List Int} (h : ∀ y ∈ l, ∃ p : Nat, y = (p : Int)) : nI (l.map Int.toNat) = l := by
  unfold nI
  rw [List.map_map]
  have e : ∀ y ∈ l, ((fun p : Nat => (p : Int)) ∘ Int.toNat) y = y := fun y hy => by
    obtain ⟨p, rfl⟩ := h y hy
    rfl
  rw [List.map_congr_left e, List.map_id']
theorem nI_grM {ticks : List Int} {c : Nat} : nI (grM ticks c) = srt (((ordM ticks).take c).map (·.2)) :=
  nI_toNat_of fun y hy => by
    obtain ⟨p, _, e⟩ := take_snd ((srt_perm _).mem_iff.mp hy)
    exact ⟨p, e⟩
def prsV (ps : List (Int × Int)) : List D := ps.map fun p => D.tup [.int p.1, .int p.2]
theorem prsV_len (ps : List (Int × Int)) : (prsV ps).length = ps.length := List.length_map ..
end Pu
namespace Pu
open PySem L2 Rb
/-! ## the plan of the rule -/
theorem below_riders {k : Nat} (r : List Nat) : below k (ridersV r) = true := below_nats r
end Pu
namespace Pu
open PySem L2 Rb
/-! ## two cells at the end of the store -/
section
variable {A : Sto} {a : Nat} {xs ys : List D} {c d e : Cl}
theorem get_A (h : A.length = a) : (A ++ [c, d])[a]? = some c := by
  subst h
  rw [List.getElem?_append_right (Nat.le_refl _), Nat.sub_self]
  rfl
theorem get_B (h : A.length = a) : (A ++ [c, d])[a + 1]? = some d := by
  subst h
  rw [List.getElem?_append_right (by omega), show A.length + 1 - A.length = 1 by omega]
  rfl
theorem cell_A (h : A.length = a) : cellOf (A ++ [.lst xs, d]) (.cell a) = some (a, xs) := by
  show (lstAt (A ++ [Cl.lst xs, d])[a]?).map _ = _
  rw [get_A h]
  rfl
theorem cell_B (h : A.length = a) : cellOf (A ++ [c, .lst ys]) (.cell (a + 1)) = some (a + 1, ys) := by
  show (lstAt (A ++ [c, Cl.lst ys])[a + 1]?).map _ = _
  rw [get_B h]
  rfl
theorem seq_A (h : A.length = a) : seqOf (A ++ [.lst xs, d]) (.cell a) = some xs := by
  show lstAt (A ++ [Cl.lst xs, d])[a]? = _
  rw [get_A h]
  rfl
theorem set_A (h : A.length = a) : (A ++ [c, d]).set a e = A ++ [e, d] := by
  subst h
  rw [List.set_append_right _ _ (Nat.le_refl _), Nat.sub_self]
  rfl
theorem set_B (h : A.length = a) : (A ++ [c, d]).set (a + 1) e = A ++ [c, e] := by
  subst h
  rw [List.set_append_right _ _ (by omega), show A.length + 1 - A.length = 1 by omega]
  rfl
end
/-! ## the law's own way to the latest people -/
def mkp (ticks : List Int) (p : Nat) : Int × Int := (-(tickAt ticks p), (p : Int))
theorem filter_asc {lf : List Nat} {f : Nat → Bool} (h : lf.Pairwise (· < ·)) {b : Nat} {rest : List Nat} (e : lf.filter f = b :: rest) : b ∈ lf ∧ f b = true ∧ ∀ q ∈ lf, f q = true → b ≤ q := by
  have hm : b ∈ lf.filter f := by rw [e]; exact List.mem_cons_self
  obtain ⟨h1, h2⟩ := List.mem_filter.mp hm
  refine ⟨h1, h2, fun q hq hf => ?_⟩
  have hq2 : q ∈ lf.filter f := List.mem_filter.mpr ⟨hq, hf⟩
  have hp := h.filter f
  rw [e] at hp hq2
  rcases List.mem_cons.mp hq2 with rfl | hq2
  · exact Nat.le_refl _
  · exact Nat.le_of_lt ((List.pairwise_cons.mp hp).1 q hq2)
theorem next_best {ticks : List Int} {lf : List Nat} {j b : Nat} {rest : List Nat} (asc : lf.Pairwise (· < ·)) (pm : (lf.map (mkp ticks)).Perm ((ordM ticks).drop j)) (ne : lf ≠ []) (e : lf.filter (fun k => decide (tickAt ticks k = maxL (lf.map (tickAt ticks)))) = b :: rest) :
    (ordM ticks)[j]? = some (mkp ticks b) ∧ (ordM ticks).drop j = mkp ticks b :: (ordM ticks).drop (j + 1) ∧ b ∈ lf := by
  obtain ⟨h1, h2, h3⟩ := filter_asc asc e
  have h2 : tickAt ticks b = maxL (lf.map (tickAt ticks)) := of_decide_eq_true h2
  obtain ⟨m1, m2⟩ := maxL_spec (ns := lf.map (tickAt ticks)) (by simpa using ne)
  have ln := least_next (k := j) (m := mkp ticks b) (srtP_sorted _) pm (List.mem_map.mpr ⟨b, h1, rfl⟩) fun q hq => by
    obtain ⟨p, hp, rfl⟩ := List.mem_map.mp hq
    have hle := m2 (tickAt ticks p) (List.mem_map.mpr ⟨p, hp, rfl⟩)
    show -(tickAt ticks b) < -(tickAt ticks p) ∨ (-(tickAt ticks b) = -(tickAt ticks p) ∧ (b : Int) ≤ (p : Int))
    by_cases et : tickAt ticks p = tickAt ticks b
    · exact .inr ⟨by omega, by have := h3 p hp (decide_eq_true (by omega)); omega⟩
    · exact .inl (by omega)
  exact ⟨ln.1, ln.2, h1⟩
theorem atI_tk {ticks : List Int} {p : Nat} (h : p < ticks.length) : atI (ticks.map D.int) (p : Int) = some (.int (tickAt ticks p)) := atI_tick h
end Pu
namespace Pu
open PySem L2 Rb
/-- what the loop has chosen -/
structure Chosen (ticks : List Int) (c : Nat) (lf rs : List Nat) : Prop where
  asc : lf.Pairwise (· < ·)
  lt : ∀ p ∈ lf, p < ticks.length
  pm : (lf.map (mkp ticks)).Perm ((ordM ticks).drop rs.length)
  sel : nI rs = ((ordM ticks).take rs.length).map (·.2)
  le : rs.length ≤ c
theorem Chosen.start {ticks : List Int} {c : Nat} : Chosen ticks c (List.range ticks.length) [] where
  asc := List.pairwise_lt_range
  lt := fun p hp => List.mem_range.mp hp
  pm := by
    rw [List.length_nil, List.drop_zero]
    have e : (List.range ticks.length).map (mkp ticks) = ticks.mapIdx fun p t => (-t, (p : Int)) := by
      apply List.ext_getElem?
      intro i
      rw [List.getElem?_map, List.getElem?_mapIdx]
      by_cases hi : i < ticks.length
      · rw [List.getElem?_range hi, List.getElem?_eq_getElem hi]
        show some (-(tickAt ticks i), (i : Int)) = some (-ticks[i], (i : Int))
        rw [tickAt_get (List.getElem?_eq_getElem hi)]
      · rw [List.getElem?_eq_none (by rw [List.length_range]; omega), List.getElem?_eq_none (by omega)]
        rfl
    rw [e]
    exact (srtP_perm _).symm
  sel := rfl
  le := Nat.zero_le _
theorem Chosen.len {ticks : List Int} {c : Nat} {lf rs : List Nat} (h : Chosen ticks c lf rs) : lf.length + rs.length = ticks.length := by
  have h1 := h.pm.length_eq
  have h2 := congrArg List.length h.sel
  rw [List.length_map, List.length_drop, ord_len] at h1
  rw [nI_len, List.length_map, List.length_take, ord_len] at h2
  omega
theorem Chosen.next {ticks : List Int} {c : Nat} {lf rs : List Nat} (h : Chosen ticks c lf rs) {b j : Nat} {rest : List Nat} (hc : rs.length < c) (ne : lf ≠ []) (e : lf.filter (fun k => decide (tickAt ticks k = maxL (lf.map (tickAt ticks)))) = b :: rest) (hj : lf[j]? = some b) : Chosen ticks c (lf.eraseIdx j) (rs ++ [b]) := by
  obtain ⟨o1, o2, o3⟩ := next_best h.asc h.pm ne e
  have el : (rs ++ [b]).length = rs.length + 1 := by rw [List.length_append]; rfl
  refine ⟨h.asc.sublist (List.eraseIdx_sublist ..), fun p hp => h.lt p (List.mem_of_mem_eraseIdx hp), ?_, ?_, by omega⟩
  · rw [el]
    have hp := h.pm
    rw [o2] at hp
    have e1 : (lf.map (mkp ticks)).eraseIdx j = (lf.eraseIdx j).map (mkp ticks) := by
      clear hp o1 o2 o3 e ne el
      clear h
      induction lf generalizing j with
      | nil => simp
      | cons x l ih =>
        cases j with
        | zero => rfl
        | succ j => exact congrArg _ (ih hj)
    rw [← e1]
    exact erase_next (by rw [List.getElem?_map, hj]; rfl) hp
  · rw [el, List.take_add_one, o1, List.map_append, ← h.sel]
    unfold nI
    rw [List.map_append]
    rfl
theorem Chosen.done {ticks : List Int} {c : Nat} {lf rs : List Nat} (h : Chosen ticks c lf rs) (hd : lf = [] ∨ c ≤ rs.length) : nI rs = ((ordM ticks).take c).map (·.2) := by
  have hl := h.len
  have hle := h.le
  rw [h.sel]
  rcases hd with rfl | hd
  · have : rs.length = ticks.length := by simpa using hl
    rw [List.take_of_length_le (by rw [ord_len]; omega), List.take_of_length_le (by rw [ord_len]; omega)]
  · rw [show rs.length = c by omega]
theorem Chosen.sorted {ticks : List Int} {c : Nat} {lf rs : List Nat} (h : Chosen ticks c lf rs) (hd : lf = [] ∨ c ≤ rs.length) : srt (nI rs) = nI (grM ticks c) := by rw [h.done hd, nI_grM]
theorem Chosen.mem {ticks : List Int} {c : Nat} {lf rs : List Nat} (h : Chosen ticks c lf rs) (hd : lf = [] ∨ c ≤ rs.length) {p : Nat} : p ∈ rs ↔ p ∈ grM ticks c := by
  rw [← nI_mem, ← nI_mem (r := grM ticks c), ← h.sorted hd, (srt_perm _).mem_iff]
end Pu
namespace Pu
open PySem L2 Rb Gm
/-! ## if no people exclude an end, the rule keeps it -/
theorem card_mem {n : Nat} : ∀ {r : List Nat}, r.Nodup → (∀ p ∈ r, p < n) → card (fun i => decide (i ∈ r)) n = r.length
  | [], _, _ => by
    have e : card (fun i => decide (i ∈ ([] : List Nat))) n = sumP (fun _ => false) (fun _ => 1) n := sumP_congr (fun i _ => by simp) fun _ _ _ => rfl
    rw [e]
    have z : ∀ m, sumP (fun _ => false) (fun _ => 1) m = 0 := fun m => by
      induction m with
      | zero => rfl
      | succ m ih => show sumP (fun _ => false) (fun _ => 1) m + (if false = true then 1 else 0) = 0; rw [ih]; rfl
    exact z n
  | a :: r, nd, h => by
    obtain ⟨n1, n2⟩ := List.nodup_cons.mp nd
    have ih := card_mem n2 fun p hp => h p (List.mem_cons_of_mem _ hp)
    have e : card (fun i => decide (i ∈ a :: r)) n = card (upP (fun i => decide (i ∈ r)) a true) n := sumP_congr (fun i _ => by
      unfold upP
      by_cases c : i = a
      · rw [if_pos c, c]
        simp
      · rw [if_neg c]
        simp [c]) fun _ _ _ => rfl
    rw [e]
    unfold card at ih ⊢
    rw [sumP_up (h a List.mem_cons_self), ih, decide_eq_false n1]
    simp
end Pu
namespace Pu
open PySem L2 Rb Gm
/-! ## nobody waits under the rule -/
theorem len_le_of {n : Nat} {l m : List Nat} (h1 : l.Nodup) (h2 : m.Nodup) (h3 : ∀ p ∈ m, p < n) (h : ∀ p ∈ l, p ∈ m) : l.length ≤ m.length := by
  have a := card_mem h1 fun p hp => h3 p (h p hp)
  have b := card_mem h2 h3
  have c : card (fun i => decide (i ∈ l)) n ≤ card (fun i => decide (i ∈ m)) n := sumP_le fun i _ => by
    by_cases hi : i ∈ l
    · rw [if_pos (decide_eq_true hi), if_pos (decide_eq_true (h i hi))]
      exact Int.le_refl _
    · rw [if_neg (by simpa using hi)]
      split <;> decide
  omega
end Pu
namespace Pu
open PySem L2 Rb Gm
/-! ## other orders, later starts, more bicycles -/
theorem perm_sum {l m : List Int} (h : l.Perm m) : l.sum = m.sum := by
  induction h with
  | nil => rfl
  | cons x _ ih => rw [List.sum_cons, List.sum_cons, ih]
  | swap x y l => rw [List.sum_cons, List.sum_cons, List.sum_cons, List.sum_cons]; omega
  | trans _ _ ih1 ih2 => exact ih1.trans ih2
/-! ## a further stage -/
/-! ## all ticks multiplied -/
end Pu
namespace Pu
open PySem L2 Rb Gm
theorem cut_from {xs : List D} {m : Nat} : cutD xs (some (m : Int)) none = xs.drop m := by
  unfold cutD
  have h1 : HT.sIx xs.length xs.length none = xs.length := HT.sIx_none ..
  have h2 : HT.sIx xs.length 0 (some (m : Int)) = min m xs.length := HT.sIx_nat ..
  rw [h1, h2]
  by_cases h : m ≤ xs.length
  · rw [Nat.min_eq_left h, List.take_of_length_le (by rw [List.length_drop]; omega)]
  · rw [Nat.min_eq_right (by omega), List.drop_length, List.drop_of_length_le (by omega)]
    simp
theorem PlanOk.set {bs : List Int} {n : Nat} {plan : List (List Nat)} {sp : Nat} {r r' : List Nat} (ok : PlanOk bs n plan) (hr : plan[sp]? = some r) (h1 : r'.Pairwise (· < ·)) (h2 : ∀ p ∈ r', p < n) (h3 : r'.length = r.length) : PlanOk bs n (plan.set sp r') := by
  have el : ∀ i, ((plan.set sp r').getD i []).length = (plan.getD i []).length := fun i => by
    rw [List.getD_eq_getElem?_getD, List.getD_eq_getElem?_getD, List.getElem?_set]
    split
    · rename_i e
      subst e
      rw [hr, if_pos (List.getElem?_eq_some_iff.mp hr).1]
      exact h3
    · rfl
  refine ⟨by rw [List.length_set]; exact ok.len, ok.nn, fun x hx => ?_, fun x hx => ?_, fun i => ?_⟩
  · rcases List.mem_or_eq_of_mem_set hx with h | rfl
    · exact ok.asc x h
    · exact h1
  · rcases List.mem_or_eq_of_mem_set hx with h | rfl
    · exact ok.lt x h
    · exact h2
  · rw [el, el]
    exact ok.few i
end Pu
namespace Pu
open PySem L2 Rb Gm
/-- a comprehension over a range, with an invariant -/
theorem comp_inv {t : FT} {f : FE} {k : List D → Sto → Prop} {ρ : Rho} {S : Sto} {n j : Nat} (I : Nat → List D → Sto → Prop) (h0 : I 0 [] S)
    (hs : ∀ (i : Nat) (acc : List D) (S : Sto) (K : List D → Sto → Prop), i < n → (∀ acc' S', I (i + 1) acc' S' → K acc' S') → I i acc S → t (ρ.set j (some (.int (0 + (i : Int))))) S (fun b S1 => if b = true then f (ρ.set j (some (.int (0 + (i : Int))))) S1 (fun y S2 => K (acc ++ [y]) S2) noE else K acc S1) noE)
    (hd : ∀ acc S, I n acc S → k acc S) : dCompL (st1 j) t f [] (rangeD 0 n) [] ρ S k := by
  have go : ∀ (m p : Nat) (acc : List D) (S : Sto), p + m = n → I p acc S → dCompL (st1 j) t f [] ((rangeD 0 n).drop p) acc ρ S k := by
    intro m
    induction m with
    | zero =>
      intro p acc S e h
      have : p = (rangeD 0 n).length := by rw [rangeD_len]; omega
      rw [this, List.drop_length]
      refine hd acc S ?_
      rw [rangeD_len] at this
      rw [← this]
      exact h
    | succ m ih =>
      intro p acc S e h
      have hlt : p < (rangeD 0 n).length := by rw [rangeD_len]; omega
      have hx := List.getElem?_eq_getElem hlt
      obtain ⟨h1, e2⟩ := rangeD_get hx
      rw [drop_cons hx, e2]
      exact hs p acc S (fun acc' S' => dCompL (st1 j) t f [] ((rangeD 0 n).drop (p + 1)) acc' ρ S' k) (by omega) (fun acc' S' h' => ih (p + 1) acc' S' (by omega) h') h
  exact go n 0 [] S (by omega) h0
end Pu
namespace Pu
open PySem L2 Rb Gm
/-! ## the law's own ticks -/
def laterM (tk : List Int) (r br : List Nat) (st : Nat) (wk rd : Int) (j : Nat) : List Int := setF (tk.map fun t => t + wk) (((pairsM tk r br st).take j).map fun z => (z.1.2.toNat, mx z.1.1 z.2 + rd))
theorem laterM_len {tk : List Int} {r br : List Nat} {st : Nat} {wk rd : Int} {j : Nat} : (laterM tk r br st wk rd j).length = tk.length := by
  unfold laterM
  rw [setF_len, List.length_map]
theorem laterM_succ {tk : List Int} {r br : List Nat} {st : Nat} {wk rd : Int} {j : Nat} {z : (Int × Int) × Int} (hz : (pairsM tk r br st)[j]? = some z) : laterM tk r br st wk rd (j + 1) = (laterM tk r br st wk rd j).set z.1.2.toNat (mx z.1.1 z.2 + rd) := by
  unfold laterM
  rw [take_snoc hz, List.map_append]
  exact setF_snoc _ _ _
theorem laterM_row {tk : List Int} {r br : List Nat} {st : Nat} {wk rd : Int} (few : r.length ≤ st + br.length) (nd : r.Nodup) (hr : ∀ p ∈ r, p < tk.length) : laterM tk r br st wk rd r.length = rowM tk r br st wk rd := by
  unfold laterM
  rw [List.take_of_length_le (by rw [pairsM_len few]; exact Nat.le_refl _)]
  apply List.ext_getElem?
  intro p
  unfold rowM
  rw [List.getElem?_mapIdx]
  by_cases hp : p ∈ r
  · obtain ⟨b, hb, e⟩ := leave_in few nd hp (hr p hp)
    have e2 : (setF (tk.map fun t => t + wk) ((pairsM tk r br st).map fun z => (z.1.2.toNat, mx z.1.1 z.2 + rd)))[p]? = some (mx (tickAt tk p) b + rd) := by
      refine setF_in _ _ p _ ?_ (List.mem_map.mpr ⟨_, hb, by simp⟩) (by rw [List.length_map]; exact hr p hp)
      rw [List.map_map]
      exact (pairs_people (ticks := tk) few).nodup_iff.mpr nd
    rw [e, e2]
    show some _ = some (_ + if p ∈ r then rd else wk)
    rw [if_pos hp]
  · have e2 : (setF (tk.map fun t => t + wk) ((pairsM tk r br st).map fun z => (z.1.2.toNat, mx z.1.1 z.2 + rd)))[p]? = (tk.map fun t => t + wk)[p]? := by
      refine setF_out _ _ p fun y hy e => ?_
      obtain ⟨z, hz, rfl⟩ := List.mem_map.mp hy
      obtain ⟨p2, hp2, e2⟩ := pairs_mem hz
      simp only [e2] at e
      have : p2 = p := by simpa using e
      exact hp (this ▸ hp2)
    rw [leave_out hp, e2, List.getElem?_map]
    cases tk[p]? with
    | none => rfl
    | some t =>
      show some (t + wk) = some (t + if p ∈ r then rd else wk)
      rw [if_neg hp]
def pairD2 (tk : List Int) : D → D
  | .int k => .tup [.int (tickAt tk k.toNat), .int k]
  | d => d
end Pu
namespace Pu
open PySem L2 Rb Gm
/-! ## the other draws: a state of cells and rests -/
def stateS (cs rs : List Int) (n : Int) : Sto := [.lst (rs.map D.int), .lst [.lst false (cs.map D.int), .int n, .cell 0]]
def Nk (S : Sto) (N : Int) (T : Sto) : Prop := ∃ cs rs n, S = stateS cs rs n ++ T ∧ 1 ≤ cs.length ∧ cs.length ≤ 64 ∧ rs.length = cs.length ∧ (∀ x ∈ cs, 0 ≤ x) ∧ (∀ x ∈ rs, 0 ≤ x) ∧ 0 ≤ n ∧ n ≤ N
theorem Nk.le {S : Sto} {N M : Int} {T : Sto} (h : Nk S N T) (e : N ≤ M) : Nk S M T := by
  obtain ⟨cs, rs, n, h1, h2, h3, h4, h5, h6, h7, h8⟩ := h
  exact ⟨cs, rs, n, h1, h2, h3, h4, h5, h6, h7, by omega⟩
theorem next_ok {S T : Sto} {N lim : Int} {Q : QD} {E : ED} (h : Nk S N T) (hN : N ≤ 1000000) (h1 : 1 ≤ lim) (h2 : lim ≤ 1000000000) (q : ∀ r S', 0 ≤ r → r < lim → Nk S' (N + 1) T → Q (.int r) S') : F_law_next [.cell 1, .int lim] S Q E := by
  obtain ⟨cs, rs, n, rfl, c1, c2, hl, hc, hr, n0, n1⟩ := h
  unfold F_law_next
  have cml : (cs.map D.int).length = cs.length := List.length_map ..
  have y0 : 0 ≤ n % ((cs.map D.int).length : Int) := Int.emod_nonneg _ (by omega)
  have y1 : n % ((cs.map D.int).length : Int) < ((cs.map D.int).length : Int) := Int.emod_lt_of_pos _ (by omega)
  obtain ⟨j, hj⟩ : ∃ j : Nat, n % ((cs.map D.int).length : Int) = (j : Int) := ⟨_, (Int.toNat_of_nonneg y0).symm⟩
  rw [hj] at y0 y1
  have jc : j < cs.length := by omega
  have jr : j < rs.length := by omega
  have ar : atI (rs.map D.int) (n % ((cs.map D.int).length : Int)) = some (.int rs[j]) := by
    rw [hj]
    exact atI_nat (j := j) (by rw [List.getElem?_map, List.getElem?_eq_getElem jr]; rfl)
  have ac : atI (cs.map D.int) (n % ((cs.map D.int).length : Int)) = some (.int cs[j]) := by
    rw [hj]
    exact atI_nat (j := j) (by rw [List.getElem?_map, List.getElem?_eq_getElem jc]; rfl)
  have rj0 := hr _ (List.getElem_mem jr)
  have cj0 := hc _ (List.getElem_mem jc)
  refine ⟨rfl, rfl, by show 0 < ((cs.map D.int).length : Int); omega, ?_⟩
  refine onS ar ?_
  refine ifB (fun hb => ?_) fun hb => ?_
  · refine onS ar ⟨by show 0 < lim; omega, onS ar ⟨wide_div (b := 30) (by omega) (by omega) (by decide) (by decide), onS (a := j) ?_ ?_⟩⟩
    · show ixN (rs.map D.int).length (n % ((cs.map D.int).length : Int)) = some j
      rw [hj]
      unfold ixN
      rw [if_pos (by omega), if_pos (by rw [List.length_map]; omega), Int.toNat_natCast]
    · have em : (rs.map D.int).set j (D.int (rs[j] / lim)) = (rs.set j (rs[j] / lim)).map D.int := List.map_set.symm
      show Q (.int (rs[j] % lim)) (Cl.lst ((rs.map D.int).set j (D.int (rs[j] / lim))) :: Cl.lst [.lst false (cs.map D.int), .int (n + 1), .cell 0] :: T)
      rw [em]
      refine q _ _ (Int.emod_nonneg _ (by omega)) (Int.emod_lt_of_pos _ (by omega)) ⟨cs, rs.set j (rs[j] / lim), n + 1, rfl, c1, c2, by rw [List.length_set]; exact hl, hc, fun x hx => ?_, by omega, by omega⟩
      rcases List.mem_or_eq_of_mem_set hx with z | rfl
      · exact hr x z
      · exact Int.ediv_nonneg rj0 (by omega)
  · refine onS ac ?_
    generalize cs[j] = x at cj0
    have a1 := Int.emod_nonneg x (show (2147483629 : Int) ≠ 0 by decide)
    have a2 := Int.emod_lt_of_pos x (show (0 : Int) < 2147483629 by decide)
    have fin : ∀ m : Int, 0 ≤ m → Q (.int (m % lim)) (stateS cs rs (n + 1) ++ T) := fun m _ => q _ _ (Int.emod_nonneg _ (by omega)) (Int.emod_lt_of_pos _ (by omega)) ⟨cs, rs, n + 1, rfl, c1, c2, hl, hc, hr, by omega, by omega⟩
    refine ⟨by show (0 : Int) < _; decide, .inl (.inl ⟨by decide, by decide⟩), ⟨by decide, by decide, ?_⟩, by show (0 : Int) < _; decide, ?_⟩
    · show (x % 2147483629 + 40037 * n + 9203).natAbs < 2 ^ 64
      omega
    show gN 7 (D.int ((x % 2147483629 + 40037 * n + 9203) ^ (3 : Int).toNat % 2147483587)) _ _ _ _
    generalize hm1 : (x % 2147483629 + 40037 * n + 9203) ^ (3 : Int).toNat % 2147483587 = mm
    have b1 : 0 ≤ mm := by rw [← hm1]; exact Int.emod_nonneg _ (by decide)
    have b2 : mm < 2147483587 := by rw [← hm1]; exact Int.emod_lt_of_pos _ (by decide)
    have sq : 0 ≤ 5039 * n * n ∧ 5039 * n * n ≤ 5039000000 * 1000000 := ⟨Int.mul_nonneg (by omega) n0, Int.mul_le_mul (by omega) (by omega) n0 (by decide)⟩
    refine ⟨.inl (.inl ⟨by decide, by decide⟩), .inl (.inr ⟨by omega, by omega⟩), ⟨by decide, by decide, ?_⟩, by show (0 : Int) < _; decide, ?_⟩
    · show (mm + 5039 * n * n + 43).natAbs < 2 ^ 64
      generalize 5039 * n * n = s at sq
      omega
    show gN 7 (D.int ((mm + 5039 * n * n + 43) ^ (3 : Int).toNat % 2147483563)) _ _ _ _
    generalize hm2 : (mm + 5039 * n * n + 43) ^ (3 : Int).toNat % 2147483563 = m2
    have d1 : 0 ≤ m2 := by rw [← hm2]; exact Int.emod_nonneg _ (by decide)
    have d2 : m2 < 2147483563 := by rw [← hm2]; exact Int.emod_lt_of_pos _ (by decide)
    refine ⟨.inl (.inl ⟨by omega, by omega⟩), by show (0 : Int) < _; decide, wide_div (b := 30) (by decide) (by decide) (by decide) (by decide), by show 0 < lim; omega, ?_⟩
    exact fin _ (Int.ediv_nonneg (Int.emod_nonneg _ (by decide)) (by decide))
end Pu
namespace Pu
open PySem L2 Rb Gm
def restD : D → D
  | .int c => .int (c * if decide (10 ^ 18 ≤ c) = true then 1 else 0)
  | d => d
theorem state_ok {ns : List Int} {Q : QD} {E : ED} (q : ∀ S, Nk S 0 [] → Q (.cell 1) S) : F_law_draws [.kls (ns.map D.int)] [] Q E := by
  unfold F_law_draws
  refine ⟨rfl, ?_⟩
  have e : cutD (ns.map D.int) none (some 63) = (ns.take 63).map D.int := by
    rw [show (63 : Int) = ((63 : Nat) : Int) from rfl, cut_to, List.map_take]
  show (cutD (ns.map D.int) none (some 63)).length ≤ sizeLine ∧ dCompL (st1 2) dYes (dB gAbs (dCons (dVar 2) dNil)) [] (cutD (ns.map D.int) none (some 63)) [] _ [] _
  rw [e]
  refine ⟨szd (by rw [List.length_map, List.length_take]; omega), ?_⟩
  refine comp_map (src := []) (g := fun d => match d with | .int i => .int (absI i) | d => d) (fun _ p => p) _ [] ?_ ?_
  · intro x hx
    obtain ⟨i, _, rfl⟩ := List.mem_map.mp hx
    exact ⟨_, rfl, fun Q q => q⟩
  rw [List.nil_append, List.map_map]
  have ea : (ns.take 63).map ((fun d => match d with | .int i => .int (absI i) | d => d) ∘ D.int) = ((ns.take 63).map absI).map D.int := by
    rw [List.map_map]
    rfl
  rw [ea]
  have al : ((ns.take 63).map absI).length ≤ 63 := by rw [List.length_map, List.length_take]; omega
  have an : ∀ x ∈ (ns.take 63).map absI, 0 ≤ x := fun x hx => by
    obtain ⟨i, _, rfl⟩ := List.mem_map.mp hx
    exact absI_nn i
  have a0 : ns.length ≠ 0 → 1 ≤ ((ns.take 63).map absI).length := fun h => by rw [List.length_map, List.length_take]; omega
  generalize (ns.take 63).map absI = as at al an a0
  refine ⟨szr rfl, eq_int ?_⟩
  have kl : (ns.map D.int).length = ns.length := List.length_map ..
  have fin : ∀ cs : List Int, 1 ≤ cs.length → cs.length ≤ 64 → (∀ x ∈ cs, 0 ≤ x) → (dRet (dLstC (dCons (dVar 1) (dCons (dC (.int 0)) (dCons (dLcC (st1 2) dYes (dBin gMul (dVar 2) (dB gToInt (dCons (dBin gGe (dVar 2) (dBin gPow (dC (.int 10)) (dC (.int 18)))) dNil))) (dItS (dVar 1))) dNil))))) [some (.kls (ns.map D.int)), some (.lst false (cs.map D.int)), none] [] { nx := fun _ S' => Q .non S', rt := Q, bk := fun _ _ => False, ct := fun _ _ => False } noE := fun cs c1 c2 hc => by
    refine ⟨szd (by show (cs.map D.int).length ≤ 100000; rw [List.length_map]; omega), comp_map (src := []) (g := restD) (fun _ p => p) (cs.map D.int) [] (fun x hx => ?_) ⟨szr rfl, ?_⟩⟩
    · obtain ⟨c, hcm, rfl⟩ := List.mem_map.mp hx
      refine ⟨_, rfl, fun Q' q' => ⟨⟨by decide, by decide, by decide⟩, ⟨.inl (.inr ?_), q'⟩⟩⟩
      show -2 ^ 64 < (if decide ((10 : Int) ^ (18 : Int).toNat ≤ c) = true then (1 : Int) else 0) ∧ (if decide ((10 : Int) ^ (18 : Int).toNat ≤ c) = true then (1 : Int) else 0) < 2 ^ 64
      split <;> decide
    · refine q _ ⟨cs, cs.map fun c => c * if decide ((10 : Int) ^ 18 ≤ c) = true then 1 else 0, 0, ?_, c1, c2, by rw [List.length_map], hc, fun x hx => ?_, by decide, by decide⟩
      · show [Cl.lst _, Cl.lst _] = [Cl.lst _, Cl.lst _]
        rw [List.nil_append, List.map_map, List.map_map]
        rfl
      · obtain ⟨c, hcm, rfl⟩ := List.mem_map.mp hx
        have := hc c hcm
        show 0 ≤ c * if decide ((10 : Int) ^ 18 ≤ c) = true then 1 else 0
        split <;> omega
  by_cases z : ns.length = 0
  · have ez : decide (((ns.map D.int).length : Int) = 0) = true := decide_eq_true (by omega)
    rw [ez]
    refine ⟨⟨by decide, by decide, szr rfl⟩, szd (by show (as.map D.int).length + 1 ≤ 100000; rw [List.length_map]; omega), ?_⟩
    have f := fin (as ++ [0]) (by rw [List.length_append]; simp) (by rw [List.length_append]; simp; omega) fun x hx => by
      rcases List.mem_append.mp hx with h | h
      · exact an x h
      · rw [List.mem_singleton.mp h]
        exact Int.le_refl _
    rw [List.map_append] at f
    exact f
  · have ez : decide (((ns.map D.int).length : Int) = 0) = false := decide_eq_false (by omega)
    rw [ez]
    refine ⟨⟨by decide, by decide, szr rfl⟩, szd (by show (as.map D.int).length + 0 ≤ 100000; rw [List.length_map]; omega), ?_⟩
    have f := fin as (a0 z) (by omega) an
    rw [← List.append_nil (as.map D.int)] at f
    exact f
end Pu
namespace Pu
open PySem L2 Rb Gm
theorem pick4i {x y z u r : Int} (h0 : 0 ≤ r) (h1 : r < 4) : ∃ v : Int, atI [D.int x, D.int y, D.int z, D.int u] r = some (.int v) ∧ (v = x ∨ v = y ∨ v = z ∨ v = u) := by
  rcases (by omega : r = 0 ∨ r = 1 ∨ r = 2 ∨ r = 3) with rfl | rfl | rfl | rfl
  · exact ⟨x, rfl, .inl rfl⟩
  · exact ⟨y, rfl, .inr (.inl rfl)⟩
  · exact ⟨z, rfl, .inr (.inr (.inl rfl))⟩
  · exact ⟨u, rfl, .inr (.inr (.inr rfl))⟩
theorem road3_ok {S T : Sto} {N st mo : Int} {Q : QD} {E : ED} (h : Nk S N T) (hN : N ≤ 900000) (s1 : 1 ≤ st) (s2 : st ≤ 12) (m1 : 1 ≤ mo) (m2 : mo ≤ 12)
    (q : ∀ wk rd (bs : List Int) S', RoadOk wk rd bs → (bs.length : Int) ≤ st → (∀ b ∈ bs, b ≤ mo) → Nk S' (N + 40) T → Q (roadV wk rd bs) S') : F_law_road_3 [.cell 1, .int st, .int mo] S Q E := by
  unfold F_law_road_3
  refine ⟨rfl, szr rfl, next_ok h (by omega) (by decide) (by decide) fun r S1 r0 r1 d1 => ?_⟩
  obtain ⟨l1, e1, c1⟩ := pick3i (x := 4) (y := 30) (z := 999) r0 r1
  refine onS e1 (next_ok d1 (by omega) (by omega) (by omega) fun r2 S2 r20 r21 d2 => ⟨szr rfl, ?_⟩)
  refine next_ok d2 (by omega) (by decide) (by decide) fun r3 S3 r30 r31 d3 => ?_
  obtain ⟨l2, e2, c2⟩ := pick3i (x := 3) (y := 30) (z := 999) r30 r31
  refine onS e2 ?_
  have hlim : ∀ a : Int, (if l2 < 1000 - (1 + r2) then l2 else 1000 - (1 + r2)) = a → 1 ≤ a ∧ a ≤ 1000 - (1 + r2) := fun a ha => by
    rw [← ha]
    split <;> omega
  generalize hla : (if l2 < 1000 - (1 + r2) then l2 else 1000 - (1 + r2)) = la
  obtain ⟨la1, la2⟩ := hlim la hla
  show F_law_next [.cell 1, .int (if l2 < 1000 - (1 + r2) then l2 else 1000 - (1 + r2))] S3 _ _
  rw [hla]
  refine next_ok d3 (by omega) (by omega) (by omega) fun r4 S4 r40 r41 d4 => ⟨szr rfl, ?_⟩
  refine next_ok d4 (by omega) (by omega) (by omega) fun r5 S5 r50 r51 d5 => ⟨⟨by omega, by omega⟩, ?_⟩
  refine for_rng 0 (1 + r5).toNat (fun i ρ S' => ∃ (bs : List Int) (y6 : Option D), ρ = [some (.cell 1), some (.int st), some (.int mo), some (.int (1 + r2)), some (.int (1 + r2 + 1 + r4)), some (.tup (bs.map .int)), y6] ∧ bs.length = i ∧ (∀ b ∈ bs, 0 ≤ b ∧ b ≤ mo) ∧ Nk S' (N + 5 + 2 * i) T) ?_ ?_ ?_
  · exact ⟨[], none, rfl, rfl, (fun _ z => nomatch z), d5.le (by omega)⟩
  · rintro i ρ S' K hi hK ⟨bs, y6, rfl, bl, hb, dk⟩
    refine next_ok dk (by omega) (by omega) (by omega) fun a1 S6 a10 a11 d6 => ⟨szr rfl, ?_⟩
    refine next_ok d6 (by omega) (by decide) (by decide) fun a2 S7 a20 a21 d7 => ?_
    obtain ⟨v, e5, c5⟩ := pick4i (x := a1) (y := 0) (z := 0) (u := 1) a20 a21
    refine onS e5 ⟨szr rfl, szd (by show (bs.map D.int).length + 1 ≤ 100000; rw [List.length_map]; omega), hK _ _ ⟨bs ++ [v], some (.int (0 + (i : Int))), by rw [List.map_append]; rfl, by rw [List.length_append, bl]; rfl, fun b hm => ?_, d7.le (by omega)⟩⟩
    rcases List.mem_append.mp hm with z | z
    · exact hb b z
    · rw [List.mem_singleton.mp z]
      omega
  · rintro ρ S' ⟨bs, y6, rfl, bl, hb, dk⟩
    refine ⟨szr rfl, ?_⟩
    exact q (1 + r2 + 1 + r4) (1 + r2) bs S' ⟨by omega, by omega, by omega, by omega, by omega, fun b hm => by have := hb b hm; omega⟩ (by omega) (fun b hm => (hb b hm).2) (dk.le (by omega))
end Pu
namespace Pu
open PySem L2 Rb Gm
theorem Nk.len {S : Sto} {N : Int} {T : Sto} (h : Nk S N T) : S.length = 2 + T.length := by
  obtain ⟨cs, rs, n, rfl, _⟩ := h
  rw [List.length_append]
  rfl
theorem Nk.take2 {S : Sto} {N : Int} {T : Sto} (h : Nk S N T) : Nk (S.take 2) N [] ∧ S.drop 2 = T ∧ (S.take 2).all (Cl.below 2) = true ∧ (S.take 2).length = 2 := by
  obtain ⟨cs, rs, n, rfl, h⟩ := h
  refine ⟨⟨cs, rs, n, rfl, h⟩, rfl, ?_, rfl⟩
  show (belowAll 2 (rs.map D.int) && ((belowAll 2 (cs.map D.int) && (true && (true && true))) && true)) = true
  rw [below_ints, below_ints]
  rfl
theorem Nk.app {S T : Sto} {N : Int} (h : Nk S N []) : Nk (S ++ T) N T := by
  obtain ⟨cs, rs, n, rfl, h⟩ := h
  exact ⟨cs, rs, n, by rw [List.append_nil], h⟩
theorem Nk.l2 {S T S1 : Sto} {N : Int} (h : Nk S N T) (l : S1.length = 2) : S1.length = (S.take 2).length := l.trans h.take2.2.2.2.symm
theorem Nk.back {S T S1 : Sto} {N M : Int} (h : Nk S N T) (d : Nk S1 M []) : Nk (S1 ++ S.drop 2) M T := by
  rw [h.take2.2.1]
  exact d.app
end Pu
namespace Pu
open PySem L2 Rb Gm
theorem shp_intsT {l : List Int} : Shp 1 (.tup (l.map D.int)) := Shp.tup fun d hd => by
  obtain ⟨b, _, rfl⟩ := List.mem_map.mp hd
  exact Shp.int
end Pu
namespace Pu
open PySem L2 Rb Gm
/-! ## all sets of people -/
theorem asc_extN : ∀ {a b : List Nat}, a.Pairwise (· < ·) → b.Pairwise (· < ·) → (∀ x, x ∈ a ↔ x ∈ b) → a = b
  | [], [], _, _, _ => rfl
  | [], y :: b, _, _, h => absurd ((h y).mpr List.mem_cons_self) (List.not_mem_nil)
  | x :: a, [], _, _, h => absurd ((h x).mp List.mem_cons_self) (List.not_mem_nil)
  | x :: a, y :: b, ha, hb, h => by
    have ha := List.pairwise_cons.mp ha
    have hb := List.pairwise_cons.mp hb
    have e : x = y := by
      rcases List.mem_cons.mp ((h x).mp List.mem_cons_self) with e | e
      · exact e
      · rcases List.mem_cons.mp ((h y).mpr List.mem_cons_self) with g | g
        · exact g.symm
        · have := ha.1 y g; have := hb.1 x e; omega
    subst e
    refine congrArg _ (asc_extN ha.2 hb.2 fun z => ⟨fun hz => ?_, fun hz => ?_⟩)
    · rcases List.mem_cons.mp ((h z).mp (List.mem_cons_of_mem _ hz)) with e | e
      · have := ha.1 z hz; omega
      · exact e
    · rcases List.mem_cons.mp ((h z).mpr (List.mem_cons_of_mem _ hz)) with e | e
      · have := hb.1 z hz; omega
      · exact e
end Pu
namespace Pu
open PySem L2 Rb Gm
/-! ## one end -/
def finM (wk rd : Int) (bs starts : List Int) (p : List (List Nat)) : Int := maxL (tkM wk rd bs starts p bs.length)
end Pu
namespace Gm
/-! ## plans counted: forwards, backwards, and by listing -/
def sm (n : Nat) (f : Nat → Int) : Int := ((List.range n).map f).sum
theorem sm_zero {f : Nat → Int} : sm 0 f = 0 := rfl
theorem sm_succ {n : Nat} {f : Nat → Int} : sm (n + 1) f = sm n f + f n := by
  unfold sm
  rw [List.range_succ, List.map_append, List.sum_append]
  simp
theorem sm_congr {n : Nat} {f g : Nat → Int} (h : ∀ i, i < n → f i = g i) : sm n f = sm n g := by
  unfold sm
  rw [List.map_congr_left fun i hi => h i (List.mem_range.mp hi)]
theorem sm_add {n : Nat} {f g : Nat → Int} : sm n (fun i => f i + g i) = sm n f + sm n g := by
  induction n with
  | zero => rfl
  | succ n ih => rw [sm_succ, sm_succ, sm_succ, ih]; omega
def bwdC (C : Nat → Int) (N : Nat) (s : Nat) (w : Nat → Int) : Nat → Int := fun b => sm N fun m => if m ≤ b + s then C m * w m else 0
def bwdAll (C : Nat → Int) (N : Nat) : List Nat → Nat → Int
  | [] => fun _ => 1
  | s :: ss => bwdC C N s (bwdAll C N ss)
/-- the groups of people 0 .. p - 1 with no more than `most`, as they are listed -/
def grpM (most : Nat) : Nat → List (List Nat)
  | 0 => [[]]
  | p + 1 => grpM most p ++ ((grpM most p).filter fun g => decide (g.length < most)).map fun g => g ++ [p]
def binM : Nat → Nat → Int
  | 0, 0 => 1
  | 0, _ + 1 => 0
  | p + 1, 0 => 1
  | p + 1, m + 1 => binM p m + binM p (m + 1)
theorem flt_sum {most p : Nat} {w : Nat → Int} : ∀ l : List (List Nat), (((l.filter fun g => decide (g.length < most)).map fun g => g ++ [p]).map fun g => w g.length).sum = (l.map fun g => if g.length < most then w (g.length + 1) else 0).sum
  | [] => rfl
  | g :: l => by
    rw [List.filter_cons, List.map_cons, List.sum_cons, ← flt_sum (most := most) (p := p) (w := w) l]
    by_cases h : g.length < most
    · rw [if_pos (decide_eq_true h), if_pos h, List.map_cons, List.map_cons, List.sum_cons, List.length_append]
      rfl
    · rw [if_neg (by simpa using h), if_neg h, Int.zero_add]
theorem grp_step {most p : Nat} {w : Nat → Int} : ((grpM most (p + 1)).map fun g => w g.length).sum = ((grpM most p).map fun g => w g.length + if g.length < most then w (g.length + 1) else 0).sum := by
  show ((grpM most p ++ ((grpM most p).filter fun g => decide (g.length < most)).map fun g => g ++ [p]).map fun g => w g.length).sum = _
  rw [List.map_append, List.sum_append, flt_sum]
  generalize grpM most p = l
  induction l with
  | nil => rfl
  | cons g l ih => rw [List.map_cons, List.map_cons, List.map_cons, List.sum_cons, List.sum_cons, List.sum_cons, ← ih]; omega
end Gm
namespace Gm
theorem bin_zero : ∀ p : Nat, binM p 0 = 1
  | 0 => rfl
  | _ + 1 => rfl
theorem bin_over : ∀ (p m : Nat), p < m → binM p m = 0
  | 0, 0, h => by omega
  | 0, _ + 1, _ => rfl
  | p + 1, 0, h => by omega
  | p + 1, m + 1, h => by
    show binM p m + binM p (m + 1) = 0
    rw [bin_over p m (by omega), bin_over p (m + 1) (by omega)]
    rfl
theorem sm_front {n : Nat} {f : Nat → Int} : sm (n + 1) f = f 0 + sm n fun m => f (m + 1) := by
  induction n with
  | zero =>
    rw [sm_succ, sm_zero, sm_zero]
    omega
  | succ n ih =>
    rw [sm_succ, ih, sm_succ]
    omega
/-- what is summed over all groups is summed over their sizes -/
theorem grp_sum {most : Nat} : ∀ (p : Nat) (w : Nat → Int), ((grpM most p).map fun g => w g.length).sum = sm (p + 1) fun m => if m ≤ most then binM p m * w m else 0
  | 0, w => by
    rw [sm_succ, sm_zero]
    show w 0 + 0 = 0 + if 0 ≤ most then 1 * w 0 else 0
    rw [if_pos (by omega)]
    omega
  | p + 1, w => by
    rw [grp_step, grp_sum p fun m => w m + if m < most then w (m + 1) else 0]
    have e1 : sm (p + 1) (fun m => if m ≤ most then binM p m * (w m + if m < most then w (m + 1) else 0) else 0) = sm (p + 1) (fun m => if m ≤ most then binM p m * w m else 0) + sm (p + 1) (fun m => if m < most then binM p m * w (m + 1) else 0) := by
      rw [← sm_add]
      refine sm_congr fun m _ => ?_
      by_cases h : m < most
      · rw [if_pos h, if_pos (by omega), if_pos (by omega), if_pos h, Int.mul_add]
      · rw [if_neg h, if_neg h, Int.add_zero, Int.add_zero]
    have e2 : sm (p + 1) (fun m => if m ≤ most then binM p m * w m else 0) = sm (p + 2) (fun m => if m ≤ most then binM p m * w m else 0) := by
      rw [sm_succ (n := p + 1), bin_over p (p + 1) (by omega), Int.zero_mul, ite_self, Int.add_zero]
    rw [e1, e2, sm_front, sm_front (n := p + 1), bin_zero, bin_zero, Int.add_assoc, ← sm_add]
    congr 1
    refine sm_congr fun m _ => ?_
    show (if m + 1 ≤ most then binM p (m + 1) * w (m + 1) else 0) + (if m < most then binM p m * w (m + 1) else 0) = if m + 1 ≤ most then (binM p m + binM p (m + 1)) * w (m + 1) else 0
    by_cases h : m < most
    · rw [if_pos (by omega), if_pos h, if_pos (by omega), Int.add_mul, Int.add_comm]
    · rw [if_neg (by omega), if_neg h, if_neg (by omega)]
      rfl
/-- the riders of the last stage so far -/
def lastM (b : List (List Nat)) : Nat := (b.getLast?.getD []).length
/-- all plans so far, each made longer by one stage -/
def longM (n s : Nat) (fs : List (List (List Nat))) : List (List (List Nat)) := (fs.map fun b => (grpM (lastM b + s) n).map fun g => b ++ [g]).flatten
def plansM (n : Nat) : List Nat → List (List (List Nat)) → List (List (List Nat))
  | [], fs => fs
  | s :: ss, fs => plansM n ss (longM n s fs)
theorem last_snoc {b : List (List Nat)} {g : List Nat} : lastM (b ++ [g]) = g.length := by
  unfold lastM
  rw [List.getLast?_concat]
  rfl
theorem one_sum {n s : Nat} {w : Nat → Int} {b : List (List Nat)} : (((grpM (lastM b + s) n).map fun g => b ++ [g]).map fun b => w (lastM b)).sum = bwdC (binM n) (n + 1) s w (lastM b) := by
  rw [List.map_map]
  have e : ((fun b => w (lastM b)) ∘ fun g => b ++ [g]) = fun g : List Nat => w g.length := by
    funext g
    show w (lastM (b ++ [g])) = _
    rw [last_snoc]
  rw [e, grp_sum]
  rfl
theorem long_sum {n s : Nat} {w : Nat → Int} : ∀ fs : List (List (List Nat)), ((longM n s fs).map fun b => w (lastM b)).sum = (fs.map fun b => bwdC (binM n) (n + 1) s w (lastM b)).sum
  | [] => rfl
  | b :: fs => by
    have ih := long_sum (n := n) (s := s) (w := w) fs
    unfold longM at ih ⊢
    rw [List.map_cons, List.flatten_cons, List.map_append, List.sum_append, one_sum, ih, List.map_cons, List.sum_cons]
theorem plans_sum {n : Nat} : ∀ (ss : List Nat) (fs : List (List (List Nat))), ((plansM n ss fs).length : Int) = (fs.map fun b => bwdAll (binM n) (n + 1) ss (lastM b)).sum
  | [], fs => by
    show (fs.length : Int) = (fs.map fun _ => (1 : Int)).sum
    induction fs with
    | nil => rfl
    | cons b fs ih => rw [List.map_cons, List.sum_cons, ← ih, List.length_cons]; omega
  | s :: ss, fs => by
    show ((plansM n ss (longM n s fs)).length : Int) = _
    rw [plans_sum ss, long_sum]
    rfl
/-- as many plans are listed as are counted -/
theorem plans_counted {n : Nat} {ss : List Nat} : ((plansM n ss [[]]).length : Int) = bwdAll (binM n) (n + 1) ss 0 := by
  rw [plans_sum, List.map_cons, List.sum_cons]
  exact Int.add_zero _
end Gm
namespace Pu
open PySem L2 Rb Gm
/-! ## plans in ascending order -/
def ltR : List Nat → List Nat → Prop
  | [], [] => False
  | [], _ :: _ => True
  | _ :: _, [] => False
  | a :: x, b :: y => a < b ∨ (a = b ∧ ltR x y)
structure GrOk (lo n m : Nat) (r : List Nat) : Prop where
  asc : r.Pairwise (· < ·)
  lo : ∀ p ∈ r, lo ≤ p
  hi : ∀ p ∈ r, p < n
  len : r.length ≤ m
theorem GrOk.nil {lo n m : Nat} : GrOk lo n m [] := ⟨.nil, (fun _ z => nomatch z), (fun _ z => nomatch z), Nat.zero_le _⟩
theorem GrOk.one {lo n m a : Nat} (h1 : lo ≤ a) (h2 : a < n) (h3 : 1 ≤ m) : GrOk lo n m [a] := ⟨List.pairwise_singleton .., fun p hp => by rw [List.mem_singleton.mp hp]; exact h1, fun p hp => by rw [List.mem_singleton.mp hp]; exact h2, h3⟩
theorem GrOk.tail {lo n m a : Nat} {x : List Nat} (h : GrOk lo n m (a :: x)) : lo ≤ a ∧ a < n ∧ 1 ≤ m ∧ GrOk (a + 1) n (m - 1) x := by
  obtain ⟨h1, h2, h3, h4⟩ := h
  obtain ⟨c1, c2⟩ := List.pairwise_cons.mp h1
  have h4 : x.length + 1 ≤ m := h4
  exact ⟨h2 a List.mem_cons_self, h3 a List.mem_cons_self, by omega, c2, fun p hp => c1 p hp, fun p hp => h3 p (List.mem_cons_of_mem _ hp), by omega⟩
theorem GrOk.cons {lo n m a : Nat} {x : List Nat} (h1 : lo ≤ a) (h2 : a < n) (h3 : 1 ≤ m) (h : GrOk (a + 1) n (m - 1) x) : GrOk lo n m (a :: x) := by
  obtain ⟨c1, c2, c3, c4⟩ := h
  refine ⟨List.pairwise_cons.mpr ⟨fun p hp => c2 p hp, c1⟩, fun p hp => ?_, fun p hp => ?_, by show x.length + 1 ≤ m; omega⟩
  · rcases List.mem_cons.mp hp with rfl | z
    · exact h1
    · have := c2 p z
      omega
  · rcases List.mem_cons.mp hp with rfl | z
    · exact h2
    · exact c3 p z
/-- the group that follows -/
def nxR (n : Nat) : Nat → Nat → List Nat → Option (List Nat)
  | lo, m, [] => if lo < n ∧ 0 < m then some [lo] else none
  | _, m, a :: x => match nxR n (a + 1) (m - 1) x with
    | some y => some (a :: y)
    | none => if a + 1 < n then some [a + 1] else none
def NxOk (P : α → Prop) (lt : α → α → Prop) (p : α) : Option α → Prop
  | some r => P r ∧ lt p r ∧ ∀ q, P q → lt p q → r = q ∨ lt r q
  | none => ∀ q, P q → ¬ lt p q
theorem nxR_spec {n : Nat} : ∀ (r : List Nat) (lo m : Nat), GrOk lo n m r → NxOk (GrOk lo n m) ltR r (nxR n lo m r)
  | [], lo, m, _ => by
    unfold nxR
    split
    · rename_i h
      refine ⟨.one (Nat.le_refl _) h.1 h.2, trivial, fun q hq hl => ?_⟩
      cases q with
      | nil => exact hl.elim
      | cons b y =>
        have := hq.tail.1
        by_cases e : lo = b
        · subst e
          cases y with
          | nil => exact .inl rfl
          | cons c z => exact .inr (.inr ⟨rfl, trivial⟩)
        · exact .inr (.inl (by omega))
    · rename_i h
      intro q hq hl
      cases q with
      | nil => exact hl.elim
      | cons b y =>
        obtain ⟨a1, a2, a3, _⟩ := hq.tail
        exact h ⟨by omega, by omega⟩
  | a :: x, lo, m, ok => by
    obtain ⟨a1, a2, a3, ok'⟩ := ok.tail
    have ih := nxR_spec x (a + 1) (m - 1) ok'
    unfold nxR
    cases e : nxR n (a + 1) (m - 1) x with
    | some y =>
      rw [e] at ih
      obtain ⟨h1, h2, h3⟩ := ih
      refine ⟨.cons a1 a2 a3 h1, .inr ⟨rfl, h2⟩, fun q hq hl => ?_⟩
      cases q with
      | nil => exact hl.elim
      | cons b z =>
        rcases hl with c | ⟨rfl, c⟩
        · exact .inr (.inl c)
        · rcases h3 z hq.tail.2.2.2 c with rfl | d
          · exact .inl rfl
          · exact .inr (.inr ⟨rfl, d⟩)
    | none =>
      rw [e] at ih
      dsimp only
      split
      · rename_i h
        refine ⟨.one (by omega) h a3, .inl (Nat.lt_succ_self a), fun q hq hl => ?_⟩
        cases q with
        | nil => exact hl.elim
        | cons b z =>
          rcases hl with c | ⟨rfl, c⟩
          · by_cases eb : a + 1 = b
            · subst eb
              cases z with
              | nil => exact .inl rfl
              | cons d w => exact .inr (.inr ⟨rfl, trivial⟩)
            · exact .inr (.inl (by omega))
          · exact absurd c (ih z hq.tail.2.2.2)
      · rename_i h
        intro q hq hl
        cases q with
        | nil => exact hl.elim
        | cons b z =>
          rcases hl with c | ⟨rfl, c⟩
          · have := hq.tail.2.1
            omega
          · exact ih z hq.tail.2.2.2 c
theorem ltR_irr : ∀ x : List Nat, ¬ ltR x x
  | [], h => h
  | a :: x, h => by
    rcases h with c | ⟨_, c⟩
    · exact Nat.lt_irrefl _ c
    · exact ltR_irr x c
theorem ltR_tr : ∀ {x y z : List Nat}, ltR x y → ltR y z → ltR x z
  | [], [], _, h, _ => h.elim
  | [], b :: y, [], _, h2 => h2.elim
  | [], b :: y, c :: z, _, _ => trivial
  | a :: x, [], _, h, _ => h.elim
  | a :: x, b :: y, [], _, h2 => h2.elim
  | a :: x, b :: y, c :: z, h, h2 => by
    rcases h with h | ⟨rfl, h⟩ <;> rcases h2 with h2 | ⟨rfl, h2⟩
    · exact .inl (Nat.lt_trans h h2)
    · exact .inl h
    · exact .inl h2
    · exact .inr ⟨rfl, ltR_tr h h2⟩
/-! plans -/
def ltP : List (List Nat) → List (List Nat) → Prop
  | r :: x, q :: y => ltR r q ∨ (r = q ∧ ltP x y)
  | _, _ => False
theorem ltP_irr : ∀ x : List (List Nat), ¬ ltP x x
  | [], h => h
  | a :: x, h => by
    rcases h with c | ⟨_, c⟩
    · exact ltR_irr _ c
    · exact ltP_irr x c
theorem ltP_tr : ∀ {x y z : List (List Nat)}, ltP x y → ltP y z → ltP x z
  | [], _, _, h, _ => h.elim
  | _ :: _, [], _, h, _ => h.elim
  | _ :: _, _ :: _, [], _, h2 => h2.elim
  | a :: x, b :: y, c :: z, h, h2 => by
    rcases h with h | ⟨rfl, h⟩ <;> rcases h2 with h2 | ⟨rfl, h2⟩
    · exact .inl (ltR_tr h h2)
    · exact .inl h
    · exact .inl h2
    · exact .inr ⟨rfl, ltP_tr h h2⟩
def PlG (n : Nat) : Nat → List Int → List (List Nat) → Prop
  | _, [], [] => True
  | br, b :: bs, r :: x => GrOk 0 n (b.toNat + br) r ∧ PlG n r.length bs x
  | _, _, _ => False
def nxP (n : Nat) : Nat → List Int → List (List Nat) → Option (List (List Nat))
  | br, b :: bs, r :: x => match nxP n r.length bs x with
    | some y => some (r :: y)
    | none => match nxR n 0 (b.toNat + br) r with
      | some r' => some (r' :: List.replicate x.length [])
      | none => none
  | _, _, _ => none
theorem PlG.len {n : Nat} : ∀ {br : Nat} {bs : List Int} {x : List (List Nat)}, PlG n br bs x → x.length = bs.length
  | _, [], [], _ => rfl
  | _, [], _ :: _, h => h.elim
  | _, _ :: _, [], h => h.elim
  | _, b :: bs, r :: x, h => by
    have := PlG.len h.2
    show x.length + 1 = bs.length + 1
    rw [this]
theorem plG_min {n : Nat} : ∀ (br : Nat) (bs : List Int), PlG n br bs (List.replicate bs.length []) ∧ ∀ q, PlG n br bs q → q = List.replicate bs.length [] ∨ ltP (List.replicate bs.length []) q
  | _, [] => ⟨trivial, fun q hq => by
    cases q with
    | nil => exact .inl rfl
    | cons r x => exact hq.elim⟩
  | br, b :: bs => by
    obtain ⟨h1, _⟩ := plG_min (n := n) 0 bs
    refine ⟨⟨.nil, h1⟩, fun q hq => ?_⟩
    cases q with
    | nil => exact hq.elim
    | cons r x =>
      cases r with
      | nil =>
        rcases (plG_min (n := n) 0 bs).2 x hq.2 with z | z
        · left
          rw [z]
          rfl
        · exact .inr (.inr ⟨rfl, z⟩)
      | cons a y => exact .inr (.inl trivial)
theorem nxP_spec {n : Nat} : ∀ (br : Nat) (bs : List Int) (p : List (List Nat)), PlG n br bs p → NxOk (PlG n br bs) ltP p (nxP n br bs p)
  | _, [], [], _ => fun q hq hl => by
    cases q <;> exact hl.elim
  | _, [], _ :: _, h => h.elim
  | _, _ :: _, [], h => h.elim
  | br, b :: bs, r :: x, h => by
    have ih := nxP_spec r.length bs x h.2
    unfold nxP
    cases e : nxP n r.length bs x with
    | some y =>
      rw [e] at ih
      obtain ⟨h1, h2, h3⟩ := ih
      refine ⟨⟨h.1, h1⟩, .inr ⟨rfl, h2⟩, fun q hq hl => ?_⟩
      cases q with
      | nil => exact hl.elim
      | cons s z =>
        rcases hl with c | ⟨rfl, c⟩
        · exact .inr (.inl c)
        · rcases h3 z hq.2 c with rfl | d
          · exact .inl rfl
          · exact .inr (.inr ⟨rfl, d⟩)
    | none =>
      rw [e] at ih
      have ih2 := nxR_spec r 0 (b.toNat + br) h.1
      dsimp only
      cases e2 : nxR n 0 (b.toNat + br) r with
      | some r' =>
        rw [e2] at ih2
        obtain ⟨h1, h2, h3⟩ := ih2
        have mn := plG_min (n := n) r'.length bs
        have xl := h.2.len
        refine ⟨⟨h1, by rw [xl]; exact mn.1⟩, .inl h2, fun q hq hl => ?_⟩
        cases q with
        | nil => exact hl.elim
        | cons s z =>
          rcases hl with c | ⟨rfl, c⟩
          · rcases h3 s hq.1 c with rfl | d
            · rcases mn.2 z hq.2 with w | w
              · left
                rw [w, xl]
              · exact .inr (.inr ⟨rfl, by rw [xl]; exact w⟩)
            · exact .inr (.inl d)
          · exact absurd c (ih z hq.2)
      | none =>
        rw [e2] at ih2
        intro q hq hl
        cases q with
        | nil => exact hl.elim
        | cons s z =>
          rcases hl with c | ⟨rfl, c⟩
          · exact ih2 s hq.1 c
          · exact ih z hq.2 c
theorem plG_iff {n : Nat} : ∀ (br : Nat) (bs : List Int) (p : List (List Nat)), PlG n br bs p ↔ (p.length = bs.length ∧ (∀ r ∈ p, r.Pairwise (· < ·)) ∧ (∀ r ∈ p, ∀ q ∈ r, q < n) ∧ ∀ i, (p.getD i []).length ≤ (bs.getD i 0).toNat + (if i = 0 then br else (p.getD (i - 1) []).length))
  | _, [], [] => ⟨fun _ => ⟨rfl, (fun _ z => nomatch z), (fun _ z => nomatch z), fun i => Nat.zero_le _⟩, fun _ => trivial⟩
  | _, [], _ :: _ => ⟨fun h => h.elim, fun h => by have := h.1; simp at this⟩
  | _, _ :: _, [] => ⟨fun h => h.elim, fun h => by have := h.1; simp at this⟩
  | br, b :: bs, r :: x => by
    have ih := plG_iff r.length bs x (n := n)
    constructor
    · rintro ⟨h1, h2⟩
      obtain ⟨a1, a2, a3, a4⟩ := ih.mp h2
      refine ⟨by show x.length + 1 = bs.length + 1; rw [a1], fun s hs => ?_, fun s hs => ?_, fun i => ?_⟩
      · rcases List.mem_cons.mp hs with rfl | z
        · exact h1.asc
        · exact a2 s z
      · rcases List.mem_cons.mp hs with rfl | z
        · exact h1.hi
        · exact a3 s z
      · cases i with
        | zero => exact h1.len
        | succ j =>
          have := a4 j
          cases j with
          | zero => exact this
          | succ l => exact this
    · rintro ⟨a1, a2, a3, a4⟩
      refine ⟨⟨a2 r List.mem_cons_self, fun _ _ => Nat.zero_le _, a3 r List.mem_cons_self, a4 0⟩, ih.mpr ⟨Nat.succ.inj a1, fun s hs => a2 s (List.mem_cons_of_mem _ hs), fun s hs => a3 s (List.mem_cons_of_mem _ hs), fun i => ?_⟩⟩
      have := a4 (i + 1)
      cases i with
      | zero => exact this
      | succ l => exact this
theorem plG_ok {bs : List Int} {n : Nat} {p : List (List Nat)} (hb : ∀ b ∈ bs, 0 ≤ b) : PlG n 0 bs p ↔ PlanOk bs n p := by
  rw [plG_iff]
  exact ⟨fun ⟨a1, a2, a3, a4⟩ => ⟨a1, hb, a2, a3, a4⟩, fun h => ⟨h.len, h.asc, h.lt, h.few⟩⟩
/-- one behind the other, up to the last -/
inductive Ch {α : Type} (f : α → Option α) : α → List α → Prop
  | last {p : α} : f p = none → Ch f p [p]
  | more {p q : α} {ds : List α} : f p = some q → Ch f q ds → Ch f p (p :: ds)
open Classical in
theorem chain_all {bs : List Int} {n : Nat} {L : List (List (List Nat))} (hL : ∀ p, PlG n 0 bs p → p ∈ L) : ∀ (k : Nat) (p : List (List Nat)), PlG n 0 bs p → L.countP (fun q => decide (ltP p q)) ≤ k → ∃ ds, Ch (nxP n 0 bs) p ds ∧ (∀ q, PlG n 0 bs q → (q = p ∨ ltP p q) → q ∈ ds) ∧ (∀ q ∈ ds, PlG n 0 bs q) ∧ ds.length ≤ k + 1 := by
  intro k
  induction k with
  | zero =>
    intro p hp hk
    have sp := nxP_spec 0 bs p hp
    cases e : nxP n 0 bs p with
    | none =>
      rw [e] at sp
      refine ⟨[p], .last e, fun q hq h => ?_, fun q hq => by rw [List.mem_singleton.mp hq]; exact hp, Nat.le_refl _⟩
      rcases h with rfl | h
      · exact List.mem_singleton.mpr rfl
      · exact absurd h (sp q hq)
    | some r =>
      rw [e] at sp
      have : 0 < L.countP (fun q => decide (ltP p q)) := List.countP_pos_iff.mpr ⟨r, hL r sp.1, decide_eq_true sp.2.1⟩
      omega
  | succ k ih =>
    intro p hp hk
    have sp := nxP_spec 0 bs p hp
    cases e : nxP n 0 bs p with
    | none =>
      rw [e] at sp
      refine ⟨[p], .last e, fun q hq h => ?_, fun q hq => by rw [List.mem_singleton.mp hq]; exact hp, by show 1 ≤ k + 1 + 1; omega⟩
      rcases h with rfl | h
      · exact List.mem_singleton.mpr rfl
      · exact absurd h (sp q hq)
    | some r =>
      rw [e] at sp
      obtain ⟨s1, s2, s3⟩ := sp
      have lt : L.countP (fun q => decide (ltP r q)) < L.countP (fun q => decide (ltP p q)) := by
        have h1 : L.countP (fun q => decide (ltP p q)) = L.countP (fun q => decide (ltP r q)) + L.countP (fun q => decide (ltP p q ∧ ¬ ltP r q)) := by
          clear hk ih hL
          induction L with
          | nil => rfl
          | cons q L ihL =>
            rw [List.countP_cons, List.countP_cons, List.countP_cons, ihL]
            by_cases c1 : ltP r q
            · have c2 := ltP_tr s2 c1
              simp [c1, c2]
              omega
            · by_cases c2 : ltP p q
              · simp [c1, c2]
                omega
              · simp [c1, c2]
        have h2 : 0 < L.countP (fun q => decide (ltP p q ∧ ¬ ltP r q)) := List.countP_pos_iff.mpr ⟨r, hL r s1, decide_eq_true ⟨s2, ltP_irr r⟩⟩
        omega
      obtain ⟨ds, d1, d2, d3, d4⟩ := ih r s1 (by omega)
      refine ⟨p :: ds, .more e d1, fun q hq h => ?_, fun q hq => ?_, by show ds.length + 1 ≤ _; omega⟩
      · rcases h with rfl | h
        · exact List.mem_cons_self
        · exact List.mem_cons_of_mem _ (d2 q hq ((s3 q hq h).imp Eq.symm id))
      · rcases List.mem_cons.mp hq with rfl | z
        · exact hp
        · exact d3 q z
end Pu
namespace Pu
open PySem L2 Rb Gm
/-! ## every plan, for any number of people and stages -/
def listsM (n : Nat) : Nat → List (List Nat)
  | 0 => [[]]
  | m + 1 => [] :: (List.range n).flatMap fun a => (listsM n m).map (a :: ·)
theorem lists_mem {n : Nat} : ∀ (m : Nat) (r : List Nat), r.length ≤ m → (∀ p ∈ r, p < n) → r ∈ listsM n m
  | 0, [], _, _ => List.mem_cons_self
  | 0, a :: r, h, _ => by cases h
  | m + 1, [], _, _ => List.mem_cons_self
  | m + 1, a :: r, h, hl => by
    have h : r.length + 1 ≤ m + 1 := h
    refine List.mem_cons_of_mem _ (List.mem_flatMap.mpr ⟨a, List.mem_range.mpr (hl a List.mem_cons_self), List.mem_map.mpr ⟨r, lists_mem m r (by omega) fun p hp => hl p (List.mem_cons_of_mem _ hp), rfl⟩⟩)
def allP (n : Nat) : Nat → List Int → List (List (List Nat))
  | _, [] => [[]]
  | br, b :: bs => (listsM n (b.toNat + br)).flatMap fun r => (allP n r.length bs).map (r :: ·)
theorem allP_mem {n : Nat} : ∀ (br : Nat) (bs : List Int) (p : List (List Nat)), PlG n br bs p → p ∈ allP n br bs
  | _, [], [], _ => List.mem_cons_self
  | _, [], _ :: _, h => h.elim
  | _, _ :: _, [], h => h.elim
  | br, b :: bs, r :: x, h => List.mem_flatMap.mpr ⟨r, lists_mem _ r h.1.len h.1.hi, List.mem_map.mpr ⟨x, allP_mem r.length bs x h.2, rfl⟩⟩
theorem plans_any {bs : List Int} {n : Nat} : ∃ ds, Ch (nxP n 0 bs) (List.replicate bs.length []) ds ∧ ∀ p, p ∈ ds ↔ PlG n 0 bs p := by
  have mn := plG_min (n := n) 0 bs
  obtain ⟨ds, d1, d2, d3, d4⟩ := chain_all (L := allP n 0 bs) (fun p hp => allP_mem 0 bs p hp) _ _ mn.1 (Nat.le_refl _)
  exact ⟨ds, d1, fun p => ⟨fun h => d3 p h, fun h => d2 p h (mn.2 p h)⟩⟩
/-- what is asked one behind the other ascends -/
theorem ch_asc {bs : List Int} {n : Nat} {p : List (List Nat)} {ds : List (List (List Nat))} (c : Ch (nxP n 0 bs) p ds) : PlG n 0 bs p → ds.Pairwise ltP ∧ ∀ q ∈ ds, q = p ∨ ltP p q := by
  induction c with
  | last e => exact fun _ => ⟨List.pairwise_singleton .., fun q hq => .inl (List.mem_singleton.mp hq)⟩
  | @more p q ds e c ih =>
    intro hp
    have sp := nxP_spec 0 bs p hp
    rw [e] at sp
    obtain ⟨s1, s2, s3⟩ := sp
    obtain ⟨i1, i2⟩ := ih s1
    have below : ∀ x ∈ ds, ltP p x := fun x hx => by
      rcases i2 x hx with rfl | h
      · exact s2
      · exact ltP_tr s2 h
    refine ⟨List.pairwise_cons.mpr ⟨below, i1⟩, fun x hx => ?_⟩
    rcases List.mem_cons.mp hx with rfl | h
    · exact .inl rfl
    · exact .inr (below x h)
/-- two ascending lists with the same plans are the same -/
theorem asc_same : ∀ {l m : List (List (List Nat))}, l.Pairwise ltP → m.Pairwise ltP → (∀ x, x ∈ l ↔ x ∈ m) → l = m
  | [], [], _, _, _ => rfl
  | [], b :: m, _, _, h => absurd ((h b).mpr List.mem_cons_self) List.not_mem_nil
  | a :: l, [], _, _, h => absurd ((h a).mp List.mem_cons_self) List.not_mem_nil
  | a :: l, b :: m, h1, h2, h => by
    obtain ⟨a1, a2⟩ := List.pairwise_cons.mp h1
    obtain ⟨b1, b2⟩ := List.pairwise_cons.mp h2
    have e : a = b := by
      rcases List.mem_cons.mp ((h a).mp List.mem_cons_self) with e | e
      · exact e
      · rcases List.mem_cons.mp ((h b).mpr List.mem_cons_self) with e2 | e2
        · exact e2.symm
        · exact absurd (ltP_tr (a1 b e2) (b1 a e)) (ltP_irr a)
    subst e
    rw [asc_same a2 b2 fun x => ⟨fun hx => ?_, fun hx => ?_⟩]
    · rcases List.mem_cons.mp ((h x).mp (List.mem_cons_of_mem _ hx)) with rfl | z
      · exact absurd (a1 x hx) (ltP_irr x)
      · exact z
    · rcases List.mem_cons.mp ((h x).mpr (List.mem_cons_of_mem _ hx)) with rfl | z
      · exact absurd (b1 x hx) (ltP_irr x)
      · exact z
end Pu
namespace Pu
open PySem L2 Rb Gm
/-! ## rows of numbers -/
def rowF (N : Nat) (f : Nat → Int) : List D := (List.range N).map fun m => D.int (f m)
theorem rowF_len {N : Nat} {f : Nat → Int} : (rowF N f).length = N := by unfold rowF; rw [List.length_map, List.length_range]
theorem rowF_at {N m : Nat} {f : Nat → Int} (h : m < N) : atI (rowF N f) (m : Int) = some (.int (f m)) := atI_nat (j := m) (by
  unfold rowF
  rw [List.getElem?_map, List.getElem?_range h]
  rfl)
theorem rowF_succ {N : Nat} {f : Nat → Int} : rowF (N + 1) f = rowF N f ++ [.int (f N)] := by
  unfold rowF
  rw [List.range_succ, List.map_append]
  rfl
theorem rowF_congr {N : Nat} {f g : Nat → Int} (h : ∀ m, m < N → f m = g m) : rowF N f = rowF N g := by
  unfold rowF
  exact List.map_congr_left fun m hm => by rw [h m (List.mem_range.mp hm)]
theorem rowF_ints {N : Nat} {f : Nat → Int} : rowF N f = ((List.range N).map f).map D.int := by
  unfold rowF
  rw [List.map_map]
  rfl
theorem rowF_last {N : Nat} {f : Nat → Int} : atI (rowF (N + 1) f) (-1) = some (.int (f N)) := by
  rw [rowF_succ]
  exact atI_last _ _
theorem bin_facts : ∀ n, n < 11 → ∀ m, m < 11 → 0 ≤ binM n m ∧ binM n m ≤ 252 := by decide
theorem bin_mul : ∀ n, n < 11 → ∀ m, m < n → binM n m * ((n : Int) - (m : Int)) / ((m : Int) + 1) = binM n (m + 1) := by decide
theorem subset_ok {n : Nat} {Q : QD} {E : ED} (n2 : n ≤ 10) (q : Q (.lst false (rowF (n + 1) (binM n))) []) : F_subset_counts [.int (n : Int)] [] Q E := by
  unfold F_subset_counts
  refine ⟨rfl, szr rfl, ⟨by omega, by omega⟩, ?_⟩
  have e4 : rangeD 0 (n : Int).toNat = rangeD 0 n := by rw [Int.toNat_natCast]
  show dLoop _ _ [] (rangeD 0 (n : Int).toNat) _ _ _ _
  rw [e4]
  refine for_rng 0 n (fun i ρ S' => ∃ y2, ρ = [some (.int (n : Int)), some (.cell 0), y2] ∧ S' = [.lst (rowF (i + 1) (binM n))]) ⟨_, rfl, by unfold rowF; rw [show (List.range (0 + 1)) = [0] from rfl, List.map_cons, bin_zero]; rfl⟩ ?_ ?_
  · rintro i ρ S' K hi hK ⟨y2, rfl, rfl⟩
    have bf := bin_facts n (by omega) i (by omega)
    have cl : cellOf [Cl.lst (rowF (i + 1) (binM n))] (.cell 0) = some (0, rowF (i + 1) (binM n)) := rfl
    have sq : seqOf [Cl.lst (rowF (i + 1) (binM n))] (.cell 0) = some (rowF (i + 1) (binM n)) := rfl
    refine onS rowF_last ⟨.inl (.inl ⟨by omega, by omega⟩), ⟨by omega, ?_⟩, ?_⟩
    · rw [show (0 + (i : Int) + 1).natAbs = i + 1 by omega]
      exact Nat.lt_of_lt_of_le (Nat.log2_lt (by omega) |>.mpr (show i + 1 < 2 ^ 10 by omega)) (by decide)
    · refine ⟨szd (by show (rowF (i + 1) (binM n)).length < 100000; rw [rowF_len]; omega), hK _ _ ⟨_, rfl, ?_⟩⟩
      show [Cl.lst (rowF (i + 1) (binM n) ++ [D.int (binM n i * ((n : Int) - (0 + (i : Int))) / (0 + (i : Int) + 1))])] = _
      rw [Int.zero_add, bin_mul n (by omega) i hi, rowF_succ (N := i + 1)]
  · rintro ρ S' ⟨y2, rfl, rfl⟩
    refine ⟨⟨rfl, rfl⟩, onS (a := .lst false (rowF (n + 1) (binM n))) ?_ q⟩
    show (if belowAll 0 (rowF (n + 1) (binM n)) = true then some (D.lst false (rowF (n + 1) (binM n))) else none) = _
    rw [rowF_ints, below_ints]
    rfl
theorem comp_mapB {α : Type} {st : D → Rho → Option Rho} {fe : FE} {src : Src} {k : List D → Sto → Prop} {S : Sto} {ρ : Rho} (f g : α → D) (hsrc : ∀ P : Prop, P → srcOk src S P) : ∀ (xs : List α) (acc : List D),
    (∀ x ∈ xs, ∃ ρ1, st (f x) ρ = some ρ1 ∧ ∀ Q : QD, Q (g x) S → fe ρ1 S Q noE) → k (acc ++ xs.map g) S → dCompL st dYes fe src (xs.map f) acc ρ S k
  | [], acc, _, h => by rw [List.map_nil, List.append_nil] at h; exact h
  | x :: xs, acc, hx, h => by
    obtain ⟨ρ1, e, hf⟩ := hx x List.mem_cons_self
    refine onS e ?_
    refine ifT (b := true) (Q := srcOk src S (dCompL st dYes fe src (xs.map f) acc ρ S k)) rfl ?_
    refine hf _ (hsrc _ (comp_mapB f g hsrc xs _ (fun y hy => hx y (List.mem_cons_of_mem _ hy)) ?_))
    rw [List.append_assoc]
    exact h
/-! the law's own -/
end Pu
namespace Pu
open PySem L2 Rb Gm
theorem rowF_take {N k : Nat} {f : Nat → Int} : (rowF N f).take k = rowF (min k N) f := by
  unfold rowF
  rw [← List.map_take, List.take_range]
theorem sm_cut {N k : Nat} {f : Nat → Int} : sm (min (k + 1) N) f = sm N fun m => if m ≤ k then f m else 0 := by
  induction N with
  | zero => rw [Nat.min_zero]; rfl
  | succ N ih =>
    rw [sm_succ (n := N)]
    by_cases h : N ≤ k
    · rw [if_pos h, ← ih, Nat.min_eq_right (by omega), Nat.min_eq_right (by omega), sm_succ]
    · rw [if_neg h, ← ih, Nat.min_eq_left (by omega), Nat.min_eq_left (by omega), Int.add_zero]
/-- the stages from behind -/
def sufM (rs : List Int) (j : Nat) : List Nat := ((rs.take j).reverse).map Int.toNat
theorem suf_succ {rs : List Int} {j : Nat} {s : Int} (h : rs[j]? = some s) : sufM rs (j + 1) = s.toNat :: sufM rs j := by
  unfold sufM
  rw [List.take_add_one, h]
  simp
theorem suf_all {bs : List Int} : sufM bs.reverse bs.length = bs.map Int.toNat := by
  unfold sufM
  rw [← List.length_reverse, List.take_length, List.reverse_reverse]
def wyM (n : Nat) (ss : List Nat) : Nat → Int := bwdAll (binM n) (n + 1) ss
def wyV (n : Nat) (ss : List Nat) : D := .lst false (rowF (n + 1) (wyM n ss))
theorem one_row {n : Nat} : (List.replicate (n + 1) [D.int 1]).flatten = rowF (n + 1) (wyM n []) := by
  induction n with
  | zero => rfl
  | succ n ih =>
    rw [List.replicate_succ', List.flatten_append, ih]
    have e : rowF (n + 1 + 1) (wyM (n + 1) []) = rowF (n + 1 + 1) (wyM n []) := rowF_congr fun m _ => rfl
    rw [e, rowF_succ (N := n + 1)]
    rfl
theorem range_int {n : Nat} : rangeD 0 ((n : Int) + 1).toNat = (List.range (n + 1)).map fun k : Nat => D.int (0 + (k : Int)) := by
  rw [show ((n : Int) + 1).toNat = n + 1 by omega]
  rfl
theorem below_iff {k : Nat} : ∀ {ds : List D}, belowAll k ds = true ↔ ∀ d ∈ ds, below k d = true
  | [] => ⟨fun _ d h => absurd h List.not_mem_nil, fun _ => rfl⟩
  | d :: ds => by
    show (below k d && belowAll k ds) = true ↔ _
    rw [Bool.and_eq_true, below_iff (ds := ds), List.forall_mem_cons]
theorem below_wy {n : Nat} {ss : List Nat} : below 0 (wyV n ss) = true := by
  show belowAll 0 (rowF (n + 1) (wyM n ss)) = true
  rw [rowF_ints]
  exact below_ints _
theorem ways_ok {wk rd : Int} {bs : List Int} {n : Nat} {Q : QD} {E : ED} (n2 : n ≤ 10) (l2 : bs.length ≤ 12) (hb : ∀ b ∈ bs, 0 ≤ b) (q : ∀ rows, Q (.lst false (wyV n (bs.map Int.toNat) :: rows)) []) : F_ways_on [roadV wk rd bs, .int (n : Int)] [] Q E := by
  unfold F_ways_on
  refine ⟨rfl, ⟨rfl, rfl⟩, subset_ok n2 ⟨rfl, szr rfl, ⟨by omega, by omega, ?_⟩, szr rfl, ?_⟩⟩
  · exact szd (by show 1 * ((n : Int) + 1).toNat ≤ 100000; omega)
  have e1 : (List.replicate ((n : Int) + 1).toNat [D.int 1]).flatten = rowF (n + 1) (wyM n []) := by rw [show ((n : Int) + 1).toNat = n + 1 by omega, one_row]
  rw [e1]
  have e2 : (bs.map D.int).reverse = bs.reverse.map D.int := by rw [List.map_reverse]
  show dLoop _ _ [] ((bs.map D.int).reverse) _ _ _ _
  rw [e2]
  refine for_inv (src := []) (bs.reverse.map D.int) (fun j ρ S' => ∃ (RR : List D) (y4 y5 y6 y7 : Option D), ρ = [some (roadV wk rd bs), some (.int (n : Int)), some (.lst false (rowF (n + 1) (binM n))), some (.cell 0), y4, y5, y6, y7] ∧ S' = [.lst (RR ++ [wyV n (sufM bs.reverse j)])] ∧ RR.length = j ∧ belowAll 0 RR = true) ⟨[], _, _, _, _, rfl, rfl, rfl, rfl⟩ ?_ ?_
  · rintro j x ρ S' K hx hK ⟨RR, y4, y5, y6, y7, rfl, rfl, rl, rb⟩
    rw [List.getElem?_map] at hx
    obtain ⟨s, hs, rfl⟩ := Option.map_eq_some_iff.mp hx
    have s0 : 0 ≤ s := hb s (List.mem_reverse.mp (List.mem_of_getElem? hs))
    have hj : j < bs.length := by have := (List.getElem?_eq_some_iff.mp hs).1; rw [List.length_reverse] at this; exact this
    have es := suf_succ hs
    generalize sufM bs.reverse j = ss at es
    refine ⟨⟨by omega, by omega⟩, szd (by show (rangeD 0 ((n : Int) + 1).toNat).length ≤ 100000; rw [rangeD_len]; omega), ?_⟩
    show dCompL _ _ _ _ (rangeD 0 ((n : Int) + 1).toNat) _ _ _ _
    rw [range_int]
    refine comp_mapB (src := []) (fun k : Nat => D.int (0 + (k : Int))) (fun k => D.int (binM n k * wyM n ss k)) (fun _ z => z) (List.range (n + 1)) [] (fun k hk => ⟨_, rfl, fun Q' q' => ?_⟩) ?_
    · have hk := List.mem_range.mp hk
      have bf := bin_facts n (by omega) k (by omega)
      have a1 : atI (rowF (n + 1) (binM n)) (0 + (k : Int)) = some (.int (binM n k)) := by rw [Int.zero_add]; exact rowF_at hk
      have a2 : atI (RR ++ [wyV n ss]) (-1) = some (wyV n ss) := atI_last _ _
      have a3 : atI (rowF (n + 1) (wyM n ss)) (0 + (k : Int)) = some (.int (wyM n ss k)) := by rw [Int.zero_add]; exact rowF_at hk
      refine onS a1 (onS a2 ?_)
      show onSome (atI (rowF (n + 1) (wyM n ss)) (0 + (k : Int))) _
      exact onS a3 ⟨.inl (.inl ⟨by omega, by omega⟩), q'⟩
    rw [List.nil_append]
    refine ⟨⟨by omega, by omega⟩, szd (by show (rangeD 0 ((n : Int) + 1).toNat).length ≤ 100000; rw [rangeD_len]; omega), ?_⟩
    show dCompL _ _ _ _ (rangeD 0 ((n : Int) + 1).toNat) _ _ _ _
    rw [range_int]
    refine comp_mapB (src := []) (fun k : Nat => D.int (0 + (k : Int))) (fun k => D.int (wyM n (s.toNat :: ss) k)) (fun _ z => z) (List.range (n + 1)) [] (fun k hk => ⟨_, rfl, fun Q' q' => ?_⟩) ?_
    · have hk := List.mem_range.mp hk
      have ek : (0 + (k : Int) + s + 1) = ((k + s.toNat + 1 : Nat) : Int) := by omega
      have ec : cutD (rowF (n + 1) fun m => binM n m * wyM n ss m) none (some (0 + (k : Int) + s + 1)) = ((List.range (min (k + s.toNat + 1) (n + 1))).map fun m => binM n m * wyM n ss m).map D.int := by
        rw [ek, cut_to, rowF_take, rowF_ints]
      have ei : intsOf (cutD (rowF (n + 1) fun m => binM n m * wyM n ss m) none (some (0 + (k : Int) + s + 1))) = some ((List.range (min (k + s.toNat + 1) (n + 1))).map fun m => binM n m * wyM n ss m) := by rw [ec]; exact intsOf_map _
      refine onS ei ?_
      have ev : ((List.range (min (k + s.toNat + 1) (n + 1))).map fun m => binM n m * wyM n ss m).sum = wyM n (s.toNat :: ss) k := sm_cut
      rw [ev]
      exact q'
    rw [List.nil_append]
    refine ⟨szd (by show (RR ++ [wyV n ss]).length < 100000; rw [List.length_append]; show RR.length + 1 < 100000; omega), hK _ _ ⟨RR ++ [wyV n ss], _, _, _, _, rfl, ?_, by rw [List.length_append, rl]; rfl, ?_⟩⟩
    · rw [es]
      rfl
    · refine below_iff.mpr fun d hd => ?_
      rcases List.mem_append.mp hd with h | h
      · exact below_iff.mp rb d h
      · rw [List.mem_singleton.mp h]
        exact below_wy
  · rintro ρ S' ⟨RR, y4, y5, y6, y7, rfl, rfl, rl, rb⟩
    rw [List.length_map, List.length_reverse, suf_all]
    have er : (RR ++ [wyV n (bs.map Int.toNat)]).reverse = wyV n (bs.map Int.toNat) :: RR.reverse := by rw [List.reverse_append]; rfl
    refine ⟨⟨rfl, rfl⟩, onS (a := .lst false (wyV n (bs.map Int.toNat) :: RR.reverse)) ?_ (q RR.reverse)⟩
    show (if belowAll 0 (RR ++ [wyV n (bs.map Int.toNat)]).reverse = true then some (D.lst false (RR ++ [wyV n (bs.map Int.toNat)]).reverse) else none) = _
    rw [er, if_pos]
    refine below_iff.mpr fun d hd => ?_
    rcases List.mem_cons.mp hd with rfl | h
    · exact below_wy
    · exact below_iff.mp rb d (List.mem_reverse.mp h)
theorem count_ok {wk rd : Int} {bs : List Int} {n : Nat} {S : Sto} {Q : QD} {E : ED} (n2 : n ≤ 10) (l2 : bs.length ≤ 12) (hb : ∀ b ∈ bs, 0 ≤ b) (q : Q (.int (wyM n (bs.map Int.toNat) 0)) S) : F_count_plans [roadV wk rd bs, .int (n : Int)] S Q E := by
  unfold F_count_plans
  have a3 : atI (rowF (n + 1) (wyM n (bs.map Int.toNat))) 0 = some (.int (wyM n (bs.map Int.toNat) 0)) := rowF_at (m := 0) (by omega)
  refine ⟨rfl, ⟨?_, rfl⟩, ways_ok n2 l2 hb fun rows => ⟨rfl, ?_⟩⟩
  · show (below 0 (roadV wk rd bs) && (true && true)) = true
    rw [below_roadV]
    rfl
  · have a2 : atI (wyV n (bs.map Int.toNat) :: rows) 0 = some (wyV n (bs.map Int.toNat)) := atI_nat (j := 0) rfl
    refine onS a2 ?_
    show onSome (atI (rowF (n + 1) (wyM n (bs.map Int.toNat))) 0) _
    exact onS a3 q
end Pu
namespace Pu
open PySem L2 Rb Gm
theorem grp_len {m : Nat} : ∀ p : Nat, (grpM m p).length ≤ 2 ^ p
  | 0 => Nat.le_refl _
  | p + 1 => by
    show (grpM m p ++ ((grpM m p).filter fun g => decide (g.length < m)).map fun g => g ++ [p]).length ≤ _
    rw [List.length_append, List.length_map, Nat.pow_succ]
    have := grp_len (m := m) p
    have := List.length_filter_le (fun g : List Nat => decide (g.length < m)) (grpM m p)
    omega
theorem grp_head {m : Nat} : ∀ p : Nat, ∃ r, grpM m p = [] :: r
  | 0 => ⟨[], rfl⟩
  | p + 1 => by
    obtain ⟨r, e⟩ := grp_head (m := m) p
    refine ⟨r ++ ((grpM m p).filter fun g => decide (g.length < m)).map fun g => g ++ [p], ?_⟩
    show grpM m p ++ _ = _
    rw [e]
    rfl
theorem comp_fltA {α : Type} {st : D → Rho → Option Rho} {t : FT} {fe : FE} {src : Src} {k : List D → Sto → Prop} {S : Sto} {ρ : Rho} (f : α → D) (p : α → Bool) (g : α → D) (hsrc : ∀ P : Prop, P → srcOk src S P) : ∀ (xs : List α) (acc : List D),
    (∀ x ∈ xs, ∃ ρ1, st (f x) ρ = some ρ1 ∧ (∀ Q : Bool → Sto → Prop, Q (p x) S → t ρ1 S Q noE) ∧ (p x = true → ∀ Q : QD, Q (g x) S → fe ρ1 S Q noE)) → k (acc ++ (xs.filter p).map g) S → dCompL st t fe src (xs.map f) acc ρ S k
  | [], acc, _, h => by rw [List.filter_nil, List.map_nil, List.append_nil] at h; exact h
  | x :: xs, acc, hx, h => by
    obtain ⟨ρ1, e, ht, hf⟩ := hx x List.mem_cons_self
    have ih := fun acc' h' => comp_fltA (st := st) (t := t) (fe := fe) (src := src) (k := k) (S := S) (ρ := ρ) f p g hsrc xs acc' (fun y hy => hx y (List.mem_cons_of_mem _ hy)) h'
    refine onS e (ht _ ?_)
    cases hp : p x with
    | true =>
      rw [List.filter_cons, hp] at h
      refine hf hp _ (hsrc _ (ih _ ?_))
      rw [List.append_assoc]
      exact h
    | false =>
      rw [List.filter_cons, hp] at h
      exact hsrc _ (ih _ h)
theorem grp_small {m : Nat} : ∀ {p : Nat} (g : List Nat), g ∈ grpM m p → g.length ≤ p
  | 0, g, h => by
    rw [show grpM m 0 = [[]] from rfl] at h
    rw [List.mem_singleton.mp h]
    exact Nat.le_refl _
  | p + 1, g, h => by
    rcases List.mem_append.mp (show g ∈ grpM m p ++ ((grpM m p).filter fun g => decide (g.length < m)).map fun g => g ++ [p] from h) with h | h
    · have := grp_small g h
      omega
    · obtain ⟨g', h2, rfl⟩ := List.mem_map.mp h
      have := grp_small g' (List.mem_filter.mp h2).1
      rw [List.length_append]
      show g'.length + 1 ≤ p + 1
      omega
theorem riders_ti (g : List Nat) : ridersV g = tupI (nI g) := by
  unfold ridersV tupI
  rw [natsV_eq]
end Pu
namespace Pu
open PySem L2 Rb Gm
/-! ## the law's own groups, in order -/
theorem grp_ok {m : Nat} : ∀ (p : Nat) (g : List Nat), g ∈ grpM m p ↔ GrOk 0 p m g
  | 0, g => by
    rw [show grpM m 0 = [[]] from rfl, List.mem_singleton]
    constructor
    · rintro rfl
      exact .nil
    · intro h
      cases g with
      | nil => rfl
      | cons a x => have := h.hi a List.mem_cons_self; omega
  | p + 1, g => by
    rw [show grpM m (p + 1) = grpM m p ++ ((grpM m p).filter fun g => decide (g.length < m)).map fun g => g ++ [p] from rfl, List.mem_append, List.mem_map]
    constructor
    · rintro (h | ⟨x, hx, rfl⟩)
      · have h := (grp_ok p g).mp h
        exact ⟨h.asc, fun _ _ => Nat.zero_le _, fun q hq => by have := h.hi q hq; omega, h.len⟩
      · obtain ⟨h1, h2⟩ := List.mem_filter.mp hx
        have h := (grp_ok p x).mp h1
        have h2 := of_decide_eq_true h2
        refine ⟨List.pairwise_append.mpr ⟨h.asc, List.pairwise_singleton .., fun a ha b hb => by rw [List.mem_singleton.mp hb]; exact h.hi a ha⟩, fun _ _ => Nat.zero_le _, fun q hq => ?_, by rw [List.length_append]; exact h2⟩
        rcases List.mem_append.mp hq with z | z
        · have := h.hi q z; omega
        · rw [List.mem_singleton.mp z]; omega
    · intro h
      rcases List.eq_nil_or_concat g with rfl | ⟨x, a, rfl⟩
      · exact .inl ((grp_ok p []).mpr .nil)
      · rw [List.concat_eq_append] at h ⊢
        obtain ⟨c1, _, c3⟩ := List.pairwise_append.mp h.asc
        have hl := h.len
        rw [List.length_append] at hl
        have hl : x.length + 1 ≤ m := hl
        have ha := h.hi a (List.mem_append_right _ (List.mem_singleton.mpr rfl))
        have lt : ∀ q ∈ x, q < a := fun q hq => c3 q hq a (List.mem_singleton.mpr rfl)
        by_cases e : a = p
        · subst e
          exact .inr ⟨x, List.mem_filter.mpr ⟨(grp_ok a x).mpr ⟨c1, fun _ _ => Nat.zero_le _, lt, by omega⟩, decide_eq_true (by omega)⟩, rfl⟩
        · refine .inl ((grp_ok p (x ++ [a])).mpr ⟨h.asc, fun _ _ => Nat.zero_le _, fun q hq => ?_, h.len⟩)
          rcases List.mem_append.mp hq with z | z
          · have := lt q z; omega
          · rw [List.mem_singleton.mp z]; omega
theorem grp_nodup {m : Nat} : ∀ p : Nat, (grpM m p).Nodup
  | 0 => by
    rw [show grpM m 0 = [[]] from rfl]
    exact List.nodup_cons.mpr ⟨List.not_mem_nil, List.nodup_nil⟩
  | p + 1 => by
    rw [show grpM m (p + 1) = grpM m p ++ ((grpM m p).filter fun g => decide (g.length < m)).map fun g => g ++ [p] from rfl]
    refine List.nodup_append.mpr ⟨grp_nodup p, ?_, fun a ha b hb e => ?_⟩
    · refine List.pairwise_map.mpr (((grp_nodup p).filter _).imp fun {a b} h e => h ?_)
      exact List.append_cancel_right e
    · obtain ⟨x, hx, rfl⟩ := List.mem_map.mp hb
      have h := (grp_ok p a).mp ha
      rw [e] at h
      have := h.hi p (List.mem_append_right _ (List.mem_singleton.mpr rfl))
      omega
theorem lex_iff : ∀ a b : List Nat, HT.lexLt (nI a) (nI b) = true ↔ ltR a b
  | [], [] => ⟨(fun h => by cases h), fun h => h.elim⟩
  | [], _ :: _ => ⟨fun _ => trivial, fun _ => rfl⟩
  | _ :: _, [] => ⟨(fun h => by cases h), fun h => h.elim⟩
  | a :: x, b :: y => by
    have ih := lex_iff x y
    show HT.lexLt ((a : Int) :: nI x) ((b : Int) :: nI y) = true ↔ (a < b ∨ (a = b ∧ ltR x y))
    rw [HT.lexLt_cons]
    split
    · rename_i e
      have e : a = b := by omega
      rw [ih]
      exact ⟨fun h => .inr ⟨e, h⟩, fun h => h.elim (fun z => by omega) fun z => z.2⟩
    · rename_i e
      rw [decide_eq_true_eq]
      exact ⟨fun h => .inl (by omega), fun h => h.elim (fun z => by omega) fun z => by omega⟩
theorem ltR_tot : ∀ a b : List Nat, a = b ∨ ltR a b ∨ ltR b a
  | [], [] => .inl rfl
  | [], _ :: _ => .inr (.inl trivial)
  | _ :: _, [] => .inr (.inr trivial)
  | a :: x, b :: y => by
    rcases Nat.lt_trichotomy a b with c | c | c
    · exact .inr (.inl (.inl c))
    · subst c
      rcases ltR_tot x y with e | e | e
      · rw [e]; exact .inl rfl
      · exact .inr (.inl (.inr ⟨rfl, e⟩))
      · exact .inr (.inr (.inr ⟨rfl, e⟩))
    · exact .inr (.inr (.inl c))
theorem nI_inj {a b : List Nat} (h : nI a = nI b) : a = b := by
  have := congrArg (List.map Int.toNat) h
  rw [nI_toNat, nI_toNat] at this
  exact this
theorem groups2_ok {n : Nat} {most : Int} {S : Sto} {Q : QD} {E : ED} (n2 : n ≤ 10) (m0 : 0 ≤ most) (q : ∀ gs : List (List Nat), gs.Pairwise ltR → (∀ g, g ∈ gs ↔ GrOk 0 n most.toNat g) → gs.length ≤ 2 ^ n → Q (.lst false (gs.map ridersV)) S) : F_law_groups [.int (n : Int), .int most] S Q E := by
  unfold F_law_groups
  refine ⟨rfl, szr rfl, szr rfl, ⟨by omega, by omega⟩, ?_⟩
  show dLoop _ _ [] (rangeD 0 (n : Int).toNat) _ _ _ _
  rw [Int.toNat_natCast]
  refine for_rng 0 n (fun i ρ S' => S' = S ∧ ∃ (b : Bool) (y3 : Option D), ρ = [some (.int (n : Int)), some (.int most), some (.lst b ((grpM most.toNat i).map ridersV)), y3, none]) ⟨rfl, true, _, rfl⟩ ?_ ?_
  · rintro i ρ S' K hi hK ⟨rfl, b, y3, rfl⟩
    have gl : (grpM most.toNat i).length ≤ 1024 := Nat.le_trans (grp_len i) (show 2 ^ i ≤ 2 ^ 10 from Nat.pow_le_pow_right (by decide) (by omega))
    refine ⟨szd (by show ((grpM most.toNat i).map ridersV).length ≤ 100000; rw [List.length_map]; omega), ?_⟩
    refine comp_fltA (src := []) ridersV (fun g => decide (g.length < most.toNat)) (fun g => ridersV (g ++ [i])) (fun _ z => z) (grpM most.toNat i) [] (fun g hg => ⟨_, rfl, fun Q' q' => ?_, fun _ Q' q' => ⟨szr rfl, ?_⟩⟩) ?_
    · have e : decide (((natsV g).length : Int) < most) = decide (g.length < most.toNat) := by
        rw [natsV_len]
        exact decide_eq_decide.mpr (by omega)
      show Q' (decide (((natsV g).length : Int) < most)) S'
      rw [e]
      exact q'
    · have gm : g.length ≤ 1024 := Nat.le_trans (grp_small g hg) (by omega)
      refine ⟨szd (by show (natsV g).length + 1 ≤ 100000; rw [natsV_len]; omega), ?_⟩
      have e : ridersV (g ++ [i]) = .tup (natsV g ++ [.int (0 + (i : Int))]) := by
        unfold ridersV natsV
        rw [List.map_append, Int.zero_add]
        rfl
      rw [e] at q'
      exact q'
    · rw [List.nil_append]
      refine ⟨szd ?_, hK _ _ ⟨rfl, false, some (.int (0 + (i : Int))), ?_⟩⟩
      · have := List.length_filter_le (fun g : List Nat => decide (g.length < most.toNat)) (grpM most.toNat i)
        rw [List.length_map, List.length_map]
        omega
      · rw [show (grpM most.toNat (i + 1)).map ridersV = (grpM most.toNat i).map ridersV ++ ((grpM most.toNat i).filter fun g => decide (g.length < most.toNat)).map fun g => ridersV (g ++ [i]) by
          show (grpM most.toNat i ++ ((grpM most.toNat i).filter fun g => decide (g.length < most.toNat)).map fun g => g ++ [i]).map ridersV = _
          rw [List.map_append, List.map_map]
          rfl]
  · rintro ρ S' ⟨rfl, b, y3, rfl⟩
    obtain ⟨r, er⟩ := grp_head (m := most.toNat) n
    refine sortT_of (xs := (grpM most.toNat n).map ridersV) (nss := r.map nI) rfl ?_ fun mss pm hs => ?_
    · rw [er, List.map_cons, List.map_cons, List.map_map]
      rw [riders_ti]
      exact congrArg _ (List.map_congr_left fun g _ => riders_ti g)
    · have pm : mss.Perm ((grpM most.toNat n).map nI) := by rw [er]; exact pm
      obtain ⟨gs, eg⟩ : ∃ gs, gs = mss.map (List.map Int.toNat) := ⟨_, rfl⟩
      have em : mss = gs.map nI := by
        rw [eg, List.map_map]
        conv => lhs; rw [← List.map_id mss]
        refine List.map_congr_left fun x hx => ?_
        obtain ⟨g, _, rfl⟩ := List.mem_map.mp (pm.mem_iff.mp hx)
        show nI g = nI ((nI g).map Int.toNat)
        rw [nI_toNat]
      subst em
      have nd : (gs.map nI).Nodup := pm.nodup_iff.mpr (List.pairwise_map.mpr ((grp_nodup n).imp fun {a b} h e => h (nI_inj e)))
      have tt : (gs.map nI).map tupI = gs.map ridersV := by
        rw [List.map_map]
        exact List.map_congr_left fun g _ => (riders_ti g).symm
      rw [tt]
      refine q gs ?_ (fun g => ?_) (by
        have := pm.length_eq
        rw [List.length_map, List.length_map] at this
        rw [this]
        exact grp_len n)
      · have h1 := List.pairwise_map.mp hs
        have h2 := List.pairwise_map.mp nd
        refine (List.pairwise_and_iff.mpr ⟨h1, h2⟩).imp fun {a b} h => ?_
        rcases ltR_tot a b with e | e | e
        · exact absurd (congrArg nI e) h.2
        · exact e
        · have := (lex_iff b a).mpr e
          rw [this] at h
          exact absurd h.1 (by decide)
      · rw [← grp_ok]
        constructor
        · intro hg
          obtain ⟨g', hg', e⟩ := List.mem_map.mp (pm.mem_iff.mp (List.mem_map.mpr ⟨g, hg, rfl⟩))
          rw [← nI_inj e]
          exact hg'
        · intro hg
          obtain ⟨g', hg', e⟩ := List.mem_map.mp (pm.mem_iff.mpr (List.mem_map.mpr ⟨g, hg, rfl⟩))
          rw [← nI_inj e]
          exact hg'
end Pu
namespace Pu
open PySem L2 Rb Gm
/-! ## count_good: groups of people and groups of places in the order of their ticks -/
def srtN (l : List Nat) : List Nat := sortB (fun a b => decide (a ≤ b)) l
theorem srtN_perm (l : List Nat) : (srtN l).Perm l := sortB_perm _ l
theorem srtN_sorted (l : List Nat) : (srtN l).Pairwise (· ≤ ·) := by
  have h := sortB_sorted (le := fun a b : Nat => decide (a ≤ b)) (fun a b c h1 h2 => by simp only [decide_eq_true_eq] at *; omega) (fun a b => by simp only [decide_eq_true_eq]; omega) l
  exact h.imp fun h => of_decide_eq_true h
theorem srtN_asc {l : List Nat} (nd : l.Nodup) : (srtN l).Pairwise (· < ·) := by
  have h1 := srtN_sorted l
  have h2 : (srtN l).Nodup := (srtN_perm l).nodup_iff.mpr nd
  exact (h1.and h2).imp fun {a b} ⟨h, n⟩ => Nat.lt_of_le_of_ne h n
/-- the people in the order of their ticks -/
def ordT (t : List Int) : List Nat := (srtP ((List.range t.length).map fun p => (tickAt t p, (p : Int)))).map fun z => z.2.toNat
theorem ordT_perm (t : List Int) : (ordT t).Perm (List.range t.length) := by
  unfold ordT
  have p := (srtP_perm ((List.range t.length).map fun p => (tickAt t p, (p : Int)))).map fun z => z.2.toNat
  rw [List.map_map] at p
  rw [show ((fun z : Int × Int => z.2.toNat) ∘ fun p : Nat => (tickAt t p, (p : Int))) = id from funext fun p => Int.toNat_natCast p, List.map_id] at p
  exact p
theorem ordT_ticks (t : List Int) : (ordT t).map (tickAt t) = srt t := by
  have e : (ordT t).map (tickAt t) = (srtP ((List.range t.length).map fun p => (tickAt t p, (p : Int)))).map (·.1) := by
    unfold ordT
    rw [List.map_map]
    refine List.map_congr_left fun z hz => ?_
    obtain ⟨p, _, rfl⟩ := List.mem_map.mp ((srtP_perm _).mem_iff.mp hz)
    show tickAt t (((p : Int)).toNat) = tickAt t p
    rw [Int.toNat_natCast]
  rw [e]
  refine srt_uniq ?_ ?_
  · have p := (srtP_perm ((List.range t.length).map fun p => (tickAt t p, (p : Int)))).map (·.1)
    rw [List.map_map] at p
    have e2 : (List.range t.length).map ((fun z : Int × Int => z.1) ∘ fun p : Nat => (tickAt t p, (p : Int))) = t := ticks_range t
    rw [e2] at p
    exact p
  · refine List.pairwise_map.mpr ((srtP_sorted _).imp fun {a b} h => ?_)
    unfold leP at h
    omega
def atO (t : List Int) (i : Nat) : Nat := (ordT t).getD i 0
theorem ordT_len (t : List Int) : (ordT t).length = t.length := by rw [(ordT_perm t).length_eq, List.length_range]
theorem ordT_nodup (t : List Int) : (ordT t).Nodup := (ordT_perm t).nodup_iff.mpr List.nodup_range
section
variable {t : List Int} {m i j : Nat}
theorem atO_get (h : i < t.length) : (ordT t)[i]? = some (atO t i) := by
  unfold atO
  rw [List.getD_eq_getElem?_getD, List.getElem?_eq_getElem (by rw [ordT_len]; exact h)]
  rfl
theorem atO_lt (h : i < t.length) : atO t i < t.length := List.mem_range.mp ((ordT_perm t).mem_iff.mp (List.mem_of_getElem? (atO_get h)))
theorem atO_inj (hi : i < t.length) (hj : j < t.length) (e : atO t i = atO t j) : i = j := by
  have h1 := atO_get hi
  have h2 := atO_get hj
  rw [e] at h1
  exact (List.getElem?_inj (by rw [ordT_len]; exact hi) (ordT_nodup t)).mp (h1.trans h2.symm)
theorem atO_sur {p : Nat} (h : p < t.length) : ∃ i, i < t.length ∧ atO t i = p := by
  obtain ⟨i, hi, e⟩ := List.getElem_of_mem ((ordT_perm t).mem_iff.mpr (List.mem_range.mpr h))
  have hi2 : i < t.length := by rw [ordT_len] at hi; exact hi
  refine ⟨i, hi2, ?_⟩
  have h1 := atO_get hi2
  rw [List.getElem?_eq_getElem hi, e] at h1
  exact (Option.some.inj h1).symm
theorem atO_tick (h : i < t.length) : tickAt t (atO t i) = tickAt (srt t) i := by
  rw [← ordT_ticks]
  unfold tickAt
  rw [List.getD_eq_getElem?_getD, List.getD_eq_getElem?_getD, List.getElem?_map, atO_get h]
  rfl
/-- the people at the places R -/
def img (t : List Int) (R : List Nat) : List Nat := srtN (R.map (atO t))
theorem map_nodup {R : List Nat} (asc : R.Pairwise (· < ·)) (hi : ∀ p ∈ R, p < t.length) : (R.map (atO t)).Nodup := by
  refine List.pairwise_map.mpr ?_
  refine asc.imp_of_mem fun {a b} ha hb h e => ?_
  have := atO_inj (hi a ha) (hi b hb) e
  omega
theorem img_mem {R : List Nat} {p : Nat} : p ∈ img t R ↔ ∃ i ∈ R, atO t i = p := by
  unfold img
  rw [(srtN_perm _).mem_iff, List.mem_map]
theorem img_ok {R : List Nat} (h : GrOk 0 t.length m R) : GrOk 0 t.length m (img t R) := by
  refine ⟨srtN_asc (map_nodup h.asc h.hi), fun _ _ => Nat.zero_le _, fun p hp => ?_, ?_⟩
  · obtain ⟨i, hi, rfl⟩ := img_mem.mp hp
    exact atO_lt (h.hi i hi)
  · unfold img
    rw [(srtN_perm _).length_eq, List.length_map]
    exact h.len
theorem img_inj {R R' : List Nat} (h : GrOk 0 t.length m R) (h' : GrOk 0 t.length m R') (e : img t R = img t R') : R = R' := by
  refine asc_extN h.asc h'.asc fun i => ⟨fun hi => ?_, fun hi => ?_⟩
  · obtain ⟨j, hj, ej⟩ := img_mem.mp (e ▸ img_mem.mpr ⟨i, hi, rfl⟩)
    have := atO_inj (h'.hi j hj) (h.hi i hi) ej
    exact this ▸ hj
  · obtain ⟨j, hj, ej⟩ := img_mem.mp (e.symm ▸ img_mem.mpr ⟨i, hi, rfl⟩)
    have := atO_inj (h.hi j hj) (h'.hi i hi) ej
    exact this ▸ hj
theorem img_sur {r : List Nat} (h : GrOk 0 t.length m r) : ∃ R, GrOk 0 t.length m R ∧ img t R = r := by
  have asc : ((List.range t.length).filter fun i => decide (atO t i ∈ r)).Pairwise (· < ·) := List.pairwise_lt_range.filter _
  have hi : ∀ p ∈ (List.range t.length).filter fun i => decide (atO t i ∈ r), p < t.length := fun p hp => List.mem_range.mp (List.mem_filter.mp hp).1
  have e : img t ((List.range t.length).filter fun i => decide (atO t i ∈ r)) = r := by
    refine asc_extN (srtN_asc (map_nodup asc hi)) h.asc fun p => ?_
    show p ∈ img t _ ↔ _
    rw [img_mem]
    constructor
    · rintro ⟨i, hi, rfl⟩
      exact of_decide_eq_true (List.mem_filter.mp hi).2
    · intro hp
      obtain ⟨i, hi, e⟩ := atO_sur (h.hi p hp)
      exact ⟨i, List.mem_filter.mpr ⟨List.mem_range.mpr hi, decide_eq_true (e ▸ hp)⟩, e⟩
  refine ⟨_, ⟨asc, fun _ _ => Nat.zero_le _, hi, ?_⟩, e⟩
  have l : (img t ((List.range t.length).filter fun i => decide (atO t i ∈ r))).length = ((List.range t.length).filter fun i => decide (atO t i ∈ r)).length := by
    unfold img
    rw [(srtN_perm _).length_eq, List.length_map]
  rw [← l, e]
  exact h.len
theorem img_perm : ((grpM m t.length).map (img t)).Perm (grpM m t.length) := by
  refine (List.perm_ext_iff_of_nodup ?_ (grp_nodup _)).mpr fun r => ?_
  · refine List.pairwise_map.mpr ((grp_nodup (m := m) t.length).imp_of_mem fun {a b} ha hb h e => h ?_)
    exact img_inj ((grp_ok _ _).mp ha) ((grp_ok _ _).mp hb) e
  · rw [List.mem_map, grp_ok]
    constructor
    · rintro ⟨R, hR, rfl⟩
      exact img_ok ((grp_ok _ _).mp hR)
    · intro h
      obtain ⟨R, hR, e⟩ := img_sur h
      exact ⟨R, (grp_ok _ _).mpr hR, e⟩
/-- what the places say of the ticks of those who ride and of those who walk -/
theorem img_ride {R : List Nat} (h : GrOk 0 t.length m R) : srt ((img t R).map (tickAt t)) = R.map (tickAt (srt t)) := by
  symm
  refine srt_uniq ?_ ?_
  · have p := (srtN_perm (R.map (atO t))).map (tickAt t)
    rw [List.map_map] at p
    refine (List.Perm.of_eq ?_).trans p.symm
    exact List.map_congr_left fun i hi => (atO_tick (h.hi i hi)).symm
  · refine List.pairwise_map.mpr (h.asc.imp_of_mem fun {a b} ha hb hab => ?_)
    have sl : (srt t).length = t.length := srt_len t
    unfold tickAt
    rw [List.getD_eq_getElem?_getD, List.getD_eq_getElem?_getD, List.getElem?_eq_getElem (by rw [sl]; exact h.hi a ha), List.getElem?_eq_getElem (by rw [sl]; exact h.hi b hb)]
    exact List.pairwise_iff_getElem.mp (srt_sorted t) a b _ _ hab
theorem rest_ok {R : List Nat} : GrOk 0 t.length t.length (restM t.length R) := by
  refine ⟨List.pairwise_lt_range.filter _, fun _ _ => Nat.zero_le _, fun p hp => List.mem_range.mp (List.mem_filter.mp hp).1, ?_⟩
  exact Nat.le_trans (List.length_filter_le _ _) (Nat.le_of_eq List.length_range)
theorem img_rest {R : List Nat} (h : GrOk 0 t.length m R) : restM t.length (img t R) = img t (restM t.length R) := by
  refine asc_extN (rest_ok (t := t)).asc (img_ok (rest_ok (t := t) (R := R))).asc fun p => ?_
  rw [img_mem]
  unfold restM
  rw [List.mem_filter, List.mem_range, decide_eq_true_eq]
  constructor
  · rintro ⟨hp, n⟩
    obtain ⟨i, hi, e⟩ := atO_sur hp
    exact ⟨i, List.mem_filter.mpr ⟨List.mem_range.mpr hi, decide_eq_true fun z => n (img_mem.mpr ⟨i, z, e⟩)⟩, e⟩
  · rintro ⟨i, hi, rfl⟩
    have hi2 := List.mem_filter.mp hi
    have il := List.mem_range.mp hi2.1
    refine ⟨atO_lt il, fun z => ?_⟩
    obtain ⟨j, hj, e⟩ := img_mem.mp z
    have := atO_inj (h.hi j hj) il e
    exact of_decide_eq_true hi2.2 (this ▸ hj)
theorem img_walk {R : List Nat} (h : GrOk 0 t.length m R) : srt ((restM t.length (img t R)).map (tickAt t)) = (restM t.length R).map (tickAt (srt t)) := by
  rw [img_rest h]
  exact img_ride (rest_ok (t := t))
end
end Pu
namespace Pu
open PySem L2 Rb Gm
/-! ## count_good: the ways to go on depend on sorted ticks alone -/
theorem maxL_srt (t : List Int) : maxL (srt t) = maxL t := by
  cases h : t with
  | nil => rfl
  | cons x r =>
    rw [← h]
    have n1 : t ≠ [] := by rw [h]; exact List.cons_ne_nil _ _
    have n2 : srt t ≠ [] := fun z => by
      have := srt_len t
      rw [z, h] at this
      cases this
    obtain ⟨a1, a2⟩ := maxL_spec n1
    obtain ⟨b1, b2⟩ := maxL_spec n2
    have c1 := b2 _ ((srt_perm t).mem_iff.mpr a1)
    have c2 := a2 _ ((srt_perm t).mem_iff.mp b1)
    omega
def goP (wk rd e : Int) (n : Nat) : List Nat → List Int → List Nat → Int
  | [], t, _ => if maxL t ≤ e then 1 else 0
  | s :: ss, t, b => ((grpM (s + b.length) n).map fun r => goP wk rd e n ss (rowM t r b s wk rd) r).sum
def goK (wk rd e : Int) (n : Nat) : List Nat → List Int → List Int → Int
  | [], T, _ => if maxL T ≤ e then 1 else 0
  | s :: ss, T, B => ((grpM (s + B.length) n).map fun R => goK wk rd e n ss (nextK (R.map (tickAt T)) ((restM n R).map (tickAt T)) (List.replicate s 0 ++ B) wk rd) (rideK (R.map (tickAt T)) (List.replicate s 0 ++ B) rd)).sum
theorem permI_sum : ∀ {l l' : List Int}, l.Perm l' → l.sum = l'.sum := fun h => by
  induction h with
  | nil => rfl
  | cons x _ ih => rw [List.sum_cons, List.sum_cons, ih]
  | swap x y l => simp only [List.sum_cons]; omega
  | trans _ _ h1 h2 => exact h1.trans h2
section
variable {wk rd : Int} {t : List Int} {r b : List Nat} {s : Nat}
theorem tick_mem {p : Nat} (h : p < t.length) : tickAt t p ∈ t := by
  unfold tickAt
  rw [List.getD_eq_getElem?_getD, List.getElem?_eq_getElem h]
  exact List.getElem_mem h
theorem bikes_eq (t0 : ∀ x ∈ t, 0 ≤ x) (hb : ∀ p ∈ b, p < t.length) : bikesM t b s = List.replicate s 0 ++ srt (b.map (tickAt t)) := by
  unfold bikesM
  symm
  refine srt_uniq (List.Perm.append (List.Perm.refl _) (srt_perm _)) ?_
  refine List.pairwise_append.mpr ⟨?_, srt_sorted _, fun x hx y hy => ?_⟩
  · exact List.pairwise_replicate.mpr (.inr (Int.le_refl _))
  · rw [List.eq_of_mem_replicate hx]
    obtain ⟨p, hp, rfl⟩ := List.mem_map.mp ((srt_perm _).mem_iff.mp hy)
    exact t0 _ (tick_mem (hb p hp))
theorem mx_left (a b : Int) : a ≤ mx a b := by
  unfold mx
  split <;> omega
theorem row_nn (t0 : ∀ x ∈ t, 0 ≤ x) (w0 : 0 ≤ wk) (r0 : 0 ≤ rd) (h : r.length ≤ s + b.length) (nd : r.Nodup) (hl : ∀ p ∈ r, p < t.length) : ∀ x ∈ rowM t r b s wk rd, 0 ≤ x := by
  intro x hx
  obtain ⟨p, hp, rfl⟩ := List.getElem_of_mem hx
  have hp2 : p < t.length := by rw [rowM_len] at hp; exact hp
  have e : (rowM t r b s wk rd)[p] = tickAt (rowM t r b s wk rd) p := by
    unfold tickAt
    rw [List.getD_eq_getElem?_getD, List.getElem?_eq_getElem hp]
    rfl
  rw [e]
  have tp := t0 _ (tick_mem hp2)
  by_cases hr : p ∈ r
  · obtain ⟨z, hz, ez⟩ := List.mem_map.mp ((pairs_people (ticks := t) h).mem_iff.mpr hr)
    have := row_pair (walk := wk) (ride := rd) h nd hl hz
    rw [ez] at this
    rw [this]
    obtain ⟨q, hq, eq⟩ := pairs_mem hz
    have : z.1.1 = tickAt t p := by
      have e2 : z.1.2.toNat = q := by rw [eq]; exact Int.toNat_natCast q
      rw [eq]
      rw [← ez, e2]
    have := mx_left z.1.1 z.2
    omega
  · rw [row_walk hr hp2]
    omega
end
theorem goP_goK {wk rd e : Int} {n : Nat} (w0 : 0 ≤ wk) (r0 : 0 ≤ rd) : ∀ (ss : List Nat) (t : List Int) (b : List Nat), t.length = n → (∀ x ∈ t, 0 ≤ x) → (∀ p ∈ b, p < n) → goP wk rd e n ss t b = goK wk rd e n ss (srt t) (srt (b.map (tickAt t)))
  | [], t, b, _, _, _ => by
    unfold goP goK
    rw [maxL_srt]
  | s :: ss, t, b, hn, t0, hb => by
    subst hn
    unfold goP goK
    have bl : (srt (b.map (tickAt t))).length = b.length := by rw [srt_len, List.length_map]
    rw [bl]
    have pm := (img_perm (t := t) (m := s + b.length)).map fun r => goP wk rd e t.length ss (rowM t r b s wk rd) r
    rw [← permI_sum pm, List.map_map]
    congr 1
    refine List.map_congr_left fun R hR => ?_
    have gR := (grp_ok _ _).mp hR
    have gr := img_ok gR
    have nd : (img t R).Nodup := gr.asc.imp fun h e => by omega
    show goP wk rd e t.length ss (rowM t (img t R) b s wk rd) (img t R) = _
    rw [goP_goK w0 r0 ss _ _ rowM_len (row_nn t0 w0 r0 gr.len nd gr.hi) gr.hi, row_key gr.len nd gr.hi, ride_key gr.len nd gr.hi, bikes_eq t0 hb, img_ride gR, img_walk gR]
end Pu
namespace Pu
open PySem L2 Rb Gm
/-! ## count_good: the plans that keep an end, counted stage by stage -/
section
variable {wk rd : Int} {bs starts : List Int} {p : List (List Nat)} {g : List Nat}
theorem tk_snoc : ∀ {j : Nat}, j ≤ p.length → tkM wk rd bs starts (p ++ [g]) j = tkM wk rd bs starts p j
  | 0, _ => rfl
  | j + 1, h => by
    show rowM (tkM wk rd bs starts (p ++ [g]) j) ((p ++ [g]).getD j []) (brM (p ++ [g]) j) (bs.getD j 0).toNat wk rd = rowM (tkM wk rd bs starts p j) (p.getD j []) (brM p j) (bs.getD j 0).toNat wk rd
    rw [tk_snoc (j := j) (by omega)]
    have e1 : (p ++ [g]).getD j [] = p.getD j [] := by
      rw [List.getD_eq_getElem?_getD, List.getD_eq_getElem?_getD, List.getElem?_append_left (by omega)]
    have e2 : brM (p ++ [g]) j = brM p j := by
      unfold brM
      split
      · rfl
      · rw [List.getD_eq_getElem?_getD, List.getD_eq_getElem?_getD, List.getElem?_append_left (by omega)]
    rw [e1, e2]
theorem br_last : brM p p.length = p.getLast?.getD [] := by
  unfold brM
  rcases List.eq_nil_or_concat p with rfl | ⟨q, x, rfl⟩
  · rfl
  · rw [List.concat_eq_append, List.getLast?_concat, if_neg (by simp), List.getD_eq_getElem?_getD, List.length_append]
    show (q ++ [x])[q.length + 1 - 1]?.getD [] = x
    rw [Nat.add_sub_cancel, List.getElem?_concat_length]
    rfl
theorem tk_long : tkM wk rd bs starts (p ++ [g]) (p.length + 1) = rowM (tkM wk rd bs starts p p.length) g (p.getLast?.getD []) (bs.getD p.length 0).toNat wk rd := by
  show rowM (tkM wk rd bs starts (p ++ [g]) p.length) ((p ++ [g]).getD p.length []) (brM (p ++ [g]) p.length) (bs.getD p.length 0).toNat wk rd = _
  have e1 : (p ++ [g]).getD p.length [] = g := by
    rw [List.getD_eq_getElem?_getD, List.getElem?_concat_length]
    rfl
  have e2 : brM (p ++ [g]) p.length = brM p p.length := by
    unfold brM
    by_cases h0 : p.length = 0
    · rw [if_pos h0, if_pos h0]
    · rw [if_neg h0, if_neg h0, List.getD_eq_getElem?_getD, List.getD_eq_getElem?_getD, List.getElem?_append_left (by omega)]
  rw [tk_snoc (Nat.le_refl _), e1, e2, br_last]
end
theorem sum_flat {α : Type} {f : α → Int} : ∀ ls : List (List α), (ls.flatten.map f).sum = (ls.map fun l => (l.map f).sum).sum
  | [] => rfl
  | l :: ls => by rw [List.flatten_cons, List.map_append, List.sum_append, sum_flat ls, List.map_cons, List.sum_cons]
theorem good_plans {wk rd e : Int} {bs starts : List Int} {n : Nat} : ∀ (ss : List Nat) (fs : List (List (List Nat))) (i : Nat), (∀ p ∈ fs, p.length = i) → i + ss.length = bs.length → ss = (bs.drop i).map Int.toNat →
    (((plansM n ss fs).map fun p => if finM wk rd bs starts p ≤ e then (1 : Int) else 0).sum) = (fs.map fun p => goP wk rd e n ss (tkM wk rd bs starts p i) (p.getLast?.getD [])).sum
  | [], fs, i, hp, hl, _ => by
    show (fs.map fun p => if finM wk rd bs starts p ≤ e then (1 : Int) else 0).sum = _
    congr 1
    refine List.map_congr_left fun p h => ?_
    have : bs.length = i := by
      have hl : i + 0 = bs.length := hl
      omega
    unfold finM goP
    rw [this]
  | s :: ss, fs, i, hp, hl, hs => by
    have hl : i + (ss.length + 1) = bs.length := hl
    have il : i < bs.length := by omega
    have ed : bs.drop i = bs[i] :: bs.drop (i + 1) := List.drop_eq_getElem_cons il
    rw [ed, List.map_cons] at hs
    obtain ⟨es, hs⟩ := List.cons.inj hs
    show ((plansM n ss (longM n s fs)).map fun p => if finM wk rd bs starts p ≤ e then (1 : Int) else 0).sum = _
    have hp2 : ∀ p ∈ longM n s fs, p.length = i + 1 := fun p h => by
      unfold longM at h
      obtain ⟨l, hl, hm⟩ := List.mem_flatten.mp h
      obtain ⟨b, hb, rfl⟩ := List.mem_map.mp hl
      obtain ⟨g, _, rfl⟩ := List.mem_map.mp hm
      rw [List.length_append, hp b hb]
      rfl
    rw [good_plans ss (longM n s fs) (i + 1) hp2 (by omega) hs]
    unfold longM
    rw [sum_flat, List.map_map]
    congr 1
    refine List.map_congr_left fun p h => ?_
    have pl := hp p h
    show (((grpM (lastM p + s) n).map fun g => p ++ [g]).map _).sum = _
    rw [List.map_map]
    show _ = ((grpM (s + (p.getLast?.getD []).length) n).map fun r => goP wk rd e n ss (rowM (tkM wk rd bs starts p i) r (p.getLast?.getD []) s wk rd) r).sum
    have e1 : lastM p + s = s + (p.getLast?.getD []).length := by unfold lastM; omega
    rw [e1]
    congr 1
    refine List.map_congr_left fun g _ => ?_
    show goP wk rd e n ss (tkM wk rd bs starts (p ++ [g]) (i + 1)) ((p ++ [g]).getLast?.getD []) = _
    subst pl
    have e2 : (bs.getD p.length 0).toNat = s := by
      rw [es, List.getD_eq_getElem?_getD, List.getElem?_eq_getElem il]
      rfl
    rw [tk_long, e2, List.getLast?_concat]
    rfl
/-- as many plans keep the end as the ways on from the sorted starts -/
theorem good_count {wk rd e : Int} {bs starts : List Int} (w0 : 0 ≤ wk) (r0 : 0 ≤ rd) (s0 : ∀ x ∈ starts, 0 ≤ x) :
    ((plansM starts.length (bs.map Int.toNat) [[]]).map fun p => if finM wk rd bs starts p ≤ e then (1 : Int) else 0).sum = goK wk rd e starts.length (bs.map Int.toNat) (srt starts) [] := by
  rw [good_plans (i := 0) (bs.map Int.toNat) [[]] (fun p h => by rw [List.mem_singleton.mp h]; rfl) (by rw [List.length_map]; omega) rfl]
  show goP wk rd e starts.length (bs.map Int.toNat) (tkM wk rd bs starts [] 0) [] + 0 = _
  rw [Int.add_zero]
  exact goP_goK w0 r0 (bs.map Int.toNat) starts [] rfl s0 (fun p z => nomatch z)
end Pu
namespace Pu
open PySem L2 Rb Gm
/-! ## count_good: states that surely keep the end, and states that surely do not -/
section
variable {wk rd e : Int} {n s m : Nat} {T B X W : List Int} {R : List Nat}
/-- the state behind a stage, by the places R of those who ride -/
def nxT (wk rd : Int) (n s : Nat) (T B : List Int) (R : List Nat) : List Int := nextK (R.map (tickAt T)) ((restM n R).map (tickAt T)) (List.replicate s 0 ++ B) wk rd
def nxB (rd : Int) (s : Nat) (T B : List Int) (R : List Nat) : List Int := rideK (R.map (tickAt T)) (List.replicate s 0 ++ B) rd
theorem goK_step {ss : List Nat} : goK wk rd e n (s :: ss) T B = ((grpM (s + B.length) n).map fun R => goK wk rd e n ss (nxT wk rd n s T B R) (nxB rd s T B R)).sum := rfl
theorem ride_at (h : R.length ≤ s + B.length) {i : Nat} (hi : i ∈ R) : ∃ b, b ∈ List.replicate s 0 ++ B ∧ mx (tickAt T i) b + rd ∈ nxB rd s T B R := by
  obtain ⟨j, hj, rfl⟩ := List.getElem_of_mem hi
  have hb : j < (List.replicate s (0 : Int) ++ B).length := by rw [List.length_append, List.length_replicate]; omega
  refine ⟨(List.replicate s (0 : Int) ++ B)[j], List.getElem_mem hb, ?_⟩
  unfold nxB rideK
  refine List.mem_map.mpr ⟨(tickAt T R[j], (List.replicate s (0 : Int) ++ B)[j]), ?_, rfl⟩
  have : ((R.map (tickAt T)).zip (List.replicate s (0 : Int) ++ B))[j]? = some (tickAt T R[j], (List.replicate s (0 : Int) ++ B)[j]) := by
    rw [List.getElem?_zip_eq_some]
    exact ⟨by rw [List.getElem?_map, List.getElem?_eq_getElem hj]; rfl, List.getElem?_eq_getElem hb⟩
  exact List.mem_of_getElem? this
theorem nxB_len (h : R.length ≤ s + B.length) : (nxB rd s T B R).length = R.length := by
  unfold nxB rideK
  rw [List.length_map, List.length_zip, List.length_map, List.length_append, List.length_replicate]
  omega
theorem nxB_in {y : Int} (h : y ∈ nxB rd s T B R) : ∃ i ∈ R, ∃ b ∈ List.replicate s (0 : Int) ++ B, y = mx (tickAt T i) b + rd := by
  unfold nxB rideK at h
  obtain ⟨z, hz, rfl⟩ := List.mem_map.mp h
  obtain ⟨h1, h2⟩ := List.of_mem_zip (show (z.1, z.2) ∈ _ from hz)
  obtain ⟨i, hi, e⟩ := List.mem_map.mp h1
  exact ⟨i, hi, z.2, h2, by rw [e]⟩
theorem nxT_mem {y : Int} : y ∈ nxT wk rd n s T B R ↔ y ∈ nxB rd s T B R ∨ ∃ i, i < n ∧ i ∉ R ∧ y = tickAt T i + wk := by
  unfold nxT nextK
  rw [(srt_perm _).mem_iff, List.mem_append]
  refine or_congr Iff.rfl ?_
  rw [List.map_map, List.mem_map]
  constructor
  · rintro ⟨i, hi, rfl⟩
    have := List.mem_filter.mp hi
    exact ⟨i, List.mem_range.mp this.1, of_decide_eq_true this.2, rfl⟩
  · rintro ⟨i, h1, h2, rfl⟩
    exact ⟨i, List.mem_filter.mpr ⟨List.mem_range.mpr h1, decide_eq_true h2⟩, rfl⟩
theorem nxT_len (g : GrOk 0 n (s + B.length) R) : (nxT wk rd n s T B R).length = n := by
  have nd : R.Nodup := g.asc.imp fun h e => by omega
  have p := (rest_perm nd g.hi).length_eq
  rw [List.length_append, List.length_range] at p
  unfold nxT nextK
  rw [srt_len, List.length_append, List.length_map, List.length_map]
  have := nxB_len (rd := rd) (T := T) g.len
  unfold nxB at this
  rw [this]
  exact p
theorem at_mem {x : Int} (h : x ∈ T) (hn : T.length = n) : ∃ i, i < n ∧ tickAt T i = x := by
  obtain ⟨i, hi, rfl⟩ := List.getElem_of_mem h
  refine ⟨i, by omega, ?_⟩
  unfold tickAt
  rw [List.getD_eq_getElem?_getD, List.getElem?_eq_getElem hi]
  rfl
/-- nobody gains more than by riding -/
theorem next_late (wr : rd ≤ wk) (g : GrOk 0 n (s + B.length) R) (hn : T.length = n) {x : Int} (hx : x ∈ T) : ∃ y ∈ nxT wk rd n s T B R, x + rd ≤ y := by
  obtain ⟨i, hi, rfl⟩ := at_mem hx hn
  by_cases hr : i ∈ R
  · obtain ⟨b, _, hb⟩ := ride_at (rd := rd) (T := T) g.len hr
    refine ⟨_, nxT_mem.mpr (.inl hb), ?_⟩
    have := mx_left (tickAt T i) b
    omega
  · exact ⟨_, nxT_mem.mpr (.inr ⟨i, hi, hr, rfl⟩), by omega⟩
theorem sum_zero {α : Type} {f : α → Int} : ∀ {l : List α}, (∀ x ∈ l, f x = 0) → (l.map f).sum = 0
  | [], _ => rfl
  | x :: l, h => by
    rw [List.map_cons, List.sum_cons, h x List.mem_cons_self, sum_zero fun y hy => h y (List.mem_cons_of_mem _ hy)]
    rfl
/-- too late, even if they ride on all stages -/
theorem never_good (wr : rd ≤ wk) : ∀ (ss : List Nat) (T B : List Int), T.length = n → (∃ x ∈ T, e < x + rd * ss.length) → goK wk rd e n ss T B = 0
  | [], T, B, hn, ⟨x, hx, h⟩ => by
    unfold goK
    have ne : T ≠ [] := fun z => by rw [z] at hx; cases hx
    have := (maxL_spec ne).2 x hx
    have h : e < x + rd * ((0 : Nat) : Int) := h
    rw [if_neg (by simp at h; omega)]
  | s :: ss, T, B, hn, ⟨x, hx, h⟩ => by
    rw [goK_step]
    refine sum_zero fun R hR => ?_
    have g := (grp_ok _ _).mp hR
    obtain ⟨y, hy, hxy⟩ := next_late (wk := wk) (B := B) wr g hn hx
    refine never_good wr ss _ _ (nxT_len g) ⟨y, hy, ?_⟩
    rw [List.length_cons, Int.natCast_add, Int.mul_add] at h
    simp at h
    omega
/-- all ways to go on, whatever they bring -/
theorem surely_good (w0 : 0 ≤ wk) (wr : rd ≤ wk) (r0 : 0 ≤ rd) : ∀ (ss : List Nat) (T B : List Int), T.length = n → 0 < n → (∀ x ∈ T, 0 ≤ x ∧ x + wk * ss.length ≤ e) → (∀ b ∈ B, b ∈ T) → goK wk rd e n ss T B = bwdAll (binM n) (n + 1) ss B.length
  | [], T, B, hn, n0, ht, _ => by
    unfold goK
    have ne : T ≠ [] := fun z => by rw [z] at hn; simp at hn; omega
    have := (ht _ (maxL_spec ne).1).2
    have : maxL T + wk * ((0 : Nat) : Int) ≤ e := this
    rw [if_pos (by simp at this; omega)]
    rfl
  | s :: ss, T, B, hn, n0, ht, hb => by
    rw [goK_step]
    have e1 : ∀ R ∈ grpM (s + B.length) n, goK wk rd e n ss (nxT wk rd n s T B R) (nxB rd s T B R) = bwdAll (binM n) (n + 1) ss R.length := fun R hR => by
      have g := (grp_ok _ _).mp hR
      have up : ∀ x, x ∈ T → 0 ≤ x ∧ x + wk + wk * (ss.length : Int) ≤ e := fun x hx => by
        have := ht x hx
        rw [List.length_cons, Int.natCast_add, Int.mul_add] at this
        simp at this
        omega
      have tk : ∀ i, i < n → tickAt T i ∈ T := fun i hi => tick_mem (by omega)
      have inB : ∀ y ∈ nxB rd s T B R, 0 ≤ y ∧ y + wk * (ss.length : Int) ≤ e := fun y hy => by
        obtain ⟨i, hi, b, hb2, rfl⟩ := nxB_in hy
        have h1 := up _ (tk i (g.hi i hi))
        have h2 : 0 ≤ b ∧ b + wk + wk * (ss.length : Int) ≤ e := by
          rcases List.mem_append.mp hb2 with z | z
          · rw [List.eq_of_mem_replicate z]
            omega
          · exact up b (hb b z)
        unfold mx
        split <;> omega
      rw [surely_good w0 wr r0 ss _ _ (nxT_len g) n0 (fun y hy => ?_) (fun y hy => nxT_mem.mpr (.inl hy)), nxB_len g.len]
      rcases nxT_mem.mp hy with z | ⟨i, hi, _, rfl⟩
      · exact inB y z
      · have := up _ (tk i hi)
        omega
    rw [List.map_congr_left e1, grp_sum]
    show _ = bwdC (binM n) (n + 1) s (bwdAll (binM n) (n + 1) ss) B.length
    unfold bwdC
    congr 1
    funext k
    rw [Nat.add_comm s B.length]
end
end Pu
namespace Pu
open PySem L2 Rb Gm
/-! ## count_good: beginnings of plans counted by their keys -/
abbrev Ky := List Int × List Int
/-- d[k] = d.get(k, 0) + v -/
def addK : List (Ky × Int) → Ky → Int → List (Ky × Int)
  | [], k, v => [(k, v)]
  | (a, x) :: l, k, v => if a = k then (a, x + v) :: l else (a, x) :: addK l k v
def valK (f : Ky → Int) (l : List (Ky × Int)) : Int := (l.map fun p => p.2 * f p.1).sum
theorem val_add {f : Ky → Int} {k : Ky} {v : Int} : ∀ l : List (Ky × Int), valK f (addK l k v) = valK f l + v * f k
  | [] => by
    show v * f k + 0 = 0 + v * f k
    omega
  | (a, x) :: l => by
    unfold addK
    by_cases h : a = k
    · rw [if_pos h]
      subst h
      show (x + v) * f a + valK f l = x * f a + valK f l + v * f a
      rw [Int.add_mul]
      omega
    · rw [if_neg h]
      show x * f a + valK f (addK l k v) = x * f a + valK f l + v * f k
      rw [val_add l]
      omega
theorem add_mem {k : Ky} {v : Int} {P : Ky → Prop} : ∀ {l : List (Ky × Int)}, (∀ p ∈ l, P p.1) → P k → ∀ p ∈ addK l k v, P p.1
  | [], _, hk, p, hp => by rw [List.mem_singleton.mp hp]; exact hk
  | (a, x) :: l, hl, hk, p, hp => by
    unfold addK at hp
    have ha := hl (a, x) List.mem_cons_self
    split at hp
    · rcases List.mem_cons.mp hp with rfl | hp
      · exact ha
      · exact hl p (List.mem_cons_of_mem _ hp)
    · rcases List.mem_cons.mp hp with rfl | hp
      · exact ha
      · exact add_mem (l := l) (fun q hq => hl q (List.mem_cons_of_mem _ hq)) hk p hp
def addAll (key : List Nat → Ky) (many : Int) (acc : List (Ky × Int)) (Rs : List (List Nat)) : List (Ky × Int) := Rs.foldl (fun acc R => addK acc (key R) many) acc
theorem val_all {f : Ky → Int} {key : List Nat → Ky} {many : Int} : ∀ (Rs : List (List Nat)) (acc : List (Ky × Int)), valK f (addAll key many acc Rs) = valK f acc + many * (Rs.map fun R => f (key R)).sum
  | [], acc => by
    show valK f acc = valK f acc + many * 0
    omega
  | R :: Rs, acc => by
    show valK f (addAll key many (addK acc (key R) many) Rs) = _
    rw [val_all Rs, val_add, List.map_cons, List.sum_cons, Int.mul_add]
    omega
theorem all_mem {key : List Nat → Ky} {many : Int} {P : Ky → Prop} : ∀ (Rs : List (List Nat)) (acc : List (Ky × Int)), (∀ p ∈ acc, P p.1) → (∀ R ∈ Rs, P (key R)) → ∀ p ∈ addAll key many acc Rs, P p.1
  | [], acc, h, _ => h
  | R :: Rs, acc, h, hk => all_mem Rs (addK acc (key R) many) (add_mem h (hk R List.mem_cons_self)) fun R' h' => hk R' (List.mem_cons_of_mem _ h')
section
variable {wk rd e : Int} {n s : Nat} {ss : List Nat} {T B : List Int} {R : List Nat}
/-- who comes too late on foot rides -/
def mustK (wk rd e : Int) (n : Nat) (l : Nat) (T : List Int) (R : List Nat) : Bool := (List.range n).all fun i => decide (tickAt T i ≤ e - wk - rd * (l : Int)) || decide (i ∈ R)
theorem must_zero (wr : rd ≤ wk) (g : GrOk 0 n (s + B.length) R) (h : mustK wk rd e n ss.length T R = false) : goK wk rd e n ss (nxT wk rd n s T B R) (nxB rd s T B R) = 0 := by
  unfold mustK at h
  obtain ⟨i, hi, hb⟩ := List.all_eq_false.mp h
  rw [Bool.or_eq_true, not_or, decide_eq_true_eq, decide_eq_true_eq] at hb
  refine never_good wr ss _ _ (nxT_len g) ⟨_, nxT_mem.mpr (.inr ⟨i, List.mem_range.mp hi, hb.2, rfl⟩), ?_⟩
  have := hb.1
  omega
theorem must_sum (wr : rd ≤ wk) {Rs : List (List Nat)} (hR : ∀ R ∈ Rs, GrOk 0 n (s + B.length) R) :
    ((Rs.filter (mustK wk rd e n ss.length T)).map fun R => goK wk rd e n ss (nxT wk rd n s T B R) (nxB rd s T B R)).sum = (Rs.map fun R => goK wk rd e n ss (nxT wk rd n s T B R) (nxB rd s T B R)).sum := by
  induction Rs with
  | nil => rfl
  | cons R Rs ih =>
    have ih := ih fun R' h' => hR R' (List.mem_cons_of_mem _ h')
    rw [List.filter_cons]
    split
    · rw [List.map_cons, List.sum_cons, List.map_cons, List.sum_cons, ih]
    · rename_i h
      rw [List.map_cons, List.sum_cons, ih, must_zero wr (hR R List.mem_cons_self) (Bool.eq_false_iff.mpr h), Int.zero_add]
/-- a state of n people -/
structure KyOk (n : Nat) (k : Ky) : Prop where
  len : k.1.length = n
  nn : ∀ x ∈ k.1, 0 ≤ x
  asc : k.1.Pairwise (· ≤ ·)
  sub : ∀ b ∈ k.2, b ∈ k.1
  few : k.2.length ≤ n
theorem nxt_ok (w0 : 0 ≤ wk) (r0 : 0 ≤ rd) {k : Ky} (h : KyOk n k) (g : GrOk 0 n (s + k.2.length) R) : KyOk n (nxT wk rd n s k.1 k.2 R, nxB rd s k.1 k.2 R) := by
  refine ⟨nxT_len g, fun y hy => ?_, srt_sorted _, fun b hb => nxT_mem.mpr (.inl hb), ?_⟩
  · rcases nxT_mem.mp hy with z | ⟨i, hi, _, rfl⟩
    · obtain ⟨i, hi, b, _, rfl⟩ := nxB_in z
      have := h.nn _ (tick_mem (t := k.1) (by rw [h.len]; exact g.hi i hi))
      have := mx_left (tickAt k.1 i) b
      omega
    · have := h.nn _ (tick_mem (t := k.1) (by rw [h.len]; exact hi))
      omega
  · show (nxB rd s k.1 k.2 R).length ≤ n
    rw [nxB_len g.len]
    have nd : R.Nodup := g.asc.imp fun h e => by omega
    have p := (rest_perm nd g.hi).length_eq
    rw [List.length_append, List.length_range] at p
    omega
end
/-- the keys behind a stage -/
def nextA (wk rd e : Int) (n s l : Nat) (grp : Nat → List (List Nat)) (arr : List (Ky × Int)) : List (Ky × Int) :=
  arr.foldl (fun acc p => addAll (fun R => (nxT wk rd n s p.1.1 p.1.2 R, nxB rd s p.1.1 p.1.2 R)) p.2 acc ((grp (s + p.1.2.length)).filter (mustK wk rd e n l p.1.1))) []
theorem next_val {wk rd e : Int} {n s : Nat} {ss : List Nat} {grp : Nat → List (List Nat)} (wr : rd ≤ wk) (hg : ∀ m, (grp m).Perm (grpM m n)) : ∀ (arr acc : List (Ky × Int)),
    valK (fun k => goK wk rd e n ss k.1 k.2) (arr.foldl (fun acc p => addAll (fun R => (nxT wk rd n s p.1.1 p.1.2 R, nxB rd s p.1.1 p.1.2 R)) p.2 acc ((grp (s + p.1.2.length)).filter (mustK wk rd e n ss.length p.1.1))) acc) =
      valK (fun k => goK wk rd e n ss k.1 k.2) acc + valK (fun k => goK wk rd e n (s :: ss) k.1 k.2) arr
  | [], acc => by
    show _ = _ + 0
    rw [Int.add_zero]
    rfl
  | p :: arr, acc => by
    rw [List.foldl_cons, next_val wr hg arr, val_all]
    have gr : ∀ R ∈ grp (s + p.1.2.length), GrOk 0 n (s + p.1.2.length) R := fun R hR => (grp_ok _ _).mp ((hg _).mem_iff.mp hR)
    rw [must_sum wr gr]
    have e1 : ((grp (s + p.1.2.length)).map fun R => goK wk rd e n ss (nxT wk rd n s p.1.1 p.1.2 R) (nxB rd s p.1.1 p.1.2 R)).sum = goK wk rd e n (s :: ss) p.1.1 p.1.2 := permI_sum ((hg _).map _)
    rw [e1]
    show _ = valK _ acc + (p.2 * goK wk rd e n (s :: ss) p.1.1 p.1.2 + valK (fun k => goK wk rd e n (s :: ss) k.1 k.2) arr)
    omega
theorem next_oks {wk rd e : Int} {n s l : Nat} {grp : Nat → List (List Nat)} (w0 : 0 ≤ wk) (r0 : 0 ≤ rd) (hg : ∀ m, (grp m).Perm (grpM m n)) : ∀ (arr acc : List (Ky × Int)), (∀ p ∈ acc, KyOk n p.1) → (∀ p ∈ arr, KyOk n p.1) →
    ∀ p ∈ arr.foldl (fun acc p => addAll (fun R => (nxT wk rd n s p.1.1 p.1.2 R, nxB rd s p.1.1 p.1.2 R)) p.2 acc ((grp (s + p.1.2.length)).filter (mustK wk rd e n l p.1.1))) acc, KyOk n p.1
  | [], acc, h, _ => h
  | p :: arr, acc, h, ha => by
    rw [List.foldl_cons]
    refine next_oks w0 r0 hg arr _ (all_mem _ _ h fun R hR => ?_) fun q hq => ha q (List.mem_cons_of_mem _ hq)
    exact nxt_ok w0 r0 (ha p List.mem_cons_self) ((grp_ok _ _).mp ((hg _).mem_iff.mp (List.mem_filter.mp hR).1))
end Pu
namespace Pu
open PySem L2 Rb Gm
/-! ## count_good: the loop over the stations -/
def sureK (wk e : Int) (l : Nat) (T : List Int) : Bool := decide (maxL T + wk * (l : Int) ≤ e)
def maybeK (rd e : Int) (l : Nat) (T : List Int) : Bool := decide (maxL T + rd * (l : Int) ≤ e)
def undK (wk rd e : Int) (l : Nat) (arr : List (Ky × Int)) : List (Ky × Int) := arr.filter fun p => !sureK wk e l p.1.1 && maybeK rd e l p.1.1
/-- what the states that surely keep the end bring -/
def bringK (wk e : Int) (n : Nat) (ss : List Nat) (arr : List (Ky × Int)) : Int := (arr.map fun p => if sureK wk e ss.length p.1.1 = true then p.2 * bwdAll (binM n) (n + 1) ss p.1.2.length else 0).sum
def countG (wk rd e : Int) (n : Nat) (grp : Nat → List (List Nat)) : List Nat → List (Ky × Int) → Int → Int
  | [], arr, good => good + bringK wk e n [] arr
  | s :: ss, arr, good => countG wk rd e n grp ss (nextA wk rd e n s ss.length grp (undK wk rd e (s :: ss).length arr)) (good + bringK wk e n (s :: ss) arr)
section
variable {wk rd e : Int} {n : Nat} {ss : List Nat} {grp : Nat → List (List Nat)}
theorem sure_all (w0 : 0 ≤ wk) (wr : rd ≤ wk) (r0 : 0 ≤ rd) (n0 : 0 < n) {k : Ky} (h : KyOk n k) (hs : sureK wk e ss.length k.1 = true) : goK wk rd e n ss k.1 k.2 = bwdAll (binM n) (n + 1) ss k.2.length := by
  have hs := of_decide_eq_true hs
  refine surely_good w0 wr r0 ss k.1 k.2 h.len n0 (fun x hx => ⟨h.nn x hx, ?_⟩) h.sub
  have ne : k.1 ≠ [] := fun z => by rw [z] at hx; cases hx
  have := (maxL_spec ne).2 x hx
  omega
theorem never_all (wr : rd ≤ wk) (n0 : 0 < n) {k : Ky} (h : KyOk n k) (hs : maybeK rd e ss.length k.1 = false) : goK wk rd e n ss k.1 k.2 = 0 := by
  have hs := of_decide_eq_false hs
  have ne : k.1 ≠ [] := fun z => by have := h.len; rw [z] at this; simp at this; omega
  exact never_good wr ss k.1 k.2 h.len ⟨maxL k.1, (maxL_spec ne).1, by omega⟩
theorem split_val (w0 : 0 ≤ wk) (wr : rd ≤ wk) (r0 : 0 ≤ rd) (n0 : 0 < n) : ∀ {arr : List (Ky × Int)}, (∀ p ∈ arr, KyOk n p.1) →
    valK (fun k => goK wk rd e n ss k.1 k.2) arr = bringK wk e n ss arr + valK (fun k => goK wk rd e n ss k.1 k.2) (undK wk rd e ss.length arr)
  | [], _ => rfl
  | p :: arr, h => by
    have ih := split_val w0 wr r0 n0 (arr := arr) fun q hq => h q (List.mem_cons_of_mem _ hq)
    have hp := h p List.mem_cons_self
    show p.2 * goK wk rd e n ss p.1.1 p.1.2 + valK (fun k => goK wk rd e n ss k.1 k.2) arr = _
    rw [ih]
    unfold undK bringK
    rw [List.filter_cons, List.map_cons, List.sum_cons]
    cases hs : sureK wk e ss.length p.1.1 with
    | true =>
      rw [if_pos rfl, if_neg (by simp), sure_all w0 wr r0 n0 hp hs]
      omega
    | false =>
      rw [if_neg (by simp)]
      cases hm : maybeK rd e ss.length p.1.1 with
      | true =>
        rw [if_pos (by rfl)]
        show _ = _ + (p.2 * goK wk rd e n ss p.1.1 p.1.2 + valK (fun k => goK wk rd e n ss k.1 k.2) _)
        omega
      | false =>
        rw [if_neg (by simp), never_all wr n0 hp hm]
        omega
theorem und_mem {l : Nat} {arr : List (Ky × Int)} {p : Ky × Int} (h : p ∈ undK wk rd e l arr) : p ∈ arr := (List.mem_filter.mp h).1
theorem und_nil {arr : List (Ky × Int)} (w : rd ≤ wk) : undK wk rd e 0 arr = [] := by
  unfold undK
  refine List.filter_eq_nil_iff.mpr fun p _ => ?_
  unfold sureK maybeK
  by_cases h : maxL p.1.1 ≤ e <;> simp [h]
theorem countG_ok (w0 : 0 ≤ wk) (wr : rd ≤ wk) (r0 : 0 ≤ rd) (n0 : 0 < n) (hg : ∀ m, (grp m).Perm (grpM m n)) : ∀ (ss : List Nat) (arr : List (Ky × Int)) (good : Int), (∀ p ∈ arr, KyOk n p.1) →
    countG wk rd e n grp ss arr good = good + valK (fun k => goK wk rd e n ss k.1 k.2) arr
  | [], arr, good, h => by
    unfold countG
    rw [split_val (ss := []) w0 wr r0 n0 h, show undK wk rd e ([] : List Nat).length arr = [] from und_nil wr]
    show _ = good + (bringK wk e n [] arr + 0)
    omega
  | s :: ss, arr, good, h => by
    unfold countG
    have hu : ∀ p ∈ undK wk rd e (s :: ss).length arr, KyOk n p.1 := fun p hp => h p (und_mem hp)
    rw [countG_ok w0 wr r0 n0 hg ss (nextA wk rd e n s ss.length grp (undK wk rd e (s :: ss).length arr)) _ (next_oks w0 r0 hg _ [] (fun _ z => nomatch z) hu)]
    rw [split_val (ss := s :: ss) w0 wr r0 n0 h]
    unfold nextA
    rw [next_val wr hg]
    show good + bringK wk e n (s :: ss) arr + (0 + _) = _
    omega
end
/-- what count_good returns: as many as there are plans that keep the end -/
theorem countG_plans {wk rd e : Int} {bs starts : List Int} {grp : Nat → List (List Nat)} (w0 : 0 ≤ wk) (wr : rd ≤ wk) (r0 : 0 ≤ rd) (s0 : ∀ x ∈ starts, 0 ≤ x) (n0 : 0 < starts.length) (hg : ∀ m, (grp m).Perm (grpM m starts.length)) :
    countG wk rd e starts.length grp (bs.map Int.toNat) [((srt starts, []), 1)] 0 = ((plansM starts.length (bs.map Int.toNat) [[]]).map fun p => if finM wk rd bs starts p ≤ e then (1 : Int) else 0).sum := by
  rw [countG_ok w0 wr r0 n0 hg, good_count w0 r0 s0]
  · show 0 + (1 * goK wk rd e starts.length (bs.map Int.toNat) (srt starts) [] + 0) = _
    omega
  · intro p hp
    rw [List.mem_singleton.mp hp]
    exact ⟨srt_len _, fun x hx => s0 x ((srt_perm _).mem_iff.mp hx), srt_sorted _, (fun _ z => nomatch z), Nat.zero_le _⟩
end Pu
namespace Pu
open PySem L2 Rb Gm
/-! ## count_good: the groups, by their size -/
def loM (g : List Nat) : Nat := match g.getLast? with | none => 0 | some a => a + 1
def nwM (n : Nat) : Nat → List (List Nat)
  | 0 => [[]]
  | k + 1 => ((nwM n k).map fun g => (List.range' (loM g) (n - loM g)).map fun p => g ++ [p]).flatten
/-- the row of groups_up_to at m -/
def upM (n : Nat) : Nat → List (List Nat)
  | 0 => nwM n 0
  | m + 1 => upM n m ++ nwM n (m + 1)
theorem lo_snoc {g : List Nat} {a : Nat} : loM (g ++ [a]) = a + 1 := by
  unfold loM
  rw [List.getLast?_concat]
theorem asc_snoc {g : List Nat} {p : Nat} : (g ++ [p]).Pairwise (· < ·) ↔ g.Pairwise (· < ·) ∧ loM g ≤ p := by
  rcases List.eq_nil_or_concat g with rfl | ⟨x, a, rfl⟩
  · exact ⟨fun _ => ⟨.nil, Nat.zero_le _⟩, fun _ => List.pairwise_singleton ..⟩
  · rw [List.concat_eq_append, lo_snoc]
    constructor
    · intro h
      obtain ⟨h1, _, h3⟩ := List.pairwise_append.mp h
      exact ⟨h1, h3 a (List.mem_append_right _ List.mem_cons_self) p List.mem_cons_self⟩
    · rintro ⟨h1, h2⟩
      refine List.pairwise_append.mpr ⟨h1, List.pairwise_singleton .., fun q hq b hb => ?_⟩
      rw [List.mem_singleton.mp hb]
      rcases List.mem_append.mp hq with z | z
      · have := (List.pairwise_append.mp h1).2.2 q z a List.mem_cons_self
        omega
      · rw [List.mem_singleton.mp z]
        omega
theorem nw_mem {n : Nat} : ∀ (k : Nat) (g : List Nat), g ∈ nwM n k ↔ g.Pairwise (· < ·) ∧ (∀ p ∈ g, p < n) ∧ g.length = k
  | 0, g => by
    show g ∈ [[]] ↔ _
    rw [List.mem_singleton]
    constructor
    · rintro rfl
      exact ⟨.nil, (fun _ z => nomatch z), rfl⟩
    · exact fun h => List.length_eq_zero_iff.mp h.2.2
  | k + 1, g => by
    show g ∈ ((nwM n k).map fun g => (List.range' (loM g) (n - loM g)).map fun p => g ++ [p]).flatten ↔ _
    rw [List.mem_flatten]
    constructor
    · rintro ⟨l, hl, hg⟩
      obtain ⟨x, hx, rfl⟩ := List.mem_map.mp hl
      obtain ⟨p, hp, rfl⟩ := List.mem_map.mp hg
      obtain ⟨h1, h2, h3⟩ := (nw_mem k x).mp hx
      rw [List.mem_range'_1] at hp
      refine ⟨asc_snoc.mpr ⟨h1, hp.1⟩, fun q hq => ?_, by rw [List.length_append, h3]; rfl⟩
      rcases List.mem_append.mp hq with z | z
      · exact h2 q z
      · rw [List.mem_singleton.mp z]
        omega
    · rintro ⟨h1, h2, h3⟩
      rcases List.eq_nil_or_concat g with rfl | ⟨x, a, rfl⟩
      · simp at h3
      · rw [List.concat_eq_append] at h1 h2 h3 ⊢
        rw [List.length_append] at h3
        obtain ⟨c1, c2⟩ := asc_snoc.mp h1
        have ha := h2 a (List.mem_append_right _ List.mem_cons_self)
        exact ⟨_, List.mem_map.mpr ⟨x, (nw_mem k x).mpr ⟨c1, fun p hp => h2 p (List.mem_append_left _ hp), Nat.succ.inj h3⟩, rfl⟩, List.mem_map.mpr ⟨a, List.mem_range'_1.mpr ⟨c2, by omega⟩, rfl⟩⟩
theorem flat_nodup {α β : Type} {f : α → List β} : ∀ {l : List α}, l.Nodup → (∀ x ∈ l, (f x).Nodup) → (∀ x ∈ l, ∀ y ∈ l, x ≠ y → ∀ a ∈ f x, a ∉ f y) → ((l.map f).flatten).Nodup
  | [], _, _, _ => List.nodup_nil
  | x :: l, nd, h1, h2 => by
    have nd' := List.nodup_cons.mp nd
    rw [List.map_cons, List.flatten_cons]
    refine List.nodup_append.mpr ⟨h1 x List.mem_cons_self, flat_nodup nd'.2 (fun y hy => h1 y (List.mem_cons_of_mem _ hy)) (fun y hy z hz => h2 y (List.mem_cons_of_mem _ hy) z (List.mem_cons_of_mem _ hz)), fun a ha b hb e => ?_⟩
    subst e
    obtain ⟨m, hm, hb⟩ := List.mem_flatten.mp hb
    obtain ⟨y, hy, rfl⟩ := List.mem_map.mp hm
    exact h2 x List.mem_cons_self y (List.mem_cons_of_mem _ hy) (fun z => nd'.1 (z ▸ hy)) a ha hb
theorem nw_nodup {n : Nat} : ∀ k : Nat, (nwM n k).Nodup
  | 0 => List.nodup_cons.mpr ⟨List.not_mem_nil, List.nodup_nil⟩
  | k + 1 => by
    refine flat_nodup (nw_nodup k) (fun g _ => ?_) fun x _ y _ ne a ha hb => ?_
    · exact List.pairwise_map.mpr ((List.nodup_range' (s := loM g) (n := n - loM g)).imp fun {a b} h e => h (List.singleton_inj.mp (List.append_cancel_left e)))
    · obtain ⟨p, _, rfl⟩ := List.mem_map.mp ha
      obtain ⟨q, _, e⟩ := List.mem_map.mp hb
      exact ne (List.append_inj_left' e rfl).symm
theorem up_mem {n : Nat} {g : List Nat} : ∀ m : Nat, g ∈ upM n m ↔ GrOk 0 n m g
  | 0 => by
    show g ∈ nwM n 0 ↔ _
    rw [nw_mem]
    exact ⟨fun h => ⟨h.1, fun _ _ => Nat.zero_le _, h.2.1, Nat.le_of_eq h.2.2⟩, fun h => ⟨h.asc, h.hi, Nat.le_zero.mp h.len⟩⟩
  | m + 1 => by
    show g ∈ upM n m ++ nwM n (m + 1) ↔ _
    rw [List.mem_append, up_mem m, nw_mem]
    constructor
    · rintro (h | h)
      · exact ⟨h.asc, h.lo, h.hi, Nat.le_succ_of_le h.len⟩
      · exact ⟨h.1, fun _ _ => Nat.zero_le _, h.2.1, Nat.le_of_eq h.2.2⟩
    · intro h
      by_cases e : g.length = m + 1
      · exact .inr ⟨h.asc, h.hi, e⟩
      · exact .inl ⟨h.asc, h.lo, h.hi, by have := h.len; omega⟩
theorem up_nodup {n : Nat} : ∀ m : Nat, (upM n m).Nodup
  | 0 => nw_nodup 0
  | m + 1 => by
    refine List.nodup_append.mpr ⟨up_nodup m, nw_nodup (m + 1), fun a ha b hb e => ?_⟩
    subst e
    have h1 := ((up_mem m).mp ha).len
    have h2 := ((nw_mem (m + 1) a).mp hb).2.2
    omega
theorem up_perm {n m : Nat} : (upM n m).Perm (grpM m n) := (List.perm_ext_iff_of_nodup (up_nodup m) (grp_nodup n)).mpr fun g => by rw [up_mem, grp_ok]
/-- groups of more people than there are: none -/
theorem up_min {n m : Nat} : (upM n (min n m)).Perm (grpM m n) := (List.perm_ext_iff_of_nodup (up_nodup _) (grp_nodup n)).mpr fun g => by
  rw [up_mem, grp_ok]
  constructor
  · exact fun h => ⟨h.asc, h.lo, h.hi, Nat.le_trans h.len (Nat.min_le_right _ _)⟩
  · intro h
    have nd : g.Nodup := h.asc.imp fun h e => by omega
    have p := (rest_perm nd h.hi).length_eq
    rw [List.length_append, List.length_range] at p
    exact ⟨h.asc, h.lo, h.hi, by have := h.len; omega⟩
end Pu
namespace Pu
open PySem L2 Rb Gm
/-! ## count_good: who must ride are the last ones -/
theorem part_up {P : Nat → Bool} {n : Nat} (up : ∀ i j, i ≤ j → j < n → P i = true → P j = true) : ∀ {R : List Nat}, R.Pairwise (· < ·) → (∀ p ∈ R, p < n) → R = R.filter (fun i => !P i) ++ R.filter P
  | [], _, _ => rfl
  | x :: R, h, hn => by
    have h' := List.pairwise_cons.mp h
    have ih := part_up up h'.2 fun p hp => hn p (List.mem_cons_of_mem _ hp)
    cases hx : P x with
    | true =>
      have all : ∀ y ∈ R, P y = true := fun y hy => up x y (Nat.le_of_lt (h'.1 y hy)) (hn y (List.mem_cons_of_mem _ hy)) hx
      have e1 : R.filter (fun i => !P i) = [] := List.filter_eq_nil_iff.mpr fun y hy => by rw [all y hy]; simp
      have e2 : R.filter P = R := List.filter_eq_self.mpr all
      rw [List.filter_cons, List.filter_cons, hx, e1, e2]
      rfl
    | false =>
      rw [List.filter_cons, List.filter_cons, hx]
      show x :: R = x :: (R.filter (fun i => !P i) ++ R.filter P)
      rw [← ih]
/-- those who come too late on foot -/
def lateK (wk rd e : Int) (n l : Nat) (T : List Int) : List Nat := (List.range n).filter fun i => decide (e - wk - rd * (l : Int) < tickAt T i)
section
variable {wk rd e : Int} {n l : Nat} {T : List Int} {R : List Nat}
theorem must_iff : mustK wk rd e n l T R = true ↔ ∀ i ∈ lateK wk rd e n l T, i ∈ R := by
  unfold mustK lateK
  rw [List.all_eq_true]
  constructor
  · intro h i hi
    obtain ⟨h1, h2⟩ := List.mem_filter.mp hi
    have h2 := of_decide_eq_true h2
    have := h i h1
    rw [Bool.or_eq_true, decide_eq_true_eq, decide_eq_true_eq] at this
    rcases this with z | z
    · omega
    · exact z
  · intro h i hi
    rw [Bool.or_eq_true, decide_eq_true_eq, decide_eq_true_eq]
    by_cases c : tickAt T i ≤ e - wk - rd * (l : Int)
    · exact .inl c
    · exact .inr (h i (List.mem_filter.mpr ⟨hi, decide_eq_true (by omega)⟩))
theorem tick_mono (hT : T.Pairwise (· ≤ ·)) {i j : Nat} (h : i ≤ j) (hj : j < T.length) : tickAt T i ≤ tickAt T j := by
  unfold tickAt
  rw [List.getD_eq_getElem?_getD, List.getD_eq_getElem?_getD, List.getElem?_eq_getElem (by omega), List.getElem?_eq_getElem hj]
  rcases Nat.lt_or_eq_of_le h with z | rfl
  · exact List.pairwise_iff_getElem.mp hT i j _ hj z
  · exact Int.le_refl _
/-- the code's own test: the last riders are those who must ride -/
theorem must_code (hT : T.Pairwise (· ≤ ·)) (hn : T.length = n) (asc : R.Pairwise (· < ·)) (hi : ∀ p ∈ R, p < n) :
    mustK wk rd e n l T R = true ↔ (lateK wk rd e n l T).length ≤ R.length ∧ R.drop (R.length - (lateK wk rd e n l T).length) = lateK wk rd e n l T := by
  rw [must_iff]
  constructor
  · intro h
    have up : ∀ i j, i ≤ j → j < n → decide (e - wk - rd * (l : Int) < tickAt T i) = true → decide (e - wk - rd * (l : Int) < tickAt T j) = true := fun i j hij hj hd => by
      have := of_decide_eq_true hd
      have := tick_mono hT hij (by omega)
      exact decide_eq_true (by omega)
    have pt := part_up up asc hi
    have e2 : R.filter (fun i => decide (e - wk - rd * (l : Int) < tickAt T i)) = lateK wk rd e n l T := by
      refine asc_extN (asc.filter _) (List.pairwise_lt_range.filter _) fun i => ?_
      rw [List.mem_filter]
      constructor
      · exact fun hx => List.mem_filter.mpr ⟨List.mem_range.mpr (hi i hx.1), hx.2⟩
      · exact fun hx => ⟨h i hx, (List.mem_filter.mp hx).2⟩
    rw [e2] at pt
    generalize R.filter (fun i => !decide (e - wk - rd * (l : Int) < tickAt T i)) = A at pt
    rw [pt, List.length_append]
    refine ⟨Nat.le_add_left _ _, ?_⟩
    rw [Nat.add_sub_cancel]
    exact List.drop_left
  · rintro ⟨_, h⟩ i hm
    rw [← h] at hm
    exact List.mem_of_mem_drop hm
end
/-- the last tick of sorted ones is the greatest -/
theorem last_max {T : List Int} (hT : T.Pairwise (· ≤ ·)) (ne : T ≠ []) : T.getLast ne = maxL T := by
  refine maxL_uniq (List.getLast_mem ne) fun y hy => ?_
  obtain ⟨i, hi, rfl⟩ := List.getElem_of_mem hy
  rw [List.getLast_eq_getElem]
  rcases Nat.lt_or_eq_of_le (show i ≤ T.length - 1 by omega) with z | z
  · exact List.pairwise_iff_getElem.mp hT i _ hi _ z
  · subst z
    exact Int.le_refl _
/-- the keys stay distinct -/
theorem addK_keys {k : Ky} {v : Int} : ∀ {l : List (Ky × Int)}, (l.map (·.1)).Nodup → ((addK l k v).map (·.1)).Nodup ∧ ∀ x ∈ (addK l k v).map (·.1), x ∈ l.map (·.1) ∨ x = k
  | [], _ => ⟨List.nodup_cons.mpr ⟨List.not_mem_nil, List.nodup_nil⟩, fun x hx => .inr (List.mem_singleton.mp hx)⟩
  | (a, x) :: l, h => by
    have h' := List.nodup_cons.mp h
    unfold addK
    by_cases e : a = k
    · rw [if_pos e]
      exact ⟨h, fun y hy => .inl hy⟩
    · rw [if_neg e]
      obtain ⟨i1, i2⟩ := addK_keys (k := k) (v := v) h'.2
      refine ⟨List.nodup_cons.mpr ⟨fun z => ?_, i1⟩, fun y hy => ?_⟩
      · rcases i2 _ z with q | q
        · exact h'.1 q
        · exact e q
      · rcases List.mem_cons.mp hy with rfl | hy
        · exact .inl List.mem_cons_self
        · rcases i2 y hy with q | q
          · exact .inl (List.mem_cons_of_mem _ q)
          · exact .inr q
end Pu
namespace Pu
open PySem L2 Rb Gm
/-! ## count_good: the small defs -/
theorem max_at {T : List Int} (hT : T.Pairwise (· ≤ ·)) (ne : T ≠ []) : atI (T.map D.int) (-1) = some (.int (maxL T)) := by
  rw [← last_max hT ne]
  rcases List.eq_nil_or_concat T with rfl | ⟨A, x, rfl⟩
  · exact absurd rfl ne
  · have e : (A.concat x).getLast ne = x := by simp
    rw [e, List.concat_eq_append, List.map_append]
    exact atI_last _ _
theorem sure_ok {wk rd e : Int} {bs T : List Int} {i : Nat} {S : Sto} {Q : QD} {E : ED} (w1 : 0 ≤ wk) (w2 : wk ≤ 1000) (hT : T.Pairwise (· ≤ ·)) (ne : T ≠ []) (hi : i ≤ bs.length) (q : Q (.bl (sureK wk e (bs.length - i) T)) S) : F_is_surely_good [roadV wk rd bs, .int (i : Int), tkD T, .int e] S Q E := by
  unfold F_is_surely_good
  refine ⟨rfl, onS (max_at hT ne) ⟨.inl (.inl ⟨by omega, by omega⟩), ?_⟩⟩
  have e2 : (((bs.map D.int).length : Int) - (i : Int)) = ((bs.length - i : Nat) : Int) := by rw [List.length_map]; omega
  show Q (.bl (decide (maxL T + wk * (((bs.map D.int).length : Int) - (i : Int)) ≤ e))) S
  rw [e2]
  exact q
theorem maybe_ok {wk rd e : Int} {bs T : List Int} {i : Nat} {S : Sto} {Q : QD} {E : ED} (w1 : 0 ≤ rd) (w2 : rd ≤ 1000) (hT : T.Pairwise (· ≤ ·)) (ne : T ≠ []) (hi : i ≤ bs.length) (q : Q (.bl (maybeK rd e (bs.length - i) T)) S) : F_is_maybe_good [roadV wk rd bs, .int (i : Int), tkD T, .int e] S Q E := by
  unfold F_is_maybe_good
  refine ⟨rfl, onS (max_at hT ne) ⟨.inl (.inl ⟨by omega, by omega⟩), ?_⟩⟩
  have e2 : (((bs.map D.int).length : Int) - (i : Int)) = ((bs.length - i : Nat) : Int) := by rw [List.length_map]; omega
  show Q (.bl (decide (maxL T + rd * (((bs.map D.int).length : Int) - (i : Int)) ≤ e))) S
  rw [e2]
  exact q
/-! ### next_arrival -/
theorem zip_nats : ∀ {R : List Nat} {B : List Int}, zipD (natsV R) (B.map D.int) = (R.zip B).map fun z => D.tup [.int (z.1 : Int), .int z.2]
  | [], [] => rfl
  | [], _ :: _ => rfl
  | _ :: _, [] => rfl
  | r :: R, b :: B => by
    show D.tup [.int (r : Int), .int b] :: zipD (natsV R) (B.map D.int) = _
    rw [zip_nats]
    rfl
theorem enum_ticks {T : List Int} : enumD (T.map D.int) = (List.range T.length).map fun i : Nat => D.tup [.int (i : Int), .int (tickAt T i)] := by
  unfold enumD
  apply List.ext_getElem?
  intro i
  rw [List.getElem?_mapIdx, List.getElem?_map, List.getElem?_map]
  by_cases hi : i < T.length
  · rw [List.getElem?_range hi, List.getElem?_eq_getElem hi]
    show some (D.tup [.int (i : Int), .int T[i]]) = some (D.tup [.int (i : Int), .int (tickAt T i)])
    rw [tickAt_get (List.getElem?_eq_getElem hi)]
  · rw [List.getElem?_eq_none (l := T) (by omega), List.getElem?_eq_none (l := List.range T.length) (by rw [List.length_range]; omega)]
    rfl
theorem nat_in {i : Nat} {R : List Nat} : ((i : Int) ∈ nI R) ↔ i ∈ R := by
  unfold nI
  rw [List.mem_map]
  constructor
  · rintro ⟨p, hp, e⟩
    have : p = i := by omega
    exact this ▸ hp
  · exact fun h => ⟨i, h, rfl⟩
theorem next_arrival_ok {wk rd : Int} {bs T B : List Int} {s : Nat} {R : List Nat} {S : Sto} {Q : QD} {E : ED} (hl : T.length ≤ 10) (hs : s ≤ 12) (hb : B.length ≤ 10) (hR : ∀ p ∈ R, p < T.length) (rl : R.length ≤ 10)
    (q : Q (kD (nxT wk rd T.length s T B R, nxB rd s T B R)) S) : F_next_arrival [roadV wk rd bs, tkD T, tkD (List.replicate s 0 ++ B), ridersV R] S Q E := by
  unfold F_next_arrival
  refine ⟨rfl, ⟨rfl, ?_⟩⟩
  have zl : ((R.zip (List.replicate s 0 ++ B))).length ≤ 10 := by rw [List.length_zip]; omega
  refine ⟨szd (by rw [zip_nats, List.length_map]; omega), ?_⟩
  show dCompL _ _ _ _ (zipD (natsV R) ((List.replicate s 0 ++ B).map D.int)) _ _ _ _
  rw [zip_nats]
  refine comp_mapB (src := []) (fun z : Nat × Int => D.tup [.int (z.1 : Int), .int z.2]) (fun z => D.int (mx (tickAt T z.1) z.2 + rd)) (fun _ z => z) (R.zip (List.replicate s 0 ++ B)) [] (fun z hz => ⟨_, rfl, fun Q' q' => ?_⟩) ?_
  · have hp := hR z.1 (List.of_mem_zip (show (z.1, z.2) ∈ R.zip _ from hz)).1
    exact onS (atI_tk hp) q'
  rw [List.nil_append]
  have e1 : (R.zip (List.replicate s 0 ++ B)).map (fun z => D.int (mx (tickAt T z.1) z.2 + rd)) = (nxB rd s T B R).map D.int := by
    unfold nxB rideK
    rw [List.zip_map_left, List.map_map, List.map_map]
    rfl
  rw [e1]
  have nl : (nxB rd s T B R).length ≤ 10 := by unfold nxB rideK; rw [List.length_map, List.length_zip, List.length_map]; omega
  refine ⟨szd (by show (enumD (T.map D.int)).length ≤ 100000; rw [enum_ticks, List.length_map, List.length_range]; omega), ?_⟩
  show dCompL _ _ _ _ (enumD (T.map D.int)) _ _ _ _
  rw [enum_ticks]
  refine comp_fltA (src := []) (fun i : Nat => D.tup [.int (i : Int), .int (tickAt T i)]) (fun i => decide (i ∉ R)) (fun i => D.int (tickAt T i + wk)) (fun _ z => z) (List.range T.length) [] (fun i hi => ⟨_, rfl, fun Q' q' => ?_, fun _ Q' q' => ?_⟩) ?_
  rotate_left
  · exact q'
  rotate_right
  · refine onS (a := nI R) (by show intsOf (natsV R) = _; rw [natsV_eq]; exact intsOf_map _) ?_
    show Q' (nb true (decide ((i : Int) ∈ nI R))) S
    have e : nb true (decide ((i : Int) ∈ nI R)) = decide (i ∉ R) := by
      show (!decide ((i : Int) ∈ nI R)) = _
      by_cases h : i ∈ R
      · rw [decide_eq_true (nat_in.mpr h), decide_eq_false (fun z => z h)]; rfl
      · rw [decide_eq_false (fun z => h (nat_in.mp z)), decide_eq_true h]; rfl
    rw [e]
    exact q'
  rw [List.nil_append]
  have e2 : ((List.range T.length).filter fun i => decide (i ∉ R)).map (fun i => D.int (tickAt T i + wk)) = (((restM T.length R).map (tickAt T)).map (· + wk)).map D.int := by
    unfold restM
    rw [List.map_map, List.map_map]
    rfl
  rw [e2]
  have wl : (((restM T.length R).map (tickAt T)).map (· + wk)).length ≤ 10 := by
    rw [List.length_map, List.length_map]
    unfold restM
    exact Nat.le_trans (List.length_filter_le _ _) (by rw [List.length_range]; exact hl)
  have en : nxT wk rd T.length s T B R = srt (nxB rd s T B R ++ ((restM T.length R).map (tickAt T)).map (· + wk)) := rfl
  rw [en] at q
  generalize nxB rd s T B R = X at *
  generalize ((restM T.length R).map (tickAt T)).map (· + wk) = W at *
  refine ⟨szd (by rw [List.length_map, List.length_map]; omega), ?_⟩
  rw [← List.map_append]
  exact .inl ⟨X ++ W, rfl, szr rfl, q⟩
end Pu
namespace Pu
open PySem L2 Rb Gm
/-! ## count_good: the ways on, the groups by their size -/
theorem ways_all {wk rd : Int} {bs : List Int} {n : Nat} {Q : QD} {E : ED} (n2 : n ≤ 10) (l2 : bs.length ≤ 12) (hb : ∀ b ∈ bs, 0 ≤ b) (q : Q (.lst false ((List.range (bs.length + 1)).map fun i => wyV n ((bs.map Int.toNat).drop i))) []) : F_ways_on [roadV wk rd bs, .int (n : Int)] [] Q E := by
  unfold F_ways_on
  refine ⟨rfl, ⟨rfl, rfl⟩, subset_ok n2 ⟨rfl, szr rfl, ⟨by omega, by omega, ?_⟩, szr rfl, ?_⟩⟩
  · exact szd (by show 1 * ((n : Int) + 1).toNat ≤ 100000; omega)
  have e1 : (List.replicate ((n : Int) + 1).toNat [D.int 1]).flatten = rowF (n + 1) (wyM n []) := by rw [show ((n : Int) + 1).toNat = n + 1 by omega, one_row]
  rw [e1]
  have e2 : (bs.map D.int).reverse = bs.reverse.map D.int := by rw [List.map_reverse]
  show dLoop _ _ [] ((bs.map D.int).reverse) _ _ _ _
  rw [e2]
  have sn : ∀ j : Nat, (List.range (j + 1)).map (fun i => wyV n (sufM bs.reverse i)) = (List.range j).map (fun i => wyV n (sufM bs.reverse i)) ++ [wyV n (sufM bs.reverse j)] := fun j => by rw [List.range_succ, List.map_append]; rfl
  refine for_inv (src := []) (bs.reverse.map D.int) (fun j ρ S' => ∃ (y4 y5 y6 y7 : Option D), ρ = [some (roadV wk rd bs), some (.int (n : Int)), some (.lst false (rowF (n + 1) (binM n))), some (.cell 0), y4, y5, y6, y7] ∧ S' = [.lst ((List.range (j + 1)).map fun i => wyV n (sufM bs.reverse i))]) ⟨_, _, _, _, rfl, rfl⟩ ?_ ?_
  · rintro j x ρ S' K hx hK ⟨y4, y5, y6, y7, rfl, rfl⟩
    rw [List.getElem?_map] at hx
    obtain ⟨s, hs, rfl⟩ := Option.map_eq_some_iff.mp hx
    have s0 : 0 ≤ s := hb s (List.mem_reverse.mp (List.mem_of_getElem? hs))
    have hj : j < bs.length := by have := (List.getElem?_eq_some_iff.mp hs).1; rw [List.length_reverse] at this; exact this
    have es := suf_succ hs
    have hK2 : ∀ ρ', (∃ (y4 y5 y6 y7 : Option D), ρ' = [some (roadV wk rd bs), some (.int (n : Int)), some (.lst false (rowF (n + 1) (binM n))), some (.cell 0), y4, y5, y6, y7]) → K ρ' [.lst (((List.range j).map (fun i => wyV n (sufM bs.reverse i)) ++ [wyV n (sufM bs.reverse j)]) ++ [wyV n (s.toNat :: sufM bs.reverse j)])] := fun ρ' ⟨y4, y5, y6, y7, h⟩ => hK ρ' _ ⟨y4, y5, y6, y7, h, by
      rw [sn (j + 1), es, sn j]⟩
    rw [sn j]
    have rl : ((List.range j).map fun i => wyV n (sufM bs.reverse i)).length = j := by rw [List.length_map, List.length_range]
    clear hK sn hx
    generalize (List.range j).map (fun i => wyV n (sufM bs.reverse i)) = RR at *
    generalize sufM bs.reverse j = ss at *
    refine ⟨⟨by omega, by omega⟩, szd (by show (rangeD 0 ((n : Int) + 1).toNat).length ≤ 100000; rw [rangeD_len]; omega), ?_⟩
    show dCompL _ _ _ _ (rangeD 0 ((n : Int) + 1).toNat) _ _ _ _
    rw [range_int]
    refine comp_mapB (src := []) (fun k : Nat => D.int (0 + (k : Int))) (fun k => D.int (binM n k * wyM n ss k)) (fun _ z => z) (List.range (n + 1)) [] (fun k hk => ⟨_, rfl, fun Q' q' => ?_⟩) ?_
    · have hk := List.mem_range.mp hk
      have bf := bin_facts n (by omega) k (by omega)
      have a1 : atI (rowF (n + 1) (binM n)) (0 + (k : Int)) = some (.int (binM n k)) := by rw [Int.zero_add]; exact rowF_at hk
      have a2 : atI (RR ++ [wyV n ss]) (-1) = some (wyV n ss) := atI_last _ _
      have a3 : atI (rowF (n + 1) (wyM n ss)) (0 + (k : Int)) = some (.int (wyM n ss k)) := by rw [Int.zero_add]; exact rowF_at hk
      refine onS a1 (onS a2 ?_)
      show onSome (atI (rowF (n + 1) (wyM n ss)) (0 + (k : Int))) _
      exact onS a3 ⟨.inl (.inl ⟨by omega, by omega⟩), q'⟩
    rw [List.nil_append]
    refine ⟨⟨by omega, by omega⟩, szd (by show (rangeD 0 ((n : Int) + 1).toNat).length ≤ 100000; rw [rangeD_len]; omega), ?_⟩
    show dCompL _ _ _ _ (rangeD 0 ((n : Int) + 1).toNat) _ _ _ _
    rw [range_int]
    refine comp_mapB (src := []) (fun k : Nat => D.int (0 + (k : Int))) (fun k => D.int (wyM n (s.toNat :: ss) k)) (fun _ z => z) (List.range (n + 1)) [] (fun k hk => ⟨_, rfl, fun Q' q' => ?_⟩) ?_
    · have hk := List.mem_range.mp hk
      have ek : (0 + (k : Int) + s + 1) = ((k + s.toNat + 1 : Nat) : Int) := by omega
      have ec : cutD (rowF (n + 1) fun m => binM n m * wyM n ss m) none (some (0 + (k : Int) + s + 1)) = ((List.range (min (k + s.toNat + 1) (n + 1))).map fun m => binM n m * wyM n ss m).map D.int := by
        rw [ek, cut_to, rowF_take, rowF_ints]
      have ei : intsOf (cutD (rowF (n + 1) fun m => binM n m * wyM n ss m) none (some (0 + (k : Int) + s + 1))) = some ((List.range (min (k + s.toNat + 1) (n + 1))).map fun m => binM n m * wyM n ss m) := by rw [ec]; exact intsOf_map _
      refine onS ei ?_
      have ev : ((List.range (min (k + s.toNat + 1) (n + 1))).map fun m => binM n m * wyM n ss m).sum = wyM n (s.toNat :: ss) k := sm_cut
      rw [ev]
      exact q'
    rw [List.nil_append]
    exact ⟨szd (by show (RR ++ [wyV n ss]).length < 100000; rw [List.length_append]; show RR.length + 1 < 100000; omega), hK2 _ ⟨_, _, _, _, rfl⟩⟩
  · rintro ρ S' ⟨y4, y5, y6, y7, rfl, rfl⟩
    rw [List.length_map, List.length_reverse]
    have er : ((List.range (bs.length + 1)).map fun i => wyV n (sufM bs.reverse i)).reverse = (List.range (bs.length + 1)).map fun i => wyV n ((bs.map Int.toNat).drop i) := by
      rw [← List.map_reverse]
      apply List.ext_getElem?
      intro i
      rw [List.getElem?_map, List.getElem?_map]
      by_cases hi : i < bs.length + 1
      · rw [List.getElem?_reverse (by rw [List.length_range]; exact hi), List.length_range, List.getElem?_range (by omega), List.getElem?_range hi]
        show some (wyV n (sufM bs.reverse (bs.length + 1 - 1 - i))) = some (wyV n ((bs.map Int.toNat).drop i))
        congr 2
        unfold sufM
        rw [List.reverse_take, List.reverse_reverse, List.length_reverse, List.map_drop, show bs.length - (bs.length + 1 - 1 - i) = i by omega]
      · rw [List.getElem?_eq_none (by rw [List.length_reverse, List.length_range]; omega), List.getElem?_eq_none (by rw [List.length_range]; omega)]
        rfl
    refine ⟨⟨rfl, rfl⟩, onS (a := .lst false ((List.range (bs.length + 1)).map fun i => wyV n ((bs.map Int.toNat).drop i))) ?_ q⟩
    show (if belowAll 0 ((List.range (bs.length + 1)).map fun i => wyV n (sufM bs.reverse i)).reverse = true then some (D.lst false ((List.range (bs.length + 1)).map fun i => wyV n (sufM bs.reverse i)).reverse) else none) = _
    rw [er, if_pos]
    refine below_iff.mpr fun d hd => ?_
    obtain ⟨i, _, rfl⟩ := List.mem_map.mp hd
    exact below_wy
/-! ### comprehensions with two fors -/
theorem compI_ok {β : Type} {st1 : D → Rho → Option Rho} {fe : FE} {S : Sto} {ρ1 : Rho} {k : List D → Sto → Prop} (f1 g : β → D) : ∀ (ys : List β) (acc : List D), (∀ y ∈ ys, ∃ ρ2, st1 (f1 y) ρ1 = some ρ2 ∧ ∀ Q : QD, Q (g y) S → fe ρ2 S Q noE) →
    acc.length + ys.length ≤ 16777216 → k (acc ++ ys.map g) S → dCompI st1 fe [] (ys.map f1) acc ρ1 S k
  | [], acc, _, _, h => by rw [List.map_nil, List.append_nil] at h; exact h
  | y :: ys, acc, hy, hl, h => by
    obtain ⟨ρ2, e, hf⟩ := hy y List.mem_cons_self
    rw [List.length_cons] at hl
    refine onS e (hf _ ⟨by omega, ?_⟩)
    refine compI_ok f1 g ys _ (fun z hz => hy z (List.mem_cons_of_mem _ hz)) (by rw [List.length_append]; show acc.length + 1 + ys.length ≤ 16777216; omega) ?_
    rw [List.append_assoc]
    exact h
theorem comp2_ok {α : Type} {st st1 : D → Rho → Option Rho} {fi1 : FI} {fe : FE} {S : Sto} {ρ : Rho} {k : List D → Sto → Prop} (f : α → D) (h : α → List D) : ∀ (xs : List α) (acc : List D),
    (∀ x ∈ xs, ∃ ρ1, st (f x) ρ = some ρ1 ∧ ∀ (acc' : List D) (k' : List D → Sto → Prop), acc'.length + (h x).length ≤ 16777216 → k' (acc' ++ h x) S → fi1 ρ1 S (fun is S1 => dCompI st1 fe is.2 is.1 acc' ρ1 S1 k') noE) →
    acc.length + ((xs.map h).flatten).length ≤ 16777216 → k (acc ++ (xs.map h).flatten) S → dCompO st st1 fi1 fe [] (xs.map f) acc ρ S k
  | [], acc, _, _, q => by rw [List.map_nil, List.flatten_nil, List.append_nil] at q; exact q
  | x :: xs, acc, hx, hl, q => by
    obtain ⟨ρ1, e, hf⟩ := hx x List.mem_cons_self
    rw [List.map_cons, List.flatten_cons, List.length_append] at hl
    refine onS e (hf acc _ (by omega) ?_)
    refine comp2_ok f h xs _ (fun z hz => hx z (List.mem_cons_of_mem _ hz)) (by rw [List.length_append]; omega) ?_
    rw [List.map_cons, List.flatten_cons, ← List.append_assoc] at q
    exact q
theorem range_nat {lo cnt : Nat} : rangeD (lo : Int) cnt = (List.range' lo cnt).map fun p : Nat => D.int (p : Int) := by
  unfold rangeD
  rw [List.range'_eq_map_range, List.map_map]
  refine List.map_congr_left fun k _ => ?_
  show D.int ((lo : Int) + (k : Int)) = D.int (((lo + k : Nat)) : Int)
  rw [Int.natCast_add]
theorem up_len {n m : Nat} (h : n ≤ 10) : (upM n m).length ≤ 1024 := by
  rw [up_perm.length_eq]
  exact Nat.le_trans (grp_len n) (Nat.pow_le_pow_right (by omega) h)
theorem nw_len {n m : Nat} (h : n ≤ 10) : (nwM n m).length ≤ 1024 := by
  have := up_len (n := n) (m := m) h
  cases m with
  | zero => exact this
  | succ m =>
    unfold upM at this
    rw [List.length_append] at this
    omega
theorem lo_dif {g : List Nat} {ρ : Rho} {S : Sto} {Q : QD} {E : ED} (h5 : getV ρ 5 = some (ridersV g)) (q : Q (.int (loM g)) S) : dIf (dTestU (dVar 5)) (dBin gAdd (dBin gIx (dVar 5) (dUn gNeg (dC (.int 1)))) (dC (.int 1))) (dC (.int 0)) ρ S Q E := by
  rcases List.eq_nil_or_concat g with rfl | ⟨A, a, rfl⟩
  · refine onS h5 ?_
    exact q
  · rw [List.concat_eq_append] at h5 q
    have e : natsV (A ++ [a]) = natsV A ++ [D.int (a : Int)] := by unfold natsV; rw [List.map_append]; rfl
    have hb : onTr (ridersV (A ++ [a])) (fun b => b = true) := by
      unfold ridersV
      rw [e]
      cases hA : natsV A with
      | nil => rfl
      | cons _ _ => rfl
    refine onS h5 ?_
    unfold ridersV at hb ⊢
    rw [e] at hb ⊢
    rw [lo_snoc] at q
    have go : (dBin gAdd (dBin gIx (dVar 5) (dUn gNeg (dC (.int 1)))) (dC (.int 1))) ρ S Q E := by
      refine onS h5 ?_
      unfold ridersV
      rw [e]
      refine onS (atI_last _ _) ?_
      show Q (.int ((a : Int) + 1)) S
      exact q
    cases hA : natsV A with
    | nil => exact go
    | cons _ _ => exact go
theorem groups_up_ok {n m : Nat} {Q : QD} {E : ED} (n2 : n ≤ 10) (m2 : m ≤ 10) (q : ∀ RR : List D, (∀ j, j ≤ m → ∃ b, RR[j]? = some (.lst b ((upM n j).map ridersV))) → Q (.lst false RR) []) : F_groups_up_to [.int (n : Int), .int (m : Int)] [] Q E := by
  unfold F_groups_up_to
  refine ⟨rfl, szr rfl, szr rfl, szr rfl, ⟨by omega, by omega⟩, ?_⟩
  show dLoop _ _ [] (rangeD 0 ((m : Int)).toNat) _ _ _ _
  rw [Int.toNat_natCast]
  refine for_rng 0 m (fun i ρ S' => ∃ (b : Bool) (RR : List D) (y4 : Option D), ρ = [some (.int (n : Int)), some (.int (m : Int)), some (.lst b ((nwM n i).map ridersV)), some (.cell 0), y4, none, none] ∧ S' = [.lst RR] ∧ RR.length = i + 1 ∧ (∀ d ∈ RR, below 0 d = true) ∧ ∀ j, j ≤ i → ∃ b, RR[j]? = some (.lst b ((upM n j).map ridersV))) ⟨true, [.lst true [.tup []]], _, rfl, rfl, rfl, ?_, ?_⟩ ?_ ?_
  · intro d hd
    rw [List.mem_singleton.mp hd]
    rfl
  · intro j hj
    have : j = 0 := by omega
    subst this
    exact ⟨true, rfl⟩
  · rintro i ρ S' K hi hK ⟨b, RR, y4, rfl, rfl, rl, rb, ra⟩
    have el : ((nwM n i).map fun g => (List.range' (loM g) (n - loM g)).map fun p => ridersV (g ++ [p])).flatten = (nwM n (i + 1)).map ridersV := by
      show _ = (((nwM n i).map fun g => (List.range' (loM g) (n - loM g)).map fun p => g ++ [p]).flatten).map ridersV
      rw [List.map_flatten, List.map_map]
      congr 1
      refine List.map_congr_left fun g _ => ?_
      show _ = ((List.range' (loM g) (n - loM g)).map fun p => g ++ [p]).map ridersV
      rw [List.map_map]
      rfl
    have ln := nw_len (n := n) (m := i + 1) n2
    show dCompO _ _ _ _ [] ((nwM n i).map ridersV) _ _ _ _
    refine comp2_ok (α := List Nat) ridersV (fun g => (List.range' (loM g) (n - loM g)).map fun p => ridersV (g ++ [p])) (nwM n i) [] (fun g hg => ⟨_, rfl, fun acc' k' hl hk => ?_⟩) ?_ ?_
    · rw [List.length_map] at hl
      refine lo_dif (g := g) (ρ := [some (.int (n : Int)), some (.int (m : Int)), some (.lst b ((nwM n i).map ridersV)), some (.cell 0), some (.int (0 + (i : Int))), some (ridersV g), none]) rfl ?_
      have gl : loM g ≤ n := by
        rcases List.eq_nil_or_concat g with rfl | ⟨A, a, rfl⟩
        · exact Nat.zero_le _
        · rw [List.concat_eq_append] at hg ⊢
          rw [lo_snoc]
          exact ((nw_mem i _).mp hg).2.1 a (List.mem_append_right _ List.mem_cons_self)
      have gl2 : g.length ≤ 10 := by
        obtain ⟨h1, h2, _⟩ := (nw_mem i g).mp hg
        exact Nat.le_trans (nodup_le (h1.imp fun h => Nat.ne_of_lt h) h2) n2
      refine ⟨⟨by omega, by omega, by omega, by omega⟩, ?_⟩
      show dCompI _ _ [] (rangeD (loM g : Int) ((n : Int) - (loM g : Int)).toNat) _ _ _ _
      rw [show ((n : Int) - (loM g : Int)).toNat = n - loM g by omega, range_nat]
      refine compI_ok (fun p : Nat => D.int (p : Int)) (fun p => ridersV (g ++ [p])) _ _ (fun p hp => ⟨_, rfl, fun Q' q' => ?_⟩) hl hk
      refine ⟨szr rfl, szd (by show (natsV g).length + 1 ≤ 100000; rw [natsV_len]; omega), ?_⟩
      have e : ridersV (g ++ [p]) = .tup (natsV g ++ [.int (p : Int)]) := by unfold ridersV natsV; rw [List.map_append]; rfl
      rw [e] at q'
      exact q'
    · rw [el, List.length_map]
      show 0 + _ ≤ _
      omega
    · rw [List.nil_append, el]
      obtain ⟨b2, hb2⟩ := ra i (Nat.le_refl _)
      have last : atI RR (-1) = some (.lst b2 ((upM n i).map ridersV)) := by
        rcases List.eq_nil_or_concat RR with rfl | ⟨A, a, rfl⟩
        · cases hb2
        · rw [List.concat_eq_append] at hb2 rl ⊢
          rw [List.length_append] at rl
          have rl : A.length + 1 = i + 1 := rl
          rw [List.getElem?_append_right (by omega), show i - A.length = 0 by omega] at hb2
          cases hb2
          exact atI_last _ _
      have lu := up_len (n := n) (m := i) n2
      refine onS last ⟨szd (by rw [List.length_map, List.length_map]; omega), szd (by show RR.length < 100000; omega), hK _ _ ⟨_, RR ++ [.lst false ((upM n i).map ridersV ++ (nwM n (i + 1)).map ridersV)], _, rfl, rfl, by rw [List.length_append, rl]; rfl, fun d hd => ?_, fun j hj => ?_⟩⟩
      · rcases List.mem_append.mp hd with h | h
        · exact rb d h
        · rw [List.mem_singleton.mp h]
          refine below_iff.mpr fun d hd => ?_
          rcases List.mem_append.mp hd with h | h
          · obtain ⟨g, _, rfl⟩ := List.mem_map.mp h
            exact below_riders g
          · obtain ⟨g, _, rfl⟩ := List.mem_map.mp h
            exact below_riders g
      · by_cases hji : j ≤ i
        · rw [List.getElem?_append_left (by omega)]
          exact ra j hji
        · have : j = i + 1 := by omega
          subst this
          refine ⟨false, ?_⟩
          rw [List.getElem?_append_right (by omega), rl, Nat.sub_self]
          show some (D.lst false _) = some (D.lst false ((upM n i ++ nwM n (i + 1)).map ridersV))
          rw [List.map_append]
  · rintro ρ S' ⟨b, RR, y4, rfl, rfl, rl, rb, ra⟩
    refine ⟨⟨rfl, rfl⟩, onS (a := .lst false RR) ?_ (q RR ra)⟩
    show (if belowAll 0 RR = true then some (D.lst false RR) else none) = _
    rw [if_pos (below_iff.mpr rb)]
end Pu
namespace Pu
open PySem L2 Rb Gm
/-! ## count_good: next_arrivals -/
theorem put_add {k : Ky} {v : Int} : ∀ ps : List (Ky × Int), putN ps k ((valN ps k).getD 0 + v) = addK ps k v
  | [] => by
    show [(k, (0 : Int) + v)] = [(k, v)]
    rw [Int.zero_add]
  | (a, x) :: l => by
    unfold putN valN addK
    by_cases h : a = k
    · rw [if_pos h, if_pos h, if_pos h]
      rfl
    · rw [if_neg h, if_neg h, if_neg h, put_add l]
theorem add_len {k : Ky} {v : Int} : ∀ l : List (Ky × Int), (addK l k v).length ≤ l.length + 1
  | [] => Nat.le_refl _
  | (a, x) :: l => by
    unfold addK
    split
    · rw [List.length_cons, List.length_cons]; omega
    · have := add_len (k := k) (v := v) l
      rw [List.length_cons, List.length_cons]; omega
/-- a loop over such a dict -/
theorem loopN {g : FG} {fb : FS} {m ep : Nat} {ps0 : List (NK × Int)} {De : DEnds} {Ed : ED} {ρ : Rho} {S : Sto} (I : Nat → Rho → Sto → Prop) (h0 : I 0 ρ S)
    (hs : ∀ (i : Nat) (k : NK) (n : Int) (ρ : Rho) (S : Sto) (K : Rho → Sto → Prop), ps0[i]? = some (k, n) → (∀ ρ' S', I (i + 1) ρ' S' → K ρ' S') → I i ρ S → g (.tup [kD k, .int n]) ρ S (fun ρ1 S1 => fb ρ1 S1 ⟨K, De.rt, De.nx, K⟩ Ed) Ed)
    (hd : ∀ ρ S, I ps0.length ρ S → De.nx ρ S) (src : ∀ i ρ S, I i ρ S → S[m]? = some (.dct ep ps0)) : dLoopN g fb m ep ps0 ps0 ρ S De Ed := by
  have go : ∀ (r n : Nat) (ρ : Rho) (S : Sto), n + r = ps0.length → I n ρ S → dLoopN g fb m ep ps0 (ps0.drop n) ρ S De Ed := by
    intro r
    induction r with
    | zero =>
      intro n ρ S e h
      have e : n = ps0.length := e
      subst e
      rw [List.drop_length]
      exact hd ρ S h
    | succ r ih =>
      intro n ρ S e h
      have hn : n < ps0.length := by omega
      have hx := List.getElem?_eq_getElem hn
      rw [drop_cons hx]
      exact hs n ps0[n].1 ps0[n].2 ρ S _ hx (fun ρ' S' h' => ⟨src _ _ _ h', ih (n + 1) ρ' S' (by omega) h'⟩) h
  exact go ps0.length 0 ρ S (by omega) h0
theorem eqT_ints {neg : Bool} {a b : List Int} {S : Sto} {Q : QD} (q : Q (.bl (nb neg (decide (a = b)))) S) : iEqB neg (.tup (a.map D.int)) (.tup (b.map D.int)) S Q := by
  have h : ∀ {a : List Int}, toPy (.tup (a.map D.int)) = some (.tuple (a.map .int)) := fun {a} => by
    show (toPyAll (a.map D.int)).map PyData.tuple = _
    rw [py_ints]
    rfl
  have sh : ∀ a : List Int, SeqAt.shaped (.tuple (a.map .int)) = true := fun a => by
    obtain ⟨p, ep, sp, _⟩ := (shp_intsT (l := a)).sh (by decide)
    rw [h] at ep
    cases ep
    exact sp
  refine eqB_ok (pyC_of h) (pyC_of h) (sh _) (sh _) ?_
  have e : PyData.eqv (.tuple (a.map .int)) (.tuple (b.map .int)) = decide (a = b) := by
    simp only [PyData.eqv, eqv_ints]
  rw [e]
  exact q
theorem nI_inj2 {a b : List Nat} (h : nI a = nI b) : a = b := by
  have := congrArg (List.map Int.toNat) h
  rw [nI_toNat, nI_toNat] at this
  exact this
theorem eqT_nats {neg : Bool} {a b : List Nat} {S : Sto} {Q : QD} (q : Q (.bl (nb neg (decide (a = b)))) S) : iEqB neg (.tup (natsV a)) (.tup (natsV b)) S Q := by
  rw [natsV_eq, natsV_eq]
  refine eqT_ints ?_
  rw [show decide (nI a = nI b) = decide (a = b) from decide_eq_decide.mpr ⟨nI_inj2, fun h => by rw [h]⟩]
  exact q
section
variable {wk rd e : Int} {n l s : Nat} {T B : List Int} {R : List Nat} {S : Sto} {Q : QD}
/-- the last riders are those who must ride -/
theorem must_ok (hT : T.Pairwise (· ≤ ·)) (hn : T.length = n) (asc : R.Pairwise (· < ·)) (hi : ∀ p ∈ R, p < n) (q : Q (.bl (mustK wk rd e n l T R)) S) :
    iEqB false (.tup (cutD (natsV R) (some ((R.length : Int) - ((lateK wk rd e n l T).length : Int))) none)) (ridersV (lateK wk rd e n l T)) S Q := by
  have mc := must_code (wk := wk) (rd := rd) (e := e) (l := l) hT hn asc hi
  generalize lateK wk rd e n l T = L at mc
  generalize mustK wk rd e n l T R = b at mc q
  by_cases h : L.length ≤ R.length
  · rw [show ((R.length : Int) - (L.length : Int)) = ((R.length - L.length : Nat) : Int) by omega, cut_from]
    have en : (natsV R).drop (R.length - L.length) = natsV (R.drop (R.length - L.length)) := by unfold natsV; rw [List.map_drop]
    rw [en]
    refine eqT_nats ?_
    have eb : nb false (decide (R.drop (R.length - L.length) = L)) = b := by
      show decide _ = b
      cases b with
      | true => exact decide_eq_true (mc.mp rfl).2
      | false => exact decide_eq_false fun z => by have := mc.mpr ⟨h, z⟩; cases this
    rw [eb]
    exact q
  · have ec : ∃ M : List Nat, cutD (natsV R) (some ((R.length : Int) - (L.length : Int))) none = natsV M ∧ M.length ≤ R.length := by
      unfold cutD
      refine ⟨(R.drop (HT.sIx (natsV R).length 0 (some ((R.length : Int) - (L.length : Int))))).take (HT.sIx (natsV R).length (natsV R).length none - HT.sIx (natsV R).length 0 (some ((R.length : Int) - (L.length : Int)))), ?_, ?_⟩
      · generalize HT.sIx (natsV R).length 0 (some ((R.length : Int) - (L.length : Int))) = x
        generalize HT.sIx (natsV R).length (natsV R).length none - x = y
        unfold natsV
        rw [List.map_take, List.map_drop]
      · rw [List.length_take, List.length_drop]
        omega
    obtain ⟨M, em, hm⟩ := ec
    rw [em]
    refine eqT_nats ?_
    have eb : nb false (decide (M = L)) = b := by
      show decide _ = b
      rw [decide_eq_false fun z => by rw [z] at hm; exact h hm]
      cases b with
      | true => exact absurd (mc.mp rfl).1 h
      | false => rfl
    rw [eb]
    exact q
end
/-- the key behind a stage -/
abbrev keyN (wk rd : Int) (n s : Nat) (T B : List Int) (R : List Nat) : Ky := (nxT wk rd n s T B R, nxB rd s T B R)
/-- one group's turn -/
def stepN (wk rd e : Int) (n s l : Nat) (k : Ky) (many : Int) (acc : List (Ky × Int)) (R : List Nat) : List (Ky × Int) := if mustK wk rd e n l k.1 R = true then addK acc (keyN wk rd n s k.1 k.2 R) many else acc
theorem step_all {wk rd e : Int} {n s l : Nat} {k : Ky} {many : Int} : ∀ (Rs : List (List Nat)) (acc : List (Ky × Int)), Rs.foldl (stepN wk rd e n s l k many) acc = addAll (keyN wk rd n s k.1 k.2) many acc (Rs.filter (mustK wk rd e n l k.1))
  | [], acc => rfl
  | R :: Rs, acc => by
    show Rs.foldl _ (stepN wk rd e n s l k many acc R) = _
    rw [step_all Rs, List.filter_cons]
    unfold stepN
    cases mustK wk rd e n l k.1 R with
    | true => rfl
    | false => rfl
theorem step_len {wk rd e : Int} {n s l : Nat} {k : Ky} {many : Int} {acc : List (Ky × Int)} {R : List Nat} : (stepN wk rd e n s l k many acc R).length ≤ acc.length + 1 := by
  unfold stepN
  split
  · exact add_len acc
  · omega
def arrTurn : FS := (dIfS (dTest (dBin iEq (dSl (dVar 15) (dPart (dBin gSub (dB gLen (dCons (dVar 15) dNil)) (dB gLen (dCons (dVar 14) dNil)))) dNoP) (dVar 14)))
 (dSeq (dAsg (dCallW F_next_arrival (dCons (dVar 0) (dCons (dVar 10) (dCons (dVar 13) (dCons (dVar 15) dNil))))) (gN 16))
 (dAsg (dBin gAdd (dGetN (dVar 9) (dVar 16) (dC (.int 0))) (dVar 12)) (gSetN (dVar 9) (dVar 16))))
 dSkip)
theorem arr_turn {wk rd e : Int} {bs T B : List Int} {n s l i : Nat} {R : List Nat} {A : Sto} {acc : List (Ky × Int)} {many : Int} {ep : Nat} {y2 y3 y4 y5 y6 y7 y8 y16 : Option D} {De : DEnds} {Ed : ED}
    (hT : T.Pairwise (· ≤ ·)) (hn : T.length = n) (n2 : n ≤ 10) (hs : s ≤ 12) (hb : B.length ≤ 10) (asc : R.Pairwise (· < ·)) (hi : ∀ p ∈ R, p < n) (hl : acc.length < 16777216)
    (q : ∀ y16 ep', De.nx [some (roadV wk rd bs), some (.int (i : Int)), y2, y3, y4, y5, y6, y7, y8, some (.cell A.length), some (tkD T), some (tkD B), some (.int many), some (tkD (List.replicate s 0 ++ B)), some (ridersV (lateK wk rd e n l T)), some (ridersV R), y16, none, none] (A ++ [.dct ep' (stepN wk rd e n s l (T, B) many acc R)])) :
    arrTurn [some (roadV wk rd bs), some (.int (i : Int)), y2, y3, y4, y5, y6, y7, y8, some (.cell A.length), some (tkD T), some (tkD B), some (.int many), some (tkD (List.replicate s 0 ++ B)), some (ridersV (lateK wk rd e n l T)), some (ridersV R), y16, none, none] (A ++ [.dct ep acc]) De Ed := by
  subst hn
  have rl : R.length ≤ 10 := Nat.le_trans (nodup_le (asc.imp fun h => Nat.ne_of_lt h) hi) n2
  show iEqB false (.tup (cutD (natsV R) (some (((natsV R).length : Int) - ((natsV (lateK wk rd e T.length l T)).length : Int))) none)) (ridersV (lateK wk rd e T.length l T)) _ _
  rw [natsV_len, natsV_len]
  refine must_ok hT rfl asc hi ?_
  have hS : (A ++ [Cl.dct ep acc])[A.length]? = some (.dct ep acc) := List.getElem?_concat_length ..
  refine ifB (fun hm => ?_) fun hm => ?_
  · refine next_arrival_ok n2 hs hb hi rl ?_
    refine ⟨A.length, rfl, ⟨ep, acc, hS⟩, ep, acc, _, 0, hS, rfl, rfl, ?_⟩
    refine ⟨A.length, ep, acc, _, (valN acc (keyN wk rd T.length s T B R)).getD 0 + many, rfl, hS, rfl, rfl, hl, fun ep' => ?_⟩
    have q2 := q (some (kD (nxT wk rd T.length s T B R, nxB rd s T B R))) ep'
    unfold stepN at q2
    rw [if_pos hm] at q2
    rw [set_last, put_add]
    exact q2
  · have q2 := q y16 ep
    unfold stepN at q2
    rw [if_neg (by rw [hm]; exact Bool.false_ne_true)] at q2
    exact q2
end Pu
namespace Pu
open PySem L2 Rb Gm
/-! ## count_good: next_arrivals, the loop -/
/-- the groups that so many bicycles allow, as the program has them -/
abbrev grpU (n : Nat) (m : Nat) : List (List Nat) := upM n (min n m)
/-- one arrival's turn -/
def arrN (wk rd e : Int) (n s l : Nat) (acc : List (Ky × Int)) (p : Ky × Int) : List (Ky × Int) := (grpU n (s + p.1.2.length)).foldl (stepN wk rd e n s l p.1 p.2) acc
theorem arr_next {wk rd e : Int} {n s l : Nat} {ps : List (Ky × Int)} : ps.foldl (arrN wk rd e n s l) [] = nextA wk rd e n s l (grpU n) ps := by
  unfold nextA
  congr 1
  funext acc p
  exact step_all _ _
theorem arr_len {wk rd e : Int} {n s l : Nat} {k : Ky} {many : Int} : ∀ (Rs : List (List Nat)) (acc : List (Ky × Int)), (Rs.foldl (stepN wk rd e n s l k many) acc).length ≤ acc.length + Rs.length
  | [], acc => Nat.le_refl _
  | R :: Rs, acc => by
    have h1 := arr_len (wk := wk) (rd := rd) (e := e) (n := n) (s := s) (l := l) (k := k) (many := many) Rs (stepN wk rd e n s l k many acc R)
    have h2 := step_len (wk := wk) (rd := rd) (e := e) (n := n) (s := s) (l := l) (k := k) (many := many) (acc := acc) (R := R)
    show (Rs.foldl _ (stepN wk rd e n s l k many acc R)).length ≤ _
    rw [List.length_cons]
    omega
theorem take_foldl {α β : Type} {f : β → α → β} {b : β} {l : List α} {i : Nat} {x : α} (h : l[i]? = some x) : (l.take (i + 1)).foldl f b = f ((l.take i).foldl f b) x := by
  rw [List.take_add_one, h, List.foldl_append]
  rfl
def arrBody : FS := (dSeq (dAsg (dBin gAdd (dBin gMul0 (dTup (dCons (dC (.int 0)) dNil)) (dBin gIx (dVar 7) (dVar 1))) (dVar 11)) (gN 13))
 (dSeq (dAsg (dB gTuple (dCons (dLc (st2 17 18) (dTest (dBin gGt (dVar 18) (dVar 8))) (dVar 17) (dEnT (dCons (dVar 10) dNil))) dNil)) (gN 14))
 (dFor (dItS (dBin gIx (dVar 3) (dB gMinL (dCons (dB gLen (dCons (dVar 10) dNil)) (dCons (dB gLen (dCons (dVar 13) dNil)) dNil))))) (gN 15) arrTurn)))
theorem rep_flat (s : Nat) : (List.replicate s [D.int 0]).flatten = (List.replicate s (0 : Int)).map D.int := by
  induction s with
  | zero => rfl
  | succ n ih => rw [List.replicate_succ, List.replicate_succ, List.flatten_cons, ih]; rfl
theorem arr_body {wk rd e : Int} {bs : List Int} {n l i mm : Nat} {k : Ky} {A : Sto} {acc : List (Ky × Int)} {many : Int} {ep : Nat} {RR : List D} {y2 y4 y5 y6 y13 y14 y15 y16 : Option D} {De : DEnds} {Ed : ED}
    (hk : KyOk n k) (n2 : n ≤ 10) (hb : ∀ b ∈ bs, 0 ≤ b ∧ b ≤ 12) (ib : i < bs.length) (hl : acc.length + 1024 < 16777216) (hR : ∀ j, j ≤ mm → ∃ b, RR[j]? = some (.lst b ((upM n j).map ridersV))) (hm : min n ((bs[i]).toNat + k.2.length) ≤ mm)
    (q : ∀ y13 y14 y15 y16 ep', De.nx [some (roadV wk rd bs), some (.int (i : Int)), y2, some (.lst false RR), y4, y5, y6, some (.tup (bs.map D.int)), some (.int (e - wk - rd * (l : Int))), some (.cell A.length), some (tkD k.1), some (tkD k.2), some (.int many), y13, y14, y15, y16, none, none] (A ++ [.dct ep' (arrN wk rd e n (bs[i]).toNat l acc (k, many))])) :
    arrBody [some (roadV wk rd bs), some (.int (i : Int)), y2, some (.lst false RR), y4, y5, y6, some (.tup (bs.map D.int)), some (.int (e - wk - rd * (l : Int))), some (.cell A.length), some (tkD k.1), some (tkD k.2), some (.int many), y13, y14, y15, y16, none, none] (A ++ [.dct ep acc]) De Ed := by
  obtain ⟨T, B⟩ := k
  have hn : T.length = n := hk.len
  have hT : T.Pairwise (· ≤ ·) := hk.asc
  have hB : B.length ≤ n := hk.few
  have hB2 : (T, B).2.length ≤ n := hk.few
  have hbi := hb _ (List.getElem_mem ib)
  have hbx : atI (bs.map D.int) (i : Int) = some (.int bs[i]) := atI_nat (j := i) (by rw [List.getElem?_map, List.getElem?_eq_getElem ib]; rfl)
  obtain ⟨s, es⟩ : ∃ s : Nat, bs[i] = (s : Int) := ⟨bs[i].toNat, (Int.toNat_of_nonneg hbi.1).symm⟩
  rw [es] at hbx hbi
  have et : (bs[i]).toNat = s := by rw [es]; exact Int.toNat_natCast s
  rw [et] at hm q
  clear et es hb ib
  refine ⟨szr rfl, onS hbx ⟨⟨(fun z => nomatch z), hbi.1, by omega, by decide⟩, ?_⟩⟩
  rw [Int.toNat_natCast, rep_flat]
  refine ⟨szd (by rw [List.length_map, List.length_map, List.length_replicate]; omega), ?_⟩
  rw [← List.map_append]
  refine ⟨szd (by show (enumD (T.map D.int)).length ≤ 100000; rw [enum_ticks, List.length_map, List.length_range]; omega), ?_⟩
  show dCompL _ _ _ _ (enumD (T.map D.int)) _ _ _ _
  rw [enum_ticks]
  refine comp_fltA (src := []) (fun i : Nat => D.tup [.int (i : Int), .int (tickAt T i)]) (fun i => decide (e - wk - rd * (l : Int) < tickAt T i)) (fun i => D.int (i : Int)) (fun _ z => z) (List.range T.length) [] (fun i hi => ⟨_, rfl, fun Q' q' => q', fun _ Q' q' => ?_⟩) ?_
  · exact q'
  rw [List.nil_append]
  have el : ((List.range T.length).filter fun i => decide (e - wk - rd * (l : Int) < tickAt T i)).map (fun i : Nat => D.int (i : Int)) = natsV (lateK wk rd e n l T) := by
    unfold lateK natsV
    rw [hn]
  rw [el]
  obtain ⟨b, hg⟩ := hR _ hm
  have hgx : atI RR (if ((((List.replicate s (0 : Int) ++ B).map D.int).length : Nat) : Int) < (((T.map D.int).length : Nat) : Int) then ((((List.replicate s (0 : Int) ++ B).map D.int).length : Nat) : Int) else (((T.map D.int).length : Nat) : Int)) = some (.lst b ((grpU n (s + B.length)).map ridersV)) := by
    have e1 : (if ((((List.replicate s (0 : Int) ++ B).map D.int).length : Nat) : Int) < (((T.map D.int).length : Nat) : Int) then ((((List.replicate s (0 : Int) ++ B).map D.int).length : Nat) : Int) else (((T.map D.int).length : Nat) : Int)) = ((min n (s + B.length) : Nat) : Int) := by
      rw [List.length_map, List.length_map, List.length_append, List.length_replicate, hn]
      split <;> omega
    rw [e1]
    exact atI_nat hg
  refine onS hgx ?_
  show dLoop _ _ [] ((grpU n (s + B.length)).map ridersV) _ _ _ _
  have gr : ∀ R ∈ grpU n (s + B.length), R.Pairwise (· < ·) ∧ (∀ p ∈ R, p < n) := fun R hR => by
    have g := (up_mem (min n (s + B.length))).mp hR
    exact ⟨g.asc, g.hi⟩
  have gl : (grpU n (s + B.length)).length ≤ 1024 := up_len n2
  have q2 : ∀ y15 y16 ep', De.nx [some (roadV wk rd bs), some (.int (i : Int)), y2, some (.lst false RR), y4, y5, y6, some (.tup (bs.map D.int)), some (.int (e - wk - rd * (l : Int))), some (.cell A.length), some (tkD T), some (tkD B), some (.int many), some (tkD (List.replicate s 0 ++ B)), some (ridersV (lateK wk rd e n l T)), y15, y16, none, none] (A ++ [.dct ep' ((grpU n (s + B.length)).foldl (stepN wk rd e n s l (T, B) many) acc)]) := fun y15 y16 ep' => q _ _ y15 y16 ep'
  clear q hgx hg el hR hm
  generalize grpU n (s + B.length) = Rs at *
  refine for_inv (src := []) (Rs.map ridersV) (fun j ρ S' => (∃ y15 y16, ρ = [some (roadV wk rd bs), some (.int (i : Int)), y2, some (.lst false RR), y4, y5, y6, some (.tup (bs.map D.int)), some (.int (e - wk - rd * (l : Int))), some (.cell A.length), some (tkD T), some (tkD B), some (.int many), some (tkD (List.replicate s 0 ++ B)), some (ridersV (lateK wk rd e n l T)), y15, y16, none, none]) ∧ ∃ ep', S' = A ++ [.dct ep' ((Rs.take j).foldl (stepN wk rd e n s l (T, B) many) acc)]) ⟨⟨_, _, rfl⟩, _, rfl⟩ ?_ ?_
  · rintro j x ρ S' K hx hK ⟨⟨y15, y16, rfl⟩, ep', rfl⟩
    rw [List.getElem?_map] at hx
    obtain ⟨R, hr, rfl⟩ := Option.map_eq_some_iff.mp hx
    obtain ⟨asc, hi⟩ := gr R (List.mem_of_getElem? hr)
    have hl2 : ((Rs.take j).foldl (stepN wk rd e n s l (T, B) many) acc).length < 16777216 := by
      have := arr_len (wk := wk) (rd := rd) (e := e) (n := n) (s := s) (l := l) (k := (T, B)) (many := many) (Rs.take j) acc
      rw [List.length_take] at this
      omega
    refine arr_turn (i := i) (wk := wk) (rd := rd) (e := e) (l := l) hT hn n2 (by omega) (by omega) asc hi hl2 fun y16 ep2 => hK _ _ ⟨⟨_, _, rfl⟩, ep2, ?_⟩
    rw [take_foldl hr]
  · rintro ρ S' ⟨⟨y15, y16, rfl⟩, ep', rfl⟩
    have h := q2 y15 y16 ep'
    rw [List.length_map, List.take_length]
    exact h
def arrRest : FS := dSeq (dAsg dNewN (gN 9)) (dSeq (dForN (dVar 2) (gTp 2 (gsCons (gTp 2 (gsCons (gN 10) (gsCons (gN 11) gsNil))) (gsCons (gN 12) gsNil))) arrBody) (dRet (dVar 9)))
theorem next_arrivals_ok {wk rd e : Int} {bs : List Int} {n i m mm ep : Nat} {ps : List (Ky × Int)} {RR : List D} {S : Sto} {Q : QD} {E : ED}
    (r0 : 0 ≤ rd) (r1 : rd ≤ 1000) (n2 : n ≤ 10) (hb : ∀ b ∈ bs, 0 ≤ b ∧ b ≤ 12) (ib : i < bs.length) (hk : ∀ p ∈ ps, KyOk n p.1) (hl : ps.length ≤ 5000) (hS : S[m]? = some (.dct ep ps))
    (hR : ∀ j, j ≤ mm → ∃ b, RR[j]? = some (.lst b ((upM n j).map ridersV))) (hm : ∀ p ∈ ps, min n ((bs[i]).toNat + p.1.2.length) ≤ mm)
    (q : ∀ ep', Q (.cell S.length) (S ++ [.dct ep' (nextA wk rd e n (bs[i]).toNat (bs.length - i - 1) (grpU n) ps)])) : F_next_arrivals [roadV wk rd bs, .int (i : Int), .cell m, .lst false RR, .int e] S Q E := by
  unfold F_next_arrivals
  have eL : (e - wk - rd * ((((bs.map D.int).length : Int) - (i : Int)) - 1)) = e - wk - rd * ((bs.length - i - 1 : Nat) : Int) := by
    rw [List.length_map, show (((bs.length : Int) - (i : Int)) - 1) = ((bs.length - i - 1 : Nat) : Int) by omega]
  refine ⟨rfl, rfl, .inl (.inl ⟨by omega, by omega⟩), ?_⟩
  show arrRest [some (roadV wk rd bs), some (.int (i : Int)), some (.cell m), some (.lst false RR), some (.int e), some (.int wk), some (.int rd), some (.tup (bs.map D.int)), some (.int (e - wk - rd * ((((bs.map D.int).length : Int) - (i : Int)) - 1))), none, none, none, none, none, none, none, none, none, none] S _ _
  rw [eL]
  have hml : m < S.length := (List.getElem?_eq_some_iff.mp hS).1
  have src : ∀ {c : Cl}, (S ++ [c])[m]? = some (.dct ep ps) := fun {c} => by rw [List.getElem?_append_left hml]; exact hS
  refine ⟨m, ep, ps, rfl, src, ?_⟩
  show dLoopN _ arrBody m ep ps ps _ _ _ _
  refine loopN (fun j ρ S' => (∃ y10 y11 y12 y13 y14 y15 y16, ρ = [some (roadV wk rd bs), some (.int (i : Int)), some (.cell m), some (.lst false RR), some (.int e), some (.int wk), some (.int rd), some (.tup (bs.map D.int)), some (.int (e - wk - rd * ((bs.length - i - 1 : Nat) : Int))), some (.cell S.length), y10, y11, y12, y13, y14, y15, y16, none, none]) ∧ ∃ ep', S' = S ++ [.dct ep' ((ps.take j).foldl (arrN wk rd e n (bs[i]).toNat (bs.length - i - 1)) [])] ∧ ((ps.take j).foldl (arrN wk rd e n (bs[i]).toNat (bs.length - i - 1)) []).length ≤ 1024 * j) ⟨⟨_, _, _, _, _, _, _, rfl⟩, 0, rfl, Nat.zero_le _⟩ ?_ ?_ ?_
  · rintro j k many ρ S' K hx hK ⟨⟨y10, y11, y12, y13, y14, y15, y16, rfl⟩, ep', rfl, hlen⟩
    have hj : j < ps.length := (List.getElem?_eq_some_iff.mp hx).1
    have hmem := List.mem_of_getElem? hx
    refine ⟨rfl, rfl, ?_⟩
    refine arr_body (wk := wk) (rd := rd) (e := e) (hk _ hmem) n2 hb ib (by omega) hR (hm _ hmem) fun y13 y14 y15 y16 ep2 => hK _ _ ⟨⟨_, _, _, _, _, _, _, rfl⟩, ep2, ?_, ?_⟩
    · rw [take_foldl hx]
    · rw [take_foldl hx]
      show ((grpU n ((bs[i]).toNat + k.2.length)).foldl (stepN wk rd e n (bs[i]).toNat (bs.length - i - 1) k many) ((ps.take j).foldl (arrN wk rd e n (bs[i]).toNat (bs.length - i - 1)) [])).length ≤ 1024 * (j + 1)
      have := arr_len (wk := wk) (rd := rd) (e := e) (n := n) (s := (bs[i]).toNat) (l := bs.length - i - 1) (k := k) (many := many) (grpU n ((bs[i]).toNat + k.2.length)) ((ps.take j).foldl (arrN wk rd e n (bs[i]).toNat (bs.length - i - 1)) [])
      have h2 : (grpU n ((bs[i]).toNat + k.2.length)).length ≤ 1024 := up_len n2
      omega
  · rintro ρ S' ⟨⟨y10, y11, y12, y13, y14, y15, y16, rfl⟩, ep', rfl, hlen⟩
    have h := q ep'
    rw [← arr_next] at h
    rw [List.take_length]
    exact h
  · rintro j ρ S' ⟨_, ep', rfl, _⟩
    exact src
end Pu
namespace Pu
open PySem L2 Rb Gm
/-! ## count_good: how many arrivals there can be -/
theorem bin_nn : ∀ n m : Nat, 0 ≤ binM n m
  | 0, 0 => by decide
  | 0, _ + 1 => Int.le_refl 0
  | p + 1, 0 => by show (0 : Int) ≤ 1; decide
  | p + 1, m + 1 => by
    have h1 := bin_nn p m
    have h2 := bin_nn p (m + 1)
    show 0 ≤ binM p m + binM p (m + 1)
    omega
theorem bin_zero : ∀ n : Nat, binM n 0 = 1
  | 0 => rfl
  | _ + 1 => rfl
theorem sm_first {N : Nat} {f : Nat → Int} (h : ∀ m, 0 ≤ f m) : f 0 ≤ sm (N + 1) f := by
  induction N with
  | zero => rw [sm_succ]; show f 0 ≤ 0 + f 0; omega
  | succ N ih =>
    rw [sm_succ]
    have := h (N + 1)
    omega
theorem wy_pos {n : Nat} : ∀ (ss : List Nat) (b : Nat), 1 ≤ wyM n ss b
  | [], _ => Int.le_refl 1
  | s :: ss, b => by
    show 1 ≤ sm (n + 1) fun m => if m ≤ b + s then binM n m * wyM n ss m else 0
    have nn : ∀ m, 0 ≤ (fun m => if m ≤ b + s then binM n m * wyM n ss m else 0) m := fun m => by
      show 0 ≤ if m ≤ b + s then binM n m * wyM n ss m else 0
      split
      · exact Int.mul_nonneg (bin_nn n m) (by have := wy_pos (n := n) ss m; omega)
      · exact Int.le_refl 0
    have h := sm_first (N := n) nn
    have h : (if 0 ≤ b + s then binM n 0 * wyM n ss 0 else 0) ≤ sm (n + 1) fun m => if m ≤ b + s then binM n m * wyM n ss m else 0 := h
    rw [if_pos (Nat.zero_le _), bin_zero, Int.one_mul] at h
    have := wy_pos (n := n) ss 0
    omega
/-- what is known of the arrivals at a station -/
structure ArrOk (n : Nat) (ss : List Nat) (c : Nat) (W : Int) (arr : List (Ky × Int)) : Prop where
  ky : ∀ p ∈ arr, KyOk n p.1
  pos : ∀ p ∈ arr, 1 ≤ p.2
  val : valK (fun k => wyM n ss k.2.length) arr ≤ W
  few : ∀ p ∈ arr, p.1.2.length ≤ c
  nd : (arr.map (·.1)).Nodup
theorem val_ge {f : Ky → Int} (hf : ∀ k, 1 ≤ f k) : ∀ {l : List (Ky × Int)}, (∀ p ∈ l, 1 ≤ p.2) → (l.length : Int) ≤ valK f l ∧ ∀ p ∈ l, p.2 ≤ valK f l
  | [], _ => ⟨Int.le_refl _, fun _ z => nomatch z⟩
  | p :: l, h => by
    obtain ⟨i1, i2⟩ := val_ge hf (l := l) fun q hq => h q (List.mem_cons_of_mem _ hq)
    have hp := h p List.mem_cons_self
    have hm : p.2 ≤ p.2 * f p.1 := by
      have := Int.mul_le_mul_of_nonneg_left (hf p.1) (by omega : 0 ≤ p.2)
      omega
    have e : valK f (p :: l) = p.2 * f p.1 + valK f l := rfl
    have l0 : (0 : Int) ≤ (l.length : Int) := Int.natCast_nonneg _
    rw [e]
    refine ⟨by rw [List.length_cons, Int.natCast_add]; show (l.length : Int) + 1 ≤ _; omega, fun q hq => ?_⟩
    rcases List.mem_cons.mp hq with rfl | hq
    · omega
    · have := i2 q hq
      omega
theorem val_filter {f : Ky → Int} (hf : ∀ k, 1 ≤ f k) {t : Ky × Int → Bool} : ∀ {l : List (Ky × Int)}, (∀ p ∈ l, 1 ≤ p.2) → valK f (l.filter t) ≤ valK f l
  | [], _ => Int.le_refl _
  | p :: l, h => by
    have ih := val_filter hf (t := t) (l := l) fun q hq => h q (List.mem_cons_of_mem _ hq)
    have hp := h p List.mem_cons_self
    have hm : 0 ≤ p.2 * f p.1 := Int.mul_nonneg (by omega) (by have := hf p.1; omega)
    have e : valK f (p :: l) = p.2 * f p.1 + valK f l := rfl
    rw [List.filter_cons]
    split
    · have e2 : valK f (p :: l.filter t) = p.2 * f p.1 + valK f (l.filter t) := rfl
      rw [e, e2]
      omega
    · rw [e]
      omega
theorem ArrOk.len {n c : Nat} {ss : List Nat} {W : Int} {arr : List (Ky × Int)} (h : ArrOk n ss c W arr) : (arr.length : Int) ≤ W ∧ ∀ p ∈ arr, p.2 ≤ W := by
  obtain ⟨h1, h2⟩ := val_ge (f := fun k => wyM n ss k.2.length) (fun k => wy_pos ss _) h.pos
  have := h.val
  exact ⟨by omega, fun p hp => by have := h2 p hp; omega⟩
theorem ArrOk.flt {n c : Nat} {ss : List Nat} {W : Int} {arr : List (Ky × Int)} (h : ArrOk n ss c W arr) (t : Ky × Int → Bool) : ArrOk n ss c W (arr.filter t) :=
  ⟨fun p hp => h.ky p (List.mem_filter.mp hp).1, fun p hp => h.pos p (List.mem_filter.mp hp).1, Int.le_trans (val_filter (fun k => wy_pos ss _) h.pos) h.val, fun p hp => h.few p (List.mem_filter.mp hp).1, (List.filter_sublist.map _).nodup h.nd⟩
theorem add_pos {k : Ky} {v : Int} (hv : 1 ≤ v) : ∀ {l : List (Ky × Int)}, (∀ p ∈ l, 1 ≤ p.2) → ∀ p ∈ addK l k v, 1 ≤ p.2
  | [], _, p, hp => by rw [List.mem_singleton.mp hp]; exact hv
  | (a, x) :: l, h, p, hp => by
    unfold addK at hp
    have hx := h (a, x) List.mem_cons_self
    split at hp
    · rcases List.mem_cons.mp hp with rfl | hp
      · show 1 ≤ x + v
        have : 1 ≤ x := hx
        omega
      · exact h p (List.mem_cons_of_mem _ hp)
    · rcases List.mem_cons.mp hp with rfl | hp
      · exact hx
      · exact add_pos hv (fun q hq => h q (List.mem_cons_of_mem _ hq)) p hp
theorem all_pos {key : List Nat → Ky} {many : Int} (hv : 1 ≤ many) : ∀ (Rs : List (List Nat)) {acc : List (Ky × Int)}, (∀ p ∈ acc, 1 ≤ p.2) → ∀ p ∈ addAll key many acc Rs, 1 ≤ p.2
  | [], _, h => h
  | R :: Rs, acc, h => all_pos hv Rs (add_pos hv h)
theorem all_nd {key : List Nat → Ky} {many : Int} : ∀ (Rs : List (List Nat)) {acc : List (Ky × Int)}, (acc.map (·.1)).Nodup → ((addAll key many acc Rs).map (·.1)).Nodup
  | [], _, h => h
  | R :: Rs, acc, h => all_nd Rs (addK_keys h).1
theorem sum_filter {f : List Nat → Int} (hf : ∀ R, 0 ≤ f R) {t : List Nat → Bool} : ∀ l : List (List Nat), ((l.filter t).map f).sum ≤ (l.map f).sum
  | [] => Int.le_refl _
  | R :: l => by
    have ih := sum_filter hf (t := t) l
    have := hf R
    rw [List.filter_cons, List.map_cons, List.sum_cons]
    split
    · rw [List.map_cons, List.sum_cons]
      omega
    · omega
/-- behind a stage -/
theorem ArrOk.next {wk rd e : Int} {n s l c : Nat} {ss : List Nat} {W : Int} {arr : List (Ky × Int)} (w0 : 0 ≤ wk) (r0 : 0 ≤ rd) (h : ArrOk n (s :: ss) c W arr) : ArrOk n ss (c + s) W (nextA wk rd e n s l (grpU n) arr) := by
  have grp : ∀ {b : Nat} {R : List Nat}, R ∈ grpU n (s + b) → GrOk 0 n (s + b) R := fun {b R} hR => (grp_ok _ _).mp (up_min.mem_iff.mp hR)
  have go : ∀ (arr acc : List (Ky × Int)), (∀ p ∈ arr, KyOk n p.1) → (∀ p ∈ arr, 1 ≤ p.2) → (∀ p ∈ arr, p.1.2.length ≤ c) → (∀ p ∈ acc, 1 ≤ p.2) → (∀ p ∈ acc, p.1.2.length ≤ c + s) → (acc.map (·.1)).Nodup →
      let out := arr.foldl (fun acc p => addAll (fun R => (nxT wk rd n s p.1.1 p.1.2 R, nxB rd s p.1.1 p.1.2 R)) p.2 acc ((grpU n (s + p.1.2.length)).filter (mustK wk rd e n l p.1.1))) acc
      (∀ p ∈ out, 1 ≤ p.2) ∧ (∀ p ∈ out, p.1.2.length ≤ c + s) ∧ (out.map (·.1)).Nodup ∧ valK (fun k => wyM n ss k.2.length) out ≤ valK (fun k => wyM n ss k.2.length) acc + valK (fun k => wyM n (s :: ss) k.2.length) arr := by
    intro arr
    induction arr with
    | nil => intro acc _ _ _ h1 h2 h3; exact ⟨h1, h2, h3, by show valK (fun k => wyM n ss k.2.length) acc ≤ valK (fun k => wyM n ss k.2.length) acc + 0; omega⟩
    | cons p arr ih =>
      intro acc hk hp hc h1 h2 h3
      have kp := hk p List.mem_cons_self
      have pp := hp p List.mem_cons_self
      have cp := hc p List.mem_cons_self
      have ka := fun q hq => hk q (List.mem_cons_of_mem p hq)
      have blen : ∀ R ∈ (grpU n (s + p.1.2.length)).filter (mustK wk rd e n l p.1.1), (nxB rd s p.1.1 p.1.2 R).length = R.length := fun R hR => nxB_len (grp (List.mem_filter.mp hR).1).len
      have a2 : ∀ q ∈ addAll (fun R => (nxT wk rd n s p.1.1 p.1.2 R, nxB rd s p.1.1 p.1.2 R)) p.2 acc ((grpU n (s + p.1.2.length)).filter (mustK wk rd e n l p.1.1)), q.1.2.length ≤ c + s := all_mem (P := fun k => k.2.length ≤ c + s) _ acc h2 fun R hR => by
        show (nxB rd s p.1.1 p.1.2 R).length ≤ c + s
        rw [blen R hR]
        have := (grp (List.mem_filter.mp hR).1).len
        omega
      obtain ⟨i1, i2, i3, i4⟩ := ih (addAll (fun R => (nxT wk rd n s p.1.1 p.1.2 R, nxB rd s p.1.1 p.1.2 R)) p.2 acc ((grpU n (s + p.1.2.length)).filter (mustK wk rd e n l p.1.1))) ka (fun q hq => hp q (List.mem_cons_of_mem _ hq)) (fun q hq => hc q (List.mem_cons_of_mem _ hq)) (all_pos pp _ h1) a2 (all_nd _ h3)
      refine ⟨i1, i2, i3, Int.le_trans i4 ?_⟩
      have e2 : valK (fun k => wyM n (s :: ss) k.2.length) (p :: arr) = p.2 * wyM n (s :: ss) p.1.2.length + valK (fun k => wyM n (s :: ss) k.2.length) arr := rfl
      rw [val_all, e2]
      have e3 : (((grpU n (s + p.1.2.length)).filter (mustK wk rd e n l p.1.1)).map fun R => wyM n ss (nxB rd s p.1.1 p.1.2 R).length) = ((grpU n (s + p.1.2.length)).filter (mustK wk rd e n l p.1.1)).map fun R => wyM n ss R.length := List.map_congr_left fun R hR => by rw [blen R hR]
      have e4 : (((grpU n (s + p.1.2.length)).filter (mustK wk rd e n l p.1.1)).map fun R => wyM n ss R.length).sum ≤ wyM n (s :: ss) p.1.2.length := by
        refine Int.le_trans (sum_filter (fun R => by have := wy_pos (n := n) ss R.length; omega) _) ?_
        have pm := (up_min (n := n) (m := s + p.1.2.length)).map fun R => wyM n ss R.length
        rw [perm_sum pm, grp_sum]
        show _ ≤ sm (n + 1) fun m => if m ≤ p.1.2.length + s then binM n m * wyM n ss m else 0
        rw [Nat.add_comm p.1.2.length s]
        exact Int.le_refl _
      have e5 := Int.mul_le_mul_of_nonneg_left e4 (by omega : 0 ≤ p.2)
      show valK (fun k => wyM n ss k.2.length) acc + p.2 * (((grpU n (s + p.1.2.length)).filter (mustK wk rd e n l p.1.1)).map fun R => wyM n ss (nxB rd s p.1.1 p.1.2 R).length).sum + valK (fun k => wyM n (s :: ss) k.2.length) arr ≤ _
      rw [e3]
      omega
  obtain ⟨g1, g2, g3, g4⟩ := go arr [] h.ky h.pos h.few (fun _ z => nomatch z) (fun _ z => nomatch z) List.nodup_nil
  refine ⟨next_oks w0 r0 (fun m => up_min) arr [] (fun _ z => nomatch z) h.ky, g1, ?_, g2, g3⟩
  have := h.val
  have e0 : valK (fun k => wyM n ss k.2.length) ([] : List (Ky × Int)) = 0 := rfl
  rw [e0] at g4
  have g4' : valK (fun k => wyM n ss k.2.length) (nextA wk rd e n s l (grpU n) arr) ≤ 0 + valK (fun k => wyM n (s :: ss) k.2.length) arr := g4
  omega
end Pu
namespace Pu
open PySem L2 Rb Gm
/-! ## count_good: the loop over the stations -/
theorem putN_new {k : Ky} {v : Int} : ∀ {l : List (Ky × Int)}, k ∉ l.map (·.1) → putN l k v = l ++ [(k, v)]
  | [], _ => rfl
  | (a, x) :: l, h => by
    unfold putN
    rw [List.map_cons] at h
    rw [if_neg (fun z => h (by rw [← z]; exact List.mem_cons_self)), putN_new fun z => h (List.mem_cons_of_mem _ z)]
    rfl
def cgArr : FS := (dIfS (dTest (dCallW F_is_surely_good (dCons (dVar 0) (dCons (dVar 7) (dCons (dVar 10) (dCons (dVar 2) dNil))))))
 (dAugI 6 (dBin gMul (dVar 12) (dBin gIx (dVar 8) (dB gLen (dCons (dVar 11) dNil)))))
 (dIfS (dTest (dCallW F_is_maybe_good (dCons (dVar 0) (dCons (dVar 7) (dCons (dVar 10) (dCons (dVar 2) dNil))))))
 (dAsg (dVar 12) (gSetN (dVar 9) (dTup (dCons (dVar 10) (dCons (dVar 11) dNil)))))
 dSkip))
theorem cg_arr {wk rd e : Int} {bs starts : List Int} {n i : Nat} {ss : List Nat} {k : Ky} {many good : Int} {A : Sto} {ep : Nat} {und : List (Ky × Int)} {y3 y4 y5 : Option D} {De : DEnds} {Ed : ED}
    (R : RoadOk wk rd bs) (hk : KyOk n k) (n1 : 1 ≤ n) (m1 : 1 ≤ many) (m2 : many ≤ 5000) (hi : i ≤ bs.length) (hs : ss.length = bs.length - i) (hl : und.length < 16777216) (hu : k ∉ und.map (·.1))
    (q : ∀ ep', De.nx [some (roadV wk rd bs), some (tkD starts), some (.int e), y3, y4, y5, some (.int (good + if sureK wk e ss.length k.1 = true then many * bwdAll (binM n) (n + 1) ss k.2.length else 0)), some (.int (i : Int)), some (wyV n ss), some (.cell A.length), some (tkD k.1), some (tkD k.2), some (.int many)] (A ++ [.dct ep' (if (!sureK wk e ss.length k.1 && maybeK rd e ss.length k.1) = true then und ++ [(k, many)] else und)])) :
    cgArr [some (roadV wk rd bs), some (tkD starts), some (.int e), y3, y4, y5, some (.int good), some (.int (i : Int)), some (wyV n ss), some (.cell A.length), some (tkD k.1), some (tkD k.2), some (.int many)] (A ++ [.dct ep und]) De Ed := by
  have w0 := R.rd1
  have w1 := R.lt
  have w2 := R.w2
  have ne : k.1 ≠ [] := fun z => by have := hk.len; rw [z] at this; simp at this; omega
  refine sure_ok (by omega) w2 hk.asc ne hi ?_
  rw [← hs]
  cases hS : sureK wk e ss.length k.1 with
  | true =>
    rw [hS, if_pos rfl] at q
    have a3 : atI (rowF (n + 1) (wyM n ss)) ((((k.2.map D.int).length : Nat) : Int)) = some (.int (wyM n ss k.2.length)) := by
      rw [List.length_map]
      exact rowF_at (by have := hk.few; omega)
    show onSome (atI (rowF (n + 1) (wyM n ss)) _) _
    refine onS a3 ⟨.inl (.inl ⟨by omega, by omega⟩), good, many * wyM n ss k.2.length, rfl, rfl, ?_⟩
    exact q ep
  | false =>
    rw [hS] at q
    refine maybe_ok (by omega) (by omega) hk.asc ne hi ?_
    rw [← hs]
    cases hM : maybeK rd e ss.length k.1 with
    | true =>
      rw [hM] at q
      refine ⟨szr rfl, A.length, ep, und, k, many, rfl, List.getElem?_concat_length .., rfl, rfl, hl, fun ep' => ?_⟩
      have h := q ep'
      rw [set_last, putN_new hu]
      rw [if_neg Bool.false_ne_true, Int.add_zero] at h
      exact h
    | false =>
      rw [hM] at q
      have h := q ep
      rw [if_neg Bool.false_ne_true, Int.add_zero] at h
      exact h
def cgTurn : FS := (dSeq (dAsg dNewN (gN 9))
 (dSeq (dForN (dVar 5) (gTp 2 (gsCons (gTp 2 (gsCons (gN 10) (gsCons (gN 11) gsNil))) (gsCons (gN 12) gsNil))) cgArr)
 (dAsg (dCallW F_next_arrivals (dCons (dVar 0) (dCons (dVar 7) (dCons (dVar 9) (dCons (dVar 4) (dCons (dVar 2) dNil)))))) (gN 5))))
theorem bring_take {wk e : Int} {n : Nat} {ss : List Nat} {arr : List (Ky × Int)} {j : Nat} {p : Ky × Int} (h : arr[j]? = some p) : bringK wk e n ss (arr.take (j + 1)) = bringK wk e n ss (arr.take j) + if sureK wk e ss.length p.1.1 = true then p.2 * bwdAll (binM n) (n + 1) ss p.1.2.length else 0 := by
  unfold bringK
  rw [List.take_add_one, h, List.map_append, List.sum_append]
  show _ + (_ + 0) = _
  rw [Int.add_zero]
theorem und_take {wk rd e : Int} {l : Nat} {arr : List (Ky × Int)} {j : Nat} {p : Ky × Int} (h : arr[j]? = some p) : undK wk rd e l (arr.take (j + 1)) = if (!sureK wk e l p.1.1 && maybeK rd e l p.1.1) = true then undK wk rd e l (arr.take j) ++ [p] else undK wk rd e l (arr.take j) := by
  unfold undK
  rw [List.take_add_one, h, List.filter_append]
  show _ ++ List.filter _ [p] = _
  rw [List.filter_cons]
  split
  · rfl
  · rw [List.filter_nil, List.append_nil]
theorem cg_turn {wk rd e : Int} {bs starts : List Int} {n i c a ep : Nat} {ss : List Nat} {W good : Int} {arr nxt : List (Ky × Int)} {S : Sto} {RR : List D} {y3 y9 y10 y11 y12 : Option D} {De : DEnds} {Ed : ED}
    (R : RoadOk wk rd bs) (n1 : 1 ≤ n) (hi : i ≤ bs.length) (hs : ss.length = bs.length - i) (ao : ArrOk n ss c W arr) (hW : W ≤ 5000) (hS : S[a]? = some (.dct ep arr))
    (hnx : ∀ (S' : Sto) (m ep' : Nat) (Q : QD) (E : ED), S'[m]? = some (.dct ep' (undK wk rd e ss.length arr)) → (∀ ep2, Q (.cell S'.length) (S' ++ [.dct ep2 nxt])) → F_next_arrivals [roadV wk rd bs, .int (i : Int), .cell m, .lst false RR, .int e] S' Q E)
    (q : ∀ y9 y10 y11 y12 J a' ep', (S ++ J)[a']? = some (.dct ep' nxt) → De.nx [some (roadV wk rd bs), some (tkD starts), some (.int e), y3, some (.lst false RR), some (.cell a'), some (.int (good + bringK wk e n ss arr)), some (.int (i : Int)), some (wyV n ss), y9, y10, y11, y12] (S ++ J)) :
    cgTurn [some (roadV wk rd bs), some (tkD starts), some (.int e), y3, some (.lst false RR), some (.cell a), some (.int good), some (.int (i : Int)), some (wyV n ss), y9, y10, y11, y12] S De Ed := by
  have hal : a < S.length := (List.getElem?_eq_some_iff.mp hS).1
  have src : ∀ {c : Cl}, (S ++ [c])[a]? = some (.dct ep arr) := fun {c} => by rw [List.getElem?_append_left hal]; exact hS
  obtain ⟨l1, l2⟩ := ao.len
  refine ⟨a, ep, arr, rfl, src, ?_⟩
  show dLoopN _ cgArr a ep arr arr _ _ _ _
  refine loopN (fun j ρ S' => (∃ y10 y11 y12, ρ = [some (roadV wk rd bs), some (tkD starts), some (.int e), y3, some (.lst false RR), some (.cell a), some (.int (good + bringK wk e n ss (arr.take j))), some (.int (i : Int)), some (wyV n ss), some (.cell S.length), y10, y11, y12]) ∧ ∃ ep', S' = S ++ [.dct ep' (undK wk rd e ss.length (arr.take j))]) ⟨⟨y10, y11, y12, ?_⟩, 0, rfl⟩ ?_ ?_ ?_
  · show _ = [some (roadV wk rd bs), some (tkD starts), some (.int e), y3, some (.lst false RR), some (.cell a), some (.int (good + 0)), some (.int (i : Int)), some (wyV n ss), some (.cell S.length), y10, y11, y12]
    rw [Int.add_zero]
  · rintro j k many ρ S' K hx hK ⟨⟨z10, z11, z12, rfl⟩, ep', rfl⟩
    have hmem := List.mem_of_getElem? hx
    have hj : j < arr.length := (List.getElem?_eq_some_iff.mp hx).1
    refine ⟨rfl, rfl, ?_⟩
    refine cg_arr (e := e) R (ao.ky _ hmem) n1 (ao.pos _ hmem) (by have := l2 _ hmem; omega) hi hs ?_ ?_ fun ep2 => hK _ _ ⟨⟨some (tkD k.1), some (tkD k.2), some (.int many), ?_⟩, ep2, ?_⟩
    · have : (undK wk rd e ss.length (arr.take j)).length ≤ (arr.take j).length := List.length_filter_le _ _
      rw [List.length_take] at this
      omega
    · intro z
      have z1 : k ∈ (arr.take j).map (·.1) := by
        obtain ⟨p, hp, ep⟩ := List.mem_map.mp z
        exact List.mem_map.mpr ⟨p, (List.mem_filter.mp hp).1, ep⟩
      obtain ⟨p, hp, epk⟩ := List.mem_map.mp z1
      obtain ⟨t, ht, et⟩ := List.getElem_of_mem hp
      rw [List.length_take] at ht
      have h1 : (arr.map (·.1))[t]? = some k := by
        rw [List.getElem?_map, ← epk, ← et, List.getElem_take]
        rw [List.getElem?_eq_getElem (by omega)]
        rfl
      have h2 : (arr.map (·.1))[j]? = some k := by rw [List.getElem?_map, hx]; rfl
      have := (List.getElem?_inj (by rw [List.length_map]; omega) ao.nd).mp (h1.trans h2.symm)
      omega
    · rw [bring_take hx, ← Int.add_assoc]
    · rw [und_take hx]
  · rintro ρ S' ⟨⟨z10, z11, z12, rfl⟩, ep', rfl⟩
    rw [List.take_length]
    refine hnx _ S.length ep' _ _ (List.getElem?_concat_length ..) fun ep2 => ?_
    have h := q (some (.cell S.length)) z10 z11 z12 [.dct ep' (undK wk rd e ss.length arr), .dct ep2 nxt] (S ++ [Cl.dct ep' (undK wk rd e ss.length arr)]).length ep2 (by
      rw [show S ++ [Cl.dct ep' (undK wk rd e ss.length arr), .dct ep2 nxt] = (S ++ [.dct ep' (undK wk rd e ss.length arr)]) ++ [.dct ep2 nxt] by simp]
      exact List.getElem?_concat_length ..)
    rw [show S ++ [Cl.dct ep' (undK wk rd e ss.length arr), .dct ep2 nxt] = (S ++ [.dct ep' (undK wk rd e ss.length arr)]) ++ [.dct ep2 nxt] by simp] at h
    exact h
  · rintro j ρ S' ⟨_, ep', rfl⟩
    exact src
end Pu
namespace Pu
open PySem L2 Rb Gm
/-! ## count_good -/
theorem arrivals_nil {wk rd e : Int} {bs : List Int} {i m ep : Nat} {RR : List D} {S : Sto} {Q : QD} {E : ED} (r0 : 0 ≤ rd) (r1 : rd ≤ 1000) (hS : S[m]? = some (.dct ep [])) (q : ∀ ep', Q (.cell S.length) (S ++ [.dct ep' []])) : F_next_arrivals [roadV wk rd bs, .int (i : Int), .cell m, .lst false RR, .int e] S Q E := by
  unfold F_next_arrivals
  refine ⟨rfl, rfl, .inl (.inl ⟨by omega, by omega⟩), ?_⟩
  have hml : m < S.length := (List.getElem?_eq_some_iff.mp hS).1
  refine ⟨m, ep, [], rfl, by rw [List.getElem?_append_left hml]; exact hS, ?_⟩
  exact q 0
def cgRest : FS := (dSeq (dAsg (dCall 0 F_groups_up_to (dCons (dB gLen (dCons (dVar 1) dNil)) (dCons (dB gMinL (dCons (dB gLen (dCons (dVar 1) dNil)) (dCons (dB gSum (dCons (dBin gIx (dVar 0) (dC (.int 2))) dNil)) dNil))) dNil))) (gN 4))
 (dSeq (dAsg (dOneN (dTup (dCons (dB gTuple (dCons (dB gSortTI (dCons (dVar 1) dNil)) dNil)) (dCons (dTup dNil) dNil))) (dC (.int 1))) (gN 5))
 (dSeq (dAsg (dC (.int 0)) (gN 6))
 (dSeq (dFor (dEnL (dCons (dVar 3) dNil)) (gTp 2 (gsCons (gN 7) (gsCons (gN 8) gsNil))) cgTurn)
 (dRet (dVar 6))))))
theorem take_sum_le {bs : List Int} (hb : ∀ b ∈ bs, 0 ≤ b) : ∀ i, i < bs.length → ((bs.map Int.toNat).take i).sum + (bs.getD i 0).toNat ≤ bs.sum.toNat := by
  induction bs with
  | nil => intro i hi; simp at hi
  | cons b bs ih =>
    intro i hi
    have hb0 := hb b List.mem_cons_self
    have hs : 0 ≤ bs.sum := by
      clear ih hi
      induction bs with
      | nil => exact Int.le_refl 0
      | cons c cs ih2 =>
        rw [List.sum_cons]
        have := hb c (List.mem_cons_of_mem _ List.mem_cons_self)
        have := ih2 fun x hx => hb x (by
          rcases List.mem_cons.mp hx with rfl | hx
          · exact List.mem_cons_self
          · exact List.mem_cons_of_mem _ (List.mem_cons_of_mem _ hx))
        omega
    rw [List.sum_cons]
    cases i with
    | zero =>
      show 0 + b.toNat ≤ (b + bs.sum).toNat
      omega
    | succ i =>
      have := ih (fun x hx => hb x (List.mem_cons_of_mem _ hx)) i (by simpa using hi)
      rw [List.map_cons, List.take_succ_cons, List.sum_cons]
      show b.toNat + ((bs.map Int.toNat).take i).sum + (bs.getD i 0).toNat ≤ _
      omega
theorem cg_rest {wk rd e : Int} {bs starts : List Int} {A : Sto} {De : DEnds} {Ed : ED} (R : RoadOk wk rd bs) (n1 : 1 ≤ starts.length) (n2 : starts.length ≤ 10) (s0 : ∀ x ∈ starts, 0 ≤ x) (hW : wyM starts.length (bs.map Int.toNat) 0 ≤ 5000)
    (q : ∀ J, De.rt (.int (countG wk rd e starts.length (grpU starts.length) (bs.map Int.toNat) [((srt starts, []), 1)] 0)) (A ++ J)) :
    cgRest [some (roadV wk rd bs), some (tkD starts), some (.int e), some (.lst false ((List.range (bs.length + 1)).map fun i => wyV starts.length ((bs.map Int.toNat).drop i))), none, none, none, none, none, none, none, none, none] A De Ed := by
  have w0 := R.rd1
  have w1 := R.lt
  have w2 := R.w2
  have hb0 : ∀ b ∈ bs, 0 ≤ b := fun b h => (R.hb b h).1
  have bsum : 0 ≤ bs.sum := by
    have h := hb0
    clear q hW w0 w1 w2 R
    induction bs with
    | nil => exact Int.le_refl 0
    | cons c cs ih =>
      rw [List.sum_cons]
      have := h c List.mem_cons_self
      have := ih (fun x hx => h x (List.mem_cons_of_mem _ hx)) fun x hx => h x (List.mem_cons_of_mem _ hx)
      omega
  refine onS (intsOf_map bs) ⟨⟨rfl, rfl⟩, ?_⟩
  have em : (if bs.sum < (((starts.map D.int).length : Nat) : Int) then bs.sum else (((starts.map D.int).length : Nat) : Int)) = ((min starts.length bs.sum.toNat : Nat) : Int) := by
    rw [List.length_map]
    split <;> omega
  have en : (((starts.map D.int).length : Nat) : Int) = (starts.length : Int) := by rw [List.length_map]
  show F_groups_up_to [.int (((starts.map D.int).length : Nat) : Int), .int (if bs.sum < (((starts.map D.int).length : Nat) : Int) then bs.sum else (((starts.map D.int).length : Nat) : Int))] [] _ _
  rw [em, en]
  refine groups_up_ok n2 (by omega) fun RR hR => ⟨rfl, ?_⟩
  refine onS (intsOf_map starts) ⟨szr rfl, szr rfl, (srt starts, []), 1, rfl, rfl, List.getElem?_concat_length .., fun ep => ?_⟩
  generalize hn : starts.length = n at *
  generalize hss : bs.map Int.toNat = ss0 at *
  have sl : ss0.length = bs.length := by rw [← hss, List.length_map]
  generalize hG : countG wk rd e n (grpU n) ss0 [((srt starts, []), 1)] 0 = G at q
  show dLoop _ cgTurn [] (enumD ((List.range (bs.length + 1)).map fun i => wyV n (ss0.drop i))) _ _ _ _
  have el : (enumD ((List.range (bs.length + 1)).map fun i => wyV n (ss0.drop i))).length = bs.length + 1 := by unfold enumD; rw [List.length_mapIdx, List.length_map, List.length_range]
  refine for_inv (src := []) _ (fun i ρ S' => ∃ (y7 y8 y9 y10 y11 y12 : Option D) (J : Sto) (a : Nat) (good : Int), ρ = [some (roadV wk rd bs), some (tkD starts), some (.int e), some (.lst false ((List.range (bs.length + 1)).map fun i => wyV n (ss0.drop i))), some (.lst false RR), some (.cell a), some (.int good), y7, y8, y9, y10, y11, y12] ∧ S' = A ++ J ∧
    (i ≤ bs.length → ∃ ep arr, S'[a]? = some (.dct ep arr) ∧ ArrOk n (ss0.drop i) ((ss0.take i).sum) 5000 arr ∧ countG wk rd e n (grpU n) (ss0.drop i) arr good = G) ∧ (i = bs.length + 1 → good = G)) ?_ ?_ ?_
  · refine ⟨none, none, none, none, none, none, [.dct ep [((srt starts, []), 1)]], A.length, 0, rfl, set_last, fun _ => ⟨ep, _, ?_, ?_, hG⟩, fun h => nomatch h⟩
    · rw [set_last]
      exact List.getElem?_concat_length ..
    · have one : ∀ p ∈ [((srt starts, ([] : List Int)), (1 : Int))], p = ((srt starts, []), 1) := fun p hp => List.mem_singleton.mp hp
      refine ⟨fun p hp => ?_, fun p hp => ?_, ?_, fun p hp => ?_, by simp⟩
      · rw [one p hp]
        exact ⟨by show (srt starts).length = n; rw [srt_len, hn], fun x hx => s0 x ((srt_perm starts).mem_iff.mp hx), srt_sorted _, (fun _ z => nomatch z), Nat.zero_le _⟩
      · rw [one p hp]
        exact Int.le_refl 1
      · show 1 * wyM n ss0 0 + 0 ≤ 5000
        omega
      · rw [one p hp]
        exact Nat.zero_le _
  · rintro i x ρ S' K hx hK ⟨y7, y8, y9, y10, y11, y12, J, a, good, rfl, rfl, hI, _⟩
    obtain ⟨y, hy, rfl⟩ := enumD_get hx
    rw [List.getElem?_map] at hy
    obtain ⟨i2, hi2, rfl⟩ := Option.map_eq_some_iff.mp hy
    have hi : i < bs.length + 1 := by
      have := (List.getElem?_eq_some_iff.mp hi2).1
      rw [List.length_range] at this
      exact this
    rw [List.getElem?_range hi] at hi2
    cases hi2
    obtain ⟨ep, arr, hS, ao, hc⟩ := hI (by omega)
    have ds : (ss0.drop i).length = bs.length - i := by rw [List.length_drop, sl]
    refine ⟨rfl, ?_⟩
    show cgTurn [some (roadV wk rd bs), some (tkD starts), some (.int e), some (.lst false ((List.range (bs.length + 1)).map fun i => wyV n (ss0.drop i))), some (.lst false RR), some (.cell a), some (.int good), some (.int (i : Int)), some (wyV n (ss0.drop i)), y9, y10, y11, y12] (A ++ J) _ _
    by_cases hlt : i < bs.length
    · have hd : ss0.drop i = (bs[i]).toNat :: ss0.drop (i + 1) := by
        have h1 : ss0[i]? = some (bs[i]).toNat := by rw [← hss, List.getElem?_map, List.getElem?_eq_getElem hlt]; rfl
        exact drop_cons h1
      have ts : (ss0.take (i + 1)).sum = (ss0.take i).sum + (bs[i]).toNat := by
        have h1 : ss0[i]? = some (bs[i]).toNat := by rw [← hss, List.getElem?_map, List.getElem?_eq_getElem hlt]; rfl
        rw [List.take_add_one, h1, List.sum_append]
        show _ + ((bs[i]).toNat + 0) = _
        rw [Nat.add_zero]
      have tl := take_sum_le hb0 i hlt
      rw [hss, List.getD_eq_getElem?_getD, List.getElem?_eq_getElem hlt] at tl
      have tl : (ss0.take i).sum + (bs[i]).toNat ≤ bs.sum.toNat := tl
      have au : ArrOk n (ss0.drop i) ((ss0.take i).sum) 5000 (undK wk rd e (ss0.drop i).length arr) := ao.flt _
      have an : ArrOk n (ss0.drop (i + 1)) ((ss0.take (i + 1)).sum) 5000 (nextA wk rd e n (bs[i]).toNat (bs.length - i - 1) (grpU n) (undK wk rd e (ss0.drop i).length arr)) := by
        rw [ts]
        exact ArrOk.next (by omega) (by omega) (by rw [← hd]; exact au)
      refine cg_turn (e := e) (nxt := nextA wk rd e n (bs[i]).toNat (bs.length - i - 1) (grpU n) (undK wk rd e (ss0.drop i).length arr)) R n1 (by omega) ds ao (by omega) hS (fun S2 m ep2 Q2 E2 hm2 q2 => ?_) fun y9 y10 y11 y12 J2 a2 ep2 hS2 => hK _ _ ⟨_, _, _, _, _, _, J ++ J2, a2, _, rfl, List.append_assoc .., fun _ => ⟨ep2, _, hS2, an, ?_⟩, fun z => ?_⟩
      · refine next_arrivals_ok (by omega) (by omega) n2 R.hb hlt au.ky ?_ hm2 hR (fun p hp => ?_) q2
        · have := au.len.1
          omega
        · have h1 := au.few p hp
          exact Nat.le_min.mpr ⟨Nat.min_le_left _ _, Nat.le_trans (Nat.min_le_right _ _) (Nat.le_trans (Nat.add_le_add_left h1 _) (by rw [Nat.add_comm]; exact tl))⟩
      · rw [hd] at hc
        have e1 : ((bs[i]).toNat :: ss0.drop (i + 1)).length = (ss0.drop i).length := by rw [hd]
        have e2 : (ss0.drop (i + 1)).length = bs.length - i - 1 := by rw [List.length_drop, sl]; omega
        unfold countG at hc
        rw [e1, e2, ← hd] at hc
        exact hc
      · omega
    · have ei : i = bs.length := by omega
      have hd : ss0.drop i = [] := List.drop_of_length_le (by omega)
      rw [hd] at hc ao ds ⊢
      have un : undK wk rd e ([] : List Nat).length arr = [] := und_nil (by omega)
      refine cg_turn (e := e) (nxt := []) R n1 (by omega) ds ao (by omega) hS (fun S2 m ep2 Q2 E2 hm2 q2 => ?_) fun y9 y10 y11 y12 J2 a2 ep2 hS2 => hK _ _ ⟨_, _, _, _, _, _, J ++ J2, a2, _, rfl, List.append_assoc .., fun z => ?_, fun _ => ?_⟩
      · rw [un] at hm2
        exact arrivals_nil (by omega) (by omega) hm2 q2
      · omega
      · exact hc
  · rintro ρ S' ⟨y7, y8, y9, y10, y11, y12, J, a, good, rfl, rfl, _, hg⟩
    have : good = G := hg el
    subst this
    exact q J
end Pu
namespace Pu
open PySem L2 Rb Gm
/-! ## the law's own finish -/
/-- the ticks at which the bicycles come, one after another -/
def comeM (tk : List Int) (r br : List Nat) (st : Nat) (rd : Int) (j : Nat) : List Int := ((pairsM tk r br st).take j).map fun z => mx z.1.1 z.2 + rd
theorem come_perm {tk : List Int} {r br : List Nat} {st : Nat} {wk rd : Int} (few : r.length ≤ st + br.length) (nd : r.Nodup) (hr : ∀ p ∈ r, p < tk.length) : (comeM tk r br st rd r.length).Perm (r.map (tickAt (rowM tk r br st wk rd))) := by
  unfold comeM
  rw [List.take_of_length_le (by rw [pairsM_len few]; exact Nat.le_refl _)]
  have e : (pairsM tk r br st).map (fun z => mx z.1.1 z.2 + rd) = ((pairsM tk r br st).map fun z => z.1.2.toNat).map (tickAt (rowM tk r br st wk rd)) := by
    rw [List.map_map]
    exact List.map_congr_left fun z hz => (row_pair few nd hr hz).symm
  rw [e]
  exact (pairs_people few).map _
def finTurn : FS := (dSeq (dAsg (dBin gIx (dVar 7) (dVar 9)) (gTp 2 (gsCons (gN 10) (gsCons (gN 11) gsNil))))
 (dSeq (dAsg (dBin gAdd (dB gMax (dCons (dVar 10) (dCons (dBin gIx (dVar 6) (dVar 9)) dNil))) (dBin gIx (dVar 0) (dC (.int 1)))) (gSetI (dVar 8) (dVar 11)))
 (dDrop (dML gAppend (dVar 4) (dCons (dBin gIx (dVar 8) (dVar 11)) dNil)))))
theorem fin_turn {wk rd : Int} {bs : List Int} {tk : List Int} {r br : List Nat} {st j a : Nat} {A : Sto} {y1 y2 y3 y5 y10 y11 : Option D} {De : DEnds} {Ed : ED} (ha : A.length = a) (nd : r.Nodup) (hr : ∀ p ∈ r, p < tk.length) (few : r.length ≤ st + br.length) (hj : j < r.length) (rl : r.length ≤ 10)
    (q : ∀ y10 y11, De.nx [some (roadV wk rd bs), y1, y2, y3, some (.cell (a + 1)), y5, some (.lst false ((bikesM tk br st).map D.int)), some (.lst false (prsV (queueM tk r))), some (.cell a), some (.int (j : Int)), y10, y11] (A ++ [.lst ((laterM tk r br st wk rd (j + 1)).map D.int), .lst ((comeM tk r br st rd (j + 1)).map D.int)])) :
    finTurn [some (roadV wk rd bs), y1, y2, y3, some (.cell (a + 1)), y5, some (.lst false ((bikesM tk br st).map D.int)), some (.lst false (prsV (queueM tk r))), some (.cell a), some (.int (j : Int)), y10, y11] (A ++ [.lst ((laterM tk r br st wk rd j).map D.int), .lst ((comeM tk r br st rd j).map D.int)]) De Ed := by
  have ql := queueM_len (ticks := tk) (riders := r)
  have bkl := bikesM_len (ticks := tk) (brought := br) (st := st)
  have hqq : (queueM tk r)[j]? = some ((queueM tk r)[j]'(by omega)) := List.getElem?_eq_getElem (by omega)
  have hbj : (bikesM tk br st)[j]? = some ((bikesM tk br st)[j]'(by omega)) := List.getElem?_eq_getElem (by omega)
  have hz : (pairsM tk r br st)[j]? = some ((queueM tk r)[j]'(by omega), (bikesM tk br st)[j]'(by omega)) := by
    unfold pairsM
    rw [List.getElem?_zip_eq_some]
    exact ⟨hqq, hbj⟩
  obtain ⟨p, hp, ep⟩ := pairs_mem (List.mem_of_getElem? hz)
  have ep : (queueM tk r)[j]'(by omega) = (tickAt tk p, (p : Int)) := ep
  rw [ep] at hqq hz
  have aq : atI (prsV (queueM tk r)) (j : Int) = some (.tup [.int (tickAt tk p), .int (p : Int)]) := atI_nat (j := j) (by unfold prsV; rw [List.getElem?_map, hqq]; rfl)
  have abk : atI ((bikesM tk br st).map D.int) (j : Int) = some (.int ((bikesM tk br st)[j]'(by omega))) := atI_nat (j := j) (by rw [List.getElem?_map, hbj]; rfl)
  have ls := laterM_succ (wk := wk) (rd := rd) hz
  have cs : comeM tk r br st rd (j + 1) = comeM tk r br st rd j ++ [mx (tickAt tk p) ((bikesM tk br st)[j]'(by omega)) + rd] := by
    unfold comeM
    rw [take_snoc hz, List.map_append]
    rfl
  have cl : (comeM tk r br st rd j).length ≤ 10 := by
    unfold comeM
    rw [List.length_map, List.length_take, pairsM_len few]
    omega
  have ll := laterM_len (tk := tk) (r := r) (br := br) (st := st) (wk := wk) (rd := rd) (j := j)
  generalize (bikesM tk br st)[j]'(by omega) = bk at abk ls cs
  have hpl := hr p hp
  replace ls : laterM tk r br st wk rd (j + 1) = (laterM tk r br st wk rd j).set p (mx (tickAt tk p) bk + rd) := ls
  refine onS aq ⟨rfl, ?_⟩
  refine onS abk (onS (cell_A ha) (onS (a := p) ?_ ?_))
  · show ixN ((laterM tk r br st wk rd j).map D.int).length (p : Int) = some p
    unfold ixN
    rw [if_pos (by omega), if_pos (by rw [List.length_map, ll]; omega), Int.toNat_natCast]
  · show dDrop (dML gAppend (dVar 4) (dCons (dBin gIx (dVar 8) (dVar 11)) dNil)) [some (roadV wk rd bs), y1, y2, y3, some (.cell (a + 1)), y5, some (.lst false ((bikesM tk br st).map D.int)), some (.lst false (prsV (queueM tk r))), some (.cell a), some (.int (j : Int)), some (.int (tickAt tk p)), some (.int (p : Int))] ((A ++ [Cl.lst ((laterM tk r br st wk rd j).map D.int), .lst ((comeM tk r br st rd j).map D.int)]).set a (Cl.lst (((laterM tk r br st wk rd j).map D.int).set p (.int ((if bk > tickAt tk p then bk else tickAt tk p) + rd))))) De Ed
    have e8 : (((laterM tk r br st wk rd j).map D.int).set p (.int ((if bk > tickAt tk p then bk else tickAt tk p) + rd))) = (laterM tk r br st wk rd (j + 1)).map D.int := by
      rw [ls, List.map_set]
      rfl
    rw [set_A ha, e8]
    have at8 : atI ((laterM tk r br st wk rd (j + 1)).map D.int) (p : Int) = some (.int (mx (tickAt tk p) bk + rd)) := by
      refine atI_nat ?_
      rw [List.getElem?_map, ls, List.getElem?_set_self (by rw [ll]; omega)]
      rfl
    refine onS (cell_B ha) (onS (seq_A ha) (onS at8 (onS (cell_B ha) ⟨szd (by rw [List.length_map]; omega), ?_⟩)))
    have h := q (some (.int (tickAt tk p))) (some (.int (p : Int)))
    rw [cs, List.map_append] at h
    show De.nx _ ((A ++ [Cl.lst ((laterM tk r br st wk rd (j + 1)).map D.int), .lst ((comeM tk r br st rd j).map D.int)]).set (a + 1) (.lst ((comeM tk r br st rd j).map D.int ++ [.int (mx (tickAt tk p) bk + rd)])))
    rw [set_B ha]
    exact h
theorem gIx_seq {d : D} {i : Int} {S : Sto} {Q : QD} {xs : List D} (h : seqOf S d = some xs) (q : onSome (atI xs i) fun d => Q d S) : gIx d (.int i) S Q := by
  have go : onSome (seqOf S d) (fun xs => onSome (atI xs i) fun d => Q d S) := by rw [h]; exact q
  cases d with
  | str x => cases h
  | _ => exact go
theorem gMax_seq {d : D} {S : Sto} {Q : QD} {ns : List Int} (h : seqOf S d = some (ns.map D.int)) (ne : ns ≠ []) (q : Q (.int (maxL ns)) S) : gMax [d] S Q := by
  have go : onSome (seqOf S d) (fun xs => onSome (intsOf xs) fun ns => ns ≠ [] ∧ Q (.int (maxL ns)) S) := by
    rw [h]
    show onSome (intsOf (ns.map D.int)) _
    rw [intsOf_map]
    exact ⟨ne, q⟩
  cases d with
  | _ => exact go
def finStage : FS := (dSeq (dAsg (dB gSorted (dCons (dBin gAdd (dVar 4) (dBin gMul (dLst (dCons (dC (.int 0)) dNil)) (dBin gIx (dBin gIx (dVar 0) (dC (.int 2))) (dVar 5)))) dNil)) (gN 6))
 (dSeq (dAsg (dB gSorted (dCons (dLc (st1 11) dYes (dTup (dCons (dBin gIx (dVar 3) (dVar 11)) (dCons (dVar 11) dNil))) (dItS (dBin gIx (dVar 2) (dVar 5)))) dNil)) (gN 7))
 (dSeq (dPar 8 4 (dCons (dLcC (st1 10) dYes (dBin gAdd (dVar 10) (dBin gIx (dVar 0) (dC (.int 0)))) (dItS (dVar 3))) (dCons (dLstC dNil) dNil)))
 (dSeq (dFor (dRng1 (dCons (dB gLen (dCons (dVar 7) dNil)) dNil)) (gN 9) finTurn)
 (dAsg (dVar 8) (gN 3))))))
theorem fin_stage {wk rd : Int} {bs : List Int} {plan : List (List Nat)} {tk : List Int} {r br : List Nat} {st i b : Nat} {S : Sto} {d3 : D} {th : List Int} {y1 y6 y7 y8 y9 y10 y11 : Option D} {De : DEnds} {Ed : ED}
    (hbx : atI (bs.map D.int) (i : Int) = some (.int (st : Int))) (hs : st ≤ 12) (hpx : atI (plan.map ridersV) (i : Int) = some (ridersV r)) (h3 : seqOf S d3 = some (tk.map D.int)) (h4 : S[b]? = some (.lst (th.map D.int))) (pth : th.Perm (br.map (tickAt tk)))
    (nd : r.Nodup) (hr : ∀ p ∈ r, p < tk.length) (few : r.length ≤ st + br.length) (rl : r.length ≤ 10) (brl : br.length ≤ 10) (tl : tk.length ≤ 10)
    (q : ∀ y6 y7 y8 y9 y10 y11 A, De.nx [some (roadV wk rd bs), y1, some (planV plan), some (.cell A.length), some (.cell (A.length + 1)), some (.int (i : Int)), y6, y7, y8, y9, y10, y11] (A ++ [.lst ((rowM tk r br st wk rd).map D.int), .lst ((comeM tk r br st rd r.length).map D.int)])) :
    finStage [some (roadV wk rd bs), y1, some (planV plan), some d3, some (.cell b), some (.int (i : Int)), y6, y7, y8, y9, y10, y11] S De Ed := by
  have cb : lstOf S (.cell b) = some (th.map D.int) := by show lstAt S[b]? = _; rw [h4]; rfl
  have thl : th.length ≤ 10 := by rw [pth.length_eq, List.length_map]; exact brl
  refine ⟨szr rfl, onS hbx ⟨⟨by omega, by omega, szd (by simp; omega)⟩, onS cb ?_⟩⟩
  rw [Int.toNat_natCast, rep_flat]
  refine ⟨szd (by rw [List.length_map, List.length_map, List.length_replicate]; omega), ?_⟩
  rw [← List.map_append]
  refine .inl ⟨th ++ List.replicate st 0, rfl, ?_⟩
  have ebk : srt (th ++ List.replicate st 0) = bikesM tk br st := by
    unfold bikesM
    refine srt_uniq ?_ (srt_sorted _)
    refine (srt_perm _).trans ?_
    exact (List.perm_append_comm).trans (pth.append_left _)
  rw [ebk]
  refine onS hpx ⟨szd (by show (natsV r).length ≤ 100000; rw [natsV_len]; omega), ?_⟩
  refine comp_map (src := []) (g := pairD2 tk) (fun _ p => p) (natsV r) [] (fun x hx => ?_) ?_
  · obtain ⟨p, hp, rfl⟩ := List.mem_map.mp hx
    refine ⟨_, rfl, fun Q' q' => ?_⟩
    dsimp only [dTup, dCons, dBin, dVar, dNil]
    refine onS (a := d3) rfl ?_
    refine onS (a := .int (p : Int)) rfl ?_
    refine gIx_seq h3 (onS (atI_tk (hr p hp)) ?_)
    exact ⟨szr rfl, q'⟩
  rw [List.nil_append]
  have epr : (natsV r).map (pairD2 tk) = (r.map fun p => (tickAt tk p, (p : Int))).map (fun p => D.tup [.int p.1, .int p.2]) := by
    unfold natsV
    rw [List.map_map, List.map_map]
    rfl
  rw [epr]
  refine .inr ⟨_, rfl, ?_⟩
  refine onS h3 ⟨szd (by show (tk.map D.int).length ≤ 100000; rw [List.length_map]; omega), ?_⟩
  refine comp_map (src := srcOf S d3) (g := fun x => match x with | .int t => .int (t + wk) | d => d) (fun P p => srcOk_iff.mpr ⟨srcOf_ok h3, p⟩) (tk.map D.int) [] (fun x hx => ?_) ?_
  · obtain ⟨t, _, rfl⟩ := List.mem_map.mp hx
    exact ⟨_, rfl, fun Q' q' => q'⟩
  rw [List.nil_append]
  have ew : (tk.map D.int).map (fun x => match x with | .int t => D.int (t + wk) | d => d) = (laterM tk r br st wk rd 0).map D.int := by
    unfold laterM
    rw [List.take_zero, List.map_nil]
    show _ = (tk.map fun t => t + wk).map D.int
    rw [List.map_map, List.map_map]
    rfl
  rw [ew]
  refine ⟨szr rfl, ?_⟩
  have ql := queueM_len (ticks := tk) (riders := r)
  show (dSeq (dFor (dRng1 (dCons (dB gLen (dCons (dVar 7) dNil)) dNil)) (gN 9) finTurn) (dAsg (dVar 8) (gN 3))) [some (roadV wk rd bs), y1, some (planV plan), some d3, some (.cell (S ++ [Cl.lst ((laterM tk r br st wk rd 0).map D.int)]).length), some (.int (i : Int)), some (.lst false ((bikesM tk br st).map D.int)), some (.lst false (prsV (queueM tk r))), some (.cell S.length), y9, y10, y11] ((S ++ [Cl.lst ((laterM tk r br st wk rd 0).map D.int)]) ++ [.lst []]) _ _
  rw [show (S ++ [Cl.lst ((laterM tk r br st wk rd 0).map D.int)]).length = S.length + 1 by simp, List.append_assoc]
  have pl : (prsV (queueM tk r)).length = r.length := by rw [prsV_len, ql]
  refine ⟨⟨by omega, by omega⟩, ?_⟩
  show dLoop _ _ [] (rangeD 0 (((prsV (queueM tk r)).length : Int)).toNat) _ _ _ _
  rw [pl, Int.toNat_natCast]
  have lrow := laterM_row (wk := wk) (rd := rd) few nd hr
  refine for_rng 0 r.length (fun j ρ S' => (∃ y9 y10 y11, ρ = [some (roadV wk rd bs), y1, some (planV plan), some d3, some (.cell (S.length + 1)), some (.int (i : Int)), some (.lst false ((bikesM tk br st).map D.int)), some (.lst false (prsV (queueM tk r))), some (.cell S.length), y9, y10, y11]) ∧ S' = S ++ [.lst ((laterM tk r br st wk rd j).map D.int), .lst ((comeM tk r br st rd j).map D.int)]) ⟨⟨_, _, _, rfl⟩, rfl⟩ ?_ ?_
  · rintro j ρ S' K hj hK ⟨⟨z9, z10, z11, rfl⟩, rfl⟩
    rw [show (0 + (j : Int)) = (j : Int) by omega]
    exact fin_turn (wk := wk) (rd := rd) (bs := bs) rfl nd hr few hj rl fun y10 y11 => hK _ _ ⟨⟨_, _, _, rfl⟩, rfl⟩
  · rintro ρ S' ⟨⟨z9, z10, z11, rfl⟩, rfl⟩
    have h := q (some (.lst false ((bikesM tk br st).map D.int))) (some (.lst false (prsV (queueM tk r)))) (some (.cell S.length)) z9 z10 z11 S
    rw [← lrow] at h
    exact h
theorem lfin4_ok {wk rd : Int} {bs starts : List Int} {plan : List (List Nat)} {Q : QD} {E : ED} (hb12 : ∀ b ∈ bs, 0 ≤ b ∧ b ≤ 12) (ok : PlanOk bs starts.length plan) (l2 : bs.length ≤ 12) (n1 : 1 ≤ starts.length) (n2 : starts.length ≤ 10)
    (q : Q (.int (finM wk rd bs starts plan)) []) : F_law_finish_4 [roadV wk rd bs, tkD starts, planV plan] [] Q E := by
  unfold F_law_finish_4
  have hl := ok.len
  have lp : (((plan.map ridersV).length : Nat) : Int) = (plan.length : Int) := by rw [List.length_map]
  refine ⟨rfl, szr rfl, szr rfl, rfl, ?_⟩
  refine ⟨⟨by show -(2 ^ 62 : Int) ≤ (((plan.map ridersV).length : Nat) : Int); omega, by show (((plan.map ridersV).length : Nat) : Int) < 2 ^ 62; omega⟩, ?_⟩
  show dLoop _ finStage [] (rangeD 0 ((((plan.map ridersV).length : Nat) : Int)).toNat) _ _ _ _
  rw [lp, Int.toNat_natCast]
  refine for_rng 0 plan.length (fun i ρ S' => ∃ (d3 : D) (b : Nat) (th : List Int) (y5 y6 y7 y8 y9 : Option D), (∃ y10 y11, ρ = [some (roadV wk rd bs), some (tkD starts), some (planV plan), some d3, some (.cell b), y5, y6, y7, y8, y9, y10, y11]) ∧ seqOf S' d3 = some ((tkM wk rd bs starts plan i).map D.int) ∧ S'[b]? = some (.lst (th.map D.int)) ∧ th.Perm ((brM plan i).map (tickAt (tkM wk rd bs starts plan i)))) ⟨_, 0, [], _, _, _, _, _, ⟨_, _, rfl⟩, rfl, rfl, .refl _⟩ ?_ ?_
  · rintro i ρ S' K ip hK ⟨d3, b, th, y5, y6, y7, y8, y9, ⟨y10, y11, rfl⟩, h3, h4, pth⟩
    have ib : i < bs.length := by omega
    have hbi : bs[i]? = some bs[i] := List.getElem?_eq_getElem ib
    have hbb := hb12 _ (List.getElem_mem ib)
    obtain ⟨nd, rlt, few⟩ := stages_ok ok ip
    have hri : plan[i]? = some plan[i] := List.getElem?_eq_getElem ip
    have er : plan.getD i [] = plan[i] := by rw [List.getD_eq_getElem?_getD, hri]; rfl
    have eb : bs.getD i 0 = bs[i] := by rw [List.getD_eq_getElem?_getD, hbi]; rfl
    rw [er, eb] at few
    rw [er] at nd rlt
    have erow : tkM wk rd bs starts plan (i + 1) = rowM (tkM wk rd bs starts plan i) plan[i] (brM plan i) bs[i].toNat wk rd := by
      show rowM _ (plan.getD i []) _ (bs.getD i 0).toNat _ _ = _
      rw [er, eb]
    have ebr : brM plan (i + 1) = plan[i] := by
      unfold brM
      rw [if_neg (Nat.succ_ne_zero i), Nat.add_sub_cancel, er]
    have tl := tkM_len (walk := wk) (ride := rd) (bikes := bs) (starts := starts) (plan := plan) i
    have brl : (brM plan i).length ≤ 10 := by
      obtain ⟨_, b2⟩ := br_lt ok i
      have bn : (brM plan i).Nodup := by
        unfold brM
        split
        · exact List.nodup_nil
        · by_cases e : i - 1 < plan.length
          · rw [List.getD_eq_getElem?_getD, List.getElem?_eq_getElem e]
            exact (ok.asc _ (List.getElem_mem e)).imp fun h => Nat.ne_of_lt h
          · rw [List.getD_eq_getElem?_getD, List.getElem?_eq_none (by omega)]
            exact List.nodup_nil
      exact Nat.le_trans (nodup_le bn b2) n2
    have rl : (plan[i]).length ≤ 10 := Nat.le_trans (nodup_le nd rlt) n2
    obtain ⟨st, est⟩ : ∃ st : Nat, bs[i] = (st : Int) := ⟨bs[i].toNat, (Int.toNat_of_nonneg hbb.1).symm⟩
    have hbx : atI (bs.map D.int) (i : Int) = some (.int (st : Int)) := atI_nat (j := i) (by rw [List.getElem?_map, hbi, est]; rfl)
    have hpx : atI (plan.map ridersV) (i : Int) = some (ridersV plan[i]) := atI_nat (j := i) (by rw [List.getElem?_map, hri]; rfl)
    rw [est] at few hbb erow
    rw [Int.toNat_natCast] at few erow
    rw [show (0 + (i : Int)) = (i : Int) by omega]
    refine fin_stage (wk := wk) (rd := rd) hbx (by omega) hpx h3 h4 pth nd (fun p hp => by rw [tl]; exact rlt p hp) few rl brl (by omega) fun y6 y7 y8 y9 y10 y11 A => hK _ _ ⟨.cell A.length, A.length + 1, _, _, _, _, _, _, ⟨_, _, rfl⟩, ?_, get_B rfl, ?_⟩
    · rw [erow]
      exact seq_A rfl
    · rw [ebr, erow]
      exact come_perm few nd fun p hp => by rw [tl]; exact rlt p hp
  · rintro ρ S' ⟨d3, b, th, y5, y6, y7, y8, y9, ⟨y10, y11, rfl⟩, h3, h4, pth⟩
    have tl := tkM_len (walk := wk) (ride := rd) (bikes := bs) (starts := starts) (plan := plan) plan.length
    unfold finM at q
    rw [← hl] at q
    show gMax [d3] S' _
    refine gMax_seq h3 (fun z => ?_) ⟨⟨rfl, rfl⟩, q⟩
    rw [z] at tl
    simp at tl
    omega
end Pu
namespace Pu
open PySem L2 Rb Gm
theorem cut_init {xs : List D} {b : D} : cutD (xs ++ [b]) none (some (-1)) = xs := by
  unfold cutD
  have h1 : HT.sIx (xs ++ [b]).length 0 none = 0 := HT.sIx_none ..
  have hl : (xs ++ [b]).length = xs.length + 1 := by rw [List.length_append]; rfl
  have h2 : HT.sIx (xs ++ [b]).length (xs ++ [b]).length (some (-1)) = xs.length := by
    rw [hl]
    unfold HT.sIx
    simp
    omega
  rw [h1, h2, List.drop_zero, Nat.sub_zero, List.take_append_of_le_length (Nat.le_refl _), List.take_length]
end Pu
namespace Pu
open PySem L2 Rb Gm
theorem szB {n : Nat} (h : n ≤ 16000000) : n ≤ sizeLine := Nat.le_trans h (by unfold sizeLine; decide)
def pI (b : List (List Int)) : D := .tup (b.map tupI)
def lastI (b : List (List Int)) : Nat := (b.getLast?.getD []).length
theorem shp_ti {g : List Int} : Shp 1 (tupI g) := shp_intsT
theorem nil_eqT {neg : Bool} {ds : List D} {k : Nat} {S : Sto} {Q : QD} (h : ∀ d ∈ ds, Shp k d) (q : Q (.bl (nb neg ds.isEmpty)) S) (hk : k + 1 ≤ 64 := by decide) : iEqB neg (.tup ds) (.tup []) S Q := by
  obtain ⟨l, el, sl, cl⟩ := (Shp.tup h).sh hk
  obtain ⟨ps, es, rfl⟩ := Option.map_eq_some_iff.mp (show (toPyAll ds).map PyData.tuple = some l from el)
  refine eqB_ok (pyC_of el) (pyC_of (show toPy (.tup []) = some (.tuple []) from rfl)) sl (by decide) ?_
  have : PyData.eqv (.tuple ps) (.tuple []) = ds.isEmpty := by
    cases ds with
    | nil => cases es; rfl
    | cons d r =>
      have es : (toPy d).bind (fun z => (toPyAll r).map (z :: ·)) = some ps := es
      obtain ⟨z, ez, e⟩ := Option.bind_eq_some_iff.mp es
      obtain ⟨zs, ezs, rfl⟩ := Option.map_eq_some_iff.mp e
      rfl
  rw [this]
  exact q
theorem before_ok {p : List (List Int)} {a0 a1 a2 a3 a4 a6 a7 : Option D} {S : Sto} {Q : QD} (q : Q (.int (lastI p : Int)) S) :
    (dIf (dTest (dBin iNe (dVar 5) (dTup dNil))) (dB gLen (dCons (dBin gIx (dVar 5) (dUn gNeg (dC (.int 1)))) dNil)) (dC (.int 0))) [a0, a1, a2, a3, a4, some (pI p), a6, a7] S Q noE := by
  refine ⟨by show 0 ≤ sizeLine; exact Nat.zero_le _, ?_⟩
  refine nil_eqT (k := 1) (ds := p.map tupI) (fun d hd => ?_) ?_
  · obtain ⟨g, _, rfl⟩ := List.mem_map.mp hd
    exact shp_ti
  cases hp : p with
  | nil =>
    subst hp
    exact q
  | cons x r =>
    rw [← hp]
    have ne : p ≠ [] := by rw [hp]; exact List.cons_ne_nil _ _
    have ex : atI (p.map tupI) (-1) = some (tupI (p.getLast ne)) := by
      have := atI_last (p.dropLast.map tupI) (tupI (p.getLast ne))
      rw [show p.dropLast.map tupI ++ [tupI (p.getLast ne)] = p.map tupI by
        conv => rhs; rw [← List.dropLast_concat_getLast ne]
        rw [List.map_append]
        rfl] at this
      exact this
    have el : lastI p = (p.getLast ne).length := by
      unfold lastI
      rw [List.getLast?_eq_some_getLast ne]
      rfl
    rw [el] at q
    have e0 : (p.map tupI).isEmpty = false := by rw [hp]; rfl
    rw [e0]
    show onSome (atI (p.map tupI) (-1)) _
    refine onS ex ?_
    show Q (.int (((p.getLast ne).map D.int).length : Int)) S
    rw [List.length_map]
    exact q
end Pu
namespace Pu
open PySem L2 Rb Gm
/-! ## the law's own plans, in order -/
def lastL (p : List (List Nat)) : Nat := (p.getLast?.getD []).length
theorem lastL_snoc {p : List (List Nat)} {g : List Nat} : lastL (p ++ [g]) = g.length := by
  unfold lastL
  rw [List.getLast?_append]
  rfl
/-- the first stages of plans, ascending -/
structure Asc (n : Nat) (bs : List Int) (L : List (List (List Nat))) : Prop where
  asc : L.Pairwise ltP
  mem : ∀ p, p ∈ L ↔ PlG n 0 bs p
theorem asc0 {n : Nat} : Asc n [] [[]] := ⟨List.pairwise_singleton .., fun p => by
  rw [List.mem_singleton]
  constructor
  · rintro rfl
    exact trivial
  · intro h
    cases p with
    | nil => rfl
    | cons r x => exact h.elim⟩
theorem plG_snoc {n : Nat} {b : Int} {g : List Nat} : ∀ (br : Nat) (bs : List Int) (p : List (List Nat)), PlG n br (bs ++ [b]) (p ++ [g]) ↔ (PlG n br bs p ∧ GrOk 0 n (b.toNat + if p = [] then br else lastL p) g)
  | br, [], [] => ⟨fun h => ⟨trivial, h.1⟩, fun h => ⟨h.2, trivial⟩⟩
  | br, [], r :: x => ⟨fun h => by
      have := h.len
      simp at this, fun h => h.1.elim⟩
  | br, c :: bs, [] => ⟨fun h => by
      have := h.len
      simp at this, fun h => h.1.elim⟩
  | br, c :: bs, r :: x => by
    have ih := plG_snoc (n := n) (b := b) (g := g) r.length bs x
    have e : (if x = [] then r.length else lastL x) = lastL (r :: x) := by
      cases x with
      | nil => rfl
      | cons s y =>
        rw [if_neg (by intro z; cases z)]
        unfold lastL
        rw [List.getLast?_cons_cons]
    rw [e] at ih
    constructor
    · rintro ⟨h1, h2⟩
      obtain ⟨h3, h4⟩ := ih.mp h2
      refine ⟨⟨h1, h3⟩, ?_⟩
      rw [if_neg (by intro z; cases z)]
      exact h4
    · rintro ⟨⟨h1, h3⟩, h4⟩
      rw [if_neg (by intro z; cases z)] at h4
      exact ⟨h1, ih.mpr ⟨h3, h4⟩⟩
theorem ltP_snoc {p q : List (List Nat)} {g h : List Nat} : ltP p q → ltP (p ++ [g]) (q ++ [h]) := by
  induction p generalizing q with
  | nil => intro z; cases q <;> exact z.elim
  | cons r x ih =>
    intro z
    cases q with
    | nil => exact z.elim
    | cons s y =>
      rcases z with c | ⟨rfl, c⟩
      · exact .inl c
      · exact .inr ⟨rfl, ih c⟩
theorem ltP_same {g h : List Nat} : ∀ {p : List (List Nat)}, ltR g h → ltP (p ++ [g]) (p ++ [h])
  | [], z => .inl z
  | _ :: _, z => .inr ⟨rfl, ltP_same z⟩
/-- one stage more -/
theorem asc_succ {n : Nat} {bs : List Int} {b : Int} {L : List (List (List Nat))} {G : List (List Nat) → List (List Nat)} (h : Asc n bs L) (hG : ∀ p ∈ L, (G p).Pairwise ltR ∧ ∀ g, g ∈ G p ↔ GrOk 0 n (b.toNat + lastL p) g) : Asc n (bs ++ [b]) (L.flatMap fun p => (G p).map fun g => p ++ [g]) := by
  refine ⟨?_, fun p => ?_⟩
  · have hm := h.mem
    have ha := h.asc
    clear h
    have go : ∀ L : List (List (List Nat)), L.Pairwise ltP → (∀ p ∈ L, (G p).Pairwise ltR) → (L.flatMap fun p => (G p).map fun g => p ++ [g]).Pairwise ltP := by
      intro L
      induction L with
      | nil => intro _ _; exact List.Pairwise.nil
      | cons p L ih =>
        intro h1 h2
        obtain ⟨c1, c2⟩ := List.pairwise_cons.mp h1
        rw [List.flatMap_cons]
        refine List.pairwise_append.mpr ⟨List.pairwise_map.mpr ((h2 p List.mem_cons_self).imp fun z => ltP_same z), ih c2 fun q hq => h2 q (List.mem_cons_of_mem _ hq), fun x hx y hy => ?_⟩
        obtain ⟨g, _, rfl⟩ := List.mem_map.mp hx
        obtain ⟨q, hq, hy⟩ := List.mem_flatMap.mp hy
        obtain ⟨g2, _, rfl⟩ := List.mem_map.mp hy
        exact ltP_snoc (c1 q hq)
    exact go L ha fun p hp => (hG p hp).1
  · rw [List.mem_flatMap]
    have z0 : ∀ q : List (List Nat), (if q = [] then 0 else lastL q) = lastL q := fun q => by
      split
      · rename_i e
        rw [e]
        rfl
      · rfl
    constructor
    · rintro ⟨q, hq, hp⟩
      obtain ⟨g, hg, rfl⟩ := List.mem_map.mp hp
      refine (plG_snoc 0 bs q).mpr ⟨(h.mem q).mp hq, ?_⟩
      rw [z0]
      exact ((hG q hq).2 g).mp hg
    · intro hp
      rcases List.eq_nil_or_concat p with rfl | ⟨q, g, rfl⟩
      · have := hp.len
        simp at this
      · rw [List.concat_eq_append] at hp ⊢
        obtain ⟨h1, h2⟩ := (plG_snoc 0 bs q).mp hp
        rw [z0] at h2
        have hq := (h.mem q).mpr h1
        exact ⟨q, hq, List.mem_map.mpr ⟨g, ((hG q hq).2 g).mpr h2, rfl⟩⟩
end Pu
namespace Pu
open PySem L2 Rb Gm
theorem src_inB {k : Nat} {xs : List D} {S S' : Sto} {P : Prop} (h0 : S[k]? = some (.lst xs)) (h : S'[k]? = some (.lst xs)) (p : P) : srcOk (srcOf S (.cell k)) S' P := by
  have e : srcOf S (.cell k) = [(k, xs)] := by
    show src1 k (lstAt S[k]?) = _
    rw [h0]
    rfl
  rw [e]
  exact ⟨h, p⟩
theorem seq_inB {S : Sto} {k : Nat} {xs : List D} (h : S[k]? = some (.lst xs)) : seqOf S (.cell k) = some xs := by
  show lstAt S[k]? = _
  rw [h]
  rfl
theorem below_pIs {k : Nat} {L : List (List (List Int))} : belowAll k (L.map pI) = true := by
  refine below_iff.mpr fun d hd => ?_
  obtain ⟨b, _, rfl⟩ := List.mem_map.mp hd
  show belowAll k (b.map tupI) = true
  refine below_iff.mpr fun d hd => ?_
  obtain ⟨g, _, rfl⟩ := List.mem_map.mp hd
  exact below_ints g
/-! how great a count may be -/
end Pu
namespace Pu
open PySem L2 Rb Gm
theorem planV_pI (p : List (List Nat)) : planV p = pI (p.map nI) := by
  unfold planV pI
  rw [List.map_map]
  exact congrArg _ (List.map_congr_left fun g _ => riders_ti g)
theorem lastL_I (p : List (List Nat)) : lastI (p.map nI) = lastL p := by
  unfold lastI lastL
  rw [List.getLast?_map]
  cases p.getLast? with
  | none => rfl
  | some g => exact nI_len g
theorem before3_ok {p : List (List Nat)} {a0 a1 a2 a3 a4 a6 a7 : Option D} {S : Sto} {Q : QD} (q : Q (.int (lastL p : Int)) S) :
    (dIf (dTest (dBin iNe (dVar 5) (dTup dNil))) (dB gLen (dCons (dBin gIx (dVar 5) (dUn gNeg (dC (.int 1)))) dNil)) (dC (.int 0))) [a0, a1, a2, a3, a4, some (planV p), a6, a7] S Q noE := by
  rw [planV_pI]
  exact before_ok (by rw [lastL_I]; exact q)
theorem extend3_ok {p : List (List Nat)} {acc : List (List (List Nat))} {n : Nat} {before standing : Int} {A : Sto} {a0 a2 a7 : Option D} {Q : QD} (n2 : n ≤ 10) (b0 : 0 ≤ before) (s0 : 0 ≤ standing) (al : acc.length ≤ 2000000)
    (hp : p.length ≤ 20) (q : ∀ gs : List (List Nat), gs.Pairwise ltR → (∀ g, g ∈ gs ↔ GrOk 0 n (before + standing).toNat g) → gs.length ≤ 2 ^ n → Q .non (A ++ [.lst ((acc ++ gs.map fun g => p ++ [g]).map planV)])) :
    (dML gExtend (dVar 4) (dCons (dLc (st1 7) dYes (dBin gAdd (dVar 5) (dTup (dCons (dVar 7) dNil))) (dItS (dCallW F_law_groups (dCons (dVar 1) (dCons (dBin gAdd (dVar 6) (dVar 3)) dNil))))) dNil))
      [a0, some (.int (n : Int)), a2, some (.int standing), some (.cell A.length), some (planV p), some (.int before), a7] (A ++ [.lst (acc.map planV)]) Q noE := by
  have cl : cellOf (A ++ [.lst (acc.map planV)]) (.cell A.length) = some (A.length, acc.map planV) := by
    show (lstAt (A ++ [Cl.lst (acc.map planV)])[A.length]?).map _ = _
    rw [List.getElem?_append_right (Nat.le_refl _), Nat.sub_self]
    rfl
  have pw : 2 ^ n ≤ 1024 := show 2 ^ n ≤ 2 ^ 10 from Nat.pow_le_pow_right (by decide) n2
  refine onS cl (groups2_ok (by omega) (by omega) fun gs ga gm gl => ?_)
  refine ⟨szd (by show (gs.map ridersV).length ≤ 100000; rw [List.length_map]; omega), ?_⟩
  refine comp_mapB (src := []) ridersV (fun g => planV (p ++ [g])) (fun _ z => z) gs [] (fun g hg => ⟨_, rfl, fun Q' q' => ⟨szr rfl, ?_⟩⟩) ?_
  · refine ⟨szd (by show (p.map ridersV).length + 1 ≤ 100000; rw [List.length_map]; omega), ?_⟩
    have e : planV (p ++ [g]) = .tup (p.map ridersV ++ [ridersV g]) := by
      unfold planV
      rw [List.map_append]
      rfl
    rw [e] at q'
    exact q'
  rw [List.nil_append]
  refine onS cl ⟨szB (by rw [List.length_map, List.length_map]; omega), ?_⟩
  show Q .non ((A ++ [Cl.lst (acc.map planV)]).set A.length (Cl.lst (acc.map planV ++ gs.map fun g => planV (p ++ [g]))))
  have := q gs ga gm gl
  rw [List.map_append, List.map_map] at this
  rw [set_last]
  exact this
theorem inner3_ok {n : Nat} {standing : Int} {L : List (List (List Nat))} {A : Sto} {src : Src} {De : DEnds} {a0 a2 a5 a6 a7 : Option D} (n2 : n ≤ 10) (s0 : 0 ≤ standing) (Ll : L.length * 2 ^ n ≤ 2000000) (nd : L.Nodup) (lp : ∀ p ∈ L, p.length ≤ 20)
    (hs : ∀ X P, P → srcOk src (A ++ X) P) (q : ∀ (G : List (List Nat) → List (List Nat)) y5 y6 y7, (∀ p ∈ L, (G p).Pairwise ltR ∧ ∀ g, g ∈ G p ↔ GrOk 0 n (standing.toNat + lastL p) g) → (L.flatMap fun p => (G p).map fun g => p ++ [g]).length ≤ L.length * 2 ^ n →
      De.nx [a0, some (.int (n : Int)), a2, some (.int standing), some (.cell A.length), y5, y6, y7] (A ++ [.lst ((L.flatMap fun p => (G p).map fun g => p ++ [g]).map planV)])) :
    dLoop (gN 5) (dSeq (dAsg (dIf (dTest (dBin iNe (dVar 5) (dTup dNil))) (dB gLen (dCons (dBin gIx (dVar 5) (dUn gNeg (dC (.int 1)))) dNil)) (dC (.int 0))) (gN 6))
      (dDrop (dML gExtend (dVar 4) (dCons (dLc (st1 7) dYes (dBin gAdd (dVar 5) (dTup (dCons (dVar 7) dNil))) (dItS (dCallW F_law_groups (dCons (dVar 1) (dCons (dBin gAdd (dVar 6) (dVar 3)) dNil))))) dNil)))) src (L.map planV)
      [a0, some (.int (n : Int)), a2, some (.int standing), some (.cell A.length), a5, a6, a7] (A ++ [.lst []]) De noE := by
  refine for_inv (L.map planV) (fun j ρ S => ∃ (G : List (List Nat) → List (List Nat)) (y5 y6 y7 : Option D), ρ = [a0, some (.int (n : Int)), a2, some (.int standing), some (.cell A.length), y5, y6, y7] ∧ S = A ++ [.lst (((L.take j).flatMap fun p => (G p).map fun g => p ++ [g]).map planV)] ∧ j ≤ L.length ∧ ((L.take j).flatMap fun p => (G p).map fun g => p ++ [g]).length ≤ j * 2 ^ n ∧
      ∀ p ∈ L.take j, (G p).Pairwise ltR ∧ ∀ g, g ∈ G p ↔ GrOk 0 n (standing.toNat + lastL p) g)
    ⟨fun _ => [], _, _, _, rfl, rfl, Nat.zero_le _, Nat.zero_le _, fun x h => absurd h List.not_mem_nil⟩ ?_ ?_ ?_
  · rintro j x ρ S K hx hK ⟨G, y5, y6, y7, rfl, rfl, hj, hl, hG⟩
    rw [List.getElem?_map] at hx
    obtain ⟨p, hp, rfl⟩ := Option.map_eq_some_iff.mp hx
    have hj2 : j < L.length := (List.getElem?_eq_some_iff.mp hp).1
    have jl : j * 2 ^ n ≤ L.length * 2 ^ n := Nat.mul_le_mul_right _ hj
    have hn : p ∉ L.take j := fun h => by
      obtain ⟨i, hi, e⟩ := List.getElem_of_mem h
      rw [List.length_take] at hi
      rw [List.getElem_take] at e
      have hpj : L[j] = p := (List.getElem?_eq_some_iff.mp hp).2
      have := List.pairwise_iff_getElem.mp (List.nodup_iff_pairwise_ne.mp nd) i j (by omega) hj2 (by omega)
      exact this (e.trans hpj.symm)
    refine before3_ok ?_
    refine extend3_ok n2 (by omega) s0 (by omega) (lp p (List.mem_of_getElem? hp)) fun gs ga gm gl => hK _ _ ⟨fun q => if q = p then gs else G q, _, _, _, rfl, ?_, by omega, ?_, fun q hq => ?_⟩
    · rw [List.take_add_one, hp, List.flatMap_append]
      have e1 : ((L.take j).flatMap fun q => (if q = p then gs else G q).map fun g => q ++ [g]) = (L.take j).flatMap fun q => (G q).map fun g => q ++ [g] := by
        rw [List.flatMap_def, List.flatMap_def]
        congr 1
        refine List.map_congr_left fun q hq => ?_
        rw [if_neg (fun e : q = p => hn (e ▸ hq))]
      rw [e1]
      simp
    · rw [List.take_add_one, hp, List.flatMap_append]
      have e1 : ((L.take j).flatMap fun q => (if q = p then gs else G q).map fun g => q ++ [g]) = (L.take j).flatMap fun q => (G q).map fun g => q ++ [g] := by
        rw [List.flatMap_def, List.flatMap_def]
        congr 1
        refine List.map_congr_left fun q hq => ?_
        rw [if_neg (fun e : q = p => hn (e ▸ hq))]
      rw [e1, List.length_append, Nat.succ_mul]
      have : (Option.toList (some p)).flatMap (fun q => (if q = p then gs else G q).map fun g => q ++ [g]) = gs.map fun g => p ++ [g] := by simp
      rw [this, List.length_map]
      omega
    · rw [List.take_add_one, hp] at hq
      rcases List.mem_append.mp hq with z | z
      · dsimp only
        rw [if_neg (fun e : q = p => hn (e ▸ z))]
        exact hG q z
      · have e : q = p := by simpa using z
        subst e
        dsimp only
        rw [if_pos rfl]
        refine ⟨ga, fun g => ?_⟩
        rw [gm g, show ((lastL q : Int) + standing).toNat = standing.toNat + lastL q by omega]
  · rintro ρ S ⟨G, y5, y6, y7, rfl, rfl, hj, hl, hG⟩
    rw [List.length_map, List.take_length] at hl hG
    rw [List.length_map, List.take_length]
    exact q G _ _ _ hG hl
  · rintro i ρ S ⟨G, y5, y6, y7, rfl, rfl, _⟩ P z
    exact hs _ P z
end Pu
namespace Pu
open PySem L2 Rb Gm
theorem Asc.nodup {n : Nat} {bs : List Int} {L : List (List (List Nat))} (h : Asc n bs L) : L.Nodup := List.nodup_iff_pairwise_ne.mpr (h.asc.imp fun {a b} z (e : a = b) => ltP_irr a (by
  subst e
  exact z))
theorem below_plans3 {k : Nat} {L : List (List (List Nat))} : belowAll k (L.map planV) = true := by
  have e : L.map planV = (L.map (List.map nI)).map pI := by
    rw [List.map_map]
    exact List.map_congr_left fun p _ => planV_pI p
  rw [e]
  exact below_pIs
theorem plans3_ok {wk rd : Int} {bs : List Int} {n : Nat} {Q : QD} {E : ED} (n2 : n ≤ 10) (l2 : bs.length ≤ 5) (hb : ∀ b ∈ bs, 0 ≤ b) (few : (2 ^ n) ^ bs.length ≤ 2000000) (q : ∀ (f : Bool) (L : List (List (List Nat))), Asc n bs L → L.length ≤ (2 ^ n) ^ bs.length → Q (.lst f (L.map planV)) []) : F_law_plans [roadV wk rd bs, .int (n : Int)] [] Q E := by
  unfold F_law_plans
  refine ⟨rfl, szr rfl, szr rfl, ?_⟩
  show dLoop _ _ _ (bs.map D.int) _ _ _ _
  refine for_inv (src := []) (bs.map D.int) (fun i ρ S' => ∃ (T : Sto) (v2 : D) (L : List (List (List Nat))) (b : Bool) (y3 y4 y5 y6 y7 : Option D), ρ = [some (roadV wk rd bs), some (.int (n : Int)), some v2, y3, y4, y5, y6, y7] ∧ (v2 = .lst b (L.map planV) ∨ (v2 = .cell T.length ∧ S' = T ++ [.lst (L.map planV)])) ∧ L.length ≤ (2 ^ n) ^ i ∧ Asc n (bs.take i) L)
    ⟨[], _, [[]], _, _, _, _, _, _, rfl, .inl rfl, Nat.le_refl _, asc0⟩ ?_ ?_
  · rintro i x ρ S' K hx hK ⟨T, v2, L, b, y3, y4, y5, y6, y7, rfl, hv, ll, ha⟩
    rw [List.getElem?_map] at hx
    obtain ⟨s, hbi, rfl⟩ := Option.map_eq_some_iff.mp hx
    have hi : i < bs.length := (List.getElem?_eq_some_iff.mp hbi).1
    have s0 : 0 ≤ s := hb s (List.mem_of_getElem? hbi)
    have p1 : 1 ≤ 2 ^ n := Nat.pos_of_ne_zero (by simp)
    have pw : (2 ^ n) ^ i * 2 ^ n ≤ (2 ^ n) ^ bs.length := by
      rw [← Nat.pow_succ]
      exact Nat.pow_le_pow_right p1 hi
    have Ll : L.length * 2 ^ n ≤ 2000000 := Nat.le_trans (Nat.mul_le_mul_right _ ll) (Nat.le_trans pw few)
    have lp : ∀ p ∈ L, p.length ≤ 20 := fun p hp => by
      have := ((ha.mem p).mp hp).len
      rw [List.length_take] at this
      omega
    have fin : ∀ (G : List (List Nat) → List (List Nat)) (y5 y6 y7 : Option D), (∀ p ∈ L, (G p).Pairwise ltR ∧ ∀ g, g ∈ G p ↔ GrOk 0 n (s.toNat + lastL p) g) → (L.flatMap fun p => (G p).map fun g => p ++ [g]).length ≤ L.length * 2 ^ n →
        K [some (roadV wk rd bs), some (.int (n : Int)), some (.cell S'.length), some (.int s), some (.cell S'.length), y5, y6, y7] (S' ++ [.lst ((L.flatMap fun p => (G p).map fun g => p ++ [g]).map planV)]) := fun G y5 y6 y7 hG gl => hK _ _ ⟨S', _, _, true, _, _, _, _, _, rfl, .inr ⟨rfl, rfl⟩, by
          rw [Nat.pow_succ]
          exact Nat.le_trans gl (Nat.mul_le_mul_right _ ll), by
          rw [List.take_add_one, hbi]
          exact asc_succ ha hG⟩
    refine ⟨szr rfl, ?_⟩
    rcases hv with rfl | ⟨rfl, rfl⟩
    · exact inner3_ok n2 s0 Ll ha.nodup lp (fun _ _ z => z) fin
    · refine onS (seq_inB (xs := L.map planV) (by rw [List.append_assoc, List.getElem?_append_right (Nat.le_refl _), Nat.sub_self]; rfl)) ?_
      exact inner3_ok n2 s0 Ll ha.nodup lp (fun X P z => src_inB (xs := L.map planV) (by rw [List.append_assoc, List.getElem?_append_right (Nat.le_refl _), Nat.sub_self]; rfl) (by rw [List.append_assoc, List.getElem?_append_right (Nat.le_refl _), Nat.sub_self]; rfl) z) fin
  · rintro ρ S' ⟨T, v2, L, b, y3, y4, y5, y6, y7, rfl, hv, ll, ha⟩
    rw [List.length_map] at ll ha
    rw [List.take_length] at ha
    rcases hv with rfl | ⟨rfl, rfl⟩
    · refine ⟨⟨rfl, rfl⟩, onS (a := .lst b (L.map planV)) ?_ (q b _ ha ll)⟩
      show (if belowAll 0 (L.map planV) = true then some (D.lst b (L.map planV)) else none) = _
      rw [below_plans3]
      rfl
    · refine ⟨⟨rfl, rfl⟩, onS (a := .lst false (L.map planV)) ?_ (q false _ ha ll)⟩
      show (match (T ++ [Cl.lst (L.map planV)])[T.length]? with
        | some (.lst xs) => if belowAll 0 xs = true then some (D.lst false xs) else none
        | some (.ins x fs) => if belowFs 0 fs = true then some (D.ins x fs) else none
        | some (.dct _ _) => none | none => none) = _
      rw [List.getElem?_append_right (Nat.le_refl _), Nat.sub_self]
      show (if belowAll 0 (L.map planV) = true then some (D.lst false (L.map planV)) else none) = _
      rw [below_plans3]
      rfl
end Pu
namespace Pu
open PySem L2 Rb Gm
/-! ## how many plans -/
theorem asc_any (n : Nat) (bs : List Int) : ∃ L, Asc n bs L := by
  obtain ⟨ds, c, hd⟩ := plans_any (n := n) (bs := bs)
  exact ⟨ds, (ch_asc c (plG_min 0 bs).1).1, hd⟩
theorem asc_uniq {n : Nat} {bs : List Int} {L M : List (List (List Nat))} (h1 : Asc n bs L) (h2 : Asc n bs M) : L = M := asc_same h1.asc h2.asc fun x => (h1.mem x).trans (h2.mem x).symm
/-- the groups, ascending -/
theorem grp_any (n m : Nat) : ∃ gs : List (List Nat), gs.Pairwise ltR ∧ ∀ g, g ∈ gs ↔ GrOk 0 n m g := by
  obtain ⟨L, h⟩ := asc_any n [(m : Int)]
  have one : ∀ p, p ∈ L → ∃ g, p = [g] ∧ GrOk 0 n m g := fun p hp => by
    have := (h.mem p).mp hp
    cases p with
    | nil => exact this.elim
    | cons g x =>
      cases x with
      | nil => exact ⟨g, rfl, this.1⟩
      | cons _ _ => exact this.2.elim
  refine ⟨L.map fun p => p.headD [], ?_, fun g => ?_⟩
  · refine List.pairwise_map.mpr ?_
    have ha := h.asc
    have : ∀ {l : List (List (List Nat))}, (∀ p ∈ l, ∃ g, p = [g] ∧ GrOk 0 n m g) → l.Pairwise ltP → l.Pairwise fun a b => ltR (a.headD []) (b.headD []) := by
      intro l
      induction l with
      | nil => intro _ _; exact List.Pairwise.nil
      | cons p l ih =>
        intro h1 h2
        obtain ⟨c1, c2⟩ := List.pairwise_cons.mp h2
        refine List.pairwise_cons.mpr ⟨fun q hq => ?_, ih (fun q hq => h1 q (List.mem_cons_of_mem _ hq)) c2⟩
        obtain ⟨g, rfl, _⟩ := h1 p List.mem_cons_self
        obtain ⟨g2, rfl, _⟩ := h1 q (List.mem_cons_of_mem _ hq)
        rcases c1 _ hq with z | ⟨_, z⟩
        · exact z
        · exact z.elim
    exact this one ha
  · constructor
    · intro hg
      obtain ⟨p, hp, e⟩ := List.mem_map.mp hg
      obtain ⟨g', rfl, ok⟩ := one p hp
      have e : g' = g := e
      exact e ▸ ok
    · intro ok
      exact List.mem_map.mpr ⟨[g], (h.mem _).mpr ⟨ok, trivial⟩, rfl⟩
theorem ltR_nodup {gs : List (List Nat)} (h : gs.Pairwise ltR) : gs.Nodup := List.nodup_iff_pairwise_ne.mpr (h.imp fun {a b} z (e : a = b) => ltR_irr a (by
  subst e
  exact z))
def grN (n m : Nat) : Nat := (grpM m n).length
theorem grN_eq {n m : Nat} {gs : List (List Nat)} (h : gs.Nodup) (hm : ∀ g, g ∈ gs ↔ GrOk 0 n m g) : gs.length = grN n m :=
  ((List.perm_ext_iff_of_nodup h (grp_nodup n)).mpr fun g => (hm g).trans (grp_ok n g).symm).length_eq
theorem grOk_len {lo n m : Nat} {g : List Nat} (h : GrOk lo n m g) : g.length ≤ n := by
  have := len_le_of (n := n) (l := g) (m := List.range n) (h.asc.imp fun h => Nat.ne_of_lt h) List.nodup_range (fun q hq => List.mem_range.mp hq) fun q hq => List.mem_range.mpr (h.hi q hq)
  rw [List.length_range] at this
  exact this
theorem grN_count {n m : Nat} : grN n m = (grpM n n).countP fun g => decide (g.length ≤ m) := by
  rw [List.countP_eq_length_filter]
  refine ((List.perm_ext_iff_of_nodup (grp_nodup n) ((grp_nodup n).filter _)).mpr fun g => ?_).length_eq
  rw [List.mem_filter, grp_ok, grp_ok]
  constructor
  · intro h
    exact ⟨⟨h.asc, h.lo, h.hi, grOk_len h⟩, decide_eq_true h.len⟩
  · rintro ⟨h, e⟩
    exact ⟨h.asc, h.lo, h.hi, of_decide_eq_true e⟩
theorem grN_mono {n m m' : Nat} (h : m ≤ m') : grN n m ≤ grN n m' := by
  rw [grN_count, grN_count]
  refine List.countP_mono_left fun g _ e => decide_eq_true ?_
  have := of_decide_eq_true e
  omega
theorem grN_cap {n m : Nat} : grN n m = grN n (min n m) := by
  rw [grN_count, grN_count]
  refine List.countP_congr fun g hg => ?_
  have := grOk_len ((grp_ok n g).mp hg)
  simp only [decide_eq_true_eq]
  omega
theorem flat_le {α β : Type} {f : α → List β} {k : Nat} : ∀ {l : List α}, (∀ x ∈ l, (f x).length ≤ k) → (l.flatMap f).length ≤ l.length * k
  | [], _ => Nat.zero_le _
  | x :: l, h => by
    rw [List.flatMap_cons, List.length_append, List.length_cons, Nat.succ_mul]
    have := flat_le (l := l) fun y hy => h y (List.mem_cons_of_mem _ hy)
    have := h x List.mem_cons_self
    omega
/-- one stage more: so many plans at the most -/
theorem asc_bound {n v c : Nat} {bs : List Int} {b : Int} (h : ∀ L, Asc n bs L → L.length ≤ v ∧ ∀ p ∈ L, lastL p ≤ c) : ∀ L, Asc n (bs ++ [b]) L → L.length ≤ v * grN n (min n (b.toNat + c)) ∧ ∀ p ∈ L, lastL p ≤ min n (b.toNat + c) := by
  intro M hM
  obtain ⟨L, hL⟩ := asc_any n bs
  obtain ⟨h1, h2⟩ := h L hL
  have ex := fun p : List (List Nat) => grp_any n (b.toNat + lastL p)
  have hs := asc_succ (b := b) (G := fun p => Classical.choose (ex p)) hL fun p _ => Classical.choose_spec (ex p)
  have e := asc_uniq hM hs
  subst e
  refine ⟨Nat.le_trans (flat_le (k := grN n (min n (b.toNat + c))) fun p hp => ?_) (Nat.mul_le_mul_right _ h1), fun p hp => ?_⟩
  · obtain ⟨s1, s2⟩ := Classical.choose_spec (ex p)
    rw [List.length_map, grN_eq (ltR_nodup s1) s2, ← grN_cap]
    exact grN_mono (by have := h2 p hp; omega)
  · obtain ⟨q, hq, hp⟩ := List.mem_flatMap.mp hp
    obtain ⟨g, hg, rfl⟩ := List.mem_map.mp hp
    obtain ⟨_, s2⟩ := Classical.choose_spec (ex q)
    have ok := (s2 g).mp hg
    rw [lastL_snoc]
    have := h2 q hq
    have := ok.len
    have := grOk_len ok
    omega
end Pu
namespace Pu
open PySem L2 Rb Gm
theorem bound3_ok {wk rd : Int} {bs : List Int} {n : Nat} {S : Sto} {Q : QD} {E : ED} (n2 : n ≤ 10) (hb : ∀ b ∈ bs, 0 ≤ b) (q : ∀ v : Nat, (∀ L, Asc n bs L → L.length ≤ v) → (bs.length ≤ 1 → v ≤ 2 ^ n) → Q (.int (v : Int)) S) : F_law_bound [roadV wk rd bs, .int (n : Int)] S Q E := by
  unfold F_law_bound
  refine ⟨rfl, szr rfl, rfl, ?_⟩
  show dLoop _ _ [] (bs.map D.int) _ _ _ _
  refine for_inv (src := []) (bs.map D.int) (fun j ρ S' => S' = S ∧ ∃ (v c : Nat) (y4 : Option D), ρ = [some (roadV wk rd bs), some (.int (n : Int)), some (.int (v : Int)), some (.int (c : Int)), y4] ∧ (∀ L, Asc n (bs.take j) L → L.length ≤ v ∧ ∀ p ∈ L, lastL p ≤ c) ∧ (j ≤ 1 → v ≤ 2 ^ n) ∧ (j = 0 → v = 1)) ⟨rfl, 1, 0, _, rfl, fun L hL => ?_, fun _ => Nat.pos_of_ne_zero (by simp), fun _ => rfl⟩ ?_ ?_
  · rw [asc_uniq hL (show Asc n (bs.take 0) [[]] from asc0)]
    exact ⟨Nat.le_refl _, fun p hp => by rw [List.mem_singleton.mp hp]; exact Nat.le_refl _⟩
  · rintro j x ρ S' K hx hK ⟨rfl, v, c, y4, rfl, hL, h1, h0⟩
    rw [List.getElem?_map] at hx
    obtain ⟨s, hs, rfl⟩ := Option.map_eq_some_iff.mp hx
    have s0 := hb s (List.mem_of_getElem? hs)
    have ec : (if (c : Int) + s < (n : Int) then (c : Int) + s else (n : Int)) = ((min n (s.toNat + c) : Nat) : Int) := by split <;> omega
    show F_law_groups [.int (n : Int), .int (if (c : Int) + s < (n : Int) then (c : Int) + s else (n : Int))] S' _ _
    rw [ec]
    refine groups2_ok n2 (by omega) fun gs ga gm gl => ?_
    rw [Int.toNat_natCast] at gm
    have pw : 2 ^ n ≤ 1024 := show 2 ^ n ≤ 2 ^ 10 from Nat.pow_le_pow_right (by decide) n2
    have ge := grN_eq (ltR_nodup ga) gm
    have el : (gs.map ridersV).length = gs.length := List.length_map ..
    have em : (v : Int) * ((gs.map ridersV).length : Int) = ((v * gs.length : Nat) : Int) := by rw [el]; exact (Int.natCast_mul v gs.length).symm
    refine ⟨.inl (.inr ⟨by show (-(2 ^ 64) : Int) < ((gs.map ridersV).length : Int); omega, by show ((gs.map ridersV).length : Int) < 2 ^ 64; omega⟩), hK _ _ ⟨rfl, v * gs.length, min n (s.toNat + c), _, by rw [← em], ?_, fun z => ?_, fun z => by omega⟩⟩
    · rw [List.take_add_one, hs, ge]
      exact asc_bound hL
    · have : j = 0 := by omega
      rw [h0 this, Nat.one_mul]
      exact gl
  · rintro ρ S' ⟨rfl, v, c, y4, rfl, hL, h1, h0⟩
    rw [List.length_map, List.take_length] at hL
    rw [List.length_map] at h1
    exact q v (fun L h => (hL L h).1) h1
end Pu
namespace Pu
open PySem L2 Rb Gm
/-! ## what count_good counts -/
theorem plansM_snoc {n s : Nat} : ∀ (ss : List Nat) (fs : List (List (List Nat))), plansM n (ss ++ [s]) fs = longM n s (plansM n ss fs)
  | [], _ => rfl
  | t :: ss, fs => plansM_snoc ss (longM n t fs)
theorem long_mem {n s : Nat} {fs : List (List (List Nat))} {x : List (List Nat)} : x ∈ longM n s fs ↔ ∃ p ∈ fs, ∃ g ∈ grpM (lastM p + s) n, x = p ++ [g] := by
  unfold longM
  rw [List.mem_flatten]
  constructor
  · rintro ⟨l, hl, hx⟩
    obtain ⟨p, hp, rfl⟩ := List.mem_map.mp hl
    obtain ⟨g, hg, rfl⟩ := List.mem_map.mp hx
    exact ⟨p, hp, g, hg, rfl⟩
  · rintro ⟨p, hp, g, hg, rfl⟩
    exact ⟨_, List.mem_map.mpr ⟨p, hp, rfl⟩, List.mem_map.mpr ⟨g, hg, rfl⟩⟩
theorem last_LM (p : List (List Nat)) : lastM p = lastL p := rfl
theorem plM_mem {n : Nat} : ∀ (k : Nat) (bs : List Int), bs.length = k → ∀ x, x ∈ plansM n (bs.map Int.toNat) [[]] ↔ PlG n 0 bs x
  | 0, bs, hk, x => by
    obtain rfl := List.length_eq_zero_iff.mp hk
    show x ∈ [[]] ↔ _
    rw [List.mem_singleton]
    cases x with
    | nil => exact ⟨fun _ => trivial, fun _ => rfl⟩
    | cons _ _ => exact ⟨(fun z => nomatch z), fun z => z.elim⟩
  | k + 1, bs, hk, x => by
    rcases List.eq_nil_or_concat bs with rfl | ⟨A, b, rfl⟩
    · cases hk
    rw [List.concat_eq_append] at hk ⊢
    rw [List.length_append] at hk
    have ih := plM_mem (n := n) k A (by simpa using hk)
    rw [List.map_append]
    show x ∈ plansM n (A.map Int.toNat ++ [b.toNat]) [[]] ↔ _
    rw [plansM_snoc, long_mem]
    have li : ∀ p : List (List Nat), (if p = [] then 0 else lastL p) = lastL p := fun p => by
      split
      · rename_i h
        rw [h]
        rfl
      · rfl
    constructor
    · rintro ⟨p, hp, g, hg, rfl⟩
      rw [plG_snoc, li, ← last_LM, Nat.add_comm]
      exact ⟨(ih p).mp hp, (grp_ok _ _).mp hg⟩
    · intro h
      rcases List.eq_nil_or_concat x with rfl | ⟨p, g, rfl⟩
      · cases A <;> exact h.elim
      · rw [List.concat_eq_append] at h ⊢
        rw [plG_snoc, li, ← last_LM, Nat.add_comm] at h
        exact ⟨p, (ih p).mpr h.1, g, (grp_ok _ _).mpr h.2, rfl⟩
theorem plM_nodup {n : Nat} : ∀ (ss : List Nat) (fs : List (List (List Nat))), fs.Nodup → (plansM n ss fs).Nodup
  | [], _, h => h
  | s :: ss, fs, h => by
    refine plM_nodup ss _ (flat_nodup (f := fun b => (grpM (lastM b + s) n).map fun g => b ++ [g]) h (fun b _ => ?_) fun b _ c _ ne a ha hc => ?_)
    · refine List.pairwise_map.mpr ((grp_nodup n).imp fun ne e => ne ?_)
      exact (List.cons.inj (List.append_cancel_left e)).1
    · obtain ⟨g, _, rfl⟩ := List.mem_map.mp ha
      obtain ⟨g2, _, e⟩ := List.mem_map.mp hc
      exact ne (List.append_inj_left' e rfl).symm
theorem asc_perm {n : Nat} {bs : List Int} {L : List (List (List Nat))} (h : Asc n bs L) : L.Perm (plansM n (bs.map Int.toNat) [[]]) :=
  (List.perm_ext_iff_of_nodup (List.nodup_iff_pairwise_ne.mpr (h.asc.imp fun {a b} z (e : a = b) => ltP_irr a (by
    subst e
    exact z))) (plM_nodup _ _ (List.pairwise_singleton ..))).mpr fun x => (h.mem x).trans (plM_mem _ bs rfl x).symm
theorem asc_wy {n : Nat} {bs : List Int} {L : List (List (List Nat))} (h : Asc n bs L) : (L.length : Int) = wyM n (bs.map Int.toNat) 0 := by
  rw [(asc_perm h).length_eq, plans_counted]
  rfl
theorem sum_ind {f : List (List Nat) → Int} {e : Int} : ∀ L : List (List (List Nat)), (L.map fun p => if f p ≤ e then (1 : Int) else 0).sum = ((L.filter fun p => decide (f p ≤ e)).length : Int)
  | [] => rfl
  | p :: L => by
    rw [List.map_cons, List.sum_cons, sum_ind L, List.filter_cons]
    by_cases h : f p ≤ e
    · rw [if_pos h, if_pos (decide_eq_true h), List.length_cons]
      omega
    · rw [if_neg h, if_neg (by simpa using h)]
      omega
theorem count_L {wk rd e : Int} {bs starts : List Int} {L : List (List (List Nat))} (w0 : 0 ≤ wk) (wr : rd ≤ wk) (r0 : 0 ≤ rd) (s0 : ∀ x ∈ starts, 0 ≤ x) (n0 : 0 < starts.length) (h : Asc starts.length bs L) :
    countG wk rd e starts.length (grpU starts.length) (bs.map Int.toNat) [((srt starts, []), 1)] 0 = ((L.filter fun p => decide (finM wk rd bs starts p ≤ e)).length : Int) := by
  rw [countG_plans w0 wr r0 s0 n0 fun m => up_min, ← sum_ind]
  exact perm_sum ((asc_perm h).symm.map _)
theorem count_sure {wk rd e : Int} {bs starts : List Int} (w0 : 0 ≤ wk) (wr : rd ≤ wk) (r0 : 0 ≤ rd) (n0 : 0 < starts.length) (s0 : ∀ x ∈ starts, 0 ≤ x) (h : ∀ x ∈ starts, x + wk * (bs.length : Int) ≤ e) :
    countG wk rd e starts.length (grpU starts.length) (bs.map Int.toNat) [((srt starts, []), 1)] 0 = wyM starts.length (bs.map Int.toNat) 0 := by
  rw [countG_ok w0 wr r0 n0 (fun m => up_min)]
  · show 0 + (1 * goK wk rd e starts.length (bs.map Int.toNat) (srt starts) [] + 0) = _
    rw [surely_good w0 wr r0 _ _ _ (srt_len _) n0 (fun x hx => ?_) (fun b hb => by cases hb)]
    · show 0 + (1 * wyM starts.length (bs.map Int.toNat) 0 + 0) = _
      omega
    · have hx := (srt_perm starts).mem_iff.mp hx
      rw [List.length_map]
      exact ⟨s0 x hx, h x hx⟩
  · intro p hp
    rw [List.mem_singleton.mp hp]
    exact ⟨srt_len _, fun x hx => s0 x ((srt_perm starts).mem_iff.mp hx), srt_sorted _, (fun _ z => nomatch z), Nat.zero_le _⟩
/-! ## count_good, called -/
theorem cgood_ok {wk rd e : Int} {bs starts : List Int} {S : Sto} {Q : QD} {E : ED} (R : RoadOk wk rd bs) (n1 : 1 ≤ starts.length) (n2 : starts.length ≤ 10) (s0 : ∀ x ∈ starts, 0 ≤ x)
    (q1 : wyM starts.length (bs.map Int.toNat) 0 ≤ 5000 → ∀ J, Q (.int (countG wk rd e starts.length (grpU starts.length) (bs.map Int.toNat) [((srt starts, []), 1)] 0)) (S ++ J))
    (q2 : 5000 < wyM starts.length (bs.map Int.toNat) 0 → E ("TooLarge", [("bound", .int 5000)]) S) : F_count_good [roadV wk rd bs, tkD starts, .int e] S Q E := by
  unfold F_count_good
  have en : (((starts.map D.int).length : Nat) : Int) = (starts.length : Int) := by rw [List.length_map]
  refine ⟨rfl, ⟨?_, rfl⟩, ?_⟩
  · show (below 0 (roadV wk rd bs) && (true && true)) = true
    rw [below_roadV]
    rfl
  show F_ways_on [roadV wk rd bs, .int (((starts.map D.int).length : Nat) : Int)] [] _ _
  rw [en]
  refine ways_all n2 R.l2 (fun b h => (R.hb b h).1) ⟨rfl, ?_⟩
  have a0 : atI ((List.range (bs.length + 1)).map fun i => wyV starts.length ((bs.map Int.toNat).drop i)) 0 = some (wyV starts.length (bs.map Int.toNat)) := atI_nat (j := 0) (by rw [List.getElem?_map, List.getElem?_range (by omega)]; rfl)
  have a3 : atI (rowF (starts.length + 1) (wyM starts.length (bs.map Int.toNat))) 0 = some (.int (wyM starts.length (bs.map Int.toNat) 0)) := rowF_at (m := 0) (by omega)
  refine onS a0 ?_
  show onSome (atI (rowF (starts.length + 1) (wyM starts.length (bs.map Int.toNat))) 0) _
  refine onS a3 ?_
  refine ifB (b := decide (5000 < wyM starts.length (bs.map Int.toNat) 0)) (fun hd => ?_) fun hd => ?_
  · exact q2 (of_decide_eq_true hd)
  · have hW := of_decide_eq_false hd
    exact cg_rest R n1 n2 s0 (by omega) fun J => q1 (by omega) J
theorem told25_ok {wk rd e : Int} {bs starts : List Int} {Q : QD} {E : ED} (R : RoadOk wk rd bs) (n1 : 1 ≤ starts.length) (n2 : starts.length ≤ 10) (s0 : ∀ x ∈ starts, 0 ≤ x)
    (q1 : wyM starts.length (bs.map Int.toNat) 0 ≤ 5000 → Q (.int (countG wk rd e starts.length (grpU starts.length) (bs.map Int.toNat) [((srt starts, []), 1)] 0)) [])
    (q2 : 5000 < wyM starts.length (bs.map Int.toNat) 0 → Q (.lst true [.int 5000]) []) : F_law_told_3 [roadV wk rd bs, tkD starts, .int e] [] Q E := by
  unfold F_law_told_3
  refine ⟨rfl, cgood_ok R n1 n2 s0 (fun hW J => ⟨⟨rfl, rfl⟩, q1 hW⟩) fun hW => ?_⟩
  exact ⟨rfl, szr rfl, ⟨rfl, rfl⟩, ⟨rfl, rfl⟩, q2 hW⟩
end Pu
namespace Pu
open PySem L2 Rb Gm
/-! ## k25: the law's parts -/
theorem Rep.noC {k n : Nat} {d : D} (h : Rep k n d) : ∀ m, d ≠ .cell m := fun m e => by
  obtain ⟨p, hp, _⟩ := h.py
  rw [e] at hp
  cases hp
theorem repC {d : D} {S : Sto} {Q : QD} {k n : Nat} (h : Rep k n d) (q : Q (.str (shw d)) S) (hk : k ≤ 20 := by decide) (hn : n ≤ 100000 := by decide) : gReprC [d] S Q := reprC_of h.noC (repr_ok h q hk hn)
theorem smallL_ok {S T : Sto} {N : Int} {Q : QD} {E : ED} {lim : Nat} (hl : 16 ≤ lim) (h : Nk S N T) (hN : N ≤ 800000)
    (q : ∀ wk rd (bs : List Int) (n : Nat) (b : Bool) S', RoadOk wk rd bs → bs.length ≤ 5 → 1 ≤ n → n ≤ 4 → (∀ L, Asc n bs L → L.length ≤ lim) → Nk S' (N + 50) T → Q (.lst b [roadV wk rd bs, .int (n : Int)]) S') : F_law_small [.cell 1, .int (lim : Int)] S Q E := by
  unfold F_law_small
  refine ⟨rfl, road3_ok (st := 5) (mo := 2) h (by omega) (by decide) (by decide) (by decide) (by decide) fun wk rd bs S1 R bl _ d1 => ?_⟩
  refine next_ok d1 (by omega) (by decide) (by decide) fun r S2 r0 r1 d2 => ?_
  obtain ⟨n, en⟩ : ∃ n : Nat, 1 + r = (n : Int) := ⟨(1 + r).toNat, by omega⟩
  refine ⟨fun m ρ S' => ∃ bs' : List Int, ρ = [some (.cell 1), some (.int (lim : Int)), some (roadV wk rd bs'), some (.int (n : Int))] ∧ S' = S2 ∧ RoadOk wk rd bs' ∧ bs'.length ≤ 5 ∧ bs'.length = m, ⟨bs.length, bs, by rw [← en]; rfl, rfl, R, by omega, rfl⟩, ?_⟩
  rintro m ρ S' ⟨bs', rfl, rfl, R', l5, rfl⟩
  have l1 := R'.l1
  refine bound3_ok (by omega) (fun x hx => (R'.hb x hx).1) fun v hv h1 => ?_
  refine ifB (b := decide ((lim : Int) < (v : Int))) (fun hd => ?_) fun hd => ?_
  · have hd := of_decide_eq_true hd
    have p16 : 2 ^ n ≤ 16 := show 2 ^ n ≤ 2 ^ 4 from Nat.pow_le_pow_right (by decide) (by omega)
    have l2 : 2 ≤ bs'.length := by
      rcases Nat.lt_or_ge bs'.length 2 with z | z
      · have := h1 (by omega)
        omega
      · exact z
    have ne : bs' ≠ [] := fun z => by rw [z] at l2; simp at l2
    have ed : cutD (bs'.map D.int) none (some (-1)) = bs'.dropLast.map D.int := by
      have e := List.dropLast_concat_getLast ne
      conv => lhs; rw [← e]
      rw [List.map_append]
      exact cut_init
    have R2 : RoadOk wk rd bs'.dropLast := ⟨R'.rd1, R'.lt, R'.w2, by rw [List.length_dropLast]; omega, by rw [List.length_dropLast]; omega, fun x hx => R'.hb x (List.dropLast_subset _ hx)⟩
    refine ⟨szr rfl, bs'.length - 1, by omega, bs'.dropLast, ?_, rfl, R2, by rw [List.length_dropLast]; omega, by rw [List.length_dropLast]⟩
    show [some (D.cell 1), some (D.int (lim : Int)), some (D.tup [.int wk, .int rd, .tup (cutD (bs'.map D.int) none (some (-1)))]), some (D.int (n : Int))] = _
    rw [ed]
    rfl
  · have hd := of_decide_eq_false hd
    exact ⟨szr rfl, q wk rd bs' n _ _ R' l5 (by omega) (by omega) (fun L hL => by have := hv L hL; omega) (d2.le (by omega))⟩
theorem below_rs25 {wk rd e : Int} {bs starts : List Int} : belowAll 0 [roadV wk rd bs, tkD starts, .int e] = true := by
  show (below 0 (roadV wk rd bs) && (belowAll 0 (starts.map D.int) && (true && true))) = true
  rw [below_roadV, below_ints]
  rfl
theorem rep_rs {wk rd : Int} {bs starts : List Int} {f : Bool} (R : RoadOk wk rd bs) (n2 : starts.length ≤ 10) (hb : Bnd 1000000 starts) : Rep 3 80 (.lst f [roadV wk rd bs, tkD starts]) :=
  Rep.two (Rep.road R) ((Rep.starts n2 hb).mono (by decide) (by decide)) (by decide)
/-- what stands at one end -/
def endB : FS := (dSeq (dAsg (dB gLen (dCons (dLc (st1 16) (dTest (dBin gLe (dVar 16) (dVar 10))) (dVar 16) (dItS (dVar 7))) dNil)) (gN 11))
 (dIfS (dOr (dTest (dBin iNe (dB gReprC (dCons (dCall 0 F_law_told_3 (dCons (dVar 3) (dCons (dVar 6) (dCons (dVar 10) dNil)))) dNil)) (dB gReprC (dCons (dVar 11) dNil)))) (dTest (dBin iNe (dB gReprC (dCons (dLst (dCons (dVar 3) (dCons (dVar 6) dNil))) dNil)) (dVar 9))))
 (dRet (dC (.bl false)))
 dSkip))
theorem endB_ok {wk rd e : Int} {bs starts : List Int} {L : List (List (List Nat))} {S : Sto} {y0 y1 y2 y4 y5 y8 y11 y12 y13 y14 y15 : Option D} {De : DEnds} {Ed : ED} {fb fr : Bool} (R : RoadOk wk rd bs) (n1 : 1 ≤ starts.length) (n2 : starts.length ≤ 10) (hb : Bnd 1000000 starts) (hL : Asc starts.length bs L) (ll : L.length ≤ 300)
    (q : ∀ y11, De.nx [y0, y1, y2, some (roadV wk rd bs), y4, y5, some (tkD starts), some (.lst fb ((L.map (finM wk rd bs starts)).map D.int)), y8, some (.str (shw (.lst fr [roadV wk rd bs, tkD starts]))), some (.int e), y11, y12, y13, y14, y15, none] S) :
    endB [y0, y1, y2, some (roadV wk rd bs), y4, y5, some (tkD starts), some (.lst fb ((L.map (finM wk rd bs starts)).map D.int)), y8, some (.str (shw (.lst fr [roadV wk rd bs, tkD starts]))), some (.int e), y11, y12, y13, y14, y15, none] S De Ed := by
  have w0 := R.rd1
  have w1 := R.lt
  refine ⟨szd (by show ((L.map (finM wk rd bs starts)).map D.int).length ≤ 100000; rw [List.length_map, List.length_map]; omega), ?_⟩
  refine comp_fltA (src := []) (fun x : Int => D.int x) (fun x => decide (x ≤ e)) (fun x : Int => D.int x) (fun _ z => z) (L.map (finM wk rd bs starts)) [] (fun x hx => ⟨_, rfl, fun Q' q' => q', fun _ Q' q' => q'⟩) ?_
  rw [List.nil_append]
  have ec := count_L (wk := wk) (rd := rd) (e := e) (by omega) (by omega) (by omega) (fun x hx => (hb x hx).1) (by omega) hL
  have ed : ((((L.map (finM wk rd bs starts)).filter fun x => decide (x ≤ e)).map fun x : Int => D.int x).length : Int) = ((L.filter fun p => decide (finM wk rd bs starts p ≤ e)).length : Int) := by
    rw [List.length_map, List.filter_map, List.length_map]
    rfl
  have el : (L.filter fun p => decide (finM wk rd bs starts p ≤ e)).length ≤ 300 := Nat.le_trans (List.length_filter_le _ _) ll
  have ew := asc_wy hL
  refine ⟨⟨below_rs25, rfl⟩, told25_ok R n1 n2 (fun x hx => (hb x hx).1) (fun _ => ⟨rfl, ?_⟩) fun hW => by omega⟩
  rw [ec]
  refine repC (Rep.int (by omega) (by omega)) ?_
  show gReprC [D.int ((((L.map (finM wk rd bs starts)).filter fun x => decide (x ≤ e)).map fun x : Int => D.int x).length : Int)] S _
  rw [ed]
  refine repC (Rep.int (by omega) (by omega)) (ne_str rfl ?_)
  refine ⟨szr rfl, ?_⟩
  refine repC (rep_rs R n2 hb) (ne_str rfl ?_)
  exact q _
theorem cpow7 : CPow 10 7 := by
  unfold CPow
  decide
/-- the roads with many plans -/
def wideB : FS := (dIfS (dAnd (dTest (dBin gGt (dCallW F_count_plans (dCons (dVar 12) (dCons (dC (.int 10)) dNil))) (dC (.int 5000)))) (dTest (dBin iNe (dB gReprC (dCons (dCall 0 F_law_told_3 (dCons (dVar 12) (dCons (dBin gMul (dTup (dCons (dC (.int 0)) dNil)) (dC (.int 10))) (dCons (dBin gPow (dC (.int 10)) (dC (.int 7))) dNil)))) dNil)) (dB gReprC (dCons (dLst (dCons (dC (.int 5000)) dNil)) dNil)))))
 (dRet (dC (.bl false)))
 dSkip)
theorem rep_5000 (f : Bool) : Rep 1 1 (.lst f [.int 5000]) := Rep.lst (k := 0) (n := 0) (fun d hd => by
  rw [List.mem_singleton.mp hd]
  exact Rep.int (by decide) (by decide)) (by decide)
theorem wideB_ok {wk rd : Int} {bs : List Int} {S : Sto} {y0 y1 y2 y3 y4 y5 y6 y7 y8 y9 y10 y11 y13 y14 y15 y16 : Option D} {De : DEnds} {Ed : ED} (R : RoadOk wk rd bs)
    (q : De.nx [y0, y1, y2, y3, y4, y5, y6, y7, y8, y9, y10, y11, some (roadV wk rd bs), y13, y14, y15, y16] S) :
    wideB [y0, y1, y2, y3, y4, y5, y6, y7, y8, y9, y10, y11, some (roadV wk rd bs), y13, y14, y15, y16] S De Ed := by
  have hb0 : ∀ b ∈ bs, 0 ≤ b := fun b h => (R.hb b h).1
  refine count_ok (n := 10) (by decide) R.l2 hb0 ?_
  have t := fun (Q : QD) (E : ED) => told25_ok (e := 10000000) (starts := List.replicate 10 0) (Q := Q) (E := E) R (by decide) (by decide) (by decide)
  rw [show (List.replicate 10 (0 : Int)).length = 10 from rfl] at t
  generalize hW : wyM 10 (bs.map Int.toNat) 0 = W at t
  refine ifB (b := decide (5000 < W)) (fun hd => ?_) fun hd => q
  have hd := of_decide_eq_true hd
  refine ⟨szr rfl, ⟨by decide, by decide, by decide, by decide⟩, cpow7, ?_⟩
  refine ⟨⟨?_, rfl⟩, ?_⟩
  · show belowAll 0 [roadV wk rd bs, tkD (List.replicate 10 0), .int 10000000] = true
    exact below_rs25
  · show F_law_told_3 [roadV wk rd bs, tkD (List.replicate 10 0), .int 10000000] [] _ _
    exact t _ _ (fun h => by omega) fun _ => ⟨rfl, repC (rep_5000 true) ⟨szr rfl, repC (rep_5000 true) (ne_str rfl q)⟩⟩
end Pu
namespace Pu
open PySem L2 Rb Gm
/-! ## k25: a turn -/
theorem cpow6 : CPow 10 6 := by
  unfold CPow
  decide
def turn25 : FS := (dSeq (dAsg (dCallW F_law_small (dCons (dVar 1) (dCons (dC (.int 300)) dNil))) (gUn 2 (gsCons (gN 3) (gsCons (gN 4) gsNil))))
 (dSeq (dAsg (dBin gIx (dLst (dCons (dC (.int 1)) (dCons (dC (.int 9)) (dCons (dBin gAdd (dBin gPow (dC (.int 10)) (dC (.int 6))) (dC (.int 1))) dNil)))) (dCallW F_law_next (dCons (dVar 1) (dCons (dC (.int 3)) dNil)))) (gN 5))
 (dSeq (dAsg (dB gTuple (dCons (dLc (st1 14) dYes (dCallW F_law_next (dCons (dVar 1) (dCons (dVar 5) dNil))) (dRng1 (dCons (dVar 4) dNil))) dNil)) (gN 6))
 (dSeq (dAsg (dLc (st1 15) dYes (dCall 0 F_law_finish_4 (dCons (dVar 3) (dCons (dVar 6) (dCons (dVar 15) dNil)))) (dItS (dCall 0 F_law_plans (dCons (dVar 3) (dCons (dVar 4) dNil))))) (gN 7))
 (dSeq (dPar 8 9 (dCons (dStep (dVar 7) (dBin gAdd (dC (.int 1)) (dBin gFdiv (dB gLen (dCons (dVar 7) dNil)) (dC (.int 2))))) (dCons (dB gReprC (dCons (dLst (dCons (dVar 3) (dCons (dVar 6) dNil))) dNil)) dNil)))
 (dSeq (dFor (dItS (dBin gAdd (dBin gAdd (dLst (dCons (dB gMin (dCons (dVar 7) dNil)) (dCons (dB gMin (dCons (dVar 7) dNil)) dNil))) (dVar 8)) (dLst (dCons (dB gMax (dCons (dC (.int 0)) (dCons (dBin gSub (dB gMin (dCons (dVar 7) dNil)) (dC (.int 1))) dNil))) (dCons (dB gMax (dCons (dVar 7) dNil)) (dCons (dC (.int 0)) (dCons (dBin gPow (dC (.int 10)) (dC (.int 7))) dNil))))))) (gN 10) endB)
 (dSeq (dAsg (dCallW F_law_road_3 (dCons (dVar 1) (dCons (dC (.int 12)) (dCons (dC (.int 12)) dNil)))) (gN 12)) wideB)))))))
theorem ints_in {F : List Int} : ∀ {ys : List D}, (∀ y ∈ ys, y ∈ F.map D.int) → ∃ G : List Int, ys = G.map D.int
  | [], _ => ⟨[], rfl⟩
  | y :: ys, h => by
    obtain ⟨e, _, rfl⟩ := List.mem_map.mp (h y List.mem_cons_self)
    obtain ⟨G, rfl⟩ := ints_in (ys := ys) fun z hz => h z (List.mem_cons_of_mem _ hz)
    exact ⟨e :: G, rfl⟩
theorem below_rsp {wk rd : Int} {bs starts : List Int} {p : List (List Nat)} : belowAll 0 [roadV wk rd bs, tkD starts, planV p] = true := by
  show (below 0 (roadV wk rd bs) && (belowAll 0 (starts.map D.int) && (belowAll 0 (p.map ridersV) && true))) = true
  rw [below_roadV, below_ints, below_iff.mpr fun d hd => by obtain ⟨r, _, rfl⟩ := List.mem_map.mp hd; exact below_riders r]
  rfl
theorem below_rn25 {wk rd n : Int} {bs : List Int} : belowAll 0 [roadV wk rd bs, .int n] = true := by
  show (below 0 (roadV wk rd bs) && (true && true)) = true
  rw [below_roadV]
  rfl
theorem turn25_ok {S : Sto} {N : Int} {De : DEnds} {y0 y2 y3 y4 y5 y6 y7 y8 y9 y10 y11 y12 : Option D} (dk : Nk S N []) (hN : N ≤ 700000)
    (q : ∀ S' y3 y4 y5 y6 y7 y8 y9 y10 y11 y12, Nk S' (N + 200) [] → De.nx [y0, some (.cell 1), y2, y3, y4, y5, y6, y7, y8, y9, y10, y11, y12, none, none, none, none] S') :
    turn25 [y0, some (.cell 1), y2, y3, y4, y5, y6, y7, y8, y9, y10, y11, y12, none, none, none, none] S De noE := by
  unfold turn25
  refine smallL_ok (lim := 300) (by decide) dk (by omega) fun wk rd_ bs n fl S1 R l5 n1 n4 few d1 => ⟨rfl, ?_⟩
  refine ⟨cpow6, szr rfl, next_ok d1 (by omega) (by decide) (by decide) fun r S2 r0 r1 d2 => ?_⟩
  obtain ⟨m, e1, c1⟩ := pick3i (x := 1) (y := 9) (z := 10 ^ (6 : Int).toNat + 1) r0 r1
  refine onS e1 ?_
  have m1 : 1 ≤ m := by
    rcases c1 with rfl | rfl | rfl
    · decide
    · decide
    · decide
  have m2 : m ≤ 1000001 := by
    rcases c1 with rfl | rfl | rfl
    · decide
    · decide
    · decide
  clear c1 e1
  refine ⟨⟨by omega, by omega⟩, szd (by rw [rangeD_len]; omega), ?_⟩
  show dCompL _ _ _ _ (rangeD 0 ((n : Int)).toNat) _ _ _ _
  rw [Int.toNat_natCast]
  refine comp_inv (j := 14) (fun i acc S' => ∃ fs : List Int, acc = fs.map D.int ∧ fs.length = i ∧ (∀ s ∈ fs, 0 ≤ s ∧ s < m) ∧ Nk S' (N + 51 + i) []) ⟨[], rfl, rfl, (fun _ z => nomatch z), d2.le (by omega)⟩ ?_ ?_
  · rintro i acc S' K hi hK ⟨fs, rfl, fl2, hf, d3⟩
    refine next_ok d3 (by omega) m1 (by omega) fun x S3 x0 x1 d4 => hK _ _ ⟨fs ++ [x], by rw [List.map_append]; rfl, by rw [List.length_append, fl2]; rfl, fun s hs => ?_, d4.le (by omega)⟩
    rcases List.mem_append.mp hs with z | z
    · exact hf s z
    · rw [List.mem_singleton.mp z]
      exact ⟨x0, x1⟩
  rintro acc S3 ⟨starts, rfl, sl, hs, d3⟩
  have hb : Bnd 1000000 starts := fun x hx => by have := hs x hx; omega
  have s1 : 1 ≤ starts.length := by omega
  have s2 : starts.length ≤ 10 := by omega
  show (dSeq (dAsg (dLc (st1 15) dYes (dCall 0 F_law_finish_4 (dCons (dVar 3) (dCons (dVar 6) (dCons (dVar 15) dNil)))) (dItS (dCall 0 F_law_plans (dCons (dVar 3) (dCons (dVar 4) dNil))))) (gN 7)) _) [y0, some (.cell 1), y2, some (roadV wk rd_ bs), some (.int (n : Int)), some (.int m), some (tkD starts), y7, y8, y9, y10, y11, y12, none, none, none, none] S3 _ _
  have p16 : 2 ^ n ≤ 16 := show 2 ^ n ≤ 2 ^ 4 from Nat.pow_le_pow_right (by decide) n4
  have big : (2 ^ n) ^ bs.length ≤ 2000000 := Nat.le_trans (Nat.pow_le_pow_left p16 _) (Nat.le_trans (Nat.pow_le_pow_right (show 0 < 16 by decide) l5) (by decide))
  refine ⟨⟨below_rn25, rfl⟩, plans3_ok (by omega) l5 (fun b hm => (R.hb b hm).1) big fun f L hL _ => ⟨rfl, ?_⟩⟩
  have ll := few L hL
  rw [← sl] at hL
  refine ⟨szd (by show (L.map planV).length ≤ 100000; rw [List.length_map]; omega), ?_⟩
  refine comp_mapB (src := []) planV (fun p => D.int (finM wk rd_ bs starts p)) (fun _ z => z) L [] (fun p hp => ⟨_, rfl, fun Q' q' => ⟨⟨below_rsp, rfl⟩, lfin4_ok R.hb ((plG_ok fun b hm => (R.hb b hm).1).mp ((hL.mem p).mp hp)) R.l2 s1 s2 ⟨rfl, q'⟩⟩⟩) ?_
  rw [List.nil_append]
  have ef : L.map (fun p => D.int (finM wk rd_ bs starts p)) = (L.map (finM wk rd_ bs starts)).map D.int := by rw [List.map_map]; rfl
  rw [ef]
  have fne : L.map (finM wk rd_ bs starts) ≠ [] := fun z => by
    have h1 := asc_wy hL
    have h2 := wy_pos (n := starts.length) (bs.map Int.toNat) 0
    have h3 : L.length = 0 := by have := congrArg List.length z; rw [List.length_map] at this; exact this
    omega
  have fll : (L.map (finM wk rd_ bs starts)).length ≤ 300 := by rw [List.length_map]; exact ll
  have go : ∀ (ys : List D), ys.length ≤ ((L.map (finM wk rd_ bs starts)).map D.int).length → (∀ y ∈ ys, y ∈ (L.map (finM wk rd_ bs starts)).map D.int) → (dSeq (dFor (dItS (dBin gAdd (dBin gAdd (dLst (dCons (dB gMin (dCons (dVar 7) dNil)) (dCons (dB gMin (dCons (dVar 7) dNil)) dNil))) (dVar 8)) (dLst (dCons (dB gMax (dCons (dC (.int 0)) (dCons (dBin gSub (dB gMin (dCons (dVar 7) dNil)) (dC (.int 1))) dNil))) (dCons (dB gMax (dCons (dVar 7) dNil)) (dCons (dC (.int 0)) (dCons (dBin gPow (dC (.int 10)) (dC (.int 7))) dNil))))))) (gN 10) endB)
      (dSeq (dAsg (dCallW F_law_road_3 (dCons (dVar 1) (dCons (dC (.int 12)) (dCons (dC (.int 12)) dNil)))) (gN 12)) wideB)) [y0, some (.cell 1), y2, some (roadV wk rd_ bs), some (.int (n : Int)), some (.int m), some (tkD starts), some (.lst false ((L.map (finM wk rd_ bs starts)).map D.int)), some (.lst false ys), some (.str (shw (.lst true [roadV wk rd_ bs, tkD starts]))), y10, y11, y12, none, none, none, none] S3 De noE := by
    intro ys yl hy
    obtain ⟨G, rfl⟩ := ints_in hy
    rw [List.length_map, List.length_map] at yl
    refine onS (intsOf_map _) ⟨fne, ?_⟩
    refine onS (intsOf_map _) ⟨fne, szr rfl, ?_⟩
    refine ⟨szd (by show 2 + (G.map D.int).length ≤ 100000; rw [List.length_map]; omega), ?_⟩
    refine onS (intsOf_map _) ⟨fne, ?_⟩
    refine onS (intsOf_map _) ⟨fne, cpow7, szr rfl, ?_⟩
    refine ⟨szd (by simp; omega), ?_⟩
    have hall : ∀ x ∈ ([D.int (minL (L.map (finM wk rd_ bs starts))), D.int (minL (L.map (finM wk rd_ bs starts)))] ++ G.map D.int) ++ [D.int (if minL (L.map (finM wk rd_ bs starts)) - 1 > 0 then minL (L.map (finM wk rd_ bs starts)) - 1 else 0), D.int (maxL (L.map (finM wk rd_ bs starts))), D.int 0, D.int (10 ^ (7 : Int).toNat)], ∃ e, x = D.int e := by
      intro x hx
      rcases List.mem_append.mp hx with h | h
      · rcases List.mem_append.mp h with h | h
        · simp only [List.mem_cons, List.not_mem_nil, or_false] at h
          rcases h with rfl | rfl
          · exact ⟨_, rfl⟩
          · exact ⟨_, rfl⟩
        · obtain ⟨e, _, rfl⟩ := List.mem_map.mp h
          exact ⟨e, rfl⟩
      · simp only [List.mem_cons, List.not_mem_nil, or_false] at h
        rcases h with rfl | rfl | rfl | rfl
        · exact ⟨_, rfl⟩
        · exact ⟨_, rfl⟩
        · exact ⟨_, rfl⟩
        · exact ⟨_, rfl⟩
    refine onS (a := ([D.int (minL (L.map (finM wk rd_ bs starts))), D.int (minL (L.map (finM wk rd_ bs starts)))] ++ G.map D.int) ++ [D.int (if minL (L.map (finM wk rd_ bs starts)) - 1 > 0 then minL (L.map (finM wk rd_ bs starts)) - 1 else 0), D.int (maxL (L.map (finM wk rd_ bs starts))), D.int 0, D.int (10 ^ (7 : Int).toNat)]) rfl ?_
    show dLoop _ endB [] (([D.int (minL (L.map (finM wk rd_ bs starts))), D.int (minL (L.map (finM wk rd_ bs starts)))] ++ G.map D.int) ++ [D.int (if minL (L.map (finM wk rd_ bs starts)) - 1 > 0 then minL (L.map (finM wk rd_ bs starts)) - 1 else 0), D.int (maxL (L.map (finM wk rd_ bs starts))), D.int 0, D.int (10 ^ (7 : Int).toNat)]) _ _ _ _
    generalize ([D.int (minL (L.map (finM wk rd_ bs starts))), D.int (minL (L.map (finM wk rd_ bs starts)))] ++ G.map D.int) ++ [D.int (if minL (L.map (finM wk rd_ bs starts)) - 1 > 0 then minL (L.map (finM wk rd_ bs starts)) - 1 else 0), D.int (maxL (L.map (finM wk rd_ bs starts))), D.int 0, D.int (10 ^ (7 : Int).toNat)] = EL at hall ⊢
    refine for_inv (src := []) EL (fun j ρ S' => S' = S3 ∧ ∃ y10 y11, ρ = [y0, some (.cell 1), y2, some (roadV wk rd_ bs), some (.int (n : Int)), some (.int m), some (tkD starts), some (.lst false ((L.map (finM wk rd_ bs starts)).map D.int)), some (.lst false (G.map D.int)), some (.str (shw (.lst true [roadV wk rd_ bs, tkD starts]))), y10, y11, y12, none, none, none, none]) ⟨rfl, _, _, rfl⟩ ?_ ?_
    · rintro j x ρ S' K hx hK ⟨rfl, z10, z11, rfl⟩
      obtain ⟨e, rfl⟩ := hall x (List.mem_of_getElem? hx)
      exact endB_ok R s1 s2 hb hL ll fun z11 => hK _ _ ⟨rfl, _, _, rfl⟩
    · rintro ρ S' ⟨rfl, z10, z11, rfl⟩
      refine road3_ok (st := 12) (mo := 12) d3 (by omega) (by decide) (by decide) (by decide) (by decide) fun wk2 rd2 bs2 S4 R2 _ _ d4 => ?_
      exact wideB_ok R2 (q _ _ _ _ _ _ _ _ _ _ _ (d4.le (by omega)))
  refine ⟨⟨by decide, by decide⟩, ?_⟩
  refine onS rfl ⟨_, rfl, ?_, fun ys yl hy => ?_⟩
  · have : (0 : Int) ≤ ((((L.map (finM wk rd_ bs starts)).map D.int).length : Nat) : Int) := Int.natCast_nonneg _
    show (1 + ((((L.map (finM wk rd_ bs starts)).map D.int).length : Nat) : Int) / 2) ≠ 0
    omega
  · refine ⟨szr rfl, repC (rep_rs R s2 hb) ?_⟩
    exact go ys yl hy
end Pu
namespace Pu
open PySem L2 Rb Gm
theorem wy_a : (5000 : Int) < wyM 9 (([12, 0] : List Int).map Int.toNat) 0 := by decide +kernel
theorem wy_b : wyM 2 (([1, 0, 0] : List Int).map Int.toNat) 0 = 15 := by decide +kernel
theorem wy_c : wyM 3 (([3, 0, 0, 0, 0] : List Int).map Int.toNat) 0 = 2736 := by decide +kernel
theorem road_a : RoadOk 2 1 [12, 0] := ⟨by decide, by decide, by decide, by decide, by decide, by decide⟩
theorem road_b : RoadOk 2 1 [1, 0, 0] := ⟨by decide, by decide, by decide, by decide, by decide, by decide⟩
theorem road_c : RoadOk 10 4 [3, 0, 0, 0, 0] := ⟨by decide, by decide, by decide, by decide, by decide, by decide⟩
theorem told_a {Q : QD} {E : ED} (q : Q (.lst true [.int 5000]) []) : F_law_told_3 [roadV 2 1 [12, 0], tkD (List.replicate 9 0), .int 0] [] Q E :=
  told25_ok road_a (by decide) (by decide) (by decide) (fun h => by
    have := wy_a
    rw [show (List.replicate 9 (0 : Int)).length = 9 from rfl] at h
    omega) fun _ => q
theorem told_b {Q : QD} {E : ED} (q : Q (.int 15) []) : F_law_told_3 [roadV 2 1 [1, 0, 0], tkD [0, 0], .int 10000000] [] Q E :=
  told25_ok road_b (by decide) (by decide) (by decide) (fun _ => by
    rw [count_sure (by decide) (by decide) (by decide) (by decide) (by decide) (by decide), show ([0, 0] : List Int).length = 2 from rfl, wy_b]
    exact q) fun h => by
    rw [show ([0, 0] : List Int).length = 2 from rfl, wy_b] at h
    omega
theorem told_c {Q : QD} {E : ED} (q : Q (.int 2736) []) : F_law_told_3 [roadV 10 4 [3, 0, 0, 0, 0], tkD [0, 0, 0], .int 10000000] [] Q E :=
  told25_ok road_c (by decide) (by decide) (by decide) (fun _ => by
    rw [count_sure (by decide) (by decide) (by decide) (by decide) (by decide) (by decide), show ([0, 0, 0] : List Int).length = 3 from rfl, wy_c]
    exact q) fun h => by
    rw [show ([0, 0, 0] : List Int).length = 3 from rfl, wy_c] at h
    omega
theorem found_ok {S : Sto} {xs : List D} {ps : List PyData} {n : Nat} {Q : QD} (h : S[n]? = some (.lst xs)) (hp : toPyAll xs = some ps) (hn : Rb.Nice 20 100000 (.list ps)) (hd : (PyData.list ps).hasDict = false) (q : Q (.str (PyData.list ps).shown) S) : gReprC [.cell n] S Q := by
  unfold gReprC
  refine onS (a := xs) (by rw [h]; rfl) (onS hp ⟨⟨hn, .inl hd⟩, q⟩)
theorem rep_found : Rep 2 10 (.lst true [.lst true [.int 5000], .int 15, .int 2736]) := Rep.lst (k := 1) (n := 1) (fun d hd => by
  simp only [List.mem_cons, List.not_mem_nil, or_false] at hd
  rcases hd with rfl | rfl | rfl
  · exact rep_5000 true
  · exact (Rep.int (by decide) (by decide)).mono (by decide) (by decide)
  · exact (Rep.int (by decide) (by decide)).mono (by decide) (by decide)) (by decide)
theorem law_ok : ∀ ns : List Int, ns.length ≤ 63 → F_law_k25 [.kls (ns.map D.int)] [] (fun d _ => d = .bl true) noE := by
  intro ns _
  unfold F_law_k25
  refine ⟨rfl, state_ok fun S dk => ?_⟩
  refine ⟨⟨by decide, by decide⟩, ?_⟩
  show dLoop _ turn25 [] (rangeD 0 6) _ _ _ _
  refine for_rng 0 6 (fun i ρ S' => (∃ y2 y3 y4 y5 y6 y7 y8 y9 y10 y11 y12, ρ = [some (.kls (ns.map D.int)), some (.cell 1), y2, y3, y4, y5, y6, y7, y8, y9, y10, y11, y12, none, none, none, none]) ∧ Nk S' (1000 * i) []) ⟨⟨_, _, _, _, _, _, _, _, _, _, _, rfl⟩, dk.le (by omega)⟩ ?_ ?_
  · rintro i ρ S' K hi hK ⟨⟨y2, y3, y4, y5, y6, y7, y8, y9, y10, y11, y12, rfl⟩, dk⟩
    exact turn25_ok dk (by omega) fun S2 z3 z4 z5 z6 z7 z8 z9 z10 z11 z12 d2 => hK _ _ ⟨⟨_, _, _, _, _, _, _, _, _, _, _, rfl⟩, d2.le (by omega)⟩
  · rintro ρ S' ⟨⟨y2, y3, y4, y5, y6, y7, y8, y9, y10, y11, y12, rfl⟩, dk⟩
    refine ⟨szr rfl, szr rfl, szr rfl, ⟨by decide, by decide, by decide, by decide⟩, ⟨rfl, rfl⟩, ?_⟩
    refine told_a ⟨rfl, ?_⟩
    refine ⟨szr rfl, szr rfl, szr rfl, cpow7, ⟨rfl, rfl⟩, ?_⟩
    refine told_b ⟨rfl, ?_⟩
    refine ⟨szr rfl, ?_⟩
    refine onS cell_last ⟨szr rfl, szr rfl, szr rfl, cpow7, ⟨rfl, rfl⟩, ?_⟩
    refine told_c ⟨rfl, ?_⟩
    refine onS cell_last ⟨szr rfl, ?_⟩
    obtain ⟨p, hp, hr⟩ := rep_found.py
    refine found_ok (xs := [.lst true [.int 5000], .int 15, .int 2736]) (ps := [.list [.int 5000], .int 15, .int 2736]) ?_ rfl ?_ rfl ?_
    · show ((S' ++ [Cl.lst _]).set S'.length _)[S'.length]? = _
      rw [set_last]
      exact List.getElem?_concat_length ..
    · cases hp
      exact (rep_found.mono (k' := 20) (n' := 100000) (by decide) (by decide)).py.elim fun p hp => by
        obtain ⟨e, h⟩ := hp
        cases e
        exact h.nice
    · refine ⟨szr rfl, szr rfl, repC rep_found (ne_str rfl ?_)⟩
      exact ne_int rfl ⟨⟨rfl, rfl⟩, rfl⟩
end Pu
namespace Pu
open PySem PySem.Spec PyProof.Rows L2
theorem all_mk {l : PySem.W.OpenLaw} {w : World} {K : PySem.W.Frag} {h : Heap} {mg : Str → Option Value} {fa : Addr} (X : K.In h) (G : h.Ns mainGlobals mg) (hfa : mg "law" = some (.ref fa))
    {C_TripError : Addr}
    (aC_TripError : PySem.W.nsIn K mainGlobals "TripError" = some (some (.ref C_TripError)))
    {C_TooLong : Addr}
    (aC_TooLong : PySem.W.nsIn K mainGlobals "TooLong" = some (some (.ref C_TooLong)))
    {C_TooLarge : Addr}
    (aC_TooLarge : PySem.W.nsIn K mainGlobals "TooLarge" = some (some (.ref C_TooLarge)))
    {C_BadStarts : Addr}
    (aC_BadStarts : PySem.W.nsIn K mainGlobals "BadStarts" = some (some (.ref C_BadStarts)))
    {C_TooLate : Addr}
    (aC_TooLate : PySem.W.nsIn K mainGlobals "TooLate" = some (some (.ref C_TooLate)))
    {C_BadRoad : Addr}
    (aC_BadRoad : PySem.W.nsIn K mainGlobals "BadRoad" = some (some (.ref C_BadRoad)))
    {C_TooMuch : Addr}
    (aC_TooMuch : PySem.W.nsIn K mainGlobals "TooMuch" = some (some (.ref C_TooMuch)))
    {C_BadEnd : Addr}
    (aC_BadEnd : PySem.W.nsIn K mainGlobals "BadEnd" = some (some (.ref C_BadEnd)))
    {f_count_plans : Addr} {od_count_plans an_count_plans : Option Addr} {sl_count_plans : Array (Option Value)} {oc_count_plans kV_count_plans dc_count_plans pm_count_plans cd_count_plans ct_count_plans : Value}
    (a_count_plans : PySem.W.nsIn K mainGlobals "count_plans" = some (some (.ref f_count_plans)))
    (l_count_plans : K.lookup f_count_plans = some ⟨oc_count_plans, od_count_plans, .func (PySem.W.fnOf "count_plans" "count_plans" (defArgs s_count_plans) (defBody s_count_plans) (defScope s_count_plans) .none kV_count_plans dc_count_plans pm_count_plans an_count_plans cd_count_plans ct_count_plans), sl_count_plans⟩)
    (c_count_plans : PySem.W.codeIn K cd_count_plans "count_plans" = true)
    (k_count_plans : PySem.W.keepIn K (.ref f_count_plans) = true)
    {f_ways_on : Addr} {od_ways_on an_ways_on : Option Addr} {sl_ways_on : Array (Option Value)} {oc_ways_on kV_ways_on dc_ways_on pm_ways_on cd_ways_on ct_ways_on : Value}
    (a_ways_on : PySem.W.nsIn K mainGlobals "ways_on" = some (some (.ref f_ways_on)))
    (l_ways_on : K.lookup f_ways_on = some ⟨oc_ways_on, od_ways_on, .func (PySem.W.fnOf "ways_on" "ways_on" (defArgs s_ways_on) (defBody s_ways_on) (defScope s_ways_on) .none kV_ways_on dc_ways_on pm_ways_on an_ways_on cd_ways_on ct_ways_on), sl_ways_on⟩)
    (c_ways_on : PySem.W.codeIn K cd_ways_on "ways_on" = true)
    (k_ways_on : PySem.W.keepIn K (.ref f_ways_on) = true)
    {f_subset_counts : Addr} {od_subset_counts an_subset_counts : Option Addr} {sl_subset_counts : Array (Option Value)} {oc_subset_counts kV_subset_counts dc_subset_counts pm_subset_counts cd_subset_counts ct_subset_counts : Value}
    (a_subset_counts : PySem.W.nsIn K mainGlobals "subset_counts" = some (some (.ref f_subset_counts)))
    (l_subset_counts : K.lookup f_subset_counts = some ⟨oc_subset_counts, od_subset_counts, .func (PySem.W.fnOf "subset_counts" "subset_counts" (defArgs s_subset_counts) (defBody s_subset_counts) (defScope s_subset_counts) .none kV_subset_counts dc_subset_counts pm_subset_counts an_subset_counts cd_subset_counts ct_subset_counts), sl_subset_counts⟩)
    (c_subset_counts : PySem.W.codeIn K cd_subset_counts "subset_counts" = true)
    (k_subset_counts : PySem.W.keepIn K (.ref f_subset_counts) = true)
    {f_count_good : Addr} {od_count_good an_count_good : Option Addr} {sl_count_good : Array (Option Value)} {oc_count_good kV_count_good dc_count_good pm_count_good cd_count_good ct_count_good : Value}
    (a_count_good : PySem.W.nsIn K mainGlobals "count_good" = some (some (.ref f_count_good)))
    (l_count_good : K.lookup f_count_good = some ⟨oc_count_good, od_count_good, .func (PySem.W.fnOf "count_good" "count_good" (defArgs s_count_good) (defBody s_count_good) (defScope s_count_good) .none kV_count_good dc_count_good pm_count_good an_count_good cd_count_good ct_count_good), sl_count_good⟩)
    (c_count_good : PySem.W.codeIn K cd_count_good "count_good" = true)
    (k_count_good : PySem.W.keepIn K (.ref f_count_good) = true)
    {f_groups_up_to : Addr} {od_groups_up_to an_groups_up_to : Option Addr} {sl_groups_up_to : Array (Option Value)} {oc_groups_up_to kV_groups_up_to dc_groups_up_to pm_groups_up_to cd_groups_up_to ct_groups_up_to : Value}
    (a_groups_up_to : PySem.W.nsIn K mainGlobals "groups_up_to" = some (some (.ref f_groups_up_to)))
    (l_groups_up_to : K.lookup f_groups_up_to = some ⟨oc_groups_up_to, od_groups_up_to, .func (PySem.W.fnOf "groups_up_to" "groups_up_to" (defArgs s_groups_up_to) (defBody s_groups_up_to) (defScope s_groups_up_to) .none kV_groups_up_to dc_groups_up_to pm_groups_up_to an_groups_up_to cd_groups_up_to ct_groups_up_to), sl_groups_up_to⟩)
    (c_groups_up_to : PySem.W.codeIn K cd_groups_up_to "groups_up_to" = true)
    (k_groups_up_to : PySem.W.keepIn K (.ref f_groups_up_to) = true)
    {f_is_surely_good : Addr} {od_is_surely_good an_is_surely_good : Option Addr} {sl_is_surely_good : Array (Option Value)} {oc_is_surely_good kV_is_surely_good dc_is_surely_good pm_is_surely_good cd_is_surely_good ct_is_surely_good : Value}
    (a_is_surely_good : PySem.W.nsIn K mainGlobals "is_surely_good" = some (some (.ref f_is_surely_good)))
    (l_is_surely_good : K.lookup f_is_surely_good = some ⟨oc_is_surely_good, od_is_surely_good, .func (PySem.W.fnOf "is_surely_good" "is_surely_good" (defArgs s_is_surely_good) (defBody s_is_surely_good) (defScope s_is_surely_good) .none kV_is_surely_good dc_is_surely_good pm_is_surely_good an_is_surely_good cd_is_surely_good ct_is_surely_good), sl_is_surely_good⟩)
    (c_is_surely_good : PySem.W.codeIn K cd_is_surely_good "is_surely_good" = true)
    (k_is_surely_good : PySem.W.keepIn K (.ref f_is_surely_good) = true)
    {f_is_maybe_good : Addr} {od_is_maybe_good an_is_maybe_good : Option Addr} {sl_is_maybe_good : Array (Option Value)} {oc_is_maybe_good kV_is_maybe_good dc_is_maybe_good pm_is_maybe_good cd_is_maybe_good ct_is_maybe_good : Value}
    (a_is_maybe_good : PySem.W.nsIn K mainGlobals "is_maybe_good" = some (some (.ref f_is_maybe_good)))
    (l_is_maybe_good : K.lookup f_is_maybe_good = some ⟨oc_is_maybe_good, od_is_maybe_good, .func (PySem.W.fnOf "is_maybe_good" "is_maybe_good" (defArgs s_is_maybe_good) (defBody s_is_maybe_good) (defScope s_is_maybe_good) .none kV_is_maybe_good dc_is_maybe_good pm_is_maybe_good an_is_maybe_good cd_is_maybe_good ct_is_maybe_good), sl_is_maybe_good⟩)
    (c_is_maybe_good : PySem.W.codeIn K cd_is_maybe_good "is_maybe_good" = true)
    (k_is_maybe_good : PySem.W.keepIn K (.ref f_is_maybe_good) = true)
    {f_next_arrivals : Addr} {od_next_arrivals an_next_arrivals : Option Addr} {sl_next_arrivals : Array (Option Value)} {oc_next_arrivals kV_next_arrivals dc_next_arrivals pm_next_arrivals cd_next_arrivals ct_next_arrivals : Value}
    (a_next_arrivals : PySem.W.nsIn K mainGlobals "next_arrivals" = some (some (.ref f_next_arrivals)))
    (l_next_arrivals : K.lookup f_next_arrivals = some ⟨oc_next_arrivals, od_next_arrivals, .func (PySem.W.fnOf "next_arrivals" "next_arrivals" (defArgs s_next_arrivals) (defBody s_next_arrivals) (defScope s_next_arrivals) .none kV_next_arrivals dc_next_arrivals pm_next_arrivals an_next_arrivals cd_next_arrivals ct_next_arrivals), sl_next_arrivals⟩)
    (c_next_arrivals : PySem.W.codeIn K cd_next_arrivals "next_arrivals" = true)
    (k_next_arrivals : PySem.W.keepIn K (.ref f_next_arrivals) = true)
    {f_next_arrival : Addr} {od_next_arrival an_next_arrival : Option Addr} {sl_next_arrival : Array (Option Value)} {oc_next_arrival kV_next_arrival dc_next_arrival pm_next_arrival cd_next_arrival ct_next_arrival : Value}
    (a_next_arrival : PySem.W.nsIn K mainGlobals "next_arrival" = some (some (.ref f_next_arrival)))
    (l_next_arrival : K.lookup f_next_arrival = some ⟨oc_next_arrival, od_next_arrival, .func (PySem.W.fnOf "next_arrival" "next_arrival" (defArgs s_next_arrival) (defBody s_next_arrival) (defScope s_next_arrival) .none kV_next_arrival dc_next_arrival pm_next_arrival an_next_arrival cd_next_arrival ct_next_arrival), sl_next_arrival⟩)
    (c_next_arrival : PySem.W.codeIn K cd_next_arrival "next_arrival" = true)
    (k_next_arrival : PySem.W.keepIn K (.ref f_next_arrival) = true)
    {f__law_draws : Addr} {od__law_draws an__law_draws : Option Addr} {sl__law_draws : Array (Option Value)} {oc__law_draws kV__law_draws dc__law_draws pm__law_draws cd__law_draws ct__law_draws : Value}
    (a__law_draws : PySem.W.nsIn K mainGlobals "_law_draws" = some (some (.ref f__law_draws)))
    (l__law_draws : K.lookup f__law_draws = some ⟨oc__law_draws, od__law_draws, .func (PySem.W.fnOf "_law_draws" "_law_draws" (defArgs s__law_draws) (defBody s__law_draws) (defScope s__law_draws) .none kV__law_draws dc__law_draws pm__law_draws an__law_draws cd__law_draws ct__law_draws), sl__law_draws⟩)
    (c__law_draws : PySem.W.codeIn K cd__law_draws "_law_draws" = true)
    (k__law_draws : PySem.W.keepIn K (.ref f__law_draws) = true)
    {f__law_next : Addr} {od__law_next an__law_next : Option Addr} {sl__law_next : Array (Option Value)} {oc__law_next kV__law_next dc__law_next pm__law_next cd__law_next ct__law_next : Value}
    (a__law_next : PySem.W.nsIn K mainGlobals "_law_next" = some (some (.ref f__law_next)))
    (l__law_next : K.lookup f__law_next = some ⟨oc__law_next, od__law_next, .func (PySem.W.fnOf "_law_next" "_law_next" (defArgs s__law_next) (defBody s__law_next) (defScope s__law_next) .none kV__law_next dc__law_next pm__law_next an__law_next cd__law_next ct__law_next), sl__law_next⟩)
    (c__law_next : PySem.W.codeIn K cd__law_next "_law_next" = true)
    (k__law_next : PySem.W.keepIn K (.ref f__law_next) = true)
    {f__law_road : Addr} {od__law_road an__law_road : Option Addr} {sl__law_road : Array (Option Value)} {oc__law_road kV__law_road dc__law_road pm__law_road cd__law_road ct__law_road : Value}
    (a__law_road : PySem.W.nsIn K mainGlobals "_law_road" = some (some (.ref f__law_road)))
    (l__law_road : K.lookup f__law_road = some ⟨oc__law_road, od__law_road, .func (PySem.W.fnOf "_law_road" "_law_road" (defArgs s__law_road) (defBody s__law_road) (defScope s__law_road) .none kV__law_road dc__law_road pm__law_road an__law_road cd__law_road ct__law_road), sl__law_road⟩)
    (c__law_road : PySem.W.codeIn K cd__law_road "_law_road" = true)
    (k__law_road : PySem.W.keepIn K (.ref f__law_road) = true)
    {f__law_groups : Addr} {od__law_groups an__law_groups : Option Addr} {sl__law_groups : Array (Option Value)} {oc__law_groups kV__law_groups dc__law_groups pm__law_groups cd__law_groups ct__law_groups : Value}
    (a__law_groups : PySem.W.nsIn K mainGlobals "_law_groups" = some (some (.ref f__law_groups)))
    (l__law_groups : K.lookup f__law_groups = some ⟨oc__law_groups, od__law_groups, .func (PySem.W.fnOf "_law_groups" "_law_groups" (defArgs s__law_groups) (defBody s__law_groups) (defScope s__law_groups) .none kV__law_groups dc__law_groups pm__law_groups an__law_groups cd__law_groups ct__law_groups), sl__law_groups⟩)
    (c__law_groups : PySem.W.codeIn K cd__law_groups "_law_groups" = true)
    (k__law_groups : PySem.W.keepIn K (.ref f__law_groups) = true)
    {f__law_plans : Addr} {od__law_plans an__law_plans : Option Addr} {sl__law_plans : Array (Option Value)} {oc__law_plans kV__law_plans dc__law_plans pm__law_plans cd__law_plans ct__law_plans : Value}
    (a__law_plans : PySem.W.nsIn K mainGlobals "_law_plans" = some (some (.ref f__law_plans)))
    (l__law_plans : K.lookup f__law_plans = some ⟨oc__law_plans, od__law_plans, .func (PySem.W.fnOf "_law_plans" "_law_plans" (defArgs s__law_plans) (defBody s__law_plans) (defScope s__law_plans) .none kV__law_plans dc__law_plans pm__law_plans an__law_plans cd__law_plans ct__law_plans), sl__law_plans⟩)
    (c__law_plans : PySem.W.codeIn K cd__law_plans "_law_plans" = true)
    (k__law_plans : PySem.W.keepIn K (.ref f__law_plans) = true)
    {f__law_small : Addr} {od__law_small an__law_small : Option Addr} {sl__law_small : Array (Option Value)} {oc__law_small kV__law_small dc__law_small pm__law_small cd__law_small ct__law_small : Value}
    (a__law_small : PySem.W.nsIn K mainGlobals "_law_small" = some (some (.ref f__law_small)))
    (l__law_small : K.lookup f__law_small = some ⟨oc__law_small, od__law_small, .func (PySem.W.fnOf "_law_small" "_law_small" (defArgs s__law_small) (defBody s__law_small) (defScope s__law_small) .none kV__law_small dc__law_small pm__law_small an__law_small cd__law_small ct__law_small), sl__law_small⟩)
    (c__law_small : PySem.W.codeIn K cd__law_small "_law_small" = true)
    (k__law_small : PySem.W.keepIn K (.ref f__law_small) = true)
    {f__law_bound : Addr} {od__law_bound an__law_bound : Option Addr} {sl__law_bound : Array (Option Value)} {oc__law_bound kV__law_bound dc__law_bound pm__law_bound cd__law_bound ct__law_bound : Value}
    (a__law_bound : PySem.W.nsIn K mainGlobals "_law_bound" = some (some (.ref f__law_bound)))
    (l__law_bound : K.lookup f__law_bound = some ⟨oc__law_bound, od__law_bound, .func (PySem.W.fnOf "_law_bound" "_law_bound" (defArgs s__law_bound) (defBody s__law_bound) (defScope s__law_bound) .none kV__law_bound dc__law_bound pm__law_bound an__law_bound cd__law_bound ct__law_bound), sl__law_bound⟩)
    (c__law_bound : PySem.W.codeIn K cd__law_bound "_law_bound" = true)
    (k__law_bound : PySem.W.keepIn K (.ref f__law_bound) = true)
    {f__law_finish : Addr} {od__law_finish an__law_finish : Option Addr} {sl__law_finish : Array (Option Value)} {oc__law_finish kV__law_finish dc__law_finish pm__law_finish cd__law_finish ct__law_finish : Value}
    (a__law_finish : PySem.W.nsIn K mainGlobals "_law_finish" = some (some (.ref f__law_finish)))
    (l__law_finish : K.lookup f__law_finish = some ⟨oc__law_finish, od__law_finish, .func (PySem.W.fnOf "_law_finish" "_law_finish" (defArgs s__law_finish) (defBody s__law_finish) (defScope s__law_finish) .none kV__law_finish dc__law_finish pm__law_finish an__law_finish cd__law_finish ct__law_finish), sl__law_finish⟩)
    (c__law_finish : PySem.W.codeIn K cd__law_finish "_law_finish" = true)
    (k__law_finish : PySem.W.keepIn K (.ref f__law_finish) = true)
    {f__law_told : Addr} {od__law_told an__law_told : Option Addr} {sl__law_told : Array (Option Value)} {oc__law_told kV__law_told dc__law_told pm__law_told cd__law_told ct__law_told : Value}
    (a__law_told : PySem.W.nsIn K mainGlobals "_law_told" = some (some (.ref f__law_told)))
    (l__law_told : K.lookup f__law_told = some ⟨oc__law_told, od__law_told, .func (PySem.W.fnOf "_law_told" "_law_told" (defArgs s__law_told) (defBody s__law_told) (defScope s__law_told) .none kV__law_told dc__law_told pm__law_told an__law_told cd__law_told ct__law_told), sl__law_told⟩)
    (c__law_told : PySem.W.codeIn K cd__law_told "_law_told" = true)
    (k__law_told : PySem.W.keepIn K (.ref f__law_told) = true)
    {f_law : Addr} {od_law an_law : Option Addr} {sl_law : Array (Option Value)} {oc_law kV_law dc_law pm_law cd_law ct_law : Value}
    (a_law : PySem.W.nsIn K mainGlobals "law" = some (some (.ref f_law)))
    (l_law : K.lookup f_law = some ⟨oc_law, od_law, .func (PySem.W.fnOf "law" "law" (defArgs s_law) (defBody s_law) (defScope s_law) .none kV_law dc_law pm_law an_law cd_law ct_law), sl_law⟩)
    (c_law : PySem.W.codeIn K cd_law "law" = true)
    (k_law : PySem.W.keepIn K (.ref f_law) = true)
    (cgE : PySem.W.specialIn K (.builtin "object.__class__") "__get__" = some (some (.builtin "getset_descriptor.__get__")))
    (ctE : PySem.W.takesIn K (.builtin "object.__class__") = some true)
    (xmk_TooLarge : PySem.W.excInitIn K C_TooLarge [.type "ValueError", .type "Exception", .type "BaseException", .type "object"] "ValueError.__new__" = true)
    (xov_TooLarge : PySem.W.excOver K C_TooLarge [.type "ValueError", .type "Exception", .type "BaseException", .type "object"] = true)
    (xsa_TooLarge : PySem.W.findIn K (.ref C_TooLarge) "__setattr__" = some (some (.builtin "object.__setattr__")))
    (xga_TooLarge : PySem.W.findIn K (.ref C_TooLarge) "__getattribute__" = some (some (.builtin "BaseException.__getattribute__")))
    (xgg_TooLarge : PySem.W.findIn K (.ref C_TooLarge) "__getattr__" = some none)
    (xnb_TooLarge : PySem.W.findIn K (.ref C_TooLarge) "bound" = some none)
    (xcl_TooLarge : PySem.W.findIn K (.ref C_TooLarge) "__class__" = some (some (.builtin "object.__class__")))
    (xco_TooLarge : PySem.W.mroIn K C_TooLarge (.type "object") = some true)
    (xkC_TooLarge : PySem.W.keepIn K (.ref C_TooLarge) = true)
    (xhd_TooLarge : PySem.W.hasDictIn K C_TooLarge = true)
    (xiC_TooLarge : PySem.W.isClsIn K C_TooLarge = true)
    (xtC_TooLarge : PySem.W.typeIn K (.ref C_TooLarge) = some (.type "type"))
    (xeC_TooLarge : PySem.W.subIn K (.ref C_TooLarge) (.type "BaseException") = some true)
    {f_iTooLarge : Addr} {od_iTooLarge an_iTooLarge : Option Addr} {sl_iTooLarge : Array (Option Value)} {oc_iTooLarge kV_iTooLarge dc_iTooLarge pm_iTooLarge cd_iTooLarge ct_iTooLarge : Value}
    (ini_TooLarge : PySem.W.findIn K (.ref C_TooLarge) "__init__" = some (some (.ref f_iTooLarge)))
    (tI_TooLarge : PySem.W.typeIn K (.ref f_iTooLarge) = some (.type "function"))
    (lI_TooLarge : K.lookup f_iTooLarge = some ⟨oc_iTooLarge, od_iTooLarge, .func (PySem.W.fnOf "__init__" "TooLarge.__init__" (defArgs si_TooLarge) (defBody si_TooLarge) (defScope si_TooLarge) .none kV_iTooLarge dc_iTooLarge pm_iTooLarge an_iTooLarge cd_iTooLarge ct_iTooLarge), sl_iTooLarge⟩)
    (cI_TooLarge : PySem.W.codeIn K cd_iTooLarge "TooLarge.__init__" = true)
    (kI_TooLarge : PySem.W.keepIn K (.ref f_iTooLarge) = true)
    (kx_TooLarge_BadEnd : PySem.W.kitOne K (.ref C_TooLarge) (.ref C_BadEnd) = some false)
    (kx_TooLarge_BadRoad : PySem.W.kitOne K (.ref C_TooLarge) (.ref C_BadRoad) = some false)
    (kx_TooLarge_BadStarts : PySem.W.kitOne K (.ref C_TooLarge) (.ref C_BadStarts) = some false)
    (kx_TooLarge_LookupError : PySem.W.kitOne K (.ref C_TooLarge) (.type "LookupError") = some false)
    (kx_TooLarge_TooLarge : PySem.W.kitOne K (.ref C_TooLarge) (.ref C_TooLarge) = some true)
    (kx_TooLarge_TooLate : PySem.W.kitOne K (.ref C_TooLarge) (.ref C_TooLate) = some false)
    (kx_TooLarge_TooLong : PySem.W.kitOne K (.ref C_TooLarge) (.ref C_TooLong) = some false)
    (kx_TooLarge_TooMuch : PySem.W.kitOne K (.ref C_TooLarge) (.ref C_TooMuch) = some false)
    (ex_TooLarge_TripError : PySem.W.exmOne K (.ref C_TooLarge) (.ref C_TripError) = some true)
    {t_SMALL_PLANS : Tok}
    (v_SMALL_PLANS : PySem.W.nsIn K mainGlobals "SMALL_PLANS" = some (some (.int 5000 t_SMALL_PLANS)))
    (z_LookupError : PySem.W.nsIn K mainGlobals "LookupError" = some none)
    (z_abs : PySem.W.nsIn K mainGlobals "abs" = some none)
    (z_enumerate : PySem.W.nsIn K mainGlobals "enumerate" = some none)
    (z_int : PySem.W.nsIn K mainGlobals "int" = some none)
    (z_isinstance : PySem.W.nsIn K mainGlobals "isinstance" = some none)
    (z_len : PySem.W.nsIn K mainGlobals "len" = some none)
    (z_list : PySem.W.nsIn K mainGlobals "list" = some none)
    (z_max : PySem.W.nsIn K mainGlobals "max" = some none)
    (z_min : PySem.W.nsIn K mainGlobals "min" = some none)
    (z_range : PySem.W.nsIn K mainGlobals "range" = some none)
    (z_repr : PySem.W.nsIn K mainGlobals "repr" = some none)
    (z_sorted : PySem.W.nsIn K mainGlobals "sorted" = some none)
    (z_sum : PySem.W.nsIn K mainGlobals "sum" = some none)
    (z_tuple : PySem.W.nsIn K mainGlobals "tuple" = some none)
    (z_zip : PySem.W.nsIn K mainGlobals "zip" = some none)
    : ∃ fd : FuncData, (∀ (s : Shared) (v : Value), BindsTo s fd ⟨[v], []⟩ [("_law_script", v)]) ∧ ∀ base : Heap, K.In base → base.Ns mainGlobals mg → BmB base mg → Rb.FnG l.prog w K mg base CX0 5 fa fd ["_law_script"] (spF (Pu.ct0 K mg) F_law_k25) := by
  cases hfa.symm.trans (PySem.W.mg_of X G a_law)
  have F_count_plans := fun_mk (st := s_count_plans) l_count_plans c_count_plans k_count_plans
  have b_count_plans := F_count_plans.binds (ps := ["road", "people"]) fun _ _ _ _ _ _ us hl => match us, hl with | [_, _], _ => rfl
  have F_ways_on := fun_mk (st := s_ways_on) l_ways_on c_ways_on k_ways_on
  have b_ways_on := F_ways_on.binds (ps := ["road", "people"]) fun _ _ _ _ _ _ us hl => match us, hl with | [_, _], _ => rfl
  have F_subset_counts := fun_mk (st := s_subset_counts) l_subset_counts c_subset_counts k_subset_counts
  have b_subset_counts := F_subset_counts.binds (ps := ["people"]) fun _ _ _ _ _ _ us hl => match us, hl with | [_], _ => rfl
  have F_count_good := fun_mk (st := s_count_good) l_count_good c_count_good k_count_good
  have b_count_good := F_count_good.binds (ps := ["road", "starts", "end"]) fun _ _ _ _ _ _ us hl => match us, hl with | [_, _, _], _ => rfl
  have F_groups_up_to := fun_mk (st := s_groups_up_to) l_groups_up_to c_groups_up_to k_groups_up_to
  have b_groups_up_to := F_groups_up_to.binds (ps := ["people", "most"]) fun _ _ _ _ _ _ us hl => match us, hl with | [_, _], _ => rfl
  have F_is_surely_good := fun_mk (st := s_is_surely_good) l_is_surely_good c_is_surely_good k_is_surely_good
  have b_is_surely_good := F_is_surely_good.binds (ps := ["road", "station", "ticks", "end"]) fun _ _ _ _ _ _ us hl => match us, hl with | [_, _, _, _], _ => rfl
  have F_is_maybe_good := fun_mk (st := s_is_maybe_good) l_is_maybe_good c_is_maybe_good k_is_maybe_good
  have b_is_maybe_good := F_is_maybe_good.binds (ps := ["road", "station", "ticks", "end"]) fun _ _ _ _ _ _ us hl => match us, hl with | [_, _, _, _], _ => rfl
  have F_next_arrivals := fun_mk (st := s_next_arrivals) l_next_arrivals c_next_arrivals k_next_arrivals
  have b_next_arrivals := F_next_arrivals.binds (ps := ["road", "station", "arrivals", "groups", "end"]) fun _ _ _ _ _ _ us hl => match us, hl with | [_, _, _, _, _], _ => rfl
  have F_next_arrival := fun_mk (st := s_next_arrival) l_next_arrival c_next_arrival k_next_arrival
  have b_next_arrival := F_next_arrival.binds (ps := ["road", "ticks", "bikes", "riders"]) fun _ _ _ _ _ _ us hl => match us, hl with | [_, _, _, _], _ => rfl
  have F__law_draws := fun_mk (st := s__law_draws) l__law_draws c__law_draws k__law_draws
  have b__law_draws := F__law_draws.binds (ps := ["_law_script"]) fun _ _ _ _ _ _ us hl => match us, hl with | [_], _ => rfl
  have F__law_next := fun_mk (st := s__law_next) l__law_next c__law_next k__law_next
  have b__law_next := F__law_next.binds (ps := ["_law_state", "_law_many"]) fun _ _ _ _ _ _ us hl => match us, hl with | [_, _], _ => rfl
  have F__law_road := fun_mk (st := s__law_road) l__law_road c__law_road k__law_road
  have b__law_road := F__law_road.binds (ps := ["_law_state", "_law_stages", "_law_most"]) fun _ _ _ _ _ _ us hl => match us, hl with | [_, _, _], _ => rfl
  have F__law_groups := fun_mk (st := s__law_groups) l__law_groups c__law_groups k__law_groups
  have b__law_groups := F__law_groups.binds (ps := ["_law_people", "_law_most"]) fun _ _ _ _ _ _ us hl => match us, hl with | [_, _], _ => rfl
  have F__law_plans := fun_mk (st := s__law_plans) l__law_plans c__law_plans k__law_plans
  have b__law_plans := F__law_plans.binds (ps := ["_law_road_here", "_law_people"]) fun _ _ _ _ _ _ us hl => match us, hl with | [_, _], _ => rfl
  have F__law_small := fun_mk (st := s__law_small) l__law_small c__law_small k__law_small
  have b__law_small := F__law_small.binds (ps := ["_law_state", "_law_plans_here"]) fun _ _ _ _ _ _ us hl => match us, hl with | [_, _], _ => rfl
  have F__law_bound := fun_mk (st := s__law_bound) l__law_bound c__law_bound k__law_bound
  have b__law_bound := F__law_bound.binds (ps := ["_law_road_here", "_law_people"]) fun _ _ _ _ _ _ us hl => match us, hl with | [_, _], _ => rfl
  have F__law_finish := fun_mk (st := s__law_finish) l__law_finish c__law_finish k__law_finish
  have b__law_finish := F__law_finish.binds (ps := ["_law_road_here", "_law_starts", "_law_plan"]) fun _ _ _ _ _ _ us hl => match us, hl with | [_, _, _], _ => rfl
  have F__law_told := fun_mk (st := s__law_told) l__law_told c__law_told k__law_told
  have b__law_told := F__law_told.binds (ps := ["_law_road_here", "_law_starts", "_law_end"]) fun _ _ _ _ _ _ us hl => match us, hl with | [_, _, _], _ => rfl
  have F_law := fun_mk (st := s_law) l_law c_law k_law
  have b_law := F_law.binds (ps := ["_law_script"]) fun _ _ _ _ _ _ us hl => match us, hl with | [_], _ => rfl
  have E_TooLarge : OwnI K C_TooLarge := ⟨⟨xga_TooLarge, xgg_TooLarge, xeC_TooLarge, xhd_TooLarge⟩, xiC_TooLarge, xcl_TooLarge, cgE, ctE, xco_TooLarge⟩
  have L_TooLarge : ErrC K C_TooLarge [.type "ValueError", .type "Exception", .type "BaseException", .type "object"] "ValueError.__new__" := ⟨xmk_TooLarge, xov_TooLarge, xhd_TooLarge, xsa_TooLarge, xeC_TooLarge, xtC_TooLarge, xkC_TooLarge⟩
  have FI_TooLarge := fun_mk (st := si_TooLarge) lI_TooLarge cI_TooLarge kI_TooLarge
  have bI_TooLarge := FI_TooLarge.binds (ps := ["self", "bound"]) fun _ _ _ _ _ _ us hl => match us, hl with | [_, _], _ => rfl
  exact ⟨_, fun s v => .of_eq rfl, fun base _ _ hB => G_law (⟨_, _, F_count_plans, PySem.W.mg_of X G a_count_plans, b_count_plans, _, _, F_ways_on, PySem.W.mg_of X G a_ways_on, b_ways_on, _, _, F_subset_counts, PySem.W.mg_of X G a_subset_counts, b_subset_counts, _, _, F_count_good, PySem.W.mg_of X G a_count_good, b_count_good, _, _, F_groups_up_to, PySem.W.mg_of X G a_groups_up_to, b_groups_up_to, _, _, F_is_surely_good, PySem.W.mg_of X G a_is_surely_good, b_is_surely_good, _, _, F_is_maybe_good, PySem.W.mg_of X G a_is_maybe_good, b_is_maybe_good, _, _, F_next_arrivals, PySem.W.mg_of X G a_next_arrivals, b_next_arrivals, _, _, F_next_arrival, PySem.W.mg_of X G a_next_arrival, b_next_arrival, _, _, F__law_draws, PySem.W.mg_of X G a__law_draws, b__law_draws, _, _, F__law_next, PySem.W.mg_of X G a__law_next, b__law_next, _, _, F__law_road, PySem.W.mg_of X G a__law_road, b__law_road, _, _, F__law_groups, PySem.W.mg_of X G a__law_groups, b__law_groups, _, _, F__law_plans, PySem.W.mg_of X G a__law_plans, b__law_plans, _, _, F__law_small, PySem.W.mg_of X G a__law_small, b__law_small, _, _, F__law_bound, PySem.W.mg_of X G a__law_bound, b__law_bound, _, _, F__law_finish, PySem.W.mg_of X G a__law_finish, b__law_finish, _, _, F__law_told, PySem.W.mg_of X G a__law_told, b__law_told, _, _, F_law, PySem.W.mg_of X G a_law, b_law, _, PySem.W.mg_of X G aC_TripError, _, PySem.W.mg_of X G aC_TooLong, _, PySem.W.mg_of X G aC_TooLarge, _, PySem.W.mg_of X G aC_BadStarts, _, PySem.W.mg_of X G aC_TooLate, _, PySem.W.mg_of X G aC_BadRoad, _, PySem.W.mg_of X G aC_TooMuch, _, PySem.W.mg_of X G aC_BadEnd, E_TooLarge, L_TooLarge, xnb_TooLarge, _, _, ini_TooLarge, tI_TooLarge, FI_TooLarge, bI_TooLarge, xi_own (PySem.W.mg_of X G aC_TooLarge) E_TooLarge (PySem.W.mg_of X G aC_BadEnd) kx_TooLarge_BadEnd, xi_own (PySem.W.mg_of X G aC_TooLarge) E_TooLarge (PySem.W.mg_of X G aC_BadRoad) kx_TooLarge_BadRoad, xi_own (PySem.W.mg_of X G aC_TooLarge) E_TooLarge (PySem.W.mg_of X G aC_BadStarts) kx_TooLarge_BadStarts, xi_ty (PySem.W.mg_of X G aC_TooLarge) E_TooLarge (PySem.W.mg_none_of X G z_LookupError) (by decide +kernel) kx_TooLarge_LookupError, xi_own (PySem.W.mg_of X G aC_TooLarge) E_TooLarge (PySem.W.mg_of X G aC_TooLarge) kx_TooLarge_TooLarge, xi_own (PySem.W.mg_of X G aC_TooLarge) E_TooLarge (PySem.W.mg_of X G aC_TooLate) kx_TooLarge_TooLate, xi_own (PySem.W.mg_of X G aC_TooLarge) E_TooLarge (PySem.W.mg_of X G aC_TooLong) kx_TooLarge_TooLong, xi_own (PySem.W.mg_of X G aC_TooLarge) E_TooLarge (PySem.W.mg_of X G aC_TooMuch) kx_TooLarge_TooMuch, ex_TooLarge_TripError, _, PySem.W.mg_of X G v_SMALL_PLANS, PySem.W.mg_none_of X G z_LookupError, PySem.W.mg_none_of X G z_abs, PySem.W.mg_none_of X G z_enumerate, PySem.W.mg_none_of X G z_int, PySem.W.mg_none_of X G z_isinstance, PySem.W.mg_none_of X G z_len, PySem.W.mg_none_of X G z_list, PySem.W.mg_none_of X G z_max, PySem.W.mg_none_of X G z_min, PySem.W.mg_none_of X G z_range, PySem.W.mg_none_of X G z_repr, PySem.W.mg_none_of X G z_sorted, PySem.W.mg_none_of X G z_sum, PySem.W.mg_none_of X G z_tuple, PySem.W.mg_none_of X G z_zip⟩ : Tx K mg)⟩
end Pu
open PySem PySem.W PyProof.Rows
set_option maxHeartbeats 0 in
theorem PySem.Challenge.cw_roadbikes_k25_good_plans_counted_holds : PySem.Challenge.rw_roadbikes_k25_good_plans_counted.Holds := by
  w_on; o_law; k_head; (case hw => w_witness2)
  k_fill
  refine' Pu.endPT1 (l := PySem.Challenge.rw_roadbikes_k25_good_plans_counted) (n := 63) (lv := 5) (x := "_law_script") (FL := Pu.F_law_k25) "law" rfl (by decide) rfl ⟨rfl, by decide, by decide⟩ (fun w h Y => PySem.W.kIn_of Y) ?tab ?F Pu.law_ok ?hTb
  case tab =>
    intro pr
    refine' Pu.tab_is ?e1 ?e2 ?e3 ?e4 ?e5 ?e6 ?e7 ?e8; (case e3 => k_is); (case e4 => k_is); (case e5 => exact rfl); (case e6 => exact rfl); (case e7 => k_is); (case e8 => exact rfl); (case e1 => kernel_rfl); (case e2 => kernel_rfl)
  case hTb => exact fun pr => by kernel_rfl
  case F =>
    intro w mg fa h KX G hmg
    refine' Pu.all_mk KX G hmg ?aC_TripError ?aC_TooLong ?aC_TooLarge ?aC_BadStarts ?aC_TooLate ?aC_BadRoad ?aC_TooMuch ?aC_BadEnd ?a_count_plans ?l_count_plans ?c_count_plans ?k_count_plans ?a_ways_on ?l_ways_on ?c_ways_on ?k_ways_on ?a_subset_counts ?l_subset_counts ?c_subset_counts ?k_subset_counts ?a_count_good ?l_count_good ?c_count_good ?k_count_good ?a_groups_up_to ?l_groups_up_to ?c_groups_up_to ?k_groups_up_to ?a_is_surely_good ?l_is_surely_good ?c_is_surely_good ?k_is_surely_good ?a_is_maybe_good ?l_is_maybe_good ?c_is_maybe_good ?k_is_maybe_good ?a_next_arrivals ?l_next_arrivals ?c_next_arrivals ?k_next_arrivals ?a_next_arrival ?l_next_arrival ?c_next_arrival ?k_next_arrival ?a__law_draws ?l__law_draws ?c__law_draws ?k__law_draws ?a__law_next ?l__law_next ?c__law_next ?k__law_next ?a__law_road ?l__law_road ?c__law_road ?k__law_road ?a__law_groups ?l__law_groups ?c__law_groups ?k__law_groups ?a__law_plans ?l__law_plans ?c__law_plans ?k__law_plans ?a__law_small ?l__law_small ?c__law_small ?k__law_small ?a__law_bound ?l__law_bound ?c__law_bound ?k__law_bound ?a__law_finish ?l__law_finish ?c__law_finish ?k__law_finish ?a__law_told ?l__law_told ?c__law_told ?k__law_told ?a_law ?l_law ?c_law ?k_law ?cgE ?ctE ?xmk_TooLarge ?xov_TooLarge ?xsa_TooLarge ?xga_TooLarge ?xgg_TooLarge ?xnb_TooLarge ?xcl_TooLarge ?xco_TooLarge ?xkC_TooLarge ?xhd_TooLarge ?xiC_TooLarge ?xtC_TooLarge ?xeC_TooLarge ?ini_TooLarge ?tI_TooLarge ?lI_TooLarge ?cI_TooLarge ?kI_TooLarge ?kx_TooLarge_BadEnd ?kx_TooLarge_BadRoad ?kx_TooLarge_BadStarts ?kx_TooLarge_LookupError ?kx_TooLarge_TooLarge ?kx_TooLarge_TooLate ?kx_TooLarge_TooLong ?kx_TooLarge_TooMuch ?ex_TooLarge_TripError ?v_SMALL_PLANS ?z_LookupError ?z_abs ?z_enumerate ?z_int ?z_isinstance ?z_len ?z_list ?z_max ?z_min ?z_range ?z_repr ?z_sorted ?z_sum ?z_tuple ?z_zip
    (case aC_TripError => k_is); (case aC_TooLong => k_is); (case aC_TooLarge => k_is); (case aC_BadStarts => k_is); (case aC_TooLate => k_is); (case aC_BadRoad => k_is); (case aC_TooMuch => k_is); (case aC_BadEnd => k_is); (case a_count_plans => k_is); (case l_count_plans => k_is); (case c_count_plans => k_is); (case k_count_plans => k_is); (case a_ways_on => k_is); (case l_ways_on => k_is); (case c_ways_on => k_is); (case k_ways_on => k_is); (case a_subset_counts => k_is); (case l_subset_counts => k_is); (case c_subset_counts => k_is); (case k_subset_counts => k_is); (case a_count_good => k_is); (case l_count_good => k_is); (case c_count_good => k_is); (case k_count_good => k_is); (case a_groups_up_to => k_is); (case l_groups_up_to => k_is); (case c_groups_up_to => k_is); (case k_groups_up_to => k_is); (case a_is_surely_good => k_is); (case l_is_surely_good => k_is); (case c_is_surely_good => k_is); (case k_is_surely_good => k_is); (case a_is_maybe_good => k_is); (case l_is_maybe_good => k_is); (case c_is_maybe_good => k_is); (case k_is_maybe_good => k_is); (case a_next_arrivals => k_is); (case l_next_arrivals => k_is); (case c_next_arrivals => k_is); (case k_next_arrivals => k_is); (case a_next_arrival => k_is); (case l_next_arrival => k_is); (case c_next_arrival => k_is); (case k_next_arrival => k_is); (case a__law_draws => k_is); (case l__law_draws => k_is); (case c__law_draws => k_is); (case k__law_draws => k_is); (case a__law_next => k_is); (case l__law_next => k_is); (case c__law_next => k_is); (case k__law_next => k_is); (case a__law_road => k_is); (case l__law_road => k_is); (case c__law_road => k_is); (case k__law_road => k_is); (case a__law_groups => k_is); (case l__law_groups => k_is); (case c__law_groups => k_is); (case k__law_groups => k_is); (case a__law_plans => k_is); (case l__law_plans => k_is); (case c__law_plans => k_is); (case k__law_plans => k_is); (case a__law_small => k_is); (case l__law_small => k_is); (case c__law_small => k_is); (case k__law_small => k_is); (case a__law_bound => k_is); (case l__law_bound => k_is); (case c__law_bound => k_is); (case k__law_bound => k_is); (case a__law_finish => k_is); (case l__law_finish => k_is); (case c__law_finish => k_is); (case k__law_finish => k_is); (case a__law_told => k_is); (case l__law_told => k_is); (case c__law_told => k_is); (case k__law_told => k_is); (case a_law => k_is); (case l_law => k_is); (case c_law => k_is); (case k_law => k_is); (case cgE => k_is); (case ctE => k_is); (case xmk_TooLarge => kx_is); (case xov_TooLarge => kx_is); (case xsa_TooLarge => k_is); (case xga_TooLarge => k_is); (case xgg_TooLarge => k_is); (case xnb_TooLarge => k_is); (case xcl_TooLarge => k_is); (case xco_TooLarge => k_is); (case xkC_TooLarge => k_is); (case xhd_TooLarge => k_is); (case xiC_TooLarge => k_is); (case xtC_TooLarge => k_is); (case xeC_TooLarge => k_is); (case ini_TooLarge => k_is); (case tI_TooLarge => k_is); (case lI_TooLarge => k_is); (case cI_TooLarge => k_is); (case kI_TooLarge => k_is); (case kx_TooLarge_BadEnd => kit_is); (case kx_TooLarge_BadRoad => kit_is); (case kx_TooLarge_BadStarts => kit_is); (case kx_TooLarge_LookupError => kit_is); (case kx_TooLarge_TooLarge => kit_is); (case kx_TooLarge_TooLate => kit_is); (case kx_TooLarge_TooLong => kit_is); (case kx_TooLarge_TooMuch => kit_is); (case ex_TooLarge_TripError => kts_exm); (case v_SMALL_PLANS => k_is); (case z_LookupError => k_is); (case z_abs => k_is); (case z_enumerate => k_is); (case z_int => k_is); (case z_isinstance => k_is); (case z_len => k_is); (case z_list => k_is); (case z_max => k_is); (case z_min => k_is); (case z_range => k_is); (case z_repr => k_is); (case z_sorted => k_is); (case z_sum => k_is); (case z_tuple => k_is); (case z_zip => k_is)
