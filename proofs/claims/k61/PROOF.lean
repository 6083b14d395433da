import PyProof.Rows.All
import Wide.All
import OpenK.AllK
import Wide.FinOn
import KE.OsRunLaw
import HandS.ForMost
import HandS.Wide
import HandS.TupAny
import HandS.TupMul
import HandS.Style
import HandS.Conv
import HandS.Zip
import PyProof.ReprRoads
import PyProof.SumWalkG
import PyProof.WalksMore
import KE.DataMinMax
import HandS.Evl
import PyProof.ReprBulk
import PyProof.FitsInt
import KE.GoesMore
import PyProof.Draws
import HandS.SortRule
import HandS.Walk
import KE.DatumOrd
import KE.DataFind
import HandS.SetFor
import PyProof.Rows.RowBridgeK
import KE.KExcIs
import HandS.Star
import HandS.ExcInit
import HandS.ExcField
import HandS.ExcOwn
import HandS.WordsExc
import HandS.NoneIn
import HandS.IsInst
import HandS.SortInts
import HandS.Strs
import HandS.TupLe
import HandS.Property
import KE.KExcInit
import KE.KOpsOwn
import PyProof.InstNe
import HandS.Flt
import HandS.FStr
import HandS.Text
import KE.KCallOwn
import HandS.Defaults
import HandS.ClsMeth
import HandS.GenList
import HandS.Iter
import HandS.StrMore
import HandS.TryMany
import KE.KTryMore
import HandS.NamedTupSort
import PyProof.EqKinds
import PyProof.FactsAll.dict_1
import KE.DataEq
import PyProof.StrBlock2
import HandS.HotCalls
import HandS.RaiseMore
import HandS.ReplaceLit
import PyProof.Rows.ReprOcc
import PyProof.StrLawsChain
import KE.KExcLine
import PySem.Challenge.RW_roadbikes_k61_unknown_commands
set_option Elab.async false
set_option linter.all false
set_option maxRecDepth 100000
set_option maxHeartbeats 4000000
section
open PySem PySem.W PyProof.Rows
local macro_rules
  | `(tactic| o_headL $_) => `(tactic| contradiction)
theorem PuHd.hDum (hF : False) : PySem.Challenge.rw_roadbikes_k61_unknown_commands.row.Holds := by
  k_headL
end
namespace PuHd
open PySem PySem.W PySem.Calls PyProof.Rows
noncomputable abbrev hK : Params → Frag := PuHd.hDum.heap_1
def hS (i : Nat) : Stmt := PySem.Challenge.rw_roadbikes_k61_unknown_commands.row.prog.main.body.getD i (.Pass ⟨0, 0, 0, 0⟩)
def hq : Program := { PySem.Challenge.rw_roadbikes_k61_unknown_commands.row.prog with main := { PySem.Challenge.rw_roadbikes_k61_unknown_commands.row.prog.main with body := [hS 0, hS 1, hS 2, hS 3, hS 4, hS 5, hS 6, hS 8, hS 9, hS 10, hS 12, hS 13, hS 14, hS 15, hS 16, hS 17, hS 18, hS 19, hS 20, hS 21, hS 22, hS 23, hS 24, hS 25, hS 26, hS 27, hS 28, hS 29, hS 30, hS 31, hS 32, hS 34, hS 35, hS 36, hS 37, hS 39, hS 40, hS 41, hS 42, hS 43, hS 44, hS 45, hS 46, hS 47, hS 49, hS 50, hS 51, hS 52, hS 54, hS 55, hS 56, hS 57, hS 58, hS 59, hS 60, hS 62, hS 63, hS 64, hS 65, hS 66, hS 67, hS 68, hS 69, hS 71, hS 72, hS 73, hS 74, hS 75, hS 77, hS 79, hS 80, hS 82, hS 83, hS 84, hS 85, hS 86, hS 87] } }
def hLo : List Str := [Str.ofString "LIMIT", Str.ofString "MAX_START", Str.ofString "EDIT_LENGTHS", Str.ofString "Promise", Str.ofString "Trip", Str.ofString "PromisedTrip"]
def hLv : List (Str × WData) := [(Str.ofString "LIMIT", WData.int 10000000), (Str.ofString "MAX_START", WData.int 1000000)]
noncomputable abbrev hEnd (w : World) (os : OsState) := HeadRun.endF (HeadRun.stepQ (HeadRun.denQ HeadRun.tabQ) PySem.Challenge.rw_roadbikes_k61_unknown_commands.row.prog w) 17534 PySem.Challenge.rw_roadbikes_k61_unknown_commands.row.prog w os
noncomputable abbrev hSeen (s : Shared) := HeadRun.seenQ hq hLo (importedModules PySem.Challenge.rw_roadbikes_k61_unknown_commands.row.prog.main.body) (fun s => xlAt hq hLv s && recOk PySem.Challenge.rw_roadbikes_k61_unknown_commands.row.records s) s
noncomputable def PhA (w : World) (os : OsState) : Prop := Option.map (fun s => ((HeadRun.looksF PySem.Challenge.rw_roadbikes_k61_unknown_commands.row.prog (boot_heap w.params) s.abs, ((hK w.params).map fun p => p.1).map (HeadRun.getT s)), (hSeen s.abs).2.1)) (hEnd w os) = some (((true, (hK w.params).map fun x => some x.2), bltViewBooted))
noncomputable def PhB (w : World) (os : OsState) : Prop := Option.map (fun s => ((hSeen s.abs).1)) (hEnd w os) = some ((expectedOf hq))
noncomputable def PhD (w : World) (os : OsState) : Prop := Option.map (fun s => ((hSeen s.abs).2.2.1, (hSeen s.abs).2.2.2.1, (hSeen s.abs).2.2.2.2.1)) (hEnd w os) = some ((true, true, pinGoodD (drecsOf hq)))
noncomputable def PhG (w : World) (os : OsState) : Prop := Option.map (fun s => ((hSeen s.abs).2.2.2.2.2.1)) (hEnd w os) = some ((plainGoodE hq (looseW hq hLo)))
noncomputable def PhJ (w : World) (os : OsState) : Prop := Option.map (fun s => ((hSeen s.abs).2.2.2.2.2.2.1, (hSeen s.abs).2.2.2.2.2.2.2.1, (hSeen s.abs).2.2.2.2.2.2.2.2)) (hEnd w os) = some ((plainGoodD hq hLo, wideGood hq, clsGoodW hq hLo))
theorem hBoth {P : World → OsState → Prop} (r : String) (t : ∀ (w : World) (os : OsState), P (w.withFollow r true) os) (f : ∀ (w : World) (os : OsState), P (w.withFollow r false) os) (w : World) (os : OsState) : P w os := by
  have e := World.withFollow_self w r
  cases h : w.params.followText r with
  | true => rw [h] at e; exact e ▸ t w os
  | false => rw [h] at e; exact e ▸ f w os
theorem run9 {α A B C D E F H I J : Type} {o : Option α} {S : α → A × B × C × D × E × F × H × I × J} {G : A × B × C × D × E × F × H × I × J} (x : o.map (fun s => (S s).1) = some G.1) (y : o.map (fun s => (S s).2.1) = some G.2.1)
    (u : o.map (fun s => ((S s).2.2.1, (S s).2.2.2.1, (S s).2.2.2.2.1)) = some (G.2.2.1, G.2.2.2.1, G.2.2.2.2.1)) (v : o.map (fun s => (S s).2.2.2.2.2.1) = some G.2.2.2.2.2.1) (t : o.map (fun s => ((S s).2.2.2.2.2.2.1, (S s).2.2.2.2.2.2.2.1, (S s).2.2.2.2.2.2.2.2)) = some (G.2.2.2.2.2.2.1, G.2.2.2.2.2.2.2.1, G.2.2.2.2.2.2.2.2)) : o.map S = some G := by
  cases o with
  | none => cases x
  | some s =>
    simp only [Option.map_some, Option.some.injEq, Prod.mk.injEq] at x y u v t ⊢
    exact Prod.ext x (Prod.ext y (Prod.ext u.1 (Prod.ext u.2.1 (Prod.ext u.2.2 (Prod.ext v (Prod.ext t.1 (Prod.ext t.2.1 t.2.2)))))))
theorem oFst {α A B : Type} {o : Option α} {f : α → A} {g : α → B} {a : A} {b : B} (x : o.map (fun s => (f s, g s)) = some (a, b)) : o.map f = some a := by
  cases o with
  | none => cases x
  | some s =>
    simp only [Option.map_some, Option.some.injEq, Prod.mk.injEq] at x ⊢
    exact x.1
theorem oSnd {α A B : Type} {o : Option α} {f : α → A} {g : α → B} {a : A} {b : B} (x : o.map (fun s => (f s, g s)) = some (a, b)) : o.map g = some b := by
  cases o with
  | none => cases x
  | some s =>
    simp only [Option.map_some, Option.some.injEq, Prod.mk.injEq] at x ⊢
    exact x.2
theorem run2 {α A B C : Type} {o : Option α} {f : α → A} {g : α → B} {h : α → C} {a : A} {b : B} {c : C} (x : o.map (fun s => (f s, h s)) = some (a, c)) (y : o.map g = some b) : o.map (fun s => (f s, g s, h s)) = some (a, b, c) := by
  cases o with
  | none => cases x
  | some s =>
    simp only [Option.map_some, Option.some.injEq, Prod.mk.injEq] at x y ⊢
    exact ⟨x.1, y, x.2⟩
end PuHd
namespace PuHd
open PySem PySem.W PySem.Calls PyProof.Rows
set_option maxHeartbeats 0 in
theorem hAt (w : World) (os : OsState) : PhA (w.withFollow "special-get-raises" true) os := by
  unfold PhA
  kernel_rfl
end PuHd
namespace PuHd
open PySem PySem.W PySem.Calls PyProof.Rows
set_option maxHeartbeats 0 in
theorem hAf (w : World) (os : OsState) : PhA (w.withFollow "special-get-raises" false) os := by
  unfold PhA
  kernel_rfl
end PuHd
namespace PuHd
open PySem PySem.W PySem.Calls PyProof.Rows
set_option maxHeartbeats 0 in
theorem hBt (w : World) (os : OsState) : PhB (w.withFollow "special-get-raises" true) os := by
  unfold PhB
  kernel_rfl
end PuHd
namespace PuHd
open PySem PySem.W PySem.Calls PyProof.Rows
set_option maxHeartbeats 0 in
theorem hBf (w : World) (os : OsState) : PhB (w.withFollow "special-get-raises" false) os := by
  unfold PhB
  kernel_rfl
end PuHd
namespace PuHd
open PySem PySem.W PySem.Calls PyProof.Rows
set_option maxHeartbeats 0 in
theorem hDt (w : World) (os : OsState) : PhD (w.withFollow "special-get-raises" true) os := by
  unfold PhD
  kernel_rfl
end PuHd
namespace PuHd
open PySem PySem.W PySem.Calls PyProof.Rows
set_option maxHeartbeats 0 in
theorem hDf (w : World) (os : OsState) : PhD (w.withFollow "special-get-raises" false) os := by
  unfold PhD
  kernel_rfl
end PuHd
namespace PuHd
open PySem PySem.W PySem.Calls PyProof.Rows
set_option maxHeartbeats 0 in
theorem hGt (w : World) (os : OsState) : PhG (w.withFollow "special-get-raises" true) os := by
  unfold PhG
  kernel_rfl
end PuHd
namespace PuHd
open PySem PySem.W PySem.Calls PyProof.Rows
set_option maxHeartbeats 0 in
theorem hGf (w : World) (os : OsState) : PhG (w.withFollow "special-get-raises" false) os := by
  unfold PhG
  kernel_rfl
end PuHd
namespace PuHd
open PySem PySem.W PySem.Calls PyProof.Rows
set_option maxHeartbeats 0 in
theorem hJt (w : World) (os : OsState) : PhJ (w.withFollow "special-get-raises" true) os := by
  unfold PhJ
  kernel_rfl
end PuHd
namespace PuHd
open PySem PySem.W PySem.Calls PyProof.Rows
set_option maxHeartbeats 0 in
theorem hJf (w : World) (os : OsState) : PhJ (w.withFollow "special-get-raises" false) os := by
  unfold PhJ
  kernel_rfl
end PuHd
namespace Rb
open PySem PySem.Spec PyProof.Rows L2
/-! repr of data -/
/-! sum of a tuple of ints -/
def rSumT (K : PySem.W.Frag) : List V → Hp → VK → Prop := fun vs H Q => ∃ (a : Addr) (ns : List Int), vs = [V.ref a] ∧ SqT K H a (ns.map V.int) ∧ Q (.int ns.sum) H
theorem isTup_isTuple {h : Heap} {a : Addr} {items : Array Value} (x : IsTup h a items) : h.IsTuple a items := by
  obtain ⟨o, e, c, n, d⟩ := x
  exact ⟨o, e, c, n, d⟩
theorem cr_sumT {X : Cx} (hc : X.calm = true) : CallR X (.builtin "sum") (rSumT X.K) := by
  intro pins s σ H vs us Q I r h
  obtain ⟨a, ns, rfl, hs, q⟩ := h
  obtain ⟨its, rv, hl, _⟩ := I.tuple hs
  rw [Vals.ref1 r]
  have hi := rv.ints
  obtain ⟨xs, e⟩ := hi.allInts.items
  have hn : numsOf (intItems xs).toList = ns := by rw [← e]; exact hi.numsOf
  rw [nums_intItems] at hn
  rw [e] at hl
  have hl2 := isTup_isTuple hl
  have hh := I.ok.hd hc
  have hlt : a < s.heap.objs.size := by obtain ⟨_, e, _⟩ := hl2; exact Heap.lt_size e
  refine call_sum_walkG (wpAny_pyIter_tuple hl2 ?_)
  refine ⟨s.heap.objs.size, _, _, _, _, _, numAt xs, rfl, Walks.tuple (A := X.A.in1) hh _ a (Nat.ne_of_lt hlt) (intItems xs), ⟨⟨_, Heap.get?_push_size _ rfl, rfl, rfl⟩, hl2.push _⟩, ?_, fun _ _ => intItems_at, fun h' tk t' hk => ?_⟩
  · intro b hb
    show b < (s.heap.push _).objs.size
    rw [Heap.size_push]
    rcases List.mem_cons.mp hb with rfl | hb
    · exact Nat.lt_succ_self _
    · rcases List.mem_cons.mp hb with rfl | hb
      · exact Nat.lt_succ_of_lt hlt
      · cases hb
  · have hk2 : ∀ b o, s.heap.get? b = some o → h'.get? b = some o := fun b o eb => hk b o (fun hm => by
      simp only [List.mem_cons, List.not_mem_nil, or_false] at hm
      exact absurd (hm ▸ Heap.lt_size eb) (Nat.lt_irrefl _)) (Heap.get?_push_of_some _ eb)
    have z : preSum (numAt xs) (intItems xs).size = ns.sum := by
      rw [preSum_eq, List.take_of_length_le (by simp [intItems]), hn]
    rw [z]
    exact ⟨.int _, H, I.kept hk2, ⟨_, rfl⟩, q⟩
end Rb
namespace Rb
open PySem PySem.Spec PyProof.Rows L2
/-! defs that are run where no repr is under way -/
structure FnG (pr : Program) (wo : World) (K : PySem.W.Frag) (mg : Str → Option Value) (b0 : Heap) (cx : CXT) (lv : Nat) (fn : Addr) (dat : FuncData) (pars : List Str) (sp : Sp) : Prop where
  many : ∀ xs H Q E, sp xs H Q E → xs.length = pars.length
  goes : ∀ (A : Around) (out : List Env) (s : Shared) (H : Hp) (ar : Args) (us : List Value) (xs : List V) (Q : VK) (E : XK),
    Room lv A → A.guards = some [] → Env0 pr wo K mg b0 A out s H → BindsTo s dat ar (pars.zip us) → Vals xs us → sp xs H Q E →
    codeAny (model pr wo) A (.call (.ref fn) ar) (CR cx out pr wo H s Q E) s
section
variable {pr : Program} {wo : World} {K : PySem.W.Frag} {mg : Str → Option Value} {b0 : Heap} {cx : CXT} {lv : Nat} {fn : Addr} {dat : FuncData} {pars : List Str} {sp : Sp}
theorem FnG.of (F : FnOk pr wo K mg b0 cx lv fn dat pars sp) : FnG pr wo K mg b0 cx lv fn dat pars sp :=
  ⟨F.len, fun A out s H ar us xs Q E h1 _ h2 h3 h4 h5 => F.run A out s H ar us xs Q E h1 h2 h3 h4 h5⟩
end
section
variable {pr : Program} {wo : World} {K : PySem.W.Frag} {mg : Str → Option Value} {b0 : Heap} {lv : Nat} {sp : Sp}
theorem fnG_of {cx : CXT} {fn : Addr} {nm qn : Str} {pm : Arguments} {bd : List Stmt} {sco : Scope} {dV kV dc pv cdv ct oc : Value} {an od : Option Addr} {osl : Array (Option Value)} {NN pars : List Str}
    (at_ : K.lookup fn = some ⟨oc, od, .func (PySem.W.fnOf nm qn pm bd sco dV kV dc pv an cdv ct), osl⟩) (code : PySem.W.codeIn K cdv qn = true) (S : FnScope NN pars sco)
    (many : ∀ xs H Q E, sp xs H Q E → xs.length = pars.length)
    (body : ∀ (A : Around) (out : List Env) (s : Shared) (H : Hp) (xs : List V) (Q : VK) (E : XK), A.guards = some [] → Room lv (A.deeper (envOfC qn sco s.heap.objs.size fn cdv)) → sp xs H Q E →
      ∃ t, PSs (cxOf cx pr wo K mg b0 NN qn sco fn cdv A out s H E) bd t ∧ t { nx := fun _ H' => Q .non H', rt := Q } (start NN xs) H) :
    FnG pr wo K mg b0 cx (lv + 1) fn (PySem.W.fnOf nm qn pm bd sco dV kV dc pv an cdv ct) pars sp := by
  constructor
  · exact many
  intro A out s H ar us xs Q E rm gd e0 bi vx pro
  have old : ∀ b o, b0.get? b = some o → s.heap.get? b = some o := fun b o e => (e0.bs b o e).1
  have kin : K.In s.heap := e0.mod.kin.keeps old
  refine codeAny_call_function rm.depth (kin _ _ at_) rfl S.co S.gen rfl (PySem.W.codeRec_of kin code) (bi _ _ _ _ ?_)
  refine wpAny_newFunctionEnv_cells S.kind ?_ ?_
  · rintro ⟨n, v⟩ hy
    cases S.par n (List.of_mem_zip hy).1 with
    | inl q => exact Or.inl q
    | inr q => exact Or.inr ⟨q, PySem.W.cellsFrom_some _ _ _ (Or.inl q)⟩
  intro env he s1 ic
  subst he
  refine ⟨(e0.mod.nolimit.keeps old).keeps ic.toInCall.keep, codeAny_func ?_⟩
  obtain ⟨t, ht, rd⟩ := body A out s H xs Q E gd (rm.deeper _) pro
  have I : Inv (cxOf cx pr wo K mg b0 NN qn sco fn cdv A out s H E) [] (start NN xs) H s1 := inv_start S rm.hd e0 (many _ _ _ _ pro) vx ic
  refine wpAny_mono (ht.run [] s1 (start NN xs) H _ I rd) ?_ (fun _ _ z => z)
  intro fl s2 hs
  match fl, hs with
  | .ret u, ⟨v, σ2, H2, J, rv, q⟩ => exact ⟨v, H2, J.os, J.bare, J.base, J.hok, rv, q⟩
  | .next, ⟨σ2, H2, J, q⟩ => exact ⟨V.non, H2, J.os, J.bare, J.base, J.hok, rfl, q⟩
  | .brk, ⟨_, _, _, q⟩ => exact (q : False).elim
  | .cont, ⟨_, _, _, q⟩ => exact (q : False).elim
/-- a def of the text that is run where no repr is under way -/
theorem okG {x qn : Str} {st : Stmt} {fn : Addr} {dat : FuncData} {NN pars : List Str} (F : Fun K x qn st fn dat) (S : FnScope NN pars (defScope st)) (many : ∀ xs H Q E, sp xs H Q E → xs.length = pars.length)
    (body : ∀ (cdv : Value) (A : Around) (out : List Env) (s : Shared) (H : Hp) (xs : List V) (Q : VK) (E : XK), A.guards = some [] → Room lv (A.deeper (envOfC qn (defScope st) s.heap.objs.size fn cdv)) → sp xs H Q E →
      ∃ t, PSs (cxOf CX0 pr wo K mg b0 NN qn (defScope st) fn cdv A out s H E).nox (defBody st) t ∧ t { nx := fun _ H' => Q .non H', rt := Q } (start NN xs) H) :
    FnG pr wo K mg b0 CX0 (lv + 1) fn dat pars sp := by
  obtain ⟨oc, od, kV, dc, pv, an, cdv, ct, osl, rfl, at_, code⟩ := F.ex
  refine fnG_of at_ code S many fun A out s H xs Q E gd rm pro => ?_
  obtain ⟨t, h, q⟩ := body cdv A out s H xs Q E gd rm pro
  exact ⟨t, h.nox, q⟩
end
/-- the law's own call: the script is all that is known of the heap -/
theorem lawG {pr : Program} {wo : World} {K : PySem.W.Frag} {mg mb : Str → Option Value} {lv : Nat} {fn sc : Addr} {dat : FuncData} {x : Str} {sp : Sp} {s : Shared} {us : List Value} {ns : List Int}
    (kin : K.In s.heap) (gns : s.heap.Ns mainGlobals mg) (bns : s.heap.Ns builtinsNs mb) (boot : ∀ y : Str, y ≠ "__name__" → mb y = bootBuiltins y) (nol : s.heap.NoLimit) (ge : s.gens = #[])
    (at_ : s.heap.get? sc = some { cls := .type "list", data := .seq us.toArray }) (ia : IntsAre us ns) (few : ns.length ≤ sizeLine) (rm : Room lv callerA)
    (F : ∀ b0 : Heap, K.In b0 → b0.Ns mainGlobals mg → FnG pr wo K mg b0 CX0 lv fn dat [x] sp) (bi : ∀ (z : Shared) (u : Value), BindsTo z dat ⟨[u], []⟩ [(x, u)])
    (pro : ∀ H : Hp, SqL K H sc (ns.map V.int) → sp [.ref sc] H (fun v _ => v = .bl true) fun _ _ _ => False) :
    codeAny (model pr wo) callerA (.call (.ref fn) ⟨[.ref sc], []⟩) (fun r z => r = .ok (.ret (.bool true)) ∧ OldK s.heap z.heap ∧ z.os = s.os ∧ AllBare z.gens) s := by
  have go : ∀ H : Hp, (∀ b o, H b = some o → b = sc ∧ ∃ ob xs, o = .frz ob (.lst xs)) → SqL K H sc (ns.map V.int) → HOk pr wo H s.heap → (H sc ≠ none → K.lookup sc = none) →
      codeAny (model pr wo) callerA (.call (.ref fn) ⟨[.ref sc], []⟩) (fun r z => r = .ok (.ret (.bool true)) ∧ OldK s.heap z.heap ∧ z.os = s.os ∧ AllBare z.gens) s := by
    intro H one sq hok notK
    have dicts : ∀ {b : Addr} {o : Obj} {es : Array DictEntry} {ep : Nat}, s.heap.get? b = some o → o.data = .dict es ep → H b = none := by
      intro b o es ep e d
      match q : H b with
      | none => rfl
      | some u =>
        obtain ⟨rfl, _⟩ := one b u q
        rw [at_] at e
        cases e
        cases (show Data.seq us.toArray _ = Data.dict es ep from d)
    have names : ∀ {b : Addr} {m : Str → Option Value}, s.heap.Ns b m → (hidT s.heap H).Ns b m := by
      rintro b m ⟨o, es, ep, e, d, r⟩
      exact ⟨o, es, ep, hidT_get e (dicts e d), d, r⟩
    have kin2 : K.In (hidT s.heap H) := by
      intro b o e
      refine hidT_get (kin b o e) ?_
      match q : H b with
      | none => rfl
      | some u =>
        obtain ⟨rfl, _⟩ := one b u q
        rw [notK (by rw [q]; exact Option.some_ne_none u)] at e
        cases e
    have md : Mod K mg (hidT s.heap H) := by
      obtain ⟨mc, n1, n2⟩ := nol
      exact ⟨kin2, names gns, ⟨mb, names bns, boot⟩, ⟨mc, names n1, n2⟩⟩
    have env : Env0 pr wo K mg (hidT s.heap H) callerA [] s H :=
      { frames := rfl, mod := md, bs := fun _ _ e => of_hidT e, bsz := Nat.le_of_eq (hidT_size _ _), funs := trivial, frf := (fun _ z => nomatch z), hok := hok, bare := .of_eq ge }
    refine codeAny_mono ((F _ kin2 (names gns)).goes callerA [] s H ⟨[.ref sc], []⟩ [.ref sc] [.ref sc] _ _ rm rfl env (bi s (.ref sc)) (.cons rfl .nil) (pro H sq)) ?_
    intro res z fin
    match res, fin with
    | .error e, fin => exact (fin : False).elim
    | .ok .next, fin => exact (fin : False).elim
    | .ok .brk, fin => exact (fin : False).elim
    | .ok .cont, fin => exact (fin : False).elim
    | .ok (.ret u), ⟨v, H2, os, bare, un, hok2, rv, q⟩ =>
      cases (q : v = .bl true)
      cases (rv : u = Value.bool true)
      refine ⟨rfl, OldK.of_keep ?_, os, bare⟩
      intro b o e
      match w : H b with
      | none => exact un.keep b o e w (fun z => nomatch z) (fun z => nomatch z)
      | some uo =>
        obtain ⟨rfl, ob, xs, rfl⟩ := one b uo w
        have e1 := (hok b _ w).1
        have e2 := (hok2 b _ (un.frzs b ob _ w)).1
        exact e2.trans (e1.symm.trans e)
  have vx := vals_ints ia
  have ln := ia.length
  match kk : K.lookup sc with
  | some o =>
    have e := kin sc o kk
    rw [at_] at e
    cases e
    exact go (fun _ => none) (fun _ _ z => nomatch z) (.inr ⟨_, us.toArray, _, kk, rfl, rfl, rfl, by rw [List.size_toArray, ln]; exact few, by simpa using vx⟩) (fun _ _ z => nomatch z) (fun z => absurd rfl z)
  | none =>
    let one : HO := .frz { cls := .type "list", data := .seq us.toArray } (.lst (ns.map V.int))
    refine go (upd (fun _ => none) sc one) ?_ (.inl (.inr ⟨_, upd_same⟩)) ?_ (fun _ => kk)
    · intro b o z
      by_cases hb : b = sc
      · subst hb
        rw [upd_same] at z
        cases z
        exact ⟨rfl, _, _, rfl⟩
      · rw [upd_ne hb] at z
        cases z
    · intro b o z
      by_cases hb : b = sc
      · subst hb
        rw [upd_same] at z
        cases z
        exact ⟨at_, by rw [List.length_map]; exact few, us, _, vx, at_⟩
      · rw [upd_ne hb] at z
        cases z
end Rb
namespace Rb
open PySem PySem.Spec PyProof.Rows L2
/-! the deck: a list of the cells and the count of draws -/
def Dk (H : Hp) (d c : Addr) (N : Int) : Prop := ∃ (cs : List Int) (n : Int), H d = some (.lst [.ref c, .int n]) ∧ H c = some (.lst (cs.map V.int)) ∧ cs.length ≤ 63 ∧ (∀ x ∈ cs, 0 ≤ x) ∧ 0 ≤ n ∧ n ≤ N
/-- all but the deck is kept -/
def Kp (d c : Addr) (H H' : Hp) : Prop := ∀ b o, H b = some o → b ≠ d → b ≠ c → H' b = some o
theorem Kp.refl {d c : Addr} {H : Hp} : Kp d c H H := fun _ _ e _ _ => e
theorem Kp.trans {d c : Addr} {H H1 H2 : Hp} (a : Kp d c H H1) (b : Kp d c H1 H2) : Kp d c H H2 := fun x o e n1 n2 => b x o (a x o e n1 n2) n1 n2
theorem Kp.ex {d c : Addr} {H H1 : Hp} (a : Evl.Ex H H1) : Kp d c H H1 := fun x o e _ _ => a x o e
theorem Kp.new {d c : Addr} {H : Hp} {p : Addr} {o : HO} (h : H p = none) : Kp d c H (upd H p o) := Kp.ex (Evl.Ex.new h)
theorem Dk.ex {H H' : Hp} {d c : Addr} {N : Int} (h : Dk H d c N) (e : Evl.Ex H H') : Dk H' d c N := by
  obtain ⟨cs, n, h1, h2, r⟩ := h
  exact ⟨cs, n, e _ _ h1, e _ _ h2, r⟩
theorem Dk.new {H : Hp} {d c p : Addr} {N : Int} {o : HO} (h : Dk H d c N) (hp : H p = none) : Dk (upd H p o) d c N := h.ex (Evl.Ex.new hp)
theorem Dk.le {H : Hp} {d c : Addr} {N M : Int} (h : Dk H d c N) (e : N ≤ M) : Dk H d c M := by
  obtain ⟨cs, n, h1, h2, h3, h4, h5, h6⟩ := h
  exact ⟨cs, n, h1, h2, h3, h4, h5, by omega⟩
theorem Dk.ne1 {H : Hp} {d c p : Addr} {N : Int} (h : Dk H d c N) (hp : H p = none) : p ≠ d := by
  obtain ⟨cs, n, h1, _⟩ := h
  rintro rfl
  rw [h1] at hp
  cases hp
theorem Dk.ne2 {H : Hp} {d c p : Addr} {N : Int} (h : Dk H d c N) (hp : H p = none) : p ≠ c := by
  obtain ⟨cs, n, _, h1, _⟩ := h
  rintro rfl
  rw [h1] at hp
  cases hp
/-- fresh behind is fresh before -/
theorem Kp.fresh {d c p : Addr} {H H' : Hp} {N : Int} (k : Kp d c H H') (h : Dk H' d c N) (hp : H' p = none) : H p = none := by
  cases e : H p with
  | none => rfl
  | some o =>
    rw [k p o e (h.ne1 hp) (h.ne2 hp)] at hp
    cases hp
theorem Kp.sqT {K : PySem.W.Frag} {d c a : Addr} {H H' : Hp} {N : Int} {xs : List V} (k : Kp d c H H') (h : Dk H d c N) (hs : SqT K H a xs) : SqT K H' a xs := by
  obtain ⟨cs, n, h1, h2, _⟩ := h
  have go : ∀ u : HO, (∀ ys, u ≠ .lst ys) → H a = some u → H' a = some u := fun u nu e => k a u e
    (by rintro rfl; rw [h1] at e; exact nu _ (Option.some.inj e).symm) (by rintro rfl; rw [h2] at e; exact nu _ (Option.some.inj e).symm)
  rcases hs with (e | ⟨o, e⟩) | e
  · exact .inl (.inl (go _ (fun _ z => nomatch z) e))
  · exact .inl (.inr ⟨o, go _ (fun _ z => nomatch z) e⟩)
  · exact .inr e
theorem tupOf {K : PySem.W.Frag} {H : Hp} {a : Addr} {xs : List V} (h : H a = some (.tup xs)) : SqT K H a xs := .inl (.inl h)
theorem lstOf {K : PySem.W.Frag} {H : Hp} {a : Addr} {xs : List V} (h : H a = some (.lst xs)) : SqL K H a xs := .inl (.inl h)
/-! picks from short lists -/
theorem sz_le {n : Nat} (h : n ≤ 100000) : n ≤ sizeLine := Evl.sz_of h
/-- slices from the beginning -/
theorem cut_to {xs : List V} {k : Nat} : cutV xs none (some (k : Int)) = xs.take k := by
  unfold cutV
  rw [HT.sIx_none, HT.sIx_nat]
  show List.take (min k xs.length - 0) (xs.drop 0) = _
  rw [List.drop_zero, Nat.sub_zero]
  rcases Nat.le_total k xs.length with h | h
  · rw [Nat.min_eq_left h]
  · rw [Nat.min_eq_right h, List.take_length, List.take_of_length_le h]
/-! a road -/
def Road (K : PySem.W.Frag) (H : Hp) (v : V) (w r : Int) (bs : List Int) : Prop := ∃ a b, v = .ref a ∧ SqT K H a [.int w, .int r, .ref b] ∧ SqT K H b (bs.map V.int)
theorem Road.kp {K : PySem.W.Frag} {d c : Addr} {H H' : Hp} {N : Int} {v : V} {w r : Int} {bs : List Int} (x : Road K H v w r bs) (k : Kp d c H H') (h : Dk H d c N) : Road K H' v w r bs := by
  obtain ⟨a, b, e, h1, h2⟩ := x
  exact ⟨a, b, e, k.sqT h h1, k.sqT h h2⟩
theorem Road.ex {K : PySem.W.Frag} {H H' : Hp} {v : V} {w r : Int} {bs : List Int} (x : Road K H v w r bs) (k : Evl.Ex H H') : Road K H' v w r bs := by
  obtain ⟨a, b, e, h1, h2⟩ := x
  exact ⟨a, b, e, Evl.ex_t k h1, Evl.ex_t k h2⟩
/-! data of ints: what repr shows -/
theorem DpAll.ints {K : PySem.W.Frag} {H : Hp} : ∀ ns : List Int, DpAll K H (ns.map V.int) (ns.map PyData.int)
  | [] => .nil
  | n :: ns => .cons (.int n) (DpAll.ints ns)
theorem Dp.tupI {K : PySem.W.Frag} {H : Hp} {a : Addr} {ns : List Int} (h : SqT K H a (ns.map V.int)) : Dp K H (.ref a) (.tuple (ns.map .int)) := .tup h (DpAll.ints ns)
def roadD (w r : Int) (bs : List Int) : PyData := .tuple [.int w, .int r, .tuple (bs.map .int)]
theorem Road.dp {K : PySem.W.Frag} {H : Hp} {v : V} {w r : Int} {bs : List Int} (x : Road K H v w r bs) : Dp K H v (roadD w r bs) := by
  obtain ⟨a, b, rfl, h1, h2⟩ := x
  exact .tup h1 (.cons (.int w) (.cons (.int r) (.cons (Dp.tupI h2) .nil)))
/-! data that repr shows: what it asks, by parts -/
structure Nice (k n : Nat) (d : PyData) : Prop where
  sh : d.showable = true
  lv : d.leavesShort 100 = true
  dep : d.depth ≤ k
  blk : d.bulk ≤ n
theorem Nice.mono {k n k' n' : Nat} {d : PyData} (h : Nice k n d) (h1 : k ≤ k') (h2 : n ≤ n') : Nice k' n' d := ⟨h.sh, h.lv, Nat.le_trans h.dep h1, Nat.le_trans h.blk h2⟩
theorem Nice.int {i : Int} (h : i.natAbs < 10 ^ 99) : Nice 0 0 (.int i) := by
  refine ⟨?_, ?_, Nat.le_refl _, Nat.le_refl _⟩
  · simp only [PyData.showable, decide_eq_true_eq]
    by_cases z : i.natAbs = 0
    · rw [z]; decide
    · refine (Nat.log2_lt z).mpr (Nat.lt_of_lt_of_le h ?_)
      decide +kernel
  · simp only [PyData.leavesShort, decide_eq_true_eq, PyData.shown]
    refine decide_eq_true ?_
    rw [PySem.ofString_length]
    exact int_text_length_le10 (k := 99) (by decide) h
theorem Nice.none : Nice 0 0 .none := ⟨rfl, rfl, Nat.le_refl _, Nat.le_refl _⟩
theorem Nice.bool {b : Bool} : Nice 0 0 (.bool b) := ⟨rfl, rfl, Nat.le_refl _, Nat.le_refl _⟩
theorem Nice.str {x : Str} {n : Nat} (h : x.cps.size ≤ n) (hx : ∀ c ∈ x.cps.toList, c < 16 ^ 8) : Nice 0 n (.str x) := by
  refine ⟨rfl, ?_, Nat.le_refl _, h⟩
  simpa only [PyData.leavesShort, List.all_eq_true, decide_eq_true_eq] using hx
theorem nice_all {k n : Nat} : ∀ {xs : List PyData}, (∀ x ∈ xs, Nice k n x) → PyData.showableAll xs = true ∧ PyData.leavesShortAll 100 xs = true ∧ PyData.depthAll xs ≤ k ∧ PyData.bulkAll xs ≤ xs.length * (n + 1)
  | [], _ => ⟨rfl, rfl, Nat.zero_le _, Nat.zero_le _⟩
  | x :: xs, h => by
    obtain ⟨a, b, c, d⟩ := nice_all (xs := xs) fun y hy => h y (List.mem_cons_of_mem _ hy)
    have hx := h x List.mem_cons_self
    refine ⟨?_, ?_, ?_, ?_⟩
    · simp only [PyData.showableAll, hx.sh, a, Bool.and_true]
    · simp only [PyData.leavesShortAll, hx.lv, b, Bool.and_true]
    · simp only [PyData.depthAll]
      exact Nat.max_le.mpr ⟨hx.dep, c⟩
    · simp only [PyData.bulkAll, List.length_cons]
      have := hx.blk
      rw [Nat.add_mul]
      omega
theorem Nice.tup {k n m : Nat} {xs : List PyData} (h : ∀ x ∈ xs, Nice k n x) (hm : xs.length * (n + 1) ≤ m) : Nice (k + 1) m (.tuple xs) := by
  obtain ⟨a, b, c, d⟩ := nice_all h
  exact ⟨by simpa only [PyData.showable] using a, by simpa only [PyData.leavesShort] using b, by simp only [PyData.depth]; omega, by simp only [PyData.bulk]; omega⟩
theorem Nice.lst {k n m : Nat} {xs : List PyData} (h : ∀ x ∈ xs, Nice k n x) (hm : xs.length * (n + 1) ≤ m) : Nice (k + 1) m (.list xs) := by
  obtain ⟨a, b, c, d⟩ := nice_all h
  exact ⟨by simpa only [PyData.showable] using a, by simpa only [PyData.leavesShort] using b, by simp only [PyData.depth]; omega, by simp only [PyData.bulk]; omega⟩
theorem Nice.ints {ns : List Int} {m : Nat} (h : ∀ i ∈ ns, i.natAbs < 10 ^ 99) (hm : ns.length ≤ m) : Nice 1 m (.tuple (ns.map .int)) := by
  refine Nice.tup (k := 0) (n := 0) (fun x hx => ?_) (by rw [List.length_map]; omega)
  obtain ⟨i, hi, rfl⟩ := List.mem_map.mp hx
  exact Nice.int (h i hi)
/-! comprehensions whose element changes nothing -/
end Rb
namespace Rb
open PySem PySem.Spec PyProof.Rows L2
/-! data without lists: it never changes -/
mutual
inductive Tp (K : PySem.W.Frag) (H : Hp) : V → PyData → Prop
  | non : Tp K H .non .none
  | bl (b : Bool) : Tp K H (.bl b) (.bool b)
  | int (i : Int) : Tp K H (.int i) (.int i)
  | str (x : Str) : Tp K H (.str x) (.str x)
  | tup {a : Addr} {xs : List V} {ds : List PyData} : SqT K H a xs → TpAll K H xs ds → Tp K H (.ref a) (.tuple ds)
inductive TpAll (K : PySem.W.Frag) (H : Hp) : List V → List PyData → Prop
  | nil : TpAll K H [] []
  | cons {v : V} {vs : List V} {d : PyData} {ds : List PyData} : Tp K H v d → TpAll K H vs ds → TpAll K H (v :: vs) (d :: ds)
end
section
variable {K : PySem.W.Frag} {H H' : Hp}
mutual
theorem Tp.dp : ∀ (d : PyData) (v : V), Tp K H v d → Dp K H v d
  | .none, _, h => by cases h; exact .non
  | .bool b, _, h => by cases h; exact .bl b
  | .int i, _, h => by cases h; exact .int i
  | .str x, _, h => by cases h; exact .str x
  | .list _, _, h => by cases h
  | .dict _, _, h => by cases h
  | .tuple ds, _, h => by
    cases h with
    | tup hs ha => exact .tup hs (TpAll.dp ds _ ha)
theorem TpAll.dp : ∀ (ds : List PyData) (vs : List V), TpAll K H vs ds → DpAll K H vs ds
  | [], _, h => by cases h; exact .nil
  | d :: ds, _, h => by
    cases h with
    | cons h1 h2 => exact .cons (Tp.dp d _ h1) (TpAll.dp ds _ h2)
end
mutual
theorem Tp.keep (k : ∀ a xs, SqT K H a xs → SqT K H' a xs) : ∀ (d : PyData) (v : V), Tp K H v d → Tp K H' v d
  | .none, _, h => by cases h; exact .non
  | .bool b, _, h => by cases h; exact .bl b
  | .int i, _, h => by cases h; exact .int i
  | .str x, _, h => by cases h; exact .str x
  | .list _, _, h => by cases h
  | .dict _, _, h => by cases h
  | .tuple ds, _, h => by
    cases h with
    | tup hs ha => exact .tup (k _ _ hs) (TpAll.keep k ds _ ha)
theorem TpAll.keep (k : ∀ a xs, SqT K H a xs → SqT K H' a xs) : ∀ (ds : List PyData) (vs : List V), TpAll K H vs ds → TpAll K H' vs ds
  | [], _, h => by cases h; exact .nil
  | d :: ds, _, h => by
    cases h with
    | cons h1 h2 => exact .cons (Tp.keep k d _ h1) (TpAll.keep k ds _ h2)
end
theorem Tp.ex {v : V} {d : PyData} (h : Tp K H v d) (e : Evl.Ex H H') : Tp K H' v d := Tp.keep (fun _ _ z => Evl.ex_t e z) d v h
theorem TpAll.ex {vs : List V} {ds : List PyData} (h : TpAll K H vs ds) (e : Evl.Ex H H') : TpAll K H' vs ds := TpAll.keep (fun _ _ z => Evl.ex_t e z) ds vs h
theorem Tp.kp {d c : Addr} {N : Int} {v : V} {x : PyData} (h : Tp K H v x) (k : Kp d c H H') (dk : Dk H d c N) : Tp K H' v x := Tp.keep (fun _ _ z => k.sqT dk z) x v h
theorem TpAll.kp {d c : Addr} {N : Int} {vs : List V} {ds : List PyData} (h : TpAll K H vs ds) (k : Kp d c H H') (dk : Dk H d c N) : TpAll K H' vs ds := TpAll.keep (fun _ _ z => k.sqT dk z) ds vs h
theorem TpAll.snoc {v : V} {d : PyData} : ∀ {vs : List V} {ds : List PyData}, TpAll K H vs ds → Tp K H v d → TpAll K H (vs ++ [v]) (ds ++ [d])
  | _, _, .nil, h => .cons h .nil
  | _, _, .cons h1 h2, h => .cons h1 (TpAll.snoc h2 h)
theorem TpAll.length : ∀ {vs : List V} {ds : List PyData}, TpAll K H vs ds → vs.length = ds.length
  | _, _, .nil => rfl
  | _, _, .cons _ h => congrArg (· + 1) (TpAll.length h)
theorem TpAll.ints : ∀ ns : List Int, TpAll K H (ns.map V.int) (ns.map PyData.int)
  | [] => .nil
  | n :: ns => .cons (.int n) (TpAll.ints ns)
theorem Tp.tupI {a : Addr} {ns : List Int} (h : SqT K H a (ns.map V.int)) : Tp K H (.ref a) (.tuple (ns.map .int)) := .tup h (TpAll.ints ns)
theorem Road.tp {v : V} {w r : Int} {bs : List Int} (x : Road K H v w r bs) : Tp K H v (roadD w r bs) := by
  obtain ⟨a, b, rfl, h1, h2⟩ := x
  exact .tup h1 (.cons (.int w) (.cons (.int r) (.cons (Tp.tupI h2) .nil)))
end
/-! a comprehension over a range whose elements are such data -/
end Rb
namespace Rb
open PySem PySem.Spec PyProof.Rows L2
/-! enumerate of a tuple -/
abbrev tIter (t : Addr) : Obj := { cls := .type "tuple_iterator", data := .fields #[.ref t, .int 0 0] }
abbrev enObj (it : Addr) : Obj := { cls := .type "enumerate", data := .fields #[.none, .bool false, .ref it, rawInt 0, .none, .none] }
open AutoSeq1 (wpAny_loadPart') in
theorem enumTupNew (t : Addr) (its : Array Value) (n : Nat) (dc : Option Addr) (sl : Array (Option Value)) :
    Meets (Builtin.«enumerate.__new__» ⟨[.type "enumerate", .ref t], []⟩) (fun _ R s => s.heap.get? t = some { cls := .type "tuple", dict := dc, data := .seq its n, slots := sl } ∧
      R (.ok (.ret (.ref (s.heap.push (tIter t)).objs.size))) { s with heap := (s.heap.push (tIter t)).push (enObj s.heap.objs.size) }) := by
  refine .of_wp fun pr wo A R s h => ?_
  obtain ⟨hp, g, d, tk, os⟩ := s
  obtain ⟨ht, h⟩ := h
  have hsub := sub_enumerate
  have hT : Heap.IsTuple (Shared.heap ⟨hp, g, d, tk, os⟩) t its := ⟨_, ht, rfl, n, rfl⟩
  wp_walk using wpAny_loadPart' ht
  refine wpAny_stack_any fun st => wpAny_pure ?_
  split
  · rename_i c _ _ _ _ _
    cases (c == Value.type "enumerate") <;> (wp_walk using wpAny_loadPart' ht, wpAny_pyIter_tuple hT; exact ⟨_, rfl, h⟩)
  · wp_walk using wpAny_loadPart' ht, wpAny_pyIter_tuple hT
    exact ⟨_, rfl, h⟩
theorem enumTup {pr : Program} {wo : World} {A : Around} {E : Value → Shared → Prop} {s : Shared} {t : Addr} {its : Array Value} {Q : Value → Shared → Prop} (hT : s.heap.IsTuple t its)
    (h : ∀ h2, IsEnum h2 (s.heap.objs.size + 1) s.heap.objs.size 0 .none → h2.IsTupleIter s.heap.objs.size t 0 → (∀ b o, s.heap.get? b = some o → h2.get? b = some o) → Q (.ref (s.heap.objs.size + 1)) { s with heap := h2 }) :
    wpAny (model pr wo) A (call (.type "enumerate") [.ref t]) Q E s := by
  obtain ⟨⟨c, dc, dt, sl⟩, ht, hc, n, hd⟩ := hT
  cases (show c = .type "tuple" from hc)
  cases (show dt = .seq its n from hd)
  refine callType_new F.called_enumerate (by decide) (F.typeCall_enumerate_1 _) (F.newCall_enumerate_1 _) (fun obj => F.args_object_init_2 obj _) F.entry_enumerate_new (enumTupNew t its n dc sl) ⟨ht, ?_⟩
  have hz : (s.heap.push (tIter t)).objs.size = s.heap.objs.size + 1 := Heap.size_push ..
  have he : IsEnum ((s.heap.push (tIter t)).push (enObj s.heap.objs.size)) (s.heap.objs.size + 1) s.heap.objs.size 0 .none := by
    have q := Heap.get?_push_size (s.heap.push (tIter t)) (o := enObj s.heap.objs.size) rfl
    rw [hz] at q
    exact q
  show _ ∧ _
  rw [hz]
  exact ⟨⟨_, he, rfl⟩, h _ he ⟨_, Heap.get?_push_of_some _ (Heap.get?_push_size _ rfl), rfl, rfl⟩ fun b o x => Heap.get?_push_of_some _ (Heap.get?_push_of_some _ x)⟩
/-- the tuple at a, each item in a new pair with its place -/
def ItE (K : PySem.W.Frag) (a : Addr) : It where
  go i H := ∃ (xs : List V) (x : V), SqT K H a xs ∧ xs[i]? = some x
  yld i H v H' := ∃ T x, v = .ref T ∧ H T = none ∧ H' = upd H T (.tup [.int (i : Nat), x]) ∧ ∀ xs, SqT K H a xs → xs[i]? = some x
  stop i H := ∃ xs : List V, SqT K H a xs ∧ xs.length = i
theorem turnE {pr : Program} {wo : World} {K : PySem.W.Frag} {elts : List Expr} {kk : Nat} {tp : Pos} (a e it : Addr) :
    Turn pr wo K (.Tuple elts kk tp) (ItE K a) [e, it] e (fun i h => (∃ old, IsEnum h e it ((i : Nat) : Int) old) ∧ h.IsTupleIter it a i ∧ e ≠ it ∧ e ≠ a ∧ a ≠ it) := by
  have two : ∀ {b : Addr}, b ∈ [e, it] → b = e ∨ b = it := fun hb => by simpa using hb
  constructor
  case mem => exact List.mem_cons_self
  case obj =>
    rintro i h ⟨⟨old, he⟩, ⟨o, ho, hc, hd⟩, _⟩ b hb
    rcases two hb with rfl | rfl
    · exact ⟨_, he, fun v q => nomatch q⟩
    · exact ⟨o, ho, fun v q => by rw [hd] at q; cases q⟩
  case keep =>
    rintro i h h' ⟨⟨old, he⟩, hi, hn⟩ k
    exact ⟨⟨old, k e List.mem_cons_self _ he⟩, hi.at fun o q => k it (List.mem_cons_of_mem _ List.mem_cons_self) o q, hn⟩
  case item =>
    intro X h1 h2 h3 hc i pins s σ H E I hf st hg
    subst h1 h2 h3
    obtain ⟨⟨old, he⟩, hit, hne, hea, hai⟩ := st
    obtain ⟨xs, x, hq, hx⟩ := hg
    obtain ⟨its, rv, p, hz⟩ := I.tuple hq
    have p2 := isTup_isTuple p
    obtain ⟨u, hu, ru⟩ := rv.get hx
    have hel : e < s.heap.objs.size := Heap.lt_size he
    have hil : it < s.heap.objs.size := by obtain ⟨_, q, _⟩ := hit; exact Heap.lt_size q
    have ilt : i < its.toArray.size := by
      have := (List.getElem?_eq_some_iff.mp hu).1
      simpa using this
    refine wpAny_pyNext_enum_itemD (Draws.tuple (A := X.A.in1) (I.ok.hd hc) it a hai its.toArray) he ⟨hit, p2⟩ ilt hne (fun hm => ?_) fun x2 h' tk hP ho hs hT hsz hk => ?_
    · rcases List.mem_cons.mp hm with z | hm
      · exact hne z
      · exact hea (List.mem_singleton.mp hm)
    have hx2 : x2 = u := by
      have hP' : its.toArray[i]? = some x2 := hP
      rw [List.getElem?_toArray, hu] at hP'
      exact (Option.some.inj hP').symm
    subst hx2
    refine ⟨_, rfl, wpAny_letOwnedTupleGo_enum (s := { s with heap := h', toks := tk + 1 }) ho fun h2 he2 sb => ?_⟩
    have hT2 : h2.get? s.heap.objs.size = some { cls := .type "tuple", data := .seq #[.int i tk, x2] } := (sb.2 _ (Nat.ne_of_gt hel)).trans hT
    have new : ObjOk X.prog X.w (upd H s.heap.objs.size (.tup [.int (i : Nat), x])) h2 s.heap.objs.size (.tup [.int (i : Nat), x]) :=
      ⟨by show 2 ≤ sizeLine; decide, [.int i tk, x2], .cons ⟨_, rfl⟩ (.cons ru .nil), ⟨_, hT2, rfl, _, rfl⟩⟩
    have I1 : Inv X pins σ (upd H s.heap.objs.size (.tup [.int (i : Nat), x])) { s with heap := h2, toks := tk + 1 } :=
      I.turnedNew (ch := [e, it]) (fun b ob hb q => (sb.2 b (fun z => hb (by simp [z]))).trans (hk b ob (fun z => hb (by simp [z])) (fun z => hb (by simp [z])) q)) hf (Nat.le_refl _) new
    refine ⟨.ref s.heap.objs.size, _, I1, rfl, ⟨_, x, rfl, I.hok.fresh (Nat.le_refl _), rfl, fun ys hy => by rw [I.tuple_inj hy hq]; exact hx⟩, ⟨⟨x2, ?_⟩, hs.1.at fun o q => (sb.2 it (Ne.symm hne)).trans q, hne, hea, hai⟩, fun b hb => ?_⟩
    · rw [show ((i + 1 : Nat) : Int) = (i : Int) + 1 by omega]
      exact he2
    · have hb2 : b < s.heap.objs.size := by
        rcases two hb with rfl | rfl
        · exact hel
        · exact hil
      rw [upd_ne (Nat.ne_of_lt hb2)]
      exact (hf b hb).1
  case done =>
    intro X h1 h2 h3 hc i pins s σ H E I hf st hg
    subst h1 h2 h3
    obtain ⟨⟨old, he⟩, hit, hne, hea, hai⟩ := st
    obtain ⟨xs, hq, hx⟩ := hg
    obtain ⟨its, rv, p, hz⟩ := I.tuple hq
    obtain ⟨f0, f1, f2, f3, f4, f5⟩ := hf it (List.mem_cons_of_mem _ List.mem_cons_self)
    have hl := rv.length
    have ei : i = its.toArray.size := by simp; omega
    subst ei
    exact wpAny_pyNext_enum_endD (Draws.tuple (A := X.A.in1) (I.ok.hd hc) it a hai its.toArray) he ⟨hit, isTup_isTuple p⟩ fun h2 eb => ⟨rfl, I.turned (t' := s.toks) (fun b o hb q => eb b o hb q) f0 f1 f3 f4 f5⟩
  case self =>
    rintro A i s Q E ⟨⟨_, he⟩, _⟩ h
    exact wpAny_pyIter_enum he h
def iEnumT (K : PySem.W.Frag) (ta : TA) : TI := fun σ H R => ta σ H fun vs H1 => ∃ a xs, vs = [.ref a] ∧ SqT K H1 a xs ∧ R (ItE K a) H1
theorem pi_enumT {X : Cx} {e : Expr} {ta : TA} {p1 p2 p3 : Pos} {elts : List Expr} {kk : Nat} (gl : Gl X "enumerate") (nm : X.mg "enumerate" = none) (pa : PA X [e] ta) (st : starEach [e] X.env = [(false, eval e X.env)] := by rfl) :
    PI X (.Tuple elts kk p3) (.Call (.Name "enumerate" p1) [e] [] p2) (iEnumT X.K ta) := by
  constructor
  intro pins s σ H R I h
  refine Call_ (ld_blt I gl nm boot_enumerate (PyProof.Rows.callWith_type1 (thn (pa.run p2 pins s σ H _ I h) fun us s1 ⟨vs, H1, I1, r1, q1⟩ => ?_) st rfl))
  obtain ⟨a, xs, rfl, hq, q⟩ := q1
  obtain ⟨u, rfl, ru⟩ := vals1 r1
  cases ru
  obtain ⟨its, rv, p, hz⟩ := I1.tuple hq
  have p2 := isTup_isTuple p
  have alt : a < s1.heap.objs.size := by obtain ⟨_, e, _⟩ := p2; exact Heap.lt_size e
  refine enumTup p2 fun h2 he hit hk => wpAny_pyIter_enum he ?_
  have I2 : Inv X pins σ H1 { s1 with heap := h2 } := I1.kept (t' := s1.toks) hk
  refine ⟨s1.heap.objs.size + 1, [s1.heap.objs.size + 1, s1.heap.objs.size], _, _, H1, rfl, I2, turnE a (s1.heap.objs.size + 1) s1.heap.objs.size, ⟨⟨.none, he⟩, hit, Nat.succ_ne_self _, Nat.ne_of_gt (Nat.lt_succ_of_lt alt), Nat.ne_of_lt alt⟩, fun b hb => ?_, q⟩
  have hle : s1.heap.objs.size ≤ b := by
    rcases List.mem_cons.mp hb with rfl | hb
    · omega
    · rw [List.mem_singleton.mp hb]
      exact Nat.le_refl _
  exact I1.fpOk hle (I1.hok.fresh hle)
/-! loops over pairs: the pair is a new tuple -/
end Rb
namespace Rb
/-! ### plans and ticks: the mathematics -/
def mx (a b : Int) : Int := if b > a then b else a
def leP (p q : Int × Int) : Prop := p.1 < q.1 ∨ (p.1 = q.1 ∧ p.2 ≤ q.2)
instance (p q : Int × Int) : Decidable (leP p q) := inferInstanceAs (Decidable (p.1 < q.1 ∨ (p.1 = q.1 ∧ p.2 ≤ q.2)))
def insB {α : Type} (le : α → α → Bool) (x : α) : List α → List α
  | [] => [x]
  | y :: ys => if le x y = true then x :: y :: ys else y :: insB le x ys
def sortB {α : Type} (le : α → α → Bool) : List α → List α
  | [] => []
  | x :: xs => insB le x (sortB le xs)
theorem insB_perm {α : Type} (le : α → α → Bool) (x : α) : ∀ l : List α, (insB le x l).Perm (x :: l)
  | [] => List.Perm.refl _
  | y :: ys => by
    unfold insB
    split
    · exact List.Perm.refl _
    · exact ((insB_perm le x ys).cons y).trans (List.Perm.swap x y ys)
theorem sortB_perm {α : Type} (le : α → α → Bool) : ∀ l : List α, (sortB le l).Perm l
  | [] => List.Perm.refl _
  | x :: xs => (insB_perm le x _).trans ((sortB_perm le xs).cons x)
theorem insB_sorted {α : Type} {le : α → α → Bool} (tr : ∀ a b c, le a b = true → le b c = true → le a c = true) (tot : ∀ a b, le a b = true ∨ le b a = true) (x : α) : ∀ l : List α, l.Pairwise (fun a b => le a b = true) → (insB le x l).Pairwise (fun a b => le a b = true)
  | [], _ => List.pairwise_singleton _ _
  | y :: ys, h => by
    have hy := List.pairwise_cons.mp h
    unfold insB
    split
    · rename_i c
      refine List.pairwise_cons.mpr ⟨fun z hz => ?_, h⟩
      rcases List.mem_cons.mp hz with rfl | hz
      · exact c
      · exact tr _ _ _ c (hy.1 z hz)
    · rename_i c
      refine List.pairwise_cons.mpr ⟨fun z hz => ?_, insB_sorted tr tot x ys hy.2⟩
      rcases List.mem_cons.mp ((insB_perm le x ys).mem_iff.mp hz) with rfl | hz
      · exact (tot z y).resolve_left c
      · exact hy.1 z hz
theorem sortB_sorted {α : Type} {le : α → α → Bool} (tr : ∀ a b c, le a b = true → le b c = true → le a c = true) (tot : ∀ a b, le a b = true ∨ le b a = true) : ∀ l : List α, (sortB le l).Pairwise (fun a b => le a b = true)
  | [] => List.Pairwise.nil
  | x :: xs => insB_sorted tr tot x _ (sortB_sorted tr tot xs)
def srt (l : List Int) : List Int := sortB (fun a b => decide (a ≤ b)) l
def srtP (l : List (Int × Int)) : List (Int × Int) := sortB (fun a b => decide (leP a b)) l
theorem srt_perm (l : List Int) : (srt l).Perm l := sortB_perm _ l
theorem srtP_perm (l : List (Int × Int)) : (srtP l).Perm l := sortB_perm _ l
theorem srt_sorted (l : List Int) : (srt l).Pairwise (· ≤ ·) := by
  have h := sortB_sorted (le := fun a b : Int => decide (a ≤ b)) (fun a b c h1 h2 => by simp only [decide_eq_true_eq] at *; omega) (fun a b => by simp only [decide_eq_true_eq]; omega) l
  exact h.imp fun h => of_decide_eq_true h
theorem leP_trans {a b c : Int × Int} (h1 : leP a b) (h2 : leP b c) : leP a c := by
  unfold leP at *
  omega
theorem leP_total (a b : Int × Int) : leP a b ∨ leP b a := by
  unfold leP
  omega
theorem srtP_sorted (l : List (Int × Int)) : (srtP l).Pairwise leP := by
  have h := sortB_sorted (le := fun a b : Int × Int => decide (leP a b)) (fun a b c h1 h2 => decide_eq_true (leP_trans (of_decide_eq_true h1) (of_decide_eq_true h2))) (fun a b => by rcases leP_total a b with h | h <;> simp [h]) l
  exact h.imp fun h => of_decide_eq_true h
theorem leP_anti {a b : Int × Int} (h1 : leP a b) (h2 : leP b a) : a = b := by
  obtain ⟨a1, a2⟩ := a
  obtain ⟨b1, b2⟩ := b
  simp only [leP] at h1 h2
  have : a1 = b1 := by omega
  have : a2 = b2 := by omega
  simp [*]
theorem srt_uniq {l m : List Int} (hp : m.Perm l) (hs : m.Pairwise (· ≤ ·)) : m = srt l :=
  List.Perm.eq_of_pairwise (fun a b _ _ h1 h2 => Int.le_antisymm h1 h2) hs (srt_sorted l) (hp.trans (srt_perm l).symm)
theorem srtP_uniq {l m : List (Int × Int)} (hp : m.Perm l) (hs : m.Pairwise leP) : m = srtP l :=
  List.Perm.eq_of_pairwise (fun a b _ _ h1 h2 => leP_anti h1 h2) hs (srtP_sorted l) (hp.trans (srtP_perm l).symm)
theorem srt_len (l : List Int) : (srt l).length = l.length := (srt_perm l).length_eq
theorem srtP_len (l : List (Int × Int)) : (srtP l).length = l.length := (srtP_perm l).length_eq
/-- places set one after another -/
def setF (l : List Int) (zs : List (Nat × Int)) : List Int := zs.foldl (fun l z => l.set z.1 z.2) l
theorem setF_len : ∀ (zs : List (Nat × Int)) (l : List Int), (setF l zs).length = l.length
  | [], _ => rfl
  | z :: zs, l => by
    show (setF (l.set z.1 z.2) zs).length = _
    rw [setF_len zs, List.length_set]
theorem setF_snoc (l : List Int) (zs : List (Nat × Int)) (z : Nat × Int) : setF l (zs ++ [z]) = (setF l zs).set z.1 z.2 := by
  unfold setF
  rw [List.foldl_append]
  rfl
/-! one stage -/
section
variable (ticks : List Int) (riders brought : List Nat) (st : Nat) (walk ride : Int)
def tickAt (p : Nat) : Int := ticks.getD p 0
def queueM : List (Int × Int) := srtP (riders.map fun p => (tickAt ticks p, (p : Int)))
def bikesM : List Int := srt (List.replicate st 0 ++ brought.map fun p => tickAt ticks p)
def pairsM : List ((Int × Int) × Int) := (queueM ticks riders).zip (bikesM ticks brought st)
def leaveM : List Int := setF ticks ((pairsM ticks riders brought st).map fun z => (z.1.2.toNat, mx z.1.1 z.2))
def rowM : List Int := (leaveM ticks riders brought st).mapIdx fun p t => t + if p ∈ riders then ride else walk
end
section
variable {ticks : List Int} {riders brought : List Nat} {st : Nat} {walk ride : Int}
theorem queueM_len : (queueM ticks riders).length = riders.length := by
  unfold queueM
  rw [srtP_len, List.length_map]
theorem bikesM_len : (bikesM ticks brought st).length = st + brought.length := by
  unfold bikesM
  rw [srt_len, List.length_append, List.length_replicate, List.length_map]
theorem pairsM_len (h : riders.length ≤ st + brought.length) : (pairsM ticks riders brought st).length = riders.length := by
  unfold pairsM
  rw [List.length_zip, queueM_len, bikesM_len]
  omega
theorem leaveM_len : (leaveM ticks riders brought st).length = ticks.length := setF_len _ _
theorem rowM_len : (rowM ticks riders brought st walk ride).length = ticks.length := by
  unfold rowM
  rw [List.length_mapIdx, leaveM_len]
theorem pairs_mem {z : (Int × Int) × Int} (h : z ∈ pairsM ticks riders brought st) : ∃ p ∈ riders, z.1 = (tickAt ticks p, (p : Int)) := by
  have h1 : z.1 ∈ queueM ticks riders := (List.of_mem_zip (show (z.1, z.2) ∈ (queueM ticks riders).zip _ from h)).1
  have h2 := (srtP_perm _).mem_iff.mp h1
  obtain ⟨p, hp, e⟩ := List.mem_map.mp h2
  exact ⟨p, hp, e.symm⟩
/-! the law's own way: the same pairs, rides added at once, then the walkers -/
end
/-! a whole plan: the ticks at each station -/
structure PlanOk (bikes : List Int) (n : Nat) (plan : List (List Nat)) : Prop where
  len : plan.length = bikes.length
  nn : ∀ b ∈ bikes, 0 ≤ b
  asc : ∀ r ∈ plan, r.Pairwise (· < ·)
  lt : ∀ r ∈ plan, ∀ p ∈ r, p < n
  few : ∀ i, (plan.getD i []).length ≤ (bikes.getD i 0).toNat + (if i = 0 then 0 else (plan.getD (i - 1) []).length)
def brM (plan : List (List Nat)) (i : Nat) : List Nat := if i = 0 then [] else plan.getD (i - 1) []
def tkM (walk ride : Int) (bikes starts : List Int) (plan : List (List Nat)) : Nat → List Int
  | 0 => starts
  | i + 1 => rowM (tkM walk ride bikes starts plan i) (plan.getD i []) (brM plan i) (bikes.getD i 0).toNat walk ride
theorem tkM_len {walk ride : Int} {bikes starts : List Int} {plan : List (List Nat)} : ∀ i, (tkM walk ride bikes starts plan i).length = starts.length
  | 0 => rfl
  | i + 1 => by
    show (rowM _ _ _ _ _ _).length = _
    rw [rowM_len, tkM_len i]
def rowsM (walk ride : Int) (bikes starts : List Int) (plan : List (List Nat)) (m : Nat) : List (List Int) := (List.range (m + 1)).map (tkM walk ride bikes starts plan)
/-! waits -/
section
variable {ticks w0 : List Int} {riders brought : List Nat} {st k : Nat} {ride : Int} {z : (Int × Int) × Int}
theorem take_snoc (hz : (pairsM ticks riders brought st)[k]? = some z) : (pairsM ticks riders brought st).take (k + 1) = (pairsM ticks riders brought st).take k ++ [z] := by
  rw [List.take_add_one, hz]
  rfl
end
/-- a least item of what is left is the next in order -/
theorem least_next {S l : List (Int × Int)} {k : Nat} {m : Int × Int} (hs : S.Pairwise leP) (hp : l.Perm (S.drop k)) (hm : m ∈ l) (hle : ∀ q ∈ l, leP m q) : S[k]? = some m ∧ S.drop k = m :: S.drop (k + 1) := by
  have hm2 := hp.mem_iff.mp hm
  have kl : k < S.length := by
    rcases Nat.lt_or_ge k S.length with c | c
    · exact c
    · rw [List.drop_of_length_le c] at hm2
      cases hm2
  have ed : S.drop k = S[k] :: S.drop (k + 1) := List.drop_eq_getElem_cons kl
  have h1 : leP m S[k] := hle _ (hp.mem_iff.mpr (by rw [ed]; exact List.mem_cons_self))
  have h2 : leP S[k] m := by
    have hs2 : (S.drop k).Pairwise leP := hs.sublist (List.drop_sublist _ _)
    rw [ed] at hs2 hm2
    rcases List.mem_cons.mp hm2 with e | e
    · rw [e]
      exact .inr ⟨rfl, Int.le_refl _⟩
    · exact (List.pairwise_cons.mp hs2).1 m e
  have e := leP_anti h1 h2
  exact ⟨by rw [List.getElem?_eq_getElem kl, e], by rw [e]; exact ed⟩
theorem erase_next {α : Type} {l r : List α} {m : α} {j : Nat} (hj : l[j]? = some m) (hp : l.Perm (m :: r)) : (l.eraseIdx j).Perm r := by
  have h : (m :: l.eraseIdx j).Perm l := by
    clear hp
    induction l generalizing j with
    | nil => simp at hj
    | cons x l ih =>
      cases j with
      | zero =>
        cases hj
        exact List.Perm.refl _
      | succ j => exact (List.Perm.swap x m _).trans ((ih hj).cons x)
  exact (h.trans hp).cons_inv
/-! bounds -/
def Bnd (M : Int) (l : List Int) : Prop := ∀ x ∈ l, 0 ≤ x ∧ x ≤ M
end Rb
namespace Rb
open PySem PySem.Spec PyProof.Rows L2
/-! pairs of ints in a list: min, remove, sorted -/
def pairD (p : Int × Int) : PyData := .tuple [.int p.1, .int p.2]
/-- the list's items are pairs, as told -/
def Prs (H : Hp) (xs : List V) (ps : List (Int × Int)) : Prop := xs.length = ps.length ∧ ∀ (i : Nat) (p : Int × Int), ps[i]? = some p → ∃ t, xs[i]? = some (.ref t) ∧ H t = some (.tup [.int p.1, .int p.2])
theorem Prs.nil {H : Hp} : Prs H [] [] := ⟨rfl, fun i p h => by simp at h⟩
theorem Prs.keep {H H' : Hp} {xs : List V} {ps : List (Int × Int)} (h : Prs H xs ps) (k : ∀ a ys, H a = some (.tup ys) → H' a = some (.tup ys)) : Prs H' xs ps :=
  ⟨h.1, fun i p hp => by
    obtain ⟨t, h1, h2⟩ := h.2 i p hp
    exact ⟨t, h1, k _ _ h2⟩⟩
theorem Prs.snoc {H : Hp} {xs : List V} {ps : List (Int × Int)} {t : Addr} {p : Int × Int} (h : Prs H xs ps) (ht : H t = some (.tup [.int p.1, .int p.2])) : Prs H (xs ++ [.ref t]) (ps ++ [p]) := by
  refine ⟨by rw [List.length_append, List.length_append, h.1]; rfl, fun i q hq => ?_⟩
  rw [List.getElem?_append] at hq
  split at hq
  · rename_i hi
    obtain ⟨t2, h1, h2⟩ := h.2 i q hq
    exact ⟨t2, by rw [List.getElem?_append_left (by rw [h.1]; exact hi)]; exact h1, h2⟩
  · rename_i hi
    have e : i - ps.length = 0 := by
      rcases Nat.eq_zero_or_pos (i - ps.length) with e | e
      · exact e
      · rw [List.getElem?_eq_none (by show 1 ≤ i - ps.length; exact e)] at hq
        cases hq
    rw [e] at hq
    cases hq
    refine ⟨t, ?_, ht⟩
    rw [List.getElem?_append_right (by rw [h.1]; omega), h.1, e]
    rfl
theorem Prs.erase {H : Hp} {xs : List V} {ps : List (Int × Int)} (h : Prs H xs ps) (j : Nat) : Prs H (xs.eraseIdx j) (ps.eraseIdx j) := by
  refine ⟨by rw [List.length_eraseIdx, List.length_eraseIdx, h.1], fun i q hq => ?_⟩
  rw [List.getElem?_eraseIdx] at hq ⊢
  split at hq
  · rename_i hi
    rw [if_pos hi]
    exact h.2 i q hq
  · rename_i hi
    rw [if_neg hi]
    exact h.2 (i + 1) q hq
theorem Prs.dp {K : PySem.W.Frag} {H : Hp} : ∀ {xs : List V} {ps : List (Int × Int)}, Prs H xs ps → DpAll K H xs (ps.map pairD)
  | [], [], _ => .nil
  | [], _ :: _, h => by cases h.1
  | _ :: _, [], h => by cases h.1
  | x :: xs, p :: ps, h => by
    obtain ⟨t, h1, h2⟩ := h.2 0 p rfl
    cases (Option.some.inj h1)
    refine .cons (.tup (tupOf h2) (.cons (.int _) (.cons (.int _) .nil))) (Prs.dp ⟨Nat.succ.inj h.1, fun i q hq => ?_⟩)
    exact h.2 (i + 1) q hq
end Rb
namespace Rb
open PySem PySem.Spec PyProof.Rows L2
/-- rows: refs of tuples of ints -/
def Rws (K : PySem.W.Frag) (H : Hp) (xs : List V) (rows : List (List Int)) : Prop := xs.length = rows.length ∧ ∀ (i : Nat) (r : List Int), rows[i]? = some r → ∃ t, xs[i]? = some (.ref t) ∧ SqT K H t (r.map V.int)
section
variable {K : PySem.W.Frag} {H H' : Hp} {xs : List V} {rows : List (List Int)}
theorem Rws.nil : Rws K H [] [] := ⟨rfl, fun i p h => by simp at h⟩
theorem Rws.keep (h : Rws K H xs rows) (k : ∀ a ys, SqT K H a ys → SqT K H' a ys) : Rws K H' xs rows :=
  ⟨h.1, fun i p hp => by
    obtain ⟨t, h1, h2⟩ := h.2 i p hp
    exact ⟨t, h1, k _ _ h2⟩⟩
theorem Rws.ex (h : Rws K H xs rows) (e : Evl.Ex H H') : Rws K H' xs rows := h.keep fun _ _ z => Evl.ex_t e z
theorem Rws.kp {d c : Addr} {N : Int} (h : Rws K H xs rows) (k : Kp d c H H') (dk : Dk H d c N) : Rws K H' xs rows := h.keep fun _ _ z => k.sqT dk z
theorem Rws.snoc {t : Addr} {r : List Int} (h : Rws K H xs rows) (ht : SqT K H t (r.map V.int)) : Rws K H (xs ++ [.ref t]) (rows ++ [r]) := by
  refine ⟨by rw [List.length_append, List.length_append, h.1]; rfl, fun i q hq => ?_⟩
  rw [List.getElem?_append] at hq
  split at hq
  · rename_i hi
    obtain ⟨t2, h1, h2⟩ := h.2 i q hq
    exact ⟨t2, by rw [List.getElem?_append_left (by rw [h.1]; exact hi)]; exact h1, h2⟩
  · rename_i hi
    have e : i - rows.length = 0 := by
      rcases Nat.eq_zero_or_pos (i - rows.length) with e | e
      · exact e
      · rw [List.getElem?_eq_none (by show 1 ≤ i - rows.length; exact e)] at hq
        cases hq
    rw [e] at hq
    cases hq
    refine ⟨t, ?_, ht⟩
    rw [List.getElem?_append_right (by rw [h.1]; omega), h.1, e]
    rfl
theorem Rws.tp : ∀ {xs : List V} {rows : List (List Int)}, Rws K H xs rows → TpAll K H xs (rows.map fun r => .tuple (r.map .int))
  | [], [], _ => .nil
  | [], _ :: _, h => by cases h.1
  | _ :: _, [], h => by cases h.1
  | x :: xs, p :: ps, h => by
    obtain ⟨t, h1, h2⟩ := h.2 0 p rfl
    cases (Option.some.inj h1)
    exact .cons (Tp.tupI h2) (Rws.tp ⟨Nat.succ.inj h.1, fun i q hq => h.2 (i + 1) q hq⟩)
end
/-! comprehensions over enumerate(list), and whose elements are new pairs -/
/-! sorted pairs -/
def keyOf (H : Hp) (x : V) : Int × Int :=
  match x with
  | .ref t => match H t with
    | some (.tup [.int i, .int j]) => (i, j)
    | _ => (0, 0)
  | _ => (0, 0)
theorem keyOf_eq {H : Hp} {t : Addr} {p : Int × Int} (h : H t = some (.tup [.int p.1, .int p.2])) : keyOf H (.ref t) = p := by
  unfold keyOf
  simp only [h]
theorem Prs.keys {H : Hp} {xs : List V} {ps : List (Int × Int)} (h : Prs H xs ps) : xs.map (keyOf H) = ps := by
  apply List.ext_getElem?
  intro i
  rw [List.getElem?_map]
  cases e : ps[i]? with
  | none => rw [List.getElem?_eq_none (by rw [h.1]; exact List.getElem?_eq_none_iff.mp e)]; rfl
  | some p =>
    obtain ⟨t, h1, h2⟩ := h.2 i p e
    rw [h1]
    exact congrArg some (keyOf_eq h2)
theorem sorted_prs {K : PySem.W.Frag} {H : Hp} {a : Addr} {xs : List V} {ps : List (Int × Int)} {Q : VK} (hS : SqL K H a xs) (hP : Prs H xs ps) (q : ∀ ys p, Prs H ys (srtP ps) → H p = none → Q (.ref p) (upd H p (.lst ys))) : rSortedPO K [.ref a] H Q := by
  refine ⟨a, xs, keyOf H, rfl, hS, fun x hx => ?_, fun ys p h1 h2 np => q ys p ?_ np⟩
  · obtain ⟨i, hi, e⟩ := List.getElem_of_mem hx
    have il : i < ps.length := by rw [← hP.1]; exact hi
    obtain ⟨t, g1, g2⟩ := hP.2 i ps[i] (List.getElem?_eq_getElem il)
    rw [List.getElem?_eq_getElem hi, e] at g1
    cases Option.some.inj g1
    refine ⟨t, rfl, ?_⟩
    rw [keyOf_eq g2]
    exact g2
  · have e : ys.map (keyOf H) = srtP ps := by
      rw [← hP.keys]
      refine srtP_uniq (h2.perm.map _) ?_
      refine List.pairwise_map.mpr (List.Pairwise.imp (fun {x y} h => ?_) h1)
      have := SrtO.lexB_no.mp (show SrtO.lexB (keyOf H y) (keyOf H x) = false from h)
      unfold leP
      omega
    rw [← e]
    refine ⟨(List.length_map _).symm, fun i p hp => ?_⟩
    rw [List.getElem?_map] at hp
    obtain ⟨y, hy, rfl⟩ := Option.map_eq_some_iff.mp hp
    have ym : y ∈ xs := h2.perm.mem_iff.mp (List.mem_of_getElem? hy)
    obtain ⟨k, hk, ek⟩ := List.getElem_of_mem ym
    have kl : k < ps.length := by rw [← hP.1]; exact hk
    obtain ⟨t, g1, g2⟩ := hP.2 k ps[k] (List.getElem?_eq_getElem kl)
    rw [List.getElem?_eq_getElem hk, ek] at g1
    cases Option.some.inj g1
    refine ⟨t, hy, ?_⟩
    rw [keyOf_eq g2]
    exact g2
theorem nodup_le {n : Nat} : ∀ {l : List Nat}, l.Nodup → (∀ p ∈ l, p < n) → l.length ≤ n := by
  induction n with
  | zero =>
    intro l _ h
    cases l with
    | nil => exact Nat.le_refl _
    | cons x r => exact absurd (h x List.mem_cons_self) (Nat.not_lt_zero _)
  | succ n ih =>
    intro l nd h
    have h1 : (l.erase n).length ≤ n := ih (nd.erase n) fun p hp => by
      have a := h p (List.mem_of_mem_erase hp)
      have b : p ≠ n := fun e => (nd.not_mem_erase (a := n)) (e ▸ hp)
      omega
    rw [List.length_erase] at h1
    split at h1 <;> omega
end Rb
namespace Rb
open PySem PySem.Spec PyProof.Rows L2
/-! a tuple times a number: once is the tuple itself -/
open AutoSeq1 (wpAny_loadPart') in
theorem tupMul1 (t : Addr) (its : Array Value) (n : Nat) (dc : Option Addr) (sl : Array (Option Value)) (u : Tok) :
    Meets (Builtin.«tuple.__mul__» ⟨[.ref t, .int 1 u], []⟩) (fun _ R s => s.heap.get? t = some { cls := .type "tuple", dict := dc, data := .seq its n, slots := sl } ∧ R (.ok (.ret (Value.ref t))) s) := by
  refine .of_wp fun pr wo A R s h => ?_
  obtain ⟨hp, g, d, tk, os⟩ := s
  obtain ⟨ht, h⟩ := h
  have f1 := AutoSeq1.idx_int
  wp_walk using wpAny_loadPart' ht
  repeat (first
    | (refine wpAny_ite_false (by decide) ?_; wp_walk using wpAny_loadPart' ht)
    | (refine wpAny_ite_true (decide_eq_true (by cases its.isEmpty <;> rfl)) ?_; wp_walk using wpAny_loadPart' ht))
  exact ⟨_, rfl, h⟩
/-! max of a tuple of ints -/
def rMaxT (K : PySem.W.Frag) : List V → Hp → VK → Prop := fun vs H Q => ∃ (a : Addr) (ns : List Int), vs = [V.ref a] ∧ SqT K H a (ns.map V.int) ∧ ns ≠ [] ∧ ∀ m, m ∈ ns → (∀ y ∈ ns, y ≤ m) → Q (.int m) H
theorem maxOf_most : ∀ (ns : List Int) (n : Int), (PySem.W.maxOf n ns ∈ n :: ns) ∧ ∀ q ∈ n :: ns, q ≤ PySem.W.maxOf n ns
  | [], n => ⟨List.mem_cons_self, fun q hq => by
    rw [List.mem_singleton.mp hq]
    exact Int.le_refl _⟩
  | y :: ys, n => by
    have e : PySem.W.maxOf n (y :: ys) = PySem.W.maxOf (if PySem.W.DatumOrd.lt n y = true then y else n) ys := rfl
    rw [e]
    have l1 : (PySem.W.DatumOrd.lt n y = true) ↔ n < y := by
      show decide (n < y) = true ↔ _
      exact decide_eq_true_iff
    by_cases c : PySem.W.DatumOrd.lt n y = true
    · rw [if_pos c]
      obtain ⟨h1, h2⟩ := maxOf_most ys y
      refine ⟨List.mem_cons_of_mem _ h1, fun q hq => ?_⟩
      rcases List.mem_cons.mp hq with rfl | hq
      · have a := h2 y List.mem_cons_self
        have b := l1.mp c
        omega
      · exact h2 q hq
    · rw [if_neg c]
      obtain ⟨h1, h2⟩ := maxOf_most ys n
      refine ⟨?_, fun q hq => ?_⟩
      · rcases List.mem_cons.mp h1 with h | h
        · rw [h]; exact List.mem_cons_self
        · exact List.mem_cons_of_mem _ (List.mem_cons_of_mem _ h)
      · rcases List.mem_cons.mp hq with rfl | hq
        · exact h2 q List.mem_cons_self
        · rcases List.mem_cons.mp hq with rfl | hq
          · have a := h2 n List.mem_cons_self
            have b : ¬ n < q := fun z => c (l1.mpr z)
            omega
          · exact h2 q (List.mem_cons_of_mem _ hq)
theorem cr_maxT {X : Cx} (hc : X.calm = true) (hu : X.A.units + 64 < cLine) : CallR X (.builtin "max") (rMaxT X.K) := by
  intro pins s σ H vs us Q I r h
  obtain ⟨a, ns, rfl, hs, hne, q⟩ := h
  obtain ⟨its, rv, hl, _⟩ := I.tuple hs
  rw [Vals.ref1 r]
  cases ns with
  | nil => exact absurd rfl hne
  | cons n ns =>
    obtain ⟨as, ra⟩ := Dp.readsAll I _ _ its (DpAll.ints (K := X.K) (n :: ns)) rv
    refine PySem.W.max_tuple_datum (α := Int) (x := n) (xs := ns) (I.ok.hd hc) (isTup_isTuple hl) ⟨as, ra⟩ (by show X.A.units + 1 + 0 < _; omega) fun i v h' tk hi hv hk => ?_
    obtain ⟨hm, hle⟩ := maxOf_most ns n
    obtain ⟨cs, rm⟩ := hv
    have rm' : Reads h' v (.int (PySem.W.maxOf n ns)) cs := rm
    cases rm' with
    | int _ t => exact ⟨.int _, H, I.kept hk, ⟨t, rfl⟩, q _ hm hle⟩
end Rb
namespace Rb
/-! waits by the ticks alone -/
theorem stages_ok {bikes : List Int} {n i : Nat} {plan : List (List Nat)} (h : PlanOk bikes n plan) (hi : i < plan.length) : (plan.getD i []).Nodup ∧ (∀ p ∈ plan.getD i [], p < n) ∧ (plan.getD i []).length ≤ (bikes.getD i 0).toNat + (brM plan i).length := by
  have hr : plan[i]? = some plan[i] := List.getElem?_eq_getElem hi
  have e : plan.getD i [] = plan[i] := by rw [List.getD_eq_getElem?_getD, hr]; rfl
  have hm : plan[i] ∈ plan := List.getElem_mem hi
  have f := h.few i
  refine ⟨by rw [e]; exact (h.asc _ hm).imp fun h => Nat.ne_of_lt h, by rw [e]; exact h.lt _ hm, ?_⟩
  unfold brM
  split
  · rename_i z
    rw [if_pos z] at f
    exact f
  · rename_i z
    rw [if_neg z] at f
    exact f
end Rb
namespace Rb
open PySem PySem.Spec PyProof.Rows L2
end Rb
namespace Rb
open PySem PySem.Spec PyProof.Rows L2
/-! own errors with one field: made, raised, caught, asked for their class -/
/-- __init__(self, f): self.f = f -/
def spIni (K : PySem.W.Frag) (C : Addr) (f : Str) : Sp := fun vs H Q _ => ∃ (a : Addr) (y : V), vs = [.ref a, y] ∧ H a = some (exo a C none) ∧ ∀ dx, H dx = none → dx ≠ a → Q .non (upd (upd H dx (exd dx [(f, y)])) a (exo a C (some dx)))
theorem made_eq {H : Hp} {a d C : Addr} {f : Str} {y : V} (ha : H a = none) (hd : d ≠ a) :
    upd (del (upd (upd (upd H a (exo a C none)) d (exd d [(f, y)])) a (exo a C (some d))) a) d (.xd [(f, y)]) = upd H d (.xd [(f, y)]) := by
  funext b
  by_cases h1 : b = d
  · subst h1
    rw [upd_same, upd_same]
  · rw [upd_ne h1, upd_ne h1]
    by_cases h2 : b = a
    · subst h2
      rw [del_same, ha]
    · rw [del_ne h2, upd_ne h2, upd_ne h1, upd_ne h2]
/-- what remains to show of raise C(e) -/
theorem mkO_of {K : PySem.W.Frag} {C : Addr} {f : Str} {H1 : Hp} {y : V} {W : XK} (q : ∀ d, H1 d = none → W (.ref C) (some d) (upd H1 d (.xd [(f, y)]))) :
    [y].length ≤ 1000 ∧ ∀ a, H1 a = none → spIni K C f (.ref a :: ([y] ++ [])) (upd H1 a (exo a C none))
      (fun v H2 => v = .non ∧ ∃ (d : Addr) (fs : List (Str × V)), H2 a = some (exo a C (some d)) ∧ H2 d = some (exd d fs) ∧ H1 d = none ∧ W (.ref C) (some d) (upd (del H2 a) d (.xd fs))) (fun _ _ _ => False) := by
  refine ⟨by show 1 ≤ 1000; decide, fun a ha => ⟨a, y, rfl, upd_same, fun d hd ne => ⟨rfl, d, [(f, y)], upd_same, ?_, ?_, ?_⟩⟩⟩
  · rw [upd_ne ne, upd_same]
  · rw [upd_ne ne] at hd
    exact hd
  · rw [made_eq ha ne]
    rw [upd_ne ne] at hd
    exact q d hd
/-! ### isinstance of the error that a suite holds -/
end Rb
namespace Rb
open PySem PySem.Spec PyProof.Rows L2
/-! roads one behind the other -/
abbrev Rd := Int × Int × List Int
/-- roads in a sequence -/
def Rds (K : PySem.W.Frag) (H : Hp) (xs : List V) (rs : List Rd) : Prop := xs.length = rs.length ∧ ∀ (i : Nat) (r : Rd), rs[i]? = some r → ∃ v, xs[i]? = some v ∧ Road K H v r.1 r.2.1 r.2.2
section
variable {K : PySem.W.Frag} {H H' : Hp} {xs : List V} {rs : List Rd}
theorem Rds.nil : Rds K H [] [] := ⟨rfl, fun i r h => by simp at h⟩
theorem Road.keep {v : V} {w r : Int} {bs : List Int} (x : Road K H v w r bs) (k : ∀ a ys, SqT K H a ys → SqT K H' a ys) : Road K H' v w r bs := by
  obtain ⟨a, b, rfl, h1, h2⟩ := x
  exact ⟨a, b, rfl, k _ _ h1, k _ _ h2⟩
theorem Rds.keep (h : Rds K H xs rs) (k : ∀ a ys, SqT K H a ys → SqT K H' a ys) : Rds K H' xs rs :=
  ⟨h.1, fun i r e => by
    obtain ⟨v, h1, h2⟩ := h.2 i r e
    exact ⟨v, h1, h2.keep k⟩⟩
theorem Rds.ex (h : Rds K H xs rs) (e : Evl.Ex H H') : Rds K H' xs rs := h.keep fun _ _ z => Evl.ex_t e z
theorem Rds.kp {d c : Addr} {N : Int} (h : Rds K H xs rs) (k : Kp d c H H') (dk : Dk H d c N) : Rds K H' xs rs := h.keep fun _ _ z => k.sqT dk z
theorem Rds.cons {v : V} {r : Rd} (h1 : Road K H v r.1 r.2.1 r.2.2) (h : Rds K H xs rs) : Rds K H (v :: xs) (r :: rs) := by
  refine ⟨by rw [List.length_cons, List.length_cons, h.1], fun i s e => ?_⟩
  cases i with
  | zero =>
    cases e
    exact ⟨v, rfl, h1⟩
  | succ i => exact h.2 i s e
theorem Rds.snoc {v : V} {r : Rd} (h : Rds K H xs rs) (h1 : Road K H v r.1 r.2.1 r.2.2) : Rds K H (xs ++ [v]) (rs ++ [r]) := by
  refine ⟨by simp [h.1], fun i s e => ?_⟩
  by_cases hi : i < rs.length
  · rw [List.getElem?_append_left hi] at e
    obtain ⟨u, h2, h3⟩ := h.2 i s e
    exact ⟨u, by rw [List.getElem?_append_left (by rw [h.1]; exact hi)]; exact h2, h3⟩
  · have hl := (List.getElem?_eq_some_iff.mp e).1
    rw [List.length_append] at hl
    have hi2 : i = rs.length := by simp at hl; omega
    subst hi2
    rw [List.getElem?_concat_length] at e
    cases e
    exact ⟨v, by rw [← h.1]; exact List.getElem?_concat_length, h1⟩
theorem Rds.uncons {v : V} {r : Rd} (h : Rds K H (v :: xs) (r :: rs)) : Road K H v r.1 r.2.1 r.2.2 ∧ Rds K H xs rs := by
  refine ⟨?_, by have := h.1; rw [List.length_cons, List.length_cons] at this; omega, fun i s e => h.2 (i + 1) s e⟩
  obtain ⟨u, h1, h2⟩ := h.2 0 r rfl
  cases h1
  exact h2
theorem Rds.at {i : Nat} {v : V} (h : Rds K H xs rs) (hv : xs[i]? = some v) : ∃ r, rs[i]? = some r ∧ Road K H v r.1 r.2.1 r.2.2 := by
  have hl := (List.getElem?_eq_some_iff.mp hv).1
  have e : rs[i]? = some (rs[i]'(by rw [← h.1]; exact hl)) := List.getElem?_eq_getElem _
  obtain ⟨u, h1, h2⟩ := h.2 i _ e
  rw [hv] at h1
  cases h1
  exact ⟨_, e, h2⟩
theorem Rds.set {i : Nat} {v : V} {r : Rd} (h : Rds K H xs rs) (h1 : Road K H v r.1 r.2.1 r.2.2) : Rds K H (xs.set i v) (rs.set i r) := by
  refine ⟨by simp [h.1], fun j s e => ?_⟩
  by_cases hij : i = j
  · subst hij
    by_cases hl : i < rs.length
    · rw [List.getElem?_set_self hl] at e
      cases e
      exact ⟨v, List.getElem?_set_self (by rw [h.1]; exact hl), h1⟩
    · rw [List.getElem?_eq_none (by simp; omega)] at e
      cases e
  · rw [List.getElem?_set_ne hij] at e
    obtain ⟨u, h2, h3⟩ := h.2 j s e
    exact ⟨u, by rw [List.getElem?_set_ne hij]; exact h2, h3⟩
theorem Rds.dp : ∀ {xs : List V} {rs : List Rd}, Rds K H xs rs → DpAll K H xs (rs.map fun r => roadD r.1 r.2.1 r.2.2)
  | [], [], _ => .nil
  | [], _ :: _, h => by cases h.1
  | _ :: _, [], h => by cases h.1
  | x :: xs, r :: rs, h => by
    obtain ⟨h1, h2⟩ := h.uncons
    exact .cons h1.dp (Rds.dp h2)
/-! the two ends of a road -/
end
/-! a result: plain immutable data, or a new list of a text and a number -/
def Res (K : PySem.W.Frag) (H0 H : Hp) (v : V) (d : PyData) : Prop := Tp K H v d ∨ ∃ (q : Addr) (x : Str) (n : Int), v = .ref q ∧ H0 q = none ∧ H q = some (.lst [.str x, .int n]) ∧ d = .list [.str x, .int n]
theorem Res.ex {K : PySem.W.Frag} {H0 H H' : Hp} {v : V} {d : PyData} (h : Res K H0 H v d) (e : Evl.Ex H H') : Res K H0 H' v d := by
  rcases h with h | ⟨q, x, n, h1, h2, h3, h4⟩
  · exact .inl (h.ex e)
  · exact .inr ⟨q, x, n, h1, h2, e _ _ h3, h4⟩
theorem Res.old {K : PySem.W.Frag} {H0 H1 H : Hp} {v : V} {d : PyData} (h : Res K H1 H v d) (e : Evl.Ex H0 H1) : Res K H0 H v d := by
  rcases h with h | ⟨q, x, n, h1, h2, h3, h4⟩
  · exact .inl h
  · refine .inr ⟨q, x, n, h1, ?_, h3, h4⟩
    cases z : H0 q with
    | none => rfl
    | some o => rw [e _ _ z] at h2; cases h2
theorem Res.dp {K : PySem.W.Frag} {H0 H : Hp} {v : V} {d : PyData} (h : Res K H0 H v d) : Dp K H v d := by
  rcases h with h | ⟨q, x, n, h1, h2, h3, h4⟩
  · exact Tp.dp _ _ h
  · subst h1 h4
    exact .lst (lstOf h3) (.cons (.str x) (.cons (.int n) .nil))
/-- the same of all, the lists none of them at D -/
inductive ResAll (K : PySem.W.Frag) (D : Addr) (H : Hp) : List V → List PyData → Prop
  | nil : ResAll K D H [] []
  | tp {v : V} {d : PyData} {vs : List V} {ds : List PyData} : Tp K H v d → ResAll K D H vs ds → ResAll K D H (v :: vs) (d :: ds)
  | ls {q : Addr} {x : Str} {n : Int} {vs : List V} {ds : List PyData} : q ≠ D → H q = some (.lst [.str x, .int n]) → ResAll K D H vs ds → ResAll K D H (.ref q :: vs) (.list [.str x, .int n] :: ds)
section
variable {K : PySem.W.Frag} {D : Addr} {H H' : Hp}
theorem ResAll.dp : ∀ {vs : List V} {ds : List PyData}, ResAll K D H vs ds → DpAll K H vs ds
  | _, _, .nil => .nil
  | _, _, .tp h r => .cons (Tp.dp _ _ h) r.dp
  | _, _, .ls _ h r => .cons (.lst (lstOf h) (.cons (.str _) (.cons (.int _) .nil))) r.dp
theorem ResAll.ex (e : Evl.Ex H H') : ∀ {vs : List V} {ds : List PyData}, ResAll K D H vs ds → ResAll K D H' vs ds
  | _, _, .nil => .nil
  | _, _, .tp h r => .tp (h.ex e) (r.ex e)
  | _, _, .ls n h r => .ls n (e _ _ h) (r.ex e)
theorem ResAll.snoc {H0 : Hp} {v : V} {d : PyData} {o : HO} (hv : Res K H0 H v d) (hD : H0 D = some o) : ∀ {vs : List V} {ds : List PyData}, ResAll K D H vs ds → ResAll K D H (vs ++ [v]) (ds ++ [d])
  | _, _, .nil => by
    rcases hv with h | ⟨q, x, n, h1, h2, h3, h4⟩
    · exact .tp h .nil
    · subst h1 h4
      exact .ls (fun z => by rw [z, hD] at h2; cases h2) h3 .nil
  | _, _, .tp h r => .tp h (r.snoc hv hD)
  | _, _, .ls n h r => .ls n h (r.snoc hv hD)
theorem ResAll.length : ∀ {vs : List V} {ds : List PyData}, ResAll K D H vs ds → vs.length = ds.length
  | _, _, .nil => rfl
  | _, _, .tp _ r => congrArg Nat.succ r.length
  | _, _, .ls _ _ r => congrArg Nat.succ r.length
end
end Rb
namespace Rb
open PySem PySem.Spec PyProof.Rows L2
/-! any value: plain data, small dicts from texts to ints among it -/
def dicV (ps : List (Str × Int)) : List (Key × V) := ps.map fun p => (Sum.inr p.1, V.int p.2)
def dicD (ps : List (Str × Int)) : PyData := .dict (ps.map fun p => (.str p.1, .int p.2))
mutual
inductive Ap (K : PySem.W.Frag) (S : List Addr) (H : Hp) : V → PyData → Prop
  | non : Ap K S H .non .none
  | bl (b : Bool) : Ap K S H (.bl b) (.bool b)
  | int (i : Int) : Ap K S H (.int i) (.int i)
  | str (x : Str) : Ap K S H (.str x) (.str x)
  | lst {a : Addr} {xs : List V} {ds : List PyData} : a ∉ S → L2.Rd H a (.lst xs) → ApAll K S H xs ds → Ap K S H (.ref a) (.list ds)
  | tup {a : Addr} {xs : List V} {ds : List PyData} : SqT K H a xs → ApAll K S H xs ds → Ap K S H (.ref a) (.tuple ds)
  | dic {a : Addr} {ps : List (Str × Int)} : H a = some (.dK (dicV ps)) → Ap K S H (.ref a) (dicD ps)
inductive ApAll (K : PySem.W.Frag) (S : List Addr) (H : Hp) : List V → List PyData → Prop
  | nil : ApAll K S H [] []
  | cons {v : V} {vs : List V} {d : PyData} {ds : List PyData} : Ap K S H v d → ApAll K S H vs ds → ApAll K S H (v :: vs) (d :: ds)
end
section
variable {X : Cx} {pins : List (Addr × Obj)} {σ : L2.St} {H : Hp} {s : Shared} {S : List Addr}
theorem dic_reads {h : Heap} : ∀ {ps : List (Str × Int)} {vs : List (Key × Value)} {es : List DictEntry}, KV (dicV ps) vs → Pairs (mixKind X.prog X.w) es vs →
    ReadsAll h (es.map (·.key)) (ps.map fun p => PyData.str p.1) [] ∧ ReadsAll h (es.map (·.val)) (ps.map fun p => PyData.int p.2) []
  | [], _, _, .nil, .nil => ⟨.nil, .nil⟩
  | p :: ps, _, _, .cons hp r, .cons h1 h2 h3 => by
    obtain ⟨q1, q2⟩ := dic_reads r h3
    obtain ⟨e1, t, e2⟩ := hp
    have hk : keyIs (Sum.inr p.1) _ = true := e1 ▸ h1
    rcases keyIs_shape hk with ⟨i, t, z, _⟩ | ⟨x, t2, z, e3⟩
    · cases z
    · cases z
      refine ⟨?_, ?_⟩
      · rw [List.map_cons, List.map_cons, e3]
        exact ReadsAll.cons (as := []) (bs := []) (.str _ _) q1
      · rw [List.map_cons, List.map_cons, h2, e2]
        exact ReadsAll.cons (as := []) (bs := []) (.int _ _) q2
mutual
theorem Ap.reads (hm : sysModules ∈ S) (I : Inv X pins σ H s) : ∀ (d : PyData) (v : V) (u : Value), Ap X.K S H v d → RelV v u → ∃ as, Reads s.heap u d as ∧ sysModules ∉ as
  | .none, _, _, h, r => by
    cases h
    cases r
    exact ⟨_, Reads.none, (fun z => nomatch z)⟩
  | .bool b, _, _, h, r => by
    cases h
    cases r
    exact ⟨_, Reads.bool b, (fun z => nomatch z)⟩
  | .int i, _, _, h, r => by
    cases h
    obtain ⟨t, rfl⟩ := r
    exact ⟨_, Reads.int i t, (fun z => nomatch z)⟩
  | .str x, _, _, h, r => by
    cases h
    obtain ⟨t, rfl⟩ := r
    exact ⟨_, Reads.str x t, (fun z => nomatch z)⟩
  | .list ds, _, _, h, r => by
    cases h with
    | lst ne hs ha =>
      cases r
      obtain ⟨its, rv, ⟨o, n, ho, hc, _, hd⟩, _⟩ := I.list (show SqL X.K H _ _ from .inl hs)
      obtain ⟨as, hr, no⟩ := Ap.readsAll hm I ds _ its ha rv
      refine ⟨_, Reads.list ho hc hd hr, fun z => ?_⟩
      rcases List.mem_cons.mp z with z | z
      · exact ne (z ▸ hm)
      · exact no z
  | .tuple ds, _, _, h, r => by
    cases h with
    | tup hs ha =>
      cases r
      obtain ⟨its, rv, ⟨o, ho, hc, n, hd⟩, _⟩ := I.tuple hs
      obtain ⟨as, hr, no⟩ := Ap.readsAll hm I ds _ its ha rv
      exact ⟨_, Reads.tuple ho hc hd hr, no⟩
  | .dict kvs, _, _, h, r => by
    generalize e : PyData.dict kvs = dd at h
    cases h with
    | non => cases e
    | bl => cases e
    | int => cases e
    | str => cases e
    | lst => cases e
    | tup => cases e
    | @dic a ps hd =>
      cases (PyData.dict.inj e)
      cases r
      obtain ⟨_, ne, vs, rel, o, es, ep, ho, hx, hdat, _, hp, _⟩ := dk_of I.hok hd
      obtain ⟨q1, q2⟩ := dic_reads (X := X) (h := s.heap) rel hp
      have e1 : (ps.map fun p => ((PyData.str p.1, PyData.int p.2) : PyData × PyData)).map (·.1) = ps.map fun p => PyData.str p.1 := by rw [List.map_map]; rfl
      have e2 : (ps.map fun p => ((PyData.str p.1, PyData.int p.2) : PyData × PyData)).map (·.2) = ps.map fun p => PyData.int p.2 := by rw [List.map_map]; rfl
      refine ⟨_, Reads.dict (as := []) (bs := []) ho hx.1 hdat (by rw [e1]; exact q1) (by rw [e2]; exact q2), fun z => ?_⟩
      rcases List.mem_cons.mp z with z | z
      · rw [← z] at ne
        cases ne
      · cases z
theorem Ap.readsAll (hm : sysModules ∈ S) (I : Inv X pins σ H s) : ∀ (ds : List PyData) (vs : List V) (us : List Value), ApAll X.K S H vs ds → Vals vs us → ∃ as, ReadsAll s.heap us ds as ∧ sysModules ∉ as
  | [], _, _, h, r => by
    cases h
    cases r
    exact ⟨_, ReadsAll.nil, (fun z => nomatch z)⟩
  | d :: ds, _, _, h, r => by
    cases h with
    | cons h1 h2 =>
      cases r with
      | cons r1 r2 =>
        obtain ⟨as, q1, n1⟩ := Ap.reads hm I d _ _ h1 r1
        obtain ⟨bs, q2, n2⟩ := Ap.readsAll hm I ds _ _ h2 r2
        refine ⟨_, ReadsAll.cons q1 q2, fun z => ?_⟩
        rcases List.mem_append.mp z with z | z
        · exact n1 z
        · exact n2 z
end
end
/-! what stays -/
section
variable {K : PySem.W.Frag} {H H' : Hp} {S : List Addr}
mutual
theorem Ap.keep (kl : ∀ a xs, a ∉ S → L2.Rd H a (.lst xs) → L2.Rd H' a (.lst xs)) (kt : ∀ a xs, SqT K H a xs → SqT K H' a xs) (kd : ∀ a ps, H a = some (.dK ps) → H' a = some (.dK ps)) : ∀ (d : PyData) (v : V), Ap K S H v d → Ap K S H' v d
  | .none, _, h => by cases h; exact .non
  | .bool b, _, h => by cases h; exact .bl b
  | .int i, _, h => by cases h; exact .int i
  | .str x, _, h => by cases h; exact .str x
  | .list ds, _, h => by
    cases h with
    | lst ne hs ha => exact .lst ne (kl _ _ ne hs) (ApAll.keep kl kt kd ds _ ha)
  | .tuple ds, _, h => by
    cases h with
    | tup hs ha => exact .tup (kt _ _ hs) (ApAll.keep kl kt kd ds _ ha)
  | .dict kvs, _, h => by
    generalize e : PyData.dict kvs = dd at h ⊢
    cases h with
    | non => cases e
    | bl => cases e
    | int => cases e
    | str => cases e
    | lst => cases e
    | tup => cases e
    | dic hd => exact .dic (kd _ _ hd)
theorem ApAll.keep (kl : ∀ a xs, a ∉ S → L2.Rd H a (.lst xs) → L2.Rd H' a (.lst xs)) (kt : ∀ a xs, SqT K H a xs → SqT K H' a xs) (kd : ∀ a ps, H a = some (.dK ps) → H' a = some (.dK ps)) : ∀ (ds : List PyData) (vs : List V), ApAll K S H vs ds → ApAll K S H' vs ds
  | [], _, h => by cases h; exact .nil
  | d :: ds, _, h => by
    cases h with
    | cons h1 h2 => exact .cons (Ap.keep kl kt kd d _ h1) (ApAll.keep kl kt kd ds _ h2)
end
theorem Ap.ex {v : V} {d : PyData} (h : Ap K S H v d) (e : Evl.Ex H H') : Ap K S H' v d := Ap.keep (fun _ _ _ z => Evl.ex_rd e z) (fun _ _ z => Evl.ex_t e z) (fun _ _ z => e _ _ z) d v h
theorem ApAll.ex {vs : List V} {ds : List PyData} (h : ApAll K S H vs ds) (e : Evl.Ex H H') : ApAll K S H' vs ds := ApAll.keep (fun _ _ _ z => Evl.ex_rd e z) (fun _ _ z => Evl.ex_t e z) (fun _ _ z => e _ _ z) ds vs h
theorem ApAll.length : ∀ {vs : List V} {ds : List PyData}, ApAll K S H vs ds → vs.length = ds.length
  | _, _, .nil => rfl
  | _, _, .cons _ r => congrArg Nat.succ r.length
theorem ApAll.at : ∀ {vs : List V} {ds : List PyData} {i : Nat} {v : V}, ApAll K S H vs ds → vs[i]? = some v → ∃ d, ds[i]? = some d ∧ Ap K S H v d
  | _, _, i, _, .nil, h => by simp at h
  | _, _, 0, _, .cons h1 _, h => by
    cases h
    exact ⟨_, rfl, h1⟩
  | _, _, i + 1, _, .cons _ h2, h => ApAll.at (i := i) h2 h
theorem ApAll.append : ∀ {vs ws : List V} {ds es : List PyData}, ApAll K S H vs ds → ApAll K S H ws es → ApAll K S H (vs ++ ws) (ds ++ es)
  | _, _, _, _, .nil, h => h
  | _, _, _, _, .cons h1 h2, h => .cons h1 (h2.append h)
mutual
theorem Tp.ap : ∀ (d : PyData) (v : V), Tp K H v d → Ap K S H v d
  | .none, _, h => by cases h; exact .non
  | .bool b, _, h => by cases h; exact .bl b
  | .int i, _, h => by cases h; exact .int i
  | .str x, _, h => by cases h; exact .str x
  | .list ds, _, h => by cases h
  | .tuple ds, _, h => by
    cases h with
    | tup hs ha => exact .tup hs (TpAll.ap ds _ ha)
  | .dict kvs, _, h => by cases h
theorem TpAll.ap : ∀ (ds : List PyData) (vs : List V), TpAll K H vs ds → ApAll K S H vs ds
  | [], _, h => by cases h; exact .nil
  | d :: ds, _, h => by
    cases h with
    | cons h1 h2 => exact .cons (Tp.ap d _ h1) (TpAll.ap ds _ h2)
end
end
/-! the deck's two lists apart -/
theorem Kp.rd {d c a : Addr} {H H' : Hp} {u : HO} (k : Kp d c H H') (n1 : a ≠ d) (n2 : a ≠ c) (hs : L2.Rd H a u) : L2.Rd H' a u := by
  rcases hs with h | ⟨o, h⟩
  · exact .inl (k _ _ h n1 n2)
  · exact .inr ⟨o, k _ _ h n1 n2⟩
theorem Kp.dic {d c a : Addr} {H H' : Hp} {N : Int} {ps : List (Key × V)} (k : Kp d c H H') (dk : Dk H d c N) (h : H a = some (.dK ps)) : H' a = some (.dK ps) := by
  obtain ⟨cs, n, h1, h2, _⟩ := dk
  refine k _ _ h (fun z => ?_) (fun z => ?_)
  · rw [z, h1] at h
    cases h
  · rw [z, h2] at h
    cases h
/-- addresses that lists of values keep away from: the table of modules, the deck's two lists, and others that stand already -/
structure Sok (H : Hp) (d c : Addr) (S : List Addr) : Prop where
  m : sysModules ∈ S
  d : d ∈ S
  c : c ∈ S
  old : ∀ a ∈ S, a = sysModules ∨ ∃ o, H a = some o
theorem Sok.kp {H H' : Hp} {d c : Addr} {S : List Addr} {N M : Int} (h : Sok H d c S) (k : Kp d c H H') (dk : Dk H' d c M) : Sok H' d c S := by
  refine ⟨h.m, h.d, h.c, fun a ha => ?_⟩
  obtain ⟨cs, n, h1, h2, _⟩ := dk
  by_cases e1 : a = d
  · subst e1
    exact .inr ⟨_, h1⟩
  by_cases e2 : a = c
  · subst e2
    exact .inr ⟨_, h2⟩
  rcases h.old a ha with e | ⟨o, e⟩
  · exact .inl e
  · exact .inr ⟨o, k _ _ e e1 e2⟩
theorem Sok.ex {H H' : Hp} {d c : Addr} {S : List Addr} (h : Sok H d c S) (e : Evl.Ex H H') : Sok H' d c S := ⟨h.m, h.d, h.c, fun a ha => by
  rcases h.old a ha with z | ⟨o, z⟩
  · exact .inl z
  · exact .inr ⟨o, e _ _ z⟩⟩
theorem Sok.new {H : Hp} {d c p : Addr} {S : List Addr} (h : Sok H d c S) (np : H p = none) (ns : p ≠ sysModules) : p ∉ S := fun z => by
  rcases h.old p z with e | ⟨o, e⟩
  · exact ns e
  · rw [np] at e
    cases e
theorem Ap.kp {K : PySem.W.Frag} {d c : Addr} {S : List Addr} {H H' : Hp} {N : Int} {v : V} {x : PyData} (h : Ap K S H v x) (ok : Sok H d c S) (k : Kp d c H H') (dk : Dk H d c N) : Ap K S H' v x :=
  Ap.keep (fun a _ n z => k.rd (fun e => n (e ▸ ok.d)) (fun e => n (e ▸ ok.c)) z) (fun _ _ z => k.sqT dk z) (fun _ _ z => k.dic dk z) x v h
theorem ApAll.kp {K : PySem.W.Frag} {d c : Addr} {S : List Addr} {H H' : Hp} {N : Int} {vs : List V} {xs : List PyData} (h : ApAll K S H vs xs) (ok : Sok H d c S) (k : Kp d c H H') (dk : Dk H d c N) : ApAll K S H' vs xs :=
  ApAll.keep (fun a _ n z => k.rd (fun e => n (e ▸ ok.d)) (fun e => n (e ▸ ok.c)) z) (fun _ _ z => k.sqT dk z) (fun _ _ z => k.dic dk z) xs vs h
/-! one more address that lists keep away from, because it was free -/
/-! an address of S may be forgotten -/
/-! repr, ==, != of any such value -/
/-! lists that stand apart from the table of modules -/
def tLstN (t : TA) : TE := fun σ H Q => t σ H fun xs H1 => xs.length ≤ sizeLine ∧ ∀ p, H1 p = none → p ≠ sysModules → Q (.ref p) (upd H1 p (.lst xs))
theorem pe_lstN {X : Cx} {es : List Expr} {t : TA} {pos : Pos} (h : PA X es t) : PE X (.List es pos) (tLstN t) := by
  refine ⟨fun pins s σ H Q I hq => ?_⟩
  refine wpAny_List_spliced (thn (h.run pos pins s σ H _ I hq) fun us s1 ⟨xs, H1, I1, r, z, q⟩ => ⟨by rw [← r.length]; exact z, ?_⟩)
  have hf : H1 s1.heap.objs.size = none := I1.hok.fresh (Nat.le_refl _)
  refine ⟨.ref s1.heap.objs.size, upd H1 s1.heap.objs.size (.lst xs), I1.laid (t' := s1.toks) (fun b u e => Heap.get?_push_of_some _ e) (Nat.le_refl _) ?_, rfl, q _ hf (Nat.ne_of_gt I1.big)⟩
  exact ⟨z, us, 0, r, Heap.get?_push_size _ rfl⟩
def rListN (K : PySem.W.Frag) : List V → Hp → VK → Prop := fun xs H Q => ∃ p ys, xs = [.ref p] ∧ (SqL K H p ys ∨ SqT K H p ys) ∧ ∀ l, H l = none → l ≠ sysModules → Q (.ref l) (upd H l (.lst ys))
theorem call_listN {X : Cx} : CallR X (.type "list") (rListN X.K) := by
  intro pins s σ H xs us Q I r h
  obtain ⟨p, ys, rfl, hq, q⟩ := h
  obtain ⟨u, rfl, rx⟩ := vals1 r
  cases rx
  have fin : ∀ (its : List Value), Vals ys its → ys.length ≤ sizeLine → ∀ (h' : Heap) (c' : Nat), (∀ b o', s.heap.get? b = some o' → h'.get? b = some o') →
      h'.get? s.heap.objs.size = some { cls := .type "list", dict := none, data := .seq its.toArray c', slots := #[] } → EP X pins σ Q (.ref s.heap.objs.size) { s with heap := h' } := fun its r' hz h' c' kp e =>
    ⟨.ref s.heap.objs.size, _, I.laid (t' := s.toks) kp (Nat.le_refl _) (show ObjOk X.prog X.w _ h' _ (.lst ys) from ⟨hz, its, c', r', e⟩), rfl, q _ (I.hok.fresh (Nat.le_refl _)) (Nat.ne_of_gt I.big)⟩
  rcases hq with hq | hq
  · obtain ⟨its, r', pl, hz⟩ := I.list hq
    have hlen := r'.length
    obtain ⟨o, ho, hc, n, hd⟩ := pl.isList
    exact call_list_seq p (.inl rfl) ho hc hd (fun h' c' kp e => fin its r' hz h' c' kp e) (by simp only [List.size_toArray] <;> omega)
  · obtain ⟨its, r', pl, hz⟩ := I.tuple hq
    have hlen := r'.length
    obtain ⟨o, ho, hc, n, hd⟩ := pl
    exact call_list_seq p (.inr rfl) ho hc hd (fun h' c' kp e => fin its r' hz h' c' kp e) (by simp only [List.size_toArray] <;> omega)
/-! the type of a value -/
def tyD : PyData → String
  | .none => "NoneType"
  | .bool _ => "bool"
  | .int _ => "int"
  | .str _ => "str"
  | .list _ => "list"
  | .tuple _ => "tuple"
  | .dict _ => "dict"
theorem Ap.ty {K : PySem.W.Frag} {S : List Addr} {H : Hp} {v : V} {d : PyData} (h : Ap K S H v d) : TyX K H v (.type (tyD d)) := by
  cases h with
  | non => exact .base .non
  | bl b => exact .base (.bl b)
  | int i => exact .base (.int i)
  | str x => exact .base (.str x)
  | lst ne hs _ =>
    rcases hs with hs | ⟨o, hs⟩
    · exact .base (.lst hs)
    · exact .base (.frz hs)
  | tup hs _ =>
    rcases hs with (hs | ⟨o, hs⟩) | ⟨o, its, n, h1, h2, _⟩
    · exact .base (.tup hs)
    · exact .fTuple hs
    · exact .kTuple h1 h2
  | dic hd => exact .base (.dK hd)
end Rb
/-! t[::-1], t a tuple that is not empty -/
namespace Rb
open PySem PySem.Spec PyProof.Rows L2 HT
/-! any value of a bounded size -/
def Av (K : PySem.W.Frag) (S : List Addr) (H : Hp) (k n : Nat) (v : V) : Prop := ∃ x, Ap K S H v x ∧ Nice k n x
def Avs (K : PySem.W.Frag) (S : List Addr) (H : Hp) (k n : Nat) (xs : List V) : Prop := ∀ v ∈ xs, Av K S H k n v
section
variable {K : PySem.W.Frag} {S S' : List Addr} {d c D : Addr} {H H' : Hp} {N : Int} {k n k' n' : Nat} {v : V} {xs ys : List V}
theorem Av.ex (h : Av K S H k n v) (e : Evl.Ex H H') : Av K S H' k n v := by
  obtain ⟨x, h1, h2⟩ := h
  exact ⟨x, h1.ex e, h2⟩
theorem Av.kp (h : Av K S H k n v) (ok : Sok H d c S) (e : Kp d c H H') (dk : Dk H d c N) : Av K S H' k n v := by
  obtain ⟨x, h1, h2⟩ := h
  exact ⟨x, h1.kp ok e dk, h2⟩
theorem Av.mono (h : Av K S H k n v) (h1 : k ≤ k') (h2 : n ≤ n') : Av K S H k' n' v := by
  obtain ⟨x, h3, h4⟩ := h
  exact ⟨x, h3, h4.mono h1 h2⟩
theorem Avs.ex (h : Avs K S H k n xs) (e : Evl.Ex H H') : Avs K S H' k n xs := fun v hv => (h v hv).ex e
theorem Avs.kp (h : Avs K S H k n xs) (ok : Sok H d c S) (e : Kp d c H H') (dk : Dk H d c N) : Avs K S H' k n xs := fun v hv => (h v hv).kp ok e dk
theorem Avs.mono (h : Avs K S H k n xs) (h1 : k ≤ k') (h2 : n ≤ n') : Avs K S H k' n' xs := fun v hv => (h v hv).mono h1 h2
theorem Avs.nil : Avs K S H k n [] := fun _ z => nomatch z
theorem Avs.cons (h1 : Av K S H k n v) (h : Avs K S H k n xs) : Avs K S H k n (v :: xs) := fun u hu => by
  rcases List.mem_cons.mp hu with rfl | hu
  · exact h1
  · exact h u hu
theorem Avs.append (h1 : Avs K S H k n xs) (h2 : Avs K S H k n ys) : Avs K S H k n (xs ++ ys) := fun u hu => by
  rcases List.mem_append.mp hu with hu | hu
  · exact h1 u hu
  · exact h2 u hu
theorem Avs.sub (h : Avs K S H k n xs) (hs : ∀ v ∈ ys, v ∈ xs) : Avs K S H k n ys := fun u hu => h u (hs u hu)
theorem Avs.data : ∀ {xs : List V}, Avs K S H k n xs → ∃ ds, ApAll K S H xs ds ∧ ∀ x ∈ ds, Nice k n x
  | [], _ => ⟨[], .nil, fun _ z => nomatch z⟩
  | v :: xs, h => by
    obtain ⟨x, h1, h2⟩ := h v List.mem_cons_self
    obtain ⟨ds, h3, h4⟩ := Avs.data fun u hu => h u (List.mem_cons_of_mem _ hu)
    refine ⟨x :: ds, .cons h1 h3, fun y hy => ?_⟩
    rcases List.mem_cons.mp hy with rfl | hy
    · exact h2
    · exact h4 y hy
theorem Av.tup {a : Addr} {m : Nat} (hs : SqT K H a xs) (h : Avs K S H k n xs) (hm : xs.length * (n + 1) ≤ m) : Av K S H (k + 1) m (.ref a) := by
  obtain ⟨ds, h1, h2⟩ := h.data
  exact ⟨_, .tup hs h1, Nice.tup h2 (by rw [← h1.length]; exact hm)⟩
theorem Av.lst {a : Addr} {m : Nat} (hn : a ∉ S) (hs : L2.Rd H a (.lst xs)) (h : Avs K S H k n xs) (hm : xs.length * (n + 1) ≤ m) : Av K S H (k + 1) m (.ref a) := by
  obtain ⟨ds, h1, h2⟩ := h.data
  exact ⟨_, .lst hn hs h1, Nice.lst h2 (by rw [← h1.length]; exact hm)⟩
theorem Av.int {i : Int} (h : i.natAbs < 10 ^ 99) : Av K S H k n (.int i) := ⟨_, .int i, (Nice.int h).mono (Nat.zero_le _) (Nat.zero_le _)⟩
theorem Av.bl {b : Bool} : Av K S H k n (.bl b) := ⟨_, .bl b, Nice.bool.mono (Nat.zero_le _) (Nat.zero_le _)⟩
theorem Avs.ints {ns : List Int} (h : ∀ i ∈ ns, i.natAbs < 10 ^ 99) : Avs K S H k n (ns.map V.int) := fun v hv => by
  obtain ⟨i, hi, rfl⟩ := List.mem_map.mp hv
  exact Av.int (h i hi)
end
/-! comprehensions over such values -/
end Rb
namespace Pu
open PySem PySem.Spec PyProof.Rows L2
/-! ## values without addresses (lst: k tells that the list is known to stand apart from the table of modules) -/
inductive D where
  | non | bl (b : Bool) | int (i : Int) | str (x : Str)
  | tup (xs : List D) | lst (k : Bool) (xs : List D) | dic (ps : List (Str × Int))
  | kls (xs : List D) | cell (n : Nat) | glo (x : Str) | ty (n : String)
  | ins (c : Str) (fs : List (Str × D))
  | exc (c : Str) (fs : List (Str × D))
instance : Inhabited D := ⟨.non⟩
/-- what stands in a cell -/
inductive Cl where
  | lst (xs : List D) | ins (c : Str) (fs : List (Str × D))
abbrev Sto := List Cl
abbrev Rho := List (Option D)
/-- the addresses of the cells; addresses that no value mentions -/
structure Mu where
  m : List Addr
  av : List Addr
/-- the row's written part and names -/
structure Ct where
  K : PySem.W.Frag
  mg : Str → Option Value
  hx : Addr → Option (Value × Option Addr)
/-- where no error is held -/
abbrev ct0 (K : PySem.W.Frag) (mg : Str → Option Value) : Ct := ⟨K, mg, fun _ => none⟩
section
variable (c : Ct) (μ : Mu) (H : Hp)
mutual
inductive Rp : V → D → Prop
  | non : Rp .non .non
  | bl (b : Bool) : Rp (.bl b) (.bl b)
  | int (i : Int) : Rp (.int i) (.int i)
  | str (x : Str) : Rp (.str x) (.str x)
  | tup {a : Addr} {vs : List V} {ds : List D} : H a = some (.tup vs) → RpAll vs ds → Rp (.ref a) (.tup ds)
  | lst {a : Addr} {k : Bool} {vs : List V} {ds : List D} : H a = some (.lst vs) → a ∉ μ.m → a ∉ μ.av → (k = true → a ≠ sysModules) → RpAll vs ds → Rp (.ref a) (.lst k ds)
  | kls {a : Addr} {vs : List V} {ds : List D} : L2.Rd H a (.lst vs) → a ∉ μ.m → a ∉ μ.av → RpAll vs ds → Rp (.ref a) (.kls ds)
  | klsK {a : Addr} {vs : List V} {ds : List D} (o : Obj) (its : Array Value) (n : Nat) : c.K.lookup a = some o → o.cls = .type "list" → o.dict = none → o.data = .seq its n → its.size ≤ sizeLine → Vals vs its.toList → RpAll vs ds → Rp (.ref a) (.kls ds)
  | dic {a : Addr} {ps : List (Str × Int)} : H a = some (.dK (Rb.dicV ps)) → a ∉ μ.m → a ∉ μ.av → Rp (.ref a) (.dic ps)
  | cell {n : Nat} {a : Addr} : μ.m[n]? = some a → Rp (.ref a) (.cell n)
  | glo {x : Str} {v : V} {u : Value} : c.mg x = some u → RelV v u → Rp v (.glo x)
  | ty (n : String) : Rp (.ty n) (.ty n)
  | ins {a C dx : Addr} {x : Str} {fv : List (Str × V)} {fs : List (Str × D)} : H a = some (.ins C dx fv) → a ∉ μ.m → a ∉ μ.av → c.mg x = some (.ref C) → RpFs fv fs → Rp (.ref a) (.ins x fs)
  | exc0 {a : Addr} {x : Str} {cls : Value} : c.hx a = some (cls, none) → c.mg x = some cls → Rp (.ref a) (.exc x [])
  | exc1 {a dx : Addr} {x : Str} {cls : Value} {fv : List (Str × V)} {fs : List (Str × D)} : c.hx a = some (cls, some dx) → c.mg x = some cls → H dx = some (.xd fv) → RpFs fv fs → Rp (.ref a) (.exc x fs)
inductive RpAll : List V → List D → Prop
  | nil : RpAll [] []
  | cons {v : V} {vs : List V} {d : D} {ds : List D} : Rp v d → RpAll vs ds → RpAll (v :: vs) (d :: ds)
inductive RpFs : List (Str × V) → List (Str × D) → Prop
  | nil : RpFs [] []
  | cons {f : Str} {v : V} {vs : List (Str × V)} {d : D} {ds : List (Str × D)} : Rp v d → RpFs vs ds → RpFs ((f, v) :: vs) ((f, d) :: ds)
end
end
/-! ## what stays -/
/-- from one state to a later one: cells may have changed, new ones may have come; all else is kept -/
structure Fw (μ : Mu) (H : Hp) (μ' : Mu) (H' : Hp) : Prop where
  pre : ∃ t, μ'.m = μ.m ++ t
  av : μ'.av = μ.av
  keep : ∀ a o, H a = some o → a ∉ μ.m → H' a = some o ∧ a ∉ μ'.m
theorem Fw.refl {μ : Mu} {H : Hp} : Fw μ H μ H := ⟨⟨[], by simp⟩, rfl, fun _ _ e n => ⟨e, n⟩⟩
theorem Fw.trans {μ μ1 μ2 : Mu} {H H1 H2 : Hp} (a : Fw μ H μ1 H1) (b : Fw μ1 H1 μ2 H2) : Fw μ H μ2 H2 := by
  obtain ⟨t, e⟩ := a.pre
  obtain ⟨u, e'⟩ := b.pre
  exact ⟨⟨t ++ u, by rw [e', e, List.append_assoc]⟩, b.av.trans a.av, fun x o e n => let ⟨h1, h2⟩ := a.keep x o e n; b.keep x o h1 h2⟩
theorem Fw.at {μ μ' : Mu} {H H' : Hp} (f : Fw μ H μ' H') {n : Nat} {a : Addr} (h : μ.m[n]? = some a) : μ'.m[n]? = some a := by
  obtain ⟨t, e⟩ := f.pre
  rw [e, List.getElem?_append_left (List.getElem?_eq_some_iff.mp h).1]
  exact h
theorem Fw.new {μ : Mu} {H : Hp} {p : Addr} {o : HO} (hp : H p = none) : Fw μ H μ (upd H p o) :=
  ⟨⟨[], by simp⟩, rfl, fun a u e n => ⟨by rw [upd_ne (ne_of_none e hp)]; exact e, n⟩⟩
/-- a new object that becomes a cell -/
theorem Fw.newC {μ : Mu} {H : Hp} {p : Addr} {o : HO} (hp : H p = none) : Fw μ H ⟨μ.m ++ [p], μ.av⟩ (upd H p o) :=
  ⟨⟨[p], rfl⟩, rfl, fun a u e n => ⟨by rw [upd_ne (ne_of_none e hp)]; exact e, fun z => by
    rcases List.mem_append.mp z with z | z
    · exact n z
    · exact ne_of_none e hp (List.mem_singleton.mp z)⟩⟩
/-- a cell is written -/
theorem Fw.write {μ : Mu} {H : Hp} {p : Addr} {o : HO} (hp : p ∈ μ.m) : Fw μ H μ (upd H p o) :=
  ⟨⟨[], by simp⟩, rfl, fun a u e n => ⟨by rw [upd_ne (fun z => n (by rw [z]; exact hp))]; exact e, n⟩⟩
section
variable {c : Ct} {μ μ' : Mu} {H H' : Hp}
/-- the general form: what a value leans on is kept -/
structure Kp (c : Ct) (μ : Mu) (H : Hp) (μ' : Mu) (H' : Hp) : Prop where
  t : ∀ a xs, H a = some (.tup xs) → H' a = some (.tup xs)
  l : ∀ a xs, L2.Rd H a (.lst xs) → a ∉ μ.m → a ∉ μ.av → L2.Rd H' a (.lst xs) ∧ a ∉ μ'.m ∧ a ∉ μ'.av
  m : ∀ a xs, H a = some (.lst xs) → a ∉ μ.m → a ∉ μ.av → H' a = some (.lst xs) ∧ a ∉ μ'.m ∧ a ∉ μ'.av
  d : ∀ a ps, H a = some (.dK ps) → a ∉ μ.m → a ∉ μ.av → H' a = some (.dK ps) ∧ a ∉ μ'.m ∧ a ∉ μ'.av
  i : ∀ a C dx fs, H a = some (.ins C dx fs) → a ∉ μ.m → a ∉ μ.av → H' a = some (.ins C dx fs) ∧ a ∉ μ'.m ∧ a ∉ μ'.av
  cl : ∀ (n : Nat) (a : Addr), μ.m[n]? = some a → μ'.m[n]? = some a
  x : ∀ a fv, H a = some (.xd fv) → H' a = some (.xd fv)
mutual
theorem Rp.kp (k : Kp c μ H μ' H') : ∀ {v : V} {d : D}, Rp c μ H v d → Rp c μ' H' v d
  | _, _, .non => .non
  | _, _, .bl b => .bl b
  | _, _, .int i => .int i
  | _, _, .str x => .str x
  | _, _, .tup h r => .tup (k.t _ _ h) (RpAll.kp k r)
  | _, _, .lst h n1 n2 n3 r => let ⟨a, b, d⟩ := k.m _ _ h n1 n2; .lst a b d n3 (RpAll.kp k r)
  | _, _, .kls h n1 n2 r => let ⟨a, b, d⟩ := k.l _ _ h n1 n2; .kls a b d (RpAll.kp k r)
  | _, _, .klsK o its n h1 h2 h3 h4 h5 h6 r => .klsK o its n h1 h2 h3 h4 h5 h6 (RpAll.kp k r)
  | _, _, .dic h n n2 => let ⟨a, b, d⟩ := k.d _ _ h n n2; .dic a b d
  | _, _, .cell h => .cell (k.cl _ _ h)
  | _, _, .glo h r => .glo h r
  | _, _, .ty n => .ty n
  | _, _, .ins h n n2 g r => let ⟨a, b, d⟩ := k.i _ _ _ _ h n n2; .ins a b d g (RpFs.kp k r)
  | _, _, .exc0 h g => .exc0 h g
  | _, _, .exc1 h g e r => .exc1 h g (k.x _ _ e) (RpFs.kp k r)
theorem RpAll.kp (k : Kp c μ H μ' H') : ∀ {vs : List V} {ds : List D}, RpAll c μ H vs ds → RpAll c μ' H' vs ds
  | _, _, .nil => .nil
  | _, _, .cons h r => .cons (Rp.kp k h) (RpAll.kp k r)
theorem RpFs.kp (k : Kp c μ H μ' H') : ∀ {vs : List (Str × V)} {ds : List (Str × D)}, RpFs c μ H vs ds → RpFs c μ' H' vs ds
  | _, _, .nil => .nil
  | _, _, .cons h r => .cons (Rp.kp k h) (RpFs.kp k r)
end
end
/-- a cell's object -/
def ClOk (c : Ct) (μ : Mu) (H : Hp) (a : Addr) : Cl → Prop
  | .lst ds => ∃ vs, H a = some (.lst vs) ∧ RpAll c μ H vs ds
  | .ins x fs => ∃ C dx fv, H a = some (.ins C dx fv) ∧ c.mg x = some (.ref C) ∧ RpFs c μ H fv fs
structure Wd (c : Ct) (μ : Mu) (S : Sto) (H : Hp) : Prop where
  nd : μ.m.Nodup
  len : μ.m.length = S.length
  ap : ∀ a ∈ μ.m, a ∉ μ.av
  avs : ∀ a ∈ μ.av, H a ≠ none
  ok : ∀ (i : Nat) (a : Addr) (x : Cl), μ.m[i]? = some a → S[i]? = some x → ClOk c μ H a x
theorem upd_some {H : Hp} {p a : Addr} {o : HO} (h : H a ≠ none) : upd H p o a ≠ none := by
  unfold upd
  split
  · exact fun z => nomatch z
  · exact h
theorem ClOk.there {c : Ct} {μ : Mu} {H : Hp} {a : Addr} : ∀ {x : Cl}, ClOk c μ H a x → ∃ o, H a = some o ∧ (∀ xs, o ≠ .tup xs) ∧ (∀ ob u, o ≠ .frz ob u) ∧ ∀ fv, o ≠ .xd fv
  | .lst _, ⟨_, h, _⟩ => ⟨_, h, (fun _ z => nomatch z), (fun _ _ z => nomatch z), fun _ z => nomatch z⟩
  | .ins _ _, ⟨_, _, _, h, _⟩ => ⟨_, h, (fun _ z => nomatch z), (fun _ _ z => nomatch z), fun _ z => nomatch z⟩
theorem Wd.there {c : Ct} {μ : Mu} {S : Sto} {H : Hp} (w : Wd c μ S H) {a : Addr} (h : a ∈ μ.m) : ∃ o, H a = some o ∧ (∀ xs, o ≠ .tup xs) ∧ (∀ ob u, o ≠ .frz ob u) ∧ ∀ fv, o ≠ .xd fv := by
  obtain ⟨i, hi, e⟩ := List.getElem_of_mem h
  have h1 : μ.m[i]? = some a := List.getElem?_eq_some_iff.mpr ⟨hi, e⟩
  have h2 : i < S.length := by rw [← w.len]; exact hi
  exact (w.ok i a S[i] h1 (List.getElem?_eq_getElem h2)).there
theorem Wd.fresh {c : Ct} {μ : Mu} {S : Sto} {H : Hp} (w : Wd c μ S H) {p : Addr} (hp : H p = none) : p ∉ μ.m := fun z => by
  obtain ⟨o, e, _⟩ := w.there z
  rw [hp] at e
  cases e
theorem Wd.tupK {c : Ct} {μ μ' : Mu} {S : Sto} {H H' : Hp} (w : Wd c μ S H) (f : Fw μ H μ' H') {a : Addr} {xs : List V} (e : H a = some (.tup xs)) : H' a = some (.tup xs) := by
  refine (f.keep a _ e fun z => ?_).1
  obtain ⟨o, e', n, _⟩ := w.there z
  rw [e] at e'
  exact n xs (Option.some.inj e').symm
theorem Wd.xdK {c : Ct} {μ μ' : Mu} {S : Sto} {H H' : Hp} (w : Wd c μ S H) (f : Fw μ H μ' H') {a : Addr} {fv : List (Str × V)} (e : H a = some (.xd fv)) : H' a = some (.xd fv) := by
  refine (f.keep a _ e fun z => ?_).1
  obtain ⟨o, e', _, _, n⟩ := w.there z
  rw [e] at e'
  exact n fv (Option.some.inj e').symm
theorem Wd.kp {c : Ct} {μ μ' : Mu} {S : Sto} {H H' : Hp} (w : Wd c μ S H) (f : Fw μ H μ' H') : Kp c μ H μ' H' where
  t := fun _ _ h => w.tupK f h
  l := fun a xs h n1 n2 => by
    rcases h with e | ⟨o, e⟩
    · exact ⟨.inl (f.keep a _ e n1).1, (f.keep a _ e n1).2, f.av ▸ n2⟩
    · exact ⟨.inr ⟨o, (f.keep a _ e n1).1⟩, (f.keep a _ e n1).2, f.av ▸ n2⟩
  m := fun a xs e n1 n2 => ⟨(f.keep a _ e n1).1, (f.keep a _ e n1).2, f.av ▸ n2⟩
  d := fun a ps e n1 n2 => ⟨(f.keep a _ e n1).1, (f.keep a _ e n1).2, f.av ▸ n2⟩
  i := fun a C dx fs e n1 n2 => ⟨(f.keep a _ e n1).1, (f.keep a _ e n1).2, f.av ▸ n2⟩
  cl := fun n a h => f.at h
  x := fun _ _ h => w.xdK f h
section
variable {c : Ct} {μ μ' : Mu} {S : Sto} {H H' : Hp} {v : V} {d : D} {vs : List V} {ds : List D}
theorem Rp.fw (r : Rp c μ H v d) (w : Wd c μ S H) (f : Fw μ H μ' H') : Rp c μ' H' v d := r.kp (w.kp f)
theorem RpAll.fw (r : RpAll c μ H vs ds) (w : Wd c μ S H) (f : Fw μ H μ' H') : RpAll c μ' H' vs ds := r.kp (w.kp f)
theorem ClOk.kp (k : Kp c μ H μ' H') {a : Addr} (g : ∀ o, H a = some o → H' a = some o) : ∀ {x : Cl}, ClOk c μ H a x → ClOk c μ' H' a x
  | .lst _, ⟨vs, h, r⟩ => ⟨vs, g _ h, r.kp k⟩
  | .ins _ _, ⟨C, dx, fv, h, e, r⟩ => ⟨C, dx, fv, g _ h, e, r.kp k⟩
/-- a new object that is no cell -/
theorem Wd.new (w : Wd c μ S H) {p : Addr} {o : HO} (hp : H p = none) : Wd c μ S (upd H p o) :=
  ⟨w.nd, w.len, w.ap, fun a h => upd_some (w.avs a h), fun i a x h1 h2 => ClOk.kp (w.kp (Fw.new hp)) (fun u e => by rw [upd_ne (ne_of_none e hp)]; exact e) (w.ok i a x h1 h2)⟩
theorem RpAll.length : ∀ {vs : List V} {ds : List D}, RpAll c μ H vs ds → vs.length = ds.length
  | _, _, .nil => rfl
  | _, _, .cons _ r => congrArg Nat.succ r.length
theorem RpAll.at : ∀ {vs : List V} {ds : List D} {i : Nat} {d : D}, RpAll c μ H vs ds → ds[i]? = some d → ∃ v, vs[i]? = some v ∧ Rp c μ H v d
  | _, _, i, _, .nil, h => by simp at h
  | _, _, 0, _, .cons h1 _, h => by cases h; exact ⟨_, rfl, h1⟩
  | _, _, i + 1, _, .cons _ h2, h => RpAll.at (i := i) h2 h
theorem RpAll.append : ∀ {vs ws : List V} {ds es : List D}, RpAll c μ H vs ds → RpAll c μ H ws es → RpAll c μ H (vs ++ ws) (ds ++ es)
  | _, _, _, _, .nil, h => h
  | _, _, _, _, .cons h1 h2, h => .cons h1 (h2.append h)
theorem RpAll.take : ∀ {vs : List V} {ds : List D} (n : Nat), RpAll c μ H vs ds → RpAll c μ H (vs.take n) (ds.take n)
  | _, _, 0, _ => .nil
  | _, _, _ + 1, .nil => .nil
  | _, _, n + 1, .cons h r => .cons h (RpAll.take n r)
theorem RpAll.drop : ∀ {vs : List V} {ds : List D} (n : Nat), RpAll c μ H vs ds → RpAll c μ H (vs.drop n) (ds.drop n)
  | _, _, 0, r => r
  | _, _, _ + 1, .nil => .nil
  | _, _, n + 1, .cons _ r => RpAll.drop n r
theorem RpAll.set {v : V} {d : D} (h : Rp c μ H v d) : ∀ {vs : List V} {ds : List D} (n : Nat), RpAll c μ H vs ds → RpAll c μ H (vs.set n v) (ds.set n d)
  | _, _, _, .nil => .nil
  | _, _, 0, .cons _ r => .cons h r
  | _, _, n + 1, .cons q r => .cons q (RpAll.set h n r)
theorem RpAll.erase : ∀ {vs : List V} {ds : List D} (n : Nat), RpAll c μ H vs ds → RpAll c μ H (vs.eraseIdx n) (ds.eraseIdx n)
  | _, _, _, .nil => .nil
  | _, _, 0, .cons _ r => r
  | _, _, n + 1, .cons q r => .cons q (RpAll.erase n r)
theorem RpAll.rep : ∀ (n : Nat), RpAll c μ H vs ds → RpAll c μ H (List.replicate n vs).flatten (List.replicate n ds).flatten
  | 0, _ => .nil
  | n + 1, r => by
    rw [List.replicate_succ, List.replicate_succ, List.flatten_cons, List.flatten_cons]
    exact r.append (RpAll.rep n r)
end
theorem ix_uniq {N : List Addr} (hN : N.Nodup) {i j : Nat} {x : Addr} (a : N[i]? = some x) (b : N[j]? = some x) : i = j := by
  obtain ⟨h1, e1⟩ := List.getElem?_eq_some_iff.mp a
  obtain ⟨h2, e2⟩ := List.getElem?_eq_some_iff.mp b
  exact (List.getElem_inj hN).mp (e1.trans e2.symm)
/-- one write to a cell -/
theorem Wd.set {c : Ct} {μ : Mu} {S : Sto} {H : Hp} (w : Wd c μ S H) {n : Nat} {a : Addr} {o : HO} {x : Cl} (h : μ.m[n]? = some a) (hx : ClOk c μ (upd H a o) a x) : Wd c μ (S.set n x) (upd H a o) := by
  have hm : a ∈ μ.m := List.mem_of_getElem? h
  refine ⟨w.nd, by rw [List.length_set]; exact w.len, w.ap, fun a h => upd_some (w.avs a h), fun i b y h1 h2 => ?_⟩
  by_cases hi : n = i
  · subst hi
    rw [h] at h1
    cases h1
    have : n < S.length := by rw [← w.len]; exact (List.getElem?_eq_some_iff.mp h).1
    rw [List.getElem?_set_self this] at h2
    cases h2
    exact hx
  · rw [List.getElem?_set_ne hi] at h2
    have ne : b ≠ a := fun z => by
      subst z
      exact hi (ix_uniq w.nd h h1)
    exact ClOk.kp (w.kp (Fw.write hm)) (fun u e => by rw [upd_ne ne]; exact e) (w.ok i b y h1 h2)
/-- a new cell -/
theorem Wd.newC {c : Ct} {μ : Mu} {S : Sto} {H : Hp} (w : Wd c μ S H) {p : Addr} {o : HO} {x : Cl} (hp : H p = none) (hx : ClOk c ⟨μ.m ++ [p], μ.av⟩ (upd H p o) p x) : Wd c ⟨μ.m ++ [p], μ.av⟩ (S ++ [x]) (upd H p o) := by
  have nm := w.fresh hp
  refine ⟨?_, by simp [w.len], fun a h => ?_, fun a h => upd_some (w.avs a h), fun i a y h1 h2 => ?_⟩
  · rw [List.nodup_append]
    exact ⟨w.nd, by simp, fun a ha b hb e => nm (by rw [List.mem_singleton.mp hb] at e; exact e ▸ ha)⟩
  · rcases List.mem_append.mp h with h | h
    · exact w.ap a h
    · rw [List.mem_singleton.mp h]; exact fun z => w.avs p z hp
  · have hl := w.len
    by_cases hi : i < μ.m.length
    · rw [List.getElem?_append_left hi] at h1
      rw [List.getElem?_append_left (by omega)] at h2
      exact ClOk.kp (w.kp (Fw.newC hp)) (fun u e => by rw [upd_ne (ne_of_none e hp)]; exact e) (w.ok i a y h1 h2)
    · have hi2 : i = μ.m.length := by
        have := (List.getElem?_eq_some_iff.mp h1).1
        simp at this
        omega
      subst hi2
      rw [List.getElem?_append_right (Nat.le_refl _), Nat.sub_self] at h1
      cases h1
      rw [List.getElem?_append_right (by omega), hl, Nat.sub_self] at h2
      cases h2
      exact hx
end Pu
namespace Pu
open PySem PySem.Spec PyProof.Rows L2
/-! ## meanings: what must hold so that a piece of code ends as wanted, over values without addresses -/
abbrev QD := D → Sto → Prop
/-- an error: its class, its fields -/
abbrev Er := Str × List (Str × D)
abbrev ED := Er → Sto → Prop
abbrev FX (α : Type) := Rho → Sto → (α → Sto → Prop) → ED → Prop
abbrev FE := FX D
abbrev FT := FX Bool
abbrev FA := FX (List D)
abbrev FO := FX (Option Int)
structure DEnds where
  nx : Rho → Sto → Prop
  rt : QD
  bk : Rho → Sto → Prop
  ct : Rho → Sto → Prop
abbrev FS := Rho → Sto → DEnds → ED → Prop
abbrev FG := D → Rho → Sto → (Rho → Sto → Prop) → ED → Prop
abbrev FGs := List D → Rho → Sto → (Rho → Sto → Prop) → ED → Prop
/-- a def -/
abbrev FF := List D → Sto → QD → ED → Prop
def hxOf (pn : List (Addr × Obj)) (a : Addr) : Option (Value × Option Addr) := match pn with
  | (b, o) :: _ => if b = a then some (o.cls, o.dict) else none
  | [] => none
def ct (X : Cx) : Ct := ⟨X.K, X.mg, if X.calm = true then fun _ => none else hxOf X.pn⟩
/-- what leaves by an error, whatever the slots -/
abbrev cE (E : XK) : L2.St → XK := fun _ => E
structure EnvR (c : Ct) (μ : Mu) (H : Hp) (σ : L2.St) (ρ : Rho) : Prop where
  len : σ.length = ρ.length
  ok : ∀ (i : Nat) (d : D), ρ[i]? = some (some d) → ∃ v, σ[i]? = some (some v) ∧ Rp c μ H v d
def RpX (c : Ct) (μ : Mu) (H : Hp) (cls : Value) (dx : Option Addr) (e : Er) : Prop :=
  c.mg e.1 = some cls ∧ match e.2 with
    | [] => dx = none
    | f :: fs => ∃ a fv, dx = some a ∧ H a = some (.xd fv) ∧ RpFs c μ H fv (f :: fs)
def PX (c : Ct) (μ : Mu) (H : Hp) (Ed : ED) (E : XK) : Prop := ∀ e S' cls dx H' μ', Ed e S' → Fw μ H μ' H' → Wd c μ' S' H' → RpX c μ' H' cls dx e → E cls dx H'
section
variable {c : Ct} {μ μ' : Mu} {S S' : Sto} {H H' : Hp} {σ : L2.St} {ρ : Rho} {Ed : ED} {E : XK}
theorem EnvR.fw (en : EnvR c μ H σ ρ) (w : Wd c μ S H) (f : Fw μ H μ' H') : EnvR c μ' H' σ ρ := ⟨en.len, fun i d h => let ⟨v, e, r⟩ := en.ok i d h; ⟨v, e, r.fw w f⟩⟩
theorem EnvR.kp (en : EnvR c μ H σ ρ) (k : Kp c μ H μ' H') : EnvR c μ' H' σ ρ := ⟨en.len, fun i d h => let ⟨v, e, r⟩ := en.ok i d h; ⟨v, e, r.kp k⟩⟩
theorem PX.fw (p : PX c μ H Ed E) (f : Fw μ H μ' H') : PX c μ' H' Ed E := fun e S' cls dx H2 μ2 h g w r => p e S' cls dx H2 μ2 h (f.trans g) w r
theorem EnvR.set (en : EnvR c μ H σ ρ) {i : Nat} {v : V} {d : D} (r : Rp c μ H v d) : EnvR c μ H (σ.set i (some v)) (ρ.set i (some d)) := by
  refine ⟨by rw [List.length_set, List.length_set]; exact en.len, fun j x h => ?_⟩
  by_cases e : i = j
  · subst e
    have hl : i < ρ.length := by
      have := (List.getElem?_eq_some_iff.mp h).1
      rwa [List.length_set] at this
    rw [List.getElem?_set_self hl] at h
    cases h
    exact ⟨v, by rw [List.getElem?_set_self (by rw [en.len]; exact hl)], r⟩
  · rw [List.getElem?_set_ne e] at h ⊢
    exact en.ok j x h
end
/-- the reading that a meaning gives -/
def tR {α β : Type} (c : Ct) (R : Mu → Hp → β → α → Prop) (E : L2.St → XK) (f : FX α) : L2.St → Hp → (β → Hp → Prop) → Prop := fun σ H Q =>
  ∃ μ S ρ Qd Ed, Wd c μ S H ∧ EnvR c μ H σ ρ ∧ f ρ S Qd Ed ∧ (∀ d S' v H' μ', Qd d S' → Fw μ H μ' H' → Wd c μ' S' H' → R μ' H' v d → Q v H') ∧ PX c μ H Ed (E σ)
theorem tR_of {α β : Type} {c : Ct} {R : Mu → Hp → β → α → Prop} {E : L2.St → XK} {f : FX α} {σ : L2.St} {H : Hp} {Q : β → Hp → Prop} {μ : Mu} {S : Sto} {ρ : Rho} {Qd : α → Sto → Prop} {Ed : ED}
    (w : Wd c μ S H) (en : EnvR c μ H σ ρ) (h : f ρ S Qd Ed) (px : PX c μ H Ed (E σ))
    (q : ∀ d S' v H' μ', Qd d S' → Fw μ H μ' H' → Wd c μ' S' H' → EnvR c μ' H' σ ρ → PX c μ' H' Ed (E σ) → R μ' H' v d → Q v H') : tR c R E f σ H Q :=
  ⟨μ, S, ρ, Qd, Ed, w, en, h, fun d S' v H' μ' h1 h2 h3 h4 => q d S' v H' μ' h1 h2 h3 (en.fw w h2) (px.fw h2) h4, px⟩
def rEqB {α : Type} : Mu → Hp → α → α → Prop := fun _ _ a b => a = b
abbrev tD (c : Ct) (E : L2.St → XK) (f : FE) : TE := tR c (Rp c) E f
abbrev tT (c : Ct) (E : L2.St → XK) (f : FT) : TT := tR c rEqB E f
abbrev tAr (c : Ct) (E : L2.St → XK) (f : FA) : TA := tR c (RpAll c) E f
abbrev tOp' (c : Ct) (E : L2.St → XK) (f : FO) : TO := tR c rEqB E f
abbrev PEd (X : Cx) (E : L2.St → XK) (e : Expr) (f : FE) : Prop := PE X e (tD (ct X) E f)
abbrev PTd (X : Cx) (E : L2.St → XK) (e : Expr) (f : FT) : Prop := PT X e (tT (ct X) E f)
abbrev PWd (X : Cx) (E : L2.St → XK) (e : Expr) (f : FT) : Prop := PW X e (tT (ct X) E f)
abbrev PAd (X : Cx) (E : L2.St → XK) (es : List Expr) (f : FA) : Prop := PA X es (tAr (ct X) E f)
abbrev POd (X : Cx) (E : L2.St → XK) (e : Option Expr) (f : FO) : Prop := PO X e (tOp' (ct X) E f)
section
variable {X : Cx}
theorem PE.imp {e : Expr} {t t' : TE} (h : PE X e t) (k : ∀ σ H Q, t' σ H Q → t σ H Q) : PE X e t' := ⟨fun pins s σ H Q I q => h.run pins s σ H Q I (k σ H Q q)⟩
theorem PT.imp {e : Expr} {t t' : TT} (h : PT X e t) (k : ∀ σ H Q, t' σ H Q → t σ H Q) : PT X e t' := ⟨fun pins s σ H Q I q => h.run pins s σ H Q I (k σ H Q q)⟩
theorem PW.imp {e : Expr} {t t' : TT} (h : PW X e t) (k : ∀ σ H Q, t' σ H Q → t σ H Q) : PW X e t' := ⟨fun wh pins s σ H Q I q => h.run wh pins s σ H Q I (k σ H Q q)⟩
theorem PA.imp {e : List Expr} {t t' : TA} (h : PA X e t) (k : ∀ σ H Q, t' σ H Q → t σ H Q) : PA X e t' := ⟨fun p pins s σ H Q I q => h.run p pins s σ H Q I (k σ H Q q)⟩
theorem PO.imp {e : Option Expr} {t t' : TO} (h : PO X e t) (k : ∀ σ H Q, t' σ H Q → t σ H Q) : PO X e t' := ⟨fun pins s σ H Q I q => h.run pins s σ H Q I (k σ H Q q)⟩
theorem PS.imp {e : Stmt} {t t' : TS} (h : PS X e t) (k : ∀ D σ H, t' D σ H → t D σ H) : PS X e t' := ⟨fun pins s σ H D I q => h.run pins s σ H D I (k D σ H q)⟩
theorem PSs.imp {e : List Stmt} {t t' : TS} (h : PSs X e t) (k : ∀ D σ H, t' D σ H → t D σ H) : PSs X e t' := ⟨fun pins s σ H D I q => h.run pins s σ H D I (k D σ H q)⟩
theorem PG.imp {e : Expr} {t t' : TG} (h : PG X e t) (k : ∀ v σ H Q, t' v σ H Q → t v σ H Q) : PG X e t' := ⟨fun pins s σ H v u Q I r q => h.run pins s σ H v u Q I r (k v σ H Q q)⟩
end
/-! ### names, constants -/
def getV : Rho → Nat → Option D
  | [], _ => none
  | x :: _, 0 => x
  | _ :: r, n + 1 => getV r n
theorem getV_some : ∀ {ρ : Rho} {i : Nat} {d : D}, getV ρ i = some d → ρ[i]? = some (some d)
  | [], _, _, h => by cases h
  | _ :: _, 0, _, h => by
    rw [List.getElem?_cons_zero]
    exact congrArg some h
  | _ :: r, n + 1, _, h => by
    rw [List.getElem?_cons_succ]
    exact getV_some (ρ := r) h
def onSome {α : Type} (o : Option α) (k : α → Prop) : Prop := match o with | some a => k a | none => False
theorem onSome_of {α : Type} {o : Option α} {k : α → Prop} (h : onSome o k) : ∃ a, o = some a ∧ k a := by
  cases o with
  | none => exact h.elim
  | some a => exact ⟨a, rfl, h⟩
def dVar (i : Nat) : FE := fun ρ S Q _ => onSome (getV ρ i) fun d => Q d S
def dC {α : Type} (d : α) : FX α := fun _ S Q _ => Q d S
section
variable {X : Cx} {E : L2.St → XK} {pos : Pos}
theorem d_var {i : Nat} {e : Expr} (h : PE X e (tVar i)) : PEd X E e (dVar i) := by
  refine PE.imp h fun σ H Q ⟨μ, S, ρ, Qd, Ed, w, en, hf, q, px⟩ => ?_
  obtain ⟨d, e1, hd⟩ := onSome_of hf
  obtain ⟨v, e2, r⟩ := en.ok i d (getV_some e1)
  exact ⟨v, e2, q d S v H μ hd Fw.refl w r⟩
theorem d_const {v : V} {d : D} {e : Expr} (h : PE X e (tC v)) (r : ∀ μ H, Rp (ct X) μ H v d) : PEd X E e (dC d) :=
  PE.imp h fun σ H Q ⟨μ, S, ρ, Qd, Ed, w, en, hf, q, px⟩ => q d S v H μ hf Fw.refl w (r μ H)
theorem d_int {i j} : PEd X E (.Constant (.int i) j pos) (dC (.int i)) := d_const pe_int fun _ _ => .int i
theorem d_bl {b j} : PEd X E (.Constant (.bool b) j pos) (dC (.bl b)) := d_const pe_bl fun _ _ => .bl b
theorem d_non {j} : PEd X E (.Constant .none j pos) (dC .non) := d_const pe_non fun _ _ => .non
theorem d_str {x j} : PEd X E (.Constant (.str x) j pos) (dC (.str x)) := d_const pe_str fun _ _ => .str x
/-- a module's int -/
theorem d_gint {x : Str} {i : Int} {t : Tok} (hg : Gl X x) (hm : X.mg x = some (.int i t)) (hd : (x == ("__debug__" : Str)) = false := by decide) : PEd X E (.Name x pos) (dC (.int i)) :=
  d_const (pe_glob hg hm (show RelV (V.int i) _ from ⟨_, rfl⟩) hd) fun _ _ => .int i
theorem d_gstr {x : Str} {z : Str} {t : Tok} (hg : Gl X x) (hm : X.mg x = some (.str z t)) (hd : (x == ("__debug__" : Str)) = false := by decide) : PEd X E (.Name x pos) (dC (.str z)) :=
  d_const (pe_glob hg hm (show RelV (V.str z) _ from ⟨_, rfl⟩) hd) fun _ _ => .str z
end
/-! ### argument lists -/
def dNil : FA := fun _ S Q _ => Q [] S
def dCons (f : FE) (g : FA) : FA := fun ρ S Q Ed => f ρ S (fun x S1 => g ρ S1 (fun xs S2 => Q (x :: xs) S2) Ed) Ed
section
variable {X : Cx} {E : L2.St → XK} {pos : Pos} {a b e : Expr} {es : List Expr} {fa fb : FE} {fs : FA}
theorem d_nil : PAd X E [] dNil := PA.imp pa_nil fun σ H Q ⟨μ, S, ρ, Qd, Ed, w, en, hf, q, px⟩ => q [] S [] H μ hf Fw.refl w .nil
theorem d_cons (ha : PEd X E e fa) (hr : PAd X E es fs) (hs : starEach (e :: es) X.env = (false, eval e X.env) :: starEach es X.env := by rfl) : PAd X E (e :: es) (dCons fa fs) := by
  refine PA.imp (pa_cons ha hr hs) fun σ H Q ⟨μ, S, ρ, Qd, Ed, w, en, hf, q, px⟩ => ?_
  refine tR_of w en hf px fun x S1 v H1 μ1 h1 f1 w1 en1 px1 r1 => ?_
  refine tR_of w1 en1 h1 px1 fun xs S2 vs H2 μ2 h2 f2 w2 en2 px2 r2 => ?_
  exact q _ S2 _ H2 μ2 h2 (f1.trans f2) w2 (.cons (r1.fw w1 f2) r2)
/-! ### operators by values -/
abbrev G2 := D → D → Sto → QD → Prop
def PostV (c : Ct) (μ : Mu) (H : Hp) (Qd : QD) (Q : VK) : Prop := ∀ d S' v H' μ', Qd d S' → Fw μ H μ' H' → Wd c μ' S' H' → Rp c μ' H' v d → Q v H'
def rD2 (c : Ct) (g : G2) : R2 := fun x y H Q => ∃ μ S dx dy Qd, Wd c μ S H ∧ Rp c μ H x dx ∧ Rp c μ H y dy ∧ g dx dy S Qd ∧ PostV c μ H Qd Q
def rD1 (c : Ct) (g : D → Sto → QD → Prop) : V → Hp → VK → Prop := fun x H Q => ∃ μ S dx Qd, Wd c μ S H ∧ Rp c μ H x dx ∧ g dx S Qd ∧ PostV c μ H Qd Q
def rDs (c : Ct) (g : List D → Sto → QD → Prop) : List V → Hp → VK → Prop := fun xs H Q => ∃ μ S ds Qd, Wd c μ S H ∧ RpAll c μ H xs ds ∧ g ds S Qd ∧ PostV c μ H Qd Q
def rDm (c : Ct) (g : D → List D → Sto → QD → Prop) : V → List V → Hp → VK → Prop := fun x xs H Q => ∃ μ S d ds Qd, Wd c μ S H ∧ Rp c μ H x d ∧ RpAll c μ H xs ds ∧ g d ds S Qd ∧ PostV c μ H Qd Q
def dBin (g : G2) (fa fb : FE) : FE := fun ρ S Q Ed => fa ρ S (fun x S1 => fb ρ S1 (fun y S2 => g x y S2 Q) Ed) Ed
def dUn (g : D → Sto → QD → Prop) (fa : FE) : FE := fun ρ S Q Ed => fa ρ S (fun x S1 => g x S1 Q) Ed
def dB (g : List D → Sto → QD → Prop) (fa : FA) : FE := fun ρ S Q Ed => fa ρ S (fun ds S1 => g ds S1 Q) Ed
theorem tBin {g : G2} {σ : L2.St} {H : Hp} {Q : VK} {c : Ct} (h : tD c E (dBin g fa fb) σ H Q) : tOp (rD2 c g) (tD c E fa) (tD c E fb) σ H Q := by
  obtain ⟨μ, S, ρ, Qd, Ed, w, en, hf, q, px⟩ := h
  refine tR_of w en hf px fun x S1 v H1 μ1 h1 f1 w1 en1 px1 r1 => ?_
  refine tR_of w1 en1 h1 px1 fun y S2 u H2 μ2 h2 f2 w2 en2 px2 r2 => ?_
  exact ⟨μ2, S2, x, y, Qd, w2, r1.fw w1 f2, r2, h2, fun d S' v' H' μ' h f w' r => q d S' v' H' μ' h (f1.trans (f2.trans f)) w' r⟩
theorem d_bin {op : Operator} {g : G2} (ho : OpR X (binaryOp op) (rD2 (ct X) g)) (ha : PEd X E a fa) (hb : PEd X E b fb) : PEd X E (.BinOp a op b pos) (dBin g fa fb) :=
  PE.imp (pe_op ho ha hb) fun _ _ _ h => tBin h
theorem d_un {op : UnaryOp} {g : D → Sto → QD → Prop} (ho : UnR X (unaryOp op) (rD1 (ct X) g)) (ha : PEd X E a fa) : PEd X E (.UnaryOp op a pos) (dUn g fa) := by
  refine PE.imp (pe_un ho ha) fun σ H Q ⟨μ, S, ρ, Qd, Ed, w, en, hf, q, px⟩ => ?_
  refine tR_of w en hf px fun x S1 v H1 μ1 h1 f1 w1 en1 px1 r1 => ?_
  exact ⟨μ1, S1, x, Qd, w1, r1, h1, fun d S' v' H' μ' h f w' r => q d S' v' H' μ' h (f1.trans f) w' r⟩
theorem d_cmp {op : CmpOp} {g : G2} (ho : OpR X (compareOp op) (rD2 (ct X) g)) (ha : PEd X E a fa) (hb : PEd X E b fb) (hm : behindInMarks op b = false) : PEd X E (.Compare a [op] [b] pos) (dBin g fa fb) :=
  PE.imp (pe_cmpR ho ha hb hm) fun _ _ _ h => tBin h
/-- a bool's test -/
def onBl (d : D) (k : Bool → Prop) : Prop := match d with | .bl b => k b | _ => False
theorem onBl_of {d : D} {k : Bool → Prop} (h : onBl d k) : ∃ b, d = .bl b ∧ k b := by
  cases d with
  | bl b => exact ⟨b, rfl, h⟩
  | _ => exact h.elim
def dTest (f : FE) : FT := fun ρ S Q Ed => f ρ S (fun d S1 => onBl d fun b => Q b S1) Ed
theorem Rp.bl_inv {c : Ct} {μ : Mu} {H : Hp} {v : V} {b : Bool} (h : Rp c μ H v (.bl b)) : v = .bl b := by cases h; rfl
theorem tTest_of {f : FE} {σ : L2.St} {H : Hp} {Q : Bool → Hp → Prop} {c : Ct} (h : tT c E (dTest f) σ H Q) : tD c E f σ H (fun x H' => ∃ k, x = .bl k ∧ Q k H') := by
  obtain ⟨μ, S, ρ, Qd, Ed, w, en, hf, q, px⟩ := h
  refine tR_of w en hf px fun x S1 v H1 μ1 h1 f1 w1 en1 px1 r1 => ?_
  obtain ⟨b, rfl, hb⟩ := onBl_of h1
  exact ⟨b, r1.bl_inv, q b S1 b H1 μ1 hb f1 w1 rfl⟩
theorem d_tcmp {op : CmpOp} {g : G2} (ho : OpR X (compareOp op) (rD2 (ct X) g)) (ha : PEd X E a fa) (hb : PEd X E b fb) (hm : behindInMarks op b = false) : PTd X E (.Compare a [op] [b] pos) (dTest (dBin g fa fb)) := by
  refine PT.imp (pt_cmpR ho ha hb hm) fun σ H Q h => ?_
  obtain ⟨μ, S, ρ, Qd, Ed, w, en, hf, q, px⟩ := h
  show tOp _ _ _ σ H _
  refine tBin ⟨μ, S, ρ, _, Ed, w, en, hf, fun d S' v H' μ' h1 f1 w1 r1 => ?_, px⟩
  obtain ⟨b, rfl, hb⟩ := onBl_of h1
  exact ⟨b, r1.bl_inv, q b S' b H' μ' hb f1 w1 rfl⟩
/-- an expression that is a bool, as a test -/
theorem d_tval {f : FE} (h : PEd X E e f) (he : ∀ whole, isTrue e X.env whole = (do let v ← whole; standAt e.pos; holding [v] (truthy v)) := by intro _; rfl) : PTd X E e (dTest f) :=
  PT.imp (pt_val h he) fun _ _ _ h => tTest_of h
end
/-! ### and, or, not, if -/
def dAnd (f g : FT) : FT := fun ρ S Q Ed => f ρ S (fun b S1 => if b = true then g ρ S1 Q Ed else Q false S1) Ed
def dOr (f g : FT) : FT := fun ρ S Q Ed => f ρ S (fun b S1 => if b = true then Q true S1 else g ρ S1 Q Ed) Ed
def dNot (f : FT) : FT := fun ρ S Q Ed => f ρ S (fun b S1 => Q (!b) S1) Ed
def dAndV (f g : FE) : FE := fun ρ S Q Ed => f ρ S (fun d S1 => onBl d fun b => if b = true then g ρ S1 Q Ed else Q (.bl false) S1) Ed
def dNotV (f : FE) : FE := fun ρ S Q Ed => f ρ S (fun d S1 => onBl d fun b => Q (.bl (!b)) S1) Ed
def dIf {α : Type} (t : FT) (f g : FX α) : FX α := fun ρ S Q Ed => t ρ S (fun b S1 => if b = true then f ρ S1 Q Ed else g ρ S1 Q Ed) Ed
section
variable {X : Cx} {E : L2.St → XK} {pos : Pos} {a b c e : Expr} {rest : List Expr} {f g : FT} {fa fb : FE}
theorem d_and1 (ha : PTd X E a f) : PWd X E (.BoolOp .And [a] pos) f := pw_and1 ha
theorem d_or1 (ha : PTd X E a f) : PWd X E (.BoolOp .Or [a] pos) f := pw_or1 ha
theorem d_and (ha : PTd X E a f) (hb : PWd X E (.BoolOp .And (b :: rest) pos) g) : PWd X E (.BoolOp .And (a :: b :: rest) pos) (dAnd f g) := by
  refine PW.imp (pw_and ha hb) fun σ H Q ⟨μ, S, ρ, Qd, Ed, w, en, hf, q, px⟩ => ?_
  refine tR_of w en hf px fun x S1 v H1 μ1 h1 f1 w1 en1 px1 r1 => ?_
  cases (r1 : v = x)
  split
  · rename_i hv
    rw [if_pos hv] at h1
    exact tR_of w1 en1 h1 px1 fun y S2 u H2 μ2 h2 f2 w2 en2 px2 r2 => q y S2 u H2 μ2 h2 (f1.trans f2) w2 r2
  · rename_i hv
    rw [if_neg hv] at h1
    exact q false S1 false H1 μ1 h1 f1 w1 rfl
theorem d_or (ha : PTd X E a f) (hb : PWd X E (.BoolOp .Or (b :: rest) pos) g) : PWd X E (.BoolOp .Or (a :: b :: rest) pos) (dOr f g) := by
  refine PW.imp (pw_or ha hb) fun σ H Q ⟨μ, S, ρ, Qd, Ed, w, en, hf, q, px⟩ => ?_
  refine tR_of w en hf px fun x S1 v H1 μ1 h1 f1 w1 en1 px1 r1 => ?_
  cases (r1 : v = x)
  split
  · rename_i hv
    rw [if_pos hv] at h1
    exact q true S1 true H1 μ1 h1 f1 w1 rfl
  · rename_i hv
    rw [if_neg hv] at h1
    exact tR_of w1 en1 h1 px1 fun y S2 u H2 μ2 h2 f2 w2 en2 px2 r2 => q y S2 u H2 μ2 h2 (f1.trans f2) w2 r2
theorem d_not (ha : PTd X E a f) : PTd X E (.UnaryOp .Not a pos) (dNot f) := by
  refine PT.imp (pt_not ha) fun σ H Q ⟨μ, S, ρ, Qd, Ed, w, en, hf, q, px⟩ => ?_
  refine tR_of w en hf px fun x S1 v H1 μ1 h1 f1 w1 en1 px1 r1 => ?_
  cases (r1 : v = x)
  exact q _ S1 _ H1 μ1 h1 f1 w1 rfl
theorem d_one {op} (h : PEd X E a fa) : PEd X E (.BoolOp op [a] pos) fa := pe_one h
theorem d_andV (ha : PEd X E a fa) (hb : PEd X E (.BoolOp .And (b :: rest) pos) fb) : PEd X E (.BoolOp .And (a :: b :: rest) pos) (dAndV fa fb) := by
  refine PE.imp (pe_and ha hb) fun σ H Q ⟨μ, S, ρ, Qd, Ed, w, en, hf, q, px⟩ => ?_
  refine tR_of w en hf px fun x S1 v H1 μ1 h1 f1 w1 en1 px1 r1 => ?_
  obtain ⟨k, rfl, hk⟩ := onBl_of h1
  refine ⟨k, r1.bl_inv, ?_⟩
  split
  · rename_i hv
    rw [if_pos hv] at hk
    exact tR_of w1 en1 hk px1 fun y S2 u H2 μ2 h2 f2 w2 en2 px2 r2 => q y S2 u H2 μ2 h2 (f1.trans f2) w2 r2
  · rename_i hv
    rw [if_neg hv] at hk
    exact q _ S1 _ H1 μ1 hk f1 w1 (.bl false)
theorem d_notV (ha : PEd X E a fa) : PEd X E (.UnaryOp .Not a pos) (dNotV fa) := by
  refine PE.imp (pe_not ha) fun σ H Q ⟨μ, S, ρ, Qd, Ed, w, en, hf, q, px⟩ => ?_
  refine tR_of w en hf px fun x S1 v H1 μ1 h1 f1 w1 en1 px1 r1 => ?_
  obtain ⟨k, rfl, hk⟩ := onBl_of h1
  exact ⟨k, r1.bl_inv, q _ S1 _ H1 μ1 hk f1 w1 (.bl _)⟩
theorem d_ifE (ht : PTd X E c f) (ha : PEd X E a fa) (hb : PEd X E b fb) : PEd X E (.IfExp c a b pos) (dIf f fa fb) := by
  refine PE.imp (pe_ifExp ht ha hb) fun σ H Q ⟨μ, S, ρ, Qd, Ed, w, en, hf, q, px⟩ => ?_
  refine tR_of w en hf px fun x S1 v H1 μ1 h1 f1 w1 en1 px1 r1 => ?_
  cases (r1 : v = x)
  split
  · rename_i hv
    rw [if_pos hv] at h1
    exact tR_of w1 en1 h1 px1 fun y S2 u H2 μ2 h2 f2 w2 en2 px2 r2 => q y S2 u H2 μ2 h2 (f1.trans f2) w2 r2
  · rename_i hv
    rw [if_neg hv] at h1
    exact tR_of w1 en1 h1 px1 fun y S2 u H2 μ2 h2 f2 w2 en2 px2 r2 => q y S2 u H2 μ2 h2 (f1.trans f2) w2 r2
end
/-! ### two comparisons in a row -/
def dChain (g g' : G2) (fa fb fc : FE) : FE := fun ρ S Q Ed => fa ρ S (fun x S1 => fb ρ S1 (fun y S2 => g x y S2 fun z S3 => onBl z fun k => if k = true then fc ρ S3 (fun u S4 => g' y u S4 Q) Ed else Q (.bl false) S3) Ed) Ed
section
variable {X : Cx} {E : L2.St → XK} {pos : Pos} {a b c : Expr} {fa fb fc : FE} {op op' : CmpOp} {g g' : G2}
theorem tChain_of {σ : L2.St} {H : Hp} {Q : VK} {x : Ct} (h : tD x E (dChain g g' fa fb fc) σ H Q) : tChain (rD2 x g) (rD2 x g') (tD x E fa) (tD x E fb) (tD x E fc) σ H Q := by
  obtain ⟨μ, S, ρ, Qd, Ed, w, en, hf, q, px⟩ := h
  refine tR_of w en hf px fun x S1 v H1 μ1 h1 f1 w1 en1 px1 r1 => ?_
  refine tR_of w1 en1 h1 px1 fun y S2 u H2 μ2 h2 f2 w2 en2 px2 r2 => ?_
  refine ⟨μ2, S2, x, y, _, w2, r1.fw w1 f2, r2, h2, fun d S' v' H3 μ3 h f3 w3 r3 => ?_⟩
  obtain ⟨k, rfl, hk⟩ := onBl_of h
  refine ⟨k, r3.bl_inv, ?_⟩
  split
  · rename_i hv
    rw [if_pos hv] at hk
    refine tR_of w3 (en2.fw w2 f3) hk (px2.fw f3) fun z S4 vz H4 μ4 h4 f4 w4 en4 px4 r4 => ?_
    exact ⟨μ4, S4, y, z, Qd, w4, (r2.fw w2 f3).fw w3 f4, r4, h4, fun d S' v' H' μ' h f w' r => q d S' v' H' μ' h (f1.trans (f2.trans (f3.trans (f4.trans f)))) w' r⟩
  · rename_i hv
    rw [if_neg hv] at hk
    exact q _ _ _ _ _ hk (f1.trans (f2.trans f3)) w3 (.bl false)
theorem d_chain (ho : OpR X (compareOp op) (rD2 (ct X) g)) (ho' : OpR X (compareOp op') (rD2 (ct X) g')) (ha : PEd X E a fa) (hb : PEd X E b fb) (hc : PEd X E c fc)
    (hm : lastMarks [op, op'] [b, c] = false := by with_unfolding_all rfl) : PEd X E (.Compare a [op, op'] [b, c] pos) (dChain g g' fa fb fc) :=
  PE.imp (pe_chain ho ho' ha hb hc hm) fun _ _ _ h => tChain_of h
theorem d_tchain (ho : OpR X (compareOp op) (rD2 (ct X) g)) (ho' : OpR X (compareOp op') (rD2 (ct X) g')) (ha : PEd X E a fa) (hb : PEd X E b fb) (hc : PEd X E c fc)
    (hm : lastMarks [op, op'] [b, c] = false := by with_unfolding_all rfl) : PTd X E (.Compare a [op, op'] [b, c] pos) (dTest (dChain g g' fa fb fc)) := by
  refine PT.imp (pt_chain ho ho' ha hb hc hm) fun σ H Q h => ?_
  obtain ⟨μ, S, ρ, Qd, Ed, w, en, hf, q, px⟩ := h
  refine tChain_of ⟨μ, S, ρ, _, Ed, w, en, hf, fun d S' v H' μ' h1 f1 w1 r1 => ?_, px⟩
  obtain ⟨b, rfl, hb⟩ := onBl_of h1
  exact ⟨b, r1.bl_inv, q b S' b H' μ' hb f1 w1 rfl⟩
end
end Pu
namespace Pu
open PySem PySem.Spec PyProof.Rows L2
/-! ## reading data -/
def lstAt : Option Cl → Option (List D)
  | some (.lst xs) => some xs
  | _ => none
theorem lstAt_inv {o : Option Cl} {xs : List D} (h : lstAt o = some xs) : o = some (.lst xs) := by
  cases o with
  | none => cases h
  | some x =>
    cases x with
    | lst ys => cases h; rfl
    | ins _ _ => cases h
def seqOf (S : Sto) : D → Option (List D)
  | .tup xs => some xs
  | .lst _ xs => some xs
  | .kls xs => some xs
  | .cell n => lstAt S[n]?
  | _ => none
def lstOf (S : Sto) : D → Option (List D)
  | .lst _ xs => some xs
  | .cell n => lstAt S[n]?
  | _ => none
def cellOf (S : Sto) : D → Option (Nat × List D)
  | .cell n => (lstAt S[n]?).map ((n, ·))
  | _ => none
section
variable {c : Ct} {μ μ' : Mu} {S : Sto} {H H' : Hp} {v : V} {d : D} {xs : List D}
theorem Wd.atCell (w : Wd c μ S H) {n : Nat} {x : Cl} (h : S[n]? = some x) : ∃ a, μ.m[n]? = some a ∧ ClOk c μ H a x := by
  have h1 : n < μ.m.length := by rw [w.len]; exact (List.getElem?_eq_some_iff.mp h).1
  exact ⟨μ.m[n], List.getElem?_eq_getElem h1, w.ok n _ x (List.getElem?_eq_getElem h1) h⟩
theorem cellOf_inv {n : Nat} (e : cellOf S d = some (n, xs)) : d = .cell n ∧ S[n]? = some (.lst xs) := by
  cases d with
  | cell k =>
    obtain ⟨ys, h, e2⟩ := Option.map_eq_some_iff.mp (show (lstAt S[k]?).map ((k, ·)) = some (n, xs) from e)
    cases e2
    exact ⟨rfl, lstAt_inv h⟩
  | _ => cases e
theorem Wd.cellL (w : Wd c μ S H) (r : Rp c μ H v d) {n : Nat} (e : cellOf S d = some (n, xs)) : ∃ a vs, v = .ref a ∧ μ.m[n]? = some a ∧ H a = some (.lst vs) ∧ RpAll c μ H vs xs := by
  obtain ⟨rfl, h⟩ := cellOf_inv e
  cases r with
  | cell hm =>
    obtain ⟨vs, h1, h2⟩ := w.ok n _ _ hm h
    exact ⟨_, vs, rfl, hm, h1, h2⟩
theorem Rp.lstT (w : Wd c μ S H) (r : Rp c μ H v d) (e : lstOf S d = some xs) : ∃ a vs, v = .ref a ∧ H a = some (.lst vs) ∧ RpAll c μ H vs xs := by
  cases r with
  | lst h _ _ _ ra => cases e; exact ⟨_, _, rfl, h, ra⟩
  | @cell n a hm =>
    obtain ⟨vs, h1, h2⟩ := w.ok n _ _ hm (lstAt_inv e)
    exact ⟨_, vs, rfl, h1, h2⟩
  | _ => cases e
theorem Rp.seq (w : Wd c μ S H) (r : Rp c μ H v d) (e : seqOf S d = some xs) : ∃ a vs, v = .ref a ∧ (SqL c.K H a vs ∨ SqT c.K H a vs) ∧ RpAll c μ H vs xs := by
  cases r with
  | tup h ra => cases e; exact ⟨_, _, rfl, .inr (SqT.of h), ra⟩
  | lst h _ _ _ ra => cases e; exact ⟨_, _, rfl, .inl (SqL.of h), ra⟩
  | kls h _ _ ra => cases e; exact ⟨_, _, rfl, .inl (.inl h), ra⟩
  | klsK o its n h1 h2 h3 h4 h5 h6 ra => cases e; exact ⟨_, _, rfl, .inl (.inr ⟨o, its, n, h1, h2, h3, h4, h5, h6⟩), ra⟩
  | @cell n a hm =>
    obtain ⟨vs, h1, h2⟩ := w.ok n _ _ hm (lstAt_inv e)
    exact ⟨_, vs, rfl, .inl (SqL.of h1), h2⟩
  | _ => cases e
/-! what a new object is worth -/
theorem PostV.tup {Qd : QD} {Q : VK} (q : PostV c μ H Qd Q) (w : Wd c μ S H) {vs : List V} {ds : List D} (r : RpAll c μ H vs ds) (h : Qd (.tup ds) S) {p : Addr} (hp : H p = none) : Q (.ref p) (upd H p (.tup vs)) :=
  q _ S _ _ μ h (Fw.new hp) (w.new hp) (.tup upd_same (r.fw w (Fw.new hp)))
theorem Wd.newL (w : Wd c μ S H) {vs : List V} {ds : List D} (r : RpAll c μ H vs ds) {p : Addr} (hp : H p = none) {k : Bool} (hk : k = true → p ≠ sysModules) : Rp c μ (upd H p (.lst vs)) (.ref p) (.lst k ds) :=
  .lst upd_same (w.fresh hp) (fun z => w.avs p z hp) hk (r.fw w (Fw.new hp))
theorem PostV.lst {Qd : QD} {Q : VK} (q : PostV c μ H Qd Q) (w : Wd c μ S H) {vs : List V} {ds : List D} (r : RpAll c μ H vs ds) (h : Qd (.lst false ds) S) {p : Addr} (hp : H p = none) : Q (.ref p) (upd H p (.lst vs)) :=
  q _ S _ _ μ h (Fw.new hp) (w.new hp) (w.newL r hp fun z => nomatch z)
theorem PostV.lstN {Qd : QD} {Q : VK} (q : PostV c μ H Qd Q) (w : Wd c μ S H) {vs : List V} {ds : List D} (r : RpAll c μ H vs ds) (h : Qd (.lst true ds) S) {p : Addr} (hp : H p = none) (hs : p ≠ sysModules) : Q (.ref p) (upd H p (.lst vs)) :=
  q _ S _ _ μ h (Fw.new hp) (w.new hp) (w.newL r hp fun _ => hs)
theorem PostV.same {Qd : QD} {Q : VK} (q : PostV c μ H Qd Q) (w : Wd c μ S H) (r : Rp c μ H v d) (h : Qd d S) : Q v H := q _ S _ _ μ h Fw.refl w r
/-- a cell is written, a value given back -/
theorem PostV.cell {Qd : QD} {Q : VK} (q : PostV c μ H Qd Q) (w : Wd c μ S H) {n : Nat} {a : Addr} {vs : List V} {ds : List D} (hm : μ.m[n]? = some a) (r : RpAll c μ H vs ds) (rv : Rp c μ H v d) (h : Qd d (S.set n (.lst ds))) : Q v (upd H a (.lst vs)) := by
  have f : Fw μ H μ (upd H a (.lst vs)) := Fw.write (List.mem_of_getElem? hm)
  exact q _ _ _ _ μ h f (w.set hm ⟨vs, upd_same, r.fw w f⟩) (rv.fw w f)
end
/-! ints -/
def intsOf : List D → Option (List Int)
  | [] => some []
  | .int i :: r => (intsOf r).map (i :: ·)
  | _ :: _ => none
theorem intsOf_map (ns : List Int) : intsOf (ns.map D.int) = some ns := by
  induction ns with
  | nil => rfl
  | cons n ns ih => show (intsOf (ns.map D.int)).map (n :: ·) = _; rw [ih]; rfl
theorem intsOf_inv : ∀ {ds : List D} {ns : List Int}, intsOf ds = some ns → ds = ns.map D.int
  | [], ns, h => by cases h; rfl
  | .int i :: r, ns, h => by
    obtain ⟨ms, e, rfl⟩ := Option.map_eq_some_iff.mp (show (intsOf r).map (i :: ·) = some ns from h)
    rw [intsOf_inv e]
    rfl
  | .non :: _, _, h => by cases h
  | .bl _ :: _, _, h => by cases h
  | .str _ :: _, _, h => by cases h
  | .tup _ :: _, _, h => by cases h
  | .lst _ _ :: _, _, h => by cases h
  | .dic _ :: _, _, h => by cases h
  | .kls _ :: _, _, h => by cases h
  | .cell _ :: _, _, h => by cases h
  | .glo _ :: _, _, h => by cases h
  | .ty _ :: _, _, h => by cases h
  | .ins _ _ :: _, _, h => by cases h
  | .exc _ _ :: _, _, h => by cases h
section
variable {c : Ct} {μ : Mu} {H : Hp}
theorem RpAll.ints : ∀ {vs : List V} {ns : List Int}, RpAll c μ H vs (ns.map D.int) → vs = ns.map V.int
  | _, [], h => by cases h; rfl
  | _, n :: ns, h => by
    cases h with
    | cons h1 h2 =>
      cases h1
      rw [RpAll.ints h2]
      rfl
theorem RpAll.ofInts : ∀ (ns : List Int), RpAll c μ H (ns.map V.int) (ns.map D.int)
  | [] => .nil
  | n :: ns => .cons (.int n) (RpAll.ofInts ns)
end
/-! ## displays -/
def dTup (f : FA) : FE := fun ρ S Q Ed => f ρ S (fun ds S1 => ds.length ≤ sizeLine ∧ Q (.tup ds) S1) Ed
def dLst (f : FA) : FE := fun ρ S Q Ed => f ρ S (fun ds S1 => ds.length ≤ sizeLine ∧ Q (.lst true ds) S1) Ed
/-- a list that will be changed -/
def dLstC (f : FA) : FE := fun ρ S Q Ed => f ρ S (fun ds S1 => ds.length ≤ sizeLine ∧ Q (.cell S1.length) (S1 ++ [.lst ds])) Ed
section
variable {X : Cx} {E : L2.St → XK} {pos : Pos} {es : List Expr} {fa : FA}
theorem d_tup {x1} (h : PAd X E es fa) : PEd X E (.Tuple es x1 pos) (dTup fa) := by
  refine PE.imp (pe_tup h) fun σ H Q ⟨μ, S, ρ, Qd, Ed, w, en, hf, q, px⟩ => ?_
  refine tR_of w en hf px fun ds S1 vs H1 μ1 h1 f1 w1 en1 px1 r1 => ⟨by rw [r1.length]; exact h1.1, fun p hp => ?_⟩
  exact PostV.tup (fun d S' v H' μ' h f w' r => q d S' v H' μ' h (f1.trans f) w' r) w1 r1 h1.2 hp
theorem d_lst (h : PAd X E es fa) : PEd X E (.List es pos) (dLst fa) := by
  refine PE.imp (Rb.pe_lstN h) fun σ H Q ⟨μ, S, ρ, Qd, Ed, w, en, hf, q, px⟩ => ?_
  refine tR_of w en hf px fun ds S1 vs H1 μ1 h1 f1 w1 en1 px1 r1 => ⟨by rw [r1.length]; exact h1.1, fun p hp hs => ?_⟩
  exact PostV.lstN (fun d S' v H' μ' h f w' r => q d S' v H' μ' h (f1.trans f) w' r) w1 r1 h1.2 hp hs
theorem Wd.lay {c : Ct} {μ : Mu} {S : Sto} {H : Hp} (w : Wd c μ S H) {vs : List V} {ds : List D} (r : RpAll c μ H vs ds) {p : Addr} (hp : H p = none) :
    Fw μ H ⟨μ.m ++ [p], μ.av⟩ (upd H p (.lst vs)) ∧ Wd c ⟨μ.m ++ [p], μ.av⟩ (S ++ [.lst ds]) (upd H p (.lst vs)) ∧ Rp c ⟨μ.m ++ [p], μ.av⟩ (upd H p (.lst vs)) (.ref p) (.cell S.length) := by
  have f : Fw μ H ⟨μ.m ++ [p], μ.av⟩ (upd H p (.lst vs)) := Fw.newC hp
  refine ⟨f, w.newC hp ⟨vs, upd_same, r.fw w f⟩, .cell ?_⟩
  show (μ.m ++ [p])[S.length]? = some p
  rw [← w.len, List.getElem?_append_right (Nat.le_refl _), Nat.sub_self]
  rfl
theorem d_lstC (h : PAd X E es fa) : PEd X E (.List es pos) (dLstC fa) := by
  refine PE.imp (pe_lst h) fun σ H Q ⟨μ, S, ρ, Qd, Ed, w, en, hf, q, px⟩ => ?_
  refine tR_of w en hf px fun ds S1 vs H1 μ1 h1 f1 w1 en1 px1 r1 => ⟨by rw [r1.length]; exact h1.1, fun p hp => ?_⟩
  obtain ⟨f2, w2, r2⟩ := w1.lay r1 hp
  exact q _ _ _ _ _ h1.2 (f1.trans f2) w2 r2
end
/-! ## built-ins that make a new list: as a value, as a cell -/
section
variable {X : Cx} {E : L2.St → XK} {e : Expr} {es : List Expr} {fa : FA} {id : String} {x : Str} {pos p2 : Pos}
theorem d_callB {g : List D → Sto → QD → Prop} (hc : CallR X (.builtin id) (rDs (ct X) g)) (hg : Gl X x) (hm : X.mg x = none) (hv : bootBuiltins x = some (.builtin id)) (ha : PAd X E (e :: es) fa) (hn : x ≠ "__name__" := by decide) (hdb : (x == ("__debug__" : Str)) = false := by decide)
    (hs : starEach (e :: es) X.env = (false, eval e X.env) :: starEach es X.env := by rfl) (hf2 : (backTo pos (starEach es X.env)).any (·.1) = false := by rfl) : PEd X E (.Call (.Name x p2) (e :: es) [] pos) (dB g fa) := by
  refine PE.imp (pe_callB hc hg hm hv ha hn hdb hs hf2) fun σ H Q ⟨μ, S, ρ, Qd, Ed, w, en, hf, q, px⟩ => ?_
  refine tR_of w en hf px fun ds S1 vs H1 μ1 h1 f1 w1 en1 px1 r1 => ?_
  exact ⟨μ1, S1, ds, Qd, w1, r1, h1, fun d S' v H' μ' h f w' r => q d S' v H' μ' h (f1.trans f) w' r⟩
theorem d_callT {T : String} {g : List D → Sto → QD → Prop} (hc : CallR X (.type T) (rDs (ct X) g)) (hg : Gl X x) (hm : X.mg x = none) (hv : bootBuiltins x = some (.type T)) (ha : PAd X E (e :: es) fa) (hn : x ≠ "__name__" := by decide) (hdb : (x == ("__debug__" : Str)) = false := by decide)
    (hs : starEach (e :: es) X.env = (false, eval e X.env) :: starEach es X.env := by rfl) (hf2 : (backTo pos (starEach es X.env)).any (·.1) = false := by rfl) : PEd X E (.Call (.Name x p2) (e :: es) [] pos) (dB g fa) := by
  refine PE.imp (pe_callTy hc hg hm hv ha hn hdb hs hf2) fun σ H Q ⟨μ, S, ρ, Qd, Ed, w, en, hf, q, px⟩ => ?_
  refine tR_of w en hf px fun ds S1 vs H1 μ1 h1 f1 w1 en1 px1 r1 => ?_
  exact ⟨μ1, S1, ds, Qd, w1, r1, h1, fun d S' v H' μ' h f w' r => q d S' v H' μ' h (f1.trans f) w' r⟩
end
end Pu
namespace Pu
open PySem PySem.Spec PyProof.Rows L2
/-! ## arithmetic -/
def gInt (f : Int → Int → D) (C : Int → Int → Prop) : G2 := fun x y S Q => match x, y with
  | .int i, .int j => C i j ∧ Q (f i j) S
  | _, _ => False
def gInt0 (f : Int → Int → D) : G2 := fun x y S Q => match x, y with
  | .int i, .int j => Q (f i j) S
  | _, _ => False
theorem gInt_inv {f : Int → Int → D} {C : Int → Int → Prop} {x y : D} {S : Sto} {Q : QD} (h : gInt f C x y S Q) : ∃ i j, x = .int i ∧ y = .int j ∧ C i j ∧ Q (f i j) S := by
  unfold gInt at h
  split at h
  · exact ⟨_, _, rfl, rfl, h⟩
  · exact h.elim
theorem gInt0_inv {f : Int → Int → D} {x y : D} {S : Sto} {Q : QD} (h : gInt0 f x y S Q) : ∃ i j, x = .int i ∧ y = .int j ∧ Q (f i j) S := by
  unfold gInt0 at h
  split at h
  · exact ⟨_, _, rfl, rfl, h⟩
  · exact h.elim
section
variable {c : Ct} {μ : Mu} {H : Hp} {v : V}
theorem Rp.int_inv {i : Int} (h : Rp c μ H v (.int i)) : v = .int i := by cases h; rfl
theorem Rp.str_inv {x : Str} (h : Rp c μ H v (.str x)) : v = .str x := by cases h; rfl
theorem Rp.tup_inv {ds : List D} (h : Rp c μ H v (.tup ds)) : ∃ a vs, v = .ref a ∧ H a = some (.tup vs) ∧ RpAll c μ H vs ds := by
  cases h with
  | tup h r => exact ⟨_, _, rfl, h, r⟩
end
section
variable {X : Cx}
theorem opInt {f : Value → Value → Sem Value} {C : Int → Int → Prop} {g : Int → Int → Int} (h : OpR X f (rI C fun i j => .int (g i j))) : OpR X f (rD2 (ct X) (gInt (fun i j => .int (g i j)) C)) := by
  intro pins s σ H x y v u Q I rx ry ⟨μ, S, dx, dy, Qd, w, r1, r2, hg, q⟩
  obtain ⟨i, j, rfl, rfl, hC, hq⟩ := gInt_inv hg
  exact h pins s σ H x y v u Q I rx ry ⟨i, j, r1.int_inv, r2.int_inv, hC, q.same w (.int _) hq⟩
theorem opInt0 {f : Value → Value → Sem Value} {g : Int → Int → Int} (h : OpR X f (rI0 fun i j => .int (g i j))) : OpR X f (rD2 (ct X) (gInt0 (fun i j => .int (g i j)))) := by
  intro pins s σ H x y v u Q I rx ry ⟨μ, S, dx, dy, Qd, w, r1, r2, hg, q⟩
  obtain ⟨i, j, rfl, rfl, hq⟩ := gInt0_inv hg
  exact h pins s σ H x y v u Q I rx ry ⟨i, j, r1.int_inv, r2.int_inv, q.same w (.int _) hq⟩
theorem opBl0 {f : Value → Value → Sem Value} {g : Int → Int → Bool} (h : OpR X f (rI0 fun i j => .bl (g i j))) : OpR X f (rD2 (ct X) (gInt0 (fun i j => .bl (g i j)))) := by
  intro pins s σ H x y v u Q I rx ry ⟨μ, S, dx, dy, Qd, w, r1, r2, hg, q⟩
  obtain ⟨i, j, rfl, rfl, hq⟩ := gInt0_inv hg
  exact h pins s σ H x y v u Q I rx ry ⟨i, j, r1.int_inv, r2.int_inv, q.same w (.bl _) hq⟩
end
abbrev gSub : G2 := gInt0 fun i j => .int (i - j)
abbrev gFdiv : G2 := gInt (fun i j => .int (i / j)) CDivW
abbrev gMod : G2 := gInt (fun i j => .int (i % j)) fun _ j => 0 < j
abbrev gPow : G2 := gInt (fun i j => .int (i ^ j.toNat)) CPow
abbrev gLt : G2 := gInt0 fun i j => .bl (decide (i < j))
abbrev gLe : G2 := gInt0 fun i j => .bl (decide (i ≤ j))
abbrev gGt : G2 := gInt0 fun i j => .bl (decide (j < i))
abbrev gGe : G2 := gInt0 fun i j => .bl (decide (j ≤ i))
section
variable {X : Cx}
theorem o_sub : OpR X (binaryOp .Sub) (rD2 (ct X) gSub) := opInt0 op_sub
theorem o_fdiv : OpR X (binaryOp .FloorDiv) (rD2 (ct X) gFdiv) := opInt op_fdivW
theorem o_mod : OpR X (binaryOp .Mod) (rD2 (ct X) gMod) := opInt op_mod
theorem o_pow : OpR X (binaryOp .Pow) (rD2 (ct X) gPow) := opInt op_pow
theorem o_le : OpR X (compareOp .LtE) (rD2 (ct X) gLe) := opBl0 op_le
theorem o_gt : OpR X (compareOp .Gt) (rD2 (ct X) gGt) := opBl0 op_gt
theorem o_ge : OpR X (compareOp .GtE) (rD2 (ct X) gGe) := opBl0 op_ge
end
def gNeg : D → Sto → QD → Prop := fun x S Q => match x with
  | .int i => Q (.int (-i)) S
  | _ => False
def gAdd : G2 := fun x y S Q => match x, y with
  | .int i, .int j => Q (.int (i + j)) S
  | .tup xs, .tup ys => xs.length + ys.length ≤ sizeLine ∧ Q (.tup (xs ++ ys)) S
  | .str a, .str b => a.length + b.length ≤ sizeLine ∧ Q (.str (a ++ b)) S
  | x, y => onSome (lstOf S x) fun xs => onSome (lstOf S y) fun ys => xs.length + ys.length ≤ sizeLine ∧ Q (.lst false (xs ++ ys)) S
def gMul : G2 := fun x y S Q => match x, y with
  | .int i, .int j => (CMul i j ∨ CMulW i j) ∧ Q (.int (i * j)) S
  | .tup xs, .int k => (xs ≠ [] ∧ 1 ≤ k ∧ k ≤ 1000 ∧ xs.length ≤ 1000) ∧ Q (.tup (List.replicate k.toNat xs).flatten) S
  | x, .int k => onSome (lstOf S x) fun xs => (-(2 ^ 63) ≤ k ∧ k < 2 ^ 63 ∧ xs.length * k.toNat ≤ sizeLine) ∧ Q (.lst false (List.replicate k.toNat xs).flatten) S
  | _, _ => False
section
variable {X : Cx}
theorem u_neg : UnR X (unaryOp .USub) (rD1 (ct X) gNeg) := by
  intro pins s σ H x v Q I rx ⟨μ, S, dx, Qd, w, r1, hg, q⟩
  unfold gNeg at hg
  split at hg
  · exact un_neg pins s σ H x v Q I rx ⟨_, r1.int_inv, q.same w (.int _) hg⟩
  · exact hg.elim
theorem o_add : OpR X (binaryOp .Add) (rD2 (ct X) gAdd) := by
  intro pins s σ H x y v u Q I rx ry ⟨μ, S, dx, dy, Qd, w, r1, r2, hg, q⟩
  unfold gAdd at hg
  split at hg
  · exact op_add pins s σ H x y v u Q I rx ry ⟨_, _, r1.int_inv, r2.int_inv, q.same w (.int _) hg⟩
  · rename_i xs ys
    obtain ⟨a, vs, rfl, ha, ra⟩ := r1.tup_inv
    obtain ⟨b, ws, rfl, hb, rb⟩ := r2.tup_inv
    refine op_catA pins s σ H _ _ v u Q I rx ry ⟨a, b, vs, ws, rfl, rfl, SqT.of ha, SqT.of hb, by rw [ra.length, rb.length]; exact hg.1, fun e => ?_, fun _ e => ?_, fun _ _ p hp => ?_⟩
    · subst e
      cases ra
      exact q.same w (.tup hb rb) hg.2
    · subst e
      cases rb
      have h2 := hg.2
      rw [List.append_nil] at h2
      exact q.same w (.tup ha ra) h2
    · exact q.tup w (ra.append rb) hg.2 hp
  · exact op_add_str pins s σ H x y v u Q I rx ry ⟨_, _, r1.str_inv, r2.str_inv, hg.1, q.same w (.str _) hg.2⟩
  · obtain ⟨xs, e1, hg⟩ := onSome_of hg
    obtain ⟨ys, e2, hg⟩ := onSome_of hg
    obtain ⟨a, vs, rfl, ha, ra⟩ := r1.lstT w e1
    obtain ⟨b, ws, rfl, hb, rb⟩ := r2.lstT w e2
    exact op_cat pins s σ H _ _ v u Q I rx ry ⟨a, b, vs, ws, rfl, rfl, ha, hb, by rw [ra.length, rb.length]; exact hg.1, fun p hp => q.lst w (ra.append rb) hg.2 hp⟩
open Rb in
theorem op_rep1 : OpR X (binaryOp .Mult) (fun x y H Q => ∃ (l : Addr) (xs : List V), x = .ref l ∧ y = .int 1 ∧ SqT X.K H l xs ∧ Q (.ref l) H) := by
  intro pins s σ H x y v u Q I rx ry h
  obtain ⟨l, xs, rfl, rfl, hT, q⟩ := h
  cases rx
  obtain ⟨t, rfl⟩ := ry
  obtain ⟨its, r, ⟨⟨cls, dd, data, sl⟩, ho, hc, n, hd⟩, hs⟩ := I.tuple hT
  simp only at hc hd
  subst hc hd
  refine wpAny_binaryOp_repeat_ref (T := "tuple") (U := "int") (by decide) ⟨_, ho, rfl⟩ (fun s' => typeIs_int s' 1 t) noFill_tuple_mul F.fills_int_mul F.slot_int_rmul repeat_tuple F.slot_int_index.lookup
    (call_meets F.slot_int_rmul (typeIs_int s 1 t) F.entry_int_rmul (F.args_int_rmul_2 _ _) (int_rmul_tuple 1 t l its.toArray n dd sl)
      ⟨ho, rfl, ⟨_, ho, rfl⟩, call_meets F.slot_tuple_mul ⟨_, ho, rfl⟩ F.entry_tuple_mul (F.args_tuple_mul_2 _ _) (tupMul1 l its.toArray n dd sl t) ⟨ho, ?_⟩⟩)
  exact ⟨.ref l, H, I, rfl, q⟩
theorem o_mul : OpR X (binaryOp .Mult) (rD2 (ct X) gMul) := by
  intro pins s σ H x y v u Q I rx ry ⟨μ, S, dx, dy, Qd, w, r1, r2, hg, q⟩
  unfold gMul at hg
  split at hg
  · rcases hg.1 with hc | hc
    · exact op_mul pins s σ H x y v u Q I rx ry ⟨_, _, r1.int_inv, r2.int_inv, hc, q.same w (.int _) hg.2⟩
    · exact op_mulW pins s σ H x y v u Q I rx ry ⟨_, _, r1.int_inv, r2.int_inv, hc, q.same w (.int _) hg.2⟩
  · rename_i xs k
    obtain ⟨a, vs, rfl, ha, ra⟩ := r1.tup_inv
    obtain ⟨⟨ne, h1, h2, h3⟩, hq⟩ := hg
    have nv : vs ≠ [] := fun e => by
      subst e
      cases ra
      exact ne rfl
    by_cases hk : k = 1
    · subst hk
      refine op_rep1 pins s σ H _ _ v u Q I rx ry ⟨a, vs, rfl, r2.int_inv, SqT.of ha, ?_⟩
      have e : (List.replicate (1 : Int).toNat xs).flatten = xs := by show (List.replicate 1 xs).flatten = xs; simp
      rw [e] at hq
      exact q.same w (.tup ha ra) hq
    · refine op_repT pins s σ H _ _ v u Q I rx ry ⟨a, k, vs, rfl, r2.int_inv, SqT.of ha, nv, by omega, h2, by rw [ra.length]; exact h3, fun p hp => q.tup w (ra.rep _) hq hp⟩
  · rename_i k _ _
    obtain ⟨xs, e1, hg⟩ := onSome_of hg
    obtain ⟨a, vs, rfl, ha, ra⟩ := r1.lstT w e1
    exact op_rep pins s σ H _ _ v u Q I rx ry ⟨a, k, vs, rfl, r2.int_inv, ha, hg.1.1, hg.1.2.1, by rw [ra.length]; exact hg.1.2.2, fun p hp => q.lst w (ra.rep _) hg.2 hp⟩
  · exact hg.elim
end
end Pu
namespace Pu
open PySem PySem.Spec PyProof.Rows L2
/-! ## plain data -/
mutual
def toPy : D → Option PyData
  | .non => some .none
  | .bl b => some (.bool b)
  | .int i => some (.int i)
  | .str x => some (.str x)
  | .tup xs => (toPyAll xs).map .tuple
  | .lst _ xs => (toPyAll xs).map .list
  | .kls _ => none
  | .dic ps => some (Rb.dicD ps)
  | .cell _ => none
  | .glo _ => none
  | .ty _ => none
  | .ins _ _ => none
  | .exc _ _ => none
def toPyAll : List D → Option (List PyData)
  | [] => some []
  | x :: xs => (toPy x).bind fun p => (toPyAll xs).map (p :: ·)
end
mutual
/-- all lists in it are known to stand apart from the table of modules -/
def known : D → Bool
  | .tup xs => knownAll xs
  | .lst k xs => k && knownAll xs
  | .kls _ => false
  | _ => true
def knownAll : List D → Bool
  | [] => true
  | x :: xs => known x && knownAll xs
end
def pyC (S : Sto) : D → Option PyData
  | .cell n => (lstAt S[n]?).bind fun xs => (toPyAll xs).map .list
  | d => toPy d
section
variable {X : Cx} {pins : List (Addr × Obj)} {σ : L2.St} {H : Hp} {s : Shared} {μ : Mu}
mutual
theorem Rp.reads (I : Inv X pins σ H s) : ∀ (d : D) (v : V) (u : Value) (p : PyData), Rp (ct X) μ H v d → RelV v u → toPy d = some p → ∃ as, Reads s.heap u p as ∧ (known d = true → sysModules ∉ as)
  | .non, _, _, _, h, r, e => by
    cases h; cases r; cases e
    exact ⟨_, Reads.none, fun _ z => nomatch z⟩
  | .bl b, _, _, _, h, r, e => by
    cases h; cases r; cases e
    exact ⟨_, Reads.bool b, fun _ z => nomatch z⟩
  | .int i, _, _, _, h, r, e => by
    cases h; cases e
    obtain ⟨t, rfl⟩ := r
    exact ⟨_, Reads.int i t, fun _ z => nomatch z⟩
  | .str x, _, _, _, h, r, e => by
    cases h; cases e
    obtain ⟨t, rfl⟩ := r
    exact ⟨_, Reads.str x t, fun _ z => nomatch z⟩
  | .tup ds, _, _, _, h, r, e => by
    cases h with
    | tup hs ha =>
      cases r
      obtain ⟨ps, e1, rfl⟩ := Option.map_eq_some_iff.mp (show (toPyAll ds).map PyData.tuple = some _ from e)
      obtain ⟨its, rv, ⟨o, ho, hc, n, hd⟩, _⟩ := I.tuple (SqT.of hs)
      obtain ⟨as, hr, no⟩ := RpAll.reads I ds _ its ps ha rv e1
      exact ⟨_, Reads.tuple ho hc hd hr, fun hk => no hk⟩
  | .lst k ds, _, _, _, h, r, e => by
    cases h with
    | lst hs _ _ ne ha =>
      cases r
      obtain ⟨ps, e1, rfl⟩ := Option.map_eq_some_iff.mp (show (toPyAll ds).map PyData.list = some _ from e)
      obtain ⟨its, rv, ⟨o, n, ho, hc, _, hd⟩, _⟩ := I.list (SqL.of hs)
      obtain ⟨as, hr, no⟩ := RpAll.reads I ds _ its ps ha rv e1
      refine ⟨_, Reads.list ho hc hd hr, fun hk z => ?_⟩
      obtain ⟨h1, h2⟩ := Bool.and_eq_true_iff.mp (show (k && knownAll ds) = true from hk)
      rcases List.mem_cons.mp z with z | z
      · exact ne h1 z.symm
      · exact no h2 z
  | .kls _, _, _, _, _, _, e => by cases e
  | .dic qs, _, _, _, h, r, e => by
    cases h with
    | dic hd _ _ =>
      cases e
      obtain ⟨as, h1, h2⟩ := Rb.Ap.reads (S := [sysModules]) List.mem_cons_self I (Rb.dicD qs) _ _ (.dic hd) r
      exact ⟨as, h1, fun _ => h2⟩
  | .cell _, _, _, _, _, _, e => by cases e
  | .glo _, _, _, _, _, _, e => by cases e
  | .ty _, _, _, _, _, _, e => by cases e
  | .ins _ _, _, _, _, _, _, e => by cases e
  | .exc _ _, _, _, _, _, _, e => by cases e
theorem RpAll.reads (I : Inv X pins σ H s) : ∀ (ds : List D) (vs : List V) (us : List Value) (ps : List PyData), RpAll (ct X) μ H vs ds → Vals vs us → toPyAll ds = some ps → ∃ as, ReadsAll s.heap us ps as ∧ (knownAll ds = true → sysModules ∉ as)
  | [], _, _, _, h, r, e => by
    cases h; cases r; cases e
    exact ⟨_, ReadsAll.nil, fun _ z => nomatch z⟩
  | d :: ds, _, _, _, h, r, e => by
    cases h with
    | cons h1 h2 =>
      cases r with
      | cons r1 r2 =>
        obtain ⟨p, e1, e2⟩ := Option.bind_eq_some_iff.mp (show (toPy d).bind (fun p => (toPyAll ds).map (p :: ·)) = some _ from e)
        obtain ⟨ps, e3, rfl⟩ := Option.map_eq_some_iff.mp e2
        obtain ⟨as, q1, n1⟩ := Rp.reads I d _ _ p h1 r1 e1
        obtain ⟨bs, q2, n2⟩ := RpAll.reads I ds _ _ ps h2 r2 e3
        refine ⟨_, ReadsAll.cons q1 q2, fun hk z => ?_⟩
        obtain ⟨k1, k2⟩ := Bool.and_eq_true_iff.mp (show (known d && knownAll ds) = true from hk)
        rcases List.mem_append.mp z with z | z
        · exact n1 k1 z
        · exact n2 k2 z
end
theorem Wd.reads {S : Sto} (w : Wd (ct X) μ S H) (I : Inv X pins σ H s) {d : D} {v : V} {u : Value} {p : PyData} (h : Rp (ct X) μ H v d) (r : RelV v u) (e : pyC S d = some p) : ∃ as, Reads s.heap u p as := by
  by_cases hc : ∃ n, d = .cell n
  · obtain ⟨n, rfl⟩ := hc
    obtain ⟨xs, e1, e2⟩ := Option.bind_eq_some_iff.mp (show (lstAt S[n]?).bind (fun xs => (toPyAll xs).map .list) = some p from e)
    obtain ⟨ps, e3, rfl⟩ := Option.map_eq_some_iff.mp e2
    obtain ⟨a, vs, rfl, ha, ra⟩ := h.lstT w (show lstOf S (.cell n) = some xs from e1)
    cases r
    obtain ⟨its, rv, ⟨o, k, ho, hc, _, hd⟩, _⟩ := I.list (SqL.of ha)
    obtain ⟨as, hr, no⟩ := RpAll.reads I xs _ its ps ra rv e3
    exact ⟨_, Reads.list ho hc hd hr⟩
  · have e' : toPy d = some p := by
      cases d with
      | cell n => exact absurd ⟨n, rfl⟩ hc
      | _ => exact e
    obtain ⟨as, h1, _⟩ := Rp.reads I d v u p h r e'
    exact ⟨as, h1⟩
end
/-! ## repr -/
def gRepr : List D → Sto → QD → Prop := fun ds S Q => match ds with
  | [d] => onSome (toPy d) fun p => (Rb.Nice 20 100000 p ∧ (p.hasDict = false ∨ known d = true)) ∧ Q (.str p.shown) S
  | _ => False
/-! ## == and != -/
def nb : Bool → Bool → Bool
  | true, b => !b
  | false, b => b
def gEqB (neg : Bool) : G2 := fun x y S Q => match x, y with
  | .int i, .int j => Q (.bl (nb neg (decide (i = j)))) S
  | .str a, .str b => Q (.bl (nb neg (decide (a = b)))) S
  | x, y => onSome (pyC S x) fun p => onSome (pyC S y) fun q => (SeqAt.shaped p = true ∧ SeqAt.shaped q = true) ∧ Q (.bl (nb neg (PyData.eqv p q))) S
abbrev gEq : G2 := gEqB false
abbrev gNe : G2 := gEqB true
section
variable {X : Cx}
theorem dec_i {i j : Int} : decide (V.int i = V.int j) = decide (i = j) := by
  by_cases h : i = j
  · subst h; simp
  · rw [decide_eq_false h, decide_eq_false (fun z => h (V.int.inj z))]
theorem dec_s {i j : Str} : decide (V.str i = V.str j) = decide (i = j) := by
  by_cases h : i = j
  · subst h; simp
  · rw [decide_eq_false h, decide_eq_false (fun z => h (V.str.inj z))]
theorem o_eq (hu : X.A.units + 64 < cLine) : OpR X (compareOp .Eq) (rD2 (ct X) gEq) := by
  intro pins s σ H x y v u Q I rx ry ⟨μ, S, dx, dy, Qd, w, r1, r2, hg, q⟩
  unfold gEq gEqB at hg
  split at hg
  · cases r1.int_inv
    cases r2.int_inv
    refine op_eq pins s σ H _ _ v u Q I rx ry ⟨rfl, ?_⟩
    rw [dec_i]
    exact q.same w (.bl _) hg
  · cases r1.str_inv
    cases r2.str_inv
    refine op_eq pins s σ H _ _ v u Q I rx ry ⟨rfl, ?_⟩
    rw [dec_s]
    exact q.same w (.bl _) hg
  · obtain ⟨p, e1, hg⟩ := onSome_of hg
    obtain ⟨p', e2, ⟨s1, s2⟩, hg⟩ := onSome_of hg
    obtain ⟨as, h1⟩ := w.reads I r1 rx e1
    obtain ⟨bs, h2⟩ := w.reads I r2 ry e2
    exact SeqAt.compareEq_shaped h1 h2 s1 s2 hu ⟨.bl _, H, I, rfl, q.same w (.bl _) hg⟩
theorem o_ne (hu : X.A.units + 64 < cLine) : OpR X (compareOp .NotEq) (rD2 (ct X) gNe) := by
  intro pins s σ H x y v u Q I rx ry ⟨μ, S, dx, dy, Qd, w, r1, r2, hg, q⟩
  unfold gNe gEqB at hg
  split at hg
  · cases r1.int_inv
    cases r2.int_inv
    refine op_ne pins s σ H _ _ v u Q I rx ry ⟨rfl, ?_⟩
    rw [dec_i]
    exact q.same w (.bl _) hg
  · cases r1.str_inv
    cases r2.str_inv
    refine op_ne pins s σ H _ _ v u Q I rx ry ⟨rfl, ?_⟩
    rw [dec_s]
    exact q.same w (.bl _) hg
  · obtain ⟨p, e1, hg⟩ := onSome_of hg
    obtain ⟨p', e2, ⟨s1, s2⟩, hg⟩ := onSome_of hg
    obtain ⟨as, h1⟩ := w.reads I r1 rx e1
    obtain ⟨bs, h2⟩ := w.reads I r2 ry e2
    exact SeqAt.compareNe_shaped h1 h2 s1 s2 hu ⟨.bl _, H, I, rfl, q.same w (.bl _) hg⟩
end
/-! ## is None -/
def isNon : D → Bool
  | .non => true
  | _ => false
theorem Rp.non_iff {c : Ct} {μ : Mu} {H : Hp} {v : V} {d : D} (h : Rp c μ H v d) (hg : ∀ x, d ≠ .glo x) : decide (v = .non) = isNon d := by
  cases h with
  | non => rfl
  | glo _ _ => exact absurd rfl (hg _)
  | _ => rfl
def noGlo : D → Bool
  | .glo _ => false
  | _ => true
def gIs (neg : Bool) : G2 := fun x y S Q => match y with
  | .non => noGlo x = true ∧ Q (.bl (nb neg (isNon x))) S
  | _ => False
section
variable {X : Cx}
theorem o_is : OpR X (compareOp .Is) (rD2 (ct X) (gIs false)) := by
  intro pins s σ H x y v u Q I rx ry ⟨μ, S, dx, dy, Qd, w, r1, r2, hg, q⟩
  unfold gIs at hg
  split at hg
  · cases r2
    refine op_isN pins s σ H _ _ v u Q I rx ry ⟨rfl, ?_⟩
    rw [r1.non_iff (fun z e => by rw [e] at hg; cases hg.1)]
    exact q.same w (.bl _) hg.2
  · exact hg.elim
theorem o_isnot : OpR X (compareOp .IsNot) (rD2 (ct X) (gIs true)) := by
  intro pins s σ H x y v u Q I rx ry ⟨μ, S, dx, dy, Qd, w, r1, r2, hg, q⟩
  unfold gIs at hg
  split at hg
  · cases r2
    refine op_notN pins s σ H _ _ v u Q I rx ry ⟨rfl, ?_⟩
    rw [r1.non_iff (fun z e => by rw [e] at hg; cases hg.1)]
    exact q.same w (.bl _) hg.2
  · exact hg.elim
end
/-! ## isinstance of a built-in type -/
inductive Ty6 where
  | int | bool | tup | lst | str | dic
def Ty6.name : Ty6 → String
  | .int => "int"
  | .bool => "bool"
  | .tup => "tuple"
  | .lst => "list"
  | .str => "str"
  | .dic => "dict"
def isL : Ty6 → Bool
  | .lst => true
  | _ => false
def isA (t : Ty6) (S : Sto) : D → Option Bool
  | .non => some false
  | .bl _ => some (match t with | .int => true | .bool => true | _ => false)
  | .int _ => some (match t with | .int => true | _ => false)
  | .str _ => some (match t with | .str => true | _ => false)
  | .tup _ => some (match t with | .tup => true | _ => false)
  | .lst _ _ => some (match t with | .lst => true | _ => false)
  | .kls _ => none
  | .dic _ => some (match t with | .dic => true | _ => false)
  | .cell n => (lstAt S[n]?).map fun _ => isL t
  | .glo _ => none
  | .ty _ => none
  | .ins _ _ => none
  | .exc _ _ => none
def gIsi (t : Ty6) : D → Sto → QD → Prop := fun d S Q => onSome (isA t S d) fun b => Q (.bl b) S
def tyOf : D → String
  | .non => "NoneType"
  | .bl _ => "bool"
  | .int _ => "int"
  | .str _ => "str"
  | .tup _ => "tuple"
  | .dic _ => "dict"
  | _ => "list"
theorem isA_ty {c : Ct} {μ : Mu} {S : Sto} {H : Hp} {v : V} {d : D} {t : Ty6} {b : Bool} (w : Wd c μ S H) (h : Rp c μ H v d) (e : isA t S d = some b) : TyX c.K H v (.type (tyOf d)) ∧ PySem.W.kitOne c.K (.type (tyOf d)) (.type t.name) = some b := by
  cases h with
  | non => cases e; exact ⟨.base .non, by cases t <;> exact kit_ty (by dsimp only [tyOf]; decide +kernel)⟩
  | bl k => cases e; exact ⟨.base (.bl k), by cases t <;> exact kit_ty (by dsimp only [tyOf]; decide +kernel)⟩
  | int k => cases e; exact ⟨.base (.int k), by cases t <;> exact kit_ty (by dsimp only [tyOf]; decide +kernel)⟩
  | str k => cases e; exact ⟨.base (.str k), by cases t <;> exact kit_ty (by dsimp only [tyOf]; decide +kernel)⟩
  | tup hs _ => cases e; exact ⟨.base (.tup hs), by cases t <;> exact kit_ty (by dsimp only [tyOf]; decide +kernel)⟩
  | lst hs _ _ _ _ => cases e; exact ⟨.base (.lst hs), by cases t <;> exact kit_ty (by dsimp only [tyOf]; decide +kernel)⟩
  | dic hd _ _ => cases e; exact ⟨.base (.dK hd), by cases t <;> exact kit_ty (by dsimp only [tyOf]; decide +kernel)⟩
  | @cell n a hm =>
    obtain ⟨xs, e1, e2⟩ := Option.map_eq_some_iff.mp (show (lstAt S[n]?).map (fun _ => isL t) = some b from e)
    subst e2
    obtain ⟨vs, h1, _⟩ := w.ok n _ _ hm (lstAt_inv e1)
    exact ⟨.base (.lst h1), by cases t <;> exact kit_ty (by dsimp only [tyOf]; decide +kernel)⟩
  | _ => cases e
section
variable {X : Cx} {E : L2.St → XK} {a b : Expr} {fa : FE} {pos p2 : Pos}
theorem d_isi {t : Ty6} (hg : Gl X "isinstance") (hm : X.mg "isinstance" = none) (ha : PEd X E a fa) (hb : PE X b (tC (.ty t.name)))
    (hs1 : starEach [a, b] X.env = (false, eval a X.env) :: starEach [b] X.env := by rfl) (hs2 : starEach [b] X.env = (false, eval b X.env) :: starEach [] X.env := by rfl) (hf2 : (backTo pos (starEach [b] X.env)).any (·.1) = false := by rfl) :
    PEd X E (.Call (.Name "isinstance" p2) [a, b] [] pos) (dUn (gIsi t) fa) := by
  refine PE.imp (pe_callB call_isi hg hm (show bootBuiltins "isinstance" = some (.builtin "isinstance") by decide +kernel) (pa_cons ha (pa_cons hb pa_nil hs2) hs1) (by decide) (by decide) hs1 hf2) fun σ H Q ⟨μ, S, ρ, Qd, Ed, w, en, hf, q, px⟩ => ?_
  refine tR_of w en hf px fun x S1 v H1 μ1 h1 f1 w1 en1 px1 r1 => ?_
  obtain ⟨k, e, hq⟩ := onSome_of h1
  obtain ⟨t1, t2⟩ := isA_ty w1 r1 e
  exact ⟨v, _, _, _, k, rfl, .ty _, t1, t2, q _ S1 _ H1 μ1 hq f1 w1 (.bl k)⟩
end
end Pu
namespace Pu
open PySem PySem.Spec PyProof.Rows L2
section
variable {c : Ct} {μ : Mu} {S : Sto} {H : Hp}
theorem RpAll.one {vs : List V} {d : D} (h : RpAll c μ H vs [d]) : ∃ v, vs = [v] ∧ Rp c μ H v d := by
  cases h with
  | cons h1 h2 => cases h2; exact ⟨_, rfl, h1⟩
theorem RpAll.two {vs : List V} {d e : D} (h : RpAll c μ H vs [d, e]) : ∃ v u, vs = [v, u] ∧ Rp c μ H v d ∧ Rp c μ H u e := by
  cases h with
  | cons h1 h2 =>
    obtain ⟨u, rfl, h3⟩ := h2.one
    exact ⟨_, _, rfl, h1, h3⟩
theorem Rp.seq2 {v : V} {d : D} {xs : List D} (w : Wd c μ S H) (r : Rp c μ H v d) (e : seqOf S d = some xs) : (∃ a vs, d = .tup xs ∧ v = .ref a ∧ H a = some (.tup vs) ∧ RpAll c μ H vs xs) ∨ ∃ a vs, v = .ref a ∧ SqL c.K H a vs ∧ RpAll c μ H vs xs := by
  cases r with
  | tup h ra => cases e; exact .inl ⟨_, _, rfl, rfl, h, ra⟩
  | lst h _ _ _ ra => cases e; exact .inr ⟨_, _, rfl, SqL.of h, ra⟩
  | kls h _ _ ra => cases e; exact .inr ⟨_, _, rfl, .inl h, ra⟩
  | klsK o its n h1 h2 h3 h4 h5 h6 ra => cases e; exact .inr ⟨_, _, rfl, .inr ⟨o, its, n, h1, h2, h3, h4, h5, h6⟩, ra⟩
  | @cell n a hm =>
    obtain ⟨vs, h1, h2⟩ := w.ok n _ _ hm (lstAt_inv e)
    exact .inr ⟨_, vs, rfl, SqL.of h1, h2⟩
  | _ => cases e
end
/-! ## len, abs, int, sum, min, max, tuple, list, str, sorted -/
def gLen : List D → Sto → QD → Prop := fun ds S Q => match ds with
  | [.str x] => x.length ≤ sizeLine ∧ Q (.int x.length) S
  | [.dic ps] => Q (.int ps.length) S
  | [d] => onSome (seqOf S d) fun xs => Q (.int xs.length) S
  | _ => False
def gAbs : List D → Sto → QD → Prop := fun ds S Q => match ds with
  | [.int i] => Q (.int (if i < 0 then -i else i)) S
  | _ => False
def gToInt : List D → Sto → QD → Prop := fun ds S Q => match ds with
  | [.int i] => Q (.int i) S
  | [.bl b] => Q (.int (if b then 1 else 0)) S
  | _ => False
def gStr : List D → Sto → QD → Prop := fun ds S Q => match ds with
  | [.int i] => i.natAbs < 2 ^ 1000 ∧ Q (.str (toString i)) S
  | _ => False
def gSum : List D → Sto → QD → Prop := fun ds S Q => match ds with
  | [d] => onSome (seqOf S d) fun xs => onSome (intsOf xs) fun ns => Q (.int ns.sum) S
  | _ => False
/-- the first greatest, the first least -/
def maxL : List Int → Int
  | [] => 0
  | [x] => x
  | x :: xs => max x (maxL xs)
def minL : List Int → Int
  | [] => 0
  | [x] => x
  | x :: xs => min x (minL xs)
theorem maxL_spec : ∀ {ns : List Int}, ns ≠ [] → maxL ns ∈ ns ∧ ∀ y ∈ ns, y ≤ maxL ns
  | [], h => absurd rfl h
  | [x], _ => ⟨List.mem_cons_self, fun y hy => by rw [List.mem_singleton.mp hy]; exact Int.le_refl _⟩
  | x :: y :: r, _ => by
    obtain ⟨h1, h2⟩ := maxL_spec (ns := y :: r) (fun z => nomatch z)
    have e : maxL (x :: y :: r) = max x (maxL (y :: r)) := rfl
    rw [e]
    refine ⟨?_, fun z hz => ?_⟩
    · rcases Int.le_total x (maxL (y :: r)) with h | h
      · rw [Int.max_eq_right h]; exact List.mem_cons_of_mem _ h1
      · rw [Int.max_eq_left h]; exact List.mem_cons_self
    · rcases List.mem_cons.mp hz with rfl | hz
      · exact Int.le_max_left _ _
      · exact Int.le_trans (h2 z hz) (Int.le_max_right _ _)
theorem maxL_uniq {ns : List Int} {m : Int} (h : m ∈ ns) (h2 : ∀ y ∈ ns, y ≤ m) : m = maxL ns := by
  obtain ⟨a, b⟩ := maxL_spec (ns := ns) (fun e => by rw [e] at h; cases h)
  have := h2 _ a
  have := b _ h
  omega
def gMax : List D → Sto → QD → Prop := fun ds S Q => match ds with
  | [.int i, .int j] => Q (.int (if j > i then j else i)) S
  | [d] => onSome (seqOf S d) fun xs => onSome (intsOf xs) fun ns => ns ≠ [] ∧ Q (.int (maxL ns)) S
  | _ => False
def gTuple : List D → Sto → QD → Prop := fun ds S Q => match ds with
  | [d] => onSome (seqOf S d) fun xs => Q (.tup xs) S
  | _ => False
def gListC : List D → Sto → QD → Prop := fun ds S Q => match ds with
  | [d] => onSome (seqOf S d) fun xs => Q (.cell S.length) (S ++ [.lst xs])
  | _ => False
section
variable {X : Cx}
theorem c_len : CallR X (.builtin "len") (rDs (ct X) gLen) := by
  intro pins s σ H vs us Q I r ⟨μ, S, ds, Qd, w, ra, hg, q⟩
  unfold gLen at hg
  split at hg
  · obtain ⟨v, rfl, rv⟩ := ra.one
    cases rv.str_inv
    exact call_len pins s σ H _ us Q I r ⟨_, _, rfl, ⟨hg.1, rfl⟩, q.same w (.int _) hg.2⟩
  · obtain ⟨v, rfl, rv⟩ := ra.one
    cases rv with
    | dic hd _ _ =>
      refine call_lenD pins s σ H _ us Q I r ⟨_, _, rfl, hd, ?_⟩
      rw [show (Rb.dicV _).length = _ from List.length_map ..]
      exact q.same w (.int _) hg
  · obtain ⟨v, rfl, rv⟩ := ra.one
    obtain ⟨xs, e, hg⟩ := onSome_of hg
    obtain ⟨a, ws, rfl, hs, rs⟩ := rv.seq w e
    refine call_len_seq pins s σ H _ us Q I r ⟨a, ws, rfl, hs, ?_⟩
    rw [rs.length]
    exact q.same w (.int _) hg
  · exact hg.elim
theorem c_abs : CallR X (.builtin "abs") (rDs (ct X) gAbs) := by
  intro pins s σ H vs us Q I r ⟨μ, S, ds, Qd, w, ra, hg, q⟩
  unfold gAbs at hg
  split at hg
  · obtain ⟨v, rfl, rv⟩ := ra.one
    cases rv.int_inv
    exact call_abs pins s σ H _ us Q I r ⟨_, rfl, q.same w (.int _) hg⟩
  · exact hg.elim
theorem c_int : CallR X (.type "int") (rDs (ct X) gToInt) := by
  intro pins s σ H vs us Q I r ⟨μ, S, ds, Qd, w, ra, hg, q⟩
  unfold gToInt at hg
  split at hg
  · obtain ⟨v, rfl, rv⟩ := ra.one
    cases rv.int_inv
    exact call_int1 pins s σ H _ us Q I r (.inl ⟨_, rfl, q.same w (.int _) hg⟩)
  · obtain ⟨v, rfl, rv⟩ := ra.one
    cases rv.bl_inv
    exact call_int1 pins s σ H _ us Q I r (.inr ⟨_, rfl, q.same w (.int _) hg⟩)
  · exact hg.elim
theorem c_str : CallR X (.type "str") (rDs (ct X) gStr) := by
  intro pins s σ H vs us Q I r ⟨μ, S, ds, Qd, w, ra, hg, q⟩
  unfold gStr at hg
  split at hg
  · rename_i i
    obtain ⟨v, rfl, rv⟩ := ra.one
    cases rv.int_inv
    refine call_str_int pins s σ H _ us Q I r ⟨_, rfl, ?_, q.same w (.str _) hg.2⟩
    by_cases z : i.natAbs = 0
    · rw [z]; decide
    · exact (Nat.log2_lt z).mpr (Nat.lt_of_lt_of_le hg.1 (Nat.pow_le_pow_right (by decide) (by decide)))
  · exact hg.elim
theorem c_sum (hc : X.calm = true) : CallR X (.builtin "sum") (rDs (ct X) gSum) := by
  intro pins s σ H vs us Q I r ⟨μ, S, ds, Qd, w, ra, hg, q⟩
  unfold gSum at hg
  split at hg
  · obtain ⟨v, rfl, rv⟩ := ra.one
    obtain ⟨xs, e, hg⟩ := onSome_of hg
    obtain ⟨ns, e2, hg⟩ := onSome_of hg
    obtain ⟨a, ws, rfl, hs, rs⟩ := rv.seq w e
    rw [intsOf_inv e2] at rs
    rw [rs.ints] at hs
    have fin := q.same w (.int _) hg
    rcases hs with hs | hs
    · exact cr_sum hc pins s σ H _ us Q I r ⟨a, ns, rfl, hs, fin⟩
    · exact Rb.cr_sumT hc pins s σ H _ us Q I r ⟨a, ns, rfl, hs, fin⟩
  · exact hg.elim
theorem c_max (hc : X.calm = true) (hu : X.A.units + 64 < cLine) : CallR X (.builtin "max") (rDs (ct X) gMax) := by
  intro pins s σ H vs us Q I r ⟨μ, S, ds, Qd, w, ra, hg, q⟩
  unfold gMax at hg
  split at hg
  · obtain ⟨v, u, rfl, rv, ru⟩ := ra.two
    cases rv.int_inv
    cases ru.int_inv
    exact call_max2 hc pins s σ H _ us Q I r ⟨_, _, rfl, q.same w (.int _) hg⟩
  · obtain ⟨v, rfl, rv⟩ := ra.one
    obtain ⟨xs, e, hg⟩ := onSome_of hg
    obtain ⟨ns, e2, ne, hg⟩ := onSome_of hg
    obtain ⟨a, ws, rfl, hs, rs⟩ := rv.seq w e
    rw [intsOf_inv e2] at rs
    rw [rs.ints] at hs
    have fin : ∀ m, m ∈ ns → (∀ y ∈ ns, y ≤ m) → Q (.int m) H := fun m h1 h2 => by
      rw [maxL_uniq h1 h2]
      exact q.same w (.int _) hg
    rcases hs with hs | hs
    · exact cr_max hc pins s σ H _ us Q I r ⟨a, ns, rfl, hs, List.length_pos_iff.mpr ne, fun m h1 h2 => fin m h1 h2⟩
    · exact Rb.cr_maxT hc hu pins s σ H _ us Q I r ⟨a, ns, rfl, hs, ne, fin⟩
  · exact hg.elim
def gMinL : List D → Sto → QD → Prop := fun ds S Q => match ds with
  | [.int i, .int j] => Q (.int (if j < i then j else i)) S
  | [d] => onSome (lstOf S d) fun xs => onSome (intsOf xs) fun ns => ns ≠ [] ∧ Q (.int (minL ns)) S
  | _ => False
theorem c_tuple : CallR X (.type "tuple") (rDs (ct X) gTuple) := by
  intro pins s σ H vs us Q I r ⟨μ, S, ds, Qd, w, ra, hg, q⟩
  unfold gTuple at hg
  split at hg
  · rename_i d
    obtain ⟨v, rfl, rv⟩ := ra.one
    obtain ⟨xs, e, hg⟩ := onSome_of hg
    rcases rv.seq2 w e with ⟨a, ws, rfl, rfl, ha, rs⟩ | ⟨a, ws, rfl, hs, rs⟩
    · exact call_tuple_of pins s σ H _ us Q I r ⟨a, ws, rfl, .inr ⟨SqT.of ha, q.same w (.tup ha rs) hg⟩⟩
    · exact call_tuple_of pins s σ H _ us Q I r ⟨a, ws, rfl, .inl ⟨hs, fun p hp => q.tup w rs hg hp⟩⟩
  · exact hg.elim
theorem PostV.lay {c : Ct} {μ : Mu} {S : Sto} {H : Hp} {Qd : QD} {Q : VK} (q : PostV c μ H Qd Q) (w : Wd c μ S H) {vs : List V} {ds : List D} (r : RpAll c μ H vs ds) (h : Qd (.cell S.length) (S ++ [.lst ds])) {p : Addr} (hp : H p = none) : Q (.ref p) (upd H p (.lst vs)) := by
  obtain ⟨f2, w2, r2⟩ := w.lay r hp
  exact q _ _ _ _ _ h f2 w2 r2
theorem c_listC : CallR X (.type "list") (rDs (ct X) gListC) := by
  intro pins s σ H vs us Q I r ⟨μ, S, ds, Qd, w, ra, hg, q⟩
  unfold gListC at hg
  split at hg
  · obtain ⟨v, rfl, rv⟩ := ra.one
    obtain ⟨xs, e, hg⟩ := onSome_of hg
    obtain ⟨a, ws, rfl, hs, rs⟩ := rv.seq w e
    exact Rb.call_listN pins s σ H _ us Q I r ⟨a, ws, rfl, hs, fun p hp hm => q.lay w rs hg hp⟩
  · exact hg.elim
end
/-! ## sorted: ints, pairs of ints -/
def gSorted : List D → Sto → QD → Prop := fun ds S Q => match ds with
  | [d] => onSome (lstOf S d) fun xs => (∃ ns, xs = ns.map D.int ∧ Q (.lst false ((Rb.srt ns).map D.int)) S) ∨ ∃ ps : List (Int × Int), xs = ps.map (fun p => D.tup [.int p.1, .int p.2]) ∧ Q (.lst false ((Rb.srtP ps).map fun p => D.tup [.int p.1, .int p.2])) S
  | _ => False
section
variable {X : Cx} {c : Ct} {μ : Mu} {H : Hp}
theorem RpAll.prs : ∀ {vs : List V} {ps : List (Int × Int)}, RpAll c μ H vs (ps.map fun p => D.tup [.int p.1, .int p.2]) → Rb.Prs H vs ps := by
  intro vs ps h
  refine ⟨by have := h.length; rw [List.length_map] at this; exact this, fun i p hp => ?_⟩
  obtain ⟨v, e, r⟩ := h.at (i := i) (d := D.tup [.int p.1, .int p.2]) (by rw [List.getElem?_map, hp]; rfl)
  obtain ⟨a, ws, rfl, ha, ra⟩ := r.tup_inv
  obtain ⟨x, y, rfl, rx, ry⟩ := ra.two
  cases rx.int_inv
  cases ry.int_inv
  exact ⟨a, e, ha⟩
theorem RpAll.ofPrs {vs : List V} : ∀ {ps : List (Int × Int)}, Rb.Prs H vs ps → RpAll c μ H vs (ps.map fun p => D.tup [.int p.1, .int p.2]) := by
  induction vs with
  | nil =>
    intro ps h
    have : ps = [] := List.length_eq_zero_iff.mp (by rw [← h.1]; rfl)
    subst this
    exact .nil
  | cons v vs ih =>
    intro ps h
    match ps, h with
    | [], h => exact absurd h.1 (by simp)
    | p :: ps, h =>
      obtain ⟨t, e1, e2⟩ := h.2 0 p rfl
      cases e1
      refine .cons (.tup e2 (.cons (.int _) (.cons (.int _) .nil))) (ih ⟨Nat.succ.inj h.1, fun i q hq => ?_⟩)
      exact h.2 (i + 1) q hq
theorem c_sorted : CallR X (.builtin "sorted") (rDs (ct X) gSorted) := by
  intro pins s σ H vs us Q I r ⟨μ, S, ds, Qd, w, ra, hg, q⟩
  unfold gSorted at hg
  split at hg
  · obtain ⟨v, rfl, rv⟩ := ra.one
    obtain ⟨xs, e, hg⟩ := onSome_of hg
    obtain ⟨a, ws, rfl, hs, rs⟩ := rv.lstT w e
    rcases hg with ⟨ns, rfl, hg⟩ | ⟨ps, rfl, hg⟩
    · rw [rs.ints] at hs
      refine cr_sortedI pins s σ H _ us Q I r ⟨a, ns, rfl, SqL.of hs, fun ns' p h1 h2 hp => ?_⟩
      rw [Rb.srt_uniq h1 h2]
      exact q.lst w (RpAll.ofInts _) hg hp
    · refine cr_sortedPO pins s σ H _ us Q I r (Rb.sorted_prs (SqL.of hs) rs.prs fun ys p hP hp => ?_)
      exact q.lst w (RpAll.ofPrs hP) hg hp
  · exact hg.elim
end
end Pu
namespace Pu
open PySem PySem.Spec PyProof.Rows L2
/-! ## subscripts, slices, in -/
theorem atI_map {α β : Type} {R : α → β → Prop} {xs : List α} {ys : List β} (hl : xs.length = ys.length) (h : ∀ (i : Nat) y, ys[i]? = some y → ∃ x, xs[i]? = some x ∧ R x y) {i : Int} {y : β} (e : atI ys i = some y) : ∃ x, atI xs i = some x ∧ R x y := by
  unfold atI at e ⊢
  rw [hl]
  obtain ⟨j, e1, e2⟩ := Option.bind_eq_some_iff.mp e
  obtain ⟨x, e3, r⟩ := h j y e2
  exact ⟨x, by rw [e1]; exact e3, r⟩
def gIx : G2 := fun x y S Q => match x, y with
  | .str z, .int i => z.length ≤ sizeLine ∧ onSome (atI z.cps.toList i) fun c => Q (.str ⟨#[c]⟩) S
  | x, .int i => onSome (seqOf S x) fun xs => onSome (atI xs i) fun d => Q d S
  | _, _ => False
/-- the items of xs[lo:hi] -/
def cutD (xs : List D) (lo hi : Option Int) : List D := (xs.drop (HT.sIx xs.length 0 lo)).take (HT.sIx xs.length xs.length hi - HT.sIx xs.length 0 lo)
def gSl : D → Option Int → Option Int → Sto → QD → Prop := fun x lo hi S Q => match x with
  | .tup xs => Q (.tup (cutD xs lo hi)) S
  | .str z => z.length ≤ sizeLine ∧ Q (.str (cutS z lo hi)) S
  | x => onSome (seqOf S x) fun xs => Q (.lst false (cutD xs lo hi)) S
def rDsl (c : Ct) (g : D → Option Int → Option Int → Sto → QD → Prop) : V → Option Int → Option Int → Hp → VK → Prop := fun x lo hi H Q => ∃ μ S d Qd, Wd c μ S H ∧ Rp c μ H x d ∧ g d lo hi S Qd ∧ PostV c μ H Qd Q
def dSl (fe : FE) (fl fh : FO) : FE := fun ρ S Q Ed => fe ρ S (fun x S1 => fl ρ S1 (fun l S2 => fh ρ S2 (fun h S3 => gSl x l h S3 Q) Ed) Ed) Ed
def dPart (f : FE) : FO := fun ρ S Q Ed => f ρ S (fun d S1 => match d with | .int i => Q (some i) S1 | _ => False) Ed
def dNoP : FO := fun _ S Q _ => Q none S
section
variable {c : Ct} {μ : Mu} {S : Sto} {H : Hp}
theorem cutV_eq {vs : List V} {ds : List D} (r : RpAll c μ H vs ds) (lo hi : Option Int) : RpAll c μ H (cutV vs lo hi) (cutD ds lo hi) := by
  unfold cutV cutD
  rw [r.length]
  exact (r.drop _).take _
end
section
variable {X : Cx} {E : L2.St → XK} {a b e : Expr} {fa fb fe : FE} {lo hi : Option Expr} {fl fh : FO} {pos p2 : Pos}
theorem ix_D : IxR X (rD2 (ct X) gIx) := by
  intro value slice pins s σ H x y v u Q I rx ry ⟨μ, S, dx, dy, Qd, w, r1, r2, hg, q⟩ hs
  unfold gIx at hg
  split at hg
  · obtain ⟨hz, hg⟩ := hg
    obtain ⟨c, e, hg⟩ := onSome_of hg
    cases r1.str_inv
    cases r2.int_inv
    exact ix_str value slice pins s σ H _ _ v u Q I rx ry ⟨_, _, c, rfl, rfl, hz, e, q.same w (.str _) hg⟩ hs
  · obtain ⟨xs, e1, hg⟩ := onSome_of hg
    obtain ⟨d, e2, hg⟩ := onSome_of hg
    obtain ⟨a, ws, rfl, hq, rs⟩ := r1.seq w e1
    cases r2.int_inv
    obtain ⟨z, e3, rz⟩ := atI_map rs.length (fun i y h => rs.at h) e2
    have fin := q.same w rz hg
    rcases hq with hq | hq
    · exact ix_list value slice pins s σ H _ _ v u Q I rx ry ⟨a, ws, _, z, rfl, rfl, hq, e3, fin⟩ hs
    · exact ix_tup value slice pins s σ H _ _ v u Q I rx ry ⟨a, ws, _, z, rfl, rfl, hq, e3, fin⟩ hs
  · exact hg.elim
theorem d_ix (ha : PEd X E a fa) (hb : PEd X E b fb) (hs : PlainIx b) : PEd X E (.Subscript a b pos) (dBin gIx fa fb) := PE.imp (pe_ix ix_D ha hb hs) fun _ _ _ h => tBin h
theorem sl_D : SlR X (rDsl (ct X) gSl) := by
  intro pins s σ H x v vl vu lo hi sl Q I rx hs pl pu ⟨μ, S, d, Qd, w, r1, hg, q⟩
  unfold gSl at hg
  split at hg
  · obtain ⟨a, ws, rfl, ha, rs⟩ := r1.tup_inv
    refine sl_tupA pins s σ H _ v vl vu lo hi sl Q I rx hs pl pu ⟨a, ws, rfl, SqT.of ha, fun hw => ?_, fun hw p hp => q.tup w (cutV_eq rs lo hi) hg hp⟩
    refine q.same w (.tup ha ?_) hg
    have : cutV ws lo hi = ws := by
      unfold cutV
      rw [hw.1, hw.2, List.drop_zero, Nat.sub_zero, List.take_length]
    rw [← this]
    exact cutV_eq rs lo hi
  · cases r1.str_inv
    exact sl_str pins s σ H _ v vl vu lo hi sl Q I rx hs pl pu ⟨_, rfl, hg.1, q.same w (.str _) hg.2⟩
  · rename_i hnt0 hnt1
    obtain ⟨xs, e1, hg⟩ := onSome_of hg
    rcases r1.seq2 w e1 with ⟨a, ws, rfl, rfl, ha, rs⟩ | ⟨a, ws, rfl, hq, rs⟩
    · exact absurd rfl (hnt0 _)
    · exact sl_list pins s σ H _ v vl vu lo hi sl Q I rx hs pl pu ⟨a, ws, rfl, hq, fun p hp => q.lst w (cutV_eq rs lo hi) hg hp⟩
theorem d_slice (he : PEd X E e fe) (hl : POd X E lo fl) (hh : POd X E hi fh) : PEd X E (.Subscript e (.Slice lo hi none p2) pos) (dSl fe fl fh) := by
  refine PE.imp (pe_slice sl_D he hl hh) fun σ H Q ⟨μ, S, ρ, Qd, Ed, w, en, hf, q, px⟩ => ?_
  refine tR_of w en hf px fun x S1 v H1 μ1 h1 f1 w1 en1 px1 r1 => ?_
  refine tR_of w1 en1 h1 px1 fun l S2 l' H2 μ2 h2 f2 w2 en2 px2 r2 => ?_
  cases (r2 : l' = l)
  refine tR_of w2 en2 h2 px2 fun h S3 h' H3 μ3 h3 f3 w3 en3 px3 r3 => ?_
  cases (r3 : h' = h)
  exact ⟨μ3, S3, x, Qd, w3, (r1.fw w1 f2).fw w2 f3, h3, fun d S' v' H' μ' h f w' r => q d S' v' H' μ' h (f1.trans (f2.trans (f3.trans f))) w' r⟩
theorem d_noP : POd X E none dNoP := PO.imp po_none fun σ H Q ⟨μ, S, ρ, Qd, Ed, w, en, hf, q, px⟩ => q none S none H μ hf Fw.refl w rfl
theorem d_part (he : PEd X E e fe) : POd X E (some e) (dPart fe) := by
  refine PO.imp (po_some he) fun σ H Q ⟨μ, S, ρ, Qd, Ed, w, en, hf, q, px⟩ => ?_
  refine tR_of w en hf px fun x S1 v H1 μ1 h1 f1 w1 en1 px1 r1 => ?_
  split at h1
  · exact ⟨_, r1.int_inv, q _ S1 _ H1 μ1 h1 f1 w1 rfl⟩
  · exact h1.elim
end
def gIn (neg : Bool) : G2 := fun x y S Q => match x with
  | .int i => onSome (seqOf S y) fun xs => onSome (intsOf xs) fun ns => Q (.bl (nb neg (decide (i ∈ ns)))) S
  | _ => False
theorem inV_ints {i : Int} : ∀ {ns : List Int}, inV (.int i) (ns.map V.int) = decide (i ∈ ns)
  | [] => by simp [inV]
  | n :: ns => by
    have ih := inV_ints (i := i) (ns := ns)
    unfold inV at *
    simp only [List.map_cons, List.any_cons]
    rw [ih]
    by_cases e : n = i
    · subst e
      simp [eqV]
    · have e2 : ¬ i = n := fun z => e z.symm
      simp [e, e2, eqV]
section
variable {X : Cx}
theorem flat_ints (ns : List Int) : (ns.map V.int).all flatV = true := by
  rw [List.all_map, List.all_eq_true]
  intro x _
  rfl
theorem o_in : OpR X (compareOp .In) (rD2 (ct X) (gIn false)) := by
  intro pins s σ H x y v u Q I rx ry ⟨μ, S, dx, dy, Qd, w, r1, r2, hg, q⟩
  unfold gIn at hg
  split at hg
  · obtain ⟨xs, e1, hg⟩ := onSome_of hg
    obtain ⟨ns, e2, hg⟩ := onSome_of hg
    obtain ⟨a, ws, rfl, hq, rs⟩ := r2.seq w e1
    cases r1.int_inv
    rw [intsOf_inv e2] at rs
    rw [rs.ints] at hq
    refine op_in_seq pins s σ H _ _ v u Q I rx ry ⟨a, _, rfl, hq, rfl, flat_ints ns, ?_⟩
    rw [inV_ints]
    exact q.same w (.bl _) hg
  · exact hg.elim
end
/-! ## methods of lists -/
abbrev GM := D → List D → Sto → QD → Prop
def dML (g : GM) (fo : FE) (fa : FA) : FE := fun ρ S Q Ed => fo ρ S (fun x S1 => onSome (cellOf S1 x) fun _ => fa ρ S1 (fun ds S2 => g x ds S2 Q) Ed) Ed
def gAppend : GM := fun x ds S Q => match ds with
  | [d] => onSome (cellOf S x) fun nx => nx.2.length < sizeLine ∧ Q .non (S.set nx.1 (.lst (nx.2 ++ [d])))
  | _ => False
section
variable {X : Cx} {E : L2.St → XK} {o e : Expr} {es : List Expr} {fo : FE} {fa : FA} {name : Str} {id : String} {apos cpos : Pos}
theorem d_ml {g : GM} (slot : Slot "list" name id) (hty : typeOf (.builtin id) = pure (.type "method_descriptor")) (hm : MtR X id (rDm (ct X) g)) (ho : PEd X E o fo) (ha : PAd X E (e :: es) fa)
    (hbase : attributeBase o name X.env (eval o X.env) = eval o X.env := by rfl)
    (hfew : ((backTo cpos (starEach (e :: es) X.env)).all (fun x => !x.1) && (backToKw cpos (keywordEach [] X.env)).all (fun x => x.1.isSome)
      && decide ((e :: es).length + ([] : List Keyword).length + (if ([] : List Keyword).isEmpty then 0 else 1) < 30)) = true := by rfl)
    (hline : (apos.endLine == cpos.line) = true := by rfl) (hs : starEach (e :: es) X.env = (false, eval e X.env) :: starEach es X.env := by rfl) (hplain : (backTo cpos (starEach es X.env)).any (·.1) = false := by rfl) :
    PEd X E (.Call (.Attribute o name apos) (e :: es) [] cpos) (dML g fo fa) := by
  refine PE.imp (pe_bm PySem.F.plainAttrs_list slot hty hm ho ha hbase hfew hline hs hplain) fun σ H Q ⟨μ, S, ρ, Qd, Ed, w, en, hf, q, px⟩ => ?_
  refine tR_of w en hf px fun x S1 v H1 μ1 h1 f1 w1 en1 px1 r1 => ?_
  obtain ⟨nx, e1, h1⟩ := onSome_of h1
  obtain ⟨a, vs, rfl, hm', ha', ra⟩ := w1.cellL r1 e1
  refine ⟨.inl ⟨rfl, vs, SqL.of ha'⟩, ?_⟩
  refine tR_of w1 en1 h1 px1 fun ds S2 us H2 μ2 h2 f2 w2 en2 px2 r2 => ?_
  exact ⟨μ2, S2, x, ds, Qd, w2, r1.fw w1 f2, r2, h2, fun d S' v' H' μ' h f w' r => q d S' v' H' μ' h (f1.trans (f2.trans f)) w' r⟩
theorem m_append : MtR X "list.append" (rDm (ct X) gAppend) := by
  intro pins s σ H x xs v us Q I rx rs ⟨μ, S, d, ds, Qd, w, r1, ra, hg, q⟩
  unfold gAppend at hg
  split at hg
  · obtain ⟨y, rfl, ry⟩ := ra.one
    obtain ⟨⟨n, zs⟩, e, hz, hg⟩ := onSome_of hg
    obtain ⟨a, vs, rfl, hm, ha, rz⟩ := w.cellL r1 e
    exact mt_append pins s σ H _ _ v us Q I rx rs ⟨a, vs, y, rfl, rfl, ha, by rw [rz.length]; exact hz, q.cell w hm (rz.append (.cons ry .nil)) .non hg⟩
  · exact hg.elim
end
end Pu
namespace Pu
open PySem PySem.Spec PyProof.Rows L2
/-! ## statements -/
structure EndsOk (c : Ct) (μ : Mu) (H : Hp) (De : DEnds) (D : Ends) : Prop where
  nx : ∀ ρ' S' σ' H' μ', De.nx ρ' S' → Fw μ H μ' H' → Wd c μ' S' H' → EnvR c μ' H' σ' ρ' → D.nx σ' H'
  rt : PostV c μ H De.rt D.rt
  bk : ∀ ρ' S' σ' H' μ', De.bk ρ' S' → Fw μ H μ' H' → Wd c μ' S' H' → EnvR c μ' H' σ' ρ' → D.bk σ' H'
  ct : ∀ ρ' S' σ' H' μ', De.ct ρ' S' → Fw μ H μ' H' → Wd c μ' S' H' → EnvR c μ' H' σ' ρ' → D.ct σ' H'
theorem PostV.fw {c : Ct} {μ μ' : Mu} {H H' : Hp} {Qd : QD} {Q : VK} (q : PostV c μ H Qd Q) (f : Fw μ H μ' H') : PostV c μ' H' Qd Q := fun d S' v H2 μ2 h g w r => q d S' v H2 μ2 h (f.trans g) w r
theorem EndsOk.fw {c : Ct} {μ μ' : Mu} {H H' : Hp} {De : DEnds} {D : Ends} (k : EndsOk c μ H De D) (f : Fw μ H μ' H') : EndsOk c μ' H' De D :=
  ⟨fun ρ S σ H2 μ2 h g w e => k.nx ρ S σ H2 μ2 h (f.trans g) w e, k.rt.fw f, fun ρ S σ H2 μ2 h g w e => k.bk ρ S σ H2 μ2 h (f.trans g) w e, fun ρ S σ H2 μ2 h g w e => k.ct ρ S σ H2 μ2 h (f.trans g) w e⟩
def tS (c : Ct) (E : XK) (f : FS) : TS := fun D σ H => ∃ μ S ρ De Ed, Wd c μ S H ∧ EnvR c μ H σ ρ ∧ f ρ S De Ed ∧ EndsOk c μ H De D ∧ PX c μ H Ed E
abbrev PSd (X : Cx) (E : XK) (st : Stmt) (f : FS) : Prop := PS X st (tS (ct X) E f)
abbrev PBd (X : Cx) (E : XK) (sts : List Stmt) (f : FS) : Prop := PSs X sts (tS (ct X) E f)
def dSkip : FS := fun ρ S De _ => De.nx ρ S
def dSeq (f g : FS) : FS := fun ρ S De Ed => f ρ S { De with nx := fun ρ' S' => g ρ' S' De Ed } Ed
def dDrop (f : FE) : FS := fun ρ S De Ed => f ρ S (fun _ S1 => De.nx ρ S1) Ed
def dRet (f : FE) : FS := fun ρ S De Ed => f ρ S De.rt Ed
def dIfS (t : FT) (f g : FS) : FS := fun ρ S De Ed => t ρ S (fun b S1 => if b = true then f ρ S1 De Ed else g ρ S1 De Ed) Ed
def dAsg (f : FE) (g : FG) : FS := fun ρ S De Ed => f ρ S (fun d S1 => g d ρ S1 De.nx Ed) Ed
section
variable {X : Cx} {E : XK} {st : Stmt} {rest : List Stmt} {f g : FS} {e : Expr} {fe : FE} {pos : Pos}
theorem d_end : PBd X E [] dSkip := PSs.imp pss_nil fun D σ H ⟨μ, S, ρ, De, Ed, w, en, hf, k, px⟩ => k.nx ρ S σ H μ hf Fw.refl w en
theorem d_seq (h1 : PSd X E st f) (h2 : PBd X E rest g) : PBd X E (st :: rest) (dSeq f g) := by
  refine PSs.imp (pss_cons h1 h2) fun D σ H ⟨μ, S, ρ, De, Ed, w, en, hf, k, px⟩ => ?_
  exact ⟨μ, S, ρ, _, Ed, w, en, hf, ⟨fun ρ' S' σ' H' μ' h fw w' en' => ⟨μ', S', ρ', De, Ed, w', en', h, k.fw fw, px.fw fw⟩, k.rt, k.bk, k.ct⟩, px⟩
theorem d_last (h1 : PSd X E st f) : PBd X E [st] f := pss_one h1
theorem d_expr (he : PEd X (cE E) e fe) (hs : swapsWith e none pos.line X.env = pure false := by rfl) : PSd X E (.Expr e pos) (dDrop fe) := by
  refine PS.imp (ps_expr he hs) fun D σ H ⟨μ, S, ρ, De, Ed, w, en, hf, k, px⟩ => ?_
  exact tR_of w en hf px fun x S1 v H1 μ1 h1 f1 w1 en1 px1 r1 => k.nx ρ S1 σ H1 μ1 h1 f1 w1 en1
theorem d_ret (he : PEd X (cE E) e fe) : PSd X E (.Return (some e) pos) (dRet fe) := by
  refine PS.imp (ps_ret he) fun D σ H ⟨μ, S, ρ, De, Ed, w, en, hf, k, px⟩ => ?_
  exact tR_of w en hf px fun x S1 v H1 μ1 h1 f1 w1 en1 px1 r1 => k.rt x S1 v H1 μ1 h1 f1 w1 r1
theorem d_if {c : Expr} {a b : List Stmt} {t : FT} (hc : PTd X (cE E) c t) (ha : PBd X E a f) (hb : PBd X E b g) : PSd X E (.If c a b pos) (dIfS t f g) := by
  refine PS.imp (ps_if hc ha hb) fun D σ H ⟨μ, S, ρ, De, Ed, w, en, hf, k, px⟩ => ?_
  refine tR_of w en hf px fun x S1 v H1 μ1 h1 f1 w1 en1 px1 r1 => ?_
  cases (r1 : v = x)
  split
  · rename_i hv
    rw [if_pos hv] at h1
    exact ⟨μ1, S1, ρ, De, Ed, w1, en1, h1, k.fw f1, px1⟩
  · rename_i hv
    rw [if_neg hv] at h1
    exact ⟨μ1, S1, ρ, De, Ed, w1, en1, h1, k.fw f1, px1⟩
end
/-! ## targets -/
def tG (c : Ct) (E : XK) (g : FG) : TG := fun v σ H Q => ∃ μ S ρ d Qd Ed, Wd c μ S H ∧ EnvR c μ H σ ρ ∧ Rp c μ H v d ∧ g d ρ S Qd Ed ∧ (∀ ρ' S' σ' H' μ', Qd ρ' S' → Fw μ H μ' H' → Wd c μ' S' H' → EnvR c μ' H' σ' ρ' → Q σ' H') ∧ PX c μ H Ed E
def tGs (c : Ct) (E : XK) (g : FGs) : TGs := fun vs σ H Q => ∃ μ S ρ ds Qd Ed, Wd c μ S H ∧ EnvR c μ H σ ρ ∧ RpAll c μ H vs ds ∧ g ds ρ S Qd Ed ∧ (∀ ρ' S' σ' H' μ', Qd ρ' S' → Fw μ H μ' H' → Wd c μ' S' H' → EnvR c μ' H' σ' ρ' → Q σ' H') ∧ PX c μ H Ed E
abbrev PGd (X : Cx) (E : XK) (tg : Expr) (g : FG) : Prop := PG X tg (tG (ct X) E g)
abbrev PGsd (X : Cx) (E : XK) (tgs : List Expr) (g : FGs) : Prop := PGs X tgs (tGs (ct X) E g)
/-- the slot i is filled, the list of slots written out -/
def setK : Rho → Nat → D → (Rho → Prop) → Prop
  | [], _, _, k => k []
  | _ :: r, 0, d, k => k (some d :: r)
  | x :: r, n + 1, d, k => setK r n d fun r' => k (x :: r')
theorem setK_eq : ∀ {ρ : Rho} {i : Nat} {d : D} {k : Rho → Prop}, setK ρ i d k → k (ρ.set i (some d))
  | [], _, _, _, h => h
  | _ :: r, 0, d, k, h => h
  | x :: r, n + 1, d, k, h => setK_eq (ρ := r) (i := n) (d := d) (k := fun r' => k (x :: r')) h
def gN (i : Nat) : FG := fun d ρ S Q _ => setK ρ i d fun ρ' => Q ρ' S
def gsNil : FGs := fun ds ρ S Q _ => match ds with
  | [] => Q ρ S
  | _ => False
def gsCons (g : FG) (gs : FGs) : FGs := fun ds ρ S Q Ed => match ds with
  | d :: r => g d ρ S (fun ρ1 S1 => gs r ρ1 S1 Q Ed) Ed
  | [] => False
def gTp (n : Nat) (gs : FGs) : FG := fun d ρ S Q Ed => match d with
  | .tup ds => ds.length = n ∧ gs ds ρ S Q Ed
  | _ => False
/-- o[i] = .. -/
def gSetI (fo fi : FE) : FG := fun d ρ S Q Ed => fo ρ S (fun x S1 => fi ρ S1 (fun y S2 => match y with
  | .int k => onSome (cellOf S2 x) fun nx => onSome (ixN nx.2.length k) fun j => Q ρ (S2.set nx.1 (.lst (nx.2.set j d)))
  | _ => False) Ed) Ed
section
variable {X : Cx} {E : XK} {pos : Pos} {tg e o ie : Expr} {es : List Expr} {g : FG} {gs : FGs} {fe fo fi : FE}
theorem PGs.imp {t t' : TGs} (h : PGs X es t) (k : ∀ v σ H Q, t' v σ H Q → t v σ H Q) : PGs X es t' := ⟨fun pins s σ H v u Q I r q => h.run pins s σ H v u Q I r (k v σ H Q q)⟩
theorem d_gn {i : Nat} (h : PG X tg (gName i)) : PGd X E tg (gN i) :=
  PG.imp h fun v σ H Q ⟨μ, S, ρ, d, Qd, Ed, w, en, r, hg, q, px⟩ => q _ S _ H μ (setK_eq (k := fun ρ' => Qd ρ' S) hg) Fw.refl w (en.set r)
theorem d_gnil : PGsd X E [] gsNil := by
  refine PGs.imp pgs_nil fun vs σ H Q ⟨μ, S, ρ, ds, Qd, Ed, w, en, r, hg, q, px⟩ => ?_
  unfold gsNil at hg
  split at hg
  · cases r
    exact ⟨rfl, q ρ S σ H μ hg Fw.refl w en⟩
  · exact hg.elim
theorem d_gcons (h1 : PGd X E e g) (h2 : PGsd X E es gs) (hs : (assignEach (e :: es) X.env).map (·.2) = assign e X.env :: (assignEach es X.env).map (·.2) := by rfl) : PGsd X E (e :: es) (gsCons g gs) := by
  refine PGs.imp (pgs_cons h1 h2 hs) fun vs σ H Q ⟨μ, S, ρ, ds, Qd, Ed, w, en, r, hg, q, px⟩ => ?_
  unfold gsCons at hg
  split at hg
  · cases r with
    | cons r1 r2 =>
      refine ⟨_, _, rfl, μ, S, ρ, _, _, Ed, w, en, r1, hg, fun ρ1 S1 σ1 H1 μ1 h1 f1 w1 en1 => ?_, px⟩
      exact ⟨μ1, S1, ρ1, _, Qd, Ed, w1, en1, r2.fw w f1, h1, fun ρ2 S2 σ2 H2 μ2 h2 f2 w2 en2 => q ρ2 S2 σ2 H2 μ2 h2 (f1.trans f2) w2 en2, px.fw f1⟩
  · exact hg.elim
theorem d_gtup {k n : Nat} (hc : X.calm = true) (h : PGsd X E es gs) (hn : (assignEach es X.env).length = n := by rfl) (hst : (assignEach es X.env).findIdx? (·.1) = none := by rfl) : PGd X E (.Tuple es k pos) (gTp n gs) := by
  refine PG.imp (pg_tup hc h hn hst) fun v σ H Q ⟨μ, S, ρ, d, Qd, Ed, w, en, r, hg, q, px⟩ => ?_
  unfold gTp at hg
  split at hg
  · obtain ⟨a, ws, rfl, ha, rs⟩ := r.tup_inv
    exact ⟨a, ws, rfl, SqT.of ha, by rw [rs.length]; exact hg.1, μ, S, ρ, _, Qd, Ed, w, en, rs, hg.2, q, px⟩
  · exact hg.elim
theorem d_gsub (ho : PEd X (cE E) o fo) (hi : PEd X (cE E) ie fi)
    (ha : ∀ v, assign (.Subscript o ie pos) X.env v = (do
      let ov ← holding [v] (eval o X.env)
      let iv ← holding [v, ov] (eval ie X.env)
      standAt pos
      holding [v, ov, iv] (setItem ov iv v)
      release [v, ov, iv] []) := by intro _; rfl) : PGd X E (.Subscript o ie pos) (gSetI fo fi) := by
  refine PG.imp (pg_sub ho hi set_list ha) fun v σ H Q ⟨μ, S, ρ, d, Qd, Ed, w, en, r, hg, q, px⟩ => ?_
  refine tR_of w en hg px fun x S1 vx H1 μ1 h1 f1 w1 en1 px1 r1 => ?_
  refine tR_of w1 en1 h1 px1 fun y S2 vy H2 μ2 h2 f2 w2 en2 px2 r2 => ?_
  split at h2
  · obtain ⟨⟨n, zs⟩, e, h2⟩ := onSome_of h2
    obtain ⟨j, e2, h2⟩ := onSome_of h2
    obtain ⟨a, vs, rfl, hm, hl, rz⟩ := w2.cellL (r1.fw w1 f2) e
    have fw : Fw μ2 H2 μ2 (upd H2 a (.lst (vs.set j v))) := Fw.write (List.mem_of_getElem? hm)
    have rd := ((r.fw w f1).fw w1 f2)
    refine ⟨a, vs, _, j, rfl, r2.int_inv, hl, by rw [rz.length]; exact e2, ?_⟩
    exact q ρ _ σ _ μ2 h2 (f1.trans (f2.trans fw)) (w2.set hm ⟨_, upd_same, (rz.set rd j).fw w2 fw⟩) (en2.fw w2 fw)
  · exact h2.elim
theorem d_asg (he : PEd X (cE E) e fe) (hg : PGd X E tg g) (hs : swapsWithSole [tg] e pos.line X.env = pure false := by rfl) (hw : swappedStores [tg] e X.env = pure none := by rfl)
    (h1 : (assignEach [tg] X.env).map (·.2) = [assign tg X.env] := by rfl) : PSd X E (.Assign [tg] e pos) (dAsg fe g) := by
  refine PS.imp (ps_asg he hg hs hw h1) fun D σ H ⟨μ, S, ρ, De, Ed, w, en, hf, k, px⟩ => ?_
  refine tR_of w en hf px fun x S1 v H1 μ1 h1 f1 w1 en1 px1 r1 => ?_
  exact ⟨μ1, S1, ρ, x, _, Ed, w1, en1, r1, h1, fun ρ2 S2 σ2 H2 μ2 h2 f2 w2 en2 => k.nx ρ2 S2 σ2 H2 μ2 h2 (f1.trans f2) w2 en2, px1⟩
theorem d_set {i : Nat} {x : Str} {pos' : Pos} (hN : X.N.Nodup) (hi : X.N[i]? = some x) (hx : Loc X.env.scope x) (he : PEd X (cE E) e fe) (hs : swapsWith e (some (.Name x pos')) pos.line X.env = pure false := by rfl)
    (hf : X.fn x = true ∨ X.env.scope.names.lookup x = some .local := by first | exact .inl rfl | exact .inr rfl | assumption) : PSd X E (.Assign [.Name x pos'] e pos) (dAsg fe (gN i)) := by
  refine PS.imp (ps_set hN hi hx he hs hf) fun D σ H ⟨μ, S, ρ, De, Ed, w, en, hf, k, px⟩ => ?_
  refine tR_of w en hf px fun x S1 v H1 μ1 h1 f1 w1 en1 px1 r1 => ?_
  exact k.nx _ S1 _ H1 μ1 (setK_eq (k := fun ρ' => De.nx ρ' S1) h1) f1 w1 (en1.set r1)
end
/-- a, b = x, y -/
def dPar (i j : Nat) (fa : FA) : FS := fun ρ S De Ed => fa ρ S (fun ds S1 => match ds with
  | [d, e] => setK ρ i d fun ρ1 => setK ρ1 j e fun ρ2 => De.nx ρ2 S1
  | _ => False) Ed
def dPar3 (i j l : Nat) (fa : FA) : FS := fun ρ S De Ed => fa ρ S (fun ds S1 => match ds with
  | [d, e, f] => setK ρ i d fun ρ1 => setK ρ1 j e fun ρ2 => setK ρ2 l f fun ρ3 => De.nx ρ3 S1
  | _ => False) Ed
section
variable {X : Cx} {E : XK} {pos : Pos} {a b c : Expr} {fa : FA}
theorem d_par {i j : Nat} {x y : Str} {px py pt : Pos} {kt k2 pt2} (hc : X.calm = true) (hN : X.N.Nodup) (hi : X.N[i]? = some x) (hj : X.N[j]? = some y) (hij : i ≠ j)
    (hx : X.env.scope.names.lookup x = some .local) (hy : X.env.scope.names.lookup y = some .local) (ha : PAd X (cE E) [a, b] fa)
    (hw : swappedStores [.Tuple [.Name x px, .Name y py] kt pt] (.Tuple [a, b] k2 pt2) X.env = pure (some [x, y]))
    (hs : swapsWithSole [.Tuple [.Name x px, .Name y py] kt pt] (.Tuple [a, b] k2 pt2) pos.line X.env = pure false := by rfl) :
    PSd X E (.Assign [.Tuple [.Name x px, .Name y py] kt pt] (.Tuple [a, b] k2 pt2) pos) (dPar i j fa) := by
  refine PS.imp (ps_par hc hN hi hj hij hx hy ha hw hs) fun D σ H ⟨μ, S, ρ, De, Ed, w, en, hf, k, px⟩ => ?_
  refine tR_of w en hf px fun ds S1 vs H1 μ1 h1 f1 w1 en1 px1 r1 => ?_
  split at h1
  · obtain ⟨u, v, rfl, ru, rv⟩ := r1.two
    exact ⟨u, v, rfl, k.nx _ S1 _ H1 μ1 (setK_eq (k := fun ρ2 => De.nx ρ2 S1) (setK_eq (k := fun ρ1 => setK ρ1 _ _ fun ρ2 => De.nx ρ2 S1) h1)) f1 w1 ((en1.set ru).set rv)⟩
  · exact h1.elim
theorem d_par3 {i j l : Nat} {x y z : Str} {px py pz pt : Pos} {kt k2 pt2} (hc : X.calm = true) (hN : X.N.Nodup) (hi : X.N[i]? = some x) (hj : X.N[j]? = some y) (hl : X.N[l]? = some z) (hij : i ≠ j) (hil : i ≠ l) (hjl : j ≠ l)
    (hx : X.env.scope.names.lookup x = some .local) (hy : X.env.scope.names.lookup y = some .local) (hz : X.env.scope.names.lookup z = some .local) (ha : PAd X (cE E) [a, b, c] fa)
    (hw : swappedStores [.Tuple [.Name x px, .Name y py, .Name z pz] kt pt] (.Tuple [a, b, c] k2 pt2) X.env = pure (some [x, y, z]))
    (hs : swapsWithSole [.Tuple [.Name x px, .Name y py, .Name z pz] kt pt] (.Tuple [a, b, c] k2 pt2) pos.line X.env = pure false := by rfl) :
    PSd X E (.Assign [.Tuple [.Name x px, .Name y py, .Name z pz] kt pt] (.Tuple [a, b, c] k2 pt2) pos) (dPar3 i j l fa) := by
  refine PS.imp (ps_par3 hc hN hi hj hl hij hil hjl hx hy hz ha hw hs) fun D σ H ⟨μ, S, ρ, De, Ed, w, en, hf, k, px⟩ => ?_
  refine tR_of w en hf px fun ds S1 vs H1 μ1 h1 f1 w1 en1 px1 r1 => ?_
  split at h1
  · cases r1 with
    | cons r0 r1 =>
      obtain ⟨u, v, rfl, ru, rv⟩ := r1.two
      exact ⟨_, u, v, rfl, k.nx _ S1 _ H1 μ1 (setK_eq (k := fun ρ3 => De.nx ρ3 S1) (setK_eq (k := fun ρ2 => setK ρ2 _ _ fun ρ3 => De.nx ρ3 S1) (setK_eq (k := fun ρ1 => setK ρ1 _ _ fun ρ2 => setK ρ2 _ _ fun ρ3 => De.nx ρ3 S1) h1))) f1 w1 (((en1.set r0).set ru).set rv)⟩
  · exact h1.elim
end
end Pu
namespace Pu
open PySem PySem.Spec PyProof.Rows L2
/-! ## what a loop walks: its items, the cells that must stay as they are -/
abbrev Src := List (Nat × List D)
def srcOk : Src → Sto → Prop → Prop
  | [], _, P => P
  | (n, xs) :: r, S, P => S[n]? = some (.lst xs) ∧ srcOk r S P
theorem srcOk_iff {src : Src} {S : Sto} {P : Prop} : srcOk src S P ↔ (∀ p ∈ src, S[p.1]? = some (.lst p.2)) ∧ P := by
  induction src with
  | nil => exact ⟨fun h => ⟨(fun _ z => nomatch z), h⟩, fun h => h.2⟩
  | cons p r ih =>
    obtain ⟨n, xs⟩ := p
    constructor
    · rintro ⟨h1, h2⟩
      obtain ⟨h3, h4⟩ := ih.mp h2
      refine ⟨fun q hq => ?_, h4⟩
      rcases List.mem_cons.mp hq with rfl | hq
      · exact h1
      · exact h3 q hq
    · rintro ⟨h1, h2⟩
      exact ⟨h1 _ List.mem_cons_self, ih.mpr ⟨fun q hq => h1 q (List.mem_cons_of_mem _ hq), h2⟩⟩
def src1 (n : Nat) : Option (List D) → Src
  | some xs => [(n, xs)]
  | none => []
def srcOf (S : Sto) : D → Src
  | .cell n => src1 n (lstAt S[n]?)
  | _ => []
theorem srcOf_seq {S S' : Sto} {d : D} {xs : List D} (e : seqOf S d = some xs) (h : ∀ p ∈ srcOf S d, S'[p.1]? = some (.lst p.2)) : seqOf S' d = some xs := by
  cases d with
  | cell n =>
    have e' : lstAt S[n]? = some xs := e
    have h1 : srcOf S (.cell n) = [(n, xs)] := by show src1 n (lstAt S[n]?) = _; rw [e']; rfl
    rw [h1] at h
    have := h (n, xs) List.mem_cons_self
    show lstAt S'[n]? = some xs
    rw [this]
    rfl
  | _ => exact e
structure ItOk (c : Ct) (J : It) (items : List D) (src : Src) (Anc : Mu → Hp → Prop) : Prop where
  keep : ∀ {μ H μ' H'}, Anc μ H → Kp c μ H μ' H' → Anc μ' H'
  go : ∀ {μ S H}, Anc μ H → Wd c μ S H → (∀ p ∈ src, S[p.1]? = some (.lst p.2)) → ∀ (i : Nat) (d : D), items[i]? = some d → J.go i H ∧ ∀ x H', J.yld i H x H' → Fw μ H μ H' ∧ Wd c μ S H' ∧ Rp c μ H' x d
  stop : ∀ {μ S H}, Anc μ H → Wd c μ S H → (∀ p ∈ src, S[p.1]? = some (.lst p.2)) → J.stop items.length H
abbrev FI := FX (List D × Src)
def tI (c : Ct) (E : L2.St → XK) (fi : FI) : TI := fun σ H R => ∃ μ S ρ Qi Ed, Wd c μ S H ∧ EnvR c μ H σ ρ ∧ fi ρ S Qi Ed ∧
  (∀ is S' H' μ' J Anc, Qi is S' → Fw μ H μ' H' → Wd c μ' S' H' → ItOk c J is.1 is.2 Anc → Anc μ' H' → (∀ p ∈ is.2, S'[p.1]? = some (.lst p.2)) → R J H') ∧ PX c μ H Ed (E σ)
abbrev PId (X : Cx) (E : L2.St → XK) (tg e : Expr) (fi : FI) : Prop := PI X tg e (tI (ct X) E fi)
theorem PI.imp {X : Cx} {tg e : Expr} {t t' : TI} (h : PI X tg e t) (k : ∀ σ H R, t' σ H R → t σ H R) : PI X tg e t' := ⟨fun pins s σ H R I q => h.run pins s σ H R I (k σ H R q)⟩
theorem srcOf_ok {S : Sto} {d : D} {xs : List D} (e : seqOf S d = some xs) : ∀ p ∈ srcOf S d, S[p.1]? = some (.lst p.2) := by
  intro p hp
  cases d with
  | cell n =>
    have e' : lstAt S[n]? = some xs := e
    have h1 : srcOf S (.cell n) = [(n, xs)] := by show src1 n (lstAt S[n]?) = _; rw [e']; rfl
    rw [h1] at hp
    cases List.mem_singleton.mp hp
    exact lstAt_inv e'
  | _ => cases hp
/-! ### a list or a tuple -/
def iSeq (K : PySem.W.Frag) (tl : TE) : TI := fun σ H R => tl σ H fun x H1 => ∃ a, x = .ref a ∧ (((∃ xs, SqL K H1 a xs) ∧ R (Itl K a) H1) ∨ ((∃ xs, SqT K H1 a xs) ∧ R (Itt K a) H1))
section
variable {X : Cx} {E : L2.St → XK} {tg e : Expr} {fe : FE} {fa : FA}
theorem pi_seq {tl : TE} (hl : PE X e tl) : PI X tg e (iSeq X.K tl) := by
  constructor
  intro pins s σ H R I h
  refine thn (hl.run pins s σ H _ I h) fun v s1 hv => ?_
  obtain ⟨x, H1, I1, r1, a, rfl, q⟩ := hv
  cases r1
  have own : ∀ b, b ∈ [s1.heap.objs.size] → FpOk X pins H1 b := fun b hb => by
    rw [List.mem_singleton.mp hb]
    exact I1.fpOk (Nat.le_refl _) (I1.hok.fresh (Nat.le_refl _))
  rcases q with ⟨⟨xs, hq⟩, q⟩ | ⟨⟨xs, hq⟩, q⟩
  · obtain ⟨its, rv, pl, _⟩ := I1.list hq
    exact wpAny_pyIter_list pl.isList
      ⟨_, _, _, _, H1, rfl, I1.kept (t' := s1.toks) (fun b o eb => Heap.get?_push_of_some _ eb), turn_list a _, ⟨_, Heap.get?_push_size _ rfl, rfl, rfl⟩, own, q⟩
  · obtain ⟨its, rv, pl, _⟩ := I1.tuple hq
    exact wpAny_pyIter_tuple (Rb.isTup_isTuple pl)
      ⟨_, _, _, _, H1, rfl, I1.kept (t' := s1.toks) (fun b o eb => Heap.get?_push_of_some _ eb), turn_tuple a _, ⟨_, Heap.get?_push_size _ rfl, rfl, rfl⟩, own, q⟩
def dItS (fe : FE) : FI := fun ρ S Q Ed => fe ρ S (fun d S1 => onSome (seqOf S1 d) fun xs => Q (xs, srcOf S1 d) S1) Ed
theorem itl_ok {c : Ct} {S0 : Sto} {a : Addr} {d : D} {xs : List D} (hn : ∀ ys, d ≠ .tup ys) (e : seqOf S0 d = some xs) : ItOk c (Itl c.K a) xs (srcOf S0 d) (fun μ H => Rp c μ H (.ref a) d) where
  keep := fun r k => r.kp k
  go := fun {μ S H} r w hs i x hx => by
    rcases r.seq2 w (srcOf_seq e hs) with ⟨_, _, rfl, _⟩ | ⟨b, vs, eb, hq, rs⟩
    · exact absurd rfl (hn _)
    cases eb
    obtain ⟨v, ev, rv⟩ := rs.at hx
    refine ⟨⟨vs, v, hq, ev⟩, fun y H' hy => ?_⟩
    obtain ⟨rfl, hy⟩ := hy
    have := hy vs hq
    rw [ev] at this
    cases this
    exact ⟨Fw.refl, w, rv⟩
  stop := fun {μ S H} r w hs => by
    rcases r.seq2 w (srcOf_seq e hs) with ⟨_, _, rfl, _⟩ | ⟨b, vs, eb, hq, rs⟩
    · exact absurd rfl (hn _)
    cases eb
    exact ⟨vs, hq, by rw [rs.length]; exact Nat.le_refl _⟩
theorem itt_ok {c : Ct} {a : Addr} {xs : List D} : ItOk c (Itt c.K a) xs [] (fun μ H => Rp c μ H (.ref a) (.tup xs)) where
  keep := fun r k => r.kp k
  go := fun {μ S H} r w hs i x hx => by
    obtain ⟨b, vs, eb, ha, rs⟩ := r.tup_inv
    cases eb
    obtain ⟨v, ev, rv⟩ := rs.at hx
    refine ⟨⟨vs, v, SqT.of ha, ev⟩, fun y H' hy => ?_⟩
    obtain ⟨rfl, hy⟩ := hy
    have := hy vs (SqT.of ha)
    rw [ev] at this
    cases this
    exact ⟨Fw.refl, w, rv⟩
  stop := fun {μ S H} r w hs => by
    obtain ⟨b, vs, eb, ha, rs⟩ := r.tup_inv
    cases eb
    exact ⟨vs, SqT.of ha, by rw [rs.length]; exact Nat.le_refl _⟩
theorem d_iseq (he : PEd X E e fe) : PId X E tg e (dItS fe) := by
  refine PI.imp (pi_seq he) fun σ H R ⟨μ, S, ρ, Qi, Ed, w, en, hf, q, px⟩ => ?_
  refine tR_of w en hf px fun d S1 v H1 μ1 h1 f1 w1 en1 px1 r1 => ?_
  obtain ⟨xs, e1, hq⟩ := onSome_of h1
  rcases r1.seq2 w1 e1 with ⟨a, vs, rfl, rfl, ha, rs⟩ | ⟨a, vs, rfl, hs, rs⟩
  · exact ⟨a, rfl, .inr ⟨⟨vs, SqT.of ha⟩, q _ S1 H1 μ1 _ _ hq f1 w1 itt_ok r1 (fun _ z => nomatch z)⟩⟩
  · by_cases ht : ∃ ys, d = .tup ys
    · obtain ⟨ys, rfl⟩ := ht
      cases e1
      obtain ⟨b, ws, eb, hb, rs'⟩ := r1.tup_inv
      cases eb
      exact ⟨a, rfl, .inr ⟨⟨ws, SqT.of hb⟩, q _ S1 H1 μ1 _ _ hq f1 w1 itt_ok r1 (fun _ z => nomatch z)⟩⟩
    · exact ⟨a, rfl, .inl ⟨⟨vs, hs⟩, q _ S1 H1 μ1 _ _ hq f1 w1 (itl_ok (fun ys z => ht ⟨ys, z⟩) e1) r1 (srcOf_ok e1)⟩⟩
/-! ### range -/
def rangeD (lo : Int) (n : Nat) : List D := (List.range n).map fun i : Nat => D.int (lo + (i : Int))
theorem rangeD_get {lo : Int} {n i : Nat} {d : D} (h : (rangeD lo n)[i]? = some d) : i < n ∧ d = .int (lo + (i : Int)) := by
  unfold rangeD at h
  rw [List.getElem?_map] at h
  obtain ⟨j, e1, rfl⟩ := Option.map_eq_some_iff.mp h
  obtain ⟨h1, h2⟩ := List.getElem?_eq_some_iff.mp e1
  rw [List.getElem_range] at h2
  rw [List.length_range] at h1
  subst h2
  exact ⟨h1, rfl⟩
theorem itr_ok {c : Ct} {lo : Int} {n : Nat} : ItOk c (Itr lo n) (rangeD lo n) [] (fun _ _ => True) where
  keep := fun _ _ => trivial
  go := fun {μ S H} _ w _ i d hd => by
    obtain ⟨h1, rfl⟩ := rangeD_get hd
    refine ⟨h1, fun x H' hy => ?_⟩
    obtain ⟨rfl, rfl⟩ := hy
    exact ⟨Fw.refl, w, .int _⟩
  stop := fun {μ S H} _ _ _ => by
    show n ≤ (rangeD lo n).length
    unfold rangeD
    rw [List.length_map, List.length_range]
    exact Nat.le_refl _
def dRng1 (fa : FA) : FI := fun ρ S Q Ed => fa ρ S (fun ds S1 => match ds with
  | [.int j] => (-(2 ^ 62) ≤ j ∧ j < 2 ^ 62) ∧ Q (rangeD 0 j.toNat, []) S1
  | _ => False) Ed
def dRng2 (fa : FA) : FI := fun ρ S Q Ed => fa ρ S (fun ds S1 => match ds with
  | [.int i, .int j] => (-(2 ^ 62) ≤ i ∧ i < 2 ^ 62 ∧ -(2 ^ 62) ≤ j ∧ j < 2 ^ 62) ∧ Q (rangeD i (j - i).toNat, []) S1
  | _ => False) Ed
theorem d_rng1 {a : Expr} {p pos : Pos} (hg : Gl X "range") (hm : X.mg "range" = none) (ha : PAd X E [a] fa) (hs : starEach [a] X.env = [(false, eval a X.env)] := by rfl) : PId X E tg (.Call (.Name "range" p) [a] [] pos) (dRng1 fa) := by
  refine PI.imp (pi_range1 hg hm ha hs) fun σ H R ⟨μ, S, ρ, Qi, Ed, w, en, hf, q, px⟩ => ?_
  refine tR_of w en hf px fun ds S1 vs H1 μ1 h1 f1 w1 en1 px1 r1 => ?_
  split at h1
  · obtain ⟨v, rfl, rv⟩ := r1.one
    cases rv.int_inv
    exact ⟨_, rfl, h1.1.1, h1.1.2, q _ S1 H1 μ1 _ _ h1.2 f1 w1 itr_ok trivial (fun _ z => nomatch z)⟩
  · exact h1.elim
/-! ### enumerate -/
def enumD (xs : List D) : List D := xs.mapIdx fun i x => D.tup [.int (i : Int), x]
theorem enumD_get {xs : List D} {i : Nat} {d : D} (h : (enumD xs)[i]? = some d) : ∃ x, xs[i]? = some x ∧ d = .tup [.int (i : Int), x] := by
  unfold enumD at h
  rw [List.getElem?_mapIdx] at h
  obtain ⟨x, e1, rfl⟩ := Option.map_eq_some_iff.mp h
  exact ⟨x, e1, rfl⟩
theorem Wd.pair {c : Ct} {μ : Mu} {S : Sto} {H : Hp} (w : Wd c μ S H) {x y : V} {d e : D} (rx : Rp c μ H x d) (ry : Rp c μ H y e) {T : Addr} (hT : H T = none) : Fw μ H μ (upd H T (.tup [x, y])) ∧ Wd c μ S (upd H T (.tup [x, y])) ∧ Rp c μ (upd H T (.tup [x, y])) (.ref T) (.tup [d, e]) :=
  ⟨Fw.new hT, w.new hT, .tup upd_same (.cons (rx.fw w (Fw.new hT)) (.cons (ry.fw w (Fw.new hT)) .nil))⟩
theorem ite_ok {c : Ct} {S0 : Sto} {a : Addr} {d : D} {xs : List D} (hn : ∀ ys, d ≠ .tup ys) (e : seqOf S0 d = some xs) : ItOk c (Ite c.K a) (enumD xs) (srcOf S0 d) (fun μ H => Rp c μ H (.ref a) d) where
  keep := fun r k => r.kp k
  go := fun {μ S H} r w hs i x hx => by
    rcases r.seq2 w (srcOf_seq e hs) with ⟨_, _, rfl, _⟩ | ⟨b, vs, eb, hq, rs⟩
    · exact absurd rfl (hn _)
    cases eb
    obtain ⟨z, ez, rfl⟩ := enumD_get hx
    obtain ⟨v, ev, rv⟩ := rs.at ez
    refine ⟨⟨vs, v, hq, ev⟩, fun y H' hy => ?_⟩
    obtain ⟨T, u, rfl, hT, rfl, hy⟩ := hy
    have := hy vs hq
    rw [ev] at this
    cases this
    exact w.pair (.int _) rv hT
  stop := fun {μ S H} r w hs => by
    rcases r.seq2 w (srcOf_seq e hs) with ⟨_, _, rfl, _⟩ | ⟨b, vs, eb, hq, rs⟩
    · exact absurd rfl (hn _)
    cases eb
    refine ⟨vs, hq, ?_⟩
    unfold enumD
    rw [List.length_mapIdx, rs.length]
    exact Nat.le_refl _
theorem itE_ok {c : Ct} {a : Addr} {xs : List D} : ItOk c (Rb.ItE c.K a) (enumD xs) [] (fun μ H => Rp c μ H (.ref a) (.tup xs)) where
  keep := fun r k => r.kp k
  go := fun {μ S H} r w hs i x hx => by
    obtain ⟨b, vs, eb, ha, rs⟩ := r.tup_inv
    cases eb
    obtain ⟨z, ez, rfl⟩ := enumD_get hx
    obtain ⟨v, ev, rv⟩ := rs.at ez
    refine ⟨⟨vs, v, SqT.of ha, ev⟩, fun y H' hy => ?_⟩
    obtain ⟨T, u, rfl, hT, rfl, hy⟩ := hy
    have := hy vs (SqT.of ha)
    rw [ev] at this
    cases this
    exact w.pair (.int _) rv hT
  stop := fun {μ S H} r w hs => by
    obtain ⟨b, vs, eb, ha, rs⟩ := r.tup_inv
    cases eb
    refine ⟨vs, SqT.of ha, ?_⟩
    unfold enumD
    rw [List.length_mapIdx, rs.length]
def dEnT (fa : FA) : FI := fun ρ S Q Ed => fa ρ S (fun ds S1 => match ds with
  | [.tup xs] => Q (enumD xs, []) S1
  | _ => False) Ed
def dEnL (fa : FA) : FI := fun ρ S Q Ed => fa ρ S (fun ds S1 => match ds with
  | [d] => onSome (lstOf S1 d) fun xs => Q (enumD xs, srcOf S1 d) S1
  | _ => False) Ed
theorem lst_seq {S : Sto} {d : D} {xs : List D} (e : lstOf S d = some xs) : seqOf S d = some xs ∧ ∀ ys, d ≠ .tup ys := by
  cases d with
  | lst k ys => exact ⟨e, fun _ z => nomatch z⟩
  | cell n => exact ⟨e, fun _ z => nomatch z⟩
  | _ => cases e
theorem d_enT {elts : List Expr} {kk : Nat} {p pos tp : Pos} (hg : Gl X "enumerate") (hm : X.mg "enumerate" = none) (ha : PAd X E [e] fa) (hs : starEach [e] X.env = [(false, eval e X.env)] := by rfl) : PId X E (.Tuple elts kk tp) (.Call (.Name "enumerate" p) [e] [] pos) (dEnT fa) := by
  refine PI.imp (Rb.pi_enumT hg hm ha hs) fun σ H R ⟨μ, S, ρ, Qi, Ed, w, en, hf, q, px⟩ => ?_
  refine tR_of w en hf px fun ds S1 vs H1 μ1 h1 f1 w1 en1 px1 r1 => ?_
  split at h1
  · obtain ⟨v, rfl, rv⟩ := r1.one
    obtain ⟨a, ws, rfl, ha', rs⟩ := id rv.tup_inv
    exact ⟨a, ws, rfl, SqT.of ha', q _ S1 H1 μ1 _ _ h1 f1 w1 itE_ok rv (fun _ z => nomatch z)⟩
  · exact h1.elim
theorem d_enL {elts : List Expr} {kk : Nat} {p pos tp : Pos} (hg : Gl X "enumerate") (hm : X.mg "enumerate" = none) (ha : PAd X E [e] fa) (hs : starEach [e] X.env = [(false, eval e X.env)] := by rfl) : PId X E (.Tuple elts kk tp) (.Call (.Name "enumerate" p) [e] [] pos) (dEnL fa) := by
  refine PI.imp (pi_enum hg hm ha hs) fun σ H R ⟨μ, S, ρ, Qi, Ed, w, en, hf, q, px⟩ => ?_
  refine tR_of w en hf px fun ds S1 vs H1 μ1 h1 f1 w1 en1 px1 r1 => ?_
  split at h1
  · obtain ⟨v, rfl, rv⟩ := r1.one
    obtain ⟨xs, e1, hq⟩ := onSome_of h1
    obtain ⟨a, ws, rfl, hs, rs⟩ := rv.lstT w1 e1
    obtain ⟨e2, hn⟩ := lst_seq e1
    exact ⟨a, ws, rfl, SqL.of hs, q _ S1 H1 μ1 _ _ hq f1 w1 (ite_ok hn e2) rv (srcOf_ok e2)⟩
  · exact h1.elim
/-! ### zip -/
def zipD : List D → List D → List D
  | x :: xs, y :: ys => D.tup [x, y] :: zipD xs ys
  | _, _ => []
theorem zipD_get : ∀ {xs ys : List D} {i : Nat} {d : D}, (zipD xs ys)[i]? = some d → ∃ x y, xs[i]? = some x ∧ ys[i]? = some y ∧ d = .tup [x, y]
  | x :: xs, y :: ys, 0, d, h => by cases h; exact ⟨x, y, rfl, rfl, rfl⟩
  | x :: xs, y :: ys, i + 1, d, h => zipD_get (xs := xs) (ys := ys) (i := i) h
  | [], _, _, _, h => by cases h
  | _ :: _, [], _, _, h => by cases h
theorem zipD_len : ∀ {xs ys : List D}, xs.length ≤ (zipD xs ys).length ∨ ys.length ≤ (zipD xs ys).length
  | x :: xs, y :: ys => by
    rcases zipD_len (xs := xs) (ys := ys) with h | h
    · exact .inl (Nat.succ_le_succ h)
    · exact .inr (Nat.succ_le_succ h)
  | [], _ => .inl (Nat.zero_le _)
  | _ :: _, [] => .inr (Nat.zero_le _)
theorem itzT_ok {c : Ct} {a b : Addr} {xs ys : List D} : ItOk c (RZ.ItzT c.K a b) (zipD xs ys) [] (fun μ H => Rp c μ H (.ref a) (.tup xs) ∧ Rp c μ H (.ref b) (.tup ys)) where
  keep := fun r k => ⟨r.1.kp k, r.2.kp k⟩
  go := fun {μ S H} r w hs i x hx => by
    obtain ⟨a', vs, ea, ha, ra⟩ := r.1.tup_inv
    obtain ⟨b', us, eb, hb, rb⟩ := r.2.tup_inv
    cases ea
    cases eb
    obtain ⟨p, q, ep, eq, rfl⟩ := zipD_get hx
    obtain ⟨v, ev, rv⟩ := ra.at ep
    obtain ⟨u, eu, ru⟩ := rb.at eq
    refine ⟨⟨vs, us, v, u, SqT.of ha, SqT.of hb, ev, eu⟩, fun y H' hy => ?_⟩
    obtain ⟨T, v2, u2, rfl, hT, rfl, h1, h2⟩ := hy
    have := h1 vs (SqT.of ha)
    rw [ev] at this
    cases this
    have := h2 us (SqT.of hb)
    rw [eu] at this
    cases this
    exact w.pair rv ru hT
  stop := fun {μ S H} r w hs => by
    obtain ⟨a', vs, ea, ha, ra⟩ := r.1.tup_inv
    obtain ⟨b', us, eb, hb, rb⟩ := r.2.tup_inv
    cases ea
    cases eb
    exact ⟨vs, us, SqT.of ha, SqT.of hb, by rw [ra.length, rb.length]; exact zipD_len⟩
theorem itz_ok {c : Ct} {S0 : Sto} {a b : Addr} {d e : D} {xs ys : List D} (nd : ∀ zs, d ≠ .tup zs) (ne : ∀ zs, e ≠ .tup zs) (ed : seqOf S0 d = some xs) (ee : seqOf S0 e = some ys) :
    ItOk c (Itz c.K a b) (zipD xs ys) (srcOf S0 d ++ srcOf S0 e) (fun μ H => Rp c μ H (.ref a) d ∧ Rp c μ H (.ref b) e) where
  keep := fun r k => ⟨r.1.kp k, r.2.kp k⟩
  go := fun {μ S H} r w hs i x hx => by
    rcases r.1.seq2 w (srcOf_seq ed fun p hp => hs p (List.mem_append_left _ hp)) with ⟨_, _, rfl, _⟩ | ⟨a', vs, ea, ha, ra⟩
    · exact absurd rfl (nd _)
    rcases r.2.seq2 w (srcOf_seq ee fun p hp => hs p (List.mem_append_right _ hp)) with ⟨_, _, rfl, _⟩ | ⟨b', us, eb, hb, rb⟩
    · exact absurd rfl (ne _)
    cases ea
    cases eb
    obtain ⟨p, q, ep, eq, rfl⟩ := zipD_get hx
    obtain ⟨v, ev, rv⟩ := ra.at ep
    obtain ⟨u, eu, ru⟩ := rb.at eq
    refine ⟨⟨vs, us, v, u, ha, hb, ev, eu⟩, fun y H' hy => ?_⟩
    obtain ⟨T, v2, u2, rfl, hT, rfl, h1, h2⟩ := hy
    have := h1 vs ha
    rw [ev] at this
    cases this
    have := h2 us hb
    rw [eu] at this
    cases this
    exact w.pair rv ru hT
  stop := fun {μ S H} r w hs => by
    rcases r.1.seq2 w (srcOf_seq ed fun p hp => hs p (List.mem_append_left _ hp)) with ⟨_, _, rfl, _⟩ | ⟨a', vs, ea, ha, ra⟩
    · exact absurd rfl (nd _)
    rcases r.2.seq2 w (srcOf_seq ee fun p hp => hs p (List.mem_append_right _ hp)) with ⟨_, _, rfl, _⟩ | ⟨b', us, eb, hb, rb⟩
    · exact absurd rfl (ne _)
    cases ea
    cases eb
    exact ⟨vs, us, ha, hb, by rw [ra.length, rb.length]; exact zipD_len⟩
def dZip (fa : FA) : FI := fun ρ S Q Ed => fa ρ S (fun ds S1 => match ds with
  | [.tup xs, .tup ys] => Q (zipD xs ys, []) S1
  | [d, e] => onSome (lstOf S1 d) fun xs => onSome (lstOf S1 e) fun ys => Q (zipD xs ys, srcOf S1 d ++ srcOf S1 e) S1
  | _ => False) Ed
theorem d_zip {e2 : Expr} {elts : List Expr} {kk : Nat} {p pos tp : Pos} (hg : Gl X "zip") (hm : X.mg "zip" = none) (ha : PAd X E [e, e2] fa)
    (hs : starEach [e, e2] X.env = (false, eval e X.env) :: starEach [e2] X.env := by rfl) (hpl : (backTo pos (starEach [e2] X.env)).any (·.1) = false := by rfl) : PId X E (.Tuple elts kk tp) (.Call (.Name "zip" p) [e, e2] [] pos) (dZip fa) := by
  refine PI.imp (RZ.pi_zipA hg hm ha hs hpl) fun σ H R ⟨μ, S, ρ, Qi, Ed, w, en, hf, q, px⟩ => ?_
  refine tR_of w en hf px fun ds S1 vs H1 μ1 h1 f1 w1 en1 px1 r1 => ?_
  split at h1
  · obtain ⟨v, u, rfl, rv, ru⟩ := r1.two
    obtain ⟨a, ws, rfl, ha', rs⟩ := id rv.tup_inv
    obtain ⟨b, us, rfl, hb', rt⟩ := id ru.tup_inv
    exact ⟨a, b, ws, us, rfl, .inr ⟨SqT.of ha', SqT.of hb', q _ S1 H1 μ1 _ _ h1 f1 w1 itzT_ok ⟨rv, ru⟩ (fun _ z => nomatch z)⟩⟩
  · obtain ⟨v, u, rfl, rv, ru⟩ := r1.two
    obtain ⟨xs, e1, h1⟩ := onSome_of h1
    obtain ⟨ys, e2, hq⟩ := onSome_of h1
    obtain ⟨a, ws, rfl, hs1, rs⟩ := rv.lstT w1 e1
    obtain ⟨b, us, rfl, hs2, rt⟩ := ru.lstT w1 e2
    obtain ⟨e3, n3⟩ := lst_seq e1
    obtain ⟨e4, n4⟩ := lst_seq e2
    refine ⟨a, b, ws, us, rfl, .inl ⟨SqL.of hs1, SqL.of hs2, q _ S1 H1 μ1 _ _ hq f1 w1 (itz_ok n3 n4 e3 e4) ⟨rv, ru⟩ fun p hp => ?_⟩⟩
    rcases List.mem_append.mp hp with hp | hp
    · exact srcOf_ok e3 p hp
    · exact srcOf_ok e4 p hp
  · exact h1.elim
end
/-! ## for -/
def dLoop (g : FG) (fb : FS) (src : Src) : List D → FS
  | [], ρ, S, De, _ => De.nx ρ S
  | x :: xs, ρ, S, De, Ed => g x ρ S (fun ρ1 S1 => fb ρ1 S1 { nx := fun ρ2 S2 => srcOk src S2 (dLoop g fb src xs ρ2 S2 De Ed), ct := fun ρ2 S2 => srcOk src S2 (dLoop g fb src xs ρ2 S2 De Ed), bk := De.nx, rt := De.rt } Ed) Ed
def dFor (fi : FI) (g : FG) (fb : FS) : FS := fun ρ S De Ed => fi ρ S (fun is S1 => dLoop g fb is.2 is.1 ρ S1 De Ed) Ed
section
variable {X : Cx} {E : XK} {tg iter : Expr} {body : List Stmt} {fi : FI} {g : FG} {fb : FS} {pos : Pos}
theorem drop_cons {α : Type} {xs : List α} {i : Nat} {x : α} (h : xs[i]? = some x) : xs.drop i = x :: xs.drop (i + 1) := by
  obtain ⟨h1, h2⟩ := List.getElem?_eq_some_iff.mp h
  rw [List.drop_eq_getElem_cons h1, h2]
theorem d_for (hp : PassesOwn (model X.prog X.w) X.A X.env X.xe) (hc : X.calm = true) (hi : PId X (cE E) tg iter fi) (hg : PGd X E tg g) (hb : PBd X E body fb) (hs : ∀ x, foldedSetIterable iter X.env x = pure x := by intro _; rfl) : PSd X E (.For tg iter body [] pos) (dFor fi g fb) := by
  refine PS.imp (ps_for hp hc hi hg hb hs) fun D σ H ⟨μ, S, ρ, De, Ed, w, en, hf, k, px⟩ => ?_
  refine ⟨μ, S, ρ, _, Ed, w, en, hf, fun is S1 H1 μ1 J Anc h1 f1 w1 ok anc hsrc => ?_, px⟩
  obtain ⟨items, src⟩ := is
  refine ⟨fun i m σ' H' => m = items.length - i ∧ i ≤ items.length ∧ ∃ μ' S' ρ', Fw μ1 H1 μ' H' ∧ Wd (ct X) μ' S' H' ∧ EnvR (ct X) μ' H' σ' ρ' ∧ Anc μ' H' ∧ (∀ p ∈ src, S'[p.1]? = some (.lst p.2)) ∧ dLoop g fb src (items.drop i) ρ' S' De Ed,
    ⟨_, rfl, Nat.zero_le _, μ1, S1, ρ, Fw.refl, w1, en.fw w f1, anc, hsrc, h1⟩, ?_⟩
  rintro i m σ' H' ⟨rfl, hi, μ', S', ρ', f', w', en', anc', hs', h'⟩
  by_cases hlt : i < items.length
  · have hx := List.getElem?_eq_getElem hlt
    obtain ⟨go, yl⟩ := ok.go anc' w' hs' i _ hx
    rw [drop_cons hx] at h'
    refine .inr ⟨go, fun σ2 H2 => i + 1 ≤ items.length ∧ ∃ μ2 S2 ρ2, Fw μ1 H1 μ2 H2 ∧ Wd (ct X) μ2 S2 H2 ∧ EnvR (ct X) μ2 H2 σ2 ρ2 ∧ Anc μ2 H2 ∧ (∀ p ∈ src, S2[p.1]? = some (.lst p.2)) ∧ dLoop g fb src (items.drop (i + 1)) ρ2 S2 De Ed,
      fun σ2 H2 hN => ⟨_, by omega, rfl, hN.1, hN.2⟩, fun x H2 hy => ?_⟩
    obtain ⟨fy, wy, ry⟩ := yl x H2 hy
    refine ⟨μ', S', ρ', _, _, Ed, wy, en'.fw w' fy, ry, h', fun ρ3 S3 σ3 H3 μ3 h3 f3 w3 en3 => ?_, (px.fw f1).fw (f'.trans fy)⟩
    have ff := f1.trans (f'.trans (fy.trans f3))
    refine ⟨μ3, S3, ρ3, _, Ed, w3, en3, h3, ⟨fun ρ4 S4 σ4 H4 μ4 h4 f4 w4 en4 => ?_, k.rt.fw ff, fun ρ4 S4 σ4 H4 μ4 h4 f4 w4 en4 => k.nx ρ4 S4 σ4 H4 μ4 h4 (ff.trans f4) w4 en4, fun ρ4 S4 σ4 H4 μ4 h4 f4 w4 en4 => ?_⟩, px.fw ff⟩
    · obtain ⟨q1, q2⟩ := srcOk_iff.mp h4
      exact ⟨hlt, μ4, S4, ρ4, f'.trans (fy.trans (f3.trans f4)), w4, en4, ok.keep (ok.keep (ok.keep anc' (w'.kp fy)) (wy.kp f3)) (w3.kp f4), q1, q2⟩
    · obtain ⟨q1, q2⟩ := srcOk_iff.mp h4
      exact ⟨hlt, μ4, S4, ρ4, f'.trans (fy.trans (f3.trans f4)), w4, en4, ok.keep (ok.keep (ok.keep anc' (w'.kp fy)) (wy.kp f3)) (w3.kp f4), q1, q2⟩
  · have e : i = items.length := by omega
    subst e
    rw [List.drop_length] at h'
    exact .inl ⟨ok.stop anc' w' hs', k.nx ρ' S' σ' H' μ' h' (f1.trans f') w' en'⟩
end
end Pu
namespace Pu
open PySem PySem.Spec PyProof.Rows L2
/-! ## comprehensions -/
def noE : ED := fun _ _ => False
def dYes : FT := fun _ S Q _ => Q true S
def dCompL (st : D → Rho → Option Rho) (t : FT) (f : FE) (src : Src) : List D → List D → Rho → Sto → (List D → Sto → Prop) → Prop
  | [], acc, _, S, k => k acc S
  | x :: xs, acc, ρ, S, k => onSome (st x ρ) fun ρ1 => t ρ1 S (fun b S1 => if b = true then f ρ1 S1 (fun y S2 => srcOk src S2 (dCompL st t f src xs (acc ++ [y]) ρ S2 k)) noE else srcOk src S1 (dCompL st t f src xs acc ρ S1 k)) noE
def dLc (st : D → Rho → Option Rho) (t : FT) (f : FE) (fi : FI) : FE := fun ρ S Q Ed => fi ρ S (fun is S1 => is.1.length ≤ sizeLine ∧ dCompL st t f is.2 is.1 [] ρ S1 fun acc S2 => Q (.lst false acc) S2) Ed
/-- a list that will be changed -/
def dLcC (st : D → Rho → Option Rho) (t : FT) (f : FE) (fi : FI) : FE := fun ρ S Q Ed => fi ρ S (fun is S1 => is.1.length ≤ sizeLine ∧ dCompL st t f is.2 is.1 [] ρ S1 fun acc S2 => Q (.cell S2.length) (S2 ++ [.lst acc])) Ed
def st1 (j : Nat) : D → Rho → Option Rho := fun x ρ => some (ρ.set j (some x))
def st2 (i j : Nat) : D → Rho → Option Rho := fun x ρ => match x with
  | .tup [a, b] => some ((ρ.set i (some a)).set j (some b))
  | _ => none
/-- what the target does -/
def LcT (c : Ct) (g : TG) (st : D → Rho → Option Rho) (vs : List Nat) : Prop :=
  ∀ {μ : Mu} {S : Sto} {H : Hp} {σ : L2.St} {ρ ρ1 : Rho} {x : V} {d : D} {k : L2.St → Hp → Prop}, Wd c μ S H → EnvR c μ H σ ρ → Rp c μ H x d → st d ρ = some ρ1 → (∀ σ2, EnvR c μ H σ2 ρ1 → wipe σ2 vs = wipe σ vs → k σ2 H) → g x (wipe σ vs) H k
theorem lct1 {c : Ct} {j : Nat} : LcT c (gName j) (st1 j) [j] := by
  intro μ S H σ ρ ρ1 x d k w en r e h
  cases e
  show k ((σ.set j none).set j (some x)) H
  rw [List.set_set]
  exact h _ (en.set r) (by show ((σ.set j (some x)).set j none) = σ.set j none; rw [List.set_set])
theorem lct2 {c : Ct} {i j : Nat} (ne : i ≠ j) : LcT c (gTup c.K 2 (gCons (gName i) (gCons (gName j) gNil))) (st2 i j) [i, j] := by
  intro μ S H σ ρ ρ1 x d k w en r e h
  unfold st2 at e
  split at e
  · cases e
    obtain ⟨a, vs, rfl, ha, ra⟩ := r.tup_inv
    obtain ⟨u, v, rfl, ru, rv⟩ := ra.two
    refine ⟨a, [u, v], rfl, SqT.of ha, rfl, u, [v], rfl, v, [], rfl, rfl, ?_⟩
    show k ((((σ.set j none).set i none).set i (some u)).set j (some v)) H
    rw [List.set_set, List.set_comm none (some u) (Ne.symm ne), List.set_set]
    refine h _ ((en.set ru).set rv) ?_
    show ((((σ.set i (some u)).set j (some v)).set j none).set i none) = ((σ.set j none).set i none)
    rw [List.set_set, List.set_comm none none (Ne.symm ne), List.set_set, List.set_comm none none ne]
  · cases e
section
variable {c : Ct} {m av : List Addr} {D1 : Addr} {H : Hp} {S : Sto} {vs : List V}
theorem kpD {ws : List V} (hD : H D1 = some (.lst vs)) : Kp c ⟨m, D1 :: av⟩ H ⟨m, D1 :: av⟩ (upd H D1 (.lst ws)) where
  t := fun a xs e => by rw [upd_ne (fun z => by rw [z, hD] at e; cases e)]; exact e
  l := fun a xs e n1 n2 => by
    have ne : a ≠ D1 := fun z => n2 (by rw [z]; exact List.mem_cons_self)
    rcases e with e | ⟨o, e⟩
    · exact ⟨.inl (by rw [upd_ne ne]; exact e), n1, n2⟩
    · exact ⟨.inr ⟨o, by rw [upd_ne ne]; exact e⟩, n1, n2⟩
  m := fun a xs e n1 n2 => ⟨by rw [upd_ne (fun z => n2 (by rw [z]; exact List.mem_cons_self))]; exact e, n1, n2⟩
  d := fun a ps e n n2 => ⟨by rw [upd_ne (fun z => by rw [z, hD] at e; cases e)]; exact e, n, n2⟩
  i := fun a C dx fs e n n2 => ⟨by rw [upd_ne (fun z => by rw [z, hD] at e; cases e)]; exact e, n, n2⟩
  cl := fun _ _ h => h
  x := fun a fv e => by rw [upd_ne (fun z => by rw [z, hD] at e; cases e)]; exact e
theorem wdD {ws : List V} (w : Wd c ⟨m, D1 :: av⟩ S H) (hD : H D1 = some (.lst vs)) : Wd c ⟨m, D1 :: av⟩ S (upd H D1 (.lst ws)) :=
  ⟨w.nd, w.len, w.ap, fun a h => upd_some (w.avs a h), fun i a x h1 h2 => ClOk.kp (kpD hD) (fun o e => by
    rw [upd_ne (fun z => w.ap a (List.mem_of_getElem? h1) (by rw [z]; exact List.mem_cons_self))]
    exact e) (w.ok i a x h1 h2)⟩
theorem kpStart {μ : Mu} (hD : H D1 = none) : Kp c μ H ⟨μ.m, D1 :: μ.av⟩ (upd H D1 (.lst [])) := by
  have av2 : ∀ {a : Addr} {o : HO}, H a = some o → a ∉ μ.av → a ∉ D1 :: μ.av := fun e n z => by
    rcases List.mem_cons.mp z with z | z
    · exact ne_of_none e hD z
    · exact n z
  refine ⟨fun a xs e => ?_, fun a xs e n1 n2 => ?_, fun a xs e n1 n2 => ⟨?_, n1, av2 e n2⟩, fun a ps e n n2 => ⟨?_, n, av2 e n2⟩, fun a C dx fs e n n2 => ⟨?_, n, av2 e n2⟩, (fun _ _ h => h), fun a fv e => ?_⟩
  · rw [upd_ne (ne_of_none e hD)]; exact e
  · rcases e with e | ⟨o, e⟩
    · exact ⟨.inl (by rw [upd_ne (ne_of_none e hD)]; exact e), n1, av2 e n2⟩
    · exact ⟨.inr ⟨o, by rw [upd_ne (ne_of_none e hD)]; exact e⟩, n1, av2 e n2⟩
  · rw [upd_ne (ne_of_none e hD)]; exact e
  · rw [upd_ne (ne_of_none e hD)]; exact e
  · rw [upd_ne (ne_of_none e hD)]; exact e
  · rw [upd_ne (ne_of_none e hD)]; exact e
theorem wdStart {μ : Mu} (w : Wd c μ S H) (hD : H D1 = none) : Wd c ⟨μ.m, D1 :: μ.av⟩ S (upd H D1 (.lst [])) :=
  ⟨w.nd, w.len, fun a h z => by
    rcases List.mem_cons.mp z with z | z
    · exact w.fresh hD (z ▸ h)
    · exact w.ap a h z, fun a h => by
    rcases List.mem_cons.mp h with h | h
    · rw [h, upd_same]; exact fun z => nomatch z
    · exact upd_some (w.avs a h), fun i a x h1 h2 => ClOk.kp (kpStart hD) (fun o e => by rw [upd_ne (ne_of_none e hD)]; exact e) (w.ok i a x h1 h2)⟩
theorem kpEnd : Kp c ⟨m, D1 :: av⟩ H ⟨m, av⟩ H :=
  ⟨fun _ _ e => e, fun _ _ e n1 n2 => ⟨e, n1, fun z => n2 (List.mem_cons_of_mem _ z)⟩, fun _ _ e n1 n2 => ⟨e, n1, fun z => n2 (List.mem_cons_of_mem _ z)⟩, fun _ _ e n1 n2 => ⟨e, n1, fun z => n2 (List.mem_cons_of_mem _ z)⟩, fun _ _ _ _ e n1 n2 => ⟨e, n1, fun z => n2 (List.mem_cons_of_mem _ z)⟩, (fun _ _ h => h), fun _ _ e => e⟩
theorem kpEndC (hD : H D1 = some (.lst vs)) : Kp c ⟨m, D1 :: av⟩ H ⟨m ++ [D1], av⟩ H := by
  have nm : ∀ {a : Addr}, a ∉ m → a ≠ D1 → a ∉ m ++ [D1] := fun n1 n2 z => by
    rcases List.mem_append.mp z with z | z
    · exact n1 z
    · exact n2 (List.mem_singleton.mp z)
  have ne : ∀ {a : Addr}, a ∉ D1 :: av → a ≠ D1 := fun n z => n (by rw [z]; exact List.mem_cons_self)
  refine ⟨fun _ _ e => e, fun _ _ e n1 n2 => ⟨e, nm n1 (ne n2), fun z => n2 (List.mem_cons_of_mem _ z)⟩, fun _ _ e n1 n2 => ⟨e, nm n1 (ne n2), fun z => n2 (List.mem_cons_of_mem _ z)⟩, fun a _ e n1 n2 => ⟨e, nm n1 (ne n2), fun z => n2 (List.mem_cons_of_mem _ z)⟩,
    fun a _ _ _ e n1 n2 => ⟨e, nm n1 (ne n2), fun z => n2 (List.mem_cons_of_mem _ z)⟩, fun n a h => ?_, fun _ _ e => e⟩
  show (m ++ [D1])[n]? = some a
  rw [List.getElem?_append_left (List.getElem?_eq_some_iff.mp (show m[n]? = some a from h)).1]
  exact h
end
/-- the state of a comprehension: D1 the list that is made -/
def LcI (c : Ct) (μ1 : Mu) (H1 : Hp) (D1 : Addr) (σ : L2.St) (ρ : Rho) (Anc : Mu → Hp → Prop) (src : Src) (i : Nat) (go : List D → Sto → Prop) (H : Hp) : Prop :=
  ∃ m' S' acc vs, acc.length ≤ i ∧ Wd c ⟨m', D1 :: μ1.av⟩ S' H ∧ (∃ t, m' = μ1.m ++ t) ∧ (∀ a o, H1 a = some o → a ∉ μ1.m → H a = some o ∧ a ∉ m') ∧ H D1 = some (.lst vs) ∧ RpAll c ⟨m', D1 :: μ1.av⟩ H vs acc ∧
    EnvR c ⟨m', D1 :: μ1.av⟩ H σ ρ ∧ Anc ⟨m', D1 :: μ1.av⟩ H ∧ (∀ p ∈ src, S'[p.1]? = some (.lst p.2)) ∧ go acc S'
theorem pxNo {c : Ct} {μ : Mu} {H : Hp} {E : XK} : PX c μ H noE E := fun _ _ _ _ _ _ h => h.elim
theorem lc_W {c : Ct} {g : TG} {st : D → Rho → Option Rho} {t : FT} {f : FE} {vs : List Nat} {μ1 : Mu} {S1 : Sto} {H1 : Hp} {σ : L2.St} {ρ : Rho} {J : It} {items : List D} {src : Src} {Anc : Mu → Hp → Prop} {k : List D → Sto → Prop} {D1 : Addr} {Qd : Hp → Prop} {E : L2.St → XK}
    (hT : LcT c g st vs) (w1 : Wd c μ1 S1 H1) (en1 : EnvR c μ1 H1 σ ρ) (ok : ItOk c J items src Anc) (anc : Anc μ1 H1) (hsrc : ∀ p ∈ src, S1[p.1]? = some (.lst p.2)) (hz : items.length ≤ sizeLine)
    (h : dCompL st t f src items [] ρ S1 k) (nD : H1 D1 = none) (fin : ∀ H, LcI c μ1 H1 D1 σ ρ Anc src items.length k H → Qd H) :
    ∃ W : Nat → Nat → Hp → Prop, (∃ m, W 0 m (upd H1 D1 (.lst []))) ∧ ∀ i m H, W i m H →
      (J.stop i H ∧ Qd H) ∨ (J.go i H ∧ ∃ Nx : Hp → Prop, (∀ H', Nx H' → ∃ m', m' < m ∧ W (i + 1) m' H') ∧ ∀ x H', J.yld i H x H' → g x (wipe σ vs) H' fun σ2 H2 => wipe σ2 vs = wipe σ vs ∧ tT c E t σ2 H2 fun b H3 =>
        if b = true then tD c E f σ2 H3 fun y H4 => ∃ acc, H4 D1 = some (.lst acc) ∧ acc.length < sizeLine ∧ Nx (upd H4 D1 (.lst (acc ++ [y]))) else Nx H3) := by
  refine ⟨fun i m H => m = items.length - i ∧ i ≤ items.length ∧ LcI c μ1 H1 D1 σ ρ Anc src i (fun acc S => dCompL st t f src (items.drop i) acc ρ S k) H, ⟨_, rfl, Nat.zero_le _, ?_⟩, ?_⟩
  · refine ⟨μ1.m, S1, [], [], Nat.le_refl _, wdStart w1 nD, ⟨[], by simp⟩, fun a o e n => ⟨?_, n⟩, upd_same, .nil, en1.kp (kpStart nD), ok.keep anc (kpStart nD), hsrc, h⟩
    rw [upd_ne (ne_of_none e nD)]
    exact e
  · rintro i m H ⟨rfl, hi, m', S', acc, ws, hl, w, ⟨tt, em⟩, keep, hD, ra, en, anc', hs', h'⟩
    by_cases hlt : i < items.length
    · have hx := List.getElem?_eq_getElem hlt
      obtain ⟨go, yl⟩ := ok.go anc' w hs' i _ hx
      rw [drop_cons hx] at h'
      refine .inr ⟨go, fun H' => i + 1 ≤ items.length ∧ LcI c μ1 H1 D1 σ ρ Anc src (i + 1) (fun acc S => dCompL st t f src (items.drop (i + 1)) acc ρ S k) H', fun H' hN => ⟨_, by omega, rfl, hN.1, hN.2⟩, fun x H2 hy => ?_⟩
      obtain ⟨fy, wy, ry⟩ := yl x H2 hy
      obtain ⟨ρ1, e1, h1⟩ := onSome_of h'
      refine hT wy (en.fw w fy) ry e1 fun σ2 en2 hw => ⟨hw, ?_⟩
      refine tR_of wy en2 h1 pxNo fun b S3 b' H3 μ3 h3 f3 w3 en3 px3 r3 => ?_
      cases (r3 : b' = b)
      have nDm : ∀ {μ : Mu} {S : Sto} {HH : Hp}, Wd c μ S HH → μ.av = D1 :: μ1.av → D1 ∉ μ.m := fun wx ex z => wx.ap D1 z (by rw [ex]; exact List.mem_cons_self)
      have all3 : ∀ {μ4 : Mu} {H4 : Hp} {S4 : Sto}, Wd c μ4 S4 H4 → Fw ⟨m', D1 :: μ1.av⟩ H μ4 H4 → μ4 = ⟨μ4.m, D1 :: μ1.av⟩ ∧ (∃ t, μ4.m = μ1.m ++ t) ∧ (∀ a o, H1 a = some o → a ∉ μ1.m → H4 a = some o ∧ a ∉ μ4.m) ∧ H4 D1 = some (.lst ws) ∧ RpAll c μ4 H4 ws acc ∧ EnvR c μ4 H4 σ ρ ∧ Anc μ4 H4 := fun {μ4 H4 S4} w4 ff => by
        have eav : μ4.av = D1 :: μ1.av := ff.av
        refine ⟨by rw [← eav], ?_, fun a o e n => ?_, (ff.keep D1 _ hD (nDm w rfl)).1, ra.fw w ff, en.fw w ff, ok.keep anc' (w.kp ff)⟩
        · obtain ⟨t2, e2⟩ := ff.pre
          exact ⟨tt ++ t2, by rw [e2]; show m' ++ t2 = _; rw [em, List.append_assoc]⟩
        · obtain ⟨q1, q2⟩ := keep a o e n
          exact ff.keep a o q1 q2
      split
      · rename_i hb
        rw [if_pos hb] at h3
        refine tR_of w3 en3 h3 pxNo fun y S4 vy H4 μ4 h4 f4 w4 en4 px4 r4 => ?_
        obtain ⟨e4, t4, k4, D4, ra4, en4', anc4⟩ := all3 w4 (fy.trans (f3.trans f4))
        rw [e4] at w4 ra4 en4' anc4 r4
        obtain ⟨q1, q2⟩ := srcOk_iff.mp h4
        refine ⟨ws, D4, by rw [ra4.length]; omega, hlt, ?_⟩
        refine ⟨μ4.m, S4, acc ++ [y], ws ++ [vy], by rw [List.length_append]; show acc.length + 1 ≤ i + 1; omega, wdD w4 D4, t4, fun a o e n => ?_, upd_same, (ra4.append (.cons r4 .nil)).kp (kpD D4), en4'.kp (kpD D4), ok.keep anc4 (kpD D4), q1, q2⟩
        obtain ⟨z1, z2⟩ := k4 a o e n
        refine ⟨?_, z2⟩
        rw [upd_ne (ne_of_none e nD)]
        exact z1
      · rename_i hb
        rw [if_neg hb] at h3
        obtain ⟨e4, t4, k4, D4, ra4, en4', anc4⟩ := all3 w3 (fy.trans f3)
        rw [e4] at w3 ra4 en4' anc4
        obtain ⟨q1, q2⟩ := srcOk_iff.mp h3
        exact ⟨hlt, μ3.m, S3, acc, ws, by omega, w3, t4, k4, D4, ra4, en4', anc4, q1, q2⟩
    · have e : i = items.length := by omega
      subst e
      rw [List.drop_length] at h'
      exact .inl ⟨ok.stop anc' w hs', fin H ⟨m', S', acc, ws, hl, w, ⟨tt, em⟩, keep, hD, ra, en, anc', hs', h'⟩⟩
section
variable {X : Cx} {E : L2.St → XK} {elt tg iter : Expr} {ifs : List Expr} {scope : Scope} {own : List (Str × Nat)} {pos : Pos} {fi : FI} {g : TG} {st : D → Rho → Option Rho} {t : FT} {f : FE}
theorem d_tnil : PTs X [] (tT (ct X) E dYes) := ⟨fun pins s σ H Q I ⟨μ, S, ρ, Qd, Ed, w, en, hf, q, px⟩ => pts_nil.run pins s σ H Q I (q true S true H μ hf Fw.refl w rfl)⟩
theorem lc_end {c : Ct} {μ μ1 : Mu} {S S1 : Sto} {H H1 : Hp} {σ : L2.St} {ρ : Rho} {Anc : Mu → Hp → Prop} {src : Src} {n : Nat} {Qd : QD} {Q : VK} {D1 : Addr} (q : ∀ d S' v H' μ', Qd d S' → Fw μ H μ' H' → Wd c μ' S' H' → Rp c μ' H' v d → Q v H') (f1 : Fw μ H μ1 H1) (w1 : Wd c μ1 S1 H1) (nD : H1 D1 = none)
    {H' : Hp} (h : LcI c μ1 H1 D1 σ ρ Anc src n (fun acc S2 => Qd (.lst false acc) S2) H') : Q (.ref D1) H' := by
  obtain ⟨m', S', acc, ws, hl, w, ⟨tt, em⟩, keep, hD, ra, en, anc', hs', h'⟩ := h
  have f2 : Fw μ1 H1 ⟨m', μ1.av⟩ H' := ⟨⟨tt, em⟩, rfl, keep⟩
  have nm : D1 ∉ m' := fun z => w.ap D1 z List.mem_cons_self
  refine q _ S' _ H' ⟨m', μ1.av⟩ h' (f1.trans f2) ⟨w.nd, w.len, fun a h z => w.ap a h (List.mem_cons_of_mem _ z), fun a h => w.avs a (List.mem_cons_of_mem _ h), fun i a x h1 h2 => ClOk.kp kpEnd (fun _ e => e) (w.ok i a x h1 h2)⟩ ?_
  exact .lst hD nm (fun z => w1.avs D1 z nD) (fun z => nomatch z) (ra.kp kpEnd)
theorem lc_endC {c : Ct} {μ μ1 : Mu} {S S1 : Sto} {H H1 : Hp} {σ : L2.St} {ρ : Rho} {Anc : Mu → Hp → Prop} {src : Src} {n : Nat} {Qd : QD} {Q : VK} {D1 : Addr} (q : ∀ d S' v H' μ', Qd d S' → Fw μ H μ' H' → Wd c μ' S' H' → Rp c μ' H' v d → Q v H') (f1 : Fw μ H μ1 H1) (w1 : Wd c μ1 S1 H1) (nD : H1 D1 = none)
    {H' : Hp} (h : LcI c μ1 H1 D1 σ ρ Anc src n (fun acc S2 => Qd (.cell S2.length) (S2 ++ [.lst acc])) H') : Q (.ref D1) H' := by
  obtain ⟨m', S', acc, ws, hl, w, ⟨tt, em⟩, keep, hD, ra, en, anc', hs', h'⟩ := h
  have nm : D1 ∉ m' := fun z => w.ap D1 z List.mem_cons_self
  have f2 : Fw μ1 H1 ⟨m' ++ [D1], μ1.av⟩ H' := ⟨⟨tt ++ [D1], by show m' ++ [D1] = _; rw [em, List.append_assoc]⟩, rfl, fun a o e n => ⟨(keep a o e n).1, fun z => by
    rcases List.mem_append.mp z with z | z
    · exact (keep a o e n).2 z
    · exact ne_of_none e nD (List.mem_singleton.mp z)⟩⟩
  have hlen : m'.length = S'.length := w.len
  refine q _ _ _ H' ⟨m' ++ [D1], μ1.av⟩ h' (f1.trans f2) ⟨?_, ?_, fun a h z => ?_, fun a h => w.avs a (List.mem_cons_of_mem _ h), fun i a x h1 h2 => ?_⟩ (.cell ?_)
  · show (m' ++ [D1]).Nodup
    rw [List.nodup_append]
    exact ⟨w.nd, by simp, fun a ha b hb e => nm (by rw [List.mem_singleton.mp hb] at e; exact e ▸ ha)⟩
  · show (m' ++ [D1]).length = (S' ++ [Cl.lst acc]).length
    rw [List.length_append, List.length_append, hlen]
    rfl
  · rcases List.mem_append.mp h with h | h
    · exact w.ap a h (List.mem_cons_of_mem _ z)
    · rw [List.mem_singleton.mp h] at z
      exact w1.avs D1 z nD
  · by_cases hi : i < m'.length
    · have h1' : m'[i]? = some a := by rw [← List.getElem?_append_left hi]; exact h1
      rw [List.getElem?_append_left (by omega)] at h2
      exact ClOk.kp (kpEndC hD) (fun _ e => e) (w.ok i a x h1' h2)
    · have h1' : (m' ++ [D1])[i]? = some a := h1
      have hi2 : i = m'.length := by
        have := (List.getElem?_eq_some_iff.mp h1').1
        simp at this
        omega
      subst hi2
      rw [List.getElem?_append_right (Nat.le_refl _), Nat.sub_self] at h1'
      cases h1'
      rw [List.getElem?_append_right (by omega), hlen, Nat.sub_self] at h2
      cases h2
      exact ⟨ws, hD, ra.kp (kpEndC hD)⟩
  · show (m' ++ [D1])[S'.length]? = some D1
    rw [← hlen, List.getElem?_append_right (Nat.le_refl _), Nat.sub_self]
    rfl
theorem d_lc (hT : LcT (ct X) g st (own.map (·.2))) (hc : X.calm = true) (hN : X.N.Nodup) (hi : PId X E tg iter fi) (ok : BlkOk X.N X.env.scope scope own)
    (hg : ∀ (s : Shared) (H : Hp) (C : Addr) (cl : List (Str × Addr)) (fp : List Addr), PG (X.blk s H scope (compEnvC scope cl C X.env) fp) tg g)
    (ht : ∀ (s : Shared) (H : Hp) (C : Addr) (cl : List (Str × Addr)) (fp : List Addr), PTs (X.blk s H scope (compEnvC scope cl C X.env) fp) ifs (tT (ct X) (cE E0) t))
    (he : ∀ (s : Shared) (H : Hp) (C : Addr) (cl : List (Str × Addr)) (fp : List Addr), PE (X.blk s H scope (compEnvC scope cl C X.env) fp) elt (tD (ct X) (cE E0) f)) (hs : ∀ x, foldedSetIterable iter X.env x = pure x := by intro _; rfl) :
    PEd X E (.ListComp elt [⟨tg, iter, ifs, 0⟩] scope pos) (dLc st t f fi) := by
  refine PE.imp (pe_lc hc hN hi ok hg ht he hs) fun σ H Q ⟨μ, S, ρ, Qd, Ed, w, en, hf, q, px⟩ => ?_
  refine ⟨μ, S, ρ, _, Ed, w, en, hf, fun is S1 H1 μ1 J Anc h1 f1 w1 ok' anc hsrc D1 nD => ?_, px⟩
  exact lc_W hT w1 (en.fw w f1) ok' anc hsrc h1.1 h1.2 nD fun H' h => lc_end (S := S) q f1 w1 nD h
theorem d_lcC (hT : LcT (ct X) g st (own.map (·.2))) (hc : X.calm = true) (hN : X.N.Nodup) (hi : PId X E tg iter fi) (ok : BlkOk X.N X.env.scope scope own)
    (hg : ∀ (s : Shared) (H : Hp) (C : Addr) (cl : List (Str × Addr)) (fp : List Addr), PG (X.blk s H scope (compEnvC scope cl C X.env) fp) tg g)
    (ht : ∀ (s : Shared) (H : Hp) (C : Addr) (cl : List (Str × Addr)) (fp : List Addr), PTs (X.blk s H scope (compEnvC scope cl C X.env) fp) ifs (tT (ct X) (cE E0) t))
    (he : ∀ (s : Shared) (H : Hp) (C : Addr) (cl : List (Str × Addr)) (fp : List Addr), PE (X.blk s H scope (compEnvC scope cl C X.env) fp) elt (tD (ct X) (cE E0) f)) (hs : ∀ x, foldedSetIterable iter X.env x = pure x := by intro _; rfl) :
    PEd X E (.ListComp elt [⟨tg, iter, ifs, 0⟩] scope pos) (dLcC st t f fi) := by
  refine PE.imp (pe_lc hc hN hi ok hg ht he hs) fun σ H Q ⟨μ, S, ρ, Qd, Ed, w, en, hf, q, px⟩ => ?_
  refine ⟨μ, S, ρ, _, Ed, w, en, hf, fun is S1 H1 μ1 J Anc h1 f1 w1 ok' anc hsrc D1 nD => ?_, px⟩
  exact lc_W hT w1 (en.fw w f1) ok' anc hsrc h1.1 h1.2 nD fun H' h => lc_endC (S := S) q f1 w1 nD h
/-- name = [..] on one row -/
theorem d_setLc {E2 : XK} {i : Nat} {y : Str} {py spos : Pos} (hT : LcT (ct X) g st (own.map (·.2))) (hc : X.calm = true) (hN : X.N.Nodup) (hy : X.N[i]? = some y) (hyl : X.env.scope.names.lookup y = some .local)
    (hsw : swapsWith (.ListComp elt [⟨tg, iter, ifs, 0⟩] scope pos) (some (.Name y py)) spos.line X.env = pure true) (hi : PId X (cE E2) tg iter fi) (ok : BlkOk X.N X.env.scope scope own)
    (hg : ∀ (s : Shared) (H : Hp) (C : Addr) (cl : List (Str × Addr)) (fp : List Addr), PG (X.blk s H scope (compEnvC scope cl C X.env) fp) tg g)
    (ht : ∀ (s : Shared) (H : Hp) (C : Addr) (cl : List (Str × Addr)) (fp : List Addr), PTs (X.blk s H scope (compEnvC scope cl C X.env) fp) ifs (tT (ct X) (cE E0) t))
    (he : ∀ (s : Shared) (H : Hp) (C : Addr) (cl : List (Str × Addr)) (fp : List Addr), PE (X.blk s H scope (compEnvC scope cl C X.env) fp) elt (tD (ct X) (cE E0) f)) (hs : ∀ x, foldedSetIterable iter X.env x = pure x := by intro _; rfl) :
    PSd X E2 (.Assign [.Name y py] (.ListComp elt [⟨tg, iter, ifs, 0⟩] scope pos) spos) (dAsg (dLc st t f fi) (gN i)) := by
  refine PS.imp (ps_setLc hc hN hy hyl hsw hi ok hg ht he hs) fun D σ H ⟨μ, S, ρ, De, Ed, w, en, hf, k, px⟩ => ?_
  refine ⟨μ, S, ρ, _, Ed, w, en, hf, fun is S1 H1 μ1 J Anc h1 f1 w1 ok' anc hsrc D1 nD => ?_, px⟩
  refine lc_W (Qd := fun H' => D.nx (σ.set i (some (.ref D1))) H') hT w1 (en.fw w f1) ok' anc hsrc h1.1 h1.2 nD fun H' h => ?_
  exact lc_end (S := S) (Q := fun v H' => D.nx (σ.set i (some v)) H') (fun d S' v H' μ' hq ff w' r => k.nx _ S' _ H' μ' (setK_eq (k := fun ρ' => De.nx ρ' S') hq) ff w' ((en.fw w ff).set r)) f1 w1 nD h
end
end Pu
namespace Pu
open PySem PySem.Spec PyProof.Rows L2
/-! ## defs and their calls -/
def spF (c : Ct) (F : FF) : Sp := fun vs H Q E => ∃ μ S ds Qd Ed, Wd c μ S H ∧ RpAll c μ H vs ds ∧ F ds S Qd Ed ∧ PostV c μ H Qd Q ∧ PX c μ H Ed E
/-- a call in which the callee sees all cells -/
def dCallW (F : FF) (fa : FA) : FE := fun ρ S Q Ed => fa ρ S (fun ds S1 => F ds S1 Q Ed) Ed
mutual
/-- it mentions no cell but the first k -/
def below (k : Nat) : D → Bool
  | .cell n => decide (n < k)
  | .tup xs => belowAll k xs
  | .lst _ xs => belowAll k xs
  | .kls xs => belowAll k xs
  | .ins _ fs => belowFs k fs
  | .exc _ fs => belowFs k fs
  | _ => true
def belowAll (k : Nat) : List D → Bool
  | [] => true
  | x :: xs => below k x && belowAll k xs
def belowFs (k : Nat) : List (Str × D) → Bool
  | [] => true
  | (_, x) :: xs => below k x && belowFs k xs
end
def Cl.below (k : Nat) : Cl → Bool
  | .lst xs => belowAll k xs
  | .ins _ fs => belowFs k fs
/-- a call in which the callee sees the first k cells -/
def dCall (k : Nat) (F : FF) (fa : FA) : FE := fun ρ S Q Ed => fa ρ S (fun ds S1 => (belowAll k ds = true ∧ (S1.take k).all (Cl.below k) = true) ∧
  F ds (S1.take k) (fun d S2 => S2.length = (S1.take k).length ∧ Q d (S2 ++ S1.drop k)) fun e S2 => S2.length = (S1.take k).length ∧ Ed e (S2 ++ S1.drop k)) Ed
section
variable {c : Ct} {μ : Mu} {H : Hp} {k : Nat}
def sub (μ : Mu) (k : Nat) : Mu := ⟨μ.m.take k, μ.m.drop k ++ μ.av⟩
theorem not_sub {a : Addr} (h1 : a ∉ μ.m) (h2 : a ∉ μ.av) : a ∉ (sub μ k).m ∧ a ∉ (sub μ k).av :=
  ⟨fun z => h1 (List.mem_of_mem_take z), fun z => by
    rcases List.mem_append.mp z with z | z
    · exact h1 (List.mem_of_mem_drop z)
    · exact h2 z⟩
theorem of_sub {a : Addr} (h1 : a ∉ (sub μ k).m) (h2 : a ∉ (sub μ k).av) : a ∉ μ.m ∧ a ∉ μ.av :=
  ⟨fun z => by
    rw [← List.take_append_drop k μ.m] at z
    rcases List.mem_append.mp z with z | z
    · exact h1 z
    · exact h2 (List.mem_append_left _ z), fun z => h2 (List.mem_append_right _ z)⟩
mutual
theorem Rp.sub : ∀ {v : V} {d : D}, Rp c μ H v d → below k d = true → Rp c (Pu.sub μ k) H v d
  | _, _, .non, _ => .non
  | _, _, .bl b, _ => .bl b
  | _, _, .int i, _ => .int i
  | _, _, .str x, _ => .str x
  | _, _, .tup h r, b => .tup h (RpAll.sub r b)
  | _, _, .lst h n1 n2 n3 r, b => .lst h (not_sub n1 n2).1 (not_sub n1 n2).2 n3 (RpAll.sub r b)
  | _, _, .kls h n1 n2 r, b => .kls h (not_sub n1 n2).1 (not_sub n1 n2).2 (RpAll.sub r b)
  | _, _, .klsK o its n h1 h2 h3 h4 h5 h6 r, b => .klsK o its n h1 h2 h3 h4 h5 h6 (RpAll.sub r b)
  | _, _, .dic h n n2, _ => .dic h (not_sub n n2).1 (not_sub n n2).2
  | _, _, .cell h, b => .cell (by
    show (μ.m.take k)[_]? = _
    rw [List.getElem?_take_of_lt (of_decide_eq_true b)]
    exact h)
  | _, _, .glo h r, _ => .glo h r
  | _, _, .ty n, _ => .ty n
  | _, _, .ins h n n2 g r, b => .ins h (not_sub n n2).1 (not_sub n n2).2 g (RpFs.sub r b)
  | _, _, .exc0 h g, _ => .exc0 h g
  | _, _, .exc1 h g e r, b => .exc1 h g e (RpFs.sub r b)
theorem RpAll.sub : ∀ {vs : List V} {ds : List D}, RpAll c μ H vs ds → belowAll k ds = true → RpAll c (Pu.sub μ k) H vs ds
  | _, _, .nil, _ => .nil
  | _, _, .cons h r, b => .cons (Rp.sub h (Bool.and_eq_true_iff.mp b).1) (RpAll.sub r (Bool.and_eq_true_iff.mp b).2)
theorem RpFs.sub : ∀ {vs : List (Str × V)} {ds : List (Str × D)}, RpFs c μ H vs ds → belowFs k ds = true → RpFs c (Pu.sub μ k) H vs ds
  | _, _, .nil, _ => .nil
  | _, _, .cons h r, b => .cons (Rp.sub h (Bool.and_eq_true_iff.mp b).1) (RpFs.sub r (Bool.and_eq_true_iff.mp b).2)
end
theorem Wd.disj {S : Sto} (w : Wd c μ S H) {a : Addr} (h1 : a ∈ μ.m.take k) (h2 : a ∈ μ.m.drop k) : False := by
  have nd := w.nd
  rw [← List.take_append_drop k μ.m, List.nodup_append] at nd
  exact nd.2.2 a h1 a h2 rfl
theorem Wd.sub {S : Sto} (w : Wd c μ S H) (hb : (S.take k).all (Cl.below k) = true) : Wd c (Pu.sub μ k) (S.take k) H := by
  refine ⟨?_, ?_, fun a h z => ?_, fun a h => ?_, fun i a x h1 h2 => ?_⟩
  · show (μ.m.take k).Nodup
    have nd := w.nd
    rw [← List.take_append_drop k μ.m, List.nodup_append] at nd
    exact nd.1
  · show (μ.m.take k).length = (S.take k).length
    rw [List.length_take, List.length_take, w.len]
  · rcases List.mem_append.mp z with z | z
    · exact w.disj h z
    · exact w.ap a (List.mem_of_mem_take h) z
  · rcases List.mem_append.mp h with h | h
    · obtain ⟨o, e, _⟩ := w.there (List.mem_of_mem_drop h)
      rw [e]
      exact fun z => nomatch z
    · exact w.avs a h
  · have hi : i < k := by
      have := (List.getElem?_eq_some_iff.mp (show (μ.m.take k)[i]? = some a from h1)).1
      rw [List.length_take] at this
      omega
    have e1 : μ.m[i]? = some a := by
      rw [← List.getElem?_take_of_lt hi]
      exact h1
    have e2 : S[i]? = some x := by
      rw [← List.getElem?_take_of_lt hi]
      exact h2
    have bx : Cl.below k x = true := List.all_eq_true.mp hb x (List.mem_of_getElem? h2)
    have o := w.ok i a x e1 e2
    cases x with
    | lst ds =>
      obtain ⟨vs, h3, h4⟩ := o
      exact ⟨vs, h3, h4.sub bx⟩
    | ins cn fs =>
      obtain ⟨C, dx, fv, h3, h4, h5⟩ := o
      exact ⟨C, dx, fv, h3, h4, h5.sub bx⟩
theorem kp_unsub : Kp c (Pu.sub μ k) H μ H := by
  have cl : ∀ (n : Nat) (a : Addr), (μ.m.take k)[n]? = some a → μ.m[n]? = some a := fun n a h => by
    have hi : n < k := by
      have := (List.getElem?_eq_some_iff.mp h).1
      rw [List.length_take] at this
      omega
    rw [← List.getElem?_take_of_lt hi]
    exact h
  exact ⟨fun _ _ e => e, fun _ _ e n1 n2 => ⟨e, (of_sub n1 n2).1, (of_sub n1 n2).2⟩, fun _ _ e n1 n2 => ⟨e, (of_sub n1 n2).1, (of_sub n1 n2).2⟩, fun _ _ e n1 n2 => ⟨e, (of_sub n1 n2).1, (of_sub n1 n2).2⟩, fun _ _ _ _ e n1 n2 => ⟨e, (of_sub n1 n2).1, (of_sub n1 n2).2⟩, cl, fun _ _ e => e⟩
/-- back from a callee that saw the first k cells -/
theorem Wd.back {S S2 : Sto} {H' : Hp} {μ' : Mu} (w : Wd c μ S H) (f : Fw (Pu.sub μ k) H μ' H') (w' : Wd c μ' S2 H') (hl : S2.length = (S.take k).length) :
    Fw μ H μ H' ∧ Wd c μ (S2 ++ S.drop k) H' ∧ μ' = Pu.sub μ k := by
  obtain ⟨t, e⟩ := f.pre
  have hmt : (μ.m.take k).length = (S.take k).length := by rw [List.length_take, List.length_take, w.len]
  have ht : t = [] := by
    have h1 := w'.len
    rw [e, List.length_append] at h1
    have h2 : (Pu.sub μ k).m.length = (S.take k).length := hmt
    have : t.length = 0 := by omega
    exact List.length_eq_zero_iff.mp this
  subst ht
  rw [List.append_nil] at e
  have em : μ' = Pu.sub μ k := by
    cases μ'
    cases e
    cases (show _ = (Pu.sub μ k).av from f.av)
    rfl
  subst em
  have fw : Fw μ H μ H' := ⟨⟨[], by simp⟩, rfl, fun a o ea na => ⟨(f.keep a o ea fun z => na (List.mem_of_mem_take z)).1, na⟩⟩
  refine ⟨fw, ⟨w.nd, ?_, w.ap, fun a h => ?_, fun i a x h1 h2 => ?_⟩, rfl⟩
  · rw [List.length_append, hl, List.length_take, List.length_drop, w.len]
    omega
  · exact w'.avs a (List.mem_append_right _ h)
  · by_cases hi : i < S2.length
    · rw [List.getElem?_append_left hi] at h2
      have hk : i < k := by rw [hl, List.length_take] at hi; omega
      have e1 : (Pu.sub μ k).m[i]? = some a := by
        show (μ.m.take k)[i]? = some a
        rw [List.getElem?_take_of_lt hk]
        exact h1
      exact ClOk.kp kp_unsub (fun _ z => z) (w'.ok i a x e1 h2)
    · have hge : S2.length ≤ i := by omega
      rw [List.getElem?_append_right hge, List.getElem?_drop] at h2
      have hlt : k + (i - S2.length) < S.length := (List.getElem?_eq_some_iff.mp h2).1
      have hl2 : S2.length = k := by rw [hl, List.length_take]; omega
      have ei : k + (i - S2.length) = i := by omega
      rw [ei] at h2
      have nt : a ∉ (Pu.sub μ k).m := fun z => by
        obtain ⟨j, hj, ej⟩ := List.getElem_of_mem (show a ∈ μ.m.take k from z)
        have hj2 : (μ.m.take k)[j]? = some a := List.getElem?_eq_some_iff.mpr ⟨hj, ej⟩
        have hjk : j < k := by rw [List.length_take] at hj; omega
        rw [List.getElem?_take_of_lt hjk] at hj2
        have := ix_uniq w.nd hj2 h1
        omega
      exact ClOk.kp (w.kp fw) (fun o eo => (f.keep a o eo nt).1) (w.ok i a x h1 h2)
end
section
variable {X : Cx} {cx : CXT} {lv : Nat} {fn : Addr} {dat : FuncData} {pars : List Str} {sp : Sp} {E : L2.St → XK} {nm : Str} {p1 p2 : Pos} {a0 : Expr} {as : List Expr} {ta : TA}
theorem passG : ∀ σ, PassesAt CX0 X σ (E σ) := fun _ _ _ _ _ _ _ z => z.elim
theorem runGS {pins : List (Addr × Obj)} {σ : L2.St} {H : Hp} {s : Shared} {Q : VK} {us : List Value} {xs : List V} {E1 : XK} (F : Rb.FnG X.prog X.w X.K X.mg X.base cx lv fn dat pars sp) (gd : X.A.guards = some []) (rm : Room lv X.A)
    (bi : Binds X.K dat pars []) (ps : PassesAt cx X σ E1) (I : Inv X pins σ H s) (vx : Vals xs us) (pro : sp xs H Q E1) :
    wpAny (model X.prog X.w) X.A (call (.ref fn) us) (EP X pins σ Q) X.xe s := by
  have l2 : (us ++ []).length = pars.length := by rw [List.append_nil]; exact vx.length ▸ F.many _ _ _ _ pro
  have b := bi s us I.kIn l2
  rw [List.append_nil] at b
  refine wpAny_call (codeAny_mono (F.goes X.A X.stack s H ⟨us, []⟩ us xs Q E1 rm gd I.env0 b vx pro) ?_)
  intro res s2 fin
  match res, fin with
  | .error e, fin => exact ps pins H s e s2 I fin
  | .ok (.ret u), fin => exact I.after fin
  | .ok .next, fin => exact (fin : False).elim
  | .ok .brk, fin => exact (fin : False).elim
  | .ok .cont, fin => exact (fin : False).elim
theorem pe_callGS (F : Rb.FnG X.prog X.w X.K X.mg X.base cx lv fn dat pars sp) (gd : X.A.guards = some []) (rm : Room lv X.A) (gl : Gl X nm) (at_ : X.mg nm = some (.ref fn)) (kp : PySem.W.keepIn X.K (.ref fn) = true)
    (bi : Binds X.K dat pars []) (ps : ∀ σ, PassesAt cx X σ (E σ)) (pa : PA X (a0 :: as) ta) (ndb : (nm == ("__debug__" : Str)) = false := by decide)
    (st1 : starEach (a0 :: as) X.env = (false, eval a0 X.env) :: starEach as X.env := by rfl) (st2 : (backTo p2 (starEach as X.env)).any (·.1) = false := by rfl) :
    PE X (.Call (.Name nm p1) (a0 :: as) [] p2) (tCallS sp E ta) := by
  constructor
  intro pins s σ H Q I pre
  refine wpAny_Call_Name_kw (ld_glob I gl at_ ?_ ndb)
  exact PySem.W.callWith_K (h₀ := X.base) I.ok.mod.kin kp (thn (pa.run p2 pins s σ H _ I pre) fun us s1 ⟨xs, H1, I1, rx, q1⟩ => ⟨I1.kIn, runGS F gd rm bi (ps σ) I1 rx q1⟩) st1 st2
end
section
variable {X : Cx} {E : L2.St → XK} {cx : CXT} {lv : Nat} {fn : Addr} {dat : FuncData} {pars : List Str} {nm : Str} {p1 p2 : Pos} {a0 : Expr} {as : List Expr} {FN : FF} {fa : FA}
theorem d_callW (F : Rb.FnG X.prog X.w X.K X.mg X.base cx lv fn dat pars (spF (ct X) FN)) (gd : X.A.guards = some []) (rm : Room lv X.A) (gl : Gl X nm) (at_ : X.mg nm = some (.ref fn)) (kp : PySem.W.keepIn X.K (.ref fn) = true)
    (bi : Binds X.K dat pars []) (ps : ∀ σ, PassesAt cx X σ (E σ)) (pa : PAd X E (a0 :: as) fa) (ndb : (nm == ("__debug__" : Str)) = false := by decide)
    (s1 : starEach (a0 :: as) X.env = (false, eval a0 X.env) :: starEach as X.env := by rfl) (s2 : (backTo p2 (starEach as X.env)).any (·.1) = false := by rfl) : PEd X E (.Call (.Name nm p1) (a0 :: as) [] p2) (dCallW FN fa) := by
  refine PE.imp (pe_callGS F gd rm gl at_ kp bi ps pa ndb s1 s2) fun σ H Q ⟨μ, S, ρ, Qd, Ed, w, en, hf, q, px⟩ => ?_
  refine tR_of w en hf px fun ds S1 vs H1 μ1 h1 f1 w1 en1 px1 r1 => ?_
  exact ⟨μ1, S1, ds, Qd, Ed, w1, r1, h1, PostV.fw q f1, px1⟩
theorem d_call (k : Nat) (F : Rb.FnG X.prog X.w X.K X.mg X.base cx lv fn dat pars (spF (ct X) FN)) (gd : X.A.guards = some []) (rm : Room lv X.A) (gl : Gl X nm) (at_ : X.mg nm = some (.ref fn)) (kp : PySem.W.keepIn X.K (.ref fn) = true)
    (bi : Binds X.K dat pars []) (ps : ∀ σ, PassesAt cx X σ (E σ)) (pa : PAd X E (a0 :: as) fa) (ndb : (nm == ("__debug__" : Str)) = false := by decide)
    (s1 : starEach (a0 :: as) X.env = (false, eval a0 X.env) :: starEach as X.env := by rfl) (s2 : (backTo p2 (starEach as X.env)).any (·.1) = false := by rfl) : PEd X E (.Call (.Name nm p1) (a0 :: as) [] p2) (dCall k FN fa) := by
  refine PE.imp (pe_callGS F gd rm gl at_ kp bi ps pa ndb s1 s2) fun σ H Q ⟨μ, S, ρ, Qd, Ed, w, en, hf, q, px⟩ => ?_
  refine tR_of w en hf px fun ds S1 vs H1 μ1 h1 f1 w1 en1 px1 r1 => ?_
  obtain ⟨⟨b1, b2⟩, h1⟩ := h1
  refine ⟨sub μ1 k, S1.take k, ds, _, _, w1.sub b2, r1.sub b1, h1, fun d S2 v H2 μ2 h2 f2 w2 r2 => ?_, fun e S2 cls dx H2 μ2 h2 f2 w2 r2 => ?_⟩
  · obtain ⟨f3, w3, rfl⟩ := w1.back f2 w2 h2.1
    exact q d _ v H2 μ1 h2.2 (f1.trans f3) w3 (r2.kp kp_unsub)
  · obtain ⟨f3, w3, rfl⟩ := w1.back f2 w2 h2.1
    refine px1 e _ cls dx H2 μ1 h2.2 f3 w3 ⟨r2.1, ?_⟩
    have r3 := r2.2
    split at r3
    · exact r3
    · obtain ⟨a, fv, z1, z2, z3⟩ := r3
      exact ⟨a, fv, z1, z2, z3.kp kp_unsub⟩
end
/-! ### what a def does -/
def startD (n : Nat) (ds : List D) : Rho := ds.map some ++ List.replicate (n - ds.length) none
theorem startD_env {c : Ct} {μ : Mu} {H : Hp} {N : List Str} {vs : List V} {ds : List D} (r : RpAll c μ H vs ds) : EnvR c μ H (L2.start N vs) (startD N.length ds) := by
  refine ⟨?_, fun i d h => ?_⟩
  · unfold L2.start startD
    rw [List.length_append, List.length_append, List.length_map, List.length_map, List.length_replicate, List.length_replicate, r.length]
  · unfold L2.start
    unfold startD at h
    have hl := r.length
    by_cases hi : i < ds.length
    · rw [List.getElem?_append_left (by rw [List.length_map]; exact hi), List.getElem?_map] at h
      obtain ⟨d', e1, e2⟩ := Option.map_eq_some_iff.mp h
      cases e2
      obtain ⟨v, e3, rv⟩ := r.at e1
      refine ⟨v, ?_, rv⟩
      rw [List.getElem?_append_left (by rw [List.length_map]; omega), List.getElem?_map, e3]
      rfl
    · rw [List.getElem?_append_right (by rw [List.length_map]; omega)] at h
      have := List.mem_of_getElem? h
      cases (List.mem_replicate.mp this).2
/-- a def without cells of its own, or one whose new cells stay -/
def dDef (np n : Nat) (fb : FS) : FF := fun ds S Q Ed => ds.length = np ∧ fb (startD n ds) S { nx := fun _ S' => Q .non S', rt := Q, bk := fun _ _ => False, ct := fun _ _ => False } noE
/-- .. that may raise -/
def dDefX (np n : Nat) (fb : FS) : FF := fun ds S Q Ed => ds.length = np ∧ fb (startD n ds) S { nx := fun _ S' => Q .non S', rt := Q, bk := fun _ _ => False, ct := fun _ _ => False } Ed
/-- a value that leaves a def whose cells, from n on, are gone -/
def frz (S : Sto) (n : Nat) : D → Option D
  | .cell k => if k < n then some (.cell k) else match S[k]? with
    | some (.lst xs) => if belowAll n xs = true then some (.lst false xs) else none
    | some (.ins x fs) => if belowFs n fs = true then some (.ins x fs) else none
    | none => none
  | d => if below n d = true then some d else none
/-- a def with cells of its own -/
def dDefC (np n : Nat) (fb : FS) : FF := fun ds S Q Ed => ds.length = np ∧ fb (startD n ds) S
  { nx := fun _ S' => ((S'.take S.length).length = S.length ∧ (S'.take S.length).all (Cl.below S.length) = true) ∧ Q .non (S'.take S.length),
    rt := fun d S' => ((S'.take S.length).length = S.length ∧ (S'.take S.length).all (Cl.below S.length) = true) ∧ onSome (frz S' S.length d) fun d' => Q d' (S'.take S.length), bk := fun _ _ => False, ct := fun _ _ => False } noE
section
variable {pr : Program} {wo : World} {K : PySem.W.Frag} {mg : Str → Option Value} {b0 : Heap} {lv : Nat} {x qn : Str} {st : Stmt} {fn : Addr} {dat : FuncData} {NN pars : List Str} {fb : FS}
theorem d_fn (F : Fun K x qn st fn dat) (S : FnScope NN pars (defScope st))
    (body : ∀ (cdv : Value) (A : Around) (out : List Env) (s : Shared) (H : Hp) (E : XK), A.guards = some [] → Room lv (A.deeper (envOfC qn (defScope st) s.heap.objs.size fn cdv)) → PBd (cxOf CX0 pr wo K mg b0 NN qn (defScope st) fn cdv A out s H E).nox E0 (defBody st) fb) :
    Rb.FnG pr wo K mg b0 CX0 (lv + 1) fn dat pars (spF (ct0 K mg) (dDef pars.length NN.length fb)) := by
  refine Rb.okG F S (fun xs H Q E pro => ?_) fun cdv A out s H xs Q E gd rm pro => ⟨_, body cdv A out s H E gd rm, ?_⟩
  · obtain ⟨μ, S, ds, Qd, Ed, w, r, ⟨hl, _⟩, _⟩ := pro
    rw [r.length]
    exact hl
  · obtain ⟨μ, S, ds, Qd, Ed, w, r, ⟨hl, h⟩, q, px⟩ := pro
    exact ⟨μ, S, _, _, noE, w, startD_env r, h, ⟨fun ρ' S' σ' H' μ' hq f w' en => q .non S' .non H' μ' hq f w' .non, q, fun _ _ _ _ _ z => z.elim, fun _ _ _ _ _ z => z.elim⟩, pxNo⟩
theorem Wd.drop {c : Ct} {μ μ' : Mu} {S S' : Sto} {H H' : Hp} (w : Wd c μ S H) (f : Fw μ H μ' H') (w' : Wd c μ' S' H') (hb : (S'.take S.length).all (Cl.below S.length) = true) :
    Fw μ H μ H' ∧ Wd c μ (S'.take S.length) H' ∧ (Kp c (Pu.sub μ' S.length) H' μ H') := by
  obtain ⟨t, e⟩ := f.pre
  have em : (Pu.sub μ' S.length).m = μ.m := by
    show μ'.m.take S.length = μ.m
    rw [e, ← w.len, List.take_append_of_le_length (Nat.le_refl _), List.take_length]
  have ws := w'.sub hb
  have av2 : ∀ {a : Addr}, a ∉ (Pu.sub μ' S.length).av → a ∉ μ.av := fun n z => n (List.mem_append_right _ (by rw [f.av]; exact z))
  have kp : Kp c (Pu.sub μ' S.length) H' μ H' := ⟨fun _ _ e => e, fun _ _ e n1 n2 => ⟨e, em ▸ n1, av2 n2⟩, fun _ _ e n1 n2 => ⟨e, em ▸ n1, av2 n2⟩, fun _ _ e n1 n2 => ⟨e, em ▸ n1, av2 n2⟩, fun _ _ _ _ e n1 n2 => ⟨e, em ▸ n1, av2 n2⟩, (fun n a h => by rw [← em]; exact h), fun _ _ e => e⟩
  refine ⟨⟨⟨[], by simp⟩, rfl, fun a o ea na => ⟨(f.keep a o ea na).1, na⟩⟩, ⟨w.nd, ?_, w.ap, fun a h => ?_, fun i a x h1 h2 => ClOk.kp kp (fun _ z => z) (ws.ok i a x (by rw [em]; exact h1) h2)⟩, kp⟩
  · rw [← em]; exact ws.len
  · exact ws.avs a (List.mem_append_right _ (by rw [f.av]; exact h))
theorem d_fnC (F : Fun K x qn st fn dat) (S : FnScope NN pars (defScope st))
    (body : ∀ (cdv : Value) (A : Around) (out : List Env) (s : Shared) (H : Hp) (E : XK), A.guards = some [] → Room lv (A.deeper (envOfC qn (defScope st) s.heap.objs.size fn cdv)) → PBd (cxOf CX0 pr wo K mg b0 NN qn (defScope st) fn cdv A out s H E).nox E0 (defBody st) fb) :
    Rb.FnG pr wo K mg b0 CX0 (lv + 1) fn dat pars (spF (ct0 K mg) (dDefC pars.length NN.length fb)) := by
  refine Rb.okG F S (fun xs H Q E pro => ?_) fun cdv A out s H xs Q E gd rm pro => ⟨_, body cdv A out s H E gd rm, ?_⟩
  · obtain ⟨μ, S, ds, Qd, Ed, w, r, ⟨hl, _⟩, _⟩ := pro
    rw [r.length]
    exact hl
  · obtain ⟨μ, S, ds, Qd, Ed, w, r, ⟨hl, h⟩, q, px⟩ := pro
    refine ⟨μ, S, _, _, noE, w, startD_env r, h, ⟨fun ρ' S' σ' H' μ' hq f w' en => ?_, fun d S' v H' μ' hq f w' rv => ?_, fun _ _ _ _ _ z => z.elim, fun _ _ _ _ _ z => z.elim⟩, pxNo⟩
    · obtain ⟨f2, w2, _⟩ := w.drop f w' hq.1.2
      exact q .non _ .non H' μ hq.2 f2 w2 .non
    · obtain ⟨⟨_, hb⟩, hq⟩ := hq
      obtain ⟨f2, w2, kp⟩ := w.drop f w' hb
      obtain ⟨d', e, hq⟩ := onSome_of hq
      refine q d' _ v H' μ hq f2 w2 ?_
      unfold frz at e
      split at e
      · rename_i k
        split at e
        · rename_i hk
          cases e
          exact (rv.sub (k := S.length) (decide_eq_true hk)).kp kp
        · rename_i hk
          cases rv with
          | @cell k2 a hm =>
          have hmem := List.mem_of_getElem? hm
          have nm : a ∉ μ.m := fun z => by
            obtain ⟨t, et⟩ := f.pre
            obtain ⟨j, hj, ej⟩ := List.getElem_of_mem z
            have hj2 : μ'.m[j]? = some (μ.m[j]) := by rw [et, List.getElem?_append_left hj]; exact List.getElem?_eq_getElem hj
            rw [ej] at hj2
            have := ix_uniq w'.nd hj2 hm
            have := w.len
            omega
          split at e
          · rename_i ys e1
            split at e
            · rename_i hb2
              cases e
              obtain ⟨vs, h1, h2⟩ := w'.ok k _ _ hm e1
              exact .lst h1 nm (fun z => w'.ap _ hmem (by rw [f.av]; exact z)) (fun z => nomatch z) ((h2.sub hb2).kp kp)
            · cases e
          · rename_i y gs e1
            split at e
            · rename_i hb2
              cases e
              obtain ⟨C, dx, fv, h1, h2, h3⟩ := w'.ok k _ _ hm e1
              exact .ins h1 nm (fun z => w'.ap _ hmem (by rw [f.av]; exact z)) h2 ((h3.sub hb2).kp kp)
            · cases e
          · cases e
      · split at e
        · rename_i hb2
          cases e
          exact (rv.sub hb2).kp kp
        · cases e
end
/-- from what the law's own meaning gives to the row's claim -/
theorem endP {l : PySem.W.OpenLaw} {n lv : Nat} {q : Program} {loose : List Str} {XP : (Str → Option Value) → Heap → Prop} {YP : World → Heap → Prop} {d : DefRec} {KK : Params → PySem.W.Frag} {FL : FF} {x : Str}
    (most : l.most = some n) (few : n ≤ sizeLine) (nodef : d.params.defaults = []) (rm : Room lv callerA) (inY : ∀ (w : World) (h : Heap), YP w h → (KK w.params).In h)
    (F : ∀ (w : World) (mg : Str → Option Value) (fn : Addr) (h : Heap), (KK w.params).In h → h.Ns mainGlobals mg → mg d.name = some (.ref fn) →
      ∃ dat : FuncData, (∀ (s : Shared) (u : Value), BindsTo s dat ⟨[u], []⟩ [(x, u)]) ∧ ∀ b0 : Heap, (KK w.params).In b0 → b0.Ns mainGlobals mg → Rb.FnG l.prog w (KK w.params) mg b0 CX0 lv fn dat [x] (spF (ct0 (KK w.params) mg) FL))
    (law : ∀ ns : List Int, ns.length ≤ n → FL [.kls (ns.map D.int)] [] (fun d _ => d = .bl true) noE) :
    PySem.W.WalkO q loose XP YP l.row.toRowW d [] (fun f vs => PySem.call f vs) := by
  refine Att.attach_call most nodef ?_
  intro w s0 s1 mg mb fn o pm cd dc a us ns G Y at_ dd cdd gm ob ia ln ge
  obtain ⟨dat, bi, ok⟩ := F w mg fn _ (inY w _ Y) G.T.g gm
  refine Rb.lawG (inY w _ Y) G.T.g G.T.b G.T.builtins G.T.nolimit ge ob ia (Nat.le_trans ln few) rm ok bi fun H sq => ?_
  refine ⟨⟨[], []⟩, [], _, _, noE, ⟨List.nodup_nil, rfl, (fun _ z => nomatch z), (fun _ z => nomatch z), fun _ _ _ z => nomatch z⟩, .cons ?_ .nil, law ns ln, fun d S' v H' μ' hq _ _ r => ?_, pxNo⟩
  · rcases sq with sq | ⟨o, its, k, h1, h2, h3, h4, h5, h6⟩
    · exact .kls sq (fun z => nomatch z) (fun z => nomatch z) (RpAll.ofInts ns)
    · exact .klsK o its k h1 h2 h3 h4 h5 h6 (RpAll.ofInts ns)
  · cases (hq : d = .bl true)
    exact r.bl_inv
end Pu
namespace Pu
open PySem PySem.Spec PyProof.Rows L2
/-! ## small dicts, list(range(n)), tuple(range(n)) -/
section
variable {X : Cx} {E : L2.St → XK} {pos : Pos} {a : Expr} {fe : FE}
theorem PostV.dic {c : Ct} {μ : Mu} {S : Sto} {H : Hp} {Qd : QD} {Q : VK} (q : PostV c μ H Qd Q) (w : Wd c μ S H) {ps : List (Str × Int)} (h : Qd (.dic ps) S) {p : Addr} (hp : H p = none) : Q (.ref p) (upd H p (.dK (Rb.dicV ps))) :=
  q _ S _ _ μ h (Fw.new hp) (w.new hp) (.dic upd_same (w.fresh hp) fun z => w.avs p z hp)
theorem d_dic0 : PEd X E (.Dict [] [] pos) (dC (.dic [])) :=
  PE.imp pe_dnewK fun σ H Q ⟨μ, S, ρ, Qd, Ed, w, en, hf, q, px⟩ p hp => PostV.dic (ps := []) q w hf hp
def rngOk (n : Int) : Prop := 0 ≤ n ∧ n ≤ 16777216
theorem rngOk.of {n : Int} (h : rngOk n) : RgOk 0 n := RgOk.of_le (Int.le_refl _) h.2 (by decide) h.1
variable {p p2 p3 : Pos}
end
end Pu
namespace Pu
open PySem PySem.Spec PyProof.Rows L2
/-! ## min of a tuple or a list -/
/-! ## while -/
/-! ## remove, extend, pop() on a list that is a cell -/
/-! ## repr and == that are not looked into -/
@[irreducible] def iRepr : List D → Sto → QD → Prop := gRepr
@[irreducible] def iEqB (neg : Bool) : G2 := gEqB neg
abbrev iEq : G2 := iEqB false
abbrev iNe : G2 := iEqB true
theorem iRepr_of {ds : List D} {S : Sto} {Q : QD} (h : gRepr ds S Q) : iRepr ds S Q := by
  unfold iRepr
  exact h
theorem iEqB_of {neg : Bool} {x y : D} {S : Sto} {Q : QD} (h : gEqB neg x y S Q) : iEqB neg x y S Q := by
  unfold iEqB
  exact h
theorem eq_str {neg : Bool} {a b : Str} {S : Sto} {Q : QD} (q : Q (.bl (nb neg (decide (a = b)))) S) : iEqB neg (.str a) (.str b) S Q := iEqB_of q
theorem eq_int {neg : Bool} {a b : Int} {S : Sto} {Q : QD} (q : Q (.bl (nb neg (decide (a = b)))) S) : iEqB neg (.int a) (.int b) S Q := iEqB_of q
theorem ne_str {neg : Bool} {a b : Str} {S : Sto} {Q : QD} (e : a = b) (q : Q (.bl (nb neg true)) S) : iEqB neg (.str a) (.str b) S Q := eq_str (by rw [decide_eq_true e]; exact q)
theorem ne_int {neg : Bool} {a b : Int} {S : Sto} {Q : QD} (e : a = b) (q : Q (.bl (nb neg true)) S) : iEqB neg (.int a) (.int b) S Q := eq_int (by rw [decide_eq_true e]; exact q)
section
variable {X : Cx}
theorem o_ieq (hu : X.A.units + 64 < cLine) : OpR X (compareOp .Eq) (rD2 (ct X) iEq) := by
  unfold iEq iEqB
  exact o_eq hu
theorem o_ine (hu : X.A.units + 64 < cLine) : OpR X (compareOp .NotEq) (rD2 (ct X) iNe) := by
  unfold iNe iEqB
  exact o_ne hu
end
/-! ## enumerate of a tuple or of a list -/
theorem PI.or {X : Cx} {tg e : Expr} {t t' : TI} (h : PI X tg e t) (h' : PI X tg e t') : PI X tg e (fun σ H R => t σ H R ∨ t' σ H R) :=
  ⟨fun pins s σ H R I q => q.elim (h.run pins s σ H R I) (h'.run pins s σ H R I)⟩
def dEn (fa : FA) : FI := fun ρ S Q Ed => dEnT fa ρ S Q Ed ∨ dEnL fa ρ S Q Ed
theorem d_en {X : Cx} {E : L2.St → XK} {fa : FA} {e : Expr} {elts : List Expr} {kk : Nat} {p pos tp : Pos} (hg : Gl X "enumerate") (hm : X.mg "enumerate" = none) (ha : PAd X E [e] fa) (hs : starEach [e] X.env = [(false, eval e X.env)] := by rfl) : PId X E (.Tuple elts kk tp) (.Call (.Name "enumerate" p) [e] [] pos) (dEn fa) := by
  refine PI.imp (PI.or (d_enT hg hm ha hs) (d_enL hg hm ha hs)) fun σ H R ⟨μ, S, ρ, Qi, Ed, w, en, hf, q, px⟩ => ?_
  rcases hf with hf | hf
  · exact .inl ⟨μ, S, ρ, Qi, Ed, w, en, hf, q, px⟩
  · exact .inr ⟨μ, S, ρ, Qi, Ed, w, en, hf, q, px⟩
end Pu
namespace Pu
open PySem PySem.Spec PyProof.Rows L2
/-! ## instances: fields, methods, properties, new ones -/
def insAt : Option Cl → Option (Str × List (Str × D))
  | some (.ins x fs) => some (x, fs)
  | _ => none
theorem insAt_inv {o : Option Cl} {x : Str} {fs : List (Str × D)} (h : insAt o = some (x, fs)) : o = some (.ins x fs) := by
  cases o with
  | none => cases h
  | some y =>
    cases y with
    | lst _ => cases h
    | ins _ _ => cases h; rfl
def insOf (S : Sto) : D → Option (Str × List (Str × D))
  | .cell n => insAt S[n]?
  | .ins x fs => some (x, fs)
  | _ => none
def cellIns (S : Sto) : D → Option (Nat × Str × List (Str × D))
  | .cell n => (insAt S[n]?).map fun p => (n, p.1, p.2)
  | _ => none
/-- the field by its name -/
def lookF (f : Str) : List (Str × D) → Option D
  | [] => none
  | (g, d) :: r => if g = f then some d else lookF f r
def putD (f : Str) (v : D) : List (Str × D) → List (Str × D)
  | [] => [(f, v)]
  | (g, x) :: r => if g = f then (g, v) :: r else (g, x) :: putD f v r
section
variable {c : Ct} {μ : Mu} {S : Sto} {H : Hp} {v : V} {d : D} {f : Str}
theorem Rp.insT (w : Wd c μ S H) (r : Rp c μ H v d) {x : Str} {fs : List (Str × D)} (e : insOf S d = some (x, fs)) : ∃ a C dx fv, v = .ref a ∧ H a = some (.ins C dx fv) ∧ c.mg x = some (.ref C) ∧ RpFs c μ H fv fs := by
  cases r with
  | ins h _ _ g rf => cases e; exact ⟨_, _, _, _, rfl, h, g, rf⟩
  | @cell n a hm =>
    obtain ⟨C, dx, fv, h1, h2, h3⟩ := w.ok n _ _ hm (insAt_inv e)
    exact ⟨_, C, dx, fv, rfl, h1, h2, h3⟩
  | _ => cases e
theorem Wd.cellI (w : Wd c μ S H) (r : Rp c μ H v d) {n : Nat} {x : Str} {fs : List (Str × D)} (e : cellIns S d = some (n, x, fs)) : ∃ a C dx fv, v = .ref a ∧ μ.m[n]? = some a ∧ H a = some (.ins C dx fv) ∧ c.mg x = some (.ref C) ∧ RpFs c μ H fv fs := by
  cases r with
  | @cell k a hm =>
    obtain ⟨p, h, e2⟩ := Option.map_eq_some_iff.mp (show (insAt S[k]?).map (fun p => (k, p.1, p.2)) = some (n, x, fs) from e)
    obtain ⟨y, gs⟩ := p
    cases e2
    obtain ⟨C, dx, fv, h1, h2, h3⟩ := w.ok _ _ _ hm (insAt_inv h)
    exact ⟨_, C, dx, fv, rfl, hm, h1, h2, h3⟩
  | _ => cases e
theorem RpFs.look : ∀ {fv : List (Str × V)} {fs : List (Str × D)} {d : D}, RpFs c μ H fv fs → lookF f fs = some d → ∃ v, fv.lookup f = some v ∧ Rp c μ H v d
  | _, _, _, .nil, e => by cases e
  | _, _, _, .cons (f := g) h r, e => by
    unfold lookF at e
    by_cases z : g = f
    · rw [if_pos z] at e
      cases e
      refine ⟨_, ?_, h⟩
      rw [List.lookup_cons, show (f == g) = true by rw [z]; exact beq_self_eq_true f]
    · rw [if_neg z] at e
      obtain ⟨v, e1, e2⟩ := RpFs.look r e
      refine ⟨v, ?_, e2⟩
      rw [List.lookup_cons, show (f == g) = false by exact beq_eq_false_iff_ne.mpr fun q => z q.symm]
      exact e1
theorem RpFs.none : ∀ {fv : List (Str × V)} {fs : List (Str × D)}, RpFs c μ H fv fs → lookF f fs = none → fv.lookup f = none
  | _, _, .nil, _ => rfl
  | _, _, .cons (f := g) h r, e => by
    unfold lookF at e
    by_cases z : g = f
    · rw [if_pos z] at e
      cases e
    · rw [if_neg z] at e
      rw [List.lookup_cons, show (f == g) = false by exact beq_eq_false_iff_ne.mpr fun q => z q.symm]
      exact RpFs.none r e
theorem RpFs.length : ∀ {fv : List (Str × V)} {fs : List (Str × D)}, RpFs c μ H fv fs → fv.length = fs.length
  | _, _, .nil => rfl
  | _, _, .cons _ r => congrArg Nat.succ (RpFs.length r)
theorem RpFs.put {y : V} {e : D} (ry : Rp c μ H y e) : ∀ {fv : List (Str × V)} {fs : List (Str × D)}, RpFs c μ H fv fs → RpFs c μ H (putF f y fv) (putD f e fs)
  | _, _, .nil => .cons ry .nil
  | _, _, .cons (f := g) h r => by
    unfold putF putD
    by_cases z : g = f
    · rw [if_pos z, if_pos z]
      exact .cons ry r
    · rw [if_neg z, if_neg z]
      exact .cons h (RpFs.put ry r)
theorem RpFs.fw {μ' : Mu} {H' : Hp} {fv : List (Str × V)} {fs : List (Str × D)} (r : RpFs c μ H fv fs) (w : Wd c μ S H) (g : Fw μ H μ' H') : RpFs c μ' H' fv fs := r.kp (w.kp g)
end
/-! ### fields -/
/-- of a class of the row: its instances are plain, the name is no attribute of it -/
def ClF (K : PySem.W.Frag) (mg : Str → Option Value) (f x : Str) : Prop := ∀ C, mg x = some (.ref C) → Cls K C ∧ NoAttr K C f
def dFld (xs : List Str) (f : Str) (fo : FE) : FE := fun ρ S Q Ed => fo ρ S (fun d S1 => onSome (insOf S1 d) fun cf => xs.contains cf.1 = true ∧ onSome (lookF f cf.2) fun v => Q v S1) Ed
def dStF (xs : List Str) (f : Str) (fo fe : FE) : FS := fun ρ S De Ed => fe ρ S (fun v S1 => fo ρ S1 (fun d S2 => onSome (cellIns S2 d) fun q => (xs.contains q.2.1 = true ∧ q.2.2.length ≤ 500) ∧ De.nx ρ (S2.set q.1 (.ins q.2.1 (putD f v q.2.2)))) Ed) Ed
section
variable {X : Cx} {E : L2.St → XK} {E1 : XK} {e o value : Expr} {fo fe : FE} {f : Str} {xs : List Str} {pos pos' : Pos}
theorem mem_of_contains {x : Str} (h : xs.contains x = true) : x ∈ xs := List.contains_iff_mem.mp h
theorem d_fld (hx : ∀ x ∈ xs, ClF X.K X.mg f x) (he : PEd X E e fo) (hab : attributeBase e f X.env (eval e X.env) = eval e X.env := by rfl) : PEd X E (.Attribute e f pos) (dFld xs f fo) := by
  refine PE.imp (pe_fld he hab) fun σ H Q ⟨μ, S, ρ, Qd, Ed, w, en, hf, q, px⟩ => ?_
  refine tR_of w en hf px fun d S1 v H1 μ1 h1 f1 w1 en1 px1 r1 => ?_
  obtain ⟨⟨x, fs⟩, e1, hc, h1⟩ := onSome_of h1
  obtain ⟨u, e2, hq⟩ := onSome_of h1
  obtain ⟨a, C, dx, fv, rfl, ha, hm, rf⟩ := r1.insT w1 e1
  obtain ⟨y, e3, ry⟩ := rf.look e2
  obtain ⟨c1, c2⟩ := hx x (mem_of_contains hc) C hm
  exact ⟨a, C, dx, fv, y, rfl, ha, c1, c2, e3, q u S1 y H1 μ1 hq f1 w1 ry⟩
theorem d_stF (hx : ∀ x ∈ xs, ClF X.K X.mg f x) (ho : PEd X (cE E1) o fo) (hv : PEd X (cE E1) value fe) (hs : swapsWith value (some (.Attribute o f pos')) pos.line X.env = pure false := by rfl) : PSd X E1 (.Assign [.Attribute o f pos'] value pos) (dStF xs f fo fe) := by
  refine PS.imp (ps_fld ho hv hs) fun D σ H ⟨μ, S, ρ, De, Ed, w, en, hf, k, px⟩ => ?_
  refine tR_of w en hf px fun y S1 vy H1 μ1 h1 f1 w1 en1 px1 r1 => ?_
  refine tR_of w1 en1 h1 px1 fun d S2 v H2 μ2 h2 f2 w2 en2 px2 r2 => ?_
  obtain ⟨⟨n, x, fs⟩, e1, ⟨hc, hl⟩, hq⟩ := onSome_of h2
  obtain ⟨a, C, dx, fv, rfl, hm, ha, hg, rf⟩ := w2.cellI r2 e1
  obtain ⟨c1, c2⟩ := hx x (mem_of_contains hc) C hg
  have hl' : fs.length ≤ 500 := hl
  refine ⟨a, C, dx, fv, rfl, ha, c1, c2, by rw [rf.length]; omega, ?_⟩
  have fw : Fw μ2 H2 μ2 (upd H2 a (.ins C dx (putF f vy fv))) := Fw.write (List.mem_of_getElem? hm)
  exact k.nx ρ _ σ _ μ2 hq (f1.trans (f2.trans fw)) (w2.set hm ⟨C, dx, _, upd_same, hg, (RpFs.put (r1.fw w1 f2) rf).fw w2 fw⟩) (en2.fw w2 fw)
end
/-! ### a constant of the class -/
def dCon (xs : List Str) (f : Str) (v : D) (fo : FE) : FE := fun ρ S Q Ed => fo ρ S (fun d S1 => onSome (insOf S1 d) fun cf => (xs.contains cf.1 = true ∧ lookF f cf.2 = none) ∧ Q v S1) Ed
/-! ### methods: the def by the object's class -/
/-- of a class of the row: the method m is the def that means F -/
def MF (P : Program) (wo : World) (K : PySem.W.Frag) (mg : Str → Option Value) (b0 : Heap) (cx : CXT) (lv : Nat) (m : Str) (x : Str) (F : FF) : Prop :=
  ∀ C, mg x = some (.ref C) → ∃ fn dat pars, Cls K C ∧ Meth K C m fn ∧ Rb.FnG P wo K mg b0 cx lv fn dat pars (spF (ct0 K mg) F) ∧ Binds K dat pars []
def tabF : List (Str × FF) → Str → Option FF
  | [], _ => none
  | (y, F) :: r, x => if y = x then some F else tabF r x
theorem tabF_mem : ∀ {tab : List (Str × FF)} {x : Str} {F : FF}, tabF tab x = some F → (x, F) ∈ tab
  | [], _, _, h => by cases h
  | (y, G) :: r, x, F, h => by
    unfold tabF at h
    by_cases z : y = x
    · rw [if_pos z] at h
      cases h
      rw [z]
      exact List.mem_cons_self
    · rw [if_neg z] at h
      exact List.mem_cons_of_mem _ (tabF_mem h)
def dMeth (tab : List (Str × FF)) (m : Str) (fo : FE) (fa : FA) : FE := fun ρ S Q Ed => fo ρ S (fun d S1 => onSome (insOf S1 d) fun cf => lookF m cf.2 = none ∧ onSome (tabF tab cf.1) fun F => fa ρ S1 (fun ds S2 => F (d :: ds) S2 Q Ed) Ed) Ed
section
variable {X : Cx} {cx : CXT} {lv : Nat} {E : L2.St → XK} {ob a0 : Expr} {as : List Expr} {fo : FE} {fa : FA} {mn : Str} {tab : List (Str × FF)} {p1 p2 : Pos}
theorem d_meth {plan0 : Sem Bool} (hct : ct X = ct0 X.K X.mg) (hx : ∀ p ∈ tab, MF X.prog X.w X.K X.mg X.base cx lv mn p.1 p.2) (gd : X.A.guards = some []) (rm : Room lv X.A) (ps : ∀ σ, PassesAt cx X σ (E σ)) (he : PEd X E ob fo) (ha : PAd X E (a0 :: as) fa)
    (st1 : starEach (a0 :: as) X.env = (false, eval a0 X.env) :: starEach as X.env := by rfl) (st2 : (backTo p2 (starEach as X.env)).any (·.1) = false := by rfl)
    (evq : eval (.Call (.Attribute ob mn p1) (a0 :: as) [] p2) X.env = (do
      let recv ← eval ob X.env
      standAt p1.atName
      let (callee, fst0) ← holding [recv] (getMethod recv mn plan0)
      callWith p2 callee fst0 (backTo p2 (starEach (a0 :: as) X.env)) (backToKw p2 (keywordEach [] X.env))) := by rfl) :
    PEd X E (.Call (.Attribute ob mn p1) (a0 :: as) [] p2) (dMeth tab mn fo fa) := by
  refine ⟨fun pins s σ H Q I ⟨μ, S, ρ, Qd, Ed, w, en, hf, q, px⟩ => ?_⟩
  refine PySem.W.methodCall_KW (pl := plan0) (thn (he.run pins s σ H (fun v H1 => ∃ a C dx fv fn dat pars F d μ1 S1, v = .ref a ∧ H1 a = some (.ins C dx fv) ∧ fv.lookup mn = none ∧ Cls X.K C ∧ Meth X.K C mn fn ∧ Rb.FnG X.prog X.w X.K X.mg X.base cx lv fn dat pars (spF (ct X) F) ∧ Binds X.K dat pars [] ∧
      Wd (ct X) μ1 S1 H1 ∧ EnvR (ct X) μ1 H1 σ ρ ∧ Rp (ct X) μ1 H1 v d ∧ fa ρ S1 (fun ds S2 => F (d :: ds) S2 Qd Ed) Ed ∧ PostV (ct X) μ1 H1 Qd Q ∧ PX (ct X) μ1 H1 Ed (E σ)) I ?_) fun u s1 hu => ?_) evq
  · refine tR_of w en hf px fun d S1 v H1 μ1 h1 f1 w1 en1 px1 r1 => ?_
    obtain ⟨⟨x, fs⟩, e1, hn, h1⟩ := onSome_of h1
    obtain ⟨F, e2, h1⟩ := onSome_of h1
    obtain ⟨a, C, dx, fv, rfl, ha', hm, rf⟩ := id (r1.insT w1 e1)
    obtain ⟨fn, dat, pars, c1, c2, c3, c4⟩ := hx _ (tabF_mem e2) C hm
    rw [← hct] at c3
    exact ⟨a, C, dx, fv, fn, dat, pars, F, d, μ1, S1, rfl, ha', rf.none hn, c1, c2, c3, c4, w1, en1, r1, h1, PostV.fw q f1, px1⟩
  · obtain ⟨x, H1, I1, rel, a, C, dx, fv, fn, dat, pars, F, d, μ1, S1, rfl, ea, ln, c1, c2, c3, c4, w1, en1, r1, h1, q1, px1⟩ := hu
    obtain rfl : u = Value.ref a := rel
    refine getmeth_ok I1 ea c1 c2 ln ?_
    refine PySem.W.callWith_K (first := [.ref a]) (h₀ := X.base) I.ok.mod.kin c2.kp (thn (ha.run p2 pins s1 σ H1 (fun vs H2 => ∃ ds μ2 S2, Wd (ct X) μ2 S2 H2 ∧ RpAll (ct X) μ2 H2 (.ref a :: vs) (d :: ds) ∧ F (d :: ds) S2 Qd Ed ∧ PostV (ct X) μ2 H2 Qd Q ∧ PX (ct X) μ2 H2 Ed (E σ)) I1 ?_) fun us s2 hu => ?_) st1 st2
    · exact tR_of w1 en1 h1 px1 fun ds S2 vs H2 μ2 h2 f2 w2 en2 px2 r2 => ⟨ds, μ2, S2, w2, .cons (r1.fw w1 f2) r2, h2, PostV.fw q1 f2, px2⟩
    · obtain ⟨vs, H2, I2, rv, ds, μ2, S2, w2, r2, h2, q2, px2⟩ := hu
      exact ⟨I2.kIn, runGS (us := .ref a :: us) (xs := .ref a :: vs) c3 gd rm c4 (ps σ) I2 (.cons rfl rv) ⟨μ2, S2, d :: ds, Qd, Ed, w2, r2, h2, q2, px2⟩⟩
end
end Pu
namespace Pu
open PySem PySem.Spec PyProof.Rows L2
/-! ## properties, new instances -/
section
variable {X : Cx} {k : Nat} {C p g a dx : Addr} {fs : List (Str × V)} {f : Str} {fd : FuncData} {ps : List Str} {sp : Sp} {E : XK}
theorem getpropG {pins : List (Addr × Obj)} {σ : L2.St} {H : Hp} {s : Shared} {Q : VK} {b : Bool} {E' : Value → Shared → Prop} (I : Inv X pins σ H s) (ea : H a = some (.ins C dx fs)) (c : Cls X.K C) (hp : PropOf X.K C f p g)
    (F : Rb.FnG X.prog X.w X.K X.mg X.base CX0 k g fd ps sp) (gd : X.A.guards = some []) (hr : Room (k + 1) X.A) (hb : Binds X.K fd ps []) (h : sp [.ref a] H Q E) : wpAny (model X.prog X.w) X.A (getAttr (.ref a) f b) (EP X pins σ Q) E' s := by
  obtain ⟨mm, ob, _, _, _, _⟩ := ins_get I.hok ea
  obtain ⟨od, J, _⟩ := ob.look
  obtain ⟨more, hrc⟩ := hp.rec_
  have J1 := I.tok (s.toks + 1)
  have hl : ([Value.ref a] ++ []).length = ps.length := by
    rw [← F.many _ _ _ _ h]
    rfl
  have hcl : (PySem.W.clsIn X.K C).isSome = true := by
    obtain ⟨cda, hcl, _⟩ := PySem.W.any_some c.hd
    rw [hcl]
    rfl
  refine PySem.W.get_bind I.kIn J (PySem.W.plainGet_of (c.get f)).1 (PySem.W.findObj_data hcl hp.at_ hp.get hp.tak) (PySem.W.plainGet_of (c.get f)).2 (wpAny_call (PySem.W.prop_get (s := { s with toks := s.toks + 1 }) I.kIn hrc ?_))
  refine codeAny_mono (F.goes X.A.in1 X.stack { s with toks := s.toks + 1 } H ⟨[.ref a], []⟩ [.ref a] [.ref a] Q E hr.in1 gd J1.env0.in1 (by have := hb _ [.ref a] J1.kIn hl; rw [List.append_nil] at this; exact this) (.cons rfl .nil) h) fun r s' hqq => ?_
  cases r with
  | error er => exact False.elim hqq
  | ok fl =>
    cases fl with
    | ret u =>
      obtain ⟨v, H', J3, rvv, qq3⟩ := J1.after hqq
      show wpAny _ X.A (handedOut u) _ _ _
      rw [PySem.W.handedOut_of (handed_of rvv)]
      exact wpAny_pure ⟨v, H', J3, rvv, qq3⟩
    | next => exact False.elim hqq
    | brk => exact False.elim hqq
    | cont => exact False.elim hqq
end
/-- of a class of the row: the name is a property whose getter means F -/
def PF (P : Program) (wo : World) (K : PySem.W.Frag) (mg : Str → Option Value) (b0 : Heap) (lv : Nat) (f : Str) (x : Str) (F : FF) : Prop :=
  ∀ C, mg x = some (.ref C) → ∃ p fn dat pars, Cls K C ∧ PropOf K C f p fn ∧ Rb.FnG P wo K mg b0 CX0 lv fn dat pars (spF (ct0 K mg) F) ∧ Binds K dat pars []
def dProp (tab : List (Str × FF)) (fo : FE) : FE := fun ρ S Q Ed => fo ρ S (fun d S1 => onSome (insOf S1 d) fun cf => onSome (tabF tab cf.1) fun F => F [d] S1 Q Ed) Ed
section
variable {X : Cx} {lv : Nat} {E : L2.St → XK} {e : Expr} {fo : FE} {f : Str} {tab : List (Str × FF)} {pos : Pos}
theorem d_prop (hct : ct X = ct0 X.K X.mg) (hx : ∀ p ∈ tab, PF X.prog X.w X.K X.mg X.base lv f p.1 p.2) (gd : X.A.guards = some []) (rm : Room (lv + 1) X.A) (he : PEd X E e fo)
    (hab : attributeBase e f X.env (eval e X.env) = eval e X.env := by rfl) : PEd X E (.Attribute e f pos) (dProp tab fo) := by
  refine ⟨fun pins s σ H Q I ⟨μ, S, ρ, Qd, Ed, w, en, hf, q, px⟩ => ?_⟩
  refine attr_of hab (thn (he.run pins s σ H (fun v H1 => ∃ a C dx fv p fn dat pars F d μ1 S1, v = .ref a ∧ H1 a = some (.ins C dx fv) ∧ Cls X.K C ∧ PropOf X.K C f p fn ∧ Rb.FnG X.prog X.w X.K X.mg X.base CX0 lv fn dat pars (spF (ct X) F) ∧ Binds X.K dat pars [] ∧
      Wd (ct X) μ1 S1 H1 ∧ Rp (ct X) μ1 H1 v d ∧ F [d] S1 Qd Ed ∧ PostV (ct X) μ1 H1 Qd Q ∧ PX (ct X) μ1 H1 Ed (E σ)) I ?_) fun u s1 hu => ?_)
  · refine tR_of w en hf px fun d S1 v H1 μ1 h1 f1 w1 en1 px1 r1 => ?_
    obtain ⟨⟨x, fs⟩, e1, h1⟩ := onSome_of h1
    obtain ⟨F, e2, h1⟩ := onSome_of h1
    obtain ⟨a, C, dx, fv, rfl, ha', hm, rf⟩ := id (r1.insT w1 e1)
    obtain ⟨p, fn, dat, pars, c1, c2, c3, c4⟩ := hx _ (tabF_mem e2) C hm
    rw [← hct] at c3
    exact ⟨a, C, dx, fv, p, fn, dat, pars, F, d, μ1, S1, rfl, ha', c1, c2, c3, c4, w1, r1, h1, PostV.fw q f1, px1⟩
  · obtain ⟨x, H1, J1, rel, a, C, dx, fv, p, fn, dat, pars, F, d, μ1, S1, rfl, ea, c1, c2, c3, c4, w1, r1, h1, q1, px1⟩ := hu
    obtain rfl : u = Value.ref a := rel
    exact getpropG J1 ea c1 c2 c3 gd rm c4 ⟨μ1, S1, [d], Qd, Ed, w1, .cons r1 .nil, h1, q1, px1⟩
end
/-! ### C(..) -/
section
variable {X : Cx} {cx : CXT} {k : Nat} {C f : Addr} {fd : FuncData} {ps : List Str} {sp : Sp} {E : XK}
theorem run_makeG {pins : List (Addr × Obj)} {σ : L2.St} {H : Hp} {s : Shared} {Q : VK} {us : List Value} {vs : List V} (M : Mk X.K C f) (F : Rb.FnG X.prog X.w X.K X.mg X.base cx k f fd ps sp) (gd : X.A.guards = some []) (hr : Room (k + 1) X.A) (hb : Binds X.K fd ps [])
    (hx : PassesAt cx X σ E) (I : Inv X pins σ H s) (r : Vals vs us)
    (h : ∀ x dx, H x = none → H dx = none → dx ≠ x → sp (.ref x :: vs) (upd (upd H dx (.own x)) x (.ins C dx [])) (fun v H2 => v = .non ∧ Q (.ref x) H2) E) : wpAny (model X.prog X.w) X.A (call (.ref C) us) (EP X pins σ Q) X.xe s := by
  have hqq := h (s.heap.objs.size + 1) s.heap.objs.size (I.hok.fresh (Nat.le_succ _)) (I.hok.fresh (Nat.le_refl _)) (Nat.ne_of_lt (Nat.lt_succ_self _))
  have J2 := Inv.made (C := C) I
  have rr2 : Vals (V.ref (s.heap.objs.size + 1) :: vs) (Value.ref (s.heap.objs.size + 1) :: us) := .cons rfl r
  have hl : (Value.ref (s.heap.objs.size + 1) :: us ++ []).length = ps.length := by
    rw [List.append_nil]
    have e := rr2.length
    rw [F.many _ _ _ _ hqq] at e
    exact e.symm
  have b := hb { s with heap := _ } (Value.ref (s.heap.objs.size + 1) :: us) J2.kIn hl
  rw [List.append_nil] at b
  refine wpAny_call (make_map (f := f) I.kIn M.makes M.init (beq_iff_eq.mp M.fn) (codeAny_mono (F.goes _ X.stack _ _ ⟨Value.ref (s.heap.objs.size + 1) :: us, []⟩ (Value.ref (s.heap.objs.size + 1) :: us) _ _ E (hr.make C us []) ?_
    (J2.env0.make C us []) b rr2 hqq) fun r s' hqz => ?_))
  · have e : (X.A.under (.builtin "type.__call__" ⟨Value.ref C :: us, []⟩)).guards = X.A.guards := by
      have z : (Code.builtin "type.__call__" ⟨Value.ref C :: us, []⟩).guards = [] := by
        unfold Code.guards
        rw [show (Code.builtin "type.__call__" ⟨Value.ref C :: us, []⟩).isGuard = false by with_unfolding_all rfl]
        rfl
      unfold Around.under
      simp only [z]
      cases X.A.guards <;> rfl
    rw [e]
    exact gd
  cases r with
  | error e => exact hx pins _ _ e s' J2 hqz
  | ok fl =>
    cases fl with
    | ret u =>
      obtain ⟨v, H', J3, rvv, ev, qq3⟩ := J2.after hqz
      subst ev
      exact ⟨rvv, ⟨V.ref (s.heap.objs.size + 1), H', J3, rfl, qq3⟩⟩
    | next => exact False.elim hqz
    | brk => exact False.elim hqz
    | cont => exact False.elim hqz
end
/-- of a class of the row: its __init__ means F -/
def MkF (P : Program) (wo : World) (K : PySem.W.Frag) (mg : Str → Option Value) (b0 : Heap) (cx : CXT) (lv : Nat) (C : Addr) (F : FF) : Prop :=
  ∃ fn dat pars, Mk K C fn ∧ Rb.FnG P wo K mg b0 cx lv fn dat pars (spF (ct0 K mg) F) ∧ Binds K dat pars []
def dMake (x : Str) (F : FF) (fa : FA) : FE := fun ρ S Q Ed => fa ρ S (fun ds S1 => F (.cell S1.length :: ds) (S1 ++ [.ins x []]) (fun d S2 => d = .non ∧ Q (.cell S1.length) S2) Ed) Ed
section
variable {X : Cx} {cx : CXT} {lv : Nat} {E : L2.St → XK} {C : Addr} {F : FF} {x : Str} {e : Expr} {es : List Expr} {fa : FA} {p pos : Pos}
theorem d_make (hct : ct X = ct0 X.K X.mg) (hC : MkF X.prog X.w X.K X.mg X.base cx lv C F) (gd : X.A.guards = some []) (rm : Room (lv + 1) X.A) (hg : Gl X x) (hm : X.mg x = some (.ref C)) (ps : ∀ σ, PassesAt cx X σ (E σ)) (ha : PAd X E (e :: es) fa)
    (ndb : (x == ("__debug__" : Str)) = false := by decide) (he : starEach (e :: es) X.env = (false, eval e X.env) :: starEach es X.env := by rfl) (hpl : (backTo pos (starEach es X.env)).any (·.1) = false := by rfl) :
    PEd X E (.Call (.Name x p) (e :: es) [] pos) (dMake x F fa) := by
  obtain ⟨fn, dat, pars, M, G, B⟩ := hC
  rw [← hct] at G
  refine ⟨fun pins s σ H Q I ⟨μ, S, ρ, Qd, Ed, w, en, hf, q, px⟩ => ?_⟩
  refine wpAny_Call_Name_kw (ld_glob I hg hm ?_ ndb)
  refine PySem.W.callWith_K (h₀ := X.base) I.ok.mod.kin M.kp (thn (ha.run pos pins s σ H (fun vs H1 => ∀ a dx, H1 a = none → H1 dx = none → dx ≠ a → spF (ct X) F (.ref a :: vs) (upd (upd H1 dx (.own a)) a (.ins C dx [])) (fun v H2 => v = .non ∧ Q (.ref a) H2) (E σ)) I ?_) fun us s1 ⟨vs, H1, J1, r, q1⟩ => ⟨J1.kIn, run_makeG M G gd rm B (ps σ) J1 r q1⟩) he hpl
  refine tR_of w en hf px fun ds S1 vs H1 μ1 h1 f1 w1 en1 px1 r1 a dx na nd ne => ?_
  have fA : Fw μ1 H1 μ1 (upd H1 dx (.own a)) := Fw.new nd
  have wA := w1.new (o := .own a) nd
  have na2 : upd H1 dx (HO.own a) a = none := by rw [upd_ne (Ne.symm ne)]; exact na
  have fB : Fw μ1 (upd H1 dx (.own a)) ⟨μ1.m ++ [a], μ1.av⟩ (upd (upd H1 dx (.own a)) a (.ins C dx [])) := Fw.newC na2
  have wB : Wd (ct X) ⟨μ1.m ++ [a], μ1.av⟩ (S1 ++ [.ins x []]) (upd (upd H1 dx (.own a)) a (.ins C dx [])) := wA.newC na2 ⟨C, dx, [], upd_same, hm, .nil⟩
  have rc : Rp (ct X) ⟨μ1.m ++ [a], μ1.av⟩ (upd (upd H1 dx (.own a)) a (.ins C dx [])) (.ref a) (.cell S1.length) := .cell (by
    show (μ1.m ++ [a])[S1.length]? = some a
    rw [← w1.len, List.getElem?_append_right (Nat.le_refl _), Nat.sub_self]
    rfl)
  refine ⟨⟨μ1.m ++ [a], μ1.av⟩, _, _, _, Ed, wB, .cons rc ((r1.fw w1 fA).fw wA fB), h1, fun d S' v H' μ' hqq fw w' r' => ?_, (px1.fw fA).fw fB⟩
  obtain ⟨rfl, hqq⟩ := hqq
  cases r'
  exact ⟨rfl, q _ S' _ H' μ' hqq (f1.trans (fA.trans (fB.trans fw))) w' (rc.fw wB fw)⟩
end
end Pu
namespace Pu
open PySem PySem.Spec PyProof.Rows L2
/-! ## values without a held error -/
mutual
def noX : D → Bool
  | .exc _ _ => false
  | .tup xs => noXs xs
  | .lst _ xs => noXs xs
  | .kls xs => noXs xs
  | .ins _ fs => noXf fs
  | _ => true
def noXs : List D → Bool
  | [] => true
  | x :: xs => noX x && noXs xs
def noXf : List (Str × D) → Bool
  | [] => true
  | (_, x) :: xs => noX x && noXf xs
end
/-- the same row, more errors held -/
structure CtLe (c c' : Ct) : Prop where
  K : c.K = c'.K
  mg : c.mg = c'.mg
  hx : ∀ a z, c.hx a = some z → c'.hx a = some z
section
variable {c c' : Ct} {μ : Mu} {H : Hp}
mutual
theorem Rp.ct (k : CtLe c c') : ∀ {v : V} {d : D}, Rp c μ H v d → Rp c' μ H v d
  | _, _, .non => .non
  | _, _, .bl b => .bl b
  | _, _, .int i => .int i
  | _, _, .str x => .str x
  | _, _, .tup h r => .tup h (RpAll.ct k r)
  | _, _, .lst h n1 n2 n3 r => .lst h n1 n2 n3 (RpAll.ct k r)
  | _, _, .kls h n1 n2 r => .kls h n1 n2 (RpAll.ct k r)
  | _, _, .klsK o its n h1 h2 h3 h4 h5 h6 r => .klsK o its n (k.K ▸ h1) h2 h3 h4 h5 h6 (RpAll.ct k r)
  | _, _, .dic h n n2 => .dic h n n2
  | _, _, .cell h => .cell h
  | _, _, .glo h r => .glo (k.mg ▸ h) r
  | _, _, .ty n => .ty n
  | _, _, .ins h n n2 g r => .ins h n n2 (k.mg ▸ g) (RpFs.ct k r)
  | _, _, .exc0 h g => .exc0 (k.hx _ _ h) (k.mg ▸ g)
  | _, _, .exc1 h g e r => .exc1 (k.hx _ _ h) (k.mg ▸ g) e (RpFs.ct k r)
theorem RpAll.ct (k : CtLe c c') : ∀ {vs : List V} {ds : List D}, RpAll c μ H vs ds → RpAll c' μ H vs ds
  | _, _, .nil => .nil
  | _, _, .cons h r => .cons (Rp.ct k h) (RpAll.ct k r)
theorem RpFs.ct (k : CtLe c c') : ∀ {vs : List (Str × V)} {ds : List (Str × D)}, RpFs c μ H vs ds → RpFs c' μ H vs ds
  | _, _, .nil => .nil
  | _, _, .cons h r => .cons (Rp.ct k h) (RpFs.ct k r)
end
/-! back, where no held error is mentioned -/
mutual
theorem Rp.un (eK : c'.K = c.K) (eg : c'.mg = c.mg) : ∀ {v : V} {d : D}, Rp c' μ H v d → noX d = true → Rp c μ H v d
  | _, _, .non, _ => .non
  | _, _, .bl b, _ => .bl b
  | _, _, .int i, _ => .int i
  | _, _, .str x, _ => .str x
  | _, _, .tup h r, n => .tup h (RpAll.un eK eg r n)
  | _, _, .lst h n1 n2 n3 r, n => .lst h n1 n2 n3 (RpAll.un eK eg r n)
  | _, _, .kls h n1 n2 r, n => .kls h n1 n2 (RpAll.un eK eg r n)
  | _, _, .klsK o its k h1 h2 h3 h4 h5 h6 r, n => .klsK o its k (eK ▸ h1) h2 h3 h4 h5 h6 (RpAll.un eK eg r n)
  | _, _, .dic h n n2, _ => .dic h n n2
  | _, _, .cell h, _ => .cell h
  | _, _, .glo h r, _ => .glo (eg ▸ h) r
  | _, _, .ty n, _ => .ty n
  | _, _, .ins h n1 n2 g r, n => .ins h n1 n2 (eg ▸ g) (RpFs.un eK eg r n)
  | _, _, .exc0 _ _, n => nomatch n
  | _, _, .exc1 _ _ _ _, n => nomatch n
theorem RpAll.un (eK : c'.K = c.K) (eg : c'.mg = c.mg) : ∀ {vs : List V} {ds : List D}, RpAll c' μ H vs ds → noXs ds = true → RpAll c μ H vs ds
  | _, _, .nil, _ => .nil
  | _, _, .cons h r, n => have n' := Bool.and_eq_true_iff.mp n; .cons (Rp.un eK eg h n'.1) (RpAll.un eK eg r n'.2)
theorem RpFs.un (eK : c'.K = c.K) (eg : c'.mg = c.mg) : ∀ {vs : List (Str × V)} {ds : List (Str × D)}, RpFs c' μ H vs ds → noXf ds = true → RpFs c μ H vs ds
  | _, _, .nil, _ => .nil
  | _, _, .cons h r, n => have n' := Bool.and_eq_true_iff.mp n; .cons (Rp.un eK eg h n'.1) (RpFs.un eK eg r n'.2)
end
/-! where none is held, none is mentioned -/
mutual
theorem Rp.free (no : ∀ a, c.hx a = none) : ∀ {v : V} {d : D}, Rp c μ H v d → noX d = true
  | _, _, .non => rfl
  | _, _, .bl b => rfl
  | _, _, .int i => rfl
  | _, _, .str x => rfl
  | _, _, .tup h r => RpAll.free no r
  | _, _, .lst h n1 n2 n3 r => RpAll.free no r
  | _, _, .kls h n1 n2 r => RpAll.free no r
  | _, _, .klsK o its k h1 h2 h3 h4 h5 h6 r => RpAll.free no r
  | _, _, .dic h n n2 => rfl
  | _, _, .cell h => rfl
  | _, _, .glo h r => rfl
  | _, _, .ty n => rfl
  | _, _, .ins h n1 n2 g r => RpFs.free no r
  | _, _, .exc0 h _ => by rw [no] at h; cases h
  | _, _, .exc1 h _ _ _ => by rw [no] at h; cases h
theorem RpAll.free (no : ∀ a, c.hx a = none) : ∀ {vs : List V} {ds : List D}, RpAll c μ H vs ds → noXs ds = true
  | _, _, .nil => rfl
  | _, _, .cons h r => Bool.and_eq_true_iff.mpr ⟨Rp.free no h, RpAll.free no r⟩
theorem RpFs.free (no : ∀ a, c.hx a = none) : ∀ {vs : List (Str × V)} {ds : List (Str × D)}, RpFs c μ H vs ds → noXf ds = true
  | _, _, .nil => rfl
  | _, _, .cons h r => Bool.and_eq_true_iff.mpr ⟨Rp.free no h, RpFs.free no r⟩
end
end
section
variable {c c' : Ct} {μ μ' : Mu} {S : Sto} {H H' : Hp} {σ : L2.St} {ρ : Rho}
theorem Wd.ct (k : CtLe c c') (w : Wd c μ S H) : Wd c' μ S H := ⟨w.nd, w.len, w.ap, w.avs, fun i a x h1 h2 => by
  have := w.ok i a x h1 h2
  cases x with
  | lst ds =>
    obtain ⟨vs, e, r⟩ := this
    exact ⟨vs, e, r.ct k⟩
  | ins y fs =>
    obtain ⟨C, dx, fv, e, g, r⟩ := this
    exact ⟨C, dx, fv, e, k.mg ▸ g, r.ct k⟩⟩
theorem EnvR.ct (k : CtLe c c') (en : EnvR c μ H σ ρ) : EnvR c' μ H σ ρ := ⟨en.len, fun i d h => let ⟨v, e, r⟩ := en.ok i d h; ⟨v, e, r.ct k⟩⟩
/-- the cells as they were before -/
theorem Wd.un (eK : c'.K = c.K) (eg : c'.mg = c.mg) (no : ∀ a, c.hx a = none) (w0 : Wd c μ S H) (w : Wd c' μ' S H') : Wd c μ' S H' := ⟨w.nd, w.len, w.ap, w.avs, fun i a x h1 h2 => by
  obtain ⟨a0, e0, o0⟩ := w0.atCell h2
  have := w.ok i a x h1 h2
  cases x with
  | lst ds =>
    obtain ⟨vs0, _, r0⟩ := o0
    obtain ⟨vs, e, r⟩ := this
    exact ⟨vs, e, r.un eK eg (r0.free no)⟩
  | ins y fs =>
    obtain ⟨_, _, fv0, _, _, r0⟩ := o0
    obtain ⟨C, dx, fv, e, g, r⟩ := this
    exact ⟨C, dx, fv, e, eg ▸ g, r.un eK eg (r0.free no)⟩⟩
/-- the slots as they were before, or without a held error -/
def sameX : Rho → Rho → Prop
  | [], [] => True
  | x :: r, y :: s => (x = y ∨ y = none ∨ ∃ d, y = some d ∧ noX d = true) ∧ sameX r s
  | _, _ => False
theorem sameX_at : ∀ {ρ ρ' : Rho} {i : Nat} {d : D}, sameX ρ ρ' → ρ'[i]? = some (some d) → ρ[i]? = some (some d) ∨ noX d = true
  | [], [], i, d, _, h => by simp at h
  | x :: r, y :: s, 0, d, h, e => by
    have e' : y = some d := by simpa using e
    rcases h.1 with z | z | ⟨d', z, n⟩
    · exact .inl (by rw [z, e']; rfl)
    · rw [z] at e'; cases e'
    · rw [z] at e'; cases e'; exact .inr n
  | x :: r, y :: s, i + 1, d, h, e => by
    rw [List.getElem?_cons_succ] at e ⊢
    exact sameX_at h.2 e
  | [], _ :: _, _, _, h, _ => h.elim
  | _ :: _, [], _, _, h, _ => h.elim
theorem EnvR.un {ρ0 : Rho} {σ0 : L2.St} {μ0 : Mu} {H0 : Hp} (eK : c'.K = c.K) (eg : c'.mg = c.mg) (no : ∀ a, c.hx a = none) (en0 : EnvR c μ0 H0 σ0 ρ0) (s : sameX ρ0 ρ) (en : EnvR c' μ H σ ρ) : EnvR c μ H σ ρ := ⟨en.len, fun i d h => by
  obtain ⟨v, e, r⟩ := en.ok i d h
  refine ⟨v, e, r.un eK eg ?_⟩
  rcases sameX_at s h with z | z
  · obtain ⟨_, _, r0⟩ := en0.ok i d z
    exact r0.free no
  · exact z⟩
end
/-! ## raise -/
def dRaise (x f : Str) (fe : FE) : FS := fun ρ S De Ed => fe ρ S (fun d S1 => Ed (x, [(f, d)]) S1) Ed
/-! ## statements in a try: what leaves by an error leans on the slots at their beginning -/
/-! ## try: .. except C as n: .. -/
theorem ct_calm {X : Cx} (h : X.calm = true) : ct X = ct0 X.K X.mg := by
  unfold ct
  rw [if_pos h]
end Pu
namespace Pu
open PySem PySem.Spec PyProof.Rows L2
/-! ## what a handler asks of its error -/
/-! ### isinstance -/
/-- of a class of errors x and a class named y (of the row or built in): whether y is above x -/
def lookX : List (Str × Str × Bool) → Str → Str → Option Bool
  | [], _, _ => none
  | (x, y, b) :: r, u, v => if x = u ∧ y = v then some b else lookX r u v
theorem lookX_mem : ∀ {tab : List (Str × Str × Bool)} {u v : Str} {b : Bool}, lookX tab u v = some b → (u, v, b) ∈ tab
  | [], _, _, _, h => by cases h
  | (x, y, c) :: r, u, v, b, h => by
    unfold lookX at h
    by_cases z : x = u ∧ y = v
    · rw [if_pos z] at h
      cases h
      obtain ⟨rfl, rfl⟩ := z
      exact List.mem_cons_self
    · rw [if_neg z] at h
      exact List.mem_cons_of_mem _ (lookX_mem h)
/-- what isinstance asks of a class of errors -/
structure OwnI (K : PySem.W.Frag) (C : Addr) : Prop where
  xf : XfC K C
  is : PySem.W.isClsIn K C = true
  cl : PySem.W.findIn K (.ref C) "__class__" = some (some (.builtin "object.__class__"))
  cg : PySem.W.specialIn K (.builtin "object.__class__") "__get__" = some (some (.builtin "getset_descriptor.__get__"))
  ct : PySem.W.takesIn K (.builtin "object.__class__") = some true
  co : PySem.W.mroIn K C (.type "object") = some true
def clsV (mg : Str → Option Value) (y : Str) (u : Value) : Prop := mg y = some u ∨ (mg y = none ∧ bootBuiltins y = some u)
def XI (K : PySem.W.Frag) (mg : Str → Option Value) (x y : Str) (b : Bool) : Prop := ∃ C, mg x = some (.ref C) ∧ OwnI K C ∧ ∀ u, clsV mg y u → PySem.W.kitOne K (.ref C) u = some b
def anyX (tab : List (Str × Str × Bool)) (x : Str) : List Str → Option Bool
  | [] => some false
  | y :: r => match lookX tab x y with | some true => some true | some false => anyX tab x r | none => none
/-- a class by its name, in an expression -/
structure ClE (X : Cx) (e : Expr) (y : Str) (u : Value) : Prop where
  ex : ∃ v, PE X e (tC v) ∧ ClsV v u
  at_ : clsV X.mg y u
/-- classes by their names -/
inductive ClEs (X : Cx) : List Expr → List Str → List Value → Prop where
  | nil : ClEs X [] [] []
  | cons {e : Expr} {es : List Expr} {y : Str} {ys : List Str} {u : Value} {us : List Value} (h : ClE X e y u) (r : ClEs X es ys us) (hs : starEach (e :: es) X.env = (false, eval e X.env) :: starEach es X.env := by rfl) : ClEs X (e :: es) (y :: ys) (u :: us)
section
variable {X : Cx} {E : L2.St → XK} {a : Addr} {oe : Obj} {pn : List (Addr × Obj)} {i : Nat} {tab : List (Str × Str × Bool)} {e ce : Expr} {ces : List Expr} {y : Str} {ys : List Str} {u : Value} {us : List Value} {p pos tpos : Pos} {kt : Nat}
theorem ClEs.any {K : PySem.W.Frag} {x : Str} {C : Addr} {X' : Cx} (hx : X'.mg x = some (.ref C)) (ht : ∀ z ∈ tab, XI K X'.mg z.1 z.2.1 z.2.2) : ∀ {es : List Expr} {ys : List Str} {us : List Value} {b : Bool}, ClEs X' es ys us → anyX tab x ys = some b → PySem.W.kitAny K (.ref C) us = some b
  | _, _, _, b, .nil, e => by cases e; rfl
  | _, _, _, b, .cons (y := y) h r _, e => by
    unfold anyX at e
    unfold PySem.W.kitAny
    cases e1 : lookX tab x y with
    | none => rw [e1] at e; cases e
    | some k =>
      rw [e1] at e
      obtain ⟨C', gC, _, hk⟩ := ht _ (lookX_mem e1)
      have : C' = C := by
        have z : X'.mg x = some (.ref C') := gC
        rw [hx] at z
        cases z
        rfl
      subst this
      rw [hk _ h.at_]
      cases k with
      | true => cases e; rfl
      | false => exact ClEs.any hx ht r e
end
end Pu
namespace Pu
open PySem PySem.Spec PyProof.Rows L2
/-! ## defs that may raise -/
theorem FnG_mono {pr : Program} {wo : World} {K : PySem.W.Frag} {mg : Str → Option Value} {b0 : Heap} {cx : CXT} {lv l2 : Nat} {fn : Addr} {dat : FuncData} {pars : List Str} {sp : Sp} (F : Rb.FnG pr wo K mg b0 cx lv fn dat pars sp) (h : lv ≤ l2) : Rb.FnG pr wo K mg b0 cx l2 fn dat pars sp :=
  ⟨F.many, fun A out s H ar us xs Q E r g e b v p => F.goes A out s H ar us xs Q E (r.mono h) g e b v p⟩
theorem passLG {X : Cx} : ∀ σ, PassesAt (L2.CX X.prog X.w) X σ (cE E0 σ) := fun σ pins H s e s' I z => (passL (X := X) pins σ H s e s' I z)
section
variable {pr : Program} {wo : World} {K : PySem.W.Frag} {mg : Str → Option Value} {b0 : Heap} {lv : Nat} {x qn : Str} {st : Stmt} {fn : Addr} {dat : FuncData} {NN pars : List Str} {fb : FS}
theorem d_fnX (F : Fun K x qn st fn dat) (S : FnScope NN pars (defScope st))
    (body : ∀ (cdv : Value) (A : Around) (out : List Env) (s : Shared) (H : Hp) (E : XK), A.guards = some [] → Room lv (A.deeper (envOfC qn (defScope st) s.heap.objs.size fn cdv)) → PBd (cxOf (L2.CX pr wo) pr wo K mg b0 NN qn (defScope st) fn cdv A out s H E) E (defBody st) fb) :
    Rb.FnG pr wo K mg b0 (L2.CX pr wo) (lv + 1) fn dat pars (spF (ct0 K mg) (dDefX pars.length NN.length fb)) := by
  obtain ⟨oc, od, kV, dc, pv, an, cdv, ct, osl, rfl, at_, code⟩ := F.ex
  refine Rb.fnG_of at_ code S (fun xs H Q E pro => ?_) fun A out s H xs Q E gd rm pro => ⟨_, body cdv A out s H E gd rm, ?_⟩
  · obtain ⟨μ, S, ds, Qd, Ed, w, r, ⟨hl, _⟩, _⟩ := pro
    rw [r.length]
    exact hl
  · obtain ⟨μ, S, ds, Qd, Ed, w, r, ⟨hl, h⟩, q, px⟩ := pro
    exact ⟨μ, S, _, _, Ed, w, startD_env r, h, ⟨fun ρ' S' σ' H' μ' hq f w' en => q .non S' .non H' μ' hq f w' .non, q, fun _ _ _ _ _ z => z.elim, fun _ _ _ _ _ z => z.elim⟩, px⟩
end
/-! ## list.count of bools -/
/-! ## isinstance of values, instances among them -/
/-- of a class of the row: what isinstance asks of its instances -/
structure InsT (K : PySem.W.Frag) (C : Addr) : Prop where
  cl : Cls K C
  ha : PySem.W.findIn K (.ref C) "__class__" = some (some (.builtin "object.__class__"))
  hn : PySem.W.specialIn K (.builtin "object.__class__") "__get__" = some (some (.builtin "getset_descriptor.__get__"))
  tk : PySem.W.takesIn K (.builtin "object.__class__") = some true
  hm : PySem.W.mroIn K C (.type "object") = some true
end Pu
namespace Pu
open PySem PySem.Spec PyProof.Rows L2
/-! ## small words for the printed terms -/
theorem all0 {α : Type} {P : α → Prop} : ∀ x ∈ ([] : List α), P x := fun _ z => nomatch z
theorem allS {α : Type} {P : α → Prop} {a : α} {l : List α} (h : P a) (r : ∀ x ∈ l, P x) : ∀ x ∈ a :: l, P x := fun x hx => by
  rcases List.mem_cons.mp hx with rfl | hx
  · exact h
  · exact r x hx
section
variable {K : PySem.W.Frag} {mg : Str → Option Value} {x f y : Str} {C : Addr}
theorem clf (c : Cls K C) (g : mg x = some (.ref C)) (n : NoAttr K C f) : ClF K mg f x := fun C' h => by
  rw [g] at h
  cases h
  exact ⟨c, n⟩
theorem mf_of {P : Program} {w : World} {b0 : Heap} {cx : CXT} {lv : Nat} {m : Str} {F : FF} {fn : Addr} {dat : FuncData} {pars : List Str} (g : mg x = some (.ref C)) (c : Cls K C) (h : Meth K C m fn) (G : Rb.FnG P w K mg b0 cx lv fn dat pars (spF (ct0 K mg) F)) (b : Binds K dat pars []) : MF P w K mg b0 cx lv m x F := fun C' z => by
  rw [g] at z
  cases z
  exact ⟨_, _, _, c, h, G, b⟩
theorem pf_of {P : Program} {w : World} {b0 : Heap} {lv : Nat} {F : FF} {fn p : Addr} {dat : FuncData} {pars : List Str} (g : mg x = some (.ref C)) (c : Cls K C) (h : PropOf K C f p fn) (G : Rb.FnG P w K mg b0 CX0 lv fn dat pars (spF (ct0 K mg) F)) (b : Binds K dat pars []) : PF P w K mg b0 lv f x F := fun C' z => by
  rw [g] at z
  cases z
  exact ⟨_, _, _, _, c, h, G, b⟩
end
end Pu
namespace Pu
open PySem PySem.Spec PyProof.Rows L2
/-! ## len(o), o[i]: a class's own methods -/
section
variable {X : Cx} {cx : CXT} {lv : Nat} {fn : Addr} {dat : FuncData} {pars : List Str} {sp : Sp}
theorem runGS1 {pins : List (Addr × Obj)} {σ : L2.St} {H : Hp} {s : Shared} {Q : VK} {us : List Value} {xs : List V} {E1 : XK} (F : Rb.FnG X.prog X.w X.K X.mg X.base cx lv fn dat pars sp) (gd : X.A.guards = some []) (rm : Room (lv + 1) X.A)
    (bi : Binds X.K dat pars []) (ps : PassesAt cx X σ E1) (I : Inv X pins σ H s) (vx : Vals xs us) (pro : sp xs H Q E1) :
    wpAny (model X.prog X.w) X.A.in1 (call (.ref fn) us) (EP X pins σ Q) X.xe s := by
  have l2 : (us ++ []).length = pars.length := by rw [List.append_nil]; exact vx.length ▸ F.many _ _ _ _ pro
  have b := bi s us I.kIn l2
  rw [List.append_nil] at b
  refine wpAny_call (codeAny_mono (F.goes X.A.in1 X.stack s H ⟨us, []⟩ us xs Q E1 rm.in1 gd I.env0.in1 b vx pro) ?_)
  intro res s2 fin
  match res, fin with
  | .error e, fin => exact ps pins H s e s2 I fin
  | .ok (.ret u), fin => exact I.after fin
  | .ok .next, fin => exact (fin : False).elim
  | .ok .brk, fin => exact (fin : False).elim
  | .ok .cont, fin => exact (fin : False).elim
end
def asLen (Q : QD) : QD := fun r S => match r with
  | .int n => (0 ≤ n ∧ n < 2 ^ 63) ∧ Q (.int n) S
  | _ => False
/-- len of an instance -/
def gLenO (tab : List (Str × FF)) : List D → Sto → QD → Prop := fun ds S Q => match ds with
  | [d] => onSome (insOf S d) fun cf => onSome (tabF tab cf.1) fun F => F [d] S (asLen Q) noE
  | _ => False
def LnF (P : Program) (wo : World) (K : PySem.W.Frag) (mg : Str → Option Value) (b0 : Heap) (lv : Nat) (x : Str) (F : FF) : Prop :=
  ∀ C, mg x = some (.ref C) → ∃ fn dat pars, PySem.W.findIn K (.ref C) "__len__" = some (some (.ref fn)) ∧ PySem.W.isFn K (.ref fn) = true ∧ Rb.FnG P wo K mg b0 CX0 lv fn dat pars (spF (ct0 K mg) F) ∧ Binds K dat pars []
section
variable {X : Cx} {cx : CXT} {lv : Nat} {tab : List (Str × FF)}
theorem c_lenO (hct : ct X = ct0 X.K X.mg) (hx : ∀ p ∈ tab, LnF X.prog X.w X.K X.mg X.base lv p.1 p.2) (gd : X.A.guards = some []) (rm : Room (lv + 1) X.A) : CallR X (.builtin "len") (rDs (ct X) (gLenO tab)) := by
  intro pins s σ H vs us Q I r ⟨μ, S, ds, Qd, w, ra, hg, q⟩
  unfold gLenO at hg
  split at hg
  · obtain ⟨v, rfl, rv⟩ := ra.one
    obtain ⟨⟨x, fs⟩, e1, hg⟩ := onSome_of hg
    obtain ⟨F, e2, hg⟩ := onSome_of hg
    obtain ⟨a, C, dx, fv, rfl, ea, hm, rf⟩ := id (rv.insT w e1)
    obtain ⟨fn, dat, pars, c1, c2, c3, c4⟩ := hx _ (tabF_mem e2) C hm
    rw [← hct] at c3
    obtain ⟨u, rfl, ru⟩ := vals1 r
    obtain rfl : u = Value.ref a := ru
    obtain ⟨mm, ob, _, _, _, _⟩ := ins_get I.hok ea
    obtain ⟨od, J, _⟩ := ob.look
    obtain ⟨m, fr⟩ := I.fr
    have run := runGS1 (us := [.ref a]) (xs := [.ref a]) (Q := fun v H' => ∃ n, v = .int n ∧ (0 ≤ n ∧ n < 2 ^ 63) ∧ Q (.int n) H') (E1 := fun _ _ _ => False) c3 gd rm c4 (passG (E := fun _ _ _ _ => False) σ) I (.cons rfl .nil) ⟨μ, S, [_], asLen Qd, noE, w, .cons rv .nil, hg, fun d S' v H' μ' hq f w' r => by
      unfold asLen at hq
      split at hq
      · exact ⟨_, r.int_inv, hq.1, q _ S' _ H' μ' hq.2 f w' (.int _)⟩
      · exact hq.elim, fun e S' cls dx H' μ' z => z.elim⟩
    refine PySem.W.len_K fr I.ok.mod.kin J c1 c2 (wpAny_mono run (fun u' s' hu => ?_) fun _ _ z => z)
    obtain ⟨v, H', I', rv', n, rfl, hb, hq⟩ := hu
    obtain ⟨t, rfl⟩ := rv'
    exact ⟨hb, .int n, H', I'.tok _, ⟨_, rfl⟩, hq⟩
  · exact hg.elim
end
theorem ln_of {P : Program} {wo : World} {K : PySem.W.Frag} {mg : Str → Option Value} {b0 : Heap} {lv : Nat} {x : Str} {F : FF} {C fn : Addr} {dat : FuncData} {pars : List Str} (g : mg x = some (.ref C)) (a : PySem.W.findIn K (.ref C) "__len__" = some (some (.ref fn))) (b : PySem.W.isFn K (.ref fn) = true)
    (G : Rb.FnG P wo K mg b0 CX0 lv fn dat pars (spF (ct0 K mg) F)) (B : Binds K dat pars []) : LnF P wo K mg b0 lv x F := fun C' h => by
  rw [g] at h
  cases h
  exact ⟨fn, dat, pars, a, b, G, B⟩
end Pu
namespace Pu
open PySem PySem.Spec PyProof.Rows L2
/-- sorted of a tuple of whole numbers -/
def gSortTI : List D → Sto → QD → Prop := fun ds S Q => match ds with
  | [.tup xs] => onSome (intsOf xs) fun ns => Q (.lst false ((Rb.srt ns).map D.int)) S
  | _ => False
theorem c_sortTI {X : Cx} : CallR X (.builtin "sorted") (rDs (ct X) gSortTI) := by
  intro pins s σ H vs us Q I r ⟨μ, S, ds, Qd, w, ra, hg, q⟩
  unfold gSortTI at hg
  split at hg
  · obtain ⟨v, rfl, rv⟩ := ra.one
    obtain ⟨ns, e, hg⟩ := onSome_of hg
    obtain ⟨a, ws, rfl, ha, rs⟩ := rv.tup_inv
    rw [intsOf_inv e] at rs
    rw [rs.ints] at ha
    obtain ⟨u, rfl, ru⟩ := vals1 r
    obtain rfl : u = Value.ref a := ru
    obtain ⟨its, rt, ⟨o, ho, hc, n, hd⟩, hz⟩ := I.tuple (SqT.of ha)
    have are : IntsAre its ns := rt.ints
    have len : its.length ≤ sizeLine := by rw [← rt.length]; exact hz
    refine Calls.call_function_entry kind_sorted plain_sorted entry_sorted (args_sorted1 _) ?_
    unfold Builtin.«sorted»
    refine wpAny_bind (m := checkCount "sorted" 1 1 _) (wpAny_pure (wpAny_bind (wpAny_collect_seq a (.inr rfl) ho hc hd (fun h' hk => ?_) (by rw [List.size_toArray]; exact len))))
    rw [show its.toArray.toList = its from rfl]
    have I1 := I.kept (t' := s.toks) hk
    refine wpAny_bind (wpAny_newList ?_ len)
    have at1 : (h'.push (seqObj "list" its.toArray 0)).get? h'.objs.size = some (seqObj "list" its.toArray 0) := Heap.get?_push_size _ rfl
    refine wpAny_bind (wpAny_holding (wpAny_call_entry PyProof.Rows.slot_list_sort ⟨_, at1, rfl⟩ PyProof.Rows.entry_list_sort (SrtO.list_sort_ord SrtO.swo_int at1 len (fun h2 => SrtO.ints_sortable are h2) fun out c1 c2 => ⟨_, rfl, ?_⟩) (PyProof.Rows.args_list_sort _)))
    obtain ⟨a1, a2, a3⟩ := SrtO.ints_out are c1 c2
    obtain ⟨c, hc2⟩ := PyProof.Rows.sortedHeap_at (vs := its) (out := out.toArray) at1
    have fin := q.lst (μ := μ) w (RpAll.ofInts _) hg (I1.hok.fresh (Nat.le_refl _))
    rw [← Rb.srt_uniq a2 a3] at fin
    refine wpAny_pure ⟨_, rfl, .ref h'.objs.size, upd H h'.objs.size (.lst ((out.map SrtO.iv).map V.int)), I1.laid (t' := s.toks) (fun b x e => ?_) (Nat.le_refl _) ⟨?_, out, c, vals_of_ints a1, hc2⟩, rfl, fin⟩
    · have bl := Heap.lt_size e
      show (PyProof.Rows.sortedHeap (h'.push (seqObj "list" its.toArray 0)) h'.objs.size its out.toArray).get? b = some x
      rw [PyProof.Rows.sortedHeap_old (Nat.ne_of_lt bl) (by rw [Heap.size_push]; exact Nat.lt_succ_of_lt bl)]
      exact Heap.get?_push_of_some _ e
    · rw [List.length_map, a2.length_eq, ← are.length]
      exact len
  · exact hg.elim
end Pu
namespace Pu
open PySem PySem.Spec PyProof.Rows L2
/-! ## own errors over any built-in class: with one field, or with none -/
/-- of a class of errors: over the built-in class whose order of classes is bs, whose objects nw makes -/
structure ErrC (kit : PySem.W.Frag) (at_ : Addr) (bs : List Value) (nw : String) : Prop where
  mkd : PySem.W.excInitIn kit at_ bs nw = true
  ov : PySem.W.excOver kit at_ bs = true
  hd : PySem.W.hasDictIn kit at_ = true
  sa : PySem.W.findIn kit (.ref at_) "__setattr__" = some (some (.builtin "object.__setattr__"))
  ex : PySem.W.subIn kit (.ref at_) (.type "BaseException") = some true
  ty : PySem.W.typeIn kit (.ref at_) = some (.type "type")
  kp : PySem.W.keepIn kit (.ref at_) = true
section
variable {X : Cx} {pins : List (Addr × Obj)} {σ : L2.St} {H : Hp} {s : Shared} {a C : Addr} {f : Str} {y : V} {u : Value} {bs : List Value} {nw B : String}
theorem upd_twice {a b : Addr} {o p q : HO} (n : a ≠ b) : upd (upd (upd H b o) a p) b q = upd (upd H b q) a p := by
  funext z
  by_cases h1 : z = b
  · subst h1
    rw [upd_same, upd_ne (Ne.symm n), upd_same]
  · rw [upd_ne h1]
    by_cases h2 : z = a
    · subst h2
      rw [upd_same, upd_same]
    · rw [upd_ne h2, upd_ne h2, upd_ne h1, upd_ne h1]
/-- the first field of an error that is being made: in three steps, the empty dict, the error that has it, the field in it -/
theorem put_first (T : ErrC X.K C bs nw) (SF : StoreFacts B bs "object.__setattr__" "object") (I : Inv X pins σ H s) (at_ : H a = some (exo a C none)) (no : PySem.W.findIn X.K (.ref C) f = some none) (ry : RelV y u) {A : Around} {Q : Unit → Shared → Prop} {E : Value → Shared → Prop}
    (k : ∀ n s', H n = none → n ≠ a → Inv X pins σ (upd (upd H n (exd n [(f, y)])) a (exo a C (some n))) s' → Q () s') : wpAny (model X.prog X.w) A (setAttr (.ref a) f u) Q E s := by
  obtain ⟨t1, here⟩ := exo_at I.hok at_
  obtain ⟨cd, hc, hasd⟩ := PySem.W.any_some T.hd
  obtain ⟨hp, gs, dr, tk, os⟩ := s
  have lt : a < hp.objs.size := Heap.lt_size here
  have tkr : PySem.W.takerIn X.K C f = some none := by unfold PySem.W.takerIn; rw [no]; rfl
  refine PySem.W.set_plain I.kIn (od := none) ⟨here, rfl, rfl, trivial⟩ T.sa (PySem.W.osa_openX (od := none) SF I.kIn ⟨here, rfl, rfl, trivial⟩ T.ov tkr fun b => ?_)
  refine wpAny_bind (wpAny_pure (wpAny_bind (PySem.W.instanceDict_exc here (PySem.W.looks_clsIn I.kIn hc) hasd ?_)))
  have newd : (hp.push (PySem.W.dictOf [] 0)).get? hp.objs.size = some (PySem.W.dictOf [] 0) := Heap.get?_push_at rfl rfl
  have empty : (hp.push (PySem.W.dictOf [] 0)).Ns hp.objs.size (fun _ => none) := ⟨_, #[], _, newd, rfl, fun e he => absurd he (by simp), fun _ => rfl⟩
  have stay : ∀ b o, b ≠ a → (hp.push (PySem.W.dictOf [] 0)).get? b = some o → ((hp.push (PySem.W.dictOf [] 0)).update a fun o => { o with dict := some hp.objs.size }).get? b = some o := fun b o n q => (Heap.get?_update_ne _ _ _ _ n).trans q
  have has : ((hp.push (PySem.W.dictOf [] 0)).update a fun o => { o with dict := some hp.objs.size }).get? a = some ({ cls := .ref C, dict := some hp.objs.size, data := .fields #[.ref t1, .none, .none, .none, .bool false, .none] } : Obj) := Heap.get?_update_self _ (Heap.get?_push_of_some _ here) rfl
  have I1 := I.laid (a := hp.objs.size) (o := exd hp.objs.size []) (h' := hp.push (PySem.W.dictOf [] 0)) (t' := tk) (fun b o q => Heap.get?_push_of_some _ q) (Nat.le_refl _) (exd_ok (Heap.Ns1.of_empty empty) fun _ => True.intro)
  have I2 := I1.write (x := a) (e := a) (o := exo a C (some hp.objs.size)) (t' := tk) (by rw [upd_ne (Nat.ne_of_lt lt), at_]; exact True.intro) (.inl rfl) stay ⟨_, has⟩ (exo_ok has)
  show wpAny _ _ (Builtin.ObjectAttr.storeInDict hp.objs.size (.str f _) f u) _ _ _
  refine PySem.HandSPX.store_in_new ⟨_, #[], _, stay _ _ (Nat.ne_of_gt lt) newd, rfl, fun e he => absurd he (by simp), fun _ => rfl⟩ fun h' t' named same => ?_
  have I3 := I2.write (x := hp.objs.size) (e := hp.objs.size) (o := exd hp.objs.size [(f, y)]) (t' := t') (h' := h') (by rw [upd_ne (Nat.ne_of_gt lt), upd_same]; exact True.intro) (.inl rfl) (fun b o n q => (same.2 b n).trans q)
    (by obtain ⟨o, _, _, e', _⟩ := named; exact ⟨o, e'⟩) (exd_ok named (relO_put (fs := []) ry fun _ => True.intro))
  rw [upd_twice (Nat.ne_of_lt lt)] at I3
  exact k _ _ (I.hok.fresh (Nat.le_refl _)) (Nat.ne_of_gt lt) I3
/-- self.f = e in the __init__ of such a class -/
def tPutE (K : PySem.W.Frag) (bs : List Value) (nw : String) (f : Str) (to te : TE) : TS := fun D σ H => te σ H fun y H1 => to σ H1 fun x H2 => ∃ a C : Addr, (x = .ref a ∧ H2 a = some (exo a C none)) ∧ ErrC K C bs nw ∧ PySem.W.findIn K (.ref C) f = some none ∧
  ∀ n, H2 n = none → n ≠ a → D.nx σ (upd (upd H2 n (exd n [(f, y)])) a (exo a C (some n)))
theorem ps_putE (SF : StoreFacts B bs "object.__setattr__" "object") {o e : Expr} {to te : TE} {p' pos : Pos} (ho : PE X o to) (he : PE X e te) (sw : swapsWith e (some (.Attribute o f p')) pos.line X.env = pure false := by rfl) :
    PS X (.Assign [.Attribute o f p'] e pos) (tPutE X.K bs nw f to te) := by
  refine ⟨fun pins s σ H D I pre => plainObj_wpAny_Assign_Attribute (thn (he.run pins s σ H _ I pre) fun _ s1 ⟨y, H1, I1, ry, q1⟩ => thn (ho.run pins s1 σ H1 _ I1 q1) fun _ s2 ⟨x, H2, I2, rx, a, C, ⟨ex, at_⟩, T, no, go⟩ => ?_) sw⟩
  subst ex
  cases rx
  exact put_first T SF I2 at_ no ry fun n s' fresh ne J => ⟨σ, _, J, go n fresh ne⟩
/-- __init__(self, f): self.f = f -/
theorem iniE {P : Program} {w : World} {K : PySem.W.Frag} {mg : Str → Option Value} {base : Heap} {fI : Addr} {fd : FuncData} {x qn : Str} {st : Stmt} {s0 : Str} (F : Fun K x qn st fI fd) (S : FnScope [s0, f] [s0, f] (defScope st)) (T : ErrC K C bs nw) (no : PySem.W.findIn K (.ref C) f = some none)
    (b : ∀ (cdv : Value) (A : Around) (out : List Env) (s : Shared) (H : Hp) (E : XK), PSs (cxOf CX0 P w K mg base [s0, f] qn (defScope st) fI cdv A out s H E).nox (defBody st) (tPutE K bs nw f (tVar 0) (tVar 1))) : FnOk P w K mg base CX0 1 fI fd [s0, f] (Rb.spIni K C f) := by
  refine F.ok S (fun vs H Q E ⟨a, y, e, _⟩ => by rw [e]; rfl) fun cdv A outer s H vs Q E rm ⟨a, y, e, at_, go⟩ => ?_
  subst e
  exact ⟨_, b cdv A outer s H E, _, rfl, _, rfl, a, C, ⟨rfl, at_⟩, T, no, go⟩
/-- C(e): the error is made, its one field is the value -/
theorem pmkE {ini : String} {x : Str} {e : Expr} {te : TE} {fI : Addr} {lv : Nat} {fd : FuncData} {sps : List Str} {p pos : Pos} (FB : ExcBaseFacts B nw ini bs) (T : ErrC X.K C bs nw) (iC : PySem.W.findIn X.K (.ref C) "__init__" = some (some (.ref fI)))
    (tI : PySem.W.typeIn X.K (.ref fI) = some (.type "function")) (G : FnOk X.prog X.w X.K X.mg X.base CX0 lv fI fd sps (Rb.spIni X.K C f)) (rm : Room (lv + 1) X.A) (hb : Binds X.K fd sps []) (gl : Gl X x) (at_ : X.mg x = some (.ref C)) (he : PE X e te)
    (ndb : (x == ("__debug__" : Str)) = false := by decide) (s1 : starEach [e] X.env = (false, eval e X.env) :: starEach [] X.env := by rfl) (s2 : (backTo pos (starEach [] X.env)).any (·.1) = false := by rfl) :
    PMk X (.Call (.Name x p) [e] [] pos) (fun σ H Q => te σ H fun y H1 => ∀ n, H1 n = none → Q (.ref C) (some n) (upd H1 n (.xd [(f, y)]))) := by
  intro pins s σ H Q I pre
  have pa : PA X [e] (tCons te tNil) := pa_cons he pa_nil s1
  refine wpAny_Call_Name_kw (ld_glob I gl at_ ?_ ndb)
  refine PySem.W.callWith_K (h₀ := X.base) I.ok.mod.kin T.kp (thn (pa.run pos pins s σ H (fun vs H1 => match vs with | [y] => ∀ n, H1 n = none → Q (.ref C) (some n) (upd H1 n (.xd [(f, y)])) | _ => False) I pre) fun us s1 ⟨vs, H1, I1, rs, q1⟩ => ⟨I1.kIn, ?_⟩) s1 s2
  match vs, q1 with
  | [y], q1 =>
    obtain ⟨u, rfl, ru⟩ := rs.one
    obtain ⟨nm, N, qn, bs', bm, hdct, sn, sub, ab, col, dd, k0, k1, k2, k3, k5, isC, tail⟩ := PySem.W.excInit_of I1.kIn T.mkd
    obtain ⟨hp, gs, dr, tk, os⟩ := s1
    have fresh : H1 (hp.objs.size + 1) = none := I1.hok.fresh (Nat.le_succ _)
    have old : ∀ b o, hp.get? b = some o → ((hp.push (PySem.W.kdv_tup [u])).push (PySem.HandSPX.excO C hp.objs.size)).get? b = some o := fun b o z => Heap.get?_push_of_some _ (Heap.get?_push_of_some _ z)
    have made : ((hp.push (PySem.W.kdv_tup [u])).push (PySem.HandSPX.excO C hp.objs.size)).get? (hp.objs.size + 1) = some (PySem.HandSPX.excO C hp.objs.size) := by heap_get
    have I2 := I1.laid (t' := tk) (a := hp.objs.size + 1) (o := exo (hp.objs.size + 1) C none) old (Nat.le_succ _) (exo_ok made)
    have rs2 : Vals [V.ref (hp.objs.size + 1), y] [Value.ref (hp.objs.size + 1), u] := .cons rfl (.cons ru .nil)
    have job := (Rb.mkO_of (K := X.K) (C := C) (f := f) (y := y) (W := Q) q1).2 (hp.objs.size + 1) fresh
    have many : [Value.ref (hp.objs.size + 1), u].length = sps.length := rs2.length.symm.trans (G.len _ _ _ _ job)
    refine wpAny_call (PySem.HandSPX.call_own FB tail isC (PySem.W.looks_findIn I1.kIn iC) (fun self => PySem.W.bind_fn I1.kIn self tI) (by show 1 ≤ sizeLine; rw [sizeLine_eq]; omega) ?_)
    refine codeAny_mono (G.run _ X.stack _ _ ⟨[Value.ref (hp.objs.size + 1), u], []⟩ [Value.ref (hp.objs.size + 1), u] _ _ (fun _ _ _ => False) (rm.make C [u] []) (I2.env0.make C [u] []) (hb _ _ I2.kIn many) rs2 job) fun r s' fin => ?_
    match r, fin with
    | .ok (.ret w), fin =>
      obtain ⟨v, H2, os2, bare, un, hok, rv, rfl, n, fs, ea, ed, hn, q2⟩ := fin
      exact ⟨rv, mk_end (raises_own T.ex T.ty) I1 (Nat.le_succ _) old un hok os2 bare ea ed hn q2⟩
    | .ok .next, fin => exact (fin : False).elim
    | .ok .brk, fin => exact (fin : False).elim
    | .ok .cont, fin => exact (fin : False).elim
    | .error er, fin =>
      obtain ⟨_, _, _, _, _, _, _, _, _, _, _, _, _, _, _, _, z⟩ := fin
end
section
variable {X : Cx} {E : XK} {C fI : Addr} {fd : FuncData} {lv : Nat} {x f : Str} {sps : List Str} {e : Expr} {fe : FE} {bs : List Value} {nw B ini : String} {p p2 pos : Pos}
/-- raise C(e) -/
theorem d_raiseE (hc : X.calm = true) (tk : Takes X (fun cls d _ H => E cls d H)) (FB : ExcBaseFacts B nw ini bs) (T : ErrC X.K C bs nw) (iC : PySem.W.findIn X.K (.ref C) "__init__" = some (some (.ref fI))) (tI : PySem.W.typeIn X.K (.ref fI) = some (.type "function"))
    (G : FnOk X.prog X.w X.K X.mg X.base CX0 lv fI fd sps (Rb.spIni X.K C f)) (rm : Room (lv + 1) X.A) (hb : Binds X.K fd sps []) (gl : Gl X x) (at_ : X.mg x = some (.ref C)) (he : PEd X (cE E) e fe)
    (ndb : (x == ("__debug__" : Str)) = false := by decide) (s1 : starEach [e] X.env = (false, eval e X.env) :: starEach [] X.env := by rfl) (s2 : (backTo p2 (starEach [] X.env)).any (·.1) = false := by rfl) :
    PSd X E (.Raise (some (.Call (.Name x p) [e] [] p2)) none pos) (dRaise x f fe) := by
  refine PS.imp (ps_raise hc tk (pmkE FB T iC tI G rm hb gl at_ he ndb s1 s2)) fun D σ H ⟨μ, S, ρ, De, Ed, w, en, hf, k, px⟩ => ?_
  exact tR_of w en hf px fun d S1 v H1 μ1 h1 f1 w1 en1 px1 r1 n free => px1 (x, [(f, d)]) S1 (.ref C) (some n) _ μ1 h1 (Fw.new free) (w1.new free) ⟨at_, n, [(f, v)], rfl, upd_same, .cons (r1.fw w1 (Fw.new free)) .nil⟩
/-- raise C() -/
def dRaise0 (x : Str) : FS := fun _ S _ Ed => Ed (x, []) S
end
end Pu
namespace Pu
open PySem PySem.Spec PyProof.Rows L2
/-! ## a class's own operators: a + b, a >> i, a == b, x in a, a(x) -/
/-- of a class of the row: the def under the name dn means F -/
def OpF (P : Program) (wo : World) (K : PySem.W.Frag) (mg : Str → Option Value) (b0 : Heap) (cx : CXT) (lv : Nat) (dn : Str) (x : Str) (F : FF) : Prop :=
  ∀ C, mg x = some (.ref C) → ∃ fn dat pars, (PySem.W.findIn K (.ref C) dn = some (some (.ref fn)) ∧ PySem.W.isFn K (.ref fn) = true ∧ PySem.W.fnIn K fn = true ∧ PySem.W.selfFirst K C = true) ∧ Rb.FnG P wo K mg b0 cx lv fn dat pars (spF (ct0 K mg) F) ∧ Binds K dat pars []
theorem op_of {P : Program} {wo : World} {K : PySem.W.Frag} {mg : Str → Option Value} {b0 : Heap} {cx : CXT} {lv : Nat} {dn x : Str} {F : FF} {C fn : Addr} {dat : FuncData} {pars : List Str} (g : mg x = some (.ref C)) (a : PySem.W.findIn K (.ref C) dn = some (some (.ref fn))) (b : PySem.W.isFn K (.ref fn) = true)
    (c : PySem.W.fnIn K fn = true) (d : PySem.W.selfFirst K C = true) (G : Rb.FnG P wo K mg b0 cx lv fn dat pars (spF (ct0 K mg) F)) (B : Binds K dat pars []) : OpF P wo K mg b0 cx lv dn x F := fun C' h => by
  rw [g] at h
  cases h
  exact ⟨fn, dat, pars, ⟨a, b, c, d⟩, G, B⟩
/-- what stands when both operands are there -/
def Two (X : Cx) (cx : CXT) (lv : Nat) (E1 : XK) (Q : VK) (x y : V) (H : Hp) (Y : Addr → Addr → V → Hp → Prop) : Prop :=
  ∃ (a C dx : Addr) (fv : List (Str × V)) (fn : Addr) (dat : FuncData) (pars : List Str) (F : FF) (d i : D) (μ : Mu) (S : Sto) (Qd : QD) (Ed : ED), (x = .ref a ∧ H a = some (.ins C dx fv) ∧ Y C fn y H) ∧
    Rb.FnG X.prog X.w X.K X.mg X.base cx lv fn dat pars (spF (ct X) F) ∧ Binds X.K dat pars [] ∧ Wd (ct X) μ S H ∧ Rp (ct X) μ H x d ∧ Rp (ct X) μ H y i ∧ F [d, i] S Qd Ed ∧ PostV (ct X) μ H Qd Q ∧ PX (ct X) μ H Ed E1
theorem noNI {v : V} {u : Value} (r : RelV v u) : u ≠ .notImplemented := fun z => by
  subst z
  cases v with
  | int _ => obtain ⟨_, e⟩ := r; cases e
  | str _ => obtain ⟨_, e⟩ := r; cases e
  | byt _ => obtain ⟨_, e⟩ := r; cases e
  | flt _ => obtain ⟨_, e⟩ := r; cases e
  | _ => cases r
theorem cmpBack {Q : Value → Shared → Prop} {u : Value} {s : Shared} (n : u ≠ .notImplemented) (q : Q u s) : PySem.W.CmpBack Q u s := by
  cases u <;> first | exact q | exact absurd rfl n
section
variable {X : Cx} {cx : CXT} {lv : Nat} {tab : List (Str × FF)}
theorem Two.run {pins : List (Addr × Obj)} {σ : L2.St} {s : Shared} {E1 : XK} {Q : VK} {x y : V} {v u : Value} {H : Hp} {Y : Addr → Addr → V → Hp → Prop} (gd : X.A.guards = some []) (rm : Room lv X.A) (ps : PassesAt cx X σ E1) (I : Inv X pins σ H s) (rx : RelV x v) (ry : RelV y u) (t : Two X cx lv E1 Q x y H Y) :
    ∃ (a C fn : Addr) (ox : Obj) (od : Option Obj) (m : Str → Option Value), v = .ref a ∧ Y C fn y H ∧ ox.data = .plain ∧ PySem.W.InstAt s.heap a ox C od ∧ Fr X.base X.env.locals s.heap m ∧ wpAny (model X.prog X.w) X.A (call (.ref fn) [.ref a, u]) (EP X pins σ Q) X.xe s := by
  obtain ⟨a, C, dx, fv, fn, dat, pars, F, d, i, μ, S, Qd, Ed, ⟨rfl, ea, hy⟩, c4, c5, w2, r1, r2, h2, q2, px2⟩ := t
  obtain rfl : v = Value.ref a := rx
  obtain ⟨mm, ob, _, _, _, _⟩ := ins_get I.hok ea
  obtain ⟨od, J, _⟩ := ob.look
  obtain ⟨m, fr⟩ := I.fr
  exact ⟨a, C, fn, _, od, m, rfl, hy, rfl, J, fr, runGS (us := [.ref a, u]) (xs := [.ref a, y]) c4 gd rm c5 ps I (.cons rfl (.cons ry .nil)) ⟨μ, S, [d, i], Qd, Ed, w2, .cons r1 (.cons r2 .nil), h2, q2, px2⟩⟩
/-- a == b, both of one class -/
def gEqO (tab : List (Str × FF)) : G2 := fun x y S Q => onSome (insOf S x) fun cf => onSome (insOf S y) fun cg => cg.1 = cf.1 ∧ onSome (tabF tab cf.1) fun F => F [x, y] S Q noE
theorem o_eqO (hct : ct X = ct0 X.K X.mg) (hx : ∀ p ∈ tab, OpF X.prog X.w X.K X.mg X.base CX0 lv "__eq__" p.1 p.2) (gd : X.A.guards = some []) (rm : Room lv X.A) : OpR X (compareOp .Eq) (rD2 (ct X) (gEqO tab)) := by
  intro pins s σ H x y v u Q I rx ry ⟨μ, S, d, i, Qd, w, r1, r2, h, q⟩
  obtain ⟨⟨n, fs⟩, e1, h⟩ := onSome_of h
  obtain ⟨⟨n', gs⟩, e2, ex, h1⟩ := onSome_of h
  clear h
  dsimp only at ex
  subst ex
  obtain ⟨F, e3, h⟩ := onSome_of h1
  obtain ⟨p, C, dx, fv, rfl, hp, hm, rf⟩ := id (r1.insT w e1)
  obtain ⟨p', C', dx', fv', rfl, hp', hm', rf'⟩ := id (r2.insT w e2)
  obtain ⟨fn, dat, pars, ⟨c1, c2, c3, c4⟩, c5, c6⟩ := hx _ (tabF_mem e3) C hm
  rw [hm] at hm'
  cases hm'
  rw [← hct] at c5
  obtain rfl : v = Value.ref p := rx
  obtain rfl : u = Value.ref p' := ry
  obtain ⟨mm, ob, _, _, _, _⟩ := ins_get I.hok hp
  obtain ⟨od, J, _⟩ := ob.look
  obtain ⟨mm', ob', _, _, _, _⟩ := ins_get I.hok hp'
  obtain ⟨od', J', _⟩ := ob'.look
  obtain ⟨m, fr⟩ := I.fr
  refine PySem.W.cmp_ofEq (PySem.W.cmp_K (op := .Eq) (tb := .ref C) rm.units0 fr I.ok.mod.kin J J'.type (by simp [PySem.W.notFirst]) c1 c2 (wpAny_mono (runGS (us := [.ref p, .ref p']) (xs := [.ref p, .ref p']) (Q := Q) (E1 := fun _ _ _ => False) c5 gd rm c6 (passG (E := fun _ _ _ _ => False) σ) I (.cons rfl (.cons rfl .nil))
    ⟨μ, S, [d, i], Qd, noE, w, .cons r1 (.cons r2 .nil), h, q, fun e S' cls dx H' μ' z => z.elim⟩) (fun u' s' hu => cmpBack (by obtain ⟨_, _, _, rv, _⟩ := hu; exact noNI rv) hu) fun _ _ z => z))
/-- isinstance(a, C), a an instance -/
def dIsC (tab : List (Str × Str × Bool)) (y : Str) (fo : FE) : FE := fun ρ S Q Ed => fo ρ S (fun d S1 => onSome (insOf S1 d) fun cf => onSome (lookX tab cf.1 y) fun b => Q (.bl b) S1) Ed
theorem d_isC {E : L2.St → XK} {a : Expr} {fa : FE} {y : Str} {D : Addr} {t2 : List (Str × Str × Bool)} {p2 p3 pos : Pos} (hx : ∀ z ∈ t2, ∀ C, X.mg z.1 = some (.ref C) → InsT X.K C ∧ ∀ D, X.mg z.2.1 = some (.ref D) → PySem.W.kitOne X.K (.ref C) (.ref D) = some z.2.2) (hg : Gl X "isinstance") (hm : X.mg "isinstance" = none)
    (gy : Gl X y) (my : X.mg y = some (.ref D)) (ha : PEd X E a fa) (ndb : (y == ("__debug__" : Str)) = false := by decide)
    (s1 : starEach [a, .Name y p3] X.env = (false, eval a X.env) :: starEach [.Name y p3] X.env := by rfl) (s2 : starEach [.Name y p3] X.env = (false, eval (.Name y p3) X.env) :: starEach [] X.env := by rfl) (s3 : (backTo pos (starEach [.Name y p3] X.env)).any (·.1) = false := by rfl) :
    PEd X E (.Call (.Name "isinstance" p2) [a, .Name y p3] [] pos) (dIsC t2 y fa) := by
  refine PE.imp (pe_callB call_isi hg hm (show bootBuiltins "isinstance" = some (.builtin "isinstance") by decide +kernel) (pa_cons ha (pa_cons (pe_glob gy my (show RelV (V.ref D) _ from rfl) ndb) pa_nil s2) s1) (by decide) (by decide) s1 s3) fun σ H Q ⟨μ, S, ρ, Qd, Ed, w, en, hf, q, px⟩ => ?_
  refine tR_of w en hf px fun x S1 v H1 μ1 h1 f1 w1 en1 px1 r1 => ?_
  obtain ⟨⟨n, fs⟩, e1, h1⟩ := onSome_of h1
  obtain ⟨b, e2, h1⟩ := onSome_of h1
  obtain ⟨p, C, dx, fv, rfl, hp, hg', _⟩ := r1.insT w1 e1
  obtain ⟨T, hk⟩ := hx _ (lookX_mem e2) C hg'
  exact ⟨_, _, _, _, b, rfl, .own D, .base (.ins hp T.cl T.ha T.hn T.tk T.hm), hk D my, q _ S1 _ H1 μ1 h1 f1 w1 (.bl b)⟩
end
theorem isc_of {K : PySem.W.Frag} {mg : Str → Option Value} {x y : Str} {C D : Addr} {b : Bool} (g : mg x = some (.ref C)) (t : InsT K C) (gy : mg y = some (.ref D)) (k : PySem.W.kitOne K (.ref C) (.ref D) = some b) : ∀ C', mg x = some (.ref C') → InsT K C' ∧ ∀ D', mg y = some (.ref D') → PySem.W.kitOne K (.ref C') (.ref D') = some b := fun C' h => by
  rw [g] at h
  cases h
  refine ⟨t, fun D' h' => ?_⟩
  rw [gy] at h'
  cases h'
  exact k
end Pu
namespace Pu
open PySem PySem.Spec PyProof.Rows L2
/-! ## texts: sep.join(xs), f-strings -/
def onStr (d : D) (k : Str → Prop) : Prop := match d with | .str a => k a | _ => False
theorem onStr_of {d : D} {k : Str → Prop} (h : onStr d k) : ∃ a, d = .str a ∧ k a := by
  unfold onStr at h
  split at h
  · exact ⟨_, rfl, h⟩
  · exact h.elim
def strsOf : List D → Option (List Str)
  | [] => some []
  | .str x :: ds => match strsOf ds with | some xs => some (x :: xs) | none => none
  | _ :: _ => none
def dJoin (fo fe : FE) : FE := fun ρ S Q Ed => fo ρ S (fun x S1 => onStr x fun a => fe ρ S1 (fun d S2 => onSome (seqOf S2 d) fun es => onSome (strsOf es) fun ys => (ys.map (·.length)).sum + ys.length * a.length ≤ 100000 ∧ Q (.str (Txt.join a ys)) S2) Ed) Ed
def dFmt (fe : FE) : FE := fun ρ S Q Ed => fe ρ S (fun d S1 => match d with | .str y => y.length ≤ sizeLine ∧ Q (.str y) S1 | .int i => i.natAbs < 2 ^ 1000 ∧ Q (.str (toString i)) S1 | _ => False) Ed
def dJs : List FE → Str → FE
  | [], acc => fun _ S Q _ => Q (.str acc) S
  | f :: fs, acc => fun ρ S Q Ed => f ρ S (fun d S1 => onStr d fun y => (acc ++ y).length ≤ sizeLine ∧ dJs fs (acc ++ y) ρ S1 Q Ed) Ed
end Pu
namespace Pu
open PySem PySem.Spec PyProof.Rows L2
/-! ## written dicts of two entries, d[x] -/
def lookI (x : Str) : List (Str × Int) → Option Int
  | [] => none
  | (y, i) :: r => if y = x then some i else lookI x r
/-! ## str of an instance -/
/-! ## methods with one keyword-only parameter, whose default is None -/
def dMethN (tab : List (Str × FF)) (m : Str) (fo : FE) (fa : FA) : FE := fun ρ S Q Ed => fo ρ S (fun d S1 => onSome (insOf S1 d) fun cf => lookF m cf.2 = none ∧ onSome (tabF tab cf.1) fun F => fa ρ S1 (fun ds S2 => F (d :: (ds ++ [.non])) S2 Q Ed) Ed) Ed
def dMethK (tab : List (Str × FF)) (m : Str) (fo : FE) (fa : FA) (fk : FE) : FE := fun ρ S Q Ed => fo ρ S (fun d S1 => onSome (insOf S1 d) fun cf => lookF m cf.2 = none ∧ onSome (tabF tab cf.1) fun F => fa ρ S1 (fun ds S2 => fk ρ S2 (fun z S3 => F (d :: (ds ++ [z])) S3 Q Ed) Ed) Ed) Ed
end Pu
namespace Pu
open PySem PySem.Spec PyProof.Rows L2
/-! ## T.get(x), T a written dict of the module with texts and numbers -/
structure KTab (X : Cx) (y : Str) (ps : List (Str × Int)) : Prop where
  go : ∃ d es n, Gl X y ∧ X.mg y = some (.ref d) ∧ KDict X.K X.w d es n ∧ ∀ x, ∃ r, PySem.W.nsIn X.K d x = some r ∧ RelV ((lookI x ps).elim V.non V.int) (r.getD .none)
theorem pe_kget {X : Cx} {y : Str} {ps : List (Str × Int)} {e : Expr} {te : TE} {p apos cpos : Pos} (T : KTab X y ps) (he : PE X e te) (m : M1 X (.Name y p) "get" apos e cpos) (hd : (y == ("__debug__" : Str)) = false := by decide) :
    PE X (.Call (.Attribute (.Name y p) "get" apos) [e] [] cpos) (fun σ H Q => te σ H fun x H1 => ∃ z, x = .str z ∧ Q ((lookI z ps).elim .non .int) H1) := by
  obtain ⟨d, es, n, hg, hm, D, hr⟩ := T.go
  refine ⟨fun pins s σ H Q I h => ?_⟩
  have hn : PE X (.Name y p) (tC (.ref d)) := pe_glob hg hm (u := .ref d) rfl hd
  refine wpAny_Call_method m.base m.few m.line PySem.F.plainAttrs_dict PySem.F.slot_dict_get PySem.F.type_dict_get (thn (hn.run pins s σ H (fun x H1 => x = .ref d ∧ H1 = H) I ⟨rfl, rfl⟩) fun u s1 ⟨x, H1, I1, rx, ex, eh⟩ => ?_)
  subst ex
  obtain rfl : u = Value.ref d := rx
  subst eh
  have mp := PySem.W.mapOf_K (prog := X.prog) (w := X.w) I1.kIn D.at_ D.lit
  refine ⟨mp.typeIs, fun b q => ?_, ?_⟩
  · cases q
    exact ⟨_, I1.kIn _ _ D.at_, rfl⟩
  rw [m.trees]
  refine wpAny_dict_get1 (K := Str) (knd := PySem.strKind X.prog X.w) D.low (thn (he.run pins s1 σ H1 _ I1 h) fun iv s2 ⟨x, H2, I2, rx, z, ex, q⟩ => ?_)
  subst ex
  obtain ⟨t, rfl⟩ := rx
  obtain ⟨r, e1, rr⟩ := hr z
  refine ⟨z, _, PySem.strKind_is X.prog X.w z t, PySem.W.mapOf_K (prog := X.prog) (w := X.w) I2.kIn D.at_ D.lit, ?_⟩
  rw [PySem.W.find_K D.at_ e1]
  exact ⟨_, H2, I2.tok _, rr, q⟩
def dKGet (ps : List (Str × Int)) (fe : FE) : FE := fun ρ S Q Ed => fe ρ S (fun d S1 => onStr d fun x => Q ((lookI x ps).elim D.non D.int) S1) Ed
theorem d_kget {X : Cx} {E : L2.St → XK} {y : Str} {ps : List (Str × Int)} {e : Expr} {fe : FE} {p apos cpos : Pos} (T : KTab X y ps) (he : PEd X E e fe) (m : M1 X (.Name y p) "get" apos e cpos) (hd : (y == ("__debug__" : Str)) = false := by decide) :
    PEd X E (.Call (.Attribute (.Name y p) "get" apos) [e] [] cpos) (dKGet ps fe) := by
  refine PE.imp (pe_kget T he m hd) fun σ H Q ⟨μ, S, ρ, Qd, Ed, w, en, hf, q, px⟩ => ?_
  refine tR_of w en hf px fun d S1 v H1 μ1 h1 f1 w1 en1 px1 r1 => ?_
  obtain ⟨x, rfl, h1⟩ := onStr_of h1
  replace h1 : Qd ((lookI x ps).elim D.non D.int) S1 := h1
  cases r1
  refine ⟨x, rfl, ?_⟩
  cases e1 : lookI x ps with
  | none =>
    rw [e1] at h1
    exact q _ _ _ _ _ h1 f1 w1 .non
  | some i =>
    rw [e1] at h1
    exact q _ _ _ _ _ h1 f1 w1 (.int i)
/-- entries with these texts and numbers -/
def DicOf (P : Params) : List DictEntry → List (Str × Int) → Prop
  | [], [] => True
  | e :: r, (x, i) :: q => ((∃ t, e.key = .str x t) ∧ (∃ t, e.val = .int i t) ∧ e.hash = PyData.keyHash P x) ∧ DicOf P r q
  | _, _ => False
theorem DicOf.lit {P : Params} : ∀ {l : List DictEntry} {ps : List (Str × Int)}, DicOf P l ps → PySem.W.KeysLit P l
  | [], _, _ => trivial
  | e :: r, (x, i) :: q, ⟨⟨⟨t, h1⟩, _, h3⟩, h⟩ => ⟨⟨x, t, h1, h3⟩, h.lit⟩
theorem DicOf.find {P : Params} (z : Str) : ∀ {l : List DictEntry} {ps : List (Str × Int)}, DicOf P l ps → (l.any (·.refKey) = false) ∧ match l.find? (·.key.isStr z), lookI z ps with
    | some e, some i => ∃ t, e.val = .int i t
    | none, none => True
    | _, _ => False
  | [], [], _ => ⟨rfl, trivial⟩
  | e :: r, (x, i) :: q, ⟨⟨⟨t, h1⟩, ⟨t2, h2⟩, h3⟩, h⟩ => by
    obtain ⟨a, b⟩ := h.find z
    have h4 : e.refKey = false := by
      unfold DictEntry.refKey
      rw [h1]
    refine ⟨by rw [List.any_cons, h4, Bool.false_or]; exact a, ?_⟩
    have h5 : e.key.isStr z = (x == z) := by rw [h1]; rfl
    by_cases c : x = z
    · rw [List.find?_cons_of_pos (by rw [h5, beq_iff_eq]; exact c)]
      unfold lookI
      rw [if_pos c]
      exact ⟨t2, h2⟩
    · rw [List.find?_cons_of_neg (by rw [h5, beq_iff_eq]; exact c)]
      unfold lookI
      rw [if_neg c]
      exact b
theorem ktab_of {X : Cx} {y : Str} {ps : List (Str × Int)} {d : Addr} {es : Array DictEntry} {n : Nat} (hg : Gl X y) (hm : X.mg y = some (.ref d)) (hl : X.K.lookup d = some ⟨.type "dict", none, .dict es n, #[]⟩) (hd : (d == sysModules) = false) (h : DicOf X.w.params es.toList ps) : KTab X y ps := by
  refine ⟨d, es, n, hg, hm, ⟨hl, h.lit, hd⟩, fun z => ?_⟩
  obtain ⟨a, b⟩ := h.find z
  unfold PySem.W.nsIn
  rw [hl]
  dsimp only
  cases e : es.toList.find? (fun d => d.key.isStr z) with
  | none =>
    rw [e] at b
    cases e2 : lookI z ps with
    | none =>
      dsimp only
      rw [a]
      exact ⟨none, rfl, rfl⟩
    | some i => rw [e2] at b; exact b.elim
  | some w =>
    rw [e] at b
    cases e2 : lookI z ps with
    | none => rw [e2] at b; exact b.elim
    | some i =>
      rw [e2] at b
      obtain ⟨t, hv⟩ := b
      exact ⟨some w.val, rfl, t, hv⟩
end Pu
namespace Pu
open PySem PySem.Spec PyProof.Rows L2
/-! ## what is never reached; a try that runs through -/
def dNevE : FE := fun _ _ _ _ => False
theorem d_nevE {X : Cx} {E : L2.St → XK} {e : Expr} : PEd X E e dNevE := ⟨fun pins s σ H Q I ⟨μ, S, ρ, Qd, Ed, w, en, hf, q, px⟩ => hf.elim⟩
/-- try: .. except ..: .., where nothing is raised -/
def dTryN (fb : FS) : FS := fun ρ S De _ => fb ρ S De noE
theorem d_tryN {X : Cx} {E : XK} {body : List Stmt} {h0 : ExceptHandler} {hs : List ExceptHandler} {pos : Pos} {fb : FS} (hb : PBd X.nox E0 body fb) : PSd X E (.Try body (h0 :: hs) [] [] pos) (dTryN fb) :=
  PS.imp (ps_try_thru0 (show PSs X.nox body (tS (ct X) E0 fb) from hb)) fun D σ H ⟨μ, S, ρ, De, Ed, w, en, hf, k, px⟩ => ⟨μ, S, ρ, De, noE, w, en, hf, k, pxNo⟩
/-! ## isinstance(x, (A, B)) of built-in types -/
/-! ## C.m(x, ..), m a def of the class or of one above it -/
end Pu
namespace Pu
open PySem PySem.Spec PyProof.Rows L2
/-! ## defs that are run whatever repr is under way (what a generator's body calls) -/
structure FnU (pr : Program) (wo : World) (K : PySem.W.Frag) (mg : Str → Option Value) (b0 : Heap) (cx : CXT) (lv : Nat) (fn : Addr) (dat : FuncData) (pars : List Str) (sp : Sp) : Prop where
  many : ∀ xs H Q E, sp xs H Q E → xs.length = pars.length
  goes : ∀ (A : Around) (out : List Env) (s : Shared) (H : Hp) (ar : Args) (us : List Value) (xs : List V) (Q : VK) (E : XK),
    Room lv A → Env0 pr wo K mg b0 A out s H → BindsTo s dat ar (pars.zip us) → Vals xs us → sp xs H Q E →
    codeAny (model pr wo) A (.call (.ref fn) ar) (CR cx out pr wo H s Q E) s
theorem FnU.g {pr : Program} {wo : World} {K : PySem.W.Frag} {mg : Str → Option Value} {b0 : Heap} {cx : CXT} {lv : Nat} {fn : Addr} {dat : FuncData} {pars : List Str} {sp : Sp} (F : FnU pr wo K mg b0 cx lv fn dat pars sp) : Rb.FnG pr wo K mg b0 cx lv fn dat pars sp :=
  ⟨F.many, fun A out s H ar us xs Q E h1 _ h2 h3 h4 h5 => F.goes A out s H ar us xs Q E h1 h2 h3 h4 h5⟩
end Pu
namespace Pu
open PySem PySem.Spec PyProof.Rows L2 GenW
/-! ## a generator's body: what is out so far goes along -/
theorem GS.imp {X : Cx} {st : Stmt} {t t' : TGn} (h : GS X st t) (k : ∀ D ys σ H, t' D ys σ H → t D ys σ H) : GS X st t' :=
  ⟨fun A S ip R n ys s₀ c fs K J gd lv s σ H D g hn kk hI ht => h.run A S ip R n ys s₀ c fs K J gd lv s σ H D g hn kk hI (k D ys σ H ht)⟩
theorem GSs.imp {X : Cx} {st : List Stmt} {t t' : TGn} (h : GSs X st t) (k : ∀ D ys σ H, t' D ys σ H → t D ys σ H) : GSs X st t' :=
  ⟨fun A S ip R n ys s₀ c fs K J gd lv s σ H D g hn kk hI ht => h.run A S ip R n ys s₀ c fs K J gd lv s σ H D g hn kk hI (k D ys σ H ht)⟩
/-! ## the def, its promise -/
end Pu
namespace Pu
open PySem PySem.Spec PyProof.Rows L2
/-! ## methods of texts -/
def dMS0 (g : Str → Sto → QD → Prop) (fo : FE) : FE := fun ρ S Q Ed => fo ρ S (fun x S1 => onStr x fun a => g a S1 Q) Ed
def dMS1 (g : Str → D → Sto → QD → Prop) (fo fa : FE) : FE := fun ρ S Q Ed => fo ρ S (fun x S1 => onStr x fun a => fa ρ S1 (fun y S2 => g a y S2 Q) Ed) Ed
def gAscii : Str → Sto → QD → Prop := fun a S Q => Q (.bl (Txt.isascii a)) S
def gDigit : Str → Sto → QD → Prop := fun a S Q => Q (.bl (Txt.isdigit a)) S
def gStarts : Str → D → Sto → QD → Prop := fun a y S Q => onStr y fun b => Q (.bl (Txt.startswith a b)) S
def gSplit : Str → D → Sto → QD → Prop := fun a y S Q => onStr y fun b => ((b.length == 0) = false ∧ a.length + 2 ≤ sizeLine) ∧ Q (.lst false ((Txt.split a b).map D.str)) S
/-- int of a text of digits -/
def gIntS : List D → Sto → QD → Prop := fun ds S Q => match ds with
  | [.str a] => onSome (PySem.intText? a) fun n => a.length ≤ 640 ∧ Q (.int n) S
  | _ => False
/-- None in a list of whole numbers and Nones -/
def optsOf : List D → Option (List (Option Int))
  | [] => some []
  | .int i :: r => (optsOf r).map (some i :: ·)
  | .non :: r => (optsOf r).map (none :: ·)
  | _ :: _ => none
def optV : Option Int → V
  | none => .non
  | some i => .int i
def gInN : G2 := fun x y S Q => match x with
  | .non => onSome (seqOf S y) fun xs => onSome (optsOf xs) fun os => Q (.bl (os.any Option.isNone)) S
  | _ => False
theorem optsOf_vals {c : Ct} {μ : Mu} {H : Hp} : ∀ {vs : List V} {ds : List D} {os : List (Option Int)}, RpAll c μ H vs ds → optsOf ds = some os → vs = os.map optV
  | _, [], _, .nil, e => by cases e; rfl
  | _, d :: ds, os, .cons h r, e => by
    cases d with
    | int i =>
      obtain ⟨qs, e1, rfl⟩ := Option.map_eq_some_iff.mp (show (optsOf ds).map (some i :: ·) = some os from e)
      rw [h.int_inv, optsOf_vals r e1]
      rfl
    | non =>
      obtain ⟨qs, e1, rfl⟩ := Option.map_eq_some_iff.mp (show (optsOf ds).map (none :: ·) = some os from e)
      cases h
      rw [optsOf_vals r e1]
      rfl
    | _ => cases e
theorem inV_opts : ∀ {os : List (Option Int)}, inV .non (os.map optV) = os.any Option.isNone
  | [] => rfl
  | none :: os => by
    unfold inV
    simp [optV, eqV]
  | some i :: os => by
    have ih := inV_opts (os := os)
    unfold inV at *
    simp only [List.map_cons, List.any_cons]
    rw [ih]
    rfl
theorem flat_opts (os : List (Option Int)) : (os.map optV).all flatV = true := by
  rw [List.all_map, List.all_eq_true]
  intro x _
  cases x <;> rfl
theorem o_inN {X : Cx} : OpR X (compareOp .In) (rD2 (ct X) gInN) := by
  intro pins s σ H x y v u Q I rx ry ⟨μ, S, dx, dy, Qd, w, r1, r2, hg, q⟩
  unfold gInN at hg
  split at hg
  · obtain ⟨xs, e1, hg⟩ := onSome_of hg
    obtain ⟨zs, e2, hg⟩ := onSome_of hg
    obtain ⟨a, ws, rfl, hq, rs⟩ := r2.seq w e1
    cases r1
    rw [optsOf_vals rs e2] at hq
    refine op_in_seq pins s σ H _ _ v u Q I rx ry ⟨a, _, rfl, hq, rfl, flat_opts zs, ?_⟩
    rw [inV_opts]
    exact q.same w (.bl _) hg
  · exact hg.elim
theorem c_intS {X : Cx} : CallR X (.type "int") (rDs (ct X) gIntS) := by
  intro pins s σ H vs us Q I r ⟨μ, S, ds, Qd, w, ra, hg, q⟩
  unfold gIntS at hg
  split at hg
  · obtain ⟨v, rfl, rv⟩ := ra.one
    obtain ⟨n, e, hz, hg⟩ := onSome_of hg
    cases rv.str_inv
    exact call_int_str pins s σ H _ us Q I r ⟨_, n, rfl, e, hz, q.same w (.int _) hg⟩
  · exact hg.elim
section
variable {X : Cx} {E : L2.St → XK} {o e : Expr} {fo fa : FE} {apos cpos : Pos}
theorem d_ms0 {id : String} {name : Str} {r : V → List V → Hp → VK → Prop} {g : Str → Sto → QD → Prop} (slot : Slot "str" name id) (ty : typeOf (.builtin id) = pure (.type "method_descriptor")) (rule : MtR X id r)
    (hr : ∀ {μ : Mu} {S : Sto} {H : Hp} {a : Str} {Qd : QD} {Q : VK}, Wd (ct X) μ S H → g a S Qd → PostV (ct X) μ H Qd Q → r (.str a) [] H Q) (ho : PEd X E o fo)
    (hbase : attributeBase o name X.env (eval o X.env) = eval o X.env := by rfl) (hline : (apos.endLine == cpos.line) = true := by rfl) : PEd X E (.Call (.Attribute o name apos) [] [] cpos) (dMS0 g fo) := by
  refine PE.imp (pe_m0 slot ty rule ho hbase hline) fun σ H Q ⟨μ, S, ρ, Qd, Ed, w, en, hf, q, px⟩ => ?_
  refine tR_of w en hf px fun x S1 v H1 μ1 h1 f1 w1 en1 px1 r1 => ?_
  obtain ⟨a, rfl, h1⟩ := onStr_of h1
  cases r1.str_inv
  exact ⟨⟨a, rfl⟩, hr w1 h1 (PostV.fw q f1)⟩
theorem d_ms1 {id : String} {name : Str} {r : V → List V → Hp → VK → Prop} {g : Str → D → Sto → QD → Prop} (slot : Slot "str" name id) (ty : typeOf (.builtin id) = pure (.type "method_descriptor")) (rule : MtR X id r)
    (hr : ∀ {μ : Mu} {S : Sto} {H : Hp} {a : Str} {y : V} {d : D} {Qd : QD} {Q : VK}, Wd (ct X) μ S H → Rp (ct X) μ H y d → g a d S Qd → PostV (ct X) μ H Qd Q → r (.str a) [y] H Q) (ho : PEd X E o fo) (ha : PEd X E e fa)
    (hs : starEach [e] X.env = [(false, eval e X.env)] := by rfl) (hbase : attributeBase o name X.env (eval o X.env) = eval o X.env := by rfl) (hline : (apos.endLine == cpos.line) = true := by rfl) : PEd X E (.Call (.Attribute o name apos) [e] [] cpos) (dMS1 g fo fa) := by
  refine PE.imp (pe_m1 slot ty rule ho ha hs hbase hline) fun σ H Q ⟨μ, S, ρ, Qd, Ed, w, en, hf, q, px⟩ => ?_
  refine tR_of w en hf px fun x S1 v H1 μ1 h1 f1 w1 en1 px1 r1 => ?_
  obtain ⟨a, rfl, h1⟩ := onStr_of h1
  cases r1.str_inv
  refine ⟨⟨a, rfl⟩, tR_of w1 en1 h1 px1 fun d S2 y H2 μ2 h2 f2 w2 en2 px2 r2 => hr w2 r2 h2 (PostV.fw (PostV.fw q f1) f2)⟩
theorem d_ascii (ho : PEd X E o fo) (hbase : attributeBase o "isascii" X.env (eval o X.env) = eval o X.env := by rfl) (hline : (apos.endLine == cpos.line) = true := by rfl) : PEd X E (.Call (.Attribute o "isascii" apos) [] [] cpos) (dMS0 gAscii fo) :=
  d_ms0 PySem.F.slot_str_isascii PySem.F.type_str_isascii mt_isascii (fun w h q => ⟨_, rfl, rfl, trivial, q.same w (.bl _) h⟩) ho hbase hline
theorem d_digit (ho : PEd X E o fo) (hbase : attributeBase o "isdigit" X.env (eval o X.env) = eval o X.env := by rfl) (hline : (apos.endLine == cpos.line) = true := by rfl) : PEd X E (.Call (.Attribute o "isdigit" apos) [] [] cpos) (dMS0 gDigit fo) :=
  d_ms0 PySem.F.slot_str_isdigit PySem.F.type_str_isdigit mt_isdigit (fun w h q => ⟨_, rfl, rfl, trivial, q.same w (.bl _) h⟩) ho hbase hline
theorem d_starts (ho : PEd X E o fo) (ha : PEd X E e fa) (hs : starEach [e] X.env = [(false, eval e X.env)] := by rfl) (hbase : attributeBase o "startswith" X.env (eval o X.env) = eval o X.env := by rfl) (hline : (apos.endLine == cpos.line) = true := by rfl) :
    PEd X E (.Call (.Attribute o "startswith" apos) [e] [] cpos) (dMS1 gStarts fo fa) :=
  d_ms1 PySem.F.slot_str_startswith PySem.F.type_str_startswith mt_startswith (fun w r h q => by
    obtain ⟨b, rfl, h⟩ := onStr_of h
    cases r.str_inv
    exact ⟨_, b, rfl, rfl, q.same w (.bl _) h⟩) ho ha hs hbase hline
theorem strs_rp {c : Ct} {μ : Mu} {H : Hp} : ∀ ys : List Str, RpAll c μ H (ys.map V.str) (ys.map D.str)
  | [] => .nil
  | y :: ys => .cons (.str y) (strs_rp ys)
theorem d_split (ho : PEd X E o fo) (ha : PEd X E e fa) (hs : starEach [e] X.env = [(false, eval e X.env)] := by rfl) (hbase : attributeBase o "split" X.env (eval o X.env) = eval o X.env := by rfl) (hline : (apos.endLine == cpos.line) = true := by rfl) :
    PEd X E (.Call (.Attribute o "split" apos) [e] [] cpos) (dMS1 gSplit fo fa) :=
  d_ms1 PySem.F.slot_str_split PySem.F.type_str_split mt_split (fun w r h q => by
    obtain ⟨b, rfl, ⟨h1, h2⟩, h⟩ := onStr_of h
    cases r.str_inv
    exact ⟨_, b, rfl, rfl, h1, h2, fun p hp => PostV.lst q w (strs_rp _) h hp⟩) ho ha hs hbase hline
end
/-! ## (*xs, ..) -/
def dStar (fe : FE) (fs : FA) : FA := fun ρ S Q Ed => fe ρ S (fun d S1 => onSome (seqOf S1 d) fun xs => fs ρ S1 (fun ys S2 => Q (xs ++ ys) S2) Ed) Ed
theorem d_star {X : Cx} {E : L2.St → XK} {e : Expr} {es : List Expr} {fe : FE} {fs : FA} {p : Pos} (he : PEd X E e fe) (hr : PAd X E es fs) (hs : starEach (.Starred e p :: es) X.env = (true, eval e X.env) :: starEach es X.env := by rfl) : PAd X E (.Starred e p :: es) (dStar fe fs) := by
  refine PA.imp (StX.pa_star he hr hs) fun σ H Q ⟨μ, S, ρ, Qd, Ed, w, en, hf, q, px⟩ => ?_
  refine tR_of w en hf px fun d S1 v H1 μ1 h1 f1 w1 en1 px1 r1 => ?_
  obtain ⟨xs, e1, h1⟩ := onSome_of h1
  obtain ⟨a, vs, rfl, hq, rs⟩ := r1.seq w1 e1
  refine ⟨a, vs, rfl, hq.symm, tR_of w1 en1 h1 px1 fun ys S2 us H2 μ2 h2 f2 w2 en2 px2 r2 => ?_⟩
  exact q _ S2 _ H2 μ2 h2 (f1.trans f2) w2 ((rs.fw w1 f2).append r2)
end Pu
namespace Pu
open PySem PySem.Spec PyProof.Rows L2
/-! ## several except clauses, each of one class or of two, with a name or without -/
section
variable {X : Cx}
/-- an error in the hand of the clauses: sI is the state without it -/
structure InHand (X : Cx) (B : Heap) (a : Addr) (cls : Value) (d : Option Addr) (pins : List (Addr × Obj)) (σ : L2.St) (H : Hp) (sI s' : Shared) : Prop where
  inv : Inv X pins σ H sI
  gr : ∀ b o, sI.heap.get? b = some o → b ∉ frs X.stack → B.get? b = some o
  na : H a = none
  os : s'.os = sI.os
  ag : AllBare s'.gens
section
variable {B : Heap} {a : Addr} {cls : Value} {d : Option Addr} {pins : List (Addr × Obj)} {σ : L2.St} {H : Hp} {sI s' : Shared} {h : Heap}
theorem InHand.now (c : InHand X B a cls d pins σ H sI s') (f : HandSPX.FlyingZ B (X.env :: X.outer) a (Zc cls d) h) (u : sI.heap.UpToSlots h) : Inv X pins σ H { s' with heap := h } := c.inv.landed c.gr f.1 u c.os c.ag
end
end
end Pu
namespace Pu
open PySem PySem.Spec PyProof.Rows L2 GenW
/-! ## list(g) where the generator's errors go on: they are of these classes, none of which stops an iteration -/
/-! ## a list that is put together and then changed -/
def gAddC : G2 := fun x y S Q => onSome (lstOf S x) fun xs => onSome (lstOf S y) fun ys => xs.length + ys.length ≤ sizeLine ∧ Q (.cell S.length) (S ++ [.lst (xs ++ ys)])
theorem o_addC {X : Cx} : OpR X (binaryOp .Add) (rD2 (ct X) gAddC) := by
  intro pins s σ H x y v u Q I rx ry ⟨μ, S, dx, dy, Qd, w, r1, r2, hg, q⟩
  obtain ⟨xs, e1, hg⟩ := onSome_of hg
  obtain ⟨ys, e2, hg⟩ := onSome_of hg
  obtain ⟨a, vs, rfl, ha, ra⟩ := r1.lstT w e1
  obtain ⟨b, ws, rfl, hb, rb⟩ := r2.lstT w e2
  exact op_cat pins s σ H _ _ v u Q I rx ry ⟨a, b, vs, ws, rfl, rfl, ha, hb, by rw [ra.length, rb.length]; exact hg.1, fun p hp => q.lay w (ra.append rb) hg.2 hp⟩
end Pu
/-! sorted of tuples of whole numbers, of any lengths, the first one empty -/
namespace PuSt
open PySem PySem.Calls PySem.W PyProof.Rows
def IsTI (hp : Heap) (v : Value) (ns : List Int) : Prop := ∃ (a : Addr) (dd : Option Addr) (items : Array Value) (n : Nat) (sl : Array (Option Value)), v = .ref a ∧ hp.get? a = some { cls := .type "tuple", dict := dd, data := .seq items n, slots := sl } ∧ IntsAre items.toList ns
theorem IsTI.keeps {hp hp' : Heap} {v : Value} {ns : List Int} (x : IsTI hp v ns) (k : ∀ b o, hp.get? b = some o → o.cls = .type "tuple" → hp'.get? b = some o) : IsTI hp' v ns := by
  obtain ⟨a, dd, items, n, sl, e, g, i⟩ := x
  exact ⟨a, dd, items, n, sl, e, k _ _ g rfl, i⟩
theorem IsTI.type {M : Model} {hp : Heap} {v : Value} {ns : List Int} (x : IsTI hp v ns) : Looks M hp (typeOf v) (.type "tuple") := by
  obtain ⟨a, dd, items, n, sl, rfl, g, i⟩ := x
  exact (Looks.ld g).andThen .now
end PuSt
namespace Pu
open PySem PySem.Spec PyProof.Rows L2
/-! ## try with several clauses whose bodies may make and change lists -/
def noXC : Cl → Bool
  | .lst ds => noXs ds
  | .ins _ fs => noXf fs
def keepC (S S2 : Sto) : Prop := ∀ (i : Nat) (x : Cl), S2[i]? = some x → S[i]? = some x ∨ noXC x = true
theorem keepC.snoc {S S2 : Sto} {c : Cl} (k : keepC S S2) (n : noXC c = true) : keepC S (S2 ++ [c]) := fun i x h => by
  by_cases hi : i < S2.length
  · rw [List.getElem?_append_left hi] at h
    exact k i x h
  · rw [List.getElem?_append_right (by omega)] at h
    by_cases h0 : i - S2.length = 0
    · rw [h0] at h
      cases h
      exact .inr n
    · rw [List.getElem?_eq_none (by show 1 ≤ _; omega)] at h
      cases h
theorem keepC.put {S S2 : Sto} {c : Cl} {j : Nat} (k : keepC S S2) (n : noXC c = true) : keepC S (S2.set j c) := fun i x h => by
  by_cases hi : i = j
  · subst hi
    by_cases hl : i < S2.length
    · rw [List.getElem?_set_self hl] at h
      cases h
      exact .inr n
    · rw [List.getElem?_eq_none (by rw [List.length_set]; omega)] at h
      cases h
  · rw [List.getElem?_set_ne (Ne.symm hi)] at h
    exact k i x h
end Pu
namespace Pu
open PySem PySem.Spec PyProof.Rows L2
/-! ## a def that is called with the error that is handled -/
structure RmE (k : Nat) (A : Around) : Prop where
  dp : A.depth + 3 * k + 5 < recursionLimit
  un : A.units + 16 * k + 200 < cLine
theorem RmE.units {k : Nat} {A : Around} (r : RmE k A) : A.units + 64 < cLine := by have := r.un; omega
theorem RmE.mono {j k : Nat} {A : Around} (r : RmE k A) (h : j ≤ k) : RmE j A := ⟨by have := r.dp; omega, by have := r.un; omega⟩
theorem RmE.of {k : Nat} {A : Around} (r : Room k A) : RmE k A := ⟨r.dp, r.un⟩
end Pu
namespace Pu
open PySem PySem.Spec PyProof.Rows L2 Builtin Builtin.Str
/-! ## upper of a text -/
def gUpper : Str → Sto → QD → Prop := fun a S Q => a.length ≤ 5592405 ∧ Q (.str (Txt.upper a)) S
section
variable {X : Cx} {E : L2.St → XK} {o : Expr} {fo : FE} {apos cpos : Pos}
theorem d_upper (ho : PEd X E o fo) (hbase : attributeBase o "upper" X.env (eval o X.env) = eval o X.env := by rfl) (hline : (apos.endLine == cpos.line) = true := by rfl) : PEd X E (.Call (.Attribute o "upper" apos) [] [] cpos) (dMS0 gUpper fo) :=
  d_ms0 PySem.F.slot_str_upper PySem.F.type_str_upper mt_upper (fun w h q => ⟨_, rfl, rfl, h.1, q.same w (.str _) h.2⟩) ho hbase hline
end
/-! ## replace with a count -/
def replN (x y z : Str) (n : Nat) : Str :=
  if ((occurrences x y 0 x.length n).isEmpty || (y.length == 0 && z.length == 0)) = true then x
  else glued z (partsBetween x (occurrences x y 0 x.length n) y.length)
theorem replN_fits {x z : Str} (y : Str) {n : Nat} (hb : x.length + n * z.length ≤ 16777216) : (glued z (partsBetween x (occurrences x y 0 x.length n) y.length)).length ≤ sizeLine := by
  have h1 := StrLaws.occ_length_le x y 0 x.length n
  have h0 : (glued y (partsBetween x (occurrences x y 0 x.length n) y.length)).length = x.length := by rw [StrLaws.glued_between_self]
  rw [size_glued, length_partsBetween, Nat.add_sub_cancel] at h0
  rw [size_glued, length_partsBetween, Nat.add_sub_cancel, sizeLine_eq]
  have h2 := Nat.mul_le_mul_right z.length h1
  omega
theorem gives_replN (x y z : Str) (t u v m : Tok) (n : Nat) (hn : n < 1000) (hu : u ≠ 0) (hv : v ≠ 0) (huv : u ≠ v) (hyz : (y == z) = false) (hb : x.length + n * z.length ≤ 16777216) :
    Gives («str.replace» ⟨[.str x t, .str y u, .str z v, .int (n : Int) m], []⟩) (if ((occurrences x y 0 x.length n).isEmpty || (y.length == 0 && z.length == 0)) = true then .val (.str x t) else .str (glued z (partsBetween x (occurrences x y 0 x.length n) y.length))) := by
  show Gives (do let limit ← countLimit "str.replace" (some (.int (n : Int) m)) (x.length + 1); _) _
  rw [countLimit_int "str.replace" (n : Int) m (x.length + 1) (by rw [Bool.or_eq_false_iff]; exact ⟨decide_eq_false (by omega), decide_eq_false (by omega)⟩)]
  rw [if_neg (show ¬ (n : Int) < 0 by omega), show ((n : Int)).toNat = n from rfl]
  show Gives (if ((occurrences x y 0 x.length n).isEmpty || (y.length == 0 && z.length == 0)) = true then (do rule "str.replace.nothing"; ret (.str x t)) else
              (do let same ← isSame (.str y u) (.str z v)
                  if same = true then (do rule "str.replace.old-is-new"; ret (.str x t)) else
                  if tooLong (x.length + (occurrences x y 0 x.length n).length * z.length) = true then unsupported "str.replace:memory" else
                  retStr (glued z (partsBetween x (occurrences x y 0 x.length n) y.length)))) _
  have hl : tooLong (x.length + (occurrences x y 0 x.length n).length * z.length) = false := by
    have h2 := Nat.mul_le_mul_right z.length (StrLaws.occ_length_le x y 0 x.length n)
    have e : (2 : Nat) ^ 24 = 16777216 := by decide
    unfold tooLong sizeLine
    exact decide_eq_false (by omega)
  cases hc : ((occurrences x y 0 x.length n).isEmpty || (y.length == 0 && z.length == 0))
  · rw [isSame_str_other y z u v (by simp [hu, hv]) (by simp [huv]) hyz, hl]
    exact .of_eq rfl
  · exact .rule (.of_eq rfl)
theorem sc_replN {prog : Program} {w : World} {A : Around} {E : Value → Shared → Prop} {s : Shared} {x y z : Str} {t u v m : Tok} {n : Nat} {Q : Value → Shared → Prop} (hn : n < 1000) (hu : u ≠ 0) (hv : v ≠ 0) (huv : u ≠ v) (hyz : (y == z) = false)
    (hb : x.length + n * z.length ≤ 16777216) (hq : ∀ t' k, Q (.str (replN x y z n) t') { s with toks := k }) :
    wpAny (model prog w) A (call (.builtin "str.replace") [.str x t, .str y u, .str z v, .int (n : Int) m]) Q E s := by
  refine call_gives F.slot_str_replace (typeIs_str _ _ _) F.entry_str_replace (F.args_str_replace_4 _ _ _ _) (gives_replN x y z t u v m n hn hu hv huv hyz hb) ?_
  have hq' := hq
  unfold replN at hq'
  cases hc : ((occurrences x y 0 x.length n).isEmpty || (y.length == 0 && z.length == 0))
  · rw [hc] at hq'
    simp only [Bool.false_eq_true, if_false] at hq' ⊢
    exact ⟨replN_fits y hb, hq' _ _⟩
  · rw [hc] at hq'
    simp only [if_true] at hq' ⊢
    exact hq' t s.toks
/-! ## where a token has been given out -/
def PETd (X : Cx) (E : L2.St → XK) (e : Expr) (f : FE) : Prop := PET X e (tD (ct X) E f)
section
variable {X : Cx}
theorem PET.imp {e : Expr} {t t' : TE} (h : PET X e t) (k : ∀ σ H Q, t' σ H Q → t σ H Q) : PET X e t' := fun pins s σ H Q h0 I q => h pins s σ H Q h0 I (k σ H Q q)
theorem PST.imp {e : Stmt} {t t' : TS} (h : PST X e t) (k : ∀ D σ H, t' D σ H → t D σ H) : PST X e t' := fun pins s σ H D h0 I q => h pins s σ H D h0 I (k D σ H q)
theorem PSsT.imp {e : List Stmt} {t t' : TS} (h : PSsT X e t) (k : ∀ D σ H, t' D σ H → t D σ H) : PSsT X e t' := fun pins s σ H D h0 I q => h pins s σ H D h0 I (k D σ H q)
end
theorem call_m3 {prog : Program} {w : World} {A : Around} {env : Env} {E : Value → Shared → Prop} {s : Shared} {o a b c : Expr} {name : Str} {apos pos : Pos} {Q : Value → Shared → Prop} (hbase : attributeBase o name env (eval o env) = eval o env)
    (hs : starEach [a, b, c] env = [(false, eval a env), (false, eval b env), (false, eval c env)]) (hline : (apos.endLine == pos.line) = true)
    (h : wpAny (model prog w) A (eval o env) (fun v s1 => MethodOnS prog w A E name v pos [(false, eval a env), (false, eval b env), (false, eval c env)] Q s1) E s) : wpAny (model prog w) A (eval (.Call (.Attribute o name apos) [a, b, c] [] pos) env) Q E s := by
  refine wpAny_Call_method_lateS hbase (by rw [hs]; rfl) hline ?_
  rw [hs]
  exact h
/-- a.replace(y, z, n) of written texts -/
def dRepl (y z : Str) (n : Nat) (fo : FE) : FE := fun ρ S Q Ed => fo ρ S (fun x S1 => onStr x fun a => a.length + n * z.length ≤ 16777216 ∧ Q (.str (replN a y z n)) S1) Ed
section
variable {X : Cx} {E : L2.St → XK} {o e a b : Expr} {fo fa fb : FE} {apos cpos c0 c1 c2 pos : Pos} {y z : Str} {n j0 j1 j2 : Nat}
theorem dt_repl (ho : PEd X E o fo) (hn : n < 1000 := by decide) (hyz : (y == z) = false := by decide)
    (hs : starEach [.Constant (.str y) j0 c0, .Constant (.str z) j1 c1, .Constant (.int (n : Int)) j2 c2] X.env = [(false, eval (.Constant (.str y) j0 c0) X.env), (false, eval (.Constant (.str z) j1 c1) X.env), (false, eval (.Constant (.int (n : Int)) j2 c2) X.env)] := by rfl)
    (hbase : attributeBase o "replace" X.env (eval o X.env) = eval o X.env := by rfl) (hline : (apos.endLine == cpos.line) = true := by rfl) :
    PETd X E (.Call (.Attribute o "replace" apos) [.Constant (.str y) j0 c0, .Constant (.str z) j1 c1, .Constant (.int (n : Int)) j2 c2] [] cpos) (dRepl y z n fo) := by
  intro pins s σ H Q h0 I ⟨μ, S, ρ, Qd, Ed, w, en, hf, q, px⟩
  have hh : tD (ct X) E fo σ H (fun v H1 => ∃ a, v = .str a ∧ a.length + n * z.length ≤ 16777216 ∧ Q (.str (replN a y z n)) H1) := tR_of w en hf px fun x S1 v H1 μ1 h1 f1 w1 en1 px1 r1 => by
    obtain ⟨a, rfl, hb, h1⟩ := onStr_of h1
    cases r1.str_inv
    exact ⟨a, rfl, hb, q _ _ _ _ _ h1 f1 w1 (.str _)⟩
  refine call_m3 hbase hs hline ?_
  refine wpAny_mono (PySem.wpAny_toks (ho.run pins s σ H _ I hh)) (fun v s1 z => ?_) fun _ _ z => z.2
  obtain ⟨hk, v', H1, I1, r1, x, e1, hb, q1⟩ := z
  subst e1
  obtain ⟨tx, e2⟩ := r1
  subst e2
  refine ⟨"str", "str.replace", F.plainAttrs_str, F.slot_str_replace, F.type_str_replace, typeIs_str _ _ _, (fun _ e => nomatch e), Calls.callWith_builtin rfl (Calls.evalArgs_plain (Calls.spliced_cons ?_))⟩
  refine Calls.Constant_str (Calls.spliced_cons (Calls.Constant_str (Calls.spliced_cons (wpAny_Constant_int (Calls.spliced_nil ?_)))))
  have h1 : 1 ≤ s1.toks := Nat.le_trans h0 hk
  exact sc_replN hn (by show s1.toks ≠ 0; omega) (by show s1.toks + 1 ≠ 0; omega) (by show s1.toks ≠ s1.toks + 1; omega) hyz hb fun t' k => ⟨.str (replN x y z n), H1, I1.tok k, ⟨t', rfl⟩, q1⟩
theorem dt_of (h : PEd X E e fa) : PETd X E e fa := CwR.PET.of h
theorem dt_bin {op : Operator} {g : G2} (ho : OpR X (binaryOp op) (rD2 (ct X) g)) (ha : PETd X E a fa) (hb : PETd X E b fb) : PETd X E (.BinOp a op b pos) (dBin g fa fb) :=
  PET.imp (CwR.pet_op ho ha hb) fun _ _ _ h => tBin h
end
section
variable {X : Cx} {E : L2.St → XK} {o e : Expr} {fo fe : FE} {name : Str} {id : String} {apos cpos pos : Pos}
theorem dt_ml {g : GM} (slot : Slot "list" name id) (hty : typeOf (.builtin id) = pure (.type "method_descriptor")) (hm : MtR X id (rDm (ct X) g)) (ho : PEd X E o fo) (he : PETd X E e fe)
    (hs : starEach [e] X.env = [(false, eval e X.env)] := by rfl)
    (hbase : attributeBase o name X.env (eval o X.env) = eval o X.env := by rfl) (hline : (apos.endLine == cpos.line) = true := by rfl) :
    PETd X E (.Call (.Attribute o name apos) [e] [] cpos) (dML g fo (dCons fe dNil)) := by
  intro pins s σ H Q h0 I ⟨μ, S, ρ, Qd, Ed, w, en, hf, q, px⟩
  have hh : tD (ct X) E fo σ H (fun v H1 => (∃ a vs, v = .ref a ∧ H1 a = some (.lst vs)) ∧ tD (ct X) E fe σ H1 fun u H2 => rDm (ct X) g v [u] H2 Q) := by
    refine tR_of w en hf px fun x S1 v H1 μ1 h1 f1 w1 en1 px1 r1 => ?_
    obtain ⟨nx, e1, h1⟩ := onSome_of h1
    obtain ⟨a, vs, rfl, hm', ha', ra⟩ := w1.cellL r1 e1
    refine ⟨⟨a, vs, rfl, ha'⟩, ?_⟩
    refine tR_of w1 en1 h1 px1 fun d S2 u H2 μ2 h2 f2 w2 en2 px2 r2 => ?_
    exact ⟨μ2, S2, x, [d], Qd, w2, r1.fw w1 f2, .cons r2 .nil, h2, fun d S' v' H' μ' h f w' r => q d S' v' H' μ' h (f1.trans (f2.trans f)) w' r⟩
  refine PySem.Call_method1 hbase hs hline ?_
  refine wpAny_mono (PySem.wpAny_toks (ho.run pins s σ H _ I hh)) (fun v s1 z => ?_) fun _ _ z => z.2
  obtain ⟨hk, v', H1, I1, r1, ⟨a, vs, e1, ha⟩, q1⟩ := z
  subst e1
  have e2 : v = Value.ref a := r1
  subst e2
  obtain ⟨h1, h2⟩ := tyV_is I1 r1 (.inl ⟨rfl, vs, SqL.of ha⟩)
  refine ⟨"list", id, F.plainAttrs_list, slot, hty, h1, h2, Calls.callWith_builtin rfl (Calls.evalArgs_plain (Calls.spliced_cons ?_))⟩
  refine wpAny_mono (he pins s1 σ H1 _ (Nat.le_trans h0 hk) I1 q1) (fun u s2 z => ?_) fun _ _ z => z
  obtain ⟨u', H2, I2, r2, q2⟩ := z
  exact Calls.spliced_nil (hm pins s2 σ H2 _ _ _ _ Q I2 r1 (.cons r2 .nil) q2)
end
section
variable {X : Cx} {E : XK} {st : Stmt} {rest : List Stmt} {f g : FS} {e : Expr} {fe : FE} {pos : Pos}
def PSTd (X : Cx) (E : XK) (st : Stmt) (f : FS) : Prop := PST X st (tS (ct X) E f)
def PBTd (X : Cx) (E : XK) (sts : List Stmt) (f : FS) : Prop := PSsT X sts (tS (ct X) E f)
theorem dt_expr (he : PETd X (cE E) e fe) (hs : swapsWith e none pos.line X.env = pure false := by rfl) : PSTd X E (.Expr e pos) (dDrop fe) := by
  intro pins s σ H D h0 I ⟨μ, S, ρ, De, Ed, w, en, hf, k, px⟩
  refine wpAny_Expr_any (wpAny_mono (he pins s σ H (fun _ H1 => D.nx σ H1) h0 I ?_) (fun v s1 z => ?_) fun _ _ z => z) I.quiet hs
  · exact tR_of w en hf px fun x S1 v H1 μ1 h1 f1 w1 en1 px1 r1 => k.nx ρ S1 σ H1 μ1 h1 f1 w1 en1
  · obtain ⟨x, H1, I1, r1, q1⟩ := z
    exact ⟨σ, H1, I1, q1⟩
theorem dt_last (h : PSTd X E st f) : PBTd X E [st] f := CwR.psst_one h
end
/-! ## what gives a token out -/
def PEGd (X : Cx) (E : L2.St → XK) (e : Expr) (f : FE) : Prop :=
  ∀ (pins : List (Addr × Obj)) (s : Shared) (σ : L2.St) (H : Hp) (Q : VK), Inv X pins σ H s → tD (ct X) E f σ H Q → wpAny (model X.prog X.w) X.A (eval e X.env) (fun v s1 => 1 ≤ s1.toks ∧ EP X pins σ Q v s1) X.xe s
def PAGd (X : Cx) (E : L2.St → XK) (es : List Expr) (f : FA) : Prop :=
  ∀ (pos : Pos) (pins : List (Addr × Obj)) (s : Shared) (σ : L2.St) (H : Hp) (Q : List V → Hp → Prop), Inv X pins σ H s → tAr (ct X) E f σ H Q → wpAny (model X.prog X.w) X.A (spliced (backTo pos (starEach es X.env))) (fun us s1 => 1 ≤ s1.toks ∧ AP X pins σ Q us s1) X.xe s
def PSGd (X : Cx) (E : XK) (st : Stmt) (f : FS) : Prop :=
  ∀ (pins : List (Addr × Obj)) (s : Shared) (σ : L2.St) (H : Hp) (D : Ends), Inv X pins σ H s → tS (ct X) E f D σ H → wpAny (model X.prog X.w) X.A (exec st X.env) (fun fl s1 => (fl = .next → 1 ≤ s1.toks) ∧ SP X pins D fl s1) X.xe s
section
variable {X : Cx} {E : L2.St → XK} {a b e : Expr} {es : List Expr} {fa fb fe : FE} {fs : FA} {pos cpos : Pos}
theorem dg_str {y : Str} {j : Nat} : PEGd X E (.Constant (.str y) j cpos) (dC (.str y)) := by
  intro pins s σ H Q I ⟨μ, S, ρ, Qd, Ed, w, en, hf, q, px⟩
  refine Calls.Constant_str ⟨by show 1 ≤ s.toks + 1; omega, .str y, H, I.tok _, ⟨s.toks, rfl⟩, ?_⟩
  exact q _ _ _ _ _ hf Fw.refl w (.str y)
theorem dg_bin {op : Operator} {g : G2} (ho : OpR X (binaryOp op) (rD2 (ct X) g)) (ha : PEd X E a fa) (hb : PEGd X E b fb) : PEGd X E (.BinOp a op b pos) (dBin g fa fb) := by
  intro pins s σ H Q I h
  refine wpAny_BinOp (wpAny_mono (ha.run pins s σ H _ I (tBin h)) (fun v s1 z => ?_) fun _ _ z => z)
  obtain ⟨x, H1, I1, r1, q1⟩ := z
  refine wpAny_mono (hb pins s1 σ H1 _ I1 q1) (fun u s2 z => ?_) fun _ _ z => z
  obtain ⟨hk, y, H2, I2, r2, q2⟩ := z
  exact wpAny_mono (PySem.wpAny_toks (ho pins s2 σ H2 x y v u Q I2 r1 r2 q2)) (fun _ s3 z => ⟨Nat.le_trans hk z.1, z.2⟩) fun _ _ z => z.2
theorem dag_cons (ha : PEGd X E e fe) (hr : PAd X E es fs) (hs : starEach (e :: es) X.env = (false, eval e X.env) :: starEach es X.env := by rfl) : PAGd X E (e :: es) (dCons fe fs) := by
  intro pos pins s σ H Q I ⟨μ, S, ρ, Qd, Ed, w, en, hf, q, px⟩
  have hh : tD (ct X) E fe σ H (fun v H1 => tAr (ct X) E fs σ H1 fun vs H2 => Q (v :: vs) H2) := by
    refine tR_of w en hf px fun x S1 v H1 μ1 h1 f1 w1 en1 px1 r1 => ?_
    refine tR_of w1 en1 h1 px1 fun xs S2 vs H2 μ2 h2 f2 w2 en2 px2 r2 => ?_
    exact q _ S2 _ H2 μ2 h2 (f1.trans f2) w2 (.cons (r1.fw w1 f2) r2)
  rw [hs]
  show wpAny _ _ (spliced ((false, eval e X.env) :: backTo pos (starEach es X.env))) _ _ s
  refine Calls.spliced_cons (wpAny_mono (ha pins s σ H _ I hh) (fun v s1 z => ?_) fun _ _ z => z)
  obtain ⟨hk, x, H1, I1, r1, q1⟩ := z
  refine wpAny_mono (PySem.wpAny_toks (hr.run pos pins s1 σ H1 _ I1 q1)) (fun us s2 z => ?_) fun _ _ z => z.2
  obtain ⟨hk2, xs, H2, I2, r2, q2⟩ := z
  exact ⟨Nat.le_trans hk hk2, x :: xs, H2, I2, .cons r1 r2, q2⟩
theorem dg_lst (h : PAGd X E es fs) : PEGd X E (.List es pos) (dLst fs) := by
  intro pins s σ H Q I ⟨μ, S, ρ, Qd, Ed, w, en, hf, q, px⟩
  have hh : tAr (ct X) E fs σ H (fun vs H1 => vs.length ≤ sizeLine ∧ ∀ p, H1 p = none → p ≠ sysModules → Q (.ref p) (upd H1 p (.lst vs))) := by
    refine tR_of w en hf px fun ds S1 vs H1 μ1 h1 f1 w1 en1 px1 r1 => ⟨by rw [r1.length]; exact h1.1, fun p hp ps => ?_⟩
    exact PostV.lstN (fun d S' v H' μ' h f w' r => q d S' v H' μ' h (f1.trans f) w' r) w1 r1 h1.2 hp ps
  refine wpAny_List_spliced (wpAny_mono (h pos pins s σ H _ I hh) (fun us s1 z => ?_) fun _ _ z => z)
  obtain ⟨hk, xs, H1, I1, r, hz, q1⟩ := z
  refine ⟨by rw [← r.length]; exact hz, ?_⟩
  have nf : H1 s1.heap.objs.size = none := I1.hok.fresh (Nat.le_refl _)
  refine ⟨hk, .ref s1.heap.objs.size, upd H1 s1.heap.objs.size (.lst xs), I1.laid (t' := s1.toks) (fun b u e => Heap.get?_push_of_some _ e) (Nat.le_refl _) ?_, rfl, q1 _ nf (Nat.ne_of_gt I1.big)⟩
  exact ⟨hz, us, 0, r, Heap.get?_push_size _ rfl⟩
end
section
variable {X : Cx} {E : XK} {st : Stmt} {rest : List Stmt} {f g : FS} {e : Expr} {fe : FE} {pos : Pos}
theorem dg_set {i : Nat} {x : Str} {pos' : Pos} (hN : X.N.Nodup) (hi : X.N[i]? = some x) (hx : Loc X.env.scope x) (he : PEGd X (cE E) e fe) (hs : swapsWith e (some (.Name x pos')) pos.line X.env = pure false := by rfl)
    (hf : X.fn x = true ∨ X.env.scope.names.lookup x = some .local := by first | exact .inl rfl | exact .inr rfl | assumption) : PSGd X E (.Assign [.Name x pos'] e pos) (dAsg fe (gN i)) := by
  intro pins s σ H D I ⟨μ, S, ρ, De, Ed, w, en, hh, k, px⟩
  have h1 : tD (ct X) (cE E) fe σ H (fun v H1 => D.nx (σ.set i (some v)) H1) := tR_of w en hh px fun x S1 v H1 μ1 h1 f1 w1 en1 px1 r1 =>
    k.nx _ S1 _ H1 μ1 (setK_eq (k := fun ρ' => De.nx ρ' S1) h1) f1 w1 (en1.set r1)
  refine wpAny_Assign_Name (wpAny_mono (he pins s σ H _ I h1) (fun v s1 z => ?_) fun _ _ z => z) hs
  obtain ⟨hk, y, H1, I1, r1, q1⟩ := z
  refine wpAny_mono (PySem.wpAny_toks (store_ok (v := y) (u := v) (Q := fun _ s2 => Inv X pins (σ.set i (some y)) H1 s2) I1 hN hi hx r1 (fun _ I2 => I2) hf)) (fun _ s2 z => ?_) fun _ _ z => z.2
  exact ⟨fun _ => Nat.le_trans hk z.1, _, H1, z.2, q1⟩
theorem d_seqG (h1 : PSGd X E st f) (h2 : PBTd X E rest g) : PBd X E (st :: rest) (dSeq f g) := by
  refine ⟨fun pins s σ H D I ⟨μ, S, ρ, De, Ed, w, en, hf, k, px⟩ => ?_⟩
  have hh : tS (ct X) E f { D with nx := tS (ct X) E g D } σ H :=
    ⟨μ, S, ρ, _, Ed, w, en, hf, ⟨fun ρ' S' σ' H' μ' h fw w' en' => ⟨μ', S', ρ', De, Ed, w', en', h, k.fw fw, px.fw fw⟩, k.rt, k.bk, k.ct⟩, px⟩
  refine wpAny_execs_cons (wpAny_mono (h1 pins s σ H _ I hh) (fun fl s1 z => ?_) fun _ _ z => z)
  obtain ⟨hk, z⟩ := z
  cases fl with
  | next =>
    obtain ⟨σ', H', I', q⟩ := z
    exact h2 pins s1 σ' H' D (hk rfl) I' q
  | ret v => exact z
  | brk => exact z
  | cont => exact z
end
/-! ## a text, a few times -/
def gMulT : G2 := fun x y S Q => match x, y with
  | .str a, .int k => (0 ≤ k ∧ k ≤ 1000 ∧ a.length ≤ 1000) ∧ Q (.str (Txt.mul a k)) S
  | _, _ => False
theorem o_mulT {X : Cx} : OpR X (binaryOp .Mult) (rD2 (ct X) gMulT) := by
  intro pins s σ H x y v u Q I rx ry ⟨μ, S, dx, dy, Qd, w, r1, r2, hg, q⟩
  unfold gMulT at hg
  split at hg
  · rename_i a k
    obtain ⟨⟨h1, h2, h3⟩, hg⟩ := hg
    cases r1.str_inv
    cases r2.int_inv
    obtain ⟨t, rfl⟩ := rx
    obtain ⟨t2, rfl⟩ := ry
    obtain ⟨n, rfl⟩ : ∃ n : Nat, k = (n : Int) := ⟨k.toNat, by omega⟩
    refine SB.mul ⟨?_, fun n1 n2 => ?_, fun n1 n2 => ?_⟩ fun t' m => ⟨.str _, H, I.tok _, ⟨t', rfl⟩, q.same w (.str _) hg⟩
    · rw [Bool.or_eq_false_iff]
      exact ⟨decide_eq_false (by omega), decide_eq_false (by omega)⟩
    · have hn : (n : Int) ≠ 0 := by omega
      have : (1000 : Int) ≤ (2 ^ 63 - 1) / (n : Int) := by
        rw [Int.le_ediv_iff_mul_le (by omega)]
        omega
      omega
    · have e : (2 : Nat) ^ 24 = 16777216 := by decide
      unfold tooLong sizeLine
      have h4 : a.length * n ≤ 1000 * 1000 := Nat.mul_le_mul h3 (by omega)
      exact decide_eq_false (by show ¬ _ < a.length * n; omega)
  · exact hg.elim
/-! ## a text not in a text -/
def gNotInT : G2 := fun x y S Q => match x, y with
  | .str a, .str b => Q (.bl (occurrences b a 0 b.length 1).isEmpty) S
  | _, _ => False
theorem o_notInT {X : Cx} : OpR X (compareOp .NotIn) (rD2 (ct X) gNotInT) := by
  intro pins s σ H x y v u Q I rx ry ⟨μ, S, dx, dy, Qd, w, r1, r2, hg, q⟩
  unfold gNotInT at hg
  split at hg
  · refine op_notIn_str pins s σ H x y v u Q I rx ry ⟨_, _, r1.str_inv, r2.str_inv, ?_⟩
    rw [Bool.not_not]
    exact q.same w (.bl _) hg
  · exact hg.elim
end Pu
namespace Pu
open PySem L2
def den_is_number_from : FS := (dSeq (dIfS (dOr (dTest (dUn (gIsi .bool) (dVar 0))) (dNot (dTest (dUn (gIsi .int) (dVar 0)))))
 (dRet (dC (.bl false)))
 dSkip)
 (dRet (dChain gLe gLe (dVar 1) (dVar 0) (dVar 2))))
@[irreducible] def F_is_number_from : FF := dDef 3 3 den_is_number_from
def den_road_error : FS := (dSeq (dIfS (dOr (dNot (dTest (dUn (gIsi .tup) (dVar 0)))) (dTest (dBin gNe (dB gLen (dCons (dVar 0) dNil)) (dC (.int 3)))))
 (dRet (dTup (dCons (dC .non) (dCons (dC (.str "road")) dNil))))
 dSkip)
 (dSeq (dAsg (dVar 0) (gTp 3 (gsCons (gN 1) (gsCons (gN 2) (gsCons (gN 3) gsNil)))))
 (dSeq (dIfS (dOr (dNot (dTest (dCallW F_is_number_from (dCons (dVar 1) (dCons (dC (.int 1)) (dCons (dC (.int 1000)) dNil)))))) (dNot (dTest (dCallW F_is_number_from (dCons (dVar 2) (dCons (dC (.int 1)) (dCons (dBin gSub (dVar 1) (dC (.int 1))) dNil)))))))
 (dRet (dTup (dCons (dC .non) (dCons (dC (.str "ticks")) dNil))))
 dSkip)
 (dSeq (dIfS (dOr (dNot (dTest (dUn (gIsi .tup) (dVar 3)))) (dNot (dTest (dChain gLe gLe (dC (.int 1)) (dB gLen (dCons (dVar 3) dNil)) (dC (.int 12))))))
 (dRet (dTup (dCons (dC .non) (dCons (dC (.str "bikes")) dNil))))
 dSkip)
 (dSeq (dFor (dEnT (dCons (dVar 3) dNil)) (gTp 2 (gsCons (gN 4) (gsCons (gN 5) gsNil)))
 (dIfS (dNot (dTest (dCallW F_is_number_from (dCons (dVar 5) (dCons (dC (.int 0)) (dCons (dC (.int 12)) dNil))))))
 (dRet (dTup (dCons (dVar 4) (dCons (dC (.str "bikes")) dNil))))
 dSkip))
 (dRet (dC .non)))))))
@[irreducible] def F_road_error : FF := dDef 1 6 den_road_error
end Pu
namespace Pu
open PySem L2
def den_bike_ticks : FS := (dRet (dB gSorted (dCons (dBin gAdd (dBin gMul (dLst (dCons (dC (.int 0)) dNil)) (dVar 2)) (dLc (st1 3) dYes (dBin gIx (dVar 0) (dVar 3)) (dItS (dVar 1)))) dNil)))
@[irreducible] def F_bike_ticks : FF := dDef 3 4 den_bike_ticks
def den_leaving_ticks : FS := (dSeq (dAsg (dB gListC (dCons (dVar 0) dNil)) (gN 3))
 (dSeq (dAsg (dB gSorted (dCons (dLc (st1 6) dYes (dTup (dCons (dBin gIx (dVar 0) (dVar 6)) (dCons (dVar 6) dNil))) (dItS (dVar 1))) dNil)) (gN 4))
 (dSeq (dFor (dZip (dCons (dVar 4) (dCons (dVar 2) dNil))) (gTp 2 (gsCons (gTp 2 (gsCons (gN 5) (gsCons (gN 6) gsNil))) (gsCons (gN 7) gsNil)))
 (dAsg (dB gMax (dCons (dVar 5) (dCons (dVar 7) dNil))) (gSetI (dVar 3) (dVar 6))))
 (dRet (dVar 3)))))
@[irreducible] def F_leaving_ticks : FF := dDefC 3 8 den_leaving_ticks
def den_counts_of : FS := (dSeq (dAsg (dBin gIx (dVar 0) (dC (.int 2))) (gN 1))
 (dRet (dB gTuple (dCons (dLc (st1 2) dYes (dB gSum (dCons (dSl (dVar 1) dNoP (dPart (dBin gAdd (dVar 2) (dC (.int 1))))) dNil)) (dRng1 (dCons (dB gLen (dCons (dVar 1) dNil)) dNil))) dNil))))
@[irreducible] def F_counts_of : FF := dDef 1 3 den_counts_of
def den_ticks_of : FS := (dSeq (dAsg (dVar 0) (gTp 3 (gsCons (gN 3) (gsCons (gN 4) (gsCons (gN 5) gsNil)))))
 (dSeq (dAsg (dLstC (dCons (dVar 1) dNil)) (gN 6))
 (dSeq (dAsg (dTup dNil) (gN 7))
 (dSeq (dFor (dZip (dCons (dVar 2) (dCons (dVar 5) dNil))) (gTp 2 (gsCons (gN 8) (gsCons (gN 9) gsNil)))
 (dSeq (dAsg (dBin gIx (dVar 6) (dUn gNeg (dC (.int 1)))) (gN 10))
 (dSeq (dAsg (dCall 0 F_leaving_ticks (dCons (dVar 10) (dCons (dVar 8) (dCons (dCallW F_bike_ticks (dCons (dVar 10) (dCons (dVar 7) (dCons (dVar 9) dNil)))) dNil)))) (gN 11))
 (dSeq (dDrop (dML gAppend (dVar 6) (dCons (dB gTuple (dCons (dLc (st2 12 13) dYes (dBin gAdd (dVar 13) (dIf (dTest (dBin (gIn false) (dVar 12) (dVar 8))) (dVar 4) (dVar 3))) (dEnL (dCons (dVar 11) dNil))) dNil)) dNil)))
 (dAsg (dVar 8) (gN 7))))))
 (dRet (dB gTuple (dCons (dVar 6) dNil)))))))
@[irreducible] def F_ticks_of : FF := dDefC 3 14 den_ticks_of
def den_room_of : FS := (dRet (dB gSum (dCons (dLc (st1 2) dYes (dB gMinL (dCons (dVar 2) (dCons (dVar 1) dNil))) (dItS (dCallW F_counts_of (dCons (dVar 0) dNil)))) dNil)))
@[irreducible] def F_room_of : FF := dDef 2 3 den_room_of
def den_finish_of : FS := (dRet (dB gMax (dCons (dBin gIx (dCall 0 F_ticks_of (dCons (dVar 0) (dCons (dVar 1) (dCons (dVar 2) dNil)))) (dUn gNeg (dC (.int 1)))) dNil)))
@[irreducible] def F_finish_of : FF := dDef 3 3 den_finish_of
end Pu
namespace Pu
open PySem L2
def den_needs_of : FS := (dSeq (dAsg (dVar 0) (gTp 3 (gsCons (gN 3) (gsCons (gN 4) (gsCons (gN 5) gsNil)))))
 (dSeq (dAsg (dBin gMul (dVar 3) (dB gLen (dCons (dVar 5) dNil))) (gN 6))
 (dRet (dB gTuple (dCons (dLc (st1 7) dYes (dB gMax (dCons (dC (.int 0)) (dCons (dUn gNeg (dBin gFdiv (dBin gSub (dBin gSub (dVar 2) (dVar 7)) (dVar 6)) (dBin gSub (dVar 3) (dVar 4)))) dNil))) (dItS (dVar 1))) dNil)))))
@[irreducible] def F_needs_of : FF := dDef 3 8 den_needs_of
end Pu
namespace Pu
open PySem L2
def den_greatest : FS := (dSeq (dAsg (dB gSorted (dCons (dLc (st2 3 4) dYes (dTup (dCons (dUn gNeg (dVar 4)) (dCons (dVar 3) dNil))) (dEn (dCons (dVar 0) dNil))) dNil)) (gN 2))
 (dRet (dB gTuple (dCons (dB gSorted (dCons (dLc (st2 4 3) dYes (dVar 3) (dItS (dSl (dVar 2) dNoP (dPart (dVar 1))))) dNil)) dNil))))
@[irreducible] def F_greatest : FF := dDef 2 5 den_greatest
def den_rule_plan : FS := (dSeq (dAsg (dSl (dVar 0) dNoP (dPart (dC (.int 2)))) (gTp 2 (gsCons (gN 2) (gsCons (gN 3) gsNil))))
 (dSeq (dAsg (dVar 1) (gN 4))
 (dSeq (dAsg (dLstC dNil) (gN 5))
 (dSeq (dFor (dItS (dCallW F_counts_of (dCons (dVar 0) dNil))) (gN 6)
 (dSeq (dAsg (dCallW F_greatest (dCons (dVar 4) (dCons (dVar 6) dNil))) (gN 7))
 (dSeq (dAsg (dLc (st2 8 9) dYes (dBin gAdd (dVar 9) (dIf (dTest (dBin (gIn false) (dVar 8) (dVar 7))) (dVar 3) (dVar 2))) (dEn (dCons (dVar 4) dNil))) (gN 4))
 (dDrop (dML gAppend (dVar 5) (dCons (dVar 7) dNil))))))
 (dRet (dB gTuple (dCons (dVar 5) dNil)))))))
@[irreducible] def F_rule_plan : FF := dDefC 2 10 den_rule_plan
end Pu
namespace Pu
open PySem L2
def den_least_finish : FS := (dRet (dCallW F_finish_of (dCons (dVar 0) (dCons (dVar 1) (dCons (dCall 0 F_rule_plan (dCons (dVar 0) (dCons (dVar 1) dNil))) dNil)))))
@[irreducible] def F_least_finish : FF := dDef 2 2 den_least_finish
end Pu
namespace Pu
open PySem L2
def den_is_starts : FS := (dSeq (dIfS (dOr (dNot (dTest (dUn (gIsi .tup) (dVar 0)))) (dNot (dTest (dChain gLe gLe (dC (.int 1)) (dB gLen (dCons (dVar 0) dNil)) (dC (.int 10))))))
 (dRet (dC (.bl false)))
 dSkip)
 (dSeq (dFor (dItS (dVar 0)) (gN 1)
 (dIfS (dNot (dTest (dCallW F_is_number_from (dCons (dVar 1) (dCons (dC (.int 0)) (dCons (dC (.int 1000000)) dNil))))))
 (dRet (dC (.bl false)))
 dSkip))
 (dRet (dC (.bl true)))))
@[irreducible] def F_is_starts : FF := dDef 1 2 den_is_starts
end Pu
namespace Pu
open PySem L2
def den_with_further : FS := (dSeq (dAsg (dVar 0) (gTp 3 (gsCons (gN 3) (gsCons (gN 4) (gsCons (gN 5) gsNil)))))
 (dRet (dTup (dCons (dVar 3) (dCons (dVar 4) (dCons (dBin gAdd (dBin gAdd (dSl (dVar 5) dNoP (dPart (dVar 1))) (dTup (dCons (dBin gAdd (dBin gIx (dVar 5) (dVar 1)) (dVar 2)) dNil))) (dSl (dVar 5) (dPart (dBin gAdd (dVar 1) (dC (.int 1)))) dNoP)) dNil))))))
@[irreducible] def F_with_further : FF := dDef 3 6 den_with_further
end Pu
namespace Pu
open PySem L2
def den_Trip_road : FS := (dRet (dBin gIx (dBin gIx (dFld ["Trip"] "versions" (dVar 0)) (dUn gNeg (dC (.int 1)))) (dC (.int 0))))
@[irreducible] def F_Trip_road : FF := dDef 1 1 den_Trip_road
def den_Trip_starts : FS := (dRet (dBin gIx (dBin gIx (dFld ["Trip"] "versions" (dVar 0)) (dUn gNeg (dC (.int 1)))) (dC (.int 1))))
@[irreducible] def F_Trip_starts : FF := dDef 1 1 den_Trip_starts
def den_Trip_finish : FS := (dRet (dBin gIx (dBin gIx (dFld ["Trip"] "versions" (dVar 0)) (dUn gNeg (dC (.int 1)))) (dC (.int 2))))
@[irreducible] def F_Trip_finish : FF := dDef 1 1 den_Trip_finish
def den_road_error_2 : FS := (dSeq (dIfS (dOr (dNot (dTest (dUn (gIsi .tup) (dVar 0)))) (dTest (dBin iNe (dB gLen (dCons (dVar 0) dNil)) (dC (.int 3)))))
 (dRet (dTup (dCons (dC .non) (dCons (dC (.str "road")) dNil))))
 dSkip)
 (dSeq (dAsg (dVar 0) (gTp 3 (gsCons (gN 1) (gsCons (gN 2) (gsCons (gN 3) gsNil)))))
 (dSeq (dIfS (dOr (dNot (dTest (dCallW F_is_number_from (dCons (dVar 1) (dCons (dC (.int 1)) (dCons (dC (.int 1000)) dNil)))))) (dNot (dTest (dCallW F_is_number_from (dCons (dVar 2) (dCons (dC (.int 1)) (dCons (dBin gSub (dVar 1) (dC (.int 1))) dNil)))))))
 (dRet (dTup (dCons (dC .non) (dCons (dC (.str "ticks")) dNil))))
 dSkip)
 (dSeq (dIfS (dOr (dNot (dTest (dUn (gIsi .tup) (dVar 3)))) (dNot (dTest (dChain gLe gLe (dC (.int 1)) (dB gLen (dCons (dVar 3) dNil)) (dC (.int 12))))))
 (dRet (dTup (dCons (dC .non) (dCons (dC (.str "bikes")) dNil))))
 dSkip)
 (dSeq (dFor (dEnT (dCons (dVar 3) dNil)) (gTp 2 (gsCons (gN 4) (gsCons (gN 5) gsNil)))
 (dIfS (dNot (dTest (dCallW F_is_number_from (dCons (dVar 5) (dCons (dC (.int 0)) (dCons (dC (.int 12)) dNil))))))
 (dRet (dTup (dCons (dVar 4) (dCons (dC (.str "bikes")) dNil))))
 dSkip))
 (dRet (dC .non)))))))
@[irreducible] def F_road_error_2 : FF := dDef 1 6 den_road_error_2
def den_with_person : FS := (dSeq (dIfS (dNot (dTest (dCallW F_is_number_from (dCons (dVar 1) (dCons (dC (.int 0)) (dCons (dC (.int 1000000)) dNil))))))
 (dRaise "BadStart" "value" (dVar 1))
 dSkip)
 (dSeq (dIfS (dTest (dBin gGe (dB gLen (dCons (dVar 0) dNil)) (dC (.int 10))))
 (dRaise0 "TooManyPeople")
 dSkip)
 (dRet (dBin gAdd (dVar 0) (dTup (dCons (dVar 1) dNil))))))
@[irreducible] def F_with_person : FF := dDefX 2 2 den_with_person
def den_without_person : FS := (dSeq (dIfS (dNot (dTest (dCallW F_is_number_from (dCons (dVar 1) (dCons (dC (.int 0)) (dCons (dBin gSub (dB gLen (dCons (dVar 0) dNil)) (dC (.int 1))) dNil))))))
 (dRaise "NoPerson" "value" (dVar 1))
 dSkip)
 (dSeq (dIfS (dTest (dBin iEq (dB gLen (dCons (dVar 0) dNil)) (dC (.int 1))))
 (dRaise0 "LastPerson")
 dSkip)
 (dRet (dBin gAdd (dSl (dVar 0) dNoP (dPart (dVar 1))) (dSl (dVar 0) (dPart (dBin gAdd (dVar 1) (dC (.int 1)))) dNoP)))))
@[irreducible] def F_without_person : FF := dDefX 2 2 den_without_person
def den_check_bikes : FS := (dSeq (dIfS (dNot (dTest (dCallW F_is_number_from (dCons (dVar 1) (dCons (dC (.int 0)) (dCons (dBin gSub (dB gLen (dCons (dBin gIx (dVar 0) (dC (.int 2))) dNil)) (dC (.int 1))) dNil))))))
 (dRaise "NoStation" "value" (dVar 1))
 dSkip)
 (dIfS (dNot (dTest (dCallW F_is_number_from (dCons (dVar 2) (dCons (dC (.int 1)) (dCons (dC (.int 12)) dNil))))))
 (dRaise "BadCount" "value" (dVar 2))
 dSkip))
@[irreducible] def F_check_bikes : FF := dDefX 3 3 den_check_bikes
def den_with_more_bikes : FS := (dSeq (dDrop (dCallW F_check_bikes (dCons (dVar 0) (dCons (dVar 1) (dCons (dVar 2) dNil)))))
 (dSeq (dAsg (dBin gAdd (dBin gIx (dBin gIx (dVar 0) (dC (.int 2))) (dVar 1)) (dVar 2)) (gN 3))
 (dSeq (dIfS (dTest (dBin gGt (dVar 3) (dC (.int 12))))
 (dRaise "TooMuch" "total" (dVar 3))
 dSkip)
 (dRet (dCallW F_with_further (dCons (dVar 0) (dCons (dVar 1) (dCons (dVar 2) dNil))))))))
@[irreducible] def F_with_more_bikes : FF := dDefX 3 4 den_with_more_bikes
def den_with_fewer_bikes : FS := (dSeq (dDrop (dCallW F_check_bikes (dCons (dVar 0) (dCons (dVar 1) (dCons (dVar 2) dNil)))))
 (dSeq (dAsg (dBin gIx (dBin gIx (dVar 0) (dC (.int 2))) (dVar 1)) (gN 3))
 (dSeq (dIfS (dTest (dBin gLt (dVar 3) (dVar 2)))
 (dRaise "TooFew" "present" (dVar 3))
 dSkip)
 (dRet (dCallW F_with_further (dCons (dVar 0) (dCons (dVar 1) (dCons (dUn gNeg (dVar 2)) dNil))))))))
@[irreducible] def F_with_fewer_bikes : FF := dDefX 3 4 den_with_fewer_bikes
def den_changed : FS := (dSeq (dAsg (dBin gIx (dVar 2) (dC (.int 0))) (gN 3))
 (dSeq (dIfS (dTest (dBin iEq (dVar 3) (dC (.str "come"))))
 (dRet (dTup (dCons (dVar 0) (dCons (dCallW F_with_person (dCons (dVar 1) (dCons (dBin gIx (dVar 2) (dC (.int 1))) dNil))) dNil))))
 dSkip)
 (dSeq (dIfS (dTest (dBin iEq (dVar 3) (dC (.str "leave"))))
 (dRet (dTup (dCons (dVar 0) (dCons (dCallW F_without_person (dCons (dVar 1) (dCons (dBin gIx (dVar 2) (dC (.int 1))) dNil))) dNil))))
 dSkip)
 (dSeq (dIfS (dTest (dBin iEq (dVar 3) (dC (.str "place"))))
 (dRet (dTup (dCons (dCallW F_with_more_bikes (dCons (dVar 0) (dCons (dBin gIx (dVar 2) (dC (.int 1))) (dCons (dBin gIx (dVar 2) (dC (.int 2))) dNil)))) (dCons (dVar 1) dNil))))
 dSkip)
 (dRet (dTup (dCons (dCallW F_with_fewer_bikes (dCons (dVar 0) (dCons (dBin gIx (dVar 2) (dC (.int 1))) (dCons (dBin gIx (dVar 2) (dC (.int 2))) dNil)))) (dCons (dVar 1) dNil))))))))
@[irreducible] def F_changed : FF := dDefX 3 4 den_changed
end Pu
namespace Pu
open PySem L2
def den_Promise_latest_2 : FS := (dRet (dFld ["Promise", "PromisedTrip"] "promised" (dVar 0)))
@[irreducible] def F_Promise_latest_2 : FF := dDef 1 1 den_Promise_latest_2
def den_Trip_road_2 : FS := (dRet (dBin gIx (dBin gIx (dFld ["Trip", "PromisedTrip"] "versions" (dVar 0)) (dUn gNeg (dC (.int 1)))) (dC (.int 0))))
@[irreducible] def F_Trip_road_2 : FF := dDef 1 1 den_Trip_road_2
def den_Trip_starts_2 : FS := (dRet (dBin gIx (dBin gIx (dFld ["Trip", "PromisedTrip"] "versions" (dVar 0)) (dUn gNeg (dC (.int 1)))) (dC (.int 1))))
@[irreducible] def F_Trip_starts_2 : FF := dDef 1 1 den_Trip_starts_2
def den_Trip_finish_2 : FS := (dRet (dBin gIx (dBin gIx (dFld ["Trip", "PromisedTrip"] "versions" (dVar 0)) (dUn gNeg (dC (.int 1)))) (dC (.int 2))))
@[irreducible] def F_Trip_finish_2 : FF := dDef 1 1 den_Trip_finish_2
def den_Trip_len : FS := (dRet (dB gLen (dCons (dFld ["Trip", "PromisedTrip"] "done" (dVar 0)) dNil)))
@[irreducible] def F_Trip_len : FF := dDef 1 1 den_Trip_len
def den_Trip_check_not_watched_2 : FS := (dIfS (dTest (dFld ["Trip", "PromisedTrip"] "watched" (dVar 0)))
 (dRaise0 "Busy")
 dSkip)
@[irreducible] def F_Trip_check_not_watched_2 : FF := dDefX 1 1 den_Trip_check_not_watched_2
def den_Trip_state : FS := (dSeq (dIfS (dTest (dBin (gIs false) (dVar 1) (dC .non)))
 (dRet (dTup (dCons (dProp [("Trip", F_Trip_road_2), ("PromisedTrip", F_Trip_road_2)] (dVar 0)) (dCons (dProp [("Trip", F_Trip_starts_2), ("PromisedTrip", F_Trip_starts_2)] (dVar 0)) dNil))))
 dSkip)
 (dSeq (dIfS (dNot (dTest (dCallW F_is_number_from (dCons (dVar 1) (dCons (dC (.int 0)) (dCons (dB gLen (dCons (dFld ["Trip", "PromisedTrip"] "done" (dVar 0)) dNil)) dNil))))))
 (dRaise "NoVersion" "value" (dVar 1))
 dSkip)
 (dRet (dSl (dBin gIx (dFld ["Trip", "PromisedTrip"] "versions" (dVar 0)) (dVar 1)) dNoP (dPart (dC (.int 2)))))))
@[irreducible] def F_Trip_state : FF := dDefX 2 2 den_Trip_state
def den_Trip_init_2 : FS := (dSeq (dAsg (dCallW F_road_error_2 (dCons (dVar 1) dNil)) (gN 3))
 (dSeq (dIfS (dTest (dBin (gIs true) (dVar 3) (dC .non)))
 (dRaise "BadRoad" "error" (dVar 3))
 dSkip)
 (dSeq (dIfS (dNot (dTest (dCallW F_is_starts (dCons (dVar 2) dNil))))
 (dRaise "BadStarts" "value" (dVar 2))
 dSkip)
 (dSeq (dStF ["Trip", "PromisedTrip"] "done" (dVar 0) (dTup dNil))
 (dSeq (dStF ["Trip", "PromisedTrip"] "versions" (dVar 0) (dTup (dCons (dTup (dCons (dVar 1) (dCons (dVar 2) (dCons (dCallW F_least_finish (dCons (dVar 1) (dCons (dVar 2) dNil))) dNil)))) dNil)))
 (dStF ["Trip", "PromisedTrip"] "watched" (dVar 0) (dC (.bl false))))))))
@[irreducible] def F_Trip_init_2 : FF := dDefX 3 4 den_Trip_init_2
def den_Trip_do_edit_2 : FS := (dSeq (dDrop (dMeth [("Trip", F_Trip_check_not_watched_2), ("PromisedTrip", F_Trip_check_not_watched_2)] "check_not_watched" (dVar 0) dNil))
 (dSeq (dIfS (dTest (dBin gGe (dB gLen (dCons (dFld ["Trip", "PromisedTrip"] "done" (dVar 0)) dNil)) (dCon ["Trip", "PromisedTrip"] "MOST_EDITS" (.int 60) (dVar 0))))
 (dRaise0 "TooManyEdits")
 dSkip)
 (dSeq (dAsg (dCallW F_changed (dCons (dProp [("Trip", F_Trip_road_2), ("PromisedTrip", F_Trip_road_2)] (dVar 0)) (dCons (dProp [("Trip", F_Trip_starts_2), ("PromisedTrip", F_Trip_starts_2)] (dVar 0)) (dCons (dVar 1) dNil)))) (gTp 2 (gsCons (gN 3) (gsCons (gN 4) gsNil))))
 (dSeq (dAsg (dCallW F_least_finish (dCons (dVar 3) (dCons (dVar 4) dNil))) (gN 5))
 (dSeq (dIfS (dAnd (dTest (dBin (gIs true) (dVar 2) (dC .non))) (dTest (dBin gGt (dVar 5) (dVar 2))))
 (dRaise "TooLate" "tick" (dVar 5))
 dSkip)
 (dSeq (dStF ["Trip", "PromisedTrip"] "done" (dVar 0) (dBin gAdd (dFld ["Trip", "PromisedTrip"] "done" (dVar 0)) (dTup (dCons (dVar 1) dNil))))
 (dSeq (dStF ["Trip", "PromisedTrip"] "versions" (dVar 0) (dBin gAdd (dFld ["Trip", "PromisedTrip"] "versions" (dVar 0)) (dTup (dCons (dTup (dCons (dVar 3) (dCons (dVar 4) (dCons (dVar 5) dNil)))) dNil))))
 (dRet (dB gLen (dCons (dFld ["Trip", "PromisedTrip"] "done" (dVar 0)) dNil))))))))))
@[irreducible] def F_Trip_do_edit_2 : FF := dDefX 3 6 den_Trip_do_edit_2
def den_Trip_come_2 : FS := (dRet (dMeth [("Trip", F_Trip_do_edit_2), ("PromisedTrip", F_Trip_do_edit_2)] "do_edit" (dVar 0) (dCons (dTup (dCons (dC (.str "come")) (dCons (dVar 1) dNil))) (dCons (dC .non) dNil))))
@[irreducible] def F_Trip_come_2 : FF := dDefX 2 2 den_Trip_come_2
def den_Trip_leave : FS := (dRet (dMeth [("Trip", F_Trip_do_edit_2), ("PromisedTrip", F_Trip_do_edit_2)] "do_edit" (dVar 0) (dCons (dTup (dCons (dC (.str "leave")) (dCons (dVar 1) dNil))) (dCons (dC .non) dNil))))
@[irreducible] def F_Trip_leave : FF := dDefX 2 2 den_Trip_leave
def den_Trip_place : FS := (dRet (dMeth [("Trip", F_Trip_do_edit_2), ("PromisedTrip", F_Trip_do_edit_2)] "do_edit" (dVar 0) (dCons (dTup (dCons (dC (.str "place")) (dCons (dVar 1) (dCons (dVar 2) dNil)))) (dCons (dC .non) dNil))))
@[irreducible] def F_Trip_place : FF := dDefX 3 3 den_Trip_place
def den_Trip_take : FS := (dRet (dMeth [("Trip", F_Trip_do_edit_2), ("PromisedTrip", F_Trip_do_edit_2)] "do_edit" (dVar 0) (dCons (dTup (dCons (dC (.str "take")) (dCons (dVar 1) (dCons (dVar 2) dNil)))) (dCons (dC .non) dNil))))
@[irreducible] def F_Trip_take : FF := dDefX 3 3 den_Trip_take
def den_PromisedTrip_come : FS := (dRet (dMeth [("PromisedTrip", F_Trip_do_edit_2)] "do_edit" (dVar 0) (dCons (dTup (dCons (dC (.str "come")) (dCons (dVar 1) dNil))) (dCons (dProp [("PromisedTrip", F_Promise_latest_2)] (dVar 0)) dNil))))
@[irreducible] def F_PromisedTrip_come : FF := dDefX 2 2 den_PromisedTrip_come
def den_PromisedTrip_leave : FS := (dRet (dMeth [("PromisedTrip", F_Trip_do_edit_2)] "do_edit" (dVar 0) (dCons (dTup (dCons (dC (.str "leave")) (dCons (dVar 1) dNil))) (dCons (dProp [("PromisedTrip", F_Promise_latest_2)] (dVar 0)) dNil))))
@[irreducible] def F_PromisedTrip_leave : FF := dDefX 2 2 den_PromisedTrip_leave
def den_PromisedTrip_place : FS := (dRet (dMeth [("PromisedTrip", F_Trip_do_edit_2)] "do_edit" (dVar 0) (dCons (dTup (dCons (dC (.str "place")) (dCons (dVar 1) (dCons (dVar 2) dNil)))) (dCons (dProp [("PromisedTrip", F_Promise_latest_2)] (dVar 0)) dNil))))
@[irreducible] def F_PromisedTrip_place : FF := dDefX 3 3 den_PromisedTrip_place
def den_PromisedTrip_take : FS := (dRet (dMeth [("PromisedTrip", F_Trip_do_edit_2)] "do_edit" (dVar 0) (dCons (dTup (dCons (dC (.str "take")) (dCons (dVar 1) (dCons (dVar 2) dNil)))) (dCons (dProp [("PromisedTrip", F_Promise_latest_2)] (dVar 0)) dNil))))
@[irreducible] def F_PromisedTrip_take : FF := dDefX 3 3 den_PromisedTrip_take
end Pu
namespace Pu
open PySem L2
def den_exclude : FS := (dRet (dBin gGt (dB gSum (dCons (dLc (st1 3) dYes (dBin gIx (dVar 1) (dVar 3)) (dItS (dVar 2))) dNil)) (dCallW F_room_of (dCons (dVar 0) (dCons (dB gLen (dCons (dVar 2) dNil)) dNil)))))
@[irreducible] def F_exclude : FF := dDef 3 4 den_exclude
def den_excluding_people : FS := (dSeq (dAsg (dLc (st1 3) dYes (dCallW F_greatest (dCons (dVar 1) (dCons (dVar 3) dNil))) (dRng2 (dCons (dC (.int 1)) (dCons (dBin gAdd (dB gLen (dCons (dVar 1) dNil)) (dC (.int 1))) dNil)))) (gN 2))
 (dRet (dBin gIx (dLc (st1 4) (dTest (dCallW F_exclude (dCons (dVar 0) (dCons (dVar 1) (dCons (dVar 4) dNil))))) (dVar 4) (dItS (dVar 2))) (dC (.int 0)))))
@[irreducible] def F_excluding_people : FF := dDef 2 5 den_excluding_people
def den_find_certificate : FS := (dSeq (dAsg (dCall 0 F_rule_plan (dCons (dVar 0) (dCons (dVar 1) dNil))) (gN 3))
 (dSeq (dIfS (dTest (dBin gLe (dCallW F_finish_of (dCons (dVar 0) (dCons (dVar 1) (dCons (dVar 3) dNil)))) (dVar 2)))
 (dRet (dTup (dCons (dC (.str "plan")) (dCons (dVar 3) dNil))))
 dSkip)
 (dRet (dTup (dCons (dC (.str "people")) (dCons (dCallW F_excluding_people (dCons (dVar 0) (dCons (dCallW F_needs_of (dCons (dVar 0) (dCons (dVar 1) (dCons (dVar 2) dNil)))) dNil))) dNil))))))
@[irreducible] def F_find_certificate : FF := dDef 3 4 den_find_certificate
end Pu
namespace Pu
open PySem L2
def den_Trip_undo : FS := (dSeq (dDrop (dMeth [("Trip", F_Trip_check_not_watched_2), ("PromisedTrip", F_Trip_check_not_watched_2)] "check_not_watched" (dVar 0) dNil))
 (dSeq (dIfS (dTest (dBin iEq (dB gLen (dCons (dFld ["Trip", "PromisedTrip"] "done" (dVar 0)) dNil)) (dC (.int 0))))
 (dRaise0 "NothingToUndo")
 dSkip)
 (dSeq (dStF ["Trip", "PromisedTrip"] "done" (dVar 0) (dSl (dFld ["Trip", "PromisedTrip"] "done" (dVar 0)) dNoP (dPart (dUn gNeg (dC (.int 1))))))
 (dSeq (dStF ["Trip", "PromisedTrip"] "versions" (dVar 0) (dSl (dFld ["Trip", "PromisedTrip"] "versions" (dVar 0)) dNoP (dPart (dUn gNeg (dC (.int 1))))))
 (dRet (dB gLen (dCons (dFld ["Trip", "PromisedTrip"] "done" (dVar 0)) dNil)))))))
@[irreducible] def F_Trip_undo : FF := dDefX 1 1 den_Trip_undo
end Pu
namespace Pu
open PySem L2
def den_Promise_latest : FS := (dRet (dFld ["Promise"] "promised" (dVar 0)))
@[irreducible] def F_Promise_latest : FF := dDef 1 1 den_Promise_latest
def den_is_end : FS := (dRet (dCallW F_is_number_from (dCons (dVar 0) (dCons (dC (.int 0)) (dCons (dC (.int 10000000)) dNil)))))
@[irreducible] def F_is_end : FF := dDef 1 1 den_is_end
end Pu
namespace Pu
open PySem L2
def den_Trip_certificate : FS := (dSeq (dAsg (dMethK [("Trip", F_Trip_state), ("PromisedTrip", F_Trip_state)] "state" (dVar 0) dNil (dVar 2)) (gTp 2 (gsCons (gN 3) (gsCons (gN 4) gsNil))))
 (dSeq (dIfS (dNot (dTest (dCallW F_is_end (dCons (dVar 1) dNil))))
 (dRaise "BadEnd" "value" (dVar 1))
 dSkip)
 (dRet (dCallW F_find_certificate (dCons (dVar 3) (dCons (dVar 4) (dCons (dVar 1) dNil)))))))
@[irreducible] def F_Trip_certificate : FF := dDefX 3 5 den_Trip_certificate
end Pu
namespace Pu
open PySem L2
def den_is_edit : FS := (dSeq (dIfS (dOr (dNot (dTest (dUn (gIsi .tup) (dVar 0)))) (dOr (dTest (dBin iEq (dB gLen (dCons (dVar 0) dNil)) (dC (.int 0)))) (dNot (dTest (dUn (gIsi .str) (dBin gIx (dVar 0) (dC (.int 0))))))))
 (dRet (dC (.bl false)))
 dSkip)
 (dRet (dBin iEq (dKGet [("come", 2), ("leave", 2), ("place", 3), ("take", 3)] (dBin gIx (dVar 0) (dC (.int 0)))) (dB gLen (dCons (dVar 0) dNil)))))
@[irreducible] def F_is_edit : FF := dDef 1 1 den_is_edit
def den_Trip_call_edit : FS := (dSeq (dAsg (dBin gIx (dVar 1) (dC (.int 0))) (gN 2))
 (dSeq (dIfS (dTest (dBin iEq (dVar 2) (dC (.str "come"))))
 (dRet (dMeth [("Trip", F_Trip_come_2), ("PromisedTrip", F_PromisedTrip_come)] "come" (dVar 0) (dCons (dBin gIx (dVar 1) (dC (.int 1))) dNil)))
 dSkip)
 (dSeq (dIfS (dTest (dBin iEq (dVar 2) (dC (.str "leave"))))
 (dRet (dMeth [("Trip", F_Trip_leave), ("PromisedTrip", F_PromisedTrip_leave)] "leave" (dVar 0) (dCons (dBin gIx (dVar 1) (dC (.int 1))) dNil)))
 dSkip)
 (dSeq (dIfS (dTest (dBin iEq (dVar 2) (dC (.str "place"))))
 (dRet (dMeth [("Trip", F_Trip_place), ("PromisedTrip", F_PromisedTrip_place)] "place" (dVar 0) (dCons (dBin gIx (dVar 1) (dC (.int 1))) (dCons (dBin gIx (dVar 1) (dC (.int 2))) dNil))))
 dSkip)
 (dRet (dMeth [("Trip", F_Trip_take), ("PromisedTrip", F_PromisedTrip_take)] "take" (dVar 0) (dCons (dBin gIx (dVar 1) (dC (.int 1))) (dCons (dBin gIx (dVar 1) (dC (.int 2))) dNil))))))))
@[irreducible] def F_Trip_call_edit : FF := dDefX 2 3 den_Trip_call_edit
end Pu
namespace Pu
open PySem L2
def den_Trip_goes_like : FS := (dRet (dAndV (dBin iEq (dProp [("Trip", F_Trip_road_2), ("PromisedTrip", F_Trip_road_2)] (dVar 0)) (dProp [("Trip", F_Trip_road_2), ("PromisedTrip", F_Trip_road_2)] (dVar 1))) (dBin iEq (dB gSortTI (dCons (dProp [("Trip", F_Trip_starts_2), ("PromisedTrip", F_Trip_starts_2)] (dVar 0)) dNil)) (dB gSortTI (dCons (dProp [("Trip", F_Trip_starts_2), ("PromisedTrip", F_Trip_starts_2)] (dVar 1)) dNil)))))
@[irreducible] def F_Trip_goes_like : FF := dDef 2 2 den_Trip_goes_like
def den_Trip_eq : FS := (dRet (dAndV (dIsC [("Trip", "Trip", true), ("PromisedTrip", "Trip", true)] "Trip" (dVar 1)) (dAndV (dNotV (dIsC [("Trip", "PromisedTrip", false), ("PromisedTrip", "PromisedTrip", true)] "PromisedTrip" (dVar 1))) (dMeth [("Trip", F_Trip_goes_like), ("PromisedTrip", F_Trip_goes_like)] "goes_like" (dVar 0) (dCons (dVar 1) dNil)))))
@[irreducible] def F_Trip_eq : FF := dDef 2 2 den_Trip_eq
def den_PromisedTrip_eq : FS := (dRet (dAndV (dIsC [("PromisedTrip", "PromisedTrip", true)] "PromisedTrip" (dVar 1)) (dAndV (dBin iEq (dProp [("PromisedTrip", F_Promise_latest_2)] (dVar 0)) (dProp [("PromisedTrip", F_Promise_latest_2)] (dVar 1))) (dMeth [("PromisedTrip", F_Trip_goes_like)] "goes_like" (dVar 0) (dCons (dVar 1) dNil)))))
@[irreducible] def F_PromisedTrip_eq : FF := dDef 2 2 den_PromisedTrip_eq
end Pu
namespace Pu
open PySem L2
def den_listed : FS := (dRet (dJoin (dC (.str ",")) (dLc (st1 1) dYes (dB gStr (dCons (dVar 1) dNil)) (dItS (dVar 0)))))
@[irreducible] def F_listed : FF := dDef 1 2 den_listed
def den_law_deck_2 : FS := (dRet (dLstC (dCons (dLcC (st1 1) dYes (dB gAbs (dCons (dVar 1) dNil)) (dItS (dSl (dVar 0) dNoP (dPart (dC (.int 60)))))) (dCons (dC (.int 0)) dNil))))
@[irreducible] def F_law_deck_2 : FF := dDef 1 2 den_law_deck_2
def den_law_draw_3 : FS := (dSeq (dAsg (dBin gAdd (dBin gIx (dVar 0) (dC (.int 1))) (dC (.int 1))) (gSetI (dVar 0) (dC (.int 1))))
 (dSeq (dAsg (dBin gMod (dBin gIx (dVar 0) (dC (.int 1))) (dB gMax (dCons (dC (.int 1)) (dCons (dB gLen (dCons (dBin gIx (dVar 0) (dC (.int 0))) dNil)) dNil)))) (gN 2))
 (dSeq (dAsg (dBin gIx (dBin gAdd (dBin gIx (dVar 0) (dC (.int 0))) (dLst (dCons (dC (.int 0)) dNil))) (dVar 2)) (gN 3))
 (dSeq (dIfS (dTest (dBin gGe (dVar 3) (dBin gPow (dC (.int 10)) (dC (.int 18)))))
 (dSeq (dAsg (dBin gFdiv (dVar 3) (dVar 1)) (gSetI (dBin gIx (dVar 0) (dC (.int 0))) (dVar 2)))
 (dRet (dBin gMod (dVar 3) (dVar 1))))
 dSkip)
 (dSeq (dAsg (dBin gMod (dBin gPow (dBin gAdd (dBin gAdd (dBin gMod (dVar 3) (dC (.int 2147483563))) (dBin gMul (dC (.int 104729)) (dBin gIx (dVar 0) (dC (.int 1))))) (dC (.int 7))) (dC (.int 4))) (dC (.int 2147483629))) (gN 4))
 (dRet (dBin gMod (dBin gAdd (dBin gFdiv (dVar 4) (dC (.int 8))) (dBin gMul (dC (.int 31)) (dBin gIx (dVar 0) (dC (.int 1))))) (dVar 1))))))))
@[irreducible] def F_law_draw_3 : FF := dDef 2 5 den_law_draw_3
def den_trip_text : FS := (dSeq (dAsg (dVar 0) (gTp 3 (gsCons (gN 2) (gsCons (gN 3) (gsCons (gN 4) gsNil)))))
 (dRet (dJs [(dFmt (dVar 2)), (dC (.str "/")), (dFmt (dVar 3)), (dC (.str " ")), (dFmt (dCallW F_listed (dCons (dVar 4) dNil))), (dC (.str " from ")), (dFmt (dCallW F_listed (dCons (dVar 1) dNil)))] Str.empty)))
@[irreducible] def F_trip_text : FF := dDef 2 5 den_trip_text
def den_law_state : FS := (dSeq (dAsg (dBin iEq (dCallW F_law_draw_3 (dCons (dVar 0) (dCons (dC (.int 3)) dNil))) (dC (.int 0))) (gN 3))
 (dSeq (dAsg (dBin gAdd (dC (.int 2)) (dCallW F_law_draw_3 (dCons (dVar 0) (dCons (dBin gIx (dLst (dCons (dC (.int 12)) (dCons (dC (.int 999)) dNil))) (dB gToInt (dCons (dVar 3) dNil))) dNil)))) (gN 4))
 (dSeq (dPar3 5 6 7 (dCons (dBin gAdd (dC (.int 1)) (dCallW F_law_draw_3 (dCons (dVar 0) (dCons (dBin gSub (dVar 4) (dC (.int 1))) dNil)))) (dCons (dLstC dNil) (dCons (dLstC dNil) dNil))))
 (dSeq (dFor (dRng1 (dCons (dBin gAdd (dC (.int 1)) (dCallW F_law_draw_3 (dCons (dVar 0) (dCons (dVar 1) dNil)))) dNil)) (gN 8)
 (dDrop (dML gAppend (dVar 6) (dCons (dBin gIx (dLst (dCons (dC (.int 0)) (dCons (dCallW F_law_draw_3 (dCons (dVar 0) (dCons (dC (.int 2)) dNil))) (dCons (dCallW F_law_draw_3 (dCons (dVar 0) (dCons (dC (.int 3)) dNil))) (dCons (dCallW F_law_draw_3 (dCons (dVar 0) (dCons (dC (.int 13)) dNil))) dNil))))) (dCallW F_law_draw_3 (dCons (dVar 0) (dCons (dC (.int 4)) dNil)))) dNil))))
 (dSeq (dFor (dRng1 (dCons (dBin gAdd (dC (.int 1)) (dCallW F_law_draw_3 (dCons (dVar 0) (dCons (dVar 2) dNil)))) dNil)) (gN 9)
 (dDrop (dML gAppend (dVar 7) (dCons (dCallW F_law_draw_3 (dCons (dVar 0) (dCons (dBin gIx (dLst (dCons (dC (.int 40)) (dCons (dBin gAdd (dBin gPow (dC (.int 10)) (dC (.int 6))) (dC (.int 1))) dNil))) (dB gToInt (dCons (dAndV (dVar 3) (dBin iEq (dCallW F_law_draw_3 (dCons (dVar 0) (dCons (dC (.int 2)) dNil))) (dC (.int 0)))) dNil))) dNil))) dNil))))
 (dRet (dTup (dCons (dTup (dCons (dVar 4) (dCons (dVar 5) (dCons (dB gTuple (dCons (dVar 6) dNil)) dNil)))) (dCons (dB gTuple (dCons (dVar 7) dNil)) dNil)))))))))
@[irreducible] def F_law_state : FF := dDefC 3 10 den_law_state
end Pu
namespace Pu
open PySem L2
def den_number_in : FS := (dSeq (dIfS (dOr (dNot (dTest (dMS0 gAscii (dVar 0)))) (dNot (dTest (dMS0 gDigit (dVar 0)))))
 (dRet (dC .non))
 dSkip)
 (dSeq (dIfS (dOr (dTest (dBin gGt (dB gLen (dCons (dVar 0) dNil)) (dB gLen (dCons (dB gStr (dCons (dVar 2) dNil)) dNil)))) (dAnd (dTest (dMS1 gStarts (dVar 0) (dC (.str "0")))) (dTest (dBin iNe (dVar 0) (dC (.str "0"))))))
 (dRet (dC .non))
 dSkip)
 (dSeq (dAsg (dB gIntS (dCons (dVar 0) dNil)) (gN 3))
 (dRet (dIf (dTest (dChain gLe gLe (dVar 1) (dVar 3) (dVar 2))) (dVar 3) (dC .non))))))
@[irreducible] def F_number_in : FF := dDef 3 4 den_number_in
def den_Shell_init : FS := (dStF ["Shell"] "trip" (dVar 0) (dVar 1))
@[irreducible] def F_Shell_init : FF := dDef 2 2 den_Shell_init
def den_command_in : FS := (dSeq (dIfS (dNot (dTest (dUn (gIsi .str) (dVar 0))))
 (dRet (dC .non))
 dSkip)
 (dSeq (dAsg (dMS1 gSplit (dVar 0) (dC (.str " "))) (gN 1))
 (dSeq (dAsg (dLc (st1 3) dYes (dCallW F_number_in (dCons (dVar 3) (dCons (dC (.int 0)) (dCons (dC (.int 99999999)) dNil)))) (dItS (dSl (dVar 1) (dPart (dC (.int 1))) dNoP))) (gN 2))
 (dRet (dIf (dTest (dBin gInN (dC .non) (dVar 2))) (dC .non) (dTup (dCons (dBin gIx (dVar 1) (dC (.int 0))) (dStar (dVar 2) dNil))))))))
@[irreducible] def F_command_in : FF := dDef 1 4 den_command_in
def den_riders_text : FS := (dRet (dJoin (dC (.str " ")) (dLc (st1 1) dYes (dIf (dTest (dVar 1)) (dCallW F_listed (dCons (dVar 1) dNil)) (dC (.str "-"))) (dItS (dVar 0)))))
@[irreducible] def F_riders_text : FF := dDef 1 2 den_riders_text
def den_Shell_answer : FS := (dSeq (dIfS (dTest (dCallW F_is_edit (dCons (dVar 1) dNil)))
 (dRet (dJs [(dC (.str "ok ")), (dFmt (dMeth [("Trip", F_Trip_call_edit), ("PromisedTrip", F_Trip_call_edit)] "call_edit" (dFld ["Shell"] "trip" (dVar 0)) (dCons (dVar 1) dNil)))] Str.empty))
 dSkip)
 (dSeq (dIfS (dTest (dBin iEq (dVar 1) (dTup (dCons (dC (.str "undo")) dNil))))
 (dRet (dJs [(dC (.str "ok ")), (dFmt (dMeth [("Trip", F_Trip_undo), ("PromisedTrip", F_Trip_undo)] "undo" (dFld ["Shell"] "trip" (dVar 0)) dNil))] Str.empty))
 dSkip)
 (dSeq (dIfS (dTest (dBin iEq (dVar 1) (dTup (dCons (dC (.str "trip")) dNil))))
 (dRet (dCallW F_trip_text (dCons (dProp [("Trip", F_Trip_road_2), ("PromisedTrip", F_Trip_road_2)] (dFld ["Shell"] "trip" (dVar 0))) (dCons (dProp [("Trip", F_Trip_starts_2), ("PromisedTrip", F_Trip_starts_2)] (dFld ["Shell"] "trip" (dVar 0))) dNil))))
 dSkip)
 (dSeq (dIfS (dTest (dBin iEq (dVar 1) (dTup (dCons (dC (.str "finish")) dNil))))
 (dRet (dB gStr (dCons (dProp [("Trip", F_Trip_finish_2), ("PromisedTrip", F_Trip_finish_2)] (dFld ["Shell"] "trip" (dVar 0))) dNil)))
 dSkip)
 (dSeq (dIfS (dTest (dBin iEq (dVar 1) (dTup (dCons (dC (.str "riders")) dNil))))
 (dRet (dCallW F_riders_text (dCons (dCall 0 F_rule_plan (dCons (dProp [("Trip", F_Trip_road_2), ("PromisedTrip", F_Trip_road_2)] (dFld ["Shell"] "trip" (dVar 0))) (dCons (dProp [("Trip", F_Trip_starts_2), ("PromisedTrip", F_Trip_starts_2)] (dFld ["Shell"] "trip" (dVar 0))) dNil))) dNil)))
 dSkip)
 (dSeq (dIfS (dAnd (dTest (dBin iEq (dBin gIx (dVar 1) (dC (.int 0))) (dC (.str "by")))) (dTest (dBin iEq (dB gLen (dCons (dVar 1) dNil)) (dC (.int 2)))))
 (dRet (dBin gIx (dMethN [("Trip", F_Trip_certificate), ("PromisedTrip", F_Trip_certificate)] "certificate" (dFld ["Shell"] "trip" (dVar 0)) (dCons (dBin gIx (dVar 1) (dC (.int 1))) dNil)) (dC (.int 0))))
 dSkip)
 (dRet dNevE)))))))
@[irreducible] def F_Shell_answer : FF := dDefX 2 2 den_Shell_answer
def den_Shell_execute : FS := (dSeq (dAsg (dCallW F_command_in (dCons (dVar 1) dNil)) (gN 2))
 (dSeq (dIfS (dTest (dBin (gIs false) (dVar 2) (dC .non)))
 (dRet dNevE)
 dSkip)
 (dTryN (dRet (dMeth [("Shell", F_Shell_answer)] "answer" (dVar 0) (dCons (dVar 2) dNil))))))
@[irreducible] def F_Shell_execute : FF := dDef 2 3 den_Shell_execute
end Pu
namespace Pu
open PySem L2
def den_law_odd_5 : FS := (dSeq (dAsg (dLst (dCons (dC .non) (dCons (dC (.bl true)) (dCons (dC (.bl false)) (dCons (dC (.int 0)) (dCons (dUn gNeg (dC (.int 1))) (dCons (dBin gPow (dC (.int 10)) (dC (.int 29))) (dCons (dTup dNil) (dCons (dLst dNil) (dCons (dC (.dic [])) (dCons (dTup (dCons (dC (.int 0)) (dCons (dC (.int 0)) dNil))) (dCons (dLst (dCons (dC (.str "3/1 0 from 5")) dNil)) (dCons (dTup (dCons (dTup (dCons (dC (.int 3)) (dCons (dC (.int 1)) (dCons (dTup (dCons (dC (.int 0)) dNil)) dNil)))) (dCons (dTup (dCons (dC (.int 5)) dNil)) dNil))) dNil))))))))))))) (gN 1))
 (dRet (dBin gIx (dVar 1) (dCallW F_law_draw_3 (dCons (dVar 0) (dCons (dC (.int 12)) dNil))))))
@[irreducible] def F_law_odd_5 : FF := dDef 1 2 den_law_odd_5
end Pu
namespace Pu
open PySem L2
def den_law_lines : FS := (dSeq (dAsg (dLst (dCons (dBin gAdd (dC (.str "come ")) (dVar 0)) (dCons (dBin gAdd (dC (.str "leave ")) (dVar 0)) (dCons (dBin gAdd (dC (.str "place 0 ")) (dVar 0)) (dCons (dBin gAdd (dC (.str "take 0 ")) (dVar 0)) (dCons (dBin gAdd (dC (.str "by ")) (dVar 0)) dNil)))))) (gN 1))
 (dSeq (dAsg (dBin gAdd (dVar 1) (dLst (dCons (dC (.str "undo")) (dCons (dC (.str "trip")) (dCons (dC (.str "finish")) (dCons (dC (.str "riders")) dNil)))))) (gN 1))
 (dSeq (dAsg (dLstC (dCons (dC (.str "")) (dCons (dC (.str " ")) (dCons (dC (.str "-")) (dCons (dC (.str "none")) (dCons (dC (.str "ok")) (dCons (dC (.str "error")) (dCons (dC (.str "help")) (dCons (dC (.str "edits")) (dCons (dC (.str "attempt")) (dCons (dC (.str "walk")) (dCons (dC (.str "unknown command")) (dCons (dVar 0) dNil))))))))))))) (gN 2))
 (dSeq (dFor (dItS (dVar 1)) (gN 3)
 (dSeq (dAsg (dBin gAddC (dVar 2) (dLst (dCons (dBin gAdd (dVar 3) (dC (.str " "))) (dCons (dBin gAdd (dC (.str " ")) (dVar 3)) (dCons (dBin gAdd (dVar 3) (dC (.str " x"))) (dCons (dBin gAdd (dVar 3) (dC (.str "
"))) (dCons (dBin gAdd (dMS0 gUpper (dVar 3)) (dC (.str ","))) dNil))))))) (gN 2))
 (dSeq (dAsg (dBin gAddC (dVar 2) (dLst (dCons (dBin gAdd (dVar 3) (dC (.str ","))) (dCons (dBin gAdd (dVar 3) (dC (.str " 0 0"))) dNil)))) (gN 2))
 (dDrop (dML gAppend (dVar 2) (dCons (dBin gAdd (dRepl " " "  " 1 (dVar 3)) (dBin gMulT (dC (.str " ")) (dB gToInt (dCons (dBin gNotInT (dC (.str " ")) (dVar 3)) dNil)))) dNil))))))
 (dSeq (dAsg (dLst (dCons (dC (.str "00")) (dCons (dC (.str "01")) (dCons (dC (.str "-0")) (dCons (dC (.str "-1")) (dCons (dC (.str "+1")) (dCons (dC (.str "1_0")) (dCons (dC (.str "_1")) (dCons (dC (.str "1_")) (dCons (dC (.str "-")) (dCons (dBin gMulT (dC (.str "1")) (dC (.int 9))) (dCons (dC (.str "0.5")) (dCons (dC (.str "none")) (dCons (dC (.str "1e1")) (dCons (dC (.str "0,1")) (dCons (dC (.str "3/1")) (dCons (dC (.str "")) dNil))))))))))))))))) (gN 4))
 (dSeq (dFor (dItS (dVar 4)) (gN 5)
 (dSeq (dAsg (dBin gAddC (dVar 2) (dLst (dCons (dBin gAdd (dC (.str "come ")) (dVar 5)) (dCons (dBin gAdd (dC (.str "leave ")) (dVar 5)) (dCons (dBin gAdd (dC (.str "by ")) (dVar 5)) (dCons (dBin gAdd (dC (.str "place 0 ")) (dVar 5)) (dCons (dBin gAdd (dBin gAdd (dC (.str "place ")) (dVar 5)) (dC (.str " 1"))) dNil))))))) (gN 2))
 (dAsg (dBin gAddC (dVar 2) (dLst (dCons (dBin gAdd (dC (.str "take 0 ")) (dVar 5)) (dCons (dBin gAdd (dBin gAdd (dC (.str "take ")) (dVar 5)) (dC (.str " 1"))) dNil)))) (gN 2))))
 (dSeq (dAsg (dBin gAddC (dVar 2) (dLst (dCons (dC (.str "come")) (dCons (dC (.str "come 0 0")) (dCons (dC (.str "come 0,1")) (dCons (dC (.str "leave")) (dCons (dC (.str "leave 0 0")) (dCons (dC (.str "leave 0 0 0")) (dCons (dC (.str "by")) (dCons (dC (.str "by 0 0")) (dCons (dC (.str "by 0 0 0")) dNil))))))))))) (gN 2))
 (dSeq (dAsg (dBin gAddC (dVar 2) (dLst (dCons (dC (.str "place")) (dCons (dC (.str "place 0")) (dCons (dC (.str "place 0 1 1")) (dCons (dC (.str "place 0,1")) (dCons (dC (.str "take")) (dCons (dC (.str "take 0")) (dCons (dC (.str "take 0 1 1")) (dCons (dC (.str "take 0/1")) dNil)))))))))) (gN 2))
 (dSeq (dAsg (dBin gAddC (dVar 2) (dLst (dCons (dC (.str "undo 1")) (dCons (dC (.str "undo 0 0")) (dCons (dC (.str "trip 0")) (dCons (dC (.str "trip 0 0")) (dCons (dC (.str "finish 0")) (dCons (dC (.str "finish 0 0")) (dCons (dC (.str "riders 0")) (dCons (dC (.str "riders 0 0")) dNil)))))))))) (gN 2))
 (dSeq (dAsg (dBin gAddC (dVar 2) (dLst (dCons (dC (.str "Undo")) (dCons (dC (.str "undo.")) (dCons (dC (.str "comes 1")) (dCons (dC (.str "left 5")) (dCons (dC (.str "latest")) (dCons (dC (.str "starts")) (dCons (dC (.str "road")) (dCons (dC (.str "read 3/1 0 from 5")) (dCons (dC (.str "by5")) dNil))))))))))) (gN 2))
 (dRet (dBin gAdd (dVar 2) (dLst (dCons (dC (.str "3/1 0 from 5")) (dCons (dC (.str "finish?")) (dCons (dC (.str "come0")) (dCons (dC (.str "riders 0 0 0")) (dCons (dC (.str "from")) (dCons (dC (.str "by 1 2")) (dCons (dC (.str "place 0 1 x")) (dCons (dC (.str "state")) dNil)))))))))))))))))))))
@[irreducible] def F_law_lines : FF := dDefC 1 6 den_law_lines
def den_Shell_answer_3 : FS := (dSeq (dIfS (dTest (dCallW F_is_edit (dCons (dVar 1) dNil)))
 (dRet dNevE)
 dSkip)
 (dSeq (dIfS (dTest (dBin iEq (dVar 1) (dTup (dCons (dC (.str "undo")) dNil))))
 (dRet dNevE)
 dSkip)
 (dSeq (dIfS (dTest (dBin iEq (dVar 1) (dTup (dCons (dC (.str "trip")) dNil))))
 (dRet dNevE)
 dSkip)
 (dSeq (dIfS (dTest (dBin iEq (dVar 1) (dTup (dCons (dC (.str "finish")) dNil))))
 (dRet dNevE)
 dSkip)
 (dSeq (dIfS (dTest (dBin iEq (dVar 1) (dTup (dCons (dC (.str "riders")) dNil))))
 (dRet dNevE)
 dSkip)
 (dSeq (dIfS (dAnd (dTest (dBin iEq (dBin gIx (dVar 1) (dC (.int 0))) (dC (.str "by")))) (dTest (dBin iEq (dB gLen (dCons (dVar 1) dNil)) (dC (.int 2)))))
 (dRet dNevE)
 dSkip)
 (dRet (dC (.str "unknown command")))))))))
@[irreducible] def F_Shell_answer_3 : FF := dDef 2 2 den_Shell_answer_3
def den_Shell_execute_4 : FS := (dSeq (dAsg (dCallW F_command_in (dCons (dVar 1) dNil)) (gN 2))
 (dSeq (dIfS (dTest (dBin (gIs false) (dVar 2) (dC .non)))
 (dRet (dC (.str "unknown command")))
 dSkip)
 (dTryN (dRet (dMeth [("Shell", F_Shell_answer_3)] "answer" (dVar 0) (dCons (dVar 2) dNil))))))
@[irreducible] def F_Shell_execute_4 : FF := dDef 2 3 den_Shell_execute_4
def den_law_k61 : FS := (dSeq (dAsg (dCallW F_law_deck_2 (dCons (dVar 0) dNil)) (gN 1))
 (dSeq (dAsg (dCall 2 F_law_state (dCons (dVar 1) (dCons (dC (.int 12)) (dCons (dC (.int 10)) dNil)))) (gTp 2 (gsCons (gN 2) (gsCons (gN 3) gsNil))))
 (dSeq (dPar 4 5 (dCons (dMake "Trip" F_Trip_init_2 (dCons (dVar 2) (dCons (dVar 3) dNil))) (dCons (dMake "Trip" F_Trip_init_2 (dCons (dVar 2) (dCons (dVar 3) dNil))) dNil)))
 (dSeq (dAsg (dMake "Shell" F_Shell_init (dCons (dVar 4) dNil)) (gN 6))
 (dSeq (dAsg (dBin gAdd (dCall 0 F_law_lines (dCons (dB gStr (dCons (dCallW F_law_draw_3 (dCons (dVar 1) (dCons (dC (.int 30)) dNil))) dNil)) dNil)) (dLst (dCons (dCallW F_law_odd_5 (dCons (dVar 1) dNil)) (dCons (dC .non) (dCons (dC (.int 5)) (dCons (dC (.bl true)) (dCons (dLst (dCons (dC (.str "undo")) dNil)) (dCons (dTup (dCons (dC (.str "undo")) dNil)) (dCons (dBin gPow (dC (.int 10)) (dC (.int 29))) dNil))))))))) (gN 7))
 (dSeq (dFor (dItS (dVar 7)) (gN 8)
 (dIfS (dOr (dTest (dBin iNe (dMeth [("Shell", F_Shell_execute_4)] "execute" (dVar 6) (dCons (dVar 8) dNil)) (dC (.str "unknown command")))) (dTest (dBin iNe (dB (gLenO [("Trip", F_Trip_len), ("PromisedTrip", F_Trip_len)]) (dCons (dVar 4) dNil)) (dC (.int 0)))))
 (dRet (dC (.bl false)))
 dSkip))
 (dRet (dAndV (dBin (gEqO [("Trip", F_Trip_eq), ("PromisedTrip", F_PromisedTrip_eq)]) (dVar 4) (dVar 5)) (dBin iEq (dLst (dCons (dProp [("Trip", F_Trip_road_2), ("PromisedTrip", F_Trip_road_2)] (dVar 4)) (dCons (dProp [("Trip", F_Trip_starts_2), ("PromisedTrip", F_Trip_starts_2)] (dVar 4)) dNil))) (dLst (dCons (dVar 2) (dCons (dVar 3) dNil))))))))))))
@[irreducible] def F_law_k61 : FF := dDef 1 9 den_law_k61
end Pu
namespace Pu
open PySem PySem.Spec PyProof.Rows L2
def topS (i : Nat) : Stmt := PySem.Challenge.pw_roadbikes_k61_unknown_commands.main.body.getD i (.Pass ⟨0, 0, 0, 0⟩)
abbrev s_is_number_from : Stmt := topS 8
abbrev s_is_starts : Stmt := topS 10
abbrev s_road_error : Stmt := topS 34
abbrev s_counts_of : Stmt := topS 35
abbrev s_is_edit : Stmt := topS 40
abbrev s_ticks_of : Stmt := topS 49
abbrev s_bike_ticks : Stmt := topS 50
abbrev s_leaving_ticks : Stmt := topS 51
abbrev s_finish_of : Stmt := topS 52
abbrev s_rule_plan : Stmt := topS 54
abbrev s_greatest : Stmt := topS 55
abbrev s_least_finish : Stmt := topS 56
abbrev s_number_in : Stmt := topS 69
abbrev s_command_in : Stmt := topS 74
abbrev s__law_deck : Stmt := topS 82
abbrev s__law_draw : Stmt := topS 83
abbrev s__law_state : Stmt := topS 84
abbrev s__law_odd : Stmt := topS 85
abbrev s__law_lines : Stmt := topS 86
abbrev s_Shell___init__ : Stmt := inClass (topS 73) 0
abbrev s_Shell_execute : Stmt := inClass (topS 73) 1
abbrev s_Shell_answer : Stmt := inClass (topS 73) 2
abbrev s_Promise_latest : Stmt := inClass (topS 77) 1
abbrev s_Trip___init__ : Stmt := inClass (topS 79) 1
abbrev s_Trip_road : Stmt := inClass (topS 79) 2
abbrev s_Trip_starts : Stmt := inClass (topS 79) 3
abbrev s_Trip___len__ : Stmt := inClass (topS 79) 21
abbrev s_Trip___eq__ : Stmt := inClass (topS 79) 23
abbrev s_Trip_goes_like : Stmt := inClass (topS 79) 24
abbrev s_PromisedTrip___eq__ : Stmt := inClass (topS 80) 5
abbrev s_law : Stmt := topS 87
abbrev si_BadRoad : Stmt := inClass (topS 16) 0
abbrev si_BadStarts : Stmt := inClass (topS 13) 0
abbrev N_is_number_from : List Str := ["value", "least", "most"]
theorem sc_is_number_from : FnScope N_is_number_from ["value", "least", "most"] (defScope s_is_number_from) := ⟨rfl, rfl, rfl, by decide +kernel, rfl, by decide +kernel, by decide +kernel⟩
abbrev N_is_starts : List Str := ["value", "start"]
theorem sc_is_starts : FnScope N_is_starts ["value"] (defScope s_is_starts) := ⟨rfl, rfl, rfl, by decide +kernel, rfl, by decide +kernel, by decide +kernel⟩
abbrev N_road_error : List Str := ["value", "walk", "ride", "bikes", "index", "count"]
theorem sc_road_error : FnScope N_road_error ["value"] (defScope s_road_error) := ⟨rfl, rfl, rfl, by decide +kernel, rfl, by decide +kernel, by decide +kernel⟩
abbrev N_counts_of : List Str := ["road", "bikes", "stage"]
theorem sc_counts_of : FnScope N_counts_of ["road"] (defScope s_counts_of) := ⟨rfl, rfl, rfl, by decide +kernel, rfl, by decide +kernel, by decide +kernel⟩
abbrev N_is_edit : List Str := ["value"]
theorem sc_is_edit : FnScope N_is_edit ["value"] (defScope s_is_edit) := ⟨rfl, rfl, rfl, by decide +kernel, rfl, by decide +kernel, by decide +kernel⟩
abbrev N_ticks_of : List Str := ["road", "starts", "plan", "walk", "ride", "bikes", "rows", "brought", "riders", "standing", "ticks", "leaving", "person", "tick"]
theorem sc_ticks_of : FnScope N_ticks_of ["road", "starts", "plan"] (defScope s_ticks_of) := ⟨rfl, rfl, rfl, by decide +kernel, rfl, by decide +kernel, by decide +kernel⟩
abbrev N_bike_ticks : List Str := ["ticks", "brought", "standing", "person"]
theorem sc_bike_ticks : FnScope N_bike_ticks ["ticks", "brought", "standing"] (defScope s_bike_ticks) := ⟨rfl, rfl, rfl, by decide +kernel, rfl, by decide +kernel, by decide +kernel⟩
abbrev N_leaving_ticks : List Str := ["ticks", "riders", "bikes", "leaving", "queue", "tick", "person", "bike"]
theorem sc_leaving_ticks : FnScope N_leaving_ticks ["ticks", "riders", "bikes"] (defScope s_leaving_ticks) := ⟨rfl, rfl, rfl, by decide +kernel, rfl, by decide +kernel, by decide +kernel⟩
abbrev N_finish_of : List Str := ["road", "starts", "plan"]
theorem sc_finish_of : FnScope N_finish_of ["road", "starts", "plan"] (defScope s_finish_of) := ⟨rfl, rfl, rfl, by decide +kernel, rfl, by decide +kernel, by decide +kernel⟩
abbrev N_rule_plan : List Str := ["road", "starts", "walk", "ride", "ticks", "plan", "count", "riders", "person", "tick"]
theorem sc_rule_plan : FnScope N_rule_plan ["road", "starts"] (defScope s_rule_plan) := ⟨rfl, rfl, rfl, by decide +kernel, rfl, by decide +kernel, by decide +kernel⟩
abbrev N_greatest : List Str := ["numbers", "many", "order", "person", "number"]
theorem sc_greatest : FnScope N_greatest ["numbers", "many"] (defScope s_greatest) := ⟨rfl, rfl, rfl, by decide +kernel, rfl, by decide +kernel, by decide +kernel⟩
abbrev N_least_finish : List Str := ["road", "starts"]
theorem sc_least_finish : FnScope N_least_finish ["road", "starts"] (defScope s_least_finish) := ⟨rfl, rfl, rfl, by decide +kernel, rfl, by decide +kernel, by decide +kernel⟩
abbrev N_number_in : List Str := ["text", "least", "most", "number"]
theorem sc_number_in : FnScope N_number_in ["text", "least", "most"] (defScope s_number_in) := ⟨rfl, rfl, rfl, by decide +kernel, rfl, by decide +kernel, by decide +kernel⟩
abbrev N_command_in : List Str := ["line", "words", "numbers", "word"]
theorem sc_command_in : FnScope N_command_in ["line"] (defScope s_command_in) := ⟨rfl, rfl, rfl, by decide +kernel, rfl, by decide +kernel, by decide +kernel⟩
abbrev N__law_deck : List Str := ["_law_script", "_law_cell"]
theorem sc__law_deck : FnScope N__law_deck ["_law_script"] (defScope s__law_deck) := ⟨rfl, rfl, rfl, by decide +kernel, rfl, by decide +kernel, by decide +kernel⟩
abbrev N__law_draw : List Str := ["_law_deck_here", "_law_bound", "_law_at", "_law_cell", "_law_mixed"]
theorem sc__law_draw : FnScope N__law_draw ["_law_deck_here", "_law_bound"] (defScope s__law_draw) := ⟨rfl, rfl, rfl, by decide +kernel, rfl, by decide +kernel, by decide +kernel⟩
abbrev N__law_state : List Str := ["_law_deck_here", "_law_stages", "_law_people", "_law_wide", "_law_on_foot", "_law_riding", "_law_bikes", "_law_starts", "_law_stage", "_law_person"]
theorem sc__law_state : FnScope N__law_state ["_law_deck_here", "_law_stages", "_law_people"] (defScope s__law_state) := ⟨rfl, rfl, rfl, by decide +kernel, rfl, by decide +kernel, by decide +kernel⟩
abbrev N__law_odd : List Str := ["_law_deck_here", "_law_some"]
theorem sc__law_odd : FnScope N__law_odd ["_law_deck_here"] (defScope s__law_odd) := ⟨rfl, rfl, rfl, by decide +kernel, rfl, by decide +kernel, by decide +kernel⟩
abbrev N__law_lines : List Str := ["_law_word", "_law_good", "_law_found", "_law_line", "_law_bad", "_law_one"]
theorem sc__law_lines : FnScope N__law_lines ["_law_word"] (defScope s__law_lines) := ⟨rfl, rfl, rfl, by decide +kernel, rfl, by decide +kernel, by decide +kernel⟩
abbrev N_Shell___init__ : List Str := ["self", "trip"]
theorem sc_Shell___init__ : FnScope N_Shell___init__ ["self", "trip"] (defScope s_Shell___init__) := ⟨rfl, rfl, rfl, by decide +kernel, rfl, by decide +kernel, by decide +kernel⟩
abbrev N_Shell_execute : List Str := ["self", "line", "command"]
theorem sc_Shell_execute : FnScope N_Shell_execute ["self", "line"] (defScope s_Shell_execute) := ⟨rfl, rfl, rfl, by decide +kernel, rfl, by decide +kernel, by decide +kernel⟩
abbrev N_Shell_answer : List Str := ["self", "command"]
theorem sc_Shell_answer : FnScope N_Shell_answer ["self", "command"] (defScope s_Shell_answer) := ⟨rfl, rfl, rfl, by decide +kernel, rfl, by decide +kernel, by decide +kernel⟩
abbrev N_Promise_latest : List Str := ["self"]
theorem sc_Promise_latest : FnScope N_Promise_latest ["self"] (defScope s_Promise_latest) := ⟨rfl, rfl, rfl, by decide +kernel, rfl, by decide +kernel, by decide +kernel⟩
abbrev N_Trip___init__ : List Str := ["self", "road", "starts", "error"]
theorem sc_Trip___init__ : FnScope N_Trip___init__ ["self", "road", "starts"] (defScope s_Trip___init__) := ⟨rfl, rfl, rfl, by decide +kernel, rfl, by decide +kernel, by decide +kernel⟩
abbrev N_Trip_road : List Str := ["self"]
theorem sc_Trip_road : FnScope N_Trip_road ["self"] (defScope s_Trip_road) := ⟨rfl, rfl, rfl, by decide +kernel, rfl, by decide +kernel, by decide +kernel⟩
abbrev N_Trip_starts : List Str := ["self"]
theorem sc_Trip_starts : FnScope N_Trip_starts ["self"] (defScope s_Trip_starts) := ⟨rfl, rfl, rfl, by decide +kernel, rfl, by decide +kernel, by decide +kernel⟩
abbrev N_Trip___len__ : List Str := ["self"]
theorem sc_Trip___len__ : FnScope N_Trip___len__ ["self"] (defScope s_Trip___len__) := ⟨rfl, rfl, rfl, by decide +kernel, rfl, by decide +kernel, by decide +kernel⟩
abbrev N_Trip___eq__ : List Str := ["self", "other"]
theorem sc_Trip___eq__ : FnScope N_Trip___eq__ ["self", "other"] (defScope s_Trip___eq__) := ⟨rfl, rfl, rfl, by decide +kernel, rfl, by decide +kernel, by decide +kernel⟩
abbrev N_Trip_goes_like : List Str := ["self", "other"]
theorem sc_Trip_goes_like : FnScope N_Trip_goes_like ["self", "other"] (defScope s_Trip_goes_like) := ⟨rfl, rfl, rfl, by decide +kernel, rfl, by decide +kernel, by decide +kernel⟩
abbrev N_PromisedTrip___eq__ : List Str := ["self", "other"]
theorem sc_PromisedTrip___eq__ : FnScope N_PromisedTrip___eq__ ["self", "other"] (defScope s_PromisedTrip___eq__) := ⟨rfl, rfl, rfl, by decide +kernel, rfl, by decide +kernel, by decide +kernel⟩
abbrev N_law : List Str := ["_law_script", "_law_deck_here", "_law_road", "_law_starts", "_law_trip", "_law_other", "_law_shell", "_law_lines_here", "_law_line"]
theorem sc_law : FnScope N_law ["_law_script"] (defScope s_law) := ⟨rfl, rfl, rfl, by decide +kernel, rfl, by decide +kernel, by decide +kernel⟩
theorem sci_BadRoad : FnScope ["self", "error"] ["self", "error"] (defScope si_BadRoad) := ⟨rfl, rfl, rfl, by decide +kernel, rfl, by decide +kernel, by decide +kernel⟩
theorem sci_BadStarts : FnScope ["self", "value"] ["self", "value"] (defScope si_BadStarts) := ⟨rfl, rfl, rfl, by decide +kernel, rfl, by decide +kernel, by decide +kernel⟩
structure Tx (K : PySem.W.Frag) (mg : Str → Option Value) (PP : Params) where
  f_is_number_from : Addr
  fd_is_number_from : FuncData
  F_is_number_from : Fun K "is_number_from" "is_number_from" s_is_number_from f_is_number_from fd_is_number_from
  g_is_number_from : mg "is_number_from" = some (.ref f_is_number_from)
  b_is_number_from : Binds K fd_is_number_from ["value", "least", "most"] []
  f_is_starts : Addr
  fd_is_starts : FuncData
  F_is_starts : Fun K "is_starts" "is_starts" s_is_starts f_is_starts fd_is_starts
  g_is_starts : mg "is_starts" = some (.ref f_is_starts)
  b_is_starts : Binds K fd_is_starts ["value"] []
  f_road_error : Addr
  fd_road_error : FuncData
  F_road_error : Fun K "road_error" "road_error" s_road_error f_road_error fd_road_error
  g_road_error : mg "road_error" = some (.ref f_road_error)
  b_road_error : Binds K fd_road_error ["value"] []
  f_counts_of : Addr
  fd_counts_of : FuncData
  F_counts_of : Fun K "counts_of" "counts_of" s_counts_of f_counts_of fd_counts_of
  g_counts_of : mg "counts_of" = some (.ref f_counts_of)
  b_counts_of : Binds K fd_counts_of ["road"] []
  f_is_edit : Addr
  fd_is_edit : FuncData
  F_is_edit : Fun K "is_edit" "is_edit" s_is_edit f_is_edit fd_is_edit
  g_is_edit : mg "is_edit" = some (.ref f_is_edit)
  b_is_edit : Binds K fd_is_edit ["value"] []
  f_ticks_of : Addr
  fd_ticks_of : FuncData
  F_ticks_of : Fun K "ticks_of" "ticks_of" s_ticks_of f_ticks_of fd_ticks_of
  g_ticks_of : mg "ticks_of" = some (.ref f_ticks_of)
  b_ticks_of : Binds K fd_ticks_of ["road", "starts", "plan"] []
  f_bike_ticks : Addr
  fd_bike_ticks : FuncData
  F_bike_ticks : Fun K "bike_ticks" "bike_ticks" s_bike_ticks f_bike_ticks fd_bike_ticks
  g_bike_ticks : mg "bike_ticks" = some (.ref f_bike_ticks)
  b_bike_ticks : Binds K fd_bike_ticks ["ticks", "brought", "standing"] []
  f_leaving_ticks : Addr
  fd_leaving_ticks : FuncData
  F_leaving_ticks : Fun K "leaving_ticks" "leaving_ticks" s_leaving_ticks f_leaving_ticks fd_leaving_ticks
  g_leaving_ticks : mg "leaving_ticks" = some (.ref f_leaving_ticks)
  b_leaving_ticks : Binds K fd_leaving_ticks ["ticks", "riders", "bikes"] []
  f_finish_of : Addr
  fd_finish_of : FuncData
  F_finish_of : Fun K "finish_of" "finish_of" s_finish_of f_finish_of fd_finish_of
  g_finish_of : mg "finish_of" = some (.ref f_finish_of)
  b_finish_of : Binds K fd_finish_of ["road", "starts", "plan"] []
  f_rule_plan : Addr
  fd_rule_plan : FuncData
  F_rule_plan : Fun K "rule_plan" "rule_plan" s_rule_plan f_rule_plan fd_rule_plan
  g_rule_plan : mg "rule_plan" = some (.ref f_rule_plan)
  b_rule_plan : Binds K fd_rule_plan ["road", "starts"] []
  f_greatest : Addr
  fd_greatest : FuncData
  F_greatest : Fun K "greatest" "greatest" s_greatest f_greatest fd_greatest
  g_greatest : mg "greatest" = some (.ref f_greatest)
  b_greatest : Binds K fd_greatest ["numbers", "many"] []
  f_least_finish : Addr
  fd_least_finish : FuncData
  F_least_finish : Fun K "least_finish" "least_finish" s_least_finish f_least_finish fd_least_finish
  g_least_finish : mg "least_finish" = some (.ref f_least_finish)
  b_least_finish : Binds K fd_least_finish ["road", "starts"] []
  f_number_in : Addr
  fd_number_in : FuncData
  F_number_in : Fun K "number_in" "number_in" s_number_in f_number_in fd_number_in
  g_number_in : mg "number_in" = some (.ref f_number_in)
  b_number_in : Binds K fd_number_in ["text", "least", "most"] []
  f_command_in : Addr
  fd_command_in : FuncData
  F_command_in : Fun K "command_in" "command_in" s_command_in f_command_in fd_command_in
  g_command_in : mg "command_in" = some (.ref f_command_in)
  b_command_in : Binds K fd_command_in ["line"] []
  f__law_deck : Addr
  fd__law_deck : FuncData
  F__law_deck : Fun K "_law_deck" "_law_deck" s__law_deck f__law_deck fd__law_deck
  g__law_deck : mg "_law_deck" = some (.ref f__law_deck)
  b__law_deck : Binds K fd__law_deck ["_law_script"] []
  f__law_draw : Addr
  fd__law_draw : FuncData
  F__law_draw : Fun K "_law_draw" "_law_draw" s__law_draw f__law_draw fd__law_draw
  g__law_draw : mg "_law_draw" = some (.ref f__law_draw)
  b__law_draw : Binds K fd__law_draw ["_law_deck_here", "_law_bound"] []
  f__law_state : Addr
  fd__law_state : FuncData
  F__law_state : Fun K "_law_state" "_law_state" s__law_state f__law_state fd__law_state
  g__law_state : mg "_law_state" = some (.ref f__law_state)
  b__law_state : Binds K fd__law_state ["_law_deck_here", "_law_stages", "_law_people"] []
  f__law_odd : Addr
  fd__law_odd : FuncData
  F__law_odd : Fun K "_law_odd" "_law_odd" s__law_odd f__law_odd fd__law_odd
  g__law_odd : mg "_law_odd" = some (.ref f__law_odd)
  b__law_odd : Binds K fd__law_odd ["_law_deck_here"] []
  f__law_lines : Addr
  fd__law_lines : FuncData
  F__law_lines : Fun K "_law_lines" "_law_lines" s__law_lines f__law_lines fd__law_lines
  g__law_lines : mg "_law_lines" = some (.ref f__law_lines)
  b__law_lines : Binds K fd__law_lines ["_law_word"] []
  f_Shell___init__ : Addr
  fd_Shell___init__ : FuncData
  F_Shell___init__ : Fun K "__init__" "Shell.__init__" s_Shell___init__ f_Shell___init__ fd_Shell___init__
  b_Shell___init__ : Binds K fd_Shell___init__ ["self", "trip"] []
  f_Shell_execute : Addr
  fd_Shell_execute : FuncData
  F_Shell_execute : Fun K "execute" "Shell.execute" s_Shell_execute f_Shell_execute fd_Shell_execute
  b_Shell_execute : Binds K fd_Shell_execute ["self", "line"] []
  f_Shell_answer : Addr
  fd_Shell_answer : FuncData
  F_Shell_answer : Fun K "answer" "Shell.answer" s_Shell_answer f_Shell_answer fd_Shell_answer
  b_Shell_answer : Binds K fd_Shell_answer ["self", "command"] []
  f_Promise_latest : Addr
  fd_Promise_latest : FuncData
  F_Promise_latest : Fun K "latest" "Promise.latest" s_Promise_latest f_Promise_latest fd_Promise_latest
  b_Promise_latest : Binds K fd_Promise_latest ["self"] []
  f_Trip___init__ : Addr
  fd_Trip___init__ : FuncData
  F_Trip___init__ : Fun K "__init__" "Trip.__init__" s_Trip___init__ f_Trip___init__ fd_Trip___init__
  b_Trip___init__ : Binds K fd_Trip___init__ ["self", "road", "starts"] []
  f_Trip_road : Addr
  fd_Trip_road : FuncData
  F_Trip_road : Fun K "road" "Trip.road" s_Trip_road f_Trip_road fd_Trip_road
  b_Trip_road : Binds K fd_Trip_road ["self"] []
  f_Trip_starts : Addr
  fd_Trip_starts : FuncData
  F_Trip_starts : Fun K "starts" "Trip.starts" s_Trip_starts f_Trip_starts fd_Trip_starts
  b_Trip_starts : Binds K fd_Trip_starts ["self"] []
  f_Trip___len__ : Addr
  fd_Trip___len__ : FuncData
  F_Trip___len__ : Fun K "__len__" "Trip.__len__" s_Trip___len__ f_Trip___len__ fd_Trip___len__
  b_Trip___len__ : Binds K fd_Trip___len__ ["self"] []
  f_Trip___eq__ : Addr
  fd_Trip___eq__ : FuncData
  F_Trip___eq__ : Fun K "__eq__" "Trip.__eq__" s_Trip___eq__ f_Trip___eq__ fd_Trip___eq__
  b_Trip___eq__ : Binds K fd_Trip___eq__ ["self", "other"] []
  f_Trip_goes_like : Addr
  fd_Trip_goes_like : FuncData
  F_Trip_goes_like : Fun K "goes_like" "Trip.goes_like" s_Trip_goes_like f_Trip_goes_like fd_Trip_goes_like
  b_Trip_goes_like : Binds K fd_Trip_goes_like ["self", "other"] []
  f_PromisedTrip___eq__ : Addr
  fd_PromisedTrip___eq__ : FuncData
  F_PromisedTrip___eq__ : Fun K "__eq__" "PromisedTrip.__eq__" s_PromisedTrip___eq__ f_PromisedTrip___eq__ fd_PromisedTrip___eq__
  b_PromisedTrip___eq__ : Binds K fd_PromisedTrip___eq__ ["self", "other"] []
  f_law : Addr
  fd_law : FuncData
  F_law : Fun K "law" "law" s_law f_law fd_law
  g_law : mg "law" = some (.ref f_law)
  b_law : Binds K fd_law ["_law_script"] []
  C_BadStarts : Addr
  gC_BadStarts : mg "BadStarts" = some (.ref C_BadStarts)
  C_TooManyPeople : Addr
  gC_TooManyPeople : mg "TooManyPeople" = some (.ref C_TooManyPeople)
  C_TooLate : Addr
  gC_TooLate : mg "TooLate" = some (.ref C_TooLate)
  C_BadRoad : Addr
  gC_BadRoad : mg "BadRoad" = some (.ref C_BadRoad)
  C_Busy : Addr
  gC_Busy : mg "Busy" = some (.ref C_Busy)
  C_TooManyEdits : Addr
  gC_TooManyEdits : mg "TooManyEdits" = some (.ref C_TooManyEdits)
  C_BadStart : Addr
  gC_BadStart : mg "BadStart" = some (.ref C_BadStart)
  C_LastPerson : Addr
  gC_LastPerson : mg "LastPerson" = some (.ref C_LastPerson)
  C_BadCount : Addr
  gC_BadCount : mg "BadCount" = some (.ref C_BadCount)
  C_TooMuch : Addr
  gC_TooMuch : mg "TooMuch" = some (.ref C_TooMuch)
  C_TooFew : Addr
  gC_TooFew : mg "TooFew" = some (.ref C_TooFew)
  C_NothingToUndo : Addr
  gC_NothingToUndo : mg "NothingToUndo" = some (.ref C_NothingToUndo)
  C_BadEnd : Addr
  gC_BadEnd : mg "BadEnd" = some (.ref C_BadEnd)
  C_NoPerson : Addr
  gC_NoPerson : mg "NoPerson" = some (.ref C_NoPerson)
  C_NoStation : Addr
  gC_NoStation : mg "NoStation" = some (.ref C_NoStation)
  C_Shell : Addr
  gC_Shell : mg "Shell" = some (.ref C_Shell)
  C_Promise : Addr
  gC_Promise : mg "Promise" = some (.ref C_Promise)
  C_Trip : Addr
  gC_Trip : mg "Trip" = some (.ref C_Trip)
  C_PromisedTrip : Addr
  gC_PromisedTrip : mg "PromisedTrip" = some (.ref C_PromisedTrip)
  cl_Shell : Cls K C_Shell
  cl_Promise : Cls K C_Promise
  cl_Trip : Cls K C_Trip
  cl_PromisedTrip : Cls K C_PromisedTrip
  na_Promise_promised : NoAttr K C_Promise "promised"
  na_PromisedTrip_done : NoAttr K C_PromisedTrip "done"
  na_PromisedTrip_promised : NoAttr K C_PromisedTrip "promised"
  na_PromisedTrip_versions : NoAttr K C_PromisedTrip "versions"
  na_PromisedTrip_watched : NoAttr K C_PromisedTrip "watched"
  na_Shell_trip : NoAttr K C_Shell "trip"
  na_Trip_done : NoAttr K C_Trip "done"
  na_Trip_versions : NoAttr K C_Trip "versions"
  na_Trip_watched : NoAttr K C_Trip "watched"
  mk_Shell : Mk K C_Shell f_Shell___init__
  mk_Trip : Mk K C_Trip f_Trip___init__
  me_PromisedTrip_goes_like : Meth K C_PromisedTrip "goes_like" f_Trip_goes_like
  me_Shell_answer : Meth K C_Shell "answer" f_Shell_answer
  me_Shell_execute : Meth K C_Shell "execute" f_Shell_execute
  me_Trip_goes_like : Meth K C_Trip "goes_like" f_Trip_goes_like
  pa_PromisedTrip_latest : Addr
  pr_PromisedTrip_latest : PropOf K C_PromisedTrip "latest" pa_PromisedTrip_latest f_Promise_latest
  pa_PromisedTrip_road : Addr
  pr_PromisedTrip_road : PropOf K C_PromisedTrip "road" pa_PromisedTrip_road f_Trip_road
  pa_PromisedTrip_starts : Addr
  pr_PromisedTrip_starts : PropOf K C_PromisedTrip "starts" pa_PromisedTrip_starts f_Trip_starts
  pa_Trip_road : Addr
  pr_Trip_road : PropOf K C_Trip "road" pa_Trip_road f_Trip_road
  pa_Trip_starts : Addr
  pr_Trip_starts : PropOf K C_Trip "starts" pa_Trip_starts f_Trip_starts
  it_PromisedTrip : InsT K C_PromisedTrip
  it_Trip : InsT K C_Trip
  ln_PromisedTrip : PySem.W.findIn K (.ref C_PromisedTrip) "__len__" = some (some (.ref f_Trip___len__))
  lnf_PromisedTrip : PySem.W.isFn K (.ref f_Trip___len__) = true
  ln_Trip : PySem.W.findIn K (.ref C_Trip) "__len__" = some (some (.ref f_Trip___len__))
  lnf_Trip : PySem.W.isFn K (.ref f_Trip___len__) = true
  kc_PromisedTrip_PromisedTrip : PySem.W.kitOne K (.ref C_PromisedTrip) (.ref C_PromisedTrip) = some true
  kc_PromisedTrip_Trip : PySem.W.kitOne K (.ref C_PromisedTrip) (.ref C_Trip) = some true
  kc_Trip_PromisedTrip : PySem.W.kitOne K (.ref C_Trip) (.ref C_PromisedTrip) = some false
  kc_Trip_Trip : PySem.W.kitOne K (.ref C_Trip) (.ref C_Trip) = some true
  oa_PromisedTrip_eq : PySem.W.findIn K (.ref C_PromisedTrip) "__eq__" = some (some (.ref f_PromisedTrip___eq__))
  ob_PromisedTrip_eq : PySem.W.isFn K (.ref f_PromisedTrip___eq__) = true
  oc_PromisedTrip_eq : PySem.W.fnIn K f_PromisedTrip___eq__ = true
  od_PromisedTrip_eq : PySem.W.selfFirst K C_PromisedTrip = true
  oa_Trip_eq : PySem.W.findIn K (.ref C_Trip) "__eq__" = some (some (.ref f_Trip___eq__))
  ob_Trip_eq : PySem.W.isFn K (.ref f_Trip___eq__) = true
  oc_Trip_eq : PySem.W.fnIn K f_Trip___eq__ = true
  od_Trip_eq : PySem.W.selfFirst K C_Trip = true
  E_BadRoad : OwnI K C_BadRoad
  L_BadRoad : ErrC K C_BadRoad [.type "ValueError", .type "Exception", .type "BaseException", .type "object"] "ValueError.__new__"
  no_BadRoad : PySem.W.findIn K (.ref C_BadRoad) "error" = some none
  fI_BadRoad : Addr
  fdI_BadRoad : FuncData
  iC_BadRoad : PySem.W.findIn K (.ref C_BadRoad) "__init__" = some (some (.ref fI_BadRoad))
  tI_BadRoad : PySem.W.typeIn K (.ref fI_BadRoad) = some (.type "function")
  FI_BadRoad : Fun K "__init__" "BadRoad.__init__" si_BadRoad fI_BadRoad fdI_BadRoad
  bI_BadRoad : Binds K fdI_BadRoad ["self", "error"] []
  E_BadStarts : OwnI K C_BadStarts
  L_BadStarts : ErrC K C_BadStarts [.type "ValueError", .type "Exception", .type "BaseException", .type "object"] "ValueError.__new__"
  no_BadStarts : PySem.W.findIn K (.ref C_BadStarts) "value" = some none
  fI_BadStarts : Addr
  fdI_BadStarts : FuncData
  iC_BadStarts : PySem.W.findIn K (.ref C_BadStarts) "__init__" = some (some (.ref fI_BadStarts))
  tI_BadStarts : PySem.W.typeIn K (.ref fI_BadStarts) = some (.type "function")
  FI_BadStarts : Fun K "__init__" "BadStarts.__init__" si_BadStarts fI_BadStarts fdI_BadStarts
  bI_BadStarts : Binds K fdI_BadStarts ["self", "value"] []
  d_EDIT_LENGTHS : Addr
  es_EDIT_LENGTHS : Array DictEntry
  n_EDIT_LENGTHS : Nat
  g_EDIT_LENGTHS : mg "EDIT_LENGTHS" = some (.ref d_EDIT_LENGTHS)
  l_EDIT_LENGTHS : K.lookup d_EDIT_LENGTHS = some ⟨.type "dict", none, .dict es_EDIT_LENGTHS n_EDIT_LENGTHS, #[]⟩
  y_EDIT_LENGTHS : (d_EDIT_LENGTHS == sysModules) = false
  e_EDIT_LENGTHS : DicOf PP es_EDIT_LENGTHS.toList [("come", 2), ("leave", 2), ("place", 3), ("take", 3)]
  t_MAX_PEOPLE : Tok
  c_MAX_PEOPLE : mg "MAX_PEOPLE" = some (.int 10 t_MAX_PEOPLE)
  t_MAX_START : Tok
  c_MAX_START : mg "MAX_START" = some (.int 1000000 t_MAX_START)
  t_MAX_TICKS : Tok
  c_MAX_TICKS : mg "MAX_TICKS" = some (.int 1000 t_MAX_TICKS)
  t_MAX_STAGES : Tok
  c_MAX_STAGES : mg "MAX_STAGES" = some (.int 12 t_MAX_STAGES)
  t_MAX_BIKES : Tok
  c_MAX_BIKES : mg "MAX_BIKES" = some (.int 12 t_MAX_BIKES)
  t_MOST : Tok
  c_MOST : mg "MOST" = some (.int 99999999 t_MOST)
  t_UNKNOWN : Tok
  c_UNKNOWN : mg "UNKNOWN" = some (.str "unknown command" t_UNKNOWN)
  z_abs : mg "abs" = none
  z_bool : mg "bool" = none
  z_enumerate : mg "enumerate" = none
  z_int : mg "int" = none
  z_isinstance : mg "isinstance" = none
  z_len : mg "len" = none
  z_list : mg "list" = none
  z_max : mg "max" = none
  z_range : mg "range" = none
  z_sorted : mg "sorted" = none
  z_str : mg "str" = none
  z_sum : mg "sum" = none
  z_tuple : mg "tuple" = none
  z_zip : mg "zip" = none
section
variable {P : Program} {w : World} {K : PySem.W.Frag} {mg : Str → Option Value} {base : Heap}
theorem Gi_BadRoad (T : Tx K mg w.params) : FnOk P w K mg base CX0 1 T.fI_BadRoad T.fdI_BadRoad ["self", "error"] (Rb.spIni K T.C_BadRoad "error") :=
  iniE T.FI_BadRoad sci_BadRoad T.L_BadRoad T.no_BadRoad (fun _ _ _ _ _ _ => pss_one (ps_putE PySem.F.store_ValueError (pv 0) (pv 1)))
theorem Gi_BadStarts (T : Tx K mg w.params) : FnOk P w K mg base CX0 1 T.fI_BadStarts T.fdI_BadStarts ["self", "value"] (Rb.spIni K T.C_BadStarts "value") :=
  iniE T.FI_BadStarts sci_BadStarts T.L_BadStarts T.no_BadStarts (fun _ _ _ _ _ _ => pss_one (ps_putE PySem.F.store_ValueError (pv 0) (pv 1)))
theorem G_is_number_from (T : Tx K mg w.params) : Rb.FnG P w K mg base CX0 1 T.f_is_number_from T.fd_is_number_from ["value", "least", "most"] (spF (ct0 K mg) F_is_number_from) := by
  unfold F_is_number_from
  exact
   d_fn T.F_is_number_from sc_is_number_from fun cdv A out s H E hg hr => (d_seq (d_if (PW.pt (d_or (d_tval (d_isi (t := .bool) (by rfl) T.z_isinstance (d_var (pv 0)) (pe_bltn (by rfl) T.z_bool (show bootBuiltins "bool" = some (.type "bool") by decide +kernel) (show RelV (V.ty "bool") _ from rfl)))) (d_or1 (d_not (d_tval (d_isi (t := .int) (by rfl) T.z_isinstance (d_var (pv 0)) (pe_bltn (by rfl) T.z_int (show bootBuiltins "int" = some (.type "int") by decide +kernel) (show RelV (V.ty "int") _ from rfl))))))))
 (d_last (d_ret d_bl))
 d_end)
 (d_last (d_ret (d_chain o_le o_le (d_var (pv 1)) (d_var (pv 0)) (d_var (pv 2))))))
theorem G_counts_of (T : Tx K mg w.params) : Rb.FnG P w K mg base CX0 1 T.f_counts_of T.fd_counts_of ["road"] (spF (ct0 K mg) F_counts_of) := by
  unfold F_counts_of
  exact
   d_fn T.F_counts_of sc_counts_of fun cdv A out s H E hg hr => (d_seq (d_set (i := 1) sc_counts_of.nd rfl (.inr rfl) (d_ix (d_var (pv 0)) d_int (fun _ _ => rfl)))
 (d_last (d_ret (d_callT c_tuple (by rfl) T.z_tuple (by decide +kernel) (d_cons (d_lc (own := [("stage", 2)]) (g := (gName 2)) (st := (st1 2)) lct1 (by rfl) sc_counts_of.nd (d_rng1 (by rfl) T.z_range (d_cons (d_callB c_len (by rfl) T.z_len (by decide +kernel) (d_cons (d_var (pv 1)) d_nil)) d_nil)) (blkOk_by (own := [("stage", 2)]) (N := N_counts_of) (sc := defScope s_counts_of) (by decide +kernel)) (fun _ _ _ _ _ => (pg_name (i := 2) sc_counts_of.nd rfl (.inl rfl))) (fun _ _ _ _ _ => d_tnil) (fun _ _ _ _ _ => (d_callB (c_sum rfl) (by rfl) T.z_sum (by decide +kernel) (d_cons (d_slice (d_var (pv 1)) d_noP (d_part (d_bin o_add (d_var (pv 2)) d_int))) d_nil)))) d_nil)))))
theorem G_is_edit (T : Tx K mg w.params) : Rb.FnG P w K mg base CX0 1 T.f_is_edit T.fd_is_edit ["value"] (spF (ct0 K mg) F_is_edit) := by
  unfold F_is_edit
  exact
   d_fn T.F_is_edit sc_is_edit fun cdv A out s H E hg hr => (d_seq (d_if (PW.pt (d_or (d_not (d_tval (d_isi (t := .tup) (by rfl) T.z_isinstance (d_var (pv 0)) (pe_bltn (by rfl) T.z_tuple (show bootBuiltins "tuple" = some (.type "tuple") by decide +kernel) (show RelV (V.ty "tuple") _ from rfl))))) (d_or (d_tcmp (o_ieq hr.units) (d_callB c_len (by rfl) T.z_len (by decide +kernel) (d_cons (d_var (pv 0)) d_nil)) d_int (nomark _)) (d_or1 (d_not (d_tval (d_isi (t := .str) (by rfl) T.z_isinstance (d_ix (d_var (pv 0)) d_int (fun _ _ => rfl)) (pe_bltn (by rfl) T.z_str (show bootBuiltins "str" = some (.type "str") by decide +kernel) (show RelV (V.ty "str") _ from rfl)))))))))
 (d_last (d_ret d_bl))
 d_end)
 (d_last (d_ret (d_cmp (o_ieq hr.units) (d_kget (ktab_of (by rfl) T.g_EDIT_LENGTHS T.l_EDIT_LENGTHS T.y_EDIT_LENGTHS T.e_EDIT_LENGTHS) (d_ix (d_var (pv 0)) d_int (fun _ _ => rfl)) ⟨rfl, rfl, rfl, rfl⟩) (d_callB c_len (by rfl) T.z_len (by decide +kernel) (d_cons (d_var (pv 0)) d_nil)) (nomark _)))))
theorem G_bike_ticks (T : Tx K mg w.params) : Rb.FnG P w K mg base CX0 1 T.f_bike_ticks T.fd_bike_ticks ["ticks", "brought", "standing"] (spF (ct0 K mg) F_bike_ticks) := by
  unfold F_bike_ticks
  exact
   d_fn T.F_bike_ticks sc_bike_ticks fun cdv A out s H E hg hr => (d_last (d_ret (d_callB c_sorted (by rfl) T.z_sorted (by decide +kernel) (d_cons (d_bin o_add (d_bin o_mul (d_lst (d_cons d_int d_nil)) (d_var (pv 2))) (d_lc (own := [("person", 3)]) (g := (gName 3)) (st := (st1 3)) lct1 (by rfl) sc_bike_ticks.nd (d_iseq (d_var (pv 1))) (blkOk_by (own := [("person", 3)]) (N := N_bike_ticks) (sc := defScope s_bike_ticks) (by decide +kernel)) (fun _ _ _ _ _ => (pg_name (i := 3) sc_bike_ticks.nd rfl (.inl rfl))) (fun _ _ _ _ _ => d_tnil) (fun _ _ _ _ _ => (d_ix (d_var (pv 0)) (d_var (pv 3)) (fun _ _ => rfl))))) d_nil))))
theorem G_leaving_ticks (T : Tx K mg w.params) : Rb.FnG P w K mg base CX0 1 T.f_leaving_ticks T.fd_leaving_ticks ["ticks", "riders", "bikes"] (spF (ct0 K mg) F_leaving_ticks) := by
  unfold F_leaving_ticks
  exact
   d_fnC T.F_leaving_ticks sc_leaving_ticks fun cdv A out s H E hg hr => (d_seq (d_set (i := 3) sc_leaving_ticks.nd rfl (.inl rfl) (d_callT c_listC (by rfl) T.z_list (by decide +kernel) (d_cons (d_var (pv 0)) d_nil)))
 (d_seq (d_set (i := 4) sc_leaving_ticks.nd rfl (.inl rfl) (d_callB c_sorted (by rfl) T.z_sorted (by decide +kernel) (d_cons (d_lc (own := [("person", 6)]) (g := (gName 6)) (st := (st1 6)) lct1 (by rfl) sc_leaving_ticks.nd (d_iseq (d_var (pv 1))) (blkOk_by (own := [("person", 6)]) (N := N_leaving_ticks) (sc := defScope s_leaving_ticks) (by decide +kernel)) (fun _ _ _ _ _ => (pg_name (i := 6) sc_leaving_ticks.nd rfl (.inl rfl))) (fun _ _ _ _ _ => d_tnil) (fun _ _ _ _ _ => (d_tup (d_cons (d_ix (d_var (pv 0)) (d_var (pv 6)) (fun _ _ => rfl)) (d_cons (d_var (pv 6)) d_nil))))) d_nil)))
 (d_seq (d_for PassesOwn.never rfl (d_zip (by rfl) T.z_zip (d_cons (d_var (pv 4)) (d_cons (d_var (pv 2)) d_nil))) (d_gtup rfl (d_gcons (d_gtup rfl (d_gcons (d_gn (pg_name (i := 5) sc_leaving_ticks.nd rfl (.inl rfl))) (d_gcons (d_gn (pg_name (i := 6) sc_leaving_ticks.nd rfl (.inl rfl))) d_gnil))) (d_gcons (d_gn (pg_name (i := 7) sc_leaving_ticks.nd rfl (.inl rfl))) d_gnil)))
 (d_last (d_asg (d_callB (c_max rfl hr.units) (by rfl) T.z_max (by decide +kernel) (d_cons (d_var (pv 5)) (d_cons (d_var (pv 7)) d_nil))) (d_gsub (d_var (pv 3)) (d_var (pv 6))))))
 (d_last (d_ret (d_var (pv 3)))))))
theorem G_greatest (T : Tx K mg w.params) : Rb.FnG P w K mg base CX0 1 T.f_greatest T.fd_greatest ["numbers", "many"] (spF (ct0 K mg) F_greatest) := by
  unfold F_greatest
  exact
   d_fn T.F_greatest sc_greatest fun cdv A out s H E hg hr => (d_seq (d_set (i := 2) sc_greatest.nd rfl (.inl rfl) (d_callB c_sorted (by rfl) T.z_sorted (by decide +kernel) (d_cons (d_lc (own := [("person", 3), ("number", 4)]) (g := (gTup K 2 (gCons (gName 3) (gCons (gName 4) gNil)))) (st := (st2 3 4)) (lct2 (by decide)) (by rfl) sc_greatest.nd (d_en (by rfl) T.z_enumerate (d_cons (d_var (pv 0)) d_nil)) (blkOk_by (own := [("person", 3), ("number", 4)]) (N := N_greatest) (sc := defScope s_greatest) (by decide +kernel)) (fun _ _ _ _ _ => (pg_tup rfl (pgs_cons (pg_name (i := 3) sc_greatest.nd rfl (.inl rfl)) (pgs_cons (pg_name (i := 4) sc_greatest.nd rfl (.inl rfl)) pgs_nil)))) (fun _ _ _ _ _ => d_tnil) (fun _ _ _ _ _ => (d_tup (d_cons (d_un u_neg (d_var (pv 4))) (d_cons (d_var (pv 3)) d_nil))))) d_nil)))
 (d_last (d_ret (d_callT c_tuple (by rfl) T.z_tuple (by decide +kernel) (d_cons (d_callB c_sorted (by rfl) T.z_sorted (by decide +kernel) (d_cons (d_lc (own := [("number", 4), ("person", 3)]) (g := (gTup K 2 (gCons (gName 4) (gCons (gName 3) gNil)))) (st := (st2 4 3)) (lct2 (by decide)) (by rfl) sc_greatest.nd (d_iseq (d_slice (d_var (pv 2)) d_noP (d_part (d_var (pv 1))))) (blkOk_by (own := [("number", 4), ("person", 3)]) (N := N_greatest) (sc := defScope s_greatest) (by decide +kernel)) (fun _ _ _ _ _ => (pg_tup rfl (pgs_cons (pg_name (i := 4) sc_greatest.nd rfl (.inl rfl)) (pgs_cons (pg_name (i := 3) sc_greatest.nd rfl (.inl rfl)) pgs_nil)))) (fun _ _ _ _ _ => d_tnil) (fun _ _ _ _ _ => (d_var (pv 3)))) d_nil)) d_nil)))))
theorem G_number_in (T : Tx K mg w.params) : Rb.FnG P w K mg base CX0 1 T.f_number_in T.fd_number_in ["text", "least", "most"] (spF (ct0 K mg) F_number_in) := by
  unfold F_number_in
  exact
   d_fn T.F_number_in sc_number_in fun cdv A out s H E hg hr => (d_seq (d_if (PW.pt (d_or (d_not (d_tval (d_ascii (d_var (pv 0))))) (d_or1 (d_not (d_tval (d_digit (d_var (pv 0))))))))
 (d_last (d_ret d_non))
 d_end)
 (d_seq (d_if (PW.pt (d_or (d_tcmp o_gt (d_callB c_len (by rfl) T.z_len (by decide +kernel) (d_cons (d_var (pv 0)) d_nil)) (d_callB c_len (by rfl) T.z_len (by decide +kernel) (d_cons (d_callT c_str (by rfl) T.z_str (by decide +kernel) (d_cons (d_var (pv 2)) d_nil)) d_nil)) (nomark _)) (d_or1 (PW.pt (d_and (d_tval (d_starts (d_var (pv 0)) d_str)) (d_and1 (d_tcmp (o_ine hr.units) (d_var (pv 0)) d_str (nomark _))))))))
 (d_last (d_ret d_non))
 d_end)
 (d_seq (d_set (i := 3) sc_number_in.nd rfl (.inl rfl) (d_callT c_intS (by rfl) T.z_int (by decide +kernel) (d_cons (d_var (pv 0)) d_nil)))
 (d_last (d_ret (d_ifE (d_tchain o_le o_le (d_var (pv 1)) (d_var (pv 3)) (d_var (pv 2))) (d_var (pv 3)) d_non))))))
theorem G_law_deck (T : Tx K mg w.params) : Rb.FnG P w K mg base CX0 1 T.f__law_deck T.fd__law_deck ["_law_script"] (spF (ct0 K mg) F_law_deck_2) := by
  unfold F_law_deck_2
  exact
   d_fn T.F__law_deck sc__law_deck fun cdv A out s H E hg hr => (d_last (d_ret (d_lstC (d_cons (d_lcC (own := [("_law_cell", 1)]) (g := (gName 1)) (st := (st1 1)) lct1 (by rfl) sc__law_deck.nd (d_iseq (d_slice (d_var (pv 0)) d_noP (d_part d_int))) (blkOk_by (own := [("_law_cell", 1)]) (N := N__law_deck) (sc := defScope s__law_deck) (by decide +kernel)) (fun _ _ _ _ _ => (pg_name (i := 1) sc__law_deck.nd rfl (.inl rfl))) (fun _ _ _ _ _ => d_tnil) (fun _ _ _ _ _ => (d_callB c_abs (by rfl) T.z_abs (by decide +kernel) (d_cons (d_var (pv 1)) d_nil)))) (d_cons d_int d_nil)))))
theorem G_law_draw (T : Tx K mg w.params) : Rb.FnG P w K mg base CX0 1 T.f__law_draw T.fd__law_draw ["_law_deck_here", "_law_bound"] (spF (ct0 K mg) F_law_draw_3) := by
  unfold F_law_draw_3
  exact
   d_fn T.F__law_draw sc__law_draw fun cdv A out s H E hg hr => (d_seq (d_asg (d_bin o_add (d_ix (d_var (pv 0)) d_int (fun _ _ => rfl)) d_int) (d_gsub (d_var (pv 0)) d_int))
 (d_seq (d_set (i := 2) sc__law_draw.nd rfl (.inl rfl) (d_bin o_mod (d_ix (d_var (pv 0)) d_int (fun _ _ => rfl)) (d_callB (c_max rfl hr.units) (by rfl) T.z_max (by decide +kernel) (d_cons d_int (d_cons (d_callB c_len (by rfl) T.z_len (by decide +kernel) (d_cons (d_ix (d_var (pv 0)) d_int (fun _ _ => rfl)) d_nil)) d_nil)))))
 (d_seq (d_set (i := 3) sc__law_draw.nd rfl (.inl rfl) (d_ix (d_bin o_add (d_ix (d_var (pv 0)) d_int (fun _ _ => rfl)) (d_lst (d_cons d_int d_nil))) (d_var (pv 2)) (fun _ _ => rfl)))
 (d_seq (d_if (d_tcmp o_ge (d_var (pv 3)) (d_bin o_pow d_int d_int) (nomark _))
 (d_seq (d_asg (d_bin o_fdiv (d_var (pv 3)) (d_var (pv 1))) (d_gsub (d_ix (d_var (pv 0)) d_int (fun _ _ => rfl)) (d_var (pv 2))))
 (d_last (d_ret (d_bin o_mod (d_var (pv 3)) (d_var (pv 1))))))
 d_end)
 (d_seq (d_set (i := 4) sc__law_draw.nd rfl (.inl rfl) (d_bin o_mod (d_bin o_pow (d_bin o_add (d_bin o_add (d_bin o_mod (d_var (pv 3)) d_int) (d_bin o_mul d_int (d_ix (d_var (pv 0)) d_int (fun _ _ => rfl)))) d_int) d_int) d_int))
 (d_last (d_ret (d_bin o_mod (d_bin o_add (d_bin o_fdiv (d_var (pv 4)) d_int) (d_bin o_mul d_int (d_ix (d_var (pv 0)) d_int (fun _ _ => rfl)))) (d_var (pv 1))))))))))
theorem G_law_lines (T : Tx K mg w.params) : Rb.FnG P w K mg base CX0 1 T.f__law_lines T.fd__law_lines ["_law_word"] (spF (ct0 K mg) F_law_lines) := by
  unfold F_law_lines
  exact
   d_fnC T.F__law_lines sc__law_lines fun cdv A out s H E hg hr => (d_seq (d_set (i := 1) sc__law_lines.nd rfl (.inl rfl) (d_lst (d_cons (d_bin o_add d_str (d_var (pv 0))) (d_cons (d_bin o_add d_str (d_var (pv 0))) (d_cons (d_bin o_add d_str (d_var (pv 0))) (d_cons (d_bin o_add d_str (d_var (pv 0))) (d_cons (d_bin o_add d_str (d_var (pv 0))) d_nil)))))))
 (d_seq (d_set (i := 1) sc__law_lines.nd rfl (.inl rfl) (d_bin o_add (d_var (pv 1)) (d_lst (d_cons d_str (d_cons d_str (d_cons d_str (d_cons d_str d_nil)))))))
 (d_seq (d_set (i := 2) sc__law_lines.nd rfl (.inl rfl) (d_lstC (d_cons d_str (d_cons d_str (d_cons d_str (d_cons d_str (d_cons d_str (d_cons d_str (d_cons d_str (d_cons d_str (d_cons d_str (d_cons d_str (d_cons d_str (d_cons (d_var (pv 0)) d_nil))))))))))))))
 (d_seq (d_for PassesOwn.never rfl (d_iseq (d_var (pv 1))) (d_gn (pg_name (i := 3) sc__law_lines.nd rfl (.inl rfl)))
 (d_seq (d_set (i := 2) sc__law_lines.nd rfl (.inl rfl) (d_bin o_addC (d_var (pv 2)) (d_lst (d_cons (d_bin o_add (d_var (pv 3)) d_str) (d_cons (d_bin o_add d_str (d_var (pv 3))) (d_cons (d_bin o_add (d_var (pv 3)) d_str) (d_cons (d_bin o_add (d_var (pv 3)) d_str) (d_cons (d_bin o_add (d_upper (d_var (pv 3))) d_str) d_nil))))))))
 (d_seqG (dg_set (i := 2) sc__law_lines.nd rfl (.inl rfl) (dg_bin o_addC (d_var (pv 2)) (dg_lst (dag_cons (dg_bin o_add (d_var (pv 3)) dg_str) (d_cons (d_bin o_add (d_var (pv 3)) d_str) d_nil)))))
 (dt_last (dt_expr (dt_ml PySem.F.slot_list_append PySem.F.type_list_append m_append (d_var (pv 2)) (dt_bin o_add (dt_repl (d_var (pv 3))) (dt_of (d_bin o_mulT d_str (d_callT c_int (by rfl) T.z_int (by decide +kernel) (d_cons (d_cmp o_notInT d_str (d_var (pv 3)) (by rfl)) d_nil)))))))))))
 (d_seq (d_set (i := 4) sc__law_lines.nd rfl (.inl rfl) (d_lst (d_cons d_str (d_cons d_str (d_cons d_str (d_cons d_str (d_cons d_str (d_cons d_str (d_cons d_str (d_cons d_str (d_cons d_str (d_cons (d_bin o_mulT d_str d_int) (d_cons d_str (d_cons d_str (d_cons d_str (d_cons d_str (d_cons d_str (d_cons d_str d_nil))))))))))))))))))
 (d_seq (d_for PassesOwn.never rfl (d_iseq (d_var (pv 4))) (d_gn (pg_name (i := 5) sc__law_lines.nd rfl (.inl rfl)))
 (d_seq (d_set (i := 2) sc__law_lines.nd rfl (.inl rfl) (d_bin o_addC (d_var (pv 2)) (d_lst (d_cons (d_bin o_add d_str (d_var (pv 5))) (d_cons (d_bin o_add d_str (d_var (pv 5))) (d_cons (d_bin o_add d_str (d_var (pv 5))) (d_cons (d_bin o_add d_str (d_var (pv 5))) (d_cons (d_bin o_add (d_bin o_add d_str (d_var (pv 5))) d_str) d_nil))))))))
 (d_last (d_set (i := 2) sc__law_lines.nd rfl (.inl rfl) (d_bin o_addC (d_var (pv 2)) (d_lst (d_cons (d_bin o_add d_str (d_var (pv 5))) (d_cons (d_bin o_add (d_bin o_add d_str (d_var (pv 5))) d_str) d_nil))))))))
 (d_seq (d_set (i := 2) sc__law_lines.nd rfl (.inl rfl) (d_bin o_addC (d_var (pv 2)) (d_lst (d_cons d_str (d_cons d_str (d_cons d_str (d_cons d_str (d_cons d_str (d_cons d_str (d_cons d_str (d_cons d_str (d_cons d_str d_nil))))))))))))
 (d_seq (d_set (i := 2) sc__law_lines.nd rfl (.inl rfl) (d_bin o_addC (d_var (pv 2)) (d_lst (d_cons d_str (d_cons d_str (d_cons d_str (d_cons d_str (d_cons d_str (d_cons d_str (d_cons d_str (d_cons d_str d_nil)))))))))))
 (d_seq (d_set (i := 2) sc__law_lines.nd rfl (.inl rfl) (d_bin o_addC (d_var (pv 2)) (d_lst (d_cons d_str (d_cons d_str (d_cons d_str (d_cons d_str (d_cons d_str (d_cons d_str (d_cons d_str (d_cons d_str d_nil)))))))))))
 (d_seq (d_set (i := 2) sc__law_lines.nd rfl (.inl rfl) (d_bin o_addC (d_var (pv 2)) (d_lst (d_cons d_str (d_cons d_str (d_cons d_str (d_cons d_str (d_cons d_str (d_cons d_str (d_cons d_str (d_cons d_str (d_cons d_str d_nil))))))))))))
 (d_last (d_ret (d_bin o_add (d_var (pv 2)) (d_lst (d_cons d_str (d_cons d_str (d_cons d_str (d_cons d_str (d_cons d_str (d_cons d_str (d_cons d_str (d_cons d_str d_nil))))))))))))))))))))))
theorem G_Shell_init (T : Tx K mg w.params) : Rb.FnG P w K mg base CX0 1 T.f_Shell___init__ T.fd_Shell___init__ ["self", "trip"] (spF (ct0 K mg) F_Shell_init) := by
  unfold F_Shell_init
  exact
   d_fn T.F_Shell___init__ sc_Shell___init__ fun cdv A out s H E hg hr => (d_last (d_stF (allS (clf T.cl_Shell T.gC_Shell T.na_Shell_trip) all0) (d_var (pv 0)) (d_var (pv 1))))
theorem MkF_Shell (T : Tx K mg w.params) : MkF P w K mg base CX0 1 T.C_Shell F_Shell_init := ⟨_, _, _, T.mk_Shell, G_Shell_init T, T.b_Shell___init__⟩
theorem G_Promise_latest (T : Tx K mg w.params) : Rb.FnG P w K mg base CX0 1 T.f_Promise_latest T.fd_Promise_latest ["self"] (spF (ct0 K mg) F_Promise_latest_2) := by
  unfold F_Promise_latest_2
  exact
   d_fn T.F_Promise_latest sc_Promise_latest fun cdv A out s H E hg hr => (d_last (d_ret (d_fld (allS (clf T.cl_Promise T.gC_Promise T.na_Promise_promised) (allS (clf T.cl_PromisedTrip T.gC_PromisedTrip T.na_PromisedTrip_promised) all0)) (d_var (pv 0)))))
theorem PF_PromisedTrip_latest (T : Tx K mg w.params) {lv : Nat} (h : 1 ≤ lv) : PF P w K mg base lv "latest" "PromisedTrip" F_Promise_latest_2 := pf_of T.gC_PromisedTrip T.cl_PromisedTrip T.pr_PromisedTrip_latest (FnG_mono (G_Promise_latest T) h) T.b_Promise_latest
theorem G_Trip_road (T : Tx K mg w.params) : Rb.FnG P w K mg base CX0 1 T.f_Trip_road T.fd_Trip_road ["self"] (spF (ct0 K mg) F_Trip_road_2) := by
  unfold F_Trip_road_2
  exact
   d_fn T.F_Trip_road sc_Trip_road fun cdv A out s H E hg hr => (d_last (d_ret (d_ix (d_ix (d_fld (allS (clf T.cl_Trip T.gC_Trip T.na_Trip_versions) (allS (clf T.cl_PromisedTrip T.gC_PromisedTrip T.na_PromisedTrip_versions) all0)) (d_var (pv 0))) (d_un u_neg d_int) (fun _ _ => rfl)) d_int (fun _ _ => rfl))))
theorem PF_PromisedTrip_road (T : Tx K mg w.params) {lv : Nat} (h : 1 ≤ lv) : PF P w K mg base lv "road" "PromisedTrip" F_Trip_road_2 := pf_of T.gC_PromisedTrip T.cl_PromisedTrip T.pr_PromisedTrip_road (FnG_mono (G_Trip_road T) h) T.b_Trip_road
theorem PF_Trip_road (T : Tx K mg w.params) {lv : Nat} (h : 1 ≤ lv) : PF P w K mg base lv "road" "Trip" F_Trip_road_2 := pf_of T.gC_Trip T.cl_Trip T.pr_Trip_road (FnG_mono (G_Trip_road T) h) T.b_Trip_road
theorem G_Trip_starts (T : Tx K mg w.params) : Rb.FnG P w K mg base CX0 1 T.f_Trip_starts T.fd_Trip_starts ["self"] (spF (ct0 K mg) F_Trip_starts_2) := by
  unfold F_Trip_starts_2
  exact
   d_fn T.F_Trip_starts sc_Trip_starts fun cdv A out s H E hg hr => (d_last (d_ret (d_ix (d_ix (d_fld (allS (clf T.cl_Trip T.gC_Trip T.na_Trip_versions) (allS (clf T.cl_PromisedTrip T.gC_PromisedTrip T.na_PromisedTrip_versions) all0)) (d_var (pv 0))) (d_un u_neg d_int) (fun _ _ => rfl)) d_int (fun _ _ => rfl))))
theorem PF_PromisedTrip_starts (T : Tx K mg w.params) {lv : Nat} (h : 1 ≤ lv) : PF P w K mg base lv "starts" "PromisedTrip" F_Trip_starts_2 := pf_of T.gC_PromisedTrip T.cl_PromisedTrip T.pr_PromisedTrip_starts (FnG_mono (G_Trip_starts T) h) T.b_Trip_starts
theorem PF_Trip_starts (T : Tx K mg w.params) {lv : Nat} (h : 1 ≤ lv) : PF P w K mg base lv "starts" "Trip" F_Trip_starts_2 := pf_of T.gC_Trip T.cl_Trip T.pr_Trip_starts (FnG_mono (G_Trip_starts T) h) T.b_Trip_starts
theorem G_Trip_len (T : Tx K mg w.params) : Rb.FnG P w K mg base CX0 1 T.f_Trip___len__ T.fd_Trip___len__ ["self"] (spF (ct0 K mg) F_Trip_len) := by
  unfold F_Trip_len
  exact
   d_fn T.F_Trip___len__ sc_Trip___len__ fun cdv A out s H E hg hr => (d_last (d_ret (d_callB c_len (by rfl) T.z_len (by decide +kernel) (d_cons (d_fld (allS (clf T.cl_Trip T.gC_Trip T.na_Trip_done) (allS (clf T.cl_PromisedTrip T.gC_PromisedTrip T.na_PromisedTrip_done) all0)) (d_var (pv 0))) d_nil))))
theorem LnF_PromisedTrip (T : Tx K mg w.params) {lv : Nat} (h : 1 ≤ lv) : LnF P w K mg base lv "PromisedTrip" F_Trip_len := ln_of T.gC_PromisedTrip T.ln_PromisedTrip T.lnf_PromisedTrip (FnG_mono (G_Trip_len T) h) T.b_Trip___len__
theorem LnF_Trip (T : Tx K mg w.params) {lv : Nat} (h : 1 ≤ lv) : LnF P w K mg base lv "Trip" F_Trip_len := ln_of T.gC_Trip T.ln_Trip T.lnf_Trip (FnG_mono (G_Trip_len T) h) T.b_Trip___len__
theorem G_is_starts (T : Tx K mg w.params) : Rb.FnG P w K mg base CX0 2 T.f_is_starts T.fd_is_starts ["value"] (spF (ct0 K mg) F_is_starts) := by
  unfold F_is_starts
  exact
   d_fn T.F_is_starts sc_is_starts fun cdv A out s H E hg hr => (d_seq (d_if (PW.pt (d_or (d_not (d_tval (d_isi (t := .tup) (by rfl) T.z_isinstance (d_var (pv 0)) (pe_bltn (by rfl) T.z_tuple (show bootBuiltins "tuple" = some (.type "tuple") by decide +kernel) (show RelV (V.ty "tuple") _ from rfl))))) (d_or1 (d_not (d_tchain o_le o_le d_int (d_callB c_len (by rfl) T.z_len (by decide +kernel) (d_cons (d_var (pv 0)) d_nil)) (d_gint (by rfl) T.c_MAX_PEOPLE))))))
 (d_last (d_ret d_bl))
 d_end)
 (d_seq (d_for PassesOwn.never rfl (d_iseq (d_var (pv 0))) (d_gn (pg_name (i := 1) sc_is_starts.nd rfl (.inl rfl)))
 (d_last (d_if (d_not (d_tval (d_callW (G_is_number_from T) hg hr (by rfl) T.g_is_number_from T.F_is_number_from.kp T.b_is_number_from passG (d_cons (d_var (pv 1)) (d_cons d_int (d_cons (d_gint (by rfl) T.c_MAX_START) d_nil))))))
 (d_last (d_ret d_bl))
 d_end)))
 (d_last (d_ret d_bl))))
theorem G_road_error (T : Tx K mg w.params) : Rb.FnG P w K mg base CX0 2 T.f_road_error T.fd_road_error ["value"] (spF (ct0 K mg) F_road_error_2) := by
  unfold F_road_error_2
  exact
   d_fn T.F_road_error sc_road_error fun cdv A out s H E hg hr => (d_seq (d_if (PW.pt (d_or (d_not (d_tval (d_isi (t := .tup) (by rfl) T.z_isinstance (d_var (pv 0)) (pe_bltn (by rfl) T.z_tuple (show bootBuiltins "tuple" = some (.type "tuple") by decide +kernel) (show RelV (V.ty "tuple") _ from rfl))))) (d_or1 (d_tcmp (o_ine hr.units) (d_callB c_len (by rfl) T.z_len (by decide +kernel) (d_cons (d_var (pv 0)) d_nil)) d_int (nomark _)))))
 (d_last (d_ret (d_tup (d_cons d_non (d_cons d_str d_nil)))))
 d_end)
 (d_seq (d_asg (d_var (pv 0)) (d_gtup rfl (d_gcons (d_gn (pg_name (i := 1) sc_road_error.nd rfl (.inl rfl))) (d_gcons (d_gn (pg_name (i := 2) sc_road_error.nd rfl (.inl rfl))) (d_gcons (d_gn (pg_name (i := 3) sc_road_error.nd rfl (.inl rfl))) d_gnil)))))
 (d_seq (d_if (PW.pt (d_or (d_not (d_tval (d_callW (G_is_number_from T) hg hr (by rfl) T.g_is_number_from T.F_is_number_from.kp T.b_is_number_from passG (d_cons (d_var (pv 1)) (d_cons d_int (d_cons (d_gint (by rfl) T.c_MAX_TICKS) d_nil)))))) (d_or1 (d_not (d_tval (d_callW (G_is_number_from T) hg hr (by rfl) T.g_is_number_from T.F_is_number_from.kp T.b_is_number_from passG (d_cons (d_var (pv 2)) (d_cons d_int (d_cons (d_bin o_sub (d_var (pv 1)) d_int) d_nil)))))))))
 (d_last (d_ret (d_tup (d_cons d_non (d_cons d_str d_nil)))))
 d_end)
 (d_seq (d_if (PW.pt (d_or (d_not (d_tval (d_isi (t := .tup) (by rfl) T.z_isinstance (d_var (pv 3)) (pe_bltn (by rfl) T.z_tuple (show bootBuiltins "tuple" = some (.type "tuple") by decide +kernel) (show RelV (V.ty "tuple") _ from rfl))))) (d_or1 (d_not (d_tchain o_le o_le d_int (d_callB c_len (by rfl) T.z_len (by decide +kernel) (d_cons (d_var (pv 3)) d_nil)) (d_gint (by rfl) T.c_MAX_STAGES))))))
 (d_last (d_ret (d_tup (d_cons d_non (d_cons d_str d_nil)))))
 d_end)
 (d_seq (d_for PassesOwn.never rfl (d_enT (by rfl) T.z_enumerate (d_cons (d_var (pv 3)) d_nil)) (d_gtup rfl (d_gcons (d_gn (pg_name (i := 4) sc_road_error.nd rfl (.inl rfl))) (d_gcons (d_gn (pg_name (i := 5) sc_road_error.nd rfl (.inl rfl))) d_gnil)))
 (d_last (d_if (d_not (d_tval (d_callW (G_is_number_from T) hg hr (by rfl) T.g_is_number_from T.F_is_number_from.kp T.b_is_number_from passG (d_cons (d_var (pv 5)) (d_cons d_int (d_cons (d_gint (by rfl) T.c_MAX_BIKES) d_nil))))))
 (d_last (d_ret (d_tup (d_cons (d_var (pv 4)) (d_cons d_str d_nil)))))
 d_end)))
 (d_last (d_ret d_non)))))))
theorem G_ticks_of (T : Tx K mg w.params) : Rb.FnG P w K mg base CX0 2 T.f_ticks_of T.fd_ticks_of ["road", "starts", "plan"] (spF (ct0 K mg) F_ticks_of) := by
  unfold F_ticks_of
  exact
   d_fnC T.F_ticks_of sc_ticks_of fun cdv A out s H E hg hr => (d_seq (d_asg (d_var (pv 0)) (d_gtup rfl (d_gcons (d_gn (pg_name (i := 3) sc_ticks_of.nd rfl (.inr rfl))) (d_gcons (d_gn (pg_name (i := 4) sc_ticks_of.nd rfl (.inr rfl))) (d_gcons (d_gn (pg_name (i := 5) sc_ticks_of.nd rfl (.inl rfl))) d_gnil)))))
 (d_seq (d_set (i := 6) sc_ticks_of.nd rfl (.inl rfl) (d_lstC (d_cons (d_var (pv 1)) d_nil)))
 (d_seq (d_set (i := 7) sc_ticks_of.nd rfl (.inl rfl) (d_tup d_nil))
 (d_seq (d_for PassesOwn.never rfl (d_zip (by rfl) T.z_zip (d_cons (d_var (pv 2)) (d_cons (d_var (pv 5)) d_nil))) (d_gtup rfl (d_gcons (d_gn (pg_name (i := 8) sc_ticks_of.nd rfl (.inr rfl))) (d_gcons (d_gn (pg_name (i := 9) sc_ticks_of.nd rfl (.inl rfl))) d_gnil)))
 (d_seq (d_set (i := 10) sc_ticks_of.nd rfl (.inl rfl) (d_ix (d_var (pv 6)) (d_un u_neg d_int) (fun _ _ => rfl)))
 (d_seq (d_set (i := 11) sc_ticks_of.nd rfl (.inl rfl) (d_call 0 (G_leaving_ticks T) hg hr (by rfl) T.g_leaving_ticks T.F_leaving_ticks.kp T.b_leaving_ticks passG (d_cons (d_var (pv 10)) (d_cons (d_var (pv 8)) (d_cons (d_callW (G_bike_ticks T) hg hr (by rfl) T.g_bike_ticks T.F_bike_ticks.kp T.b_bike_ticks passG (d_cons (d_var (pv 10)) (d_cons (d_var (pv 7)) (d_cons (d_var (pv 9)) d_nil)))) d_nil)))))
 (d_seq (d_expr (d_ml PySem.F.slot_list_append PySem.F.type_list_append m_append (d_var (pv 6)) (d_cons (d_callT c_tuple (by rfl) T.z_tuple (by decide +kernel) (d_cons (d_lc (own := [("person", 12), ("tick", 13)]) (g := (gTup K 2 (gCons (gName 12) (gCons (gName 13) gNil)))) (st := (st2 12 13)) (lct2 (by decide)) (by rfl) sc_ticks_of.nd (d_enL (by rfl) T.z_enumerate (d_cons (d_var (pv 11)) d_nil)) (blkOk_by (own := [("person", 12), ("tick", 13)]) (N := N_ticks_of) (sc := defScope s_ticks_of) (by decide +kernel)) (fun _ _ _ _ _ => (pg_tup rfl (pgs_cons (pg_name (i := 12) sc_ticks_of.nd rfl (.inl rfl)) (pgs_cons (pg_name (i := 13) sc_ticks_of.nd rfl (.inl rfl)) pgs_nil)))) (fun _ _ _ _ _ => d_tnil) (fun _ _ _ _ _ => (d_bin o_add (d_var (pv 13)) (d_ifE (d_tcmp o_in (d_var (pv 12)) (d_var (pv 8)) (by rfl)) (d_var (pv 4)) (d_var (pv 3)))))) d_nil)) d_nil)))
 (d_last (d_set (i := 7) sc_ticks_of.nd rfl (.inl rfl) (d_var (pv 8))))))))
 (d_last (d_ret (d_callT c_tuple (by rfl) T.z_tuple (by decide +kernel) (d_cons (d_var (pv 6)) d_nil))))))))
theorem G_rule_plan (T : Tx K mg w.params) : Rb.FnG P w K mg base CX0 2 T.f_rule_plan T.fd_rule_plan ["road", "starts"] (spF (ct0 K mg) F_rule_plan) := by
  unfold F_rule_plan
  exact
   d_fnC T.F_rule_plan sc_rule_plan fun cdv A out s H E hg hr => (d_seq (d_asg (d_slice (d_var (pv 0)) d_noP (d_part d_int)) (d_gtup rfl (d_gcons (d_gn (pg_name (i := 2) sc_rule_plan.nd rfl (.inr rfl))) (d_gcons (d_gn (pg_name (i := 3) sc_rule_plan.nd rfl (.inr rfl))) d_gnil))))
 (d_seq (d_set (i := 4) sc_rule_plan.nd rfl (.inl rfl) (d_var (pv 1)))
 (d_seq (d_set (i := 5) sc_rule_plan.nd rfl (.inl rfl) (d_lstC d_nil))
 (d_seq (d_for PassesOwn.never rfl (d_iseq (d_callW (G_counts_of T) hg hr (by rfl) T.g_counts_of T.F_counts_of.kp T.b_counts_of passG (d_cons (d_var (pv 0)) d_nil))) (d_gn (pg_name (i := 6) sc_rule_plan.nd rfl (.inl rfl)))
 (d_seq (d_set (i := 7) sc_rule_plan.nd rfl (.inr rfl) (d_callW (G_greatest T) hg hr (by rfl) T.g_greatest T.F_greatest.kp T.b_greatest passG (d_cons (d_var (pv 4)) (d_cons (d_var (pv 6)) d_nil))))
 (d_seq (d_setLc (i := 4) (own := [("person", 8), ("tick", 9)]) (g := (gTup K 2 (gCons (gName 8) (gCons (gName 9) gNil)))) (st := (st2 8 9)) (lct2 (by decide)) (by rfl) sc_rule_plan.nd rfl rfl (sw_true rfl rfl rfl (by decide +kernel)) (d_en (by rfl) T.z_enumerate (d_cons (d_var (pv 4)) d_nil)) (blkOk_by (own := [("person", 8), ("tick", 9)]) (N := N_rule_plan) (sc := defScope s_rule_plan) (by decide +kernel)) (fun _ _ _ _ _ => (pg_tup rfl (pgs_cons (pg_name (i := 8) sc_rule_plan.nd rfl (.inl rfl)) (pgs_cons (pg_name (i := 9) sc_rule_plan.nd rfl (.inl rfl)) pgs_nil)))) (fun _ _ _ _ _ => d_tnil) (fun _ _ _ _ _ => (d_bin o_add (d_var (pv 9)) (d_ifE (d_tcmp o_in (d_var (pv 8)) (d_var (pv 7)) (by rfl)) (d_var (pv 3)) (d_var (pv 2))))))
 (d_last (d_expr (d_ml PySem.F.slot_list_append PySem.F.type_list_append m_append (d_var (pv 5)) (d_cons (d_var (pv 7)) d_nil)))))))
 (d_last (d_ret (d_callT c_tuple (by rfl) T.z_tuple (by decide +kernel) (d_cons (d_var (pv 5)) d_nil))))))))
theorem G_command_in (T : Tx K mg w.params) : Rb.FnG P w K mg base CX0 2 T.f_command_in T.fd_command_in ["line"] (spF (ct0 K mg) F_command_in) := by
  unfold F_command_in
  exact
   d_fn T.F_command_in sc_command_in fun cdv A out s H E hg hr => (d_seq (d_if (d_not (d_tval (d_isi (t := .str) (by rfl) T.z_isinstance (d_var (pv 0)) (pe_bltn (by rfl) T.z_str (show bootBuiltins "str" = some (.type "str") by decide +kernel) (show RelV (V.ty "str") _ from rfl)))))
 (d_last (d_ret d_non))
 d_end)
 (d_seq (d_set (i := 1) sc_command_in.nd rfl (.inl rfl) (d_split (d_var (pv 0)) d_str))
 (d_seq (d_setLc (i := 2) (own := [("word", 3)]) (g := (gName 3)) (st := (st1 3)) lct1 (by rfl) sc_command_in.nd rfl rfl (sw_true rfl rfl rfl (by decide +kernel)) (d_iseq (d_slice (d_var (pv 1)) (d_part d_int) d_noP)) (blkOk_by (own := [("word", 3)]) (N := N_command_in) (sc := defScope s_command_in) (by decide +kernel)) (fun _ _ _ _ _ => (pg_name (i := 3) sc_command_in.nd rfl (.inl rfl))) (fun _ _ _ _ _ => d_tnil) (fun _ _ _ _ _ => (d_callW (G_number_in T) hg hr (by rfl) T.g_number_in T.F_number_in.kp T.b_number_in passG (d_cons (d_var (pv 3)) (d_cons d_int (d_cons (d_gint (by rfl) T.c_MOST) d_nil))))))
 (d_last (d_ret (d_ifE (d_tcmp o_inN d_non (d_var (pv 2)) (by rfl)) d_non (d_tup (d_cons (d_ix (d_var (pv 1)) d_int (fun _ _ => rfl)) (d_star (d_var (pv 2)) d_nil)))))))))
theorem G_law_state (T : Tx K mg w.params) : Rb.FnG P w K mg base CX0 2 T.f__law_state T.fd__law_state ["_law_deck_here", "_law_stages", "_law_people"] (spF (ct0 K mg) F_law_state) := by
  unfold F_law_state
  exact
   d_fnC T.F__law_state sc__law_state fun cdv A out s H E hg hr => (d_seq (d_set (i := 3) sc__law_state.nd rfl (.inl rfl) (d_cmp (o_ieq hr.units) (d_callW (G_law_draw T) hg hr (by rfl) T.g__law_draw T.F__law_draw.kp T.b__law_draw passG (d_cons (d_var (pv 0)) (d_cons d_int d_nil))) d_int (nomark _)))
 (d_seq (d_set (i := 4) sc__law_state.nd rfl (.inl rfl) (d_bin o_add d_int (d_callW (G_law_draw T) hg hr (by rfl) T.g__law_draw T.F__law_draw.kp T.b__law_draw passG (d_cons (d_var (pv 0)) (d_cons (d_ix (d_lst (d_cons d_int (d_cons d_int d_nil))) (d_callT c_int (by rfl) T.z_int (by decide +kernel) (d_cons (d_var (pv 3)) d_nil)) (fun _ _ => rfl)) d_nil)))))
 (d_seq (d_par3 (i := 5) (j := 6) (l := 7) (by rfl) sc__law_state.nd rfl rfl rfl (by decide) (by decide) (by decide) rfl rfl rfl (d_cons (d_bin o_add d_int (d_callW (G_law_draw T) hg hr (by rfl) T.g__law_draw T.F__law_draw.kp T.b__law_draw passG (d_cons (d_var (pv 0)) (d_cons (d_bin o_sub (d_var (pv 4)) d_int) d_nil)))) (d_cons (d_lstC d_nil) (d_cons (d_lstC d_nil) d_nil))) (by rfl))
 (d_seq (d_for PassesOwn.never rfl (d_rng1 (by rfl) T.z_range (d_cons (d_bin o_add d_int (d_callW (G_law_draw T) hg hr (by rfl) T.g__law_draw T.F__law_draw.kp T.b__law_draw passG (d_cons (d_var (pv 0)) (d_cons (d_var (pv 1)) d_nil)))) d_nil)) (d_gn (pg_name (i := 8) sc__law_state.nd rfl (.inl rfl)))
 (d_last (d_expr (d_ml PySem.F.slot_list_append PySem.F.type_list_append m_append (d_var (pv 6)) (d_cons (d_ix (d_lst (d_cons d_int (d_cons (d_callW (G_law_draw T) hg hr (by rfl) T.g__law_draw T.F__law_draw.kp T.b__law_draw passG (d_cons (d_var (pv 0)) (d_cons d_int d_nil))) (d_cons (d_callW (G_law_draw T) hg hr (by rfl) T.g__law_draw T.F__law_draw.kp T.b__law_draw passG (d_cons (d_var (pv 0)) (d_cons d_int d_nil))) (d_cons (d_callW (G_law_draw T) hg hr (by rfl) T.g__law_draw T.F__law_draw.kp T.b__law_draw passG (d_cons (d_var (pv 0)) (d_cons d_int d_nil))) d_nil))))) (d_callW (G_law_draw T) hg hr (by rfl) T.g__law_draw T.F__law_draw.kp T.b__law_draw passG (d_cons (d_var (pv 0)) (d_cons d_int d_nil))) (fun _ _ => rfl)) d_nil)))))
 (d_seq (d_for PassesOwn.never rfl (d_rng1 (by rfl) T.z_range (d_cons (d_bin o_add d_int (d_callW (G_law_draw T) hg hr (by rfl) T.g__law_draw T.F__law_draw.kp T.b__law_draw passG (d_cons (d_var (pv 0)) (d_cons (d_var (pv 2)) d_nil)))) d_nil)) (d_gn (pg_name (i := 9) sc__law_state.nd rfl (.inl rfl)))
 (d_last (d_expr (d_ml PySem.F.slot_list_append PySem.F.type_list_append m_append (d_var (pv 7)) (d_cons (d_callW (G_law_draw T) hg hr (by rfl) T.g__law_draw T.F__law_draw.kp T.b__law_draw passG (d_cons (d_var (pv 0)) (d_cons (d_ix (d_lst (d_cons d_int (d_cons (d_bin o_add (d_bin o_pow d_int d_int) d_int) d_nil))) (d_callT c_int (by rfl) T.z_int (by decide +kernel) (d_cons (d_andV (d_var (pv 3)) (d_one (d_cmp (o_ieq hr.units) (d_callW (G_law_draw T) hg hr (by rfl) T.g__law_draw T.F__law_draw.kp T.b__law_draw passG (d_cons (d_var (pv 0)) (d_cons d_int d_nil))) d_int (nomark _)))) d_nil)) (fun _ _ => rfl)) d_nil))) d_nil)))))
 (d_last (d_ret (d_tup (d_cons (d_tup (d_cons (d_var (pv 4)) (d_cons (d_var (pv 5)) (d_cons (d_callT c_tuple (by rfl) T.z_tuple (by decide +kernel) (d_cons (d_var (pv 6)) d_nil)) d_nil)))) (d_cons (d_callT c_tuple (by rfl) T.z_tuple (by decide +kernel) (d_cons (d_var (pv 7)) d_nil)) d_nil))))))))))
theorem G_law_odd (T : Tx K mg w.params) : Rb.FnG P w K mg base CX0 2 T.f__law_odd T.fd__law_odd ["_law_deck_here"] (spF (ct0 K mg) F_law_odd_5) := by
  unfold F_law_odd_5
  exact
   d_fn T.F__law_odd sc__law_odd fun cdv A out s H E hg hr => (d_seq (d_set (i := 1) sc__law_odd.nd rfl (.inl rfl) (d_lst (d_cons d_non (d_cons d_bl (d_cons d_bl (d_cons d_int (d_cons (d_un u_neg d_int) (d_cons (d_bin o_pow d_int d_int) (d_cons (d_tup d_nil) (d_cons (d_lst d_nil) (d_cons d_dic0 (d_cons (d_tup (d_cons d_int (d_cons d_int d_nil))) (d_cons (d_lst (d_cons d_str d_nil)) (d_cons (d_tup (d_cons (d_tup (d_cons d_int (d_cons d_int (d_cons (d_tup (d_cons d_int d_nil)) d_nil)))) (d_cons (d_tup (d_cons d_int d_nil)) d_nil))) d_nil))))))))))))))
 (d_last (d_ret (d_ix (d_var (pv 1)) (d_callW (G_law_draw T) hg hr (by rfl) T.g__law_draw T.F__law_draw.kp T.b__law_draw passG (d_cons (d_var (pv 0)) (d_cons d_int d_nil))) (fun _ _ => rfl)))))
theorem G_Shell_answer (T : Tx K mg w.params) : Rb.FnG P w K mg base CX0 2 T.f_Shell_answer T.fd_Shell_answer ["self", "command"] (spF (ct0 K mg) F_Shell_answer_3) := by
  unfold F_Shell_answer_3
  exact
   d_fn T.F_Shell_answer sc_Shell_answer fun cdv A out s H E hg hr => (d_seq (d_if (d_tval (d_callW (G_is_edit T) hg hr (by rfl) T.g_is_edit T.F_is_edit.kp T.b_is_edit passG (d_cons (d_var (pv 1)) d_nil)))
 (d_last (d_ret d_nevE))
 d_end)
 (d_seq (d_if (d_tcmp (o_ieq hr.units) (d_var (pv 1)) (d_tup (d_cons d_str d_nil)) (nomark _))
 (d_last (d_ret d_nevE))
 d_end)
 (d_seq (d_if (d_tcmp (o_ieq hr.units) (d_var (pv 1)) (d_tup (d_cons d_str d_nil)) (nomark _))
 (d_last (d_ret d_nevE))
 d_end)
 (d_seq (d_if (d_tcmp (o_ieq hr.units) (d_var (pv 1)) (d_tup (d_cons d_str d_nil)) (nomark _))
 (d_last (d_ret d_nevE))
 d_end)
 (d_seq (d_if (d_tcmp (o_ieq hr.units) (d_var (pv 1)) (d_tup (d_cons d_str d_nil)) (nomark _))
 (d_last (d_ret d_nevE))
 d_end)
 (d_seq (d_if (PW.pt (d_and (d_tcmp (o_ieq hr.units) (d_ix (d_var (pv 1)) d_int (fun _ _ => rfl)) d_str (nomark _)) (d_and1 (d_tcmp (o_ieq hr.units) (d_callB c_len (by rfl) T.z_len (by decide +kernel) (d_cons (d_var (pv 1)) d_nil)) d_int (nomark _)))))
 (d_last (d_ret d_nevE))
 d_end)
 (d_last (d_ret (d_gstr (by rfl) T.c_UNKNOWN)))))))))
theorem MF_Shell_answer (T : Tx K mg w.params) {lv : Nat} (h : 2 ≤ lv) : MF P w K mg base CX0 lv "answer" "Shell" F_Shell_answer_3 := mf_of T.gC_Shell T.cl_Shell T.me_Shell_answer (FnG_mono (G_Shell_answer T) h) T.b_Shell_answer
theorem G_finish_of (T : Tx K mg w.params) : Rb.FnG P w K mg base CX0 3 T.f_finish_of T.fd_finish_of ["road", "starts", "plan"] (spF (ct0 K mg) F_finish_of) := by
  unfold F_finish_of
  exact
   d_fn T.F_finish_of sc_finish_of fun cdv A out s H E hg hr => (d_last (d_ret (d_callB (c_max rfl hr.units) (by rfl) T.z_max (by decide +kernel) (d_cons (d_ix (d_call 0 (G_ticks_of T) hg hr (by rfl) T.g_ticks_of T.F_ticks_of.kp T.b_ticks_of passG (d_cons (d_var (pv 0)) (d_cons (d_var (pv 1)) (d_cons (d_var (pv 2)) d_nil)))) (d_un u_neg d_int) (fun _ _ => rfl)) d_nil))))
theorem G_Shell_execute (T : Tx K mg w.params) : Rb.FnG P w K mg base CX0 3 T.f_Shell_execute T.fd_Shell_execute ["self", "line"] (spF (ct0 K mg) F_Shell_execute_4) := by
  unfold F_Shell_execute_4
  exact
   d_fn T.F_Shell_execute sc_Shell_execute fun cdv A out s H E hg hr => (d_seq (d_set (i := 2) sc_Shell_execute.nd rfl (.inl rfl) (d_callW (G_command_in T) hg hr (by rfl) T.g_command_in T.F_command_in.kp T.b_command_in passG (d_cons (d_var (pv 1)) d_nil)))
 (d_seq (d_if (d_tcmp o_is (d_var (pv 2)) d_non (nomark _))
 (d_last (d_ret (d_gstr (by rfl) T.c_UNKNOWN)))
 d_end)
 (d_last (d_tryN (d_last (d_ret (d_meth (lv := 2) (cx := CX0) (ct_calm rfl) (allS (MF_Shell_answer T (by decide)) all0) hg hr passG (d_var (pv 0)) (d_cons (d_var (pv 2)) d_nil))))))))
theorem MF_Shell_execute (T : Tx K mg w.params) {lv : Nat} (h : 3 ≤ lv) : MF P w K mg base CX0 lv "execute" "Shell" F_Shell_execute_4 := mf_of T.gC_Shell T.cl_Shell T.me_Shell_execute (FnG_mono (G_Shell_execute T) h) T.b_Shell_execute
theorem G_Trip_goes_like (T : Tx K mg w.params) : Rb.FnG P w K mg base CX0 3 T.f_Trip_goes_like T.fd_Trip_goes_like ["self", "other"] (spF (ct0 K mg) F_Trip_goes_like) := by
  unfold F_Trip_goes_like
  exact
   d_fn T.F_Trip_goes_like sc_Trip_goes_like fun cdv A out s H E hg hr => (d_last (d_ret (d_andV (d_cmp (o_ieq hr.units) (d_prop (lv := 1) (ct_calm rfl) (allS (PF_Trip_road T (by decide)) (allS (PF_PromisedTrip_road T (by decide)) all0)) hg hr (d_var (pv 0))) (d_prop (lv := 1) (ct_calm rfl) (allS (PF_Trip_road T (by decide)) (allS (PF_PromisedTrip_road T (by decide)) all0)) hg hr (d_var (pv 1))) (nomark _)) (d_one (d_cmp (o_ieq hr.units) (d_callB c_sortTI (by rfl) T.z_sorted (by decide +kernel) (d_cons (d_prop (lv := 1) (ct_calm rfl) (allS (PF_Trip_starts T (by decide)) (allS (PF_PromisedTrip_starts T (by decide)) all0)) hg hr (d_var (pv 0))) d_nil)) (d_callB c_sortTI (by rfl) T.z_sorted (by decide +kernel) (d_cons (d_prop (lv := 1) (ct_calm rfl) (allS (PF_Trip_starts T (by decide)) (allS (PF_PromisedTrip_starts T (by decide)) all0)) hg hr (d_var (pv 1))) d_nil)) (nomark _))))))
theorem MF_PromisedTrip_goes_like (T : Tx K mg w.params) {lv : Nat} (h : 3 ≤ lv) : MF P w K mg base CX0 lv "goes_like" "PromisedTrip" F_Trip_goes_like := mf_of T.gC_PromisedTrip T.cl_PromisedTrip T.me_PromisedTrip_goes_like (FnG_mono (G_Trip_goes_like T) h) T.b_Trip_goes_like
theorem MF_Trip_goes_like (T : Tx K mg w.params) {lv : Nat} (h : 3 ≤ lv) : MF P w K mg base CX0 lv "goes_like" "Trip" F_Trip_goes_like := mf_of T.gC_Trip T.cl_Trip T.me_Trip_goes_like (FnG_mono (G_Trip_goes_like T) h) T.b_Trip_goes_like
theorem G_least_finish (T : Tx K mg w.params) : Rb.FnG P w K mg base CX0 4 T.f_least_finish T.fd_least_finish ["road", "starts"] (spF (ct0 K mg) F_least_finish) := by
  unfold F_least_finish
  exact
   d_fn T.F_least_finish sc_least_finish fun cdv A out s H E hg hr => (d_last (d_ret (d_callW (G_finish_of T) hg hr (by rfl) T.g_finish_of T.F_finish_of.kp T.b_finish_of passG (d_cons (d_var (pv 0)) (d_cons (d_var (pv 1)) (d_cons (d_call 0 (G_rule_plan T) hg (hr.mono (by decide)) (by rfl) T.g_rule_plan T.F_rule_plan.kp T.b_rule_plan passG (d_cons (d_var (pv 0)) (d_cons (d_var (pv 1)) d_nil))) d_nil))))))
theorem G_Trip_eq (T : Tx K mg w.params) : Rb.FnG P w K mg base CX0 4 T.f_Trip___eq__ T.fd_Trip___eq__ ["self", "other"] (spF (ct0 K mg) F_Trip_eq) := by
  unfold F_Trip_eq
  exact
   d_fn T.F_Trip___eq__ sc_Trip___eq__ fun cdv A out s H E hg hr => (d_last (d_ret (d_andV (d_isC (allS (isc_of T.gC_Trip T.it_Trip T.gC_Trip T.kc_Trip_Trip) (allS (isc_of T.gC_PromisedTrip T.it_PromisedTrip T.gC_Trip T.kc_PromisedTrip_Trip) all0)) (by rfl) T.z_isinstance (by rfl) T.gC_Trip (d_var (pv 1))) (d_andV (d_notV (d_isC (allS (isc_of T.gC_Trip T.it_Trip T.gC_PromisedTrip T.kc_Trip_PromisedTrip) (allS (isc_of T.gC_PromisedTrip T.it_PromisedTrip T.gC_PromisedTrip T.kc_PromisedTrip_PromisedTrip) all0)) (by rfl) T.z_isinstance (by rfl) T.gC_PromisedTrip (d_var (pv 1)))) (d_one (d_meth (lv := 3) (cx := CX0) (ct_calm rfl) (allS (MF_Trip_goes_like T (by decide)) (allS (MF_PromisedTrip_goes_like T (by decide)) all0)) hg hr passG (d_var (pv 0)) (d_cons (d_var (pv 1)) d_nil)))))))
theorem OF_Trip_eq (T : Tx K mg w.params) {lv : Nat} (h : 4 ≤ lv) : OpF P w K mg base CX0 lv "__eq__" "Trip" F_Trip_eq := op_of T.gC_Trip T.oa_Trip_eq T.ob_Trip_eq T.oc_Trip_eq T.od_Trip_eq (FnG_mono (G_Trip_eq T) h) T.b_Trip___eq__
theorem G_PromisedTrip_eq (T : Tx K mg w.params) : Rb.FnG P w K mg base CX0 4 T.f_PromisedTrip___eq__ T.fd_PromisedTrip___eq__ ["self", "other"] (spF (ct0 K mg) F_PromisedTrip_eq) := by
  unfold F_PromisedTrip_eq
  exact
   d_fn T.F_PromisedTrip___eq__ sc_PromisedTrip___eq__ fun cdv A out s H E hg hr => (d_last (d_ret (d_andV (d_isC (allS (isc_of T.gC_PromisedTrip T.it_PromisedTrip T.gC_PromisedTrip T.kc_PromisedTrip_PromisedTrip) all0) (by rfl) T.z_isinstance (by rfl) T.gC_PromisedTrip (d_var (pv 1))) (d_andV (d_cmp (o_ieq hr.units) (d_prop (lv := 1) (ct_calm rfl) (allS (PF_PromisedTrip_latest T (by decide)) all0) hg (hr.mono (by decide)) (d_var (pv 0))) (d_prop (lv := 1) (ct_calm rfl) (allS (PF_PromisedTrip_latest T (by decide)) all0) hg (hr.mono (by decide)) (d_var (pv 1))) (nomark _)) (d_one (d_meth (lv := 3) (cx := CX0) (ct_calm rfl) (allS (MF_PromisedTrip_goes_like T (by decide)) all0) hg hr passG (d_var (pv 0)) (d_cons (d_var (pv 1)) d_nil)))))))
theorem OF_PromisedTrip_eq (T : Tx K mg w.params) {lv : Nat} (h : 4 ≤ lv) : OpF P w K mg base CX0 lv "__eq__" "PromisedTrip" F_PromisedTrip_eq := op_of T.gC_PromisedTrip T.oa_PromisedTrip_eq T.ob_PromisedTrip_eq T.oc_PromisedTrip_eq T.od_PromisedTrip_eq (FnG_mono (G_PromisedTrip_eq T) h) T.b_PromisedTrip___eq__
theorem G_Trip_init (T : Tx K mg w.params) : Rb.FnG P w K mg base (L2.CX P w) 5 T.f_Trip___init__ T.fd_Trip___init__ ["self", "road", "starts"] (spF (ct0 K mg) F_Trip_init_2) := by
  unfold F_Trip_init_2
  exact
   d_fnX T.F_Trip___init__ sc_Trip___init__ fun cdv A out s H E hg hr => (d_seq (d_set (i := 3) sc_Trip___init__.nd rfl (.inl rfl) (d_callW (G_road_error T) hg (hr.mono (by decide)) (by rfl) T.g_road_error T.F_road_error.kp T.b_road_error passG (d_cons (d_var (pv 1)) d_nil)))
 (d_seq (d_if (d_tcmp o_isnot (d_var (pv 3)) d_non (nomark _))
 (d_last (d_raiseE rfl (takes_of rfl rfl rfl rfl) PySem.F.excBase_ValueError T.L_BadRoad T.iC_BadRoad T.tI_BadRoad (Gi_BadRoad T) (hr.mono (by decide)) T.bI_BadRoad (by rfl) T.gC_BadRoad (d_var (pv 3))))
 d_end)
 (d_seq (d_if (d_not (d_tval (d_callW (G_is_starts T) hg (hr.mono (by decide)) (by rfl) T.g_is_starts T.F_is_starts.kp T.b_is_starts passG (d_cons (d_var (pv 2)) d_nil))))
 (d_last (d_raiseE rfl (takes_of rfl rfl rfl rfl) PySem.F.excBase_ValueError T.L_BadStarts T.iC_BadStarts T.tI_BadStarts (Gi_BadStarts T) (hr.mono (by decide)) T.bI_BadStarts (by rfl) T.gC_BadStarts (d_var (pv 2))))
 d_end)
 (d_seq (d_stF (allS (clf T.cl_Trip T.gC_Trip T.na_Trip_done) (allS (clf T.cl_PromisedTrip T.gC_PromisedTrip T.na_PromisedTrip_done) all0)) (d_var (pv 0)) (d_tup d_nil))
 (d_seq (d_stF (allS (clf T.cl_Trip T.gC_Trip T.na_Trip_versions) (allS (clf T.cl_PromisedTrip T.gC_PromisedTrip T.na_PromisedTrip_versions) all0)) (d_var (pv 0)) (d_tup (d_cons (d_tup (d_cons (d_var (pv 1)) (d_cons (d_var (pv 2)) (d_cons (d_callW (G_least_finish T) hg hr (by rfl) T.g_least_finish T.F_least_finish.kp T.b_least_finish passG (d_cons (d_var (pv 1)) (d_cons (d_var (pv 2)) d_nil))) d_nil)))) d_nil)))
 (d_last (d_stF (allS (clf T.cl_Trip T.gC_Trip T.na_Trip_watched) (allS (clf T.cl_PromisedTrip T.gC_PromisedTrip T.na_PromisedTrip_watched) all0)) (d_var (pv 0)) d_bl)))))))
theorem MkF_Trip (T : Tx K mg w.params) : MkF P w K mg base (L2.CX P w) 5 T.C_Trip F_Trip_init_2 := ⟨_, _, _, T.mk_Trip, G_Trip_init T, T.b_Trip___init__⟩
theorem G_law (T : Tx K mg w.params) : Rb.FnG P w K mg base CX0 7 T.f_law T.fd_law ["_law_script"] (spF (ct0 K mg) F_law_k61) := by
  unfold F_law_k61
  exact
   d_fn T.F_law sc_law fun cdv A out s H E hg hr => (d_seq (d_set (i := 1) sc_law.nd rfl (.inl rfl) (d_callW (G_law_deck T) hg (hr.mono (by decide)) (by rfl) T.g__law_deck T.F__law_deck.kp T.b__law_deck passG (d_cons (d_var (pv 0)) d_nil)))
 (d_seq (d_asg (d_call 2 (G_law_state T) hg (hr.mono (by decide)) (by rfl) T.g__law_state T.F__law_state.kp T.b__law_state passG (d_cons (d_var (pv 1)) (d_cons d_int (d_cons d_int d_nil)))) (d_gtup rfl (d_gcons (d_gn (pg_name (i := 2) sc_law.nd rfl (.inl rfl))) (d_gcons (d_gn (pg_name (i := 3) sc_law.nd rfl (.inl rfl))) d_gnil))))
 (d_seq (d_par (i := 4) (j := 5) (by rfl) sc_law.nd rfl rfl (by decide) rfl rfl (d_cons (d_make (lv := 5) (ct_calm rfl) (MkF_Trip T) hg hr (by rfl) T.gC_Trip passLG (d_cons (d_var (pv 2)) (d_cons (d_var (pv 3)) d_nil))) (d_cons (d_make (lv := 5) (ct_calm rfl) (MkF_Trip T) hg hr (by rfl) T.gC_Trip passLG (d_cons (d_var (pv 2)) (d_cons (d_var (pv 3)) d_nil))) d_nil)) (by rfl))
 (d_seq (d_set (i := 6) sc_law.nd rfl (.inl rfl) (d_make (lv := 1) (ct_calm rfl) (MkF_Shell T) hg (hr.mono (by decide)) (by rfl) T.gC_Shell passG (d_cons (d_var (pv 4)) d_nil)))
 (d_seq (d_set (i := 7) sc_law.nd rfl (.inl rfl) (d_bin o_add (d_call 0 (G_law_lines T) hg (hr.mono (by decide)) (by rfl) T.g__law_lines T.F__law_lines.kp T.b__law_lines passG (d_cons (d_callT c_str (by rfl) T.z_str (by decide +kernel) (d_cons (d_callW (G_law_draw T) hg (hr.mono (by decide)) (by rfl) T.g__law_draw T.F__law_draw.kp T.b__law_draw passG (d_cons (d_var (pv 1)) (d_cons d_int d_nil))) d_nil)) d_nil)) (d_lst (d_cons (d_callW (G_law_odd T) hg (hr.mono (by decide)) (by rfl) T.g__law_odd T.F__law_odd.kp T.b__law_odd passG (d_cons (d_var (pv 1)) d_nil)) (d_cons d_non (d_cons d_int (d_cons d_bl (d_cons (d_lst (d_cons d_str d_nil)) (d_cons (d_tup (d_cons d_str d_nil)) (d_cons (d_bin o_pow d_int d_int) d_nil))))))))))
 (d_seq (d_for PassesOwn.never rfl (d_iseq (d_var (pv 7))) (d_gn (pg_name (i := 8) sc_law.nd rfl (.inl rfl)))
 (d_last (d_if (PW.pt (d_or (d_tcmp (o_ine hr.units) (d_meth (lv := 3) (cx := CX0) (ct_calm rfl) (allS (MF_Shell_execute T (by decide)) all0) hg (hr.mono (by decide)) passG (d_var (pv 6)) (d_cons (d_var (pv 8)) d_nil)) d_str (nomark _)) (d_or1 (d_tcmp (o_ine hr.units) (d_callB (c_lenO (lv := 1) (ct_calm rfl) (allS (LnF_Trip T (by decide)) (allS (LnF_PromisedTrip T (by decide)) all0)) hg (hr.mono (by decide))) (by rfl) T.z_len (by decide +kernel) (d_cons (d_var (pv 4)) d_nil)) d_int (nomark _)))))
 (d_last (d_ret d_bl))
 d_end)))
 (d_last (d_ret (d_andV (d_cmp (o_eqO (lv := 4) (ct_calm rfl) (allS (OF_Trip_eq T (by decide)) (allS (OF_PromisedTrip_eq T (by decide)) all0)) hg (hr.mono (by decide))) (d_var (pv 4)) (d_var (pv 5)) (nomark _)) (d_one (d_cmp (o_ieq hr.units) (d_lst (d_cons (d_prop (lv := 1) (ct_calm rfl) (allS (PF_Trip_road T (by decide)) (allS (PF_PromisedTrip_road T (by decide)) all0)) hg (hr.mono (by decide)) (d_var (pv 4))) (d_cons (d_prop (lv := 1) (ct_calm rfl) (allS (PF_Trip_starts T (by decide)) (allS (PF_PromisedTrip_starts T (by decide)) all0)) hg (hr.mono (by decide)) (d_var (pv 4))) d_nil))) (d_lst (d_cons (d_var (pv 2)) (d_cons (d_var (pv 3)) d_nil))) (nomark _))))))))))))
end
end Pu
namespace Pu
open PySem L2
theorem ifT {b : Bool} {P Q : Prop} (h : b = true) (p : P) : if b = true then P else Q := by rw [if_pos h]; exact p
theorem ifF {b : Bool} {P Q : Prop} (h : b = false) (p : Q) : if b = true then P else Q := by rw [h, if_neg Bool.false_ne_true]; exact p
theorem ifB {b : Bool} {P Q : Prop} (h1 : b = true → P) (h2 : b = false → Q) : if b = true then P else Q := by
  cases b with
  | true => exact ifT rfl (h1 rfl)
  | false => exact ifF rfl (h2 rfl)
theorem onS {α : Type} {o : Option α} {a : α} {k : α → Prop} (h : o = some a) (p : k a) : onSome o k := by rw [h]; exact p
/-! ## numbers in a range, any value -/
def isNum (lo hi : Int) : D → Bool
  | .int i => decide (lo ≤ i) && decide (i ≤ hi)
  | _ => false
theorem number_ok {v : D} {lo hi : Int} {S : Sto} {Q : QD} {E : ED} (hv : (toPy v).isSome = true) (q : Q (.bl (isNum lo hi v)) S) : F_is_number_from [v, .int lo, .int hi] S Q E := by
  unfold F_is_number_from
  refine ⟨rfl, ?_⟩
  cases v with
  | int i =>
    show (onBl (.bl (decide (lo ≤ i))) fun k => if k = true then Q (.bl (decide (i ≤ hi))) S else Q (.bl false) S)
    by_cases h : lo ≤ i <;> simpa [isNum, h, onBl] using q
  | cell _ => cases hv
  | glo _ => cases hv
  | ty _ => cases hv
  | ins _ _ => cases hv
  | exc _ _ => cases hv
  | kls _ => cases hv
  | _ => exact q
/-! ## the deck -/
def deckS (cs : List Int) (n : Int) : Sto := [.lst (cs.map D.int), .lst [.cell 0, .int n]]
def Dk (S : Sto) (N : Int) (T : Sto) : Prop := ∃ cs n, S = deckS cs n ++ T ∧ cs.length ≤ 63 ∧ (∀ x ∈ cs, 0 ≤ x) ∧ 0 ≤ n ∧ n ≤ N
theorem Dk.le {S : Sto} {N M : Int} {T : Sto} (h : Dk S N T) (e : N ≤ M) : Dk S M T := by
  obtain ⟨cs, n, h1, h2, h3, h4, h5⟩ := h
  exact ⟨cs, n, h1, h2, h3, h4, by omega⟩
/-- a comprehension whose element changes nothing -/
theorem comp_map {st : D → Rho → Option Rho} {f : FE} {src : Src} {k : List D → Sto → Prop} {S : Sto} {ρ : Rho} {g : D → D} (hsrc : ∀ P : Prop, P → srcOk src S P) : ∀ (xs acc : List D), (∀ x ∈ xs, ∃ ρ1, st x ρ = some ρ1 ∧ ∀ Q : QD, Q (g x) S → f ρ1 S Q noE) → k (acc ++ xs.map g) S → dCompL st dYes f src xs acc ρ S k
  | [], acc, _, h => by rw [List.map_nil, List.append_nil] at h; exact h
  | x :: xs, acc, hx, h => by
    obtain ⟨ρ1, e, hf⟩ := hx x List.mem_cons_self
    refine onS e ?_
    refine ifT (b := true) (Q := srcOk src S (dCompL st dYes f src xs acc ρ S k)) rfl ?_
    refine hf _ (hsrc _ (comp_map hsrc xs _ (fun y hy => hx y (List.mem_cons_of_mem _ hy)) ?_))
    rw [List.append_assoc]
    exact h
def absI (i : Int) : Int := if i < 0 then -i else i
theorem absI_nn (i : Int) : 0 ≤ absI i := by unfold absI; split <;> omega
end Pu
namespace Pu
open PySem L2
/-- a loop by an invariant -/
theorem for_inv {g : FG} {fb : FS} {src : Src} {De : DEnds} {Ed : ED} {ρ : Rho} {S : Sto} (xs : List D) (I : Nat → Rho → Sto → Prop) (h0 : I 0 ρ S)
    (hs : ∀ (i : Nat) (x : D) (ρ : Rho) (S : Sto) (K : Rho → Sto → Prop), xs[i]? = some x → (∀ ρ' S', I (i + 1) ρ' S' → K ρ' S') → I i ρ S → g x ρ S (fun ρ1 S1 => fb ρ1 S1 ⟨K, De.rt, De.nx, K⟩ Ed) Ed)
    (hd : ∀ ρ S, I xs.length ρ S → De.nx ρ S) (hsrc : ∀ i ρ S, I i ρ S → ∀ P : Prop, P → srcOk src S P := by intro _ _ _ _ _ p; exact p) : dLoop g fb src xs ρ S De Ed := by
  have go : ∀ (m n : Nat) (ρ : Rho) (S : Sto), n + m = xs.length → I n ρ S → dLoop g fb src (xs.drop n) ρ S De Ed := by
    intro m
    induction m with
    | zero =>
      intro n ρ S e h
      have : n = xs.length := by omega
      subst this
      rw [List.drop_length]
      exact hd ρ S h
    | succ m ih =>
      intro n ρ S e h
      have hlt : n < xs.length := by omega
      have hx := List.getElem?_eq_getElem hlt
      rw [drop_cons hx]
      exact hs n _ ρ S _ hx (fun ρ' S' h' => hsrc _ _ _ h' _ (ih (n + 1) ρ' S' (by omega) h')) h
  exact go xs.length 0 ρ S (by omega) h0
theorem rangeD_len {lo : Int} {n : Nat} : (rangeD lo n).length = n := by unfold rangeD; rw [List.length_map, List.length_range]
theorem for_rng {g : FG} {fb : FS} {De : DEnds} {Ed : ED} {ρ : Rho} {S : Sto} (lo : Int) (n : Nat) (I : Nat → Rho → Sto → Prop) (h0 : I 0 ρ S)
    (hs : ∀ (i : Nat) (ρ : Rho) (S : Sto) (K : Rho → Sto → Prop), i < n → (∀ ρ' S', I (i + 1) ρ' S' → K ρ' S') → I i ρ S → g (.int (lo + (i : Int))) ρ S (fun ρ1 S1 => fb ρ1 S1 ⟨K, De.rt, De.nx, K⟩ Ed) Ed)
    (hd : ∀ ρ S, I n ρ S → De.nx ρ S) : dLoop g fb [] (rangeD lo n) ρ S De Ed := by
  refine for_inv (rangeD lo n) I h0 (fun i x ρ S K hx hK hI => ?_) (fun ρ S h => hd ρ S (by rw [rangeD_len] at h; exact h))
  obtain ⟨h1, rfl⟩ := rangeD_get hx
  exact hs i ρ S K h1 hK hI
theorem szd {n : Nat} (h : n ≤ 100000) : n ≤ sizeLine := Rb.sz_le h
def roadV (wk rd : Int) (bs : List Int) : D := .tup [.int wk, .int rd, .tup (bs.map .int)]
end Pu
namespace Pu
open PySem L2
theorem py_ints (ns : List Int) : toPyAll (ns.map D.int) = some (ns.map .int) := by
  induction ns with
  | nil => rfl
  | cons n ns ih =>
    show (toPy (.int n)).bind (fun p => (toPyAll (ns.map D.int)).map (p :: ·)) = _
    rw [ih]
    rfl
end Pu
namespace Pu
open PySem L2
theorem szr {n : Nat} (h : Nat.ble n 100000 = true) : n ≤ sizeLine := szd (Nat.le_of_ble_eq_true h)
/-! ## any value, of a bounded size -/
structure Av (k n : Nat) (d : D) : Prop where
  py : ∃ p, toPy d = some p ∧ Rb.Nice k n p
  kn : known d = true
abbrev Avs (k n : Nat) (ds : List D) : Prop := ∀ d ∈ ds, Av k n d
theorem Av.some {k n : Nat} {d : D} (h : Av k n d) : (toPy d).isSome = true := by
  obtain ⟨p, e, _⟩ := h.py
  rw [e]
  rfl
theorem Av.mono {k n k' n' : Nat} {d : D} (h : Av k n d) (h1 : k ≤ k') (h2 : n ≤ n') : Av k' n' d := by
  obtain ⟨p, e, hn⟩ := h.py
  exact ⟨⟨p, e, hn.mono h1 h2⟩, h.kn⟩
theorem Av.int {i : Int} (h : i.natAbs < 10 ^ 99) : Av 0 0 (.int i) := ⟨⟨_, rfl, Rb.Nice.int h⟩, rfl⟩
theorem Av.non : Av 0 0 .non := ⟨⟨_, rfl, Rb.Nice.none⟩, rfl⟩
theorem Av.bl {b : Bool} : Av 0 0 (.bl b) := ⟨⟨_, rfl, Rb.Nice.bool⟩, rfl⟩
theorem avs_py {k n : Nat} : ∀ {ds : List D}, Avs k n ds → (∃ ps, toPyAll ds = some ps ∧ ps.length = ds.length ∧ ∀ p ∈ ps, Rb.Nice k n p) ∧ knownAll ds = true
  | [], _ => ⟨⟨[], rfl, rfl, fun _ z => nomatch z⟩, rfl⟩
  | d :: ds, h => by
    obtain ⟨⟨ps, e, hl, hn⟩, hk⟩ := avs_py (ds := ds) fun x hx => h x (List.mem_cons_of_mem _ hx)
    obtain ⟨⟨p, e1, h1⟩, k1⟩ := h d List.mem_cons_self
    refine ⟨⟨p :: ps, ?_, by rw [List.length_cons, List.length_cons, hl], fun q hq => ?_⟩, ?_⟩
    · show (toPy d).bind (fun p => (toPyAll ds).map (p :: ·)) = _
      rw [e1, e]
      rfl
    · rcases List.mem_cons.mp hq with rfl | hq
      · exact h1
      · exact hn q hq
    · show (known d && knownAll ds) = true
      rw [k1, hk]
      rfl
theorem Av.tup {k n m : Nat} {ds : List D} (h : Avs k n ds) (hm : ds.length * (n + 1) ≤ m) : Av (k + 1) m (.tup ds) := by
  obtain ⟨⟨ps, e, hl, hn⟩, hk⟩ := avs_py h
  refine ⟨⟨.tuple ps, ?_, Rb.Nice.tup hn (by rw [hl]; exact hm)⟩, hk⟩
  show (toPyAll ds).map PyData.tuple = _
  rw [e]
  rfl
theorem Av.lst {k n m : Nat} {ds : List D} (h : Avs k n ds) (hm : ds.length * (n + 1) ≤ m) : Av (k + 1) m (.lst true ds) := by
  obtain ⟨⟨ps, e, hl, hn⟩, hk⟩ := avs_py h
  refine ⟨⟨.list ps, ?_, Rb.Nice.lst hn (by rw [hl]; exact hm)⟩, hk⟩
  show (toPyAll ds).map PyData.list = _
  rw [e]
  rfl
theorem Avs.nil {k n : Nat} : Avs k n [] := fun _ z => nomatch z
theorem Avs.cons {k n : Nat} {d : D} {ds : List D} (h : Av k n d) (t : Avs k n ds) : Avs k n (d :: ds) := fun x hx => by
  rcases List.mem_cons.mp hx with rfl | hx
  · exact h
  · exact t x hx
theorem Avs.app {k n : Nat} {ds es : List D} (h : Avs k n ds) (t : Avs k n es) : Avs k n (ds ++ es) := fun x hx => by
  rcases List.mem_append.mp hx with hx | hx
  · exact h x hx
  · exact t x hx
theorem Avs.ints {ns : List Int} (h : ∀ i ∈ ns, i.natAbs < 10 ^ 99) : Avs 0 0 (ns.map D.int) := fun x hx => by
  obtain ⟨i, hi, rfl⟩ := List.mem_map.mp hx
  exact Av.int (h i hi)
theorem Avs.mono {k n k' n' : Nat} {ds : List D} (h : Avs k n ds) (h1 : k ≤ k') (h2 : n ≤ n') : Avs k' n' ds := fun x hx => (h x hx).mono h1 h2
theorem Avs.rep {k n m : Nat} {ds : List D} (h : Avs k n ds) : Avs k n (List.replicate m ds).flatten := fun x hx => by
  obtain ⟨l, hl, hx⟩ := List.mem_flatten.mp hx
  rw [(List.mem_replicate.mp hl).2] at hx
  exact h x hx
theorem atI_mem {α : Type} {xs : List α} {r : Int} (h0 : 0 ≤ r) (h1 : r < xs.length) : ∃ d, atI xs r = some d ∧ d ∈ xs := by
  obtain ⟨j, rfl⟩ : ∃ j : Nat, r = (j : Int) := ⟨r.toNat, (Int.toNat_of_nonneg h0).symm⟩
  have hj : j < xs.length := by omega
  exact ⟨xs[j], atI_nat (List.getElem?_eq_getElem hj), List.getElem_mem hj⟩
/-! ## odd values -/
end Pu
namespace Pu
open PySem L2 Rb
/-! ## people, plans -/
def natsV (r : List Nat) : List D := r.map fun p : Nat => D.int (p : Int)
def ridersV (r : List Nat) : D := .tup (natsV r)
def planV (plan : List (List Nat)) : D := .tup (plan.map ridersV)
def nI (r : List Nat) : List Int := r.map fun p : Nat => (p : Int)
theorem natsV_eq (r : List Nat) : natsV r = (nI r).map D.int := by unfold natsV nI; rw [List.map_map]; rfl
theorem nI_len (r : List Nat) : (nI r).length = r.length := by unfold nI; rw [List.length_map]
theorem natsV_len (r : List Nat) : (natsV r).length = r.length := by unfold natsV; rw [List.length_map]
theorem nI_asc {r : List Nat} (h : (nI r).Pairwise (· ≤ ·)) (nd : r.Nodup) : r.Pairwise (· < ·) := by
  unfold nI at h
  have h1 := List.pairwise_map.mp h
  have h2 := List.nodup_iff_pairwise_ne.mp nd
  exact (h1.and h2).imp fun ⟨a, b⟩ => by omega
structure PlanPre (bikes : List Int) (n : Nat) (plan : List (List Nat)) : Prop where
  asc : ∀ r ∈ plan, r.Pairwise (· < ·)
  lt : ∀ r ∈ plan, ∀ p ∈ r, p < n
  few : ∀ i, i < plan.length → (plan.getD i []).length ≤ (bikes.getD i 0).toNat + (brM plan i).length
theorem getD_app {α : Type} {l m : List α} {i : Nat} {d : α} (h : i < l.length) : (l ++ m).getD i d = l.getD i d := by
  rw [List.getD_eq_getElem?_getD, List.getD_eq_getElem?_getD, List.getElem?_append_left h]
theorem PlanPre.snoc {bikes : List Int} {n : Nat} {plan : List (List Nat)} {r : List Nat} (h : PlanPre bikes n plan) (h1 : r.Pairwise (· < ·)) (h2 : ∀ p ∈ r, p < n) (h3 : r.length ≤ (bikes.getD plan.length 0).toNat + (brM plan plan.length).length) : PlanPre bikes n (plan ++ [r]) := by
  refine ⟨fun s hs => ?_, fun s hs => ?_, fun i hi => ?_⟩
  · rcases List.mem_append.mp hs with g | g
    · exact h.asc s g
    · rw [List.mem_singleton.mp g]; exact h1
  · rcases List.mem_append.mp hs with g | g
    · exact h.lt s g
    · rw [List.mem_singleton.mp g]; exact h2
  · have hi : i < plan.length + 1 := by rw [List.length_append] at hi; exact hi
    have eb : brM (plan ++ [r]) i = brM plan i := by
      unfold brM
      split
      · rfl
      · exact getD_app (by omega)
    rw [eb]
    by_cases e : i < plan.length
    · rw [getD_app e]
      exact h.few i e
    · have e : i = plan.length := by omega
      subst e
      have : (plan ++ [r]).getD plan.length [] = r := by
        rw [List.getD_eq_getElem?_getD, List.getElem?_append_right (Nat.le_refl _), Nat.sub_self]
        rfl
      rw [this]
      exact h3
theorem PlanPre.ok {bikes : List Int} {n : Nat} {plan : List (List Nat)} (h : PlanPre bikes n plan) (hl : plan.length = bikes.length) (hn : ∀ b ∈ bikes, 0 ≤ b) : PlanOk bikes n plan := by
  refine ⟨hl, hn, h.asc, h.lt, fun i => ?_⟩
  by_cases hi : i < plan.length
  · have := h.few i hi
    have e : (brM plan i).length = if i = 0 then 0 else (plan.getD (i - 1) []).length := by
      unfold brM
      split <;> rfl
    rw [← e]
    exact this
  · rw [List.getD_eq_getElem?_getD, List.getElem?_eq_none (by omega)]
    exact Nat.zero_le _
/-! what is below -/
theorem below_ints {k : Nat} : ∀ (ns : List Int), belowAll k (ns.map D.int) = true
  | [] => rfl
  | n :: ns => below_ints ns
theorem below_nats {k : Nat} (r : List Nat) : belowAll k (natsV r) = true := by rw [natsV_eq]; exact below_ints _
theorem below_plan {k : Nat} : ∀ (plan : List (List Nat)), belowAll k (plan.map ridersV) = true
  | [] => rfl
  | r :: plan => by
    show (belowAll k (natsV r) && belowAll k (plan.map ridersV)) = true
    rw [below_nats, below_plan plan]
    rfl
theorem set_last {A : Sto} {c d : Cl} : (A ++ [c]).set A.length d = A ++ [d] := by
  rw [List.set_append_right _ _ (Nat.le_refl _), Nat.sub_self]
  rfl
theorem Dk.len {S : Sto} {N : Int} {T : Sto} (h : Dk S N T) : S.length = 2 + T.length := by
  obtain ⟨cs, n, rfl, _⟩ := h
  rw [List.length_append]
  rfl
theorem Dk.snoc {S : Sto} {N : Int} {T : Sto} (h : Dk S N T) (c : Cl) : Dk (S ++ [c]) N (T ++ [c]) := by
  obtain ⟨cs, n, rfl, h⟩ := h
  exact ⟨cs, n, by rw [List.append_assoc], h⟩
theorem Dk.take2 {S : Sto} {N : Int} {T : Sto} (h : Dk S N T) : Dk (S.take 2) N [] ∧ S.drop 2 = T ∧ (S.take 2).all (Cl.below 2) = true ∧ (S.take 2).length = 2 := by
  obtain ⟨cs, n, rfl, h⟩ := h
  refine ⟨⟨cs, n, rfl, h⟩, rfl, ?_, rfl⟩
  show (belowAll 2 (cs.map D.int) && ((true && (true && true)) && true)) = true
  rw [below_ints]
  rfl
end Pu
namespace Pu
open PySem L2 Rb
/-! ## what is a plan -/
theorem zipD_lenEq {xs ys : List D} : xs.length = ys.length → (zipD xs ys).length = xs.length := by
  induction xs generalizing ys with
  | nil => intro _; cases ys <;> rfl
  | cons x xs ih =>
    intro h
    match ys, h with
    | y :: ys, h => exact congrArg (· + 1) (ih (ys := ys) (Nat.succ.inj h))
/-! the law's own look -/
end Pu
namespace Pu
open PySem L2 Rb
def tupLe (k : Nat) : D → Bool
  | .tup xs => Nat.ble xs.length k
  | _ => true
def smallD (k : Nat) : D → Bool
  | .tup vs => vs.all (tupLe k)
  | _ => true
theorem tupLe_tup {k : Nat} {xs : List D} (h : xs.length ≤ k) : tupLe k (.tup xs) = true := Nat.ble_eq_true_of_le h
/-- an item of a plan -/
structure Ri (d : D) : Prop where
  av : Av 3 1000 d
  le : tupLe 60 d = true
structure Ok2 (d : D) : Prop where
  av : Av 5 40000 d
  sm : smallD 60 d = true
theorem Ri.tup {ds : List D} (h : Avs 2 20 ds) (hl : ds.length ≤ 40) : Ri (.tup ds) := ⟨Av.tup h (by omega), tupLe_tup (by omega)⟩
theorem Ri.lst {ds : List D} (h : Avs 2 20 ds) (hl : ds.length ≤ 40) : Ri (.lst true ds) := ⟨Av.lst h (by omega), rfl⟩
theorem Ok2.tup {ds : List D} (h : ∀ d ∈ ds, Ri d) (hl : ds.length ≤ 30) : Ok2 (.tup ds) := ⟨(Av.tup (k := 3) (n := 1000) (m := 40000) (fun d hd => (h d hd).av) (by omega)).mono (by decide) (by decide), List.all_eq_true.mpr fun d hd => (h d hd).le⟩
theorem Ok2.lst {ds : List D} (h : ∀ d ∈ ds, Ri d) (hl : ds.length ≤ 30) : Ok2 (.lst true ds) := ⟨(Av.lst (k := 3) (n := 1000) (m := 40000) (fun d hd => (h d hd).av) (by omega)).mono (by decide) (by decide), rfl⟩
end Pu
namespace Pu
open PySem L2 Rb
def tkD (ticks : List Int) : D := .tup (ticks.map D.int)
theorem atI_tick {ticks : List Int} {p : Nat} (h : p < ticks.length) : atI (ticks.map D.int) (p : Int) = some (.int (tickAt ticks p)) := by
  refine atI_nat ?_
  rw [List.getElem?_map, List.getElem?_eq_getElem h]
  unfold tickAt
  rw [List.getD_eq_getElem?_getD, List.getElem?_eq_getElem h]
  rfl
def tickD (ticks : List Int) : D → D
  | .int p => .int (tickAt ticks p.toNat)
  | d => d
theorem tickD_map (ticks : List Int) (r : List Nat) : (natsV r).map (tickD ticks) = (r.map fun p => tickAt ticks p).map D.int := by
  unfold natsV
  rw [List.map_map, List.map_map]
  rfl
theorem bike_ticks_okW {ticks : List Int} {brought : List Nat} {st : Int} {S : Sto} {Q : QD} {E : ED} (h0 : 0 ≤ st) (h1 : st ≤ 50) (hb : ∀ p ∈ brought, p < ticks.length) (hl : brought.length ≤ 20)
    (q : Q (.lst false ((bikesM ticks brought st.toNat).map D.int)) S) : F_bike_ticks [tkD ticks, ridersV brought, .int st] S Q E := by
  unfold F_bike_ticks
  have nl : (natsV brought).length ≤ 20 := by rw [natsV_len]; exact hl
  refine ⟨rfl, szr rfl, ⟨by omega, by omega, szd (by show 1 * st.toNat ≤ 100000; omega)⟩, szd (by show (natsV brought).length ≤ 100000; omega), comp_map (src := []) (g := tickD ticks) (fun _ p => p) (natsV brought) [] (fun x hx => ?_) ?_⟩
  · obtain ⟨p, hp, rfl⟩ := List.mem_map.mp hx
    exact ⟨_, rfl, fun Q' q' => onS (atI_tick (hb p hp)) q'⟩
  rw [List.nil_append, tickD_map]
  have e1 : (List.replicate st.toNat [D.int 0]).flatten = (List.replicate st.toNat (0 : Int)).map D.int := by
    generalize st.toNat = m
    induction m with
    | zero => rfl
    | succ m ih => rw [List.replicate_succ, List.replicate_succ, List.flatten_cons, ih]; rfl
  rw [e1]
  refine ⟨szd (by rw [List.length_map, List.length_replicate, List.length_map, List.length_map]; omega), .inl ⟨List.replicate st.toNat 0 ++ brought.map (fun p => tickAt ticks p), by rw [List.map_append], q⟩⟩
def prD (p : Int × Int) : D := .tup [.int p.1, .int p.2]
def pairD (ticks : List Int) : D → D
  | .int p => .tup [.int (tickAt ticks p.toNat), .int p]
  | d => d
theorem pairD_map (ticks : List Int) (r : List Nat) : (natsV r).map (pairD ticks) = (r.map fun p => (tickAt ticks p, (p : Int))).map prD := by
  unfold natsV
  rw [List.map_map, List.map_map]
  rfl
def zpD (z : (Int × Int) × Int) : D := .tup [prD z.1, .int z.2]
theorem zipD_map : ∀ (q : List (Int × Int)) (b : List Int), zipD (q.map fun p => D.tup [.int p.1, .int p.2]) (b.map D.int) = (q.zip b).map zpD
  | [], _ => rfl
  | _ :: _, [] => rfl
  | x :: q, y :: b => by
    show _ :: zipD (q.map fun p => D.tup [.int p.1, .int p.2]) (b.map D.int) = _ :: (q.zip b).map zpD
    rw [zipD_map q b]
    rfl
theorem ixN_nat {n m : Nat} (h : m < n) : ixN n (m : Int) = some m := by
  unfold ixN
  rw [if_pos (by omega), if_pos (by omega), Int.toNat_natCast]
theorem leaving_okW {ticks : List Int} {riders brought : List Nat} {st : Nat} {S : Sto} {Q : QD} {E : ED} (hs : S = []) (hr : ∀ p ∈ riders, p < ticks.length) (hl : riders.length ≤ 20) (ht : ticks.length ≤ 20) (h2 : riders.length ≤ st + brought.length) (h12 : st ≤ 50) (hb10 : brought.length ≤ 20)
    (q : Q (.lst false ((leaveM ticks riders brought st).map D.int)) []) : F_leaving_ticks [tkD ticks, ridersV riders, .lst false ((bikesM ticks brought st).map D.int)] S Q E := by
  subst hs
  unfold F_leaving_ticks
  have nl : (natsV riders).length ≤ 20 := by rw [natsV_len]; exact hl
  refine ⟨rfl, szd (by show (natsV riders).length ≤ 100000; omega), comp_map (src := []) (g := pairD ticks) (fun _ p => p) (natsV riders) [] (fun x hx => ?_) ?_⟩
  · obtain ⟨p, hp, rfl⟩ := List.mem_map.mp hx
    exact ⟨_, rfl, fun Q' q' => onS (atI_tick (hr p hp)) ⟨szr rfl, q'⟩⟩
  rw [List.nil_append, pairD_map]
  refine .inr ⟨riders.map fun p => (tickAt ticks p, (p : Int)), rfl, ?_⟩
  have e1 : srtP (riders.map fun p => (tickAt ticks p, (p : Int))) = queueM ticks riders := rfl
  rw [e1]
  have ez : zipD ((queueM ticks riders).map fun p => D.tup [.int p.1, .int p.2]) ((bikesM ticks brought st).map D.int) = (pairsM ticks riders brought st).map zpD := zipD_map _ _
  have hS : (ticks.map D.int).length = ticks.length := List.length_map ..
  show dLoop _ _ [] (zipD ((queueM ticks riders).map fun p => D.tup [.int p.1, .int p.2]) ((bikesM ticks brought st).map D.int)) _ _ _ _
  rw [ez]
  refine for_inv (src := []) _ (fun i ρ S' => S' = [.lst ((setF ticks (((pairsM ticks riders brought st).take i).map fun z => (z.1.2.toNat, mx z.1.1 z.2))).map D.int)] ∧ ∃ y4 y5 y6 y7, ρ = [some (tkD ticks), some (ridersV riders), some (.lst false ((bikesM ticks brought st).map D.int)), some (.cell 0), y4, y5, y6, y7]) ⟨rfl, _, _, _, _, rfl⟩ ?_ ?_
  · rintro i x ρ S' K hx hK ⟨rfl, y4, y5, y6, y7, rfl⟩
    rw [List.getElem?_map] at hx
    obtain ⟨z, hz, rfl⟩ := Option.map_eq_some_iff.mp hx
    obtain ⟨p, hp, ep⟩ := pairs_mem (List.mem_of_getElem? hz)
    have hpl := hr p hp
    have e2 : z.1.2 = (p : Int) := by rw [ep]
    refine ⟨rfl, rfl, ?_⟩
    have hsn := setF_snoc ticks (((pairsM ticks riders brought st).take i).map fun z => (z.1.2.toNat, mx z.1.1 z.2)) (z.1.2.toNat, mx z.1.1 z.2)
    have hll : (setF ticks (((pairsM ticks riders brought st).take i).map fun z => (z.1.2.toNat, mx z.1.1 z.2))).length = ticks.length := setF_len _ _
    have hK2 : ∀ ρ', (∃ y4 y5 y6 y7, ρ' = [some (tkD ticks), some (ridersV riders), some (.lst false ((bikesM ticks brought st).map D.int)), some (.cell 0), y4, y5, y6, y7]) → K ρ' [.lst (((setF ticks (((pairsM ticks riders brought st).take i).map fun z => (z.1.2.toNat, mx z.1.1 z.2))).map D.int).set p (.int (mx z.1.1 z.2)))] := fun ρ' he => hK ρ' _ ⟨by
      rw [take_snoc hz, List.map_append]
      rw [show ([z].map fun z : (Int × Int) × Int => (z.1.2.toNat, mx z.1.1 z.2)) = [(z.1.2.toNat, mx z.1.1 z.2)] from rfl, hsn, List.map_set, e2, Int.toNat_natCast], he⟩
    generalize setF ticks (((pairsM ticks riders brought st).take i).map fun z => (z.1.2.toNat, mx z.1.1 z.2)) = L at hK2 hll
    refine onS (o := ixN (L.map D.int).length z.1.2) (a := p) ?_ ?_
    · rw [e2]
      refine ixN_nat ?_
      rw [List.length_map, hll]
      exact hpl
    · exact hK2 _ ⟨_, _, _, _, rfl⟩
  · rintro ρ S' ⟨rfl, y4, y5, y6, y7, rfl⟩
    rw [List.length_map, List.take_length]
    refine ⟨⟨rfl, rfl⟩, onS (a := .lst false ((leaveM ticks riders brought st).map D.int)) ?_ q⟩
    show (if belowAll 0 _ = true then some (D.lst false _) else none) = _
    rw [below_ints]
    rfl
end Pu
namespace Pu
open PySem L2 Rb
def rowsV (rows : List (List Int)) : List D := rows.map tkD
def stepD (wk rd : Int) (r : List Nat) : D → D
  | .tup [.int p, .int t] => .int (t + if p ∈ nI r then rd else wk)
  | d => d
theorem nI_mem {r : List Nat} {p : Nat} : (p : Int) ∈ nI r ↔ p ∈ r := by
  unfold nI
  constructor
  · intro h
    obtain ⟨q, hq, e⟩ := List.mem_map.mp h
    have : q = p := by omega
    exact this ▸ hq
  · intro h
    exact List.mem_map.mpr ⟨p, h, rfl⟩
theorem step_map {wk rd : Int} {r : List Nat} {l : List Int} : (enumD (l.map D.int)).map (stepD wk rd r) = (l.mapIdx fun p t => t + if p ∈ r then rd else wk).map D.int := by
  unfold enumD
  apply List.ext_getElem?
  intro i
  rw [List.getElem?_map, List.getElem?_mapIdx, List.getElem?_map, List.getElem?_map, List.getElem?_mapIdx]
  cases l[i]? with
  | none => rfl
  | some t =>
    show some (D.int (t + if (i : Int) ∈ nI r then rd else wk)) = some (D.int (t + if i ∈ r then rd else wk))
    by_cases h : i ∈ r
    · rw [if_pos h, if_pos (nI_mem.mpr h)]
    · rw [if_neg h, if_neg (fun z => h (nI_mem.mp z))]
theorem rowsM_succ {wk rd : Int} {bs starts : List Int} {plan : List (List Nat)} {i : Nat} : rowsM wk rd bs starts plan (i + 1) = rowsM wk rd bs starts plan i ++ [tkM wk rd bs starts plan (i + 1)] := by
  unfold rowsM
  rw [List.range_succ, List.map_append]
  rfl
theorem rowsM_last {wk rd : Int} {bs starts : List Int} {plan : List (List Nat)} {i : Nat} : atI (rowsV (rowsM wk rd bs starts plan i)) (-1) = some (tkD (tkM wk rd bs starts plan i)) := by
  have e : rowsV (rowsM wk rd bs starts plan i) = rowsV ((List.range i).map (tkM wk rd bs starts plan)) ++ [tkD (tkM wk rd bs starts plan i)] := by
    unfold rowsM rowsV
    rw [List.range_succ, List.map_append, List.map_append]
    rfl
  rw [e]
  exact atI_last _ _
theorem below_rows {k : Nat} : ∀ rows : List (List Int), belowAll k (rowsV rows) = true
  | [] => rfl
  | r :: rows => by
    show (belowAll k (r.map D.int) && belowAll k (rowsV rows)) = true
    rw [below_ints, below_rows rows]
    rfl
theorem ticks_okW {wk rd : Int} {bs starts : List Int} {n : Nat} {plan : List (List Nat)} {S : Sto} {Q : QD} {E : ED} (hs : S = []) (ok : PlanOk bs n plan) (hn : starts.length = n) (n2 : n ≤ 20) (l2 : bs.length ≤ 12) (hb : ∀ b ∈ bs, 0 ≤ b ∧ b ≤ 50)
    (q : Q (.tup (rowsV (rowsM wk rd bs starts plan bs.length))) []) : F_ticks_of [roadV wk rd bs, tkD starts, planV plan] S Q E := by
  subst hs
  unfold F_ticks_of
  have hl := ok.len
  refine ⟨rfl, rfl, szr rfl, szr rfl, ?_⟩
  show dLoop _ _ [] (zipD (plan.map ridersV) (bs.map D.int)) _ _ _ _
  refine for_inv (src := []) _ (fun i ρ S' => S' = [.lst (rowsV (rowsM wk rd bs starts plan i))] ∧ ∃ y8 y9 y10 y11 y12 y13, ρ = [some (roadV wk rd bs), some (tkD starts), some (planV plan), some (.int wk), some (.int rd), some (.tup (bs.map D.int)), some (.cell 0), some (ridersV (brM plan i)), y8, y9, y10, y11, y12, y13]) ⟨rfl, _, _, _, _, _, _, rfl⟩ ?_ ?_
  · rintro i x ρ S' K hx hK ⟨rfl, y8, y9, y10, y11, y12, y13, rfl⟩
    obtain ⟨u, y, hu, hy, rfl⟩ := zipD_get hx
    rw [List.getElem?_map] at hu hy
    obtain ⟨r, hri, rfl⟩ := Option.map_eq_some_iff.mp hu
    obtain ⟨b, hbi, rfl⟩ := Option.map_eq_some_iff.mp hy
    have ib : i < bs.length := (List.getElem?_eq_some_iff.mp hbi).1
    have hbb := hb b (List.mem_of_getElem? hbi)
    have hrm := List.mem_of_getElem? hri
    have er : plan.getD i [] = r := by rw [List.getD_eq_getElem?_getD, hri]; rfl
    have eb : bs.getD i 0 = b := by rw [List.getD_eq_getElem?_getD, hbi]; rfl
    have brm : ∀ p ∈ brM plan i, p < n := fun p hp => by
      unfold brM at hp
      split at hp
      · cases hp
      · by_cases e : i - 1 < plan.length
        · rw [List.getD_eq_getElem?_getD, List.getElem?_eq_getElem e] at hp
          exact ok.lt _ (List.getElem_mem e) p hp
        · rw [List.getD_eq_getElem?_getD, List.getElem?_eq_none (by omega)] at hp
          cases hp
    have brl : (brM plan i).length ≤ 20 := by
      unfold brM
      split
      · exact Nat.zero_le _
      · by_cases e : i - 1 < plan.length
        · rw [List.getD_eq_getElem?_getD, List.getElem?_eq_getElem e]
          exact Nat.le_trans (nodup_le ((ok.asc _ (List.getElem_mem e)).imp fun h => Nat.ne_of_lt h) (ok.lt _ (List.getElem_mem e))) n2
        · rw [List.getD_eq_getElem?_getD, List.getElem?_eq_none (by omega)]
          exact Nat.zero_le _
    have rl : r.length ≤ 20 := Nat.le_trans (nodup_le ((ok.asc _ hrm).imp fun h => Nat.ne_of_lt h) (ok.lt _ hrm)) n2
    have tl : (tkM wk rd bs starts plan i).length = n := by rw [tkM_len, hn]
    have few : r.length ≤ b.toNat + (brM plan i).length := by
      have := ok.few i
      rw [er, eb] at this
      have e : (brM plan i).length = if i = 0 then 0 else (plan.getD (i - 1) []).length := by
        unfold brM
        split <;> rfl
      rw [e]
      exact this
    have hK2 : ∀ ρ', (∃ y8 y9 y10 y11 y12 y13, ρ' = [some (roadV wk rd bs), some (tkD starts), some (planV plan), some (.int wk), some (.int rd), some (.tup (bs.map D.int)), some (.cell 0), some (ridersV r), y8, y9, y10, y11, y12, y13]) → K ρ' [.lst (rowsV (rowsM wk rd bs starts plan i) ++ [.tup ((rowM (tkM wk rd bs starts plan i) r (brM plan i) b.toNat wk rd).map D.int)])] := fun ρ' he => hK ρ' _ ⟨by
      rw [rowsM_succ]
      have : tkM wk rd bs starts plan (i + 1) = rowM (tkM wk rd bs starts plan i) r (brM plan i) b.toNat wk rd := by
        show rowM _ (plan.getD i []) _ (bs.getD i 0).toNat _ _ = _
        rw [er, eb]
      rw [this]
      unfold rowsV
      rw [List.map_append]
      rfl, by
      have : brM plan (i + 1) = r := by
        unfold brM
        rw [if_neg (Nat.succ_ne_zero i), Nat.add_sub_cancel, er]
      rw [this]
      exact he⟩
    have rll : (rowsV (rowsM wk rd bs starts plan i)).length = i + 1 := by unfold rowsV rowsM; rw [List.length_map, List.length_map, List.length_range]
    have lst := rowsM_last (wk := wk) (rd := rd) (bs := bs) (starts := starts) (plan := plan) (i := i)
    generalize rowsV (rowsM wk rd bs starts plan i) = RR at hK2 rll lst
    generalize tkM wk rd bs starts plan i = tk at hK2 tl lst
    generalize brM plan i = br at hK2 brm brl few
    refine ⟨rfl, onS lst ?_⟩
    refine bike_ticks_okW (by omega) (by omega) (fun p hp => by rw [tl]; exact brm p hp) brl ?_
    have bl : belowAll 0 [tkD tk, ridersV r, .lst false ((bikesM tk br b.toNat).map D.int)] = true := by
      show (belowAll 0 (tk.map D.int) && (belowAll 0 (natsV r) && (belowAll 0 ((bikesM tk br b.toNat).map D.int) && true))) = true
      rw [below_ints, below_nats, below_ints]
      rfl
    refine ⟨⟨bl, rfl⟩, leaving_okW rfl (fun p hp => by rw [tl]; exact ok.lt r hrm p hp) rl (by omega) few (by omega) brl ⟨rfl, ?_⟩⟩
    have ll : ((leaveM tk r br b.toNat).map D.int).length = n := by rw [List.length_map, leaveM_len, tl]
    have el : (enumD ((leaveM tk r br b.toNat).map D.int)).length = n := by unfold enumD; rw [List.length_mapIdx, ll]
    refine ⟨szd (by show (enumD ((leaveM tk r br b.toNat).map D.int)).length ≤ 100000; omega), comp_map (src := []) (g := stepD wk rd r) (fun _ p => p) (enumD ((leaveM tk r br b.toNat).map D.int)) [] (fun x hx => ?_) ?_⟩
    · obtain ⟨j, hj, ej⟩ := List.getElem_of_mem hx
      obtain ⟨y, hy, rfl⟩ := enumD_get (List.getElem?_eq_some_iff.mpr ⟨hj, ej⟩)
      rw [List.getElem?_map] at hy
      obtain ⟨t, ht, rfl⟩ := Option.map_eq_some_iff.mp hy
      refine ⟨_, rfl, fun Q' q' => onS (a := nI r) (by show intsOf (natsV r) = _; rw [natsV_eq]; exact intsOf_map _) ?_⟩
      have q2 : Q' (.int (t + if (j : Int) ∈ nI r then rd else wk)) _ := q'
      refine ifB (fun c => ?_) fun c => ?_
      · have c' : (j : Int) ∈ nI r := of_decide_eq_true c
        rw [if_pos c'] at q2
        exact q2
      · have c' : ¬ (j : Int) ∈ nI r := of_decide_eq_false c
        rw [if_neg c'] at q2
        exact q2
    rw [List.nil_append, step_map]
    have e9 : ((leaveM tk r br b.toNat).mapIdx fun p t => t + if p ∈ r then rd else wk) = rowM tk r br b.toNat wk rd := rfl
    rw [e9]
    refine ⟨Nat.lt_of_le_of_lt (Nat.le_of_eq rll) (Nat.lt_of_lt_of_le (show i + 1 < 100 by omega) (by decide)), ?_⟩
    exact hK2 _ ⟨_, _, _, _, _, _, rfl⟩
  · rintro ρ S' ⟨rfl, y8, y9, y10, y11, y12, y13, rfl⟩
    have zl : (zipD (plan.map ridersV) (bs.map D.int)).length = bs.length := by
      rw [zipD_lenEq (by rw [List.length_map, List.length_map, hl]), List.length_map, hl]
    rw [zl]
    refine ⟨⟨rfl, rfl⟩, onS (a := .tup (rowsV (rowsM wk rd bs starts plan bs.length))) ?_ q⟩
    show (if belowAll 0 _ = true then some (D.tup _) else none) = _
    rw [below_rows]
    rfl
end Pu
namespace Pu
open PySem L2 Rb
theorem below_args {k : Nat} {wk rd : Int} {bs starts : List Int} {plan : List (List Nat)} : belowAll k [roadV wk rd bs, tkD starts, planV plan] = true := by
  show ((true && (true && (belowAll k (bs.map D.int) && true))) && (belowAll k (starts.map D.int) && (belowAll k (plan.map ridersV) && true))) = true
  rw [below_ints, below_ints, below_plan]
  rfl
theorem finish_okW {wk rd : Int} {bs starts : List Int} {plan : List (List Nat)} {S : Sto} {Q : QD} {E : ED} (ok : PlanOk bs starts.length plan) (n1 : 1 ≤ starts.length) (n2 : starts.length ≤ 20) (l2 : bs.length ≤ 12) (hb : ∀ b ∈ bs, 0 ≤ b ∧ b ≤ 50)
    (q : Q (.int (maxL (tkM wk rd bs starts plan bs.length))) S) : F_finish_of [roadV wk rd bs, tkD starts, planV plan] S Q E := by
  unfold F_finish_of
  refine ⟨rfl, ⟨below_args, rfl⟩, ticks_okW rfl ok rfl n2 l2 hb ⟨rfl, ?_⟩⟩
  refine onS (a := tkD (tkM wk rd bs starts plan bs.length)) rowsM_last (onS (intsOf_map _) ⟨fun z => ?_, q⟩)
  have := tkM_len (walk := wk) (ride := rd) (bikes := bs) (starts := starts) (plan := plan) bs.length
  rw [z] at this
  simp at this
  omega
end Pu
namespace Pu
open PySem L2 Rb
theorem cut_to {xs : List D} {m : Nat} : cutD xs none (some (m : Int)) = xs.take m := by
  unfold cutD
  have h1 : HT.sIx xs.length 0 none = 0 := HT.sIx_none ..
  have h2 : HT.sIx xs.length xs.length (some (m : Int)) = min m xs.length := HT.sIx_nat ..
  rw [h1, h2, List.drop_zero, Nat.sub_zero]
  by_cases h : m ≤ xs.length
  · rw [Nat.min_eq_left h]
  · rw [Nat.min_eq_right (by omega), List.take_length, List.take_of_length_le (by omega)]
def countsM (bs : List Int) : List Int := (List.range bs.length).map fun k => (bs.take (k + 1)).sum
def cntD (bs : List Int) : D → D
  | .int k => .int (bs.take (k + 1).toNat).sum
  | d => d
theorem counts_ok {wk rd : Int} {bs : List Int} {S : Sto} {Q : QD} {E : ED} (l2 : bs.length ≤ 12) (q : Q (.tup ((countsM bs).map D.int)) S) : F_counts_of [roadV wk rd bs] S Q E := by
  unfold F_counts_of
  have hl : (bs.map D.int).length = bs.length := List.length_map ..
  refine ⟨rfl, ⟨by omega, by omega⟩, szd (by rw [rangeD_len]; omega), comp_map (src := []) (g := cntD bs) (fun _ p => p) (rangeD 0 ((bs.map D.int).length : Int).toNat) [] (fun x hx => ?_) ?_⟩
  · obtain ⟨k, hk, ek⟩ := List.getElem_of_mem hx
    obtain ⟨hk2, rfl⟩ := rangeD_get (List.getElem?_eq_some_iff.mpr ⟨hk, ek⟩)
    refine ⟨_, rfl, fun Q' q' => ?_⟩
    have e1 : (0 + (k : Int)) + 1 = ((k + 1 : Nat) : Int) := by omega
    have e2 : cutD (bs.map D.int) none (some (0 + (k : Int) + 1)) = (bs.take (k + 1)).map D.int := by rw [e1, cut_to, List.map_take]
    have q2 : Q' (.int (bs.take (0 + (k : Int) + 1).toNat).sum) S := q'
    rw [e1, Int.toNat_natCast] at q2
    refine onS (a := bs.take (k + 1)) ?_ q2
    show intsOf (cutD (bs.map D.int) none (some (0 + (k : Int) + 1))) = _
    rw [e2]
    exact intsOf_map _
  rw [List.nil_append]
  have e : (rangeD 0 ((bs.map D.int).length : Int).toNat).map (cntD bs) = (countsM bs).map D.int := by
    rw [Int.toNat_natCast, hl]
    unfold rangeD countsM
    rw [List.map_map, List.map_map]
    refine List.map_congr_left fun k _ => ?_
    show D.int (bs.take (0 + (k : Int) + 1).toNat).sum = D.int (bs.take (k + 1)).sum
    have e1 : (0 + (k : Int)) + 1 = ((k + 1 : Nat) : Int) := by omega
    rw [e1, Int.toNat_natCast]
  rw [e]
  exact q
end Pu
namespace Pu
open PySem L2 Rb
/-! ## parts of a road -/
theorem getD_take {α : Type} {l : List α} {i k : Nat} {d : α} (h : i < k) : (l.take k).getD i d = l.getD i d := by
  rw [List.getD_eq_getElem?_getD, List.getD_eq_getElem?_getD, List.getElem?_take_of_lt h]
theorem PlanOk.take {bs : List Int} {n k : Nat} {plan : List (List Nat)} (ok : PlanOk bs n plan) (hk : k ≤ bs.length) : PlanOk (bs.take k) n (plan.take k) := by
  refine ⟨by rw [List.length_take, List.length_take, ok.len], fun b h => ok.nn b (List.mem_of_mem_take h), fun r h => ok.asc r (List.mem_of_mem_take h), fun r h => ok.lt r (List.mem_of_mem_take h), fun i => ?_⟩
  by_cases h : i < k
  · rw [getD_take h, getD_take h]
    have := ok.few i
    by_cases z : i = 0
    · rw [if_pos z] at this ⊢
      exact this
    · rw [if_neg z] at this ⊢
      rw [getD_take (by omega)]
      exact this
  · have : (plan.take k).getD i [] = [] := by
      rw [List.getD_eq_getElem?_getD, List.getElem?_eq_none (by rw [List.length_take]; omega)]
      rfl
    rw [this]
    exact Nat.zero_le _
/-! ## no tick is below 0: the bicycles that stand there come first -/
end Pu
namespace Pu
open PySem L2 Rb
/-! ## all ticks moved by one growing map: shifts and multiples -/
structure Grow (f : Int → Int) : Prop where
  lt : ∀ a b, a < b → f a < f b
  nn : ∀ t, 0 ≤ t → 0 ≤ f t
section
variable {f : Int → Int} (G : Grow f)
include G
theorem Grow.le {a b : Int} (h : a ≤ b) : f a ≤ f b := by
  rcases Int.lt_or_eq_of_le h with h | h
  · exact Int.le_of_lt (G.lt a b h)
  · rw [h]; exact Int.le_refl _
end
theorem br_lt {bs : List Int} {n : Nat} {plan : List (List Nat)} (ok : PlanOk bs n plan) (i : Nat) : (∀ p ∈ plan.getD i [], p < n) ∧ ∀ p ∈ brM plan i, p < n := by
  have go : ∀ i, ∀ p ∈ plan.getD i [], p < n := fun i p hp => by
    by_cases e : i < plan.length
    · rw [List.getD_eq_getElem?_getD, List.getElem?_eq_getElem e] at hp
      exact ok.lt _ (List.getElem_mem e) p hp
    · rw [List.getD_eq_getElem?_getD, List.getElem?_eq_none (by omega)] at hp
      cases hp
  refine ⟨go i, fun p hp => ?_⟩
  unfold brM at hp
  split at hp
  · cases hp
  · exact go _ p hp
end Pu
namespace Pu
open PySem L2 Rb
/-! ## one road behind the other -/
theorem getD_right {α : Type} {l m : List α} {i : Nat} {d : α} : (l ++ m).getD (l.length + i) d = m.getD i d := by
  rw [List.getD_eq_getElem?_getD, List.getD_eq_getElem?_getD, List.getElem?_append_right (by omega), Nat.add_sub_cancel_left]
section
variable {wk rd : Int} {bs bs2 starts : List Int} {plan plan2 : List (List Nat)}
theorem PlanOk.join {n : Nat} (ok : PlanOk bs n plan) (ok2 : PlanOk bs2 n plan2) : PlanOk (bs ++ bs2) n (plan ++ plan2) := by
  have hl := ok.len
  refine ⟨by rw [List.length_append, List.length_append, ok.len, ok2.len], fun b h => ?_, fun r h => ?_, fun r h => ?_, fun i => ?_⟩
  · rcases List.mem_append.mp h with h | h
    · exact ok.nn b h
    · exact ok2.nn b h
  · rcases List.mem_append.mp h with h | h
    · exact ok.asc r h
    · exact ok2.asc r h
  · rcases List.mem_append.mp h with h | h
    · exact ok.lt r h
    · exact ok2.lt r h
  · by_cases h : i < bs.length
    · rw [getD_app (by omega), getD_app h]
      have := ok.few i
      by_cases z : i = 0
      · rw [if_pos z] at this ⊢
        exact this
      · rw [if_neg z] at this ⊢
        rw [getD_app (by omega)]
        exact this
    · obtain ⟨j, rfl⟩ : ∃ j, i = bs.length + j := ⟨i - bs.length, by omega⟩
      have e : (plan ++ plan2).getD (bs.length + j) [] = plan2.getD j [] := by rw [← hl]; exact getD_right
      rw [e, getD_right]
      have := ok2.few j
      by_cases z : j = 0
      · rw [if_pos z] at this
        omega
      · rw [if_neg z] at this
        rw [if_neg (by omega)]
        have e2 : bs.length + j - 1 = plan.length + (j - 1) := by omega
        rw [e2, getD_right]
        exact this
end
end Pu
namespace Pu
open PySem L2 Rb
structure RoadOk (wk rd : Int) (bs : List Int) : Prop where
  rd1 : 1 ≤ rd
  lt : rd < wk
  w2 : wk ≤ 1000
  l1 : 1 ≤ bs.length
  l2 : bs.length ≤ 12
  hb : ∀ b ∈ bs, 0 ≤ b ∧ b ≤ 12
end Pu
namespace Pu
open PySem L2 Rb
theorem RoadOk.take {wk rd : Int} {bs : List Int} (h : RoadOk wk rd bs) {k : Nat} (h1 : 1 ≤ k) : RoadOk wk rd (bs.take k) :=
  ⟨h.rd1, h.lt, h.w2, by rw [List.length_take]; have := h.l1; omega, by rw [List.length_take]; have := h.l2; omega, fun b hb => h.hb b (List.mem_of_mem_take hb)⟩
end Pu
namespace Pu
open PySem L2 Rb
/-- the end of a def that has its own cells behind the deck -/
theorem ret2 {S S' T : Sto} {N : Int} {d : D} {Q : QD} (hS : S.length = 2) (dk : Dk S' N T) (hb : ∃ d', frz S' 2 d = some d' ∧ ∀ S2, Dk S2 N [] → S2.length = 2 → Q d' S2) :
    ((S'.take S.length).length = S.length ∧ (S'.take S.length).all (Cl.below S.length) = true) ∧ onSome (frz S' S.length d) fun d' => Q d' (S'.take S.length) := by
  rw [hS]
  obtain ⟨d1, d2, d3, d4⟩ := dk.take2
  obtain ⟨d', e, q⟩ := hb
  exact ⟨⟨d4, d3⟩, onS e (q _ d1 d4)⟩
theorem frz_below {S : Sto} {n : Nat} {d : D} (hc : ∀ k, d ≠ .cell k) (h : below n d = true) : frz S n d = some d := by
  cases d with
  | cell k => exact absurd rfl (hc k)
  | _ => simp only [frz, h, if_true]
theorem below_roadV {k : Nat} {wk rd : Int} {bs : List Int} : below k (roadV wk rd bs) = true := by
  show (true && (true && (belowAll k (bs.map D.int) && true))) = true
  rw [below_ints]
  rfl
/-- a call that sees the deck only -/
theorem Dk.bel {S T : Sto} {N : Int} (h : Dk S N T) : (S.take 2).all (Cl.below 2) = true := h.take2.2.2.1
theorem Dk.app {S T : Sto} {N : Int} (h : Dk S N []) : Dk (S ++ T) N T := by
  obtain ⟨cs, n, rfl, h⟩ := h
  exact ⟨cs, n, by rw [List.append_nil], h⟩
theorem Dk.l2 {S T S1 : Sto} {N : Int} (h : Dk S N T) (l : S1.length = 2) : S1.length = (S.take 2).length := l.trans h.take2.2.2.2.symm
theorem Dk.back {S T S1 : Sto} {N M : Int} (h : Dk S N T) (d : Dk S1 M []) : Dk (S1 ++ S.drop 2) M T := by
  rw [h.take2.2.1]
  exact d.app
end Pu
namespace Pu
open PySem L2 Rb
/-! ## texts of small signs -/
def Fine (x : Str) : Prop := ∀ c ∈ x.cps.toList, c < 1114112
theorem app_cps (a b : Str) : (a ++ b).cps.toList = a.cps.toList ++ b.cps.toList := by
  show (a.cps ++ b.cps).toList = _
  exact Array.toList_append
theorem Fine.app {a b : Str} (ha : Fine a) (hb : Fine b) : Fine (a ++ b) := fun c hc => by
  rw [app_cps] at hc
  rcases List.mem_append.mp hc with h | h
  · exact ha c h
  · exact hb c h
theorem fine_of {x : Str} (h : x.cps.toList.all (fun c => decide (c < 1114112)) = true) : Fine x := fun c hc => of_decide_eq_true (List.all_eq_true.mp h c hc)
theorem fine_join {sep : Str} (hs : Fine sep) : ∀ {ts : List Str}, (∀ t ∈ ts, Fine t) → Fine (Str.join sep ts)
  | [], _ => fine_of rfl
  | [x], h => h x List.mem_cons_self
  | x :: y :: r, h => by
    show Fine (x ++ sep ++ Str.join sep (y :: r))
    exact ((h x List.mem_cons_self).app hs).app (fine_join hs fun t ht => h t (List.mem_cons_of_mem _ ht))
theorem fine_from : ∀ (ts : List Str) (k : Nat) (acc : Str), Fine acc → (∀ t ∈ ts, Fine t) → Fine (textFrom k acc ts)
  | [], _, acc, ha, _ => ha
  | t :: ts, k, acc, ha, h => by
    show Fine (textFrom (k + 1) (acc ++ (if k > 0 then ", " else "" : String) ++ t) ts)
    refine fine_from ts (k + 1) _ ((ha.app ?_).app (h t List.mem_cons_self)) fun x hx => h x (List.mem_cons_of_mem _ hx)
    split
    · exact fine_of (by decide)
    · exact fine_of (by decide)
theorem fine_int (i : Int) : Fine (PyData.int i).shown := fun c hc => by
  by_cases h : c < 1114112
  · exact h
  · exact absurd hc (PyProof.Rows.shown_int_free' ⟨by omega, by omega⟩ i)
theorem fine_list {ts : List Str} (h : ∀ t ∈ ts, Fine t) : Fine (listText ts) := (fine_from ts 0 _ (fine_of (by decide)) h).app (fine_of (by decide))
theorem fine_tuple {ts : List Str} (h : ∀ t ∈ ts, Fine t) : Fine (tupleText ts) := by
  unfold tupleText
  refine ((fine_of (by decide)).app (fine_join (fine_of (by decide)) h)).app ?_
  split
  · exact fine_of (by decide)
  · exact fine_of (by decide)
/-! ## repr and == of values without dicts -/
structure RepP (k n : Nat) (p : PyData) : Prop where
  nice : Rb.Nice k n p
  nod : p.hasDict = false
  lay : PyData.canLay0 p = true
  fine : Fine p.shown
structure Rep (k n : Nat) (d : D) : Prop where
  py : ∃ p, toPy d = some p ∧ RepP k n p
theorem RepP.mono {k n k' n' : Nat} {p : PyData} (h : RepP k n p) (h1 : k ≤ k') (h2 : n ≤ n') : RepP k' n' p := ⟨h.nice.mono h1 h2, h.nod, h.lay, h.fine⟩
theorem Rep.mono {k n k' n' : Nat} {d : D} (h : Rep k n d) (h1 : k ≤ k') (h2 : n ≤ n') : Rep k' n' d := by
  obtain ⟨p, e, hp⟩ := h.py
  exact ⟨p, e, hp.mono h1 h2⟩
theorem Rep.int {i : Int} (h1 : -1000000000000 ≤ i) (h2 : i ≤ 1000000000000) : Rep 0 0 (.int i) := ⟨_, rfl, Rb.Nice.int (Nat.lt_of_lt_of_le (show i.natAbs < 10000000000000 by omega) (by decide)), rfl, rfl, fine_int i⟩
theorem Rep.non : Rep 0 0 .non := ⟨_, rfl, Rb.Nice.none, rfl, rfl, fine_of (by decide)⟩
theorem Rep.bl {b : Bool} : Rep 0 0 (.bl b) := ⟨_, rfl, Rb.Nice.bool, rfl, rfl, by cases b <;> exact fine_of (by decide)⟩
theorem Rep.str {x : Str} {n : Nat} (h : x.cps.size ≤ n) (hx : ∀ c ∈ x.cps.toList, c < 16 ^ 8) (ho : PyData.canLay0 (.str x) = true) (hf : Fine (PyData.str x).shown) : Rep 0 n (.str x) := ⟨_, rfl, Rb.Nice.str h hx, rfl, ho, hf⟩
theorem reps_py {k n : Nat} : ∀ {ds : List D}, (∀ d ∈ ds, Rep k n d) → ∃ ps, toPyAll ds = some ps ∧ ps.length = ds.length ∧ (∀ p ∈ ps, Rb.Nice k n p) ∧ PyData.hasDictAll ps = false ∧ PyData.canLayAll0 ps = true ∧ ∀ t ∈ PyData.shownAll ps, Fine t
  | [], _ => ⟨[], rfl, rfl, (fun _ z => nomatch z), rfl, rfl, fun _ z => nomatch z⟩
  | d :: ds, h => by
    obtain ⟨p, e, hn, hd, hc, hf⟩ := (h d List.mem_cons_self).py
    obtain ⟨ps, e2, hl, hn2, hd2, hc2, hf2⟩ := reps_py (ds := ds) fun x hx => h x (List.mem_cons_of_mem _ hx)
    refine ⟨p :: ps, ?_, congrArg Nat.succ hl, fun q hq => ?_, ?_, ?_, fun t ht => ?_⟩
    · show (toPy d).bind _ = _
      rw [e, e2]
      rfl
    · rcases List.mem_cons.mp hq with rfl | hq
      · exact hn
      · exact hn2 q hq
    · simp only [PyData.hasDictAll, hd, hd2, Bool.or_self]
    · simp only [PyData.canLayAll0, hc, hc2, Bool.and_self]
    · rcases List.mem_cons.mp (show t ∈ p.shown :: PyData.shownAll ps from ht) with rfl | ht
      · exact hf
      · exact hf2 t ht
theorem Rep.tup {k n m : Nat} {ds : List D} (h : ∀ d ∈ ds, Rep k n d) (hm : ds.length * (n + 1) ≤ m) : Rep (k + 1) m (.tup ds) := by
  obtain ⟨ps, e, hl, hn, hd, hc, hf⟩ := reps_py h
  refine ⟨.tuple ps, ?_, Rb.Nice.tup hn (by rw [hl]; exact hm), ?_, ?_, ?_⟩
  · show (toPyAll ds).map PyData.tuple = _
    rw [e]
    rfl
  · simp only [PyData.hasDict, hd]
  · simp only [PyData.canLay0, hc]
  · simp only [PyData.shown]
    exact fine_tuple hf
theorem Rep.lst {k n m : Nat} {b : Bool} {ds : List D} (h : ∀ d ∈ ds, Rep k n d) (hm : ds.length * (n + 1) ≤ m) : Rep (k + 1) m (.lst b ds) := by
  obtain ⟨ps, e, hl, hn, hd, hc, hf⟩ := reps_py h
  refine ⟨.list ps, ?_, Rb.Nice.lst hn (by rw [hl]; exact hm), ?_, ?_, ?_⟩
  · show (toPyAll ds).map PyData.list = _
    rw [e]
    rfl
  · simp only [PyData.hasDict, hd]
  · simp only [PyData.canLay0, hc]
  · simp only [PyData.shown]
    exact fine_list hf
theorem Rep.ints {ns : List Int} {m : Nat} (h : ∀ i ∈ ns, -1000000000000 ≤ i ∧ i ≤ 1000000000000) (hm : ns.length ≤ m) : Rep 1 m (.tup (ns.map D.int)) :=
  Rep.tup (k := 0) (n := 0) (fun d hd => by
    obtain ⟨i, hi, rfl⟩ := List.mem_map.mp hd
    exact Rep.int (h i hi).1 (h i hi).2) (by rw [List.length_map]; omega)
theorem Rep.road {wk rd : Int} {bs : List Int} (R : RoadOk wk rd bs) : Rep 2 39 (roadV wk rd bs) := by
  have h1 := R.rd1
  have h2 := R.lt
  have h3 := R.w2
  refine Rep.tup (k := 1) (n := 12) (fun d hd => ?_) (Nat.le_of_ble_eq_true rfl)
  simp only [List.mem_cons, List.not_mem_nil, or_false] at hd
  rcases hd with rfl | rfl | rfl
  · exact (Rep.int (by omega) (by omega)).mono (by decide) (by decide)
  · exact (Rep.int (by omega) (by omega)).mono (by decide) (by decide)
  · exact Rep.ints (fun i hi => by have := R.hb i hi; omega) R.l2
theorem Rep.starts {starts : List Int} (n2 : starts.length ≤ 10) (hb : Bnd 1000000 starts) : Rep 1 10 (tkD starts) := Rep.ints (fun i hi => by have := hb i hi; omega) n2
theorem Rep.two {a b : D} {k n m : Nat} {f : Bool} (ha : Rep k n a) (hb : Rep k n b) (hm : 2 * (n + 1) ≤ m) : Rep (k + 1) m (.lst f [a, b]) :=
  Rep.lst (fun d hd => by
    simp only [List.mem_cons, List.not_mem_nil, or_false] at hd
    rcases hd with rfl | rfl
    · exact ha
    · exact hb) hm
def shw (d : D) : Str := match toPy d with
  | some p => p.shown
  | none => ""
theorem eqB_ok {neg : Bool} {x y : D} {S : Sto} {Q : QD} {p q : PyData} (h1 : pyC S x = some p) (h2 : pyC S y = some q) (s1 : SeqAt.shaped p = true) (s2 : SeqAt.shaped q = true) (r : Q (.bl (nb neg (PyData.eqv p q))) S) : iEqB neg x y S Q := by
  refine iEqB_of ?_
  unfold gEqB
  split
  · cases h1
    cases h2
    rename_i i j
    have e : PyData.eqv (.int i) (.int j) = decide (i = j) := by simp only [PyData.eqv]; by_cases h : i = j <;> simp [h]
    rw [e] at r
    exact r
  · cases h1
    cases h2
    rename_i i j
    have e : PyData.eqv (.str i) (.str j) = decide (i = j) := by simp only [PyData.eqv]; by_cases h : i = j <;> simp [h]
    rw [e] at r
    exact r
  · exact onS h1 (onS h2 ⟨⟨s1, s2⟩, r⟩)
theorem pyC_of {S : Sto} {d : D} {p : PyData} (h : toPy d = some p) : pyC S d = some p := by
  cases d with
  | cell n => cases h
  | _ => exact h
/-- what == can be asked of -/
structure Shp (k : Nat) (d : D) : Prop where
  py : ∃ p, toPy d = some p ∧ PyData.canLay0 p = true ∧ p.depth ≤ k
theorem Rep.shp {k n : Nat} {d : D} (h : Rep k n d) : Shp k d := by
  obtain ⟨p, e, hp⟩ := h.py
  exact ⟨p, e, hp.lay, hp.nice.dep⟩
theorem Shp.mono {k k' : Nat} {d : D} (h : Shp k d) (h1 : k ≤ k') : Shp k' d := by
  obtain ⟨p, e, h2, h3⟩ := h.py
  exact ⟨p, e, h2, Nat.le_trans h3 h1⟩
theorem Shp.str {x : Str} (h : Fine x) : Shp 0 (.str x) := by
  refine ⟨_, rfl, ?_, Nat.le_refl _⟩
  show PyData.strOk x = true
  unfold PyData.strOk
  rw [← Array.all_toList, List.all_eq_true]
  intro c hc
  exact decide_eq_true (h c hc)
theorem shps_py {k : Nat} : ∀ {ds : List D}, (∀ d ∈ ds, Shp k d) → ∃ ps, toPyAll ds = some ps ∧ PyData.canLayAll0 ps = true ∧ PyData.depthAll ps ≤ k
  | [], _ => ⟨[], rfl, rfl, Nat.zero_le _⟩
  | d :: ds, h => by
    obtain ⟨p, e, hc, hd⟩ := (h d List.mem_cons_self).py
    obtain ⟨ps, e2, hc2, hd2⟩ := shps_py (ds := ds) fun x hx => h x (List.mem_cons_of_mem _ hx)
    refine ⟨p :: ps, ?_, ?_, ?_⟩
    · show (toPy d).bind _ = _
      rw [e, e2]
      rfl
    · simp only [PyData.canLayAll0, hc, hc2, Bool.and_self]
    · simp only [PyData.depthAll]
      exact Nat.max_le.mpr ⟨hd, hd2⟩
theorem Shp.lst {k : Nat} {b : Bool} {ds : List D} (h : ∀ d ∈ ds, Shp k d) : Shp (k + 1) (.lst b ds) := by
  obtain ⟨ps, e, hc, hd⟩ := shps_py h
  refine ⟨.list ps, ?_, ?_, ?_⟩
  · show (toPyAll ds).map PyData.list = _
    rw [e]
    rfl
  · simp only [PyData.canLay0, hc]
  · simp only [PyData.depth]
    omega
theorem Shp.tup {k : Nat} {ds : List D} (h : ∀ d ∈ ds, Shp k d) : Shp (k + 1) (.tup ds) := by
  obtain ⟨ps, e, hc, hd⟩ := shps_py h
  refine ⟨.tuple ps, ?_, ?_, ?_⟩
  · show (toPyAll ds).map PyData.tuple = _
    rw [e]
    rfl
  · simp only [PyData.canLay0, hc]
  · simp only [PyData.depth]
    omega
theorem Shp.int {i : Int} : Shp 0 (.int i) := ⟨_, rfl, rfl, Nat.le_refl _⟩
theorem Shp.sh {k : Nat} {d : D} (h : Shp k d) (hk : k ≤ 64) : ∃ p, toPy d = some p ∧ SeqAt.shaped p = true ∧ PyData.canLay0 p = true := by
  obtain ⟨p, e, hc, hd⟩ := h.py
  refine ⟨p, e, ?_, hc⟩
  unfold SeqAt.shaped
  rw [hc, decide_eq_true (Nat.le_trans hd hk)]
  rfl
/-- the same value twice -/
theorem eq_same {neg : Bool} {d d' : D} {S : Sto} {Q : QD} {k : Nat} (h : Shp k d) (e : toPy d = toPy d') (q : Q (.bl (nb neg true)) S) (hk : k ≤ 64 := by decide) : iEqB neg d d' S Q := by
  obtain ⟨p, e1, hs, hc⟩ := h.sh hk
  refine eqB_ok (pyC_of e1) (pyC_of (e ▸ e1)) hs hs ?_
  rw [SeqAt.eqv_refl _ hc]
  exact q
end Pu
namespace Pu
open PySem L2 Rb
/-! ## values that repr shows -/
structure Vv (d : D) (p : PyData) : Prop where
  py : toPy d = some p
  nice : Rb.Nice 3 8 p
  kn : p.hasDict = false ∨ known d = true
  fine : Fine p.shown
theorem Vv.rep {d : D} {p : PyData} {S : Sto} {Q : QD} (h : Vv d p) (q : Q (.str p.shown) S) : iRepr [d] S Q := by
  refine iRepr_of (onS h.py ⟨⟨h.nice.mono (by decide) (by decide), h.kn⟩, q⟩)
theorem Vv.size {d : D} {p : PyData} (h : Vv d p) : p.shown.cps.size ≤ 3000 := by
  have e := PyData.shown_le_bulk 100 (by decide) p h.nice.lv
  have := h.nice.blk
  have : p.shown.length = p.shown.cps.size := rfl
  omega
theorem Vv.two {d : D} {p : PyData} {S : Sto} {Q : QD} {f : Bool} {w : Str} (h : Vv d p) (hw : w.cps.size ≤ 3000) (hf : Fine w) (q : Q (.str (PyData.list [.str w, .str p.shown]).shown) S) : iRepr [.lst f [.str w, .str p.shown]] S Q := by
  refine iRepr_of ?_
  unfold gRepr
  dsimp only
  refine onS (show toPy (.lst f [.str w, .str p.shown]) = some (PyData.list [.str w, .str p.shown]) from rfl) ⟨⟨?_, .inl rfl⟩, q⟩
  refine (Rb.Nice.lst (k := 0) (n := 3000) (m := 6002) (fun x hx => ?_) (by show 2 * 3001 ≤ 6002; decide)).mono (by decide) (by decide)
  simp only [List.mem_cons, List.not_mem_nil, or_false] at hx
  rcases hx with rfl | rfl
  · exact Rb.Nice.str hw fun c hc => Nat.lt_trans (hf c hc) (by decide)
  · exact Rb.Nice.str h.size fun c hc => Nat.lt_trans (h.fine c hc) (by decide)
theorem Vv.int {i : Int} (h : i.natAbs < 10 ^ 99) : Vv (.int i) (.int i) := ⟨rfl, (Rb.Nice.int h).mono (by decide) (by decide), .inl rfl, fine_int i⟩
/-! ## a promise -/
end Pu
namespace Gm
/-! ## sums over sets of people, and the step of the rule -/
def sumP (P : Nat → Bool) (f : Nat → Int) : Nat → Int
  | 0 => 0
  | n + 1 => sumP P f n + if P n = true then f n else 0
def card (P : Nat → Bool) (n : Nat) : Int := sumP P (fun _ => 1) n
def upP (P : Nat → Bool) (j : Nat) (b : Bool) : Nat → Bool := fun i => if i = j then b else P i
theorem sumP_congr {P P' : Nat → Bool} {f f' : Nat → Int} : ∀ {n : Nat}, (∀ i, i < n → P i = P' i) → (∀ i, i < n → P i = true → f i = f' i) → sumP P f n = sumP P' f' n
  | 0, _, _ => rfl
  | n + 1, h, h2 => by
    show sumP P f n + (if P n = true then f n else 0) = sumP P' f' n + (if P' n = true then f' n else 0)
    rw [sumP_congr (n := n) (fun i hi => h i (by omega)) (fun i hi => h2 i (by omega)), h n (by omega)]
    by_cases c : P' n = true
    · rw [if_pos c, if_pos c, h2 n (by omega) (by rw [h n (by omega)]; exact c)]
    · rw [if_neg c, if_neg c]
theorem sumP_le {P P' : Nat → Bool} {f f' : Nat → Int} : ∀ {n : Nat}, (∀ i, i < n → (if P i = true then f i else 0) ≤ (if P' i = true then f' i else 0)) → sumP P f n ≤ sumP P' f' n
  | 0, _ => Int.le_refl _
  | n + 1, h => by
    have a := sumP_le (n := n) (P := P) (P' := P') (f := f) (f' := f') fun i hi => h i (by omega)
    have b := h n (by omega)
    show sumP P f n + (if P n = true then f n else 0) ≤ sumP P' f' n + (if P' n = true then f' n else 0)
    omega
theorem sumP_up {P : Nat → Bool} {f : Nat → Int} {j : Nat} {b : Bool} : ∀ {n : Nat}, j < n → sumP (upP P j b) f n = sumP P f n - (if P j = true then f j else 0) + (if b = true then f j else 0)
  | 0, h => absurd h (Nat.not_lt_zero _)
  | n + 1, h => by
    show sumP (upP P j b) f n + (if upP P j b n = true then f n else 0) = (sumP P f n + (if P n = true then f n else 0)) - _ + _
    by_cases e : j = n
    · subst e
      have e1 : sumP (upP P j b) f j = sumP P f j := sumP_congr (fun i hi => by unfold upP; rw [if_neg (by omega)]) fun _ _ _ => rfl
      have e2 : upP P j b j = b := by unfold upP; rw [if_pos rfl]
      rw [e1, e2]
      omega
    · have e2 : upP P j b n = P n := by unfold upP; rw [if_neg (by omega)]
      rw [sumP_up (n := n) (by omega), e2]
      omega
/-! ## the room of some stages -/
end Gm
namespace Pu
open PySem L2 Rb
/-! ## the latest people -/
def ordM (ticks : List Int) : List (Int × Int) := srtP (ticks.mapIdx fun p t => (-t, (p : Int)))
def grM (ticks : List Int) (c : Nat) : List Nat := (srt (((ordM ticks).take c).map (·.2))).map Int.toNat
theorem tickAt_get {ticks : List Int} {p : Nat} {t : Int} (h : ticks[p]? = some t) : tickAt ticks p = t := by
  unfold tickAt
  rw [List.getD_eq_getElem?_getD, h]
  rfl
theorem ord_len (ticks : List Int) : (ordM ticks).length = ticks.length := by
  unfold ordM
  rw [srtP_len, List.length_mapIdx]
theorem ord_mem {ticks : List Int} {z : Int × Int} : z ∈ ordM ticks ↔ ∃ p : Nat, p < ticks.length ∧ z = (-(tickAt ticks p), (p : Int)) := by
  unfold ordM
  rw [(srtP_perm _).mem_iff]
  constructor
  · intro h
    obtain ⟨p, hp, e⟩ := List.getElem_of_mem h
    rw [List.length_mapIdx] at hp
    rw [List.getElem_mapIdx] at e
    exact ⟨p, hp, by rw [tickAt_get (List.getElem?_eq_getElem hp)]; exact e.symm⟩
  · rintro ⟨p, hp, rfl⟩
    rw [tickAt_get (List.getElem?_eq_getElem hp)]
    refine List.mem_of_getElem? (i := p) ?_
    rw [List.getElem?_mapIdx, List.getElem?_eq_getElem hp]
    rfl
theorem ord_snd (ticks : List Int) : ((ordM ticks).map (·.2)).Perm (nI (List.range ticks.length)) := by
  have h := (srtP_perm (ticks.mapIdx fun p t => (-t, (p : Int)))).map (·.2)
  have e : (ticks.mapIdx fun p t => (-t, (p : Int))).map (·.2) = nI (List.range ticks.length) := by
    apply List.ext_getElem?
    intro i
    unfold nI
    rw [List.getElem?_map, List.getElem?_mapIdx, List.getElem?_map]
    by_cases hi : i < ticks.length
    · rw [List.getElem?_eq_getElem hi, List.getElem?_range hi]
      rfl
    · rw [List.getElem?_eq_none (by omega), List.getElem?_eq_none (by rw [List.length_range]; omega)]
      rfl
  rw [e] at h
  exact h
theorem ord_nodup (ticks : List Int) : ((ordM ticks).map (·.2)).Nodup := by
  refine (ord_snd ticks).nodup_iff.mpr ?_
  unfold nI
  exact List.pairwise_map.mpr ((List.nodup_range (n := ticks.length)).imp fun h z => h (by omega))
theorem take_snd {ticks : List Int} {c : Nat} {y : Int} (h : y ∈ ((ordM ticks).take c).map (·.2)) : ∃ p : Nat, p < ticks.length ∧ y = (p : Int) := by
  obtain ⟨z, hz, rfl⟩ := List.mem_map.mp h
  obtain ⟨p, hp, rfl⟩ := ord_mem.mp (List.mem_of_mem_take hz)
  exact ⟨p, hp, rfl⟩
theorem nI_toNat_of {l : List Int} (h : ∀ y ∈ l, ∃ p : Nat, y = (p : Int)) : nI (l.map Int.toNat) = l := by
  unfold nI
  rw [List.map_map]
  have e : ∀ y ∈ l, ((fun p : Nat => (p : Int)) ∘ Int.toNat) y = y := fun y hy => by
    obtain ⟨p, rfl⟩ := h y hy
    rfl
  rw [List.map_congr_left e, List.map_id']
theorem nI_grM {ticks : List Int} {c : Nat} : nI (grM ticks c) = srt (((ordM ticks).take c).map (·.2)) :=
  nI_toNat_of fun y hy => by
    obtain ⟨p, _, e⟩ := take_snd ((srt_perm _).mem_iff.mp hy)
    exact ⟨p, e⟩
theorem grM_len {ticks : List Int} {c : Nat} : (grM ticks c).length = min c ticks.length := by
  unfold grM
  rw [List.length_map, srt_len, List.length_map, List.length_take, ord_len]
theorem grM_mem {ticks : List Int} {c p : Nat} : p ∈ grM ticks c ↔ (p : Int) ∈ ((ordM ticks).take c).map (·.2) := by
  rw [← nI_mem, nI_grM, (srt_perm _).mem_iff]
theorem grM_lt {ticks : List Int} {c p : Nat} (h : p ∈ grM ticks c) : p < ticks.length := by
  obtain ⟨q, hq, e⟩ := take_snd (grM_mem.mp h)
  omega
theorem take_nodup {ticks : List Int} {c : Nat} : (((ordM ticks).take c).map (·.2)).Nodup := by
  rw [List.map_take]
  exact (ord_nodup ticks).sublist (List.take_sublist _ _)
theorem grM_asc {ticks : List Int} {c : Nat} : (grM ticks c).Pairwise (· < ·) := by
  refine nI_asc (by rw [nI_grM]; exact srt_sorted _) ?_
  have h : (nI (grM ticks c)).Nodup := by
    rw [nI_grM]
    exact (srt_perm _).nodup_iff.mpr take_nodup
  unfold nI at h
  exact (List.pairwise_map.mp h).imp fun a z => a (by omega)
def negP : D → D
  | .tup [.int p, .int t] => .tup [.int (-t), .int p]
  | d => d
def sndP : D → D
  | .tup [_, .int p] => .int p
  | d => d
def prsV (ps : List (Int × Int)) : List D := ps.map fun p => D.tup [.int p.1, .int p.2]
theorem prsV_len (ps : List (Int × Int)) : (prsV ps).length = ps.length := List.length_map ..
theorem greatest_okW {xs : D} {ticks : List Int} {c : Nat} {S : Sto} {Q : QD} {E : ED} (hx : xs = tkD ticks ∨ ∃ b, xs = .lst b (ticks.map D.int)) (n2 : ticks.length ≤ 20) (q : Q (ridersV (grM ticks c)) S) : F_greatest [xs, .int (c : Int)] S Q E := by
  unfold F_greatest
  have el : (enumD (ticks.map D.int)).length = ticks.length := by unfold enumD; rw [List.length_mapIdx, List.length_map]
  have em : (enumD (ticks.map D.int)).map negP = prsV (ticks.mapIdx fun p t => (-t, (p : Int))) := by
    unfold enumD prsV
    apply List.ext_getElem?
    intro i
    rw [List.getElem?_map, List.getElem?_mapIdx, List.getElem?_map, List.getElem?_map, List.getElem?_mapIdx]
    cases ticks[i]? with
    | none => rfl
    | some t => rfl
  have ec : cutD (prsV (ordM ticks)) none (some (c : Int)) = prsV ((ordM ticks).take c) := by
    rw [cut_to]
    unfold prsV
    rw [List.map_take]
  have es : (prsV ((ordM ticks).take c)).map sndP = (((ordM ticks).take c).map (·.2)).map D.int := by
    unfold prsV
    rw [List.map_map, List.map_map]
    rfl
  have tail : ∀ ρ : Rho, ρ = [some xs, some (.int (c : Int)), some (.lst false (prsV (ordM ticks))), none, none] → dRet (dB gTuple (dCons (dB gSorted (dCons (dLc (st2 4 3) dYes (dVar 3) (dItS (dSl (dVar 2) dNoP (dPart (dVar 1))))) dNil)) dNil)) ρ S { nx := fun _ S' => Q .non S', rt := Q, bk := fun _ _ => False, ct := fun _ _ => False } noE := by
    rintro ρ rfl
    show (cutD (prsV (ordM ticks)) none (some (c : Int))).length ≤ sizeLine ∧ dCompL (st2 4 3) dYes (dVar 3) [] (cutD (prsV (ordM ticks)) none (some (c : Int))) [] _ S _
    rw [ec]
    refine ⟨szd (by show (prsV ((ordM ticks).take c)).length ≤ 100000; rw [prsV_len, List.length_take, ord_len]; omega), ?_⟩
    refine comp_map (src := []) (g := sndP) (fun _ p => p) (prsV ((ordM ticks).take c)) [] (fun x hx => ?_) ?_
    · obtain ⟨z, hz, rfl⟩ := List.mem_map.mp hx
      exact ⟨_, rfl, fun Q' q' => q'⟩
    rw [List.nil_append, es]
    refine .inl ⟨_, rfl, ?_⟩
    show Q (.tup ((srt (((ordM ticks).take c).map (·.2))).map D.int)) S
    rw [← nI_grM, ← natsV_eq]
    exact q
  have comp : ∀ (k : List D → Sto → Prop), k (prsV (ticks.mapIdx fun p t => (-t, (p : Int)))) S → dCompL (st2 3 4) dYes (dTup (dCons (dUn gNeg (dVar 4)) (dCons (dVar 3) dNil))) [] (enumD (ticks.map D.int)) [] [some xs, some (.int (c : Int)), none, none, none] S k := by
    intro k hk
    refine comp_map (src := []) (g := negP) (fun _ p => p) (enumD (ticks.map D.int)) [] (fun x hx => ?_) ?_
    · obtain ⟨j, hj, ej⟩ := List.getElem_of_mem hx
      obtain ⟨y, hy, rfl⟩ := enumD_get (List.getElem?_eq_some_iff.mpr ⟨hj, ej⟩)
      rw [List.getElem?_map] at hy
      obtain ⟨t, ht, rfl⟩ := Option.map_eq_some_iff.mp hy
      exact ⟨_, rfl, fun Q' q' => ⟨szr rfl, q'⟩⟩
    rw [List.nil_append, em]
    exact hk
  refine ⟨rfl, ?_⟩
  rcases hx with rfl | ⟨b, rfl⟩
  · refine .inl ⟨szd (by show (enumD (ticks.map D.int)).length ≤ 100000; omega), comp _ ?_⟩
    exact .inr ⟨_, rfl, tail _ rfl⟩
  · refine .inr ⟨szd (by show (enumD (ticks.map D.int)).length ≤ 100000; omega), comp _ ?_⟩
    exact .inr ⟨_, rfl, tail _ rfl⟩
end Pu
namespace Pu
open PySem L2 Rb
/-! ## the plan of the rule -/
def ruleRow (wk rd : Int) (ticks : List Int) (r : List Nat) : List Int := ticks.mapIdx fun p t => t + if p ∈ r then rd else wk
def rtk (wk rd : Int) (cs starts : List Int) : Nat → List Int
  | 0 => starts
  | i + 1 => ruleRow wk rd (rtk wk rd cs starts i) (grM (rtk wk rd cs starts i) (cs.getD i 0).toNat)
def rrd (wk rd : Int) (cs starts : List Int) (i : Nat) : List Nat := grM (rtk wk rd cs starts i) (cs.getD i 0).toNat
def rpl (wk rd : Int) (cs starts : List Int) (m : Nat) : List (List Nat) := (List.range m).map (rrd wk rd cs starts)
theorem ruleRow_len {wk rd : Int} {ticks : List Int} {r : List Nat} : (ruleRow wk rd ticks r).length = ticks.length := List.length_mapIdx
theorem rtk_len {wk rd : Int} {cs starts : List Int} : ∀ i, (rtk wk rd cs starts i).length = starts.length
  | 0 => rfl
  | i + 1 => by rw [rtk, ruleRow_len, rtk_len i]
theorem rpl_succ {wk rd : Int} {cs starts : List Int} {m : Nat} : rpl wk rd cs starts (m + 1) = rpl wk rd cs starts m ++ [rrd wk rd cs starts m] := by
  unfold rpl
  rw [List.range_succ, List.map_append]
  rfl
theorem rpl_len {wk rd : Int} {cs starts : List Int} {m : Nat} : (rpl wk rd cs starts m).length = m := by
  unfold rpl
  rw [List.length_map, List.length_range]
theorem countsM_len {bs : List Int} : (countsM bs).length = bs.length := by unfold countsM; rw [List.length_map, List.length_range]
theorem sum_nn : ∀ {l : List Int}, (∀ b ∈ l, 0 ≤ b) → 0 ≤ l.sum
  | [], _ => Int.le_refl _
  | x :: l, h => by
    rw [List.sum_cons]
    have := h x List.mem_cons_self
    have := sum_nn (l := l) fun b hb => h b (List.mem_cons_of_mem _ hb)
    omega
theorem countsM_get {bs : List Int} {i : Nat} (h : i < bs.length) : (countsM bs)[i]? = some (bs.take (i + 1)).sum := by
  unfold countsM
  rw [List.getElem?_map, List.getElem?_range h]
  rfl
theorem countsM_nn {bs : List Int} (h : ∀ b ∈ bs, 0 ≤ b) : ∀ c ∈ countsM bs, 0 ≤ c := fun c hc => by
  obtain ⟨k, hk, rfl⟩ := List.mem_map.mp hc
  exact sum_nn fun b hb => h b (List.mem_of_mem_take hb)
def seqI (xs : D) (ticks : List Int) : Prop := xs = tkD ticks ∨ ∃ b, xs = .lst b (ticks.map D.int)
theorem step_comp {f : Rho → Rho} {wk rd : Int} {ticks : List Int} {r : List Nat} {S : Sto} {ρ : Rho} {k : List D → Sto → Prop} {fe : FE}
    (hfe : ∀ (j : Nat) (t : Int) (Q : QD), Q (.int (t + if (j : Int) ∈ nI r then rd else wk)) S → ∃ ρ1, st2 8 9 (.tup [.int (j : Int), .int t]) ρ = some ρ1 ∧ fe ρ1 S Q noE)
    (hk : k ((ruleRow wk rd ticks r).map D.int) S) : dCompL (st2 8 9) dYes fe [] (enumD (ticks.map D.int)) [] ρ S k := by
  refine comp_map (src := []) (g := stepD wk rd r) (fun _ p => p) (enumD (ticks.map D.int)) [] (fun x hx => ?_) ?_
  · obtain ⟨j, hj, ej⟩ := List.getElem_of_mem hx
    obtain ⟨y, hy, rfl⟩ := enumD_get (List.getElem?_eq_some_iff.mpr ⟨hj, ej⟩)
    rw [List.getElem?_map] at hy
    obtain ⟨t, ht, rfl⟩ := Option.map_eq_some_iff.mp hy
    refine ⟨_, rfl, fun Q q => ?_⟩
    obtain ⟨ρ1, e, h⟩ := hfe j t Q q
    cases e
    exact h
  · rw [List.nil_append, step_map]
    exact hk
theorem below_planV {k : Nat} (plan : List (List Nat)) : below k (planV plan) = true := below_plan plan
theorem rule_okW {wk rd : Int} {bs starts : List Int} {Q : QD} {E : ED} (l2 : bs.length ≤ 12) (hb0 : ∀ b ∈ bs, 0 ≤ b) (n2 : starts.length ≤ 20)
    (q : Q (planV (rpl wk rd (countsM bs) starts bs.length)) []) : F_rule_plan [roadV wk rd bs, tkD starts] [] Q E := by
  unfold F_rule_plan
  have cn := countsM_nn hb0
  have cl := countsM_len (bs := bs)
  refine ⟨rfl, rfl, szr rfl, counts_ok l2 ?_⟩
  generalize hcs : countsM bs = cs at cn cl q
  refine for_inv (src := []) (cs.map D.int) (fun i ρ S' => S' = [.lst ((rpl wk rd cs starts i).map ridersV)] ∧ ∃ xs y6 y7 y8 y9, ρ = [some (roadV wk rd bs), some (tkD starts), some (.int wk), some (.int rd), some xs, some (.cell 0), y6, y7, y8, y9] ∧ seqI xs (rtk wk rd cs starts i)) ⟨rfl, _, _, _, _, _, rfl, .inl rfl⟩ ?_ ?_
  · rintro i x ρ S' K hx hK ⟨rfl, xs, y6, y7, y8, y9, rfl, hxs⟩
    rw [List.getElem?_map] at hx
    obtain ⟨ci, hci, rfl⟩ := Option.map_eq_some_iff.mp hx
    have c0 := cn ci (List.mem_of_getElem? hci)
    have hi : i < cs.length := (List.getElem?_eq_some_iff.mp hci).1
    obtain ⟨c, rfl⟩ : ∃ c : Nat, ci = (c : Int) := ⟨ci.toNat, (Int.toNat_of_nonneg c0).symm⟩
    have eg : rrd wk rd cs starts i = grM (rtk wk rd cs starts i) c := by
      unfold rrd
      rw [List.getD_eq_getElem?_getD, hci]
      rfl
    have ert : rtk wk rd cs starts (i + 1) = ruleRow wk rd (rtk wk rd cs starts i) (grM (rtk wk rd cs starts i) c) := by
      rw [rtk, ← eg]
      rfl
    have tl := rtk_len (wk := wk) (rd := rd) (cs := cs) (starts := starts) i
    have hK2 : ∀ ρ', (∃ xs y6 y7 y8 y9, ρ' = [some (roadV wk rd bs), some (tkD starts), some (.int wk), some (.int rd), some xs, some (.cell 0), y6, y7, y8, y9] ∧ seqI xs (ruleRow wk rd (rtk wk rd cs starts i) (grM (rtk wk rd cs starts i) c))) → K ρ' [.lst ((rpl wk rd cs starts i).map ridersV ++ [ridersV (grM (rtk wk rd cs starts i) c)])] := fun ρ' h => hK ρ' _ ⟨by
      rw [rpl_succ, List.map_append, eg]
      rfl, by
      rw [ert]
      exact h⟩
    have pl : ((rpl wk rd cs starts i).map ridersV).length = i := by rw [List.length_map, rpl_len]
    generalize (rpl wk rd cs starts i).map ridersV = PP at hK2 pl
    generalize rtk wk rd cs starts i = tk at hK2 tl hxs
    refine greatest_okW hxs (by omega) ?_
    generalize grM tk c = r at hK2
    have el : (enumD (tk.map D.int)).length = tk.length := by unfold enumD; rw [List.length_mapIdx, List.length_map]
    have hfe : ∀ (ρ : Rho) (j : Nat) (t : Int) (Q : QD), getV ρ 2 = some (.int wk) → getV ρ 3 = some (.int rd) → getV ρ 7 = some (ridersV r) → getV ρ 8 = some (.int (j : Int)) → getV ρ 9 = some (.int t) → Q (.int (t + if (j : Int) ∈ nI r then rd else wk)) [.lst PP] → (dBin gAdd (dVar 9) (dIf (dTest (dBin (gIn false) (dVar 8) (dVar 7))) (dVar 3) (dVar 2))) ρ [.lst PP] Q noE := by
      intro ρ j t Q g2 g3 g7 g8 g9 q'
      refine onS g9 (onS g8 (onS g7 (onS (a := nI r) (by show intsOf (natsV r) = _; rw [natsV_eq]; exact intsOf_map _) ?_)))
      refine ifB (fun cc => ?_) fun cc => ?_
      · have c' : (j : Int) ∈ nI r := of_decide_eq_true cc
        rw [if_pos c'] at q'
        exact onS g3 q'
      · have c' : ¬ (j : Int) ∈ nI r := of_decide_eq_false cc
        rw [if_neg c'] at q'
        exact onS g2 q'
    have hsz : (enumD (tk.map D.int)).length ≤ sizeLine := szd (by omega)
    have fin : ∀ ρ', (∃ xs y6 y8 y9, ρ' = [some (roadV wk rd bs), some (tkD starts), some (.int wk), some (.int rd), some xs, some (.cell 0), y6, some (ridersV r), y8, y9] ∧ seqI xs (ruleRow wk rd tk r)) → (dDrop (dML gAppend (dVar 5) (dCons (dVar 7) dNil))) ρ' [.lst PP] ⟨K, fun _ _ => True, fun _ _ => True, K⟩ noE := by
      rintro ρ' ⟨xs, y6, y8, y9, rfl, hx2⟩
      exact ⟨szd (by rw [pl]; omega), hK2 _ ⟨_, _, _, _, _, rfl, hx2⟩⟩
    rcases hxs with rfl | ⟨b, rfl⟩
    · refine .inl ⟨hsz, step_comp (f := id) (r := r) (fun j t Q' q' => ⟨_, rfl, hfe _ j t Q' rfl rfl rfl rfl rfl q'⟩) ?_⟩
      exact fin _ ⟨_, _, _, _, rfl, .inr ⟨_, rfl⟩⟩
    · refine .inr ⟨hsz, step_comp (f := id) (r := r) (fun j t Q' q' => ⟨_, rfl, hfe _ j t Q' rfl rfl rfl rfl rfl q'⟩) ?_⟩
      exact fin _ ⟨_, _, _, _, rfl, .inr ⟨_, rfl⟩⟩
  · rintro ρ S' ⟨rfl, xs, y6, y7, y8, y9, rfl, hxs⟩
    rw [List.length_map, cl]
    refine ⟨⟨rfl, rfl⟩, onS (frz_below (fun k z => nomatch z) (below_planV _)) q⟩
end Pu
namespace Pu
open PySem L2 Rb
/-! ## two cells at the end of the store -/
/-! ## the law's own way to the latest people -/
def mkp (ticks : List Int) (p : Nat) : Int × Int := (-(tickAt ticks p), (p : Int))
theorem filter_asc {lf : List Nat} {f : Nat → Bool} (h : lf.Pairwise (· < ·)) {b : Nat} {rest : List Nat} (e : lf.filter f = b :: rest) : b ∈ lf ∧ f b = true ∧ ∀ q ∈ lf, f q = true → b ≤ q := by
  have hm : b ∈ lf.filter f := by rw [e]; exact List.mem_cons_self
  obtain ⟨h1, h2⟩ := List.mem_filter.mp hm
  refine ⟨h1, h2, fun q hq hf => ?_⟩
  have hq2 : q ∈ lf.filter f := List.mem_filter.mpr ⟨hq, hf⟩
  have hp := h.filter f
  rw [e] at hp hq2
  rcases List.mem_cons.mp hq2 with rfl | hq2
  · exact Nat.le_refl _
  · exact Nat.le_of_lt ((List.pairwise_cons.mp hp).1 q hq2)
theorem next_best {ticks : List Int} {lf : List Nat} {j b : Nat} {rest : List Nat} (asc : lf.Pairwise (· < ·)) (pm : (lf.map (mkp ticks)).Perm ((ordM ticks).drop j)) (ne : lf ≠ []) (e : lf.filter (fun k => decide (tickAt ticks k = maxL (lf.map (tickAt ticks)))) = b :: rest) :
    (ordM ticks)[j]? = some (mkp ticks b) ∧ (ordM ticks).drop j = mkp ticks b :: (ordM ticks).drop (j + 1) ∧ b ∈ lf := by
  obtain ⟨h1, h2, h3⟩ := filter_asc asc e
  have h2 : tickAt ticks b = maxL (lf.map (tickAt ticks)) := of_decide_eq_true h2
  obtain ⟨m1, m2⟩ := maxL_spec (ns := lf.map (tickAt ticks)) (by simpa using ne)
  have ln := least_next (k := j) (m := mkp ticks b) (srtP_sorted _) pm (List.mem_map.mpr ⟨b, h1, rfl⟩) fun q hq => by
    obtain ⟨p, hp, rfl⟩ := List.mem_map.mp hq
    have hle := m2 (tickAt ticks p) (List.mem_map.mpr ⟨p, hp, rfl⟩)
    show -(tickAt ticks b) < -(tickAt ticks p) ∨ (-(tickAt ticks b) = -(tickAt ticks p) ∧ (b : Int) ≤ (p : Int))
    by_cases et : tickAt ticks p = tickAt ticks b
    · exact .inr ⟨by omega, by have := h3 p hp (decide_eq_true (by omega)); omega⟩
    · exact .inl (by omega)
  exact ⟨ln.1, ln.2, h1⟩
end Pu
namespace Pu
open PySem L2 Rb
/-- what the loop has chosen -/
structure Chosen (ticks : List Int) (c : Nat) (lf rs : List Nat) : Prop where
  asc : lf.Pairwise (· < ·)
  lt : ∀ p ∈ lf, p < ticks.length
  pm : (lf.map (mkp ticks)).Perm ((ordM ticks).drop rs.length)
  sel : nI rs = ((ordM ticks).take rs.length).map (·.2)
  le : rs.length ≤ c
theorem Chosen.start {ticks : List Int} {c : Nat} : Chosen ticks c (List.range ticks.length) [] where
  asc := List.pairwise_lt_range
  lt := fun p hp => List.mem_range.mp hp
  pm := by
    rw [List.length_nil, List.drop_zero]
    have e : (List.range ticks.length).map (mkp ticks) = ticks.mapIdx fun p t => (-t, (p : Int)) := by
      apply List.ext_getElem?
      intro i
      rw [List.getElem?_map, List.getElem?_mapIdx]
      by_cases hi : i < ticks.length
      · rw [List.getElem?_range hi, List.getElem?_eq_getElem hi]
        show some (-(tickAt ticks i), (i : Int)) = some (-ticks[i], (i : Int))
        rw [tickAt_get (List.getElem?_eq_getElem hi)]
      · rw [List.getElem?_eq_none (by rw [List.length_range]; omega), List.getElem?_eq_none (by omega)]
        rfl
    rw [e]
    exact (srtP_perm _).symm
  sel := rfl
  le := Nat.zero_le _
theorem Chosen.len {ticks : List Int} {c : Nat} {lf rs : List Nat} (h : Chosen ticks c lf rs) : lf.length + rs.length = ticks.length := by
  have h1 := h.pm.length_eq
  have h2 := congrArg List.length h.sel
  rw [List.length_map, List.length_drop, ord_len] at h1
  rw [nI_len, List.length_map, List.length_take, ord_len] at h2
  omega
theorem Chosen.next {ticks : List Int} {c : Nat} {lf rs : List Nat} (h : Chosen ticks c lf rs) {b j : Nat} {rest : List Nat} (hc : rs.length < c) (ne : lf ≠ []) (e : lf.filter (fun k => decide (tickAt ticks k = maxL (lf.map (tickAt ticks)))) = b :: rest) (hj : lf[j]? = some b) : Chosen ticks c (lf.eraseIdx j) (rs ++ [b]) := by
  obtain ⟨o1, o2, o3⟩ := next_best h.asc h.pm ne e
  have el : (rs ++ [b]).length = rs.length + 1 := by rw [List.length_append]; rfl
  refine ⟨h.asc.sublist (List.eraseIdx_sublist ..), fun p hp => h.lt p (List.mem_of_mem_eraseIdx hp), ?_, ?_, by omega⟩
  · rw [el]
    have hp := h.pm
    rw [o2] at hp
    have e1 : (lf.map (mkp ticks)).eraseIdx j = (lf.eraseIdx j).map (mkp ticks) := by
      clear hp o1 o2 o3 e ne el
      clear h
      induction lf generalizing j with
      | nil => simp
      | cons x l ih =>
        cases j with
        | zero => rfl
        | succ j => exact congrArg _ (ih hj)
    rw [← e1]
    exact erase_next (by rw [List.getElem?_map, hj]; rfl) hp
  · rw [el, List.take_add_one, o1, List.map_append, ← h.sel]
    unfold nI
    rw [List.map_append]
    rfl
end Pu
namespace Pu
open PySem L2 Rb Gm
/-! ## if no people exclude an end, the rule keeps it -/
theorem card_mem {n : Nat} : ∀ {r : List Nat}, r.Nodup → (∀ p ∈ r, p < n) → card (fun i => decide (i ∈ r)) n = r.length
  | [], _, _ => by
    have e : card (fun i => decide (i ∈ ([] : List Nat))) n = sumP (fun _ => false) (fun _ => 1) n := sumP_congr (fun i _ => by simp) fun _ _ _ => rfl
    rw [e]
    have z : ∀ m, sumP (fun _ => false) (fun _ => 1) m = 0 := fun m => by
      induction m with
      | zero => rfl
      | succ m ih => show sumP (fun _ => false) (fun _ => 1) m + (if false = true then 1 else 0) = 0; rw [ih]; rfl
    exact z n
  | a :: r, nd, h => by
    obtain ⟨n1, n2⟩ := List.nodup_cons.mp nd
    have ih := card_mem n2 fun p hp => h p (List.mem_cons_of_mem _ hp)
    have e : card (fun i => decide (i ∈ a :: r)) n = card (upP (fun i => decide (i ∈ r)) a true) n := sumP_congr (fun i _ => by
      unfold upP
      by_cases c : i = a
      · rw [if_pos c, c]
        simp
      · rw [if_neg c]
        simp [c]) fun _ _ _ => rfl
    rw [e]
    unfold card at ih ⊢
    rw [sumP_up (h a List.mem_cons_self), ih, decide_eq_false n1]
    simp
/-- who is among the latest comes no earlier than who is not -/
theorem gr_le {ticks : List Int} {c i j : Nat} (hi : i < ticks.length) (hn : i ∉ grM ticks c) (hj : j ∈ grM ticks c) : tickAt ticks i ≤ tickAt ticks j := by
  obtain ⟨z, hz, ez⟩ := List.mem_map.mp (grM_mem.mp hj)
  obtain ⟨q, hq, rfl⟩ := ord_mem.mp (List.mem_of_mem_take hz)
  have : q = j := by
    have e : (q : Int) = (j : Int) := ez
    omega
  subst this
  have hm : (-(tickAt ticks i), (i : Int)) ∈ ordM ticks := ord_mem.mpr ⟨i, hi, rfl⟩
  rw [← List.take_append_drop c (ordM ticks)] at hm
  rcases List.mem_append.mp hm with h | h
  · exact absurd (grM_mem.mpr (List.mem_map.mpr ⟨_, h, rfl⟩)) hn
  · have hs : ((ordM ticks).take c ++ (ordM ticks).drop c).Pairwise leP := by
      rw [List.take_append_drop]
      exact srtP_sorted _
    have := (List.pairwise_append.mp hs).2.2 _ hz _ h
    rcases this with g | ⟨g, _⟩
    · have g : -(tickAt ticks q) < -(tickAt ticks i) := g
      omega
    · have g : -(tickAt ticks q) = -(tickAt ticks i) := g
      omega
end Pu
namespace Pu
open PySem L2 Rb Gm
/-! ## nobody waits under the rule -/
theorem take_sum_succ {bs : List Int} {i : Nat} (h : i < bs.length) : (bs.take (i + 1)).sum = (bs.take i).sum + bs.getD i 0 := by
  rw [List.take_add_one, List.getElem?_eq_getElem h, List.sum_append, List.getD_eq_getElem?_getD, List.getElem?_eq_getElem h]
  simp
theorem countsM_getD {bs : List Int} {i : Nat} (h : i < bs.length) : (countsM bs).getD i 0 = (bs.take (i + 1)).sum := by
  rw [List.getD_eq_getElem?_getD, countsM_get h]
  rfl
theorem rpl_getD {wk rd : Int} {cs starts : List Int} {m i : Nat} (h : i < m) : (rpl wk rd cs starts m).getD i [] = rrd wk rd cs starts i := by
  unfold rpl
  rw [List.getD_eq_getElem?_getD, List.getElem?_map, List.getElem?_range h]
  rfl
theorem rrd_len {wk rd : Int} {cs starts : List Int} {i : Nat} : (rrd wk rd cs starts i).length = min (cs.getD i 0).toNat starts.length := by
  unfold rrd
  rw [grM_len, rtk_len]
theorem rpl_ok {wk rd : Int} {bs starts : List Int} (hb : ∀ b ∈ bs, 0 ≤ b) : PlanOk bs starts.length (rpl wk rd (countsM bs) starts bs.length) := by
  refine ⟨rpl_len, hb, fun r hr => ?_, fun r hr p hp => ?_, fun i => ?_⟩
  · obtain ⟨j, hj, rfl⟩ := List.mem_map.mp hr
    exact grM_asc
  · obtain ⟨j, hj, rfl⟩ := List.mem_map.mp hr
    have := grM_lt hp
    rw [rtk_len] at this
    exact this
  · by_cases h : i < bs.length
    · rw [rpl_getD h, rrd_len, countsM_getD h, take_sum_succ h]
      have b0 : 0 ≤ bs.getD i 0 := by
        rw [List.getD_eq_getElem?_getD, List.getElem?_eq_getElem h]
        exact hb _ (List.getElem_mem h)
      have s0 : 0 ≤ (bs.take i).sum := sum_nn fun b hm => hb b (List.mem_of_mem_take hm)
      by_cases z : i = 0
      · subst z
        rw [if_pos rfl]
        simp
        omega
      · rw [if_neg z, rpl_getD (by omega), rrd_len, countsM_getD (by omega), show i - 1 + 1 = i by omega]
        omega
    · have e : (rpl wk rd (countsM bs) starts bs.length).getD i [] = [] := by
        rw [List.getD_eq_getElem?_getD, List.getElem?_eq_none (by rw [rpl_len]; omega)]
        rfl
      rw [e]
      exact Nat.zero_le _
theorem len_le_of {n : Nat} {l m : List Nat} (h1 : l.Nodup) (h2 : m.Nodup) (h3 : ∀ p ∈ m, p < n) (h : ∀ p ∈ l, p ∈ m) : l.length ≤ m.length := by
  have a := card_mem h1 fun p hp => h3 p (h p hp)
  have b := card_mem h2 h3
  have c : card (fun i => decide (i ∈ l)) n ≤ card (fun i => decide (i ∈ m)) n := sumP_le fun i _ => by
    by_cases hi : i ∈ l
    · rw [if_pos (decide_eq_true hi), if_pos (decide_eq_true (h i hi))]
      exact Int.le_refl _
    · rw [if_neg (by simpa using hi)]
      split <;> decide
  omega
theorem pairs_early {ticks : List Int} {riders brought : List Nat} {st : Nat} (h0 : ∀ t ∈ ticks, 0 ≤ t) (few : riders.length ≤ st + brought.length) (rn : riders.Nodup) (rl : ∀ p ∈ riders, p < ticks.length) (bn : brought.Nodup) (bl : ∀ p ∈ brought, p < ticks.length)
    (late : ∀ i j, i < ticks.length → i ∉ riders → j ∈ riders → tickAt ticks i ≤ tickAt ticks j) : ∀ z ∈ pairsM ticks riders brought st, z.2 ≤ z.1.1 := by
  intro z hz
  obtain ⟨j, hj, ej⟩ := List.getElem_of_mem hz
  have hjl := hj
  rw [pairsM_len few] at hjl
  have hq : j < (queueM ticks riders).length := by rw [queueM_len]; exact hjl
  have hb : j < (bikesM ticks brought st).length := by rw [bikesM_len]; omega
  have e1 : z = ((queueM ticks riders)[j], (bikesM ticks brought st)[j]) := by
    rw [← ej]
    exact List.getElem_zip
  subst e1
  show (bikesM ticks brought st)[j] ≤ ((queueM ticks riders)[j]).1
  by_cases hlt : (bikesM ticks brought st)[j] ≤ ((queueM ticks riders)[j]).1
  · exact hlt
  exfalso
  have hm : (queueM ticks riders)[j] ∈ queueM ticks riders := List.getElem_mem hq
  obtain ⟨p, hp, ep⟩ := List.mem_map.mp ((srtP_perm _).mem_iff.mp hm)
  have et : ((queueM ticks riders)[j]).1 = tickAt ticks p := by rw [← ep]
  rw [et] at hlt
  have t0 : 0 ≤ tickAt ticks p := by
    rw [tickAt_get (List.getElem?_eq_getElem (rl p hp))]
    exact h0 _ (List.getElem_mem _)
  generalize ht : tickAt ticks p = t at *
  -- bicycles that are there by then
  have cB : (bikesM ticks brought st).countP (fun b => decide (b ≤ t)) ≤ j := by
    rw [← List.take_append_drop j (bikesM ticks brought st), List.countP_append]
    have a : ((bikesM ticks brought st).take j).countP (fun b => decide (b ≤ t)) ≤ j := Nat.le_trans List.countP_le_length (by rw [List.length_take]; omega)
    have b : ((bikesM ticks brought st).drop j).countP (fun b => decide (b ≤ t)) = 0 := by
      refine List.countP_eq_zero.mpr fun x hx => ?_
      have hs : ((bikesM ticks brought st).drop j).Pairwise (· ≤ ·) := (srt_sorted _).sublist (List.drop_sublist _ _)
      have ed : (bikesM ticks brought st).drop j = (bikesM ticks brought st)[j] :: (bikesM ticks brought st).drop (j + 1) := List.drop_eq_getElem_cons hb
      rw [ed] at hs hx
      have : (bikesM ticks brought st)[j] ≤ x := by
        rcases List.mem_cons.mp hx with e | e
        · omega
        · exact (List.pairwise_cons.mp hs).1 x e
      simp
      omega
    omega
  have cB2 : (bikesM ticks brought st).countP (fun b => decide (b ≤ t)) = st + (brought.filter fun q => decide (tickAt ticks q ≤ t)).length := by
    unfold bikesM
    rw [(srt_perm _).countP_eq, List.countP_append, List.countP_map, List.countP_eq_length_filter (l := brought)]
    have : (List.replicate st (0 : Int)).countP (fun b => decide (b ≤ t)) = st := by
      rw [List.countP_replicate, if_pos (by simpa using t0)]
    rw [this]
    rfl
  have cS : (brought.filter fun q => decide (tickAt ticks q ≤ t)).length + (brought.filter fun q => decide (t < tickAt ticks q)).length = brought.length := by
    rw [← List.countP_eq_length_filter, ← List.countP_eq_length_filter]
    have := List.length_eq_countP_add_countP (fun q => decide (tickAt ticks q ≤ t)) (l := brought)
    simpa using this.symm
  -- riders who come later
  have cQ : (queueM ticks riders).countP (fun q => decide (t < q.1)) ≤ riders.length - (j + 1) := by
    rw [← List.take_append_drop (j + 1) (queueM ticks riders), List.countP_append]
    have a : ((queueM ticks riders).take (j + 1)).countP (fun q => decide (t < q.1)) = 0 := by
      refine List.countP_eq_zero.mpr fun x hx => ?_
      obtain ⟨i, hi, ei⟩ := List.getElem_of_mem hx
      rw [List.length_take, queueM_len] at hi
      rw [List.getElem_take] at ei
      have le : leP (queueM ticks riders)[i] (queueM ticks riders)[j] := by
        by_cases e : i = j
        · subst e
          exact .inr ⟨rfl, Int.le_refl _⟩
        · exact List.pairwise_iff_getElem.mp (srtP_sorted _) i j (by show i < (queueM ticks riders).length; rw [queueM_len]; omega) hq (by omega)
      rw [ei] at le
      rcases le with g | ⟨g, _⟩
      · simp
        omega
      · simp
        omega
    have b : ((queueM ticks riders).drop (j + 1)).countP (fun q => decide (t < q.1)) ≤ riders.length - (j + 1) := Nat.le_trans List.countP_le_length (by rw [List.length_drop, queueM_len]; exact Nat.le_refl _)
    omega
  have cQ2 : (queueM ticks riders).countP (fun q => decide (t < q.1)) = (riders.filter fun q => decide (t < tickAt ticks q)).length := by
    unfold queueM
    rw [(srtP_perm _).countP_eq, List.countP_map, List.countP_eq_length_filter]
    rfl
  have sub : (brought.filter fun q => decide (t < tickAt ticks q)).length ≤ (riders.filter fun q => decide (t < tickAt ticks q)).length := by
    refine len_le_of (n := ticks.length) (bn.filter _) (rn.filter _) (fun q hq => rl q (List.mem_filter.mp hq).1) fun q hq => ?_
    obtain ⟨q1, q2⟩ := List.mem_filter.mp hq
    have q3 : t < tickAt ticks q := by simpa using q2
    refine List.mem_filter.mpr ⟨?_, decide_eq_true (by omega)⟩
    by_cases hr : q ∈ riders
    · exact hr
    · have := late q p (bl q q1) hr hp
      omega
  omega
theorem setF_self : ∀ (zs : List (Nat × Int)) (l : List Int), (∀ z ∈ zs, l[z.1]? = some z.2) → setF l zs = l
  | [], _, _ => rfl
  | z :: zs, l, h => by
    show setF (l.set z.1 z.2) zs = l
    have e : l.set z.1 z.2 = l := by
      have := h z List.mem_cons_self
      apply List.ext_getElem?
      intro i
      rw [List.getElem?_set]
      split
      · rename_i c
        subst c
        split
        · rw [this]
        · rename_i c2
          rw [List.getElem?_eq_none (by omega)]
      · rfl
    rw [e]
    exact setF_self zs l fun y hy => h y (List.mem_cons_of_mem _ hy)
theorem leave_same {ticks : List Int} {riders brought : List Nat} {st : Nat} (rl : ∀ p ∈ riders, p < ticks.length) (h : ∀ z ∈ pairsM ticks riders brought st, z.2 ≤ z.1.1) : leaveM ticks riders brought st = ticks := by
  refine setF_self _ _ fun z hz => ?_
  obtain ⟨y, hy, rfl⟩ := List.mem_map.mp hz
  obtain ⟨p, hp, e⟩ := pairs_mem hy
  have h1 := h y hy
  have e1 : y.1.1 = tickAt ticks p := by rw [e]
  have e2 : y.1.2 = (p : Int) := by rw [e]
  show ticks[y.1.2.toNat]? = some (mx y.1.1 y.2)
  have em : mx y.1.1 y.2 = y.1.1 := by
    unfold mx
    rw [if_neg (by omega)]
  rw [em, e1, e2, Int.toNat_natCast, tickAt_get (List.getElem?_eq_getElem (rl p hp)), List.getElem?_eq_getElem (rl p hp)]
theorem rtk_nn {wk rd : Int} {cs starts : List Int} (w : 0 ≤ wk) (r : 0 ≤ rd) (h : ∀ s ∈ starts, 0 ≤ s) : ∀ i, ∀ t ∈ rtk wk rd cs starts i, 0 ≤ t
  | 0 => h
  | i + 1 => fun t ht => by
    rw [rtk] at ht
    unfold ruleRow at ht
    obtain ⟨j, hj, e⟩ := List.getElem_of_mem ht
    rw [List.getElem_mapIdx] at e
    rw [List.length_mapIdx] at hj
    have := rtk_nn (cs := cs) w r h i _ (List.getElem_mem hj)
    split at e <;> omega
theorem rule_ticks {wk rd : Int} {bs starts : List Int} (w : 0 ≤ wk) (r : 0 ≤ rd) (hb : ∀ b ∈ bs, 0 ≤ b) (h0 : ∀ s ∈ starts, 0 ≤ s) : ∀ i, i ≤ bs.length → tkM wk rd bs starts (rpl wk rd (countsM bs) starts bs.length) i = rtk wk rd (countsM bs) starts i
  | 0, _ => rfl
  | i + 1, hi => by
    have ih := rule_ticks w r hb h0 i (by omega)
    have ok := rpl_ok (wk := wk) (rd := rd) (starts := starts) hb
    obtain ⟨nd, rlt, few⟩ := stages_ok ok (show i < (rpl wk rd (countsM bs) starts bs.length).length by rw [rpl_len]; omega)
    have tl := rtk_len (wk := wk) (rd := rd) (cs := countsM bs) (starts := starts) i
    have eg : (rpl wk rd (countsM bs) starts bs.length).getD i [] = rrd wk rd (countsM bs) starts i := rpl_getD (by omega)
    obtain ⟨bl1, bl2⟩ := br_lt ok i
    show rowM (tkM _ _ _ _ _ i) _ _ _ _ _ = rtk wk rd (countsM bs) starts (i + 1)
    rw [ih]
    have bn : (brM (rpl wk rd (countsM bs) starts bs.length) i).Nodup := by
      unfold brM
      split
      · exact List.nodup_nil
      · rw [rpl_getD (by omega)]
        exact grM_asc.imp fun h => Nat.ne_of_lt h
    have hp := pairs_early (ticks := rtk wk rd (countsM bs) starts i) (rtk_nn w r h0 i) few nd (fun p hp => by rw [tl]; exact rlt p hp) bn (fun p hp => by rw [tl]; exact bl2 p hp) (fun a b ha hna hb2 => by
      rw [eg] at hna hb2
      exact gr_le ha hna hb2)
    unfold rowM
    rw [leave_same (fun p hp => by rw [tl]; exact rlt p hp) hp, eg]
    rfl
end Pu
namespace Pu
open PySem L2 Rb Gm
/-! ## people exclude an end: no plan keeps it -/
/-! ## the least finish -/
def lfin (wk rd : Int) (bs starts : List Int) : Int := maxL (rtk wk rd (countsM bs) starts bs.length)
end Pu
namespace Pu
open PySem L2 Rb Gm
/-! ## cells behind the deck -/
/-! ## the least finish -/
theorem lfin_eqW {wk rd : Int} {bs starts : List Int} (r1 : 1 ≤ rd) (lt : rd < wk) (hb : ∀ b ∈ bs, 0 ≤ b) (sb : ∀ s ∈ starts, 0 ≤ s) : maxL (tkM wk rd bs starts (rpl wk rd (countsM bs) starts bs.length) bs.length) = lfin wk rd bs starts := by
  unfold lfin
  rw [rule_ticks (by omega) (by omega) hb sb bs.length (Nat.le_refl _)]
theorem least_okW {wk rd : Int} {bs starts : List Int} {S : Sto} {Q : QD} {E : ED} (r1 : 1 ≤ rd) (lt : rd < wk) (l2 : bs.length ≤ 12) (hb : ∀ b ∈ bs, 0 ≤ b ∧ b ≤ 50) (n1 : 1 ≤ starts.length) (n2 : starts.length ≤ 20) (sb : ∀ s ∈ starts, 0 ≤ s) (q : Q (.int (lfin wk rd bs starts)) S) : F_least_finish [roadV wk rd bs, tkD starts] S Q E := by
  unfold F_least_finish
  refine ⟨rfl, ⟨by
    show (below 0 (roadV wk rd bs) && (belowAll 0 (starts.map D.int) && true)) = true
    rw [below_roadV, below_ints]
    rfl, rfl⟩, rule_okW l2 (fun b h => (hb b h).1) n2 ⟨rfl, finish_okW (rpl_ok fun b h => (hb b h).1) n1 n2 l2 hb ?_⟩⟩
  rw [lfin_eqW r1 lt (fun b h => (hb b h).1) sb]
  exact q
theorem least_ok {wk rd : Int} {bs starts : List Int} {S : Sto} {Q : QD} {E : ED} (R : RoadOk wk rd bs) (n1 : 1 ≤ starts.length) (n2 : starts.length ≤ 10) (sb : ∀ s ∈ starts, 0 ≤ s) (q : Q (.int (lfin wk rd bs starts)) S) : F_least_finish [roadV wk rd bs, tkD starts] S Q E :=
  least_okW R.rd1 R.lt R.l2 (fun b h => ⟨(R.hb b h).1, by have := (R.hb b h).2; omega⟩) n1 (by omega) sb q
end Pu
namespace Pu
open PySem L2 Rb Gm
theorem PlanOk.set {bs : List Int} {n : Nat} {plan : List (List Nat)} {sp : Nat} {r r' : List Nat} (ok : PlanOk bs n plan) (hr : plan[sp]? = some r) (h1 : r'.Pairwise (· < ·)) (h2 : ∀ p ∈ r', p < n) (h3 : r'.length = r.length) : PlanOk bs n (plan.set sp r') := by
  have el : ∀ i, ((plan.set sp r').getD i []).length = (plan.getD i []).length := fun i => by
    rw [List.getD_eq_getElem?_getD, List.getD_eq_getElem?_getD, List.getElem?_set]
    split
    · rename_i e
      subst e
      rw [hr, if_pos (List.getElem?_eq_some_iff.mp hr).1]
      exact h3
    · rfl
  refine ⟨by rw [List.length_set]; exact ok.len, ok.nn, fun x hx => ?_, fun x hx => ?_, fun i => ?_⟩
  · rcases List.mem_or_eq_of_mem_set hx with h | rfl
    · exact ok.asc x h
    · exact h1
  · rcases List.mem_or_eq_of_mem_set hx with h | rfl
    · exact ok.lt x h
    · exact h2
  · rw [el, el]
    exact ok.few i
end Pu
namespace Pu
open PySem L2 Rb Gm
/-! ## the other draws: a state of cells and rests -/
def stateS (cs rs : List Int) (n : Int) : Sto := [.lst (rs.map D.int), .lst [.lst false (cs.map D.int), .int n, .cell 0]]
def Nk (S : Sto) (N : Int) (T : Sto) : Prop := ∃ cs rs n, S = stateS cs rs n ++ T ∧ 1 ≤ cs.length ∧ cs.length ≤ 64 ∧ rs.length = cs.length ∧ (∀ x ∈ cs, 0 ≤ x) ∧ (∀ x ∈ rs, 0 ≤ x) ∧ 0 ≤ n ∧ n ≤ N
theorem Nk.le {S : Sto} {N M : Int} {T : Sto} (h : Nk S N T) (e : N ≤ M) : Nk S M T := by
  obtain ⟨cs, rs, n, h1, h2, h3, h4, h5, h6, h7, h8⟩ := h
  exact ⟨cs, rs, n, h1, h2, h3, h4, h5, h6, h7, by omega⟩
end Pu
namespace Pu
open PySem L2 Rb Gm
theorem Nk.len {S : Sto} {N : Int} {T : Sto} (h : Nk S N T) : S.length = 2 + T.length := by
  obtain ⟨cs, rs, n, rfl, _⟩ := h
  rw [List.length_append]
  rfl
theorem Nk.snoc {S : Sto} {N : Int} {T : Sto} (h : Nk S N T) (c : Cl) : Nk (S ++ [c]) N (T ++ [c]) := by
  obtain ⟨cs, rs, n, rfl, h⟩ := h
  exact ⟨cs, rs, n, by rw [List.append_assoc], h⟩
theorem Nk.take2 {S : Sto} {N : Int} {T : Sto} (h : Nk S N T) : Nk (S.take 2) N [] ∧ S.drop 2 = T ∧ (S.take 2).all (Cl.below 2) = true ∧ (S.take 2).length = 2 := by
  obtain ⟨cs, rs, n, rfl, h⟩ := h
  refine ⟨⟨cs, rs, n, rfl, h⟩, rfl, ?_, rfl⟩
  show (belowAll 2 (rs.map D.int) && ((belowAll 2 (cs.map D.int) && (true && (true && true))) && true)) = true
  rw [below_ints, below_ints]
  rfl
theorem Nk.bel {S T : Sto} {N : Int} (h : Nk S N T) : (S.take 2).all (Cl.below 2) = true := h.take2.2.2.1
theorem Nk.app {S T : Sto} {N : Int} (h : Nk S N []) : Nk (S ++ T) N T := by
  obtain ⟨cs, rs, n, rfl, h⟩ := h
  exact ⟨cs, rs, n, by rw [List.append_nil], h⟩
theorem Nk.l2 {S T S1 : Sto} {N : Int} (h : Nk S N T) (l : S1.length = 2) : S1.length = (S.take 2).length := l.trans h.take2.2.2.2.symm
theorem Nk.back {S T S1 : Sto} {N M : Int} (h : Nk S N T) (d : Nk S1 M []) : Nk (S1 ++ S.drop 2) M T := by
  rw [h.take2.2.1]
  exact d.app
end Pu
namespace Pu
open PySem L2 Rb
structure Gv (k n : Nat) (v : D) : Prop where
  py : ∃ p, toPy v = some p ∧ Rb.Nice k n p
  kn : known v = true
  bl : below 0 v = true
  nx : noX v = true
theorem Gv.mono {k n k' n' : Nat} {v : D} (h : Gv k n v) (h1 : k ≤ k') (h2 : n ≤ n') : Gv k' n' v := by
  obtain ⟨p, e, hp⟩ := h.py
  exact ⟨⟨p, e, hp.mono h1 h2⟩, h.kn, h.bl, h.nx⟩
theorem Gv.rep {k n : Nat} {v : D} {S : Sto} {Q : QD} (h : Gv k n v) (q : Q (.str (shw v)) S) (hk : k ≤ 20 := by decide) (hn : n ≤ 100000 := by decide) : iRepr [v] S Q := by
  obtain ⟨p, e, hp⟩ := h.py
  unfold shw at q
  rw [e] at q
  exact iRepr_of (onS e ⟨⟨hp.mono hk hn, .inr h.kn⟩, q⟩)
theorem gvs_all {k n : Nat} : ∀ {xs : List D}, (∀ x ∈ xs, Gv k n x) → (∃ ps, toPyAll xs = some ps ∧ ps.length = xs.length ∧ ∀ p ∈ ps, Rb.Nice k n p) ∧ knownAll xs = true ∧ belowAll 0 xs = true ∧ noXs xs = true
  | [], _ => ⟨⟨[], rfl, rfl, fun p h => absurd h List.not_mem_nil⟩, rfl, rfl, rfl⟩
  | x :: xs, h => by
    obtain ⟨⟨ps, e, l, hp⟩, a, b, c⟩ := gvs_all (xs := xs) fun y hy => h y (List.mem_cons_of_mem _ hy)
    have hx := h x List.mem_cons_self
    obtain ⟨p, ep, np⟩ := hx.py
    refine ⟨⟨p :: ps, ?_, by rw [List.length_cons, List.length_cons, l], fun y hy => ?_⟩, ?_, ?_, ?_⟩
    · show (toPy x).bind _ = _
      rw [ep, e]
      rfl
    · rcases List.mem_cons.mp hy with rfl | hy
      · exact np
      · exact hp y hy
    · show (known x && knownAll xs) = true
      rw [hx.kn, a]
      rfl
    · show (below 0 x && belowAll 0 xs) = true
      rw [hx.bl, b]
      rfl
    · show (noX x && noXs xs) = true
      rw [hx.nx, c]
      rfl
theorem Gv.tup {k n m : Nat} {xs : List D} (h : ∀ x ∈ xs, Gv k n x) (hm : xs.length * (n + 1) ≤ m) : Gv (k + 1) m (.tup xs) := by
  obtain ⟨⟨ps, e, l, hp⟩, a, b, c⟩ := gvs_all h
  refine ⟨⟨.tuple ps, ?_, Rb.Nice.tup hp (by rw [l]; exact hm)⟩, a, b, c⟩
  show (toPyAll xs).map _ = _
  rw [e]
  rfl
theorem Gv.lst {k n m : Nat} {xs : List D} (h : ∀ x ∈ xs, Gv k n x) (hm : xs.length * (n + 1) ≤ m) : Gv (k + 1) m (.lst true xs) := by
  obtain ⟨⟨ps, e, l, hp⟩, a, b, c⟩ := gvs_all h
  refine ⟨⟨.list ps, ?_, Rb.Nice.lst hp (by rw [l]; exact hm)⟩, a, b, c⟩
  show (toPyAll xs).map _ = _
  rw [e]
  rfl
theorem Gv.int {i : Int} (h : i.natAbs < 10 ^ 99) : Gv 0 0 (.int i) := ⟨⟨_, rfl, Rb.Nice.int h⟩, rfl, rfl, rfl⟩
theorem Gv.ints {ns : List Int} (h : ∀ i ∈ ns, 0 ≤ i ∧ i ≤ 10000000) (l : ns.length ≤ 30) : Gv 1 30 (.tup (ns.map D.int)) := Gv.tup (k := 0) (n := 0) (fun x hx => by
  obtain ⟨i, hi, rfl⟩ := List.mem_map.mp hx
  exact Gv.int (Nat.lt_of_lt_of_le (show i.natAbs < 100000000 by have := h i hi; omega) (by decide))) (by rw [List.length_map]; omega)
theorem pyAll_some : ∀ {xs : List D} {ps : List PyData}, toPyAll xs = some ps → ∀ x ∈ xs, (toPy x).isSome = true
  | [], _, _, x, h => absurd h List.not_mem_nil
  | y :: xs, ps, e, x, h => by
    have e : (toPy y).bind (fun z => (toPyAll xs).map (z :: ·)) = some ps := e
    obtain ⟨z, ez, e⟩ := Option.bind_eq_some_iff.mp e
    obtain ⟨zs, ezs, rfl⟩ := Option.map_eq_some_iff.mp e
    rcases List.mem_cons.mp h with rfl | h
    · rw [ez]; rfl
    · exact pyAll_some ezs x h
theorem tup_some {xs : List D} (h : (toPy (.tup xs)).isSome = true) : ∀ x ∈ xs, (toPy x).isSome = true := by
  obtain ⟨p, e⟩ := Option.isSome_iff_exists.mp h
  obtain ⟨ps, e2, _⟩ := Option.map_eq_some_iff.mp (show (toPyAll xs).map PyData.tuple = some p from e)
  exact pyAll_some e2
def isSt : D → Bool
  | .tup xs => (decide (1 ≤ xs.length) && decide (xs.length ≤ 10)) && xs.all (isNum 0 1000000)
  | _ => false
theorem isstarts_ok {v : D} {S : Sto} {Q : QD} {E : ED} (h : (toPy v).isSome = true) (q : Q (.bl (isSt v)) S) : F_is_starts [v] S Q E := by
  unfold F_is_starts
  refine ⟨rfl, ?_⟩
  cases v with
  | tup xs =>
    have hs := tup_some h
    by_cases c : 1 ≤ xs.length ∧ xs.length ≤ 10
    · have e1 : isSt (.tup xs) = xs.all (isNum 0 1000000) := by
        show ((decide (1 ≤ xs.length) && decide (xs.length ≤ 10)) && _) = _
        rw [decide_eq_true c.1, decide_eq_true c.2]
        rfl
      rw [e1] at q
      refine ifT (b := decide ((1 : Int) ≤ (xs.length : Int))) (decide_eq_true (by omega)) ?_
      refine ifF (b := !decide ((xs.length : Int) ≤ 10)) (by rw [decide_eq_true (by omega)]; rfl) ?_
      refine for_inv (src := []) xs (fun i ρ S' => S' = S ∧ (∃ y, ρ = [some (.tup xs), y]) ∧ ∀ x ∈ xs.take i, isNum 0 1000000 x = true) ⟨rfl, ⟨_, rfl⟩, fun x hx => by rw [List.take_zero] at hx; exact absurd hx List.not_mem_nil⟩ ?_ ?_
      · rintro i x ρ S' K hx hK ⟨rfl, ⟨y, rfl⟩, ht⟩
        refine number_ok (hs x (List.mem_of_getElem? hx)) ?_
        cases hn : isNum 0 1000000 x with
        | false =>
          rw [show xs.all (isNum 0 1000000) = false from List.all_eq_false.mpr ⟨x, List.mem_of_getElem? hx, by rw [hn]; decide⟩] at q
          exact q
        | true =>
          refine hK _ _ ⟨rfl, ⟨_, rfl⟩, fun z hz => ?_⟩
          rw [List.take_add_one, hx] at hz
          rcases List.mem_append.mp hz with h | h
          · exact ht z h
          · rw [List.mem_singleton.mp h]
            exact hn
      · rintro ρ S' ⟨rfl, ⟨y, rfl⟩, ht⟩
        rw [List.take_length] at ht
        rw [show xs.all (isNum 0 1000000) = true from List.all_eq_true.mpr ht] at q
        exact q
    · have e1 : isSt (.tup xs) = false := by
        show ((decide (1 ≤ xs.length) && decide (xs.length ≤ 10)) && _) = _
        rw [show (decide (1 ≤ xs.length) && decide (xs.length ≤ 10)) = false by
          rw [← Bool.decide_and]
          exact decide_eq_false c]
        rfl
      rw [e1] at q
      by_cases d : 1 ≤ xs.length
      · refine ifT (b := decide ((1 : Int) ≤ (xs.length : Int))) (decide_eq_true (by omega)) ?_
        exact ifT (b := !decide ((xs.length : Int) ≤ 10)) (by rw [decide_eq_false (by omega)]; rfl) q
      · exact ifF (b := decide ((1 : Int) ≤ (xs.length : Int))) (decide_eq_false (by omega)) q
  | cell _ => cases h
  | glo _ => cases h
  | ty _ => cases h
  | ins _ _ => cases h
  | exc _ _ => cases h
  | kls _ => cases h
  | _ => exact q
end Pu
namespace Pu
open PySem L2 Rb
theorem isSt_of {ns : List Int} (a : 1 ≤ ns.length) (b : ns.length ≤ 10) (c : ∀ i ∈ ns, 0 ≤ i ∧ i ≤ 1000000) : isSt (.tup (ns.map D.int)) = true := by
  show ((decide (1 ≤ (ns.map D.int).length) && decide ((ns.map D.int).length ≤ 10)) && (ns.map D.int).all (isNum 0 1000000)) = true
  rw [List.length_map, decide_eq_true a, decide_eq_true b]
  refine List.all_eq_true.mpr fun x hx => ?_
  obtain ⟨i, hi, rfl⟩ := List.mem_map.mp hx
  show (decide (0 ≤ i) && decide (i ≤ 1000000)) = true
  rw [decide_eq_true (c i hi).1, decide_eq_true (c i hi).2]
  rfl
def ptyF (ns : List Int) : List (Str × D) := [("given", .tup (ns.map D.int)), ("ordered", .tup ((srt ns).map D.int))]
theorem ins_cell {S : Sto} {k : Nat} {x : Str} {fs : List (Str × D)} (h : S[k]? = some (.ins x fs)) : insOf S (.cell k) = some (x, fs) := by
  show insAt S[k]? = _
  rw [h]
  rfl
end Pu
namespace Pu
open PySem L2 Rb Gm
/-! ## parties, races, trips: what their defs give -/
/-- starts as a party takes them -/
structure Sts (ns : List Int) : Prop where
  n1 : 1 ≤ ns.length
  n2 : ns.length ≤ 10
  sb : ∀ s ∈ ns, 0 ≤ s ∧ s ≤ 1000000
theorem Sts.nn {ns : List Int} (h : Sts ns) : ∀ s ∈ ns, 0 ≤ s := fun s hs => (h.sb s hs).1
theorem Sts.is {ns : List Int} (h : Sts ns) : isSt (.tup (ns.map D.int)) = true := isSt_of h.n1 h.n2 h.sb
theorem Sts.py {ns : List Int} : (toPy (.tup (ns.map D.int))).isSome = true := by
  show ((toPyAll (ns.map D.int)).map PyData.tuple).isSome = true
  rw [py_ints]
  rfl
end Pu
namespace Pu
open PySem L2 Rb Gm
/-- what a trip holds -/
def verV (wk rd : Int) (bs ns : List Int) : D := .tup [roadV wk rd bs, .tup (ns.map D.int), .int (lfin wk rd bs ns)]
def trpF (done vs : List D) : List (Str × D) := [("done", .tup done), ("versions", .tup vs), ("watched", .bl false)]
def rcF (wk rd : Int) (bs : List Int) (b : D) : List (Str × D) := [("course", roadV wk rd bs), ("least", b)]
def obD : Option Int → D
  | none => .non
  | some x => .int x
section
variable {S : Sto} {k j : Nat} {Q : QD} {E : ED} {ns ms : List Int} {wk rd : Int} {bs : List Int}
theorem cell_ins {x : Str} {fs : List (Str × D)} (h : S[k]? = some (.ins x fs)) : cellIns S (.cell k) = some (k, x, fs) := by
  show (insAt S[k]?).map _ = _
  rw [h]
  rfl
theorem roaderr2_ok (R : RoadOk wk rd bs) (q : Q .non S) : F_road_error_2 [roadV wk rd bs] S Q E := by
  unfold F_road_error_2
  have h1 := R.rd1
  have h2 := R.lt
  have h3 := R.w2
  refine ⟨rfl, ne_int rfl ⟨rfl, number_ok rfl ?_⟩⟩
  rw [show isNum 1 1000 (.int wk) = true by
    show (decide (1 ≤ wk) && decide (wk ≤ 1000)) = true
    rw [decide_eq_true (by omega), decide_eq_true (by omega)]
    rfl]
  refine number_ok rfl ?_
  rw [show isNum 1 (wk - 1) (.int rd) = true by
    show (decide (1 ≤ rd) && decide (rd ≤ wk - 1)) = true
    rw [decide_eq_true (by omega), decide_eq_true (by omega)]
    rfl]
  have l1 := R.l1
  have l2 := R.l2
  have lm : ((bs.map D.int).length : Int) = (bs.length : Int) := by rw [List.length_map]
  refine ifT (b := decide ((1 : Int) ≤ ((bs.map D.int).length : Int))) (decide_eq_true (by omega)) ?_
  refine ifF (b := !decide (((bs.map D.int).length : Int) ≤ 12)) (by rw [decide_eq_true (by omega)]; rfl) ?_
  refine for_inv (enumD (bs.map D.int)) (fun _ ρ S' => S' = S ∧ ∃ y4 y5, ρ = [some (roadV wk rd bs), some (.int wk), some (.int rd), some (.tup (bs.map D.int)), y4, y5]) ⟨rfl, _, _, rfl⟩ ?_ ?_
  · rintro k x ρ S' K hx hK ⟨rfl, y4, y5, rfl⟩
    obtain ⟨z, hz, rfl⟩ := enumD_get hx
    rw [List.getElem?_map] at hz
    obtain ⟨b, hb, rfl⟩ := Option.map_eq_some_iff.mp hz
    have hbb := R.hb b (List.mem_of_getElem? hb)
    refine ⟨rfl, number_ok rfl ?_⟩
    rw [show isNum 0 12 (.int b) = true by
      show (decide (0 ≤ b) && decide (b ≤ 12)) = true
      rw [decide_eq_true hbb.1, decide_eq_true hbb.2]
      rfl]
    exact hK _ _ ⟨rfl, _, _, rfl⟩
  · rintro ρ S' ⟨rfl, y4, y5, rfl⟩
    exact q
theorem set_new {c d : Cl} : (S ++ [c]).set S.length d = S ++ [d] := set_last
theorem get_new {c : Cl} : (S ++ [c])[S.length]? = some c := by
  rw [List.getElem?_append_right (Nat.le_refl _), Nat.sub_self]
  rfl
section
variable {done : List D} {vs : List D} {v1 v2 v3 : D}
theorem tr_finish (hk : S[k]? = some (.ins "Trip" (trpF done (vs ++ [.tup [v1, v2, v3]])))) (q : Q v3 S) : F_Trip_finish [.cell k] S Q E := by
  unfold F_Trip_finish
  refine ⟨rfl, onS (ins_cell hk) ⟨rfl, onS (a := .tup (vs ++ [.tup [v1, v2, v3]])) rfl ?_⟩⟩
  show onSome (atI (vs ++ [.tup [v1, v2, v3]]) (-1)) _
  exact onS (atI_last _ _) q
end
end
end Pu
namespace Pu
open PySem L2 Rb Gm
/-! ### cells behind the deck -/
section
variable {S T : Sto} {N : Int}
theorem Dk.get (h : Dk S N T) {j : Nat} {c : Cl} (e : T[j]? = some c) : S[2 + j]? = some c := by
  obtain ⟨cs, n, rfl, _⟩ := h
  show (deckS cs n ++ T)[2 + j]? = _
  rw [List.getElem?_append_right (by show (deckS cs n).length ≤ 2 + j; exact Nat.le_add_right _ _)]
  show T[2 + j - 2]? = _
  rw [Nat.add_sub_cancel_left]
  exact e
theorem Dk.put (h : Dk S N T) {j : Nat} {c : Cl} (hj : j < T.length) : Dk (S.set (2 + j) c) N (T.set j c) := by
  obtain ⟨cs, n, rfl, h⟩ := h
  refine ⟨cs, n, ?_, h⟩
  rw [List.set_append_right _ _ (by show (deckS cs n).length ≤ 2 + j; exact Nat.le_add_right _ _)]
  show deckS cs n ++ T.set (2 + j - 2) c = _
  rw [Nat.add_sub_cancel_left]
end
end Pu
namespace Pu
open PySem L2 Rb Gm
/-- all cells stand as before, but perhaps kr; there may be more -/
structure Ev (kr : Nat) (S S' : Sto) : Prop where
  le : S.length ≤ S'.length
  at_ : ∀ i, i < S.length → i ≠ kr → S'[i]? = S[i]?
section
variable {kr k : Nat} {S S' S2 T T' : Sto} {N N' : Int} {c : Cl}
theorem Ev.refl : Ev kr S S := ⟨Nat.le_refl _, fun _ _ _ => rfl⟩
theorem Ev.trans (a : Ev kr S S') (b : Ev kr S' S2) : Ev kr S S2 := ⟨Nat.le_trans a.le b.le, fun i hi h => (b.at_ i (Nat.lt_of_lt_of_le hi a.le) h).trans (a.at_ i hi h)⟩
theorem Ev.app : Ev kr S (S ++ [c]) := ⟨by rw [List.length_append]; omega, fun i hi _ => List.getElem?_append_left hi⟩
theorem Ev.set : Ev kr S (S.set kr c) := ⟨by rw [List.length_set]; exact Nat.le_refl _, fun i _ h => List.getElem?_set_ne (Ne.symm h)⟩
theorem Ev.get (e : Ev kr S S') (h : S[k]? = some c) (n : k ≠ kr) : S'[k]? = some c := (e.at_ k (List.getElem?_eq_some_iff.mp h).1 n).trans h
theorem Dk.any (h : Dk S N T) {k : Nat} (hk : 2 ≤ k) : S[k]? = T[k - 2]? := by
  obtain ⟨cs, n, rfl, _⟩ := h
  show (deckS cs n ++ T)[k]? = _
  rw [List.getElem?_append_right (show (deckS cs n).length ≤ k from hk)]
  rfl
theorem Dk.same (h : Dk S N T) (h' : Dk S' N' T) (hk : 2 ≤ k) (e : S[k]? = some c) : S'[k]? = some c := by rw [h'.any hk, ← h.any hk, e]
end
section
variable {S : Sto} {kt kp kr : Nat} {wk rd : Int} {bs ns : List Int} {a0 a2 a8 a9 a10 a11 a12 : Option D}
/-- the three objects of a turn -/
structure Obj3 (S : Sto) (kt kp kr : Nat) (wk rd : Int) (bs ns : List Int) (b : Option Int) : Prop where
  R : RoadOk wk rd bs
  st : Sts ns
  tr : S[kt]? = some (.ins "Trip" (trpF [] [verV wk rd bs ns]))
  pt : S[kp]? = some (.ins "Party" (ptyF ns))
  rc : S[kr]? = some (.ins "Race" (rcF wk rd bs (obD b)))
  n1 : kt ≠ kr
  n2 : kp ≠ kr
theorem Obj3.fin {Q : QD} {E : ED} {b : Option Int} (o : Obj3 S kt kp kr wk rd bs ns b) (q : Q (.int (lfin wk rd bs ns)) S) : F_Trip_finish [.cell kt] S Q E := tr_finish (vs := []) (v1 := roadV wk rd bs) (v2 := .tup (ns.map D.int)) (v3 := .int (lfin wk rd bs ns)) o.tr q
end
end Pu
namespace Pu
open PySem L2 Rb Gm
/-! ## the draws of k18 to k23: cells of any sign -/
def Mk (S : Sto) (N : Int) (T : Sto) : Prop := ∃ cs rs n, S = stateS cs rs n ++ T ∧ 1 ≤ cs.length ∧ cs.length ≤ 64 ∧ rs.length = cs.length ∧ (∀ x ∈ rs, 0 ≤ x) ∧ 0 ≤ n ∧ n ≤ N
theorem Mk.le {S : Sto} {N M : Int} {T : Sto} (h : Mk S N T) (e : N ≤ M) : Mk S M T := by
  obtain ⟨cs, rs, n, h1, h2, h3, h4, h6, h7, h8⟩ := h
  exact ⟨cs, rs, n, h1, h2, h3, h4, h6, h7, by omega⟩
theorem Mk.len {S : Sto} {N : Int} {T : Sto} (h : Mk S N T) : S.length = 2 + T.length := by
  obtain ⟨cs, rs, n, rfl, _⟩ := h
  rw [List.length_append]
  rfl
theorem Mk.snoc {S : Sto} {N : Int} {T : Sto} (h : Mk S N T) (c : Cl) : Mk (S ++ [c]) N (T ++ [c]) := by
  obtain ⟨cs, rs, n, rfl, h⟩ := h
  exact ⟨cs, rs, n, by rw [List.append_assoc], h⟩
theorem Mk.take2 {S : Sto} {N : Int} {T : Sto} (h : Mk S N T) : Mk (S.take 2) N [] ∧ S.drop 2 = T ∧ (S.take 2).all (Cl.below 2) = true ∧ (S.take 2).length = 2 := by
  obtain ⟨cs, rs, n, rfl, h⟩ := h
  refine ⟨⟨cs, rs, n, rfl, h⟩, rfl, ?_, rfl⟩
  show (belowAll 2 (rs.map D.int) && ((belowAll 2 (cs.map D.int) && (true && (true && true))) && true)) = true
  rw [below_ints, below_ints]
  rfl
theorem Mk.bel {S T : Sto} {N : Int} (h : Mk S N T) : (S.take 2).all (Cl.below 2) = true := h.take2.2.2.1
theorem Mk.app {S T : Sto} {N : Int} (h : Mk S N []) : Mk (S ++ T) N T := by
  obtain ⟨cs, rs, n, rfl, h⟩ := h
  exact ⟨cs, rs, n, by rw [List.append_nil], h⟩
theorem Mk.l2 {S T S1 : Sto} {N : Int} (h : Mk S N T) (l : S1.length = 2) : S1.length = (S.take 2).length := l.trans h.take2.2.2.2.symm
theorem Mk.back {S T S1 : Sto} {N M : Int} (h : Mk S N T) (d : Mk S1 M []) : Mk (S1 ++ S.drop 2) M T := by
  rw [h.take2.2.1]
  exact d.app
end Pu
namespace Pu
open PySem L2 Rb Gm
/-! ## the laws' own finish -/
/-! ## more bicycles at a station -/
def plM (bs : List Int) (j : Nat) (m : Int) : List Int := bs.take j ++ [bs.getD j 0 + m] ++ bs.drop (j + 1)
theorem plM_len {bs : List Int} {j : Nat} {m : Int} (h : j < bs.length) : (plM bs j m).length = bs.length := by
  unfold plM
  rw [List.length_append, List.length_append, List.length_take, List.length_drop, List.length_singleton]
  omega
/-! ## the least number -/
structure FewOk (f : Nat → Int) (e : Int) (n : Nat) (d : D) : Prop where
  w : (d = .non ∧ ∀ m : Nat, m ≤ n → e < f m) ∨ ∃ m : Nat, m ≤ n ∧ d = .int (m : Int) ∧ f m ≤ e ∧ ∀ k : Nat, k < m → e < f k
theorem FewOk.rep {f : Nat → Int} {e : Int} {n : Nat} {d : D} (h : FewOk f e n d) (hn : n ≤ 100) : Rep 0 0 d := by
  rcases h.w with ⟨rfl, a⟩ | ⟨m, m1, rfl, m2, m3⟩
  · exact Rep.non
  · exact Rep.int (by omega) (by omega)
end Pu
namespace Pu
open PySem L2 Rb Gm
/-! ## trips of either kind: a model -/
structure Vn where
  wk : Int
  rd : Int
  bs : List Int
  ns : List Int
structure VnOk (v : Vn) : Prop where
  R : RoadOk v.wk v.rd v.bs
  st : Sts v.ns
def Vn.rv (v : Vn) : D := roadV v.wk v.rd v.bs
def Vn.sv (v : Vn) : D := .tup (v.ns.map D.int)
def Vn.fin (v : Vn) : Int := lfin v.wk v.rd v.bs v.ns
def Vn.d (v : Vn) : D := .tup [v.rv, v.sv, .int v.fin]
inductive TKd where
  | plain
  | prom (L : Int)
def TKd.c : TKd → Str
  | .plain => "Trip"
  | .prom _ => "PromisedTrip"
def TKd.ex : TKd → List (Str × D)
  | .plain => []
  | .prom L => [("promised", .int L)]
def tF (t : TKd) (done vs : List D) (w : Bool) : List (Str × D) := ("done", .tup done) :: ("versions", .tup vs) :: ("watched", .bl w) :: t.ex
def tripC (t : TKd) (done vs : List D) (w : Bool) : Cl := .ins t.c (tF t done vs w)
/-! ### edits of any values -/
inductive Edt where
  | come (a : D)
  | leave (a : D)
  | place (a b : D)
  | take (a b : D)
def Edt.d : Edt → D
  | .come a => .tup [.str "come", a]
  | .leave a => .tup [.str "leave", a]
  | .place a b => .tup [.str "place", a, b]
  | .take a b => .tup [.str "take", a, b]
def Edt.Py : Edt → Prop
  | .come a => (toPy a).isSome = true
  | .leave a => (toPy a).isSome = true
  | .place a b => (toPy a).isSome = true ∧ (toPy b).isSome = true
  | .take a b => (toPy a).isSome = true ∧ (toPy b).isSome = true
def numIn (lo hi : Int) : D → Option Int
  | .int i => if isNum lo hi (.int i) = true then some i else none
  | _ => none
theorem numIn_none {lo hi : Int} {d : D} (h : isNum lo hi d = false) : numIn lo hi d = none := by
  cases d with
  | int i => exact if_neg (by rw [h]; decide)
  | _ => rfl
theorem numIn_some {lo hi : Int} {d : D} (h : isNum lo hi d = true) : ∃ i, d = .int i ∧ lo ≤ i ∧ i ≤ hi ∧ numIn lo hi d = some i := by
  cases d with
  | int i =>
    have h2 : (decide (lo ≤ i) && decide (i ≤ hi)) = true := h
    rw [Bool.and_eq_true] at h2
    exact ⟨i, rfl, of_decide_eq_true h2.1, of_decide_eq_true h2.2, if_pos h⟩
  | _ => cases h
theorem numIn_int {lo hi i : Int} (h1 : lo ≤ i) (h2 : i ≤ hi) : numIn lo hi (.int i) = some i := by
  refine if_pos ?_
  show (decide (lo ≤ i) && decide (i ≤ hi)) = true
  rw [decide_eq_true h1, decide_eq_true h2]
  rfl
def Edt.app : Edt → Vn → Except Er Vn
  | .come a, v => match numIn 0 1000000 a with
    | none => .error ("BadStart", [("value", a)])
    | some s => if 10 ≤ v.ns.length then .error ("TooManyPeople", []) else .ok { v with ns := v.ns ++ [s] }
  | .leave a, v => match numIn 0 ((v.ns.length : Int) - 1) a with
    | none => .error ("NoPerson", [("value", a)])
    | some p => if v.ns.length = 1 then .error ("LastPerson", []) else .ok { v with ns := v.ns.take p.toNat ++ v.ns.drop (p.toNat + 1) }
  | .place a b, v => match numIn 0 ((v.bs.length : Int) - 1) a with
    | none => .error ("NoStation", [("value", a)])
    | some x => match numIn 1 12 b with
      | none => .error ("BadCount", [("value", b)])
      | some n => if 12 < v.bs.getD x.toNat 0 + n then .error ("TooMuch", [("total", .int (v.bs.getD x.toNat 0 + n))]) else .ok { v with bs := plM v.bs x.toNat n }
  | .take a b, v => match numIn 0 ((v.bs.length : Int) - 1) a with
    | none => .error ("NoStation", [("value", a)])
    | some x => match numIn 1 12 b with
      | none => .error ("BadCount", [("value", b)])
      | some n => if v.bs.getD x.toNat 0 < n then .error ("TooFew", [("present", .int (v.bs.getD x.toNat 0))]) else .ok { v with bs := plM v.bs x.toNat (-n) }
section
variable {S : Sto} {Q : QD} {E : ED} {v : Vn}
theorem app_come {a : D} : (Edt.come a).app v = match numIn 0 1000000 a with
    | none => .error ("BadStart", [("value", a)])
    | some s => if 10 ≤ v.ns.length then .error ("TooManyPeople", []) else .ok { v with ns := v.ns ++ [s] } := rfl
theorem app_leave {a : D} : (Edt.leave a).app v = match numIn 0 ((v.ns.length : Int) - 1) a with
    | none => .error ("NoPerson", [("value", a)])
    | some p => if v.ns.length = 1 then .error ("LastPerson", []) else .ok { v with ns := v.ns.take p.toNat ++ v.ns.drop (p.toNat + 1) } := rfl
theorem app_place {a b : D} : (Edt.place a b).app v = match numIn 0 ((v.bs.length : Int) - 1) a with
    | none => .error ("NoStation", [("value", a)])
    | some x => match numIn 1 12 b with
      | none => .error ("BadCount", [("value", b)])
      | some n => if 12 < v.bs.getD x.toNat 0 + n then .error ("TooMuch", [("total", .int (v.bs.getD x.toNat 0 + n))]) else .ok { v with bs := plM v.bs x.toNat n } := rfl
theorem app_take {a b : D} : (Edt.take a b).app v = match numIn 0 ((v.bs.length : Int) - 1) a with
    | none => .error ("NoStation", [("value", a)])
    | some x => match numIn 1 12 b with
      | none => .error ("BadCount", [("value", b)])
      | some n => if v.bs.getD x.toNat 0 < n then .error ("TooFew", [("present", .int (v.bs.getD x.toNat 0))]) else .ok { v with bs := plM v.bs x.toNat (-n) } := rfl
end
/-- an edit keeps what a version must be -/
theorem plM_bd {bs : List Int} {j : Nat} {m : Int} (hb : ∀ b ∈ bs, 0 ≤ b ∧ b ≤ 12) (hj : j < bs.length) (h0 : 0 ≤ bs.getD j 0 + m) (h1 : bs.getD j 0 + m ≤ 12) : ∀ b ∈ plM bs j m, 0 ≤ b ∧ b ≤ 12 := fun b h => by
  unfold plM at h
  rcases List.mem_append.mp h with h | h
  · rcases List.mem_append.mp h with h | h
    · exact hb b (List.mem_of_mem_take h)
    · rw [List.mem_singleton.mp h]
      exact ⟨h0, h1⟩
  · exact hb b (List.mem_of_mem_drop h)
theorem getD_mem' {bs : List Int} {j : Nat} (hj : j < bs.length) : bs.getD j 0 ∈ bs := by
  rw [List.getD_eq_getElem?_getD, List.getElem?_eq_getElem hj]
  exact List.getElem_mem hj
theorem app_ok {e : Edt} {v v' : Vn} (ok : VnOk v) (h : e.app v = .ok v') : VnOk v' := by
  obtain ⟨wk, rd, bs, ns⟩ := v
  obtain ⟨R, st⟩ := ok
  dsimp only at R st
  have hl := st.n2
  have hl1 := st.n1
  cases e with
  | come a =>
    cases hn : numIn 0 1000000 a with
    | none =>
      unfold Edt.app at h
      dsimp only at h
      rw [hn] at h
      cases h
    | some s =>
      unfold Edt.app at h
      dsimp only at h
      rw [hn] at h
      dsimp only at h
      split at h
      · cases h
      · rename_i c
        cases h
        refine ⟨R, ?_, ?_, fun x hx => ?_⟩
        · show 1 ≤ (ns ++ [s]).length
          rw [List.length_append]; omega
        · show (ns ++ [s]).length ≤ 10
          rw [List.length_append, List.length_singleton]; omega
        · rcases List.mem_append.mp hx with z | z
          · exact st.sb x z
          · rw [List.mem_singleton.mp z]
            have : isNum 0 1000000 a = true := by
              cases hh : isNum 0 1000000 a with
              | true => rfl
              | false => rw [numIn_none hh] at hn; cases hn
            obtain ⟨i, rfl, i0, i1, e⟩ := numIn_some this
            rw [e] at hn
            cases hn
            exact ⟨i0, i1⟩
  | leave a =>
    cases hn : numIn 0 ((ns.length : Int) - 1) a with
    | none =>
      unfold Edt.app at h
      dsimp only at h
      rw [hn] at h
      cases h
    | some s =>
      unfold Edt.app at h
      dsimp only at h
      rw [hn] at h
      dsimp only at h
      split at h
      · cases h
      · rename_i c
        cases h
        have : isNum 0 ((ns.length : Int) - 1) a = true := by
          cases hh : isNum 0 ((ns.length : Int) - 1) a with
          | true => rfl
          | false => rw [numIn_none hh] at hn; cases hn
        obtain ⟨i, rfl, i0, i1, e⟩ := numIn_some this
        rw [e] at hn
        cases hn
        refine ⟨R, ?_, ?_, fun x hx => ?_⟩
        · show 1 ≤ (ns.take s.toNat ++ ns.drop (s.toNat + 1)).length
          rw [List.length_append, List.length_take, List.length_drop]; omega
        · show (ns.take s.toNat ++ ns.drop (s.toNat + 1)).length ≤ 10
          rw [List.length_append, List.length_take, List.length_drop]; omega
        · rcases List.mem_append.mp hx with z | z
          · exact st.sb x (List.mem_of_mem_take z)
          · exact st.sb x (List.mem_of_mem_drop z)
  | place a b =>
    cases hn : numIn 0 ((bs.length : Int) - 1) a with
    | none =>
      unfold Edt.app at h
      dsimp only at h
      rw [hn] at h
      cases h
    | some x =>
      cases hn2 : numIn 1 12 b with
      | none =>
        unfold Edt.app at h
        dsimp only at h
        rw [hn] at h
        dsimp only at h
        rw [hn2] at h
        cases h
      | some n =>
        unfold Edt.app at h
        dsimp only at h
        rw [hn] at h
        dsimp only at h
        rw [hn2] at h
        dsimp only at h
        split at h
        · cases h
        · rename_i c
          cases h
          have b1 : isNum 0 ((bs.length : Int) - 1) a = true := by
            cases hh : isNum 0 ((bs.length : Int) - 1) a with
            | true => rfl
            | false => rw [numIn_none hh] at hn; cases hn
          obtain ⟨i, rfl, i0, i1, e⟩ := numIn_some b1
          rw [e] at hn
          cases hn
          have b2 : isNum 1 12 b = true := by
            cases hh : isNum 1 12 b with
            | true => rfl
            | false => rw [numIn_none hh] at hn2; cases hn2
          obtain ⟨i2, rfl, j0, j1, e2⟩ := numIn_some b2
          rw [e2] at hn2
          cases hn2
          have hx : x.toNat < bs.length := by omega
          have hb := R.hb _ (getD_mem' hx)
          exact ⟨⟨R.rd1, R.lt, R.w2, by show 1 ≤ (plM bs x.toNat n).length; rw [plM_len hx]; exact R.l1, by show (plM bs x.toNat n).length ≤ 12; rw [plM_len hx]; exact R.l2, plM_bd R.hb hx (by omega) (by omega)⟩, st⟩
  | take a b =>
    cases hn : numIn 0 ((bs.length : Int) - 1) a with
    | none =>
      unfold Edt.app at h
      dsimp only at h
      rw [hn] at h
      cases h
    | some x =>
      cases hn2 : numIn 1 12 b with
      | none =>
        unfold Edt.app at h
        dsimp only at h
        rw [hn] at h
        dsimp only at h
        rw [hn2] at h
        cases h
      | some n =>
        unfold Edt.app at h
        dsimp only at h
        rw [hn] at h
        dsimp only at h
        rw [hn2] at h
        dsimp only at h
        split at h
        · cases h
        · rename_i c
          cases h
          have b1 : isNum 0 ((bs.length : Int) - 1) a = true := by
            cases hh : isNum 0 ((bs.length : Int) - 1) a with
            | true => rfl
            | false => rw [numIn_none hh] at hn; cases hn
          obtain ⟨i, rfl, i0, i1, e⟩ := numIn_some b1
          rw [e] at hn
          cases hn
          have b2 : isNum 1 12 b = true := by
            cases hh : isNum 1 12 b with
            | true => rfl
            | false => rw [numIn_none hh] at hn2; cases hn2
          obtain ⟨i2, rfl, j0, j1, e2⟩ := numIn_some b2
          rw [e2] at hn2
          cases hn2
          have hx : x.toNat < bs.length := by omega
          have hb := R.hb _ (getD_mem' hx)
          exact ⟨⟨R.rd1, R.lt, R.w2, by show 1 ≤ (plM bs x.toNat (-n)).length; rw [plM_len hx]; exact R.l1, by show (plM bs x.toNat (-n)).length ≤ 12; rw [plM_len hx]; exact R.l2, plM_bd R.hb hx (by omega) (by omega)⟩, st⟩
end Pu
namespace Pu
open PySem L2 Rb Gm
/-! ## trips of either kind: attributes, edits -/
section
variable {S : Sto} {k : Nat} {t : TKd} {done vs : List D} {w : Bool}
abbrev TAt (S : Sto) (k : Nat) (t : TKd) (done vs : List D) (w : Bool) : Prop := S[k]? = some (tripC t done vs w)
theorem t_ins (hk : TAt S k t done vs w) : insOf S (.cell k) = some (t.c, tF t done vs w) := ins_cell hk
theorem t_has : (["Trip", "PromisedTrip"] : List Str).contains t.c = true := by cases t <;> rfl
theorem t_done {K : D → Prop} (hk : TAt S k t done vs w) (q : K (.tup done)) : onSome (insOf S (.cell k)) fun cf => (["Trip", "PromisedTrip"] : List Str).contains cf.1 = true ∧ onSome (lookF "done" cf.2) K := onS (t_ins hk) ⟨t_has, onS (a := .tup done) rfl q⟩
theorem t_vers {K : D → Prop} (hk : TAt S k t done vs w) (q : K (.tup vs)) : onSome (insOf S (.cell k)) fun cf => (["Trip", "PromisedTrip"] : List Str).contains cf.1 = true ∧ onSome (lookF "versions" cf.2) K := onS (t_ins hk) ⟨t_has, onS (a := .tup vs) rfl q⟩
/-- a property, a method that both kinds have -/
theorem t_prop {F : FF} {K : FF → Prop} (hk : TAt S k t done vs w) (q : K F) : onSome (insOf S (.cell k)) fun cf => onSome (tabF [("Trip", F), ("PromisedTrip", F)] cf.1) K := onS (t_ins hk) (onS (a := F) (by cases t <;> rfl) q)
theorem t_meth {F : FF} {K : FF → Prop} {m : Str} (hk : TAt S k t done vs w) (nm : lookF m (tF t done vs w) = none) (q : K F) : onSome (insOf S (.cell k)) fun cf => lookF m cf.2 = none ∧ onSome (tabF [("Trip", F), ("PromisedTrip", F)] cf.1) K := onS (t_ins hk) ⟨nm, onS (a := F) (by cases t <;> rfl) q⟩
theorem TAt.put {c : Cl} (hk : S[k]? = some c) (done' vs' : List D) (w' : Bool) : TAt (S.set k (tripC t done' vs' w')) k t done' vs' w' := List.getElem?_set_self (List.getElem?_eq_some_iff.mp hk).1
end
section
variable {S : Sto} {k : Nat} {Q : QD} {E : ED} {v : Vn} {t : TKd} {done vs : List D} {w : Bool} {v1 v2 v3 : D}
theorem t_road (hk : TAt S k t done (vs ++ [.tup [v1, v2, v3]]) w) (q : Q v1 S) : F_Trip_road_2 [.cell k] S Q E := by
  unfold F_Trip_road_2
  refine ⟨rfl, t_vers hk ?_⟩
  show onSome (atI (vs ++ [.tup [v1, v2, v3]]) (-1)) _
  exact onS (atI_last _ _) q
theorem t_starts (hk : TAt S k t done (vs ++ [.tup [v1, v2, v3]]) w) (q : Q v2 S) : F_Trip_starts_2 [.cell k] S Q E := by
  unfold F_Trip_starts_2
  refine ⟨rfl, t_vers hk ?_⟩
  show onSome (atI (vs ++ [.tup [v1, v2, v3]]) (-1)) _
  exact onS (atI_last _ _) q
theorem t_length (hk : TAt S k t done vs w) (q : Q (.int (done.length : Int)) S) : F_Trip_len [.cell k] S Q E := by
  unfold F_Trip_len
  exact ⟨rfl, t_done hk q⟩
/-! ### one edit -/
end
end Pu
namespace Pu
open PySem L2 Rb Gm
/-! ## a new trip, what it tells -/
def itx (i : Int) : Str := Str.ofString (toString i)
section
variable {S : Sto} {k : Nat} {Q : QD} {E : ED} {v : Vn} {t : TKd} {done vs : List D} {w : Bool}
theorem t_init {c : Str} (hc : c = "Trip" ∨ c = "PromisedTrip") (hk : S[k]? = some (.ins c [])) (ok : VnOk v) (q : Q .non (S.set k (.ins c [("done", .tup []), ("versions", .tup [v.d]), ("watched", .bl false)]))) : F_Trip_init_2 [.cell k, v.rv, v.sv] S Q E := by
  have hh : (["Trip", "PromisedTrip"] : List Str).contains c = true := by rcases hc with rfl | rfl <;> rfl
  have kl : k < S.length := (List.getElem?_eq_some_iff.mp hk).1
  have put : ∀ fs, (S.set k (.ins c fs))[k]? = some (.ins c fs) := fun fs => List.getElem?_set_self kl
  unfold F_Trip_init_2
  refine ⟨rfl, roaderr2_ok ok.R ⟨rfl, ?_⟩⟩
  refine isstarts_ok Sts.py ?_
  rw [show isSt v.sv = true from ok.st.is]
  refine ⟨szr rfl, ?_⟩
  show onSome (cellIns S (.cell k)) _
  refine onS (cell_ins hk) ⟨⟨hh, by show 0 ≤ 500; decide⟩, ?_⟩
  refine least_ok ok.R ok.st.n1 ok.st.n2 ok.st.nn ⟨szr rfl, szr rfl, ?_⟩
  show onSome (cellIns (S.set k (.ins c [("done", .tup [])])) (.cell k)) _
  refine onS (cell_ins (put _)) ⟨⟨hh, by show 1 ≤ 500; decide⟩, ?_⟩
  rw [List.set_set]
  show onSome (cellIns (S.set k (.ins c [("done", .tup []), ("versions", .tup [v.d])])) (.cell k)) _
  refine onS (cell_ins (put _)) ⟨⟨hh, by show 2 ≤ 500; decide⟩, ?_⟩
  rw [List.set_set]
  exact q
/-- a new plain trip -/
theorem t_make (ok : VnOk v) (q : Q .non (S ++ [tripC .plain [] [v.d] false])) : F_Trip_init_2 [.cell S.length, v.rv, v.sv] (S ++ [.ins "Trip" []]) Q E := by
  refine t_init (.inl rfl) get_new ok ?_
  rw [set_new]
  exact q
end
end Pu
namespace Pu
open PySem L2 Rb Gm TL
/-! ## the text of a trip -/
section
variable {S : Sto} {k : Nat} {Q : QD} {E : ED} {v : Vn} {t : TKd} {done vs : List D} {w : Bool}
theorem str_len (a b : Str) : (a ++ b).length = a.length + b.length := by
  show (a ++ b).cps.size = _
  rw [Str.cps_append, Array.size_append]
  rfl
end
end Pu
namespace Pu
open PySem L2 Rb Gm TL
/-! ## the draws of the laws of texts -/
theorem deck2_ok {ns : List Int} {Q : QD} {E : ED} (q : ∀ S, Dk S 0 [] → Q (.cell 1) S) : F_law_deck_2 [.kls (ns.map D.int)] [] Q E := by
  unfold F_law_deck_2
  refine ⟨rfl, ?_⟩
  have e : cutD (ns.map D.int) none (some 60) = (ns.take 60).map D.int := by
    rw [show (60 : Int) = ((60 : Nat) : Int) from rfl, cut_to, List.map_take]
  show (cutD (ns.map D.int) none (some 60)).length ≤ sizeLine ∧ dCompL (st1 1) dYes (dB gAbs (dCons (dVar 1) dNil)) [] (cutD (ns.map D.int) none (some 60)) [] [some (.kls (ns.map D.int)), none] [] _
  rw [e]
  refine ⟨by rw [List.length_map, List.length_take]; exact Rb.sz_le (by omega), ?_⟩
  refine comp_map (src := []) (g := fun d => match d with | .int i => .int (absI i) | d => d) (fun _ p => p) _ [] ?_ ?_
  · intro x hx
    obtain ⟨i, _, rfl⟩ := List.mem_map.mp hx
    exact ⟨_, rfl, fun Q q => q⟩
  rw [List.nil_append, List.map_map]
  refine ⟨szr rfl, ?_⟩
  have em : ((ns.take 60).map D.int).length ≤ 60 := by rw [List.length_map, List.length_take]; omega
  refine q _ ⟨(ns.take 60).map absI, 0, ?_, by rw [List.length_map, List.length_take]; omega, fun x hx => ?_, by omega, by omega⟩
  · rw [List.append_nil]
    show [Cl.lst _, _] = [Cl.lst (((ns.take 60).map absI).map D.int), _]
    rw [List.map_map]
    rfl
  · obtain ⟨i, _, rfl⟩ := List.mem_map.mp hx
    exact absI_nn i
theorem draw3_ok {S T : Sto} {N lim : Int} {Q : QD} {E : ED} (h : Dk S N T) (hN : N ≤ 1000000) (h1 : 1 ≤ lim) (h2 : lim ≤ 1000000000) (q : ∀ r S', 0 ≤ r → r < lim → Dk S' (N + 1) T → Q (.int r) S') : F_law_draw_3 [.cell 1, .int lim] S Q E := by
  obtain ⟨cs, n, rfl, hl, h0, hn, hn2⟩ := h
  have fin : ∀ r cs', 0 ≤ r → r < lim → cs'.length ≤ 63 → (∀ x ∈ cs', 0 ≤ x) → Q (.int r) (deckS cs' (n + 1) ++ T) := fun r cs' a b c d => q r _ a b ⟨cs', n + 1, rfl, c, d, by omega, by omega⟩
  unfold F_law_draw_3
  have cl : ((cs.map D.int).length : Int) = (cs.length : Int) := by rw [List.length_map]
  generalize hmx : (if ((cs.map D.int).length : Int) > 1 then ((cs.map D.int).length : Int) else 1) = mx
  have mb : 1 ≤ mx ∧ (cs.length : Int) ≤ mx ∧ (mx = 1 ∨ mx = cs.length) := by rw [← hmx, cl]; split <;> omega
  have y0 : 0 ≤ (n + 1) % mx := Int.emod_nonneg _ (by omega)
  have y1 : (n + 1) % mx < mx := Int.emod_lt_of_pos _ (by omega)
  refine ⟨rfl, ?_⟩
  show (0 : Int) < (if ((cs.map D.int).length : Int) > 1 then ((cs.map D.int).length : Int) else 1) ∧ _
  rw [hmx]
  refine ⟨by omega, ?_⟩
  obtain ⟨j, hj⟩ : ∃ j : Nat, (n + 1) % mx = (j : Int) := ⟨_, (Int.toNat_of_nonneg y0).symm⟩
  refine ⟨szr rfl, szd (by show (cs.map D.int).length + 1 ≤ 100000; rw [List.length_map]; omega), ?_⟩
  have ex : ∃ x : Int, atI ((cs ++ [0]).map D.int) (j : Int) = some (.int x) ∧ 0 ≤ x ∧ (10 ^ 18 ≤ x → j < cs.length) := by
    have jl : j < (cs ++ [0]).length := by rw [List.length_append, List.length_singleton]; omega
    refine ⟨(cs ++ [0])[j], atI_nat (by rw [List.getElem?_map, List.getElem?_eq_getElem jl]; rfl), ?_, fun hb => ?_⟩
    · rcases List.mem_append.mp (List.getElem_mem jl) with z | z
      · exact h0 _ z
      · rw [List.mem_singleton.mp z]; exact Int.le_refl _
    · rcases Nat.lt_or_ge j cs.length with z | z
      · exact z
      · exfalso
        rw [List.getElem_append_right z] at hb
        rw [show ([0] : List Int)[j - cs.length]'(by rw [List.length_singleton]; omega) = 0 from List.mem_singleton.mp (List.getElem_mem _)] at hb
        exact absurd hb (by decide)
  obtain ⟨x, e1, hx, hbig⟩ := ex
  have e2 : atI (cs.map D.int ++ [D.int 0]) ((n + 1) % mx) = some (.int x) := by rw [hj]; rw [List.map_append] at e1; exact e1
  show onSome (atI (cs.map D.int ++ [D.int 0]) ((n + 1) % mx)) _
  refine onS e2 ?_
  refine ⟨⟨by decide, by decide, by decide⟩, ifB (fun hb => ?_) fun hb => ?_⟩
  · have hb' : (10 : Int) ^ 18 ≤ x := of_decide_eq_true hb
    have jc := hbig hb'
    have wd : CDivW x lim := wide_div (b := 30) (by omega) (by omega) (by decide) (by decide)
    refine ⟨wd, onS (a := j) ?_ ?_⟩
    · show ixN (cs.map D.int).length ((n + 1) % mx) = some j
      rw [hj]
      unfold ixN
      rw [if_pos (by omega), if_pos (by rw [List.length_map]; omega), Int.toNat_natCast]
    · refine ⟨by omega, ?_⟩
      have e : (cs.map D.int).set j (D.int (x / lim)) = (cs.set j (x / lim)).map D.int := List.map_set.symm
      show Q (.int (x % lim)) (Cl.lst ((cs.map D.int).set j (D.int (x / lim))) :: Cl.lst [.cell 0, .int (n + 1)] :: T)
      rw [e]
      refine fin _ (cs.set j (x / lim)) (Int.emod_nonneg _ (by omega)) (Int.emod_lt_of_pos _ (by omega)) (by rw [List.length_set]; exact hl) fun z hz => ?_
      rcases List.mem_or_eq_of_mem_set hz with hz | rfl
      · exact h0 z hz
      · exact Int.ediv_nonneg hx (by omega)
  · have hm := Int.emod_nonneg x (show (2147483563 : Int) ≠ 0 by decide)
    have hm2 := Int.emod_lt_of_pos x (show (0 : Int) < 2147483563 by decide)
    refine ⟨by show (0 : Int) < _; decide, .inl (.inl ⟨by decide, by decide⟩), ⟨by decide, by decide, ?_⟩, by show (0 : Int) < _; decide, ?_⟩
    · show (x % 2147483563 + 104729 * (n + 1) + 7).natAbs < 2 ^ 64
      omega
    have z := Int.emod_nonneg (((x % 2147483563 + 104729 * (n + 1) + 7) ^ (4 : Int).toNat % 2147483629) / 8 + 31 * (n + 1)) (show lim ≠ 0 by omega)
    have z2 := Int.emod_lt_of_pos (((x % 2147483563 + 104729 * (n + 1) + 7) ^ (4 : Int).toNat % 2147483629) / 8 + 31 * (n + 1)) (show 0 < lim by omega)
    exact ⟨⟨by decide, by decide⟩, .inl (.inl ⟨by decide, by decide⟩), by show (0 : Int) < lim; omega, fin _ cs z z2 hl h0⟩
end Pu
namespace Pu
open PySem L2 Rb Gm TL
theorem numIn_inv {lo hi i : Int} {d : D} (h : numIn lo hi d = some i) : d = .int i ∧ lo ≤ i ∧ i ≤ hi := by
  have e : isNum lo hi d = true := by
    cases hh : isNum lo hi d with
    | true => rfl
    | false => rw [numIn_none hh] at h; cases h
  obtain ⟨j, rfl, a, b, e⟩ := numIn_some e
  rw [e] at h
  cases h
  exact ⟨rfl, a, b⟩
/-- an edit that is right, and what comes of it -/
inductive Okk (v : Vn) : Edt → Vn → Prop
  | come (s : Int) (s0 : 0 ≤ s) (s1 : s ≤ 1000000) (h : v.ns.length ≤ 9) : Okk v (.come (.int s)) { v with ns := v.ns ++ [s] }
  | leave (p : Nat) (hp : p < v.ns.length) (h : 2 ≤ v.ns.length) : Okk v (.leave (.int (p : Int))) { v with ns := v.ns.take p ++ v.ns.drop (p + 1) }
  | place (x : Nat) (n : Int) (hx : x < v.bs.length) (n0 : 1 ≤ n) (n1 : n ≤ 12) (h : v.bs.getD x 0 + n ≤ 12) : Okk v (.place (.int (x : Int)) (.int n)) { v with bs := plM v.bs x n }
  | take (x : Nat) (n : Int) (hx : x < v.bs.length) (n0 : 1 ≤ n) (n1 : n ≤ 12) (h : n ≤ v.bs.getD x 0) : Okk v (.take (.int (x : Int)) (.int n)) { v with bs := plM v.bs x (-n) }
theorem Okk.app {v v' : Vn} {e : Edt} (h : Okk v e v') : e.app v = .ok v' := by
  cases h with
  | come s s0 s1 h =>
    rw [app_come, numIn_int s0 s1]
    exact if_neg (by omega)
  | leave p hp h =>
    rw [app_leave, numIn_int (by omega) (by omega)]
    exact if_neg (by omega)
  | place x n hx n0 n1 h =>
    rw [app_place, numIn_int (by omega) (by omega)]
    dsimp only
    rw [numIn_int n0 n1]
    exact if_neg (by rw [Int.toNat_natCast]; omega)
  | take x n hx n0 n1 h =>
    rw [app_take, numIn_int (by omega) (by omega)]
    dsimp only
    rw [numIn_int n0 n1]
    exact if_neg (by rw [Int.toNat_natCast]; omega)
theorem Okk.of {v v' : Vn} {e : Edt} (h1 : 1 ≤ v.ns.length) (h : e.app v = .ok v') : Okk v e v' := by
  cases e with
  | come a =>
    rw [app_come] at h
    cases hn : numIn 0 1000000 a with
    | none => rw [hn] at h; cases h
    | some s =>
      rw [hn] at h
      obtain ⟨rfl, a0, a1⟩ := numIn_inv hn
      dsimp only at h
      split at h
      · cases h
      · cases h; exact .come s a0 a1 (by omega)
  | leave a =>
    rw [app_leave] at h
    cases hn : numIn 0 ((v.ns.length : Int) - 1) a with
    | none => rw [hn] at h; cases h
    | some s =>
      rw [hn] at h
      obtain ⟨rfl, a0, a1⟩ := numIn_inv hn
      obtain ⟨p, rfl⟩ : ∃ p : Nat, s = (p : Int) := ⟨s.toNat, (Int.toNat_of_nonneg a0).symm⟩
      dsimp only at h
      split at h
      · cases h
      · cases h; exact .leave p (by omega) (by omega)
  | place a b =>
    rw [app_place] at h
    cases hn : numIn 0 ((v.bs.length : Int) - 1) a with
    | none => rw [hn] at h; cases h
    | some x =>
      rw [hn] at h
      obtain ⟨rfl, a0, a1⟩ := numIn_inv hn
      obtain ⟨p, rfl⟩ : ∃ p : Nat, x = (p : Int) := ⟨x.toNat, (Int.toNat_of_nonneg a0).symm⟩
      dsimp only at h
      cases hm : numIn 1 12 b with
      | none => rw [hm] at h; cases h
      | some n =>
        rw [hm] at h
        obtain ⟨rfl, b0, b1⟩ := numIn_inv hm
        dsimp only at h
        split at h
        · cases h
        · rename_i hc
          cases h
          rw [Int.toNat_natCast] at hc
          exact .place p n (by omega) b0 b1 (by omega)
  | take a b =>
    rw [app_take] at h
    cases hn : numIn 0 ((v.bs.length : Int) - 1) a with
    | none => rw [hn] at h; cases h
    | some x =>
      rw [hn] at h
      obtain ⟨rfl, a0, a1⟩ := numIn_inv hn
      obtain ⟨p, rfl⟩ : ∃ p : Nat, x = (p : Int) := ⟨x.toNat, (Int.toNat_of_nonneg a0).symm⟩
      dsimp only at h
      cases hm : numIn 1 12 b with
      | none => rw [hm] at h; cases h
      | some n =>
        rw [hm] at h
        obtain ⟨rfl, b0, b1⟩ := numIn_inv hm
        dsimp only at h
        split at h
        · cases h
        · rename_i hc
          cases h
          rw [Int.toNat_natCast] at hc
          exact .take p n (by omega) b0 b1 (by omega)
theorem Okk.py {v v' : Vn} {e : Edt} (h : Okk v e v') : e.Py := by cases h <;> first | rfl | exact ⟨rfl, rfl⟩
end Pu
namespace Pu
open PySem L2 Rb Gm TL
def TKd.L : TKd → Option Int
  | .plain => none
  | .prom l => some l
section
variable {S : Sto} {k : Nat} {Q : QD} {E : ED} {v : Vn} {t : TKd} {done vs : List D} {w : Bool}
/-- the promised tick of a trip with a promise -/
theorem p_latest {l : Int} (hk : TAt S k (.prom l) done vs w) (q : Q (.int l) S) : F_Promise_latest_2 [.cell k] S Q E := by
  unfold F_Promise_latest_2
  exact ⟨rfl, onS (t_ins hk) ⟨rfl, onS (a := .int l) rfl q⟩⟩
theorem p_prop {l : Int} {K : FF → Prop} (hk : TAt S k (.prom l) done vs w) (q : K F_Promise_latest_2) : onSome (insOf S (.cell k)) fun cf => onSome (tabF [("PromisedTrip", F_Promise_latest_2)] cf.1) K := onS (t_ins hk) (onS (a := F_Promise_latest_2) rfl q)
end
end Pu
namespace Pu
open PySem L2 Rb Gm TL
theorem VnOk.repS {v : Vn} (ok : VnOk v) : Rep 1 10 v.sv := Rep.starts ok.st.n2 fun s hs => ok.st.sb s hs
theorem VnOk.repR {v : Vn} (ok : VnOk v) : Rep 2 39 v.rv := Rep.road ok.R
theorem VnOk.rep {v : Vn} (ok : VnOk v) : Rep 3 80 (.tup [v.rv, v.sv]) := Rep.tup (k := 2) (n := 39) (fun d hd => by
  rcases List.mem_cons.mp hd with rfl | hd
  · exact ok.repR
  · rw [List.mem_singleton.mp hd]
    exact ok.repS.mono (by decide) (by decide)) (by show 2 * 40 ≤ 80; decide)
theorem rep_word {x : Str} (h : x.cps.size ≤ 5) (hx : x.cps.toList.all (fun c => decide (c < 16 ^ 8)) = true) (ho : PyData.canLay0 (.str x) = true) (hf : (PyData.str x).shown.cps.toList.all (fun c => decide (c < 1114112)) = true) : Rep 0 5 (.str x) := Rep.str h (fun c hc => of_decide_eq_true (List.all_eq_true.mp hx c hc)) ho (fine_of hf)
theorem Okk.rep {v v' : Vn} {e : Edt} (l2 : v.bs.length ≤ 12) (n2 : v.ns.length ≤ 10) (h : Okk v e v') : Rep 1 18 e.d := by
  have wc : Rep 0 5 (.str "come") := rep_word (by decide +kernel) (by decide +kernel) (by decide +kernel) (by decide +kernel)
  have wl : Rep 0 5 (.str "leave") := rep_word (by decide +kernel) (by decide +kernel) (by decide +kernel) (by decide +kernel)
  have wp : Rep 0 5 (.str "place") := rep_word (by decide +kernel) (by decide +kernel) (by decide +kernel) (by decide +kernel)
  have wt : Rep 0 5 (.str "take") := rep_word (by decide +kernel) (by decide +kernel) (by decide +kernel) (by decide +kernel)
  have int : ∀ {i : Int}, -1000000000000 ≤ i → i ≤ 1000000000000 → Rep 0 5 (.int i) := fun a b => (Rep.int a b).mono (by decide) (by decide)
  cases h with
  | come s s0 s1 h =>
    refine Rep.tup (n := 5) (fun d hd => ?_) (by show 2 * 6 ≤ 18; decide)
    simp only [List.mem_cons, List.not_mem_nil, or_false] at hd
    rcases hd with rfl | rfl
    · exact wc
    · exact int (by omega) (by omega)
  | leave p hp h =>
    refine Rep.tup (n := 5) (fun d hd => ?_) (by show 2 * 6 ≤ 18; decide)
    simp only [List.mem_cons, List.not_mem_nil, or_false] at hd
    rcases hd with rfl | rfl
    · exact wl
    · exact int (by omega) (by omega)
  | place x n hx n0 n1 h =>
    refine Rep.tup (n := 5) (fun d hd => ?_) (by show 3 * 6 ≤ 18; decide)
    simp only [List.mem_cons, List.not_mem_nil, or_false] at hd
    rcases hd with rfl | rfl | rfl
    · exact wp
    · exact int (by omega) (by omega)
    · exact int (by omega) (by omega)
  | take x n hx n0 n1 h =>
    refine Rep.tup (n := 5) (fun d hd => ?_) (by show 3 * 6 ≤ 18; decide)
    simp only [List.mem_cons, List.not_mem_nil, or_false] at hd
    rcases hd with rfl | rfl | rfl
    · exact wt
    · exact int (by omega) (by omega)
    · exact int (by omega) (by omega)
section
variable {S : Sto} {k j : Nat} {Q : QD} {E : ED} {v : Vn} {t : TKd} {done vs : List D} {w : Bool} {b : Bool}
theorem nat_bd {i : Int} (h : i.natAbs < 10 ^ 10) : i.natAbs < 2 ^ 1000 := Nat.lt_trans h (by decide)
end
end Pu
namespace Pu
open PySem L2 Rb Gm TL
section
variable {S : Sto} {n : Nat} {xs : List D}
theorem cell_lst (h : S[n]? = some (.lst xs)) : cellOf S (.cell n) = some (n, xs) := by
  show (lstAt S[n]?).map _ = _
  rw [h]
  rfl
theorem seq_cell (h : S[n]? = some (.lst xs)) : seqOf S (.cell n) = some xs := by
  show lstAt S[n]? = _
  rw [h]
  rfl
end
/-- a trip and the law's list of its edits, in the cells behind the deck -/
structure TrW (T : Sto) (a b : Nat) (t : TKd) (es : List Edt) (us : List Vn) (v : Vn) : Prop where
  ha : T[a]? = some (.lst (es.map Edt.d))
  hb : T[b]? = some (tripC t (es.map Edt.d) (us.map Vn.d ++ [v.d]) false)
  ne : a ≠ b
  hl : us.length = es.length
  rep : ∀ d ∈ es.map Edt.d, Rep 1 18 d
  ok : VnOk v
theorem TrW.la {T : Sto} {a b : Nat} {t : TKd} {es : List Edt} {us : List Vn} {v : Vn} (h : TrW T a b t es us v) : a < T.length := (List.getElem?_eq_some_iff.mp h.ha).1
theorem TrW.lb {T : Sto} {a b : Nat} {t : TKd} {es : List Edt} {us : List Vn} {v : Vn} (h : TrW T a b t es us v) : b < T.length := (List.getElem?_eq_some_iff.mp h.hb).1
/-- after one more edit -/
theorem TrW.next {T : Sto} {a b : Nat} {t : TKd} {es : List Edt} {us : List Vn} {v v' : Vn} {e : Edt} (h : TrW T a b t es us v) (o : Okk v e v') : TrW ((T.set a (.lst (es.map Edt.d ++ [e.d]))).set b (tripC t (es.map Edt.d ++ [e.d]) (us.map Vn.d ++ [v.d] ++ [v'.d]) false)) a b t (es ++ [e]) (us ++ [v]) v' where
  ha := by
    rw [List.getElem?_set_ne (Ne.symm h.ne), List.getElem?_set_self h.la, List.map_append]
    rfl
  hb := by
    rw [List.getElem?_set_self (by rw [List.length_set]; exact h.lb), List.map_append, List.map_append]
    rfl
  ne := h.ne
  hl := by rw [List.length_append, List.length_append, h.hl]; rfl
  rep := fun d hd => by
    rw [List.map_append] at hd
    rcases List.mem_append.mp hd with z | z
    · exact h.rep d z
    · rw [List.mem_singleton.mp z]
      exact o.rep h.ok.R.l2 h.ok.st.n2
  ok := app_ok h.ok o.app
end Pu
namespace Pu
open PySem L2 Rb Gm TL
theorem pk4 {x y z w r : Int} (h0 : 0 ≤ r) (h1 : r < 4) : ∃ v : Int, atI [D.int x, .int y, .int z, .int w] r = some (.int v) ∧ (v = x ∨ v = y ∨ v = z ∨ v = w) := by
  rcases (by omega : r = 0 ∨ r = 1 ∨ r = 2 ∨ r = 3) with rfl | rfl | rfl | rfl
  · exact ⟨x, rfl, .inl rfl⟩
  · exact ⟨y, rfl, .inr (.inl rfl)⟩
  · exact ⟨z, rfl, .inr (.inr (.inl rfl))⟩
  · exact ⟨w, rfl, .inr (.inr (.inr rfl))⟩
abbrev stEnv (st pe : Int) (b : Bool) (wk rd : Int) (a8 a9 : Option D) : Rho := [some (.cell 1), some (.int st), some (.int pe), some (.bl b), some (.int wk), some (.int rd), some (.cell 2), some (.cell 3), a8, a9]
theorem stateT_ok {S : Sto} {N st pe : Int} {Q : QD} {E : ED} (h : Dk S N []) (hN : N ≤ 800000) (s1 : 1 ≤ st) (s2 : st ≤ 12) (p1 : 1 ≤ pe) (p2 : pe ≤ 10)
    (q : ∀ wk rd (bs ns : List Int) S', RoadOk wk rd bs → (bs.length : Int) ≤ st → Sts ns → (ns.length : Int) ≤ pe → Dk S' (N + 200) [] → S'.length = 2 → Q (.tup [roadV wk rd bs, .tup (ns.map D.int)]) S') : F_law_state [.cell 1, .int st, .int pe] S Q E := by
  unfold F_law_state
  have hS : S.length = 2 := h.len
  refine ⟨rfl, draw3_ok h (by omega) (by decide) (by decide) fun w S1 w0 w1 d1 => eq_int ?_⟩
  have kk : ∃ b : Bool, nb false (decide (w = 0)) = b := ⟨_, rfl⟩
  obtain ⟨b, hb⟩ := kk
  rw [hb]
  refine ⟨szr rfl, ?_⟩
  have e1 : ∃ v : Int, atI [D.int 12, .int 999] (if b = true then 1 else 0) = some (.int v) ∧ 12 ≤ v ∧ v ≤ 999 := by
    cases b with
    | true => exact ⟨999, rfl, by decide, by decide⟩
    | false => exact ⟨12, rfl, by decide, by decide⟩
  obtain ⟨lf, e1, lf1, lf2⟩ := e1
  show onSome (atI [D.int 12, .int 999] (if b = true then 1 else 0)) _
  refine onS e1 (draw3_ok d1 (by omega) (by omega) (by omega) fun f S2 f0 f1 d2 => ?_)
  refine draw3_ok d2 (by omega) (by omega) (by omega) fun r S3 r0 r1 d3 => ⟨szr rfl, szr rfl, ?_⟩
  have l3 : S3.length = 2 := d3.len
  have d4 := (d3.snoc (.lst [])).snoc (.lst [])
  rw [show (S3 ++ [Cl.lst []]).length = 3 by rw [List.length_append, l3]; rfl, l3]
  generalize (S3 ++ [Cl.lst []]) ++ [Cl.lst []] = S4 at d4 ⊢
  refine draw3_ok d4 (by omega) (by omega) (by omega) fun m S5 m0 m1 d5 => ⟨⟨by omega, by omega⟩, ?_⟩
  obtain ⟨n, hn⟩ : ∃ n : Nat, 1 + m = (n : Int) := ⟨(1 + m).toNat, (Int.toNat_of_nonneg (by omega)).symm⟩
  rw [hn, Int.toNat_natCast]
  refine for_rng 0 n (fun i ρ S' => ∃ a8 a9, ρ = stEnv st pe b (2 + f) (1 + r) a8 a9 ∧ ∃ bs : List Int, bs.length = i ∧ (∀ x ∈ bs, 0 ≤ x ∧ x ≤ 12) ∧ Dk S' (N + 5 + 4 * i) [.lst (bs.map D.int), .lst []]) ⟨_, _, rfl, [], rfl, (fun _ z => nomatch z), d5.le (by omega)⟩ ?_ ?_
  · rintro i ρ S6 K hi hK ⟨a8, a9, rfl, bs, bl, hbs, d6⟩
    refine onS (cell_lst (d6.get (j := 0) rfl)) ?_
    refine draw3_ok d6 (by omega) (by decide) (by decide) fun x1 S7 x10 x11 d7 => ?_
    refine draw3_ok d7 (by omega) (by decide) (by decide) fun x2 S8 x20 x21 d8 => ?_
    refine draw3_ok d8 (by omega) (by decide) (by decide) fun x3 S9 x30 x31 d9 => ⟨szr rfl, ?_⟩
    refine draw3_ok d9 (by omega) (by decide) (by decide) fun x4 S10 x40 x41 d10 => ?_
    obtain ⟨v, e5, c5⟩ := pk4 (x := 0) (y := x1) (z := x2) (w := x3) x40 x41
    show onSome (atI [D.int 0, .int x1, .int x2, .int x3] x4) _
    refine onS e5 ?_
    refine onS (cell_lst (d10.get (j := 0) rfl)) ⟨szd (by show (bs.map D.int).length < 100000; rw [List.length_map]; omega), ?_⟩
    have d11 := d10.put (j := 0) (c := .lst (bs.map D.int ++ [.int v])) (by show 0 < 2; decide)
    refine hK _ _ ⟨_, _, rfl, bs ++ [v], by rw [List.length_append, bl]; rfl, fun x hx => ?_, ?_⟩
    · rcases List.mem_append.mp hx with z | z
      · exact hbs x z
      · rw [List.mem_singleton.mp z]; omega
    · rw [List.map_append]
      exact d11.le (by omega)
  · rintro ρ S6 ⟨a8, a9, rfl, bs, bl, hbs, d6⟩
    refine draw3_ok d6 (by omega) (by omega) (by omega) fun m2 S7 m20 m21 d7 => ⟨⟨by omega, by omega⟩, ?_⟩
    obtain ⟨n2, hn2⟩ : ∃ n2 : Nat, 1 + m2 = (n2 : Int) := ⟨(1 + m2).toNat, (Int.toNat_of_nonneg (by omega)).symm⟩
    rw [hn2, Int.toNat_natCast]
    refine for_rng 0 n2 (fun i ρ S' => ∃ a8 a9, ρ = stEnv st pe b (2 + f) (1 + r) a8 a9 ∧ ∃ ns : List Int, ns.length = i ∧ (∀ x ∈ ns, 0 ≤ x ∧ x ≤ 1000000) ∧ Dk S' (N + 60 + 2 * i) [.lst (bs.map D.int), .lst (ns.map D.int)]) ⟨_, _, rfl, [], rfl, (fun _ z => nomatch z), d7.le (by omega)⟩ ?_ ?_
    · rintro i ρ S8 K hi hK ⟨a8, a9, rfl, ns, nl, hns, d8⟩
      refine onS (cell_lst (d8.get (j := 1) rfl)) ?_
      refine ⟨⟨by decide, by decide, by decide⟩, szr rfl, ?_⟩
      have draws : ∀ S9 k, Dk S9 (N + 61 + 2 * i) [.lst (bs.map D.int), .lst (ns.map D.int)] → (k = 0 ∨ k = 1) → onSome (atI [D.int 40, .int (10 ^ (6 : Int).toNat + 1)] k) fun d => F_law_draw_3 [.cell 1, d] S9 (fun d S1 => gAppend (.cell 3) [d] S1 fun _ S1 => K (stEnv st pe b (2 + f) (1 + r) a8 (some (.int (0 + (i : Int))))) S1) noE := by
        intro S9 k d9 hk
        obtain ⟨lim, el, l1, l2⟩ : ∃ lim : Int, atI [D.int 40, .int (10 ^ (6 : Int).toNat + 1)] k = some (.int lim) ∧ 1 ≤ lim ∧ lim ≤ 1000001 := by
          rcases hk with rfl | rfl
          · exact ⟨40, rfl, by decide, by decide⟩
          · exact ⟨_, rfl, by decide, by decide⟩
        refine onS el (draw3_ok d9 (by omega) l1 (by omega) fun x S10 x0 x1 d10 => ?_)
        refine onS (cell_lst (d10.get (j := 1) rfl)) ⟨szd (by show (ns.map D.int).length < 100000; rw [List.length_map]; omega), ?_⟩
        have d11 := d10.put (j := 1) (c := .lst (ns.map D.int ++ [.int x])) (by show 1 < 2; decide)
        refine hK _ _ ⟨_, _, rfl, ns ++ [x], by rw [List.length_append, nl]; rfl, fun y hy => ?_, ?_⟩
        · rcases List.mem_append.mp hy with z | z
          · exact hns y z
          · rw [List.mem_singleton.mp z]; omega
        · rw [List.map_append]
          exact d11.le (by omega)
      cases b with
      | true =>
        refine draw3_ok d8 (by omega) (by decide) (by decide) fun z S9 z0 z1 d9 => eq_int ?_
        have := draws S9 (if nb false (decide (z = 0)) = true then 1 else 0) (d9.le (by omega)) (by split <;> simp)
        exact this
      | false => exact draws S8 0 (d8.le (by omega)) (.inl rfl)
    · rintro ρ S8 ⟨a8, a9, rfl, ns, nl, hns, d8⟩
      refine onS (seq_cell (d8.get (j := 0) rfl)) ⟨szr rfl, onS (seq_cell (d8.get (j := 1) rfl)) ⟨szr rfl, ?_⟩⟩
      have R : RoadOk (2 + f) (1 + r) bs := ⟨by omega, by omega, by omega, by omega, by omega, hbs⟩
      have hst : Sts ns := ⟨by omega, by omega, hns⟩
      refine ret2 hS d8 ⟨_, frz_below (d := .tup [roadV (2 + f) (1 + r) bs, .tup (ns.map D.int)]) (fun k z => nomatch z) ?_, fun S2 d2 l2 => ?_⟩
      · show (below 2 (roadV (2 + f) (1 + r) bs) && (belowAll 2 (ns.map D.int) && true)) = true
        rw [below_roadV, below_ints]
        rfl
      · exact q (2 + f) (1 + r) bs ns S2 R (by omega) hst (by omega) (d2.le (by omega)) l2
end Pu
namespace Pu
open PySem L2 Rb Gm TL
/-! ## numbers as texts -/
theorem tl_itx (n : Nat) : tl (itx (n : Int)) = numL n := tl_num n
theorem itx_nn {i : Int} (h : 0 ≤ i) : tl (itx i) = numL i.toNat := by
  obtain ⟨n, rfl⟩ : ∃ n : Nat, i = (n : Int) := ⟨i.toNat, (Int.toNat_of_nonneg h).symm⟩
  rw [tl_itx, Int.toNat_natCast]
theorem itx_inj {i j : Int} (hi : 0 ≤ i) (hj : 0 ≤ j) (h : itx i = itx j) : i = j := by
  have e := congrArg tl h
  rw [itx_nn hi, itx_nn hj] at e
  have := numL_inj e
  omega
theorem itx_free {i : Int} {s : Nat} (h : 0 ≤ i) (hs : s < 48 ∨ 57 < s) : s ∉ tl (itx i) := by
  rw [itx_nn h]
  exact numL_free hs
def numsTx (ns : List Int) : Str := Txt.join "," (ns.map itx)
theorem tl_comma : tl "," = [44] := by decide +kernel
theorem tl_space : tl " " = [32] := by decide +kernel
theorem tl_slash : tl "/" = [47] := by decide +kernel
theorem kc : ("," : Str).cps.all (· < 256) = true := by decide +kernel
theorem ks : (" " : Str).cps.all (· < 256) = true := by decide +kernel
theorem kl : ("/" : Str).cps.all (· < 256) = true := by decide +kernel
theorem nums_split {ns : List Int} (h : ns ≠ []) (nn : ∀ i ∈ ns, 0 ≤ i) : Txt.split (numsTx ns) "," = ns.map itx := by
  refine split_join tl_comma kc (fun z => h (List.map_eq_nil_iff.mp z)) fun p hp => ?_
  obtain ⟨i, hi, rfl⟩ := List.mem_map.mp hp
  exact itx_free (nn i hi) (.inl (by decide))
theorem map_itx_inj : ∀ {l m : List Int}, (∀ i ∈ l, 0 ≤ i) → (∀ i ∈ m, 0 ≤ i) → l.map itx = m.map itx → l = m
  | [], [], _, _, _ => rfl
  | [], _ :: _, _, _, h => by simp at h
  | _ :: _, [], _, _, h => by simp at h
  | x :: l, y :: m, h1, h2, h => by
    obtain ⟨a, b⟩ := List.cons.inj h
    rw [itx_inj (h1 x List.mem_cons_self) (h2 y List.mem_cons_self) a, map_itx_inj (fun i hi => h1 i (List.mem_cons_of_mem _ hi)) (fun i hi => h2 i (List.mem_cons_of_mem _ hi)) b]
theorem nums_inj {l m : List Int} (hl : l ≠ []) (hm : m ≠ []) (h1 : ∀ i ∈ l, 0 ≤ i) (h2 : ∀ i ∈ m, 0 ≤ i) (h : numsTx l = numsTx m) : l = m := by
  have e := nums_split hl h1
  rw [h, nums_split hm h2] at e
  exact map_itx_inj h1 h2 e.symm
/-! ## the text of a trip -/
theorem ticks_split {wk rd : Int} (h1 : 0 ≤ wk) (h2 : 0 ≤ rd) : Txt.split (itx wk ++ "/" ++ itx rd) "/" = [itx wk, itx rd] := by
  have e : itx wk ++ "/" ++ itx rd = Txt.join "/" [itx wk, itx rd] := by
    refine ext_tl ?_
    rw [join_eq, tl_join, tl_append, tl_append]
    show _ = tl (itx wk) ++ (tl "/" ++ tl (itx rd))
    rw [List.append_assoc]
  rw [e]
  refine split_join tl_slash kl (by simp) fun p hp => ?_
  simp only [List.mem_cons, List.not_mem_nil, or_false] at hp
  rcases hp with rfl | rfl
  · exact itx_free h1 (.inl (by decide))
  · exact itx_free h2 (.inl (by decide))
end Pu
namespace Pu
open PySem L2 Rb Gm TL
/-! ## numbers that a text stands for -/
theorem numL_mono : ∀ {m n : Nat}, n ≤ m → (numL n).length ≤ (numL m).length := by
  intro m
  induction m using Nat.strongRecOn with
  | ind m ih =>
    intro n h
    by_cases h1 : n < 10
    · rw [numL_lt h1]
      have := numL_ne m
      cases hm : numL m with
      | nil => exact absurd hm this
      | cons a b => exact Nat.succ_le_succ (Nat.zero_le _)
    · rw [numL_step (n := n) (by omega), numL_step (n := m) (by omega), List.length_append, List.length_append]
      exact Nat.add_le_add_right (ih (m / 10) (by omega) (Nat.div_le_div_right h)) 1
theorem numL_head : ∀ {n : Nat}, 0 < n → ∃ c r, numL n = c :: r ∧ c ≠ 48 := by
  intro n
  induction n using Nat.strongRecOn with
  | ind n ih =>
    intro h
    by_cases h1 : n < 10
    · exact ⟨48 + n, [], numL_lt h1, by omega⟩
    · obtain ⟨c, r, e, hc⟩ := ih (n / 10) (by omega) (by omega)
      exact ⟨c, r ++ [48 + n % 10], by rw [numL_step (by omega), e]; rfl, hc⟩
theorem digit_dec {c : Nat} (h1 : 48 ≤ c) (h2 : c ≤ 57) : Unicode.isDigit c = true := by
  obtain ⟨k, rfl⟩ : ∃ k, c = 48 + k := ⟨c - 48, by omega⟩
  have hk : k < 10 := by omega
  have : ∀ k : Fin 10, Unicode.isDigit (48 + k.val) = true := by decide +kernel
  exact this ⟨k, hk⟩
theorem itx_digits (n : Nat) : ∀ c ∈ (itx (n : Int)).cps.toList, 48 ≤ c ∧ c ≤ 57 := fun c hc => by
  have h : c ∈ tl (itx (n : Int)) := hc
  rw [tl_itx] at h
  exact numL_digits n c h
theorem itx_ascii (n : Nat) : Txt.isascii (itx (n : Int)) = true := by
  unfold Txt.isascii
  rw [← Array.all_toList, List.all_eq_true]
  intro c hc
  have := itx_digits n c hc
  exact decide_eq_true (by omega)
theorem itx_size (n : Nat) : (itx (n : Int)).length = (numL n).length := by
  rw [← tl_itx]
  rfl
theorem itx_digit (n : Nat) : Txt.isdigit (itx (n : Int)) = true := by
  unfold Txt.isdigit
  have l : 0 < (itx (n : Int)).length := by
    rw [itx_size]
    cases h : numL n with
    | nil => exact absurd h (numL_ne n)
    | cons a b => exact Nat.succ_pos _
  rw [← Array.all_toList]
  have : (itx (n : Int)).cps.toList.all Unicode.isDigit = true := List.all_eq_true.mpr fun c hc => digit_dec (itx_digits n c hc).1 (itx_digits n c hc).2
  rw [this]
  simp [l]
theorem itx_zero : itx 0 = "0" := by decide +kernel
theorem itx_starts {n : Nat} (h : 0 < n) : Txt.startswith (itx (n : Int)) "0" = false := by
  obtain ⟨c, r, e, hc⟩ := numL_head h
  unfold Txt.startswith Builtin.Str.subAt
  rw [Bool.and_eq_false_iff]
  right
  refine Bool.eq_false_iff.mpr fun z => hc ?_
  have z' := eq_of_beq z
  have z2 := congrArg Array.toList z'
  rw [Array.toList_extract] at z2
  have e' : (itx (n : Int)).cps.toList = c :: r := by
    have : tl (itx (n : Int)) = c :: r := by rw [tl_itx]; exact e
    exact this
  rw [e'] at z2
  have e0 : ("0" : Str).cps.toList = [48] := by decide +kernel
  have l0 : ("0" : Str).length = 1 := by decide +kernel
  rw [e0, l0] at z2
  simp at z2
  exact z2
def num3 : FS := (dSeq (dAsg (dB gIntS (dCons (dVar 0) dNil)) (gN 3))
 (dRet (dIf (dTest (dChain gLe gLe (dVar 1) (dVar 3) (dVar 2))) (dVar 3) (dC .non))))
def num2 : FS := (dSeq (dIfS (dOr (dTest (dBin gGt (dB gLen (dCons (dVar 0) dNil)) (dB gLen (dCons (dB gStr (dCons (dVar 2) dNil)) dNil)))) (dAnd (dTest (dMS1 gStarts (dVar 0) (dC (.str "0")))) (dTest (dBin iNe (dVar 0) (dC (.str "0"))))))
 (dRet (dC .non))
 dSkip)
 num3)
end Pu
namespace Pu
open PySem L2 Rb Gm TL
/-! ## what number a text stands for, if any -/
theorem digits_num : ∀ (k : Nat) (l : List Nat), l.length = k → NumText.AllDigits l → l ≠ [] → (l = [48] ∨ l.head? ≠ some 48) → ∃ n, numL n = l := by
  intro k
  induction k with
  | zero => intro l h _ ne; exact absurd (List.length_eq_zero_iff.mp h) ne
  | succ k ih =>
    intro l h ad ne hd
    obtain ⟨init, d, rfl⟩ : ∃ init d, l = init ++ [d] := by
      rcases List.eq_nil_or_concat l with rfl | ⟨i, d, e⟩
      · exact absurd rfl ne
      · exact ⟨i, d, by rw [e, List.concat_eq_append]⟩
    have hdd := ad d (List.mem_append_right _ List.mem_cons_self)
    have hl : init.length = k := by rw [List.length_append] at h; simpa using h
    by_cases hi : init = []
    · subst hi
      refine ⟨d - 48, ?_⟩
      rw [numL_lt (by omega), List.nil_append, show 48 + (d - 48) = d by omega]
    · have hd' : (init ++ [d]).head? ≠ some 48 := by
        rcases hd with e | e
        · exfalso
          have := congrArg List.length e
          rw [List.length_append] at this
          have h0 : init.length = 0 := by simpa using this
          exact hi (List.length_eq_zero_iff.mp h0)
        · exact e
      have hh : init.head? ≠ some 48 := by
        cases init with
        | nil => exact absurd rfl hi
        | cons a b => exact hd'
      obtain ⟨m, hm⟩ := ih init hl (fun c hc => ad c (List.mem_append_left _ hc)) hi (.inr hh)
      have m1 : 1 ≤ m := by
        rcases Nat.eq_zero_or_pos m with rfl | hp
        · rw [numL_lt (by decide)] at hm
          rw [← hm] at hh
          exact absurd rfl hh
        · exact hp
      refine ⟨10 * m + (d - 48), ?_⟩
      rw [numL_step (by omega), show (10 * m + (d - 48)) / 10 = m by omega, show 48 + (10 * m + (d - 48)) % 10 = d by omega, hm]
theorem dec_digit {c : Nat} (h1 : c < 128) (h2 : Unicode.isDigit c = true) : 48 ≤ c ∧ c ≤ 57 := by
  have : ∀ k : Fin 128, Unicode.isDigit k.val = true → 48 ≤ k.val ∧ k.val ≤ 57 := by decide +kernel
  exact this ⟨c, h1⟩ h2
theorem ascii_digits {w : Str} (h1 : Txt.isascii w = true) (h2 : Txt.isdigit w = true) : NumText.AllDigits (tl w) ∧ tl w ≠ [] := by
  unfold Txt.isascii at h1
  unfold Txt.isdigit at h2
  rw [Bool.and_eq_true] at h2
  rw [← Array.all_toList, List.all_eq_true] at h1
  have h3 := h2.2
  rw [← Array.all_toList, List.all_eq_true] at h3
  refine ⟨fun c hc => dec_digit (of_decide_eq_true (h1 c hc)) (h3 c hc), fun z => ?_⟩
  have := of_decide_eq_true h2.1
  rw [len_tl, z] at this
  exact absurd this (by decide)
theorem starts_zero {w : Str} : Txt.startswith w "0" = true ↔ (tl w).head? = some 48 := by
  have e0 : ("0" : Str).cps.toList = [48] := by decide +kernel
  have l0 : ("0" : Str).length = 1 := by decide +kernel
  cases h : tl w with
  | nil =>
    have hw : w = "" := ext_tl (by rw [h]; decide +kernel)
    subst hw
    exact iff_of_false (by decide +kernel) (by simp)
  | cons c r =>
    unfold Txt.startswith Builtin.Str.subAt
    rw [l0]
    have hl : w.length = r.length + 1 := by rw [len_tl, h]; rfl
    rw [Bool.and_eq_true]
    constructor
    · rintro ⟨_, z⟩
      have z2 := congrArg Array.toList (eq_of_beq z)
      rw [Array.toList_extract, e0, show w.cps.toList = c :: r from h] at z2
      simp at z2
      simp [z2]
    · intro z
      have zc : c = 48 := by simpa using z
      subst zc
      refine ⟨decide_eq_true (by omega), ?_⟩
      refine beq_iff_eq.mpr (Array.toList_inj.mp ?_)
      rw [Array.toList_extract, e0, show w.cps.toList = 48 :: r from h]
      simp
section
variable {S : Sto} {Q : QD} {E : ED}
/-- a text of any signs: the number that it stands for, or None -/
theorem number_any {w : Str} {least most : Int} (m0 : 0 ≤ most) (hm : most < 10 ^ 9) (hw : w.length ≤ 100000) (qn : (∀ n : Nat, w = itx (n : Int) → ¬ (least ≤ (n : Int) ∧ (n : Int) ≤ most)) → Q .non S)
    (qi : ∀ n : Nat, w = itx (n : Int) → least ≤ (n : Int) → (n : Int) ≤ most → Q (.int (n : Int)) S) : F_number_in [.str w, .int least, .int most] S Q E := by
  obtain ⟨mo, rfl⟩ : ∃ mo : Nat, most = (mo : Int) := ⟨most.toNat, (Int.toNat_of_nonneg m0).symm⟩
  have hm' : mo < 10 ^ 9 := by omega
  have lm10 := numL_len (n := mo) (k := 10) (by decide) (by omega)
  unfold F_number_in
  refine ⟨rfl, ?_⟩
  refine ifB (b := !Txt.isascii w) (fun c => qn fun n e _ => ?_) fun c1 => ?_
  · subst e
    rw [itx_ascii] at c
    cases c
  refine ifB (b := !Txt.isdigit w) (fun c => qn fun n e _ => ?_) fun c2 => ?_
  · subst e
    rw [itx_digit] at c
    cases c
  have c1' : Txt.isascii w = true := by cases h : Txt.isascii w <;> rw [h] at c1 <;> first | rfl | cases c1
  have c2' : Txt.isdigit w = true := by cases h : Txt.isdigit w <;> rw [h] at c2 <;> first | rfl | cases c2
  obtain ⟨ad, ne⟩ := ascii_digits c1' c2'
  show num2 [some (.str w), some (.int least), some (.int (mo : Int)), none] S ⟨fun _ S' => Q .non S', Q, fun _ _ => False, fun _ _ => False⟩ noE
  unfold num2
  refine ⟨szd (by omega), ?_⟩
  refine ⟨nat_bd (by rw [Int.natAbs_natCast]; omega), ?_⟩
  refine ⟨szd (by show (itx (mo : Int)).length ≤ 100000; rw [itx_size]; omega), ?_⟩
  refine ifB (b := decide (((itx (mo : Int)).length : Int) < (w.length : Int))) (fun c => ?_) fun c => ?_
  · have c := of_decide_eq_true c
    refine qn fun n e hr => ?_
    subst e
    rw [itx_size, itx_size] at c
    have := numL_mono (m := mo) (n := n) (by omega)
    omega
  have c := of_decide_eq_false c
  have wl : w.length ≤ 10 := by rw [itx_size] at c; omega
  have fin : ∀ S' : Sto, S' = S → (tl w = [48] ∨ (tl w).head? ≠ some 48) → num3 [some (.str w), some (.int least), some (.int (mo : Int)), none] S' ⟨fun _ S' => Q .non S', Q, fun _ _ => False, fun _ _ => False⟩ noE := by
    rintro S' rfl hz
    obtain ⟨n, hn⟩ := digits_num _ (tl w) rfl ad ne hz
    have e : w = itx (n : Int) := ext_tl (by rw [tl_itx, hn])
    unfold num3
    have hi : PySem.intText? w = some (n : Int) := by
      rw [e]
      exact int_num (by rw [hn, ← len_tl]; omega)
    refine onS hi ⟨by omega, ?_⟩
    show dRet (dIf (dTest (dChain gLe gLe (dVar 1) (dVar 3) (dVar 2))) (dVar 3) (dC .non)) [some (.str w), some (.int least), some (.int (mo : Int)), some (.int (n : Int))] S' ⟨fun _ S' => Q .non S', Q, fun _ _ => False, fun _ _ => False⟩ noE
    refine ifB (b := decide (least ≤ (n : Int))) (fun h1 => ?_) fun h1 => ?_
    · refine ifB (b := decide ((n : Int) ≤ (mo : Int))) (fun h2 => ?_) fun h2 => ?_
      · exact qi n e (of_decide_eq_true h1) (of_decide_eq_true h2)
      · refine qn fun k ek hr => ?_
        have := itx_inj (Int.natCast_nonneg n) (Int.natCast_nonneg k) (e.symm.trans ek)
        have h2 := of_decide_eq_false h2
        omega
    · refine qn fun k ek hr => ?_
      have := itx_inj (Int.natCast_nonneg n) (Int.natCast_nonneg k) (e.symm.trans ek)
      have h1 := of_decide_eq_false h1
      omega
  refine ifB (b := Txt.startswith w "0") (fun c3 => ?_) fun c3 => ?_
  · refine eq_str ?_
    by_cases h0 : w = "0"
    · rw [decide_eq_true h0]
      exact fin S rfl (.inl (by rw [h0]; decide +kernel))
    · rw [decide_eq_false h0]
      refine qn fun n e hr => ?_
      rcases Nat.eq_zero_or_pos n with rfl | hp
      · exact h0 (e.trans itx_zero)
      · rw [e, itx_starts hp] at c3
        cases c3
  · exact fin S rfl (.inr fun z => by rw [starts_zero.mpr z] at c3; cases c3)
end
end Pu
namespace Pu
open PySem L2 Rb Gm TL
/-! ## texts cut in words, words in numbers -/
theorem spl_ne (S : List Nat) : ∀ (l : List Nat) (k : Nat) (acc : List Nat), spl S k acc l ≠ [] := by
  intro l
  induction l with
  | nil => intro k acc; rw [spl_nil]; exact fun z => nomatch z
  | cons c r ih =>
    intro k acc
    cases k with
    | zero =>
      by_cases h : pre S (c :: r) = true
      · rw [spl_hit h]; exact fun z => nomatch z
      · rw [spl_miss (by simpa using h)]; exact ih 0 _
    | succ k => exact ih k acc
theorem split_ne {x y : Str} (hy : tl y ≠ []) (hk : y.cps.all (· < 256) = true) : Txt.split x y ≠ [] := fun z => by
  have h := split_spl x y hy (kind_ok hk)
  rw [z] at h
  exact spl_ne _ _ _ _ h.symm
theorem join_back (x y : Str) : Txt.join y (Txt.split x y) = x := by
  rw [join_eq]
  exact StrLaws.join_split x y
theorem joinL_len {S : List Nat} (h : 1 ≤ S.length) : ∀ ps : List (List Nat), ps.length ≤ (joinL S ps).length + 1
  | [] => Nat.zero_le _
  | [p] => by show 1 ≤ _; omega
  | p :: q :: r => by
    have ih := joinL_len h (q :: r)
    show r.length + 1 + 1 ≤ (p ++ (S ++ joinL S (q :: r))).length + 1
    rw [List.length_append, List.length_append]
    have : r.length + 1 ≤ (joinL S (q :: r)).length + 1 := ih
    omega
theorem split_len {x y : Str} (h : 1 ≤ (tl y).length) : (Txt.split x y).length ≤ x.length + 1 := by
  have e := congrArg tl (join_back x y)
  rw [join_eq, tl_join] at e
  have := joinL_len h ((Txt.split x y).map tl)
  rw [e, List.length_map, ← len_tl] at this
  exact this
theorem joinL_part {S : List Nat} : ∀ {ps : List (List Nat)} {p : List Nat}, p ∈ ps → p.length ≤ (joinL S ps).length
  | [q], p, h => by rw [List.mem_singleton.mp h]; exact Nat.le_refl _
  | q :: q2 :: r, p, h => by
    show p.length ≤ (q ++ (S ++ joinL S (q2 :: r))).length
    rw [List.length_append, List.length_append]
    rcases List.mem_cons.mp h with rfl | h
    · omega
    · have := joinL_part (S := S) h
      omega
theorem split_part {x y p : Str} (h : p ∈ Txt.split x y) : p.length ≤ x.length := by
  have e := congrArg tl (join_back x y)
  rw [join_eq, tl_join] at e
  have := joinL_part (S := tl y) (List.mem_map_of_mem (f := tl) h)
  rw [e, ← len_tl, ← len_tl] at this
  exact this
/-- a word of numbers -/
structure GoodN (w : Str) (many : Nat) (most : Int) (ns : List Int) : Prop where
  e : w = numsTx ns
  ne : ns ≠ []
  len : ns.length ≤ many
  hb : ∀ i ∈ ns, 0 ≤ i ∧ i ≤ most
theorem GoodN.split {w : Str} {many : Nat} {most : Int} {ns : List Int} (h : GoodN w many most ns) : Txt.split w "," = ns.map itx := by
  rw [h.e]
  exact nums_split h.ne fun i hi => (h.hb i hi).1
theorem GoodN.one {w : Str} {many many' : Nat} {most most' : Int} {ns ns' : List Int} (h : GoodN w many most ns) (h' : GoodN w many' most' ns') : ns = ns' :=
  nums_inj h.ne h'.ne (fun i hi => (h.hb i hi).1) (fun i hi => (h'.hb i hi).1) (h.e.symm.trans h'.e)
def OkN (most : Int) (p : Str) (i : Int) : Prop := p = itx i ∧ 0 ≤ i ∧ i ≤ most
section
variable {S : Sto} {Q : QD} {E : ED}
open Classical in
/-- what number_in makes of a part -/
noncomputable def numD (most : Int) (d : D) : D := match d with
  | .str p => if h : ∃ i, OkN most p i then .int h.choose else .non
  | d => d
theorem numD_yes {most i : Int} {p : Str} (h : OkN most p i) : numD most (.str p) = .int i := by
  have hh : ∃ i, OkN most p i := ⟨i, h⟩
  unfold numD
  dsimp only
  rw [dif_pos hh]
  have hc := hh.choose_spec
  rw [itx_inj hc.2.1 h.2.1 (hc.1.symm.trans h.1)]
theorem numD_no {most : Int} {p : Str} (h : ¬ ∃ i, OkN most p i) : numD most (.str p) = .non := by
  unfold numD
  dsimp only
  rw [dif_neg h]
theorem number_numD {most : Int} {p : Str} (m0 : 0 ≤ most) (hm : most < 10 ^ 9) (hp : p.length ≤ 100000) (q : Q (numD most (.str p)) S) : F_number_in [.str p, .int 0, .int most] S Q E := by
  refine number_any m0 hm hp (fun h => ?_) fun n e h1 h2 => ?_
  · rw [numD_no] at q
    · exact q
    · rintro ⟨i, hi⟩
      refine h i.toNat ?_ ⟨by omega, by have := hi.2; omega⟩
      rw [Int.toNat_of_nonneg hi.2.1]
      exact hi.1
  · rw [numD_yes ⟨e, h1, h2⟩] at q
    exact q
theorem opts_of {most : Int} : ∀ ps : List Str, ∃ os, optsOf ((ps.map D.str).map (numD most)) = some os ∧ ((os.any Option.isNone = true ∧ ∃ p ∈ ps, ¬ ∃ i, OkN most p i) ∨
    (os.any Option.isNone = false ∧ ∃ ns : List Int, (ps.map D.str).map (numD most) = ns.map D.int ∧ ps = ns.map itx ∧ ∀ i ∈ ns, 0 ≤ i ∧ i ≤ most))
  | [] => ⟨[], rfl, .inr ⟨rfl, [], rfl, rfl, fun _ z => nomatch z⟩⟩
  | p :: ps => by
    obtain ⟨os, e, h⟩ := opts_of (most := most) ps
    by_cases hp : ∃ i, OkN most p i
    · obtain ⟨i, hi⟩ := hp
      refine ⟨some i :: os, ?_, ?_⟩
      · show optsOf (numD most (.str p) :: (ps.map D.str).map (numD most)) = _
        rw [numD_yes hi]
        show (optsOf _).map _ = _
        rw [e]
        rfl
      · rcases h with ⟨h1, x, hx, hn⟩ | ⟨h1, ns, e1, e2, hb⟩
        · exact .inl ⟨by simp [h1], x, List.mem_cons_of_mem _ hx, hn⟩
        · refine .inr ⟨by simp [h1], i :: ns, ?_, ?_, fun j hj => ?_⟩
          · show numD most (.str p) :: _ = _
            rw [numD_yes hi, e1]
            rfl
          · rw [hi.1, e2]
            rfl
          · rcases List.mem_cons.mp hj with rfl | hj
            · exact hi.2
            · exact hb j hj
    · refine ⟨none :: os, ?_, .inl ⟨rfl, p, List.mem_cons_self, hp⟩⟩
      show optsOf (numD most (.str p) :: (ps.map D.str).map (numD most)) = _
      rw [numD_no hp]
      show (optsOf _).map _ = _
      rw [e]
      rfl
end
end Pu
namespace Pu
open PySem L2 Rb Gm TL
structure GoodT (w : Str) (wk rd : Int) : Prop where
  e : w = itx wk ++ "/" ++ itx rd
  r1 : 1 ≤ rd
  lt : rd < wk
  w2 : wk ≤ 1000
theorem GoodT.split {w : Str} {wk rd : Int} (h : GoodT w wk rd) : Txt.split w "/" = [itx wk, itx rd] := by
  rw [h.e]
  have := h.r1
  have := h.lt
  exact ticks_split (by omega) (by omega)
section
variable {S : Sto} {Q : QD} {E : ED}
/-- what a word stands for at its place -/
inductive Pt : Nat → Str → D → Prop
  | ticks {w : Str} {wk rd : Int} (h : GoodT w wk rd) : Pt 0 w (.tup [.int wk, .int rd])
  | bikes {w : Str} {ns : List Int} (h : GoodN w 12 12 ns) : Pt 1 w (.tup (ns.map D.int))
  | joint : Pt 2 "from" (.str "from")
  | starts {w : Str} {ns : List Int} (h : GoodN w 10 1000000 ns) : Pt 3 w (.tup (ns.map D.int))
theorem Pt.data {i : Nat} {w : Str} {d : D} (h : Pt i w d) : noGlo d = true ∧ isNon d = false := by cases h <;> exact ⟨rfl, rfl⟩
theorem Pt.lt {i : Nat} {w : Str} {d : D} (h : Pt i w d) : i < 4 := by cases h <;> decide
end
end Pu
namespace Pu
open PySem L2 Rb Gm TL
/-! ## edits by their tuples, batches that are all right -/
def EL : List (Str × Int) := [("come", 2), ("leave", 2), ("place", 3), ("take", 3)]
section
variable {S : Sto} {k : Nat} {Q : QD} {E : ED} {v : Vn} {t : TKd} {done vs : List D} {w : Bool}
inductive Run : Vn → List Edt → List Vn → Prop where
  | nil {v : Vn} : Run v [] []
  | cons {v v' : Vn} {e : Edt} {es : List Edt} {us : List Vn} : Okk v e v' → Run v' es us → Run v (e :: es) (v' :: us)
theorem Run.len {es : List Edt} {us : List Vn} (r : Run v es us) : us.length = es.length := by
  induction r with
  | nil => rfl
  | cons _ _ ih => exact congrArg (· + 1) ih
theorem Run.at {es : List Edt} {us : List Vn} (r : Run v es us) : ∀ {i : Nat} {e : Edt}, es[i]? = some e → ∃ a b, (v :: us)[i]? = some a ∧ us[i]? = some b ∧ Okk a e b := by
  induction r with
  | nil => intro i e h; simp at h
  | cons o r ih =>
    intro i e h
    cases i with
    | zero => cases h; exact ⟨_, _, rfl, rfl, o⟩
    | succ i => exact ih h
theorem Run.ok {es : List Edt} {us : List Vn} (r : Run v es us) : VnOk v → ∀ u ∈ v :: us, VnOk u := by
  induction r with
  | nil => intro ok u hu; rw [List.mem_singleton.mp hu]; exact ok
  | cons o r ih =>
    intro ok u hu
    rcases List.mem_cons.mp hu with z | z
    · rw [z]; exact ok
    · exact ih (app_ok ok o.app) u z
end
end Pu
namespace Pu
open PySem L2 Rb Gm
/-! ## one person more or less, bicycles at a station -/
/-! ## how late one more person may begin -/
structure LateOk (g : Int → Int) (e : Int) (d : D) : Prop where
  w : (d = .non ∧ ∀ s : Int, 0 ≤ s → e < g s) ∨ ∃ s : Int, d = .int s ∧ 0 ≤ s ∧ s ≤ e ∧ g s ≤ e ∧ ∀ s' : Int, s < s' → e < g s'
theorem LateOk.rep {g : Int → Int} {e : Int} {d : D} (h : LateOk g e d) (he : e ≤ 100000000) : Rep 0 0 d := by
  rcases h.w with ⟨rfl, a⟩ | ⟨s, rfl, s0, se, s1, s2⟩
  · exact Rep.non
  · exact Rep.int (by omega) (by omega)
end Pu
namespace Pu
open PySem L2 Rb Gm TL
section
variable {S : Sto} {k a b : Nat} {Q : QD} {E : ED} {v : Vn} {t : TKd} {done vs d1 d2 vs1 vs2 : List D} {w w1 w2 : Bool} {p : D}
/-! ## trips that are equal -/
theorem shp_intsL {f : Bool} (ns : List Int) : Shp 1 (.lst f (ns.map D.int)) := Shp.lst fun d hd => by
  obtain ⟨i, _, rfl⟩ := List.mem_map.mp hd
  exact Shp.int
theorem like_ok (ok : VnOk v) (ha : TAt S a t d1 (vs1 ++ [v.d]) w1) (hb : TAt S b t d2 (vs2 ++ [v.d]) w2) (q : Q (.bl true) S) : F_Trip_goes_like [.cell a, .cell b] S Q E := by
  unfold F_Trip_goes_like
  refine ⟨rfl, t_prop ha (t_road ha (t_prop hb (t_road hb ?_)))⟩
  refine eq_same ok.repR.shp rfl ?_
  refine t_prop ha (t_starts ha ?_)
  refine onS (intsOf_map v.ns) ?_
  refine t_prop hb (t_starts hb ?_)
  refine onS (intsOf_map v.ns) ?_
  exact eq_same (shp_intsL _) rfl q
theorem eqo_ok (ok : VnOk v) (ha : TAt S a t d1 (vs1 ++ [v.d]) w1) (hb : TAt S b t d2 (vs2 ++ [v.d]) w2) (q : Q (.bl true) S) : gEqO [("Trip", F_Trip_eq), ("PromisedTrip", F_PromisedTrip_eq)] (.cell a) (.cell b) S Q := by
  refine onS (t_ins ha) (onS (t_ins hb) ⟨rfl, ?_⟩)
  cases t with
  | plain =>
    show F_Trip_eq [.cell a, .cell b] S Q noE
    unfold F_Trip_eq
    refine ⟨rfl, onS (t_ins hb) (onS (a := true) rfl ?_)⟩
    refine onS (t_ins hb) (onS (a := false) rfl ?_)
    refine t_meth ha rfl ?_
    exact like_ok ok ha hb q
  | prom l =>
    show F_PromisedTrip_eq [.cell a, .cell b] S Q noE
    unfold F_PromisedTrip_eq
    refine ⟨rfl, onS (t_ins hb) (onS (a := true) rfl ?_)⟩
    refine p_prop ha (p_latest ha (p_prop hb (p_latest hb (eq_int ?_))))
    refine ifT (b := decide (l = l)) (decide_eq_true rfl) ?_
    refine onS (t_ins ha) ⟨rfl, onS (a := F_Trip_goes_like) rfl ?_⟩
    exact like_ok ok ha hb q
/-! ## what is shown -/
end
end Pu
namespace Pu
open PySem L2 Rb Gm TL
/-! ## the shell's answer to 'by N' -/
def shC (k : Nat) : Cl := .ins "Shell" [("trip", .cell k)]
section
variable {S : Sto} {Q : QD} {E : ED} {v : Vn} {t : TKd} {done vs : List D} {w : Bool} {k ks : Nat}
theorem non_int {i : Int} (q : Q (.bl false) S) : iEqB false .non (.int i) S Q := eqB_ok (pyC_of (d := .non) rfl) (pyC_of (d := .int i) rfl) rfl rfl q
end
end Pu
namespace Pu
open PySem L2 Rb Gm TL
/-! ## lines that are no command -/
def isNumL (l : List Nat) : Bool := decide (l.length ≤ 8) && (l.all (fun c => decide (48 ≤ c) && decide (c ≤ 57)) && (match l with | [] => false | [_] => true | c :: _ => c != 48))
theorem okN_num {p : Str} {i : Int} (h : OkN 99999999 p i) : isNumL (tl p) = true := by
  obtain ⟨rfl, h0, h1⟩ := h
  obtain ⟨n, rfl⟩ : ∃ n : Nat, i = (n : Int) := ⟨i.toNat, by omega⟩
  have l8 := numL_len (n := n) (k := 8) (by decide) (by omega)
  rw [tl_itx]
  have ad : ∀ c ∈ numL n, 48 ≤ c ∧ c ≤ 57 := by
    rw [← tl_itx]
    exact itx_digits n
  unfold isNumL
  rw [Bool.and_eq_true, Bool.and_eq_true]
  refine ⟨decide_eq_true l8, List.all_eq_true.mpr fun c hc => ?_, ?_⟩
  · have := ad c hc
    simp [this.1, this.2]
  · rcases Nat.eq_zero_or_pos n with rfl | hp
    · rw [numL_lt (by decide)]
    · obtain ⟨c, r, e, hc⟩ := numL_head hp
      rw [e]
      cases r with
      | nil => rfl
      | cons a b => simp [hc]
def cmds : List (Str × Nat) := [("come", 1), ("leave", 1), ("by", 1), ("place", 2), ("take", 2), ("undo", 0), ("trip", 0), ("finish", 0), ("riders", 0)]
def takenL (w : List Nat) (k : Nat) : Bool := cmds.any fun p => w == tl p.1 && k == p.2
theorem not_taken {x : Str} {k : Nat} (h : takenL (tl x) k = false) : ∀ p ∈ cmds, x = p.1 → k ≠ p.2 := by
  rintro p hp rfl rfl
  unfold takenL at h
  rw [List.any_eq_false] at h
  exact h p hp (by simp)
def badL (l : List Nat) : Bool := match spl [32] 0 [] l with
  | [] => true
  | w :: ns => ns.any (fun p => !isNumL p) || !takenL w ns.length
def NumLine (a x : Str) (ns : List Int) : Prop := Txt.split a " " = x :: ns.map itx ∧ ∀ i ∈ ns, 0 ≤ i ∧ i ≤ 99999999
theorem bad_line {a x : Str} {ns : List Int} (h : badL (tl a) = true) (e : NumLine a x ns) : takenL (tl x) ns.length = false := by
  have e1 := split_spl a " " (by rw [tl_space]; decide) (kind_ok ks)
  rw [tl_space, e.1] at e1
  unfold badL at h
  rw [← e1, List.map_cons, List.map_map] at h
  have hn : (ns.map (tl ∘ itx)).any (fun p => !isNumL p) = false := by
    rw [List.any_eq_false]
    intro p hp
    obtain ⟨i, hi, rfl⟩ := List.mem_map.mp hp
    have := okN_num (p := itx i) ⟨rfl, e.2 i hi⟩
    show ¬ (!isNumL (tl (itx i))) = true
    rw [this]
    decide
  have h' : (((ns.map (tl ∘ itx)).any fun p => !isNumL p) || !takenL (tl x) (ns.map (tl ∘ itx)).length) = true := h
  rw [hn, List.length_map, Bool.false_or] at h'
  simpa using h'
section
variable {S : Sto} {Q : QD} {E : ED}
def cmdR : FS := (dSeq (dAsg (dLc (st1 3) dYes (dCallW F_number_in (dCons (dVar 3) (dCons (dC (.int 0)) (dCons (dC (.int 99999999)) dNil)))) (dItS (dSl (dVar 1) (dPart (dC (.int 1))) dNoP))) (gN 2))
 (dRet (dIf (dTest (dBin gInN (dC .non) (dVar 2))) (dC .non) (dTup (dCons (dBin gIx (dVar 1) (dC (.int 0))) (dStar (dVar 2) dNil))))))
theorem cut_one {x : D} {ds : List D} : cutD (x :: ds) (some 1) none = ds := by
  unfold cutD
  have h1 : HT.sIx (x :: ds).length 0 (some 1) = 1 := by
    unfold HT.sIx
    simp
  have h2 : HT.sIx (x :: ds).length (x :: ds).length none = ds.length + 1 := by
    unfold HT.sIx
    simp
  rw [h1, h2, List.drop_one, List.tail_cons, Nat.add_sub_cancel]
  exact List.take_of_length_le (Nat.le_refl _)
theorem command_any {a : Str} (hw : a.length ≤ 20000) (qn : (∀ x ns, ¬ NumLine a x ns) → Q .non S) (qi : ∀ x ns, NumLine a x ns → ns.length ≤ 20000 → Q (.tup (.str x :: ns.map D.int)) S) : F_command_in [.str a] S Q E := by
  have sl := split_len (x := a) (y := " ") (by rw [tl_space]; decide)
  have sn := split_ne (x := a) (y := " ") (by rw [tl_space]; decide) ks
  have sp : ∀ p ∈ Txt.split a " ", p.length ≤ 20000 := fun p hp => Nat.le_trans (split_part hp) hw
  unfold F_command_in
  refine ⟨rfl, ⟨⟨by decide +kernel, szd (by omega)⟩, ?_⟩⟩
  unfold NumLine at qn qi
  generalize Txt.split a " " = ws at sl sn sp qn qi ⊢
  obtain ⟨x, ps, rfl⟩ : ∃ x ps, ws = x :: ps := by
    cases ws with
    | nil => exact absurd rfl sn
    | cons x ps => exact ⟨x, ps, rfl⟩
  have pl : (ps.map D.str).length = ps.length := List.length_map ..
  have sl' : ps.length ≤ 20000 := by rw [List.length_cons] at sl; omega
  show cmdR [some (.str a), some (.lst false (.str x :: ps.map D.str)), none, none] S ⟨fun _ S' => Q .non S', Q, fun _ _ => False, fun _ _ => False⟩ noE
  unfold cmdR
  show dSeq (dAsg _ _) _ _ _ _ _
  dsimp only [dSeq, dAsg, dLc, dItS, dSl, dVar, dPart, dNoP, dC]
  refine onS (a := D.lst false (.str x :: ps.map D.str)) rfl ?_
  unfold gSl
  refine onS (o := seqOf S (D.lst false (.str x :: ps.map D.str))) (a := .str x :: ps.map D.str) rfl ?_
  rw [cut_one]
  refine ⟨szd (by show (ps.map D.str).length ≤ 100000; omega), ?_⟩
  refine comp_map (src := []) (g := numD 99999999) (fun _ p => p) (ps.map D.str) [] (fun d hd => ?_) ?_
  · obtain ⟨p, hp, rfl⟩ := List.mem_map.mp hd
    exact ⟨_, rfl, fun Q' q' => number_numD (by decide) (by decide) (by have := sp p (List.mem_cons_of_mem _ hp); omega) q'⟩
  rw [List.nil_append]
  obtain ⟨os, eo, ho⟩ := opts_of (most := 99999999) ps
  refine onS eo ?_
  rcases ho with ⟨h1, p, hp, hn⟩ | ⟨h1, ns, e1, e2, hb⟩
  · rw [h1]
    refine qn fun y ns h => hn ?_
    rw [(List.cons.inj h.1).2] at hp
    obtain ⟨i, hi, rfl⟩ := List.mem_map.mp hp
    exact ⟨i, rfl, h.2 i hi⟩
  · rw [h1, e1]
    have hl : ns.length ≤ 20000 := by
      have := congrArg List.length e2
      rw [List.length_map] at this
      omega
    have fin := qi x ns ⟨by rw [e2], hb⟩ hl
    refine onS (o := atI (.str x :: ps.map D.str) 0) (a := D.str x) (atI_nat (j := 0) rfl) ?_
    dsimp only [dStar, dVar, dNil]
    refine onS (a := D.lst false (ns.map D.int)) rfl ?_
    refine onS (o := seqOf S (D.lst false (ns.map D.int))) (a := ns.map D.int) rfl ?_
    have ee : ns.map D.int ++ [] = ns.map D.int := List.append_nil _
    show (D.str x :: (ns.map D.int ++ [])).length ≤ sizeLine ∧ Q (.tup (D.str x :: (ns.map D.int ++ []))) S
    rw [ee]
    exact ⟨szd (by rw [List.length_cons, List.length_map]; omega), fin⟩
end
end Pu
namespace Pu
open PySem L2 Rb Gm TL
theorem pyAll_ints : ∀ ns : List Int, toPyAll (ns.map D.int) = some (ns.map PyData.int)
  | [] => rfl
  | i :: r => by
    have ih := pyAll_ints r
    show ((toPyAll (r.map D.int)).map (PyData.int i :: ·)) = _
    rw [ih]
    rfl
theorem memJ {S : List Nat} {c : Nat} : ∀ {ps : List (List Nat)} {p : List Nat}, p ∈ ps → c ∈ p → c ∈ joinL S ps
  | [q], p, h, hc => by rw [List.mem_singleton.mp h] at hc; exact hc
  | q :: q2 :: r, p, h, hc => by
    show c ∈ q ++ (S ++ joinL S (q2 :: r))
    rcases List.mem_cons.mp h with rfl | h
    · exact List.mem_append_left _ hc
    · exact List.mem_append_right _ (List.mem_append_right _ (memJ (S := S) h hc))
section
variable {S : Sto} {Q : QD} {E : ED}
theorem tup_ne {x y : Str} {ns : List Int} (fx : Fine x) (fy : Fine y) (h : x = y → ns.length ≠ 0) (q : Q (.bl false) S) : iEqB false (.tup (.str x :: ns.map D.int)) (.tup [.str y]) S Q := by
  have s1 : Shp 1 (.tup (.str x :: ns.map D.int)) := Shp.tup fun d hd => by
    rcases List.mem_cons.mp hd with rfl | hd
    · exact Shp.str fx
    · obtain ⟨i, _, rfl⟩ := List.mem_map.mp hd
      exact Shp.int
  have s2 : Shp 1 (.tup [.str y]) := Shp.tup fun d hd => by
    rw [List.mem_singleton.mp hd]
    exact Shp.str fy
  obtain ⟨p1, e1, h1, _⟩ := s1.sh (by decide)
  obtain ⟨p2, e2, h2, _⟩ := s2.sh (by decide)
  refine eqB_ok (pyC_of e1) (pyC_of e2) h1 h2 ?_
  have a1 : p1 = .tuple (.str x :: ns.map PyData.int) := by
    have : toPy (.tup (.str x :: ns.map D.int)) = some (.tuple (.str x :: ns.map PyData.int)) := by
      show (((toPyAll (ns.map D.int)).map (PyData.str x :: ·))).map PyData.tuple = _
      rw [pyAll_ints]
      rfl
    rw [this] at e1
    exact (Option.some.inj e1).symm
  have a2 : p2 = .tuple [.str y] := by
    have : toPy (.tup [.str y]) = some (.tuple [.str y]) := rfl
    rw [this] at e2
    exact (Option.some.inj e2).symm
  rw [a1, a2]
  have e : PyData.eqv (.tuple (.str x :: ns.map PyData.int)) (.tuple [.str y]) = false := by
    simp only [PyData.eqv, PyData.eqvAll]
    by_cases c : x = y
    · cases ns with
      | nil => exact absurd rfl (h c)
      | cons i r => simp [PyData.eqvAll]
    · simp [c]
  rw [e]
  exact q
theorem is_edit_other {x : Str} {ds : List D} (hx : ∀ k : Int, lookI x EL = some k → k ≠ ((ds.length + 1 : Nat) : Int)) (q : Q (.bl false) S) : F_is_edit [.tup (.str x :: ds)] S Q E := by
  unfold F_is_edit
  refine ⟨rfl, ?_⟩
  refine eq_int ?_
  have n0 : decide (((.str x :: ds : List D).length : Int) = 0) = false := decide_eq_false (by simp; omega)
  rw [n0]
  refine onS (o := atI (.str x :: ds) 0) (a := D.str x) (atI_nat (j := 0) rfl) ?_
  refine onS (o := atI (.str x :: ds) 0) (a := D.str x) (atI_nat (j := 0) rfl) ?_
  show iEqB false ((lookI x EL).elim D.non D.int) (.int ((.str x :: ds : List D).length : Int)) S Q
  cases h : lookI x EL with
  | none => exact non_int q
  | some k =>
    refine eq_int ?_
    rw [decide_eq_false (show ¬ k = ((.str x :: ds : List D).length : Int) from hx k h)]
    exact q
theorem answer_not {ks : Nat} {x : Str} {ns : List Int} (fx : Fine x) (hl : ns.length ≤ 20000) (h : takenL (tl x) ns.length = false) (q : Q (.str "unknown command") S) : F_Shell_answer_3 [.cell ks, .tup (.str x :: ns.map D.int)] S Q E := by
  have nt := not_taken h
  have ll : (ns.map D.int).length = ns.length := List.length_map ..
  unfold F_Shell_answer_3
  refine ⟨rfl, ?_⟩
  refine is_edit_other (fun k hk => ?_) ?_
  · rw [ll]
    intro e
    have : ∀ (y : Str) (j : Nat), (y, j) ∈ cmds → x = y → k = ((j + 1 : Nat) : Int) → False := fun y j hm hx hj => nt _ hm hx (by show ns.length = j; omega)
    simp only [lookI, EL] at hk
    split at hk
    · rename_i c; exact this "come" 1 (by simp [cmds]) c.symm (by cases hk; rfl)
    split at hk
    · rename_i c; exact this "leave" 1 (by simp [cmds]) c.symm (by cases hk; rfl)
    split at hk
    · rename_i c; exact this "place" 2 (by simp [cmds]) c.symm (by cases hk; rfl)
    split at hk
    · rename_i c; exact this "take" 2 (by simp [cmds]) c.symm (by cases hk; rfl)
    · cases hk
  have sz : (ns.map D.int).length + 1 ≤ 100000 := by omega
  refine ⟨szr rfl, tup_ne fx (fine_of (by decide +kernel)) (fun c => nt ("undo", 0) (by simp [cmds]) c) ?_⟩
  refine ⟨szr rfl, tup_ne fx (fine_of (by decide +kernel)) (fun c => nt ("trip", 0) (by simp [cmds]) c) ?_⟩
  refine ⟨szr rfl, tup_ne fx (fine_of (by decide +kernel)) (fun c => nt ("finish", 0) (by simp [cmds]) c) ?_⟩
  refine ⟨szr rfl, tup_ne fx (fine_of (by decide +kernel)) (fun c => nt ("riders", 0) (by simp [cmds]) c) ?_⟩
  refine onS (o := atI (.str x :: ns.map D.int) 0) (a := D.str x) (atI_nat (j := 0) rfl) ?_
  refine eq_str ?_
  by_cases c : x = "by"
  · rw [decide_eq_true c]
    refine eq_int ?_
    have : ¬ (((.str x :: ns.map D.int : List D).length : Nat) : Int) = 2 := by
      rw [List.length_cons, ll]
      intro e
      exact nt ("by", 1) (by simp [cmds]) c (by show ns.length = 1; omega)
    rw [decide_eq_false this]
    exact q
  · rw [decide_eq_false c]
    exact q
/-- a text that the shell takes for no command -/
def bOk (a : Str) : Bool := decide (a.length ≤ 100) && ((tl a).all (fun c => decide (c < 1114112)) && badL (tl a))
theorem split_fine {a x : Str} (fa : Fine a) (h : x ∈ Txt.split a " ") : Fine x := by
  intro c hc
  have e := congrArg tl (join_back a " ")
  rw [join_eq, tl_join] at e
  refine fa c ?_
  show c ∈ tl a
  rw [← e]
  exact memJ (List.mem_map_of_mem (f := tl) h) hc
theorem exec_not {ks k : Nat} {a : Str} (hs : S[ks]? = some (shC k)) (h : bOk a = true) (q : Q (.str "unknown command") S) : F_Shell_execute_4 [.cell ks, .str a] S Q E := by
  unfold bOk at h
  rw [Bool.and_eq_true, Bool.and_eq_true] at h
  obtain ⟨h1, h2, h3⟩ := h
  have h1 := of_decide_eq_true h1
  unfold F_Shell_execute_4
  refine ⟨rfl, ?_⟩
  refine command_any (by omega) (fun _ => ?_) fun x ns hn hl => ?_
  · exact ⟨rfl, q⟩
  refine ⟨rfl, ?_⟩
  refine onS (ins_cell hs) ⟨rfl, onS (a := F_Shell_answer_3) rfl ?_⟩
  exact answer_not (split_fine (fine_of h2) (by rw [hn.1]; exact List.mem_cons_self)) hl (bad_line h3 hn) q
/-- a value that is no text -/
def NoText (S : Sto) (d : D) : Prop := isA .str S d = some false
theorem command_odd {d : D} (h : NoText S d) (q : Q .non S) : F_command_in [d] S Q E := by
  unfold F_command_in
  exact ⟨rfl, onS h q⟩
theorem exec_odd {ks : Nat} {d : D} (h : NoText S d) (q : Q (.str "unknown command") S) : F_Shell_execute_4 [.cell ks, d] S Q E := by
  unfold F_Shell_execute_4
  refine ⟨rfl, ?_⟩
  exact command_odd h ⟨rfl, q⟩
end
end Pu
namespace Pu
open PySem L2 Rb Gm TL Builtin.Str
/-! ## the law's lines -/
def goodT (w : Str) : List Str := ["come " ++ w, "leave " ++ w, "place 0 " ++ w, "take 0 " ++ w, "by " ++ w, "undo", "trip", "finish", "riders"]
def firstT (w : Str) : List Str := ["", " ", "-", "none", "ok", "error", "help", "edits", "attempt", "walk", "unknown command", w]
def nosp (l : Str) : Bool := (occurrences l " " 0 l.length 1).isEmpty
def twice (l : Str) : Str := replN l " " "  " 1 ++ Txt.mul " " (if nosp l = true then 1 else 0)
def turn1 (l : Str) : List Str := [l ++ " ", " " ++ l, l ++ " x", l ++ "\n", Txt.upper l ++ ","]
def turn2 (l : Str) : List Str := [l ++ ",", l ++ " 0 0"]
def turnOk (l : Str) : Bool := decide (l.length ≤ 50) && ((turn1 l).all bOk && ((turn2 l).all bOk && bOk (twice l)))
def wordOk (w : Str) : Bool := decide (w.length ≤ 20) && ((firstT w).all bOk && (goodT w).all turnOk)
def badsT : List Str := ["00", "01", "-0", "-1", "+1", "1_0", "_1", "1_", "-", Txt.mul "1" 9, "0.5", "none", "1e1", "0,1", "3/1", ""]
def bad1 (b : Str) : List Str := ["come " ++ b, "leave " ++ b, "by " ++ b, "place 0 " ++ b, "place " ++ b ++ " 1"]
def bad2 (b : Str) : List Str := ["take 0 " ++ b, "take " ++ b ++ " 1"]
def badOk (b : Str) : Bool := decide (b.length ≤ 20) && ((bad1 b).all bOk && (bad2 b).all bOk)
def last1 : List Str := ["come", "come 0 0", "come 0,1", "leave", "leave 0 0", "leave 0 0 0", "by", "by 0 0", "by 0 0 0"]
def last2 : List Str := ["place", "place 0", "place 0 1 1", "place 0,1", "take", "take 0", "take 0 1 1", "take 0/1"]
def last3 : List Str := ["undo 1", "undo 0 0", "trip 0", "trip 0 0", "finish 0", "finish 0 0", "riders 0", "riders 0 0"]
def last4 : List Str := ["Undo", "undo.", "comes 1", "left 5", "latest", "starts", "road", "read 3/1 0 from 5", "by5"]
def last5 : List Str := ["3/1 0 from 5", "finish?", "come0", "riders 0 0 0", "from", "by 1 2", "place 0 1 x", "state"]
theorem words_ok : (List.range 30).all (fun n => wordOk (itx (n : Int))) = true := by decide +kernel
theorem bads_ok : badsT.all badOk = true := by decide +kernel
theorem lasts_ok : (last1 ++ last2 ++ last3 ++ last4 ++ last5).all bOk = true := by decide +kernel
end Pu
namespace Pu
open PySem L2 Rb Gm TL Builtin.Str
def B61 (d : D) : Prop := ∃ a, d = .str a ∧ bOk a = true
theorem b61s {ws : List Str} (h : ws.all bOk = true) : ∀ d ∈ ws.map D.str, B61 d := fun d hd => by
  obtain ⟨a, ha, rfl⟩ := List.mem_map.mp hd
  exact ⟨a, rfl, List.all_eq_true.mp h a ha⟩
theorem bOk_len {a : Str} (h : bOk a = true) : a.length ≤ 100 := by
  unfold bOk at h
  rw [Bool.and_eq_true] at h
  exact of_decide_eq_true h.1
theorem sz2 {a b : Str} (h : bOk (a ++ b) = true) : a.length + b.length ≤ sizeLine := by
  have := bOk_len h
  rw [str_len] at this
  exact szd (by omega)
theorem sz3 {a b c : Str} (h : bOk (a ++ b ++ c) = true) : a.length + b.length ≤ sizeLine := by
  have := bOk_len h
  rw [str_len, str_len] at this
  exact szd (by omega)
theorem lst_of61 {S : Sto} {n : Nat} {xs : List D} (h : S[n]? = some (.lst xs)) : lstOf S (.cell n) = some xs := by
  show lstAt S[n]? = _
  rw [h]
  rfl
structure T61 (S : Sto) (n L : Nat) : Prop where
  ex : ∃ ds, S[n]? = some (.lst ds) ∧ ds.length ≤ L ∧ ∀ d ∈ ds, B61 d
theorem below_strs {n : Nat} : ∀ {ds : List D}, (∀ d ∈ ds, B61 d) → belowAll n ds = true
  | [], _ => rfl
  | d :: ds, h => by
    obtain ⟨a, rfl, _⟩ := h d List.mem_cons_self
    have ih := below_strs (n := n) (ds := ds) fun x hx => h x (List.mem_cons_of_mem _ hx)
    show (true && belowAll n ds) = true
    rw [ih]
    rfl
section
variable {S : Sto} {n L : Nat} {De : DEnds}
theorem addC61 {fa : FA} {ws : List Str} {ρ : Rho} {m : Nat} (tg : T61 S n L) (h2 : getV ρ 2 = some (.cell n)) (hfa : ∀ K : List D → Sto → Prop, K (ws.map D.str) S → fa ρ S K noE) (he : ws.all bOk = true) (hm : ws.length ≤ m) (hL : L + m ≤ 5000)
    (q : ∀ n' S', T61 S' n' (L + m) → setK ρ 2 (.cell n') fun ρ' => De.nx ρ' S') : dAsg (dBin gAddC (dVar 2) (dLst fa)) (gN 2) ρ S De noE := by
  obtain ⟨ds, g, l, hd⟩ := tg.ex
  have ml : (ws.map D.str).length = ws.length := List.length_map ..
  show onSome (getV ρ 2) _
  rw [h2]
  refine hfa _ ⟨szd (by omega), ?_⟩
  refine onS (lst_of61 g) (onS (a := ws.map D.str) rfl ⟨szd (by omega), ?_⟩)
  refine q _ _ ⟨⟨ds ++ ws.map D.str, ?_, ?_, ?_⟩⟩
  · rw [List.getElem?_append_right (Nat.le_refl _), Nat.sub_self]
    rfl
  · rw [List.length_append]; omega
  · intro d h
    rcases List.mem_append.mp h with h | h
    · exact hd d h
    · exact b61s he d h
abbrev e61 (y0 y1 : Option D) (n : Nat) (y3 y4 y5 : Option D) : Rho := [y0, y1, some (.cell n), y3, y4, y5]
def turnA : FS := (dAsg (dBin gAddC (dVar 2) (dLst (dCons (dBin gAdd (dVar 3) (dC (.str " "))) (dCons (dBin gAdd (dC (.str " ")) (dVar 3)) (dCons (dBin gAdd (dVar 3) (dC (.str " x"))) (dCons (dBin gAdd (dVar 3) (dC (.str "
"))) (dCons (dBin gAdd (dMS0 gUpper (dVar 3)) (dC (.str ","))) dNil))))))) (gN 2))
def turnB : FS := (dAsg (dBin gAddC (dVar 2) (dLst (dCons (dBin gAdd (dVar 3) (dC (.str ","))) (dCons (dBin gAdd (dVar 3) (dC (.str " 0 0"))) dNil)))) (gN 2))
def turnC : FS := (dDrop (dML gAppend (dVar 2) (dCons (dBin gAdd (dRepl " " "  " 1 (dVar 3)) (dBin gMulT (dC (.str " ")) (dB gToInt (dCons (dBin gNotInT (dC (.str " ")) (dVar 3)) dNil)))) dNil)))
variable {y0 y1 y4 y5 : Option D} {l : Str}
theorem turnA_ok (h0 : l.length ≤ 50) (h : (turn1 l).all bOk = true) (tg : T61 S n L) (hL : L ≤ 1000) (q : ∀ n' S', T61 S' n' (L + 5) → De.nx (e61 y0 y1 n' (some (.str l)) y4 y5) S') : turnA (e61 y0 y1 n (some (.str l)) y4 y5) S De noE := by
  have hh := h
  simp only [turn1, List.all_cons, List.all_nil, Bool.and_true, Bool.and_eq_true] at hh
  obtain ⟨a1, a2, a3, a4, a5⟩ := hh
  unfold turnA
  exact addC61 (ws := turn1 l) tg rfl (fun K hK => ⟨sz2 a1, sz2 a2, sz2 a3, sz2 a4, by omega, sz2 a5, hK⟩) h (Nat.le_refl _) (by show L + 5 ≤ 5000; omega) q
theorem turnB_ok (h : (turn2 l).all bOk = true) (tg : T61 S n L) (hL : L ≤ 1000) (q : ∀ n' S', T61 S' n' (L + 2) → De.nx (e61 y0 y1 n' (some (.str l)) y4 y5) S') : turnB (e61 y0 y1 n (some (.str l)) y4 y5) S De noE := by
  have hh := h
  simp only [turn2, List.all_cons, List.all_nil, Bool.and_true, Bool.and_eq_true] at hh
  obtain ⟨a1, a2⟩ := hh
  unfold turnB
  exact addC61 (ws := turn2 l) tg rfl (fun K hK => ⟨sz2 a1, sz2 a2, hK⟩) h (Nat.le_refl _) (by show L + 2 ≤ 5000; omega) q
theorem turnC_ok (h0 : l.length ≤ 50) (h : bOk (twice l) = true) (tg : T61 S n L) (hL : L ≤ 1000) (q : ∀ S', T61 S' n (L + 1) → De.nx (e61 y0 y1 n (some (.str l)) y4 y5) S') : turnC (e61 y0 y1 n (some (.str l)) y4 y5) S De noE := by
  obtain ⟨ds, g, hl, hd⟩ := tg.ex
  have hc : cellOf S (.cell n) = some (n, ds) := cell_lst g
  have k2 : ("  " : Str).length = 2 := by decide +kernel
  unfold turnC
  refine onS hc ?_
  refine ⟨by rw [k2]; omega, ?_⟩
  refine ⟨⟨by split <;> decide, by split <;> decide, by decide +kernel⟩, ?_⟩
  refine ⟨sz2 h, ?_⟩
  refine onS hc ⟨szd (by show ds.length + 1 ≤ 100000; omega), ?_⟩
  refine q _ ⟨⟨ds ++ [.str (twice l)], ?_, ?_, ?_⟩⟩
  · have hn : n < S.length := (List.getElem?_eq_some_iff.mp g).1
    show (S.set n _)[n]? = _
    rw [List.getElem?_set_self hn]
    rfl
  · rw [List.length_append]; show ds.length + 1 ≤ _; omega
  · intro d h'
    rcases List.mem_append.mp h' with h' | h'
    · exact hd d h'
    · rw [List.mem_singleton.mp h']
      exact ⟨_, rfl, h⟩
theorem seq_of {f g : FS} {ρ : Rho} {S : Sto} {De : DEnds} {Ed : ED} (h : f ρ S { De with nx := fun ρ' S' => g ρ' S' De Ed } Ed) : dSeq f g ρ S De Ed := h
def turnF : FS := dSeq turnA (dSeq turnB turnC)
theorem turnF_ok (h : turnOk l = true) (tg : T61 S n L) (hL : L ≤ 900) (q : ∀ n' S', T61 S' n' (L + 8) → De.nx (e61 y0 y1 n' (some (.str l)) y4 y5) S') : turnF (e61 y0 y1 n (some (.str l)) y4 y5) S De noE := by
  unfold turnOk at h
  rw [Bool.and_eq_true, Bool.and_eq_true, Bool.and_eq_true] at h
  obtain ⟨h0, h1, h2, h3⟩ := h
  have h0 := of_decide_eq_true h0
  unfold turnF
  refine seq_of (turnA_ok h0 h1 tg (by omega) fun n1 S1 t1 => ?_)
  refine seq_of (turnB_ok h2 t1 (by omega) fun n2 S2 t2 => ?_)
  exact turnC_ok h0 h3 t2 (by omega) fun S3 t3 => q _ _ t3
def badA : FS := (dAsg (dBin gAddC (dVar 2) (dLst (dCons (dBin gAdd (dC (.str "come ")) (dVar 5)) (dCons (dBin gAdd (dC (.str "leave ")) (dVar 5)) (dCons (dBin gAdd (dC (.str "by ")) (dVar 5)) (dCons (dBin gAdd (dC (.str "place 0 ")) (dVar 5)) (dCons (dBin gAdd (dBin gAdd (dC (.str "place ")) (dVar 5)) (dC (.str " 1"))) dNil))))))) (gN 2))
def badB : FS := (dAsg (dBin gAddC (dVar 2) (dLst (dCons (dBin gAdd (dC (.str "take 0 ")) (dVar 5)) (dCons (dBin gAdd (dBin gAdd (dC (.str "take ")) (dVar 5)) (dC (.str " 1"))) dNil)))) (gN 2))
theorem badA_ok {y3 : Option D} (h : (bad1 l).all bOk = true) (tg : T61 S n L) (hL : L ≤ 900) (q : ∀ n' S', T61 S' n' (L + 5) → De.nx (e61 y0 y1 n' y3 y4 (some (.str l))) S') : badA (e61 y0 y1 n y3 y4 (some (.str l))) S De noE := by
  have g1 := h
  simp only [bad1, List.all_cons, List.all_nil, Bool.and_true, Bool.and_eq_true] at g1
  obtain ⟨a1, a2, a3, a4, a5⟩ := g1
  unfold badA
  exact addC61 (m := 5) (ws := bad1 l) tg rfl (fun K hK => ⟨sz2 a1, sz2 a2, sz2 a3, sz2 a4, sz3 a5, sz2 a5, hK⟩) h (Nat.le_refl _) (by omega) q
theorem badB_ok {y3 : Option D} (h : (bad2 l).all bOk = true) (tg : T61 S n L) (hL : L ≤ 1000) (q : ∀ n' S', T61 S' n' (L + 2) → De.nx (e61 y0 y1 n' y3 y4 (some (.str l))) S') : badB (e61 y0 y1 n y3 y4 (some (.str l))) S De noE := by
  have g2 := h
  simp only [bad2, List.all_cons, List.all_nil, Bool.and_true, Bool.and_eq_true] at g2
  obtain ⟨b1, b2⟩ := g2
  unfold badB
  exact addC61 (m := 2) (ws := bad2 l) tg rfl (fun K hK => ⟨sz2 b1, sz3 b2, sz2 b2, hK⟩) h (Nat.le_refl _) (by omega) q
def badF : FS := dSeq badA badB
theorem badF_ok {y3 : Option D} (h : badOk l = true) (tg : T61 S n L) (hL : L ≤ 900) (q : ∀ n' S', T61 S' n' (L + 7) → De.nx (e61 y0 y1 n' y3 y4 (some (.str l))) S') : badF (e61 y0 y1 n y3 y4 (some (.str l))) S De noE := by
  unfold badOk at h
  rw [Bool.and_eq_true, Bool.and_eq_true] at h
  obtain ⟨_, h1, h2⟩ := h
  unfold badF
  refine seq_of (badA_ok h1 tg hL fun n1 S1 t1 => ?_)
  exact badB_ok h2 t1 (by omega) fun n2 S2 t2 => q _ _ t2
end
end Pu
namespace Pu
open PySem L2 Rb Gm TL Builtin.Str
def q6110 : FS := (dRet (dBin gAdd (dVar 2) (dLst (dCons (dC (.str "3/1 0 from 5")) (dCons (dC (.str "finish?")) (dCons (dC (.str "come0")) (dCons (dC (.str "riders 0 0 0")) (dCons (dC (.str "from")) (dCons (dC (.str "by 1 2")) (dCons (dC (.str "place 0 1 x")) (dCons (dC (.str "state")) dNil)))))))))))
def q619 : FS := (dSeq (dAsg (dBin gAddC (dVar 2) (dLst (dCons (dC (.str "Undo")) (dCons (dC (.str "undo.")) (dCons (dC (.str "comes 1")) (dCons (dC (.str "left 5")) (dCons (dC (.str "latest")) (dCons (dC (.str "starts")) (dCons (dC (.str "road")) (dCons (dC (.str "read 3/1 0 from 5")) (dCons (dC (.str "by5")) dNil))))))))))) (gN 2)) q6110)
def q618 : FS := (dSeq (dAsg (dBin gAddC (dVar 2) (dLst (dCons (dC (.str "undo 1")) (dCons (dC (.str "undo 0 0")) (dCons (dC (.str "trip 0")) (dCons (dC (.str "trip 0 0")) (dCons (dC (.str "finish 0")) (dCons (dC (.str "finish 0 0")) (dCons (dC (.str "riders 0")) (dCons (dC (.str "riders 0 0")) dNil)))))))))) (gN 2)) q619)
def q617 : FS := (dSeq (dAsg (dBin gAddC (dVar 2) (dLst (dCons (dC (.str "place")) (dCons (dC (.str "place 0")) (dCons (dC (.str "place 0 1 1")) (dCons (dC (.str "place 0,1")) (dCons (dC (.str "take")) (dCons (dC (.str "take 0")) (dCons (dC (.str "take 0 1 1")) (dCons (dC (.str "take 0/1")) dNil)))))))))) (gN 2)) q618)
def q616 : FS := (dSeq (dAsg (dBin gAddC (dVar 2) (dLst (dCons (dC (.str "come")) (dCons (dC (.str "come 0 0")) (dCons (dC (.str "come 0,1")) (dCons (dC (.str "leave")) (dCons (dC (.str "leave 0 0")) (dCons (dC (.str "leave 0 0 0")) (dCons (dC (.str "by")) (dCons (dC (.str "by 0 0")) (dCons (dC (.str "by 0 0 0")) dNil))))))))))) (gN 2)) q617)
def q615b1 : FS := (dAsg (dBin gAddC (dVar 2) (dLst (dCons (dBin gAdd (dC (.str "take 0 ")) (dVar 5)) (dCons (dBin gAdd (dBin gAdd (dC (.str "take ")) (dVar 5)) (dC (.str " 1"))) dNil)))) (gN 2))
def q615b0 : FS := (dSeq (dAsg (dBin gAddC (dVar 2) (dLst (dCons (dBin gAdd (dC (.str "come ")) (dVar 5)) (dCons (dBin gAdd (dC (.str "leave ")) (dVar 5)) (dCons (dBin gAdd (dC (.str "by ")) (dVar 5)) (dCons (dBin gAdd (dC (.str "place 0 ")) (dVar 5)) (dCons (dBin gAdd (dBin gAdd (dC (.str "place ")) (dVar 5)) (dC (.str " 1"))) dNil))))))) (gN 2)) q615b1)
def q615 : FS := (dSeq (dFor (dItS (dVar 4)) (gN 5) q615b0) q616)
def q614 : FS := (dSeq (dAsg (dLst (dCons (dC (.str "00")) (dCons (dC (.str "01")) (dCons (dC (.str "-0")) (dCons (dC (.str "-1")) (dCons (dC (.str "+1")) (dCons (dC (.str "1_0")) (dCons (dC (.str "_1")) (dCons (dC (.str "1_")) (dCons (dC (.str "-")) (dCons (dBin gMulT (dC (.str "1")) (dC (.int 9))) (dCons (dC (.str "0.5")) (dCons (dC (.str "none")) (dCons (dC (.str "1e1")) (dCons (dC (.str "0,1")) (dCons (dC (.str "3/1")) (dCons (dC (.str "")) dNil))))))))))))))))) (gN 4)) q615)
def q613b2 : FS := (dDrop (dML gAppend (dVar 2) (dCons (dBin gAdd (dRepl " " "  " 1 (dVar 3)) (dBin gMulT (dC (.str " ")) (dB gToInt (dCons (dBin gNotInT (dC (.str " ")) (dVar 3)) dNil)))) dNil)))
def q613b1 : FS := (dSeq (dAsg (dBin gAddC (dVar 2) (dLst (dCons (dBin gAdd (dVar 3) (dC (.str ","))) (dCons (dBin gAdd (dVar 3) (dC (.str " 0 0"))) dNil)))) (gN 2)) q613b2)
def q613b0 : FS := (dSeq (dAsg (dBin gAddC (dVar 2) (dLst (dCons (dBin gAdd (dVar 3) (dC (.str " "))) (dCons (dBin gAdd (dC (.str " ")) (dVar 3)) (dCons (dBin gAdd (dVar 3) (dC (.str " x"))) (dCons (dBin gAdd (dVar 3) (dC (.str "
"))) (dCons (dBin gAdd (dMS0 gUpper (dVar 3)) (dC (.str ","))) dNil))))))) (gN 2)) q613b1)
def q613 : FS := (dSeq (dFor (dItS (dVar 1)) (gN 3) q613b0) q614)
def q612 : FS := (dSeq (dAsg (dLstC (dCons (dC (.str "")) (dCons (dC (.str " ")) (dCons (dC (.str "-")) (dCons (dC (.str "none")) (dCons (dC (.str "ok")) (dCons (dC (.str "error")) (dCons (dC (.str "help")) (dCons (dC (.str "edits")) (dCons (dC (.str "attempt")) (dCons (dC (.str "walk")) (dCons (dC (.str "unknown command")) (dCons (dVar 0) dNil))))))))))))) (gN 2)) q613)
def q611 : FS := (dSeq (dAsg (dBin gAdd (dVar 1) (dLst (dCons (dC (.str "undo")) (dCons (dC (.str "trip")) (dCons (dC (.str "finish")) (dCons (dC (.str "riders")) dNil)))))) (gN 1)) q612)
def q610 : FS := (dSeq (dAsg (dLst (dCons (dBin gAdd (dC (.str "come ")) (dVar 0)) (dCons (dBin gAdd (dC (.str "leave ")) (dVar 0)) (dCons (dBin gAdd (dC (.str "place 0 ")) (dVar 0)) (dCons (dBin gAdd (dC (.str "take 0 ")) (dVar 0)) (dCons (dBin gAdd (dC (.str "by ")) (dVar 0)) dNil)))))) (gN 1)) q611)
section
variable {S : Sto} {n L : Nat} {De : DEnds} {y0 y1 y3 y4 y5 : Option D}
theorem last_all {ws : List Str} (h : ∀ w ∈ ws, w ∈ last1 ++ last2 ++ last3 ++ last4 ++ last5) : ws.all bOk = true := List.all_eq_true.mpr fun w hw => List.all_eq_true.mp lasts_ok w (h w hw)
theorem seqC61 {fa : FA} {R : FS} {ws : List Str} {ρ : Rho} {m : Nat} (tg : T61 S n L) (h2 : getV ρ 2 = some (.cell n)) (hfa : ∀ K : List D → Sto → Prop, K (ws.map D.str) S → fa ρ S K noE) (he : ws.all bOk = true) (hm : ws.length ≤ m) (hL : L + m ≤ 5000)
    (q : ∀ n' S', T61 S' n' (L + m) → setK ρ 2 (.cell n') fun ρ' => R ρ' S' De noE) : dSeq (dAsg (dBin gAddC (dVar 2) (dLst fa)) (gN 2)) R ρ S De noE :=
  addC61 (De := { De with nx := fun ρ' S' => R ρ' S' De noE }) tg h2 hfa he hm hL q
theorem q6110_ok (tg : T61 S n L) (hL : L ≤ 900) (q : ∀ S' ds, ds.length ≤ 1000 → (∀ d ∈ ds, B61 d) → De.rt (.lst false ds) S') : q6110 (e61 y0 y1 n y3 y4 y5) S De noE := by
  obtain ⟨ds, g, l, hd⟩ := tg.ex
  unfold q6110
  refine ⟨szr rfl, ?_⟩
  refine onS (lst_of61 g) (onS (a := last5.map D.str) rfl ⟨szd (by show ds.length + 8 ≤ 100000; omega), ?_⟩)
  refine q _ _ (by rw [List.length_append]; show ds.length + 8 ≤ 1000; omega) fun d h => ?_
  rcases List.mem_append.mp h with h | h
  · exact hd d h
  · exact b61s (last_all (ws := last5) (fun w hw => by simp only [List.mem_append]; exact .inr hw)) d h
theorem q619_ok (tg : T61 S n L) (hL : L ≤ 800) (q : ∀ S' ds, ds.length ≤ 1000 → (∀ d ∈ ds, B61 d) → De.rt (.lst false ds) S') : q619 (e61 y0 y1 n y3 y4 y5) S De noE := by
  unfold q619
  exact seqC61 (m := 9) (ws := last4) tg rfl (fun K hK => hK) (last_all fun w hw => by simp only [List.mem_append]; exact .inl (.inr hw)) (Nat.le_refl _) (by omega) fun n' S' t => q6110_ok (y0 := y0) (y1 := y1) (y3 := y3) (y4 := y4) (y5 := y5) t (by omega) q
theorem q618_ok (tg : T61 S n L) (hL : L ≤ 700) (q : ∀ S' ds, ds.length ≤ 1000 → (∀ d ∈ ds, B61 d) → De.rt (.lst false ds) S') : q618 (e61 y0 y1 n y3 y4 y5) S De noE := by
  unfold q618
  exact seqC61 (m := 8) (ws := last3) tg rfl (fun K hK => hK) (last_all fun w hw => by simp only [List.mem_append]; exact .inl (.inl (.inr hw))) (Nat.le_refl _) (by omega) fun n' S' t => q619_ok (y0 := y0) (y1 := y1) (y3 := y3) (y4 := y4) (y5 := y5) t (by omega) q
theorem q617_ok (tg : T61 S n L) (hL : L ≤ 600) (q : ∀ S' ds, ds.length ≤ 1000 → (∀ d ∈ ds, B61 d) → De.rt (.lst false ds) S') : q617 (e61 y0 y1 n y3 y4 y5) S De noE := by
  unfold q617
  exact seqC61 (m := 8) (ws := last2) tg rfl (fun K hK => hK) (last_all fun w hw => by simp only [List.mem_append]; exact .inl (.inl (.inl (.inr hw)))) (Nat.le_refl _) (by omega) fun n' S' t => q618_ok (y0 := y0) (y1 := y1) (y3 := y3) (y4 := y4) (y5 := y5) t (by omega) q
theorem q616_ok (tg : T61 S n L) (hL : L ≤ 500) (q : ∀ S' ds, ds.length ≤ 1000 → (∀ d ∈ ds, B61 d) → De.rt (.lst false ds) S') : q616 (e61 y0 y1 n y3 y4 y5) S De noE := by
  unfold q616
  exact seqC61 (m := 9) (ws := last1) tg rfl (fun K hK => hK) (last_all fun w hw => by simp only [List.mem_append]; exact .inl (.inl (.inl (.inl hw)))) (Nat.le_refl _) (by omega) fun n' S' t => q617_ok (y0 := y0) (y1 := y1) (y3 := y3) (y4 := y4) (y5 := y5) t (by omega) q
theorem loop5 {ws : List Str} (hw : ws.all badOk = true) (hl : ws.length ≤ 16) (tg : T61 S n L) (hL : L ≤ 300) (q : ∀ n' S' y5, T61 S' n' (L + 7 * ws.length) → De.nx (e61 y0 y1 n' y3 y4 y5) S') : dLoop (gN 5) q615b0 [] (ws.map D.str) (e61 y0 y1 n y3 y4 y5) S De noE := by
  refine for_inv (src := []) (ws.map D.str) (fun k ρ S' => ∃ n' z5, ρ = e61 y0 y1 n' y3 y4 z5 ∧ T61 S' n' (L + 7 * k)) ⟨_, _, rfl, tg⟩ ?_ ?_
  · rintro k x ρ S' K hx hK ⟨n', z5, rfl, t'⟩
    rw [List.getElem?_map] at hx
    obtain ⟨b, hp, rfl⟩ := Option.map_eq_some_iff.mp hx
    have hk : k < ws.length := (List.getElem?_eq_some_iff.mp hp).1
    have hb := List.all_eq_true.mp hw b (List.mem_of_getElem? hp)
    refine badF_ok hb t' (by omega) fun n2 S2 t2 => hK _ _ ⟨_, _, rfl, ?_⟩
    rw [Nat.mul_succ, ← Nat.add_assoc]
    exact t2
  · rintro ρ S' ⟨n', z5, rfl, t'⟩
    rw [List.length_map] at t'
    exact q _ _ _ t'
theorem loop3 {ws : List Str} (hw : ws.all turnOk = true) (hl : ws.length ≤ 9) (tg : T61 S n L) (hL : L ≤ 100) (q : ∀ n' S' y3, T61 S' n' (L + 8 * ws.length) → De.nx (e61 y0 y1 n' y3 y4 y5) S') : dLoop (gN 3) q613b0 [] (ws.map D.str) (e61 y0 y1 n y3 y4 y5) S De noE := by
  refine for_inv (src := []) (ws.map D.str) (fun k ρ S' => ∃ n' z3, ρ = e61 y0 y1 n' z3 y4 y5 ∧ T61 S' n' (L + 8 * k)) ⟨_, _, rfl, tg⟩ ?_ ?_
  · rintro k x ρ S' K hx hK ⟨n', z3, rfl, t'⟩
    rw [List.getElem?_map] at hx
    obtain ⟨b, hp, rfl⟩ := Option.map_eq_some_iff.mp hx
    have hk : k < ws.length := (List.getElem?_eq_some_iff.mp hp).1
    have hb := List.all_eq_true.mp hw b (List.mem_of_getElem? hp)
    refine turnF_ok hb t' (by omega) fun n2 S2 t2 => hK _ _ ⟨_, _, rfl, ?_⟩
    rw [Nat.mul_succ, ← Nat.add_assoc]
    exact t2
  · rintro ρ S' ⟨n', z3, rfl, t'⟩
    rw [List.length_map] at t'
    exact q _ _ _ t'
theorem forV {i j : Nat} {body R : FS} {ρ : Rho} {fl : Bool} {ds : List D} (g : getV ρ i = some (.lst fl ds)) (h : dLoop (gN j) body [] ds ρ S { De with nx := fun ρ' S' => R ρ' S' De noE } noE) : dSeq (dFor (dItS (dVar i)) (gN j) body) R ρ S De noE := by
  show onSome (getV ρ i) _
  rw [g]
  exact h
theorem q615_ok (tg : T61 S n L) (hL : L ≤ 300) (q : ∀ S' ds, ds.length ≤ 1000 → (∀ d ∈ ds, B61 d) → De.rt (.lst false ds) S') : q615 (e61 y0 y1 n y3 (some (.lst true (badsT.map D.str))) y5) S De noE := by
  have hb := bads_ok
  have hl : badsT.length ≤ 16 := by decide
  generalize badsT = ws at hb hl ⊢
  unfold q615
  exact forV rfl (loop5 (De := { De with nx := fun ρ' S' => q616 ρ' S' De noE }) hb hl tg hL fun n' S' z5 t => q616_ok (y0 := y0) (y1 := y1) (y3 := y3) (y5 := z5) t (by omega) q)
theorem q614_ok (tg : T61 S n L) (hL : L ≤ 300) (q : ∀ S' ds, ds.length ≤ 1000 → (∀ d ∈ ds, B61 d) → De.rt (.lst false ds) S') : q614 (e61 y0 y1 n y3 y4 y5) S De noE := by
  unfold q614
  refine ⟨⟨by decide, by decide, by decide +kernel⟩, szr rfl, ?_⟩
  exact q615_ok (y0 := y0) (y1 := y1) (y3 := y3) (y5 := y5) tg hL q
theorem q613_ok {ws : List Str} (hw : ws.all turnOk = true) (hl : ws.length ≤ 9) {fl : Bool} (tg : T61 S n L) (hL : L ≤ 20) (q : ∀ S' ds, ds.length ≤ 1000 → (∀ d ∈ ds, B61 d) → De.rt (.lst false ds) S') : q613 (e61 y0 (some (.lst fl (ws.map D.str))) n y3 y4 y5) S De noE := by
  unfold q613
  exact forV rfl (loop3 (De := { De with nx := fun ρ' S' => q614 ρ' S' De noE }) hw hl tg (by omega) fun n' S' z3 t => q614_ok (y0 := y0) (y1 := some (.lst fl (ws.map D.str))) (y3 := z3) (y4 := y4) (y5 := y5) t (by omega) q)
end
section
variable {Q : QD} {E : ED}
theorem lines_ok {w : Str} (h : wordOk w = true) (q : ∀ ds, ds.length ≤ 1000 → (∀ d ∈ ds, B61 d) → Q (.lst false ds) []) : F_law_lines [.str w] [] Q E := by
  unfold wordOk at h
  rw [Bool.and_eq_true, Bool.and_eq_true] at h
  obtain ⟨h0, h1, h2⟩ := h
  have h0 := of_decide_eq_true h0
  have h3 := h2
  simp only [goodT, List.all_cons, List.all_nil, Bool.and_true, Bool.and_eq_true] at h3
  obtain ⟨a1, a2, a3, a4, a5, _⟩ := h3
  have sz : ∀ {a b : Str}, turnOk (a ++ b) = true → a.length + b.length ≤ sizeLine := fun {a b} h => by
    unfold turnOk at h
    rw [Bool.and_eq_true] at h
    have := of_decide_eq_true h.1
    rw [str_len] at this
    exact szd (by omega)
  unfold F_law_lines
  refine ⟨rfl, ?_⟩
  show q610 [some (.str w), none, none, none, none, none] [] _ noE
  unfold q610
  refine ⟨sz a1, sz a2, sz a3, sz a4, sz a5, szr rfl, ?_⟩
  show q611 [some (.str w), some (.lst true [.str ("come " ++ w), .str ("leave " ++ w), .str ("place 0 " ++ w), .str ("take 0 " ++ w), .str ("by " ++ w)]), none, none, none, none] [] _ noE
  unfold q611
  refine ⟨szr rfl, szr rfl, ?_⟩
  show q612 [some (.str w), some (.lst false ((goodT w).map D.str)), none, none, none, none] [] _ noE
  unfold q612
  refine ⟨szr rfl, ?_⟩
  show q613 (e61 (some (.str w)) (some (.lst false ((goodT w).map D.str))) 0 none none none) [.lst ((firstT w).map D.str)] _ noE
  refine q613_ok h2 (by show 9 ≤ 9; decide) (L := 12) ⟨⟨_, rfl, by rw [List.length_map]; show 12 ≤ 12; decide, b61s h1⟩⟩ (by decide) fun S' ds l hd => ?_
  refine ⟨⟨rfl, rfl⟩, ?_⟩
  refine onS (a := D.lst false ds) ?_ (q ds l hd)
  show (if below 0 (.lst false ds) = true then some (D.lst false ds) else none) = _
  rw [if_pos (show below 0 (.lst false ds) = true from below_strs hd)]
end
end Pu
namespace Pu
open PySem L2 Rb Gm TL
def p616 : FS := (dRet (dAndV (dBin (gEqO [("Trip", F_Trip_eq), ("PromisedTrip", F_PromisedTrip_eq)]) (dVar 4) (dVar 5)) (dBin iEq (dLst (dCons (dProp [("Trip", F_Trip_road_2), ("PromisedTrip", F_Trip_road_2)] (dVar 4)) (dCons (dProp [("Trip", F_Trip_starts_2), ("PromisedTrip", F_Trip_starts_2)] (dVar 4)) dNil))) (dLst (dCons (dVar 2) (dCons (dVar 3) dNil))))))
def p615b : FS := (dIfS (dOr (dTest (dBin iNe (dMeth [("Shell", F_Shell_execute_4)] "execute" (dVar 6) (dCons (dVar 8) dNil)) (dC (.str "unknown command")))) (dTest (dBin iNe (dB (gLenO [("Trip", F_Trip_len), ("PromisedTrip", F_Trip_len)]) (dCons (dVar 4) dNil)) (dC (.int 0)))))
 (dRet (dC (.bl false)))
 dSkip)
def p615 : FS := (dSeq (dFor (dItS (dVar 7)) (gN 8) p615b) p616)
def p614 : FS := (dSeq (dAsg (dBin gAdd (dCall 0 F_law_lines (dCons (dB gStr (dCons (dCallW F_law_draw_3 (dCons (dVar 1) (dCons (dC (.int 30)) dNil))) dNil)) dNil)) (dLst (dCons (dCallW F_law_odd_5 (dCons (dVar 1) dNil)) (dCons (dC .non) (dCons (dC (.int 5)) (dCons (dC (.bl true)) (dCons (dLst (dCons (dC (.str "undo")) dNil)) (dCons (dTup (dCons (dC (.str "undo")) dNil)) (dCons (dBin gPow (dC (.int 10)) (dC (.int 29))) dNil))))))))) (gN 7)) p615)
def p613 : FS := (dSeq (dAsg (dMake "Shell" F_Shell_init (dCons (dVar 4) dNil)) (gN 6)) p614)
def p612 : FS := (dSeq (dPar 4 5 (dCons (dMake "Trip" F_Trip_init_2 (dCons (dVar 2) (dCons (dVar 3) dNil))) (dCons (dMake "Trip" F_Trip_init_2 (dCons (dVar 2) (dCons (dVar 3) dNil))) dNil))) p613)
theorem sh_make {S : Sto} {Q : QD} {E : ED} {k : Nat} (q : Q .non (S ++ [shC k])) : F_Shell_init [.cell S.length, .cell k] (S ++ [.ins "Shell" []]) Q E := by
  unfold F_Shell_init
  refine ⟨rfl, ?_⟩
  show onSome (cellIns (S ++ [Cl.ins "Shell" []]) (.cell S.length)) _
  refine onS (cell_ins get_new) ⟨⟨rfl, by show 0 ≤ 500; decide⟩, ?_⟩
  show Q .non ((S ++ [Cl.ins "Shell" []]).set S.length (shC k))
  rw [set_new]
  exact q
abbrev newC (v : Vn) : Cl := tripC .plain [] [v.d] false
def O61 (d : D) : Prop := B61 d ∨ ∀ S, NoText S d
def odd61 : List D := [.non, .bl true, .bl false, .int 0, .int (-1), .int (10 ^ (29 : Int).toNat), .tup [], .lst true [], .dic [], .tup [.int 0, .int 0], .lst true [.str "3/1 0 from 5"], .tup [.tup [.int 3, .int 1, .tup [.int 0]], .tup [.int 5]]]
theorem odd61_no : ∀ d ∈ odd61, ∀ S, NoText S d := by
  intro d hd S
  unfold odd61 at hd
  simp only [List.mem_cons, List.not_mem_nil, or_false] at hd
  rcases hd with rfl | rfl | rfl | rfl | rfl | rfl | rfl | rfl | rfl | rfl | rfl | rfl
  all_goals rfl
section
variable {S T : Sto} {N : Int} {Q : QD} {E : ED} {De : DEnds} {v : Vn} {y0 y2 y3 y7 y8 : Option D}
theorem odd61_ok (h : Dk S N T) (hN : N ≤ 900000) (q : ∀ d S', (∀ S, NoText S d) → Dk S' (N + 1) T → Q d S') : F_law_odd_5 [.cell 1] S Q E := by
  unfold F_law_odd_5
  refine ⟨rfl, ⟨by decide, by decide, by decide⟩, szr rfl, szr rfl, szr rfl, szr rfl, szr rfl, szr rfl, szr rfl, szr rfl, szr rfl, ?_⟩
  refine draw3_ok (lim := 12) h (by omega) (by decide) (by decide) fun r S' r0 r1 d1 => ?_
  obtain ⟨d, e, hd⟩ := atI_mem (xs := odd61) r0 r1
  exact onS e (q d S' (odd61_no d hd) d1)
abbrev w61 (y0 : Option D) (v : Vn) (y7 y8 : Option D) : Rho := [y0, some (.cell 1), some v.rv, some v.sv, some (.cell 2), some (.cell 3), some (.cell 4), y7, y8]
abbrev T61s (v : Vn) : Sto := [newC v, newC v, shC 2]
theorem exec61 {ks k : Nat} {d : D} (hs : S[ks]? = some (shC k)) (h : O61 d) (q : Q (.str "unknown command") S) : F_Shell_execute_4 [.cell ks, d] S Q E := by
  rcases h with ⟨a, rfl, ha⟩ | h
  · exact exec_not hs ha q
  · exact exec_odd (h S) q
theorem p615b_ok {d : D} (dk : Dk S N (T61s v)) (h : O61 d) (q : De.nx (w61 y0 v y7 (some d)) S) : p615b (w61 y0 v y7 (some d)) S De noE := by
  have hs : S[4]? = some (shC 2) := dk.get (j := 2) rfl
  have hk : TAt S 2 .plain [] ([] ++ [v.d]) false := dk.get (j := 0) rfl
  unfold p615b
  refine onS (ins_cell hs) ⟨rfl, onS (a := F_Shell_execute_4) rfl ?_⟩
  refine exec61 hs h (ne_str rfl ?_)
  refine onS (t_ins hk) (onS (a := F_Trip_len) rfl (t_length hk ⟨⟨by decide, by decide⟩, ne_int rfl ?_⟩))
  exact q
theorem p616_ok (ok : VnOk v) (dk : Dk S N (T61s v)) (q : De.rt (.bl true) S) : p616 (w61 y0 v y7 y8) S De noE := by
  have ha : TAt S 2 .plain [] ([] ++ [v.d]) false := dk.get (j := 0) rfl
  have hb : TAt S 3 .plain [] ([] ++ [v.d]) false := dk.get (j := 1) rfl
  unfold p616
  refine eqo_ok ok ha hb ?_
  refine t_prop ha (t_road ha (t_prop ha (t_starts ha ?_)))
  refine ⟨szr rfl, szr rfl, ?_⟩
  have sh : Shp 3 (.lst true [v.rv, v.sv]) := Shp.lst fun d hd => by
    simp only [List.mem_cons, List.not_mem_nil, or_false] at hd
    rcases hd with rfl | rfl
    · exact ok.repR.shp
    · exact ok.repS.shp.mono (by decide)
  exact eq_same sh rfl q
theorem p615_ok {ds : List D} {fl : Bool} (ok : VnOk v) (dk : Dk S N (T61s v)) (hd : ∀ d ∈ ds, O61 d) (q : De.rt (.bl true) S) : p615 (w61 y0 v (some (.lst fl ds)) y8) S De noE := by
  unfold p615
  refine forV rfl ?_
  refine for_inv (src := []) ds (fun k ρ S' => ∃ z8, ρ = w61 y0 v (some (.lst fl ds)) z8 ∧ S' = S) ⟨_, rfl, rfl⟩ ?_ ?_
  · rintro k x ρ S' K hx hK ⟨z8, rfl, rfl⟩
    exact p615b_ok dk (hd x (List.mem_of_getElem? hx)) (hK _ _ ⟨_, rfl, rfl⟩)
  · rintro ρ S' ⟨z8, rfl, rfl⟩
    exact p616_ok ok dk q
theorem p614_ok (ok : VnOk v) (dk : Dk S N (T61s v)) (hN : N ≤ 800000) (q : ∀ S', De.rt (.bl true) S') : p614 (w61 y0 v none none) S De noE := by
  unfold p614
  refine draw3_ok dk (by omega) (by decide) (by decide) fun r S1 r0 r1 d1 => ?_
  obtain ⟨n, rfl⟩ : ∃ n : Nat, r = (n : Int) := ⟨r.toNat, (Int.toNat_of_nonneg r0).symm⟩
  refine ⟨nat_bd (by rw [Int.natAbs_natCast]; omega), ?_⟩
  have hw : wordOk (itx (n : Int)) = true := List.all_eq_true.mp words_ok n (List.mem_range.mpr (by omega))
  refine ⟨⟨rfl, rfl⟩, ?_⟩
  show F_law_lines [.str (itx (n : Int))] [] _ _
  refine lines_ok hw fun ds l hd => ⟨rfl, ?_⟩
  show F_law_odd_5 [.cell 1] S1 _ _
  refine odd61_ok d1 (by omega) fun o S2 ho d2 => ?_
  refine ⟨szr rfl, szr rfl, ⟨by decide, by decide, by decide⟩, szr rfl, ?_⟩
  dsimp only [gAdd]
  refine onS (a := ds) rfl ?_
  refine onS (a := [o, .non, .int 5, .bl true, .lst true [.str "undo"], .tup [.str "undo"], .int (10 ^ (29 : Int).toNat)]) rfl ?_
  refine ⟨szd (by show ds.length + 7 ≤ 100000; omega), ?_⟩
  show p615 (w61 y0 v (some (.lst false (ds ++ [o, .non, .int 5, .bl true, .lst true [.str "undo"], .tup [.str "undo"], .int (10 ^ (29 : Int).toNat)]))) none) S2 _ noE
  refine p615_ok ok d2 (fun d h => ?_) (q S2)
  rcases List.mem_append.mp h with h | h
  · exact .inl (hd d h)
  · simp only [List.mem_cons, List.not_mem_nil, or_false] at h
    rcases h with rfl | rfl | rfl | rfl | rfl | rfl | rfl
    · exact .inr ho
    all_goals exact .inr fun S => rfl
end
theorem law_ok : ∀ ns : List Int, ns.length ≤ 63 → F_law_k61 [.kls (ns.map D.int)] [] (fun d _ => d = .bl true) noE := by
  intro ns _
  unfold F_law_k61
  refine ⟨rfl, deck2_ok fun S dk => ?_⟩
  refine ⟨⟨rfl, dk.bel⟩, stateT_ok dk.take2.1 (by omega) (by decide) (by decide) (by decide) (by decide) fun wk rd bs st S2 R b1 hst n1 d2 l2 => ⟨dk.l2 l2, ?_⟩⟩
  replace d2 := dk.back d2
  generalize S2 ++ List.drop 2 S = S3 at d2 ⊢
  have ok : VnOk ⟨wk, rd, bs, st⟩ := ⟨R, hst⟩
  have l3 : S3.length = 2 := d2.len
  refine ⟨rfl, ?_⟩
  show p612 [some (.kls (ns.map D.int)), some (.cell 1), some (Vn.rv ⟨wk, rd, bs, st⟩), some (Vn.sv ⟨wk, rd, bs, st⟩), none, none, none, none, none] S3 _ noE
  unfold p612
  refine t_make ok ⟨rfl, ?_⟩
  have d3 := d2.snoc (newC ⟨wk, rd, bs, st⟩)
  rw [l3]
  have l4 : (S3 ++ [newC ⟨wk, rd, bs, st⟩]).length = 3 := d3.len
  generalize S3 ++ [newC ⟨wk, rd, bs, st⟩] = S4 at d3 l4 ⊢
  refine t_make ok ⟨rfl, ?_⟩
  have d4 := d3.snoc (newC ⟨wk, rd, bs, st⟩)
  rw [l4]
  have l5 : (S4 ++ [newC ⟨wk, rd, bs, st⟩]).length = 4 := d4.len
  show p613 [some (.kls (ns.map D.int)), some (.cell 1), some (Vn.rv ⟨wk, rd, bs, st⟩), some (Vn.sv ⟨wk, rd, bs, st⟩), some (.cell 2), some (.cell 3), none, none, none] (S4 ++ [newC ⟨wk, rd, bs, st⟩]) _ noE
  generalize S4 ++ [newC ⟨wk, rd, bs, st⟩] = S5 at d4 l5 ⊢
  unfold p613
  refine sh_make ⟨rfl, ?_⟩
  have d5 := d4.snoc (shC 2)
  rw [l5]
  show p614 (w61 (some (.kls (ns.map D.int))) ⟨wk, rd, bs, st⟩ none none) (S5 ++ [shC 2]) _ noE
  exact p614_ok ok d5 (by omega) fun S' => rfl
end Pu
namespace Pu
open PySem PySem.Spec PyProof.Rows L2
theorem all_mk {l : PySem.W.OpenLaw} {w : World} {K : PySem.W.Frag} {h : Heap} {mg : Str → Option Value} {fa : Addr} (X : K.In h) (G : h.Ns mainGlobals mg) (hfa : mg "law" = some (.ref fa))
    {C_BadStarts : Addr}
    (aC_BadStarts : PySem.W.nsIn K mainGlobals "BadStarts" = some (some (.ref C_BadStarts)))
    {C_TooManyPeople : Addr}
    (aC_TooManyPeople : PySem.W.nsIn K mainGlobals "TooManyPeople" = some (some (.ref C_TooManyPeople)))
    {C_TooLate : Addr}
    (aC_TooLate : PySem.W.nsIn K mainGlobals "TooLate" = some (some (.ref C_TooLate)))
    {C_BadRoad : Addr}
    (aC_BadRoad : PySem.W.nsIn K mainGlobals "BadRoad" = some (some (.ref C_BadRoad)))
    {C_Busy : Addr}
    (aC_Busy : PySem.W.nsIn K mainGlobals "Busy" = some (some (.ref C_Busy)))
    {C_TooManyEdits : Addr}
    (aC_TooManyEdits : PySem.W.nsIn K mainGlobals "TooManyEdits" = some (some (.ref C_TooManyEdits)))
    {C_BadStart : Addr}
    (aC_BadStart : PySem.W.nsIn K mainGlobals "BadStart" = some (some (.ref C_BadStart)))
    {C_LastPerson : Addr}
    (aC_LastPerson : PySem.W.nsIn K mainGlobals "LastPerson" = some (some (.ref C_LastPerson)))
    {C_BadCount : Addr}
    (aC_BadCount : PySem.W.nsIn K mainGlobals "BadCount" = some (some (.ref C_BadCount)))
    {C_TooMuch : Addr}
    (aC_TooMuch : PySem.W.nsIn K mainGlobals "TooMuch" = some (some (.ref C_TooMuch)))
    {C_TooFew : Addr}
    (aC_TooFew : PySem.W.nsIn K mainGlobals "TooFew" = some (some (.ref C_TooFew)))
    {C_NothingToUndo : Addr}
    (aC_NothingToUndo : PySem.W.nsIn K mainGlobals "NothingToUndo" = some (some (.ref C_NothingToUndo)))
    {C_BadEnd : Addr}
    (aC_BadEnd : PySem.W.nsIn K mainGlobals "BadEnd" = some (some (.ref C_BadEnd)))
    {C_NoPerson : Addr}
    (aC_NoPerson : PySem.W.nsIn K mainGlobals "NoPerson" = some (some (.ref C_NoPerson)))
    {C_NoStation : Addr}
    (aC_NoStation : PySem.W.nsIn K mainGlobals "NoStation" = some (some (.ref C_NoStation)))
    {C_Shell : Addr}
    (aC_Shell : PySem.W.nsIn K mainGlobals "Shell" = some (some (.ref C_Shell)))
    {C_Promise : Addr}
    (aC_Promise : PySem.W.nsIn K mainGlobals "Promise" = some (some (.ref C_Promise)))
    {C_Trip : Addr}
    (aC_Trip : PySem.W.nsIn K mainGlobals "Trip" = some (some (.ref C_Trip)))
    {C_PromisedTrip : Addr}
    (aC_PromisedTrip : PySem.W.nsIn K mainGlobals "PromisedTrip" = some (some (.ref C_PromisedTrip)))
    {f_is_number_from : Addr} {od_is_number_from an_is_number_from : Option Addr} {sl_is_number_from : Array (Option Value)} {oc_is_number_from kV_is_number_from dc_is_number_from pm_is_number_from cd_is_number_from ct_is_number_from : Value}
    (a_is_number_from : PySem.W.nsIn K mainGlobals "is_number_from" = some (some (.ref f_is_number_from)))
    (l_is_number_from : K.lookup f_is_number_from = some ⟨oc_is_number_from, od_is_number_from, .func (PySem.W.fnOf "is_number_from" "is_number_from" (defArgs s_is_number_from) (defBody s_is_number_from) (defScope s_is_number_from) .none kV_is_number_from dc_is_number_from pm_is_number_from an_is_number_from cd_is_number_from ct_is_number_from), sl_is_number_from⟩)
    (c_is_number_from : PySem.W.codeIn K cd_is_number_from "is_number_from" = true)
    (k_is_number_from : PySem.W.keepIn K (.ref f_is_number_from) = true)
    {f_is_starts : Addr} {od_is_starts an_is_starts : Option Addr} {sl_is_starts : Array (Option Value)} {oc_is_starts kV_is_starts dc_is_starts pm_is_starts cd_is_starts ct_is_starts : Value}
    (a_is_starts : PySem.W.nsIn K mainGlobals "is_starts" = some (some (.ref f_is_starts)))
    (l_is_starts : K.lookup f_is_starts = some ⟨oc_is_starts, od_is_starts, .func (PySem.W.fnOf "is_starts" "is_starts" (defArgs s_is_starts) (defBody s_is_starts) (defScope s_is_starts) .none kV_is_starts dc_is_starts pm_is_starts an_is_starts cd_is_starts ct_is_starts), sl_is_starts⟩)
    (c_is_starts : PySem.W.codeIn K cd_is_starts "is_starts" = true)
    (k_is_starts : PySem.W.keepIn K (.ref f_is_starts) = true)
    {f_road_error : Addr} {od_road_error an_road_error : Option Addr} {sl_road_error : Array (Option Value)} {oc_road_error kV_road_error dc_road_error pm_road_error cd_road_error ct_road_error : Value}
    (a_road_error : PySem.W.nsIn K mainGlobals "road_error" = some (some (.ref f_road_error)))
    (l_road_error : K.lookup f_road_error = some ⟨oc_road_error, od_road_error, .func (PySem.W.fnOf "road_error" "road_error" (defArgs s_road_error) (defBody s_road_error) (defScope s_road_error) .none kV_road_error dc_road_error pm_road_error an_road_error cd_road_error ct_road_error), sl_road_error⟩)
    (c_road_error : PySem.W.codeIn K cd_road_error "road_error" = true)
    (k_road_error : PySem.W.keepIn K (.ref f_road_error) = true)
    {f_counts_of : Addr} {od_counts_of an_counts_of : Option Addr} {sl_counts_of : Array (Option Value)} {oc_counts_of kV_counts_of dc_counts_of pm_counts_of cd_counts_of ct_counts_of : Value}
    (a_counts_of : PySem.W.nsIn K mainGlobals "counts_of" = some (some (.ref f_counts_of)))
    (l_counts_of : K.lookup f_counts_of = some ⟨oc_counts_of, od_counts_of, .func (PySem.W.fnOf "counts_of" "counts_of" (defArgs s_counts_of) (defBody s_counts_of) (defScope s_counts_of) .none kV_counts_of dc_counts_of pm_counts_of an_counts_of cd_counts_of ct_counts_of), sl_counts_of⟩)
    (c_counts_of : PySem.W.codeIn K cd_counts_of "counts_of" = true)
    (k_counts_of : PySem.W.keepIn K (.ref f_counts_of) = true)
    {f_is_edit : Addr} {od_is_edit an_is_edit : Option Addr} {sl_is_edit : Array (Option Value)} {oc_is_edit kV_is_edit dc_is_edit pm_is_edit cd_is_edit ct_is_edit : Value}
    (a_is_edit : PySem.W.nsIn K mainGlobals "is_edit" = some (some (.ref f_is_edit)))
    (l_is_edit : K.lookup f_is_edit = some ⟨oc_is_edit, od_is_edit, .func (PySem.W.fnOf "is_edit" "is_edit" (defArgs s_is_edit) (defBody s_is_edit) (defScope s_is_edit) .none kV_is_edit dc_is_edit pm_is_edit an_is_edit cd_is_edit ct_is_edit), sl_is_edit⟩)
    (c_is_edit : PySem.W.codeIn K cd_is_edit "is_edit" = true)
    (k_is_edit : PySem.W.keepIn K (.ref f_is_edit) = true)
    {f_ticks_of : Addr} {od_ticks_of an_ticks_of : Option Addr} {sl_ticks_of : Array (Option Value)} {oc_ticks_of kV_ticks_of dc_ticks_of pm_ticks_of cd_ticks_of ct_ticks_of : Value}
    (a_ticks_of : PySem.W.nsIn K mainGlobals "ticks_of" = some (some (.ref f_ticks_of)))
    (l_ticks_of : K.lookup f_ticks_of = some ⟨oc_ticks_of, od_ticks_of, .func (PySem.W.fnOf "ticks_of" "ticks_of" (defArgs s_ticks_of) (defBody s_ticks_of) (defScope s_ticks_of) .none kV_ticks_of dc_ticks_of pm_ticks_of an_ticks_of cd_ticks_of ct_ticks_of), sl_ticks_of⟩)
    (c_ticks_of : PySem.W.codeIn K cd_ticks_of "ticks_of" = true)
    (k_ticks_of : PySem.W.keepIn K (.ref f_ticks_of) = true)
    {f_bike_ticks : Addr} {od_bike_ticks an_bike_ticks : Option Addr} {sl_bike_ticks : Array (Option Value)} {oc_bike_ticks kV_bike_ticks dc_bike_ticks pm_bike_ticks cd_bike_ticks ct_bike_ticks : Value}
    (a_bike_ticks : PySem.W.nsIn K mainGlobals "bike_ticks" = some (some (.ref f_bike_ticks)))
    (l_bike_ticks : K.lookup f_bike_ticks = some ⟨oc_bike_ticks, od_bike_ticks, .func (PySem.W.fnOf "bike_ticks" "bike_ticks" (defArgs s_bike_ticks) (defBody s_bike_ticks) (defScope s_bike_ticks) .none kV_bike_ticks dc_bike_ticks pm_bike_ticks an_bike_ticks cd_bike_ticks ct_bike_ticks), sl_bike_ticks⟩)
    (c_bike_ticks : PySem.W.codeIn K cd_bike_ticks "bike_ticks" = true)
    (k_bike_ticks : PySem.W.keepIn K (.ref f_bike_ticks) = true)
    {f_leaving_ticks : Addr} {od_leaving_ticks an_leaving_ticks : Option Addr} {sl_leaving_ticks : Array (Option Value)} {oc_leaving_ticks kV_leaving_ticks dc_leaving_ticks pm_leaving_ticks cd_leaving_ticks ct_leaving_ticks : Value}
    (a_leaving_ticks : PySem.W.nsIn K mainGlobals "leaving_ticks" = some (some (.ref f_leaving_ticks)))
    (l_leaving_ticks : K.lookup f_leaving_ticks = some ⟨oc_leaving_ticks, od_leaving_ticks, .func (PySem.W.fnOf "leaving_ticks" "leaving_ticks" (defArgs s_leaving_ticks) (defBody s_leaving_ticks) (defScope s_leaving_ticks) .none kV_leaving_ticks dc_leaving_ticks pm_leaving_ticks an_leaving_ticks cd_leaving_ticks ct_leaving_ticks), sl_leaving_ticks⟩)
    (c_leaving_ticks : PySem.W.codeIn K cd_leaving_ticks "leaving_ticks" = true)
    (k_leaving_ticks : PySem.W.keepIn K (.ref f_leaving_ticks) = true)
    {f_finish_of : Addr} {od_finish_of an_finish_of : Option Addr} {sl_finish_of : Array (Option Value)} {oc_finish_of kV_finish_of dc_finish_of pm_finish_of cd_finish_of ct_finish_of : Value}
    (a_finish_of : PySem.W.nsIn K mainGlobals "finish_of" = some (some (.ref f_finish_of)))
    (l_finish_of : K.lookup f_finish_of = some ⟨oc_finish_of, od_finish_of, .func (PySem.W.fnOf "finish_of" "finish_of" (defArgs s_finish_of) (defBody s_finish_of) (defScope s_finish_of) .none kV_finish_of dc_finish_of pm_finish_of an_finish_of cd_finish_of ct_finish_of), sl_finish_of⟩)
    (c_finish_of : PySem.W.codeIn K cd_finish_of "finish_of" = true)
    (k_finish_of : PySem.W.keepIn K (.ref f_finish_of) = true)
    {f_rule_plan : Addr} {od_rule_plan an_rule_plan : Option Addr} {sl_rule_plan : Array (Option Value)} {oc_rule_plan kV_rule_plan dc_rule_plan pm_rule_plan cd_rule_plan ct_rule_plan : Value}
    (a_rule_plan : PySem.W.nsIn K mainGlobals "rule_plan" = some (some (.ref f_rule_plan)))
    (l_rule_plan : K.lookup f_rule_plan = some ⟨oc_rule_plan, od_rule_plan, .func (PySem.W.fnOf "rule_plan" "rule_plan" (defArgs s_rule_plan) (defBody s_rule_plan) (defScope s_rule_plan) .none kV_rule_plan dc_rule_plan pm_rule_plan an_rule_plan cd_rule_plan ct_rule_plan), sl_rule_plan⟩)
    (c_rule_plan : PySem.W.codeIn K cd_rule_plan "rule_plan" = true)
    (k_rule_plan : PySem.W.keepIn K (.ref f_rule_plan) = true)
    {f_greatest : Addr} {od_greatest an_greatest : Option Addr} {sl_greatest : Array (Option Value)} {oc_greatest kV_greatest dc_greatest pm_greatest cd_greatest ct_greatest : Value}
    (a_greatest : PySem.W.nsIn K mainGlobals "greatest" = some (some (.ref f_greatest)))
    (l_greatest : K.lookup f_greatest = some ⟨oc_greatest, od_greatest, .func (PySem.W.fnOf "greatest" "greatest" (defArgs s_greatest) (defBody s_greatest) (defScope s_greatest) .none kV_greatest dc_greatest pm_greatest an_greatest cd_greatest ct_greatest), sl_greatest⟩)
    (c_greatest : PySem.W.codeIn K cd_greatest "greatest" = true)
    (k_greatest : PySem.W.keepIn K (.ref f_greatest) = true)
    {f_least_finish : Addr} {od_least_finish an_least_finish : Option Addr} {sl_least_finish : Array (Option Value)} {oc_least_finish kV_least_finish dc_least_finish pm_least_finish cd_least_finish ct_least_finish : Value}
    (a_least_finish : PySem.W.nsIn K mainGlobals "least_finish" = some (some (.ref f_least_finish)))
    (l_least_finish : K.lookup f_least_finish = some ⟨oc_least_finish, od_least_finish, .func (PySem.W.fnOf "least_finish" "least_finish" (defArgs s_least_finish) (defBody s_least_finish) (defScope s_least_finish) .none kV_least_finish dc_least_finish pm_least_finish an_least_finish cd_least_finish ct_least_finish), sl_least_finish⟩)
    (c_least_finish : PySem.W.codeIn K cd_least_finish "least_finish" = true)
    (k_least_finish : PySem.W.keepIn K (.ref f_least_finish) = true)
    {f_number_in : Addr} {od_number_in an_number_in : Option Addr} {sl_number_in : Array (Option Value)} {oc_number_in kV_number_in dc_number_in pm_number_in cd_number_in ct_number_in : Value}
    (a_number_in : PySem.W.nsIn K mainGlobals "number_in" = some (some (.ref f_number_in)))
    (l_number_in : K.lookup f_number_in = some ⟨oc_number_in, od_number_in, .func (PySem.W.fnOf "number_in" "number_in" (defArgs s_number_in) (defBody s_number_in) (defScope s_number_in) .none kV_number_in dc_number_in pm_number_in an_number_in cd_number_in ct_number_in), sl_number_in⟩)
    (c_number_in : PySem.W.codeIn K cd_number_in "number_in" = true)
    (k_number_in : PySem.W.keepIn K (.ref f_number_in) = true)
    {f_command_in : Addr} {od_command_in an_command_in : Option Addr} {sl_command_in : Array (Option Value)} {oc_command_in kV_command_in dc_command_in pm_command_in cd_command_in ct_command_in : Value}
    (a_command_in : PySem.W.nsIn K mainGlobals "command_in" = some (some (.ref f_command_in)))
    (l_command_in : K.lookup f_command_in = some ⟨oc_command_in, od_command_in, .func (PySem.W.fnOf "command_in" "command_in" (defArgs s_command_in) (defBody s_command_in) (defScope s_command_in) .none kV_command_in dc_command_in pm_command_in an_command_in cd_command_in ct_command_in), sl_command_in⟩)
    (c_command_in : PySem.W.codeIn K cd_command_in "command_in" = true)
    (k_command_in : PySem.W.keepIn K (.ref f_command_in) = true)
    {f__law_deck : Addr} {od__law_deck an__law_deck : Option Addr} {sl__law_deck : Array (Option Value)} {oc__law_deck kV__law_deck dc__law_deck pm__law_deck cd__law_deck ct__law_deck : Value}
    (a__law_deck : PySem.W.nsIn K mainGlobals "_law_deck" = some (some (.ref f__law_deck)))
    (l__law_deck : K.lookup f__law_deck = some ⟨oc__law_deck, od__law_deck, .func (PySem.W.fnOf "_law_deck" "_law_deck" (defArgs s__law_deck) (defBody s__law_deck) (defScope s__law_deck) .none kV__law_deck dc__law_deck pm__law_deck an__law_deck cd__law_deck ct__law_deck), sl__law_deck⟩)
    (c__law_deck : PySem.W.codeIn K cd__law_deck "_law_deck" = true)
    (k__law_deck : PySem.W.keepIn K (.ref f__law_deck) = true)
    {f__law_draw : Addr} {od__law_draw an__law_draw : Option Addr} {sl__law_draw : Array (Option Value)} {oc__law_draw kV__law_draw dc__law_draw pm__law_draw cd__law_draw ct__law_draw : Value}
    (a__law_draw : PySem.W.nsIn K mainGlobals "_law_draw" = some (some (.ref f__law_draw)))
    (l__law_draw : K.lookup f__law_draw = some ⟨oc__law_draw, od__law_draw, .func (PySem.W.fnOf "_law_draw" "_law_draw" (defArgs s__law_draw) (defBody s__law_draw) (defScope s__law_draw) .none kV__law_draw dc__law_draw pm__law_draw an__law_draw cd__law_draw ct__law_draw), sl__law_draw⟩)
    (c__law_draw : PySem.W.codeIn K cd__law_draw "_law_draw" = true)
    (k__law_draw : PySem.W.keepIn K (.ref f__law_draw) = true)
    {f__law_state : Addr} {od__law_state an__law_state : Option Addr} {sl__law_state : Array (Option Value)} {oc__law_state kV__law_state dc__law_state pm__law_state cd__law_state ct__law_state : Value}
    (a__law_state : PySem.W.nsIn K mainGlobals "_law_state" = some (some (.ref f__law_state)))
    (l__law_state : K.lookup f__law_state = some ⟨oc__law_state, od__law_state, .func (PySem.W.fnOf "_law_state" "_law_state" (defArgs s__law_state) (defBody s__law_state) (defScope s__law_state) .none kV__law_state dc__law_state pm__law_state an__law_state cd__law_state ct__law_state), sl__law_state⟩)
    (c__law_state : PySem.W.codeIn K cd__law_state "_law_state" = true)
    (k__law_state : PySem.W.keepIn K (.ref f__law_state) = true)
    {f__law_odd : Addr} {od__law_odd an__law_odd : Option Addr} {sl__law_odd : Array (Option Value)} {oc__law_odd kV__law_odd dc__law_odd pm__law_odd cd__law_odd ct__law_odd : Value}
    (a__law_odd : PySem.W.nsIn K mainGlobals "_law_odd" = some (some (.ref f__law_odd)))
    (l__law_odd : K.lookup f__law_odd = some ⟨oc__law_odd, od__law_odd, .func (PySem.W.fnOf "_law_odd" "_law_odd" (defArgs s__law_odd) (defBody s__law_odd) (defScope s__law_odd) .none kV__law_odd dc__law_odd pm__law_odd an__law_odd cd__law_odd ct__law_odd), sl__law_odd⟩)
    (c__law_odd : PySem.W.codeIn K cd__law_odd "_law_odd" = true)
    (k__law_odd : PySem.W.keepIn K (.ref f__law_odd) = true)
    {f__law_lines : Addr} {od__law_lines an__law_lines : Option Addr} {sl__law_lines : Array (Option Value)} {oc__law_lines kV__law_lines dc__law_lines pm__law_lines cd__law_lines ct__law_lines : Value}
    (a__law_lines : PySem.W.nsIn K mainGlobals "_law_lines" = some (some (.ref f__law_lines)))
    (l__law_lines : K.lookup f__law_lines = some ⟨oc__law_lines, od__law_lines, .func (PySem.W.fnOf "_law_lines" "_law_lines" (defArgs s__law_lines) (defBody s__law_lines) (defScope s__law_lines) .none kV__law_lines dc__law_lines pm__law_lines an__law_lines cd__law_lines ct__law_lines), sl__law_lines⟩)
    (c__law_lines : PySem.W.codeIn K cd__law_lines "_law_lines" = true)
    (k__law_lines : PySem.W.keepIn K (.ref f__law_lines) = true)
    {f_Shell___init__ : Addr} {od_Shell___init__ an_Shell___init__ : Option Addr} {sl_Shell___init__ : Array (Option Value)} {oc_Shell___init__ kV_Shell___init__ dc_Shell___init__ pm_Shell___init__ cd_Shell___init__ ct_Shell___init__ : Value}
    (w_Shell___init__ : PySem.W.findIn K (.ref C_Shell) "__init__" = some (some (.ref f_Shell___init__)))
    (l_Shell___init__ : K.lookup f_Shell___init__ = some ⟨oc_Shell___init__, od_Shell___init__, .func (PySem.W.fnOf "__init__" "Shell.__init__" (defArgs s_Shell___init__) (defBody s_Shell___init__) (defScope s_Shell___init__) .none kV_Shell___init__ dc_Shell___init__ pm_Shell___init__ an_Shell___init__ cd_Shell___init__ ct_Shell___init__), sl_Shell___init__⟩)
    (c_Shell___init__ : PySem.W.codeIn K cd_Shell___init__ "Shell.__init__" = true)
    (k_Shell___init__ : PySem.W.keepIn K (.ref f_Shell___init__) = true)
    {f_Shell_execute : Addr} {od_Shell_execute an_Shell_execute : Option Addr} {sl_Shell_execute : Array (Option Value)} {oc_Shell_execute kV_Shell_execute dc_Shell_execute pm_Shell_execute cd_Shell_execute ct_Shell_execute : Value}
    (w_Shell_execute : PySem.W.findIn K (.ref C_Shell) "execute" = some (some (.ref f_Shell_execute)))
    (l_Shell_execute : K.lookup f_Shell_execute = some ⟨oc_Shell_execute, od_Shell_execute, .func (PySem.W.fnOf "execute" "Shell.execute" (defArgs s_Shell_execute) (defBody s_Shell_execute) (defScope s_Shell_execute) .none kV_Shell_execute dc_Shell_execute pm_Shell_execute an_Shell_execute cd_Shell_execute ct_Shell_execute), sl_Shell_execute⟩)
    (c_Shell_execute : PySem.W.codeIn K cd_Shell_execute "Shell.execute" = true)
    (k_Shell_execute : PySem.W.keepIn K (.ref f_Shell_execute) = true)
    {f_Shell_answer : Addr} {od_Shell_answer an_Shell_answer : Option Addr} {sl_Shell_answer : Array (Option Value)} {oc_Shell_answer kV_Shell_answer dc_Shell_answer pm_Shell_answer cd_Shell_answer ct_Shell_answer : Value}
    (w_Shell_answer : PySem.W.findIn K (.ref C_Shell) "answer" = some (some (.ref f_Shell_answer)))
    (l_Shell_answer : K.lookup f_Shell_answer = some ⟨oc_Shell_answer, od_Shell_answer, .func (PySem.W.fnOf "answer" "Shell.answer" (defArgs s_Shell_answer) (defBody s_Shell_answer) (defScope s_Shell_answer) .none kV_Shell_answer dc_Shell_answer pm_Shell_answer an_Shell_answer cd_Shell_answer ct_Shell_answer), sl_Shell_answer⟩)
    (c_Shell_answer : PySem.W.codeIn K cd_Shell_answer "Shell.answer" = true)
    (k_Shell_answer : PySem.W.keepIn K (.ref f_Shell_answer) = true)
    {f_Promise_latest : Addr} {od_Promise_latest an_Promise_latest : Option Addr} {sl_Promise_latest : Array (Option Value)} {oc_Promise_latest kV_Promise_latest dc_Promise_latest pm_Promise_latest cd_Promise_latest ct_Promise_latest : Value}
    {p_Promise_latest : Addr} {r_Promise_latest : List Value}
    (w_Promise_latest : PySem.W.findIn K (.ref C_PromisedTrip) "latest" = some (some (.ref p_Promise_latest)))
    (rc_Promise_latest : PySem.W.recIn K p_Promise_latest "property" = some (.ref f_Promise_latest :: r_Promise_latest))
    (l_Promise_latest : K.lookup f_Promise_latest = some ⟨oc_Promise_latest, od_Promise_latest, .func (PySem.W.fnOf "latest" "Promise.latest" (defArgs s_Promise_latest) (defBody s_Promise_latest) (defScope s_Promise_latest) .none kV_Promise_latest dc_Promise_latest pm_Promise_latest an_Promise_latest cd_Promise_latest ct_Promise_latest), sl_Promise_latest⟩)
    (c_Promise_latest : PySem.W.codeIn K cd_Promise_latest "Promise.latest" = true)
    (k_Promise_latest : PySem.W.keepIn K (.ref f_Promise_latest) = true)
    {f_Trip___init__ : Addr} {od_Trip___init__ an_Trip___init__ : Option Addr} {sl_Trip___init__ : Array (Option Value)} {oc_Trip___init__ kV_Trip___init__ dc_Trip___init__ pm_Trip___init__ cd_Trip___init__ ct_Trip___init__ : Value}
    (w_Trip___init__ : PySem.W.findIn K (.ref C_Trip) "__init__" = some (some (.ref f_Trip___init__)))
    (l_Trip___init__ : K.lookup f_Trip___init__ = some ⟨oc_Trip___init__, od_Trip___init__, .func (PySem.W.fnOf "__init__" "Trip.__init__" (defArgs s_Trip___init__) (defBody s_Trip___init__) (defScope s_Trip___init__) .none kV_Trip___init__ dc_Trip___init__ pm_Trip___init__ an_Trip___init__ cd_Trip___init__ ct_Trip___init__), sl_Trip___init__⟩)
    (c_Trip___init__ : PySem.W.codeIn K cd_Trip___init__ "Trip.__init__" = true)
    (k_Trip___init__ : PySem.W.keepIn K (.ref f_Trip___init__) = true)
    {f_Trip_road : Addr} {od_Trip_road an_Trip_road : Option Addr} {sl_Trip_road : Array (Option Value)} {oc_Trip_road kV_Trip_road dc_Trip_road pm_Trip_road cd_Trip_road ct_Trip_road : Value}
    {p_Trip_road : Addr} {r_Trip_road : List Value}
    (w_Trip_road : PySem.W.findIn K (.ref C_PromisedTrip) "road" = some (some (.ref p_Trip_road)))
    (rc_Trip_road : PySem.W.recIn K p_Trip_road "property" = some (.ref f_Trip_road :: r_Trip_road))
    (l_Trip_road : K.lookup f_Trip_road = some ⟨oc_Trip_road, od_Trip_road, .func (PySem.W.fnOf "road" "Trip.road" (defArgs s_Trip_road) (defBody s_Trip_road) (defScope s_Trip_road) .none kV_Trip_road dc_Trip_road pm_Trip_road an_Trip_road cd_Trip_road ct_Trip_road), sl_Trip_road⟩)
    (c_Trip_road : PySem.W.codeIn K cd_Trip_road "Trip.road" = true)
    (k_Trip_road : PySem.W.keepIn K (.ref f_Trip_road) = true)
    {f_Trip_starts : Addr} {od_Trip_starts an_Trip_starts : Option Addr} {sl_Trip_starts : Array (Option Value)} {oc_Trip_starts kV_Trip_starts dc_Trip_starts pm_Trip_starts cd_Trip_starts ct_Trip_starts : Value}
    {p_Trip_starts : Addr} {r_Trip_starts : List Value}
    (w_Trip_starts : PySem.W.findIn K (.ref C_PromisedTrip) "starts" = some (some (.ref p_Trip_starts)))
    (rc_Trip_starts : PySem.W.recIn K p_Trip_starts "property" = some (.ref f_Trip_starts :: r_Trip_starts))
    (l_Trip_starts : K.lookup f_Trip_starts = some ⟨oc_Trip_starts, od_Trip_starts, .func (PySem.W.fnOf "starts" "Trip.starts" (defArgs s_Trip_starts) (defBody s_Trip_starts) (defScope s_Trip_starts) .none kV_Trip_starts dc_Trip_starts pm_Trip_starts an_Trip_starts cd_Trip_starts ct_Trip_starts), sl_Trip_starts⟩)
    (c_Trip_starts : PySem.W.codeIn K cd_Trip_starts "Trip.starts" = true)
    (k_Trip_starts : PySem.W.keepIn K (.ref f_Trip_starts) = true)
    {f_Trip___len__ : Addr} {od_Trip___len__ an_Trip___len__ : Option Addr} {sl_Trip___len__ : Array (Option Value)} {oc_Trip___len__ kV_Trip___len__ dc_Trip___len__ pm_Trip___len__ cd_Trip___len__ ct_Trip___len__ : Value}
    (w_Trip___len__ : PySem.W.findIn K (.ref C_PromisedTrip) "__len__" = some (some (.ref f_Trip___len__)))
    (l_Trip___len__ : K.lookup f_Trip___len__ = some ⟨oc_Trip___len__, od_Trip___len__, .func (PySem.W.fnOf "__len__" "Trip.__len__" (defArgs s_Trip___len__) (defBody s_Trip___len__) (defScope s_Trip___len__) .none kV_Trip___len__ dc_Trip___len__ pm_Trip___len__ an_Trip___len__ cd_Trip___len__ ct_Trip___len__), sl_Trip___len__⟩)
    (c_Trip___len__ : PySem.W.codeIn K cd_Trip___len__ "Trip.__len__" = true)
    (k_Trip___len__ : PySem.W.keepIn K (.ref f_Trip___len__) = true)
    {f_Trip___eq__ : Addr} {od_Trip___eq__ an_Trip___eq__ : Option Addr} {sl_Trip___eq__ : Array (Option Value)} {oc_Trip___eq__ kV_Trip___eq__ dc_Trip___eq__ pm_Trip___eq__ cd_Trip___eq__ ct_Trip___eq__ : Value}
    (w_Trip___eq__ : PySem.W.findIn K (.ref C_Trip) "__eq__" = some (some (.ref f_Trip___eq__)))
    (l_Trip___eq__ : K.lookup f_Trip___eq__ = some ⟨oc_Trip___eq__, od_Trip___eq__, .func (PySem.W.fnOf "__eq__" "Trip.__eq__" (defArgs s_Trip___eq__) (defBody s_Trip___eq__) (defScope s_Trip___eq__) .none kV_Trip___eq__ dc_Trip___eq__ pm_Trip___eq__ an_Trip___eq__ cd_Trip___eq__ ct_Trip___eq__), sl_Trip___eq__⟩)
    (c_Trip___eq__ : PySem.W.codeIn K cd_Trip___eq__ "Trip.__eq__" = true)
    (k_Trip___eq__ : PySem.W.keepIn K (.ref f_Trip___eq__) = true)
    {f_Trip_goes_like : Addr} {od_Trip_goes_like an_Trip_goes_like : Option Addr} {sl_Trip_goes_like : Array (Option Value)} {oc_Trip_goes_like kV_Trip_goes_like dc_Trip_goes_like pm_Trip_goes_like cd_Trip_goes_like ct_Trip_goes_like : Value}
    (w_Trip_goes_like : PySem.W.findIn K (.ref C_PromisedTrip) "goes_like" = some (some (.ref f_Trip_goes_like)))
    (l_Trip_goes_like : K.lookup f_Trip_goes_like = some ⟨oc_Trip_goes_like, od_Trip_goes_like, .func (PySem.W.fnOf "goes_like" "Trip.goes_like" (defArgs s_Trip_goes_like) (defBody s_Trip_goes_like) (defScope s_Trip_goes_like) .none kV_Trip_goes_like dc_Trip_goes_like pm_Trip_goes_like an_Trip_goes_like cd_Trip_goes_like ct_Trip_goes_like), sl_Trip_goes_like⟩)
    (c_Trip_goes_like : PySem.W.codeIn K cd_Trip_goes_like "Trip.goes_like" = true)
    (k_Trip_goes_like : PySem.W.keepIn K (.ref f_Trip_goes_like) = true)
    {f_PromisedTrip___eq__ : Addr} {od_PromisedTrip___eq__ an_PromisedTrip___eq__ : Option Addr} {sl_PromisedTrip___eq__ : Array (Option Value)} {oc_PromisedTrip___eq__ kV_PromisedTrip___eq__ dc_PromisedTrip___eq__ pm_PromisedTrip___eq__ cd_PromisedTrip___eq__ ct_PromisedTrip___eq__ : Value}
    (w_PromisedTrip___eq__ : PySem.W.findIn K (.ref C_PromisedTrip) "__eq__" = some (some (.ref f_PromisedTrip___eq__)))
    (l_PromisedTrip___eq__ : K.lookup f_PromisedTrip___eq__ = some ⟨oc_PromisedTrip___eq__, od_PromisedTrip___eq__, .func (PySem.W.fnOf "__eq__" "PromisedTrip.__eq__" (defArgs s_PromisedTrip___eq__) (defBody s_PromisedTrip___eq__) (defScope s_PromisedTrip___eq__) .none kV_PromisedTrip___eq__ dc_PromisedTrip___eq__ pm_PromisedTrip___eq__ an_PromisedTrip___eq__ cd_PromisedTrip___eq__ ct_PromisedTrip___eq__), sl_PromisedTrip___eq__⟩)
    (c_PromisedTrip___eq__ : PySem.W.codeIn K cd_PromisedTrip___eq__ "PromisedTrip.__eq__" = true)
    (k_PromisedTrip___eq__ : PySem.W.keepIn K (.ref f_PromisedTrip___eq__) = true)
    {f_law : Addr} {od_law an_law : Option Addr} {sl_law : Array (Option Value)} {oc_law kV_law dc_law pm_law cd_law ct_law : Value}
    (a_law : PySem.W.nsIn K mainGlobals "law" = some (some (.ref f_law)))
    (l_law : K.lookup f_law = some ⟨oc_law, od_law, .func (PySem.W.fnOf "law" "law" (defArgs s_law) (defBody s_law) (defScope s_law) .none kV_law dc_law pm_law an_law cd_law ct_law), sl_law⟩)
    (c_law : PySem.W.codeIn K cd_law "law" = true)
    (k_law : PySem.W.keepIn K (.ref f_law) = true)
    (pg_Shell : PySem.W.plainGet K C_Shell Str.empty = true)
    (hd_Shell : PySem.W.hasDictIn K C_Shell = true)
    (po_Shell : PySem.W.plainOver K C_Shell = true)
    (sa_Shell : PySem.W.findIn K (.ref C_Shell) "__setattr__" = some (some (.builtin "object.__setattr__")))
    (pg_Promise : PySem.W.plainGet K C_Promise Str.empty = true)
    (hd_Promise : PySem.W.hasDictIn K C_Promise = true)
    (po_Promise : PySem.W.plainOver K C_Promise = true)
    (sa_Promise : PySem.W.findIn K (.ref C_Promise) "__setattr__" = some (some (.builtin "object.__setattr__")))
    (pg_Trip : PySem.W.plainGet K C_Trip Str.empty = true)
    (hd_Trip : PySem.W.hasDictIn K C_Trip = true)
    (po_Trip : PySem.W.plainOver K C_Trip = true)
    (sa_Trip : PySem.W.findIn K (.ref C_Trip) "__setattr__" = some (some (.builtin "object.__setattr__")))
    (pg_PromisedTrip : PySem.W.plainGet K C_PromisedTrip Str.empty = true)
    (hd_PromisedTrip : PySem.W.hasDictIn K C_PromisedTrip = true)
    (po_PromisedTrip : PySem.W.plainOver K C_PromisedTrip = true)
    (sa_PromisedTrip : PySem.W.findIn K (.ref C_PromisedTrip) "__setattr__" = some (some (.builtin "object.__setattr__")))
    (na_Promise_promised : PySem.W.findIn K (.ref C_Promise) "promised" = some none)
    (na_PromisedTrip_done : PySem.W.findIn K (.ref C_PromisedTrip) "done" = some none)
    (na_PromisedTrip_promised : PySem.W.findIn K (.ref C_PromisedTrip) "promised" = some none)
    (na_PromisedTrip_versions : PySem.W.findIn K (.ref C_PromisedTrip) "versions" = some none)
    (na_PromisedTrip_watched : PySem.W.findIn K (.ref C_PromisedTrip) "watched" = some none)
    (na_Shell_trip : PySem.W.findIn K (.ref C_Shell) "trip" = some none)
    (na_Trip_done : PySem.W.findIn K (.ref C_Trip) "done" = some none)
    (na_Trip_versions : PySem.W.findIn K (.ref C_Trip) "versions" = some none)
    (na_Trip_watched : PySem.W.findIn K (.ref C_Trip) "watched" = some none)
    (mm_Shell : PySem.W.makesIn K C_Shell = true)
    (mi_Shell : PySem.W.findIn K (.ref C_Shell) "__init__" = some (some (.ref f_Shell___init__)))
    (mf_Shell : PySem.W.isFn K (.ref f_Shell___init__) = true)
    (mk_Shell : PySem.W.keepIn K (.ref C_Shell) = true)
    (mm_Trip : PySem.W.makesIn K C_Trip = true)
    (mi_Trip : PySem.W.findIn K (.ref C_Trip) "__init__" = some (some (.ref f_Trip___init__)))
    (mf_Trip : PySem.W.isFn K (.ref f_Trip___init__) = true)
    (mk_Trip : PySem.W.keepIn K (.ref C_Trip) = true)
    (ma_PromisedTrip_goes_like : PySem.W.findIn K (.ref C_PromisedTrip) "goes_like" = some (some (.ref f_Trip_goes_like)))
    (mn_PromisedTrip_goes_like : PySem.W.isFn K (.ref f_Trip_goes_like) = true)
    (ma_Shell_answer : PySem.W.findIn K (.ref C_Shell) "answer" = some (some (.ref f_Shell_answer)))
    (mn_Shell_answer : PySem.W.isFn K (.ref f_Shell_answer) = true)
    (ma_Shell_execute : PySem.W.findIn K (.ref C_Shell) "execute" = some (some (.ref f_Shell_execute)))
    (mn_Shell_execute : PySem.W.isFn K (.ref f_Shell_execute) = true)
    (ma_Trip_goes_like : PySem.W.findIn K (.ref C_Trip) "goes_like" = some (some (.ref f_Trip_goes_like)))
    (mn_Trip_goes_like : PySem.W.isFn K (.ref f_Trip_goes_like) = true)
    (pa_PromisedTrip_latest : PySem.W.findIn K (.ref C_PromisedTrip) "latest" = some (some (.ref p_Promise_latest)))
    (pa_PromisedTrip_road : PySem.W.findIn K (.ref C_PromisedTrip) "road" = some (some (.ref p_Trip_road)))
    (pa_PromisedTrip_starts : PySem.W.findIn K (.ref C_PromisedTrip) "starts" = some (some (.ref p_Trip_starts)))
    (pa_Trip_road : PySem.W.findIn K (.ref C_Trip) "road" = some (some (.ref p_Trip_road)))
    (pa_Trip_starts : PySem.W.findIn K (.ref C_Trip) "starts" = some (some (.ref p_Trip_starts)))
    (pg2_Promise_latest : PySem.W.specialIn K (.ref p_Promise_latest) "__get__" = some (some (.builtin "property.__get__")))
    (pt_Promise_latest : PySem.W.takesIn K (.ref p_Promise_latest) = some true)
    (pg2_Trip_road : PySem.W.specialIn K (.ref p_Trip_road) "__get__" = some (some (.builtin "property.__get__")))
    (pt_Trip_road : PySem.W.takesIn K (.ref p_Trip_road) = some true)
    (pg2_Trip_starts : PySem.W.specialIn K (.ref p_Trip_starts) "__get__" = some (some (.builtin "property.__get__")))
    (pt_Trip_starts : PySem.W.takesIn K (.ref p_Trip_starts) = some true)
    (ln_PromisedTrip : PySem.W.findIn K (.ref C_PromisedTrip) "__len__" = some (some (.ref f_Trip___len__)))
    (lnf_PromisedTrip : PySem.W.isFn K (.ref f_Trip___len__) = true)
    (ln_Trip : PySem.W.findIn K (.ref C_Trip) "__len__" = some (some (.ref f_Trip___len__)))
    (lnf_Trip : PySem.W.isFn K (.ref f_Trip___len__) = true)
    (oa_PromisedTrip_eq : PySem.W.findIn K (.ref C_PromisedTrip) "__eq__" = some (some (.ref f_PromisedTrip___eq__)))
    (ob_PromisedTrip_eq : PySem.W.isFn K (.ref f_PromisedTrip___eq__) = true)
    (oc_PromisedTrip_eq : PySem.W.fnIn K f_PromisedTrip___eq__ = true)
    (od_PromisedTrip_eq : PySem.W.selfFirst K C_PromisedTrip = true)
    (oa_Trip_eq : PySem.W.findIn K (.ref C_Trip) "__eq__" = some (some (.ref f_Trip___eq__)))
    (ob_Trip_eq : PySem.W.isFn K (.ref f_Trip___eq__) = true)
    (oc_Trip_eq : PySem.W.fnIn K f_Trip___eq__ = true)
    (od_Trip_eq : PySem.W.selfFirst K C_Trip = true)
    (cgE : PySem.W.specialIn K (.builtin "object.__class__") "__get__" = some (some (.builtin "getset_descriptor.__get__")))
    (ctE : PySem.W.takesIn K (.builtin "object.__class__") = some true)
    (ic_PromisedTrip : PySem.W.findIn K (.ref C_PromisedTrip) "__class__" = some (some (.builtin "object.__class__")))
    (io_PromisedTrip : PySem.W.mroIn K C_PromisedTrip (.type "object") = some true)
    (ic_Trip : PySem.W.findIn K (.ref C_Trip) "__class__" = some (some (.builtin "object.__class__")))
    (io_Trip : PySem.W.mroIn K C_Trip (.type "object") = some true)
    (kc_PromisedTrip_PromisedTrip : PySem.W.kitOne K (.ref C_PromisedTrip) (.ref C_PromisedTrip) = some true)
    (kc_PromisedTrip_Trip : PySem.W.kitOne K (.ref C_PromisedTrip) (.ref C_Trip) = some true)
    (kc_Trip_PromisedTrip : PySem.W.kitOne K (.ref C_Trip) (.ref C_PromisedTrip) = some false)
    (kc_Trip_Trip : PySem.W.kitOne K (.ref C_Trip) (.ref C_Trip) = some true)
    (xmk_BadRoad : PySem.W.excInitIn K C_BadRoad [.type "ValueError", .type "Exception", .type "BaseException", .type "object"] "ValueError.__new__" = true)
    (xov_BadRoad : PySem.W.excOver K C_BadRoad [.type "ValueError", .type "Exception", .type "BaseException", .type "object"] = true)
    (xsa_BadRoad : PySem.W.findIn K (.ref C_BadRoad) "__setattr__" = some (some (.builtin "object.__setattr__")))
    (xga_BadRoad : PySem.W.findIn K (.ref C_BadRoad) "__getattribute__" = some (some (.builtin "BaseException.__getattribute__")))
    (xgg_BadRoad : PySem.W.findIn K (.ref C_BadRoad) "__getattr__" = some none)
    (xnb_BadRoad : PySem.W.findIn K (.ref C_BadRoad) "error" = some none)
    (xcl_BadRoad : PySem.W.findIn K (.ref C_BadRoad) "__class__" = some (some (.builtin "object.__class__")))
    (xco_BadRoad : PySem.W.mroIn K C_BadRoad (.type "object") = some true)
    (xkC_BadRoad : PySem.W.keepIn K (.ref C_BadRoad) = true)
    (xhd_BadRoad : PySem.W.hasDictIn K C_BadRoad = true)
    (xiC_BadRoad : PySem.W.isClsIn K C_BadRoad = true)
    (xtC_BadRoad : PySem.W.typeIn K (.ref C_BadRoad) = some (.type "type"))
    (xeC_BadRoad : PySem.W.subIn K (.ref C_BadRoad) (.type "BaseException") = some true)
    {f_iBadRoad : Addr} {od_iBadRoad an_iBadRoad : Option Addr} {sl_iBadRoad : Array (Option Value)} {oc_iBadRoad kV_iBadRoad dc_iBadRoad pm_iBadRoad cd_iBadRoad ct_iBadRoad : Value}
    (ini_BadRoad : PySem.W.findIn K (.ref C_BadRoad) "__init__" = some (some (.ref f_iBadRoad)))
    (tI_BadRoad : PySem.W.typeIn K (.ref f_iBadRoad) = some (.type "function"))
    (lI_BadRoad : K.lookup f_iBadRoad = some ⟨oc_iBadRoad, od_iBadRoad, .func (PySem.W.fnOf "__init__" "BadRoad.__init__" (defArgs si_BadRoad) (defBody si_BadRoad) (defScope si_BadRoad) .none kV_iBadRoad dc_iBadRoad pm_iBadRoad an_iBadRoad cd_iBadRoad ct_iBadRoad), sl_iBadRoad⟩)
    (cI_BadRoad : PySem.W.codeIn K cd_iBadRoad "BadRoad.__init__" = true)
    (kI_BadRoad : PySem.W.keepIn K (.ref f_iBadRoad) = true)
    (xmk_BadStarts : PySem.W.excInitIn K C_BadStarts [.type "ValueError", .type "Exception", .type "BaseException", .type "object"] "ValueError.__new__" = true)
    (xov_BadStarts : PySem.W.excOver K C_BadStarts [.type "ValueError", .type "Exception", .type "BaseException", .type "object"] = true)
    (xsa_BadStarts : PySem.W.findIn K (.ref C_BadStarts) "__setattr__" = some (some (.builtin "object.__setattr__")))
    (xga_BadStarts : PySem.W.findIn K (.ref C_BadStarts) "__getattribute__" = some (some (.builtin "BaseException.__getattribute__")))
    (xgg_BadStarts : PySem.W.findIn K (.ref C_BadStarts) "__getattr__" = some none)
    (xnb_BadStarts : PySem.W.findIn K (.ref C_BadStarts) "value" = some none)
    (xcl_BadStarts : PySem.W.findIn K (.ref C_BadStarts) "__class__" = some (some (.builtin "object.__class__")))
    (xco_BadStarts : PySem.W.mroIn K C_BadStarts (.type "object") = some true)
    (xkC_BadStarts : PySem.W.keepIn K (.ref C_BadStarts) = true)
    (xhd_BadStarts : PySem.W.hasDictIn K C_BadStarts = true)
    (xiC_BadStarts : PySem.W.isClsIn K C_BadStarts = true)
    (xtC_BadStarts : PySem.W.typeIn K (.ref C_BadStarts) = some (.type "type"))
    (xeC_BadStarts : PySem.W.subIn K (.ref C_BadStarts) (.type "BaseException") = some true)
    {f_iBadStarts : Addr} {od_iBadStarts an_iBadStarts : Option Addr} {sl_iBadStarts : Array (Option Value)} {oc_iBadStarts kV_iBadStarts dc_iBadStarts pm_iBadStarts cd_iBadStarts ct_iBadStarts : Value}
    (ini_BadStarts : PySem.W.findIn K (.ref C_BadStarts) "__init__" = some (some (.ref f_iBadStarts)))
    (tI_BadStarts : PySem.W.typeIn K (.ref f_iBadStarts) = some (.type "function"))
    (lI_BadStarts : K.lookup f_iBadStarts = some ⟨oc_iBadStarts, od_iBadStarts, .func (PySem.W.fnOf "__init__" "BadStarts.__init__" (defArgs si_BadStarts) (defBody si_BadStarts) (defScope si_BadStarts) .none kV_iBadStarts dc_iBadStarts pm_iBadStarts an_iBadStarts cd_iBadStarts ct_iBadStarts), sl_iBadStarts⟩)
    (cI_BadStarts : PySem.W.codeIn K cd_iBadStarts "BadStarts.__init__" = true)
    (kI_BadStarts : PySem.W.keepIn K (.ref f_iBadStarts) = true)
    {d_EDIT_LENGTHS : Addr} {es_EDIT_LENGTHS : Array DictEntry} {n_EDIT_LENGTHS : Nat}
    (gk_EDIT_LENGTHS : PySem.W.nsIn K mainGlobals "EDIT_LENGTHS" = some (some (.ref d_EDIT_LENGTHS)))
    (lk_EDIT_LENGTHS : K.lookup d_EDIT_LENGTHS = some ⟨.type "dict", none, .dict es_EDIT_LENGTHS n_EDIT_LENGTHS, #[]⟩)
    (yk_EDIT_LENGTHS : (d_EDIT_LENGTHS == sysModules) = false)
    (dk_EDIT_LENGTHS : DicOf w.params es_EDIT_LENGTHS.toList [("come", 2), ("leave", 2), ("place", 3), ("take", 3)])
    {t_MAX_PEOPLE : Tok}
    (v_MAX_PEOPLE : PySem.W.nsIn K mainGlobals "MAX_PEOPLE" = some (some (.int 10 t_MAX_PEOPLE)))
    {t_MAX_START : Tok}
    (v_MAX_START : PySem.W.nsIn K mainGlobals "MAX_START" = some (some (.int 1000000 t_MAX_START)))
    {t_MAX_TICKS : Tok}
    (v_MAX_TICKS : PySem.W.nsIn K mainGlobals "MAX_TICKS" = some (some (.int 1000 t_MAX_TICKS)))
    {t_MAX_STAGES : Tok}
    (v_MAX_STAGES : PySem.W.nsIn K mainGlobals "MAX_STAGES" = some (some (.int 12 t_MAX_STAGES)))
    {t_MAX_BIKES : Tok}
    (v_MAX_BIKES : PySem.W.nsIn K mainGlobals "MAX_BIKES" = some (some (.int 12 t_MAX_BIKES)))
    {t_MOST : Tok}
    (v_MOST : PySem.W.nsIn K mainGlobals "MOST" = some (some (.int 99999999 t_MOST)))
    {t_UNKNOWN : Tok}
    (v_UNKNOWN : PySem.W.nsIn K mainGlobals "UNKNOWN" = some (some (.str "unknown command" t_UNKNOWN)))
    (z_abs : PySem.W.nsIn K mainGlobals "abs" = some none)
    (z_bool : PySem.W.nsIn K mainGlobals "bool" = some none)
    (z_enumerate : PySem.W.nsIn K mainGlobals "enumerate" = some none)
    (z_int : PySem.W.nsIn K mainGlobals "int" = some none)
    (z_isinstance : PySem.W.nsIn K mainGlobals "isinstance" = some none)
    (z_len : PySem.W.nsIn K mainGlobals "len" = some none)
    (z_list : PySem.W.nsIn K mainGlobals "list" = some none)
    (z_max : PySem.W.nsIn K mainGlobals "max" = some none)
    (z_range : PySem.W.nsIn K mainGlobals "range" = some none)
    (z_sorted : PySem.W.nsIn K mainGlobals "sorted" = some none)
    (z_str : PySem.W.nsIn K mainGlobals "str" = some none)
    (z_sum : PySem.W.nsIn K mainGlobals "sum" = some none)
    (z_tuple : PySem.W.nsIn K mainGlobals "tuple" = some none)
    (z_zip : PySem.W.nsIn K mainGlobals "zip" = some none)
    : ∃ fd : FuncData, (∀ (s : Shared) (v : Value), BindsTo s fd ⟨[v], []⟩ [("_law_script", v)]) ∧ ∀ base : Heap, K.In base → base.Ns mainGlobals mg → Rb.FnG l.prog w K mg base CX0 7 fa fd ["_law_script"] (spF (Pu.ct0 K mg) F_law_k61) := by
  cases hfa.symm.trans (PySem.W.mg_of X G a_law)
  have F_is_number_from := fun_mk (st := s_is_number_from) l_is_number_from c_is_number_from k_is_number_from
  have b_is_number_from := F_is_number_from.binds (ps := ["value", "least", "most"]) fun _ _ _ _ _ _ us hl => match us, hl with | [_, _, _], _ => rfl
  have F_is_starts := fun_mk (st := s_is_starts) l_is_starts c_is_starts k_is_starts
  have b_is_starts := F_is_starts.binds (ps := ["value"]) fun _ _ _ _ _ _ us hl => match us, hl with | [_], _ => rfl
  have F_road_error := fun_mk (st := s_road_error) l_road_error c_road_error k_road_error
  have b_road_error := F_road_error.binds (ps := ["value"]) fun _ _ _ _ _ _ us hl => match us, hl with | [_], _ => rfl
  have F_counts_of := fun_mk (st := s_counts_of) l_counts_of c_counts_of k_counts_of
  have b_counts_of := F_counts_of.binds (ps := ["road"]) fun _ _ _ _ _ _ us hl => match us, hl with | [_], _ => rfl
  have F_is_edit := fun_mk (st := s_is_edit) l_is_edit c_is_edit k_is_edit
  have b_is_edit := F_is_edit.binds (ps := ["value"]) fun _ _ _ _ _ _ us hl => match us, hl with | [_], _ => rfl
  have F_ticks_of := fun_mk (st := s_ticks_of) l_ticks_of c_ticks_of k_ticks_of
  have b_ticks_of := F_ticks_of.binds (ps := ["road", "starts", "plan"]) fun _ _ _ _ _ _ us hl => match us, hl with | [_, _, _], _ => rfl
  have F_bike_ticks := fun_mk (st := s_bike_ticks) l_bike_ticks c_bike_ticks k_bike_ticks
  have b_bike_ticks := F_bike_ticks.binds (ps := ["ticks", "brought", "standing"]) fun _ _ _ _ _ _ us hl => match us, hl with | [_, _, _], _ => rfl
  have F_leaving_ticks := fun_mk (st := s_leaving_ticks) l_leaving_ticks c_leaving_ticks k_leaving_ticks
  have b_leaving_ticks := F_leaving_ticks.binds (ps := ["ticks", "riders", "bikes"]) fun _ _ _ _ _ _ us hl => match us, hl with | [_, _, _], _ => rfl
  have F_finish_of := fun_mk (st := s_finish_of) l_finish_of c_finish_of k_finish_of
  have b_finish_of := F_finish_of.binds (ps := ["road", "starts", "plan"]) fun _ _ _ _ _ _ us hl => match us, hl with | [_, _, _], _ => rfl
  have F_rule_plan := fun_mk (st := s_rule_plan) l_rule_plan c_rule_plan k_rule_plan
  have b_rule_plan := F_rule_plan.binds (ps := ["road", "starts"]) fun _ _ _ _ _ _ us hl => match us, hl with | [_, _], _ => rfl
  have F_greatest := fun_mk (st := s_greatest) l_greatest c_greatest k_greatest
  have b_greatest := F_greatest.binds (ps := ["numbers", "many"]) fun _ _ _ _ _ _ us hl => match us, hl with | [_, _], _ => rfl
  have F_least_finish := fun_mk (st := s_least_finish) l_least_finish c_least_finish k_least_finish
  have b_least_finish := F_least_finish.binds (ps := ["road", "starts"]) fun _ _ _ _ _ _ us hl => match us, hl with | [_, _], _ => rfl
  have F_number_in := fun_mk (st := s_number_in) l_number_in c_number_in k_number_in
  have b_number_in := F_number_in.binds (ps := ["text", "least", "most"]) fun _ _ _ _ _ _ us hl => match us, hl with | [_, _, _], _ => rfl
  have F_command_in := fun_mk (st := s_command_in) l_command_in c_command_in k_command_in
  have b_command_in := F_command_in.binds (ps := ["line"]) fun _ _ _ _ _ _ us hl => match us, hl with | [_], _ => rfl
  have F__law_deck := fun_mk (st := s__law_deck) l__law_deck c__law_deck k__law_deck
  have b__law_deck := F__law_deck.binds (ps := ["_law_script"]) fun _ _ _ _ _ _ us hl => match us, hl with | [_], _ => rfl
  have F__law_draw := fun_mk (st := s__law_draw) l__law_draw c__law_draw k__law_draw
  have b__law_draw := F__law_draw.binds (ps := ["_law_deck_here", "_law_bound"]) fun _ _ _ _ _ _ us hl => match us, hl with | [_, _], _ => rfl
  have F__law_state := fun_mk (st := s__law_state) l__law_state c__law_state k__law_state
  have b__law_state := F__law_state.binds (ps := ["_law_deck_here", "_law_stages", "_law_people"]) fun _ _ _ _ _ _ us hl => match us, hl with | [_, _, _], _ => rfl
  have F__law_odd := fun_mk (st := s__law_odd) l__law_odd c__law_odd k__law_odd
  have b__law_odd := F__law_odd.binds (ps := ["_law_deck_here"]) fun _ _ _ _ _ _ us hl => match us, hl with | [_], _ => rfl
  have F__law_lines := fun_mk (st := s__law_lines) l__law_lines c__law_lines k__law_lines
  have b__law_lines := F__law_lines.binds (ps := ["_law_word"]) fun _ _ _ _ _ _ us hl => match us, hl with | [_], _ => rfl
  have F_Shell___init__ := fun_mk (st := s_Shell___init__) l_Shell___init__ c_Shell___init__ k_Shell___init__
  have b_Shell___init__ := F_Shell___init__.binds (ps := ["self", "trip"]) fun _ _ _ _ _ _ us hl => match us, hl with | [_, _], _ => rfl
  have F_Shell_execute := fun_mk (st := s_Shell_execute) l_Shell_execute c_Shell_execute k_Shell_execute
  have b_Shell_execute := F_Shell_execute.binds (ps := ["self", "line"]) fun _ _ _ _ _ _ us hl => match us, hl with | [_, _], _ => rfl
  have F_Shell_answer := fun_mk (st := s_Shell_answer) l_Shell_answer c_Shell_answer k_Shell_answer
  have b_Shell_answer := F_Shell_answer.binds (ps := ["self", "command"]) fun _ _ _ _ _ _ us hl => match us, hl with | [_, _], _ => rfl
  have F_Promise_latest := fun_mk (st := s_Promise_latest) l_Promise_latest c_Promise_latest k_Promise_latest
  have b_Promise_latest := F_Promise_latest.binds (ps := ["self"]) fun _ _ _ _ _ _ us hl => match us, hl with | [_], _ => rfl
  have F_Trip___init__ := fun_mk (st := s_Trip___init__) l_Trip___init__ c_Trip___init__ k_Trip___init__
  have b_Trip___init__ := F_Trip___init__.binds (ps := ["self", "road", "starts"]) fun _ _ _ _ _ _ us hl => match us, hl with | [_, _, _], _ => rfl
  have F_Trip_road := fun_mk (st := s_Trip_road) l_Trip_road c_Trip_road k_Trip_road
  have b_Trip_road := F_Trip_road.binds (ps := ["self"]) fun _ _ _ _ _ _ us hl => match us, hl with | [_], _ => rfl
  have F_Trip_starts := fun_mk (st := s_Trip_starts) l_Trip_starts c_Trip_starts k_Trip_starts
  have b_Trip_starts := F_Trip_starts.binds (ps := ["self"]) fun _ _ _ _ _ _ us hl => match us, hl with | [_], _ => rfl
  have F_Trip___len__ := fun_mk (st := s_Trip___len__) l_Trip___len__ c_Trip___len__ k_Trip___len__
  have b_Trip___len__ := F_Trip___len__.binds (ps := ["self"]) fun _ _ _ _ _ _ us hl => match us, hl with | [_], _ => rfl
  have F_Trip___eq__ := fun_mk (st := s_Trip___eq__) l_Trip___eq__ c_Trip___eq__ k_Trip___eq__
  have b_Trip___eq__ := F_Trip___eq__.binds (ps := ["self", "other"]) fun _ _ _ _ _ _ us hl => match us, hl with | [_, _], _ => rfl
  have F_Trip_goes_like := fun_mk (st := s_Trip_goes_like) l_Trip_goes_like c_Trip_goes_like k_Trip_goes_like
  have b_Trip_goes_like := F_Trip_goes_like.binds (ps := ["self", "other"]) fun _ _ _ _ _ _ us hl => match us, hl with | [_, _], _ => rfl
  have F_PromisedTrip___eq__ := fun_mk (st := s_PromisedTrip___eq__) l_PromisedTrip___eq__ c_PromisedTrip___eq__ k_PromisedTrip___eq__
  have b_PromisedTrip___eq__ := F_PromisedTrip___eq__.binds (ps := ["self", "other"]) fun _ _ _ _ _ _ us hl => match us, hl with | [_, _], _ => rfl
  have F_law := fun_mk (st := s_law) l_law c_law k_law
  have b_law := F_law.binds (ps := ["_law_script"]) fun _ _ _ _ _ _ us hl => match us, hl with | [_], _ => rfl
  have cl_Shell : Cls K C_Shell := ⟨pg_Shell, hd_Shell, po_Shell, sa_Shell⟩
  have cl_Promise : Cls K C_Promise := ⟨pg_Promise, hd_Promise, po_Promise, sa_Promise⟩
  have cl_Trip : Cls K C_Trip := ⟨pg_Trip, hd_Trip, po_Trip, sa_Trip⟩
  have cl_PromisedTrip : Cls K C_PromisedTrip := ⟨pg_PromisedTrip, hd_PromisedTrip, po_PromisedTrip, sa_PromisedTrip⟩
  have E_BadRoad : OwnI K C_BadRoad := ⟨⟨xga_BadRoad, xgg_BadRoad, xeC_BadRoad, xhd_BadRoad⟩, xiC_BadRoad, xcl_BadRoad, cgE, ctE, xco_BadRoad⟩
  have L_BadRoad : ErrC K C_BadRoad [.type "ValueError", .type "Exception", .type "BaseException", .type "object"] "ValueError.__new__" := ⟨xmk_BadRoad, xov_BadRoad, xhd_BadRoad, xsa_BadRoad, xeC_BadRoad, xtC_BadRoad, xkC_BadRoad⟩
  have FI_BadRoad := fun_mk (st := si_BadRoad) lI_BadRoad cI_BadRoad kI_BadRoad
  have bI_BadRoad := FI_BadRoad.binds (ps := ["self", "error"]) fun _ _ _ _ _ _ us hl => match us, hl with | [_, _], _ => rfl
  have E_BadStarts : OwnI K C_BadStarts := ⟨⟨xga_BadStarts, xgg_BadStarts, xeC_BadStarts, xhd_BadStarts⟩, xiC_BadStarts, xcl_BadStarts, cgE, ctE, xco_BadStarts⟩
  have L_BadStarts : ErrC K C_BadStarts [.type "ValueError", .type "Exception", .type "BaseException", .type "object"] "ValueError.__new__" := ⟨xmk_BadStarts, xov_BadStarts, xhd_BadStarts, xsa_BadStarts, xeC_BadStarts, xtC_BadStarts, xkC_BadStarts⟩
  have FI_BadStarts := fun_mk (st := si_BadStarts) lI_BadStarts cI_BadStarts kI_BadStarts
  have bI_BadStarts := FI_BadStarts.binds (ps := ["self", "value"]) fun _ _ _ _ _ _ us hl => match us, hl with | [_, _], _ => rfl
  exact ⟨_, fun s v => .of_eq rfl, fun base _ _ => G_law (⟨_, _, F_is_number_from, PySem.W.mg_of X G a_is_number_from, b_is_number_from, _, _, F_is_starts, PySem.W.mg_of X G a_is_starts, b_is_starts, _, _, F_road_error, PySem.W.mg_of X G a_road_error, b_road_error, _, _, F_counts_of, PySem.W.mg_of X G a_counts_of, b_counts_of, _, _, F_is_edit, PySem.W.mg_of X G a_is_edit, b_is_edit, _, _, F_ticks_of, PySem.W.mg_of X G a_ticks_of, b_ticks_of, _, _, F_bike_ticks, PySem.W.mg_of X G a_bike_ticks, b_bike_ticks, _, _, F_leaving_ticks, PySem.W.mg_of X G a_leaving_ticks, b_leaving_ticks, _, _, F_finish_of, PySem.W.mg_of X G a_finish_of, b_finish_of, _, _, F_rule_plan, PySem.W.mg_of X G a_rule_plan, b_rule_plan, _, _, F_greatest, PySem.W.mg_of X G a_greatest, b_greatest, _, _, F_least_finish, PySem.W.mg_of X G a_least_finish, b_least_finish, _, _, F_number_in, PySem.W.mg_of X G a_number_in, b_number_in, _, _, F_command_in, PySem.W.mg_of X G a_command_in, b_command_in, _, _, F__law_deck, PySem.W.mg_of X G a__law_deck, b__law_deck, _, _, F__law_draw, PySem.W.mg_of X G a__law_draw, b__law_draw, _, _, F__law_state, PySem.W.mg_of X G a__law_state, b__law_state, _, _, F__law_odd, PySem.W.mg_of X G a__law_odd, b__law_odd, _, _, F__law_lines, PySem.W.mg_of X G a__law_lines, b__law_lines, _, _, F_Shell___init__, b_Shell___init__, _, _, F_Shell_execute, b_Shell_execute, _, _, F_Shell_answer, b_Shell_answer, _, _, F_Promise_latest, b_Promise_latest, _, _, F_Trip___init__, b_Trip___init__, _, _, F_Trip_road, b_Trip_road, _, _, F_Trip_starts, b_Trip_starts, _, _, F_Trip___len__, b_Trip___len__, _, _, F_Trip___eq__, b_Trip___eq__, _, _, F_Trip_goes_like, b_Trip_goes_like, _, _, F_PromisedTrip___eq__, b_PromisedTrip___eq__, _, _, F_law, PySem.W.mg_of X G a_law, b_law, _, PySem.W.mg_of X G aC_BadStarts, _, PySem.W.mg_of X G aC_TooManyPeople, _, PySem.W.mg_of X G aC_TooLate, _, PySem.W.mg_of X G aC_BadRoad, _, PySem.W.mg_of X G aC_Busy, _, PySem.W.mg_of X G aC_TooManyEdits, _, PySem.W.mg_of X G aC_BadStart, _, PySem.W.mg_of X G aC_LastPerson, _, PySem.W.mg_of X G aC_BadCount, _, PySem.W.mg_of X G aC_TooMuch, _, PySem.W.mg_of X G aC_TooFew, _, PySem.W.mg_of X G aC_NothingToUndo, _, PySem.W.mg_of X G aC_BadEnd, _, PySem.W.mg_of X G aC_NoPerson, _, PySem.W.mg_of X G aC_NoStation, _, PySem.W.mg_of X G aC_Shell, _, PySem.W.mg_of X G aC_Promise, _, PySem.W.mg_of X G aC_Trip, _, PySem.W.mg_of X G aC_PromisedTrip, cl_Shell, cl_Promise, cl_Trip, cl_PromisedTrip, na_Promise_promised, na_PromisedTrip_done, na_PromisedTrip_promised, na_PromisedTrip_versions, na_PromisedTrip_watched, na_Shell_trip, na_Trip_done, na_Trip_versions, na_Trip_watched, ⟨mm_Shell, mi_Shell, mf_Shell, mk_Shell⟩, ⟨mm_Trip, mi_Trip, mf_Trip, mk_Trip⟩, ⟨ma_PromisedTrip_goes_like, mn_PromisedTrip_goes_like, k_Trip_goes_like⟩, ⟨ma_Shell_answer, mn_Shell_answer, k_Shell_answer⟩, ⟨ma_Shell_execute, mn_Shell_execute, k_Shell_execute⟩, ⟨ma_Trip_goes_like, mn_Trip_goes_like, k_Trip_goes_like⟩, _, ⟨pa_PromisedTrip_latest, pg2_Promise_latest, pt_Promise_latest, _, rc_Promise_latest⟩, _, ⟨pa_PromisedTrip_road, pg2_Trip_road, pt_Trip_road, _, rc_Trip_road⟩, _, ⟨pa_PromisedTrip_starts, pg2_Trip_starts, pt_Trip_starts, _, rc_Trip_starts⟩, _, ⟨pa_Trip_road, pg2_Trip_road, pt_Trip_road, _, rc_Trip_road⟩, _, ⟨pa_Trip_starts, pg2_Trip_starts, pt_Trip_starts, _, rc_Trip_starts⟩, ⟨cl_PromisedTrip, ic_PromisedTrip, cgE, ctE, io_PromisedTrip⟩, ⟨cl_Trip, ic_Trip, cgE, ctE, io_Trip⟩, ln_PromisedTrip, lnf_PromisedTrip, ln_Trip, lnf_Trip, kc_PromisedTrip_PromisedTrip, kc_PromisedTrip_Trip, kc_Trip_PromisedTrip, kc_Trip_Trip, oa_PromisedTrip_eq, ob_PromisedTrip_eq, oc_PromisedTrip_eq, od_PromisedTrip_eq, oa_Trip_eq, ob_Trip_eq, oc_Trip_eq, od_Trip_eq, E_BadRoad, L_BadRoad, xnb_BadRoad, _, _, ini_BadRoad, tI_BadRoad, FI_BadRoad, bI_BadRoad, E_BadStarts, L_BadStarts, xnb_BadStarts, _, _, ini_BadStarts, tI_BadStarts, FI_BadStarts, bI_BadStarts, _, _, _, PySem.W.mg_of X G gk_EDIT_LENGTHS, lk_EDIT_LENGTHS, yk_EDIT_LENGTHS, dk_EDIT_LENGTHS, _, PySem.W.mg_of X G v_MAX_PEOPLE, _, PySem.W.mg_of X G v_MAX_START, _, PySem.W.mg_of X G v_MAX_TICKS, _, PySem.W.mg_of X G v_MAX_STAGES, _, PySem.W.mg_of X G v_MAX_BIKES, _, PySem.W.mg_of X G v_MOST, _, PySem.W.mg_of X G v_UNKNOWN, PySem.W.mg_none_of X G z_abs, PySem.W.mg_none_of X G z_bool, PySem.W.mg_none_of X G z_enumerate, PySem.W.mg_none_of X G z_int, PySem.W.mg_none_of X G z_isinstance, PySem.W.mg_none_of X G z_len, PySem.W.mg_none_of X G z_list, PySem.W.mg_none_of X G z_max, PySem.W.mg_none_of X G z_range, PySem.W.mg_none_of X G z_sorted, PySem.W.mg_none_of X G z_str, PySem.W.mg_none_of X G z_sum, PySem.W.mg_none_of X G z_tuple, PySem.W.mg_none_of X G z_zip⟩ : Tx K mg w.params)⟩
end Pu
namespace PuHd
open PySem PySem.W PySem.Calls PyProof.Rows
theorem gA (w : World) (os : OsState) : PhA w os := hBoth (P := PhA) "special-get-raises" hAt hAf w os
theorem gB (w : World) (os : OsState) : PhB w os := hBoth (P := PhB) "special-get-raises" hBt hBf w os
theorem gD (w : World) (os : OsState) : PhD w os := hBoth (P := PhD) "special-get-raises" hDt hDf w os
theorem gG (w : World) (os : OsState) : PhG w os := hBoth (P := PhG) "special-get-raises" hGt hGf w os
theorem gJ (w : World) (os : OsState) : PhJ w os := hBoth (P := PhJ) "special-get-raises" hJt hJf w os
theorem gBCD (w : World) (os : OsState) : Option.map (fun s => hSeen s.abs) (hEnd w os) = some (openGood hq hLo) := run9 (gB w os) (oSnd (gA w os)) (gD w os) (gG w os) (gJ w os)
end PuHd
open PySem PySem.W PySem.Calls PyProof.Rows in
local macro_rules
  | `(tactic| o_headL $h:term) => do
    let hw := Lean.mkIdent `hw
    let hc := Lean.mkIdent `hc
    `(tactic| (refine holds_open (q := PuHd.hq) (loose := PuHd.hLo) (Xt := fun s => xlAt PuHd.hq PuHd.hLv s && recOk PySem.Challenge.rw_roadbikes_k61_unknown_commands.row.records s) (XP := XL PuHd.hq PuHd.hLv) (Yf := Hook.obs $h) (Ya := Hook.val $h) (YP := Hook.says $h) (N := 18234) (HeadRun.left_oneK (M := 17534) (by kernel_rfl) (by rfl) (fun s => by kernel_rfl) (by rfl) (fun w os => PuHd.run2 (Eq.mp (by kernel_rfl) (PuHd.oFst (PuHd.gA w os))) (Eq.mp (by kernel_rfl) (PuHd.gBCD w os)))) (Hook.of $h) (Hook.keeps $h) (fun s e => xl_of s (Bool.and_eq_true_iff.mp e).1) XL.keeps (by rfl) (by rfl) (by rfl) (fun s e => recFacts_of (Bool.and_eq_true_iff.mp e).2) (by rfl) (by first | assumption | decide +kernel) (by decide +kernel) ⟨rfl, rfl, rfl, rfl, rfl, by decide +kernel⟩ ?$hw:ident ?$hc:ident))
open PySem PySem.W PyProof.Rows
set_option maxHeartbeats 0 in
theorem PySem.Challenge.cw_roadbikes_k61_unknown_commands_holds : PySem.Challenge.rw_roadbikes_k61_unknown_commands.Holds := by
  w_on; o_law; k_headL; (case hw => w_witness2)
  k_fill
  refine Pu.endP (l := PySem.Challenge.rw_roadbikes_k61_unknown_commands) (n := 63) (lv := 7) (x := "_law_script") (FL := Pu.F_law_k61) rfl (by decide) rfl ⟨rfl, by decide, by decide⟩ (fun w h Y => PySem.W.kIn_of Y) ?F Pu.law_ok
  case F =>
    intro w mg fa h KX G hmg
    refine' Pu.all_mk KX G hmg ?aC_BadStarts ?aC_TooManyPeople ?aC_TooLate ?aC_BadRoad ?aC_Busy ?aC_TooManyEdits ?aC_BadStart ?aC_LastPerson ?aC_BadCount ?aC_TooMuch ?aC_TooFew ?aC_NothingToUndo ?aC_BadEnd ?aC_NoPerson ?aC_NoStation ?aC_Shell ?aC_Promise ?aC_Trip ?aC_PromisedTrip ?a_is_number_from ?l_is_number_from ?c_is_number_from ?k_is_number_from ?a_is_starts ?l_is_starts ?c_is_starts ?k_is_starts ?a_road_error ?l_road_error ?c_road_error ?k_road_error ?a_counts_of ?l_counts_of ?c_counts_of ?k_counts_of ?a_is_edit ?l_is_edit ?c_is_edit ?k_is_edit ?a_ticks_of ?l_ticks_of ?c_ticks_of ?k_ticks_of ?a_bike_ticks ?l_bike_ticks ?c_bike_ticks ?k_bike_ticks ?a_leaving_ticks ?l_leaving_ticks ?c_leaving_ticks ?k_leaving_ticks ?a_finish_of ?l_finish_of ?c_finish_of ?k_finish_of ?a_rule_plan ?l_rule_plan ?c_rule_plan ?k_rule_plan ?a_greatest ?l_greatest ?c_greatest ?k_greatest ?a_least_finish ?l_least_finish ?c_least_finish ?k_least_finish ?a_number_in ?l_number_in ?c_number_in ?k_number_in ?a_command_in ?l_command_in ?c_command_in ?k_command_in ?a__law_deck ?l__law_deck ?c__law_deck ?k__law_deck ?a__law_draw ?l__law_draw ?c__law_draw ?k__law_draw ?a__law_state ?l__law_state ?c__law_state ?k__law_state ?a__law_odd ?l__law_odd ?c__law_odd ?k__law_odd ?a__law_lines ?l__law_lines ?c__law_lines ?k__law_lines ?w_Shell___init__ ?l_Shell___init__ ?c_Shell___init__ ?k_Shell___init__ ?w_Shell_execute ?l_Shell_execute ?c_Shell_execute ?k_Shell_execute ?w_Shell_answer ?l_Shell_answer ?c_Shell_answer ?k_Shell_answer ?w_Promise_latest ?rc_Promise_latest ?l_Promise_latest ?c_Promise_latest ?k_Promise_latest ?w_Trip___init__ ?l_Trip___init__ ?c_Trip___init__ ?k_Trip___init__ ?w_Trip_road ?rc_Trip_road ?l_Trip_road ?c_Trip_road ?k_Trip_road ?w_Trip_starts ?rc_Trip_starts ?l_Trip_starts ?c_Trip_starts ?k_Trip_starts ?w_Trip___len__ ?l_Trip___len__ ?c_Trip___len__ ?k_Trip___len__ ?w_Trip___eq__ ?l_Trip___eq__ ?c_Trip___eq__ ?k_Trip___eq__ ?w_Trip_goes_like ?l_Trip_goes_like ?c_Trip_goes_like ?k_Trip_goes_like ?w_PromisedTrip___eq__ ?l_PromisedTrip___eq__ ?c_PromisedTrip___eq__ ?k_PromisedTrip___eq__ ?a_law ?l_law ?c_law ?k_law ?pg_Shell ?hd_Shell ?po_Shell ?sa_Shell ?pg_Promise ?hd_Promise ?po_Promise ?sa_Promise ?pg_Trip ?hd_Trip ?po_Trip ?sa_Trip ?pg_PromisedTrip ?hd_PromisedTrip ?po_PromisedTrip ?sa_PromisedTrip ?na_Promise_promised ?na_PromisedTrip_done ?na_PromisedTrip_promised ?na_PromisedTrip_versions ?na_PromisedTrip_watched ?na_Shell_trip ?na_Trip_done ?na_Trip_versions ?na_Trip_watched ?mm_Shell ?mi_Shell ?mf_Shell ?mk_Shell ?mm_Trip ?mi_Trip ?mf_Trip ?mk_Trip ?ma_PromisedTrip_goes_like ?mn_PromisedTrip_goes_like ?ma_Shell_answer ?mn_Shell_answer ?ma_Shell_execute ?mn_Shell_execute ?ma_Trip_goes_like ?mn_Trip_goes_like ?pa_PromisedTrip_latest ?pa_PromisedTrip_road ?pa_PromisedTrip_starts ?pa_Trip_road ?pa_Trip_starts ?pg2_Promise_latest ?pt_Promise_latest ?pg2_Trip_road ?pt_Trip_road ?pg2_Trip_starts ?pt_Trip_starts ?ln_PromisedTrip ?lnf_PromisedTrip ?ln_Trip ?lnf_Trip ?oa_PromisedTrip_eq ?ob_PromisedTrip_eq ?oc_PromisedTrip_eq ?od_PromisedTrip_eq ?oa_Trip_eq ?ob_Trip_eq ?oc_Trip_eq ?od_Trip_eq ?cgE ?ctE ?ic_PromisedTrip ?io_PromisedTrip ?ic_Trip ?io_Trip ?kc_PromisedTrip_PromisedTrip ?kc_PromisedTrip_Trip ?kc_Trip_PromisedTrip ?kc_Trip_Trip ?xmk_BadRoad ?xov_BadRoad ?xsa_BadRoad ?xga_BadRoad ?xgg_BadRoad ?xnb_BadRoad ?xcl_BadRoad ?xco_BadRoad ?xkC_BadRoad ?xhd_BadRoad ?xiC_BadRoad ?xtC_BadRoad ?xeC_BadRoad ?ini_BadRoad ?tI_BadRoad ?lI_BadRoad ?cI_BadRoad ?kI_BadRoad ?xmk_BadStarts ?xov_BadStarts ?xsa_BadStarts ?xga_BadStarts ?xgg_BadStarts ?xnb_BadStarts ?xcl_BadStarts ?xco_BadStarts ?xkC_BadStarts ?xhd_BadStarts ?xiC_BadStarts ?xtC_BadStarts ?xeC_BadStarts ?ini_BadStarts ?tI_BadStarts ?lI_BadStarts ?cI_BadStarts ?kI_BadStarts ?gk_EDIT_LENGTHS ?lk_EDIT_LENGTHS ?yk_EDIT_LENGTHS ?dk_EDIT_LENGTHS ?v_MAX_PEOPLE ?v_MAX_START ?v_MAX_TICKS ?v_MAX_STAGES ?v_MAX_BIKES ?v_MOST ?v_UNKNOWN ?z_abs ?z_bool ?z_enumerate ?z_int ?z_isinstance ?z_len ?z_list ?z_max ?z_range ?z_sorted ?z_str ?z_sum ?z_tuple ?z_zip
    (case aC_BadStarts => k_is); (case aC_TooManyPeople => k_is); (case aC_TooLate => k_is); (case aC_BadRoad => k_is); (case aC_Busy => k_is); (case aC_TooManyEdits => k_is); (case aC_BadStart => k_is); (case aC_LastPerson => k_is); (case aC_BadCount => k_is); (case aC_TooMuch => k_is); (case aC_TooFew => k_is); (case aC_NothingToUndo => k_is); (case aC_BadEnd => k_is); (case aC_NoPerson => k_is); (case aC_NoStation => k_is); (case aC_Shell => k_is); (case aC_Promise => k_is); (case aC_Trip => k_is); (case aC_PromisedTrip => k_is); (case a_is_number_from => k_is); (case l_is_number_from => k_is); (case c_is_number_from => k_is); (case k_is_number_from => k_is); (case a_is_starts => k_is); (case l_is_starts => k_is); (case c_is_starts => k_is); (case k_is_starts => k_is); (case a_road_error => k_is); (case l_road_error => k_is); (case c_road_error => k_is); (case k_road_error => k_is); (case a_counts_of => k_is); (case l_counts_of => k_is); (case c_counts_of => k_is); (case k_counts_of => k_is); (case a_is_edit => k_is); (case l_is_edit => k_is); (case c_is_edit => k_is); (case k_is_edit => k_is); (case a_ticks_of => k_is); (case l_ticks_of => k_is); (case c_ticks_of => k_is); (case k_ticks_of => k_is); (case a_bike_ticks => k_is); (case l_bike_ticks => k_is); (case c_bike_ticks => k_is); (case k_bike_ticks => k_is); (case a_leaving_ticks => k_is); (case l_leaving_ticks => k_is); (case c_leaving_ticks => k_is); (case k_leaving_ticks => k_is); (case a_finish_of => k_is); (case l_finish_of => k_is); (case c_finish_of => k_is); (case k_finish_of => k_is); (case a_rule_plan => k_is); (case l_rule_plan => k_is); (case c_rule_plan => k_is); (case k_rule_plan => k_is); (case a_greatest => k_is); (case l_greatest => k_is); (case c_greatest => k_is); (case k_greatest => k_is); (case a_least_finish => k_is); (case l_least_finish => k_is); (case c_least_finish => k_is); (case k_least_finish => k_is); (case a_number_in => k_is); (case l_number_in => k_is); (case c_number_in => k_is); (case k_number_in => k_is); (case a_command_in => k_is); (case l_command_in => k_is); (case c_command_in => k_is); (case k_command_in => k_is); (case a__law_deck => k_is); (case l__law_deck => k_is); (case c__law_deck => k_is); (case k__law_deck => k_is); (case a__law_draw => k_is); (case l__law_draw => k_is); (case c__law_draw => k_is); (case k__law_draw => k_is); (case a__law_state => k_is); (case l__law_state => k_is); (case c__law_state => k_is); (case k__law_state => k_is); (case a__law_odd => k_is); (case l__law_odd => k_is); (case c__law_odd => k_is); (case k__law_odd => k_is); (case a__law_lines => k_is); (case l__law_lines => k_is); (case c__law_lines => k_is); (case k__law_lines => k_is); (case w_Shell___init__ => k_is); (case l_Shell___init__ => k_is); (case c_Shell___init__ => k_is); (case k_Shell___init__ => k_is); (case w_Shell_execute => k_is); (case l_Shell_execute => k_is); (case c_Shell_execute => k_is); (case k_Shell_execute => k_is); (case w_Shell_answer => k_is); (case l_Shell_answer => k_is); (case c_Shell_answer => k_is); (case k_Shell_answer => k_is); (case w_Promise_latest => k_is); (case rc_Promise_latest => k_is); (case l_Promise_latest => k_is); (case c_Promise_latest => k_is); (case k_Promise_latest => k_is); (case w_Trip___init__ => k_is); (case l_Trip___init__ => k_is); (case c_Trip___init__ => k_is); (case k_Trip___init__ => k_is); (case w_Trip_road => k_is); (case rc_Trip_road => k_is); (case l_Trip_road => k_is); (case c_Trip_road => k_is); (case k_Trip_road => k_is); (case w_Trip_starts => k_is); (case rc_Trip_starts => k_is); (case l_Trip_starts => k_is); (case c_Trip_starts => k_is); (case k_Trip_starts => k_is); (case w_Trip___len__ => k_is); (case l_Trip___len__ => k_is); (case c_Trip___len__ => k_is); (case k_Trip___len__ => k_is); (case w_Trip___eq__ => k_is); (case l_Trip___eq__ => k_is); (case c_Trip___eq__ => k_is); (case k_Trip___eq__ => k_is); (case w_Trip_goes_like => k_is); (case l_Trip_goes_like => k_is); (case c_Trip_goes_like => k_is); (case k_Trip_goes_like => k_is); (case w_PromisedTrip___eq__ => k_is); (case l_PromisedTrip___eq__ => k_is); (case c_PromisedTrip___eq__ => k_is); (case k_PromisedTrip___eq__ => k_is); (case a_law => k_is); (case l_law => k_is); (case c_law => k_is); (case k_law => k_is); (case pg_Shell => k_is); (case hd_Shell => k_is); (case po_Shell => k_is); (case sa_Shell => k_is); (case pg_Promise => k_is); (case hd_Promise => k_is); (case po_Promise => k_is); (case sa_Promise => k_is); (case pg_Trip => k_is); (case hd_Trip => k_is); (case po_Trip => k_is); (case sa_Trip => k_is); (case pg_PromisedTrip => k_is); (case hd_PromisedTrip => k_is); (case po_PromisedTrip => k_is); (case sa_PromisedTrip => k_is); (case na_Promise_promised => k_is); (case na_PromisedTrip_done => k_is); (case na_PromisedTrip_promised => k_is); (case na_PromisedTrip_versions => k_is); (case na_PromisedTrip_watched => k_is); (case na_Shell_trip => k_is); (case na_Trip_done => k_is); (case na_Trip_versions => k_is); (case na_Trip_watched => k_is); (case mm_Shell => k_is); (case mi_Shell => k_is); (case mf_Shell => k_is); (case mk_Shell => k_is); (case mm_Trip => k_is); (case mi_Trip => k_is); (case mf_Trip => k_is); (case mk_Trip => k_is); (case ma_PromisedTrip_goes_like => k_is); (case mn_PromisedTrip_goes_like => k_is); (case ma_Shell_answer => k_is); (case mn_Shell_answer => k_is); (case ma_Shell_execute => k_is); (case mn_Shell_execute => k_is); (case ma_Trip_goes_like => k_is); (case mn_Trip_goes_like => k_is); (case pa_PromisedTrip_latest => k_is); (case pa_PromisedTrip_road => k_is); (case pa_PromisedTrip_starts => k_is); (case pa_Trip_road => k_is); (case pa_Trip_starts => k_is); (case pg2_Promise_latest => k_is); (case pt_Promise_latest => k_is); (case pg2_Trip_road => k_is); (case pt_Trip_road => k_is); (case pg2_Trip_starts => k_is); (case pt_Trip_starts => k_is); (case ln_PromisedTrip => k_is); (case lnf_PromisedTrip => k_is); (case ln_Trip => k_is); (case lnf_Trip => k_is); (case oa_PromisedTrip_eq => k_is); (case ob_PromisedTrip_eq => k_is); (case oc_PromisedTrip_eq => k_is); (case od_PromisedTrip_eq => k_is); (case oa_Trip_eq => k_is); (case ob_Trip_eq => k_is); (case oc_Trip_eq => k_is); (case od_Trip_eq => k_is); (case cgE => k_is); (case ctE => k_is); (case ic_PromisedTrip => k_is); (case io_PromisedTrip => k_is); (case ic_Trip => k_is); (case io_Trip => k_is); (case kc_PromisedTrip_PromisedTrip => kit_is); (case kc_PromisedTrip_Trip => kit_is); (case kc_Trip_PromisedTrip => kit_is); (case kc_Trip_Trip => kit_is); (case xmk_BadRoad => kx_is); (case xov_BadRoad => kx_is); (case xsa_BadRoad => k_is); (case xga_BadRoad => k_is); (case xgg_BadRoad => k_is); (case xnb_BadRoad => k_is); (case xcl_BadRoad => k_is); (case xco_BadRoad => k_is); (case xkC_BadRoad => k_is); (case xhd_BadRoad => k_is); (case xiC_BadRoad => k_is); (case xtC_BadRoad => k_is); (case xeC_BadRoad => k_is); (case ini_BadRoad => k_is); (case tI_BadRoad => k_is); (case lI_BadRoad => k_is); (case cI_BadRoad => k_is); (case kI_BadRoad => k_is); (case xmk_BadStarts => kx_is); (case xov_BadStarts => kx_is); (case xsa_BadStarts => k_is); (case xga_BadStarts => k_is); (case xgg_BadStarts => k_is); (case xnb_BadStarts => k_is); (case xcl_BadStarts => k_is); (case xco_BadStarts => k_is); (case xkC_BadStarts => k_is); (case xhd_BadStarts => k_is); (case xiC_BadStarts => k_is); (case xtC_BadStarts => k_is); (case xeC_BadStarts => k_is); (case ini_BadStarts => k_is); (case tI_BadStarts => k_is); (case lI_BadStarts => k_is); (case cI_BadStarts => k_is); (case kI_BadStarts => k_is); (case gk_EDIT_LENGTHS => k_is); (case lk_EDIT_LENGTHS => k_is); (case yk_EDIT_LENGTHS => exact rfl); (case dk_EDIT_LENGTHS => exact ⟨⟨⟨_, rfl⟩, ⟨_, rfl⟩, rfl⟩, ⟨⟨_, rfl⟩, ⟨_, rfl⟩, rfl⟩, ⟨⟨_, rfl⟩, ⟨_, rfl⟩, rfl⟩, ⟨⟨_, rfl⟩, ⟨_, rfl⟩, rfl⟩, trivial⟩); (case v_MAX_PEOPLE => k_is); (case v_MAX_START => k_is); (case v_MAX_TICKS => k_is); (case v_MAX_STAGES => k_is); (case v_MAX_BIKES => k_is); (case v_MOST => k_is); (case v_UNKNOWN => k_is); (case z_abs => k_is); (case z_bool => k_is); (case z_enumerate => k_is); (case z_int => k_is); (case z_isinstance => k_is); (case z_len => k_is); (case z_list => k_is); (case z_max => k_is); (case z_range => k_is); (case z_sorted => k_is); (case z_str => k_is); (case z_sum => k_is); (case z_tuple => k_is); (case z_zip => k_is)
