import PyProof.Rows.All
import Wide.All
import OpenK.AllK
import Wide.FinOn
import KE.OsRunLaw
import HandS.ForMost
import HandS.Wide
import HandS.TupAny
import HandS.TupMul
import HandS.Style
import HandS.Conv
import HandS.Zip
import PyProof.ReprRoads
import PyProof.SumWalkG
import PyProof.WalksMore
import KE.DataMinMax
import HandS.Evl
import PyProof.ReprBulk
import PyProof.FitsInt
import KE.GoesMore
import PyProof.Draws
import HandS.SortRule
import HandS.Walk
import KE.DatumOrd
import KE.DataFind
import HandS.SetFor
import PyProof.Rows.RowBridgeK
import KE.KExcIs
import HandS.Star
import HandS.ExcInit
import HandS.ExcField
import HandS.ExcOwn
import HandS.WordsExc
import HandS.NoneIn
import HandS.IsInst
import HandS.SortInts
import HandS.Strs
import HandS.TupLe
import HandS.Property
import KE.KExcInit
import KE.KOpsOwn
import PyProof.InstNe
import HandS.Flt
import HandS.FStr
import HandS.Text
import KE.KCallOwn
import HandS.Defaults
import HandS.ClsMeth
import HandS.GenList
import HandS.Iter
import HandS.StrMore
import PyProof.Rows.ReprOcc
import KE.KExcLine
import PySem.Challenge.RW_roadbikes_k58_shell_queries
set_option Elab.async false
set_option linter.all false
set_option maxRecDepth 100000
set_option maxHeartbeats 4000000
section
open PySem PySem.W PyProof.Rows
local macro_rules
  | `(tactic| o_headL $_) => `(tactic| contradiction)
theorem PuHd.hDum (hF : False) : PySem.Challenge.rw_roadbikes_k58_shell_queries.row.Holds := by
  k_headL
end
namespace PuHd
open PySem PySem.W PySem.Calls PyProof.Rows
noncomputable abbrev hK : Params → Frag := PuHd.hDum.heap_1
def hS (i : Nat) : Stmt := PySem.Challenge.rw_roadbikes_k58_shell_queries.row.prog.main.body.getD i (.Pass ⟨0, 0, 0, 0⟩)
def hq : Program := { PySem.Challenge.rw_roadbikes_k58_shell_queries.row.prog with main := { PySem.Challenge.rw_roadbikes_k58_shell_queries.row.prog.main with body := [hS 0, hS 1, hS 2, hS 3, hS 4, hS 5, hS 6, hS 8, hS 9, hS 10, hS 12, hS 13, hS 14, hS 15, hS 16, hS 17, hS 18, hS 19, hS 20, hS 21, hS 22, hS 23, hS 24, hS 25, hS 26, hS 27, hS 28, hS 29, hS 31, hS 32, hS 33, hS 34, hS 36, hS 37, hS 38, hS 39, hS 40, hS 41, hS 42, hS 43, hS 45, hS 46, hS 47, hS 48, hS 50, hS 51, hS 52, hS 53, hS 54, hS 55, hS 56, hS 58, hS 59, hS 60, hS 61, hS 62, hS 63, hS 64, hS 65, hS 67, hS 68, hS 69, hS 70, hS 71, hS 73, hS 75, hS 76, hS 78, hS 79, hS 80, hS 81, hS 82, hS 83, hS 84, hS 85, hS 86, hS 87, hS 88, hS 89, hS 90] } }
def hLo : List Str := [Str.ofString "LIMIT", Str.ofString "MAX_START", Str.ofString "EDIT_LENGTHS", Str.ofString "Promise", Str.ofString "Trip", Str.ofString "PromisedTrip"]
def hLv : List (Str × WData) := [(Str.ofString "LIMIT", WData.int 10000000), (Str.ofString "MAX_START", WData.int 1000000)]
noncomputable abbrev hEnd (w : World) (os : OsState) := HeadRun.endF (HeadRun.stepQ (HeadRun.denQ HeadRun.tabQ) PySem.Challenge.rw_roadbikes_k58_shell_queries.row.prog w) 16488 PySem.Challenge.rw_roadbikes_k58_shell_queries.row.prog w os
noncomputable abbrev hSeen (s : Shared) := HeadRun.seenQ hq hLo (importedModules PySem.Challenge.rw_roadbikes_k58_shell_queries.row.prog.main.body) (fun s => xlAt hq hLv s && recOk PySem.Challenge.rw_roadbikes_k58_shell_queries.row.records s) s
noncomputable def PhA (w : World) (os : OsState) : Prop := Option.map (fun s => ((HeadRun.looksF PySem.Challenge.rw_roadbikes_k58_shell_queries.row.prog (boot_heap w.params) s.abs, ((hK w.params).map fun p => p.1).map (HeadRun.getT s)), (hSeen s.abs).2.1)) (hEnd w os) = some (((true, (hK w.params).map fun x => some x.2), bltViewBooted))
noncomputable def PhB (w : World) (os : OsState) : Prop := Option.map (fun s => ((hSeen s.abs).1)) (hEnd w os) = some ((expectedOf hq))
noncomputable def PhD (w : World) (os : OsState) : Prop := Option.map (fun s => ((hSeen s.abs).2.2.1, (hSeen s.abs).2.2.2.1, (hSeen s.abs).2.2.2.2.1)) (hEnd w os) = some ((true, true, pinGoodD (drecsOf hq)))
noncomputable def PhG (w : World) (os : OsState) : Prop := Option.map (fun s => ((hSeen s.abs).2.2.2.2.2.1)) (hEnd w os) = some ((plainGoodE hq (looseW hq hLo)))
noncomputable def PhJ (w : World) (os : OsState) : Prop := Option.map (fun s => ((hSeen s.abs).2.2.2.2.2.2.1, (hSeen s.abs).2.2.2.2.2.2.2.1, (hSeen s.abs).2.2.2.2.2.2.2.2)) (hEnd w os) = some ((plainGoodD hq hLo, wideGood hq, clsGoodW hq hLo))
theorem hBoth {P : World → OsState → Prop} (r : String) (t : ∀ (w : World) (os : OsState), P (w.withFollow r true) os) (f : ∀ (w : World) (os : OsState), P (w.withFollow r false) os) (w : World) (os : OsState) : P w os := by
  have e := World.withFollow_self w r
  cases h : w.params.followText r with
  | true => rw [h] at e; exact e ▸ t w os
  | false => rw [h] at e; exact e ▸ f w os
theorem run9 {α A B C D E F H I J : Type} {o : Option α} {S : α → A × B × C × D × E × F × H × I × J} {G : A × B × C × D × E × F × H × I × J} (x : o.map (fun s => (S s).1) = some G.1) (y : o.map (fun s => (S s).2.1) = some G.2.1)
    (u : o.map (fun s => ((S s).2.2.1, (S s).2.2.2.1, (S s).2.2.2.2.1)) = some (G.2.2.1, G.2.2.2.1, G.2.2.2.2.1)) (v : o.map (fun s => (S s).2.2.2.2.2.1) = some G.2.2.2.2.2.1) (t : o.map (fun s => ((S s).2.2.2.2.2.2.1, (S s).2.2.2.2.2.2.2.1, (S s).2.2.2.2.2.2.2.2)) = some (G.2.2.2.2.2.2.1, G.2.2.2.2.2.2.2.1, G.2.2.2.2.2.2.2.2)) : o.map S = some G := by
  cases o with
  | none => cases x
  | some s =>
    simp only [Option.map_some, Option.some.injEq, Prod.mk.injEq] at x y u v t ⊢
    exact Prod.ext x (Prod.ext y (Prod.ext u.1 (Prod.ext u.2.1 (Prod.ext u.2.2 (Prod.ext v (Prod.ext t.1 (Prod.ext t.2.1 t.2.2)))))))
theorem oFst {α A B : Type} {o : Option α} {f : α → A} {g : α → B} {a : A} {b : B} (x : o.map (fun s => (f s, g s)) = some (a, b)) : o.map f = some a := by
  cases o with
  | none => cases x
  | some s =>
    simp only [Option.map_some, Option.some.injEq, Prod.mk.injEq] at x ⊢
    exact x.1
theorem oSnd {α A B : Type} {o : Option α} {f : α → A} {g : α → B} {a : A} {b : B} (x : o.map (fun s => (f s, g s)) = some (a, b)) : o.map g = some b := by
  cases o with
  | none => cases x
  | some s =>
    simp only [Option.map_some, Option.some.injEq, Prod.mk.injEq] at x ⊢
    exact x.2
theorem run2 {α A B C : Type} {o : Option α} {f : α → A} {g : α → B} {h : α → C} {a : A} {b : B} {c : C} (x : o.map (fun s => (f s, h s)) = some (a, c)) (y : o.map g = some b) : o.map (fun s => (f s, g s, h s)) = some (a, b, c) := by
  cases o with
  | none => cases x
  | some s =>
    simp only [Option.map_some, Option.some.injEq, Prod.mk.injEq] at x y ⊢
    exact ⟨x.1, y, x.2⟩
end PuHd
namespace PuHd
open PySem PySem.W PySem.Calls PyProof.Rows
set_option maxHeartbeats 0 in
theorem hAt (w : World) (os : OsState) : PhA (w.withFollow "special-get-raises" true) os := by
  unfold PhA
  kernel_rfl
end PuHd
namespace PuHd
open PySem PySem.W PySem.Calls PyProof.Rows
set_option maxHeartbeats 0 in
theorem hAf (w : World) (os : OsState) : PhA (w.withFollow "special-get-raises" false) os := by
  unfold PhA
  kernel_rfl
end PuHd
namespace PuHd
open PySem PySem.W PySem.Calls PyProof.Rows
set_option maxHeartbeats 0 in
theorem hBt (w : World) (os : OsState) : PhB (w.withFollow "special-get-raises" true) os := by
  unfold PhB
  kernel_rfl
end PuHd
namespace PuHd
open PySem PySem.W PySem.Calls PyProof.Rows
set_option maxHeartbeats 0 in
theorem hBf (w : World) (os : OsState) : PhB (w.withFollow "special-get-raises" false) os := by
  unfold PhB
  kernel_rfl
end PuHd
namespace PuHd
open PySem PySem.W PySem.Calls PyProof.Rows
set_option maxHeartbeats 0 in
theorem hDt (w : World) (os : OsState) : PhD (w.withFollow "special-get-raises" true) os := by
  unfold PhD
  kernel_rfl
end PuHd
namespace PuHd
open PySem PySem.W PySem.Calls PyProof.Rows
set_option maxHeartbeats 0 in
theorem hDf (w : World) (os : OsState) : PhD (w.withFollow "special-get-raises" false) os := by
  unfold PhD
  kernel_rfl
end PuHd
namespace PuHd
open PySem PySem.W PySem.Calls PyProof.Rows
set_option maxHeartbeats 0 in
theorem hGt (w : World) (os : OsState) : PhG (w.withFollow "special-get-raises" true) os := by
  unfold PhG
  kernel_rfl
end PuHd
namespace PuHd
open PySem PySem.W PySem.Calls PyProof.Rows
set_option maxHeartbeats 0 in
theorem hGf (w : World) (os : OsState) : PhG (w.withFollow "special-get-raises" false) os := by
  unfold PhG
  kernel_rfl
end PuHd
namespace PuHd
open PySem PySem.W PySem.Calls PyProof.Rows
set_option maxHeartbeats 0 in
theorem hJt (w : World) (os : OsState) : PhJ (w.withFollow "special-get-raises" true) os := by
  unfold PhJ
  kernel_rfl
end PuHd
namespace PuHd
open PySem PySem.W PySem.Calls PyProof.Rows
set_option maxHeartbeats 0 in
theorem hJf (w : World) (os : OsState) : PhJ (w.withFollow "special-get-raises" false) os := by
  unfold PhJ
  kernel_rfl
end PuHd
namespace Rb
open PySem PySem.Spec PyProof.Rows L2
/-! repr of data -/
/-! sum of a tuple of ints -/
def rSumT (K : PySem.W.Frag) : List V → Hp → VK → Prop := fun vs H Q => ∃ (a : Addr) (ns : List Int), vs = [V.ref a] ∧ SqT K H a (ns.map V.int) ∧ Q (.int ns.sum) H
theorem isTup_isTuple {h : Heap} {a : Addr} {items : Array Value} (x : IsTup h a items) : h.IsTuple a items := by
  obtain ⟨o, e, c, n, d⟩ := x
  exact ⟨o, e, c, n, d⟩
theorem cr_sumT {X : Cx} (hc : X.calm = true) : CallR X (.builtin "sum") (rSumT X.K) := by
  intro pins s σ H vs us Q I r h
  obtain ⟨a, ns, rfl, hs, q⟩ := h
  obtain ⟨its, rv, hl, _⟩ := I.tuple hs
  rw [Vals.ref1 r]
  have hi := rv.ints
  obtain ⟨xs, e⟩ := hi.allInts.items
  have hn : numsOf (intItems xs).toList = ns := by rw [← e]; exact hi.numsOf
  rw [nums_intItems] at hn
  rw [e] at hl
  have hl2 := isTup_isTuple hl
  have hh := I.ok.hd hc
  have hlt : a < s.heap.objs.size := by obtain ⟨_, e, _⟩ := hl2; exact Heap.lt_size e
  refine call_sum_walkG (wpAny_pyIter_tuple hl2 ?_)
  refine ⟨s.heap.objs.size, _, _, _, _, _, numAt xs, rfl, Walks.tuple (A := X.A.in1) hh _ a (Nat.ne_of_lt hlt) (intItems xs), ⟨⟨_, Heap.get?_push_size _ rfl, rfl, rfl⟩, hl2.push _⟩, ?_, fun _ _ => intItems_at, fun h' tk t' hk => ?_⟩
  · intro b hb
    show b < (s.heap.push _).objs.size
    rw [Heap.size_push]
    rcases List.mem_cons.mp hb with rfl | hb
    · exact Nat.lt_succ_self _
    · rcases List.mem_cons.mp hb with rfl | hb
      · exact Nat.lt_succ_of_lt hlt
      · cases hb
  · have hk2 : ∀ b o, s.heap.get? b = some o → h'.get? b = some o := fun b o eb => hk b o (fun hm => by
      simp only [List.mem_cons, List.not_mem_nil, or_false] at hm
      exact absurd (hm ▸ Heap.lt_size eb) (Nat.lt_irrefl _)) (Heap.get?_push_of_some _ eb)
    have z : preSum (numAt xs) (intItems xs).size = ns.sum := by
      rw [preSum_eq, List.take_of_length_le (by simp [intItems]), hn]
    rw [z]
    exact ⟨.int _, H, I.kept hk2, ⟨_, rfl⟩, q⟩
end Rb
namespace Rb
open PySem PySem.Spec PyProof.Rows L2
/-! defs that are run where no repr is under way -/
structure FnG (pr : Program) (wo : World) (K : PySem.W.Frag) (mg : Str → Option Value) (b0 : Heap) (cx : CXT) (lv : Nat) (fn : Addr) (dat : FuncData) (pars : List Str) (sp : Sp) : Prop where
  many : ∀ xs H Q E, sp xs H Q E → xs.length = pars.length
  goes : ∀ (A : Around) (out : List Env) (s : Shared) (H : Hp) (ar : Args) (us : List Value) (xs : List V) (Q : VK) (E : XK),
    Room lv A → A.guards = some [] → Env0 pr wo K mg b0 A out s H → BindsTo s dat ar (pars.zip us) → Vals xs us → sp xs H Q E →
    codeAny (model pr wo) A (.call (.ref fn) ar) (CR cx out pr wo H s Q E) s
section
variable {pr : Program} {wo : World} {K : PySem.W.Frag} {mg : Str → Option Value} {b0 : Heap} {cx : CXT} {lv : Nat} {fn : Addr} {dat : FuncData} {pars : List Str} {sp : Sp}
theorem FnG.of (F : FnOk pr wo K mg b0 cx lv fn dat pars sp) : FnG pr wo K mg b0 cx lv fn dat pars sp :=
  ⟨F.len, fun A out s H ar us xs Q E h1 _ h2 h3 h4 h5 => F.run A out s H ar us xs Q E h1 h2 h3 h4 h5⟩
end
section
variable {pr : Program} {wo : World} {K : PySem.W.Frag} {mg : Str → Option Value} {b0 : Heap} {lv : Nat} {sp : Sp}
theorem fnG_of {cx : CXT} {fn : Addr} {nm qn : Str} {pm : Arguments} {bd : List Stmt} {sco : Scope} {dV kV dc pv cdv ct oc : Value} {an od : Option Addr} {osl : Array (Option Value)} {NN pars : List Str}
    (at_ : K.lookup fn = some ⟨oc, od, .func (PySem.W.fnOf nm qn pm bd sco dV kV dc pv an cdv ct), osl⟩) (code : PySem.W.codeIn K cdv qn = true) (S : FnScope NN pars sco)
    (many : ∀ xs H Q E, sp xs H Q E → xs.length = pars.length)
    (body : ∀ (A : Around) (out : List Env) (s : Shared) (H : Hp) (xs : List V) (Q : VK) (E : XK), A.guards = some [] → Room lv (A.deeper (envOfC qn sco s.heap.objs.size fn cdv)) → sp xs H Q E →
      ∃ t, PSs (cxOf cx pr wo K mg b0 NN qn sco fn cdv A out s H E) bd t ∧ t { nx := fun _ H' => Q .non H', rt := Q } (start NN xs) H) :
    FnG pr wo K mg b0 cx (lv + 1) fn (PySem.W.fnOf nm qn pm bd sco dV kV dc pv an cdv ct) pars sp := by
  constructor
  · exact many
  intro A out s H ar us xs Q E rm gd e0 bi vx pro
  have old : ∀ b o, b0.get? b = some o → s.heap.get? b = some o := fun b o e => (e0.bs b o e).1
  have kin : K.In s.heap := e0.mod.kin.keeps old
  refine codeAny_call_function rm.depth (kin _ _ at_) rfl S.co S.gen rfl (PySem.W.codeRec_of kin code) (bi _ _ _ _ ?_)
  refine wpAny_newFunctionEnv_cells S.kind ?_ ?_
  · rintro ⟨n, v⟩ hy
    cases S.par n (List.of_mem_zip hy).1 with
    | inl q => exact Or.inl q
    | inr q => exact Or.inr ⟨q, PySem.W.cellsFrom_some _ _ _ (Or.inl q)⟩
  intro env he s1 ic
  subst he
  refine ⟨(e0.mod.nolimit.keeps old).keeps ic.toInCall.keep, codeAny_func ?_⟩
  obtain ⟨t, ht, rd⟩ := body A out s H xs Q E gd (rm.deeper _) pro
  have I : Inv (cxOf cx pr wo K mg b0 NN qn sco fn cdv A out s H E) [] (start NN xs) H s1 := inv_start S rm.hd e0 (many _ _ _ _ pro) vx ic
  refine wpAny_mono (ht.run [] s1 (start NN xs) H _ I rd) ?_ (fun _ _ z => z)
  intro fl s2 hs
  match fl, hs with
  | .ret u, ⟨v, σ2, H2, J, rv, q⟩ => exact ⟨v, H2, J.os, J.bare, J.base, J.hok, rv, q⟩
  | .next, ⟨σ2, H2, J, q⟩ => exact ⟨V.non, H2, J.os, J.bare, J.base, J.hok, rfl, q⟩
  | .brk, ⟨_, _, _, q⟩ => exact (q : False).elim
  | .cont, ⟨_, _, _, q⟩ => exact (q : False).elim
/-- a def of the text that is run where no repr is under way -/
theorem okG {x qn : Str} {st : Stmt} {fn : Addr} {dat : FuncData} {NN pars : List Str} (F : Fun K x qn st fn dat) (S : FnScope NN pars (defScope st)) (many : ∀ xs H Q E, sp xs H Q E → xs.length = pars.length)
    (body : ∀ (cdv : Value) (A : Around) (out : List Env) (s : Shared) (H : Hp) (xs : List V) (Q : VK) (E : XK), A.guards = some [] → Room lv (A.deeper (envOfC qn (defScope st) s.heap.objs.size fn cdv)) → sp xs H Q E →
      ∃ t, PSs (cxOf CX0 pr wo K mg b0 NN qn (defScope st) fn cdv A out s H E).nox (defBody st) t ∧ t { nx := fun _ H' => Q .non H', rt := Q } (start NN xs) H) :
    FnG pr wo K mg b0 CX0 (lv + 1) fn dat pars sp := by
  obtain ⟨oc, od, kV, dc, pv, an, cdv, ct, osl, rfl, at_, code⟩ := F.ex
  refine fnG_of at_ code S many fun A out s H xs Q E gd rm pro => ?_
  obtain ⟨t, h, q⟩ := body cdv A out s H xs Q E gd rm pro
  exact ⟨t, h.nox, q⟩
end
/-- the law's own call: the script is all that is known of the heap -/
theorem lawG {pr : Program} {wo : World} {K : PySem.W.Frag} {mg mb : Str → Option Value} {lv : Nat} {fn sc : Addr} {dat : FuncData} {x : Str} {sp : Sp} {s : Shared} {us : List Value} {ns : List Int}
    (kin : K.In s.heap) (gns : s.heap.Ns mainGlobals mg) (bns : s.heap.Ns builtinsNs mb) (boot : ∀ y : Str, y ≠ "__name__" → mb y = bootBuiltins y) (nol : s.heap.NoLimit) (ge : s.gens = #[])
    (at_ : s.heap.get? sc = some { cls := .type "list", data := .seq us.toArray }) (ia : IntsAre us ns) (few : ns.length ≤ sizeLine) (rm : Room lv callerA)
    (F : ∀ b0 : Heap, K.In b0 → b0.Ns mainGlobals mg → FnG pr wo K mg b0 CX0 lv fn dat [x] sp) (bi : ∀ (z : Shared) (u : Value), BindsTo z dat ⟨[u], []⟩ [(x, u)])
    (pro : ∀ H : Hp, SqL K H sc (ns.map V.int) → sp [.ref sc] H (fun v _ => v = .bl true) fun _ _ _ => False) :
    codeAny (model pr wo) callerA (.call (.ref fn) ⟨[.ref sc], []⟩) (fun r z => r = .ok (.ret (.bool true)) ∧ OldK s.heap z.heap ∧ z.os = s.os ∧ AllBare z.gens) s := by
  have go : ∀ H : Hp, (∀ b o, H b = some o → b = sc ∧ ∃ ob xs, o = .frz ob (.lst xs)) → SqL K H sc (ns.map V.int) → HOk pr wo H s.heap → (H sc ≠ none → K.lookup sc = none) →
      codeAny (model pr wo) callerA (.call (.ref fn) ⟨[.ref sc], []⟩) (fun r z => r = .ok (.ret (.bool true)) ∧ OldK s.heap z.heap ∧ z.os = s.os ∧ AllBare z.gens) s := by
    intro H one sq hok notK
    have dicts : ∀ {b : Addr} {o : Obj} {es : Array DictEntry} {ep : Nat}, s.heap.get? b = some o → o.data = .dict es ep → H b = none := by
      intro b o es ep e d
      match q : H b with
      | none => rfl
      | some u =>
        obtain ⟨rfl, _⟩ := one b u q
        rw [at_] at e
        cases e
        cases (show Data.seq us.toArray _ = Data.dict es ep from d)
    have names : ∀ {b : Addr} {m : Str → Option Value}, s.heap.Ns b m → (hidT s.heap H).Ns b m := by
      rintro b m ⟨o, es, ep, e, d, r⟩
      exact ⟨o, es, ep, hidT_get e (dicts e d), d, r⟩
    have kin2 : K.In (hidT s.heap H) := by
      intro b o e
      refine hidT_get (kin b o e) ?_
      match q : H b with
      | none => rfl
      | some u =>
        obtain ⟨rfl, _⟩ := one b u q
        rw [notK (by rw [q]; exact Option.some_ne_none u)] at e
        cases e
    have md : Mod K mg (hidT s.heap H) := by
      obtain ⟨mc, n1, n2⟩ := nol
      exact ⟨kin2, names gns, ⟨mb, names bns, boot⟩, ⟨mc, names n1, n2⟩⟩
    have env : Env0 pr wo K mg (hidT s.heap H) callerA [] s H :=
      { frames := rfl, mod := md, bs := fun _ _ e => of_hidT e, bsz := Nat.le_of_eq (hidT_size _ _), funs := trivial, frf := (fun _ z => nomatch z), hok := hok, bare := .of_eq ge }
    refine codeAny_mono ((F _ kin2 (names gns)).goes callerA [] s H ⟨[.ref sc], []⟩ [.ref sc] [.ref sc] _ _ rm rfl env (bi s (.ref sc)) (.cons rfl .nil) (pro H sq)) ?_
    intro res z fin
    match res, fin with
    | .error e, fin => exact (fin : False).elim
    | .ok .next, fin => exact (fin : False).elim
    | .ok .brk, fin => exact (fin : False).elim
    | .ok .cont, fin => exact (fin : False).elim
    | .ok (.ret u), ⟨v, H2, os, bare, un, hok2, rv, q⟩ =>
      cases (q : v = .bl true)
      cases (rv : u = Value.bool true)
      refine ⟨rfl, OldK.of_keep ?_, os, bare⟩
      intro b o e
      match w : H b with
      | none => exact un.keep b o e w (fun z => nomatch z) (fun z => nomatch z)
      | some uo =>
        obtain ⟨rfl, ob, xs, rfl⟩ := one b uo w
        have e1 := (hok b _ w).1
        have e2 := (hok2 b _ (un.frzs b ob _ w)).1
        exact e2.trans (e1.symm.trans e)
  have vx := vals_ints ia
  have ln := ia.length
  match kk : K.lookup sc with
  | some o =>
    have e := kin sc o kk
    rw [at_] at e
    cases e
    exact go (fun _ => none) (fun _ _ z => nomatch z) (.inr ⟨_, us.toArray, _, kk, rfl, rfl, rfl, by rw [List.size_toArray, ln]; exact few, by simpa using vx⟩) (fun _ _ z => nomatch z) (fun z => absurd rfl z)
  | none =>
    let one : HO := .frz { cls := .type "list", data := .seq us.toArray } (.lst (ns.map V.int))
    refine go (upd (fun _ => none) sc one) ?_ (.inl (.inr ⟨_, upd_same⟩)) ?_ (fun _ => kk)
    · intro b o z
      by_cases hb : b = sc
      · subst hb
        rw [upd_same] at z
        cases z
        exact ⟨rfl, _, _, rfl⟩
      · rw [upd_ne hb] at z
        cases z
    · intro b o z
      by_cases hb : b = sc
      · subst hb
        rw [upd_same] at z
        cases z
        exact ⟨at_, by rw [List.length_map]; exact few, us, _, vx, at_⟩
      · rw [upd_ne hb] at z
        cases z
end Rb
namespace Rb
open PySem PySem.Spec PyProof.Rows L2
/-! the deck: a list of the cells and the count of draws -/
def Dk (H : Hp) (d c : Addr) (N : Int) : Prop := ∃ (cs : List Int) (n : Int), H d = some (.lst [.ref c, .int n]) ∧ H c = some (.lst (cs.map V.int)) ∧ cs.length ≤ 63 ∧ (∀ x ∈ cs, 0 ≤ x) ∧ 0 ≤ n ∧ n ≤ N
/-- all but the deck is kept -/
def Kp (d c : Addr) (H H' : Hp) : Prop := ∀ b o, H b = some o → b ≠ d → b ≠ c → H' b = some o
theorem Kp.refl {d c : Addr} {H : Hp} : Kp d c H H := fun _ _ e _ _ => e
theorem Kp.trans {d c : Addr} {H H1 H2 : Hp} (a : Kp d c H H1) (b : Kp d c H1 H2) : Kp d c H H2 := fun x o e n1 n2 => b x o (a x o e n1 n2) n1 n2
theorem Kp.ex {d c : Addr} {H H1 : Hp} (a : Evl.Ex H H1) : Kp d c H H1 := fun x o e _ _ => a x o e
theorem Kp.new {d c : Addr} {H : Hp} {p : Addr} {o : HO} (h : H p = none) : Kp d c H (upd H p o) := Kp.ex (Evl.Ex.new h)
theorem Dk.ex {H H' : Hp} {d c : Addr} {N : Int} (h : Dk H d c N) (e : Evl.Ex H H') : Dk H' d c N := by
  obtain ⟨cs, n, h1, h2, r⟩ := h
  exact ⟨cs, n, e _ _ h1, e _ _ h2, r⟩
theorem Dk.new {H : Hp} {d c p : Addr} {N : Int} {o : HO} (h : Dk H d c N) (hp : H p = none) : Dk (upd H p o) d c N := h.ex (Evl.Ex.new hp)
theorem Dk.le {H : Hp} {d c : Addr} {N M : Int} (h : Dk H d c N) (e : N ≤ M) : Dk H d c M := by
  obtain ⟨cs, n, h1, h2, h3, h4, h5, h6⟩ := h
  exact ⟨cs, n, h1, h2, h3, h4, h5, by omega⟩
theorem Dk.ne1 {H : Hp} {d c p : Addr} {N : Int} (h : Dk H d c N) (hp : H p = none) : p ≠ d := by
  obtain ⟨cs, n, h1, _⟩ := h
  rintro rfl
  rw [h1] at hp
  cases hp
theorem Dk.ne2 {H : Hp} {d c p : Addr} {N : Int} (h : Dk H d c N) (hp : H p = none) : p ≠ c := by
  obtain ⟨cs, n, _, h1, _⟩ := h
  rintro rfl
  rw [h1] at hp
  cases hp
/-- fresh behind is fresh before -/
theorem Kp.fresh {d c p : Addr} {H H' : Hp} {N : Int} (k : Kp d c H H') (h : Dk H' d c N) (hp : H' p = none) : H p = none := by
  cases e : H p with
  | none => rfl
  | some o =>
    rw [k p o e (h.ne1 hp) (h.ne2 hp)] at hp
    cases hp
theorem Kp.sqT {K : PySem.W.Frag} {d c a : Addr} {H H' : Hp} {N : Int} {xs : List V} (k : Kp d c H H') (h : Dk H d c N) (hs : SqT K H a xs) : SqT K H' a xs := by
  obtain ⟨cs, n, h1, h2, _⟩ := h
  have go : ∀ u : HO, (∀ ys, u ≠ .lst ys) → H a = some u → H' a = some u := fun u nu e => k a u e
    (by rintro rfl; rw [h1] at e; exact nu _ (Option.some.inj e).symm) (by rintro rfl; rw [h2] at e; exact nu _ (Option.some.inj e).symm)
  rcases hs with (e | ⟨o, e⟩) | e
  · exact .inl (.inl (go _ (fun _ z => nomatch z) e))
  · exact .inl (.inr ⟨o, go _ (fun _ z => nomatch z) e⟩)
  · exact .inr e
theorem lstOf {K : PySem.W.Frag} {H : Hp} {a : Addr} {xs : List V} (h : H a = some (.lst xs)) : SqL K H a xs := .inl (.inl h)
/-! picks from short lists -/
theorem sz_le {n : Nat} (h : n ≤ 100000) : n ≤ sizeLine := Evl.sz_of h
/-- slices from the beginning -/
theorem cut_to {xs : List V} {k : Nat} : cutV xs none (some (k : Int)) = xs.take k := by
  unfold cutV
  rw [HT.sIx_none, HT.sIx_nat]
  show List.take (min k xs.length - 0) (xs.drop 0) = _
  rw [List.drop_zero, Nat.sub_zero]
  rcases Nat.le_total k xs.length with h | h
  · rw [Nat.min_eq_left h]
  · rw [Nat.min_eq_right h, List.take_length, List.take_of_length_le h]
/-! a road -/
def Road (K : PySem.W.Frag) (H : Hp) (v : V) (w r : Int) (bs : List Int) : Prop := ∃ a b, v = .ref a ∧ SqT K H a [.int w, .int r, .ref b] ∧ SqT K H b (bs.map V.int)
theorem Road.kp {K : PySem.W.Frag} {d c : Addr} {H H' : Hp} {N : Int} {v : V} {w r : Int} {bs : List Int} (x : Road K H v w r bs) (k : Kp d c H H') (h : Dk H d c N) : Road K H' v w r bs := by
  obtain ⟨a, b, e, h1, h2⟩ := x
  exact ⟨a, b, e, k.sqT h h1, k.sqT h h2⟩
theorem Road.ex {K : PySem.W.Frag} {H H' : Hp} {v : V} {w r : Int} {bs : List Int} (x : Road K H v w r bs) (k : Evl.Ex H H') : Road K H' v w r bs := by
  obtain ⟨a, b, e, h1, h2⟩ := x
  exact ⟨a, b, e, Evl.ex_t k h1, Evl.ex_t k h2⟩
/-! data of ints: what repr shows -/
theorem DpAll.ints {K : PySem.W.Frag} {H : Hp} : ∀ ns : List Int, DpAll K H (ns.map V.int) (ns.map PyData.int)
  | [] => .nil
  | n :: ns => .cons (.int n) (DpAll.ints ns)
def roadD (w r : Int) (bs : List Int) : PyData := .tuple [.int w, .int r, .tuple (bs.map .int)]
/-! data that repr shows: what it asks, by parts -/
structure Nice (k n : Nat) (d : PyData) : Prop where
  sh : d.showable = true
  lv : d.leavesShort 100 = true
  dep : d.depth ≤ k
  blk : d.bulk ≤ n
theorem Nice.mono {k n k' n' : Nat} {d : PyData} (h : Nice k n d) (h1 : k ≤ k') (h2 : n ≤ n') : Nice k' n' d := ⟨h.sh, h.lv, Nat.le_trans h.dep h1, Nat.le_trans h.blk h2⟩
theorem Nice.int {i : Int} (h : i.natAbs < 10 ^ 99) : Nice 0 0 (.int i) := by
  refine ⟨?_, ?_, Nat.le_refl _, Nat.le_refl _⟩
  · simp only [PyData.showable, decide_eq_true_eq]
    by_cases z : i.natAbs = 0
    · rw [z]; decide
    · refine (Nat.log2_lt z).mpr (Nat.lt_of_lt_of_le h ?_)
      decide +kernel
  · simp only [PyData.leavesShort, decide_eq_true_eq, PyData.shown]
    refine decide_eq_true ?_
    rw [PySem.ofString_length]
    exact int_text_length_le10 (k := 99) (by decide) h
theorem Nice.none : Nice 0 0 .none := ⟨rfl, rfl, Nat.le_refl _, Nat.le_refl _⟩
theorem Nice.bool {b : Bool} : Nice 0 0 (.bool b) := ⟨rfl, rfl, Nat.le_refl _, Nat.le_refl _⟩
theorem Nice.str {x : Str} {n : Nat} (h : x.cps.size ≤ n) (hx : ∀ c ∈ x.cps.toList, c < 16 ^ 8) : Nice 0 n (.str x) := by
  refine ⟨rfl, ?_, Nat.le_refl _, h⟩
  simpa only [PyData.leavesShort, List.all_eq_true, decide_eq_true_eq] using hx
theorem nice_all {k n : Nat} : ∀ {xs : List PyData}, (∀ x ∈ xs, Nice k n x) → PyData.showableAll xs = true ∧ PyData.leavesShortAll 100 xs = true ∧ PyData.depthAll xs ≤ k ∧ PyData.bulkAll xs ≤ xs.length * (n + 1)
  | [], _ => ⟨rfl, rfl, Nat.zero_le _, Nat.zero_le _⟩
  | x :: xs, h => by
    obtain ⟨a, b, c, d⟩ := nice_all (xs := xs) fun y hy => h y (List.mem_cons_of_mem _ hy)
    have hx := h x List.mem_cons_self
    refine ⟨?_, ?_, ?_, ?_⟩
    · simp only [PyData.showableAll, hx.sh, a, Bool.and_true]
    · simp only [PyData.leavesShortAll, hx.lv, b, Bool.and_true]
    · simp only [PyData.depthAll]
      exact Nat.max_le.mpr ⟨hx.dep, c⟩
    · simp only [PyData.bulkAll, List.length_cons]
      have := hx.blk
      rw [Nat.add_mul]
      omega
theorem Nice.tup {k n m : Nat} {xs : List PyData} (h : ∀ x ∈ xs, Nice k n x) (hm : xs.length * (n + 1) ≤ m) : Nice (k + 1) m (.tuple xs) := by
  obtain ⟨a, b, c, d⟩ := nice_all h
  exact ⟨by simpa only [PyData.showable] using a, by simpa only [PyData.leavesShort] using b, by simp only [PyData.depth]; omega, by simp only [PyData.bulk]; omega⟩
theorem Nice.lst {k n m : Nat} {xs : List PyData} (h : ∀ x ∈ xs, Nice k n x) (hm : xs.length * (n + 1) ≤ m) : Nice (k + 1) m (.list xs) := by
  obtain ⟨a, b, c, d⟩ := nice_all h
  exact ⟨by simpa only [PyData.showable] using a, by simpa only [PyData.leavesShort] using b, by simp only [PyData.depth]; omega, by simp only [PyData.bulk]; omega⟩
theorem Nice.ints {ns : List Int} {m : Nat} (h : ∀ i ∈ ns, i.natAbs < 10 ^ 99) (hm : ns.length ≤ m) : Nice 1 m (.tuple (ns.map .int)) := by
  refine Nice.tup (k := 0) (n := 0) (fun x hx => ?_) (by rw [List.length_map]; omega)
  obtain ⟨i, hi, rfl⟩ := List.mem_map.mp hx
  exact Nice.int (h i hi)
/-! comprehensions whose element changes nothing -/
end Rb
namespace Rb
open PySem PySem.Spec PyProof.Rows L2
/-! data without lists: it never changes -/
mutual
inductive Tp (K : PySem.W.Frag) (H : Hp) : V → PyData → Prop
  | non : Tp K H .non .none
  | bl (b : Bool) : Tp K H (.bl b) (.bool b)
  | int (i : Int) : Tp K H (.int i) (.int i)
  | str (x : Str) : Tp K H (.str x) (.str x)
  | tup {a : Addr} {xs : List V} {ds : List PyData} : SqT K H a xs → TpAll K H xs ds → Tp K H (.ref a) (.tuple ds)
inductive TpAll (K : PySem.W.Frag) (H : Hp) : List V → List PyData → Prop
  | nil : TpAll K H [] []
  | cons {v : V} {vs : List V} {d : PyData} {ds : List PyData} : Tp K H v d → TpAll K H vs ds → TpAll K H (v :: vs) (d :: ds)
end
section
variable {K : PySem.W.Frag} {H H' : Hp}
mutual
theorem Tp.keep (k : ∀ a xs, SqT K H a xs → SqT K H' a xs) : ∀ (d : PyData) (v : V), Tp K H v d → Tp K H' v d
  | .none, _, h => by cases h; exact .non
  | .bool b, _, h => by cases h; exact .bl b
  | .int i, _, h => by cases h; exact .int i
  | .str x, _, h => by cases h; exact .str x
  | .list _, _, h => by cases h
  | .dict _, _, h => by cases h
  | .tuple ds, _, h => by
    cases h with
    | tup hs ha => exact .tup (k _ _ hs) (TpAll.keep k ds _ ha)
theorem TpAll.keep (k : ∀ a xs, SqT K H a xs → SqT K H' a xs) : ∀ (ds : List PyData) (vs : List V), TpAll K H vs ds → TpAll K H' vs ds
  | [], _, h => by cases h; exact .nil
  | d :: ds, _, h => by
    cases h with
    | cons h1 h2 => exact .cons (Tp.keep k d _ h1) (TpAll.keep k ds _ h2)
end
theorem Tp.ex {v : V} {d : PyData} (h : Tp K H v d) (e : Evl.Ex H H') : Tp K H' v d := Tp.keep (fun _ _ z => Evl.ex_t e z) d v h
theorem TpAll.ex {vs : List V} {ds : List PyData} (h : TpAll K H vs ds) (e : Evl.Ex H H') : TpAll K H' vs ds := TpAll.keep (fun _ _ z => Evl.ex_t e z) ds vs h
theorem Tp.kp {d c : Addr} {N : Int} {v : V} {x : PyData} (h : Tp K H v x) (k : Kp d c H H') (dk : Dk H d c N) : Tp K H' v x := Tp.keep (fun _ _ z => k.sqT dk z) x v h
theorem TpAll.kp {d c : Addr} {N : Int} {vs : List V} {ds : List PyData} (h : TpAll K H vs ds) (k : Kp d c H H') (dk : Dk H d c N) : TpAll K H' vs ds := TpAll.keep (fun _ _ z => k.sqT dk z) ds vs h
theorem TpAll.snoc {v : V} {d : PyData} : ∀ {vs : List V} {ds : List PyData}, TpAll K H vs ds → Tp K H v d → TpAll K H (vs ++ [v]) (ds ++ [d])
  | _, _, .nil, h => .cons h .nil
  | _, _, .cons h1 h2, h => .cons h1 (TpAll.snoc h2 h)
theorem TpAll.length : ∀ {vs : List V} {ds : List PyData}, TpAll K H vs ds → vs.length = ds.length
  | _, _, .nil => rfl
  | _, _, .cons _ h => congrArg (· + 1) (TpAll.length h)
theorem TpAll.ints : ∀ ns : List Int, TpAll K H (ns.map V.int) (ns.map PyData.int)
  | [] => .nil
  | n :: ns => .cons (.int n) (TpAll.ints ns)
theorem Tp.tupI {a : Addr} {ns : List Int} (h : SqT K H a (ns.map V.int)) : Tp K H (.ref a) (.tuple (ns.map .int)) := .tup h (TpAll.ints ns)
theorem Road.tp {v : V} {w r : Int} {bs : List Int} (x : Road K H v w r bs) : Tp K H v (roadD w r bs) := by
  obtain ⟨a, b, rfl, h1, h2⟩ := x
  exact .tup h1 (.cons (.int w) (.cons (.int r) (.cons (Tp.tupI h2) .nil)))
end
/-! a comprehension over a range whose elements are such data -/
end Rb
namespace Rb
open PySem PySem.Spec PyProof.Rows L2
/-! enumerate of a tuple -/
abbrev tIter (t : Addr) : Obj := { cls := .type "tuple_iterator", data := .fields #[.ref t, .int 0 0] }
abbrev enObj (it : Addr) : Obj := { cls := .type "enumerate", data := .fields #[.none, .bool false, .ref it, rawInt 0, .none, .none] }
open AutoSeq1 (wpAny_loadPart') in
theorem enumTupNew (t : Addr) (its : Array Value) (n : Nat) (dc : Option Addr) (sl : Array (Option Value)) :
    Meets (Builtin.«enumerate.__new__» ⟨[.type "enumerate", .ref t], []⟩) (fun _ R s => s.heap.get? t = some { cls := .type "tuple", dict := dc, data := .seq its n, slots := sl } ∧
      R (.ok (.ret (.ref (s.heap.push (tIter t)).objs.size))) { s with heap := (s.heap.push (tIter t)).push (enObj s.heap.objs.size) }) := by
  refine .of_wp fun pr wo A R s h => ?_
  obtain ⟨hp, g, d, tk, os⟩ := s
  obtain ⟨ht, h⟩ := h
  have hsub := sub_enumerate
  have hT : Heap.IsTuple (Shared.heap ⟨hp, g, d, tk, os⟩) t its := ⟨_, ht, rfl, n, rfl⟩
  wp_walk using wpAny_loadPart' ht
  refine wpAny_stack_any fun st => wpAny_pure ?_
  split
  · rename_i c _ _ _ _ _
    cases (c == Value.type "enumerate") <;> (wp_walk using wpAny_loadPart' ht, wpAny_pyIter_tuple hT; exact ⟨_, rfl, h⟩)
  · wp_walk using wpAny_loadPart' ht, wpAny_pyIter_tuple hT
    exact ⟨_, rfl, h⟩
theorem enumTup {pr : Program} {wo : World} {A : Around} {E : Value → Shared → Prop} {s : Shared} {t : Addr} {its : Array Value} {Q : Value → Shared → Prop} (hT : s.heap.IsTuple t its)
    (h : ∀ h2, IsEnum h2 (s.heap.objs.size + 1) s.heap.objs.size 0 .none → h2.IsTupleIter s.heap.objs.size t 0 → (∀ b o, s.heap.get? b = some o → h2.get? b = some o) → Q (.ref (s.heap.objs.size + 1)) { s with heap := h2 }) :
    wpAny (model pr wo) A (call (.type "enumerate") [.ref t]) Q E s := by
  obtain ⟨⟨c, dc, dt, sl⟩, ht, hc, n, hd⟩ := hT
  cases (show c = .type "tuple" from hc)
  cases (show dt = .seq its n from hd)
  refine callType_new F.called_enumerate (by decide) (F.typeCall_enumerate_1 _) (F.newCall_enumerate_1 _) (fun obj => F.args_object_init_2 obj _) F.entry_enumerate_new (enumTupNew t its n dc sl) ⟨ht, ?_⟩
  have hz : (s.heap.push (tIter t)).objs.size = s.heap.objs.size + 1 := Heap.size_push ..
  have he : IsEnum ((s.heap.push (tIter t)).push (enObj s.heap.objs.size)) (s.heap.objs.size + 1) s.heap.objs.size 0 .none := by
    have q := Heap.get?_push_size (s.heap.push (tIter t)) (o := enObj s.heap.objs.size) rfl
    rw [hz] at q
    exact q
  show _ ∧ _
  rw [hz]
  exact ⟨⟨_, he, rfl⟩, h _ he ⟨_, Heap.get?_push_of_some _ (Heap.get?_push_size _ rfl), rfl, rfl⟩ fun b o x => Heap.get?_push_of_some _ (Heap.get?_push_of_some _ x)⟩
/-- the tuple at a, each item in a new pair with its place -/
def ItE (K : PySem.W.Frag) (a : Addr) : It where
  go i H := ∃ (xs : List V) (x : V), SqT K H a xs ∧ xs[i]? = some x
  yld i H v H' := ∃ T x, v = .ref T ∧ H T = none ∧ H' = upd H T (.tup [.int (i : Nat), x]) ∧ ∀ xs, SqT K H a xs → xs[i]? = some x
  stop i H := ∃ xs : List V, SqT K H a xs ∧ xs.length = i
theorem turnE {pr : Program} {wo : World} {K : PySem.W.Frag} {elts : List Expr} {kk : Nat} {tp : Pos} (a e it : Addr) :
    Turn pr wo K (.Tuple elts kk tp) (ItE K a) [e, it] e (fun i h => (∃ old, IsEnum h e it ((i : Nat) : Int) old) ∧ h.IsTupleIter it a i ∧ e ≠ it ∧ e ≠ a ∧ a ≠ it) := by
  have two : ∀ {b : Addr}, b ∈ [e, it] → b = e ∨ b = it := fun hb => by simpa using hb
  constructor
  case mem => exact List.mem_cons_self
  case obj =>
    rintro i h ⟨⟨old, he⟩, ⟨o, ho, hc, hd⟩, _⟩ b hb
    rcases two hb with rfl | rfl
    · exact ⟨_, he, fun v q => nomatch q⟩
    · exact ⟨o, ho, fun v q => by rw [hd] at q; cases q⟩
  case keep =>
    rintro i h h' ⟨⟨old, he⟩, hi, hn⟩ k
    exact ⟨⟨old, k e List.mem_cons_self _ he⟩, hi.at fun o q => k it (List.mem_cons_of_mem _ List.mem_cons_self) o q, hn⟩
  case item =>
    intro X h1 h2 h3 hc i pins s σ H E I hf st hg
    subst h1 h2 h3
    obtain ⟨⟨old, he⟩, hit, hne, hea, hai⟩ := st
    obtain ⟨xs, x, hq, hx⟩ := hg
    obtain ⟨its, rv, p, hz⟩ := I.tuple hq
    have p2 := isTup_isTuple p
    obtain ⟨u, hu, ru⟩ := rv.get hx
    have hel : e < s.heap.objs.size := Heap.lt_size he
    have hil : it < s.heap.objs.size := by obtain ⟨_, q, _⟩ := hit; exact Heap.lt_size q
    have ilt : i < its.toArray.size := by
      have := (List.getElem?_eq_some_iff.mp hu).1
      simpa using this
    refine wpAny_pyNext_enum_itemD (Draws.tuple (A := X.A.in1) (I.ok.hd hc) it a hai its.toArray) he ⟨hit, p2⟩ ilt hne (fun hm => ?_) fun x2 h' tk hP ho hs hT hsz hk => ?_
    · rcases List.mem_cons.mp hm with z | hm
      · exact hne z
      · exact hea (List.mem_singleton.mp hm)
    have hx2 : x2 = u := by
      have hP' : its.toArray[i]? = some x2 := hP
      rw [List.getElem?_toArray, hu] at hP'
      exact (Option.some.inj hP').symm
    subst hx2
    refine ⟨_, rfl, wpAny_letOwnedTupleGo_enum (s := { s with heap := h', toks := tk + 1 }) ho fun h2 he2 sb => ?_⟩
    have hT2 : h2.get? s.heap.objs.size = some { cls := .type "tuple", data := .seq #[.int i tk, x2] } := (sb.2 _ (Nat.ne_of_gt hel)).trans hT
    have new : ObjOk X.prog X.w (upd H s.heap.objs.size (.tup [.int (i : Nat), x])) h2 s.heap.objs.size (.tup [.int (i : Nat), x]) :=
      ⟨by show 2 ≤ sizeLine; decide, [.int i tk, x2], .cons ⟨_, rfl⟩ (.cons ru .nil), ⟨_, hT2, rfl, _, rfl⟩⟩
    have I1 : Inv X pins σ (upd H s.heap.objs.size (.tup [.int (i : Nat), x])) { s with heap := h2, toks := tk + 1 } :=
      I.turnedNew (ch := [e, it]) (fun b ob hb q => (sb.2 b (fun z => hb (by simp [z]))).trans (hk b ob (fun z => hb (by simp [z])) (fun z => hb (by simp [z])) q)) hf (Nat.le_refl _) new
    refine ⟨.ref s.heap.objs.size, _, I1, rfl, ⟨_, x, rfl, I.hok.fresh (Nat.le_refl _), rfl, fun ys hy => by rw [I.tuple_inj hy hq]; exact hx⟩, ⟨⟨x2, ?_⟩, hs.1.at fun o q => (sb.2 it (Ne.symm hne)).trans q, hne, hea, hai⟩, fun b hb => ?_⟩
    · rw [show ((i + 1 : Nat) : Int) = (i : Int) + 1 by omega]
      exact he2
    · have hb2 : b < s.heap.objs.size := by
        rcases two hb with rfl | rfl
        · exact hel
        · exact hil
      rw [upd_ne (Nat.ne_of_lt hb2)]
      exact (hf b hb).1
  case done =>
    intro X h1 h2 h3 hc i pins s σ H E I hf st hg
    subst h1 h2 h3
    obtain ⟨⟨old, he⟩, hit, hne, hea, hai⟩ := st
    obtain ⟨xs, hq, hx⟩ := hg
    obtain ⟨its, rv, p, hz⟩ := I.tuple hq
    obtain ⟨f0, f1, f2, f3, f4, f5⟩ := hf it (List.mem_cons_of_mem _ List.mem_cons_self)
    have hl := rv.length
    have ei : i = its.toArray.size := by simp; omega
    subst ei
    exact wpAny_pyNext_enum_endD (Draws.tuple (A := X.A.in1) (I.ok.hd hc) it a hai its.toArray) he ⟨hit, isTup_isTuple p⟩ fun h2 eb => ⟨rfl, I.turned (t' := s.toks) (fun b o hb q => eb b o hb q) f0 f1 f3 f4 f5⟩
  case self =>
    rintro A i s Q E ⟨⟨_, he⟩, _⟩ h
    exact wpAny_pyIter_enum he h
def iEnumT (K : PySem.W.Frag) (ta : TA) : TI := fun σ H R => ta σ H fun vs H1 => ∃ a xs, vs = [.ref a] ∧ SqT K H1 a xs ∧ R (ItE K a) H1
theorem pi_enumT {X : Cx} {e : Expr} {ta : TA} {p1 p2 p3 : Pos} {elts : List Expr} {kk : Nat} (gl : Gl X "enumerate") (nm : X.mg "enumerate" = none) (pa : PA X [e] ta) (st : starEach [e] X.env = [(false, eval e X.env)] := by rfl) :
    PI X (.Tuple elts kk p3) (.Call (.Name "enumerate" p1) [e] [] p2) (iEnumT X.K ta) := by
  constructor
  intro pins s σ H R I h
  refine Call_ (ld_blt I gl nm boot_enumerate (PyProof.Rows.callWith_type1 (thn (pa.run p2 pins s σ H _ I h) fun us s1 ⟨vs, H1, I1, r1, q1⟩ => ?_) st rfl))
  obtain ⟨a, xs, rfl, hq, q⟩ := q1
  obtain ⟨u, rfl, ru⟩ := vals1 r1
  cases ru
  obtain ⟨its, rv, p, hz⟩ := I1.tuple hq
  have p2 := isTup_isTuple p
  have alt : a < s1.heap.objs.size := by obtain ⟨_, e, _⟩ := p2; exact Heap.lt_size e
  refine enumTup p2 fun h2 he hit hk => wpAny_pyIter_enum he ?_
  have I2 : Inv X pins σ H1 { s1 with heap := h2 } := I1.kept (t' := s1.toks) hk
  refine ⟨s1.heap.objs.size + 1, [s1.heap.objs.size + 1, s1.heap.objs.size], _, _, H1, rfl, I2, turnE a (s1.heap.objs.size + 1) s1.heap.objs.size, ⟨⟨.none, he⟩, hit, Nat.succ_ne_self _, Nat.ne_of_gt (Nat.lt_succ_of_lt alt), Nat.ne_of_lt alt⟩, fun b hb => ?_, q⟩
  have hle : s1.heap.objs.size ≤ b := by
    rcases List.mem_cons.mp hb with rfl | hb
    · omega
    · rw [List.mem_singleton.mp hb]
      exact Nat.le_refl _
  exact I1.fpOk hle (I1.hok.fresh hle)
/-! loops over pairs: the pair is a new tuple -/
end Rb
namespace Rb
/-! ### plans and ticks: the mathematics -/
def mx (a b : Int) : Int := if b > a then b else a
def leP (p q : Int × Int) : Prop := p.1 < q.1 ∨ (p.1 = q.1 ∧ p.2 ≤ q.2)
instance (p q : Int × Int) : Decidable (leP p q) := inferInstanceAs (Decidable (p.1 < q.1 ∨ (p.1 = q.1 ∧ p.2 ≤ q.2)))
def insB {α : Type} (le : α → α → Bool) (x : α) : List α → List α
  | [] => [x]
  | y :: ys => if le x y = true then x :: y :: ys else y :: insB le x ys
def sortB {α : Type} (le : α → α → Bool) : List α → List α
  | [] => []
  | x :: xs => insB le x (sortB le xs)
theorem insB_perm {α : Type} (le : α → α → Bool) (x : α) : ∀ l : List α, (insB le x l).Perm (x :: l)
  | [] => List.Perm.refl _
  | y :: ys => by
    unfold insB
    split
    · exact List.Perm.refl _
    · exact ((insB_perm le x ys).cons y).trans (List.Perm.swap x y ys)
theorem sortB_perm {α : Type} (le : α → α → Bool) : ∀ l : List α, (sortB le l).Perm l
  | [] => List.Perm.refl _
  | x :: xs => (insB_perm le x _).trans ((sortB_perm le xs).cons x)
theorem insB_sorted {α : Type} {le : α → α → Bool} (tr : ∀ a b c, le a b = true → le b c = true → le a c = true) (tot : ∀ a b, le a b = true ∨ le b a = true) (x : α) : ∀ l : List α, l.Pairwise (fun a b => le a b = true) → (insB le x l).Pairwise (fun a b => le a b = true)
  | [], _ => List.pairwise_singleton _ _
  | y :: ys, h => by
    have hy := List.pairwise_cons.mp h
    unfold insB
    split
    · rename_i c
      refine List.pairwise_cons.mpr ⟨fun z hz => ?_, h⟩
      rcases List.mem_cons.mp hz with rfl | hz
      · exact c
      · exact tr _ _ _ c (hy.1 z hz)
    · rename_i c
      refine List.pairwise_cons.mpr ⟨fun z hz => ?_, insB_sorted tr tot x ys hy.2⟩
      rcases List.mem_cons.mp ((insB_perm le x ys).mem_iff.mp hz) with rfl | hz
      · exact (tot z y).resolve_left c
      · exact hy.1 z hz
theorem sortB_sorted {α : Type} {le : α → α → Bool} (tr : ∀ a b c, le a b = true → le b c = true → le a c = true) (tot : ∀ a b, le a b = true ∨ le b a = true) : ∀ l : List α, (sortB le l).Pairwise (fun a b => le a b = true)
  | [] => List.Pairwise.nil
  | x :: xs => insB_sorted tr tot x _ (sortB_sorted tr tot xs)
def srt (l : List Int) : List Int := sortB (fun a b => decide (a ≤ b)) l
def srtP (l : List (Int × Int)) : List (Int × Int) := sortB (fun a b => decide (leP a b)) l
theorem srt_perm (l : List Int) : (srt l).Perm l := sortB_perm _ l
theorem srtP_perm (l : List (Int × Int)) : (srtP l).Perm l := sortB_perm _ l
theorem srt_sorted (l : List Int) : (srt l).Pairwise (· ≤ ·) := by
  have h := sortB_sorted (le := fun a b : Int => decide (a ≤ b)) (fun a b c h1 h2 => by simp only [decide_eq_true_eq] at *; omega) (fun a b => by simp only [decide_eq_true_eq]; omega) l
  exact h.imp fun h => of_decide_eq_true h
theorem leP_trans {a b c : Int × Int} (h1 : leP a b) (h2 : leP b c) : leP a c := by
  unfold leP at *
  omega
theorem leP_total (a b : Int × Int) : leP a b ∨ leP b a := by
  unfold leP
  omega
theorem srtP_sorted (l : List (Int × Int)) : (srtP l).Pairwise leP := by
  have h := sortB_sorted (le := fun a b : Int × Int => decide (leP a b)) (fun a b c h1 h2 => decide_eq_true (leP_trans (of_decide_eq_true h1) (of_decide_eq_true h2))) (fun a b => by rcases leP_total a b with h | h <;> simp [h]) l
  exact h.imp fun h => of_decide_eq_true h
theorem leP_anti {a b : Int × Int} (h1 : leP a b) (h2 : leP b a) : a = b := by
  obtain ⟨a1, a2⟩ := a
  obtain ⟨b1, b2⟩ := b
  simp only [leP] at h1 h2
  have : a1 = b1 := by omega
  have : a2 = b2 := by omega
  simp [*]
theorem srt_uniq {l m : List Int} (hp : m.Perm l) (hs : m.Pairwise (· ≤ ·)) : m = srt l :=
  List.Perm.eq_of_pairwise (fun a b _ _ h1 h2 => Int.le_antisymm h1 h2) hs (srt_sorted l) (hp.trans (srt_perm l).symm)
theorem srtP_uniq {l m : List (Int × Int)} (hp : m.Perm l) (hs : m.Pairwise leP) : m = srtP l :=
  List.Perm.eq_of_pairwise (fun a b _ _ h1 h2 => leP_anti h1 h2) hs (srtP_sorted l) (hp.trans (srtP_perm l).symm)
theorem srt_len (l : List Int) : (srt l).length = l.length := (srt_perm l).length_eq
theorem srtP_len (l : List (Int × Int)) : (srtP l).length = l.length := (srtP_perm l).length_eq
/-- places set one after another -/
def setF (l : List Int) (zs : List (Nat × Int)) : List Int := zs.foldl (fun l z => l.set z.1 z.2) l
theorem setF_len : ∀ (zs : List (Nat × Int)) (l : List Int), (setF l zs).length = l.length
  | [], _ => rfl
  | z :: zs, l => by
    show (setF (l.set z.1 z.2) zs).length = _
    rw [setF_len zs, List.length_set]
theorem setF_snoc (l : List Int) (zs : List (Nat × Int)) (z : Nat × Int) : setF l (zs ++ [z]) = (setF l zs).set z.1 z.2 := by
  unfold setF
  rw [List.foldl_append]
  rfl
/-! one stage -/
section
variable (ticks : List Int) (riders brought : List Nat) (st : Nat) (walk ride : Int)
def tickAt (p : Nat) : Int := ticks.getD p 0
def queueM : List (Int × Int) := srtP (riders.map fun p => (tickAt ticks p, (p : Int)))
def bikesM : List Int := srt (List.replicate st 0 ++ brought.map fun p => tickAt ticks p)
def pairsM : List ((Int × Int) × Int) := (queueM ticks riders).zip (bikesM ticks brought st)
def leaveM : List Int := setF ticks ((pairsM ticks riders brought st).map fun z => (z.1.2.toNat, mx z.1.1 z.2))
def rowM : List Int := (leaveM ticks riders brought st).mapIdx fun p t => t + if p ∈ riders then ride else walk
end
section
variable {ticks : List Int} {riders brought : List Nat} {st : Nat} {walk ride : Int}
theorem queueM_len : (queueM ticks riders).length = riders.length := by
  unfold queueM
  rw [srtP_len, List.length_map]
theorem bikesM_len : (bikesM ticks brought st).length = st + brought.length := by
  unfold bikesM
  rw [srt_len, List.length_append, List.length_replicate, List.length_map]
theorem pairsM_len (h : riders.length ≤ st + brought.length) : (pairsM ticks riders brought st).length = riders.length := by
  unfold pairsM
  rw [List.length_zip, queueM_len, bikesM_len]
  omega
theorem leaveM_len : (leaveM ticks riders brought st).length = ticks.length := setF_len _ _
theorem rowM_len : (rowM ticks riders brought st walk ride).length = ticks.length := by
  unfold rowM
  rw [List.length_mapIdx, leaveM_len]
theorem pairs_mem {z : (Int × Int) × Int} (h : z ∈ pairsM ticks riders brought st) : ∃ p ∈ riders, z.1 = (tickAt ticks p, (p : Int)) := by
  have h1 : z.1 ∈ queueM ticks riders := (List.of_mem_zip (show (z.1, z.2) ∈ (queueM ticks riders).zip _ from h)).1
  have h2 := (srtP_perm _).mem_iff.mp h1
  obtain ⟨p, hp, e⟩ := List.mem_map.mp h2
  exact ⟨p, hp, e.symm⟩
/-! the law's own way: the same pairs, rides added at once, then the walkers -/
end
/-! a whole plan: the ticks at each station -/
structure PlanOk (bikes : List Int) (n : Nat) (plan : List (List Nat)) : Prop where
  len : plan.length = bikes.length
  nn : ∀ b ∈ bikes, 0 ≤ b
  asc : ∀ r ∈ plan, r.Pairwise (· < ·)
  lt : ∀ r ∈ plan, ∀ p ∈ r, p < n
  few : ∀ i, (plan.getD i []).length ≤ (bikes.getD i 0).toNat + (if i = 0 then 0 else (plan.getD (i - 1) []).length)
def brM (plan : List (List Nat)) (i : Nat) : List Nat := if i = 0 then [] else plan.getD (i - 1) []
def tkM (walk ride : Int) (bikes starts : List Int) (plan : List (List Nat)) : Nat → List Int
  | 0 => starts
  | i + 1 => rowM (tkM walk ride bikes starts plan i) (plan.getD i []) (brM plan i) (bikes.getD i 0).toNat walk ride
theorem tkM_len {walk ride : Int} {bikes starts : List Int} {plan : List (List Nat)} : ∀ i, (tkM walk ride bikes starts plan i).length = starts.length
  | 0 => rfl
  | i + 1 => by
    show (rowM _ _ _ _ _ _).length = _
    rw [rowM_len, tkM_len i]
def rowsM (walk ride : Int) (bikes starts : List Int) (plan : List (List Nat)) (m : Nat) : List (List Int) := (List.range (m + 1)).map (tkM walk ride bikes starts plan)
/-! waits -/
section
variable {ticks w0 : List Int} {riders brought : List Nat} {st k : Nat} {ride : Int} {z : (Int × Int) × Int}
theorem take_snoc (hz : (pairsM ticks riders brought st)[k]? = some z) : (pairsM ticks riders brought st).take (k + 1) = (pairsM ticks riders brought st).take k ++ [z] := by
  rw [List.take_add_one, hz]
  rfl
end
/-- a least item of what is left is the next in order -/
theorem least_next {S l : List (Int × Int)} {k : Nat} {m : Int × Int} (hs : S.Pairwise leP) (hp : l.Perm (S.drop k)) (hm : m ∈ l) (hle : ∀ q ∈ l, leP m q) : S[k]? = some m ∧ S.drop k = m :: S.drop (k + 1) := by
  have hm2 := hp.mem_iff.mp hm
  have kl : k < S.length := by
    rcases Nat.lt_or_ge k S.length with c | c
    · exact c
    · rw [List.drop_of_length_le c] at hm2
      cases hm2
  have ed : S.drop k = S[k] :: S.drop (k + 1) := List.drop_eq_getElem_cons kl
  have h1 : leP m S[k] := hle _ (hp.mem_iff.mpr (by rw [ed]; exact List.mem_cons_self))
  have h2 : leP S[k] m := by
    have hs2 : (S.drop k).Pairwise leP := hs.sublist (List.drop_sublist _ _)
    rw [ed] at hs2 hm2
    rcases List.mem_cons.mp hm2 with e | e
    · rw [e]
      exact .inr ⟨rfl, Int.le_refl _⟩
    · exact (List.pairwise_cons.mp hs2).1 m e
  have e := leP_anti h1 h2
  exact ⟨by rw [List.getElem?_eq_getElem kl, e], by rw [e]; exact ed⟩
theorem erase_next {α : Type} {l r : List α} {m : α} {j : Nat} (hj : l[j]? = some m) (hp : l.Perm (m :: r)) : (l.eraseIdx j).Perm r := by
  have h : (m :: l.eraseIdx j).Perm l := by
    clear hp
    induction l generalizing j with
    | nil => simp at hj
    | cons x l ih =>
      cases j with
      | zero =>
        cases hj
        exact List.Perm.refl _
      | succ j => exact (List.Perm.swap x m _).trans ((ih hj).cons x)
  exact (h.trans hp).cons_inv
/-! bounds -/
def Bnd (M : Int) (l : List Int) : Prop := ∀ x ∈ l, 0 ≤ x ∧ x ≤ M
end Rb
namespace Rb
open PySem PySem.Spec PyProof.Rows L2
/-! pairs of ints in a list: min, remove, sorted -/
def pairD (p : Int × Int) : PyData := .tuple [.int p.1, .int p.2]
/-- the list's items are pairs, as told -/
def Prs (H : Hp) (xs : List V) (ps : List (Int × Int)) : Prop := xs.length = ps.length ∧ ∀ (i : Nat) (p : Int × Int), ps[i]? = some p → ∃ t, xs[i]? = some (.ref t) ∧ H t = some (.tup [.int p.1, .int p.2])
theorem Prs.nil {H : Hp} : Prs H [] [] := ⟨rfl, fun i p h => by simp at h⟩
theorem Prs.keep {H H' : Hp} {xs : List V} {ps : List (Int × Int)} (h : Prs H xs ps) (k : ∀ a ys, H a = some (.tup ys) → H' a = some (.tup ys)) : Prs H' xs ps :=
  ⟨h.1, fun i p hp => by
    obtain ⟨t, h1, h2⟩ := h.2 i p hp
    exact ⟨t, h1, k _ _ h2⟩⟩
theorem Prs.snoc {H : Hp} {xs : List V} {ps : List (Int × Int)} {t : Addr} {p : Int × Int} (h : Prs H xs ps) (ht : H t = some (.tup [.int p.1, .int p.2])) : Prs H (xs ++ [.ref t]) (ps ++ [p]) := by
  refine ⟨by rw [List.length_append, List.length_append, h.1]; rfl, fun i q hq => ?_⟩
  rw [List.getElem?_append] at hq
  split at hq
  · rename_i hi
    obtain ⟨t2, h1, h2⟩ := h.2 i q hq
    exact ⟨t2, by rw [List.getElem?_append_left (by rw [h.1]; exact hi)]; exact h1, h2⟩
  · rename_i hi
    have e : i - ps.length = 0 := by
      rcases Nat.eq_zero_or_pos (i - ps.length) with e | e
      · exact e
      · rw [List.getElem?_eq_none (by show 1 ≤ i - ps.length; exact e)] at hq
        cases hq
    rw [e] at hq
    cases hq
    refine ⟨t, ?_, ht⟩
    rw [List.getElem?_append_right (by rw [h.1]; omega), h.1, e]
    rfl
theorem Prs.erase {H : Hp} {xs : List V} {ps : List (Int × Int)} (h : Prs H xs ps) (j : Nat) : Prs H (xs.eraseIdx j) (ps.eraseIdx j) := by
  refine ⟨by rw [List.length_eraseIdx, List.length_eraseIdx, h.1], fun i q hq => ?_⟩
  rw [List.getElem?_eraseIdx] at hq ⊢
  split at hq
  · rename_i hi
    rw [if_pos hi]
    exact h.2 i q hq
  · rename_i hi
    rw [if_neg hi]
    exact h.2 (i + 1) q hq
end Rb
namespace Rb
open PySem PySem.Spec PyProof.Rows L2
/-- rows: refs of tuples of ints -/
def Rws (K : PySem.W.Frag) (H : Hp) (xs : List V) (rows : List (List Int)) : Prop := xs.length = rows.length ∧ ∀ (i : Nat) (r : List Int), rows[i]? = some r → ∃ t, xs[i]? = some (.ref t) ∧ SqT K H t (r.map V.int)
section
variable {K : PySem.W.Frag} {H H' : Hp} {xs : List V} {rows : List (List Int)}
theorem Rws.nil : Rws K H [] [] := ⟨rfl, fun i p h => by simp at h⟩
theorem Rws.keep (h : Rws K H xs rows) (k : ∀ a ys, SqT K H a ys → SqT K H' a ys) : Rws K H' xs rows :=
  ⟨h.1, fun i p hp => by
    obtain ⟨t, h1, h2⟩ := h.2 i p hp
    exact ⟨t, h1, k _ _ h2⟩⟩
theorem Rws.ex (h : Rws K H xs rows) (e : Evl.Ex H H') : Rws K H' xs rows := h.keep fun _ _ z => Evl.ex_t e z
theorem Rws.kp {d c : Addr} {N : Int} (h : Rws K H xs rows) (k : Kp d c H H') (dk : Dk H d c N) : Rws K H' xs rows := h.keep fun _ _ z => k.sqT dk z
theorem Rws.snoc {t : Addr} {r : List Int} (h : Rws K H xs rows) (ht : SqT K H t (r.map V.int)) : Rws K H (xs ++ [.ref t]) (rows ++ [r]) := by
  refine ⟨by rw [List.length_append, List.length_append, h.1]; rfl, fun i q hq => ?_⟩
  rw [List.getElem?_append] at hq
  split at hq
  · rename_i hi
    obtain ⟨t2, h1, h2⟩ := h.2 i q hq
    exact ⟨t2, by rw [List.getElem?_append_left (by rw [h.1]; exact hi)]; exact h1, h2⟩
  · rename_i hi
    have e : i - rows.length = 0 := by
      rcases Nat.eq_zero_or_pos (i - rows.length) with e | e
      · exact e
      · rw [List.getElem?_eq_none (by show 1 ≤ i - rows.length; exact e)] at hq
        cases hq
    rw [e] at hq
    cases hq
    refine ⟨t, ?_, ht⟩
    rw [List.getElem?_append_right (by rw [h.1]; omega), h.1, e]
    rfl
theorem Rws.tp : ∀ {xs : List V} {rows : List (List Int)}, Rws K H xs rows → TpAll K H xs (rows.map fun r => .tuple (r.map .int))
  | [], [], _ => .nil
  | [], _ :: _, h => by cases h.1
  | _ :: _, [], h => by cases h.1
  | x :: xs, p :: ps, h => by
    obtain ⟨t, h1, h2⟩ := h.2 0 p rfl
    cases (Option.some.inj h1)
    exact .cons (Tp.tupI h2) (Rws.tp ⟨Nat.succ.inj h.1, fun i q hq => h.2 (i + 1) q hq⟩)
end
/-! comprehensions over enumerate(list), and whose elements are new pairs -/
/-! sorted pairs -/
def keyOf (H : Hp) (x : V) : Int × Int :=
  match x with
  | .ref t => match H t with
    | some (.tup [.int i, .int j]) => (i, j)
    | _ => (0, 0)
  | _ => (0, 0)
theorem keyOf_eq {H : Hp} {t : Addr} {p : Int × Int} (h : H t = some (.tup [.int p.1, .int p.2])) : keyOf H (.ref t) = p := by
  unfold keyOf
  simp only [h]
theorem Prs.keys {H : Hp} {xs : List V} {ps : List (Int × Int)} (h : Prs H xs ps) : xs.map (keyOf H) = ps := by
  apply List.ext_getElem?
  intro i
  rw [List.getElem?_map]
  cases e : ps[i]? with
  | none => rw [List.getElem?_eq_none (by rw [h.1]; exact List.getElem?_eq_none_iff.mp e)]; rfl
  | some p =>
    obtain ⟨t, h1, h2⟩ := h.2 i p e
    rw [h1]
    exact congrArg some (keyOf_eq h2)
theorem sorted_prs {K : PySem.W.Frag} {H : Hp} {a : Addr} {xs : List V} {ps : List (Int × Int)} {Q : VK} (hS : SqL K H a xs) (hP : Prs H xs ps) (q : ∀ ys p, Prs H ys (srtP ps) → H p = none → Q (.ref p) (upd H p (.lst ys))) : rSortedPO K [.ref a] H Q := by
  refine ⟨a, xs, keyOf H, rfl, hS, fun x hx => ?_, fun ys p h1 h2 np => q ys p ?_ np⟩
  · obtain ⟨i, hi, e⟩ := List.getElem_of_mem hx
    have il : i < ps.length := by rw [← hP.1]; exact hi
    obtain ⟨t, g1, g2⟩ := hP.2 i ps[i] (List.getElem?_eq_getElem il)
    rw [List.getElem?_eq_getElem hi, e] at g1
    cases Option.some.inj g1
    refine ⟨t, rfl, ?_⟩
    rw [keyOf_eq g2]
    exact g2
  · have e : ys.map (keyOf H) = srtP ps := by
      rw [← hP.keys]
      refine srtP_uniq (h2.perm.map _) ?_
      refine List.pairwise_map.mpr (List.Pairwise.imp (fun {x y} h => ?_) h1)
      have := SrtO.lexB_no.mp (show SrtO.lexB (keyOf H y) (keyOf H x) = false from h)
      unfold leP
      omega
    rw [← e]
    refine ⟨(List.length_map _).symm, fun i p hp => ?_⟩
    rw [List.getElem?_map] at hp
    obtain ⟨y, hy, rfl⟩ := Option.map_eq_some_iff.mp hp
    have ym : y ∈ xs := h2.perm.mem_iff.mp (List.mem_of_getElem? hy)
    obtain ⟨k, hk, ek⟩ := List.getElem_of_mem ym
    have kl : k < ps.length := by rw [← hP.1]; exact hk
    obtain ⟨t, g1, g2⟩ := hP.2 k ps[k] (List.getElem?_eq_getElem kl)
    rw [List.getElem?_eq_getElem hk, ek] at g1
    cases Option.some.inj g1
    refine ⟨t, hy, ?_⟩
    rw [keyOf_eq g2]
    exact g2
theorem nodup_le {n : Nat} : ∀ {l : List Nat}, l.Nodup → (∀ p ∈ l, p < n) → l.length ≤ n := by
  induction n with
  | zero =>
    intro l _ h
    cases l with
    | nil => exact Nat.le_refl _
    | cons x r => exact absurd (h x List.mem_cons_self) (Nat.not_lt_zero _)
  | succ n ih =>
    intro l nd h
    have h1 : (l.erase n).length ≤ n := ih (nd.erase n) fun p hp => by
      have a := h p (List.mem_of_mem_erase hp)
      have b : p ≠ n := fun e => (nd.not_mem_erase (a := n)) (e ▸ hp)
      omega
    rw [List.length_erase] at h1
    split at h1 <;> omega
end Rb
namespace Rb
open PySem PySem.Spec PyProof.Rows L2
/-! a tuple times a number: once is the tuple itself -/
open AutoSeq1 (wpAny_loadPart') in
theorem tupMul1 (t : Addr) (its : Array Value) (n : Nat) (dc : Option Addr) (sl : Array (Option Value)) (u : Tok) :
    Meets (Builtin.«tuple.__mul__» ⟨[.ref t, .int 1 u], []⟩) (fun _ R s => s.heap.get? t = some { cls := .type "tuple", dict := dc, data := .seq its n, slots := sl } ∧ R (.ok (.ret (Value.ref t))) s) := by
  refine .of_wp fun pr wo A R s h => ?_
  obtain ⟨hp, g, d, tk, os⟩ := s
  obtain ⟨ht, h⟩ := h
  have f1 := AutoSeq1.idx_int
  wp_walk using wpAny_loadPart' ht
  repeat (first
    | (refine wpAny_ite_false (by decide) ?_; wp_walk using wpAny_loadPart' ht)
    | (refine wpAny_ite_true (decide_eq_true (by cases its.isEmpty <;> rfl)) ?_; wp_walk using wpAny_loadPart' ht))
  exact ⟨_, rfl, h⟩
/-! max of a tuple of ints -/
def rMaxT (K : PySem.W.Frag) : List V → Hp → VK → Prop := fun vs H Q => ∃ (a : Addr) (ns : List Int), vs = [V.ref a] ∧ SqT K H a (ns.map V.int) ∧ ns ≠ [] ∧ ∀ m, m ∈ ns → (∀ y ∈ ns, y ≤ m) → Q (.int m) H
theorem maxOf_most : ∀ (ns : List Int) (n : Int), (PySem.W.maxOf n ns ∈ n :: ns) ∧ ∀ q ∈ n :: ns, q ≤ PySem.W.maxOf n ns
  | [], n => ⟨List.mem_cons_self, fun q hq => by
    rw [List.mem_singleton.mp hq]
    exact Int.le_refl _⟩
  | y :: ys, n => by
    have e : PySem.W.maxOf n (y :: ys) = PySem.W.maxOf (if PySem.W.DatumOrd.lt n y = true then y else n) ys := rfl
    rw [e]
    have l1 : (PySem.W.DatumOrd.lt n y = true) ↔ n < y := by
      show decide (n < y) = true ↔ _
      exact decide_eq_true_iff
    by_cases c : PySem.W.DatumOrd.lt n y = true
    · rw [if_pos c]
      obtain ⟨h1, h2⟩ := maxOf_most ys y
      refine ⟨List.mem_cons_of_mem _ h1, fun q hq => ?_⟩
      rcases List.mem_cons.mp hq with rfl | hq
      · have a := h2 y List.mem_cons_self
        have b := l1.mp c
        omega
      · exact h2 q hq
    · rw [if_neg c]
      obtain ⟨h1, h2⟩ := maxOf_most ys n
      refine ⟨?_, fun q hq => ?_⟩
      · rcases List.mem_cons.mp h1 with h | h
        · rw [h]; exact List.mem_cons_self
        · exact List.mem_cons_of_mem _ (List.mem_cons_of_mem _ h)
      · rcases List.mem_cons.mp hq with rfl | hq
        · exact h2 q List.mem_cons_self
        · rcases List.mem_cons.mp hq with rfl | hq
          · have a := h2 n List.mem_cons_self
            have b : ¬ n < q := fun z => c (l1.mpr z)
            omega
          · exact h2 q (List.mem_cons_of_mem _ hq)
theorem cr_maxT {X : Cx} (hc : X.calm = true) (hu : X.A.units + 64 < cLine) : CallR X (.builtin "max") (rMaxT X.K) := by
  intro pins s σ H vs us Q I r h
  obtain ⟨a, ns, rfl, hs, hne, q⟩ := h
  obtain ⟨its, rv, hl, _⟩ := I.tuple hs
  rw [Vals.ref1 r]
  cases ns with
  | nil => exact absurd rfl hne
  | cons n ns =>
    obtain ⟨as, ra⟩ := Dp.readsAll I _ _ its (DpAll.ints (K := X.K) (n :: ns)) rv
    refine PySem.W.max_tuple_datum (α := Int) (x := n) (xs := ns) (I.ok.hd hc) (isTup_isTuple hl) ⟨as, ra⟩ (by show X.A.units + 1 + 0 < _; omega) fun i v h' tk hi hv hk => ?_
    obtain ⟨hm, hle⟩ := maxOf_most ns n
    obtain ⟨cs, rm⟩ := hv
    have rm' : Reads h' v (.int (PySem.W.maxOf n ns)) cs := rm
    cases rm' with
    | int _ t => exact ⟨.int _, H, I.kept hk, ⟨t, rfl⟩, q _ hm hle⟩
end Rb
namespace Rb
/-! waits by the ticks alone -/
theorem stages_ok {bikes : List Int} {n i : Nat} {plan : List (List Nat)} (h : PlanOk bikes n plan) (hi : i < plan.length) : (plan.getD i []).Nodup ∧ (∀ p ∈ plan.getD i [], p < n) ∧ (plan.getD i []).length ≤ (bikes.getD i 0).toNat + (brM plan i).length := by
  have hr : plan[i]? = some plan[i] := List.getElem?_eq_getElem hi
  have e : plan.getD i [] = plan[i] := by rw [List.getD_eq_getElem?_getD, hr]; rfl
  have hm : plan[i] ∈ plan := List.getElem_mem hi
  have f := h.few i
  refine ⟨by rw [e]; exact (h.asc _ hm).imp fun h => Nat.ne_of_lt h, by rw [e]; exact h.lt _ hm, ?_⟩
  unfold brM
  split
  · rename_i z
    rw [if_pos z] at f
    exact f
  · rename_i z
    rw [if_neg z] at f
    exact f
end Rb
namespace Rb
open PySem PySem.Spec PyProof.Rows L2
end Rb
namespace Rb
open PySem PySem.Spec PyProof.Rows L2
/-! own errors with one field: made, raised, caught, asked for their class -/
/-- __init__(self, f): self.f = f -/
def spIni (K : PySem.W.Frag) (C : Addr) (f : Str) : Sp := fun vs H Q _ => ∃ (a : Addr) (y : V), vs = [.ref a, y] ∧ H a = some (exo a C none) ∧ ∀ dx, H dx = none → dx ≠ a → Q .non (upd (upd H dx (exd dx [(f, y)])) a (exo a C (some dx)))
theorem made_eq {H : Hp} {a d C : Addr} {f : Str} {y : V} (ha : H a = none) (hd : d ≠ a) :
    upd (del (upd (upd (upd H a (exo a C none)) d (exd d [(f, y)])) a (exo a C (some d))) a) d (.xd [(f, y)]) = upd H d (.xd [(f, y)]) := by
  funext b
  by_cases h1 : b = d
  · subst h1
    rw [upd_same, upd_same]
  · rw [upd_ne h1, upd_ne h1]
    by_cases h2 : b = a
    · subst h2
      rw [del_same, ha]
    · rw [del_ne h2, upd_ne h2, upd_ne h1, upd_ne h2]
/-- what remains to show of raise C(e) -/
theorem mkO_of {K : PySem.W.Frag} {C : Addr} {f : Str} {H1 : Hp} {y : V} {W : XK} (q : ∀ d, H1 d = none → W (.ref C) (some d) (upd H1 d (.xd [(f, y)]))) :
    [y].length ≤ 1000 ∧ ∀ a, H1 a = none → spIni K C f (.ref a :: ([y] ++ [])) (upd H1 a (exo a C none))
      (fun v H2 => v = .non ∧ ∃ (d : Addr) (fs : List (Str × V)), H2 a = some (exo a C (some d)) ∧ H2 d = some (exd d fs) ∧ H1 d = none ∧ W (.ref C) (some d) (upd (del H2 a) d (.xd fs))) (fun _ _ _ => False) := by
  refine ⟨by show 1 ≤ 1000; decide, fun a ha => ⟨a, y, rfl, upd_same, fun d hd ne => ⟨rfl, d, [(f, y)], upd_same, ?_, ?_, ?_⟩⟩⟩
  · rw [upd_ne ne, upd_same]
  · rw [upd_ne ne] at hd
    exact hd
  · rw [made_eq ha ne]
    rw [upd_ne ne] at hd
    exact q d hd
/-! ### isinstance of the error that a suite holds -/
end Rb
namespace Rb
open PySem PySem.Spec PyProof.Rows L2
/-! roads one behind the other -/
abbrev Rd := Int × Int × List Int
/-- roads in a sequence -/
def Rds (K : PySem.W.Frag) (H : Hp) (xs : List V) (rs : List Rd) : Prop := xs.length = rs.length ∧ ∀ (i : Nat) (r : Rd), rs[i]? = some r → ∃ v, xs[i]? = some v ∧ Road K H v r.1 r.2.1 r.2.2
section
variable {K : PySem.W.Frag} {H H' : Hp} {xs : List V} {rs : List Rd}
theorem Rds.nil : Rds K H [] [] := ⟨rfl, fun i r h => by simp at h⟩
theorem Road.keep {v : V} {w r : Int} {bs : List Int} (x : Road K H v w r bs) (k : ∀ a ys, SqT K H a ys → SqT K H' a ys) : Road K H' v w r bs := by
  obtain ⟨a, b, rfl, h1, h2⟩ := x
  exact ⟨a, b, rfl, k _ _ h1, k _ _ h2⟩
theorem Rds.keep (h : Rds K H xs rs) (k : ∀ a ys, SqT K H a ys → SqT K H' a ys) : Rds K H' xs rs :=
  ⟨h.1, fun i r e => by
    obtain ⟨v, h1, h2⟩ := h.2 i r e
    exact ⟨v, h1, h2.keep k⟩⟩
theorem Rds.ex (h : Rds K H xs rs) (e : Evl.Ex H H') : Rds K H' xs rs := h.keep fun _ _ z => Evl.ex_t e z
theorem Rds.kp {d c : Addr} {N : Int} (h : Rds K H xs rs) (k : Kp d c H H') (dk : Dk H d c N) : Rds K H' xs rs := h.keep fun _ _ z => k.sqT dk z
theorem Rds.cons {v : V} {r : Rd} (h1 : Road K H v r.1 r.2.1 r.2.2) (h : Rds K H xs rs) : Rds K H (v :: xs) (r :: rs) := by
  refine ⟨by rw [List.length_cons, List.length_cons, h.1], fun i s e => ?_⟩
  cases i with
  | zero =>
    cases e
    exact ⟨v, rfl, h1⟩
  | succ i => exact h.2 i s e
theorem Rds.snoc {v : V} {r : Rd} (h : Rds K H xs rs) (h1 : Road K H v r.1 r.2.1 r.2.2) : Rds K H (xs ++ [v]) (rs ++ [r]) := by
  refine ⟨by simp [h.1], fun i s e => ?_⟩
  by_cases hi : i < rs.length
  · rw [List.getElem?_append_left hi] at e
    obtain ⟨u, h2, h3⟩ := h.2 i s e
    exact ⟨u, by rw [List.getElem?_append_left (by rw [h.1]; exact hi)]; exact h2, h3⟩
  · have hl := (List.getElem?_eq_some_iff.mp e).1
    rw [List.length_append] at hl
    have hi2 : i = rs.length := by simp at hl; omega
    subst hi2
    rw [List.getElem?_concat_length] at e
    cases e
    exact ⟨v, by rw [← h.1]; exact List.getElem?_concat_length, h1⟩
theorem Rds.at {i : Nat} {v : V} (h : Rds K H xs rs) (hv : xs[i]? = some v) : ∃ r, rs[i]? = some r ∧ Road K H v r.1 r.2.1 r.2.2 := by
  have hl := (List.getElem?_eq_some_iff.mp hv).1
  have e : rs[i]? = some (rs[i]'(by rw [← h.1]; exact hl)) := List.getElem?_eq_getElem _
  obtain ⟨u, h1, h2⟩ := h.2 i _ e
  rw [hv] at h1
  cases h1
  exact ⟨_, e, h2⟩
theorem Rds.set {i : Nat} {v : V} {r : Rd} (h : Rds K H xs rs) (h1 : Road K H v r.1 r.2.1 r.2.2) : Rds K H (xs.set i v) (rs.set i r) := by
  refine ⟨by simp [h.1], fun j s e => ?_⟩
  by_cases hij : i = j
  · subst hij
    by_cases hl : i < rs.length
    · rw [List.getElem?_set_self hl] at e
      cases e
      exact ⟨v, List.getElem?_set_self (by rw [h.1]; exact hl), h1⟩
    · rw [List.getElem?_eq_none (by simp; omega)] at e
      cases e
  · rw [List.getElem?_set_ne hij] at e
    obtain ⟨u, h2, h3⟩ := h.2 j s e
    exact ⟨u, by rw [List.getElem?_set_ne hij]; exact h2, h3⟩
/-! the two ends of a road -/
end
/-! a result: plain immutable data, or a new list of a text and a number -/
def Res (K : PySem.W.Frag) (H0 H : Hp) (v : V) (d : PyData) : Prop := Tp K H v d ∨ ∃ (q : Addr) (x : Str) (n : Int), v = .ref q ∧ H0 q = none ∧ H q = some (.lst [.str x, .int n]) ∧ d = .list [.str x, .int n]
theorem Res.ex {K : PySem.W.Frag} {H0 H H' : Hp} {v : V} {d : PyData} (h : Res K H0 H v d) (e : Evl.Ex H H') : Res K H0 H' v d := by
  rcases h with h | ⟨q, x, n, h1, h2, h3, h4⟩
  · exact .inl (h.ex e)
  · exact .inr ⟨q, x, n, h1, h2, e _ _ h3, h4⟩
theorem Res.old {K : PySem.W.Frag} {H0 H1 H : Hp} {v : V} {d : PyData} (h : Res K H1 H v d) (e : Evl.Ex H0 H1) : Res K H0 H v d := by
  rcases h with h | ⟨q, x, n, h1, h2, h3, h4⟩
  · exact .inl h
  · refine .inr ⟨q, x, n, h1, ?_, h3, h4⟩
    cases z : H0 q with
    | none => rfl
    | some o => rw [e _ _ z] at h2; cases h2
/-- the same of all, the lists none of them at D -/
inductive ResAll (K : PySem.W.Frag) (D : Addr) (H : Hp) : List V → List PyData → Prop
  | nil : ResAll K D H [] []
  | tp {v : V} {d : PyData} {vs : List V} {ds : List PyData} : Tp K H v d → ResAll K D H vs ds → ResAll K D H (v :: vs) (d :: ds)
  | ls {q : Addr} {x : Str} {n : Int} {vs : List V} {ds : List PyData} : q ≠ D → H q = some (.lst [.str x, .int n]) → ResAll K D H vs ds → ResAll K D H (.ref q :: vs) (.list [.str x, .int n] :: ds)
section
variable {K : PySem.W.Frag} {D : Addr} {H H' : Hp}
theorem ResAll.ex (e : Evl.Ex H H') : ∀ {vs : List V} {ds : List PyData}, ResAll K D H vs ds → ResAll K D H' vs ds
  | _, _, .nil => .nil
  | _, _, .tp h r => .tp (h.ex e) (r.ex e)
  | _, _, .ls n h r => .ls n (e _ _ h) (r.ex e)
theorem ResAll.snoc {H0 : Hp} {v : V} {d : PyData} {o : HO} (hv : Res K H0 H v d) (hD : H0 D = some o) : ∀ {vs : List V} {ds : List PyData}, ResAll K D H vs ds → ResAll K D H (vs ++ [v]) (ds ++ [d])
  | _, _, .nil => by
    rcases hv with h | ⟨q, x, n, h1, h2, h3, h4⟩
    · exact .tp h .nil
    · subst h1 h4
      exact .ls (fun z => by rw [z, hD] at h2; cases h2) h3 .nil
  | _, _, .tp h r => .tp h (r.snoc hv hD)
  | _, _, .ls n h r => .ls n h (r.snoc hv hD)
theorem ResAll.length : ∀ {vs : List V} {ds : List PyData}, ResAll K D H vs ds → vs.length = ds.length
  | _, _, .nil => rfl
  | _, _, .tp _ r => congrArg Nat.succ r.length
  | _, _, .ls _ _ r => congrArg Nat.succ r.length
end
end Rb
namespace Rb
open PySem PySem.Spec PyProof.Rows L2
/-! any value: plain data, small dicts from texts to ints among it -/
def dicV (ps : List (Str × Int)) : List (Key × V) := ps.map fun p => (Sum.inr p.1, V.int p.2)
def dicD (ps : List (Str × Int)) : PyData := .dict (ps.map fun p => (.str p.1, .int p.2))
mutual
inductive Ap (K : PySem.W.Frag) (S : List Addr) (H : Hp) : V → PyData → Prop
  | non : Ap K S H .non .none
  | bl (b : Bool) : Ap K S H (.bl b) (.bool b)
  | int (i : Int) : Ap K S H (.int i) (.int i)
  | str (x : Str) : Ap K S H (.str x) (.str x)
  | lst {a : Addr} {xs : List V} {ds : List PyData} : a ∉ S → L2.Rd H a (.lst xs) → ApAll K S H xs ds → Ap K S H (.ref a) (.list ds)
  | tup {a : Addr} {xs : List V} {ds : List PyData} : SqT K H a xs → ApAll K S H xs ds → Ap K S H (.ref a) (.tuple ds)
  | dic {a : Addr} {ps : List (Str × Int)} : H a = some (.dK (dicV ps)) → Ap K S H (.ref a) (dicD ps)
inductive ApAll (K : PySem.W.Frag) (S : List Addr) (H : Hp) : List V → List PyData → Prop
  | nil : ApAll K S H [] []
  | cons {v : V} {vs : List V} {d : PyData} {ds : List PyData} : Ap K S H v d → ApAll K S H vs ds → ApAll K S H (v :: vs) (d :: ds)
end
section
variable {X : Cx} {pins : List (Addr × Obj)} {σ : L2.St} {H : Hp} {s : Shared} {S : List Addr}
theorem dic_reads {h : Heap} : ∀ {ps : List (Str × Int)} {vs : List (Key × Value)} {es : List DictEntry}, KV (dicV ps) vs → Pairs (mixKind X.prog X.w) es vs →
    ReadsAll h (es.map (·.key)) (ps.map fun p => PyData.str p.1) [] ∧ ReadsAll h (es.map (·.val)) (ps.map fun p => PyData.int p.2) []
  | [], _, _, .nil, .nil => ⟨.nil, .nil⟩
  | p :: ps, _, _, .cons hp r, .cons h1 h2 h3 => by
    obtain ⟨q1, q2⟩ := dic_reads r h3
    obtain ⟨e1, t, e2⟩ := hp
    have hk : keyIs (Sum.inr p.1) _ = true := e1 ▸ h1
    rcases keyIs_shape hk with ⟨i, t, z, _⟩ | ⟨x, t2, z, e3⟩
    · cases z
    · cases z
      refine ⟨?_, ?_⟩
      · rw [List.map_cons, List.map_cons, e3]
        exact ReadsAll.cons (as := []) (bs := []) (.str _ _) q1
      · rw [List.map_cons, List.map_cons, h2, e2]
        exact ReadsAll.cons (as := []) (bs := []) (.int _ _) q2
mutual
theorem Ap.reads (hm : sysModules ∈ S) (I : Inv X pins σ H s) : ∀ (d : PyData) (v : V) (u : Value), Ap X.K S H v d → RelV v u → ∃ as, Reads s.heap u d as ∧ sysModules ∉ as
  | .none, _, _, h, r => by
    cases h
    cases r
    exact ⟨_, Reads.none, (fun z => nomatch z)⟩
  | .bool b, _, _, h, r => by
    cases h
    cases r
    exact ⟨_, Reads.bool b, (fun z => nomatch z)⟩
  | .int i, _, _, h, r => by
    cases h
    obtain ⟨t, rfl⟩ := r
    exact ⟨_, Reads.int i t, (fun z => nomatch z)⟩
  | .str x, _, _, h, r => by
    cases h
    obtain ⟨t, rfl⟩ := r
    exact ⟨_, Reads.str x t, (fun z => nomatch z)⟩
  | .list ds, _, _, h, r => by
    cases h with
    | lst ne hs ha =>
      cases r
      obtain ⟨its, rv, ⟨o, n, ho, hc, _, hd⟩, _⟩ := I.list (show SqL X.K H _ _ from .inl hs)
      obtain ⟨as, hr, no⟩ := Ap.readsAll hm I ds _ its ha rv
      refine ⟨_, Reads.list ho hc hd hr, fun z => ?_⟩
      rcases List.mem_cons.mp z with z | z
      · exact ne (z ▸ hm)
      · exact no z
  | .tuple ds, _, _, h, r => by
    cases h with
    | tup hs ha =>
      cases r
      obtain ⟨its, rv, ⟨o, ho, hc, n, hd⟩, _⟩ := I.tuple hs
      obtain ⟨as, hr, no⟩ := Ap.readsAll hm I ds _ its ha rv
      exact ⟨_, Reads.tuple ho hc hd hr, no⟩
  | .dict kvs, _, _, h, r => by
    generalize e : PyData.dict kvs = dd at h
    cases h with
    | non => cases e
    | bl => cases e
    | int => cases e
    | str => cases e
    | lst => cases e
    | tup => cases e
    | @dic a ps hd =>
      cases (PyData.dict.inj e)
      cases r
      obtain ⟨_, ne, vs, rel, o, es, ep, ho, hx, hdat, _, hp, _⟩ := dk_of I.hok hd
      obtain ⟨q1, q2⟩ := dic_reads (X := X) (h := s.heap) rel hp
      have e1 : (ps.map fun p => ((PyData.str p.1, PyData.int p.2) : PyData × PyData)).map (·.1) = ps.map fun p => PyData.str p.1 := by rw [List.map_map]; rfl
      have e2 : (ps.map fun p => ((PyData.str p.1, PyData.int p.2) : PyData × PyData)).map (·.2) = ps.map fun p => PyData.int p.2 := by rw [List.map_map]; rfl
      refine ⟨_, Reads.dict (as := []) (bs := []) ho hx.1 hdat (by rw [e1]; exact q1) (by rw [e2]; exact q2), fun z => ?_⟩
      rcases List.mem_cons.mp z with z | z
      · rw [← z] at ne
        cases ne
      · cases z
theorem Ap.readsAll (hm : sysModules ∈ S) (I : Inv X pins σ H s) : ∀ (ds : List PyData) (vs : List V) (us : List Value), ApAll X.K S H vs ds → Vals vs us → ∃ as, ReadsAll s.heap us ds as ∧ sysModules ∉ as
  | [], _, _, h, r => by
    cases h
    cases r
    exact ⟨_, ReadsAll.nil, (fun z => nomatch z)⟩
  | d :: ds, _, _, h, r => by
    cases h with
    | cons h1 h2 =>
      cases r with
      | cons r1 r2 =>
        obtain ⟨as, q1, n1⟩ := Ap.reads hm I d _ _ h1 r1
        obtain ⟨bs, q2, n2⟩ := Ap.readsAll hm I ds _ _ h2 r2
        refine ⟨_, ReadsAll.cons q1 q2, fun z => ?_⟩
        rcases List.mem_append.mp z with z | z
        · exact n1 z
        · exact n2 z
end
end
/-! what stays -/
section
variable {K : PySem.W.Frag} {H H' : Hp} {S : List Addr}
mutual
theorem Ap.keep (kl : ∀ a xs, a ∉ S → L2.Rd H a (.lst xs) → L2.Rd H' a (.lst xs)) (kt : ∀ a xs, SqT K H a xs → SqT K H' a xs) (kd : ∀ a ps, H a = some (.dK ps) → H' a = some (.dK ps)) : ∀ (d : PyData) (v : V), Ap K S H v d → Ap K S H' v d
  | .none, _, h => by cases h; exact .non
  | .bool b, _, h => by cases h; exact .bl b
  | .int i, _, h => by cases h; exact .int i
  | .str x, _, h => by cases h; exact .str x
  | .list ds, _, h => by
    cases h with
    | lst ne hs ha => exact .lst ne (kl _ _ ne hs) (ApAll.keep kl kt kd ds _ ha)
  | .tuple ds, _, h => by
    cases h with
    | tup hs ha => exact .tup (kt _ _ hs) (ApAll.keep kl kt kd ds _ ha)
  | .dict kvs, _, h => by
    generalize e : PyData.dict kvs = dd at h ⊢
    cases h with
    | non => cases e
    | bl => cases e
    | int => cases e
    | str => cases e
    | lst => cases e
    | tup => cases e
    | dic hd => exact .dic (kd _ _ hd)
theorem ApAll.keep (kl : ∀ a xs, a ∉ S → L2.Rd H a (.lst xs) → L2.Rd H' a (.lst xs)) (kt : ∀ a xs, SqT K H a xs → SqT K H' a xs) (kd : ∀ a ps, H a = some (.dK ps) → H' a = some (.dK ps)) : ∀ (ds : List PyData) (vs : List V), ApAll K S H vs ds → ApAll K S H' vs ds
  | [], _, h => by cases h; exact .nil
  | d :: ds, _, h => by
    cases h with
    | cons h1 h2 => exact .cons (Ap.keep kl kt kd d _ h1) (ApAll.keep kl kt kd ds _ h2)
end
theorem Ap.ex {v : V} {d : PyData} (h : Ap K S H v d) (e : Evl.Ex H H') : Ap K S H' v d := Ap.keep (fun _ _ _ z => Evl.ex_rd e z) (fun _ _ z => Evl.ex_t e z) (fun _ _ z => e _ _ z) d v h
theorem ApAll.ex {vs : List V} {ds : List PyData} (h : ApAll K S H vs ds) (e : Evl.Ex H H') : ApAll K S H' vs ds := ApAll.keep (fun _ _ _ z => Evl.ex_rd e z) (fun _ _ z => Evl.ex_t e z) (fun _ _ z => e _ _ z) ds vs h
theorem ApAll.length : ∀ {vs : List V} {ds : List PyData}, ApAll K S H vs ds → vs.length = ds.length
  | _, _, .nil => rfl
  | _, _, .cons _ r => congrArg Nat.succ r.length
theorem ApAll.at : ∀ {vs : List V} {ds : List PyData} {i : Nat} {v : V}, ApAll K S H vs ds → vs[i]? = some v → ∃ d, ds[i]? = some d ∧ Ap K S H v d
  | _, _, i, _, .nil, h => by simp at h
  | _, _, 0, _, .cons h1 _, h => by
    cases h
    exact ⟨_, rfl, h1⟩
  | _, _, i + 1, _, .cons _ h2, h => ApAll.at (i := i) h2 h
theorem ApAll.append : ∀ {vs ws : List V} {ds es : List PyData}, ApAll K S H vs ds → ApAll K S H ws es → ApAll K S H (vs ++ ws) (ds ++ es)
  | _, _, _, _, .nil, h => h
  | _, _, _, _, .cons h1 h2, h => .cons h1 (h2.append h)
mutual
theorem Tp.ap : ∀ (d : PyData) (v : V), Tp K H v d → Ap K S H v d
  | .none, _, h => by cases h; exact .non
  | .bool b, _, h => by cases h; exact .bl b
  | .int i, _, h => by cases h; exact .int i
  | .str x, _, h => by cases h; exact .str x
  | .list ds, _, h => by cases h
  | .tuple ds, _, h => by
    cases h with
    | tup hs ha => exact .tup hs (TpAll.ap ds _ ha)
  | .dict kvs, _, h => by cases h
theorem TpAll.ap : ∀ (ds : List PyData) (vs : List V), TpAll K H vs ds → ApAll K S H vs ds
  | [], _, h => by cases h; exact .nil
  | d :: ds, _, h => by
    cases h with
    | cons h1 h2 => exact .cons (Tp.ap d _ h1) (TpAll.ap ds _ h2)
end
end
/-! the deck's two lists apart -/
theorem Kp.rd {d c a : Addr} {H H' : Hp} {u : HO} (k : Kp d c H H') (n1 : a ≠ d) (n2 : a ≠ c) (hs : L2.Rd H a u) : L2.Rd H' a u := by
  rcases hs with h | ⟨o, h⟩
  · exact .inl (k _ _ h n1 n2)
  · exact .inr ⟨o, k _ _ h n1 n2⟩
theorem Kp.dic {d c a : Addr} {H H' : Hp} {N : Int} {ps : List (Key × V)} (k : Kp d c H H') (dk : Dk H d c N) (h : H a = some (.dK ps)) : H' a = some (.dK ps) := by
  obtain ⟨cs, n, h1, h2, _⟩ := dk
  refine k _ _ h (fun z => ?_) (fun z => ?_)
  · rw [z, h1] at h
    cases h
  · rw [z, h2] at h
    cases h
/-- addresses that lists of values keep away from: the table of modules, the deck's two lists, and others that stand already -/
structure Sok (H : Hp) (d c : Addr) (S : List Addr) : Prop where
  m : sysModules ∈ S
  d : d ∈ S
  c : c ∈ S
  old : ∀ a ∈ S, a = sysModules ∨ ∃ o, H a = some o
theorem Sok.kp {H H' : Hp} {d c : Addr} {S : List Addr} {N M : Int} (h : Sok H d c S) (k : Kp d c H H') (dk : Dk H' d c M) : Sok H' d c S := by
  refine ⟨h.m, h.d, h.c, fun a ha => ?_⟩
  obtain ⟨cs, n, h1, h2, _⟩ := dk
  by_cases e1 : a = d
  · subst e1
    exact .inr ⟨_, h1⟩
  by_cases e2 : a = c
  · subst e2
    exact .inr ⟨_, h2⟩
  rcases h.old a ha with e | ⟨o, e⟩
  · exact .inl e
  · exact .inr ⟨o, k _ _ e e1 e2⟩
theorem Sok.ex {H H' : Hp} {d c : Addr} {S : List Addr} (h : Sok H d c S) (e : Evl.Ex H H') : Sok H' d c S := ⟨h.m, h.d, h.c, fun a ha => by
  rcases h.old a ha with z | ⟨o, z⟩
  · exact .inl z
  · exact .inr ⟨o, e _ _ z⟩⟩
theorem Sok.new {H : Hp} {d c p : Addr} {S : List Addr} (h : Sok H d c S) (np : H p = none) (ns : p ≠ sysModules) : p ∉ S := fun z => by
  rcases h.old p z with e | ⟨o, e⟩
  · exact ns e
  · rw [np] at e
    cases e
theorem Ap.kp {K : PySem.W.Frag} {d c : Addr} {S : List Addr} {H H' : Hp} {N : Int} {v : V} {x : PyData} (h : Ap K S H v x) (ok : Sok H d c S) (k : Kp d c H H') (dk : Dk H d c N) : Ap K S H' v x :=
  Ap.keep (fun a _ n z => k.rd (fun e => n (e ▸ ok.d)) (fun e => n (e ▸ ok.c)) z) (fun _ _ z => k.sqT dk z) (fun _ _ z => k.dic dk z) x v h
theorem ApAll.kp {K : PySem.W.Frag} {d c : Addr} {S : List Addr} {H H' : Hp} {N : Int} {vs : List V} {xs : List PyData} (h : ApAll K S H vs xs) (ok : Sok H d c S) (k : Kp d c H H') (dk : Dk H d c N) : ApAll K S H' vs xs :=
  ApAll.keep (fun a _ n z => k.rd (fun e => n (e ▸ ok.d)) (fun e => n (e ▸ ok.c)) z) (fun _ _ z => k.sqT dk z) (fun _ _ z => k.dic dk z) xs vs h
/-! one more address that lists keep away from, because it was free -/
/-! an address of S may be forgotten -/
/-! repr, ==, != of any such value -/
/-! lists that stand apart from the table of modules -/
def tLstN (t : TA) : TE := fun σ H Q => t σ H fun xs H1 => xs.length ≤ sizeLine ∧ ∀ p, H1 p = none → p ≠ sysModules → Q (.ref p) (upd H1 p (.lst xs))
theorem pe_lstN {X : Cx} {es : List Expr} {t : TA} {pos : Pos} (h : PA X es t) : PE X (.List es pos) (tLstN t) := by
  refine ⟨fun pins s σ H Q I hq => ?_⟩
  refine wpAny_List_spliced (thn (h.run pos pins s σ H _ I hq) fun us s1 ⟨xs, H1, I1, r, z, q⟩ => ⟨by rw [← r.length]; exact z, ?_⟩)
  have hf : H1 s1.heap.objs.size = none := I1.hok.fresh (Nat.le_refl _)
  refine ⟨.ref s1.heap.objs.size, upd H1 s1.heap.objs.size (.lst xs), I1.laid (t' := s1.toks) (fun b u e => Heap.get?_push_of_some _ e) (Nat.le_refl _) ?_, rfl, q _ hf (Nat.ne_of_gt I1.big)⟩
  exact ⟨z, us, 0, r, Heap.get?_push_size _ rfl⟩
def rListN (K : PySem.W.Frag) : List V → Hp → VK → Prop := fun xs H Q => ∃ p ys, xs = [.ref p] ∧ (SqL K H p ys ∨ SqT K H p ys) ∧ ∀ l, H l = none → l ≠ sysModules → Q (.ref l) (upd H l (.lst ys))
theorem call_listN {X : Cx} : CallR X (.type "list") (rListN X.K) := by
  intro pins s σ H xs us Q I r h
  obtain ⟨p, ys, rfl, hq, q⟩ := h
  obtain ⟨u, rfl, rx⟩ := vals1 r
  cases rx
  have fin : ∀ (its : List Value), Vals ys its → ys.length ≤ sizeLine → ∀ (h' : Heap) (c' : Nat), (∀ b o', s.heap.get? b = some o' → h'.get? b = some o') →
      h'.get? s.heap.objs.size = some { cls := .type "list", dict := none, data := .seq its.toArray c', slots := #[] } → EP X pins σ Q (.ref s.heap.objs.size) { s with heap := h' } := fun its r' hz h' c' kp e =>
    ⟨.ref s.heap.objs.size, _, I.laid (t' := s.toks) kp (Nat.le_refl _) (show ObjOk X.prog X.w _ h' _ (.lst ys) from ⟨hz, its, c', r', e⟩), rfl, q _ (I.hok.fresh (Nat.le_refl _)) (Nat.ne_of_gt I.big)⟩
  rcases hq with hq | hq
  · obtain ⟨its, r', pl, hz⟩ := I.list hq
    have hlen := r'.length
    obtain ⟨o, ho, hc, n, hd⟩ := pl.isList
    exact call_list_seq p (.inl rfl) ho hc hd (fun h' c' kp e => fin its r' hz h' c' kp e) (by simp only [List.size_toArray] <;> omega)
  · obtain ⟨its, r', pl, hz⟩ := I.tuple hq
    have hlen := r'.length
    obtain ⟨o, ho, hc, n, hd⟩ := pl
    exact call_list_seq p (.inr rfl) ho hc hd (fun h' c' kp e => fin its r' hz h' c' kp e) (by simp only [List.size_toArray] <;> omega)
/-! the type of a value -/
def tyD : PyData → String
  | .none => "NoneType"
  | .bool _ => "bool"
  | .int _ => "int"
  | .str _ => "str"
  | .list _ => "list"
  | .tuple _ => "tuple"
  | .dict _ => "dict"
theorem Ap.ty {K : PySem.W.Frag} {S : List Addr} {H : Hp} {v : V} {d : PyData} (h : Ap K S H v d) : TyX K H v (.type (tyD d)) := by
  cases h with
  | non => exact .base .non
  | bl b => exact .base (.bl b)
  | int i => exact .base (.int i)
  | str x => exact .base (.str x)
  | lst ne hs _ =>
    rcases hs with hs | ⟨o, hs⟩
    · exact .base (.lst hs)
    · exact .base (.frz hs)
  | tup hs _ =>
    rcases hs with (hs | ⟨o, hs⟩) | ⟨o, its, n, h1, h2, _⟩
    · exact .base (.tup hs)
    · exact .fTuple hs
    · exact .kTuple h1 h2
  | dic hd => exact .base (.dK hd)
end Rb
/-! t[::-1], t a tuple that is not empty -/
namespace Rb
open PySem PySem.Spec PyProof.Rows L2 HT
/-! any value of a bounded size -/
def Av (K : PySem.W.Frag) (S : List Addr) (H : Hp) (k n : Nat) (v : V) : Prop := ∃ x, Ap K S H v x ∧ Nice k n x
def Avs (K : PySem.W.Frag) (S : List Addr) (H : Hp) (k n : Nat) (xs : List V) : Prop := ∀ v ∈ xs, Av K S H k n v
section
variable {K : PySem.W.Frag} {S S' : List Addr} {d c D : Addr} {H H' : Hp} {N : Int} {k n k' n' : Nat} {v : V} {xs ys : List V}
theorem Av.ex (h : Av K S H k n v) (e : Evl.Ex H H') : Av K S H' k n v := by
  obtain ⟨x, h1, h2⟩ := h
  exact ⟨x, h1.ex e, h2⟩
theorem Av.kp (h : Av K S H k n v) (ok : Sok H d c S) (e : Kp d c H H') (dk : Dk H d c N) : Av K S H' k n v := by
  obtain ⟨x, h1, h2⟩ := h
  exact ⟨x, h1.kp ok e dk, h2⟩
theorem Av.mono (h : Av K S H k n v) (h1 : k ≤ k') (h2 : n ≤ n') : Av K S H k' n' v := by
  obtain ⟨x, h3, h4⟩ := h
  exact ⟨x, h3, h4.mono h1 h2⟩
theorem Avs.ex (h : Avs K S H k n xs) (e : Evl.Ex H H') : Avs K S H' k n xs := fun v hv => (h v hv).ex e
theorem Avs.kp (h : Avs K S H k n xs) (ok : Sok H d c S) (e : Kp d c H H') (dk : Dk H d c N) : Avs K S H' k n xs := fun v hv => (h v hv).kp ok e dk
theorem Avs.mono (h : Avs K S H k n xs) (h1 : k ≤ k') (h2 : n ≤ n') : Avs K S H k' n' xs := fun v hv => (h v hv).mono h1 h2
theorem Avs.nil : Avs K S H k n [] := fun _ z => nomatch z
theorem Avs.cons (h1 : Av K S H k n v) (h : Avs K S H k n xs) : Avs K S H k n (v :: xs) := fun u hu => by
  rcases List.mem_cons.mp hu with rfl | hu
  · exact h1
  · exact h u hu
theorem Avs.append (h1 : Avs K S H k n xs) (h2 : Avs K S H k n ys) : Avs K S H k n (xs ++ ys) := fun u hu => by
  rcases List.mem_append.mp hu with hu | hu
  · exact h1 u hu
  · exact h2 u hu
theorem Avs.sub (h : Avs K S H k n xs) (hs : ∀ v ∈ ys, v ∈ xs) : Avs K S H k n ys := fun u hu => h u (hs u hu)
theorem Avs.data : ∀ {xs : List V}, Avs K S H k n xs → ∃ ds, ApAll K S H xs ds ∧ ∀ x ∈ ds, Nice k n x
  | [], _ => ⟨[], .nil, fun _ z => nomatch z⟩
  | v :: xs, h => by
    obtain ⟨x, h1, h2⟩ := h v List.mem_cons_self
    obtain ⟨ds, h3, h4⟩ := Avs.data fun u hu => h u (List.mem_cons_of_mem _ hu)
    refine ⟨x :: ds, .cons h1 h3, fun y hy => ?_⟩
    rcases List.mem_cons.mp hy with rfl | hy
    · exact h2
    · exact h4 y hy
theorem Av.tup {a : Addr} {m : Nat} (hs : SqT K H a xs) (h : Avs K S H k n xs) (hm : xs.length * (n + 1) ≤ m) : Av K S H (k + 1) m (.ref a) := by
  obtain ⟨ds, h1, h2⟩ := h.data
  exact ⟨_, .tup hs h1, Nice.tup h2 (by rw [← h1.length]; exact hm)⟩
theorem Av.lst {a : Addr} {m : Nat} (hn : a ∉ S) (hs : L2.Rd H a (.lst xs)) (h : Avs K S H k n xs) (hm : xs.length * (n + 1) ≤ m) : Av K S H (k + 1) m (.ref a) := by
  obtain ⟨ds, h1, h2⟩ := h.data
  exact ⟨_, .lst hn hs h1, Nice.lst h2 (by rw [← h1.length]; exact hm)⟩
theorem Av.int {i : Int} (h : i.natAbs < 10 ^ 99) : Av K S H k n (.int i) := ⟨_, .int i, (Nice.int h).mono (Nat.zero_le _) (Nat.zero_le _)⟩
theorem Av.bl {b : Bool} : Av K S H k n (.bl b) := ⟨_, .bl b, Nice.bool.mono (Nat.zero_le _) (Nat.zero_le _)⟩
theorem Avs.ints {ns : List Int} (h : ∀ i ∈ ns, i.natAbs < 10 ^ 99) : Avs K S H k n (ns.map V.int) := fun v hv => by
  obtain ⟨i, hi, rfl⟩ := List.mem_map.mp hv
  exact Av.int (h i hi)
end
/-! comprehensions over such values -/
end Rb
namespace Pu
open PySem PySem.Spec PyProof.Rows L2
/-! ## values without addresses (lst: k tells that the list is known to stand apart from the table of modules) -/
inductive D where
  | non | bl (b : Bool) | int (i : Int) | str (x : Str)
  | tup (xs : List D) | lst (k : Bool) (xs : List D) | dic (ps : List (Str × Int))
  | kls (xs : List D) | cell (n : Nat) | glo (x : Str) | ty (n : String)
  | ins (c : Str) (fs : List (Str × D))
  | exc (c : Str) (fs : List (Str × D))
instance : Inhabited D := ⟨.non⟩
/-- what stands in a cell -/
inductive Cl where
  | lst (xs : List D) | ins (c : Str) (fs : List (Str × D))
abbrev Sto := List Cl
abbrev Rho := List (Option D)
/-- the addresses of the cells; addresses that no value mentions -/
structure Mu where
  m : List Addr
  av : List Addr
/-- the row's written part and names -/
structure Ct where
  K : PySem.W.Frag
  mg : Str → Option Value
  hx : Addr → Option (Value × Option Addr)
/-- where no error is held -/
abbrev ct0 (K : PySem.W.Frag) (mg : Str → Option Value) : Ct := ⟨K, mg, fun _ => none⟩
section
variable (c : Ct) (μ : Mu) (H : Hp)
mutual
inductive Rp : V → D → Prop
  | non : Rp .non .non
  | bl (b : Bool) : Rp (.bl b) (.bl b)
  | int (i : Int) : Rp (.int i) (.int i)
  | str (x : Str) : Rp (.str x) (.str x)
  | tup {a : Addr} {vs : List V} {ds : List D} : H a = some (.tup vs) → RpAll vs ds → Rp (.ref a) (.tup ds)
  | lst {a : Addr} {k : Bool} {vs : List V} {ds : List D} : H a = some (.lst vs) → a ∉ μ.m → a ∉ μ.av → (k = true → a ≠ sysModules) → RpAll vs ds → Rp (.ref a) (.lst k ds)
  | kls {a : Addr} {vs : List V} {ds : List D} : L2.Rd H a (.lst vs) → a ∉ μ.m → a ∉ μ.av → RpAll vs ds → Rp (.ref a) (.kls ds)
  | klsK {a : Addr} {vs : List V} {ds : List D} (o : Obj) (its : Array Value) (n : Nat) : c.K.lookup a = some o → o.cls = .type "list" → o.dict = none → o.data = .seq its n → its.size ≤ sizeLine → Vals vs its.toList → RpAll vs ds → Rp (.ref a) (.kls ds)
  | dic {a : Addr} {ps : List (Str × Int)} : H a = some (.dK (Rb.dicV ps)) → a ∉ μ.m → a ∉ μ.av → Rp (.ref a) (.dic ps)
  | cell {n : Nat} {a : Addr} : μ.m[n]? = some a → Rp (.ref a) (.cell n)
  | glo {x : Str} {v : V} {u : Value} : c.mg x = some u → RelV v u → Rp v (.glo x)
  | ty (n : String) : Rp (.ty n) (.ty n)
  | ins {a C dx : Addr} {x : Str} {fv : List (Str × V)} {fs : List (Str × D)} : H a = some (.ins C dx fv) → a ∉ μ.m → a ∉ μ.av → c.mg x = some (.ref C) → RpFs fv fs → Rp (.ref a) (.ins x fs)
  | exc0 {a : Addr} {x : Str} {cls : Value} : c.hx a = some (cls, none) → c.mg x = some cls → Rp (.ref a) (.exc x [])
  | exc1 {a dx : Addr} {x : Str} {cls : Value} {fv : List (Str × V)} {fs : List (Str × D)} : c.hx a = some (cls, some dx) → c.mg x = some cls → H dx = some (.xd fv) → RpFs fv fs → Rp (.ref a) (.exc x fs)
inductive RpAll : List V → List D → Prop
  | nil : RpAll [] []
  | cons {v : V} {vs : List V} {d : D} {ds : List D} : Rp v d → RpAll vs ds → RpAll (v :: vs) (d :: ds)
inductive RpFs : List (Str × V) → List (Str × D) → Prop
  | nil : RpFs [] []
  | cons {f : Str} {v : V} {vs : List (Str × V)} {d : D} {ds : List (Str × D)} : Rp v d → RpFs vs ds → RpFs ((f, v) :: vs) ((f, d) :: ds)
end
end
/-! ## what stays -/
/-- from one state to a later one: cells may have changed, new ones may have come; all else is kept -/
structure Fw (μ : Mu) (H : Hp) (μ' : Mu) (H' : Hp) : Prop where
  pre : ∃ t, μ'.m = μ.m ++ t
  av : μ'.av = μ.av
  keep : ∀ a o, H a = some o → a ∉ μ.m → H' a = some o ∧ a ∉ μ'.m
theorem Fw.refl {μ : Mu} {H : Hp} : Fw μ H μ H := ⟨⟨[], by simp⟩, rfl, fun _ _ e n => ⟨e, n⟩⟩
theorem Fw.trans {μ μ1 μ2 : Mu} {H H1 H2 : Hp} (a : Fw μ H μ1 H1) (b : Fw μ1 H1 μ2 H2) : Fw μ H μ2 H2 := by
  obtain ⟨t, e⟩ := a.pre
  obtain ⟨u, e'⟩ := b.pre
  exact ⟨⟨t ++ u, by rw [e', e, List.append_assoc]⟩, b.av.trans a.av, fun x o e n => let ⟨h1, h2⟩ := a.keep x o e n; b.keep x o h1 h2⟩
theorem Fw.at {μ μ' : Mu} {H H' : Hp} (f : Fw μ H μ' H') {n : Nat} {a : Addr} (h : μ.m[n]? = some a) : μ'.m[n]? = some a := by
  obtain ⟨t, e⟩ := f.pre
  rw [e, List.getElem?_append_left (List.getElem?_eq_some_iff.mp h).1]
  exact h
theorem Fw.new {μ : Mu} {H : Hp} {p : Addr} {o : HO} (hp : H p = none) : Fw μ H μ (upd H p o) :=
  ⟨⟨[], by simp⟩, rfl, fun a u e n => ⟨by rw [upd_ne (ne_of_none e hp)]; exact e, n⟩⟩
/-- a new object that becomes a cell -/
theorem Fw.newC {μ : Mu} {H : Hp} {p : Addr} {o : HO} (hp : H p = none) : Fw μ H ⟨μ.m ++ [p], μ.av⟩ (upd H p o) :=
  ⟨⟨[p], rfl⟩, rfl, fun a u e n => ⟨by rw [upd_ne (ne_of_none e hp)]; exact e, fun z => by
    rcases List.mem_append.mp z with z | z
    · exact n z
    · exact ne_of_none e hp (List.mem_singleton.mp z)⟩⟩
/-- a cell is written -/
theorem Fw.write {μ : Mu} {H : Hp} {p : Addr} {o : HO} (hp : p ∈ μ.m) : Fw μ H μ (upd H p o) :=
  ⟨⟨[], by simp⟩, rfl, fun a u e n => ⟨by rw [upd_ne (fun z => n (by rw [z]; exact hp))]; exact e, n⟩⟩
section
variable {c : Ct} {μ μ' : Mu} {H H' : Hp}
/-- the general form: what a value leans on is kept -/
structure Kp (c : Ct) (μ : Mu) (H : Hp) (μ' : Mu) (H' : Hp) : Prop where
  t : ∀ a xs, H a = some (.tup xs) → H' a = some (.tup xs)
  l : ∀ a xs, L2.Rd H a (.lst xs) → a ∉ μ.m → a ∉ μ.av → L2.Rd H' a (.lst xs) ∧ a ∉ μ'.m ∧ a ∉ μ'.av
  m : ∀ a xs, H a = some (.lst xs) → a ∉ μ.m → a ∉ μ.av → H' a = some (.lst xs) ∧ a ∉ μ'.m ∧ a ∉ μ'.av
  d : ∀ a ps, H a = some (.dK ps) → a ∉ μ.m → a ∉ μ.av → H' a = some (.dK ps) ∧ a ∉ μ'.m ∧ a ∉ μ'.av
  i : ∀ a C dx fs, H a = some (.ins C dx fs) → a ∉ μ.m → a ∉ μ.av → H' a = some (.ins C dx fs) ∧ a ∉ μ'.m ∧ a ∉ μ'.av
  cl : ∀ (n : Nat) (a : Addr), μ.m[n]? = some a → μ'.m[n]? = some a
  x : ∀ a fv, H a = some (.xd fv) → H' a = some (.xd fv)
mutual
theorem Rp.kp (k : Kp c μ H μ' H') : ∀ {v : V} {d : D}, Rp c μ H v d → Rp c μ' H' v d
  | _, _, .non => .non
  | _, _, .bl b => .bl b
  | _, _, .int i => .int i
  | _, _, .str x => .str x
  | _, _, .tup h r => .tup (k.t _ _ h) (RpAll.kp k r)
  | _, _, .lst h n1 n2 n3 r => let ⟨a, b, d⟩ := k.m _ _ h n1 n2; .lst a b d n3 (RpAll.kp k r)
  | _, _, .kls h n1 n2 r => let ⟨a, b, d⟩ := k.l _ _ h n1 n2; .kls a b d (RpAll.kp k r)
  | _, _, .klsK o its n h1 h2 h3 h4 h5 h6 r => .klsK o its n h1 h2 h3 h4 h5 h6 (RpAll.kp k r)
  | _, _, .dic h n n2 => let ⟨a, b, d⟩ := k.d _ _ h n n2; .dic a b d
  | _, _, .cell h => .cell (k.cl _ _ h)
  | _, _, .glo h r => .glo h r
  | _, _, .ty n => .ty n
  | _, _, .ins h n n2 g r => let ⟨a, b, d⟩ := k.i _ _ _ _ h n n2; .ins a b d g (RpFs.kp k r)
  | _, _, .exc0 h g => .exc0 h g
  | _, _, .exc1 h g e r => .exc1 h g (k.x _ _ e) (RpFs.kp k r)
theorem RpAll.kp (k : Kp c μ H μ' H') : ∀ {vs : List V} {ds : List D}, RpAll c μ H vs ds → RpAll c μ' H' vs ds
  | _, _, .nil => .nil
  | _, _, .cons h r => .cons (Rp.kp k h) (RpAll.kp k r)
theorem RpFs.kp (k : Kp c μ H μ' H') : ∀ {vs : List (Str × V)} {ds : List (Str × D)}, RpFs c μ H vs ds → RpFs c μ' H' vs ds
  | _, _, .nil => .nil
  | _, _, .cons h r => .cons (Rp.kp k h) (RpFs.kp k r)
end
end
/-- a cell's object -/
def ClOk (c : Ct) (μ : Mu) (H : Hp) (a : Addr) : Cl → Prop
  | .lst ds => ∃ vs, H a = some (.lst vs) ∧ RpAll c μ H vs ds
  | .ins x fs => ∃ C dx fv, H a = some (.ins C dx fv) ∧ c.mg x = some (.ref C) ∧ RpFs c μ H fv fs
structure Wd (c : Ct) (μ : Mu) (S : Sto) (H : Hp) : Prop where
  nd : μ.m.Nodup
  len : μ.m.length = S.length
  ap : ∀ a ∈ μ.m, a ∉ μ.av
  avs : ∀ a ∈ μ.av, H a ≠ none
  ok : ∀ (i : Nat) (a : Addr) (x : Cl), μ.m[i]? = some a → S[i]? = some x → ClOk c μ H a x
theorem upd_some {H : Hp} {p a : Addr} {o : HO} (h : H a ≠ none) : upd H p o a ≠ none := by
  unfold upd
  split
  · exact fun z => nomatch z
  · exact h
theorem ClOk.there {c : Ct} {μ : Mu} {H : Hp} {a : Addr} : ∀ {x : Cl}, ClOk c μ H a x → ∃ o, H a = some o ∧ (∀ xs, o ≠ .tup xs) ∧ (∀ ob u, o ≠ .frz ob u) ∧ ∀ fv, o ≠ .xd fv
  | .lst _, ⟨_, h, _⟩ => ⟨_, h, (fun _ z => nomatch z), (fun _ _ z => nomatch z), fun _ z => nomatch z⟩
  | .ins _ _, ⟨_, _, _, h, _⟩ => ⟨_, h, (fun _ z => nomatch z), (fun _ _ z => nomatch z), fun _ z => nomatch z⟩
theorem Wd.there {c : Ct} {μ : Mu} {S : Sto} {H : Hp} (w : Wd c μ S H) {a : Addr} (h : a ∈ μ.m) : ∃ o, H a = some o ∧ (∀ xs, o ≠ .tup xs) ∧ (∀ ob u, o ≠ .frz ob u) ∧ ∀ fv, o ≠ .xd fv := by
  obtain ⟨i, hi, e⟩ := List.getElem_of_mem h
  have h1 : μ.m[i]? = some a := List.getElem?_eq_some_iff.mpr ⟨hi, e⟩
  have h2 : i < S.length := by rw [← w.len]; exact hi
  exact (w.ok i a S[i] h1 (List.getElem?_eq_getElem h2)).there
theorem Wd.fresh {c : Ct} {μ : Mu} {S : Sto} {H : Hp} (w : Wd c μ S H) {p : Addr} (hp : H p = none) : p ∉ μ.m := fun z => by
  obtain ⟨o, e, _⟩ := w.there z
  rw [hp] at e
  cases e
theorem Wd.tupK {c : Ct} {μ μ' : Mu} {S : Sto} {H H' : Hp} (w : Wd c μ S H) (f : Fw μ H μ' H') {a : Addr} {xs : List V} (e : H a = some (.tup xs)) : H' a = some (.tup xs) := by
  refine (f.keep a _ e fun z => ?_).1
  obtain ⟨o, e', n, _⟩ := w.there z
  rw [e] at e'
  exact n xs (Option.some.inj e').symm
theorem Wd.xdK {c : Ct} {μ μ' : Mu} {S : Sto} {H H' : Hp} (w : Wd c μ S H) (f : Fw μ H μ' H') {a : Addr} {fv : List (Str × V)} (e : H a = some (.xd fv)) : H' a = some (.xd fv) := by
  refine (f.keep a _ e fun z => ?_).1
  obtain ⟨o, e', _, _, n⟩ := w.there z
  rw [e] at e'
  exact n fv (Option.some.inj e').symm
theorem Wd.kp {c : Ct} {μ μ' : Mu} {S : Sto} {H H' : Hp} (w : Wd c μ S H) (f : Fw μ H μ' H') : Kp c μ H μ' H' where
  t := fun _ _ h => w.tupK f h
  l := fun a xs h n1 n2 => by
    rcases h with e | ⟨o, e⟩
    · exact ⟨.inl (f.keep a _ e n1).1, (f.keep a _ e n1).2, f.av ▸ n2⟩
    · exact ⟨.inr ⟨o, (f.keep a _ e n1).1⟩, (f.keep a _ e n1).2, f.av ▸ n2⟩
  m := fun a xs e n1 n2 => ⟨(f.keep a _ e n1).1, (f.keep a _ e n1).2, f.av ▸ n2⟩
  d := fun a ps e n1 n2 => ⟨(f.keep a _ e n1).1, (f.keep a _ e n1).2, f.av ▸ n2⟩
  i := fun a C dx fs e n1 n2 => ⟨(f.keep a _ e n1).1, (f.keep a _ e n1).2, f.av ▸ n2⟩
  cl := fun n a h => f.at h
  x := fun _ _ h => w.xdK f h
section
variable {c : Ct} {μ μ' : Mu} {S : Sto} {H H' : Hp} {v : V} {d : D} {vs : List V} {ds : List D}
theorem Rp.fw (r : Rp c μ H v d) (w : Wd c μ S H) (f : Fw μ H μ' H') : Rp c μ' H' v d := r.kp (w.kp f)
theorem RpAll.fw (r : RpAll c μ H vs ds) (w : Wd c μ S H) (f : Fw μ H μ' H') : RpAll c μ' H' vs ds := r.kp (w.kp f)
theorem ClOk.kp (k : Kp c μ H μ' H') {a : Addr} (g : ∀ o, H a = some o → H' a = some o) : ∀ {x : Cl}, ClOk c μ H a x → ClOk c μ' H' a x
  | .lst _, ⟨vs, h, r⟩ => ⟨vs, g _ h, r.kp k⟩
  | .ins _ _, ⟨C, dx, fv, h, e, r⟩ => ⟨C, dx, fv, g _ h, e, r.kp k⟩
/-- a new object that is no cell -/
theorem Wd.new (w : Wd c μ S H) {p : Addr} {o : HO} (hp : H p = none) : Wd c μ S (upd H p o) :=
  ⟨w.nd, w.len, w.ap, fun a h => upd_some (w.avs a h), fun i a x h1 h2 => ClOk.kp (w.kp (Fw.new hp)) (fun u e => by rw [upd_ne (ne_of_none e hp)]; exact e) (w.ok i a x h1 h2)⟩
theorem RpAll.length : ∀ {vs : List V} {ds : List D}, RpAll c μ H vs ds → vs.length = ds.length
  | _, _, .nil => rfl
  | _, _, .cons _ r => congrArg Nat.succ r.length
theorem RpAll.at : ∀ {vs : List V} {ds : List D} {i : Nat} {d : D}, RpAll c μ H vs ds → ds[i]? = some d → ∃ v, vs[i]? = some v ∧ Rp c μ H v d
  | _, _, i, _, .nil, h => by simp at h
  | _, _, 0, _, .cons h1 _, h => by cases h; exact ⟨_, rfl, h1⟩
  | _, _, i + 1, _, .cons _ h2, h => RpAll.at (i := i) h2 h
theorem RpAll.append : ∀ {vs ws : List V} {ds es : List D}, RpAll c μ H vs ds → RpAll c μ H ws es → RpAll c μ H (vs ++ ws) (ds ++ es)
  | _, _, _, _, .nil, h => h
  | _, _, _, _, .cons h1 h2, h => .cons h1 (h2.append h)
theorem RpAll.take : ∀ {vs : List V} {ds : List D} (n : Nat), RpAll c μ H vs ds → RpAll c μ H (vs.take n) (ds.take n)
  | _, _, 0, _ => .nil
  | _, _, _ + 1, .nil => .nil
  | _, _, n + 1, .cons h r => .cons h (RpAll.take n r)
theorem RpAll.drop : ∀ {vs : List V} {ds : List D} (n : Nat), RpAll c μ H vs ds → RpAll c μ H (vs.drop n) (ds.drop n)
  | _, _, 0, r => r
  | _, _, _ + 1, .nil => .nil
  | _, _, n + 1, .cons _ r => RpAll.drop n r
theorem RpAll.set {v : V} {d : D} (h : Rp c μ H v d) : ∀ {vs : List V} {ds : List D} (n : Nat), RpAll c μ H vs ds → RpAll c μ H (vs.set n v) (ds.set n d)
  | _, _, _, .nil => .nil
  | _, _, 0, .cons _ r => .cons h r
  | _, _, n + 1, .cons q r => .cons q (RpAll.set h n r)
theorem RpAll.rev : ∀ {vs : List V} {ds : List D}, RpAll c μ H vs ds → RpAll c μ H vs.reverse ds.reverse
  | _, _, .nil => .nil
  | _, _, .cons h r => by
    rw [List.reverse_cons, List.reverse_cons]
    exact r.rev.append (.cons h .nil)
theorem RpAll.erase : ∀ {vs : List V} {ds : List D} (n : Nat), RpAll c μ H vs ds → RpAll c μ H (vs.eraseIdx n) (ds.eraseIdx n)
  | _, _, _, .nil => .nil
  | _, _, 0, .cons _ r => r
  | _, _, n + 1, .cons q r => .cons q (RpAll.erase n r)
theorem RpAll.rep : ∀ (n : Nat), RpAll c μ H vs ds → RpAll c μ H (List.replicate n vs).flatten (List.replicate n ds).flatten
  | 0, _ => .nil
  | n + 1, r => by
    rw [List.replicate_succ, List.replicate_succ, List.flatten_cons, List.flatten_cons]
    exact r.append (RpAll.rep n r)
end
theorem ix_uniq {N : List Addr} (hN : N.Nodup) {i j : Nat} {x : Addr} (a : N[i]? = some x) (b : N[j]? = some x) : i = j := by
  obtain ⟨h1, e1⟩ := List.getElem?_eq_some_iff.mp a
  obtain ⟨h2, e2⟩ := List.getElem?_eq_some_iff.mp b
  exact (List.getElem_inj hN).mp (e1.trans e2.symm)
/-- one write to a cell -/
theorem Wd.set {c : Ct} {μ : Mu} {S : Sto} {H : Hp} (w : Wd c μ S H) {n : Nat} {a : Addr} {o : HO} {x : Cl} (h : μ.m[n]? = some a) (hx : ClOk c μ (upd H a o) a x) : Wd c μ (S.set n x) (upd H a o) := by
  have hm : a ∈ μ.m := List.mem_of_getElem? h
  refine ⟨w.nd, by rw [List.length_set]; exact w.len, w.ap, fun a h => upd_some (w.avs a h), fun i b y h1 h2 => ?_⟩
  by_cases hi : n = i
  · subst hi
    rw [h] at h1
    cases h1
    have : n < S.length := by rw [← w.len]; exact (List.getElem?_eq_some_iff.mp h).1
    rw [List.getElem?_set_self this] at h2
    cases h2
    exact hx
  · rw [List.getElem?_set_ne hi] at h2
    have ne : b ≠ a := fun z => by
      subst z
      exact hi (ix_uniq w.nd h h1)
    exact ClOk.kp (w.kp (Fw.write hm)) (fun u e => by rw [upd_ne ne]; exact e) (w.ok i b y h1 h2)
/-- a new cell -/
theorem Wd.newC {c : Ct} {μ : Mu} {S : Sto} {H : Hp} (w : Wd c μ S H) {p : Addr} {o : HO} {x : Cl} (hp : H p = none) (hx : ClOk c ⟨μ.m ++ [p], μ.av⟩ (upd H p o) p x) : Wd c ⟨μ.m ++ [p], μ.av⟩ (S ++ [x]) (upd H p o) := by
  have nm := w.fresh hp
  refine ⟨?_, by simp [w.len], fun a h => ?_, fun a h => upd_some (w.avs a h), fun i a y h1 h2 => ?_⟩
  · rw [List.nodup_append]
    exact ⟨w.nd, by simp, fun a ha b hb e => nm (by rw [List.mem_singleton.mp hb] at e; exact e ▸ ha)⟩
  · rcases List.mem_append.mp h with h | h
    · exact w.ap a h
    · rw [List.mem_singleton.mp h]; exact fun z => w.avs p z hp
  · have hl := w.len
    by_cases hi : i < μ.m.length
    · rw [List.getElem?_append_left hi] at h1
      rw [List.getElem?_append_left (by omega)] at h2
      exact ClOk.kp (w.kp (Fw.newC hp)) (fun u e => by rw [upd_ne (ne_of_none e hp)]; exact e) (w.ok i a y h1 h2)
    · have hi2 : i = μ.m.length := by
        have := (List.getElem?_eq_some_iff.mp h1).1
        simp at this
        omega
      subst hi2
      rw [List.getElem?_append_right (Nat.le_refl _), Nat.sub_self] at h1
      cases h1
      rw [List.getElem?_append_right (by omega), hl, Nat.sub_self] at h2
      cases h2
      exact hx
end Pu
namespace Pu
open PySem PySem.Spec PyProof.Rows L2
/-! ## meanings: what must hold so that a piece of code ends as wanted, over values without addresses -/
abbrev QD := D → Sto → Prop
/-- an error: its class, its fields -/
abbrev Er := Str × List (Str × D)
abbrev ED := Er → Sto → Prop
abbrev FX (α : Type) := Rho → Sto → (α → Sto → Prop) → ED → Prop
abbrev FE := FX D
abbrev FT := FX Bool
abbrev FA := FX (List D)
abbrev FO := FX (Option Int)
structure DEnds where
  nx : Rho → Sto → Prop
  rt : QD
  bk : Rho → Sto → Prop
  ct : Rho → Sto → Prop
abbrev FS := Rho → Sto → DEnds → ED → Prop
abbrev FG := D → Rho → Sto → (Rho → Sto → Prop) → ED → Prop
abbrev FGs := List D → Rho → Sto → (Rho → Sto → Prop) → ED → Prop
/-- a def -/
abbrev FF := List D → Sto → QD → ED → Prop
def hxOf (pn : List (Addr × Obj)) (a : Addr) : Option (Value × Option Addr) := match pn with
  | (b, o) :: _ => if b = a then some (o.cls, o.dict) else none
  | [] => none
def ct (X : Cx) : Ct := ⟨X.K, X.mg, if X.calm = true then fun _ => none else hxOf X.pn⟩
/-- what leaves by an error, whatever the slots -/
abbrev cE (E : XK) : L2.St → XK := fun _ => E
structure EnvR (c : Ct) (μ : Mu) (H : Hp) (σ : L2.St) (ρ : Rho) : Prop where
  len : σ.length = ρ.length
  ok : ∀ (i : Nat) (d : D), ρ[i]? = some (some d) → ∃ v, σ[i]? = some (some v) ∧ Rp c μ H v d
def RpX (c : Ct) (μ : Mu) (H : Hp) (cls : Value) (dx : Option Addr) (e : Er) : Prop :=
  c.mg e.1 = some cls ∧ match e.2 with
    | [] => dx = none
    | f :: fs => ∃ a fv, dx = some a ∧ H a = some (.xd fv) ∧ RpFs c μ H fv (f :: fs)
def PX (c : Ct) (μ : Mu) (H : Hp) (Ed : ED) (E : XK) : Prop := ∀ e S' cls dx H' μ', Ed e S' → Fw μ H μ' H' → Wd c μ' S' H' → RpX c μ' H' cls dx e → E cls dx H'
section
variable {c : Ct} {μ μ' : Mu} {S S' : Sto} {H H' : Hp} {σ : L2.St} {ρ : Rho} {Ed : ED} {E : XK}
theorem EnvR.fw (en : EnvR c μ H σ ρ) (w : Wd c μ S H) (f : Fw μ H μ' H') : EnvR c μ' H' σ ρ := ⟨en.len, fun i d h => let ⟨v, e, r⟩ := en.ok i d h; ⟨v, e, r.fw w f⟩⟩
theorem EnvR.kp (en : EnvR c μ H σ ρ) (k : Kp c μ H μ' H') : EnvR c μ' H' σ ρ := ⟨en.len, fun i d h => let ⟨v, e, r⟩ := en.ok i d h; ⟨v, e, r.kp k⟩⟩
theorem PX.fw (p : PX c μ H Ed E) (f : Fw μ H μ' H') : PX c μ' H' Ed E := fun e S' cls dx H2 μ2 h g w r => p e S' cls dx H2 μ2 h (f.trans g) w r
theorem EnvR.set (en : EnvR c μ H σ ρ) {i : Nat} {v : V} {d : D} (r : Rp c μ H v d) : EnvR c μ H (σ.set i (some v)) (ρ.set i (some d)) := by
  refine ⟨by rw [List.length_set, List.length_set]; exact en.len, fun j x h => ?_⟩
  by_cases e : i = j
  · subst e
    have hl : i < ρ.length := by
      have := (List.getElem?_eq_some_iff.mp h).1
      rwa [List.length_set] at this
    rw [List.getElem?_set_self hl] at h
    cases h
    exact ⟨v, by rw [List.getElem?_set_self (by rw [en.len]; exact hl)], r⟩
  · rw [List.getElem?_set_ne e] at h ⊢
    exact en.ok j x h
end
/-- the reading that a meaning gives -/
def tR {α β : Type} (c : Ct) (R : Mu → Hp → β → α → Prop) (E : L2.St → XK) (f : FX α) : L2.St → Hp → (β → Hp → Prop) → Prop := fun σ H Q =>
  ∃ μ S ρ Qd Ed, Wd c μ S H ∧ EnvR c μ H σ ρ ∧ f ρ S Qd Ed ∧ (∀ d S' v H' μ', Qd d S' → Fw μ H μ' H' → Wd c μ' S' H' → R μ' H' v d → Q v H') ∧ PX c μ H Ed (E σ)
theorem tR_of {α β : Type} {c : Ct} {R : Mu → Hp → β → α → Prop} {E : L2.St → XK} {f : FX α} {σ : L2.St} {H : Hp} {Q : β → Hp → Prop} {μ : Mu} {S : Sto} {ρ : Rho} {Qd : α → Sto → Prop} {Ed : ED}
    (w : Wd c μ S H) (en : EnvR c μ H σ ρ) (h : f ρ S Qd Ed) (px : PX c μ H Ed (E σ))
    (q : ∀ d S' v H' μ', Qd d S' → Fw μ H μ' H' → Wd c μ' S' H' → EnvR c μ' H' σ ρ → PX c μ' H' Ed (E σ) → R μ' H' v d → Q v H') : tR c R E f σ H Q :=
  ⟨μ, S, ρ, Qd, Ed, w, en, h, fun d S' v H' μ' h1 h2 h3 h4 => q d S' v H' μ' h1 h2 h3 (en.fw w h2) (px.fw h2) h4, px⟩
def rEqB {α : Type} : Mu → Hp → α → α → Prop := fun _ _ a b => a = b
abbrev tD (c : Ct) (E : L2.St → XK) (f : FE) : TE := tR c (Rp c) E f
abbrev tT (c : Ct) (E : L2.St → XK) (f : FT) : TT := tR c rEqB E f
abbrev tAr (c : Ct) (E : L2.St → XK) (f : FA) : TA := tR c (RpAll c) E f
abbrev tOp' (c : Ct) (E : L2.St → XK) (f : FO) : TO := tR c rEqB E f
abbrev PEd (X : Cx) (E : L2.St → XK) (e : Expr) (f : FE) : Prop := PE X e (tD (ct X) E f)
abbrev PTd (X : Cx) (E : L2.St → XK) (e : Expr) (f : FT) : Prop := PT X e (tT (ct X) E f)
abbrev PWd (X : Cx) (E : L2.St → XK) (e : Expr) (f : FT) : Prop := PW X e (tT (ct X) E f)
abbrev PAd (X : Cx) (E : L2.St → XK) (es : List Expr) (f : FA) : Prop := PA X es (tAr (ct X) E f)
abbrev POd (X : Cx) (E : L2.St → XK) (e : Option Expr) (f : FO) : Prop := PO X e (tOp' (ct X) E f)
section
variable {X : Cx}
theorem PE.imp {e : Expr} {t t' : TE} (h : PE X e t) (k : ∀ σ H Q, t' σ H Q → t σ H Q) : PE X e t' := ⟨fun pins s σ H Q I q => h.run pins s σ H Q I (k σ H Q q)⟩
theorem PT.imp {e : Expr} {t t' : TT} (h : PT X e t) (k : ∀ σ H Q, t' σ H Q → t σ H Q) : PT X e t' := ⟨fun pins s σ H Q I q => h.run pins s σ H Q I (k σ H Q q)⟩
theorem PW.imp {e : Expr} {t t' : TT} (h : PW X e t) (k : ∀ σ H Q, t' σ H Q → t σ H Q) : PW X e t' := ⟨fun wh pins s σ H Q I q => h.run wh pins s σ H Q I (k σ H Q q)⟩
theorem PA.imp {e : List Expr} {t t' : TA} (h : PA X e t) (k : ∀ σ H Q, t' σ H Q → t σ H Q) : PA X e t' := ⟨fun p pins s σ H Q I q => h.run p pins s σ H Q I (k σ H Q q)⟩
theorem PO.imp {e : Option Expr} {t t' : TO} (h : PO X e t) (k : ∀ σ H Q, t' σ H Q → t σ H Q) : PO X e t' := ⟨fun pins s σ H Q I q => h.run pins s σ H Q I (k σ H Q q)⟩
theorem PS.imp {e : Stmt} {t t' : TS} (h : PS X e t) (k : ∀ D σ H, t' D σ H → t D σ H) : PS X e t' := ⟨fun pins s σ H D I q => h.run pins s σ H D I (k D σ H q)⟩
theorem PSs.imp {e : List Stmt} {t t' : TS} (h : PSs X e t) (k : ∀ D σ H, t' D σ H → t D σ H) : PSs X e t' := ⟨fun pins s σ H D I q => h.run pins s σ H D I (k D σ H q)⟩
theorem PG.imp {e : Expr} {t t' : TG} (h : PG X e t) (k : ∀ v σ H Q, t' v σ H Q → t v σ H Q) : PG X e t' := ⟨fun pins s σ H v u Q I r q => h.run pins s σ H v u Q I r (k v σ H Q q)⟩
end
/-! ### names, constants -/
def getV : Rho → Nat → Option D
  | [], _ => none
  | x :: _, 0 => x
  | _ :: r, n + 1 => getV r n
theorem getV_some : ∀ {ρ : Rho} {i : Nat} {d : D}, getV ρ i = some d → ρ[i]? = some (some d)
  | [], _, _, h => by cases h
  | _ :: _, 0, _, h => by
    rw [List.getElem?_cons_zero]
    exact congrArg some h
  | _ :: r, n + 1, _, h => by
    rw [List.getElem?_cons_succ]
    exact getV_some (ρ := r) h
def onSome {α : Type} (o : Option α) (k : α → Prop) : Prop := match o with | some a => k a | none => False
theorem onSome_of {α : Type} {o : Option α} {k : α → Prop} (h : onSome o k) : ∃ a, o = some a ∧ k a := by
  cases o with
  | none => exact h.elim
  | some a => exact ⟨a, rfl, h⟩
def dVar (i : Nat) : FE := fun ρ S Q _ => onSome (getV ρ i) fun d => Q d S
def dC {α : Type} (d : α) : FX α := fun _ S Q _ => Q d S
section
variable {X : Cx} {E : L2.St → XK} {pos : Pos}
theorem d_var {i : Nat} {e : Expr} (h : PE X e (tVar i)) : PEd X E e (dVar i) := by
  refine PE.imp h fun σ H Q ⟨μ, S, ρ, Qd, Ed, w, en, hf, q, px⟩ => ?_
  obtain ⟨d, e1, hd⟩ := onSome_of hf
  obtain ⟨v, e2, r⟩ := en.ok i d (getV_some e1)
  exact ⟨v, e2, q d S v H μ hd Fw.refl w r⟩
theorem d_const {v : V} {d : D} {e : Expr} (h : PE X e (tC v)) (r : ∀ μ H, Rp (ct X) μ H v d) : PEd X E e (dC d) :=
  PE.imp h fun σ H Q ⟨μ, S, ρ, Qd, Ed, w, en, hf, q, px⟩ => q d S v H μ hf Fw.refl w (r μ H)
theorem d_int {i j} : PEd X E (.Constant (.int i) j pos) (dC (.int i)) := d_const pe_int fun _ _ => .int i
theorem d_bl {b j} : PEd X E (.Constant (.bool b) j pos) (dC (.bl b)) := d_const pe_bl fun _ _ => .bl b
theorem d_non {j} : PEd X E (.Constant .none j pos) (dC .non) := d_const pe_non fun _ _ => .non
theorem d_str {x j} : PEd X E (.Constant (.str x) j pos) (dC (.str x)) := d_const pe_str fun _ _ => .str x
/-- a module's int -/
theorem d_gint {x : Str} {i : Int} {t : Tok} (hg : Gl X x) (hm : X.mg x = some (.int i t)) (hd : (x == ("__debug__" : Str)) = false := by decide) : PEd X E (.Name x pos) (dC (.int i)) :=
  d_const (pe_glob hg hm (show RelV (V.int i) _ from ⟨_, rfl⟩) hd) fun _ _ => .int i
end
/-! ### argument lists -/
def dNil : FA := fun _ S Q _ => Q [] S
def dCons (f : FE) (g : FA) : FA := fun ρ S Q Ed => f ρ S (fun x S1 => g ρ S1 (fun xs S2 => Q (x :: xs) S2) Ed) Ed
section
variable {X : Cx} {E : L2.St → XK} {pos : Pos} {a b e : Expr} {es : List Expr} {fa fb : FE} {fs : FA}
theorem d_nil : PAd X E [] dNil := PA.imp pa_nil fun σ H Q ⟨μ, S, ρ, Qd, Ed, w, en, hf, q, px⟩ => q [] S [] H μ hf Fw.refl w .nil
theorem d_cons (ha : PEd X E e fa) (hr : PAd X E es fs) (hs : starEach (e :: es) X.env = (false, eval e X.env) :: starEach es X.env := by rfl) : PAd X E (e :: es) (dCons fa fs) := by
  refine PA.imp (pa_cons ha hr hs) fun σ H Q ⟨μ, S, ρ, Qd, Ed, w, en, hf, q, px⟩ => ?_
  refine tR_of w en hf px fun x S1 v H1 μ1 h1 f1 w1 en1 px1 r1 => ?_
  refine tR_of w1 en1 h1 px1 fun xs S2 vs H2 μ2 h2 f2 w2 en2 px2 r2 => ?_
  exact q _ S2 _ H2 μ2 h2 (f1.trans f2) w2 (.cons (r1.fw w1 f2) r2)
/-! ### operators by values -/
abbrev G2 := D → D → Sto → QD → Prop
def PostV (c : Ct) (μ : Mu) (H : Hp) (Qd : QD) (Q : VK) : Prop := ∀ d S' v H' μ', Qd d S' → Fw μ H μ' H' → Wd c μ' S' H' → Rp c μ' H' v d → Q v H'
def rD2 (c : Ct) (g : G2) : R2 := fun x y H Q => ∃ μ S dx dy Qd, Wd c μ S H ∧ Rp c μ H x dx ∧ Rp c μ H y dy ∧ g dx dy S Qd ∧ PostV c μ H Qd Q
def rD1 (c : Ct) (g : D → Sto → QD → Prop) : V → Hp → VK → Prop := fun x H Q => ∃ μ S dx Qd, Wd c μ S H ∧ Rp c μ H x dx ∧ g dx S Qd ∧ PostV c μ H Qd Q
def rDs (c : Ct) (g : List D → Sto → QD → Prop) : List V → Hp → VK → Prop := fun xs H Q => ∃ μ S ds Qd, Wd c μ S H ∧ RpAll c μ H xs ds ∧ g ds S Qd ∧ PostV c μ H Qd Q
def rDm (c : Ct) (g : D → List D → Sto → QD → Prop) : V → List V → Hp → VK → Prop := fun x xs H Q => ∃ μ S d ds Qd, Wd c μ S H ∧ Rp c μ H x d ∧ RpAll c μ H xs ds ∧ g d ds S Qd ∧ PostV c μ H Qd Q
def dBin (g : G2) (fa fb : FE) : FE := fun ρ S Q Ed => fa ρ S (fun x S1 => fb ρ S1 (fun y S2 => g x y S2 Q) Ed) Ed
def dUn (g : D → Sto → QD → Prop) (fa : FE) : FE := fun ρ S Q Ed => fa ρ S (fun x S1 => g x S1 Q) Ed
def dB (g : List D → Sto → QD → Prop) (fa : FA) : FE := fun ρ S Q Ed => fa ρ S (fun ds S1 => g ds S1 Q) Ed
theorem tBin {g : G2} {σ : L2.St} {H : Hp} {Q : VK} {c : Ct} (h : tD c E (dBin g fa fb) σ H Q) : tOp (rD2 c g) (tD c E fa) (tD c E fb) σ H Q := by
  obtain ⟨μ, S, ρ, Qd, Ed, w, en, hf, q, px⟩ := h
  refine tR_of w en hf px fun x S1 v H1 μ1 h1 f1 w1 en1 px1 r1 => ?_
  refine tR_of w1 en1 h1 px1 fun y S2 u H2 μ2 h2 f2 w2 en2 px2 r2 => ?_
  exact ⟨μ2, S2, x, y, Qd, w2, r1.fw w1 f2, r2, h2, fun d S' v' H' μ' h f w' r => q d S' v' H' μ' h (f1.trans (f2.trans f)) w' r⟩
theorem d_bin {op : Operator} {g : G2} (ho : OpR X (binaryOp op) (rD2 (ct X) g)) (ha : PEd X E a fa) (hb : PEd X E b fb) : PEd X E (.BinOp a op b pos) (dBin g fa fb) :=
  PE.imp (pe_op ho ha hb) fun _ _ _ h => tBin h
theorem d_un {op : UnaryOp} {g : D → Sto → QD → Prop} (ho : UnR X (unaryOp op) (rD1 (ct X) g)) (ha : PEd X E a fa) : PEd X E (.UnaryOp op a pos) (dUn g fa) := by
  refine PE.imp (pe_un ho ha) fun σ H Q ⟨μ, S, ρ, Qd, Ed, w, en, hf, q, px⟩ => ?_
  refine tR_of w en hf px fun x S1 v H1 μ1 h1 f1 w1 en1 px1 r1 => ?_
  exact ⟨μ1, S1, x, Qd, w1, r1, h1, fun d S' v' H' μ' h f w' r => q d S' v' H' μ' h (f1.trans f) w' r⟩
theorem d_cmp {op : CmpOp} {g : G2} (ho : OpR X (compareOp op) (rD2 (ct X) g)) (ha : PEd X E a fa) (hb : PEd X E b fb) (hm : behindInMarks op b = false) : PEd X E (.Compare a [op] [b] pos) (dBin g fa fb) :=
  PE.imp (pe_cmpR ho ha hb hm) fun _ _ _ h => tBin h
/-- a bool's test -/
def onBl (d : D) (k : Bool → Prop) : Prop := match d with | .bl b => k b | _ => False
theorem onBl_of {d : D} {k : Bool → Prop} (h : onBl d k) : ∃ b, d = .bl b ∧ k b := by
  cases d with
  | bl b => exact ⟨b, rfl, h⟩
  | _ => exact h.elim
def dTest (f : FE) : FT := fun ρ S Q Ed => f ρ S (fun d S1 => onBl d fun b => Q b S1) Ed
theorem Rp.bl_inv {c : Ct} {μ : Mu} {H : Hp} {v : V} {b : Bool} (h : Rp c μ H v (.bl b)) : v = .bl b := by cases h; rfl
theorem tTest_of {f : FE} {σ : L2.St} {H : Hp} {Q : Bool → Hp → Prop} {c : Ct} (h : tT c E (dTest f) σ H Q) : tD c E f σ H (fun x H' => ∃ k, x = .bl k ∧ Q k H') := by
  obtain ⟨μ, S, ρ, Qd, Ed, w, en, hf, q, px⟩ := h
  refine tR_of w en hf px fun x S1 v H1 μ1 h1 f1 w1 en1 px1 r1 => ?_
  obtain ⟨b, rfl, hb⟩ := onBl_of h1
  exact ⟨b, r1.bl_inv, q b S1 b H1 μ1 hb f1 w1 rfl⟩
theorem d_tcmp {op : CmpOp} {g : G2} (ho : OpR X (compareOp op) (rD2 (ct X) g)) (ha : PEd X E a fa) (hb : PEd X E b fb) (hm : behindInMarks op b = false) : PTd X E (.Compare a [op] [b] pos) (dTest (dBin g fa fb)) := by
  refine PT.imp (pt_cmpR ho ha hb hm) fun σ H Q h => ?_
  obtain ⟨μ, S, ρ, Qd, Ed, w, en, hf, q, px⟩ := h
  show tOp _ _ _ σ H _
  refine tBin ⟨μ, S, ρ, _, Ed, w, en, hf, fun d S' v H' μ' h1 f1 w1 r1 => ?_, px⟩
  obtain ⟨b, rfl, hb⟩ := onBl_of h1
  exact ⟨b, r1.bl_inv, q b S' b H' μ' hb f1 w1 rfl⟩
/-- an expression that is a bool, as a test -/
theorem d_tval {f : FE} (h : PEd X E e f) (he : ∀ whole, isTrue e X.env whole = (do let v ← whole; standAt e.pos; holding [v] (truthy v)) := by intro _; rfl) : PTd X E e (dTest f) :=
  PT.imp (pt_val h he) fun _ _ _ h => tTest_of h
end
/-! ### and, or, not, if -/
def dAnd (f g : FT) : FT := fun ρ S Q Ed => f ρ S (fun b S1 => if b = true then g ρ S1 Q Ed else Q false S1) Ed
def dOr (f g : FT) : FT := fun ρ S Q Ed => f ρ S (fun b S1 => if b = true then Q true S1 else g ρ S1 Q Ed) Ed
def dNot (f : FT) : FT := fun ρ S Q Ed => f ρ S (fun b S1 => Q (!b) S1) Ed
def dAndV (f g : FE) : FE := fun ρ S Q Ed => f ρ S (fun d S1 => onBl d fun b => if b = true then g ρ S1 Q Ed else Q (.bl false) S1) Ed
def dIf {α : Type} (t : FT) (f g : FX α) : FX α := fun ρ S Q Ed => t ρ S (fun b S1 => if b = true then f ρ S1 Q Ed else g ρ S1 Q Ed) Ed
section
variable {X : Cx} {E : L2.St → XK} {pos : Pos} {a b c e : Expr} {rest : List Expr} {f g : FT} {fa fb : FE}
theorem d_and1 (ha : PTd X E a f) : PWd X E (.BoolOp .And [a] pos) f := pw_and1 ha
theorem d_or1 (ha : PTd X E a f) : PWd X E (.BoolOp .Or [a] pos) f := pw_or1 ha
theorem d_and (ha : PTd X E a f) (hb : PWd X E (.BoolOp .And (b :: rest) pos) g) : PWd X E (.BoolOp .And (a :: b :: rest) pos) (dAnd f g) := by
  refine PW.imp (pw_and ha hb) fun σ H Q ⟨μ, S, ρ, Qd, Ed, w, en, hf, q, px⟩ => ?_
  refine tR_of w en hf px fun x S1 v H1 μ1 h1 f1 w1 en1 px1 r1 => ?_
  cases (r1 : v = x)
  split
  · rename_i hv
    rw [if_pos hv] at h1
    exact tR_of w1 en1 h1 px1 fun y S2 u H2 μ2 h2 f2 w2 en2 px2 r2 => q y S2 u H2 μ2 h2 (f1.trans f2) w2 r2
  · rename_i hv
    rw [if_neg hv] at h1
    exact q false S1 false H1 μ1 h1 f1 w1 rfl
theorem d_or (ha : PTd X E a f) (hb : PWd X E (.BoolOp .Or (b :: rest) pos) g) : PWd X E (.BoolOp .Or (a :: b :: rest) pos) (dOr f g) := by
  refine PW.imp (pw_or ha hb) fun σ H Q ⟨μ, S, ρ, Qd, Ed, w, en, hf, q, px⟩ => ?_
  refine tR_of w en hf px fun x S1 v H1 μ1 h1 f1 w1 en1 px1 r1 => ?_
  cases (r1 : v = x)
  split
  · rename_i hv
    rw [if_pos hv] at h1
    exact q true S1 true H1 μ1 h1 f1 w1 rfl
  · rename_i hv
    rw [if_neg hv] at h1
    exact tR_of w1 en1 h1 px1 fun y S2 u H2 μ2 h2 f2 w2 en2 px2 r2 => q y S2 u H2 μ2 h2 (f1.trans f2) w2 r2
theorem d_not (ha : PTd X E a f) : PTd X E (.UnaryOp .Not a pos) (dNot f) := by
  refine PT.imp (pt_not ha) fun σ H Q ⟨μ, S, ρ, Qd, Ed, w, en, hf, q, px⟩ => ?_
  refine tR_of w en hf px fun x S1 v H1 μ1 h1 f1 w1 en1 px1 r1 => ?_
  cases (r1 : v = x)
  exact q _ S1 _ H1 μ1 h1 f1 w1 rfl
theorem d_one {op} (h : PEd X E a fa) : PEd X E (.BoolOp op [a] pos) fa := pe_one h
theorem d_andV (ha : PEd X E a fa) (hb : PEd X E (.BoolOp .And (b :: rest) pos) fb) : PEd X E (.BoolOp .And (a :: b :: rest) pos) (dAndV fa fb) := by
  refine PE.imp (pe_and ha hb) fun σ H Q ⟨μ, S, ρ, Qd, Ed, w, en, hf, q, px⟩ => ?_
  refine tR_of w en hf px fun x S1 v H1 μ1 h1 f1 w1 en1 px1 r1 => ?_
  obtain ⟨k, rfl, hk⟩ := onBl_of h1
  refine ⟨k, r1.bl_inv, ?_⟩
  split
  · rename_i hv
    rw [if_pos hv] at hk
    exact tR_of w1 en1 hk px1 fun y S2 u H2 μ2 h2 f2 w2 en2 px2 r2 => q y S2 u H2 μ2 h2 (f1.trans f2) w2 r2
  · rename_i hv
    rw [if_neg hv] at hk
    exact q _ S1 _ H1 μ1 hk f1 w1 (.bl false)
theorem d_ifE (ht : PTd X E c f) (ha : PEd X E a fa) (hb : PEd X E b fb) : PEd X E (.IfExp c a b pos) (dIf f fa fb) := by
  refine PE.imp (pe_ifExp ht ha hb) fun σ H Q ⟨μ, S, ρ, Qd, Ed, w, en, hf, q, px⟩ => ?_
  refine tR_of w en hf px fun x S1 v H1 μ1 h1 f1 w1 en1 px1 r1 => ?_
  cases (r1 : v = x)
  split
  · rename_i hv
    rw [if_pos hv] at h1
    exact tR_of w1 en1 h1 px1 fun y S2 u H2 μ2 h2 f2 w2 en2 px2 r2 => q y S2 u H2 μ2 h2 (f1.trans f2) w2 r2
  · rename_i hv
    rw [if_neg hv] at h1
    exact tR_of w1 en1 h1 px1 fun y S2 u H2 μ2 h2 f2 w2 en2 px2 r2 => q y S2 u H2 μ2 h2 (f1.trans f2) w2 r2
end
/-! ### two comparisons in a row -/
def dChain (g g' : G2) (fa fb fc : FE) : FE := fun ρ S Q Ed => fa ρ S (fun x S1 => fb ρ S1 (fun y S2 => g x y S2 fun z S3 => onBl z fun k => if k = true then fc ρ S3 (fun u S4 => g' y u S4 Q) Ed else Q (.bl false) S3) Ed) Ed
section
variable {X : Cx} {E : L2.St → XK} {pos : Pos} {a b c : Expr} {fa fb fc : FE} {op op' : CmpOp} {g g' : G2}
theorem tChain_of {σ : L2.St} {H : Hp} {Q : VK} {x : Ct} (h : tD x E (dChain g g' fa fb fc) σ H Q) : tChain (rD2 x g) (rD2 x g') (tD x E fa) (tD x E fb) (tD x E fc) σ H Q := by
  obtain ⟨μ, S, ρ, Qd, Ed, w, en, hf, q, px⟩ := h
  refine tR_of w en hf px fun x S1 v H1 μ1 h1 f1 w1 en1 px1 r1 => ?_
  refine tR_of w1 en1 h1 px1 fun y S2 u H2 μ2 h2 f2 w2 en2 px2 r2 => ?_
  refine ⟨μ2, S2, x, y, _, w2, r1.fw w1 f2, r2, h2, fun d S' v' H3 μ3 h f3 w3 r3 => ?_⟩
  obtain ⟨k, rfl, hk⟩ := onBl_of h
  refine ⟨k, r3.bl_inv, ?_⟩
  split
  · rename_i hv
    rw [if_pos hv] at hk
    refine tR_of w3 (en2.fw w2 f3) hk (px2.fw f3) fun z S4 vz H4 μ4 h4 f4 w4 en4 px4 r4 => ?_
    exact ⟨μ4, S4, y, z, Qd, w4, (r2.fw w2 f3).fw w3 f4, r4, h4, fun d S' v' H' μ' h f w' r => q d S' v' H' μ' h (f1.trans (f2.trans (f3.trans (f4.trans f)))) w' r⟩
  · rename_i hv
    rw [if_neg hv] at hk
    exact q _ _ _ _ _ hk (f1.trans (f2.trans f3)) w3 (.bl false)
theorem d_chain (ho : OpR X (compareOp op) (rD2 (ct X) g)) (ho' : OpR X (compareOp op') (rD2 (ct X) g')) (ha : PEd X E a fa) (hb : PEd X E b fb) (hc : PEd X E c fc)
    (hm : lastMarks [op, op'] [b, c] = false := by with_unfolding_all rfl) : PEd X E (.Compare a [op, op'] [b, c] pos) (dChain g g' fa fb fc) :=
  PE.imp (pe_chain ho ho' ha hb hc hm) fun _ _ _ h => tChain_of h
theorem d_tchain (ho : OpR X (compareOp op) (rD2 (ct X) g)) (ho' : OpR X (compareOp op') (rD2 (ct X) g')) (ha : PEd X E a fa) (hb : PEd X E b fb) (hc : PEd X E c fc)
    (hm : lastMarks [op, op'] [b, c] = false := by with_unfolding_all rfl) : PTd X E (.Compare a [op, op'] [b, c] pos) (dTest (dChain g g' fa fb fc)) := by
  refine PT.imp (pt_chain ho ho' ha hb hc hm) fun σ H Q h => ?_
  obtain ⟨μ, S, ρ, Qd, Ed, w, en, hf, q, px⟩ := h
  refine tChain_of ⟨μ, S, ρ, _, Ed, w, en, hf, fun d S' v H' μ' h1 f1 w1 r1 => ?_, px⟩
  obtain ⟨b, rfl, hb⟩ := onBl_of h1
  exact ⟨b, r1.bl_inv, q b S' b H' μ' hb f1 w1 rfl⟩
end
end Pu
namespace Pu
open PySem PySem.Spec PyProof.Rows L2
/-! ## reading data -/
def lstAt : Option Cl → Option (List D)
  | some (.lst xs) => some xs
  | _ => none
theorem lstAt_inv {o : Option Cl} {xs : List D} (h : lstAt o = some xs) : o = some (.lst xs) := by
  cases o with
  | none => cases h
  | some x =>
    cases x with
    | lst ys => cases h; rfl
    | ins _ _ => cases h
def seqOf (S : Sto) : D → Option (List D)
  | .tup xs => some xs
  | .lst _ xs => some xs
  | .kls xs => some xs
  | .cell n => lstAt S[n]?
  | _ => none
def lstOf (S : Sto) : D → Option (List D)
  | .lst _ xs => some xs
  | .cell n => lstAt S[n]?
  | _ => none
def cellOf (S : Sto) : D → Option (Nat × List D)
  | .cell n => (lstAt S[n]?).map ((n, ·))
  | _ => none
section
variable {c : Ct} {μ μ' : Mu} {S : Sto} {H H' : Hp} {v : V} {d : D} {xs : List D}
theorem cellOf_inv {n : Nat} (e : cellOf S d = some (n, xs)) : d = .cell n ∧ S[n]? = some (.lst xs) := by
  cases d with
  | cell k =>
    obtain ⟨ys, h, e2⟩ := Option.map_eq_some_iff.mp (show (lstAt S[k]?).map ((k, ·)) = some (n, xs) from e)
    cases e2
    exact ⟨rfl, lstAt_inv h⟩
  | _ => cases e
theorem Wd.cellL (w : Wd c μ S H) (r : Rp c μ H v d) {n : Nat} (e : cellOf S d = some (n, xs)) : ∃ a vs, v = .ref a ∧ μ.m[n]? = some a ∧ H a = some (.lst vs) ∧ RpAll c μ H vs xs := by
  obtain ⟨rfl, h⟩ := cellOf_inv e
  cases r with
  | cell hm =>
    obtain ⟨vs, h1, h2⟩ := w.ok n _ _ hm h
    exact ⟨_, vs, rfl, hm, h1, h2⟩
theorem Rp.lstT (w : Wd c μ S H) (r : Rp c μ H v d) (e : lstOf S d = some xs) : ∃ a vs, v = .ref a ∧ H a = some (.lst vs) ∧ RpAll c μ H vs xs := by
  cases r with
  | lst h _ _ _ ra => cases e; exact ⟨_, _, rfl, h, ra⟩
  | @cell n a hm =>
    obtain ⟨vs, h1, h2⟩ := w.ok n _ _ hm (lstAt_inv e)
    exact ⟨_, vs, rfl, h1, h2⟩
  | _ => cases e
theorem Rp.seq (w : Wd c μ S H) (r : Rp c μ H v d) (e : seqOf S d = some xs) : ∃ a vs, v = .ref a ∧ (SqL c.K H a vs ∨ SqT c.K H a vs) ∧ RpAll c μ H vs xs := by
  cases r with
  | tup h ra => cases e; exact ⟨_, _, rfl, .inr (SqT.of h), ra⟩
  | lst h _ _ _ ra => cases e; exact ⟨_, _, rfl, .inl (SqL.of h), ra⟩
  | kls h _ _ ra => cases e; exact ⟨_, _, rfl, .inl (.inl h), ra⟩
  | klsK o its n h1 h2 h3 h4 h5 h6 ra => cases e; exact ⟨_, _, rfl, .inl (.inr ⟨o, its, n, h1, h2, h3, h4, h5, h6⟩), ra⟩
  | @cell n a hm =>
    obtain ⟨vs, h1, h2⟩ := w.ok n _ _ hm (lstAt_inv e)
    exact ⟨_, vs, rfl, .inl (SqL.of h1), h2⟩
  | _ => cases e
/-! what a new object is worth -/
theorem PostV.tup {Qd : QD} {Q : VK} (q : PostV c μ H Qd Q) (w : Wd c μ S H) {vs : List V} {ds : List D} (r : RpAll c μ H vs ds) (h : Qd (.tup ds) S) {p : Addr} (hp : H p = none) : Q (.ref p) (upd H p (.tup vs)) :=
  q _ S _ _ μ h (Fw.new hp) (w.new hp) (.tup upd_same (r.fw w (Fw.new hp)))
theorem Wd.newL (w : Wd c μ S H) {vs : List V} {ds : List D} (r : RpAll c μ H vs ds) {p : Addr} (hp : H p = none) {k : Bool} (hk : k = true → p ≠ sysModules) : Rp c μ (upd H p (.lst vs)) (.ref p) (.lst k ds) :=
  .lst upd_same (w.fresh hp) (fun z => w.avs p z hp) hk (r.fw w (Fw.new hp))
theorem PostV.lst {Qd : QD} {Q : VK} (q : PostV c μ H Qd Q) (w : Wd c μ S H) {vs : List V} {ds : List D} (r : RpAll c μ H vs ds) (h : Qd (.lst false ds) S) {p : Addr} (hp : H p = none) : Q (.ref p) (upd H p (.lst vs)) :=
  q _ S _ _ μ h (Fw.new hp) (w.new hp) (w.newL r hp fun z => nomatch z)
theorem PostV.lstN {Qd : QD} {Q : VK} (q : PostV c μ H Qd Q) (w : Wd c μ S H) {vs : List V} {ds : List D} (r : RpAll c μ H vs ds) (h : Qd (.lst true ds) S) {p : Addr} (hp : H p = none) (hs : p ≠ sysModules) : Q (.ref p) (upd H p (.lst vs)) :=
  q _ S _ _ μ h (Fw.new hp) (w.new hp) (w.newL r hp fun _ => hs)
theorem PostV.same {Qd : QD} {Q : VK} (q : PostV c μ H Qd Q) (w : Wd c μ S H) (r : Rp c μ H v d) (h : Qd d S) : Q v H := q _ S _ _ μ h Fw.refl w r
/-- a cell is written, a value given back -/
theorem PostV.cell {Qd : QD} {Q : VK} (q : PostV c μ H Qd Q) (w : Wd c μ S H) {n : Nat} {a : Addr} {vs : List V} {ds : List D} (hm : μ.m[n]? = some a) (r : RpAll c μ H vs ds) (rv : Rp c μ H v d) (h : Qd d (S.set n (.lst ds))) : Q v (upd H a (.lst vs)) := by
  have f : Fw μ H μ (upd H a (.lst vs)) := Fw.write (List.mem_of_getElem? hm)
  exact q _ _ _ _ μ h f (w.set hm ⟨vs, upd_same, r.fw w f⟩) (rv.fw w f)
end
/-! ints -/
def intsOf : List D → Option (List Int)
  | [] => some []
  | .int i :: r => (intsOf r).map (i :: ·)
  | _ :: _ => none
theorem intsOf_map (ns : List Int) : intsOf (ns.map D.int) = some ns := by
  induction ns with
  | nil => rfl
  | cons n ns ih => show (intsOf (ns.map D.int)).map (n :: ·) = _; rw [ih]; rfl
theorem intsOf_inv : ∀ {ds : List D} {ns : List Int}, intsOf ds = some ns → ds = ns.map D.int
  | [], ns, h => by cases h; rfl
  | .int i :: r, ns, h => by
    obtain ⟨ms, e, rfl⟩ := Option.map_eq_some_iff.mp (show (intsOf r).map (i :: ·) = some ns from h)
    rw [intsOf_inv e]
    rfl
  | .non :: _, _, h => by cases h
  | .bl _ :: _, _, h => by cases h
  | .str _ :: _, _, h => by cases h
  | .tup _ :: _, _, h => by cases h
  | .lst _ _ :: _, _, h => by cases h
  | .dic _ :: _, _, h => by cases h
  | .kls _ :: _, _, h => by cases h
  | .cell _ :: _, _, h => by cases h
  | .glo _ :: _, _, h => by cases h
  | .ty _ :: _, _, h => by cases h
  | .ins _ _ :: _, _, h => by cases h
  | .exc _ _ :: _, _, h => by cases h
section
variable {c : Ct} {μ : Mu} {H : Hp}
theorem RpAll.ints : ∀ {vs : List V} {ns : List Int}, RpAll c μ H vs (ns.map D.int) → vs = ns.map V.int
  | _, [], h => by cases h; rfl
  | _, n :: ns, h => by
    cases h with
    | cons h1 h2 =>
      cases h1
      rw [RpAll.ints h2]
      rfl
theorem RpAll.ofInts : ∀ (ns : List Int), RpAll c μ H (ns.map V.int) (ns.map D.int)
  | [] => .nil
  | n :: ns => .cons (.int n) (RpAll.ofInts ns)
end
/-! ## displays -/
def dTup (f : FA) : FE := fun ρ S Q Ed => f ρ S (fun ds S1 => ds.length ≤ sizeLine ∧ Q (.tup ds) S1) Ed
def dLst (f : FA) : FE := fun ρ S Q Ed => f ρ S (fun ds S1 => ds.length ≤ sizeLine ∧ Q (.lst true ds) S1) Ed
/-- a list that will be changed -/
def dLstC (f : FA) : FE := fun ρ S Q Ed => f ρ S (fun ds S1 => ds.length ≤ sizeLine ∧ Q (.cell S1.length) (S1 ++ [.lst ds])) Ed
section
variable {X : Cx} {E : L2.St → XK} {pos : Pos} {es : List Expr} {fa : FA}
theorem d_tup {x1} (h : PAd X E es fa) : PEd X E (.Tuple es x1 pos) (dTup fa) := by
  refine PE.imp (pe_tup h) fun σ H Q ⟨μ, S, ρ, Qd, Ed, w, en, hf, q, px⟩ => ?_
  refine tR_of w en hf px fun ds S1 vs H1 μ1 h1 f1 w1 en1 px1 r1 => ⟨by rw [r1.length]; exact h1.1, fun p hp => ?_⟩
  exact PostV.tup (fun d S' v H' μ' h f w' r => q d S' v H' μ' h (f1.trans f) w' r) w1 r1 h1.2 hp
theorem d_lst (h : PAd X E es fa) : PEd X E (.List es pos) (dLst fa) := by
  refine PE.imp (Rb.pe_lstN h) fun σ H Q ⟨μ, S, ρ, Qd, Ed, w, en, hf, q, px⟩ => ?_
  refine tR_of w en hf px fun ds S1 vs H1 μ1 h1 f1 w1 en1 px1 r1 => ⟨by rw [r1.length]; exact h1.1, fun p hp hs => ?_⟩
  exact PostV.lstN (fun d S' v H' μ' h f w' r => q d S' v H' μ' h (f1.trans f) w' r) w1 r1 h1.2 hp hs
theorem Wd.lay {c : Ct} {μ : Mu} {S : Sto} {H : Hp} (w : Wd c μ S H) {vs : List V} {ds : List D} (r : RpAll c μ H vs ds) {p : Addr} (hp : H p = none) :
    Fw μ H ⟨μ.m ++ [p], μ.av⟩ (upd H p (.lst vs)) ∧ Wd c ⟨μ.m ++ [p], μ.av⟩ (S ++ [.lst ds]) (upd H p (.lst vs)) ∧ Rp c ⟨μ.m ++ [p], μ.av⟩ (upd H p (.lst vs)) (.ref p) (.cell S.length) := by
  have f : Fw μ H ⟨μ.m ++ [p], μ.av⟩ (upd H p (.lst vs)) := Fw.newC hp
  refine ⟨f, w.newC hp ⟨vs, upd_same, r.fw w f⟩, .cell ?_⟩
  show (μ.m ++ [p])[S.length]? = some p
  rw [← w.len, List.getElem?_append_right (Nat.le_refl _), Nat.sub_self]
  rfl
theorem d_lstC (h : PAd X E es fa) : PEd X E (.List es pos) (dLstC fa) := by
  refine PE.imp (pe_lst h) fun σ H Q ⟨μ, S, ρ, Qd, Ed, w, en, hf, q, px⟩ => ?_
  refine tR_of w en hf px fun ds S1 vs H1 μ1 h1 f1 w1 en1 px1 r1 => ⟨by rw [r1.length]; exact h1.1, fun p hp => ?_⟩
  obtain ⟨f2, w2, r2⟩ := w1.lay r1 hp
  exact q _ _ _ _ _ h1.2 (f1.trans f2) w2 r2
end
/-! ## built-ins that make a new list: as a value, as a cell -/
section
variable {X : Cx} {E : L2.St → XK} {e : Expr} {es : List Expr} {fa : FA} {id : String} {x : Str} {pos p2 : Pos}
theorem d_callB {g : List D → Sto → QD → Prop} (hc : CallR X (.builtin id) (rDs (ct X) g)) (hg : Gl X x) (hm : X.mg x = none) (hv : bootBuiltins x = some (.builtin id)) (ha : PAd X E (e :: es) fa) (hn : x ≠ "__name__" := by decide) (hdb : (x == ("__debug__" : Str)) = false := by decide)
    (hs : starEach (e :: es) X.env = (false, eval e X.env) :: starEach es X.env := by rfl) (hf2 : (backTo pos (starEach es X.env)).any (·.1) = false := by rfl) : PEd X E (.Call (.Name x p2) (e :: es) [] pos) (dB g fa) := by
  refine PE.imp (pe_callB hc hg hm hv ha hn hdb hs hf2) fun σ H Q ⟨μ, S, ρ, Qd, Ed, w, en, hf, q, px⟩ => ?_
  refine tR_of w en hf px fun ds S1 vs H1 μ1 h1 f1 w1 en1 px1 r1 => ?_
  exact ⟨μ1, S1, ds, Qd, w1, r1, h1, fun d S' v H' μ' h f w' r => q d S' v H' μ' h (f1.trans f) w' r⟩
theorem d_callT {T : String} {g : List D → Sto → QD → Prop} (hc : CallR X (.type T) (rDs (ct X) g)) (hg : Gl X x) (hm : X.mg x = none) (hv : bootBuiltins x = some (.type T)) (ha : PAd X E (e :: es) fa) (hn : x ≠ "__name__" := by decide) (hdb : (x == ("__debug__" : Str)) = false := by decide)
    (hs : starEach (e :: es) X.env = (false, eval e X.env) :: starEach es X.env := by rfl) (hf2 : (backTo pos (starEach es X.env)).any (·.1) = false := by rfl) : PEd X E (.Call (.Name x p2) (e :: es) [] pos) (dB g fa) := by
  refine PE.imp (pe_callTy hc hg hm hv ha hn hdb hs hf2) fun σ H Q ⟨μ, S, ρ, Qd, Ed, w, en, hf, q, px⟩ => ?_
  refine tR_of w en hf px fun ds S1 vs H1 μ1 h1 f1 w1 en1 px1 r1 => ?_
  exact ⟨μ1, S1, ds, Qd, w1, r1, h1, fun d S' v H' μ' h f w' r => q d S' v H' μ' h (f1.trans f) w' r⟩
end
end Pu
namespace Pu
open PySem PySem.Spec PyProof.Rows L2
/-! ## arithmetic -/
def gInt (f : Int → Int → D) (C : Int → Int → Prop) : G2 := fun x y S Q => match x, y with
  | .int i, .int j => C i j ∧ Q (f i j) S
  | _, _ => False
def gInt0 (f : Int → Int → D) : G2 := fun x y S Q => match x, y with
  | .int i, .int j => Q (f i j) S
  | _, _ => False
theorem gInt_inv {f : Int → Int → D} {C : Int → Int → Prop} {x y : D} {S : Sto} {Q : QD} (h : gInt f C x y S Q) : ∃ i j, x = .int i ∧ y = .int j ∧ C i j ∧ Q (f i j) S := by
  unfold gInt at h
  split at h
  · exact ⟨_, _, rfl, rfl, h⟩
  · exact h.elim
theorem gInt0_inv {f : Int → Int → D} {x y : D} {S : Sto} {Q : QD} (h : gInt0 f x y S Q) : ∃ i j, x = .int i ∧ y = .int j ∧ Q (f i j) S := by
  unfold gInt0 at h
  split at h
  · exact ⟨_, _, rfl, rfl, h⟩
  · exact h.elim
section
variable {c : Ct} {μ : Mu} {H : Hp} {v : V}
theorem Rp.int_inv {i : Int} (h : Rp c μ H v (.int i)) : v = .int i := by cases h; rfl
theorem Rp.str_inv {x : Str} (h : Rp c μ H v (.str x)) : v = .str x := by cases h; rfl
theorem Rp.tup_inv {ds : List D} (h : Rp c μ H v (.tup ds)) : ∃ a vs, v = .ref a ∧ H a = some (.tup vs) ∧ RpAll c μ H vs ds := by
  cases h with
  | tup h r => exact ⟨_, _, rfl, h, r⟩
end
section
variable {X : Cx}
theorem opInt {f : Value → Value → Sem Value} {C : Int → Int → Prop} {g : Int → Int → Int} (h : OpR X f (rI C fun i j => .int (g i j))) : OpR X f (rD2 (ct X) (gInt (fun i j => .int (g i j)) C)) := by
  intro pins s σ H x y v u Q I rx ry ⟨μ, S, dx, dy, Qd, w, r1, r2, hg, q⟩
  obtain ⟨i, j, rfl, rfl, hC, hq⟩ := gInt_inv hg
  exact h pins s σ H x y v u Q I rx ry ⟨i, j, r1.int_inv, r2.int_inv, hC, q.same w (.int _) hq⟩
theorem opInt0 {f : Value → Value → Sem Value} {g : Int → Int → Int} (h : OpR X f (rI0 fun i j => .int (g i j))) : OpR X f (rD2 (ct X) (gInt0 (fun i j => .int (g i j)))) := by
  intro pins s σ H x y v u Q I rx ry ⟨μ, S, dx, dy, Qd, w, r1, r2, hg, q⟩
  obtain ⟨i, j, rfl, rfl, hq⟩ := gInt0_inv hg
  exact h pins s σ H x y v u Q I rx ry ⟨i, j, r1.int_inv, r2.int_inv, q.same w (.int _) hq⟩
theorem opBl0 {f : Value → Value → Sem Value} {g : Int → Int → Bool} (h : OpR X f (rI0 fun i j => .bl (g i j))) : OpR X f (rD2 (ct X) (gInt0 (fun i j => .bl (g i j)))) := by
  intro pins s σ H x y v u Q I rx ry ⟨μ, S, dx, dy, Qd, w, r1, r2, hg, q⟩
  obtain ⟨i, j, rfl, rfl, hq⟩ := gInt0_inv hg
  exact h pins s σ H x y v u Q I rx ry ⟨i, j, r1.int_inv, r2.int_inv, q.same w (.bl _) hq⟩
end
abbrev gSub : G2 := gInt0 fun i j => .int (i - j)
abbrev gFdiv : G2 := gInt (fun i j => .int (i / j)) CDivW
abbrev gMod : G2 := gInt (fun i j => .int (i % j)) fun _ j => 0 < j
abbrev gPow : G2 := gInt (fun i j => .int (i ^ j.toNat)) CPow
abbrev gLt : G2 := gInt0 fun i j => .bl (decide (i < j))
abbrev gLe : G2 := gInt0 fun i j => .bl (decide (i ≤ j))
abbrev gGt : G2 := gInt0 fun i j => .bl (decide (j < i))
abbrev gGe : G2 := gInt0 fun i j => .bl (decide (j ≤ i))
section
variable {X : Cx}
theorem o_sub : OpR X (binaryOp .Sub) (rD2 (ct X) gSub) := opInt0 op_sub
theorem o_fdiv : OpR X (binaryOp .FloorDiv) (rD2 (ct X) gFdiv) := opInt op_fdivW
theorem o_mod : OpR X (binaryOp .Mod) (rD2 (ct X) gMod) := opInt op_mod
theorem o_pow : OpR X (binaryOp .Pow) (rD2 (ct X) gPow) := opInt op_pow
theorem o_lt : OpR X (compareOp .Lt) (rD2 (ct X) gLt) := opBl0 op_lt
theorem o_le : OpR X (compareOp .LtE) (rD2 (ct X) gLe) := opBl0 op_le
theorem o_gt : OpR X (compareOp .Gt) (rD2 (ct X) gGt) := opBl0 op_gt
theorem o_ge : OpR X (compareOp .GtE) (rD2 (ct X) gGe) := opBl0 op_ge
end
def gNeg : D → Sto → QD → Prop := fun x S Q => match x with
  | .int i => Q (.int (-i)) S
  | _ => False
def gAdd : G2 := fun x y S Q => match x, y with
  | .int i, .int j => Q (.int (i + j)) S
  | .tup xs, .tup ys => xs.length + ys.length ≤ sizeLine ∧ Q (.tup (xs ++ ys)) S
  | .str a, .str b => a.length + b.length ≤ sizeLine ∧ Q (.str (a ++ b)) S
  | x, y => onSome (lstOf S x) fun xs => onSome (lstOf S y) fun ys => xs.length + ys.length ≤ sizeLine ∧ Q (.lst false (xs ++ ys)) S
def gMul : G2 := fun x y S Q => match x, y with
  | .int i, .int j => (CMul i j ∨ CMulW i j) ∧ Q (.int (i * j)) S
  | .tup xs, .int k => (xs ≠ [] ∧ 1 ≤ k ∧ k ≤ 1000 ∧ xs.length ≤ 1000) ∧ Q (.tup (List.replicate k.toNat xs).flatten) S
  | x, .int k => onSome (lstOf S x) fun xs => (-(2 ^ 63) ≤ k ∧ k < 2 ^ 63 ∧ xs.length * k.toNat ≤ sizeLine) ∧ Q (.lst false (List.replicate k.toNat xs).flatten) S
  | _, _ => False
section
variable {X : Cx}
theorem u_neg : UnR X (unaryOp .USub) (rD1 (ct X) gNeg) := by
  intro pins s σ H x v Q I rx ⟨μ, S, dx, Qd, w, r1, hg, q⟩
  unfold gNeg at hg
  split at hg
  · exact un_neg pins s σ H x v Q I rx ⟨_, r1.int_inv, q.same w (.int _) hg⟩
  · exact hg.elim
theorem o_add : OpR X (binaryOp .Add) (rD2 (ct X) gAdd) := by
  intro pins s σ H x y v u Q I rx ry ⟨μ, S, dx, dy, Qd, w, r1, r2, hg, q⟩
  unfold gAdd at hg
  split at hg
  · exact op_add pins s σ H x y v u Q I rx ry ⟨_, _, r1.int_inv, r2.int_inv, q.same w (.int _) hg⟩
  · rename_i xs ys
    obtain ⟨a, vs, rfl, ha, ra⟩ := r1.tup_inv
    obtain ⟨b, ws, rfl, hb, rb⟩ := r2.tup_inv
    refine op_catA pins s σ H _ _ v u Q I rx ry ⟨a, b, vs, ws, rfl, rfl, SqT.of ha, SqT.of hb, by rw [ra.length, rb.length]; exact hg.1, fun e => ?_, fun _ e => ?_, fun _ _ p hp => ?_⟩
    · subst e
      cases ra
      exact q.same w (.tup hb rb) hg.2
    · subst e
      cases rb
      have h2 := hg.2
      rw [List.append_nil] at h2
      exact q.same w (.tup ha ra) h2
    · exact q.tup w (ra.append rb) hg.2 hp
  · exact op_add_str pins s σ H x y v u Q I rx ry ⟨_, _, r1.str_inv, r2.str_inv, hg.1, q.same w (.str _) hg.2⟩
  · obtain ⟨xs, e1, hg⟩ := onSome_of hg
    obtain ⟨ys, e2, hg⟩ := onSome_of hg
    obtain ⟨a, vs, rfl, ha, ra⟩ := r1.lstT w e1
    obtain ⟨b, ws, rfl, hb, rb⟩ := r2.lstT w e2
    exact op_cat pins s σ H _ _ v u Q I rx ry ⟨a, b, vs, ws, rfl, rfl, ha, hb, by rw [ra.length, rb.length]; exact hg.1, fun p hp => q.lst w (ra.append rb) hg.2 hp⟩
open Rb in
theorem op_rep1 : OpR X (binaryOp .Mult) (fun x y H Q => ∃ (l : Addr) (xs : List V), x = .ref l ∧ y = .int 1 ∧ SqT X.K H l xs ∧ Q (.ref l) H) := by
  intro pins s σ H x y v u Q I rx ry h
  obtain ⟨l, xs, rfl, rfl, hT, q⟩ := h
  cases rx
  obtain ⟨t, rfl⟩ := ry
  obtain ⟨its, r, ⟨⟨cls, dd, data, sl⟩, ho, hc, n, hd⟩, hs⟩ := I.tuple hT
  simp only at hc hd
  subst hc hd
  refine wpAny_binaryOp_repeat_ref (T := "tuple") (U := "int") (by decide) ⟨_, ho, rfl⟩ (fun s' => typeIs_int s' 1 t) noFill_tuple_mul F.fills_int_mul F.slot_int_rmul repeat_tuple F.slot_int_index.lookup
    (call_meets F.slot_int_rmul (typeIs_int s 1 t) F.entry_int_rmul (F.args_int_rmul_2 _ _) (int_rmul_tuple 1 t l its.toArray n dd sl)
      ⟨ho, rfl, ⟨_, ho, rfl⟩, call_meets F.slot_tuple_mul ⟨_, ho, rfl⟩ F.entry_tuple_mul (F.args_tuple_mul_2 _ _) (tupMul1 l its.toArray n dd sl t) ⟨ho, ?_⟩⟩)
  exact ⟨.ref l, H, I, rfl, q⟩
theorem o_mul : OpR X (binaryOp .Mult) (rD2 (ct X) gMul) := by
  intro pins s σ H x y v u Q I rx ry ⟨μ, S, dx, dy, Qd, w, r1, r2, hg, q⟩
  unfold gMul at hg
  split at hg
  · rcases hg.1 with hc | hc
    · exact op_mul pins s σ H x y v u Q I rx ry ⟨_, _, r1.int_inv, r2.int_inv, hc, q.same w (.int _) hg.2⟩
    · exact op_mulW pins s σ H x y v u Q I rx ry ⟨_, _, r1.int_inv, r2.int_inv, hc, q.same w (.int _) hg.2⟩
  · rename_i xs k
    obtain ⟨a, vs, rfl, ha, ra⟩ := r1.tup_inv
    obtain ⟨⟨ne, h1, h2, h3⟩, hq⟩ := hg
    have nv : vs ≠ [] := fun e => by
      subst e
      cases ra
      exact ne rfl
    by_cases hk : k = 1
    · subst hk
      refine op_rep1 pins s σ H _ _ v u Q I rx ry ⟨a, vs, rfl, r2.int_inv, SqT.of ha, ?_⟩
      have e : (List.replicate (1 : Int).toNat xs).flatten = xs := by show (List.replicate 1 xs).flatten = xs; simp
      rw [e] at hq
      exact q.same w (.tup ha ra) hq
    · refine op_repT pins s σ H _ _ v u Q I rx ry ⟨a, k, vs, rfl, r2.int_inv, SqT.of ha, nv, by omega, h2, by rw [ra.length]; exact h3, fun p hp => q.tup w (ra.rep _) hq hp⟩
  · rename_i k _ _
    obtain ⟨xs, e1, hg⟩ := onSome_of hg
    obtain ⟨a, vs, rfl, ha, ra⟩ := r1.lstT w e1
    exact op_rep pins s σ H _ _ v u Q I rx ry ⟨a, k, vs, rfl, r2.int_inv, ha, hg.1.1, hg.1.2.1, by rw [ra.length]; exact hg.1.2.2, fun p hp => q.lst w (ra.rep _) hg.2 hp⟩
  · exact hg.elim
end
end Pu
namespace Pu
open PySem PySem.Spec PyProof.Rows L2
/-! ## plain data -/
mutual
def toPy : D → Option PyData
  | .non => some .none
  | .bl b => some (.bool b)
  | .int i => some (.int i)
  | .str x => some (.str x)
  | .tup xs => (toPyAll xs).map .tuple
  | .lst _ xs => (toPyAll xs).map .list
  | .kls _ => none
  | .dic ps => some (Rb.dicD ps)
  | .cell _ => none
  | .glo _ => none
  | .ty _ => none
  | .ins _ _ => none
  | .exc _ _ => none
def toPyAll : List D → Option (List PyData)
  | [] => some []
  | x :: xs => (toPy x).bind fun p => (toPyAll xs).map (p :: ·)
end
mutual
/-- all lists in it are known to stand apart from the table of modules -/
def known : D → Bool
  | .tup xs => knownAll xs
  | .lst k xs => k && knownAll xs
  | .kls _ => false
  | _ => true
def knownAll : List D → Bool
  | [] => true
  | x :: xs => known x && knownAll xs
end
def pyC (S : Sto) : D → Option PyData
  | .cell n => (lstAt S[n]?).bind fun xs => (toPyAll xs).map .list
  | d => toPy d
section
variable {X : Cx} {pins : List (Addr × Obj)} {σ : L2.St} {H : Hp} {s : Shared} {μ : Mu}
mutual
theorem Rp.reads (I : Inv X pins σ H s) : ∀ (d : D) (v : V) (u : Value) (p : PyData), Rp (ct X) μ H v d → RelV v u → toPy d = some p → ∃ as, Reads s.heap u p as ∧ (known d = true → sysModules ∉ as)
  | .non, _, _, _, h, r, e => by
    cases h; cases r; cases e
    exact ⟨_, Reads.none, fun _ z => nomatch z⟩
  | .bl b, _, _, _, h, r, e => by
    cases h; cases r; cases e
    exact ⟨_, Reads.bool b, fun _ z => nomatch z⟩
  | .int i, _, _, _, h, r, e => by
    cases h; cases e
    obtain ⟨t, rfl⟩ := r
    exact ⟨_, Reads.int i t, fun _ z => nomatch z⟩
  | .str x, _, _, _, h, r, e => by
    cases h; cases e
    obtain ⟨t, rfl⟩ := r
    exact ⟨_, Reads.str x t, fun _ z => nomatch z⟩
  | .tup ds, _, _, _, h, r, e => by
    cases h with
    | tup hs ha =>
      cases r
      obtain ⟨ps, e1, rfl⟩ := Option.map_eq_some_iff.mp (show (toPyAll ds).map PyData.tuple = some _ from e)
      obtain ⟨its, rv, ⟨o, ho, hc, n, hd⟩, _⟩ := I.tuple (SqT.of hs)
      obtain ⟨as, hr, no⟩ := RpAll.reads I ds _ its ps ha rv e1
      exact ⟨_, Reads.tuple ho hc hd hr, fun hk => no hk⟩
  | .lst k ds, _, _, _, h, r, e => by
    cases h with
    | lst hs _ _ ne ha =>
      cases r
      obtain ⟨ps, e1, rfl⟩ := Option.map_eq_some_iff.mp (show (toPyAll ds).map PyData.list = some _ from e)
      obtain ⟨its, rv, ⟨o, n, ho, hc, _, hd⟩, _⟩ := I.list (SqL.of hs)
      obtain ⟨as, hr, no⟩ := RpAll.reads I ds _ its ps ha rv e1
      refine ⟨_, Reads.list ho hc hd hr, fun hk z => ?_⟩
      obtain ⟨h1, h2⟩ := Bool.and_eq_true_iff.mp (show (k && knownAll ds) = true from hk)
      rcases List.mem_cons.mp z with z | z
      · exact ne h1 z.symm
      · exact no h2 z
  | .kls _, _, _, _, _, _, e => by cases e
  | .dic qs, _, _, _, h, r, e => by
    cases h with
    | dic hd _ _ =>
      cases e
      obtain ⟨as, h1, h2⟩ := Rb.Ap.reads (S := [sysModules]) List.mem_cons_self I (Rb.dicD qs) _ _ (.dic hd) r
      exact ⟨as, h1, fun _ => h2⟩
  | .cell _, _, _, _, _, _, e => by cases e
  | .glo _, _, _, _, _, _, e => by cases e
  | .ty _, _, _, _, _, _, e => by cases e
  | .ins _ _, _, _, _, _, _, e => by cases e
  | .exc _ _, _, _, _, _, _, e => by cases e
theorem RpAll.reads (I : Inv X pins σ H s) : ∀ (ds : List D) (vs : List V) (us : List Value) (ps : List PyData), RpAll (ct X) μ H vs ds → Vals vs us → toPyAll ds = some ps → ∃ as, ReadsAll s.heap us ps as ∧ (knownAll ds = true → sysModules ∉ as)
  | [], _, _, _, h, r, e => by
    cases h; cases r; cases e
    exact ⟨_, ReadsAll.nil, fun _ z => nomatch z⟩
  | d :: ds, _, _, _, h, r, e => by
    cases h with
    | cons h1 h2 =>
      cases r with
      | cons r1 r2 =>
        obtain ⟨p, e1, e2⟩ := Option.bind_eq_some_iff.mp (show (toPy d).bind (fun p => (toPyAll ds).map (p :: ·)) = some _ from e)
        obtain ⟨ps, e3, rfl⟩ := Option.map_eq_some_iff.mp e2
        obtain ⟨as, q1, n1⟩ := Rp.reads I d _ _ p h1 r1 e1
        obtain ⟨bs, q2, n2⟩ := RpAll.reads I ds _ _ ps h2 r2 e3
        refine ⟨_, ReadsAll.cons q1 q2, fun hk z => ?_⟩
        obtain ⟨k1, k2⟩ := Bool.and_eq_true_iff.mp (show (known d && knownAll ds) = true from hk)
        rcases List.mem_append.mp z with z | z
        · exact n1 k1 z
        · exact n2 k2 z
end
theorem Wd.reads {S : Sto} (w : Wd (ct X) μ S H) (I : Inv X pins σ H s) {d : D} {v : V} {u : Value} {p : PyData} (h : Rp (ct X) μ H v d) (r : RelV v u) (e : pyC S d = some p) : ∃ as, Reads s.heap u p as := by
  by_cases hc : ∃ n, d = .cell n
  · obtain ⟨n, rfl⟩ := hc
    obtain ⟨xs, e1, e2⟩ := Option.bind_eq_some_iff.mp (show (lstAt S[n]?).bind (fun xs => (toPyAll xs).map .list) = some p from e)
    obtain ⟨ps, e3, rfl⟩ := Option.map_eq_some_iff.mp e2
    obtain ⟨a, vs, rfl, ha, ra⟩ := h.lstT w (show lstOf S (.cell n) = some xs from e1)
    cases r
    obtain ⟨its, rv, ⟨o, k, ho, hc, _, hd⟩, _⟩ := I.list (SqL.of ha)
    obtain ⟨as, hr, no⟩ := RpAll.reads I xs _ its ps ra rv e3
    exact ⟨_, Reads.list ho hc hd hr⟩
  · have e' : toPy d = some p := by
      cases d with
      | cell n => exact absurd ⟨n, rfl⟩ hc
      | _ => exact e
    obtain ⟨as, h1, _⟩ := Rp.reads I d v u p h r e'
    exact ⟨as, h1⟩
end
/-! ## repr -/
def gRepr : List D → Sto → QD → Prop := fun ds S Q => match ds with
  | [d] => onSome (toPy d) fun p => (Rb.Nice 20 100000 p ∧ (p.hasDict = false ∨ known d = true)) ∧ Q (.str p.shown) S
  | _ => False
/-! ## == and != -/
def nb : Bool → Bool → Bool
  | true, b => !b
  | false, b => b
def gEqB (neg : Bool) : G2 := fun x y S Q => match x, y with
  | .int i, .int j => Q (.bl (nb neg (decide (i = j)))) S
  | .str a, .str b => Q (.bl (nb neg (decide (a = b)))) S
  | x, y => onSome (pyC S x) fun p => onSome (pyC S y) fun q => (SeqAt.shaped p = true ∧ SeqAt.shaped q = true) ∧ Q (.bl (nb neg (PyData.eqv p q))) S
abbrev gEq : G2 := gEqB false
abbrev gNe : G2 := gEqB true
section
variable {X : Cx}
theorem dec_i {i j : Int} : decide (V.int i = V.int j) = decide (i = j) := by
  by_cases h : i = j
  · subst h; simp
  · rw [decide_eq_false h, decide_eq_false (fun z => h (V.int.inj z))]
theorem dec_s {i j : Str} : decide (V.str i = V.str j) = decide (i = j) := by
  by_cases h : i = j
  · subst h; simp
  · rw [decide_eq_false h, decide_eq_false (fun z => h (V.str.inj z))]
theorem o_eq (hu : X.A.units + 64 < cLine) : OpR X (compareOp .Eq) (rD2 (ct X) gEq) := by
  intro pins s σ H x y v u Q I rx ry ⟨μ, S, dx, dy, Qd, w, r1, r2, hg, q⟩
  unfold gEq gEqB at hg
  split at hg
  · cases r1.int_inv
    cases r2.int_inv
    refine op_eq pins s σ H _ _ v u Q I rx ry ⟨rfl, ?_⟩
    rw [dec_i]
    exact q.same w (.bl _) hg
  · cases r1.str_inv
    cases r2.str_inv
    refine op_eq pins s σ H _ _ v u Q I rx ry ⟨rfl, ?_⟩
    rw [dec_s]
    exact q.same w (.bl _) hg
  · obtain ⟨p, e1, hg⟩ := onSome_of hg
    obtain ⟨p', e2, ⟨s1, s2⟩, hg⟩ := onSome_of hg
    obtain ⟨as, h1⟩ := w.reads I r1 rx e1
    obtain ⟨bs, h2⟩ := w.reads I r2 ry e2
    exact SeqAt.compareEq_shaped h1 h2 s1 s2 hu ⟨.bl _, H, I, rfl, q.same w (.bl _) hg⟩
theorem o_ne (hu : X.A.units + 64 < cLine) : OpR X (compareOp .NotEq) (rD2 (ct X) gNe) := by
  intro pins s σ H x y v u Q I rx ry ⟨μ, S, dx, dy, Qd, w, r1, r2, hg, q⟩
  unfold gNe gEqB at hg
  split at hg
  · cases r1.int_inv
    cases r2.int_inv
    refine op_ne pins s σ H _ _ v u Q I rx ry ⟨rfl, ?_⟩
    rw [dec_i]
    exact q.same w (.bl _) hg
  · cases r1.str_inv
    cases r2.str_inv
    refine op_ne pins s σ H _ _ v u Q I rx ry ⟨rfl, ?_⟩
    rw [dec_s]
    exact q.same w (.bl _) hg
  · obtain ⟨p, e1, hg⟩ := onSome_of hg
    obtain ⟨p', e2, ⟨s1, s2⟩, hg⟩ := onSome_of hg
    obtain ⟨as, h1⟩ := w.reads I r1 rx e1
    obtain ⟨bs, h2⟩ := w.reads I r2 ry e2
    exact SeqAt.compareNe_shaped h1 h2 s1 s2 hu ⟨.bl _, H, I, rfl, q.same w (.bl _) hg⟩
end
/-! ## is None -/
def isNon : D → Bool
  | .non => true
  | _ => false
theorem Rp.non_iff {c : Ct} {μ : Mu} {H : Hp} {v : V} {d : D} (h : Rp c μ H v d) (hg : ∀ x, d ≠ .glo x) : decide (v = .non) = isNon d := by
  cases h with
  | non => rfl
  | glo _ _ => exact absurd rfl (hg _)
  | _ => rfl
def noGlo : D → Bool
  | .glo _ => false
  | _ => true
def gIs (neg : Bool) : G2 := fun x y S Q => match y with
  | .non => noGlo x = true ∧ Q (.bl (nb neg (isNon x))) S
  | _ => False
section
variable {X : Cx}
theorem o_is : OpR X (compareOp .Is) (rD2 (ct X) (gIs false)) := by
  intro pins s σ H x y v u Q I rx ry ⟨μ, S, dx, dy, Qd, w, r1, r2, hg, q⟩
  unfold gIs at hg
  split at hg
  · cases r2
    refine op_isN pins s σ H _ _ v u Q I rx ry ⟨rfl, ?_⟩
    rw [r1.non_iff (fun z e => by rw [e] at hg; cases hg.1)]
    exact q.same w (.bl _) hg.2
  · exact hg.elim
theorem o_isnot : OpR X (compareOp .IsNot) (rD2 (ct X) (gIs true)) := by
  intro pins s σ H x y v u Q I rx ry ⟨μ, S, dx, dy, Qd, w, r1, r2, hg, q⟩
  unfold gIs at hg
  split at hg
  · cases r2
    refine op_notN pins s σ H _ _ v u Q I rx ry ⟨rfl, ?_⟩
    rw [r1.non_iff (fun z e => by rw [e] at hg; cases hg.1)]
    exact q.same w (.bl _) hg.2
  · exact hg.elim
end
/-! ## isinstance of a built-in type -/
inductive Ty6 where
  | int | bool | tup | lst | str | dic
def Ty6.name : Ty6 → String
  | .int => "int"
  | .bool => "bool"
  | .tup => "tuple"
  | .lst => "list"
  | .str => "str"
  | .dic => "dict"
def isL : Ty6 → Bool
  | .lst => true
  | _ => false
def isA (t : Ty6) (S : Sto) : D → Option Bool
  | .non => some false
  | .bl _ => some (match t with | .int => true | .bool => true | _ => false)
  | .int _ => some (match t with | .int => true | _ => false)
  | .str _ => some (match t with | .str => true | _ => false)
  | .tup _ => some (match t with | .tup => true | _ => false)
  | .lst _ _ => some (match t with | .lst => true | _ => false)
  | .kls _ => none
  | .dic _ => some (match t with | .dic => true | _ => false)
  | .cell n => (lstAt S[n]?).map fun _ => isL t
  | .glo _ => none
  | .ty _ => none
  | .ins _ _ => none
  | .exc _ _ => none
def gIsi (t : Ty6) : D → Sto → QD → Prop := fun d S Q => onSome (isA t S d) fun b => Q (.bl b) S
def tyOf : D → String
  | .non => "NoneType"
  | .bl _ => "bool"
  | .int _ => "int"
  | .str _ => "str"
  | .tup _ => "tuple"
  | .dic _ => "dict"
  | _ => "list"
theorem isA_ty {c : Ct} {μ : Mu} {S : Sto} {H : Hp} {v : V} {d : D} {t : Ty6} {b : Bool} (w : Wd c μ S H) (h : Rp c μ H v d) (e : isA t S d = some b) : TyX c.K H v (.type (tyOf d)) ∧ PySem.W.kitOne c.K (.type (tyOf d)) (.type t.name) = some b := by
  cases h with
  | non => cases e; exact ⟨.base .non, by cases t <;> exact kit_ty (by dsimp only [tyOf]; decide +kernel)⟩
  | bl k => cases e; exact ⟨.base (.bl k), by cases t <;> exact kit_ty (by dsimp only [tyOf]; decide +kernel)⟩
  | int k => cases e; exact ⟨.base (.int k), by cases t <;> exact kit_ty (by dsimp only [tyOf]; decide +kernel)⟩
  | str k => cases e; exact ⟨.base (.str k), by cases t <;> exact kit_ty (by dsimp only [tyOf]; decide +kernel)⟩
  | tup hs _ => cases e; exact ⟨.base (.tup hs), by cases t <;> exact kit_ty (by dsimp only [tyOf]; decide +kernel)⟩
  | lst hs _ _ _ _ => cases e; exact ⟨.base (.lst hs), by cases t <;> exact kit_ty (by dsimp only [tyOf]; decide +kernel)⟩
  | dic hd _ _ => cases e; exact ⟨.base (.dK hd), by cases t <;> exact kit_ty (by dsimp only [tyOf]; decide +kernel)⟩
  | @cell n a hm =>
    obtain ⟨xs, e1, e2⟩ := Option.map_eq_some_iff.mp (show (lstAt S[n]?).map (fun _ => isL t) = some b from e)
    subst e2
    obtain ⟨vs, h1, _⟩ := w.ok n _ _ hm (lstAt_inv e1)
    exact ⟨.base (.lst h1), by cases t <;> exact kit_ty (by dsimp only [tyOf]; decide +kernel)⟩
  | _ => cases e
section
variable {X : Cx} {E : L2.St → XK} {a b : Expr} {fa : FE} {pos p2 : Pos}
theorem d_isi {t : Ty6} (hg : Gl X "isinstance") (hm : X.mg "isinstance" = none) (ha : PEd X E a fa) (hb : PE X b (tC (.ty t.name)))
    (hs1 : starEach [a, b] X.env = (false, eval a X.env) :: starEach [b] X.env := by rfl) (hs2 : starEach [b] X.env = (false, eval b X.env) :: starEach [] X.env := by rfl) (hf2 : (backTo pos (starEach [b] X.env)).any (·.1) = false := by rfl) :
    PEd X E (.Call (.Name "isinstance" p2) [a, b] [] pos) (dUn (gIsi t) fa) := by
  refine PE.imp (pe_callB call_isi hg hm (show bootBuiltins "isinstance" = some (.builtin "isinstance") by decide +kernel) (pa_cons ha (pa_cons hb pa_nil hs2) hs1) (by decide) (by decide) hs1 hf2) fun σ H Q ⟨μ, S, ρ, Qd, Ed, w, en, hf, q, px⟩ => ?_
  refine tR_of w en hf px fun x S1 v H1 μ1 h1 f1 w1 en1 px1 r1 => ?_
  obtain ⟨k, e, hq⟩ := onSome_of h1
  obtain ⟨t1, t2⟩ := isA_ty w1 r1 e
  exact ⟨v, _, _, _, k, rfl, .ty _, t1, t2, q _ S1 _ H1 μ1 hq f1 w1 (.bl k)⟩
end
end Pu
namespace Pu
open PySem PySem.Spec PyProof.Rows L2
section
variable {c : Ct} {μ : Mu} {S : Sto} {H : Hp}
theorem RpAll.one {vs : List V} {d : D} (h : RpAll c μ H vs [d]) : ∃ v, vs = [v] ∧ Rp c μ H v d := by
  cases h with
  | cons h1 h2 => cases h2; exact ⟨_, rfl, h1⟩
theorem RpAll.two {vs : List V} {d e : D} (h : RpAll c μ H vs [d, e]) : ∃ v u, vs = [v, u] ∧ Rp c μ H v d ∧ Rp c μ H u e := by
  cases h with
  | cons h1 h2 =>
    obtain ⟨u, rfl, h3⟩ := h2.one
    exact ⟨_, _, rfl, h1, h3⟩
theorem Rp.seq2 {v : V} {d : D} {xs : List D} (w : Wd c μ S H) (r : Rp c μ H v d) (e : seqOf S d = some xs) : (∃ a vs, d = .tup xs ∧ v = .ref a ∧ H a = some (.tup vs) ∧ RpAll c μ H vs xs) ∨ ∃ a vs, v = .ref a ∧ SqL c.K H a vs ∧ RpAll c μ H vs xs := by
  cases r with
  | tup h ra => cases e; exact .inl ⟨_, _, rfl, rfl, h, ra⟩
  | lst h _ _ _ ra => cases e; exact .inr ⟨_, _, rfl, SqL.of h, ra⟩
  | kls h _ _ ra => cases e; exact .inr ⟨_, _, rfl, .inl h, ra⟩
  | klsK o its n h1 h2 h3 h4 h5 h6 ra => cases e; exact .inr ⟨_, _, rfl, .inr ⟨o, its, n, h1, h2, h3, h4, h5, h6⟩, ra⟩
  | @cell n a hm =>
    obtain ⟨vs, h1, h2⟩ := w.ok n _ _ hm (lstAt_inv e)
    exact .inr ⟨_, vs, rfl, SqL.of h1, h2⟩
  | _ => cases e
end
/-! ## len, abs, int, sum, min, max, tuple, list, str, sorted -/
def gLen : List D → Sto → QD → Prop := fun ds S Q => match ds with
  | [.str x] => x.length ≤ sizeLine ∧ Q (.int x.length) S
  | [.dic ps] => Q (.int ps.length) S
  | [d] => onSome (seqOf S d) fun xs => Q (.int xs.length) S
  | _ => False
def gAbs : List D → Sto → QD → Prop := fun ds S Q => match ds with
  | [.int i] => Q (.int (if i < 0 then -i else i)) S
  | _ => False
def gToInt : List D → Sto → QD → Prop := fun ds S Q => match ds with
  | [.int i] => Q (.int i) S
  | [.bl b] => Q (.int (if b then 1 else 0)) S
  | _ => False
def gStr : List D → Sto → QD → Prop := fun ds S Q => match ds with
  | [.int i] => i.natAbs < 2 ^ 1000 ∧ Q (.str (toString i)) S
  | _ => False
def gSum : List D → Sto → QD → Prop := fun ds S Q => match ds with
  | [d] => onSome (seqOf S d) fun xs => onSome (intsOf xs) fun ns => Q (.int ns.sum) S
  | _ => False
/-- the first greatest, the first least -/
def maxL : List Int → Int
  | [] => 0
  | [x] => x
  | x :: xs => max x (maxL xs)
def minL : List Int → Int
  | [] => 0
  | [x] => x
  | x :: xs => min x (minL xs)
theorem maxL_spec : ∀ {ns : List Int}, ns ≠ [] → maxL ns ∈ ns ∧ ∀ y ∈ ns, y ≤ maxL ns
  | [], h => absurd rfl h
  | [x], _ => ⟨List.mem_cons_self, fun y hy => by rw [List.mem_singleton.mp hy]; exact Int.le_refl _⟩
  | x :: y :: r, _ => by
    obtain ⟨h1, h2⟩ := maxL_spec (ns := y :: r) (fun z => nomatch z)
    have e : maxL (x :: y :: r) = max x (maxL (y :: r)) := rfl
    rw [e]
    refine ⟨?_, fun z hz => ?_⟩
    · rcases Int.le_total x (maxL (y :: r)) with h | h
      · rw [Int.max_eq_right h]; exact List.mem_cons_of_mem _ h1
      · rw [Int.max_eq_left h]; exact List.mem_cons_self
    · rcases List.mem_cons.mp hz with rfl | hz
      · exact Int.le_max_left _ _
      · exact Int.le_trans (h2 z hz) (Int.le_max_right _ _)
theorem minL_spec : ∀ {ns : List Int}, ns ≠ [] → minL ns ∈ ns ∧ ∀ y ∈ ns, minL ns ≤ y
  | [], h => absurd rfl h
  | [x], _ => ⟨List.mem_cons_self, fun y hy => by rw [List.mem_singleton.mp hy]; exact Int.le_refl _⟩
  | x :: y :: r, _ => by
    obtain ⟨h1, h2⟩ := minL_spec (ns := y :: r) (fun z => nomatch z)
    have e : minL (x :: y :: r) = min x (minL (y :: r)) := rfl
    rw [e]
    refine ⟨?_, fun z hz => ?_⟩
    · rcases Int.le_total x (minL (y :: r)) with h | h
      · rw [Int.min_eq_left h]; exact List.mem_cons_self
      · rw [Int.min_eq_right h]; exact List.mem_cons_of_mem _ h1
    · rcases List.mem_cons.mp hz with rfl | hz
      · exact Int.min_le_left _ _
      · exact Int.le_trans (Int.min_le_right _ _) (h2 z hz)
theorem maxL_uniq {ns : List Int} {m : Int} (h : m ∈ ns) (h2 : ∀ y ∈ ns, y ≤ m) : m = maxL ns := by
  obtain ⟨a, b⟩ := maxL_spec (ns := ns) (fun e => by rw [e] at h; cases h)
  have := h2 _ a
  have := b _ h
  omega
theorem minL_uniq {ns : List Int} {m : Int} (h : m ∈ ns) (h2 : ∀ y ∈ ns, m ≤ y) : m = minL ns := by
  obtain ⟨a, b⟩ := minL_spec (ns := ns) (fun e => by rw [e] at h; cases h)
  have := h2 _ a
  have := b _ h
  omega
def gMax : List D → Sto → QD → Prop := fun ds S Q => match ds with
  | [.int i, .int j] => Q (.int (if j > i then j else i)) S
  | [d] => onSome (seqOf S d) fun xs => onSome (intsOf xs) fun ns => ns ≠ [] ∧ Q (.int (maxL ns)) S
  | _ => False
def gTuple : List D → Sto → QD → Prop := fun ds S Q => match ds with
  | [d] => onSome (seqOf S d) fun xs => Q (.tup xs) S
  | _ => False
def gListN : List D → Sto → QD → Prop := fun ds S Q => match ds with
  | [d] => onSome (seqOf S d) fun xs => Q (.lst true xs) S
  | _ => False
def gListC : List D → Sto → QD → Prop := fun ds S Q => match ds with
  | [d] => onSome (seqOf S d) fun xs => Q (.cell S.length) (S ++ [.lst xs])
  | _ => False
section
variable {X : Cx}
theorem c_len : CallR X (.builtin "len") (rDs (ct X) gLen) := by
  intro pins s σ H vs us Q I r ⟨μ, S, ds, Qd, w, ra, hg, q⟩
  unfold gLen at hg
  split at hg
  · obtain ⟨v, rfl, rv⟩ := ra.one
    cases rv.str_inv
    exact call_len pins s σ H _ us Q I r ⟨_, _, rfl, ⟨hg.1, rfl⟩, q.same w (.int _) hg.2⟩
  · obtain ⟨v, rfl, rv⟩ := ra.one
    cases rv with
    | dic hd _ _ =>
      refine call_lenD pins s σ H _ us Q I r ⟨_, _, rfl, hd, ?_⟩
      rw [show (Rb.dicV _).length = _ from List.length_map ..]
      exact q.same w (.int _) hg
  · obtain ⟨v, rfl, rv⟩ := ra.one
    obtain ⟨xs, e, hg⟩ := onSome_of hg
    obtain ⟨a, ws, rfl, hs, rs⟩ := rv.seq w e
    refine call_len_seq pins s σ H _ us Q I r ⟨a, ws, rfl, hs, ?_⟩
    rw [rs.length]
    exact q.same w (.int _) hg
  · exact hg.elim
theorem c_abs : CallR X (.builtin "abs") (rDs (ct X) gAbs) := by
  intro pins s σ H vs us Q I r ⟨μ, S, ds, Qd, w, ra, hg, q⟩
  unfold gAbs at hg
  split at hg
  · obtain ⟨v, rfl, rv⟩ := ra.one
    cases rv.int_inv
    exact call_abs pins s σ H _ us Q I r ⟨_, rfl, q.same w (.int _) hg⟩
  · exact hg.elim
theorem c_int : CallR X (.type "int") (rDs (ct X) gToInt) := by
  intro pins s σ H vs us Q I r ⟨μ, S, ds, Qd, w, ra, hg, q⟩
  unfold gToInt at hg
  split at hg
  · obtain ⟨v, rfl, rv⟩ := ra.one
    cases rv.int_inv
    exact call_int1 pins s σ H _ us Q I r (.inl ⟨_, rfl, q.same w (.int _) hg⟩)
  · obtain ⟨v, rfl, rv⟩ := ra.one
    cases rv.bl_inv
    exact call_int1 pins s σ H _ us Q I r (.inr ⟨_, rfl, q.same w (.int _) hg⟩)
  · exact hg.elim
theorem c_str : CallR X (.type "str") (rDs (ct X) gStr) := by
  intro pins s σ H vs us Q I r ⟨μ, S, ds, Qd, w, ra, hg, q⟩
  unfold gStr at hg
  split at hg
  · rename_i i
    obtain ⟨v, rfl, rv⟩ := ra.one
    cases rv.int_inv
    refine call_str_int pins s σ H _ us Q I r ⟨_, rfl, ?_, q.same w (.str _) hg.2⟩
    by_cases z : i.natAbs = 0
    · rw [z]; decide
    · exact (Nat.log2_lt z).mpr (Nat.lt_of_lt_of_le hg.1 (Nat.pow_le_pow_right (by decide) (by decide)))
  · exact hg.elim
theorem c_sum (hc : X.calm = true) : CallR X (.builtin "sum") (rDs (ct X) gSum) := by
  intro pins s σ H vs us Q I r ⟨μ, S, ds, Qd, w, ra, hg, q⟩
  unfold gSum at hg
  split at hg
  · obtain ⟨v, rfl, rv⟩ := ra.one
    obtain ⟨xs, e, hg⟩ := onSome_of hg
    obtain ⟨ns, e2, hg⟩ := onSome_of hg
    obtain ⟨a, ws, rfl, hs, rs⟩ := rv.seq w e
    rw [intsOf_inv e2] at rs
    rw [rs.ints] at hs
    have fin := q.same w (.int _) hg
    rcases hs with hs | hs
    · exact cr_sum hc pins s σ H _ us Q I r ⟨a, ns, rfl, hs, fin⟩
    · exact Rb.cr_sumT hc pins s σ H _ us Q I r ⟨a, ns, rfl, hs, fin⟩
  · exact hg.elim
theorem c_max (hc : X.calm = true) (hu : X.A.units + 64 < cLine) : CallR X (.builtin "max") (rDs (ct X) gMax) := by
  intro pins s σ H vs us Q I r ⟨μ, S, ds, Qd, w, ra, hg, q⟩
  unfold gMax at hg
  split at hg
  · obtain ⟨v, u, rfl, rv, ru⟩ := ra.two
    cases rv.int_inv
    cases ru.int_inv
    exact call_max2 hc pins s σ H _ us Q I r ⟨_, _, rfl, q.same w (.int _) hg⟩
  · obtain ⟨v, rfl, rv⟩ := ra.one
    obtain ⟨xs, e, hg⟩ := onSome_of hg
    obtain ⟨ns, e2, ne, hg⟩ := onSome_of hg
    obtain ⟨a, ws, rfl, hs, rs⟩ := rv.seq w e
    rw [intsOf_inv e2] at rs
    rw [rs.ints] at hs
    have fin : ∀ m, m ∈ ns → (∀ y ∈ ns, y ≤ m) → Q (.int m) H := fun m h1 h2 => by
      rw [maxL_uniq h1 h2]
      exact q.same w (.int _) hg
    rcases hs with hs | hs
    · exact cr_max hc pins s σ H _ us Q I r ⟨a, ns, rfl, hs, List.length_pos_iff.mpr ne, fun m h1 h2 => fin m h1 h2⟩
    · exact Rb.cr_maxT hc hu pins s σ H _ us Q I r ⟨a, ns, rfl, hs, ne, fin⟩
  · exact hg.elim
def gMinL : List D → Sto → QD → Prop := fun ds S Q => match ds with
  | [.int i, .int j] => Q (.int (if j < i then j else i)) S
  | [d] => onSome (lstOf S d) fun xs => onSome (intsOf xs) fun ns => ns ≠ [] ∧ Q (.int (minL ns)) S
  | _ => False
theorem c_minL (hc : X.calm = true) : CallR X (.builtin "min") (rDs (ct X) gMinL) := by
  intro pins s σ H vs us Q I r ⟨μ, S, ds, Qd, w, ra, hg, q⟩
  unfold gMinL at hg
  split at hg
  · obtain ⟨v, u, rfl, rv, ru⟩ := ra.two
    cases rv.int_inv
    cases ru.int_inv
    exact call_min2 hc pins s σ H _ us Q I r ⟨_, _, rfl, q.same w (.int _) hg⟩
  · obtain ⟨v, rfl, rv⟩ := ra.one
    obtain ⟨xs, e, hg⟩ := onSome_of hg
    obtain ⟨ns, e2, ne, hg⟩ := onSome_of hg
    obtain ⟨a, ws, rfl, hs, rs⟩ := rv.lstT w e
    rw [intsOf_inv e2] at rs
    rw [rs.ints] at hs
    exact cr_min hc pins s σ H _ us Q I r ⟨a, ns, rfl, SqL.of hs, List.length_pos_iff.mpr ne, fun m h1 h2 => by
      rw [minL_uniq h1 h2]
      exact q.same w (.int _) hg⟩
  · exact hg.elim
theorem c_tuple : CallR X (.type "tuple") (rDs (ct X) gTuple) := by
  intro pins s σ H vs us Q I r ⟨μ, S, ds, Qd, w, ra, hg, q⟩
  unfold gTuple at hg
  split at hg
  · rename_i d
    obtain ⟨v, rfl, rv⟩ := ra.one
    obtain ⟨xs, e, hg⟩ := onSome_of hg
    rcases rv.seq2 w e with ⟨a, ws, rfl, rfl, ha, rs⟩ | ⟨a, ws, rfl, hs, rs⟩
    · exact call_tuple_of pins s σ H _ us Q I r ⟨a, ws, rfl, .inr ⟨SqT.of ha, q.same w (.tup ha rs) hg⟩⟩
    · exact call_tuple_of pins s σ H _ us Q I r ⟨a, ws, rfl, .inl ⟨hs, fun p hp => q.tup w rs hg hp⟩⟩
  · exact hg.elim
theorem c_listN : CallR X (.type "list") (rDs (ct X) gListN) := by
  intro pins s σ H vs us Q I r ⟨μ, S, ds, Qd, w, ra, hg, q⟩
  unfold gListN at hg
  split at hg
  · obtain ⟨v, rfl, rv⟩ := ra.one
    obtain ⟨xs, e, hg⟩ := onSome_of hg
    obtain ⟨a, ws, rfl, hs, rs⟩ := rv.seq w e
    exact Rb.call_listN pins s σ H _ us Q I r ⟨a, ws, rfl, hs, fun p hp hm => q.lstN w rs hg hp hm⟩
  · exact hg.elim
theorem PostV.lay {c : Ct} {μ : Mu} {S : Sto} {H : Hp} {Qd : QD} {Q : VK} (q : PostV c μ H Qd Q) (w : Wd c μ S H) {vs : List V} {ds : List D} (r : RpAll c μ H vs ds) (h : Qd (.cell S.length) (S ++ [.lst ds])) {p : Addr} (hp : H p = none) : Q (.ref p) (upd H p (.lst vs)) := by
  obtain ⟨f2, w2, r2⟩ := w.lay r hp
  exact q _ _ _ _ _ h f2 w2 r2
theorem c_listC : CallR X (.type "list") (rDs (ct X) gListC) := by
  intro pins s σ H vs us Q I r ⟨μ, S, ds, Qd, w, ra, hg, q⟩
  unfold gListC at hg
  split at hg
  · obtain ⟨v, rfl, rv⟩ := ra.one
    obtain ⟨xs, e, hg⟩ := onSome_of hg
    obtain ⟨a, ws, rfl, hs, rs⟩ := rv.seq w e
    exact Rb.call_listN pins s σ H _ us Q I r ⟨a, ws, rfl, hs, fun p hp hm => q.lay w rs hg hp⟩
  · exact hg.elim
end
/-! ## sorted: ints, pairs of ints -/
def gSorted : List D → Sto → QD → Prop := fun ds S Q => match ds with
  | [d] => onSome (lstOf S d) fun xs => (∃ ns, xs = ns.map D.int ∧ Q (.lst false ((Rb.srt ns).map D.int)) S) ∨ ∃ ps : List (Int × Int), xs = ps.map (fun p => D.tup [.int p.1, .int p.2]) ∧ Q (.lst false ((Rb.srtP ps).map fun p => D.tup [.int p.1, .int p.2])) S
  | _ => False
section
variable {X : Cx} {c : Ct} {μ : Mu} {H : Hp}
theorem RpAll.prs : ∀ {vs : List V} {ps : List (Int × Int)}, RpAll c μ H vs (ps.map fun p => D.tup [.int p.1, .int p.2]) → Rb.Prs H vs ps := by
  intro vs ps h
  refine ⟨by have := h.length; rw [List.length_map] at this; exact this, fun i p hp => ?_⟩
  obtain ⟨v, e, r⟩ := h.at (i := i) (d := D.tup [.int p.1, .int p.2]) (by rw [List.getElem?_map, hp]; rfl)
  obtain ⟨a, ws, rfl, ha, ra⟩ := r.tup_inv
  obtain ⟨x, y, rfl, rx, ry⟩ := ra.two
  cases rx.int_inv
  cases ry.int_inv
  exact ⟨a, e, ha⟩
theorem RpAll.ofPrs {vs : List V} : ∀ {ps : List (Int × Int)}, Rb.Prs H vs ps → RpAll c μ H vs (ps.map fun p => D.tup [.int p.1, .int p.2]) := by
  induction vs with
  | nil =>
    intro ps h
    have : ps = [] := List.length_eq_zero_iff.mp (by rw [← h.1]; rfl)
    subst this
    exact .nil
  | cons v vs ih =>
    intro ps h
    match ps, h with
    | [], h => exact absurd h.1 (by simp)
    | p :: ps, h =>
      obtain ⟨t, e1, e2⟩ := h.2 0 p rfl
      cases e1
      refine .cons (.tup e2 (.cons (.int _) (.cons (.int _) .nil))) (ih ⟨Nat.succ.inj h.1, fun i q hq => ?_⟩)
      exact h.2 (i + 1) q hq
theorem c_sorted : CallR X (.builtin "sorted") (rDs (ct X) gSorted) := by
  intro pins s σ H vs us Q I r ⟨μ, S, ds, Qd, w, ra, hg, q⟩
  unfold gSorted at hg
  split at hg
  · obtain ⟨v, rfl, rv⟩ := ra.one
    obtain ⟨xs, e, hg⟩ := onSome_of hg
    obtain ⟨a, ws, rfl, hs, rs⟩ := rv.lstT w e
    rcases hg with ⟨ns, rfl, hg⟩ | ⟨ps, rfl, hg⟩
    · rw [rs.ints] at hs
      refine cr_sortedI pins s σ H _ us Q I r ⟨a, ns, rfl, SqL.of hs, fun ns' p h1 h2 hp => ?_⟩
      rw [Rb.srt_uniq h1 h2]
      exact q.lst w (RpAll.ofInts _) hg hp
    · refine cr_sortedPO pins s σ H _ us Q I r (Rb.sorted_prs (SqL.of hs) rs.prs fun ys p hP hp => ?_)
      exact q.lst w (RpAll.ofPrs hP) hg hp
  · exact hg.elim
end
end Pu
namespace Pu
open PySem PySem.Spec PyProof.Rows L2
/-! ## subscripts, slices, in -/
theorem atI_map {α β : Type} {R : α → β → Prop} {xs : List α} {ys : List β} (hl : xs.length = ys.length) (h : ∀ (i : Nat) y, ys[i]? = some y → ∃ x, xs[i]? = some x ∧ R x y) {i : Int} {y : β} (e : atI ys i = some y) : ∃ x, atI xs i = some x ∧ R x y := by
  unfold atI at e ⊢
  rw [hl]
  obtain ⟨j, e1, e2⟩ := Option.bind_eq_some_iff.mp e
  obtain ⟨x, e3, r⟩ := h j y e2
  exact ⟨x, by rw [e1]; exact e3, r⟩
def gIx : G2 := fun x y S Q => match x, y with
  | .str z, .int i => z.length ≤ sizeLine ∧ onSome (atI z.cps.toList i) fun c => Q (.str ⟨#[c]⟩) S
  | x, .int i => onSome (seqOf S x) fun xs => onSome (atI xs i) fun d => Q d S
  | _, _ => False
/-- the items of xs[lo:hi] -/
def cutD (xs : List D) (lo hi : Option Int) : List D := (xs.drop (HT.sIx xs.length 0 lo)).take (HT.sIx xs.length xs.length hi - HT.sIx xs.length 0 lo)
def gSl : D → Option Int → Option Int → Sto → QD → Prop := fun x lo hi S Q => match x with
  | .tup xs => Q (.tup (cutD xs lo hi)) S
  | .str z => z.length ≤ sizeLine ∧ Q (.str (cutS z lo hi)) S
  | x => onSome (seqOf S x) fun xs => Q (.lst false (cutD xs lo hi)) S
def rDsl (c : Ct) (g : D → Option Int → Option Int → Sto → QD → Prop) : V → Option Int → Option Int → Hp → VK → Prop := fun x lo hi H Q => ∃ μ S d Qd, Wd c μ S H ∧ Rp c μ H x d ∧ g d lo hi S Qd ∧ PostV c μ H Qd Q
def dSl (fe : FE) (fl fh : FO) : FE := fun ρ S Q Ed => fe ρ S (fun x S1 => fl ρ S1 (fun l S2 => fh ρ S2 (fun h S3 => gSl x l h S3 Q) Ed) Ed) Ed
def dPart (f : FE) : FO := fun ρ S Q Ed => f ρ S (fun d S1 => match d with | .int i => Q (some i) S1 | _ => False) Ed
def dNoP : FO := fun _ S Q _ => Q none S
section
variable {c : Ct} {μ : Mu} {S : Sto} {H : Hp}
theorem cutV_eq {vs : List V} {ds : List D} (r : RpAll c μ H vs ds) (lo hi : Option Int) : RpAll c μ H (cutV vs lo hi) (cutD ds lo hi) := by
  unfold cutV cutD
  rw [r.length]
  exact (r.drop _).take _
end
section
variable {X : Cx} {E : L2.St → XK} {a b e : Expr} {fa fb fe : FE} {lo hi : Option Expr} {fl fh : FO} {pos p2 : Pos}
theorem ix_D : IxR X (rD2 (ct X) gIx) := by
  intro value slice pins s σ H x y v u Q I rx ry ⟨μ, S, dx, dy, Qd, w, r1, r2, hg, q⟩ hs
  unfold gIx at hg
  split at hg
  · obtain ⟨hz, hg⟩ := hg
    obtain ⟨c, e, hg⟩ := onSome_of hg
    cases r1.str_inv
    cases r2.int_inv
    exact ix_str value slice pins s σ H _ _ v u Q I rx ry ⟨_, _, c, rfl, rfl, hz, e, q.same w (.str _) hg⟩ hs
  · obtain ⟨xs, e1, hg⟩ := onSome_of hg
    obtain ⟨d, e2, hg⟩ := onSome_of hg
    obtain ⟨a, ws, rfl, hq, rs⟩ := r1.seq w e1
    cases r2.int_inv
    obtain ⟨z, e3, rz⟩ := atI_map rs.length (fun i y h => rs.at h) e2
    have fin := q.same w rz hg
    rcases hq with hq | hq
    · exact ix_list value slice pins s σ H _ _ v u Q I rx ry ⟨a, ws, _, z, rfl, rfl, hq, e3, fin⟩ hs
    · exact ix_tup value slice pins s σ H _ _ v u Q I rx ry ⟨a, ws, _, z, rfl, rfl, hq, e3, fin⟩ hs
  · exact hg.elim
theorem d_ix (ha : PEd X E a fa) (hb : PEd X E b fb) (hs : PlainIx b) : PEd X E (.Subscript a b pos) (dBin gIx fa fb) := PE.imp (pe_ix ix_D ha hb hs) fun _ _ _ h => tBin h
theorem sl_D : SlR X (rDsl (ct X) gSl) := by
  intro pins s σ H x v vl vu lo hi sl Q I rx hs pl pu ⟨μ, S, d, Qd, w, r1, hg, q⟩
  unfold gSl at hg
  split at hg
  · obtain ⟨a, ws, rfl, ha, rs⟩ := r1.tup_inv
    refine sl_tupA pins s σ H _ v vl vu lo hi sl Q I rx hs pl pu ⟨a, ws, rfl, SqT.of ha, fun hw => ?_, fun hw p hp => q.tup w (cutV_eq rs lo hi) hg hp⟩
    refine q.same w (.tup ha ?_) hg
    have : cutV ws lo hi = ws := by
      unfold cutV
      rw [hw.1, hw.2, List.drop_zero, Nat.sub_zero, List.take_length]
    rw [← this]
    exact cutV_eq rs lo hi
  · cases r1.str_inv
    exact sl_str pins s σ H _ v vl vu lo hi sl Q I rx hs pl pu ⟨_, rfl, hg.1, q.same w (.str _) hg.2⟩
  · rename_i hnt0 hnt1
    obtain ⟨xs, e1, hg⟩ := onSome_of hg
    rcases r1.seq2 w e1 with ⟨a, ws, rfl, rfl, ha, rs⟩ | ⟨a, ws, rfl, hq, rs⟩
    · exact absurd rfl (hnt0 _)
    · exact sl_list pins s σ H _ v vl vu lo hi sl Q I rx hs pl pu ⟨a, ws, rfl, hq, fun p hp => q.lst w (cutV_eq rs lo hi) hg hp⟩
theorem d_slice (he : PEd X E e fe) (hl : POd X E lo fl) (hh : POd X E hi fh) : PEd X E (.Subscript e (.Slice lo hi none p2) pos) (dSl fe fl fh) := by
  refine PE.imp (pe_slice sl_D he hl hh) fun σ H Q ⟨μ, S, ρ, Qd, Ed, w, en, hf, q, px⟩ => ?_
  refine tR_of w en hf px fun x S1 v H1 μ1 h1 f1 w1 en1 px1 r1 => ?_
  refine tR_of w1 en1 h1 px1 fun l S2 l' H2 μ2 h2 f2 w2 en2 px2 r2 => ?_
  cases (r2 : l' = l)
  refine tR_of w2 en2 h2 px2 fun h S3 h' H3 μ3 h3 f3 w3 en3 px3 r3 => ?_
  cases (r3 : h' = h)
  exact ⟨μ3, S3, x, Qd, w3, (r1.fw w1 f2).fw w2 f3, h3, fun d S' v' H' μ' h f w' r => q d S' v' H' μ' h (f1.trans (f2.trans (f3.trans f))) w' r⟩
theorem d_noP : POd X E none dNoP := PO.imp po_none fun σ H Q ⟨μ, S, ρ, Qd, Ed, w, en, hf, q, px⟩ => q none S none H μ hf Fw.refl w rfl
theorem d_part (he : PEd X E e fe) : POd X E (some e) (dPart fe) := by
  refine PO.imp (po_some he) fun σ H Q ⟨μ, S, ρ, Qd, Ed, w, en, hf, q, px⟩ => ?_
  refine tR_of w en hf px fun x S1 v H1 μ1 h1 f1 w1 en1 px1 r1 => ?_
  split at h1
  · exact ⟨_, r1.int_inv, q _ S1 _ H1 μ1 h1 f1 w1 rfl⟩
  · exact h1.elim
end
def gIn (neg : Bool) : G2 := fun x y S Q => match x with
  | .int i => onSome (seqOf S y) fun xs => onSome (intsOf xs) fun ns => Q (.bl (nb neg (decide (i ∈ ns)))) S
  | _ => False
theorem inV_ints {i : Int} : ∀ {ns : List Int}, inV (.int i) (ns.map V.int) = decide (i ∈ ns)
  | [] => by simp [inV]
  | n :: ns => by
    have ih := inV_ints (i := i) (ns := ns)
    unfold inV at *
    simp only [List.map_cons, List.any_cons]
    rw [ih]
    by_cases e : n = i
    · subst e
      simp [eqV]
    · have e2 : ¬ i = n := fun z => e z.symm
      simp [e, e2, eqV]
section
variable {X : Cx}
theorem flat_ints (ns : List Int) : (ns.map V.int).all flatV = true := by
  rw [List.all_map, List.all_eq_true]
  intro x _
  rfl
theorem o_in : OpR X (compareOp .In) (rD2 (ct X) (gIn false)) := by
  intro pins s σ H x y v u Q I rx ry ⟨μ, S, dx, dy, Qd, w, r1, r2, hg, q⟩
  unfold gIn at hg
  split at hg
  · obtain ⟨xs, e1, hg⟩ := onSome_of hg
    obtain ⟨ns, e2, hg⟩ := onSome_of hg
    obtain ⟨a, ws, rfl, hq, rs⟩ := r2.seq w e1
    cases r1.int_inv
    rw [intsOf_inv e2] at rs
    rw [rs.ints] at hq
    refine op_in_seq pins s σ H _ _ v u Q I rx ry ⟨a, _, rfl, hq, rfl, flat_ints ns, ?_⟩
    rw [inV_ints]
    exact q.same w (.bl _) hg
  · exact hg.elim
end
/-! ## methods of lists -/
abbrev GM := D → List D → Sto → QD → Prop
def dML (g : GM) (fo : FE) (fa : FA) : FE := fun ρ S Q Ed => fo ρ S (fun x S1 => onSome (cellOf S1 x) fun _ => fa ρ S1 (fun ds S2 => g x ds S2 Q) Ed) Ed
def gAppend : GM := fun x ds S Q => match ds with
  | [d] => onSome (cellOf S x) fun nx => nx.2.length < sizeLine ∧ Q .non (S.set nx.1 (.lst (nx.2 ++ [d])))
  | _ => False
section
variable {X : Cx} {E : L2.St → XK} {o e : Expr} {es : List Expr} {fo : FE} {fa : FA} {name : Str} {id : String} {apos cpos : Pos}
theorem d_ml {g : GM} (slot : Slot "list" name id) (hty : typeOf (.builtin id) = pure (.type "method_descriptor")) (hm : MtR X id (rDm (ct X) g)) (ho : PEd X E o fo) (ha : PAd X E (e :: es) fa)
    (hbase : attributeBase o name X.env (eval o X.env) = eval o X.env := by rfl)
    (hfew : ((backTo cpos (starEach (e :: es) X.env)).all (fun x => !x.1) && (backToKw cpos (keywordEach [] X.env)).all (fun x => x.1.isSome)
      && decide ((e :: es).length + ([] : List Keyword).length + (if ([] : List Keyword).isEmpty then 0 else 1) < 30)) = true := by rfl)
    (hline : (apos.endLine == cpos.line) = true := by rfl) (hs : starEach (e :: es) X.env = (false, eval e X.env) :: starEach es X.env := by rfl) (hplain : (backTo cpos (starEach es X.env)).any (·.1) = false := by rfl) :
    PEd X E (.Call (.Attribute o name apos) (e :: es) [] cpos) (dML g fo fa) := by
  refine PE.imp (pe_bm PySem.F.plainAttrs_list slot hty hm ho ha hbase hfew hline hs hplain) fun σ H Q ⟨μ, S, ρ, Qd, Ed, w, en, hf, q, px⟩ => ?_
  refine tR_of w en hf px fun x S1 v H1 μ1 h1 f1 w1 en1 px1 r1 => ?_
  obtain ⟨nx, e1, h1⟩ := onSome_of h1
  obtain ⟨a, vs, rfl, hm', ha', ra⟩ := w1.cellL r1 e1
  refine ⟨.inl ⟨rfl, vs, SqL.of ha'⟩, ?_⟩
  refine tR_of w1 en1 h1 px1 fun ds S2 us H2 μ2 h2 f2 w2 en2 px2 r2 => ?_
  exact ⟨μ2, S2, x, ds, Qd, w2, r1.fw w1 f2, r2, h2, fun d S' v' H' μ' h f w' r => q d S' v' H' μ' h (f1.trans (f2.trans f)) w' r⟩
theorem m_append : MtR X "list.append" (rDm (ct X) gAppend) := by
  intro pins s σ H x xs v us Q I rx rs ⟨μ, S, d, ds, Qd, w, r1, ra, hg, q⟩
  unfold gAppend at hg
  split at hg
  · obtain ⟨y, rfl, ry⟩ := ra.one
    obtain ⟨⟨n, zs⟩, e, hz, hg⟩ := onSome_of hg
    obtain ⟨a, vs, rfl, hm, ha, rz⟩ := w.cellL r1 e
    exact mt_append pins s σ H _ _ v us Q I rx rs ⟨a, vs, y, rfl, rfl, ha, by rw [rz.length]; exact hz, q.cell w hm (rz.append (.cons ry .nil)) .non hg⟩
  · exact hg.elim
end
end Pu
namespace Pu
open PySem PySem.Spec PyProof.Rows L2
/-! ## statements -/
structure EndsOk (c : Ct) (μ : Mu) (H : Hp) (De : DEnds) (D : Ends) : Prop where
  nx : ∀ ρ' S' σ' H' μ', De.nx ρ' S' → Fw μ H μ' H' → Wd c μ' S' H' → EnvR c μ' H' σ' ρ' → D.nx σ' H'
  rt : PostV c μ H De.rt D.rt
  bk : ∀ ρ' S' σ' H' μ', De.bk ρ' S' → Fw μ H μ' H' → Wd c μ' S' H' → EnvR c μ' H' σ' ρ' → D.bk σ' H'
  ct : ∀ ρ' S' σ' H' μ', De.ct ρ' S' → Fw μ H μ' H' → Wd c μ' S' H' → EnvR c μ' H' σ' ρ' → D.ct σ' H'
theorem PostV.fw {c : Ct} {μ μ' : Mu} {H H' : Hp} {Qd : QD} {Q : VK} (q : PostV c μ H Qd Q) (f : Fw μ H μ' H') : PostV c μ' H' Qd Q := fun d S' v H2 μ2 h g w r => q d S' v H2 μ2 h (f.trans g) w r
theorem EndsOk.fw {c : Ct} {μ μ' : Mu} {H H' : Hp} {De : DEnds} {D : Ends} (k : EndsOk c μ H De D) (f : Fw μ H μ' H') : EndsOk c μ' H' De D :=
  ⟨fun ρ S σ H2 μ2 h g w e => k.nx ρ S σ H2 μ2 h (f.trans g) w e, k.rt.fw f, fun ρ S σ H2 μ2 h g w e => k.bk ρ S σ H2 μ2 h (f.trans g) w e, fun ρ S σ H2 μ2 h g w e => k.ct ρ S σ H2 μ2 h (f.trans g) w e⟩
def tS (c : Ct) (E : XK) (f : FS) : TS := fun D σ H => ∃ μ S ρ De Ed, Wd c μ S H ∧ EnvR c μ H σ ρ ∧ f ρ S De Ed ∧ EndsOk c μ H De D ∧ PX c μ H Ed E
abbrev PSd (X : Cx) (E : XK) (st : Stmt) (f : FS) : Prop := PS X st (tS (ct X) E f)
abbrev PBd (X : Cx) (E : XK) (sts : List Stmt) (f : FS) : Prop := PSs X sts (tS (ct X) E f)
def dSkip : FS := fun ρ S De _ => De.nx ρ S
def dSeq (f g : FS) : FS := fun ρ S De Ed => f ρ S { De with nx := fun ρ' S' => g ρ' S' De Ed } Ed
/-- a word between the two -/
def dCut (f g : FS) : FS := fun ρ S De Ed => ∃ Mid : Rho → Sto → Prop, f ρ S { De with nx := Mid } Ed ∧ ∀ ρ' S', Mid ρ' S' → g ρ' S' De Ed
def dDrop (f : FE) : FS := fun ρ S De Ed => f ρ S (fun _ S1 => De.nx ρ S1) Ed
def dRet (f : FE) : FS := fun ρ S De Ed => f ρ S De.rt Ed
def dIfS (t : FT) (f g : FS) : FS := fun ρ S De Ed => t ρ S (fun b S1 => if b = true then f ρ S1 De Ed else g ρ S1 De Ed) Ed
def dAsg (f : FE) (g : FG) : FS := fun ρ S De Ed => f ρ S (fun d S1 => g d ρ S1 De.nx Ed) Ed
section
variable {X : Cx} {E : XK} {st : Stmt} {rest : List Stmt} {f g : FS} {e : Expr} {fe : FE} {pos : Pos}
theorem d_end : PBd X E [] dSkip := PSs.imp pss_nil fun D σ H ⟨μ, S, ρ, De, Ed, w, en, hf, k, px⟩ => k.nx ρ S σ H μ hf Fw.refl w en
theorem d_seq (h1 : PSd X E st f) (h2 : PBd X E rest g) : PBd X E (st :: rest) (dSeq f g) := by
  refine PSs.imp (pss_cons h1 h2) fun D σ H ⟨μ, S, ρ, De, Ed, w, en, hf, k, px⟩ => ?_
  exact ⟨μ, S, ρ, _, Ed, w, en, hf, ⟨fun ρ' S' σ' H' μ' h fw w' en' => ⟨μ', S', ρ', De, Ed, w', en', h, k.fw fw, px.fw fw⟩, k.rt, k.bk, k.ct⟩, px⟩
theorem d_cut (h1 : PSd X E st f) (h2 : PBd X E rest g) : PBd X E (st :: rest) (dCut f g) := by
  refine PSs.imp (pss_cons h1 h2) fun D σ H ⟨μ, S, ρ, De, Ed, w, en, ⟨Mid, hf, hm⟩, k, px⟩ => ?_
  exact ⟨μ, S, ρ, _, Ed, w, en, hf, ⟨fun ρ' S' σ' H' μ' h fw w' en' => ⟨μ', S', ρ', De, Ed, w', en', hm ρ' S' h, k.fw fw, px.fw fw⟩, k.rt, k.bk, k.ct⟩, px⟩
theorem d_last (h1 : PSd X E st f) : PBd X E [st] f := pss_one h1
theorem d_expr (he : PEd X (cE E) e fe) (hs : swapsWith e none pos.line X.env = pure false := by rfl) : PSd X E (.Expr e pos) (dDrop fe) := by
  refine PS.imp (ps_expr he hs) fun D σ H ⟨μ, S, ρ, De, Ed, w, en, hf, k, px⟩ => ?_
  exact tR_of w en hf px fun x S1 v H1 μ1 h1 f1 w1 en1 px1 r1 => k.nx ρ S1 σ H1 μ1 h1 f1 w1 en1
theorem d_ret (he : PEd X (cE E) e fe) : PSd X E (.Return (some e) pos) (dRet fe) := by
  refine PS.imp (ps_ret he) fun D σ H ⟨μ, S, ρ, De, Ed, w, en, hf, k, px⟩ => ?_
  exact tR_of w en hf px fun x S1 v H1 μ1 h1 f1 w1 en1 px1 r1 => k.rt x S1 v H1 μ1 h1 f1 w1 r1
theorem d_if {c : Expr} {a b : List Stmt} {t : FT} (hc : PTd X (cE E) c t) (ha : PBd X E a f) (hb : PBd X E b g) : PSd X E (.If c a b pos) (dIfS t f g) := by
  refine PS.imp (ps_if hc ha hb) fun D σ H ⟨μ, S, ρ, De, Ed, w, en, hf, k, px⟩ => ?_
  refine tR_of w en hf px fun x S1 v H1 μ1 h1 f1 w1 en1 px1 r1 => ?_
  cases (r1 : v = x)
  split
  · rename_i hv
    rw [if_pos hv] at h1
    exact ⟨μ1, S1, ρ, De, Ed, w1, en1, h1, k.fw f1, px1⟩
  · rename_i hv
    rw [if_neg hv] at h1
    exact ⟨μ1, S1, ρ, De, Ed, w1, en1, h1, k.fw f1, px1⟩
end
/-! ## targets -/
def tG (c : Ct) (E : XK) (g : FG) : TG := fun v σ H Q => ∃ μ S ρ d Qd Ed, Wd c μ S H ∧ EnvR c μ H σ ρ ∧ Rp c μ H v d ∧ g d ρ S Qd Ed ∧ (∀ ρ' S' σ' H' μ', Qd ρ' S' → Fw μ H μ' H' → Wd c μ' S' H' → EnvR c μ' H' σ' ρ' → Q σ' H') ∧ PX c μ H Ed E
def tGs (c : Ct) (E : XK) (g : FGs) : TGs := fun vs σ H Q => ∃ μ S ρ ds Qd Ed, Wd c μ S H ∧ EnvR c μ H σ ρ ∧ RpAll c μ H vs ds ∧ g ds ρ S Qd Ed ∧ (∀ ρ' S' σ' H' μ', Qd ρ' S' → Fw μ H μ' H' → Wd c μ' S' H' → EnvR c μ' H' σ' ρ' → Q σ' H') ∧ PX c μ H Ed E
abbrev PGd (X : Cx) (E : XK) (tg : Expr) (g : FG) : Prop := PG X tg (tG (ct X) E g)
abbrev PGsd (X : Cx) (E : XK) (tgs : List Expr) (g : FGs) : Prop := PGs X tgs (tGs (ct X) E g)
/-- the slot i is filled, the list of slots written out -/
def setK : Rho → Nat → D → (Rho → Prop) → Prop
  | [], _, _, k => k []
  | _ :: r, 0, d, k => k (some d :: r)
  | x :: r, n + 1, d, k => setK r n d fun r' => k (x :: r')
theorem setK_eq : ∀ {ρ : Rho} {i : Nat} {d : D} {k : Rho → Prop}, setK ρ i d k → k (ρ.set i (some d))
  | [], _, _, _, h => h
  | _ :: r, 0, d, k, h => h
  | x :: r, n + 1, d, k, h => setK_eq (ρ := r) (i := n) (d := d) (k := fun r' => k (x :: r')) h
def gN (i : Nat) : FG := fun d ρ S Q _ => setK ρ i d fun ρ' => Q ρ' S
def gsNil : FGs := fun ds ρ S Q _ => match ds with
  | [] => Q ρ S
  | _ => False
def gsCons (g : FG) (gs : FGs) : FGs := fun ds ρ S Q Ed => match ds with
  | d :: r => g d ρ S (fun ρ1 S1 => gs r ρ1 S1 Q Ed) Ed
  | [] => False
def gTp (n : Nat) (gs : FGs) : FG := fun d ρ S Q Ed => match d with
  | .tup ds => ds.length = n ∧ gs ds ρ S Q Ed
  | _ => False
def gUn (n : Nat) (gs : FGs) : FG := fun d ρ S Q Ed => onSome (lstOf S d) fun ds => ds.length = n ∧ gs ds ρ S Q Ed
/-- o[i] = .. -/
def gSetI (fo fi : FE) : FG := fun d ρ S Q Ed => fo ρ S (fun x S1 => fi ρ S1 (fun y S2 => match y with
  | .int k => onSome (cellOf S2 x) fun nx => onSome (ixN nx.2.length k) fun j => Q ρ (S2.set nx.1 (.lst (nx.2.set j d)))
  | _ => False) Ed) Ed
section
variable {X : Cx} {E : XK} {pos : Pos} {tg e o ie : Expr} {es : List Expr} {g : FG} {gs : FGs} {fe fo fi : FE}
theorem PGs.imp {t t' : TGs} (h : PGs X es t) (k : ∀ v σ H Q, t' v σ H Q → t v σ H Q) : PGs X es t' := ⟨fun pins s σ H v u Q I r q => h.run pins s σ H v u Q I r (k v σ H Q q)⟩
theorem d_gn {i : Nat} (h : PG X tg (gName i)) : PGd X E tg (gN i) :=
  PG.imp h fun v σ H Q ⟨μ, S, ρ, d, Qd, Ed, w, en, r, hg, q, px⟩ => q _ S _ H μ (setK_eq (k := fun ρ' => Qd ρ' S) hg) Fw.refl w (en.set r)
theorem d_gnil : PGsd X E [] gsNil := by
  refine PGs.imp pgs_nil fun vs σ H Q ⟨μ, S, ρ, ds, Qd, Ed, w, en, r, hg, q, px⟩ => ?_
  unfold gsNil at hg
  split at hg
  · cases r
    exact ⟨rfl, q ρ S σ H μ hg Fw.refl w en⟩
  · exact hg.elim
theorem d_gcons (h1 : PGd X E e g) (h2 : PGsd X E es gs) (hs : (assignEach (e :: es) X.env).map (·.2) = assign e X.env :: (assignEach es X.env).map (·.2) := by rfl) : PGsd X E (e :: es) (gsCons g gs) := by
  refine PGs.imp (pgs_cons h1 h2 hs) fun vs σ H Q ⟨μ, S, ρ, ds, Qd, Ed, w, en, r, hg, q, px⟩ => ?_
  unfold gsCons at hg
  split at hg
  · cases r with
    | cons r1 r2 =>
      refine ⟨_, _, rfl, μ, S, ρ, _, _, Ed, w, en, r1, hg, fun ρ1 S1 σ1 H1 μ1 h1 f1 w1 en1 => ?_, px⟩
      exact ⟨μ1, S1, ρ1, _, Qd, Ed, w1, en1, r2.fw w f1, h1, fun ρ2 S2 σ2 H2 μ2 h2 f2 w2 en2 => q ρ2 S2 σ2 H2 μ2 h2 (f1.trans f2) w2 en2, px.fw f1⟩
  · exact hg.elim
theorem d_gtup {k n : Nat} (hc : X.calm = true) (h : PGsd X E es gs) (hn : (assignEach es X.env).length = n := by rfl) (hst : (assignEach es X.env).findIdx? (·.1) = none := by rfl) : PGd X E (.Tuple es k pos) (gTp n gs) := by
  refine PG.imp (pg_tup hc h hn hst) fun v σ H Q ⟨μ, S, ρ, d, Qd, Ed, w, en, r, hg, q, px⟩ => ?_
  unfold gTp at hg
  split at hg
  · obtain ⟨a, ws, rfl, ha, rs⟩ := r.tup_inv
    exact ⟨a, ws, rfl, SqT.of ha, by rw [rs.length]; exact hg.1, μ, S, ρ, _, Qd, Ed, w, en, rs, hg.2, q, px⟩
  · exact hg.elim
theorem d_gunl {k n : Nat} (hc : X.calm = true) (h : PGsd X E es gs) (hn : (assignEach es X.env).length = n := by rfl) (hst : (assignEach es X.env).findIdx? (·.1) = none := by rfl) : PGd X E (.Tuple es k pos) (gUn n gs) := by
  refine PG.imp (pg_unl hc h hn hst) fun v σ H Q ⟨μ, S, ρ, d, Qd, Ed, w, en, r, hg, q, px⟩ => ?_
  obtain ⟨ds, e, hl, hg⟩ := onSome_of hg
  obtain ⟨a, ws, rfl, ha, rs⟩ := r.lstT w e
  exact ⟨a, ws, rfl, SqL.of ha, by rw [rs.length]; exact hl, μ, S, ρ, _, Qd, Ed, w, en, rs, hg, q, px⟩
theorem d_gsub (ho : PEd X (cE E) o fo) (hi : PEd X (cE E) ie fi)
    (ha : ∀ v, assign (.Subscript o ie pos) X.env v = (do
      let ov ← holding [v] (eval o X.env)
      let iv ← holding [v, ov] (eval ie X.env)
      standAt pos
      holding [v, ov, iv] (setItem ov iv v)
      release [v, ov, iv] []) := by intro _; rfl) : PGd X E (.Subscript o ie pos) (gSetI fo fi) := by
  refine PG.imp (pg_sub ho hi set_list ha) fun v σ H Q ⟨μ, S, ρ, d, Qd, Ed, w, en, r, hg, q, px⟩ => ?_
  refine tR_of w en hg px fun x S1 vx H1 μ1 h1 f1 w1 en1 px1 r1 => ?_
  refine tR_of w1 en1 h1 px1 fun y S2 vy H2 μ2 h2 f2 w2 en2 px2 r2 => ?_
  split at h2
  · obtain ⟨⟨n, zs⟩, e, h2⟩ := onSome_of h2
    obtain ⟨j, e2, h2⟩ := onSome_of h2
    obtain ⟨a, vs, rfl, hm, hl, rz⟩ := w2.cellL (r1.fw w1 f2) e
    have fw : Fw μ2 H2 μ2 (upd H2 a (.lst (vs.set j v))) := Fw.write (List.mem_of_getElem? hm)
    have rd := ((r.fw w f1).fw w1 f2)
    refine ⟨a, vs, _, j, rfl, r2.int_inv, hl, by rw [rz.length]; exact e2, ?_⟩
    exact q ρ _ σ _ μ2 h2 (f1.trans (f2.trans fw)) (w2.set hm ⟨_, upd_same, (rz.set rd j).fw w2 fw⟩) (en2.fw w2 fw)
  · exact h2.elim
theorem d_asg (he : PEd X (cE E) e fe) (hg : PGd X E tg g) (hs : swapsWithSole [tg] e pos.line X.env = pure false := by rfl) (hw : swappedStores [tg] e X.env = pure none := by rfl)
    (h1 : (assignEach [tg] X.env).map (·.2) = [assign tg X.env] := by rfl) : PSd X E (.Assign [tg] e pos) (dAsg fe g) := by
  refine PS.imp (ps_asg he hg hs hw h1) fun D σ H ⟨μ, S, ρ, De, Ed, w, en, hf, k, px⟩ => ?_
  refine tR_of w en hf px fun x S1 v H1 μ1 h1 f1 w1 en1 px1 r1 => ?_
  exact ⟨μ1, S1, ρ, x, _, Ed, w1, en1, r1, h1, fun ρ2 S2 σ2 H2 μ2 h2 f2 w2 en2 => k.nx ρ2 S2 σ2 H2 μ2 h2 (f1.trans f2) w2 en2, px1⟩
theorem d_set {i : Nat} {x : Str} {pos' : Pos} (hN : X.N.Nodup) (hi : X.N[i]? = some x) (hx : Loc X.env.scope x) (he : PEd X (cE E) e fe) (hs : swapsWith e (some (.Name x pos')) pos.line X.env = pure false := by rfl)
    (hf : X.fn x = true ∨ X.env.scope.names.lookup x = some .local := by first | exact .inl rfl | exact .inr rfl | assumption) : PSd X E (.Assign [.Name x pos'] e pos) (dAsg fe (gN i)) := by
  refine PS.imp (ps_set hN hi hx he hs hf) fun D σ H ⟨μ, S, ρ, De, Ed, w, en, hf, k, px⟩ => ?_
  refine tR_of w en hf px fun x S1 v H1 μ1 h1 f1 w1 en1 px1 r1 => ?_
  exact k.nx _ S1 _ H1 μ1 (setK_eq (k := fun ρ' => De.nx ρ' S1) h1) f1 w1 (en1.set r1)
end
/-- a, b = x, y -/
def dPar (i j : Nat) (fa : FA) : FS := fun ρ S De Ed => fa ρ S (fun ds S1 => match ds with
  | [d, e] => setK ρ i d fun ρ1 => setK ρ1 j e fun ρ2 => De.nx ρ2 S1
  | _ => False) Ed
def dPar3 (i j l : Nat) (fa : FA) : FS := fun ρ S De Ed => fa ρ S (fun ds S1 => match ds with
  | [d, e, f] => setK ρ i d fun ρ1 => setK ρ1 j e fun ρ2 => setK ρ2 l f fun ρ3 => De.nx ρ3 S1
  | _ => False) Ed
section
variable {X : Cx} {E : XK} {pos : Pos} {a b c : Expr} {fa : FA}
theorem d_par {i j : Nat} {x y : Str} {px py pt : Pos} {kt k2 pt2} (hc : X.calm = true) (hN : X.N.Nodup) (hi : X.N[i]? = some x) (hj : X.N[j]? = some y) (hij : i ≠ j)
    (hx : X.env.scope.names.lookup x = some .local) (hy : X.env.scope.names.lookup y = some .local) (ha : PAd X (cE E) [a, b] fa)
    (hw : swappedStores [.Tuple [.Name x px, .Name y py] kt pt] (.Tuple [a, b] k2 pt2) X.env = pure (some [x, y]))
    (hs : swapsWithSole [.Tuple [.Name x px, .Name y py] kt pt] (.Tuple [a, b] k2 pt2) pos.line X.env = pure false := by rfl) :
    PSd X E (.Assign [.Tuple [.Name x px, .Name y py] kt pt] (.Tuple [a, b] k2 pt2) pos) (dPar i j fa) := by
  refine PS.imp (ps_par hc hN hi hj hij hx hy ha hw hs) fun D σ H ⟨μ, S, ρ, De, Ed, w, en, hf, k, px⟩ => ?_
  refine tR_of w en hf px fun ds S1 vs H1 μ1 h1 f1 w1 en1 px1 r1 => ?_
  split at h1
  · obtain ⟨u, v, rfl, ru, rv⟩ := r1.two
    exact ⟨u, v, rfl, k.nx _ S1 _ H1 μ1 (setK_eq (k := fun ρ2 => De.nx ρ2 S1) (setK_eq (k := fun ρ1 => setK ρ1 _ _ fun ρ2 => De.nx ρ2 S1) h1)) f1 w1 ((en1.set ru).set rv)⟩
  · exact h1.elim
theorem d_par3 {i j l : Nat} {x y z : Str} {px py pz pt : Pos} {kt k2 pt2} (hc : X.calm = true) (hN : X.N.Nodup) (hi : X.N[i]? = some x) (hj : X.N[j]? = some y) (hl : X.N[l]? = some z) (hij : i ≠ j) (hil : i ≠ l) (hjl : j ≠ l)
    (hx : X.env.scope.names.lookup x = some .local) (hy : X.env.scope.names.lookup y = some .local) (hz : X.env.scope.names.lookup z = some .local) (ha : PAd X (cE E) [a, b, c] fa)
    (hw : swappedStores [.Tuple [.Name x px, .Name y py, .Name z pz] kt pt] (.Tuple [a, b, c] k2 pt2) X.env = pure (some [x, y, z]))
    (hs : swapsWithSole [.Tuple [.Name x px, .Name y py, .Name z pz] kt pt] (.Tuple [a, b, c] k2 pt2) pos.line X.env = pure false := by rfl) :
    PSd X E (.Assign [.Tuple [.Name x px, .Name y py, .Name z pz] kt pt] (.Tuple [a, b, c] k2 pt2) pos) (dPar3 i j l fa) := by
  refine PS.imp (ps_par3 hc hN hi hj hl hij hil hjl hx hy hz ha hw hs) fun D σ H ⟨μ, S, ρ, De, Ed, w, en, hf, k, px⟩ => ?_
  refine tR_of w en hf px fun ds S1 vs H1 μ1 h1 f1 w1 en1 px1 r1 => ?_
  split at h1
  · cases r1 with
    | cons r0 r1 =>
      obtain ⟨u, v, rfl, ru, rv⟩ := r1.two
      exact ⟨_, u, v, rfl, k.nx _ S1 _ H1 μ1 (setK_eq (k := fun ρ3 => De.nx ρ3 S1) (setK_eq (k := fun ρ2 => setK ρ2 _ _ fun ρ3 => De.nx ρ3 S1) (setK_eq (k := fun ρ1 => setK ρ1 _ _ fun ρ2 => setK ρ2 _ _ fun ρ3 => De.nx ρ3 S1) h1))) f1 w1 (((en1.set r0).set ru).set rv)⟩
  · exact h1.elim
end
end Pu
namespace Pu
open PySem PySem.Spec PyProof.Rows L2
/-! ## what a loop walks: its items, the cells that must stay as they are -/
abbrev Src := List (Nat × List D)
def srcOk : Src → Sto → Prop → Prop
  | [], _, P => P
  | (n, xs) :: r, S, P => S[n]? = some (.lst xs) ∧ srcOk r S P
theorem srcOk_iff {src : Src} {S : Sto} {P : Prop} : srcOk src S P ↔ (∀ p ∈ src, S[p.1]? = some (.lst p.2)) ∧ P := by
  induction src with
  | nil => exact ⟨fun h => ⟨(fun _ z => nomatch z), h⟩, fun h => h.2⟩
  | cons p r ih =>
    obtain ⟨n, xs⟩ := p
    constructor
    · rintro ⟨h1, h2⟩
      obtain ⟨h3, h4⟩ := ih.mp h2
      refine ⟨fun q hq => ?_, h4⟩
      rcases List.mem_cons.mp hq with rfl | hq
      · exact h1
      · exact h3 q hq
    · rintro ⟨h1, h2⟩
      exact ⟨h1 _ List.mem_cons_self, ih.mpr ⟨fun q hq => h1 q (List.mem_cons_of_mem _ hq), h2⟩⟩
def src1 (n : Nat) : Option (List D) → Src
  | some xs => [(n, xs)]
  | none => []
def srcOf (S : Sto) : D → Src
  | .cell n => src1 n (lstAt S[n]?)
  | _ => []
theorem srcOf_seq {S S' : Sto} {d : D} {xs : List D} (e : seqOf S d = some xs) (h : ∀ p ∈ srcOf S d, S'[p.1]? = some (.lst p.2)) : seqOf S' d = some xs := by
  cases d with
  | cell n =>
    have e' : lstAt S[n]? = some xs := e
    have h1 : srcOf S (.cell n) = [(n, xs)] := by show src1 n (lstAt S[n]?) = _; rw [e']; rfl
    rw [h1] at h
    have := h (n, xs) List.mem_cons_self
    show lstAt S'[n]? = some xs
    rw [this]
    rfl
  | _ => exact e
structure ItOk (c : Ct) (J : It) (items : List D) (src : Src) (Anc : Mu → Hp → Prop) : Prop where
  keep : ∀ {μ H μ' H'}, Anc μ H → Kp c μ H μ' H' → Anc μ' H'
  go : ∀ {μ S H}, Anc μ H → Wd c μ S H → (∀ p ∈ src, S[p.1]? = some (.lst p.2)) → ∀ (i : Nat) (d : D), items[i]? = some d → J.go i H ∧ ∀ x H', J.yld i H x H' → Fw μ H μ H' ∧ Wd c μ S H' ∧ Rp c μ H' x d
  stop : ∀ {μ S H}, Anc μ H → Wd c μ S H → (∀ p ∈ src, S[p.1]? = some (.lst p.2)) → J.stop items.length H
abbrev FI := FX (List D × Src)
def tI (c : Ct) (E : L2.St → XK) (fi : FI) : TI := fun σ H R => ∃ μ S ρ Qi Ed, Wd c μ S H ∧ EnvR c μ H σ ρ ∧ fi ρ S Qi Ed ∧
  (∀ is S' H' μ' J Anc, Qi is S' → Fw μ H μ' H' → Wd c μ' S' H' → ItOk c J is.1 is.2 Anc → Anc μ' H' → (∀ p ∈ is.2, S'[p.1]? = some (.lst p.2)) → R J H') ∧ PX c μ H Ed (E σ)
abbrev PId (X : Cx) (E : L2.St → XK) (tg e : Expr) (fi : FI) : Prop := PI X tg e (tI (ct X) E fi)
theorem PI.imp {X : Cx} {tg e : Expr} {t t' : TI} (h : PI X tg e t) (k : ∀ σ H R, t' σ H R → t σ H R) : PI X tg e t' := ⟨fun pins s σ H R I q => h.run pins s σ H R I (k σ H R q)⟩
theorem srcOf_ok {S : Sto} {d : D} {xs : List D} (e : seqOf S d = some xs) : ∀ p ∈ srcOf S d, S[p.1]? = some (.lst p.2) := by
  intro p hp
  cases d with
  | cell n =>
    have e' : lstAt S[n]? = some xs := e
    have h1 : srcOf S (.cell n) = [(n, xs)] := by show src1 n (lstAt S[n]?) = _; rw [e']; rfl
    rw [h1] at hp
    cases List.mem_singleton.mp hp
    exact lstAt_inv e'
  | _ => cases hp
/-! ### a list or a tuple -/
def iSeq (K : PySem.W.Frag) (tl : TE) : TI := fun σ H R => tl σ H fun x H1 => ∃ a, x = .ref a ∧ (((∃ xs, SqL K H1 a xs) ∧ R (Itl K a) H1) ∨ ((∃ xs, SqT K H1 a xs) ∧ R (Itt K a) H1))
section
variable {X : Cx} {E : L2.St → XK} {tg e : Expr} {fe : FE} {fa : FA}
theorem pi_seq {tl : TE} (hl : PE X e tl) : PI X tg e (iSeq X.K tl) := by
  constructor
  intro pins s σ H R I h
  refine thn (hl.run pins s σ H _ I h) fun v s1 hv => ?_
  obtain ⟨x, H1, I1, r1, a, rfl, q⟩ := hv
  cases r1
  have own : ∀ b, b ∈ [s1.heap.objs.size] → FpOk X pins H1 b := fun b hb => by
    rw [List.mem_singleton.mp hb]
    exact I1.fpOk (Nat.le_refl _) (I1.hok.fresh (Nat.le_refl _))
  rcases q with ⟨⟨xs, hq⟩, q⟩ | ⟨⟨xs, hq⟩, q⟩
  · obtain ⟨its, rv, pl, _⟩ := I1.list hq
    exact wpAny_pyIter_list pl.isList
      ⟨_, _, _, _, H1, rfl, I1.kept (t' := s1.toks) (fun b o eb => Heap.get?_push_of_some _ eb), turn_list a _, ⟨_, Heap.get?_push_size _ rfl, rfl, rfl⟩, own, q⟩
  · obtain ⟨its, rv, pl, _⟩ := I1.tuple hq
    exact wpAny_pyIter_tuple (Rb.isTup_isTuple pl)
      ⟨_, _, _, _, H1, rfl, I1.kept (t' := s1.toks) (fun b o eb => Heap.get?_push_of_some _ eb), turn_tuple a _, ⟨_, Heap.get?_push_size _ rfl, rfl, rfl⟩, own, q⟩
def dItS (fe : FE) : FI := fun ρ S Q Ed => fe ρ S (fun d S1 => onSome (seqOf S1 d) fun xs => Q (xs, srcOf S1 d) S1) Ed
theorem itl_ok {c : Ct} {S0 : Sto} {a : Addr} {d : D} {xs : List D} (hn : ∀ ys, d ≠ .tup ys) (e : seqOf S0 d = some xs) : ItOk c (Itl c.K a) xs (srcOf S0 d) (fun μ H => Rp c μ H (.ref a) d) where
  keep := fun r k => r.kp k
  go := fun {μ S H} r w hs i x hx => by
    rcases r.seq2 w (srcOf_seq e hs) with ⟨_, _, rfl, _⟩ | ⟨b, vs, eb, hq, rs⟩
    · exact absurd rfl (hn _)
    cases eb
    obtain ⟨v, ev, rv⟩ := rs.at hx
    refine ⟨⟨vs, v, hq, ev⟩, fun y H' hy => ?_⟩
    obtain ⟨rfl, hy⟩ := hy
    have := hy vs hq
    rw [ev] at this
    cases this
    exact ⟨Fw.refl, w, rv⟩
  stop := fun {μ S H} r w hs => by
    rcases r.seq2 w (srcOf_seq e hs) with ⟨_, _, rfl, _⟩ | ⟨b, vs, eb, hq, rs⟩
    · exact absurd rfl (hn _)
    cases eb
    exact ⟨vs, hq, by rw [rs.length]; exact Nat.le_refl _⟩
theorem itt_ok {c : Ct} {a : Addr} {xs : List D} : ItOk c (Itt c.K a) xs [] (fun μ H => Rp c μ H (.ref a) (.tup xs)) where
  keep := fun r k => r.kp k
  go := fun {μ S H} r w hs i x hx => by
    obtain ⟨b, vs, eb, ha, rs⟩ := r.tup_inv
    cases eb
    obtain ⟨v, ev, rv⟩ := rs.at hx
    refine ⟨⟨vs, v, SqT.of ha, ev⟩, fun y H' hy => ?_⟩
    obtain ⟨rfl, hy⟩ := hy
    have := hy vs (SqT.of ha)
    rw [ev] at this
    cases this
    exact ⟨Fw.refl, w, rv⟩
  stop := fun {μ S H} r w hs => by
    obtain ⟨b, vs, eb, ha, rs⟩ := r.tup_inv
    cases eb
    exact ⟨vs, SqT.of ha, by rw [rs.length]; exact Nat.le_refl _⟩
theorem d_iseq (he : PEd X E e fe) : PId X E tg e (dItS fe) := by
  refine PI.imp (pi_seq he) fun σ H R ⟨μ, S, ρ, Qi, Ed, w, en, hf, q, px⟩ => ?_
  refine tR_of w en hf px fun d S1 v H1 μ1 h1 f1 w1 en1 px1 r1 => ?_
  obtain ⟨xs, e1, hq⟩ := onSome_of h1
  rcases r1.seq2 w1 e1 with ⟨a, vs, rfl, rfl, ha, rs⟩ | ⟨a, vs, rfl, hs, rs⟩
  · exact ⟨a, rfl, .inr ⟨⟨vs, SqT.of ha⟩, q _ S1 H1 μ1 _ _ hq f1 w1 itt_ok r1 (fun _ z => nomatch z)⟩⟩
  · by_cases ht : ∃ ys, d = .tup ys
    · obtain ⟨ys, rfl⟩ := ht
      cases e1
      obtain ⟨b, ws, eb, hb, rs'⟩ := r1.tup_inv
      cases eb
      exact ⟨a, rfl, .inr ⟨⟨ws, SqT.of hb⟩, q _ S1 H1 μ1 _ _ hq f1 w1 itt_ok r1 (fun _ z => nomatch z)⟩⟩
    · exact ⟨a, rfl, .inl ⟨⟨vs, hs⟩, q _ S1 H1 μ1 _ _ hq f1 w1 (itl_ok (fun ys z => ht ⟨ys, z⟩) e1) r1 (srcOf_ok e1)⟩⟩
/-! ### range -/
def rangeD (lo : Int) (n : Nat) : List D := (List.range n).map fun i : Nat => D.int (lo + (i : Int))
theorem rangeD_get {lo : Int} {n i : Nat} {d : D} (h : (rangeD lo n)[i]? = some d) : i < n ∧ d = .int (lo + (i : Int)) := by
  unfold rangeD at h
  rw [List.getElem?_map] at h
  obtain ⟨j, e1, rfl⟩ := Option.map_eq_some_iff.mp h
  obtain ⟨h1, h2⟩ := List.getElem?_eq_some_iff.mp e1
  rw [List.getElem_range] at h2
  rw [List.length_range] at h1
  subst h2
  exact ⟨h1, rfl⟩
theorem itr_ok {c : Ct} {lo : Int} {n : Nat} : ItOk c (Itr lo n) (rangeD lo n) [] (fun _ _ => True) where
  keep := fun _ _ => trivial
  go := fun {μ S H} _ w _ i d hd => by
    obtain ⟨h1, rfl⟩ := rangeD_get hd
    refine ⟨h1, fun x H' hy => ?_⟩
    obtain ⟨rfl, rfl⟩ := hy
    exact ⟨Fw.refl, w, .int _⟩
  stop := fun {μ S H} _ _ _ => by
    show n ≤ (rangeD lo n).length
    unfold rangeD
    rw [List.length_map, List.length_range]
    exact Nat.le_refl _
def dRng1 (fa : FA) : FI := fun ρ S Q Ed => fa ρ S (fun ds S1 => match ds with
  | [.int j] => (-(2 ^ 62) ≤ j ∧ j < 2 ^ 62) ∧ Q (rangeD 0 j.toNat, []) S1
  | _ => False) Ed
def dRng2 (fa : FA) : FI := fun ρ S Q Ed => fa ρ S (fun ds S1 => match ds with
  | [.int i, .int j] => (-(2 ^ 62) ≤ i ∧ i < 2 ^ 62 ∧ -(2 ^ 62) ≤ j ∧ j < 2 ^ 62) ∧ Q (rangeD i (j - i).toNat, []) S1
  | _ => False) Ed
theorem d_rng1 {a : Expr} {p pos : Pos} (hg : Gl X "range") (hm : X.mg "range" = none) (ha : PAd X E [a] fa) (hs : starEach [a] X.env = [(false, eval a X.env)] := by rfl) : PId X E tg (.Call (.Name "range" p) [a] [] pos) (dRng1 fa) := by
  refine PI.imp (pi_range1 hg hm ha hs) fun σ H R ⟨μ, S, ρ, Qi, Ed, w, en, hf, q, px⟩ => ?_
  refine tR_of w en hf px fun ds S1 vs H1 μ1 h1 f1 w1 en1 px1 r1 => ?_
  split at h1
  · obtain ⟨v, rfl, rv⟩ := r1.one
    cases rv.int_inv
    exact ⟨_, rfl, h1.1.1, h1.1.2, q _ S1 H1 μ1 _ _ h1.2 f1 w1 itr_ok trivial (fun _ z => nomatch z)⟩
  · exact h1.elim
theorem d_rng2 {a b : Expr} {p pos : Pos} (hg : Gl X "range") (hm : X.mg "range" = none) (ha : PAd X E [a, b] fa) (hs : starEach [a, b] X.env = [(false, eval a X.env), (false, eval b X.env)] := by rfl) (hs2 : starEach [b] X.env = [(false, eval b X.env)] := by rfl) : PId X E tg (.Call (.Name "range" p) [a, b] [] pos) (dRng2 fa) := by
  refine PI.imp (pi_range2 hg hm ha hs hs2) fun σ H R ⟨μ, S, ρ, Qi, Ed, w, en, hf, q, px⟩ => ?_
  refine tR_of w en hf px fun ds S1 vs H1 μ1 h1 f1 w1 en1 px1 r1 => ?_
  split at h1
  · obtain ⟨v, u, rfl, rv, ru⟩ := r1.two
    cases rv.int_inv
    cases ru.int_inv
    exact ⟨_, _, rfl, h1.1, q _ S1 H1 μ1 _ _ h1.2 f1 w1 itr_ok trivial (fun _ z => nomatch z)⟩
  · exact h1.elim
/-! ### enumerate -/
def enumD (xs : List D) : List D := xs.mapIdx fun i x => D.tup [.int (i : Int), x]
theorem enumD_get {xs : List D} {i : Nat} {d : D} (h : (enumD xs)[i]? = some d) : ∃ x, xs[i]? = some x ∧ d = .tup [.int (i : Int), x] := by
  unfold enumD at h
  rw [List.getElem?_mapIdx] at h
  obtain ⟨x, e1, rfl⟩ := Option.map_eq_some_iff.mp h
  exact ⟨x, e1, rfl⟩
theorem Wd.pair {c : Ct} {μ : Mu} {S : Sto} {H : Hp} (w : Wd c μ S H) {x y : V} {d e : D} (rx : Rp c μ H x d) (ry : Rp c μ H y e) {T : Addr} (hT : H T = none) : Fw μ H μ (upd H T (.tup [x, y])) ∧ Wd c μ S (upd H T (.tup [x, y])) ∧ Rp c μ (upd H T (.tup [x, y])) (.ref T) (.tup [d, e]) :=
  ⟨Fw.new hT, w.new hT, .tup upd_same (.cons (rx.fw w (Fw.new hT)) (.cons (ry.fw w (Fw.new hT)) .nil))⟩
theorem ite_ok {c : Ct} {S0 : Sto} {a : Addr} {d : D} {xs : List D} (hn : ∀ ys, d ≠ .tup ys) (e : seqOf S0 d = some xs) : ItOk c (Ite c.K a) (enumD xs) (srcOf S0 d) (fun μ H => Rp c μ H (.ref a) d) where
  keep := fun r k => r.kp k
  go := fun {μ S H} r w hs i x hx => by
    rcases r.seq2 w (srcOf_seq e hs) with ⟨_, _, rfl, _⟩ | ⟨b, vs, eb, hq, rs⟩
    · exact absurd rfl (hn _)
    cases eb
    obtain ⟨z, ez, rfl⟩ := enumD_get hx
    obtain ⟨v, ev, rv⟩ := rs.at ez
    refine ⟨⟨vs, v, hq, ev⟩, fun y H' hy => ?_⟩
    obtain ⟨T, u, rfl, hT, rfl, hy⟩ := hy
    have := hy vs hq
    rw [ev] at this
    cases this
    exact w.pair (.int _) rv hT
  stop := fun {μ S H} r w hs => by
    rcases r.seq2 w (srcOf_seq e hs) with ⟨_, _, rfl, _⟩ | ⟨b, vs, eb, hq, rs⟩
    · exact absurd rfl (hn _)
    cases eb
    refine ⟨vs, hq, ?_⟩
    unfold enumD
    rw [List.length_mapIdx, rs.length]
    exact Nat.le_refl _
theorem itE_ok {c : Ct} {a : Addr} {xs : List D} : ItOk c (Rb.ItE c.K a) (enumD xs) [] (fun μ H => Rp c μ H (.ref a) (.tup xs)) where
  keep := fun r k => r.kp k
  go := fun {μ S H} r w hs i x hx => by
    obtain ⟨b, vs, eb, ha, rs⟩ := r.tup_inv
    cases eb
    obtain ⟨z, ez, rfl⟩ := enumD_get hx
    obtain ⟨v, ev, rv⟩ := rs.at ez
    refine ⟨⟨vs, v, SqT.of ha, ev⟩, fun y H' hy => ?_⟩
    obtain ⟨T, u, rfl, hT, rfl, hy⟩ := hy
    have := hy vs (SqT.of ha)
    rw [ev] at this
    cases this
    exact w.pair (.int _) rv hT
  stop := fun {μ S H} r w hs => by
    obtain ⟨b, vs, eb, ha, rs⟩ := r.tup_inv
    cases eb
    refine ⟨vs, SqT.of ha, ?_⟩
    unfold enumD
    rw [List.length_mapIdx, rs.length]
def dEnT (fa : FA) : FI := fun ρ S Q Ed => fa ρ S (fun ds S1 => match ds with
  | [.tup xs] => Q (enumD xs, []) S1
  | _ => False) Ed
def dEnL (fa : FA) : FI := fun ρ S Q Ed => fa ρ S (fun ds S1 => match ds with
  | [d] => onSome (lstOf S1 d) fun xs => Q (enumD xs, srcOf S1 d) S1
  | _ => False) Ed
theorem lst_seq {S : Sto} {d : D} {xs : List D} (e : lstOf S d = some xs) : seqOf S d = some xs ∧ ∀ ys, d ≠ .tup ys := by
  cases d with
  | lst k ys => exact ⟨e, fun _ z => nomatch z⟩
  | cell n => exact ⟨e, fun _ z => nomatch z⟩
  | _ => cases e
theorem d_enT {elts : List Expr} {kk : Nat} {p pos tp : Pos} (hg : Gl X "enumerate") (hm : X.mg "enumerate" = none) (ha : PAd X E [e] fa) (hs : starEach [e] X.env = [(false, eval e X.env)] := by rfl) : PId X E (.Tuple elts kk tp) (.Call (.Name "enumerate" p) [e] [] pos) (dEnT fa) := by
  refine PI.imp (Rb.pi_enumT hg hm ha hs) fun σ H R ⟨μ, S, ρ, Qi, Ed, w, en, hf, q, px⟩ => ?_
  refine tR_of w en hf px fun ds S1 vs H1 μ1 h1 f1 w1 en1 px1 r1 => ?_
  split at h1
  · obtain ⟨v, rfl, rv⟩ := r1.one
    obtain ⟨a, ws, rfl, ha', rs⟩ := id rv.tup_inv
    exact ⟨a, ws, rfl, SqT.of ha', q _ S1 H1 μ1 _ _ h1 f1 w1 itE_ok rv (fun _ z => nomatch z)⟩
  · exact h1.elim
theorem d_enL {elts : List Expr} {kk : Nat} {p pos tp : Pos} (hg : Gl X "enumerate") (hm : X.mg "enumerate" = none) (ha : PAd X E [e] fa) (hs : starEach [e] X.env = [(false, eval e X.env)] := by rfl) : PId X E (.Tuple elts kk tp) (.Call (.Name "enumerate" p) [e] [] pos) (dEnL fa) := by
  refine PI.imp (pi_enum hg hm ha hs) fun σ H R ⟨μ, S, ρ, Qi, Ed, w, en, hf, q, px⟩ => ?_
  refine tR_of w en hf px fun ds S1 vs H1 μ1 h1 f1 w1 en1 px1 r1 => ?_
  split at h1
  · obtain ⟨v, rfl, rv⟩ := r1.one
    obtain ⟨xs, e1, hq⟩ := onSome_of h1
    obtain ⟨a, ws, rfl, hs, rs⟩ := rv.lstT w1 e1
    obtain ⟨e2, hn⟩ := lst_seq e1
    exact ⟨a, ws, rfl, SqL.of hs, q _ S1 H1 μ1 _ _ hq f1 w1 (ite_ok hn e2) rv (srcOf_ok e2)⟩
  · exact h1.elim
/-! ### zip -/
def zipD : List D → List D → List D
  | x :: xs, y :: ys => D.tup [x, y] :: zipD xs ys
  | _, _ => []
theorem zipD_get : ∀ {xs ys : List D} {i : Nat} {d : D}, (zipD xs ys)[i]? = some d → ∃ x y, xs[i]? = some x ∧ ys[i]? = some y ∧ d = .tup [x, y]
  | x :: xs, y :: ys, 0, d, h => by cases h; exact ⟨x, y, rfl, rfl, rfl⟩
  | x :: xs, y :: ys, i + 1, d, h => zipD_get (xs := xs) (ys := ys) (i := i) h
  | [], _, _, _, h => by cases h
  | _ :: _, [], _, _, h => by cases h
theorem zipD_len : ∀ {xs ys : List D}, xs.length ≤ (zipD xs ys).length ∨ ys.length ≤ (zipD xs ys).length
  | x :: xs, y :: ys => by
    rcases zipD_len (xs := xs) (ys := ys) with h | h
    · exact .inl (Nat.succ_le_succ h)
    · exact .inr (Nat.succ_le_succ h)
  | [], _ => .inl (Nat.zero_le _)
  | _ :: _, [] => .inr (Nat.zero_le _)
theorem itzT_ok {c : Ct} {a b : Addr} {xs ys : List D} : ItOk c (RZ.ItzT c.K a b) (zipD xs ys) [] (fun μ H => Rp c μ H (.ref a) (.tup xs) ∧ Rp c μ H (.ref b) (.tup ys)) where
  keep := fun r k => ⟨r.1.kp k, r.2.kp k⟩
  go := fun {μ S H} r w hs i x hx => by
    obtain ⟨a', vs, ea, ha, ra⟩ := r.1.tup_inv
    obtain ⟨b', us, eb, hb, rb⟩ := r.2.tup_inv
    cases ea
    cases eb
    obtain ⟨p, q, ep, eq, rfl⟩ := zipD_get hx
    obtain ⟨v, ev, rv⟩ := ra.at ep
    obtain ⟨u, eu, ru⟩ := rb.at eq
    refine ⟨⟨vs, us, v, u, SqT.of ha, SqT.of hb, ev, eu⟩, fun y H' hy => ?_⟩
    obtain ⟨T, v2, u2, rfl, hT, rfl, h1, h2⟩ := hy
    have := h1 vs (SqT.of ha)
    rw [ev] at this
    cases this
    have := h2 us (SqT.of hb)
    rw [eu] at this
    cases this
    exact w.pair rv ru hT
  stop := fun {μ S H} r w hs => by
    obtain ⟨a', vs, ea, ha, ra⟩ := r.1.tup_inv
    obtain ⟨b', us, eb, hb, rb⟩ := r.2.tup_inv
    cases ea
    cases eb
    exact ⟨vs, us, SqT.of ha, SqT.of hb, by rw [ra.length, rb.length]; exact zipD_len⟩
theorem itz_ok {c : Ct} {S0 : Sto} {a b : Addr} {d e : D} {xs ys : List D} (nd : ∀ zs, d ≠ .tup zs) (ne : ∀ zs, e ≠ .tup zs) (ed : seqOf S0 d = some xs) (ee : seqOf S0 e = some ys) :
    ItOk c (Itz c.K a b) (zipD xs ys) (srcOf S0 d ++ srcOf S0 e) (fun μ H => Rp c μ H (.ref a) d ∧ Rp c μ H (.ref b) e) where
  keep := fun r k => ⟨r.1.kp k, r.2.kp k⟩
  go := fun {μ S H} r w hs i x hx => by
    rcases r.1.seq2 w (srcOf_seq ed fun p hp => hs p (List.mem_append_left _ hp)) with ⟨_, _, rfl, _⟩ | ⟨a', vs, ea, ha, ra⟩
    · exact absurd rfl (nd _)
    rcases r.2.seq2 w (srcOf_seq ee fun p hp => hs p (List.mem_append_right _ hp)) with ⟨_, _, rfl, _⟩ | ⟨b', us, eb, hb, rb⟩
    · exact absurd rfl (ne _)
    cases ea
    cases eb
    obtain ⟨p, q, ep, eq, rfl⟩ := zipD_get hx
    obtain ⟨v, ev, rv⟩ := ra.at ep
    obtain ⟨u, eu, ru⟩ := rb.at eq
    refine ⟨⟨vs, us, v, u, ha, hb, ev, eu⟩, fun y H' hy => ?_⟩
    obtain ⟨T, v2, u2, rfl, hT, rfl, h1, h2⟩ := hy
    have := h1 vs ha
    rw [ev] at this
    cases this
    have := h2 us hb
    rw [eu] at this
    cases this
    exact w.pair rv ru hT
  stop := fun {μ S H} r w hs => by
    rcases r.1.seq2 w (srcOf_seq ed fun p hp => hs p (List.mem_append_left _ hp)) with ⟨_, _, rfl, _⟩ | ⟨a', vs, ea, ha, ra⟩
    · exact absurd rfl (nd _)
    rcases r.2.seq2 w (srcOf_seq ee fun p hp => hs p (List.mem_append_right _ hp)) with ⟨_, _, rfl, _⟩ | ⟨b', us, eb, hb, rb⟩
    · exact absurd rfl (ne _)
    cases ea
    cases eb
    exact ⟨vs, us, ha, hb, by rw [ra.length, rb.length]; exact zipD_len⟩
def dZip (fa : FA) : FI := fun ρ S Q Ed => fa ρ S (fun ds S1 => match ds with
  | [.tup xs, .tup ys] => Q (zipD xs ys, []) S1
  | [d, e] => onSome (lstOf S1 d) fun xs => onSome (lstOf S1 e) fun ys => Q (zipD xs ys, srcOf S1 d ++ srcOf S1 e) S1
  | _ => False) Ed
theorem d_zip {e2 : Expr} {elts : List Expr} {kk : Nat} {p pos tp : Pos} (hg : Gl X "zip") (hm : X.mg "zip" = none) (ha : PAd X E [e, e2] fa)
    (hs : starEach [e, e2] X.env = (false, eval e X.env) :: starEach [e2] X.env := by rfl) (hpl : (backTo pos (starEach [e2] X.env)).any (·.1) = false := by rfl) : PId X E (.Tuple elts kk tp) (.Call (.Name "zip" p) [e, e2] [] pos) (dZip fa) := by
  refine PI.imp (RZ.pi_zipA hg hm ha hs hpl) fun σ H R ⟨μ, S, ρ, Qi, Ed, w, en, hf, q, px⟩ => ?_
  refine tR_of w en hf px fun ds S1 vs H1 μ1 h1 f1 w1 en1 px1 r1 => ?_
  split at h1
  · obtain ⟨v, u, rfl, rv, ru⟩ := r1.two
    obtain ⟨a, ws, rfl, ha', rs⟩ := id rv.tup_inv
    obtain ⟨b, us, rfl, hb', rt⟩ := id ru.tup_inv
    exact ⟨a, b, ws, us, rfl, .inr ⟨SqT.of ha', SqT.of hb', q _ S1 H1 μ1 _ _ h1 f1 w1 itzT_ok ⟨rv, ru⟩ (fun _ z => nomatch z)⟩⟩
  · obtain ⟨v, u, rfl, rv, ru⟩ := r1.two
    obtain ⟨xs, e1, h1⟩ := onSome_of h1
    obtain ⟨ys, e2, hq⟩ := onSome_of h1
    obtain ⟨a, ws, rfl, hs1, rs⟩ := rv.lstT w1 e1
    obtain ⟨b, us, rfl, hs2, rt⟩ := ru.lstT w1 e2
    obtain ⟨e3, n3⟩ := lst_seq e1
    obtain ⟨e4, n4⟩ := lst_seq e2
    refine ⟨a, b, ws, us, rfl, .inl ⟨SqL.of hs1, SqL.of hs2, q _ S1 H1 μ1 _ _ hq f1 w1 (itz_ok n3 n4 e3 e4) ⟨rv, ru⟩ fun p hp => ?_⟩⟩
    rcases List.mem_append.mp hp with hp | hp
    · exact srcOf_ok e3 p hp
    · exact srcOf_ok e4 p hp
  · exact h1.elim
end
/-! ## for -/
def dLoop (g : FG) (fb : FS) (src : Src) : List D → FS
  | [], ρ, S, De, _ => De.nx ρ S
  | x :: xs, ρ, S, De, Ed => g x ρ S (fun ρ1 S1 => fb ρ1 S1 { nx := fun ρ2 S2 => srcOk src S2 (dLoop g fb src xs ρ2 S2 De Ed), ct := fun ρ2 S2 => srcOk src S2 (dLoop g fb src xs ρ2 S2 De Ed), bk := De.nx, rt := De.rt } Ed) Ed
def dFor (fi : FI) (g : FG) (fb : FS) : FS := fun ρ S De Ed => fi ρ S (fun is S1 => dLoop g fb is.2 is.1 ρ S1 De Ed) Ed
section
variable {X : Cx} {E : XK} {tg iter : Expr} {body : List Stmt} {fi : FI} {g : FG} {fb : FS} {pos : Pos}
theorem drop_cons {α : Type} {xs : List α} {i : Nat} {x : α} (h : xs[i]? = some x) : xs.drop i = x :: xs.drop (i + 1) := by
  obtain ⟨h1, h2⟩ := List.getElem?_eq_some_iff.mp h
  rw [List.drop_eq_getElem_cons h1, h2]
theorem d_for (hp : PassesOwn (model X.prog X.w) X.A X.env X.xe) (hc : X.calm = true) (hi : PId X (cE E) tg iter fi) (hg : PGd X E tg g) (hb : PBd X E body fb) (hs : ∀ x, foldedSetIterable iter X.env x = pure x := by intro _; rfl) : PSd X E (.For tg iter body [] pos) (dFor fi g fb) := by
  refine PS.imp (ps_for hp hc hi hg hb hs) fun D σ H ⟨μ, S, ρ, De, Ed, w, en, hf, k, px⟩ => ?_
  refine ⟨μ, S, ρ, _, Ed, w, en, hf, fun is S1 H1 μ1 J Anc h1 f1 w1 ok anc hsrc => ?_, px⟩
  obtain ⟨items, src⟩ := is
  refine ⟨fun i m σ' H' => m = items.length - i ∧ i ≤ items.length ∧ ∃ μ' S' ρ', Fw μ1 H1 μ' H' ∧ Wd (ct X) μ' S' H' ∧ EnvR (ct X) μ' H' σ' ρ' ∧ Anc μ' H' ∧ (∀ p ∈ src, S'[p.1]? = some (.lst p.2)) ∧ dLoop g fb src (items.drop i) ρ' S' De Ed,
    ⟨_, rfl, Nat.zero_le _, μ1, S1, ρ, Fw.refl, w1, en.fw w f1, anc, hsrc, h1⟩, ?_⟩
  rintro i m σ' H' ⟨rfl, hi, μ', S', ρ', f', w', en', anc', hs', h'⟩
  by_cases hlt : i < items.length
  · have hx := List.getElem?_eq_getElem hlt
    obtain ⟨go, yl⟩ := ok.go anc' w' hs' i _ hx
    rw [drop_cons hx] at h'
    refine .inr ⟨go, fun σ2 H2 => i + 1 ≤ items.length ∧ ∃ μ2 S2 ρ2, Fw μ1 H1 μ2 H2 ∧ Wd (ct X) μ2 S2 H2 ∧ EnvR (ct X) μ2 H2 σ2 ρ2 ∧ Anc μ2 H2 ∧ (∀ p ∈ src, S2[p.1]? = some (.lst p.2)) ∧ dLoop g fb src (items.drop (i + 1)) ρ2 S2 De Ed,
      fun σ2 H2 hN => ⟨_, by omega, rfl, hN.1, hN.2⟩, fun x H2 hy => ?_⟩
    obtain ⟨fy, wy, ry⟩ := yl x H2 hy
    refine ⟨μ', S', ρ', _, _, Ed, wy, en'.fw w' fy, ry, h', fun ρ3 S3 σ3 H3 μ3 h3 f3 w3 en3 => ?_, (px.fw f1).fw (f'.trans fy)⟩
    have ff := f1.trans (f'.trans (fy.trans f3))
    refine ⟨μ3, S3, ρ3, _, Ed, w3, en3, h3, ⟨fun ρ4 S4 σ4 H4 μ4 h4 f4 w4 en4 => ?_, k.rt.fw ff, fun ρ4 S4 σ4 H4 μ4 h4 f4 w4 en4 => k.nx ρ4 S4 σ4 H4 μ4 h4 (ff.trans f4) w4 en4, fun ρ4 S4 σ4 H4 μ4 h4 f4 w4 en4 => ?_⟩, px.fw ff⟩
    · obtain ⟨q1, q2⟩ := srcOk_iff.mp h4
      exact ⟨hlt, μ4, S4, ρ4, f'.trans (fy.trans (f3.trans f4)), w4, en4, ok.keep (ok.keep (ok.keep anc' (w'.kp fy)) (wy.kp f3)) (w3.kp f4), q1, q2⟩
    · obtain ⟨q1, q2⟩ := srcOk_iff.mp h4
      exact ⟨hlt, μ4, S4, ρ4, f'.trans (fy.trans (f3.trans f4)), w4, en4, ok.keep (ok.keep (ok.keep anc' (w'.kp fy)) (wy.kp f3)) (w3.kp f4), q1, q2⟩
  · have e : i = items.length := by omega
    subst e
    rw [List.drop_length] at h'
    exact .inl ⟨ok.stop anc' w' hs', k.nx ρ' S' σ' H' μ' h' (f1.trans f') w' en'⟩
end
end Pu
namespace Pu
open PySem PySem.Spec PyProof.Rows L2
/-! ## comprehensions -/
def noE : ED := fun _ _ => False
def dYes : FT := fun _ S Q _ => Q true S
def dCompL (st : D → Rho → Option Rho) (t : FT) (f : FE) (src : Src) : List D → List D → Rho → Sto → (List D → Sto → Prop) → Prop
  | [], acc, _, S, k => k acc S
  | x :: xs, acc, ρ, S, k => onSome (st x ρ) fun ρ1 => t ρ1 S (fun b S1 => if b = true then f ρ1 S1 (fun y S2 => srcOk src S2 (dCompL st t f src xs (acc ++ [y]) ρ S2 k)) noE else srcOk src S1 (dCompL st t f src xs acc ρ S1 k)) noE
def dLc (st : D → Rho → Option Rho) (t : FT) (f : FE) (fi : FI) : FE := fun ρ S Q Ed => fi ρ S (fun is S1 => is.1.length ≤ sizeLine ∧ dCompL st t f is.2 is.1 [] ρ S1 fun acc S2 => Q (.lst false acc) S2) Ed
/-- a list that will be changed -/
def dLcC (st : D → Rho → Option Rho) (t : FT) (f : FE) (fi : FI) : FE := fun ρ S Q Ed => fi ρ S (fun is S1 => is.1.length ≤ sizeLine ∧ dCompL st t f is.2 is.1 [] ρ S1 fun acc S2 => Q (.cell S2.length) (S2 ++ [.lst acc])) Ed
def st1 (j : Nat) : D → Rho → Option Rho := fun x ρ => some (ρ.set j (some x))
def st2 (i j : Nat) : D → Rho → Option Rho := fun x ρ => match x with
  | .tup [a, b] => some ((ρ.set i (some a)).set j (some b))
  | _ => none
/-- what the target does -/
def LcT (c : Ct) (g : TG) (st : D → Rho → Option Rho) (vs : List Nat) : Prop :=
  ∀ {μ : Mu} {S : Sto} {H : Hp} {σ : L2.St} {ρ ρ1 : Rho} {x : V} {d : D} {k : L2.St → Hp → Prop}, Wd c μ S H → EnvR c μ H σ ρ → Rp c μ H x d → st d ρ = some ρ1 → (∀ σ2, EnvR c μ H σ2 ρ1 → wipe σ2 vs = wipe σ vs → k σ2 H) → g x (wipe σ vs) H k
theorem lct1 {c : Ct} {j : Nat} : LcT c (gName j) (st1 j) [j] := by
  intro μ S H σ ρ ρ1 x d k w en r e h
  cases e
  show k ((σ.set j none).set j (some x)) H
  rw [List.set_set]
  exact h _ (en.set r) (by show ((σ.set j (some x)).set j none) = σ.set j none; rw [List.set_set])
theorem lct2 {c : Ct} {i j : Nat} (ne : i ≠ j) : LcT c (gTup c.K 2 (gCons (gName i) (gCons (gName j) gNil))) (st2 i j) [i, j] := by
  intro μ S H σ ρ ρ1 x d k w en r e h
  unfold st2 at e
  split at e
  · cases e
    obtain ⟨a, vs, rfl, ha, ra⟩ := r.tup_inv
    obtain ⟨u, v, rfl, ru, rv⟩ := ra.two
    refine ⟨a, [u, v], rfl, SqT.of ha, rfl, u, [v], rfl, v, [], rfl, rfl, ?_⟩
    show k ((((σ.set j none).set i none).set i (some u)).set j (some v)) H
    rw [List.set_set, List.set_comm none (some u) (Ne.symm ne), List.set_set]
    refine h _ ((en.set ru).set rv) ?_
    show ((((σ.set i (some u)).set j (some v)).set j none).set i none) = ((σ.set j none).set i none)
    rw [List.set_set, List.set_comm none none (Ne.symm ne), List.set_set, List.set_comm none none ne]
  · cases e
section
variable {c : Ct} {m av : List Addr} {D1 : Addr} {H : Hp} {S : Sto} {vs : List V}
theorem kpD {ws : List V} (hD : H D1 = some (.lst vs)) : Kp c ⟨m, D1 :: av⟩ H ⟨m, D1 :: av⟩ (upd H D1 (.lst ws)) where
  t := fun a xs e => by rw [upd_ne (fun z => by rw [z, hD] at e; cases e)]; exact e
  l := fun a xs e n1 n2 => by
    have ne : a ≠ D1 := fun z => n2 (by rw [z]; exact List.mem_cons_self)
    rcases e with e | ⟨o, e⟩
    · exact ⟨.inl (by rw [upd_ne ne]; exact e), n1, n2⟩
    · exact ⟨.inr ⟨o, by rw [upd_ne ne]; exact e⟩, n1, n2⟩
  m := fun a xs e n1 n2 => ⟨by rw [upd_ne (fun z => n2 (by rw [z]; exact List.mem_cons_self))]; exact e, n1, n2⟩
  d := fun a ps e n n2 => ⟨by rw [upd_ne (fun z => by rw [z, hD] at e; cases e)]; exact e, n, n2⟩
  i := fun a C dx fs e n n2 => ⟨by rw [upd_ne (fun z => by rw [z, hD] at e; cases e)]; exact e, n, n2⟩
  cl := fun _ _ h => h
  x := fun a fv e => by rw [upd_ne (fun z => by rw [z, hD] at e; cases e)]; exact e
theorem wdD {ws : List V} (w : Wd c ⟨m, D1 :: av⟩ S H) (hD : H D1 = some (.lst vs)) : Wd c ⟨m, D1 :: av⟩ S (upd H D1 (.lst ws)) :=
  ⟨w.nd, w.len, w.ap, fun a h => upd_some (w.avs a h), fun i a x h1 h2 => ClOk.kp (kpD hD) (fun o e => by
    rw [upd_ne (fun z => w.ap a (List.mem_of_getElem? h1) (by rw [z]; exact List.mem_cons_self))]
    exact e) (w.ok i a x h1 h2)⟩
theorem kpStart {μ : Mu} (hD : H D1 = none) : Kp c μ H ⟨μ.m, D1 :: μ.av⟩ (upd H D1 (.lst [])) := by
  have av2 : ∀ {a : Addr} {o : HO}, H a = some o → a ∉ μ.av → a ∉ D1 :: μ.av := fun e n z => by
    rcases List.mem_cons.mp z with z | z
    · exact ne_of_none e hD z
    · exact n z
  refine ⟨fun a xs e => ?_, fun a xs e n1 n2 => ?_, fun a xs e n1 n2 => ⟨?_, n1, av2 e n2⟩, fun a ps e n n2 => ⟨?_, n, av2 e n2⟩, fun a C dx fs e n n2 => ⟨?_, n, av2 e n2⟩, (fun _ _ h => h), fun a fv e => ?_⟩
  · rw [upd_ne (ne_of_none e hD)]; exact e
  · rcases e with e | ⟨o, e⟩
    · exact ⟨.inl (by rw [upd_ne (ne_of_none e hD)]; exact e), n1, av2 e n2⟩
    · exact ⟨.inr ⟨o, by rw [upd_ne (ne_of_none e hD)]; exact e⟩, n1, av2 e n2⟩
  · rw [upd_ne (ne_of_none e hD)]; exact e
  · rw [upd_ne (ne_of_none e hD)]; exact e
  · rw [upd_ne (ne_of_none e hD)]; exact e
  · rw [upd_ne (ne_of_none e hD)]; exact e
theorem wdStart {μ : Mu} (w : Wd c μ S H) (hD : H D1 = none) : Wd c ⟨μ.m, D1 :: μ.av⟩ S (upd H D1 (.lst [])) :=
  ⟨w.nd, w.len, fun a h z => by
    rcases List.mem_cons.mp z with z | z
    · exact w.fresh hD (z ▸ h)
    · exact w.ap a h z, fun a h => by
    rcases List.mem_cons.mp h with h | h
    · rw [h, upd_same]; exact fun z => nomatch z
    · exact upd_some (w.avs a h), fun i a x h1 h2 => ClOk.kp (kpStart hD) (fun o e => by rw [upd_ne (ne_of_none e hD)]; exact e) (w.ok i a x h1 h2)⟩
theorem kpEnd : Kp c ⟨m, D1 :: av⟩ H ⟨m, av⟩ H :=
  ⟨fun _ _ e => e, fun _ _ e n1 n2 => ⟨e, n1, fun z => n2 (List.mem_cons_of_mem _ z)⟩, fun _ _ e n1 n2 => ⟨e, n1, fun z => n2 (List.mem_cons_of_mem _ z)⟩, fun _ _ e n1 n2 => ⟨e, n1, fun z => n2 (List.mem_cons_of_mem _ z)⟩, fun _ _ _ _ e n1 n2 => ⟨e, n1, fun z => n2 (List.mem_cons_of_mem _ z)⟩, (fun _ _ h => h), fun _ _ e => e⟩
theorem kpEndC (hD : H D1 = some (.lst vs)) : Kp c ⟨m, D1 :: av⟩ H ⟨m ++ [D1], av⟩ H := by
  have nm : ∀ {a : Addr}, a ∉ m → a ≠ D1 → a ∉ m ++ [D1] := fun n1 n2 z => by
    rcases List.mem_append.mp z with z | z
    · exact n1 z
    · exact n2 (List.mem_singleton.mp z)
  have ne : ∀ {a : Addr}, a ∉ D1 :: av → a ≠ D1 := fun n z => n (by rw [z]; exact List.mem_cons_self)
  refine ⟨fun _ _ e => e, fun _ _ e n1 n2 => ⟨e, nm n1 (ne n2), fun z => n2 (List.mem_cons_of_mem _ z)⟩, fun _ _ e n1 n2 => ⟨e, nm n1 (ne n2), fun z => n2 (List.mem_cons_of_mem _ z)⟩, fun a _ e n1 n2 => ⟨e, nm n1 (ne n2), fun z => n2 (List.mem_cons_of_mem _ z)⟩,
    fun a _ _ _ e n1 n2 => ⟨e, nm n1 (ne n2), fun z => n2 (List.mem_cons_of_mem _ z)⟩, fun n a h => ?_, fun _ _ e => e⟩
  show (m ++ [D1])[n]? = some a
  rw [List.getElem?_append_left (List.getElem?_eq_some_iff.mp (show m[n]? = some a from h)).1]
  exact h
end
/-- the state of a comprehension: D1 the list that is made -/
def LcI (c : Ct) (μ1 : Mu) (H1 : Hp) (D1 : Addr) (σ : L2.St) (ρ : Rho) (Anc : Mu → Hp → Prop) (src : Src) (i : Nat) (go : List D → Sto → Prop) (H : Hp) : Prop :=
  ∃ m' S' acc vs, acc.length ≤ i ∧ Wd c ⟨m', D1 :: μ1.av⟩ S' H ∧ (∃ t, m' = μ1.m ++ t) ∧ (∀ a o, H1 a = some o → a ∉ μ1.m → H a = some o ∧ a ∉ m') ∧ H D1 = some (.lst vs) ∧ RpAll c ⟨m', D1 :: μ1.av⟩ H vs acc ∧
    EnvR c ⟨m', D1 :: μ1.av⟩ H σ ρ ∧ Anc ⟨m', D1 :: μ1.av⟩ H ∧ (∀ p ∈ src, S'[p.1]? = some (.lst p.2)) ∧ go acc S'
theorem pxNo {c : Ct} {μ : Mu} {H : Hp} {E : XK} : PX c μ H noE E := fun _ _ _ _ _ _ h => h.elim
theorem lc_W {c : Ct} {g : TG} {st : D → Rho → Option Rho} {t : FT} {f : FE} {vs : List Nat} {μ1 : Mu} {S1 : Sto} {H1 : Hp} {σ : L2.St} {ρ : Rho} {J : It} {items : List D} {src : Src} {Anc : Mu → Hp → Prop} {k : List D → Sto → Prop} {D1 : Addr} {Qd : Hp → Prop} {E : L2.St → XK}
    (hT : LcT c g st vs) (w1 : Wd c μ1 S1 H1) (en1 : EnvR c μ1 H1 σ ρ) (ok : ItOk c J items src Anc) (anc : Anc μ1 H1) (hsrc : ∀ p ∈ src, S1[p.1]? = some (.lst p.2)) (hz : items.length ≤ sizeLine)
    (h : dCompL st t f src items [] ρ S1 k) (nD : H1 D1 = none) (fin : ∀ H, LcI c μ1 H1 D1 σ ρ Anc src items.length k H → Qd H) :
    ∃ W : Nat → Nat → Hp → Prop, (∃ m, W 0 m (upd H1 D1 (.lst []))) ∧ ∀ i m H, W i m H →
      (J.stop i H ∧ Qd H) ∨ (J.go i H ∧ ∃ Nx : Hp → Prop, (∀ H', Nx H' → ∃ m', m' < m ∧ W (i + 1) m' H') ∧ ∀ x H', J.yld i H x H' → g x (wipe σ vs) H' fun σ2 H2 => wipe σ2 vs = wipe σ vs ∧ tT c E t σ2 H2 fun b H3 =>
        if b = true then tD c E f σ2 H3 fun y H4 => ∃ acc, H4 D1 = some (.lst acc) ∧ acc.length < sizeLine ∧ Nx (upd H4 D1 (.lst (acc ++ [y]))) else Nx H3) := by
  refine ⟨fun i m H => m = items.length - i ∧ i ≤ items.length ∧ LcI c μ1 H1 D1 σ ρ Anc src i (fun acc S => dCompL st t f src (items.drop i) acc ρ S k) H, ⟨_, rfl, Nat.zero_le _, ?_⟩, ?_⟩
  · refine ⟨μ1.m, S1, [], [], Nat.le_refl _, wdStart w1 nD, ⟨[], by simp⟩, fun a o e n => ⟨?_, n⟩, upd_same, .nil, en1.kp (kpStart nD), ok.keep anc (kpStart nD), hsrc, h⟩
    rw [upd_ne (ne_of_none e nD)]
    exact e
  · rintro i m H ⟨rfl, hi, m', S', acc, ws, hl, w, ⟨tt, em⟩, keep, hD, ra, en, anc', hs', h'⟩
    by_cases hlt : i < items.length
    · have hx := List.getElem?_eq_getElem hlt
      obtain ⟨go, yl⟩ := ok.go anc' w hs' i _ hx
      rw [drop_cons hx] at h'
      refine .inr ⟨go, fun H' => i + 1 ≤ items.length ∧ LcI c μ1 H1 D1 σ ρ Anc src (i + 1) (fun acc S => dCompL st t f src (items.drop (i + 1)) acc ρ S k) H', fun H' hN => ⟨_, by omega, rfl, hN.1, hN.2⟩, fun x H2 hy => ?_⟩
      obtain ⟨fy, wy, ry⟩ := yl x H2 hy
      obtain ⟨ρ1, e1, h1⟩ := onSome_of h'
      refine hT wy (en.fw w fy) ry e1 fun σ2 en2 hw => ⟨hw, ?_⟩
      refine tR_of wy en2 h1 pxNo fun b S3 b' H3 μ3 h3 f3 w3 en3 px3 r3 => ?_
      cases (r3 : b' = b)
      have nDm : ∀ {μ : Mu} {S : Sto} {HH : Hp}, Wd c μ S HH → μ.av = D1 :: μ1.av → D1 ∉ μ.m := fun wx ex z => wx.ap D1 z (by rw [ex]; exact List.mem_cons_self)
      have all3 : ∀ {μ4 : Mu} {H4 : Hp} {S4 : Sto}, Wd c μ4 S4 H4 → Fw ⟨m', D1 :: μ1.av⟩ H μ4 H4 → μ4 = ⟨μ4.m, D1 :: μ1.av⟩ ∧ (∃ t, μ4.m = μ1.m ++ t) ∧ (∀ a o, H1 a = some o → a ∉ μ1.m → H4 a = some o ∧ a ∉ μ4.m) ∧ H4 D1 = some (.lst ws) ∧ RpAll c μ4 H4 ws acc ∧ EnvR c μ4 H4 σ ρ ∧ Anc μ4 H4 := fun {μ4 H4 S4} w4 ff => by
        have eav : μ4.av = D1 :: μ1.av := ff.av
        refine ⟨by rw [← eav], ?_, fun a o e n => ?_, (ff.keep D1 _ hD (nDm w rfl)).1, ra.fw w ff, en.fw w ff, ok.keep anc' (w.kp ff)⟩
        · obtain ⟨t2, e2⟩ := ff.pre
          exact ⟨tt ++ t2, by rw [e2]; show m' ++ t2 = _; rw [em, List.append_assoc]⟩
        · obtain ⟨q1, q2⟩ := keep a o e n
          exact ff.keep a o q1 q2
      split
      · rename_i hb
        rw [if_pos hb] at h3
        refine tR_of w3 en3 h3 pxNo fun y S4 vy H4 μ4 h4 f4 w4 en4 px4 r4 => ?_
        obtain ⟨e4, t4, k4, D4, ra4, en4', anc4⟩ := all3 w4 (fy.trans (f3.trans f4))
        rw [e4] at w4 ra4 en4' anc4 r4
        obtain ⟨q1, q2⟩ := srcOk_iff.mp h4
        refine ⟨ws, D4, by rw [ra4.length]; omega, hlt, ?_⟩
        refine ⟨μ4.m, S4, acc ++ [y], ws ++ [vy], by rw [List.length_append]; show acc.length + 1 ≤ i + 1; omega, wdD w4 D4, t4, fun a o e n => ?_, upd_same, (ra4.append (.cons r4 .nil)).kp (kpD D4), en4'.kp (kpD D4), ok.keep anc4 (kpD D4), q1, q2⟩
        obtain ⟨z1, z2⟩ := k4 a o e n
        refine ⟨?_, z2⟩
        rw [upd_ne (ne_of_none e nD)]
        exact z1
      · rename_i hb
        rw [if_neg hb] at h3
        obtain ⟨e4, t4, k4, D4, ra4, en4', anc4⟩ := all3 w3 (fy.trans f3)
        rw [e4] at w3 ra4 en4' anc4
        obtain ⟨q1, q2⟩ := srcOk_iff.mp h3
        exact ⟨hlt, μ3.m, S3, acc, ws, by omega, w3, t4, k4, D4, ra4, en4', anc4, q1, q2⟩
    · have e : i = items.length := by omega
      subst e
      rw [List.drop_length] at h'
      exact .inl ⟨ok.stop anc' w hs', fin H ⟨m', S', acc, ws, hl, w, ⟨tt, em⟩, keep, hD, ra, en, anc', hs', h'⟩⟩
section
variable {X : Cx} {E : L2.St → XK} {elt tg iter : Expr} {ifs : List Expr} {scope : Scope} {own : List (Str × Nat)} {pos : Pos} {fi : FI} {g : TG} {st : D → Rho → Option Rho} {t : FT} {f : FE}
theorem d_tnil : PTs X [] (tT (ct X) E dYes) := ⟨fun pins s σ H Q I ⟨μ, S, ρ, Qd, Ed, w, en, hf, q, px⟩ => pts_nil.run pins s σ H Q I (q true S true H μ hf Fw.refl w rfl)⟩
theorem d_tone {c : Expr} (h : PTd X E c t) : PTs X [c] (tT (ct X) E t) := pts_one h
theorem lc_end {c : Ct} {μ μ1 : Mu} {S S1 : Sto} {H H1 : Hp} {σ : L2.St} {ρ : Rho} {Anc : Mu → Hp → Prop} {src : Src} {n : Nat} {Qd : QD} {Q : VK} {D1 : Addr} (q : ∀ d S' v H' μ', Qd d S' → Fw μ H μ' H' → Wd c μ' S' H' → Rp c μ' H' v d → Q v H') (f1 : Fw μ H μ1 H1) (w1 : Wd c μ1 S1 H1) (nD : H1 D1 = none)
    {H' : Hp} (h : LcI c μ1 H1 D1 σ ρ Anc src n (fun acc S2 => Qd (.lst false acc) S2) H') : Q (.ref D1) H' := by
  obtain ⟨m', S', acc, ws, hl, w, ⟨tt, em⟩, keep, hD, ra, en, anc', hs', h'⟩ := h
  have f2 : Fw μ1 H1 ⟨m', μ1.av⟩ H' := ⟨⟨tt, em⟩, rfl, keep⟩
  have nm : D1 ∉ m' := fun z => w.ap D1 z List.mem_cons_self
  refine q _ S' _ H' ⟨m', μ1.av⟩ h' (f1.trans f2) ⟨w.nd, w.len, fun a h z => w.ap a h (List.mem_cons_of_mem _ z), fun a h => w.avs a (List.mem_cons_of_mem _ h), fun i a x h1 h2 => ClOk.kp kpEnd (fun _ e => e) (w.ok i a x h1 h2)⟩ ?_
  exact .lst hD nm (fun z => w1.avs D1 z nD) (fun z => nomatch z) (ra.kp kpEnd)
theorem lc_endC {c : Ct} {μ μ1 : Mu} {S S1 : Sto} {H H1 : Hp} {σ : L2.St} {ρ : Rho} {Anc : Mu → Hp → Prop} {src : Src} {n : Nat} {Qd : QD} {Q : VK} {D1 : Addr} (q : ∀ d S' v H' μ', Qd d S' → Fw μ H μ' H' → Wd c μ' S' H' → Rp c μ' H' v d → Q v H') (f1 : Fw μ H μ1 H1) (w1 : Wd c μ1 S1 H1) (nD : H1 D1 = none)
    {H' : Hp} (h : LcI c μ1 H1 D1 σ ρ Anc src n (fun acc S2 => Qd (.cell S2.length) (S2 ++ [.lst acc])) H') : Q (.ref D1) H' := by
  obtain ⟨m', S', acc, ws, hl, w, ⟨tt, em⟩, keep, hD, ra, en, anc', hs', h'⟩ := h
  have nm : D1 ∉ m' := fun z => w.ap D1 z List.mem_cons_self
  have f2 : Fw μ1 H1 ⟨m' ++ [D1], μ1.av⟩ H' := ⟨⟨tt ++ [D1], by show m' ++ [D1] = _; rw [em, List.append_assoc]⟩, rfl, fun a o e n => ⟨(keep a o e n).1, fun z => by
    rcases List.mem_append.mp z with z | z
    · exact (keep a o e n).2 z
    · exact ne_of_none e nD (List.mem_singleton.mp z)⟩⟩
  have hlen : m'.length = S'.length := w.len
  refine q _ _ _ H' ⟨m' ++ [D1], μ1.av⟩ h' (f1.trans f2) ⟨?_, ?_, fun a h z => ?_, fun a h => w.avs a (List.mem_cons_of_mem _ h), fun i a x h1 h2 => ?_⟩ (.cell ?_)
  · show (m' ++ [D1]).Nodup
    rw [List.nodup_append]
    exact ⟨w.nd, by simp, fun a ha b hb e => nm (by rw [List.mem_singleton.mp hb] at e; exact e ▸ ha)⟩
  · show (m' ++ [D1]).length = (S' ++ [Cl.lst acc]).length
    rw [List.length_append, List.length_append, hlen]
    rfl
  · rcases List.mem_append.mp h with h | h
    · exact w.ap a h (List.mem_cons_of_mem _ z)
    · rw [List.mem_singleton.mp h] at z
      exact w1.avs D1 z nD
  · by_cases hi : i < m'.length
    · have h1' : m'[i]? = some a := by rw [← List.getElem?_append_left hi]; exact h1
      rw [List.getElem?_append_left (by omega)] at h2
      exact ClOk.kp (kpEndC hD) (fun _ e => e) (w.ok i a x h1' h2)
    · have h1' : (m' ++ [D1])[i]? = some a := h1
      have hi2 : i = m'.length := by
        have := (List.getElem?_eq_some_iff.mp h1').1
        simp at this
        omega
      subst hi2
      rw [List.getElem?_append_right (Nat.le_refl _), Nat.sub_self] at h1'
      cases h1'
      rw [List.getElem?_append_right (by omega), hlen, Nat.sub_self] at h2
      cases h2
      exact ⟨ws, hD, ra.kp (kpEndC hD)⟩
  · show (m' ++ [D1])[S'.length]? = some D1
    rw [← hlen, List.getElem?_append_right (Nat.le_refl _), Nat.sub_self]
    rfl
theorem d_lc (hT : LcT (ct X) g st (own.map (·.2))) (hc : X.calm = true) (hN : X.N.Nodup) (hi : PId X E tg iter fi) (ok : BlkOk X.N X.env.scope scope own)
    (hg : ∀ (s : Shared) (H : Hp) (C : Addr) (cl : List (Str × Addr)) (fp : List Addr), PG (X.blk s H scope (compEnvC scope cl C X.env) fp) tg g)
    (ht : ∀ (s : Shared) (H : Hp) (C : Addr) (cl : List (Str × Addr)) (fp : List Addr), PTs (X.blk s H scope (compEnvC scope cl C X.env) fp) ifs (tT (ct X) (cE E0) t))
    (he : ∀ (s : Shared) (H : Hp) (C : Addr) (cl : List (Str × Addr)) (fp : List Addr), PE (X.blk s H scope (compEnvC scope cl C X.env) fp) elt (tD (ct X) (cE E0) f)) (hs : ∀ x, foldedSetIterable iter X.env x = pure x := by intro _; rfl) :
    PEd X E (.ListComp elt [⟨tg, iter, ifs, 0⟩] scope pos) (dLc st t f fi) := by
  refine PE.imp (pe_lc hc hN hi ok hg ht he hs) fun σ H Q ⟨μ, S, ρ, Qd, Ed, w, en, hf, q, px⟩ => ?_
  refine ⟨μ, S, ρ, _, Ed, w, en, hf, fun is S1 H1 μ1 J Anc h1 f1 w1 ok' anc hsrc D1 nD => ?_, px⟩
  exact lc_W hT w1 (en.fw w f1) ok' anc hsrc h1.1 h1.2 nD fun H' h => lc_end (S := S) q f1 w1 nD h
theorem d_lcC (hT : LcT (ct X) g st (own.map (·.2))) (hc : X.calm = true) (hN : X.N.Nodup) (hi : PId X E tg iter fi) (ok : BlkOk X.N X.env.scope scope own)
    (hg : ∀ (s : Shared) (H : Hp) (C : Addr) (cl : List (Str × Addr)) (fp : List Addr), PG (X.blk s H scope (compEnvC scope cl C X.env) fp) tg g)
    (ht : ∀ (s : Shared) (H : Hp) (C : Addr) (cl : List (Str × Addr)) (fp : List Addr), PTs (X.blk s H scope (compEnvC scope cl C X.env) fp) ifs (tT (ct X) (cE E0) t))
    (he : ∀ (s : Shared) (H : Hp) (C : Addr) (cl : List (Str × Addr)) (fp : List Addr), PE (X.blk s H scope (compEnvC scope cl C X.env) fp) elt (tD (ct X) (cE E0) f)) (hs : ∀ x, foldedSetIterable iter X.env x = pure x := by intro _; rfl) :
    PEd X E (.ListComp elt [⟨tg, iter, ifs, 0⟩] scope pos) (dLcC st t f fi) := by
  refine PE.imp (pe_lc hc hN hi ok hg ht he hs) fun σ H Q ⟨μ, S, ρ, Qd, Ed, w, en, hf, q, px⟩ => ?_
  refine ⟨μ, S, ρ, _, Ed, w, en, hf, fun is S1 H1 μ1 J Anc h1 f1 w1 ok' anc hsrc D1 nD => ?_, px⟩
  exact lc_W hT w1 (en.fw w f1) ok' anc hsrc h1.1 h1.2 nD fun H' h => lc_endC (S := S) q f1 w1 nD h
/-- name = [..] on one row -/
theorem d_setLc {E2 : XK} {i : Nat} {y : Str} {py spos : Pos} (hT : LcT (ct X) g st (own.map (·.2))) (hc : X.calm = true) (hN : X.N.Nodup) (hy : X.N[i]? = some y) (hyl : X.env.scope.names.lookup y = some .local)
    (hsw : swapsWith (.ListComp elt [⟨tg, iter, ifs, 0⟩] scope pos) (some (.Name y py)) spos.line X.env = pure true) (hi : PId X (cE E2) tg iter fi) (ok : BlkOk X.N X.env.scope scope own)
    (hg : ∀ (s : Shared) (H : Hp) (C : Addr) (cl : List (Str × Addr)) (fp : List Addr), PG (X.blk s H scope (compEnvC scope cl C X.env) fp) tg g)
    (ht : ∀ (s : Shared) (H : Hp) (C : Addr) (cl : List (Str × Addr)) (fp : List Addr), PTs (X.blk s H scope (compEnvC scope cl C X.env) fp) ifs (tT (ct X) (cE E0) t))
    (he : ∀ (s : Shared) (H : Hp) (C : Addr) (cl : List (Str × Addr)) (fp : List Addr), PE (X.blk s H scope (compEnvC scope cl C X.env) fp) elt (tD (ct X) (cE E0) f)) (hs : ∀ x, foldedSetIterable iter X.env x = pure x := by intro _; rfl) :
    PSd X E2 (.Assign [.Name y py] (.ListComp elt [⟨tg, iter, ifs, 0⟩] scope pos) spos) (dAsg (dLc st t f fi) (gN i)) := by
  refine PS.imp (ps_setLc hc hN hy hyl hsw hi ok hg ht he hs) fun D σ H ⟨μ, S, ρ, De, Ed, w, en, hf, k, px⟩ => ?_
  refine ⟨μ, S, ρ, _, Ed, w, en, hf, fun is S1 H1 μ1 J Anc h1 f1 w1 ok' anc hsrc D1 nD => ?_, px⟩
  refine lc_W (Qd := fun H' => D.nx (σ.set i (some (.ref D1))) H') hT w1 (en.fw w f1) ok' anc hsrc h1.1 h1.2 nD fun H' h => ?_
  exact lc_end (S := S) (Q := fun v H' => D.nx (σ.set i (some v)) H') (fun d S' v H' μ' hq ff w' r => k.nx _ S' _ H' μ' (setK_eq (k := fun ρ' => De.nx ρ' S') hq) ff w' ((en.fw w ff).set r)) f1 w1 nD h
end
end Pu
namespace Pu
open PySem PySem.Spec PyProof.Rows L2
/-! ## defs and their calls -/
def spF (c : Ct) (F : FF) : Sp := fun vs H Q E => ∃ μ S ds Qd Ed, Wd c μ S H ∧ RpAll c μ H vs ds ∧ F ds S Qd Ed ∧ PostV c μ H Qd Q ∧ PX c μ H Ed E
/-- a call in which the callee sees all cells -/
def dCallW (F : FF) (fa : FA) : FE := fun ρ S Q Ed => fa ρ S (fun ds S1 => F ds S1 Q Ed) Ed
mutual
/-- it mentions no cell but the first k -/
def below (k : Nat) : D → Bool
  | .cell n => decide (n < k)
  | .tup xs => belowAll k xs
  | .lst _ xs => belowAll k xs
  | .kls xs => belowAll k xs
  | .ins _ fs => belowFs k fs
  | .exc _ fs => belowFs k fs
  | _ => true
def belowAll (k : Nat) : List D → Bool
  | [] => true
  | x :: xs => below k x && belowAll k xs
def belowFs (k : Nat) : List (Str × D) → Bool
  | [] => true
  | (_, x) :: xs => below k x && belowFs k xs
end
def Cl.below (k : Nat) : Cl → Bool
  | .lst xs => belowAll k xs
  | .ins _ fs => belowFs k fs
/-- a call in which the callee sees the first k cells -/
def dCall (k : Nat) (F : FF) (fa : FA) : FE := fun ρ S Q Ed => fa ρ S (fun ds S1 => (belowAll k ds = true ∧ (S1.take k).all (Cl.below k) = true) ∧
  F ds (S1.take k) (fun d S2 => S2.length = (S1.take k).length ∧ Q d (S2 ++ S1.drop k)) fun e S2 => S2.length = (S1.take k).length ∧ Ed e (S2 ++ S1.drop k)) Ed
section
variable {c : Ct} {μ : Mu} {H : Hp} {k : Nat}
def sub (μ : Mu) (k : Nat) : Mu := ⟨μ.m.take k, μ.m.drop k ++ μ.av⟩
theorem not_sub {a : Addr} (h1 : a ∉ μ.m) (h2 : a ∉ μ.av) : a ∉ (sub μ k).m ∧ a ∉ (sub μ k).av :=
  ⟨fun z => h1 (List.mem_of_mem_take z), fun z => by
    rcases List.mem_append.mp z with z | z
    · exact h1 (List.mem_of_mem_drop z)
    · exact h2 z⟩
theorem of_sub {a : Addr} (h1 : a ∉ (sub μ k).m) (h2 : a ∉ (sub μ k).av) : a ∉ μ.m ∧ a ∉ μ.av :=
  ⟨fun z => by
    rw [← List.take_append_drop k μ.m] at z
    rcases List.mem_append.mp z with z | z
    · exact h1 z
    · exact h2 (List.mem_append_left _ z), fun z => h2 (List.mem_append_right _ z)⟩
mutual
theorem Rp.sub : ∀ {v : V} {d : D}, Rp c μ H v d → below k d = true → Rp c (Pu.sub μ k) H v d
  | _, _, .non, _ => .non
  | _, _, .bl b, _ => .bl b
  | _, _, .int i, _ => .int i
  | _, _, .str x, _ => .str x
  | _, _, .tup h r, b => .tup h (RpAll.sub r b)
  | _, _, .lst h n1 n2 n3 r, b => .lst h (not_sub n1 n2).1 (not_sub n1 n2).2 n3 (RpAll.sub r b)
  | _, _, .kls h n1 n2 r, b => .kls h (not_sub n1 n2).1 (not_sub n1 n2).2 (RpAll.sub r b)
  | _, _, .klsK o its n h1 h2 h3 h4 h5 h6 r, b => .klsK o its n h1 h2 h3 h4 h5 h6 (RpAll.sub r b)
  | _, _, .dic h n n2, _ => .dic h (not_sub n n2).1 (not_sub n n2).2
  | _, _, .cell h, b => .cell (by
    show (μ.m.take k)[_]? = _
    rw [List.getElem?_take_of_lt (of_decide_eq_true b)]
    exact h)
  | _, _, .glo h r, _ => .glo h r
  | _, _, .ty n, _ => .ty n
  | _, _, .ins h n n2 g r, b => .ins h (not_sub n n2).1 (not_sub n n2).2 g (RpFs.sub r b)
  | _, _, .exc0 h g, _ => .exc0 h g
  | _, _, .exc1 h g e r, b => .exc1 h g e (RpFs.sub r b)
theorem RpAll.sub : ∀ {vs : List V} {ds : List D}, RpAll c μ H vs ds → belowAll k ds = true → RpAll c (Pu.sub μ k) H vs ds
  | _, _, .nil, _ => .nil
  | _, _, .cons h r, b => .cons (Rp.sub h (Bool.and_eq_true_iff.mp b).1) (RpAll.sub r (Bool.and_eq_true_iff.mp b).2)
theorem RpFs.sub : ∀ {vs : List (Str × V)} {ds : List (Str × D)}, RpFs c μ H vs ds → belowFs k ds = true → RpFs c (Pu.sub μ k) H vs ds
  | _, _, .nil, _ => .nil
  | _, _, .cons h r, b => .cons (Rp.sub h (Bool.and_eq_true_iff.mp b).1) (RpFs.sub r (Bool.and_eq_true_iff.mp b).2)
end
theorem Wd.disj {S : Sto} (w : Wd c μ S H) {a : Addr} (h1 : a ∈ μ.m.take k) (h2 : a ∈ μ.m.drop k) : False := by
  have nd := w.nd
  rw [← List.take_append_drop k μ.m, List.nodup_append] at nd
  exact nd.2.2 a h1 a h2 rfl
theorem Wd.sub {S : Sto} (w : Wd c μ S H) (hb : (S.take k).all (Cl.below k) = true) : Wd c (Pu.sub μ k) (S.take k) H := by
  refine ⟨?_, ?_, fun a h z => ?_, fun a h => ?_, fun i a x h1 h2 => ?_⟩
  · show (μ.m.take k).Nodup
    have nd := w.nd
    rw [← List.take_append_drop k μ.m, List.nodup_append] at nd
    exact nd.1
  · show (μ.m.take k).length = (S.take k).length
    rw [List.length_take, List.length_take, w.len]
  · rcases List.mem_append.mp z with z | z
    · exact w.disj h z
    · exact w.ap a (List.mem_of_mem_take h) z
  · rcases List.mem_append.mp h with h | h
    · obtain ⟨o, e, _⟩ := w.there (List.mem_of_mem_drop h)
      rw [e]
      exact fun z => nomatch z
    · exact w.avs a h
  · have hi : i < k := by
      have := (List.getElem?_eq_some_iff.mp (show (μ.m.take k)[i]? = some a from h1)).1
      rw [List.length_take] at this
      omega
    have e1 : μ.m[i]? = some a := by
      rw [← List.getElem?_take_of_lt hi]
      exact h1
    have e2 : S[i]? = some x := by
      rw [← List.getElem?_take_of_lt hi]
      exact h2
    have bx : Cl.below k x = true := List.all_eq_true.mp hb x (List.mem_of_getElem? h2)
    have o := w.ok i a x e1 e2
    cases x with
    | lst ds =>
      obtain ⟨vs, h3, h4⟩ := o
      exact ⟨vs, h3, h4.sub bx⟩
    | ins cn fs =>
      obtain ⟨C, dx, fv, h3, h4, h5⟩ := o
      exact ⟨C, dx, fv, h3, h4, h5.sub bx⟩
theorem kp_unsub : Kp c (Pu.sub μ k) H μ H := by
  have cl : ∀ (n : Nat) (a : Addr), (μ.m.take k)[n]? = some a → μ.m[n]? = some a := fun n a h => by
    have hi : n < k := by
      have := (List.getElem?_eq_some_iff.mp h).1
      rw [List.length_take] at this
      omega
    rw [← List.getElem?_take_of_lt hi]
    exact h
  exact ⟨fun _ _ e => e, fun _ _ e n1 n2 => ⟨e, (of_sub n1 n2).1, (of_sub n1 n2).2⟩, fun _ _ e n1 n2 => ⟨e, (of_sub n1 n2).1, (of_sub n1 n2).2⟩, fun _ _ e n1 n2 => ⟨e, (of_sub n1 n2).1, (of_sub n1 n2).2⟩, fun _ _ _ _ e n1 n2 => ⟨e, (of_sub n1 n2).1, (of_sub n1 n2).2⟩, cl, fun _ _ e => e⟩
/-- back from a callee that saw the first k cells -/
theorem Wd.back {S S2 : Sto} {H' : Hp} {μ' : Mu} (w : Wd c μ S H) (f : Fw (Pu.sub μ k) H μ' H') (w' : Wd c μ' S2 H') (hl : S2.length = (S.take k).length) :
    Fw μ H μ H' ∧ Wd c μ (S2 ++ S.drop k) H' ∧ μ' = Pu.sub μ k := by
  obtain ⟨t, e⟩ := f.pre
  have hmt : (μ.m.take k).length = (S.take k).length := by rw [List.length_take, List.length_take, w.len]
  have ht : t = [] := by
    have h1 := w'.len
    rw [e, List.length_append] at h1
    have h2 : (Pu.sub μ k).m.length = (S.take k).length := hmt
    have : t.length = 0 := by omega
    exact List.length_eq_zero_iff.mp this
  subst ht
  rw [List.append_nil] at e
  have em : μ' = Pu.sub μ k := by
    cases μ'
    cases e
    cases (show _ = (Pu.sub μ k).av from f.av)
    rfl
  subst em
  have fw : Fw μ H μ H' := ⟨⟨[], by simp⟩, rfl, fun a o ea na => ⟨(f.keep a o ea fun z => na (List.mem_of_mem_take z)).1, na⟩⟩
  refine ⟨fw, ⟨w.nd, ?_, w.ap, fun a h => ?_, fun i a x h1 h2 => ?_⟩, rfl⟩
  · rw [List.length_append, hl, List.length_take, List.length_drop, w.len]
    omega
  · exact w'.avs a (List.mem_append_right _ h)
  · by_cases hi : i < S2.length
    · rw [List.getElem?_append_left hi] at h2
      have hk : i < k := by rw [hl, List.length_take] at hi; omega
      have e1 : (Pu.sub μ k).m[i]? = some a := by
        show (μ.m.take k)[i]? = some a
        rw [List.getElem?_take_of_lt hk]
        exact h1
      exact ClOk.kp kp_unsub (fun _ z => z) (w'.ok i a x e1 h2)
    · have hge : S2.length ≤ i := by omega
      rw [List.getElem?_append_right hge, List.getElem?_drop] at h2
      have hlt : k + (i - S2.length) < S.length := (List.getElem?_eq_some_iff.mp h2).1
      have hl2 : S2.length = k := by rw [hl, List.length_take]; omega
      have ei : k + (i - S2.length) = i := by omega
      rw [ei] at h2
      have nt : a ∉ (Pu.sub μ k).m := fun z => by
        obtain ⟨j, hj, ej⟩ := List.getElem_of_mem (show a ∈ μ.m.take k from z)
        have hj2 : (μ.m.take k)[j]? = some a := List.getElem?_eq_some_iff.mpr ⟨hj, ej⟩
        have hjk : j < k := by rw [List.length_take] at hj; omega
        rw [List.getElem?_take_of_lt hjk] at hj2
        have := ix_uniq w.nd hj2 h1
        omega
      exact ClOk.kp (w.kp fw) (fun o eo => (f.keep a o eo nt).1) (w.ok i a x h1 h2)
end
section
variable {X : Cx} {cx : CXT} {lv : Nat} {fn : Addr} {dat : FuncData} {pars : List Str} {sp : Sp} {E : L2.St → XK} {nm : Str} {p1 p2 : Pos} {a0 : Expr} {as : List Expr} {ta : TA}
theorem passG : ∀ σ, PassesAt CX0 X σ (E σ) := fun _ _ _ _ _ _ _ z => z.elim
theorem runGS {pins : List (Addr × Obj)} {σ : L2.St} {H : Hp} {s : Shared} {Q : VK} {us : List Value} {xs : List V} {E1 : XK} (F : Rb.FnG X.prog X.w X.K X.mg X.base cx lv fn dat pars sp) (gd : X.A.guards = some []) (rm : Room lv X.A)
    (bi : Binds X.K dat pars []) (ps : PassesAt cx X σ E1) (I : Inv X pins σ H s) (vx : Vals xs us) (pro : sp xs H Q E1) :
    wpAny (model X.prog X.w) X.A (call (.ref fn) us) (EP X pins σ Q) X.xe s := by
  have l2 : (us ++ []).length = pars.length := by rw [List.append_nil]; exact vx.length ▸ F.many _ _ _ _ pro
  have b := bi s us I.kIn l2
  rw [List.append_nil] at b
  refine wpAny_call (codeAny_mono (F.goes X.A X.stack s H ⟨us, []⟩ us xs Q E1 rm gd I.env0 b vx pro) ?_)
  intro res s2 fin
  match res, fin with
  | .error e, fin => exact ps pins H s e s2 I fin
  | .ok (.ret u), fin => exact I.after fin
  | .ok .next, fin => exact (fin : False).elim
  | .ok .brk, fin => exact (fin : False).elim
  | .ok .cont, fin => exact (fin : False).elim
theorem pe_callGS (F : Rb.FnG X.prog X.w X.K X.mg X.base cx lv fn dat pars sp) (gd : X.A.guards = some []) (rm : Room lv X.A) (gl : Gl X nm) (at_ : X.mg nm = some (.ref fn)) (kp : PySem.W.keepIn X.K (.ref fn) = true)
    (bi : Binds X.K dat pars []) (ps : ∀ σ, PassesAt cx X σ (E σ)) (pa : PA X (a0 :: as) ta) (ndb : (nm == ("__debug__" : Str)) = false := by decide)
    (st1 : starEach (a0 :: as) X.env = (false, eval a0 X.env) :: starEach as X.env := by rfl) (st2 : (backTo p2 (starEach as X.env)).any (·.1) = false := by rfl) :
    PE X (.Call (.Name nm p1) (a0 :: as) [] p2) (tCallS sp E ta) := by
  constructor
  intro pins s σ H Q I pre
  refine wpAny_Call_Name_kw (ld_glob I gl at_ ?_ ndb)
  exact PySem.W.callWith_K (h₀ := X.base) I.ok.mod.kin kp (thn (pa.run p2 pins s σ H _ I pre) fun us s1 ⟨xs, H1, I1, rx, q1⟩ => ⟨I1.kIn, runGS F gd rm bi (ps σ) I1 rx q1⟩) st1 st2
end
section
variable {X : Cx} {E : L2.St → XK} {cx : CXT} {lv : Nat} {fn : Addr} {dat : FuncData} {pars : List Str} {nm : Str} {p1 p2 : Pos} {a0 : Expr} {as : List Expr} {FN : FF} {fa : FA}
theorem d_callW (F : Rb.FnG X.prog X.w X.K X.mg X.base cx lv fn dat pars (spF (ct X) FN)) (gd : X.A.guards = some []) (rm : Room lv X.A) (gl : Gl X nm) (at_ : X.mg nm = some (.ref fn)) (kp : PySem.W.keepIn X.K (.ref fn) = true)
    (bi : Binds X.K dat pars []) (ps : ∀ σ, PassesAt cx X σ (E σ)) (pa : PAd X E (a0 :: as) fa) (ndb : (nm == ("__debug__" : Str)) = false := by decide)
    (s1 : starEach (a0 :: as) X.env = (false, eval a0 X.env) :: starEach as X.env := by rfl) (s2 : (backTo p2 (starEach as X.env)).any (·.1) = false := by rfl) : PEd X E (.Call (.Name nm p1) (a0 :: as) [] p2) (dCallW FN fa) := by
  refine PE.imp (pe_callGS F gd rm gl at_ kp bi ps pa ndb s1 s2) fun σ H Q ⟨μ, S, ρ, Qd, Ed, w, en, hf, q, px⟩ => ?_
  refine tR_of w en hf px fun ds S1 vs H1 μ1 h1 f1 w1 en1 px1 r1 => ?_
  exact ⟨μ1, S1, ds, Qd, Ed, w1, r1, h1, PostV.fw q f1, px1⟩
theorem d_call (k : Nat) (F : Rb.FnG X.prog X.w X.K X.mg X.base cx lv fn dat pars (spF (ct X) FN)) (gd : X.A.guards = some []) (rm : Room lv X.A) (gl : Gl X nm) (at_ : X.mg nm = some (.ref fn)) (kp : PySem.W.keepIn X.K (.ref fn) = true)
    (bi : Binds X.K dat pars []) (ps : ∀ σ, PassesAt cx X σ (E σ)) (pa : PAd X E (a0 :: as) fa) (ndb : (nm == ("__debug__" : Str)) = false := by decide)
    (s1 : starEach (a0 :: as) X.env = (false, eval a0 X.env) :: starEach as X.env := by rfl) (s2 : (backTo p2 (starEach as X.env)).any (·.1) = false := by rfl) : PEd X E (.Call (.Name nm p1) (a0 :: as) [] p2) (dCall k FN fa) := by
  refine PE.imp (pe_callGS F gd rm gl at_ kp bi ps pa ndb s1 s2) fun σ H Q ⟨μ, S, ρ, Qd, Ed, w, en, hf, q, px⟩ => ?_
  refine tR_of w en hf px fun ds S1 vs H1 μ1 h1 f1 w1 en1 px1 r1 => ?_
  obtain ⟨⟨b1, b2⟩, h1⟩ := h1
  refine ⟨sub μ1 k, S1.take k, ds, _, _, w1.sub b2, r1.sub b1, h1, fun d S2 v H2 μ2 h2 f2 w2 r2 => ?_, fun e S2 cls dx H2 μ2 h2 f2 w2 r2 => ?_⟩
  · obtain ⟨f3, w3, rfl⟩ := w1.back f2 w2 h2.1
    exact q d _ v H2 μ1 h2.2 (f1.trans f3) w3 (r2.kp kp_unsub)
  · obtain ⟨f3, w3, rfl⟩ := w1.back f2 w2 h2.1
    refine px1 e _ cls dx H2 μ1 h2.2 f3 w3 ⟨r2.1, ?_⟩
    have r3 := r2.2
    split at r3
    · exact r3
    · obtain ⟨a, fv, z1, z2, z3⟩ := r3
      exact ⟨a, fv, z1, z2, z3.kp kp_unsub⟩
end
/-! ### what a def does -/
def startD (n : Nat) (ds : List D) : Rho := ds.map some ++ List.replicate (n - ds.length) none
theorem startD_env {c : Ct} {μ : Mu} {H : Hp} {N : List Str} {vs : List V} {ds : List D} (r : RpAll c μ H vs ds) : EnvR c μ H (L2.start N vs) (startD N.length ds) := by
  refine ⟨?_, fun i d h => ?_⟩
  · unfold L2.start startD
    rw [List.length_append, List.length_append, List.length_map, List.length_map, List.length_replicate, List.length_replicate, r.length]
  · unfold L2.start
    unfold startD at h
    have hl := r.length
    by_cases hi : i < ds.length
    · rw [List.getElem?_append_left (by rw [List.length_map]; exact hi), List.getElem?_map] at h
      obtain ⟨d', e1, e2⟩ := Option.map_eq_some_iff.mp h
      cases e2
      obtain ⟨v, e3, rv⟩ := r.at e1
      refine ⟨v, ?_, rv⟩
      rw [List.getElem?_append_left (by rw [List.length_map]; omega), List.getElem?_map, e3]
      rfl
    · rw [List.getElem?_append_right (by rw [List.length_map]; omega)] at h
      have := List.mem_of_getElem? h
      cases (List.mem_replicate.mp this).2
/-- a def without cells of its own, or one whose new cells stay -/
def dDef (np n : Nat) (fb : FS) : FF := fun ds S Q Ed => ds.length = np ∧ fb (startD n ds) S { nx := fun _ S' => Q .non S', rt := Q, bk := fun _ _ => False, ct := fun _ _ => False } noE
/-- .. that may raise -/
def dDefX (np n : Nat) (fb : FS) : FF := fun ds S Q Ed => ds.length = np ∧ fb (startD n ds) S { nx := fun _ S' => Q .non S', rt := Q, bk := fun _ _ => False, ct := fun _ _ => False } Ed
/-- a value that leaves a def whose cells, from n on, are gone -/
def frz (S : Sto) (n : Nat) : D → Option D
  | .cell k => if k < n then some (.cell k) else match S[k]? with
    | some (.lst xs) => if belowAll n xs = true then some (.lst false xs) else none
    | some (.ins x fs) => if belowFs n fs = true then some (.ins x fs) else none
    | none => none
  | d => if below n d = true then some d else none
/-- a def with cells of its own -/
def dDefC (np n : Nat) (fb : FS) : FF := fun ds S Q Ed => ds.length = np ∧ fb (startD n ds) S
  { nx := fun _ S' => ((S'.take S.length).length = S.length ∧ (S'.take S.length).all (Cl.below S.length) = true) ∧ Q .non (S'.take S.length),
    rt := fun d S' => ((S'.take S.length).length = S.length ∧ (S'.take S.length).all (Cl.below S.length) = true) ∧ onSome (frz S' S.length d) fun d' => Q d' (S'.take S.length), bk := fun _ _ => False, ct := fun _ _ => False } noE
section
variable {pr : Program} {wo : World} {K : PySem.W.Frag} {mg : Str → Option Value} {b0 : Heap} {lv : Nat} {x qn : Str} {st : Stmt} {fn : Addr} {dat : FuncData} {NN pars : List Str} {fb : FS}
theorem d_fn (F : Fun K x qn st fn dat) (S : FnScope NN pars (defScope st))
    (body : ∀ (cdv : Value) (A : Around) (out : List Env) (s : Shared) (H : Hp) (E : XK), A.guards = some [] → Room lv (A.deeper (envOfC qn (defScope st) s.heap.objs.size fn cdv)) → PBd (cxOf CX0 pr wo K mg b0 NN qn (defScope st) fn cdv A out s H E).nox E0 (defBody st) fb) :
    Rb.FnG pr wo K mg b0 CX0 (lv + 1) fn dat pars (spF (ct0 K mg) (dDef pars.length NN.length fb)) := by
  refine Rb.okG F S (fun xs H Q E pro => ?_) fun cdv A out s H xs Q E gd rm pro => ⟨_, body cdv A out s H E gd rm, ?_⟩
  · obtain ⟨μ, S, ds, Qd, Ed, w, r, ⟨hl, _⟩, _⟩ := pro
    rw [r.length]
    exact hl
  · obtain ⟨μ, S, ds, Qd, Ed, w, r, ⟨hl, h⟩, q, px⟩ := pro
    exact ⟨μ, S, _, _, noE, w, startD_env r, h, ⟨fun ρ' S' σ' H' μ' hq f w' en => q .non S' .non H' μ' hq f w' .non, q, fun _ _ _ _ _ z => z.elim, fun _ _ _ _ _ z => z.elim⟩, pxNo⟩
theorem Wd.drop {c : Ct} {μ μ' : Mu} {S S' : Sto} {H H' : Hp} (w : Wd c μ S H) (f : Fw μ H μ' H') (w' : Wd c μ' S' H') (hb : (S'.take S.length).all (Cl.below S.length) = true) :
    Fw μ H μ H' ∧ Wd c μ (S'.take S.length) H' ∧ (Kp c (Pu.sub μ' S.length) H' μ H') := by
  obtain ⟨t, e⟩ := f.pre
  have em : (Pu.sub μ' S.length).m = μ.m := by
    show μ'.m.take S.length = μ.m
    rw [e, ← w.len, List.take_append_of_le_length (Nat.le_refl _), List.take_length]
  have ws := w'.sub hb
  have av2 : ∀ {a : Addr}, a ∉ (Pu.sub μ' S.length).av → a ∉ μ.av := fun n z => n (List.mem_append_right _ (by rw [f.av]; exact z))
  have kp : Kp c (Pu.sub μ' S.length) H' μ H' := ⟨fun _ _ e => e, fun _ _ e n1 n2 => ⟨e, em ▸ n1, av2 n2⟩, fun _ _ e n1 n2 => ⟨e, em ▸ n1, av2 n2⟩, fun _ _ e n1 n2 => ⟨e, em ▸ n1, av2 n2⟩, fun _ _ _ _ e n1 n2 => ⟨e, em ▸ n1, av2 n2⟩, (fun n a h => by rw [← em]; exact h), fun _ _ e => e⟩
  refine ⟨⟨⟨[], by simp⟩, rfl, fun a o ea na => ⟨(f.keep a o ea na).1, na⟩⟩, ⟨w.nd, ?_, w.ap, fun a h => ?_, fun i a x h1 h2 => ClOk.kp kp (fun _ z => z) (ws.ok i a x (by rw [em]; exact h1) h2)⟩, kp⟩
  · rw [← em]; exact ws.len
  · exact ws.avs a (List.mem_append_right _ (by rw [f.av]; exact h))
theorem d_fnC (F : Fun K x qn st fn dat) (S : FnScope NN pars (defScope st))
    (body : ∀ (cdv : Value) (A : Around) (out : List Env) (s : Shared) (H : Hp) (E : XK), A.guards = some [] → Room lv (A.deeper (envOfC qn (defScope st) s.heap.objs.size fn cdv)) → PBd (cxOf CX0 pr wo K mg b0 NN qn (defScope st) fn cdv A out s H E).nox E0 (defBody st) fb) :
    Rb.FnG pr wo K mg b0 CX0 (lv + 1) fn dat pars (spF (ct0 K mg) (dDefC pars.length NN.length fb)) := by
  refine Rb.okG F S (fun xs H Q E pro => ?_) fun cdv A out s H xs Q E gd rm pro => ⟨_, body cdv A out s H E gd rm, ?_⟩
  · obtain ⟨μ, S, ds, Qd, Ed, w, r, ⟨hl, _⟩, _⟩ := pro
    rw [r.length]
    exact hl
  · obtain ⟨μ, S, ds, Qd, Ed, w, r, ⟨hl, h⟩, q, px⟩ := pro
    refine ⟨μ, S, _, _, noE, w, startD_env r, h, ⟨fun ρ' S' σ' H' μ' hq f w' en => ?_, fun d S' v H' μ' hq f w' rv => ?_, fun _ _ _ _ _ z => z.elim, fun _ _ _ _ _ z => z.elim⟩, pxNo⟩
    · obtain ⟨f2, w2, _⟩ := w.drop f w' hq.1.2
      exact q .non _ .non H' μ hq.2 f2 w2 .non
    · obtain ⟨⟨_, hb⟩, hq⟩ := hq
      obtain ⟨f2, w2, kp⟩ := w.drop f w' hb
      obtain ⟨d', e, hq⟩ := onSome_of hq
      refine q d' _ v H' μ hq f2 w2 ?_
      unfold frz at e
      split at e
      · rename_i k
        split at e
        · rename_i hk
          cases e
          exact (rv.sub (k := S.length) (decide_eq_true hk)).kp kp
        · rename_i hk
          cases rv with
          | @cell k2 a hm =>
          have hmem := List.mem_of_getElem? hm
          have nm : a ∉ μ.m := fun z => by
            obtain ⟨t, et⟩ := f.pre
            obtain ⟨j, hj, ej⟩ := List.getElem_of_mem z
            have hj2 : μ'.m[j]? = some (μ.m[j]) := by rw [et, List.getElem?_append_left hj]; exact List.getElem?_eq_getElem hj
            rw [ej] at hj2
            have := ix_uniq w'.nd hj2 hm
            have := w.len
            omega
          split at e
          · rename_i ys e1
            split at e
            · rename_i hb2
              cases e
              obtain ⟨vs, h1, h2⟩ := w'.ok k _ _ hm e1
              exact .lst h1 nm (fun z => w'.ap _ hmem (by rw [f.av]; exact z)) (fun z => nomatch z) ((h2.sub hb2).kp kp)
            · cases e
          · rename_i y gs e1
            split at e
            · rename_i hb2
              cases e
              obtain ⟨C, dx, fv, h1, h2, h3⟩ := w'.ok k _ _ hm e1
              exact .ins h1 nm (fun z => w'.ap _ hmem (by rw [f.av]; exact z)) h2 ((h3.sub hb2).kp kp)
            · cases e
          · cases e
      · split at e
        · rename_i hb2
          cases e
          exact (rv.sub hb2).kp kp
        · cases e
end
/-- from what the law's own meaning gives to the row's claim -/
theorem endP {l : PySem.W.OpenLaw} {n lv : Nat} {q : Program} {loose : List Str} {XP : (Str → Option Value) → Heap → Prop} {YP : World → Heap → Prop} {d : DefRec} {KK : Params → PySem.W.Frag} {FL : FF} {x : Str}
    (most : l.most = some n) (few : n ≤ sizeLine) (nodef : d.params.defaults = []) (rm : Room lv callerA) (inY : ∀ (w : World) (h : Heap), YP w h → (KK w.params).In h)
    (F : ∀ (w : World) (mg : Str → Option Value) (fn : Addr) (h : Heap), (KK w.params).In h → h.Ns mainGlobals mg → mg d.name = some (.ref fn) →
      ∃ dat : FuncData, (∀ (s : Shared) (u : Value), BindsTo s dat ⟨[u], []⟩ [(x, u)]) ∧ ∀ b0 : Heap, (KK w.params).In b0 → b0.Ns mainGlobals mg → Rb.FnG l.prog w (KK w.params) mg b0 CX0 lv fn dat [x] (spF (ct0 (KK w.params) mg) FL))
    (law : ∀ ns : List Int, ns.length ≤ n → FL [.kls (ns.map D.int)] [] (fun d _ => d = .bl true) noE) :
    PySem.W.WalkO q loose XP YP l.row.toRowW d [] (fun f vs => PySem.call f vs) := by
  refine Att.attach_call most nodef ?_
  intro w s0 s1 mg mb fn o pm cd dc a us ns G Y at_ dd cdd gm ob ia ln ge
  obtain ⟨dat, bi, ok⟩ := F w mg fn _ (inY w _ Y) G.T.g gm
  refine Rb.lawG (inY w _ Y) G.T.g G.T.b G.T.builtins G.T.nolimit ge ob ia (Nat.le_trans ln few) rm ok bi fun H sq => ?_
  refine ⟨⟨[], []⟩, [], _, _, noE, ⟨List.nodup_nil, rfl, (fun _ z => nomatch z), (fun _ z => nomatch z), fun _ _ _ z => nomatch z⟩, .cons ?_ .nil, law ns ln, fun d S' v H' μ' hq _ _ r => ?_, pxNo⟩
  · rcases sq with sq | ⟨o, its, k, h1, h2, h3, h4, h5, h6⟩
    · exact .kls sq (fun z => nomatch z) (fun z => nomatch z) (RpAll.ofInts ns)
    · exact .klsK o its k h1 h2 h3 h4 h5 h6 (RpAll.ofInts ns)
  · cases (hq : d = .bl true)
    exact r.bl_inv
end Pu
namespace Pu
open PySem PySem.Spec PyProof.Rows L2
/-! ## small dicts, list(range(n)), tuple(range(n)) -/
section
variable {X : Cx} {E : L2.St → XK} {pos : Pos} {a : Expr} {fe : FE}
theorem PostV.dic {c : Ct} {μ : Mu} {S : Sto} {H : Hp} {Qd : QD} {Q : VK} (q : PostV c μ H Qd Q) (w : Wd c μ S H) {ps : List (Str × Int)} (h : Qd (.dic ps) S) {p : Addr} (hp : H p = none) : Q (.ref p) (upd H p (.dK (Rb.dicV ps))) :=
  q _ S _ _ μ h (Fw.new hp) (w.new hp) (.dic upd_same (w.fresh hp) fun z => w.avs p z hp)
def rngOk (n : Int) : Prop := 0 ≤ n ∧ n ≤ 16777216
theorem rngOk.of {n : Int} (h : rngOk n) : RgOk 0 n := RgOk.of_le (Int.le_refl _) h.2 (by decide) h.1
variable {p p2 p3 : Pos}
end
end Pu
namespace Pu
open PySem PySem.Spec PyProof.Rows L2
/-! ## min of a tuple or a list -/
/-! ## while -/
/-! ## remove, extend, pop() on a list that is a cell -/
/-! ## repr and == that are not looked into -/
@[irreducible] def iRepr : List D → Sto → QD → Prop := gRepr
@[irreducible] def iEqB (neg : Bool) : G2 := gEqB neg
abbrev iEq : G2 := iEqB false
abbrev iNe : G2 := iEqB true
theorem iRepr_of {ds : List D} {S : Sto} {Q : QD} (h : gRepr ds S Q) : iRepr ds S Q := by
  unfold iRepr
  exact h
theorem iEqB_of {neg : Bool} {x y : D} {S : Sto} {Q : QD} (h : gEqB neg x y S Q) : iEqB neg x y S Q := by
  unfold iEqB
  exact h
theorem eq_str {neg : Bool} {a b : Str} {S : Sto} {Q : QD} (q : Q (.bl (nb neg (decide (a = b)))) S) : iEqB neg (.str a) (.str b) S Q := iEqB_of q
theorem eq_int {neg : Bool} {a b : Int} {S : Sto} {Q : QD} (q : Q (.bl (nb neg (decide (a = b)))) S) : iEqB neg (.int a) (.int b) S Q := iEqB_of q
theorem ne_str {neg : Bool} {a b : Str} {S : Sto} {Q : QD} (e : a = b) (q : Q (.bl (nb neg true)) S) : iEqB neg (.str a) (.str b) S Q := eq_str (by rw [decide_eq_true e]; exact q)
theorem ne_int {neg : Bool} {a b : Int} {S : Sto} {Q : QD} (e : a = b) (q : Q (.bl (nb neg true)) S) : iEqB neg (.int a) (.int b) S Q := eq_int (by rw [decide_eq_true e]; exact q)
section
variable {X : Cx}
theorem o_ieq (hu : X.A.units + 64 < cLine) : OpR X (compareOp .Eq) (rD2 (ct X) iEq) := by
  unfold iEq iEqB
  exact o_eq hu
theorem o_ine (hu : X.A.units + 64 < cLine) : OpR X (compareOp .NotEq) (rD2 (ct X) iNe) := by
  unfold iNe iEqB
  exact o_ne hu
end
/-! ## enumerate of a tuple or of a list -/
theorem PI.or {X : Cx} {tg e : Expr} {t t' : TI} (h : PI X tg e t) (h' : PI X tg e t') : PI X tg e (fun σ H R => t σ H R ∨ t' σ H R) :=
  ⟨fun pins s σ H R I q => q.elim (h.run pins s σ H R I) (h'.run pins s σ H R I)⟩
def dEn (fa : FA) : FI := fun ρ S Q Ed => dEnT fa ρ S Q Ed ∨ dEnL fa ρ S Q Ed
theorem d_en {X : Cx} {E : L2.St → XK} {fa : FA} {e : Expr} {elts : List Expr} {kk : Nat} {p pos tp : Pos} (hg : Gl X "enumerate") (hm : X.mg "enumerate" = none) (ha : PAd X E [e] fa) (hs : starEach [e] X.env = [(false, eval e X.env)] := by rfl) : PId X E (.Tuple elts kk tp) (.Call (.Name "enumerate" p) [e] [] pos) (dEn fa) := by
  refine PI.imp (PI.or (d_enT hg hm ha hs) (d_enL hg hm ha hs)) fun σ H R ⟨μ, S, ρ, Qi, Ed, w, en, hf, q, px⟩ => ?_
  rcases hf with hf | hf
  · exact .inl ⟨μ, S, ρ, Qi, Ed, w, en, hf, q, px⟩
  · exact .inr ⟨μ, S, ρ, Qi, Ed, w, en, hf, q, px⟩
end Pu
namespace Pu
open PySem PySem.Spec PyProof.Rows L2
/-! ## is True, is False -/
section
variable {X : Cx}
/-! ## xs[::-1] of a list -/
def gRevL : D → Sto → QD → Prop := fun x S Q => onSome (lstOf S x) fun xs => Q (.lst false xs.reverse) S
theorem d_revL {E : L2.St → XK} {e : Expr} {fe : FE} {k : Nat} {p1 p2 p3 pos : Pos} (he : PEd X E e fe) : PEd X E (.Subscript e (.Slice none none (some (.UnaryOp .USub (.Constant (.int 1) k p1) p2)) p3) pos) (dUn gRevL fe) := by
  refine PE.imp (pe_revL he) fun σ H Q ⟨μ, S, ρ, Qd, Ed, w, en, hf, q, px⟩ => ?_
  refine tR_of w en hf px fun x S1 v H1 μ1 h1 f1 w1 en1 px1 r1 => ?_
  obtain ⟨xs, e1, hq⟩ := onSome_of h1
  obtain ⟨a, ws, rfl, ha, rs⟩ := r1.lstT w1 e1
  exact ⟨a, ws, rfl, SqL.of ha, fun p hp => PostV.lst (fun d S' v H' μ' h f w' r => q d S' v H' μ' h (f1.trans f) w' r) w1 rs.rev hq hp⟩
end
end Pu
namespace Pu
open PySem PySem.Spec PyProof.Rows L2
/-! ## instances: fields, methods, properties, new ones -/
def insAt : Option Cl → Option (Str × List (Str × D))
  | some (.ins x fs) => some (x, fs)
  | _ => none
theorem insAt_inv {o : Option Cl} {x : Str} {fs : List (Str × D)} (h : insAt o = some (x, fs)) : o = some (.ins x fs) := by
  cases o with
  | none => cases h
  | some y =>
    cases y with
    | lst _ => cases h
    | ins _ _ => cases h; rfl
def insOf (S : Sto) : D → Option (Str × List (Str × D))
  | .cell n => insAt S[n]?
  | .ins x fs => some (x, fs)
  | _ => none
def cellIns (S : Sto) : D → Option (Nat × Str × List (Str × D))
  | .cell n => (insAt S[n]?).map fun p => (n, p.1, p.2)
  | _ => none
/-- the field by its name -/
def lookF (f : Str) : List (Str × D) → Option D
  | [] => none
  | (g, d) :: r => if g = f then some d else lookF f r
def putD (f : Str) (v : D) : List (Str × D) → List (Str × D)
  | [] => [(f, v)]
  | (g, x) :: r => if g = f then (g, v) :: r else (g, x) :: putD f v r
section
variable {c : Ct} {μ : Mu} {S : Sto} {H : Hp} {v : V} {d : D} {f : Str}
theorem Rp.insT (w : Wd c μ S H) (r : Rp c μ H v d) {x : Str} {fs : List (Str × D)} (e : insOf S d = some (x, fs)) : ∃ a C dx fv, v = .ref a ∧ H a = some (.ins C dx fv) ∧ c.mg x = some (.ref C) ∧ RpFs c μ H fv fs := by
  cases r with
  | ins h _ _ g rf => cases e; exact ⟨_, _, _, _, rfl, h, g, rf⟩
  | @cell n a hm =>
    obtain ⟨C, dx, fv, h1, h2, h3⟩ := w.ok n _ _ hm (insAt_inv e)
    exact ⟨_, C, dx, fv, rfl, h1, h2, h3⟩
  | _ => cases e
theorem Wd.cellI (w : Wd c μ S H) (r : Rp c μ H v d) {n : Nat} {x : Str} {fs : List (Str × D)} (e : cellIns S d = some (n, x, fs)) : ∃ a C dx fv, v = .ref a ∧ μ.m[n]? = some a ∧ H a = some (.ins C dx fv) ∧ c.mg x = some (.ref C) ∧ RpFs c μ H fv fs := by
  cases r with
  | @cell k a hm =>
    obtain ⟨p, h, e2⟩ := Option.map_eq_some_iff.mp (show (insAt S[k]?).map (fun p => (k, p.1, p.2)) = some (n, x, fs) from e)
    obtain ⟨y, gs⟩ := p
    cases e2
    obtain ⟨C, dx, fv, h1, h2, h3⟩ := w.ok _ _ _ hm (insAt_inv h)
    exact ⟨_, C, dx, fv, rfl, hm, h1, h2, h3⟩
  | _ => cases e
theorem RpFs.look : ∀ {fv : List (Str × V)} {fs : List (Str × D)} {d : D}, RpFs c μ H fv fs → lookF f fs = some d → ∃ v, fv.lookup f = some v ∧ Rp c μ H v d
  | _, _, _, .nil, e => by cases e
  | _, _, _, .cons (f := g) h r, e => by
    unfold lookF at e
    by_cases z : g = f
    · rw [if_pos z] at e
      cases e
      refine ⟨_, ?_, h⟩
      rw [List.lookup_cons, show (f == g) = true by rw [z]; exact beq_self_eq_true f]
    · rw [if_neg z] at e
      obtain ⟨v, e1, e2⟩ := RpFs.look r e
      refine ⟨v, ?_, e2⟩
      rw [List.lookup_cons, show (f == g) = false by exact beq_eq_false_iff_ne.mpr fun q => z q.symm]
      exact e1
theorem RpFs.none : ∀ {fv : List (Str × V)} {fs : List (Str × D)}, RpFs c μ H fv fs → lookF f fs = none → fv.lookup f = none
  | _, _, .nil, _ => rfl
  | _, _, .cons (f := g) h r, e => by
    unfold lookF at e
    by_cases z : g = f
    · rw [if_pos z] at e
      cases e
    · rw [if_neg z] at e
      rw [List.lookup_cons, show (f == g) = false by exact beq_eq_false_iff_ne.mpr fun q => z q.symm]
      exact RpFs.none r e
theorem RpFs.length : ∀ {fv : List (Str × V)} {fs : List (Str × D)}, RpFs c μ H fv fs → fv.length = fs.length
  | _, _, .nil => rfl
  | _, _, .cons _ r => congrArg Nat.succ (RpFs.length r)
theorem RpFs.put {y : V} {e : D} (ry : Rp c μ H y e) : ∀ {fv : List (Str × V)} {fs : List (Str × D)}, RpFs c μ H fv fs → RpFs c μ H (putF f y fv) (putD f e fs)
  | _, _, .nil => .cons ry .nil
  | _, _, .cons (f := g) h r => by
    unfold putF putD
    by_cases z : g = f
    · rw [if_pos z, if_pos z]
      exact .cons ry r
    · rw [if_neg z, if_neg z]
      exact .cons h (RpFs.put ry r)
theorem RpFs.fw {μ' : Mu} {H' : Hp} {fv : List (Str × V)} {fs : List (Str × D)} (r : RpFs c μ H fv fs) (w : Wd c μ S H) (g : Fw μ H μ' H') : RpFs c μ' H' fv fs := r.kp (w.kp g)
end
/-! ### fields -/
/-- of a class of the row: its instances are plain, the name is no attribute of it -/
def ClF (K : PySem.W.Frag) (mg : Str → Option Value) (f x : Str) : Prop := ∀ C, mg x = some (.ref C) → Cls K C ∧ NoAttr K C f
def dFld (xs : List Str) (f : Str) (fo : FE) : FE := fun ρ S Q Ed => fo ρ S (fun d S1 => onSome (insOf S1 d) fun cf => xs.contains cf.1 = true ∧ onSome (lookF f cf.2) fun v => Q v S1) Ed
def dStF (xs : List Str) (f : Str) (fo fe : FE) : FS := fun ρ S De Ed => fe ρ S (fun v S1 => fo ρ S1 (fun d S2 => onSome (cellIns S2 d) fun q => (xs.contains q.2.1 = true ∧ q.2.2.length ≤ 500) ∧ De.nx ρ (S2.set q.1 (.ins q.2.1 (putD f v q.2.2)))) Ed) Ed
section
variable {X : Cx} {E : L2.St → XK} {E1 : XK} {e o value : Expr} {fo fe : FE} {f : Str} {xs : List Str} {pos pos' : Pos}
theorem mem_of_contains {x : Str} (h : xs.contains x = true) : x ∈ xs := List.contains_iff_mem.mp h
theorem d_fld (hx : ∀ x ∈ xs, ClF X.K X.mg f x) (he : PEd X E e fo) (hab : attributeBase e f X.env (eval e X.env) = eval e X.env := by rfl) : PEd X E (.Attribute e f pos) (dFld xs f fo) := by
  refine PE.imp (pe_fld he hab) fun σ H Q ⟨μ, S, ρ, Qd, Ed, w, en, hf, q, px⟩ => ?_
  refine tR_of w en hf px fun d S1 v H1 μ1 h1 f1 w1 en1 px1 r1 => ?_
  obtain ⟨⟨x, fs⟩, e1, hc, h1⟩ := onSome_of h1
  obtain ⟨u, e2, hq⟩ := onSome_of h1
  obtain ⟨a, C, dx, fv, rfl, ha, hm, rf⟩ := r1.insT w1 e1
  obtain ⟨y, e3, ry⟩ := rf.look e2
  obtain ⟨c1, c2⟩ := hx x (mem_of_contains hc) C hm
  exact ⟨a, C, dx, fv, y, rfl, ha, c1, c2, e3, q u S1 y H1 μ1 hq f1 w1 ry⟩
theorem d_stF (hx : ∀ x ∈ xs, ClF X.K X.mg f x) (ho : PEd X (cE E1) o fo) (hv : PEd X (cE E1) value fe) (hs : swapsWith value (some (.Attribute o f pos')) pos.line X.env = pure false := by rfl) : PSd X E1 (.Assign [.Attribute o f pos'] value pos) (dStF xs f fo fe) := by
  refine PS.imp (ps_fld ho hv hs) fun D σ H ⟨μ, S, ρ, De, Ed, w, en, hf, k, px⟩ => ?_
  refine tR_of w en hf px fun y S1 vy H1 μ1 h1 f1 w1 en1 px1 r1 => ?_
  refine tR_of w1 en1 h1 px1 fun d S2 v H2 μ2 h2 f2 w2 en2 px2 r2 => ?_
  obtain ⟨⟨n, x, fs⟩, e1, ⟨hc, hl⟩, hq⟩ := onSome_of h2
  obtain ⟨a, C, dx, fv, rfl, hm, ha, hg, rf⟩ := w2.cellI r2 e1
  obtain ⟨c1, c2⟩ := hx x (mem_of_contains hc) C hg
  have hl' : fs.length ≤ 500 := hl
  refine ⟨a, C, dx, fv, rfl, ha, c1, c2, by rw [rf.length]; omega, ?_⟩
  have fw : Fw μ2 H2 μ2 (upd H2 a (.ins C dx (putF f vy fv))) := Fw.write (List.mem_of_getElem? hm)
  exact k.nx ρ _ σ _ μ2 hq (f1.trans (f2.trans fw)) (w2.set hm ⟨C, dx, _, upd_same, hg, (RpFs.put (r1.fw w1 f2) rf).fw w2 fw⟩) (en2.fw w2 fw)
end
/-! ### a constant of the class -/
def dCon (xs : List Str) (f : Str) (v : D) (fo : FE) : FE := fun ρ S Q Ed => fo ρ S (fun d S1 => onSome (insOf S1 d) fun cf => (xs.contains cf.1 = true ∧ lookF f cf.2 = none) ∧ Q v S1) Ed
def ConI (K : PySem.W.Frag) (mg : Str → Option Value) (f : Str) (i : Int) (x : Str) : Prop := ∀ C, mg x = some (.ref C) → Cls K C ∧ ∃ u, Con K C f (.int i) u
section
variable {X : Cx} {E : L2.St → XK} {e : Expr} {fo : FE} {f : Str} {xs : List Str} {i : Int} {pos : Pos}
theorem d_con (hx : ∀ x ∈ xs, ConI X.K X.mg f i x) (he : PEd X E e fo) (hab : attributeBase e f X.env (eval e X.env) = eval e X.env := by rfl) : PEd X E (.Attribute e f pos) (dCon xs f (.int i) fo) := by
  refine PE.imp (pe_con he hab) fun σ H Q ⟨μ, S, ρ, Qd, Ed, w, en, hf, q, px⟩ => ?_
  refine tR_of w en hf px fun d S1 v H1 μ1 h1 f1 w1 en1 px1 r1 => ?_
  obtain ⟨⟨x, fs⟩, e1, ⟨hc, hn⟩, hq⟩ := onSome_of h1
  obtain ⟨a, C, dx, fv, rfl, ha, hm, rf⟩ := r1.insT w1 e1
  obtain ⟨c1, u, c2⟩ := hx x (mem_of_contains hc) C hm
  exact ⟨a, C, dx, fv, .int i, u, rfl, ha, c1, c2, rf.none hn, q _ S1 _ H1 μ1 hq f1 w1 (.int i)⟩
end
/-! ### methods: the def by the object's class -/
/-- of a class of the row: the method m is the def that means F -/
def MF (P : Program) (wo : World) (K : PySem.W.Frag) (mg : Str → Option Value) (b0 : Heap) (cx : CXT) (lv : Nat) (m : Str) (x : Str) (F : FF) : Prop :=
  ∀ C, mg x = some (.ref C) → ∃ fn dat pars, Cls K C ∧ Meth K C m fn ∧ Rb.FnG P wo K mg b0 cx lv fn dat pars (spF (ct0 K mg) F) ∧ Binds K dat pars []
def tabF : List (Str × FF) → Str → Option FF
  | [], _ => none
  | (y, F) :: r, x => if y = x then some F else tabF r x
theorem tabF_mem : ∀ {tab : List (Str × FF)} {x : Str} {F : FF}, tabF tab x = some F → (x, F) ∈ tab
  | [], _, _, h => by cases h
  | (y, G) :: r, x, F, h => by
    unfold tabF at h
    by_cases z : y = x
    · rw [if_pos z] at h
      cases h
      rw [z]
      exact List.mem_cons_self
    · rw [if_neg z] at h
      exact List.mem_cons_of_mem _ (tabF_mem h)
def dMeth (tab : List (Str × FF)) (m : Str) (fo : FE) (fa : FA) : FE := fun ρ S Q Ed => fo ρ S (fun d S1 => onSome (insOf S1 d) fun cf => lookF m cf.2 = none ∧ onSome (tabF tab cf.1) fun F => fa ρ S1 (fun ds S2 => F (d :: ds) S2 Q Ed) Ed) Ed
section
variable {X : Cx} {cx : CXT} {lv : Nat} {E : L2.St → XK} {ob a0 : Expr} {as : List Expr} {fo : FE} {fa : FA} {mn : Str} {tab : List (Str × FF)} {p1 p2 : Pos}
theorem d_meth {plan0 : Sem Bool} (hct : ct X = ct0 X.K X.mg) (hx : ∀ p ∈ tab, MF X.prog X.w X.K X.mg X.base cx lv mn p.1 p.2) (gd : X.A.guards = some []) (rm : Room lv X.A) (ps : ∀ σ, PassesAt cx X σ (E σ)) (he : PEd X E ob fo) (ha : PAd X E (a0 :: as) fa)
    (st1 : starEach (a0 :: as) X.env = (false, eval a0 X.env) :: starEach as X.env := by rfl) (st2 : (backTo p2 (starEach as X.env)).any (·.1) = false := by rfl)
    (evq : eval (.Call (.Attribute ob mn p1) (a0 :: as) [] p2) X.env = (do
      let recv ← eval ob X.env
      standAt p1.atName
      let (callee, fst0) ← holding [recv] (getMethod recv mn plan0)
      callWith p2 callee fst0 (backTo p2 (starEach (a0 :: as) X.env)) (backToKw p2 (keywordEach [] X.env))) := by rfl) :
    PEd X E (.Call (.Attribute ob mn p1) (a0 :: as) [] p2) (dMeth tab mn fo fa) := by
  refine ⟨fun pins s σ H Q I ⟨μ, S, ρ, Qd, Ed, w, en, hf, q, px⟩ => ?_⟩
  refine PySem.W.methodCall_KW (pl := plan0) (thn (he.run pins s σ H (fun v H1 => ∃ a C dx fv fn dat pars F d μ1 S1, v = .ref a ∧ H1 a = some (.ins C dx fv) ∧ fv.lookup mn = none ∧ Cls X.K C ∧ Meth X.K C mn fn ∧ Rb.FnG X.prog X.w X.K X.mg X.base cx lv fn dat pars (spF (ct X) F) ∧ Binds X.K dat pars [] ∧
      Wd (ct X) μ1 S1 H1 ∧ EnvR (ct X) μ1 H1 σ ρ ∧ Rp (ct X) μ1 H1 v d ∧ fa ρ S1 (fun ds S2 => F (d :: ds) S2 Qd Ed) Ed ∧ PostV (ct X) μ1 H1 Qd Q ∧ PX (ct X) μ1 H1 Ed (E σ)) I ?_) fun u s1 hu => ?_) evq
  · refine tR_of w en hf px fun d S1 v H1 μ1 h1 f1 w1 en1 px1 r1 => ?_
    obtain ⟨⟨x, fs⟩, e1, hn, h1⟩ := onSome_of h1
    obtain ⟨F, e2, h1⟩ := onSome_of h1
    obtain ⟨a, C, dx, fv, rfl, ha', hm, rf⟩ := id (r1.insT w1 e1)
    obtain ⟨fn, dat, pars, c1, c2, c3, c4⟩ := hx _ (tabF_mem e2) C hm
    rw [← hct] at c3
    exact ⟨a, C, dx, fv, fn, dat, pars, F, d, μ1, S1, rfl, ha', rf.none hn, c1, c2, c3, c4, w1, en1, r1, h1, PostV.fw q f1, px1⟩
  · obtain ⟨x, H1, I1, rel, a, C, dx, fv, fn, dat, pars, F, d, μ1, S1, rfl, ea, ln, c1, c2, c3, c4, w1, en1, r1, h1, q1, px1⟩ := hu
    obtain rfl : u = Value.ref a := rel
    refine getmeth_ok I1 ea c1 c2 ln ?_
    refine PySem.W.callWith_K (first := [.ref a]) (h₀ := X.base) I.ok.mod.kin c2.kp (thn (ha.run p2 pins s1 σ H1 (fun vs H2 => ∃ ds μ2 S2, Wd (ct X) μ2 S2 H2 ∧ RpAll (ct X) μ2 H2 (.ref a :: vs) (d :: ds) ∧ F (d :: ds) S2 Qd Ed ∧ PostV (ct X) μ2 H2 Qd Q ∧ PX (ct X) μ2 H2 Ed (E σ)) I1 ?_) fun us s2 hu => ?_) st1 st2
    · exact tR_of w1 en1 h1 px1 fun ds S2 vs H2 μ2 h2 f2 w2 en2 px2 r2 => ⟨ds, μ2, S2, w2, .cons (r1.fw w1 f2) r2, h2, PostV.fw q1 f2, px2⟩
    · obtain ⟨vs, H2, I2, rv, ds, μ2, S2, w2, r2, h2, q2, px2⟩ := hu
      exact ⟨I2.kIn, runGS (us := .ref a :: us) (xs := .ref a :: vs) c3 gd rm c4 (ps σ) I2 (.cons rfl rv) ⟨μ2, S2, d :: ds, Qd, Ed, w2, r2, h2, q2, px2⟩⟩
theorem d_meth0 {plan0 : Sem Bool} (hct : ct X = ct0 X.K X.mg) (hx : ∀ p ∈ tab, MF X.prog X.w X.K X.mg X.base cx lv mn p.1 p.2) (gd : X.A.guards = some []) (rm : Room lv X.A) (ps : ∀ σ, PassesAt cx X σ (E σ)) (he : PEd X E ob fo)
    (evq : eval (.Call (.Attribute ob mn p1) [] [] p2) X.env = (do
      let recv ← eval ob X.env
      standAt p1.atName
      let (callee, fst0) ← holding [recv] (getMethod recv mn plan0)
      callWith p2 callee fst0 (backTo p2 (starEach [] X.env)) (backToKw p2 (keywordEach [] X.env))) := by rfl) :
    PEd X E (.Call (.Attribute ob mn p1) [] [] p2) (dMeth tab mn fo dNil) := by
  refine ⟨fun pins s σ H Q I ⟨μ, S, ρ, Qd, Ed, w, en, hf, q, px⟩ => ?_⟩
  refine PySem.W.methodCall_KW (pl := plan0) (thn (he.run pins s σ H (fun v H1 => ∃ a C dx fv fn dat pars F d μ1 S1, v = .ref a ∧ H1 a = some (.ins C dx fv) ∧ fv.lookup mn = none ∧ Cls X.K C ∧ Meth X.K C mn fn ∧ Rb.FnG X.prog X.w X.K X.mg X.base cx lv fn dat pars (spF (ct X) F) ∧ Binds X.K dat pars [] ∧
      Wd (ct X) μ1 S1 H1 ∧ Rp (ct X) μ1 H1 v d ∧ F [d] S1 Qd Ed ∧ PostV (ct X) μ1 H1 Qd Q ∧ PX (ct X) μ1 H1 Ed (E σ)) I ?_) fun u s1 hu => ?_) evq
  · refine tR_of w en hf px fun d S1 v H1 μ1 h1 f1 w1 en1 px1 r1 => ?_
    obtain ⟨⟨x, fs⟩, e1, hn, h1⟩ := onSome_of h1
    obtain ⟨F, e2, h1⟩ := onSome_of h1
    obtain ⟨a, C, dx, fv, rfl, ha', hm, rf⟩ := id (r1.insT w1 e1)
    obtain ⟨fn, dat, pars, c1, c2, c3, c4⟩ := hx _ (tabF_mem e2) C hm
    rw [← hct] at c3
    exact ⟨a, C, dx, fv, fn, dat, pars, F, d, μ1, S1, rfl, ha', rf.none hn, c1, c2, c3, c4, w1, r1, h1, PostV.fw q f1, px1⟩
  · obtain ⟨x, H1, I1, rel, a, C, dx, fv, fn, dat, pars, F, d, μ1, S1, rfl, ea, ln, c1, c2, c3, c4, w1, r1, h1, q1, px1⟩ := hu
    obtain rfl : u = Value.ref a := rel
    refine getmeth_ok I1 ea c1 c2 ln ?_
    exact PySem.W.callWith_K0 (first := [.ref a]) I1.kIn c2.kp (runGS (us := [.ref a]) (xs := [.ref a]) c3 gd rm c4 (ps σ) I1 (.cons rfl .nil) ⟨μ1, S1, [d], Qd, Ed, w1, .cons r1 .nil, h1, q1, px1⟩)
end
end Pu
namespace Pu
open PySem PySem.Spec PyProof.Rows L2
/-! ## properties, new instances -/
section
variable {X : Cx} {k : Nat} {C p g a dx : Addr} {fs : List (Str × V)} {f : Str} {fd : FuncData} {ps : List Str} {sp : Sp} {E : XK}
theorem getpropG {pins : List (Addr × Obj)} {σ : L2.St} {H : Hp} {s : Shared} {Q : VK} {b : Bool} {E' : Value → Shared → Prop} (I : Inv X pins σ H s) (ea : H a = some (.ins C dx fs)) (c : Cls X.K C) (hp : PropOf X.K C f p g)
    (F : Rb.FnG X.prog X.w X.K X.mg X.base CX0 k g fd ps sp) (gd : X.A.guards = some []) (hr : Room (k + 1) X.A) (hb : Binds X.K fd ps []) (h : sp [.ref a] H Q E) : wpAny (model X.prog X.w) X.A (getAttr (.ref a) f b) (EP X pins σ Q) E' s := by
  obtain ⟨mm, ob, _, _, _, _⟩ := ins_get I.hok ea
  obtain ⟨od, J, _⟩ := ob.look
  obtain ⟨more, hrc⟩ := hp.rec_
  have J1 := I.tok (s.toks + 1)
  have hl : ([Value.ref a] ++ []).length = ps.length := by
    rw [← F.many _ _ _ _ h]
    rfl
  have hcl : (PySem.W.clsIn X.K C).isSome = true := by
    obtain ⟨cda, hcl, _⟩ := PySem.W.any_some c.hd
    rw [hcl]
    rfl
  refine PySem.W.get_bind I.kIn J (PySem.W.plainGet_of (c.get f)).1 (PySem.W.findObj_data hcl hp.at_ hp.get hp.tak) (PySem.W.plainGet_of (c.get f)).2 (wpAny_call (PySem.W.prop_get (s := { s with toks := s.toks + 1 }) I.kIn hrc ?_))
  refine codeAny_mono (F.goes X.A.in1 X.stack { s with toks := s.toks + 1 } H ⟨[.ref a], []⟩ [.ref a] [.ref a] Q E hr.in1 gd J1.env0.in1 (by have := hb _ [.ref a] J1.kIn hl; rw [List.append_nil] at this; exact this) (.cons rfl .nil) h) fun r s' hqq => ?_
  cases r with
  | error er => exact False.elim hqq
  | ok fl =>
    cases fl with
    | ret u =>
      obtain ⟨v, H', J3, rvv, qq3⟩ := J1.after hqq
      show wpAny _ X.A (handedOut u) _ _ _
      rw [PySem.W.handedOut_of (handed_of rvv)]
      exact wpAny_pure ⟨v, H', J3, rvv, qq3⟩
    | next => exact False.elim hqq
    | brk => exact False.elim hqq
    | cont => exact False.elim hqq
end
/-- of a class of the row: the name is a property whose getter means F -/
def PF (P : Program) (wo : World) (K : PySem.W.Frag) (mg : Str → Option Value) (b0 : Heap) (lv : Nat) (f : Str) (x : Str) (F : FF) : Prop :=
  ∀ C, mg x = some (.ref C) → ∃ p fn dat pars, Cls K C ∧ PropOf K C f p fn ∧ Rb.FnG P wo K mg b0 CX0 lv fn dat pars (spF (ct0 K mg) F) ∧ Binds K dat pars []
def dProp (tab : List (Str × FF)) (fo : FE) : FE := fun ρ S Q Ed => fo ρ S (fun d S1 => onSome (insOf S1 d) fun cf => onSome (tabF tab cf.1) fun F => F [d] S1 Q Ed) Ed
section
variable {X : Cx} {lv : Nat} {E : L2.St → XK} {e : Expr} {fo : FE} {f : Str} {tab : List (Str × FF)} {pos : Pos}
theorem d_prop (hct : ct X = ct0 X.K X.mg) (hx : ∀ p ∈ tab, PF X.prog X.w X.K X.mg X.base lv f p.1 p.2) (gd : X.A.guards = some []) (rm : Room (lv + 1) X.A) (he : PEd X E e fo)
    (hab : attributeBase e f X.env (eval e X.env) = eval e X.env := by rfl) : PEd X E (.Attribute e f pos) (dProp tab fo) := by
  refine ⟨fun pins s σ H Q I ⟨μ, S, ρ, Qd, Ed, w, en, hf, q, px⟩ => ?_⟩
  refine attr_of hab (thn (he.run pins s σ H (fun v H1 => ∃ a C dx fv p fn dat pars F d μ1 S1, v = .ref a ∧ H1 a = some (.ins C dx fv) ∧ Cls X.K C ∧ PropOf X.K C f p fn ∧ Rb.FnG X.prog X.w X.K X.mg X.base CX0 lv fn dat pars (spF (ct X) F) ∧ Binds X.K dat pars [] ∧
      Wd (ct X) μ1 S1 H1 ∧ Rp (ct X) μ1 H1 v d ∧ F [d] S1 Qd Ed ∧ PostV (ct X) μ1 H1 Qd Q ∧ PX (ct X) μ1 H1 Ed (E σ)) I ?_) fun u s1 hu => ?_)
  · refine tR_of w en hf px fun d S1 v H1 μ1 h1 f1 w1 en1 px1 r1 => ?_
    obtain ⟨⟨x, fs⟩, e1, h1⟩ := onSome_of h1
    obtain ⟨F, e2, h1⟩ := onSome_of h1
    obtain ⟨a, C, dx, fv, rfl, ha', hm, rf⟩ := id (r1.insT w1 e1)
    obtain ⟨p, fn, dat, pars, c1, c2, c3, c4⟩ := hx _ (tabF_mem e2) C hm
    rw [← hct] at c3
    exact ⟨a, C, dx, fv, p, fn, dat, pars, F, d, μ1, S1, rfl, ha', c1, c2, c3, c4, w1, r1, h1, PostV.fw q f1, px1⟩
  · obtain ⟨x, H1, J1, rel, a, C, dx, fv, p, fn, dat, pars, F, d, μ1, S1, rfl, ea, c1, c2, c3, c4, w1, r1, h1, q1, px1⟩ := hu
    obtain rfl : u = Value.ref a := rel
    exact getpropG J1 ea c1 c2 c3 gd rm c4 ⟨μ1, S1, [d], Qd, Ed, w1, .cons r1 .nil, h1, q1, px1⟩
end
/-! ### C(..) -/
section
variable {X : Cx} {cx : CXT} {k : Nat} {C f : Addr} {fd : FuncData} {ps : List Str} {sp : Sp} {E : XK}
theorem run_makeG {pins : List (Addr × Obj)} {σ : L2.St} {H : Hp} {s : Shared} {Q : VK} {us : List Value} {vs : List V} (M : Mk X.K C f) (F : Rb.FnG X.prog X.w X.K X.mg X.base cx k f fd ps sp) (gd : X.A.guards = some []) (hr : Room (k + 1) X.A) (hb : Binds X.K fd ps [])
    (hx : PassesAt cx X σ E) (I : Inv X pins σ H s) (r : Vals vs us)
    (h : ∀ x dx, H x = none → H dx = none → dx ≠ x → sp (.ref x :: vs) (upd (upd H dx (.own x)) x (.ins C dx [])) (fun v H2 => v = .non ∧ Q (.ref x) H2) E) : wpAny (model X.prog X.w) X.A (call (.ref C) us) (EP X pins σ Q) X.xe s := by
  have hqq := h (s.heap.objs.size + 1) s.heap.objs.size (I.hok.fresh (Nat.le_succ _)) (I.hok.fresh (Nat.le_refl _)) (Nat.ne_of_lt (Nat.lt_succ_self _))
  have J2 := Inv.made (C := C) I
  have rr2 : Vals (V.ref (s.heap.objs.size + 1) :: vs) (Value.ref (s.heap.objs.size + 1) :: us) := .cons rfl r
  have hl : (Value.ref (s.heap.objs.size + 1) :: us ++ []).length = ps.length := by
    rw [List.append_nil]
    have e := rr2.length
    rw [F.many _ _ _ _ hqq] at e
    exact e.symm
  have b := hb { s with heap := _ } (Value.ref (s.heap.objs.size + 1) :: us) J2.kIn hl
  rw [List.append_nil] at b
  refine wpAny_call (make_map (f := f) I.kIn M.makes M.init (beq_iff_eq.mp M.fn) (codeAny_mono (F.goes _ X.stack _ _ ⟨Value.ref (s.heap.objs.size + 1) :: us, []⟩ (Value.ref (s.heap.objs.size + 1) :: us) _ _ E (hr.make C us []) ?_
    (J2.env0.make C us []) b rr2 hqq) fun r s' hqz => ?_))
  · have e : (X.A.under (.builtin "type.__call__" ⟨Value.ref C :: us, []⟩)).guards = X.A.guards := by
      have z : (Code.builtin "type.__call__" ⟨Value.ref C :: us, []⟩).guards = [] := by
        unfold Code.guards
        rw [show (Code.builtin "type.__call__" ⟨Value.ref C :: us, []⟩).isGuard = false by with_unfolding_all rfl]
        rfl
      unfold Around.under
      simp only [z]
      cases X.A.guards <;> rfl
    rw [e]
    exact gd
  cases r with
  | error e => exact hx pins _ _ e s' J2 hqz
  | ok fl =>
    cases fl with
    | ret u =>
      obtain ⟨v, H', J3, rvv, ev, qq3⟩ := J2.after hqz
      subst ev
      exact ⟨rvv, ⟨V.ref (s.heap.objs.size + 1), H', J3, rfl, qq3⟩⟩
    | next => exact False.elim hqz
    | brk => exact False.elim hqz
    | cont => exact False.elim hqz
end
/-- of a class of the row: its __init__ means F -/
def MkF (P : Program) (wo : World) (K : PySem.W.Frag) (mg : Str → Option Value) (b0 : Heap) (cx : CXT) (lv : Nat) (C : Addr) (F : FF) : Prop :=
  ∃ fn dat pars, Mk K C fn ∧ Rb.FnG P wo K mg b0 cx lv fn dat pars (spF (ct0 K mg) F) ∧ Binds K dat pars []
def dMake (x : Str) (F : FF) (fa : FA) : FE := fun ρ S Q Ed => fa ρ S (fun ds S1 => F (.cell S1.length :: ds) (S1 ++ [.ins x []]) (fun d S2 => d = .non ∧ Q (.cell S1.length) S2) Ed) Ed
section
variable {X : Cx} {cx : CXT} {lv : Nat} {E : L2.St → XK} {C : Addr} {F : FF} {x : Str} {e : Expr} {es : List Expr} {fa : FA} {p pos : Pos}
theorem d_make (hct : ct X = ct0 X.K X.mg) (hC : MkF X.prog X.w X.K X.mg X.base cx lv C F) (gd : X.A.guards = some []) (rm : Room (lv + 1) X.A) (hg : Gl X x) (hm : X.mg x = some (.ref C)) (ps : ∀ σ, PassesAt cx X σ (E σ)) (ha : PAd X E (e :: es) fa)
    (ndb : (x == ("__debug__" : Str)) = false := by decide) (he : starEach (e :: es) X.env = (false, eval e X.env) :: starEach es X.env := by rfl) (hpl : (backTo pos (starEach es X.env)).any (·.1) = false := by rfl) :
    PEd X E (.Call (.Name x p) (e :: es) [] pos) (dMake x F fa) := by
  obtain ⟨fn, dat, pars, M, G, B⟩ := hC
  rw [← hct] at G
  refine ⟨fun pins s σ H Q I ⟨μ, S, ρ, Qd, Ed, w, en, hf, q, px⟩ => ?_⟩
  refine wpAny_Call_Name_kw (ld_glob I hg hm ?_ ndb)
  refine PySem.W.callWith_K (h₀ := X.base) I.ok.mod.kin M.kp (thn (ha.run pos pins s σ H (fun vs H1 => ∀ a dx, H1 a = none → H1 dx = none → dx ≠ a → spF (ct X) F (.ref a :: vs) (upd (upd H1 dx (.own a)) a (.ins C dx [])) (fun v H2 => v = .non ∧ Q (.ref a) H2) (E σ)) I ?_) fun us s1 ⟨vs, H1, J1, r, q1⟩ => ⟨J1.kIn, run_makeG M G gd rm B (ps σ) J1 r q1⟩) he hpl
  refine tR_of w en hf px fun ds S1 vs H1 μ1 h1 f1 w1 en1 px1 r1 a dx na nd ne => ?_
  have fA : Fw μ1 H1 μ1 (upd H1 dx (.own a)) := Fw.new nd
  have wA := w1.new (o := .own a) nd
  have na2 : upd H1 dx (HO.own a) a = none := by rw [upd_ne (Ne.symm ne)]; exact na
  have fB : Fw μ1 (upd H1 dx (.own a)) ⟨μ1.m ++ [a], μ1.av⟩ (upd (upd H1 dx (.own a)) a (.ins C dx [])) := Fw.newC na2
  have wB : Wd (ct X) ⟨μ1.m ++ [a], μ1.av⟩ (S1 ++ [.ins x []]) (upd (upd H1 dx (.own a)) a (.ins C dx [])) := wA.newC na2 ⟨C, dx, [], upd_same, hm, .nil⟩
  have rc : Rp (ct X) ⟨μ1.m ++ [a], μ1.av⟩ (upd (upd H1 dx (.own a)) a (.ins C dx [])) (.ref a) (.cell S1.length) := .cell (by
    show (μ1.m ++ [a])[S1.length]? = some a
    rw [← w1.len, List.getElem?_append_right (Nat.le_refl _), Nat.sub_self]
    rfl)
  refine ⟨⟨μ1.m ++ [a], μ1.av⟩, _, _, _, Ed, wB, .cons rc ((r1.fw w1 fA).fw wA fB), h1, fun d S' v H' μ' hqq fw w' r' => ?_, (px1.fw fA).fw fB⟩
  obtain ⟨rfl, hqq⟩ := hqq
  cases r'
  exact ⟨rfl, q _ S' _ H' μ' hqq (f1.trans (fA.trans (fB.trans fw))) w' (rc.fw wB fw)⟩
end
end Pu
namespace Pu
open PySem PySem.Spec PyProof.Rows L2
/-! ## values without a held error -/
mutual
def noX : D → Bool
  | .exc _ _ => false
  | .tup xs => noXs xs
  | .lst _ xs => noXs xs
  | .kls xs => noXs xs
  | .ins _ fs => noXf fs
  | _ => true
def noXs : List D → Bool
  | [] => true
  | x :: xs => noX x && noXs xs
def noXf : List (Str × D) → Bool
  | [] => true
  | (_, x) :: xs => noX x && noXf xs
end
/-- the same row, more errors held -/
structure CtLe (c c' : Ct) : Prop where
  K : c.K = c'.K
  mg : c.mg = c'.mg
  hx : ∀ a z, c.hx a = some z → c'.hx a = some z
section
variable {c c' : Ct} {μ : Mu} {H : Hp}
mutual
theorem Rp.ct (k : CtLe c c') : ∀ {v : V} {d : D}, Rp c μ H v d → Rp c' μ H v d
  | _, _, .non => .non
  | _, _, .bl b => .bl b
  | _, _, .int i => .int i
  | _, _, .str x => .str x
  | _, _, .tup h r => .tup h (RpAll.ct k r)
  | _, _, .lst h n1 n2 n3 r => .lst h n1 n2 n3 (RpAll.ct k r)
  | _, _, .kls h n1 n2 r => .kls h n1 n2 (RpAll.ct k r)
  | _, _, .klsK o its n h1 h2 h3 h4 h5 h6 r => .klsK o its n (k.K ▸ h1) h2 h3 h4 h5 h6 (RpAll.ct k r)
  | _, _, .dic h n n2 => .dic h n n2
  | _, _, .cell h => .cell h
  | _, _, .glo h r => .glo (k.mg ▸ h) r
  | _, _, .ty n => .ty n
  | _, _, .ins h n n2 g r => .ins h n n2 (k.mg ▸ g) (RpFs.ct k r)
  | _, _, .exc0 h g => .exc0 (k.hx _ _ h) (k.mg ▸ g)
  | _, _, .exc1 h g e r => .exc1 (k.hx _ _ h) (k.mg ▸ g) e (RpFs.ct k r)
theorem RpAll.ct (k : CtLe c c') : ∀ {vs : List V} {ds : List D}, RpAll c μ H vs ds → RpAll c' μ H vs ds
  | _, _, .nil => .nil
  | _, _, .cons h r => .cons (Rp.ct k h) (RpAll.ct k r)
theorem RpFs.ct (k : CtLe c c') : ∀ {vs : List (Str × V)} {ds : List (Str × D)}, RpFs c μ H vs ds → RpFs c' μ H vs ds
  | _, _, .nil => .nil
  | _, _, .cons h r => .cons (Rp.ct k h) (RpFs.ct k r)
end
/-! back, where no held error is mentioned -/
/-! where none is held, none is mentioned -/
end
section
variable {c c' : Ct} {μ μ' : Mu} {S : Sto} {H H' : Hp} {σ : L2.St} {ρ : Rho}
theorem Wd.ct (k : CtLe c c') (w : Wd c μ S H) : Wd c' μ S H := ⟨w.nd, w.len, w.ap, w.avs, fun i a x h1 h2 => by
  have := w.ok i a x h1 h2
  cases x with
  | lst ds =>
    obtain ⟨vs, e, r⟩ := this
    exact ⟨vs, e, r.ct k⟩
  | ins y fs =>
    obtain ⟨C, dx, fv, e, g, r⟩ := this
    exact ⟨C, dx, fv, e, k.mg ▸ g, r.ct k⟩⟩
theorem EnvR.ct (k : CtLe c c') (en : EnvR c μ H σ ρ) : EnvR c' μ H σ ρ := ⟨en.len, fun i d h => let ⟨v, e, r⟩ := en.ok i d h; ⟨v, e, r.ct k⟩⟩
end
/-! ## raise -/
def dRaise (x f : Str) (fe : FE) : FS := fun ρ S De Ed => fe ρ S (fun d S1 => Ed (x, [(f, d)]) S1) Ed
/-! ## statements in a try: what leaves by an error leans on the slots at their beginning -/
/-! ## try: .. except C as n: .. -/
theorem ct_calm {X : Cx} (h : X.calm = true) : ct X = ct0 X.K X.mg := by
  unfold ct
  rw [if_pos h]
end Pu
namespace Pu
open PySem PySem.Spec PyProof.Rows L2
/-! ## what a handler asks of its error -/
/-! ### isinstance -/
/-- of a class of errors x and a class named y (of the row or built in): whether y is above x -/
def lookX : List (Str × Str × Bool) → Str → Str → Option Bool
  | [], _, _ => none
  | (x, y, b) :: r, u, v => if x = u ∧ y = v then some b else lookX r u v
theorem lookX_mem : ∀ {tab : List (Str × Str × Bool)} {u v : Str} {b : Bool}, lookX tab u v = some b → (u, v, b) ∈ tab
  | [], _, _, _, h => by cases h
  | (x, y, c) :: r, u, v, b, h => by
    unfold lookX at h
    by_cases z : x = u ∧ y = v
    · rw [if_pos z] at h
      cases h
      obtain ⟨rfl, rfl⟩ := z
      exact List.mem_cons_self
    · rw [if_neg z] at h
      exact List.mem_cons_of_mem _ (lookX_mem h)
/-- what isinstance asks of a class of errors -/
structure OwnI (K : PySem.W.Frag) (C : Addr) : Prop where
  xf : XfC K C
  is : PySem.W.isClsIn K C = true
  cl : PySem.W.findIn K (.ref C) "__class__" = some (some (.builtin "object.__class__"))
  cg : PySem.W.specialIn K (.builtin "object.__class__") "__get__" = some (some (.builtin "getset_descriptor.__get__"))
  ct : PySem.W.takesIn K (.builtin "object.__class__") = some true
  co : PySem.W.mroIn K C (.type "object") = some true
def clsV (mg : Str → Option Value) (y : Str) (u : Value) : Prop := mg y = some u ∨ (mg y = none ∧ bootBuiltins y = some u)
def XI (K : PySem.W.Frag) (mg : Str → Option Value) (x y : Str) (b : Bool) : Prop := ∃ C, mg x = some (.ref C) ∧ OwnI K C ∧ ∀ u, clsV mg y u → PySem.W.kitOne K (.ref C) u = some b
def anyX (tab : List (Str × Str × Bool)) (x : Str) : List Str → Option Bool
  | [] => some false
  | y :: r => match lookX tab x y with | some true => some true | some false => anyX tab x r | none => none
/-- a class by its name, in an expression -/
structure ClE (X : Cx) (e : Expr) (y : Str) (u : Value) : Prop where
  ex : ∃ v, PE X e (tC v) ∧ ClsV v u
  at_ : clsV X.mg y u
/-- classes by their names -/
inductive ClEs (X : Cx) : List Expr → List Str → List Value → Prop where
  | nil : ClEs X [] [] []
  | cons {e : Expr} {es : List Expr} {y : Str} {ys : List Str} {u : Value} {us : List Value} (h : ClE X e y u) (r : ClEs X es ys us) (hs : starEach (e :: es) X.env = (false, eval e X.env) :: starEach es X.env := by rfl) : ClEs X (e :: es) (y :: ys) (u :: us)
section
variable {X : Cx} {E : L2.St → XK} {a : Addr} {oe : Obj} {pn : List (Addr × Obj)} {i : Nat} {tab : List (Str × Str × Bool)} {e ce : Expr} {ces : List Expr} {y : Str} {ys : List Str} {u : Value} {us : List Value} {p pos tpos : Pos} {kt : Nat}
theorem ClEs.any {K : PySem.W.Frag} {x : Str} {C : Addr} {X' : Cx} (hx : X'.mg x = some (.ref C)) (ht : ∀ z ∈ tab, XI K X'.mg z.1 z.2.1 z.2.2) : ∀ {es : List Expr} {ys : List Str} {us : List Value} {b : Bool}, ClEs X' es ys us → anyX tab x ys = some b → PySem.W.kitAny K (.ref C) us = some b
  | _, _, _, b, .nil, e => by cases e; rfl
  | _, _, _, b, .cons (y := y) h r _, e => by
    unfold anyX at e
    unfold PySem.W.kitAny
    cases e1 : lookX tab x y with
    | none => rw [e1] at e; cases e
    | some k =>
      rw [e1] at e
      obtain ⟨C', gC, _, hk⟩ := ht _ (lookX_mem e1)
      have : C' = C := by
        have z : X'.mg x = some (.ref C') := gC
        rw [hx] at z
        cases z
        rfl
      subst this
      rw [hk _ h.at_]
      cases k with
      | true => cases e; rfl
      | false => exact ClEs.any hx ht r e
end
end Pu
namespace Pu
open PySem PySem.Spec PyProof.Rows L2
/-! ## defs that may raise -/
theorem FnG_mono {pr : Program} {wo : World} {K : PySem.W.Frag} {mg : Str → Option Value} {b0 : Heap} {cx : CXT} {lv l2 : Nat} {fn : Addr} {dat : FuncData} {pars : List Str} {sp : Sp} (F : Rb.FnG pr wo K mg b0 cx lv fn dat pars sp) (h : lv ≤ l2) : Rb.FnG pr wo K mg b0 cx l2 fn dat pars sp :=
  ⟨F.many, fun A out s H ar us xs Q E r g e b v p => F.goes A out s H ar us xs Q E (r.mono h) g e b v p⟩
theorem passLG {X : Cx} : ∀ σ, PassesAt (L2.CX X.prog X.w) X σ (cE E0 σ) := fun σ pins H s e s' I z => (passL (X := X) pins σ H s e s' I z)
theorem passX {X : Cx} {E : XK} (tk : Takes X (fun cls d _ H => E cls d H)) : ∀ σ, PassesAt (L2.CX X.prog X.w) X σ (cE E σ) := fun σ => passAt tk σ
section
variable {pr : Program} {wo : World} {K : PySem.W.Frag} {mg : Str → Option Value} {b0 : Heap} {lv : Nat} {x qn : Str} {st : Stmt} {fn : Addr} {dat : FuncData} {NN pars : List Str} {fb : FS}
theorem d_fnX (F : Fun K x qn st fn dat) (S : FnScope NN pars (defScope st))
    (body : ∀ (cdv : Value) (A : Around) (out : List Env) (s : Shared) (H : Hp) (E : XK), A.guards = some [] → Room lv (A.deeper (envOfC qn (defScope st) s.heap.objs.size fn cdv)) → PBd (cxOf (L2.CX pr wo) pr wo K mg b0 NN qn (defScope st) fn cdv A out s H E) E (defBody st) fb) :
    Rb.FnG pr wo K mg b0 (L2.CX pr wo) (lv + 1) fn dat pars (spF (ct0 K mg) (dDefX pars.length NN.length fb)) := by
  obtain ⟨oc, od, kV, dc, pv, an, cdv, ct, osl, rfl, at_, code⟩ := F.ex
  refine Rb.fnG_of at_ code S (fun xs H Q E pro => ?_) fun A out s H xs Q E gd rm pro => ⟨_, body cdv A out s H E gd rm, ?_⟩
  · obtain ⟨μ, S, ds, Qd, Ed, w, r, ⟨hl, _⟩, _⟩ := pro
    rw [r.length]
    exact hl
  · obtain ⟨μ, S, ds, Qd, Ed, w, r, ⟨hl, h⟩, q, px⟩ := pro
    exact ⟨μ, S, _, _, Ed, w, startD_env r, h, ⟨fun ρ' S' σ' H' μ' hq f w' en => q .non S' .non H' μ' hq f w' .non, q, fun _ _ _ _ _ z => z.elim, fun _ _ _ _ _ z => z.elim⟩, px⟩
end
/-! ## list.count of bools -/
/-! ## isinstance of values, instances among them -/
end Pu
namespace Pu
open PySem PySem.Spec PyProof.Rows L2
/-! ## small words for the printed terms -/
theorem all0 {α : Type} {P : α → Prop} : ∀ x ∈ ([] : List α), P x := fun _ z => nomatch z
theorem allS {α : Type} {P : α → Prop} {a : α} {l : List α} (h : P a) (r : ∀ x ∈ l, P x) : ∀ x ∈ a :: l, P x := fun x hx => by
  rcases List.mem_cons.mp hx with rfl | hx
  · exact h
  · exact r x hx
section
variable {K : PySem.W.Frag} {mg : Str → Option Value} {x f y : Str} {C : Addr}
theorem clf (c : Cls K C) (g : mg x = some (.ref C)) (n : NoAttr K C f) : ClF K mg f x := fun C' h => by
  rw [g] at h
  cases h
  exact ⟨c, n⟩
theorem con_of {i : Int} {u : Value} (g : mg x = some (.ref C)) (c : Cls K C) (k : Con K C f (.int i) u) : ConI K mg f i x := fun C' h => by
  rw [g] at h
  cases h
  exact ⟨c, u, k⟩
theorem mf_of {P : Program} {w : World} {b0 : Heap} {cx : CXT} {lv : Nat} {m : Str} {F : FF} {fn : Addr} {dat : FuncData} {pars : List Str} (g : mg x = some (.ref C)) (c : Cls K C) (h : Meth K C m fn) (G : Rb.FnG P w K mg b0 cx lv fn dat pars (spF (ct0 K mg) F)) (b : Binds K dat pars []) : MF P w K mg b0 cx lv m x F := fun C' z => by
  rw [g] at z
  cases z
  exact ⟨_, _, _, c, h, G, b⟩
theorem pf_of {P : Program} {w : World} {b0 : Heap} {lv : Nat} {F : FF} {fn p : Addr} {dat : FuncData} {pars : List Str} (g : mg x = some (.ref C)) (c : Cls K C) (h : PropOf K C f p fn) (G : Rb.FnG P w K mg b0 CX0 lv fn dat pars (spF (ct0 K mg) F)) (b : Binds K dat pars []) : PF P w K mg b0 lv f x F := fun C' z => by
  rw [g] at z
  cases z
  exact ⟨_, _, _, _, c, h, G, b⟩
end
end Pu
namespace Pu
open PySem PySem.Spec PyProof.Rows L2
/-! ## len(o), o[i]: a class's own methods -/
section
variable {X : Cx} {cx : CXT} {lv : Nat} {fn : Addr} {dat : FuncData} {pars : List Str} {sp : Sp}
theorem runGS1 {pins : List (Addr × Obj)} {σ : L2.St} {H : Hp} {s : Shared} {Q : VK} {us : List Value} {xs : List V} {E1 : XK} (F : Rb.FnG X.prog X.w X.K X.mg X.base cx lv fn dat pars sp) (gd : X.A.guards = some []) (rm : Room (lv + 1) X.A)
    (bi : Binds X.K dat pars []) (ps : PassesAt cx X σ E1) (I : Inv X pins σ H s) (vx : Vals xs us) (pro : sp xs H Q E1) :
    wpAny (model X.prog X.w) X.A.in1 (call (.ref fn) us) (EP X pins σ Q) X.xe s := by
  have l2 : (us ++ []).length = pars.length := by rw [List.append_nil]; exact vx.length ▸ F.many _ _ _ _ pro
  have b := bi s us I.kIn l2
  rw [List.append_nil] at b
  refine wpAny_call (codeAny_mono (F.goes X.A.in1 X.stack s H ⟨us, []⟩ us xs Q E1 rm.in1 gd I.env0.in1 b vx pro) ?_)
  intro res s2 fin
  match res, fin with
  | .error e, fin => exact ps pins H s e s2 I fin
  | .ok (.ret u), fin => exact I.after fin
  | .ok .next, fin => exact (fin : False).elim
  | .ok .brk, fin => exact (fin : False).elim
  | .ok .cont, fin => exact (fin : False).elim
end
def asLen (Q : QD) : QD := fun r S => match r with
  | .int n => (0 ≤ n ∧ n < 2 ^ 63) ∧ Q (.int n) S
  | _ => False
/-- len of an instance -/
def gLenO (tab : List (Str × FF)) : List D → Sto → QD → Prop := fun ds S Q => match ds with
  | [d] => onSome (insOf S d) fun cf => onSome (tabF tab cf.1) fun F => F [d] S (asLen Q) noE
  | _ => False
def LnF (P : Program) (wo : World) (K : PySem.W.Frag) (mg : Str → Option Value) (b0 : Heap) (lv : Nat) (x : Str) (F : FF) : Prop :=
  ∀ C, mg x = some (.ref C) → ∃ fn dat pars, PySem.W.findIn K (.ref C) "__len__" = some (some (.ref fn)) ∧ PySem.W.isFn K (.ref fn) = true ∧ Rb.FnG P wo K mg b0 CX0 lv fn dat pars (spF (ct0 K mg) F) ∧ Binds K dat pars []
section
variable {X : Cx} {cx : CXT} {lv : Nat} {tab : List (Str × FF)}
theorem c_lenO (hct : ct X = ct0 X.K X.mg) (hx : ∀ p ∈ tab, LnF X.prog X.w X.K X.mg X.base lv p.1 p.2) (gd : X.A.guards = some []) (rm : Room (lv + 1) X.A) : CallR X (.builtin "len") (rDs (ct X) (gLenO tab)) := by
  intro pins s σ H vs us Q I r ⟨μ, S, ds, Qd, w, ra, hg, q⟩
  unfold gLenO at hg
  split at hg
  · obtain ⟨v, rfl, rv⟩ := ra.one
    obtain ⟨⟨x, fs⟩, e1, hg⟩ := onSome_of hg
    obtain ⟨F, e2, hg⟩ := onSome_of hg
    obtain ⟨a, C, dx, fv, rfl, ea, hm, rf⟩ := id (rv.insT w e1)
    obtain ⟨fn, dat, pars, c1, c2, c3, c4⟩ := hx _ (tabF_mem e2) C hm
    rw [← hct] at c3
    obtain ⟨u, rfl, ru⟩ := vals1 r
    obtain rfl : u = Value.ref a := ru
    obtain ⟨mm, ob, _, _, _, _⟩ := ins_get I.hok ea
    obtain ⟨od, J, _⟩ := ob.look
    obtain ⟨m, fr⟩ := I.fr
    have run := runGS1 (us := [.ref a]) (xs := [.ref a]) (Q := fun v H' => ∃ n, v = .int n ∧ (0 ≤ n ∧ n < 2 ^ 63) ∧ Q (.int n) H') (E1 := fun _ _ _ => False) c3 gd rm c4 (passG (E := fun _ _ _ _ => False) σ) I (.cons rfl .nil) ⟨μ, S, [_], asLen Qd, noE, w, .cons rv .nil, hg, fun d S' v H' μ' hq f w' r => by
      unfold asLen at hq
      split at hq
      · exact ⟨_, r.int_inv, hq.1, q _ S' _ H' μ' hq.2 f w' (.int _)⟩
      · exact hq.elim, fun e S' cls dx H' μ' z => z.elim⟩
    refine PySem.W.len_K fr I.ok.mod.kin J c1 c2 (wpAny_mono run (fun u' s' hu => ?_) fun _ _ z => z)
    obtain ⟨v, H', I', rv', n, rfl, hb, hq⟩ := hu
    obtain ⟨t, rfl⟩ := rv'
    exact ⟨hb, .int n, H', I'.tok _, ⟨_, rfl⟩, hq⟩
  · exact hg.elim
end
theorem ln_of {P : Program} {wo : World} {K : PySem.W.Frag} {mg : Str → Option Value} {b0 : Heap} {lv : Nat} {x : Str} {F : FF} {C fn : Addr} {dat : FuncData} {pars : List Str} (g : mg x = some (.ref C)) (a : PySem.W.findIn K (.ref C) "__len__" = some (some (.ref fn))) (b : PySem.W.isFn K (.ref fn) = true)
    (G : Rb.FnG P wo K mg b0 CX0 lv fn dat pars (spF (ct0 K mg) F)) (B : Binds K dat pars []) : LnF P wo K mg b0 lv x F := fun C' h => by
  rw [g] at h
  cases h
  exact ⟨fn, dat, pars, a, b, G, B⟩
end Pu
namespace Pu
open PySem PySem.Spec PyProof.Rows L2
/-! ## own errors over any built-in class: with one field, or with none -/
/-- of a class of errors: over the built-in class whose order of classes is bs, whose objects nw makes -/
structure ErrC (kit : PySem.W.Frag) (at_ : Addr) (bs : List Value) (nw : String) : Prop where
  mkd : PySem.W.excInitIn kit at_ bs nw = true
  ov : PySem.W.excOver kit at_ bs = true
  hd : PySem.W.hasDictIn kit at_ = true
  sa : PySem.W.findIn kit (.ref at_) "__setattr__" = some (some (.builtin "object.__setattr__"))
  ex : PySem.W.subIn kit (.ref at_) (.type "BaseException") = some true
  ty : PySem.W.typeIn kit (.ref at_) = some (.type "type")
  kp : PySem.W.keepIn kit (.ref at_) = true
section
variable {X : Cx} {pins : List (Addr × Obj)} {σ : L2.St} {H : Hp} {s : Shared} {a C : Addr} {f : Str} {y : V} {u : Value} {bs : List Value} {nw B : String}
theorem upd_twice {a b : Addr} {o p q : HO} (n : a ≠ b) : upd (upd (upd H b o) a p) b q = upd (upd H b q) a p := by
  funext z
  by_cases h1 : z = b
  · subst h1
    rw [upd_same, upd_ne (Ne.symm n), upd_same]
  · rw [upd_ne h1]
    by_cases h2 : z = a
    · subst h2
      rw [upd_same, upd_same]
    · rw [upd_ne h2, upd_ne h2, upd_ne h1, upd_ne h1]
/-- the first field of an error that is being made: in three steps, the empty dict, the error that has it, the field in it -/
theorem put_first (T : ErrC X.K C bs nw) (SF : StoreFacts B bs "object.__setattr__" "object") (I : Inv X pins σ H s) (at_ : H a = some (exo a C none)) (no : PySem.W.findIn X.K (.ref C) f = some none) (ry : RelV y u) {A : Around} {Q : Unit → Shared → Prop} {E : Value → Shared → Prop}
    (k : ∀ n s', H n = none → n ≠ a → Inv X pins σ (upd (upd H n (exd n [(f, y)])) a (exo a C (some n))) s' → Q () s') : wpAny (model X.prog X.w) A (setAttr (.ref a) f u) Q E s := by
  obtain ⟨t1, here⟩ := exo_at I.hok at_
  obtain ⟨cd, hc, hasd⟩ := PySem.W.any_some T.hd
  obtain ⟨hp, gs, dr, tk, os⟩ := s
  have lt : a < hp.objs.size := Heap.lt_size here
  have tkr : PySem.W.takerIn X.K C f = some none := by unfold PySem.W.takerIn; rw [no]; rfl
  refine PySem.W.set_plain I.kIn (od := none) ⟨here, rfl, rfl, trivial⟩ T.sa (PySem.W.osa_openX (od := none) SF I.kIn ⟨here, rfl, rfl, trivial⟩ T.ov tkr fun b => ?_)
  refine wpAny_bind (wpAny_pure (wpAny_bind (PySem.W.instanceDict_exc here (PySem.W.looks_clsIn I.kIn hc) hasd ?_)))
  have newd : (hp.push (PySem.W.dictOf [] 0)).get? hp.objs.size = some (PySem.W.dictOf [] 0) := Heap.get?_push_at rfl rfl
  have empty : (hp.push (PySem.W.dictOf [] 0)).Ns hp.objs.size (fun _ => none) := ⟨_, #[], _, newd, rfl, fun e he => absurd he (by simp), fun _ => rfl⟩
  have stay : ∀ b o, b ≠ a → (hp.push (PySem.W.dictOf [] 0)).get? b = some o → ((hp.push (PySem.W.dictOf [] 0)).update a fun o => { o with dict := some hp.objs.size }).get? b = some o := fun b o n q => (Heap.get?_update_ne _ _ _ _ n).trans q
  have has : ((hp.push (PySem.W.dictOf [] 0)).update a fun o => { o with dict := some hp.objs.size }).get? a = some ({ cls := .ref C, dict := some hp.objs.size, data := .fields #[.ref t1, .none, .none, .none, .bool false, .none] } : Obj) := Heap.get?_update_self _ (Heap.get?_push_of_some _ here) rfl
  have I1 := I.laid (a := hp.objs.size) (o := exd hp.objs.size []) (h' := hp.push (PySem.W.dictOf [] 0)) (t' := tk) (fun b o q => Heap.get?_push_of_some _ q) (Nat.le_refl _) (exd_ok (Heap.Ns1.of_empty empty) fun _ => True.intro)
  have I2 := I1.write (x := a) (e := a) (o := exo a C (some hp.objs.size)) (t' := tk) (by rw [upd_ne (Nat.ne_of_lt lt), at_]; exact True.intro) (.inl rfl) stay ⟨_, has⟩ (exo_ok has)
  show wpAny _ _ (Builtin.ObjectAttr.storeInDict hp.objs.size (.str f _) f u) _ _ _
  refine PySem.HandSPX.store_in_new ⟨_, #[], _, stay _ _ (Nat.ne_of_gt lt) newd, rfl, fun e he => absurd he (by simp), fun _ => rfl⟩ fun h' t' named same => ?_
  have I3 := I2.write (x := hp.objs.size) (e := hp.objs.size) (o := exd hp.objs.size [(f, y)]) (t' := t') (h' := h') (by rw [upd_ne (Nat.ne_of_gt lt), upd_same]; exact True.intro) (.inl rfl) (fun b o n q => (same.2 b n).trans q)
    (by obtain ⟨o, _, _, e', _⟩ := named; exact ⟨o, e'⟩) (exd_ok named (relO_put (fs := []) ry fun _ => True.intro))
  rw [upd_twice (Nat.ne_of_lt lt)] at I3
  exact k _ _ (I.hok.fresh (Nat.le_refl _)) (Nat.ne_of_gt lt) I3
/-- self.f = e in the __init__ of such a class -/
def tPutE (K : PySem.W.Frag) (bs : List Value) (nw : String) (f : Str) (to te : TE) : TS := fun D σ H => te σ H fun y H1 => to σ H1 fun x H2 => ∃ a C : Addr, (x = .ref a ∧ H2 a = some (exo a C none)) ∧ ErrC K C bs nw ∧ PySem.W.findIn K (.ref C) f = some none ∧
  ∀ n, H2 n = none → n ≠ a → D.nx σ (upd (upd H2 n (exd n [(f, y)])) a (exo a C (some n)))
theorem ps_putE (SF : StoreFacts B bs "object.__setattr__" "object") {o e : Expr} {to te : TE} {p' pos : Pos} (ho : PE X o to) (he : PE X e te) (sw : swapsWith e (some (.Attribute o f p')) pos.line X.env = pure false := by rfl) :
    PS X (.Assign [.Attribute o f p'] e pos) (tPutE X.K bs nw f to te) := by
  refine ⟨fun pins s σ H D I pre => plainObj_wpAny_Assign_Attribute (thn (he.run pins s σ H _ I pre) fun _ s1 ⟨y, H1, I1, ry, q1⟩ => thn (ho.run pins s1 σ H1 _ I1 q1) fun _ s2 ⟨x, H2, I2, rx, a, C, ⟨ex, at_⟩, T, no, go⟩ => ?_) sw⟩
  subst ex
  cases rx
  exact put_first T SF I2 at_ no ry fun n s' fresh ne J => ⟨σ, _, J, go n fresh ne⟩
/-- __init__(self, f): self.f = f -/
theorem iniE {P : Program} {w : World} {K : PySem.W.Frag} {mg : Str → Option Value} {base : Heap} {fI : Addr} {fd : FuncData} {x qn : Str} {st : Stmt} {s0 : Str} (F : Fun K x qn st fI fd) (S : FnScope [s0, f] [s0, f] (defScope st)) (T : ErrC K C bs nw) (no : PySem.W.findIn K (.ref C) f = some none)
    (b : ∀ (cdv : Value) (A : Around) (out : List Env) (s : Shared) (H : Hp) (E : XK), PSs (cxOf CX0 P w K mg base [s0, f] qn (defScope st) fI cdv A out s H E).nox (defBody st) (tPutE K bs nw f (tVar 0) (tVar 1))) : FnOk P w K mg base CX0 1 fI fd [s0, f] (Rb.spIni K C f) := by
  refine F.ok S (fun vs H Q E ⟨a, y, e, _⟩ => by rw [e]; rfl) fun cdv A outer s H vs Q E rm ⟨a, y, e, at_, go⟩ => ?_
  subst e
  exact ⟨_, b cdv A outer s H E, _, rfl, _, rfl, a, C, ⟨rfl, at_⟩, T, no, go⟩
/-- C(e): the error is made, its one field is the value -/
theorem pmkE {ini : String} {x : Str} {e : Expr} {te : TE} {fI : Addr} {lv : Nat} {fd : FuncData} {sps : List Str} {p pos : Pos} (FB : ExcBaseFacts B nw ini bs) (T : ErrC X.K C bs nw) (iC : PySem.W.findIn X.K (.ref C) "__init__" = some (some (.ref fI)))
    (tI : PySem.W.typeIn X.K (.ref fI) = some (.type "function")) (G : FnOk X.prog X.w X.K X.mg X.base CX0 lv fI fd sps (Rb.spIni X.K C f)) (rm : Room (lv + 1) X.A) (hb : Binds X.K fd sps []) (gl : Gl X x) (at_ : X.mg x = some (.ref C)) (he : PE X e te)
    (ndb : (x == ("__debug__" : Str)) = false := by decide) (s1 : starEach [e] X.env = (false, eval e X.env) :: starEach [] X.env := by rfl) (s2 : (backTo pos (starEach [] X.env)).any (·.1) = false := by rfl) :
    PMk X (.Call (.Name x p) [e] [] pos) (fun σ H Q => te σ H fun y H1 => ∀ n, H1 n = none → Q (.ref C) (some n) (upd H1 n (.xd [(f, y)]))) := by
  intro pins s σ H Q I pre
  have pa : PA X [e] (tCons te tNil) := pa_cons he pa_nil s1
  refine wpAny_Call_Name_kw (ld_glob I gl at_ ?_ ndb)
  refine PySem.W.callWith_K (h₀ := X.base) I.ok.mod.kin T.kp (thn (pa.run pos pins s σ H (fun vs H1 => match vs with | [y] => ∀ n, H1 n = none → Q (.ref C) (some n) (upd H1 n (.xd [(f, y)])) | _ => False) I pre) fun us s1 ⟨vs, H1, I1, rs, q1⟩ => ⟨I1.kIn, ?_⟩) s1 s2
  match vs, q1 with
  | [y], q1 =>
    obtain ⟨u, rfl, ru⟩ := rs.one
    obtain ⟨nm, N, qn, bs', bm, hdct, sn, sub, ab, col, dd, k0, k1, k2, k3, k5, isC, tail⟩ := PySem.W.excInit_of I1.kIn T.mkd
    obtain ⟨hp, gs, dr, tk, os⟩ := s1
    have fresh : H1 (hp.objs.size + 1) = none := I1.hok.fresh (Nat.le_succ _)
    have old : ∀ b o, hp.get? b = some o → ((hp.push (PySem.W.kdv_tup [u])).push (PySem.HandSPX.excO C hp.objs.size)).get? b = some o := fun b o z => Heap.get?_push_of_some _ (Heap.get?_push_of_some _ z)
    have made : ((hp.push (PySem.W.kdv_tup [u])).push (PySem.HandSPX.excO C hp.objs.size)).get? (hp.objs.size + 1) = some (PySem.HandSPX.excO C hp.objs.size) := by heap_get
    have I2 := I1.laid (t' := tk) (a := hp.objs.size + 1) (o := exo (hp.objs.size + 1) C none) old (Nat.le_succ _) (exo_ok made)
    have rs2 : Vals [V.ref (hp.objs.size + 1), y] [Value.ref (hp.objs.size + 1), u] := .cons rfl (.cons ru .nil)
    have job := (Rb.mkO_of (K := X.K) (C := C) (f := f) (y := y) (W := Q) q1).2 (hp.objs.size + 1) fresh
    have many : [Value.ref (hp.objs.size + 1), u].length = sps.length := rs2.length.symm.trans (G.len _ _ _ _ job)
    refine wpAny_call (PySem.HandSPX.call_own FB tail isC (PySem.W.looks_findIn I1.kIn iC) (fun self => PySem.W.bind_fn I1.kIn self tI) (by show 1 ≤ sizeLine; rw [sizeLine_eq]; omega) ?_)
    refine codeAny_mono (G.run _ X.stack _ _ ⟨[Value.ref (hp.objs.size + 1), u], []⟩ [Value.ref (hp.objs.size + 1), u] _ _ (fun _ _ _ => False) (rm.make C [u] []) (I2.env0.make C [u] []) (hb _ _ I2.kIn many) rs2 job) fun r s' fin => ?_
    match r, fin with
    | .ok (.ret w), fin =>
      obtain ⟨v, H2, os2, bare, un, hok, rv, rfl, n, fs, ea, ed, hn, q2⟩ := fin
      exact ⟨rv, mk_end (raises_own T.ex T.ty) I1 (Nat.le_succ _) old un hok os2 bare ea ed hn q2⟩
    | .ok .next, fin => exact (fin : False).elim
    | .ok .brk, fin => exact (fin : False).elim
    | .ok .cont, fin => exact (fin : False).elim
    | .error er, fin =>
      obtain ⟨_, _, _, _, _, _, _, _, _, _, _, _, _, _, _, _, z⟩ := fin
/-- C(): no field -/
theorem pmkE0 {ini : String} {x : Str} {p pos : Pos} (FB : ExcBaseFacts B nw ini bs) (q : PySem.W.excIn X.K C bs nw = true) (kp : PySem.W.keepIn X.K (.ref C) = true) (r : Raises X (.ref C)) (gl : Gl X x) (at_ : X.mg x = some (.ref C)) (ndb : (x == ("__debug__" : Str)) = false := by decide) :
    PMk X (.Call (.Name x p) [] [] pos) (fun _ H Q => Q (.ref C) none H) := by
  intro pins s σ H Q I pre
  refine wpAny_Call_Name_kw (ld_glob I gl at_ (PySem.W.callWith_K0 I.kIn kp ?_) ndb)
  obtain ⟨bm, N, nm, qn, bs', hdct, sn, sub, ab, col, dd, k0, k1, k2, k3, k5, mN, isC, isN, noI, T⟩ := exc_obj I.kIn q
  obtain ⟨hp, gs, dr, tk, os⟩ := s
  exact wpAny_call_exc_subT FB T isC isN noI (fun h' e made => mk_of I made r pre (I.hok.gone made.new)) (Nat.zero_le _)
end
section
variable {X : Cx} {E : XK} {C fI : Addr} {fd : FuncData} {lv : Nat} {x f : Str} {sps : List Str} {e : Expr} {fe : FE} {bs : List Value} {nw B ini : String} {p p2 pos : Pos}
/-- raise C(e) -/
theorem d_raiseE (hc : X.calm = true) (tk : Takes X (fun cls d _ H => E cls d H)) (FB : ExcBaseFacts B nw ini bs) (T : ErrC X.K C bs nw) (iC : PySem.W.findIn X.K (.ref C) "__init__" = some (some (.ref fI))) (tI : PySem.W.typeIn X.K (.ref fI) = some (.type "function"))
    (G : FnOk X.prog X.w X.K X.mg X.base CX0 lv fI fd sps (Rb.spIni X.K C f)) (rm : Room (lv + 1) X.A) (hb : Binds X.K fd sps []) (gl : Gl X x) (at_ : X.mg x = some (.ref C)) (he : PEd X (cE E) e fe)
    (ndb : (x == ("__debug__" : Str)) = false := by decide) (s1 : starEach [e] X.env = (false, eval e X.env) :: starEach [] X.env := by rfl) (s2 : (backTo p2 (starEach [] X.env)).any (·.1) = false := by rfl) :
    PSd X E (.Raise (some (.Call (.Name x p) [e] [] p2)) none pos) (dRaise x f fe) := by
  refine PS.imp (ps_raise hc tk (pmkE FB T iC tI G rm hb gl at_ he ndb s1 s2)) fun D σ H ⟨μ, S, ρ, De, Ed, w, en, hf, k, px⟩ => ?_
  exact tR_of w en hf px fun d S1 v H1 μ1 h1 f1 w1 en1 px1 r1 n free => px1 (x, [(f, d)]) S1 (.ref C) (some n) _ μ1 h1 (Fw.new free) (w1.new free) ⟨at_, n, [(f, v)], rfl, upd_same, .cons (r1.fw w1 (Fw.new free)) .nil⟩
/-- raise C() -/
def dRaise0 (x : Str) : FS := fun _ S _ Ed => Ed (x, []) S
theorem d_raiseE0 (hc : X.calm = true) (tk : Takes X (fun cls d _ H => E cls d H)) (FB : ExcBaseFacts B nw ini bs) (q : PySem.W.excIn X.K C bs nw = true) (kp : PySem.W.keepIn X.K (.ref C) = true) (ex : PySem.W.subIn X.K (.ref C) (.type "BaseException") = some true) (ty : PySem.W.typeIn X.K (.ref C) = some (.type "type"))
    (gl : Gl X x) (at_ : X.mg x = some (.ref C)) (ndb : (x == ("__debug__" : Str)) = false := by decide) : PSd X E (.Raise (some (.Call (.Name x p) [] [] p2)) none pos) (dRaise0 x) := by
  refine PS.imp (ps_raise hc tk (pmkE0 FB q kp (raises_own ex ty) gl at_ ndb)) fun D σ H ⟨μ, S, ρ, De, Ed, w, en, hf, k, px⟩ => ?_
  exact px (x, []) S (.ref C) none H μ hf Fw.refl w ⟨at_, rfl⟩
end
end Pu
namespace Pu
open PySem PySem.Spec PyProof.Rows L2
/-! ## a class's own operators: a + b, a >> i, a == b, x in a, a(x) -/
/-- what stands when both operands are there -/
def Two (X : Cx) (cx : CXT) (lv : Nat) (E1 : XK) (Q : VK) (x y : V) (H : Hp) (Y : Addr → Addr → V → Hp → Prop) : Prop :=
  ∃ (a C dx : Addr) (fv : List (Str × V)) (fn : Addr) (dat : FuncData) (pars : List Str) (F : FF) (d i : D) (μ : Mu) (S : Sto) (Qd : QD) (Ed : ED), (x = .ref a ∧ H a = some (.ins C dx fv) ∧ Y C fn y H) ∧
    Rb.FnG X.prog X.w X.K X.mg X.base cx lv fn dat pars (spF (ct X) F) ∧ Binds X.K dat pars [] ∧ Wd (ct X) μ S H ∧ Rp (ct X) μ H x d ∧ Rp (ct X) μ H y i ∧ F [d, i] S Qd Ed ∧ PostV (ct X) μ H Qd Q ∧ PX (ct X) μ H Ed E1
section
variable {X : Cx} {cx : CXT} {lv : Nat} {tab : List (Str × FF)}
theorem Two.run {pins : List (Addr × Obj)} {σ : L2.St} {s : Shared} {E1 : XK} {Q : VK} {x y : V} {v u : Value} {H : Hp} {Y : Addr → Addr → V → Hp → Prop} (gd : X.A.guards = some []) (rm : Room lv X.A) (ps : PassesAt cx X σ E1) (I : Inv X pins σ H s) (rx : RelV x v) (ry : RelV y u) (t : Two X cx lv E1 Q x y H Y) :
    ∃ (a C fn : Addr) (ox : Obj) (od : Option Obj) (m : Str → Option Value), v = .ref a ∧ Y C fn y H ∧ ox.data = .plain ∧ PySem.W.InstAt s.heap a ox C od ∧ Fr X.base X.env.locals s.heap m ∧ wpAny (model X.prog X.w) X.A (call (.ref fn) [.ref a, u]) (EP X pins σ Q) X.xe s := by
  obtain ⟨a, C, dx, fv, fn, dat, pars, F, d, i, μ, S, Qd, Ed, ⟨rfl, ea, hy⟩, c4, c5, w2, r1, r2, h2, q2, px2⟩ := t
  obtain rfl : v = Value.ref a := rx
  obtain ⟨mm, ob, _, _, _, _⟩ := ins_get I.hok ea
  obtain ⟨od, J, _⟩ := ob.look
  obtain ⟨m, fr⟩ := I.fr
  exact ⟨a, C, fn, _, od, m, rfl, hy, rfl, J, fr, runGS (us := [.ref a, u]) (xs := [.ref a, y]) c4 gd rm c5 ps I (.cons rfl (.cons ry .nil)) ⟨μ, S, [d, i], Qd, Ed, w2, .cons r1 (.cons r2 .nil), h2, q2, px2⟩⟩
end
end Pu
namespace Pu
open PySem PySem.Spec PyProof.Rows L2
/-! ## texts: sep.join(xs), f-strings -/
def onStr (d : D) (k : Str → Prop) : Prop := match d with | .str a => k a | _ => False
theorem onStr_of {d : D} {k : Str → Prop} (h : onStr d k) : ∃ a, d = .str a ∧ k a := by
  unfold onStr at h
  split at h
  · exact ⟨_, rfl, h⟩
  · exact h.elim
def strsOf : List D → Option (List Str)
  | [] => some []
  | .str x :: ds => match strsOf ds with | some xs => some (x :: xs) | none => none
  | _ :: _ => none
theorem strsOf_map : ∀ ys : List Str, strsOf (ys.map D.str) = some ys
  | [] => rfl
  | y :: ys => by
    show (match strsOf (ys.map D.str) with | some xs => some (y :: xs) | none => none) = _
    rw [strsOf_map ys]
theorem strsOf_vals {c : Ct} {μ : Mu} {H : Hp} : ∀ {vs : List V} {ds : List D} {ys : List Str}, RpAll c μ H vs ds → strsOf ds = some ys → vs = ys.map V.str
  | _, _, _, .nil, e => by cases e; rfl
  | _, _, _, .cons (d := d) (ds := ds) r rs, e => by
    cases d with
    | str x =>
      unfold strsOf at e
      cases hs : strsOf ds with
      | none => rw [hs] at e; cases e
      | some xs =>
        rw [hs] at e
        cases e
        cases r
        rw [strsOf_vals rs hs]
        rfl
    | _ => cases e
def dJoin (fo fe : FE) : FE := fun ρ S Q Ed => fo ρ S (fun x S1 => onStr x fun a => fe ρ S1 (fun d S2 => onSome (seqOf S2 d) fun es => onSome (strsOf es) fun ys => (ys.map (·.length)).sum + ys.length * a.length ≤ 100000 ∧ Q (.str (Txt.join a ys)) S2) Ed) Ed
def dFmt (fe : FE) : FE := fun ρ S Q Ed => fe ρ S (fun d S1 => match d with | .str y => y.length ≤ sizeLine ∧ Q (.str y) S1 | .int i => i.natAbs < 2 ^ 1000 ∧ Q (.str (toString i)) S1 | _ => False) Ed
def dJs : List FE → Str → FE
  | [], acc => fun _ S Q _ => Q (.str acc) S
  | f :: fs, acc => fun ρ S Q Ed => f ρ S (fun d S1 => onStr d fun y => (acc ++ y).length ≤ sizeLine ∧ dJs fs (acc ++ y) ρ S1 Q Ed) Ed
section
variable {X : Cx} {E : L2.St → XK} {o e : Expr} {fo fe : FE}
theorem d_join {apos pos : Pos} (ho : PEd X E o fo) (he : PEd X E e fe) (hs : starEach [e] X.env = [(false, eval e X.env)] := by rfl) (hbase : attributeBase o "join" X.env (eval o X.env) = eval o X.env := by rfl) (hline : (apos.endLine == pos.line) = true := by rfl) :
    PEd X E (.Call (.Attribute o "join" apos) [e] [] pos) (dJoin fo fe) := by
  refine PE.imp (pe_join ho he hs hbase hline) fun σ H Q ⟨μ, S, ρ, Qd, Ed, w, en, hf, q, px⟩ => ?_
  refine tR_of w en hf px fun x S1 v H1 μ1 h1 f1 w1 en1 px1 r1 => ?_
  obtain ⟨a, rfl, h1⟩ := onStr_of h1
  cases r1
  refine ⟨⟨a, rfl⟩, ?_⟩
  refine tR_of w1 en1 h1 px1 fun d S2 u H2 μ2 h2 f2 w2 en2 px2 r2 => ?_
  obtain ⟨es, e1, h2⟩ := onSome_of h2
  obtain ⟨ys, e2, h2⟩ := onSome_of h2
  obtain ⟨p, vs, rfl, hp, rs⟩ := r2.seq w2 e1
  rw [strsOf_vals rs e2] at hp
  exact ⟨a, p, ys, rfl, rfl, hp, Nat.le_trans h2.1 (by decide), q _ _ _ _ _ h2.2 (f1.trans f2) w2 (.str _)⟩
theorem d_fmt {pos : Pos} (he : PEd X E e fe) : PEd X E (.FormattedValue e (-1) none pos) (dFmt fe) := by
  refine PE.imp (pe_fmt he) fun σ H Q ⟨μ, S, ρ, Qd, Ed, w, en, hf, q, px⟩ => ?_
  refine tR_of w en hf px fun x S1 v H1 μ1 h1 f1 w1 en1 px1 r1 => ?_
  split at h1
  · cases r1
    exact .inl ⟨_, rfl, h1.1, q _ _ _ _ _ h1.2 f1 w1 (.str _)⟩
  · rename_i i
    cases r1
    refine .inr ⟨_, rfl, ?_, q _ _ _ _ _ h1.2 f1 w1 (.str _)⟩
    by_cases z : i.natAbs = 0
    · rw [z]; decide
    · exact (Nat.log2_lt z).mpr (Nat.lt_of_lt_of_le h1.1 (Nat.pow_le_pow_right (by decide) (by decide)))
  · exact h1.elim
/-- the parts -/
inductive PJd (X : Cx) (E : L2.St → XK) : List Expr → List FE → Prop where
  | nil : PJd X E [] []
  | cons {e : Expr} {f : FE} {es : List Expr} {fs : List FE} (h : PEd X E e f) (r : PJd X E es fs) : PJd X E (e :: es) (f :: fs)
theorem PJd.pj {es : List Expr} {fs : List FE} (h : PJd X E es fs) : PJ X es (fs.map (tD (ct X) E)) := by
  induction h with
  | nil => exact .nil
  | cons h _ ih => exact .cons h ih
theorem js_of {c : Ct} {σ : L2.St} {Q : VK} : ∀ {fs : List FE} {acc : Str} {H : Hp} {μ : Mu} {S : Sto} {ρ : Rho} {Qd : QD} {Ed : ED}, Wd c μ S H → EnvR c μ H σ ρ → dJs fs acc ρ S Qd Ed → (∀ d S' v H' μ', Qd d S' → Fw μ H μ' H' → Wd c μ' S' H' → Rp c μ' H' v d → Q v H') → PX c μ H Ed (E σ) →
    tJs (fs.map (tD c E)) acc σ H (fun out H1 => Q (.str out) H1)
  | [], acc, H, μ, S, ρ, Qd, Ed, w, en, h, q, px => q _ _ _ _ _ h Fw.refl w (.str _)
  | f :: fs, acc, H, μ, S, ρ, Qd, Ed, w, en, h, q, px => by
    refine tR_of w en h px fun d S1 v H1 μ1 h1 f1 w1 en1 px1 r1 => ?_
    obtain ⟨y, rfl, h1⟩ := onStr_of h1
    cases r1
    exact ⟨y, rfl, h1.1, js_of w1 en1 h1.2 (fun d S' v H' μ' a b c' e => q d S' v H' μ' a (f1.trans b) c' e) px1⟩
theorem d_fstr {v1 v2 : Expr} {rest : List Expr} {fs : List FE} {pos : Pos} (h : PJd X E (v1 :: v2 :: rest) fs) : PEd X E (.JoinedStr (v1 :: v2 :: rest) pos) (dJs fs Str.empty) :=
  PE.imp (pe_joined h.pj) fun σ H Q ⟨μ, S, ρ, Qd, Ed, w, en, hf, q, px⟩ => js_of w en hf q px
end
end Pu
namespace Pu
open PySem PySem.Spec PyProof.Rows L2
/-! ## written dicts of two entries, d[x] -/
def lookI (x : Str) : List (Str × Int) → Option Int
  | [] => none
  | (y, i) :: r => if y = x then some i else lookI x r
/-! ## str of an instance -/
/-! ## methods with one keyword-only parameter, whose default is None -/
/-- the keyword's value is the last parameter's -/
def KB1 (K : PySem.W.Frag) (dat : FuncData) (pars : List Str) (kw : Str) : Prop := ∀ (s : Shared) (us : List Value) (u : Value), K.In s.heap → us.length + 1 = pars.length → BindsTo s dat ⟨us, [(kw, u)]⟩ (pars.zip (us ++ [u]))
def MFN (P : Program) (wo : World) (K : PySem.W.Frag) (mg : Str → Option Value) (b0 : Heap) (cx : CXT) (lv : Nat) (kw m : Str) (x : Str) (F : FF) : Prop :=
  ∀ C, mg x = some (.ref C) → ∃ fn dat pars, Cls K C ∧ Meth K C m fn ∧ Rb.FnG P wo K mg b0 cx lv fn dat pars (spF (ct0 K mg) F) ∧ Binds K dat pars [.none] ∧ KB1 K dat pars kw
def dMethN (tab : List (Str × FF)) (m : Str) (fo : FE) (fa : FA) : FE := fun ρ S Q Ed => fo ρ S (fun d S1 => onSome (insOf S1 d) fun cf => lookF m cf.2 = none ∧ onSome (tabF tab cf.1) fun F => fa ρ S1 (fun ds S2 => F (d :: (ds ++ [.non])) S2 Q Ed) Ed) Ed
def dMethK (tab : List (Str × FF)) (m : Str) (fo : FE) (fa : FA) (fk : FE) : FE := fun ρ S Q Ed => fo ρ S (fun d S1 => onSome (insOf S1 d) fun cf => lookF m cf.2 = none ∧ onSome (tabF tab cf.1) fun F => fa ρ S1 (fun ds S2 => fk ρ S2 (fun z S3 => F (d :: (ds ++ [z])) S3 Q Ed) Ed) Ed) Ed
section
variable {X : Cx} {cx : CXT} {lv : Nat} {fn : Addr} {dat : FuncData} {pars : List Str} {sp : Sp}
theorem runGSA {pins : List (Addr × Obj)} {σ : L2.St} {H : Hp} {s : Shared} {Q : VK} {us args : List Value} {kws : List (Str × Value)} {xs : List V} {E1 : XK} (F : Rb.FnG X.prog X.w X.K X.mg X.base cx lv fn dat pars sp) (gd : X.A.guards = some []) (rm : Room lv X.A)
    (b : BindsTo s dat ⟨args, kws⟩ (pars.zip us)) (ps : PassesAt cx X σ E1) (I : Inv X pins σ H s) (vx : Vals xs us) (pro : sp xs H Q E1) :
    wpAny (model X.prog X.w) X.A (call (.ref fn) args kws) (EP X pins σ Q) X.xe s := by
  refine wpAny_call (codeAny_mono (F.goes X.A X.stack s H ⟨args, kws⟩ us xs Q E1 rm gd I.env0 b vx pro) ?_)
  intro res s2 fin
  match res, fin with
  | .error e, fin => exact ps pins H s e s2 I fin
  | .ok (.ret u), fin => exact I.after fin
  | .ok .next, fin => exact (fin : False).elim
  | .ok .brk, fin => exact (fin : False).elim
  | .ok .cont, fin => exact (fin : False).elim
end
section
variable {X : Cx} {cx : CXT} {lv : Nat} {E : L2.St → XK} {ob a0 ke : Expr} {as : List Expr} {fo fk : FE} {fa : FA} {mn kw : Str} {tab : List (Str × FF)} {p1 p2 kp : Pos}
/-- the object and its method -/
def MSt (X : Cx) (cx : CXT) (lv : Nat) (mn kw : Str) (v : V) (H1 : Hp) (k : FF → D → Mu → Sto → Prop) : Prop := ∃ a C dx fv fn dat pars F d μ1 S1, v = .ref a ∧ H1 a = some (.ins C dx fv) ∧ fv.lookup mn = none ∧ Cls X.K C ∧ Meth X.K C mn fn ∧ Rb.FnG X.prog X.w X.K X.mg X.base cx lv fn dat pars (spF (ct X) F) ∧ Binds X.K dat pars [.none] ∧ KB1 X.K dat pars kw ∧
      Wd (ct X) μ1 S1 H1 ∧ Rp (ct X) μ1 H1 v d ∧ k F d μ1 S1
theorem d_methN {plan0 : Sem Bool} (hct : ct X = ct0 X.K X.mg) (hx : ∀ p ∈ tab, MFN X.prog X.w X.K X.mg X.base cx lv kw mn p.1 p.2) (gd : X.A.guards = some []) (rm : Room lv X.A) (ps : ∀ σ, PassesAt cx X σ (E σ)) (he : PEd X E ob fo) (ha : PAd X E (a0 :: as) fa)
    (st1 : starEach (a0 :: as) X.env = (false, eval a0 X.env) :: starEach as X.env := by rfl) (st2 : (backTo p2 (starEach as X.env)).any (·.1) = false := by rfl)
    (evq : eval (.Call (.Attribute ob mn p1) (a0 :: as) [] p2) X.env = (do
      let recv ← eval ob X.env
      standAt p1.atName
      let (callee, fst0) ← holding [recv] (getMethod recv mn plan0)
      callWith p2 callee fst0 (backTo p2 (starEach (a0 :: as) X.env)) (backToKw p2 (keywordEach [] X.env))) := by rfl) :
    PEd X E (.Call (.Attribute ob mn p1) (a0 :: as) [] p2) (dMethN tab mn fo fa) := by
  refine ⟨fun pins s σ H Q I ⟨μ, S, ρ, Qd, Ed, w, en, hf, q, px⟩ => ?_⟩
  refine PySem.W.methodCall_KW (pl := plan0) (thn (he.run pins s σ H (fun v H1 => MSt X cx lv mn kw v H1 fun F d μ1 S1 => EnvR (ct X) μ1 H1 σ ρ ∧ fa ρ S1 (fun ds S2 => F (d :: (ds ++ [.non])) S2 Qd Ed) Ed ∧ PostV (ct X) μ1 H1 Qd Q ∧ PX (ct X) μ1 H1 Ed (E σ)) I ?_) fun u s1 hu => ?_) evq
  · refine tR_of w en hf px fun d S1 v H1 μ1 h1 f1 w1 en1 px1 r1 => ?_
    obtain ⟨⟨x, fs⟩, e1, hn, h1⟩ := onSome_of h1
    obtain ⟨F, e2, h1⟩ := onSome_of h1
    obtain ⟨a, C, dx, fv, rfl, ha', hm, rf⟩ := id (r1.insT w1 e1)
    obtain ⟨fn, dat, pars, c1, c2, c3, c4, c5⟩ := hx _ (tabF_mem e2) C hm
    rw [← hct] at c3
    exact ⟨a, C, dx, fv, fn, dat, pars, F, d, μ1, S1, rfl, ha', rf.none hn, c1, c2, c3, c4, c5, w1, r1, en1, h1, PostV.fw q f1, px1⟩
  · obtain ⟨x, H1, I1, rel, a, C, dx, fv, fn, dat, pars, F, d, μ1, S1, rfl, ea, ln, c1, c2, c3, c4, c5, w1, r1, en1, h1, q1, px1⟩ := hu
    obtain rfl : u = Value.ref a := rel
    refine getmeth_ok I1 ea c1 c2 ln ?_
    refine PySem.W.callWith_K (first := [.ref a]) (h₀ := X.base) I.ok.mod.kin c2.kp (thn (ha.run p2 pins s1 σ H1 (fun vs H2 => ∃ ds μ2 S2, Wd (ct X) μ2 S2 H2 ∧ RpAll (ct X) μ2 H2 (.ref a :: vs) (d :: ds) ∧ F (d :: (ds ++ [.non])) S2 Qd Ed ∧ PostV (ct X) μ2 H2 Qd Q ∧ PX (ct X) μ2 H2 Ed (E σ)) I1 ?_) fun us s2 hu => ?_) st1 st2
    · exact tR_of w1 en1 h1 px1 fun ds S2 vs H2 μ2 h2 f2 w2 en2 px2 r2 => ⟨ds, μ2, S2, w2, .cons (r1.fw w1 f2) r2, h2, PostV.fw q1 f2, px2⟩
    · obtain ⟨vs, H2, I2, rv, ds, μ2, S2, w2, r2, h2, q2, px2⟩ := hu
      have pro : spF (ct X) F ((.ref a :: vs) ++ [.non]) H2 Q (E σ) := ⟨μ2, S2, (d :: ds) ++ [.non], Qd, Ed, w2, r2.append (.cons .non .nil), (show F ((d :: ds) ++ [.non]) S2 Qd Ed from h2), q2, px2⟩
      have vx : Vals ((V.ref a :: vs) ++ [.non]) ((Value.ref a :: us) ++ [Value.none]) := Vals.append (.cons rfl rv) (.cons rfl .nil)
      have hl : ((Value.ref a :: us) ++ [Value.none]).length = pars.length := by rw [← vx.length]; exact c3.many _ _ _ _ pro
      exact ⟨I2.kIn, runGSA (args := .ref a :: us) (us := (.ref a :: us) ++ [.none]) c3 gd rm (c4 s2 (.ref a :: us) I2.kIn hl) (ps σ) I2 vx pro⟩
theorem d_methK0 {plan0 : Sem Bool} (hct : ct X = ct0 X.K X.mg) (hx : ∀ p ∈ tab, MFN X.prog X.w X.K X.mg X.base cx lv kw mn p.1 p.2) (gd : X.A.guards = some []) (rm : Room lv X.A) (ps : ∀ σ, PassesAt cx X σ (E σ)) (he : PEd X E ob fo) (hk : PEd X E ke fk)
    (hall : (backToKw p2 (keywordEach [⟨some kw, ke, kp⟩] X.env)).all (·.1.isSome) = true := by rfl) (hks : (backToKw p2 (keywordEach [⟨some kw, ke, kp⟩] X.env)).filterMap (·.1) = [kw] := by rfl)
    (hpl : ((backTo p2 (starEach [] X.env)).any (·.1) || (backToKw p2 (keywordEach [⟨some kw, ke, kp⟩] X.env)).any (·.1.isNone)) = false := by rfl)
    (evq : eval (.Call (.Attribute ob mn p1) [] [⟨some kw, ke, kp⟩] p2) X.env = (do
      let recv ← eval ob X.env
      standAt p1.atName
      let (callee, fst0) ← holding [recv] (getMethod recv mn plan0)
      callWith p2 callee fst0 (backTo p2 (starEach [] X.env)) (backToKw p2 (keywordEach [⟨some kw, ke, kp⟩] X.env))) := by rfl) :
    PEd X E (.Call (.Attribute ob mn p1) [] [⟨some kw, ke, kp⟩] p2) (dMethK tab mn fo dNil fk) := by
  refine ⟨fun pins s σ H Q I ⟨μ, S, ρ, Qd, Ed, w, en, hf, q, px⟩ => ?_⟩
  refine PySem.W.methodCall_KW (pl := plan0) (thn (he.run pins s σ H (fun v H1 => MSt X cx lv mn kw v H1 fun F d μ1 S1 => EnvR (ct X) μ1 H1 σ ρ ∧ fk ρ S1 (fun z S2 => F [d, z] S2 Qd Ed) Ed ∧ PostV (ct X) μ1 H1 Qd Q ∧ PX (ct X) μ1 H1 Ed (E σ)) I ?_) fun u s1 hu => ?_) evq
  · refine tR_of w en hf px fun d S1 v H1 μ1 h1 f1 w1 en1 px1 r1 => ?_
    obtain ⟨⟨x, fs⟩, e1, hn, h1⟩ := onSome_of h1
    obtain ⟨F, e2, h1⟩ := onSome_of h1
    obtain ⟨a, C, dx, fv, rfl, ha', hm, rf⟩ := id (r1.insT w1 e1)
    obtain ⟨fn, dat, pars, c1, c2, c3, c4, c5⟩ := hx _ (tabF_mem e2) C hm
    rw [← hct] at c3
    exact ⟨a, C, dx, fv, fn, dat, pars, F, d, μ1, S1, rfl, ha', rf.none hn, c1, c2, c3, c4, c5, w1, r1, en1, h1, PostV.fw q f1, px1⟩
  · obtain ⟨x, H1, I1, rel, a, C, dx, fv, fn, dat, pars, F, d, μ1, S1, rfl, ea, ln, c1, c2, c3, c4, c5, w1, r1, en1, h1, q1, px1⟩ := hu
    obtain rfl : u = Value.ref a := rel
    refine getmeth_ok I1 ea c1 c2 ln ?_
    refine PySem.W.callWith_KW0 (first := [.ref a]) (h₀ := X.base) I.ok.mod.kin c2.kp hall (thn ((pk_cons (kpos := kp) (nm := some kw) hk pk_nil).run p2 pins s1 σ H1 (fun vs H2 => ∃ v z μ2 S2, vs = [v] ∧ Wd (ct X) μ2 S2 H2 ∧ Rp (ct X) μ2 H2 (.ref a) d ∧ Rp (ct X) μ2 H2 v z ∧ F [d, z] S2 Qd Ed ∧ PostV (ct X) μ2 H2 Qd Q ∧ PX (ct X) μ2 H2 Ed (E σ)) I1 ?_) fun us s2 hu => ?_) hpl
    · exact tR_of w1 en1 h1 px1 fun z S2 v H2 μ2 h2 f2 w2 en2 px2 r2 => ⟨v, z, μ2, S2, rfl, w2, r1.fw w1 f2, r2, h2, PostV.fw q1 f2, px2⟩
    · obtain ⟨vs, H2, I2, rv, v, z, μ2, S2, rfl, w2, r2, r3, h2, q2, px2⟩ := hu
      obtain ⟨u2, rfl, ru⟩ := vals1 rv
      have pro : spF (ct X) F [.ref a, v] H2 Q (E σ) := ⟨μ2, S2, [d, z], Qd, Ed, w2, .cons r2 (.cons r3 .nil), h2, q2, px2⟩
      have vx : Vals [V.ref a, v] [Value.ref a, u2] := .cons rfl (.cons ru .nil)
      refine ⟨I2.kIn, ?_⟩
      rw [hks]
      exact runGSA (us := [.ref a, u2]) c3 gd rm (c5 s2 [.ref a] u2 I2.kIn (c3.many _ _ _ _ pro)) (ps σ) I2 vx pro
end
theorem mfn_of {P : Program} {wo : World} {K : PySem.W.Frag} {mg : Str → Option Value} {b0 : Heap} {cx : CXT} {lv : Nat} {kw m x : Str} {F : FF} {C fn : Addr} {dat : FuncData} {pars : List Str} (g : mg x = some (.ref C)) (c : Cls K C) (me : Meth K C m fn)
    (G : Rb.FnG P wo K mg b0 cx lv fn dat pars (spF (ct0 K mg) F)) (B : Binds K dat pars [.none]) (B1 : KB1 K dat pars kw) : MFN P wo K mg b0 cx lv kw m x F := fun C' h => by
  rw [g] at h
  cases h
  exact ⟨fn, dat, pars, c, me, G, B, B1⟩
end Pu
namespace Pu
open PySem PySem.Spec PyProof.Rows L2
theorem bindsN_of {K : PySem.W.Frag} {fd : FuncData} {ps : List Str} {kD : Addr} {kw : Str} (h : ∀ us : List Value, us.length + 1 = ps.length → KwChain kD [(kw, Value.none)] (bindArgs fd ⟨us, []⟩) (ps.zip (us ++ [.none]))) (e : PySem.W.nsIn K kD kw = some (some .none)) : Binds K fd ps [.none] := fun s us X hl => by
  refine BindsTo.of_looks fun M => KwChain.looks X (fun q hq => ?_) (h us (by rw [List.length_append] at hl; exact hl))
  rcases List.mem_cons.mp hq with z | z
  · rw [z]; exact e
  · cases z
theorem kb1_of {K : PySem.W.Frag} {fd : FuncData} {ps : List Str} {kw : Str} (h : ∀ (us : List Value) (u : Value), us.length + 1 = ps.length → bindArgs fd ⟨us, [(kw, u)]⟩ = pure (ps.zip (us ++ [u]))) : KB1 K fd ps kw := fun s us u X hl => .of_eq (h us u hl)
end Pu
namespace Pu
open PySem PySem.Spec PyProof.Rows L2
/-! ## xs.pop() -/
def gPopEnd : GM := fun x ds S Q => match ds with
  | [] => onSome (cellOf S x) fun nx => onSome nx.2[nx.2.length - 1]? fun d => Q d (S.set nx.1 (.lst (nx.2.eraseIdx (nx.2.length - 1))))
  | _ => False
def dML0 (g : GM) (fo : FE) : FE := fun ρ S Q Ed => fo ρ S (fun x S1 => onSome (cellOf S1 x) fun _ => g x [] S1 Q) Ed
section
variable {X : Cx} {E : L2.St → XK} {o : Expr} {fo : FE} {name : Str} {id : String} {apos cpos : Pos}
theorem d_ml0 {g : GM} (slot : Slot "list" name id) (hty : typeOf (.builtin id) = pure (.type "method_descriptor")) (hm : MtR X id (rDm (ct X) g)) (ho : PEd X E o fo)
    (hbase : attributeBase o name X.env (eval o X.env) = eval o X.env := by rfl) (hline : (apos.endLine == cpos.line) = true := by rfl) :
    PEd X E (.Call (.Attribute o name apos) [] [] cpos) (dML0 g fo) := by
  refine PE.imp (pe_bm0 PySem.F.plainAttrs_list slot hty hm ho hbase hline) fun σ H Q ⟨μ, S, ρ, Qd, Ed, w, en, hf, q, px⟩ => ?_
  refine tR_of w en hf px fun x S1 v H1 μ1 h1 f1 w1 en1 px1 r1 => ?_
  obtain ⟨nx, e1, h1⟩ := onSome_of h1
  obtain ⟨a, vs, rfl, hm', ha', ra⟩ := w1.cellL r1 e1
  refine ⟨.inl ⟨rfl, vs, SqL.of ha'⟩, ?_⟩
  exact ⟨μ1, S1, x, [], Qd, w1, r1, .nil, h1, fun d S' v' H' μ' h f w' r => q d S' v' H' μ' h (f1.trans f) w' r⟩
theorem m_pop : MtR X "list.pop" (rDm (ct X) gPopEnd) := by
  intro pins s σ H x xs v us Q I rx rs ⟨μ, S, d, ds, Qd, w, r1, ra, hg, q⟩
  unfold gPopEnd at hg
  split at hg
  · cases ra
    obtain ⟨⟨n, zs⟩, e, hg⟩ := onSome_of hg
    obtain ⟨z, e3, hg⟩ := onSome_of hg
    obtain ⟨a, vs, rfl, hm, ha, rz⟩ := w.cellL r1 e
    obtain ⟨u, e4, ru⟩ := rz.at e3
    have hl := rz.length
    have ez : vs.eraseIdx ((n, zs).2.length - 1) = vs.dropLast := by
      rw [show (n, zs).2.length = vs.length from hl.symm]
      exact PyProof.Rows.Copied.eraseIdx_last vs
    have c := q.cell w hm (rz.erase ((n, zs).2.length - 1)) ru hg
    rw [ez] at c
    rw [show (n, zs).2.length = vs.length from hl.symm] at e4
    exact mt_pop pins s σ H _ _ v us Q I rx rs ⟨a, vs, _, rfl, rfl, ha, e4, c⟩
  · exact hg.elim
end
end Pu
namespace Pu
open PySem PySem.Spec PyProof.Rows L2
/-! ## T.get(x), T a written dict of the module with texts and numbers -/
structure KTab (X : Cx) (y : Str) (ps : List (Str × Int)) : Prop where
  go : ∃ d es n, Gl X y ∧ X.mg y = some (.ref d) ∧ KDict X.K X.w d es n ∧ ∀ x, ∃ r, PySem.W.nsIn X.K d x = some r ∧ RelV ((lookI x ps).elim V.non V.int) (r.getD .none)
theorem pe_kget {X : Cx} {y : Str} {ps : List (Str × Int)} {e : Expr} {te : TE} {p apos cpos : Pos} (T : KTab X y ps) (he : PE X e te) (m : M1 X (.Name y p) "get" apos e cpos) (hd : (y == ("__debug__" : Str)) = false := by decide) :
    PE X (.Call (.Attribute (.Name y p) "get" apos) [e] [] cpos) (fun σ H Q => te σ H fun x H1 => ∃ z, x = .str z ∧ Q ((lookI z ps).elim .non .int) H1) := by
  obtain ⟨d, es, n, hg, hm, D, hr⟩ := T.go
  refine ⟨fun pins s σ H Q I h => ?_⟩
  have hn : PE X (.Name y p) (tC (.ref d)) := pe_glob hg hm (u := .ref d) rfl hd
  refine wpAny_Call_method m.base m.few m.line PySem.F.plainAttrs_dict PySem.F.slot_dict_get PySem.F.type_dict_get (thn (hn.run pins s σ H (fun x H1 => x = .ref d ∧ H1 = H) I ⟨rfl, rfl⟩) fun u s1 ⟨x, H1, I1, rx, ex, eh⟩ => ?_)
  subst ex
  obtain rfl : u = Value.ref d := rx
  subst eh
  have mp := PySem.W.mapOf_K (prog := X.prog) (w := X.w) I1.kIn D.at_ D.lit
  refine ⟨mp.typeIs, fun b q => ?_, ?_⟩
  · cases q
    exact ⟨_, I1.kIn _ _ D.at_, rfl⟩
  rw [m.trees]
  refine wpAny_dict_get1 (K := Str) (knd := PySem.strKind X.prog X.w) D.low (thn (he.run pins s1 σ H1 _ I1 h) fun iv s2 ⟨x, H2, I2, rx, z, ex, q⟩ => ?_)
  subst ex
  obtain ⟨t, rfl⟩ := rx
  obtain ⟨r, e1, rr⟩ := hr z
  refine ⟨z, _, PySem.strKind_is X.prog X.w z t, PySem.W.mapOf_K (prog := X.prog) (w := X.w) I2.kIn D.at_ D.lit, ?_⟩
  rw [PySem.W.find_K D.at_ e1]
  exact ⟨_, H2, I2.tok _, rr, q⟩
def dKGet (ps : List (Str × Int)) (fe : FE) : FE := fun ρ S Q Ed => fe ρ S (fun d S1 => onStr d fun x => Q ((lookI x ps).elim D.non D.int) S1) Ed
theorem d_kget {X : Cx} {E : L2.St → XK} {y : Str} {ps : List (Str × Int)} {e : Expr} {fe : FE} {p apos cpos : Pos} (T : KTab X y ps) (he : PEd X E e fe) (m : M1 X (.Name y p) "get" apos e cpos) (hd : (y == ("__debug__" : Str)) = false := by decide) :
    PEd X E (.Call (.Attribute (.Name y p) "get" apos) [e] [] cpos) (dKGet ps fe) := by
  refine PE.imp (pe_kget T he m hd) fun σ H Q ⟨μ, S, ρ, Qd, Ed, w, en, hf, q, px⟩ => ?_
  refine tR_of w en hf px fun d S1 v H1 μ1 h1 f1 w1 en1 px1 r1 => ?_
  obtain ⟨x, rfl, h1⟩ := onStr_of h1
  replace h1 : Qd ((lookI x ps).elim D.non D.int) S1 := h1
  cases r1
  refine ⟨x, rfl, ?_⟩
  cases e1 : lookI x ps with
  | none =>
    rw [e1] at h1
    exact q _ _ _ _ _ h1 f1 w1 .non
  | some i =>
    rw [e1] at h1
    exact q _ _ _ _ _ h1 f1 w1 (.int i)
/-- entries with these texts and numbers -/
def DicOf (P : Params) : List DictEntry → List (Str × Int) → Prop
  | [], [] => True
  | e :: r, (x, i) :: q => ((∃ t, e.key = .str x t) ∧ (∃ t, e.val = .int i t) ∧ e.hash = PyData.keyHash P x) ∧ DicOf P r q
  | _, _ => False
theorem DicOf.lit {P : Params} : ∀ {l : List DictEntry} {ps : List (Str × Int)}, DicOf P l ps → PySem.W.KeysLit P l
  | [], _, _ => trivial
  | e :: r, (x, i) :: q, ⟨⟨⟨t, h1⟩, _, h3⟩, h⟩ => ⟨⟨x, t, h1, h3⟩, h.lit⟩
theorem DicOf.find {P : Params} (z : Str) : ∀ {l : List DictEntry} {ps : List (Str × Int)}, DicOf P l ps → (l.any (·.refKey) = false) ∧ match l.find? (·.key.isStr z), lookI z ps with
    | some e, some i => ∃ t, e.val = .int i t
    | none, none => True
    | _, _ => False
  | [], [], _ => ⟨rfl, trivial⟩
  | e :: r, (x, i) :: q, ⟨⟨⟨t, h1⟩, ⟨t2, h2⟩, h3⟩, h⟩ => by
    obtain ⟨a, b⟩ := h.find z
    have h4 : e.refKey = false := by
      unfold DictEntry.refKey
      rw [h1]
    refine ⟨by rw [List.any_cons, h4, Bool.false_or]; exact a, ?_⟩
    have h5 : e.key.isStr z = (x == z) := by rw [h1]; rfl
    by_cases c : x = z
    · rw [List.find?_cons_of_pos (by rw [h5, beq_iff_eq]; exact c)]
      unfold lookI
      rw [if_pos c]
      exact ⟨t2, h2⟩
    · rw [List.find?_cons_of_neg (by rw [h5, beq_iff_eq]; exact c)]
      unfold lookI
      rw [if_neg c]
      exact b
theorem ktab_of {X : Cx} {y : Str} {ps : List (Str × Int)} {d : Addr} {es : Array DictEntry} {n : Nat} (hg : Gl X y) (hm : X.mg y = some (.ref d)) (hl : X.K.lookup d = some ⟨.type "dict", none, .dict es n, #[]⟩) (hd : (d == sysModules) = false) (h : DicOf X.w.params es.toList ps) : KTab X y ps := by
  refine ⟨d, es, n, hg, hm, ⟨hl, h.lit, hd⟩, fun z => ?_⟩
  obtain ⟨a, b⟩ := h.find z
  unfold PySem.W.nsIn
  rw [hl]
  dsimp only
  cases e : es.toList.find? (fun d => d.key.isStr z) with
  | none =>
    rw [e] at b
    cases e2 : lookI z ps with
    | none =>
      dsimp only
      rw [a]
      exact ⟨none, rfl, rfl⟩
    | some i => rw [e2] at b; exact b.elim
  | some w =>
    rw [e] at b
    cases e2 : lookI z ps with
    | none => rw [e2] at b; exact b.elim
    | some i =>
      rw [e2] at b
      obtain ⟨t, hv⟩ := b
      exact ⟨some w.val, rfl, t, hv⟩
end Pu
namespace Pu
open PySem PySem.Spec PyProof.Rows L2
/-! ## what is never reached; a try that runs through -/
def dNevE : FE := fun _ _ _ _ => False
theorem d_nevE {X : Cx} {E : L2.St → XK} {e : Expr} : PEd X E e dNevE := ⟨fun pins s σ H Q I ⟨μ, S, ρ, Qd, Ed, w, en, hf, q, px⟩ => hf.elim⟩
/-- try: .. except ..: .., where nothing is raised -/
def dTryN (fb : FS) : FS := fun ρ S De _ => fb ρ S De noE
theorem d_tryN {X : Cx} {E : XK} {body : List Stmt} {h0 : ExceptHandler} {hs : List ExceptHandler} {pos : Pos} {fb : FS} (hb : PBd X.nox E0 body fb) : PSd X E (.Try body (h0 :: hs) [] [] pos) (dTryN fb) :=
  PS.imp (ps_try_thru0 (show PSs X.nox body (tS (ct X) E0 fb) from hb)) fun D σ H ⟨μ, S, ρ, De, Ed, w, en, hf, k, px⟩ => ⟨μ, S, ρ, De, noE, w, en, hf, k, pxNo⟩
/-! ## isinstance(x, (A, B)) of built-in types -/
/-! ## C.m(x, ..), m a def of the class or of one above it -/
section
variable {X : Cx} {cx : CXT} {lv : Nat} {E : L2.St → XK} {C fn : Addr} {dat : FuncData} {pars : List Str} {F : FF} {x mn : Str} {mc : Value} {a0 : Expr} {as : List Expr} {fa : FA} {p0 p1 p2 : Pos}
theorem d_ccall {plan0 : Sem Bool} (R : ClX.CRead X.K C mc) (hf : PySem.W.findCls X.K (.ref C) mc mn = some (.val (.ref fn))) (G : Rb.FnG X.prog X.w X.K X.mg X.base cx lv fn dat pars (spF (ct X) F)) (gd : X.A.guards = some []) (rm : Room lv X.A) (bi : Binds X.K dat pars [])
    (kp : PySem.W.keepIn X.K (.ref fn) = true) (gl : Gl X x) (at_ : X.mg x = some (.ref C)) (ps : ∀ σ, PassesAt cx X σ (E σ)) (ha : PAd X E (a0 :: as) fa) (ndb : (x == ("__debug__" : Str)) = false := by decide)
    (st1 : starEach (a0 :: as) X.env = (false, eval a0 X.env) :: starEach as X.env := by rfl) (st2 : (backTo p2 (starEach as X.env)).any (·.1) = false := by rfl)
    (evq : eval (.Call (.Attribute (.Name x p0) mn p1) (a0 :: as) [] p2) X.env = (do
      let recv ← eval (.Name x p0) X.env
      standAt p1.atName
      let (callee, fst0) ← holding [recv] (getMethod recv mn plan0)
      callWith p2 callee fst0 (backTo p2 (starEach (a0 :: as) X.env)) (backToKw p2 (keywordEach [] X.env))) := by rfl) :
    PEd X E (.Call (.Attribute (.Name x p0) mn p1) (a0 :: as) [] p2) (dCallW F fa) := by
  refine ⟨fun pins s σ H Q I ⟨μ, S, ρ, Qd, Ed, w, en, hfa, q, px⟩ => ?_⟩
  refine PySem.W.methodCall_KW (pl := plan0) (thn ((pe_glob (u := .ref C) gl at_ (show RelV (V.ref C) _ from rfl) ndb).run pins s σ H (fun v H1 => v = .ref C ∧ H1 = H) I ⟨rfl, rfl⟩) fun u s1 ⟨v, H1, I1, rx, ev, eh⟩ => ?_) evq
  subst ev
  subst eh
  obtain rfl : u = Value.ref C := rx
  refine PySem.W.method_cls I1.kIn R.ga (PySem.W.cls_value I1.kIn R.rd hf rfl ?_)
  have I2 := I1.tok (s1.toks + 1)
  refine PySem.W.callWith_K (first := []) (h₀ := X.base) I.ok.mod.kin kp (thn (ha.run p2 pins _ σ H1 (fun vs H2 => ∃ ds μ2 S2, Wd (ct X) μ2 S2 H2 ∧ RpAll (ct X) μ2 H2 vs ds ∧ F ds S2 Qd Ed ∧ PostV (ct X) μ2 H2 Qd Q ∧ PX (ct X) μ2 H2 Ed (E σ)) I2 ?_) fun us s2 hu => ?_) st1 st2
  · exact tR_of w en hfa px fun ds S2 vs H2 μ2 h2 f2 w2 en2 px2 r2 => ⟨ds, μ2, S2, w2, r2, h2, PostV.fw q f2, px2⟩
  · obtain ⟨vs, H2, I3, rv, ds, μ2, S2, w2, r2, h2, q2, px2⟩ := hu
    exact ⟨I3.kIn, runGS G gd rm bi (ps σ) I3 rv ⟨μ2, S2, ds, Qd, Ed, w2, r2, h2, q2, px2⟩⟩
end
end Pu
namespace Pu
open PySem PySem.Spec PyProof.Rows L2
/-! ## defs that are run whatever repr is under way (what a generator's body calls) -/
structure FnU (pr : Program) (wo : World) (K : PySem.W.Frag) (mg : Str → Option Value) (b0 : Heap) (cx : CXT) (lv : Nat) (fn : Addr) (dat : FuncData) (pars : List Str) (sp : Sp) : Prop where
  many : ∀ xs H Q E, sp xs H Q E → xs.length = pars.length
  goes : ∀ (A : Around) (out : List Env) (s : Shared) (H : Hp) (ar : Args) (us : List Value) (xs : List V) (Q : VK) (E : XK),
    Room lv A → Env0 pr wo K mg b0 A out s H → BindsTo s dat ar (pars.zip us) → Vals xs us → sp xs H Q E →
    codeAny (model pr wo) A (.call (.ref fn) ar) (CR cx out pr wo H s Q E) s
theorem FnU.g {pr : Program} {wo : World} {K : PySem.W.Frag} {mg : Str → Option Value} {b0 : Heap} {cx : CXT} {lv : Nat} {fn : Addr} {dat : FuncData} {pars : List Str} {sp : Sp} (F : FnU pr wo K mg b0 cx lv fn dat pars sp) : Rb.FnG pr wo K mg b0 cx lv fn dat pars sp :=
  ⟨F.many, fun A out s H ar us xs Q E h1 _ h2 h3 h4 h5 => F.goes A out s H ar us xs Q E h1 h2 h3 h4 h5⟩
end Pu
namespace Pu
open PySem PySem.Spec PyProof.Rows L2 GenW
/-! ## a generator's body: what is out so far goes along -/
theorem GS.imp {X : Cx} {st : Stmt} {t t' : TGn} (h : GS X st t) (k : ∀ D ys σ H, t' D ys σ H → t D ys σ H) : GS X st t' :=
  ⟨fun A S ip R n ys s₀ c fs K J gd lv s σ H D g hn kk hI ht => h.run A S ip R n ys s₀ c fs K J gd lv s σ H D g hn kk hI (k D ys σ H ht)⟩
theorem GSs.imp {X : Cx} {st : List Stmt} {t t' : TGn} (h : GSs X st t) (k : ∀ D ys σ H, t' D ys σ H → t D ys σ H) : GSs X st t' :=
  ⟨fun A S ip R n ys s₀ c fs K J gd lv s σ H D g hn kk hI ht => h.run A S ip R n ys s₀ c fs K J gd lv s σ H D g hn kk hI (k D ys σ H ht)⟩
/-! ## the def, its promise -/
end Pu
namespace Pu
open PySem PySem.Spec PyProof.Rows L2
/-! ## methods of texts -/
def dMS0 (g : Str → Sto → QD → Prop) (fo : FE) : FE := fun ρ S Q Ed => fo ρ S (fun x S1 => onStr x fun a => g a S1 Q) Ed
def dMS1 (g : Str → D → Sto → QD → Prop) (fo fa : FE) : FE := fun ρ S Q Ed => fo ρ S (fun x S1 => onStr x fun a => fa ρ S1 (fun y S2 => g a y S2 Q) Ed) Ed
def gAscii : Str → Sto → QD → Prop := fun a S Q => Q (.bl (Txt.isascii a)) S
def gDigit : Str → Sto → QD → Prop := fun a S Q => Q (.bl (Txt.isdigit a)) S
def gStarts : Str → D → Sto → QD → Prop := fun a y S Q => onStr y fun b => Q (.bl (Txt.startswith a b)) S
def gSplit : Str → D → Sto → QD → Prop := fun a y S Q => onStr y fun b => ((b.length == 0) = false ∧ a.length + 2 ≤ sizeLine) ∧ Q (.lst false ((Txt.split a b).map D.str)) S
/-- int of a text of digits -/
def gIntS : List D → Sto → QD → Prop := fun ds S Q => match ds with
  | [.str a] => onSome (PySem.intText? a) fun n => a.length ≤ 640 ∧ Q (.int n) S
  | _ => False
/-- None in a list of whole numbers and Nones -/
def optsOf : List D → Option (List (Option Int))
  | [] => some []
  | .int i :: r => (optsOf r).map (some i :: ·)
  | .non :: r => (optsOf r).map (none :: ·)
  | _ :: _ => none
def optV : Option Int → V
  | none => .non
  | some i => .int i
def gInN : G2 := fun x y S Q => match x with
  | .non => onSome (seqOf S y) fun xs => onSome (optsOf xs) fun os => Q (.bl (os.any Option.isNone)) S
  | _ => False
theorem optsOf_vals {c : Ct} {μ : Mu} {H : Hp} : ∀ {vs : List V} {ds : List D} {os : List (Option Int)}, RpAll c μ H vs ds → optsOf ds = some os → vs = os.map optV
  | _, [], _, .nil, e => by cases e; rfl
  | _, d :: ds, os, .cons h r, e => by
    cases d with
    | int i =>
      obtain ⟨qs, e1, rfl⟩ := Option.map_eq_some_iff.mp (show (optsOf ds).map (some i :: ·) = some os from e)
      rw [h.int_inv, optsOf_vals r e1]
      rfl
    | non =>
      obtain ⟨qs, e1, rfl⟩ := Option.map_eq_some_iff.mp (show (optsOf ds).map (none :: ·) = some os from e)
      cases h
      rw [optsOf_vals r e1]
      rfl
    | _ => cases e
theorem inV_opts : ∀ {os : List (Option Int)}, inV .non (os.map optV) = os.any Option.isNone
  | [] => rfl
  | none :: os => by
    unfold inV
    simp [optV, eqV]
  | some i :: os => by
    have ih := inV_opts (os := os)
    unfold inV at *
    simp only [List.map_cons, List.any_cons]
    rw [ih]
    rfl
theorem flat_opts (os : List (Option Int)) : (os.map optV).all flatV = true := by
  rw [List.all_map, List.all_eq_true]
  intro x _
  cases x <;> rfl
theorem o_inN {X : Cx} : OpR X (compareOp .In) (rD2 (ct X) gInN) := by
  intro pins s σ H x y v u Q I rx ry ⟨μ, S, dx, dy, Qd, w, r1, r2, hg, q⟩
  unfold gInN at hg
  split at hg
  · obtain ⟨xs, e1, hg⟩ := onSome_of hg
    obtain ⟨zs, e2, hg⟩ := onSome_of hg
    obtain ⟨a, ws, rfl, hq, rs⟩ := r2.seq w e1
    cases r1
    rw [optsOf_vals rs e2] at hq
    refine op_in_seq pins s σ H _ _ v u Q I rx ry ⟨a, _, rfl, hq, rfl, flat_opts zs, ?_⟩
    rw [inV_opts]
    exact q.same w (.bl _) hg
  · exact hg.elim
theorem c_intS {X : Cx} : CallR X (.type "int") (rDs (ct X) gIntS) := by
  intro pins s σ H vs us Q I r ⟨μ, S, ds, Qd, w, ra, hg, q⟩
  unfold gIntS at hg
  split at hg
  · obtain ⟨v, rfl, rv⟩ := ra.one
    obtain ⟨n, e, hz, hg⟩ := onSome_of hg
    cases rv.str_inv
    exact call_int_str pins s σ H _ us Q I r ⟨_, n, rfl, e, hz, q.same w (.int _) hg⟩
  · exact hg.elim
section
variable {X : Cx} {E : L2.St → XK} {o e : Expr} {fo fa : FE} {apos cpos : Pos}
theorem d_ms0 {id : String} {name : Str} {r : V → List V → Hp → VK → Prop} {g : Str → Sto → QD → Prop} (slot : Slot "str" name id) (ty : typeOf (.builtin id) = pure (.type "method_descriptor")) (rule : MtR X id r)
    (hr : ∀ {μ : Mu} {S : Sto} {H : Hp} {a : Str} {Qd : QD} {Q : VK}, Wd (ct X) μ S H → g a S Qd → PostV (ct X) μ H Qd Q → r (.str a) [] H Q) (ho : PEd X E o fo)
    (hbase : attributeBase o name X.env (eval o X.env) = eval o X.env := by rfl) (hline : (apos.endLine == cpos.line) = true := by rfl) : PEd X E (.Call (.Attribute o name apos) [] [] cpos) (dMS0 g fo) := by
  refine PE.imp (pe_m0 slot ty rule ho hbase hline) fun σ H Q ⟨μ, S, ρ, Qd, Ed, w, en, hf, q, px⟩ => ?_
  refine tR_of w en hf px fun x S1 v H1 μ1 h1 f1 w1 en1 px1 r1 => ?_
  obtain ⟨a, rfl, h1⟩ := onStr_of h1
  cases r1.str_inv
  exact ⟨⟨a, rfl⟩, hr w1 h1 (PostV.fw q f1)⟩
theorem d_ms1 {id : String} {name : Str} {r : V → List V → Hp → VK → Prop} {g : Str → D → Sto → QD → Prop} (slot : Slot "str" name id) (ty : typeOf (.builtin id) = pure (.type "method_descriptor")) (rule : MtR X id r)
    (hr : ∀ {μ : Mu} {S : Sto} {H : Hp} {a : Str} {y : V} {d : D} {Qd : QD} {Q : VK}, Wd (ct X) μ S H → Rp (ct X) μ H y d → g a d S Qd → PostV (ct X) μ H Qd Q → r (.str a) [y] H Q) (ho : PEd X E o fo) (ha : PEd X E e fa)
    (hs : starEach [e] X.env = [(false, eval e X.env)] := by rfl) (hbase : attributeBase o name X.env (eval o X.env) = eval o X.env := by rfl) (hline : (apos.endLine == cpos.line) = true := by rfl) : PEd X E (.Call (.Attribute o name apos) [e] [] cpos) (dMS1 g fo fa) := by
  refine PE.imp (pe_m1 slot ty rule ho ha hs hbase hline) fun σ H Q ⟨μ, S, ρ, Qd, Ed, w, en, hf, q, px⟩ => ?_
  refine tR_of w en hf px fun x S1 v H1 μ1 h1 f1 w1 en1 px1 r1 => ?_
  obtain ⟨a, rfl, h1⟩ := onStr_of h1
  cases r1.str_inv
  refine ⟨⟨a, rfl⟩, tR_of w1 en1 h1 px1 fun d S2 y H2 μ2 h2 f2 w2 en2 px2 r2 => hr w2 r2 h2 (PostV.fw (PostV.fw q f1) f2)⟩
theorem d_ascii (ho : PEd X E o fo) (hbase : attributeBase o "isascii" X.env (eval o X.env) = eval o X.env := by rfl) (hline : (apos.endLine == cpos.line) = true := by rfl) : PEd X E (.Call (.Attribute o "isascii" apos) [] [] cpos) (dMS0 gAscii fo) :=
  d_ms0 PySem.F.slot_str_isascii PySem.F.type_str_isascii mt_isascii (fun w h q => ⟨_, rfl, rfl, trivial, q.same w (.bl _) h⟩) ho hbase hline
theorem d_digit (ho : PEd X E o fo) (hbase : attributeBase o "isdigit" X.env (eval o X.env) = eval o X.env := by rfl) (hline : (apos.endLine == cpos.line) = true := by rfl) : PEd X E (.Call (.Attribute o "isdigit" apos) [] [] cpos) (dMS0 gDigit fo) :=
  d_ms0 PySem.F.slot_str_isdigit PySem.F.type_str_isdigit mt_isdigit (fun w h q => ⟨_, rfl, rfl, trivial, q.same w (.bl _) h⟩) ho hbase hline
theorem d_starts (ho : PEd X E o fo) (ha : PEd X E e fa) (hs : starEach [e] X.env = [(false, eval e X.env)] := by rfl) (hbase : attributeBase o "startswith" X.env (eval o X.env) = eval o X.env := by rfl) (hline : (apos.endLine == cpos.line) = true := by rfl) :
    PEd X E (.Call (.Attribute o "startswith" apos) [e] [] cpos) (dMS1 gStarts fo fa) :=
  d_ms1 PySem.F.slot_str_startswith PySem.F.type_str_startswith mt_startswith (fun w r h q => by
    obtain ⟨b, rfl, h⟩ := onStr_of h
    cases r.str_inv
    exact ⟨_, b, rfl, rfl, q.same w (.bl _) h⟩) ho ha hs hbase hline
theorem strs_rp {c : Ct} {μ : Mu} {H : Hp} : ∀ ys : List Str, RpAll c μ H (ys.map V.str) (ys.map D.str)
  | [] => .nil
  | y :: ys => .cons (.str y) (strs_rp ys)
theorem d_split (ho : PEd X E o fo) (ha : PEd X E e fa) (hs : starEach [e] X.env = [(false, eval e X.env)] := by rfl) (hbase : attributeBase o "split" X.env (eval o X.env) = eval o X.env := by rfl) (hline : (apos.endLine == cpos.line) = true := by rfl) :
    PEd X E (.Call (.Attribute o "split" apos) [e] [] cpos) (dMS1 gSplit fo fa) :=
  d_ms1 PySem.F.slot_str_split PySem.F.type_str_split mt_split (fun w r h q => by
    obtain ⟨b, rfl, ⟨h1, h2⟩, h⟩ := onStr_of h
    cases r.str_inv
    exact ⟨_, b, rfl, rfl, h1, h2, fun p hp => PostV.lst q w (strs_rp _) h hp⟩) ho ha hs hbase hline
end
/-! ## (*xs, ..) -/
def dStar (fe : FE) (fs : FA) : FA := fun ρ S Q Ed => fe ρ S (fun d S1 => onSome (seqOf S1 d) fun xs => fs ρ S1 (fun ys S2 => Q (xs ++ ys) S2) Ed) Ed
theorem d_star {X : Cx} {E : L2.St → XK} {e : Expr} {es : List Expr} {fe : FE} {fs : FA} {p : Pos} (he : PEd X E e fe) (hr : PAd X E es fs) (hs : starEach (.Starred e p :: es) X.env = (true, eval e X.env) :: starEach es X.env := by rfl) : PAd X E (.Starred e p :: es) (dStar fe fs) := by
  refine PA.imp (StX.pa_star he hr hs) fun σ H Q ⟨μ, S, ρ, Qd, Ed, w, en, hf, q, px⟩ => ?_
  refine tR_of w en hf px fun d S1 v H1 μ1 h1 f1 w1 en1 px1 r1 => ?_
  obtain ⟨xs, e1, h1⟩ := onSome_of h1
  obtain ⟨a, vs, rfl, hq, rs⟩ := r1.seq w1 e1
  refine ⟨a, vs, rfl, hq.symm, tR_of w1 en1 h1 px1 fun ys S2 us H2 μ2 h2 f2 w2 en2 px2 r2 => ?_⟩
  exact q _ S2 _ H2 μ2 h2 (f1.trans f2) w2 ((rs.fw w1 f2).append r2)
end Pu
namespace Pu
open PySem PySem.Spec PyProof.Rows L2
/-! ## the truth of a tuple, as a test -/
def onTr (d : D) (k : Bool → Prop) : Prop := match d with | .tup xs => k (!xs.isEmpty) | .bl b => k b | _ => False
theorem onTr_of {d : D} {k : Bool → Prop} (h : onTr d k) : (∃ xs, d = .tup xs ∧ k (!xs.isEmpty)) ∨ ∃ b, d = .bl b ∧ k b := by
  cases d with
  | tup xs => exact .inl ⟨xs, rfl, h⟩
  | bl b => exact .inr ⟨b, rfl, h⟩
  | _ => exact h.elim
def dTestU (f : FE) : FT := fun ρ S Q Ed => f ρ S (fun d S1 => onTr d fun b => Q b S1) Ed
section
variable {X : Cx} {E : L2.St → XK} {e : Expr}
theorem d_tvalU {f : FE} (h : PEd X E e f) (he : ∀ whole, isTrue e X.env whole = (do let v ← whole; standAt e.pos; holding [v] (truthy v)) := by intro _; rfl) : PTd X E e (dTestU f) := by
  refine PT.imp (pt_truth h he) fun σ H Q ⟨μ, S, ρ, Qd, Ed, w, en, hf, q, px⟩ => ?_
  refine tR_of w en hf px fun x S1 v H1 μ1 h1 f1 w1 en1 px1 r1 => ?_
  rcases onTr_of h1 with ⟨xs, rfl, hb⟩ | ⟨b, rfl, hb⟩
  · obtain ⟨a, vs, rfl, ha, ra⟩ := r1.tup_inv
    refine ⟨!xs.isEmpty, .inr (.inl ⟨vs, SqT.of ha, ?_⟩), q _ S1 _ H1 μ1 hb f1 w1 rfl⟩
    cases ra <;> rfl
  · rw [r1.bl_inv]
    exact ⟨b, rfl, q b S1 b H1 μ1 hb f1 w1 rfl⟩
end
end Pu
namespace Pu
open PySem L2
def den_is_number_from : FS := (dSeq (dIfS (dOr (dTest (dUn (gIsi .bool) (dVar 0))) (dNot (dTest (dUn (gIsi .int) (dVar 0)))))
 (dRet (dC (.bl false)))
 dSkip)
 (dRet (dChain gLe gLe (dVar 1) (dVar 0) (dVar 2))))
@[irreducible] def F_is_number_from : FF := dDef 3 3 den_is_number_from
def den_road_error : FS := (dSeq (dIfS (dOr (dNot (dTest (dUn (gIsi .tup) (dVar 0)))) (dTest (dBin gNe (dB gLen (dCons (dVar 0) dNil)) (dC (.int 3)))))
 (dRet (dTup (dCons (dC .non) (dCons (dC (.str "road")) dNil))))
 dSkip)
 (dSeq (dAsg (dVar 0) (gTp 3 (gsCons (gN 1) (gsCons (gN 2) (gsCons (gN 3) gsNil)))))
 (dSeq (dIfS (dOr (dNot (dTest (dCallW F_is_number_from (dCons (dVar 1) (dCons (dC (.int 1)) (dCons (dC (.int 1000)) dNil)))))) (dNot (dTest (dCallW F_is_number_from (dCons (dVar 2) (dCons (dC (.int 1)) (dCons (dBin gSub (dVar 1) (dC (.int 1))) dNil)))))))
 (dRet (dTup (dCons (dC .non) (dCons (dC (.str "ticks")) dNil))))
 dSkip)
 (dSeq (dIfS (dOr (dNot (dTest (dUn (gIsi .tup) (dVar 3)))) (dNot (dTest (dChain gLe gLe (dC (.int 1)) (dB gLen (dCons (dVar 3) dNil)) (dC (.int 12))))))
 (dRet (dTup (dCons (dC .non) (dCons (dC (.str "bikes")) dNil))))
 dSkip)
 (dSeq (dFor (dEnT (dCons (dVar 3) dNil)) (gTp 2 (gsCons (gN 4) (gsCons (gN 5) gsNil)))
 (dIfS (dNot (dTest (dCallW F_is_number_from (dCons (dVar 5) (dCons (dC (.int 0)) (dCons (dC (.int 12)) dNil))))))
 (dRet (dTup (dCons (dVar 4) (dCons (dC (.str "bikes")) dNil))))
 dSkip))
 (dRet (dC .non)))))))
@[irreducible] def F_road_error : FF := dDef 1 6 den_road_error
end Pu
namespace Pu
open PySem L2
def den_bike_ticks : FS := (dRet (dB gSorted (dCons (dBin gAdd (dBin gMul (dLst (dCons (dC (.int 0)) dNil)) (dVar 2)) (dLc (st1 3) dYes (dBin gIx (dVar 0) (dVar 3)) (dItS (dVar 1)))) dNil)))
@[irreducible] def F_bike_ticks : FF := dDef 3 4 den_bike_ticks
def den_leaving_ticks : FS := (dSeq (dAsg (dB gListC (dCons (dVar 0) dNil)) (gN 3))
 (dSeq (dAsg (dB gSorted (dCons (dLc (st1 6) dYes (dTup (dCons (dBin gIx (dVar 0) (dVar 6)) (dCons (dVar 6) dNil))) (dItS (dVar 1))) dNil)) (gN 4))
 (dSeq (dFor (dZip (dCons (dVar 4) (dCons (dVar 2) dNil))) (gTp 2 (gsCons (gTp 2 (gsCons (gN 5) (gsCons (gN 6) gsNil))) (gsCons (gN 7) gsNil)))
 (dAsg (dB gMax (dCons (dVar 5) (dCons (dVar 7) dNil))) (gSetI (dVar 3) (dVar 6))))
 (dRet (dVar 3)))))
@[irreducible] def F_leaving_ticks : FF := dDefC 3 8 den_leaving_ticks
def den_counts_of : FS := (dSeq (dAsg (dBin gIx (dVar 0) (dC (.int 2))) (gN 1))
 (dRet (dB gTuple (dCons (dLc (st1 2) dYes (dB gSum (dCons (dSl (dVar 1) dNoP (dPart (dBin gAdd (dVar 2) (dC (.int 1))))) dNil)) (dRng1 (dCons (dB gLen (dCons (dVar 1) dNil)) dNil))) dNil))))
@[irreducible] def F_counts_of : FF := dDef 1 3 den_counts_of
def den_ticks_of : FS := (dSeq (dAsg (dVar 0) (gTp 3 (gsCons (gN 3) (gsCons (gN 4) (gsCons (gN 5) gsNil)))))
 (dSeq (dAsg (dLstC (dCons (dVar 1) dNil)) (gN 6))
 (dSeq (dAsg (dTup dNil) (gN 7))
 (dSeq (dFor (dZip (dCons (dVar 2) (dCons (dVar 5) dNil))) (gTp 2 (gsCons (gN 8) (gsCons (gN 9) gsNil)))
 (dSeq (dAsg (dBin gIx (dVar 6) (dUn gNeg (dC (.int 1)))) (gN 10))
 (dSeq (dAsg (dCall 0 F_leaving_ticks (dCons (dVar 10) (dCons (dVar 8) (dCons (dCallW F_bike_ticks (dCons (dVar 10) (dCons (dVar 7) (dCons (dVar 9) dNil)))) dNil)))) (gN 11))
 (dSeq (dDrop (dML gAppend (dVar 6) (dCons (dB gTuple (dCons (dLc (st2 12 13) dYes (dBin gAdd (dVar 13) (dIf (dTest (dBin (gIn false) (dVar 12) (dVar 8))) (dVar 4) (dVar 3))) (dEnL (dCons (dVar 11) dNil))) dNil)) dNil)))
 (dAsg (dVar 8) (gN 7))))))
 (dRet (dB gTuple (dCons (dVar 6) dNil)))))))
@[irreducible] def F_ticks_of : FF := dDefC 3 14 den_ticks_of
def den_room_of : FS := (dRet (dB gSum (dCons (dLc (st1 2) dYes (dB gMinL (dCons (dVar 2) (dCons (dVar 1) dNil))) (dItS (dCallW F_counts_of (dCons (dVar 0) dNil)))) dNil)))
@[irreducible] def F_room_of : FF := dDef 2 3 den_room_of
def den_finish_of : FS := (dRet (dB gMax (dCons (dBin gIx (dCall 0 F_ticks_of (dCons (dVar 0) (dCons (dVar 1) (dCons (dVar 2) dNil)))) (dUn gNeg (dC (.int 1)))) dNil)))
@[irreducible] def F_finish_of : FF := dDef 3 3 den_finish_of
end Pu
namespace Pu
open PySem L2
def den_needs_of : FS := (dSeq (dAsg (dVar 0) (gTp 3 (gsCons (gN 3) (gsCons (gN 4) (gsCons (gN 5) gsNil)))))
 (dSeq (dAsg (dBin gMul (dVar 3) (dB gLen (dCons (dVar 5) dNil))) (gN 6))
 (dRet (dB gTuple (dCons (dLc (st1 7) dYes (dB gMax (dCons (dC (.int 0)) (dCons (dUn gNeg (dBin gFdiv (dBin gSub (dBin gSub (dVar 2) (dVar 7)) (dVar 6)) (dBin gSub (dVar 3) (dVar 4)))) dNil))) (dItS (dVar 1))) dNil)))))
@[irreducible] def F_needs_of : FF := dDef 3 8 den_needs_of
end Pu
namespace Pu
open PySem L2
def den_greatest : FS := (dSeq (dAsg (dB gSorted (dCons (dLc (st2 3 4) dYes (dTup (dCons (dUn gNeg (dVar 4)) (dCons (dVar 3) dNil))) (dEn (dCons (dVar 0) dNil))) dNil)) (gN 2))
 (dRet (dB gTuple (dCons (dB gSorted (dCons (dLc (st2 4 3) dYes (dVar 3) (dItS (dSl (dVar 2) dNoP (dPart (dVar 1))))) dNil)) dNil))))
@[irreducible] def F_greatest : FF := dDef 2 5 den_greatest
def den_rule_plan : FS := (dSeq (dAsg (dSl (dVar 0) dNoP (dPart (dC (.int 2)))) (gTp 2 (gsCons (gN 2) (gsCons (gN 3) gsNil))))
 (dSeq (dAsg (dVar 1) (gN 4))
 (dSeq (dAsg (dLstC dNil) (gN 5))
 (dSeq (dFor (dItS (dCallW F_counts_of (dCons (dVar 0) dNil))) (gN 6)
 (dSeq (dAsg (dCallW F_greatest (dCons (dVar 4) (dCons (dVar 6) dNil))) (gN 7))
 (dSeq (dAsg (dLc (st2 8 9) dYes (dBin gAdd (dVar 9) (dIf (dTest (dBin (gIn false) (dVar 8) (dVar 7))) (dVar 3) (dVar 2))) (dEn (dCons (dVar 4) dNil))) (gN 4))
 (dDrop (dML gAppend (dVar 5) (dCons (dVar 7) dNil))))))
 (dRet (dB gTuple (dCons (dVar 5) dNil)))))))
@[irreducible] def F_rule_plan : FF := dDefC 2 10 den_rule_plan
end Pu
namespace Pu
open PySem L2
def den_least_finish : FS := (dRet (dCallW F_finish_of (dCons (dVar 0) (dCons (dVar 1) (dCons (dCall 0 F_rule_plan (dCons (dVar 0) (dCons (dVar 1) dNil))) dNil)))))
@[irreducible] def F_least_finish : FF := dDef 2 2 den_least_finish
end Pu
namespace Pu
open PySem L2
def den_exclude : FS := (dRet (dBin gGt (dB gSum (dCons (dLc (st1 3) dYes (dBin gIx (dVar 1) (dVar 3)) (dItS (dVar 2))) dNil)) (dCallW F_room_of (dCons (dVar 0) (dCons (dB gLen (dCons (dVar 2) dNil)) dNil)))))
@[irreducible] def F_exclude : FF := dDef 3 4 den_exclude
def den_excluding_people : FS := (dSeq (dAsg (dLc (st1 3) dYes (dCallW F_greatest (dCons (dVar 1) (dCons (dVar 3) dNil))) (dRng2 (dCons (dC (.int 1)) (dCons (dBin gAdd (dB gLen (dCons (dVar 1) dNil)) (dC (.int 1))) dNil)))) (gN 2))
 (dRet (dBin gIx (dLc (st1 4) (dTest (dCallW F_exclude (dCons (dVar 0) (dCons (dVar 1) (dCons (dVar 4) dNil))))) (dVar 4) (dItS (dVar 2))) (dC (.int 0)))))
@[irreducible] def F_excluding_people : FF := dDef 2 5 den_excluding_people
def den_find_certificate : FS := (dSeq (dAsg (dCall 0 F_rule_plan (dCons (dVar 0) (dCons (dVar 1) dNil))) (gN 3))
 (dSeq (dIfS (dTest (dBin gLe (dCallW F_finish_of (dCons (dVar 0) (dCons (dVar 1) (dCons (dVar 3) dNil)))) (dVar 2)))
 (dRet (dTup (dCons (dC (.str "plan")) (dCons (dVar 3) dNil))))
 dSkip)
 (dRet (dTup (dCons (dC (.str "people")) (dCons (dCallW F_excluding_people (dCons (dVar 0) (dCons (dCallW F_needs_of (dCons (dVar 0) (dCons (dVar 1) (dCons (dVar 2) dNil)))) dNil))) dNil))))))
@[irreducible] def F_find_certificate : FF := dDef 3 4 den_find_certificate
end Pu
namespace Pu
open PySem L2
def den_with_further : FS := (dSeq (dAsg (dVar 0) (gTp 3 (gsCons (gN 3) (gsCons (gN 4) (gsCons (gN 5) gsNil)))))
 (dRet (dTup (dCons (dVar 3) (dCons (dVar 4) (dCons (dBin gAdd (dBin gAdd (dSl (dVar 5) dNoP (dPart (dVar 1))) (dTup (dCons (dBin gAdd (dBin gIx (dVar 5) (dVar 1)) (dVar 2)) dNil))) (dSl (dVar 5) (dPart (dBin gAdd (dVar 1) (dC (.int 1)))) dNoP)) dNil))))))
@[irreducible] def F_with_further : FF := dDef 3 6 den_with_further
end Pu
namespace Pu
open PySem L2
def den_is_starts : FS := (dSeq (dIfS (dOr (dNot (dTest (dUn (gIsi .tup) (dVar 0)))) (dNot (dTest (dChain gLe gLe (dC (.int 1)) (dB gLen (dCons (dVar 0) dNil)) (dC (.int 10))))))
 (dRet (dC (.bl false)))
 dSkip)
 (dSeq (dFor (dItS (dVar 0)) (gN 1)
 (dIfS (dNot (dTest (dCallW F_is_number_from (dCons (dVar 1) (dCons (dC (.int 0)) (dCons (dC (.int 1000000)) dNil))))))
 (dRet (dC (.bl false)))
 dSkip))
 (dRet (dC (.bl true)))))
@[irreducible] def F_is_starts : FF := dDef 1 2 den_is_starts
end Pu
namespace Pu
open PySem L2
def den_Trip_road : FS := (dRet (dBin gIx (dBin gIx (dFld ["Trip"] "versions" (dVar 0)) (dUn gNeg (dC (.int 1)))) (dC (.int 0))))
@[irreducible] def F_Trip_road : FF := dDef 1 1 den_Trip_road
def den_Trip_starts : FS := (dRet (dBin gIx (dBin gIx (dFld ["Trip"] "versions" (dVar 0)) (dUn gNeg (dC (.int 1)))) (dC (.int 1))))
@[irreducible] def F_Trip_starts : FF := dDef 1 1 den_Trip_starts
def den_Trip_finish : FS := (dRet (dBin gIx (dBin gIx (dFld ["Trip"] "versions" (dVar 0)) (dUn gNeg (dC (.int 1)))) (dC (.int 2))))
@[irreducible] def F_Trip_finish : FF := dDef 1 1 den_Trip_finish
def den_road_error_2 : FS := (dSeq (dIfS (dOr (dNot (dTest (dUn (gIsi .tup) (dVar 0)))) (dTest (dBin iNe (dB gLen (dCons (dVar 0) dNil)) (dC (.int 3)))))
 (dRet (dTup (dCons (dC .non) (dCons (dC (.str "road")) dNil))))
 dSkip)
 (dSeq (dAsg (dVar 0) (gTp 3 (gsCons (gN 1) (gsCons (gN 2) (gsCons (gN 3) gsNil)))))
 (dSeq (dIfS (dOr (dNot (dTest (dCallW F_is_number_from (dCons (dVar 1) (dCons (dC (.int 1)) (dCons (dC (.int 1000)) dNil)))))) (dNot (dTest (dCallW F_is_number_from (dCons (dVar 2) (dCons (dC (.int 1)) (dCons (dBin gSub (dVar 1) (dC (.int 1))) dNil)))))))
 (dRet (dTup (dCons (dC .non) (dCons (dC (.str "ticks")) dNil))))
 dSkip)
 (dSeq (dIfS (dOr (dNot (dTest (dUn (gIsi .tup) (dVar 3)))) (dNot (dTest (dChain gLe gLe (dC (.int 1)) (dB gLen (dCons (dVar 3) dNil)) (dC (.int 12))))))
 (dRet (dTup (dCons (dC .non) (dCons (dC (.str "bikes")) dNil))))
 dSkip)
 (dSeq (dFor (dEnT (dCons (dVar 3) dNil)) (gTp 2 (gsCons (gN 4) (gsCons (gN 5) gsNil)))
 (dIfS (dNot (dTest (dCallW F_is_number_from (dCons (dVar 5) (dCons (dC (.int 0)) (dCons (dC (.int 12)) dNil))))))
 (dRet (dTup (dCons (dVar 4) (dCons (dC (.str "bikes")) dNil))))
 dSkip))
 (dRet (dC .non)))))))
@[irreducible] def F_road_error_2 : FF := dDef 1 6 den_road_error_2
def den_with_person : FS := (dSeq (dIfS (dNot (dTest (dCallW F_is_number_from (dCons (dVar 1) (dCons (dC (.int 0)) (dCons (dC (.int 1000000)) dNil))))))
 (dRaise "BadStart" "value" (dVar 1))
 dSkip)
 (dSeq (dIfS (dTest (dBin gGe (dB gLen (dCons (dVar 0) dNil)) (dC (.int 10))))
 (dRaise0 "TooManyPeople")
 dSkip)
 (dRet (dBin gAdd (dVar 0) (dTup (dCons (dVar 1) dNil))))))
@[irreducible] def F_with_person : FF := dDefX 2 2 den_with_person
def den_without_person : FS := (dSeq (dIfS (dNot (dTest (dCallW F_is_number_from (dCons (dVar 1) (dCons (dC (.int 0)) (dCons (dBin gSub (dB gLen (dCons (dVar 0) dNil)) (dC (.int 1))) dNil))))))
 (dRaise "NoPerson" "value" (dVar 1))
 dSkip)
 (dSeq (dIfS (dTest (dBin iEq (dB gLen (dCons (dVar 0) dNil)) (dC (.int 1))))
 (dRaise0 "LastPerson")
 dSkip)
 (dRet (dBin gAdd (dSl (dVar 0) dNoP (dPart (dVar 1))) (dSl (dVar 0) (dPart (dBin gAdd (dVar 1) (dC (.int 1)))) dNoP)))))
@[irreducible] def F_without_person : FF := dDefX 2 2 den_without_person
def den_check_bikes : FS := (dSeq (dIfS (dNot (dTest (dCallW F_is_number_from (dCons (dVar 1) (dCons (dC (.int 0)) (dCons (dBin gSub (dB gLen (dCons (dBin gIx (dVar 0) (dC (.int 2))) dNil)) (dC (.int 1))) dNil))))))
 (dRaise "NoStation" "value" (dVar 1))
 dSkip)
 (dIfS (dNot (dTest (dCallW F_is_number_from (dCons (dVar 2) (dCons (dC (.int 1)) (dCons (dC (.int 12)) dNil))))))
 (dRaise "BadCount" "value" (dVar 2))
 dSkip))
@[irreducible] def F_check_bikes : FF := dDefX 3 3 den_check_bikes
def den_Trip_check_not_watched : FS := (dIfS (dTest (dFld ["Trip"] "watched" (dVar 0)))
 (dRaise0 "Busy")
 dSkip)
@[irreducible] def F_Trip_check_not_watched : FF := dDefX 1 1 den_Trip_check_not_watched
def den_with_more_bikes : FS := (dSeq (dDrop (dCallW F_check_bikes (dCons (dVar 0) (dCons (dVar 1) (dCons (dVar 2) dNil)))))
 (dSeq (dAsg (dBin gAdd (dBin gIx (dBin gIx (dVar 0) (dC (.int 2))) (dVar 1)) (dVar 2)) (gN 3))
 (dSeq (dIfS (dTest (dBin gGt (dVar 3) (dC (.int 12))))
 (dRaise "TooMuch" "total" (dVar 3))
 dSkip)
 (dRet (dCallW F_with_further (dCons (dVar 0) (dCons (dVar 1) (dCons (dVar 2) dNil))))))))
@[irreducible] def F_with_more_bikes : FF := dDefX 3 4 den_with_more_bikes
def den_with_fewer_bikes : FS := (dSeq (dDrop (dCallW F_check_bikes (dCons (dVar 0) (dCons (dVar 1) (dCons (dVar 2) dNil)))))
 (dSeq (dAsg (dBin gIx (dBin gIx (dVar 0) (dC (.int 2))) (dVar 1)) (gN 3))
 (dSeq (dIfS (dTest (dBin gLt (dVar 3) (dVar 2)))
 (dRaise "TooFew" "present" (dVar 3))
 dSkip)
 (dRet (dCallW F_with_further (dCons (dVar 0) (dCons (dVar 1) (dCons (dUn gNeg (dVar 2)) dNil))))))))
@[irreducible] def F_with_fewer_bikes : FF := dDefX 3 4 den_with_fewer_bikes
def den_changed : FS := (dSeq (dAsg (dBin gIx (dVar 2) (dC (.int 0))) (gN 3))
 (dSeq (dIfS (dTest (dBin iEq (dVar 3) (dC (.str "come"))))
 (dRet (dTup (dCons (dVar 0) (dCons (dCallW F_with_person (dCons (dVar 1) (dCons (dBin gIx (dVar 2) (dC (.int 1))) dNil))) dNil))))
 dSkip)
 (dSeq (dIfS (dTest (dBin iEq (dVar 3) (dC (.str "leave"))))
 (dRet (dTup (dCons (dVar 0) (dCons (dCallW F_without_person (dCons (dVar 1) (dCons (dBin gIx (dVar 2) (dC (.int 1))) dNil))) dNil))))
 dSkip)
 (dSeq (dIfS (dTest (dBin iEq (dVar 3) (dC (.str "place"))))
 (dRet (dTup (dCons (dCallW F_with_more_bikes (dCons (dVar 0) (dCons (dBin gIx (dVar 2) (dC (.int 1))) (dCons (dBin gIx (dVar 2) (dC (.int 2))) dNil)))) (dCons (dVar 1) dNil))))
 dSkip)
 (dRet (dTup (dCons (dCallW F_with_fewer_bikes (dCons (dVar 0) (dCons (dBin gIx (dVar 2) (dC (.int 1))) (dCons (dBin gIx (dVar 2) (dC (.int 2))) dNil)))) (dCons (dVar 1) dNil))))))))
@[irreducible] def F_changed : FF := dDefX 3 4 den_changed
def den_Trip_do_edit : FS := (dSeq (dDrop (dMeth [("Trip", F_Trip_check_not_watched)] "check_not_watched" (dVar 0) dNil))
 (dSeq (dIfS (dTest (dBin gGe (dB gLen (dCons (dFld ["Trip"] "done" (dVar 0)) dNil)) (dCon ["Trip"] "MOST_EDITS" (.int 60) (dVar 0))))
 (dRaise0 "TooManyEdits")
 dSkip)
 (dSeq (dAsg (dCallW F_changed (dCons (dProp [("Trip", F_Trip_road)] (dVar 0)) (dCons (dProp [("Trip", F_Trip_starts)] (dVar 0)) (dCons (dVar 1) dNil)))) (gTp 2 (gsCons (gN 3) (gsCons (gN 4) gsNil))))
 (dSeq (dAsg (dCallW F_least_finish (dCons (dVar 3) (dCons (dVar 4) dNil))) (gN 5))
 (dSeq (dIfS (dAnd (dTest (dBin (gIs true) (dVar 2) (dC .non))) (dTest (dBin gGt (dVar 5) (dVar 2))))
 (dRaise "TooLate" "tick" (dVar 5))
 dSkip)
 (dSeq (dStF ["Trip"] "done" (dVar 0) (dBin gAdd (dFld ["Trip"] "done" (dVar 0)) (dTup (dCons (dVar 1) dNil))))
 (dSeq (dStF ["Trip"] "versions" (dVar 0) (dBin gAdd (dFld ["Trip"] "versions" (dVar 0)) (dTup (dCons (dTup (dCons (dVar 3) (dCons (dVar 4) (dCons (dVar 5) dNil)))) dNil))))
 (dRet (dB gLen (dCons (dFld ["Trip"] "done" (dVar 0)) dNil))))))))))
@[irreducible] def F_Trip_do_edit : FF := dDefX 3 6 den_Trip_do_edit
def den_Trip_come : FS := (dRet (dMeth [("Trip", F_Trip_do_edit)] "do_edit" (dVar 0) (dCons (dTup (dCons (dC (.str "come")) (dCons (dVar 1) dNil))) (dCons (dC .non) dNil))))
@[irreducible] def F_Trip_come : FF := dDefX 2 2 den_Trip_come
end Pu
namespace Pu
open PySem L2
def den_Promise_latest_2 : FS := (dRet (dFld ["Promise", "PromisedTrip"] "promised" (dVar 0)))
@[irreducible] def F_Promise_latest_2 : FF := dDef 1 1 den_Promise_latest_2
def den_Trip_road_2 : FS := (dRet (dBin gIx (dBin gIx (dFld ["Trip", "PromisedTrip"] "versions" (dVar 0)) (dUn gNeg (dC (.int 1)))) (dC (.int 0))))
@[irreducible] def F_Trip_road_2 : FF := dDef 1 1 den_Trip_road_2
def den_Trip_starts_2 : FS := (dRet (dBin gIx (dBin gIx (dFld ["Trip", "PromisedTrip"] "versions" (dVar 0)) (dUn gNeg (dC (.int 1)))) (dC (.int 1))))
@[irreducible] def F_Trip_starts_2 : FF := dDef 1 1 den_Trip_starts_2
def den_Trip_finish_2 : FS := (dRet (dBin gIx (dBin gIx (dFld ["Trip", "PromisedTrip"] "versions" (dVar 0)) (dUn gNeg (dC (.int 1)))) (dC (.int 2))))
@[irreducible] def F_Trip_finish_2 : FF := dDef 1 1 den_Trip_finish_2
def den_Trip_len : FS := (dRet (dB gLen (dCons (dFld ["Trip", "PromisedTrip"] "done" (dVar 0)) dNil)))
@[irreducible] def F_Trip_len : FF := dDef 1 1 den_Trip_len
def den_Trip_check_not_watched_2 : FS := (dIfS (dTest (dFld ["Trip", "PromisedTrip"] "watched" (dVar 0)))
 (dRaise0 "Busy")
 dSkip)
@[irreducible] def F_Trip_check_not_watched_2 : FF := dDefX 1 1 den_Trip_check_not_watched_2
def den_Trip_state : FS := (dSeq (dIfS (dTest (dBin (gIs false) (dVar 1) (dC .non)))
 (dRet (dTup (dCons (dProp [("Trip", F_Trip_road_2), ("PromisedTrip", F_Trip_road_2)] (dVar 0)) (dCons (dProp [("Trip", F_Trip_starts_2), ("PromisedTrip", F_Trip_starts_2)] (dVar 0)) dNil))))
 dSkip)
 (dSeq (dIfS (dNot (dTest (dCallW F_is_number_from (dCons (dVar 1) (dCons (dC (.int 0)) (dCons (dB gLen (dCons (dFld ["Trip", "PromisedTrip"] "done" (dVar 0)) dNil)) dNil))))))
 (dRaise "NoVersion" "value" (dVar 1))
 dSkip)
 (dRet (dSl (dBin gIx (dFld ["Trip", "PromisedTrip"] "versions" (dVar 0)) (dVar 1)) dNoP (dPart (dC (.int 2)))))))
@[irreducible] def F_Trip_state : FF := dDefX 2 2 den_Trip_state
def den_Trip_init_2 : FS := (dSeq (dAsg (dCallW F_road_error_2 (dCons (dVar 1) dNil)) (gN 3))
 (dSeq (dIfS (dTest (dBin (gIs true) (dVar 3) (dC .non)))
 (dRaise "BadRoad" "error" (dVar 3))
 dSkip)
 (dSeq (dIfS (dNot (dTest (dCallW F_is_starts (dCons (dVar 2) dNil))))
 (dRaise "BadStarts" "value" (dVar 2))
 dSkip)
 (dSeq (dStF ["Trip", "PromisedTrip"] "done" (dVar 0) (dTup dNil))
 (dSeq (dStF ["Trip", "PromisedTrip"] "versions" (dVar 0) (dTup (dCons (dTup (dCons (dVar 1) (dCons (dVar 2) (dCons (dCallW F_least_finish (dCons (dVar 1) (dCons (dVar 2) dNil))) dNil)))) dNil)))
 (dStF ["Trip", "PromisedTrip"] "watched" (dVar 0) (dC (.bl false))))))))
@[irreducible] def F_Trip_init_2 : FF := dDefX 3 4 den_Trip_init_2
def den_Trip_do_edit_2 : FS := (dSeq (dDrop (dMeth [("Trip", F_Trip_check_not_watched_2), ("PromisedTrip", F_Trip_check_not_watched_2)] "check_not_watched" (dVar 0) dNil))
 (dSeq (dIfS (dTest (dBin gGe (dB gLen (dCons (dFld ["Trip", "PromisedTrip"] "done" (dVar 0)) dNil)) (dCon ["Trip", "PromisedTrip"] "MOST_EDITS" (.int 60) (dVar 0))))
 (dRaise0 "TooManyEdits")
 dSkip)
 (dSeq (dAsg (dCallW F_changed (dCons (dProp [("Trip", F_Trip_road_2), ("PromisedTrip", F_Trip_road_2)] (dVar 0)) (dCons (dProp [("Trip", F_Trip_starts_2), ("PromisedTrip", F_Trip_starts_2)] (dVar 0)) (dCons (dVar 1) dNil)))) (gTp 2 (gsCons (gN 3) (gsCons (gN 4) gsNil))))
 (dSeq (dAsg (dCallW F_least_finish (dCons (dVar 3) (dCons (dVar 4) dNil))) (gN 5))
 (dSeq (dIfS (dAnd (dTest (dBin (gIs true) (dVar 2) (dC .non))) (dTest (dBin gGt (dVar 5) (dVar 2))))
 (dRaise "TooLate" "tick" (dVar 5))
 dSkip)
 (dSeq (dStF ["Trip", "PromisedTrip"] "done" (dVar 0) (dBin gAdd (dFld ["Trip", "PromisedTrip"] "done" (dVar 0)) (dTup (dCons (dVar 1) dNil))))
 (dSeq (dStF ["Trip", "PromisedTrip"] "versions" (dVar 0) (dBin gAdd (dFld ["Trip", "PromisedTrip"] "versions" (dVar 0)) (dTup (dCons (dTup (dCons (dVar 3) (dCons (dVar 4) (dCons (dVar 5) dNil)))) dNil))))
 (dRet (dB gLen (dCons (dFld ["Trip", "PromisedTrip"] "done" (dVar 0)) dNil))))))))))
@[irreducible] def F_Trip_do_edit_2 : FF := dDefX 3 6 den_Trip_do_edit_2
def den_Trip_come_2 : FS := (dRet (dMeth [("Trip", F_Trip_do_edit_2), ("PromisedTrip", F_Trip_do_edit_2)] "do_edit" (dVar 0) (dCons (dTup (dCons (dC (.str "come")) (dCons (dVar 1) dNil))) (dCons (dC .non) dNil))))
@[irreducible] def F_Trip_come_2 : FF := dDefX 2 2 den_Trip_come_2
def den_Trip_leave : FS := (dRet (dMeth [("Trip", F_Trip_do_edit_2), ("PromisedTrip", F_Trip_do_edit_2)] "do_edit" (dVar 0) (dCons (dTup (dCons (dC (.str "leave")) (dCons (dVar 1) dNil))) (dCons (dC .non) dNil))))
@[irreducible] def F_Trip_leave : FF := dDefX 2 2 den_Trip_leave
def den_Trip_place : FS := (dRet (dMeth [("Trip", F_Trip_do_edit_2), ("PromisedTrip", F_Trip_do_edit_2)] "do_edit" (dVar 0) (dCons (dTup (dCons (dC (.str "place")) (dCons (dVar 1) (dCons (dVar 2) dNil)))) (dCons (dC .non) dNil))))
@[irreducible] def F_Trip_place : FF := dDefX 3 3 den_Trip_place
def den_Trip_take : FS := (dRet (dMeth [("Trip", F_Trip_do_edit_2), ("PromisedTrip", F_Trip_do_edit_2)] "do_edit" (dVar 0) (dCons (dTup (dCons (dC (.str "take")) (dCons (dVar 1) (dCons (dVar 2) dNil)))) (dCons (dC .non) dNil))))
@[irreducible] def F_Trip_take : FF := dDefX 3 3 den_Trip_take
def den_PromisedTrip_come : FS := (dRet (dMeth [("PromisedTrip", F_Trip_do_edit_2)] "do_edit" (dVar 0) (dCons (dTup (dCons (dC (.str "come")) (dCons (dVar 1) dNil))) (dCons (dProp [("PromisedTrip", F_Promise_latest_2)] (dVar 0)) dNil))))
@[irreducible] def F_PromisedTrip_come : FF := dDefX 2 2 den_PromisedTrip_come
def den_PromisedTrip_leave : FS := (dRet (dMeth [("PromisedTrip", F_Trip_do_edit_2)] "do_edit" (dVar 0) (dCons (dTup (dCons (dC (.str "leave")) (dCons (dVar 1) dNil))) (dCons (dProp [("PromisedTrip", F_Promise_latest_2)] (dVar 0)) dNil))))
@[irreducible] def F_PromisedTrip_leave : FF := dDefX 2 2 den_PromisedTrip_leave
def den_PromisedTrip_place : FS := (dRet (dMeth [("PromisedTrip", F_Trip_do_edit_2)] "do_edit" (dVar 0) (dCons (dTup (dCons (dC (.str "place")) (dCons (dVar 1) (dCons (dVar 2) dNil)))) (dCons (dProp [("PromisedTrip", F_Promise_latest_2)] (dVar 0)) dNil))))
@[irreducible] def F_PromisedTrip_place : FF := dDefX 3 3 den_PromisedTrip_place
def den_PromisedTrip_take : FS := (dRet (dMeth [("PromisedTrip", F_Trip_do_edit_2)] "do_edit" (dVar 0) (dCons (dTup (dCons (dC (.str "take")) (dCons (dVar 1) (dCons (dVar 2) dNil)))) (dCons (dProp [("PromisedTrip", F_Promise_latest_2)] (dVar 0)) dNil))))
@[irreducible] def F_PromisedTrip_take : FF := dDefX 3 3 den_PromisedTrip_take
end Pu
namespace Pu
open PySem L2
def den_Trip_undo : FS := (dSeq (dDrop (dMeth [("Trip", F_Trip_check_not_watched_2), ("PromisedTrip", F_Trip_check_not_watched_2)] "check_not_watched" (dVar 0) dNil))
 (dSeq (dIfS (dTest (dBin iEq (dB gLen (dCons (dFld ["Trip", "PromisedTrip"] "done" (dVar 0)) dNil)) (dC (.int 0))))
 (dRaise0 "NothingToUndo")
 dSkip)
 (dSeq (dStF ["Trip", "PromisedTrip"] "done" (dVar 0) (dSl (dFld ["Trip", "PromisedTrip"] "done" (dVar 0)) dNoP (dPart (dUn gNeg (dC (.int 1))))))
 (dSeq (dStF ["Trip", "PromisedTrip"] "versions" (dVar 0) (dSl (dFld ["Trip", "PromisedTrip"] "versions" (dVar 0)) dNoP (dPart (dUn gNeg (dC (.int 1))))))
 (dRet (dB gLen (dCons (dFld ["Trip", "PromisedTrip"] "done" (dVar 0)) dNil)))))))
@[irreducible] def F_Trip_undo : FF := dDefX 1 1 den_Trip_undo
end Pu
namespace Pu
open PySem L2
def den_Promise_latest : FS := (dRet (dFld ["Promise"] "promised" (dVar 0)))
@[irreducible] def F_Promise_latest : FF := dDef 1 1 den_Promise_latest
def den_is_end : FS := (dRet (dCallW F_is_number_from (dCons (dVar 0) (dCons (dC (.int 0)) (dCons (dC (.int 10000000)) dNil)))))
@[irreducible] def F_is_end : FF := dDef 1 1 den_is_end
end Pu
namespace Pu
open PySem L2
def den_Promise_init_2 : FS := (dSeq (dIfS (dNot (dTest (dCallW F_is_end (dCons (dVar 1) dNil))))
 (dRaise "BadEnd" "value" (dVar 1))
 dSkip)
 (dStF ["Promise", "PromisedTrip"] "promised" (dVar 0) (dVar 1)))
@[irreducible] def F_Promise_init_2 : FF := dDefX 2 2 den_Promise_init_2
def den_Trip_certificate : FS := (dSeq (dAsg (dMethK [("Trip", F_Trip_state), ("PromisedTrip", F_Trip_state)] "state" (dVar 0) dNil (dVar 2)) (gTp 2 (gsCons (gN 3) (gsCons (gN 4) gsNil))))
 (dSeq (dIfS (dNot (dTest (dCallW F_is_end (dCons (dVar 1) dNil))))
 (dRaise "BadEnd" "value" (dVar 1))
 dSkip)
 (dRet (dCallW F_find_certificate (dCons (dVar 3) (dCons (dVar 4) (dCons (dVar 1) dNil)))))))
@[irreducible] def F_Trip_certificate : FF := dDefX 3 5 den_Trip_certificate
def den_PromisedTrip_init : FS := (dSeq (dDrop (dCallW F_Trip_init_2 (dCons (dVar 0) (dCons (dVar 1) (dCons (dVar 2) dNil)))))
 (dSeq (dDrop (dCallW F_Promise_init_2 (dCons (dVar 0) (dCons (dVar 3) dNil))))
 (dIfS (dTest (dBin gGt (dProp [("PromisedTrip", F_Trip_finish_2)] (dVar 0)) (dProp [("PromisedTrip", F_Promise_latest_2)] (dVar 0))))
 (dRaise "TooLate" "tick" (dProp [("PromisedTrip", F_Trip_finish_2)] (dVar 0)))
 dSkip)))
@[irreducible] def F_PromisedTrip_init : FF := dDefX 4 4 den_PromisedTrip_init
end Pu
namespace Pu
open PySem L2
def den_is_edit : FS := (dSeq (dIfS (dOr (dNot (dTest (dUn (gIsi .tup) (dVar 0)))) (dOr (dTest (dBin iEq (dB gLen (dCons (dVar 0) dNil)) (dC (.int 0)))) (dNot (dTest (dUn (gIsi .str) (dBin gIx (dVar 0) (dC (.int 0))))))))
 (dRet (dC (.bl false)))
 dSkip)
 (dRet (dBin iEq (dKGet [("come", 2), ("leave", 2), ("place", 3), ("take", 3)] (dBin gIx (dVar 0) (dC (.int 0)))) (dB gLen (dCons (dVar 0) dNil)))))
@[irreducible] def F_is_edit : FF := dDef 1 1 den_is_edit
def den_Trip_call_edit : FS := (dSeq (dAsg (dBin gIx (dVar 1) (dC (.int 0))) (gN 2))
 (dSeq (dIfS (dTest (dBin iEq (dVar 2) (dC (.str "come"))))
 (dRet (dMeth [("Trip", F_Trip_come_2), ("PromisedTrip", F_PromisedTrip_come)] "come" (dVar 0) (dCons (dBin gIx (dVar 1) (dC (.int 1))) dNil)))
 dSkip)
 (dSeq (dIfS (dTest (dBin iEq (dVar 2) (dC (.str "leave"))))
 (dRet (dMeth [("Trip", F_Trip_leave), ("PromisedTrip", F_PromisedTrip_leave)] "leave" (dVar 0) (dCons (dBin gIx (dVar 1) (dC (.int 1))) dNil)))
 dSkip)
 (dSeq (dIfS (dTest (dBin iEq (dVar 2) (dC (.str "place"))))
 (dRet (dMeth [("Trip", F_Trip_place), ("PromisedTrip", F_PromisedTrip_place)] "place" (dVar 0) (dCons (dBin gIx (dVar 1) (dC (.int 1))) (dCons (dBin gIx (dVar 1) (dC (.int 2))) dNil))))
 dSkip)
 (dRet (dMeth [("Trip", F_Trip_take), ("PromisedTrip", F_PromisedTrip_take)] "take" (dVar 0) (dCons (dBin gIx (dVar 1) (dC (.int 1))) (dCons (dBin gIx (dVar 1) (dC (.int 2))) dNil))))))))
@[irreducible] def F_Trip_call_edit : FF := dDefX 2 3 den_Trip_call_edit
end Pu
namespace Pu
open PySem L2
def den_listed : FS := (dRet (dJoin (dC (.str ",")) (dLc (st1 1) dYes (dB gStr (dCons (dVar 1) dNil)) (dItS (dVar 0)))))
@[irreducible] def F_listed : FF := dDef 1 2 den_listed
def den_law_deck_2 : FS := (dRet (dLstC (dCons (dLcC (st1 1) dYes (dB gAbs (dCons (dVar 1) dNil)) (dItS (dSl (dVar 0) dNoP (dPart (dC (.int 60)))))) (dCons (dC (.int 0)) dNil))))
@[irreducible] def F_law_deck_2 : FF := dDef 1 2 den_law_deck_2
def den_law_draw_3 : FS := (dSeq (dAsg (dBin gAdd (dBin gIx (dVar 0) (dC (.int 1))) (dC (.int 1))) (gSetI (dVar 0) (dC (.int 1))))
 (dSeq (dAsg (dBin gMod (dBin gIx (dVar 0) (dC (.int 1))) (dB gMax (dCons (dC (.int 1)) (dCons (dB gLen (dCons (dBin gIx (dVar 0) (dC (.int 0))) dNil)) dNil)))) (gN 2))
 (dSeq (dAsg (dBin gIx (dBin gAdd (dBin gIx (dVar 0) (dC (.int 0))) (dLst (dCons (dC (.int 0)) dNil))) (dVar 2)) (gN 3))
 (dSeq (dIfS (dTest (dBin gGe (dVar 3) (dBin gPow (dC (.int 10)) (dC (.int 18)))))
 (dSeq (dAsg (dBin gFdiv (dVar 3) (dVar 1)) (gSetI (dBin gIx (dVar 0) (dC (.int 0))) (dVar 2)))
 (dRet (dBin gMod (dVar 3) (dVar 1))))
 dSkip)
 (dSeq (dAsg (dBin gMod (dBin gPow (dBin gAdd (dBin gAdd (dBin gMod (dVar 3) (dC (.int 2147483563))) (dBin gMul (dC (.int 104729)) (dBin gIx (dVar 0) (dC (.int 1))))) (dC (.int 7))) (dC (.int 4))) (dC (.int 2147483629))) (gN 4))
 (dRet (dBin gMod (dBin gAdd (dBin gFdiv (dVar 4) (dC (.int 8))) (dBin gMul (dC (.int 31)) (dBin gIx (dVar 0) (dC (.int 1))))) (dVar 1))))))))
@[irreducible] def F_law_draw_3 : FF := dDef 2 5 den_law_draw_3
def den_trip_text : FS := (dSeq (dAsg (dVar 0) (gTp 3 (gsCons (gN 2) (gsCons (gN 3) (gsCons (gN 4) gsNil)))))
 (dRet (dJs [(dFmt (dVar 2)), (dC (.str "/")), (dFmt (dVar 3)), (dC (.str " ")), (dFmt (dCallW F_listed (dCons (dVar 4) dNil))), (dC (.str " from ")), (dFmt (dCallW F_listed (dCons (dVar 1) dNil)))] Str.empty)))
@[irreducible] def F_trip_text : FF := dDef 2 5 den_trip_text
def den_law_state : FS := (dSeq (dAsg (dBin iEq (dCallW F_law_draw_3 (dCons (dVar 0) (dCons (dC (.int 3)) dNil))) (dC (.int 0))) (gN 3))
 (dSeq (dAsg (dBin gAdd (dC (.int 2)) (dCallW F_law_draw_3 (dCons (dVar 0) (dCons (dBin gIx (dLst (dCons (dC (.int 12)) (dCons (dC (.int 999)) dNil))) (dB gToInt (dCons (dVar 3) dNil))) dNil)))) (gN 4))
 (dSeq (dPar3 5 6 7 (dCons (dBin gAdd (dC (.int 1)) (dCallW F_law_draw_3 (dCons (dVar 0) (dCons (dBin gSub (dVar 4) (dC (.int 1))) dNil)))) (dCons (dLstC dNil) (dCons (dLstC dNil) dNil))))
 (dSeq (dFor (dRng1 (dCons (dBin gAdd (dC (.int 1)) (dCallW F_law_draw_3 (dCons (dVar 0) (dCons (dVar 1) dNil)))) dNil)) (gN 8)
 (dDrop (dML gAppend (dVar 6) (dCons (dBin gIx (dLst (dCons (dC (.int 0)) (dCons (dCallW F_law_draw_3 (dCons (dVar 0) (dCons (dC (.int 2)) dNil))) (dCons (dCallW F_law_draw_3 (dCons (dVar 0) (dCons (dC (.int 3)) dNil))) (dCons (dCallW F_law_draw_3 (dCons (dVar 0) (dCons (dC (.int 13)) dNil))) dNil))))) (dCallW F_law_draw_3 (dCons (dVar 0) (dCons (dC (.int 4)) dNil)))) dNil))))
 (dSeq (dFor (dRng1 (dCons (dBin gAdd (dC (.int 1)) (dCallW F_law_draw_3 (dCons (dVar 0) (dCons (dVar 2) dNil)))) dNil)) (gN 9)
 (dDrop (dML gAppend (dVar 7) (dCons (dCallW F_law_draw_3 (dCons (dVar 0) (dCons (dBin gIx (dLst (dCons (dC (.int 40)) (dCons (dBin gAdd (dBin gPow (dC (.int 10)) (dC (.int 6))) (dC (.int 1))) dNil))) (dB gToInt (dCons (dAndV (dVar 3) (dBin iEq (dCallW F_law_draw_3 (dCons (dVar 0) (dCons (dC (.int 2)) dNil))) (dC (.int 0)))) dNil))) dNil))) dNil))))
 (dRet (dTup (dCons (dTup (dCons (dVar 4) (dCons (dVar 5) (dCons (dB gTuple (dCons (dVar 6) dNil)) dNil)))) (dCons (dB gTuple (dCons (dVar 7) dNil)) dNil)))))))))
@[irreducible] def F_law_state : FF := dDefC 3 10 den_law_state
def den_law_trip_text : FS := (dSeq (dAsg (dVar 0) (gTp 2 (gsCons (gTp 3 (gsCons (gN 1) (gsCons (gN 2) (gsCons (gN 3) gsNil)))) (gsCons (gN 4) gsNil))))
 (dSeq (dAsg (dLst (dCons (dBin gAdd (dBin gAdd (dB gStr (dCons (dVar 1) dNil)) (dC (.str "/"))) (dB gStr (dCons (dVar 2) dNil))) (dCons (dCallW F_listed (dCons (dVar 3) dNil)) (dCons (dC (.str "from")) (dCons (dCallW F_listed (dCons (dVar 4) dNil)) dNil))))) (gN 5))
 (dRet (dJoin (dC (.str " ")) (dVar 5)))))
@[irreducible] def F_law_trip_text : FF := dDef 1 6 den_law_trip_text
end Pu
namespace Pu
open PySem L2
def den_number_in : FS := (dSeq (dIfS (dOr (dNot (dTest (dMS0 gAscii (dVar 0)))) (dNot (dTest (dMS0 gDigit (dVar 0)))))
 (dRet (dC .non))
 dSkip)
 (dSeq (dIfS (dOr (dTest (dBin gGt (dB gLen (dCons (dVar 0) dNil)) (dB gLen (dCons (dB gStr (dCons (dVar 2) dNil)) dNil)))) (dAnd (dTest (dMS1 gStarts (dVar 0) (dC (.str "0")))) (dTest (dBin iNe (dVar 0) (dC (.str "0"))))))
 (dRet (dC .non))
 dSkip)
 (dSeq (dAsg (dB gIntS (dCons (dVar 0) dNil)) (gN 3))
 (dRet (dIf (dTest (dChain gLe gLe (dVar 1) (dVar 3) (dVar 2))) (dVar 3) (dC .non))))))
@[irreducible] def F_number_in : FF := dDef 3 4 den_number_in
def den_law_after_2 : FS := (dSeq (dAsg (dVar 0) (gTp 2 (gsCons (gTp 3 (gsCons (gN 2) (gsCons (gN 3) (gsCons (gN 4) gsNil)))) (gsCons (gN 5) gsNil))))
 (dSeq (dIfS (dTest (dBin iEq (dBin gIx (dVar 1) (dC (.int 0))) (dC (.str "come"))))
 (dRet (dTup (dCons (dBin gIx (dVar 0) (dC (.int 0))) (dCons (dBin gAdd (dVar 5) (dTup (dCons (dBin gIx (dVar 1) (dC (.int 1))) dNil))) dNil))))
 dSkip)
 (dSeq (dIfS (dTest (dBin iEq (dBin gIx (dVar 1) (dC (.int 0))) (dC (.str "leave"))))
 (dRet (dTup (dCons (dBin gIx (dVar 0) (dC (.int 0))) (dCons (dBin gAdd (dSl (dVar 5) dNoP (dPart (dBin gIx (dVar 1) (dC (.int 1))))) (dSl (dVar 5) (dPart (dBin gAdd (dBin gIx (dVar 1) (dC (.int 1))) (dC (.int 1)))) dNoP)) dNil))))
 dSkip)
 (dSeq (dAsg (dVar 1) (gTp 3 (gsCons (gN 6) (gsCons (gN 7) (gsCons (gN 8) gsNil)))))
 (dSeq (dAsg (dBin gAdd (dBin gIx (dVar 4) (dVar 7)) (dIf (dTest (dBin iEq (dVar 6) (dC (.str "place")))) (dVar 8) (dBin gSub (dC (.int 0)) (dVar 8)))) (gN 9))
 (dRet (dTup (dCons (dTup (dCons (dVar 2) (dCons (dVar 3) (dCons (dBin gAdd (dBin gAdd (dSl (dVar 4) dNoP (dPart (dVar 7))) (dTup (dCons (dVar 9) dNil))) (dSl (dVar 4) (dPart (dBin gAdd (dVar 7) (dC (.int 1)))) dNoP)) dNil)))) (dCons (dVar 5) dNil)))))))))
@[irreducible] def F_law_after_2 : FF := dDef 2 10 den_law_after_2
def den_Shell_init : FS := (dStF ["Shell"] "trip" (dVar 0) (dVar 1))
@[irreducible] def F_Shell_init : FF := dDef 2 2 den_Shell_init
def den_command_in : FS := (dSeq (dIfS (dNot (dTest (dUn (gIsi .str) (dVar 0))))
 (dRet (dC .non))
 dSkip)
 (dSeq (dAsg (dMS1 gSplit (dVar 0) (dC (.str " "))) (gN 1))
 (dSeq (dAsg (dLc (st1 3) dYes (dCallW F_number_in (dCons (dVar 3) (dCons (dC (.int 0)) (dCons (dC (.int 99999999)) dNil)))) (dItS (dSl (dVar 1) (dPart (dC (.int 1))) dNoP))) (gN 2))
 (dRet (dIf (dTest (dBin gInN (dC .non) (dVar 2))) (dC .non) (dTup (dCons (dBin gIx (dVar 1) (dC (.int 0))) (dStar (dVar 2) dNil))))))))
@[irreducible] def F_command_in : FF := dDef 1 4 den_command_in
def den_riders_text : FS := (dRet (dJoin (dC (.str " ")) (dLc (st1 1) dYes (dIf (dTest (dVar 1)) (dCallW F_listed (dCons (dVar 1) dNil)) (dC (.str "-"))) (dItS (dVar 0)))))
@[irreducible] def F_riders_text : FF := dDef 1 2 den_riders_text
def den_law_edit_2 : FS := (dSeq (dAsg (dVar 1) (gTp 2 (gsCons (gTp 3 (gsCons (gN 2) (gsCons (gN 3) (gsCons (gN 4) gsNil)))) (gsCons (gN 5) gsNil))))
 (dSeq (dPar 6 7 (dCons (dCallW F_law_draw_3 (dCons (dVar 0) (dCons (dC (.int 5)) dNil))) (dCons (dCallW F_law_draw_3 (dCons (dVar 0) (dCons (dB gLen (dCons (dVar 4) dNil)) dNil))) dNil)))
 (dSeq (dIfS (dAnd (dTest (dBin iEq (dVar 6) (dC (.int 0)))) (dTest (dBin gGt (dB gLen (dCons (dVar 5) dNil)) (dC (.int 1)))))
 (dRet (dTup (dCons (dC (.str "leave")) (dCons (dCallW F_law_draw_3 (dCons (dVar 0) (dCons (dB gLen (dCons (dVar 5) dNil)) dNil))) dNil))))
 dSkip)
 (dSeq (dIfS (dAnd (dTest (dBin iEq (dVar 6) (dC (.int 1)))) (dTest (dBin gGt (dBin gIx (dVar 4) (dVar 7)) (dC (.int 0)))))
 (dRet (dTup (dCons (dC (.str "take")) (dCons (dVar 7) (dCons (dBin gAdd (dC (.int 1)) (dCallW F_law_draw_3 (dCons (dVar 0) (dCons (dBin gIx (dVar 4) (dVar 7)) dNil)))) dNil)))))
 dSkip)
 (dSeq (dIfS (dAnd (dTest (dBin gLt (dVar 6) (dC (.int 4)))) (dTest (dBin gLt (dBin gIx (dVar 4) (dVar 7)) (dC (.int 12)))))
 (dRet (dTup (dCons (dC (.str "place")) (dCons (dVar 7) (dCons (dBin gAdd (dC (.int 1)) (dCallW F_law_draw_3 (dCons (dVar 0) (dCons (dB gMinL (dCons (dC (.int 2)) (dCons (dBin gSub (dC (.int 12)) (dBin gIx (dVar 4) (dVar 7))) dNil))) dNil)))) dNil)))))
 dSkip)
 (dSeq (dIfS (dTest (dBin iEq (dB gLen (dCons (dVar 5) dNil)) (dC (.int 10))))
 (dRet (dTup (dCons (dC (.str "leave")) (dCons (dC (.int 0)) dNil))))
 dSkip)
 (dRet (dTup (dCons (dC (.str "come")) (dCons (dCallW F_law_draw_3 (dCons (dVar 0) (dCons (dBin gIx (dLst (dCons (dC (.int 40)) (dCons (dBin gAdd (dBin gPow (dC (.int 10)) (dC (.int 6))) (dC (.int 1))) dNil))) (dCallW F_law_draw_3 (dCons (dVar 0) (dCons (dC (.int 2)) dNil)))) dNil))) dNil))))))))))
@[irreducible] def F_law_edit_2 : FF := dDef 2 8 den_law_edit_2
def den_law_do_2 : FS := (dSeq (dIfS (dTest (dBin iEq (dBin gIx (dVar 1) (dC (.int 0))) (dC (.str "come"))))
 (dRet (dMeth [("Trip", F_Trip_come_2), ("PromisedTrip", F_PromisedTrip_come)] "come" (dVar 0) (dCons (dBin gIx (dVar 1) (dC (.int 1))) dNil)))
 dSkip)
 (dSeq (dIfS (dTest (dBin iEq (dBin gIx (dVar 1) (dC (.int 0))) (dC (.str "leave"))))
 (dRet (dMeth [("Trip", F_Trip_leave), ("PromisedTrip", F_PromisedTrip_leave)] "leave" (dVar 0) (dCons (dBin gIx (dVar 1) (dC (.int 1))) dNil)))
 dSkip)
 (dRet (dIf (dTest (dBin iEq (dBin gIx (dVar 1) (dC (.int 0))) (dC (.str "place")))) (dMeth [("Trip", F_Trip_place), ("PromisedTrip", F_PromisedTrip_place)] "place" (dVar 0) (dCons (dBin gIx (dVar 1) (dC (.int 1))) (dCons (dBin gIx (dVar 1) (dC (.int 2))) dNil))) (dMeth [("Trip", F_Trip_take), ("PromisedTrip", F_PromisedTrip_take)] "take" (dVar 0) (dCons (dBin gIx (dVar 1) (dC (.int 1))) (dCons (dBin gIx (dVar 1) (dC (.int 2))) dNil)))))))
@[irreducible] def F_law_do_2 : FF := dDefX 2 2 den_law_do_2
def den_Shell_answer : FS := (dSeq (dIfS (dTest (dCallW F_is_edit (dCons (dVar 1) dNil)))
 (dRet (dJs [(dC (.str "ok ")), (dFmt (dMeth [("Trip", F_Trip_call_edit), ("PromisedTrip", F_Trip_call_edit)] "call_edit" (dFld ["Shell"] "trip" (dVar 0)) (dCons (dVar 1) dNil)))] Str.empty))
 dSkip)
 (dSeq (dIfS (dTest (dBin iEq (dVar 1) (dTup (dCons (dC (.str "undo")) dNil))))
 (dRet (dJs [(dC (.str "ok ")), (dFmt (dMeth [("Trip", F_Trip_undo), ("PromisedTrip", F_Trip_undo)] "undo" (dFld ["Shell"] "trip" (dVar 0)) dNil))] Str.empty))
 dSkip)
 (dSeq (dIfS (dTest (dBin iEq (dVar 1) (dTup (dCons (dC (.str "trip")) dNil))))
 (dRet (dCallW F_trip_text (dCons (dProp [("Trip", F_Trip_road_2), ("PromisedTrip", F_Trip_road_2)] (dFld ["Shell"] "trip" (dVar 0))) (dCons (dProp [("Trip", F_Trip_starts_2), ("PromisedTrip", F_Trip_starts_2)] (dFld ["Shell"] "trip" (dVar 0))) dNil))))
 dSkip)
 (dSeq (dIfS (dTest (dBin iEq (dVar 1) (dTup (dCons (dC (.str "finish")) dNil))))
 (dRet (dB gStr (dCons (dProp [("Trip", F_Trip_finish_2), ("PromisedTrip", F_Trip_finish_2)] (dFld ["Shell"] "trip" (dVar 0))) dNil)))
 dSkip)
 (dSeq (dIfS (dTest (dBin iEq (dVar 1) (dTup (dCons (dC (.str "riders")) dNil))))
 (dRet (dCallW F_riders_text (dCons (dCall 0 F_rule_plan (dCons (dProp [("Trip", F_Trip_road_2), ("PromisedTrip", F_Trip_road_2)] (dFld ["Shell"] "trip" (dVar 0))) (dCons (dProp [("Trip", F_Trip_starts_2), ("PromisedTrip", F_Trip_starts_2)] (dFld ["Shell"] "trip" (dVar 0))) dNil))) dNil)))
 dSkip)
 (dSeq (dIfS (dAnd (dTest (dBin iEq (dBin gIx (dVar 1) (dC (.int 0))) (dC (.str "by")))) (dTest (dBin iEq (dB gLen (dCons (dVar 1) dNil)) (dC (.int 2)))))
 (dRet (dBin gIx (dMethN [("Trip", F_Trip_certificate), ("PromisedTrip", F_Trip_certificate)] "certificate" (dFld ["Shell"] "trip" (dVar 0)) (dCons (dBin gIx (dVar 1) (dC (.int 1))) dNil)) (dC (.int 0))))
 dSkip)
 (dRet dNevE)))))))
@[irreducible] def F_Shell_answer : FF := dDefX 2 2 den_Shell_answer
def den_Shell_execute : FS := (dSeq (dAsg (dCallW F_command_in (dCons (dVar 1) dNil)) (gN 2))
 (dSeq (dIfS (dTest (dBin (gIs false) (dVar 2) (dC .non)))
 (dRet dNevE)
 dSkip)
 (dTryN (dRet (dMeth [("Shell", F_Shell_answer)] "answer" (dVar 0) (dCons (dVar 2) dNil))))))
@[irreducible] def F_Shell_execute : FF := dDef 2 3 den_Shell_execute
end Pu
namespace Pu
open PySem L2
def den_law_rule_2 : FS := (dSeq (dAsg (dVar 0) (gTp 2 (gsCons (gTp 3 (gsCons (gN 1) (gsCons (gN 2) (gsCons (gN 3) gsNil)))) (gsCons (gN 4) gsNil))))
 (dSeq (dPar3 5 6 7 (dCons (dB gListN (dCons (dVar 4) dNil)) (dCons (dLstC dNil) (dCons (dC (.int 0)) dNil))))
 (dSeq (dFor (dItS (dVar 3)) (gN 8)
 (dSeq (dAsg (dBin gAdd (dVar 7) (dVar 8)) (gN 7))
 (dSeq (dAsg (dSl (dB gSorted (dCons (dLc (st2 11 12) dYes (dTup (dCons (dBin gSub (dC (.int 0)) (dVar 12)) (dCons (dVar 11) dNil))) (dEnL (dCons (dVar 5) dNil))) dNil)) dNoP (dPart (dVar 7))) (gN 9))
 (dSeq (dAsg (dB gSorted (dCons (dLc (st2 12 11) dYes (dVar 11) (dItS (dVar 9))) dNil)) (gN 10))
 (dSeq (dDrop (dML gAppend (dVar 6) (dCons (dB gTuple (dCons (dVar 10) dNil)) dNil)))
 (dAsg (dLc (st2 11 12) dYes (dBin gAdd (dVar 12) (dIf (dTest (dBin (gIn false) (dVar 11) (dVar 10))) (dVar 2) (dVar 1))) (dEnL (dCons (dVar 5) dNil))) (gN 5)))))))
 (dRet (dLst (dCons (dB gTuple (dCons (dVar 6) dNil)) (dCons (dVar 5) dNil)))))))
@[irreducible] def F_law_rule_2 : FF := dDefC 1 13 den_law_rule_2
def den_riders_text_2 : FS := (dRet (dJoin (dC (.str " ")) (dLc (st1 1) dYes (dIf (dTestU (dVar 1)) (dCallW F_listed (dCons (dVar 1) dNil)) (dC (.str "-"))) (dItS (dVar 0)))))
@[irreducible] def F_riders_text_2 : FF := dDef 1 2 den_riders_text_2
def den_law_answers : FS := (dSeq (dAsg (dCall 0 F_law_rule_2 (dCons (dVar 0) dNil)) (gUn 2 (gsCons (gN 1) (gsCons (gN 2) gsNil))))
 (dSeq (dAsg (dLc (st1 4) dYes (dIf (dTest (dBin iNe (dVar 4) (dTup dNil))) (dCallW F_listed (dCons (dVar 4) dNil)) (dC (.str "-"))) (dItS (dVar 1))) (gN 3))
 (dRet (dLst (dCons (dCallW F_law_trip_text (dCons (dVar 0) dNil)) (dCons (dB gStr (dCons (dB gMax (dCons (dVar 2) dNil)) dNil)) (dCons (dJoin (dC (.str " ")) (dVar 3)) dNil)))))))
@[irreducible] def F_law_answers : FF := dDef 1 5 den_law_answers
def den_law_made_3 : FS := (dRet (dIf (dTest (dVar 1)) (dMake "PromisedTrip" F_PromisedTrip_init (dCons (dBin gIx (dVar 0) (dC (.int 0))) (dCons (dBin gIx (dVar 0) (dC (.int 1))) (dCons (dBin gPow (dC (.int 10)) (dC (.int 7))) dNil)))) (dMake "Trip" F_Trip_init_2 (dCons (dBin gIx (dVar 0) (dC (.int 0))) (dCons (dBin gIx (dVar 0) (dC (.int 1))) dNil)))))
@[irreducible] def F_law_made_3 : FF := dDefX 2 2 den_law_made_3
def den_Shell_answer_2 : FS := (dSeq (dIfS (dTest (dCallW F_is_edit (dCons (dVar 1) dNil)))
 (dRet (dJs [(dC (.str "ok ")), (dFmt (dMeth [("Trip", F_Trip_call_edit), ("PromisedTrip", F_Trip_call_edit)] "call_edit" (dFld ["Shell"] "trip" (dVar 0)) (dCons (dVar 1) dNil)))] Str.empty))
 dSkip)
 (dSeq (dIfS (dTest (dBin iEq (dVar 1) (dTup (dCons (dC (.str "undo")) dNil))))
 (dRet (dJs [(dC (.str "ok ")), (dFmt (dMeth [("Trip", F_Trip_undo), ("PromisedTrip", F_Trip_undo)] "undo" (dFld ["Shell"] "trip" (dVar 0)) dNil))] Str.empty))
 dSkip)
 (dSeq (dIfS (dTest (dBin iEq (dVar 1) (dTup (dCons (dC (.str "trip")) dNil))))
 (dRet (dCallW F_trip_text (dCons (dProp [("Trip", F_Trip_road_2), ("PromisedTrip", F_Trip_road_2)] (dFld ["Shell"] "trip" (dVar 0))) (dCons (dProp [("Trip", F_Trip_starts_2), ("PromisedTrip", F_Trip_starts_2)] (dFld ["Shell"] "trip" (dVar 0))) dNil))))
 dSkip)
 (dSeq (dIfS (dTest (dBin iEq (dVar 1) (dTup (dCons (dC (.str "finish")) dNil))))
 (dRet (dB gStr (dCons (dProp [("Trip", F_Trip_finish_2), ("PromisedTrip", F_Trip_finish_2)] (dFld ["Shell"] "trip" (dVar 0))) dNil)))
 dSkip)
 (dSeq (dIfS (dTest (dBin iEq (dVar 1) (dTup (dCons (dC (.str "riders")) dNil))))
 (dRet (dCallW F_riders_text_2 (dCons (dCall 0 F_rule_plan (dCons (dProp [("Trip", F_Trip_road_2), ("PromisedTrip", F_Trip_road_2)] (dFld ["Shell"] "trip" (dVar 0))) (dCons (dProp [("Trip", F_Trip_starts_2), ("PromisedTrip", F_Trip_starts_2)] (dFld ["Shell"] "trip" (dVar 0))) dNil))) dNil)))
 dSkip)
 (dSeq (dIfS (dAnd (dTest (dBin iEq (dBin gIx (dVar 1) (dC (.int 0))) (dC (.str "by")))) (dTest (dBin iEq (dB gLen (dCons (dVar 1) dNil)) (dC (.int 2)))))
 (dRet (dBin gIx (dMethN [("Trip", F_Trip_certificate), ("PromisedTrip", F_Trip_certificate)] "certificate" (dFld ["Shell"] "trip" (dVar 0)) (dCons (dBin gIx (dVar 1) (dC (.int 1))) dNil)) (dC (.int 0))))
 dSkip)
 (dRet dNevE)))))))
@[irreducible] def F_Shell_answer_2 : FF := dDefX 2 2 den_Shell_answer_2
def den_Shell_execute_2 : FS := (dSeq (dAsg (dCallW F_command_in (dCons (dVar 1) dNil)) (gN 2))
 (dSeq (dIfS (dTest (dBin (gIs false) (dVar 2) (dC .non)))
 (dRet dNevE)
 dSkip)
 (dTryN (dRet (dMeth [("Shell", F_Shell_answer_2)] "answer" (dVar 0) (dCons (dVar 2) dNil))))))
@[irreducible] def F_Shell_execute_2 : FF := dDef 2 3 den_Shell_execute_2
def den_law_heard : FS := (dRet (dLc (st1 1) dYes (dMeth [("Shell", F_Shell_execute_2)] "execute" (dVar 0) (dCons (dVar 1) dNil)) (dItS (dLst (dCons (dC (.str "trip")) (dCons (dC (.str "finish")) (dCons (dC (.str "riders")) dNil)))))))
@[irreducible] def F_law_heard : FF := dDef 1 2 den_law_heard
def den_law_k58 : FS := (dSeq (dAsg (dCallW F_law_deck_2 (dCons (dVar 0) dNil)) (gN 1))
 (dSeq (dPar 2 3 (dCons (dCall 2 F_law_state (dCons (dVar 1) (dCons (dC (.int 12)) (dCons (dC (.int 8)) dNil)))) (dCons (dBin iEq (dCallW F_law_draw_3 (dCons (dVar 1) (dCons (dC (.int 3)) dNil))) (dC (.int 0))) dNil)))
 (dSeq (dPar 4 5 (dCons (dCallW F_law_made_3 (dCons (dVar 2) (dCons (dVar 3) dNil))) (dCons (dLstC (dCons (dVar 2) dNil)) dNil)))
 (dSeq (dAsg (dMake "Shell" F_Shell_init (dCons (dVar 4) dNil)) (gN 6))
 (dSeq (dFor (dRng1 (dCons (dBin gAdd (dC (.int 1)) (dCallW F_law_draw_3 (dCons (dVar 1) (dCons (dC (.int 6)) dNil)))) dNil)) (gN 7)
 (dSeq (dIfS (dTest (dBin iNe (dCallW F_law_heard (dCons (dVar 6) dNil)) (dCallW F_law_answers (dCons (dBin gIx (dVar 5) (dUn gNeg (dC (.int 1)))) dNil))))
 (dRet (dC (.bl false)))
 dSkip)
 (dCut (dIfS (dAnd (dTest (dBin gGt (dB gLen (dCons (dVar 5) dNil)) (dC (.int 1)))) (dTest (dBin iEq (dCallW F_law_draw_3 (dCons (dVar 1) (dCons (dC (.int 3)) dNil))) (dC (.int 0)))))
 (dSeq (dDrop (dMeth [("Trip", F_Trip_undo), ("PromisedTrip", F_Trip_undo)] "undo" (dVar 4) dNil))
 (dDrop (dML0 gPopEnd (dVar 5))))
 dSkip)
 (dSeq (dAsg (dCallW F_law_edit_2 (dCons (dVar 1) (dCons (dBin gIx (dVar 5) (dUn gNeg (dC (.int 1)))) dNil))) (gN 8))
 (dSeq (dDrop (dCallW F_law_do_2 (dCons (dVar 4) (dCons (dVar 8) dNil))))
 (dDrop (dML gAppend (dVar 5) (dCons (dCallW F_law_after_2 (dCons (dBin gIx (dVar 5) (dUn gNeg (dC (.int 1)))) (dCons (dVar 8) dNil))) dNil))))))))
 (dSeq (dPar3 9 10 11 (dCons (dMake "Shell" F_Shell_init (dCons (dVar 4) dNil)) (dCons (dB (gLenO [("Trip", F_Trip_len), ("PromisedTrip", F_Trip_len)]) (dCons (dVar 4) dNil)) (dCons (dCallW F_law_answers (dCons (dBin gIx (dVar 5) (dUn gNeg (dC (.int 1)))) dNil)) dNil))))
 (dSeq (dIfS (dOr (dTest (dBin iNe (dCallW F_law_heard (dCons (dVar 9) dNil)) (dVar 11))) (dOr (dTest (dBin iNe (dCallW F_law_heard (dCons (dVar 6) dNil)) (dVar 11))) (dTest (dBin iNe (dB (gLenO [("Trip", F_Trip_len), ("PromisedTrip", F_Trip_len)]) (dCons (dVar 4) dNil)) (dVar 10)))))
 (dRet (dC (.bl false)))
 dSkip)
 (dSeq (dFor (dItS (dUn gRevL (dSl (dVar 5) dNoP (dPart (dUn gNeg (dC (.int 1))))))) (gN 12)
 (dIfS (dOr (dTest (dBin iNe (dSl (dMeth [("Shell", F_Shell_execute_2)] "execute" (dVar 9) (dCons (dC (.str "undo")) dNil)) dNoP (dPart (dC (.int 3)))) (dC (.str "ok ")))) (dTest (dBin iNe (dCallW F_law_heard (dCons (dVar 6) dNil)) (dCallW F_law_answers (dCons (dVar 12) dNil)))))
 (dRet (dC (.bl false)))
 dSkip))
 (dSeq (dAsg (dMake "Shell" F_Shell_init (dCons (dMake "Trip" F_Trip_init_2 (dCons (dTup (dCons (dC (.int 10)) (dCons (dC (.int 4)) (dCons (dTup (dCons (dC (.int 0)) (dCons (dC (.int 12)) (dCons (dC (.int 0)) dNil)))) dNil)))) (dCons (dTup (dCons (dC (.int 7)) (dCons (dC (.int 7)) (dCons (dC (.int 7)) dNil)))) dNil))) dNil)) (gN 13))
 (dSeq (dAsg (dLc (st1 15) dYes (dMeth [("Shell", F_Shell_execute_2)] "execute" (dVar 13) (dCons (dVar 15) dNil)) (dItS (dLst (dCons (dC (.str "riders")) (dCons (dC (.str "finish")) (dCons (dC (.str "take 1 11")) (dCons (dC (.str "riders")) (dCons (dC (.str "finish")) dNil)))))))) (gN 14))
 (dRet (dBin iEq (dVar 14) (dLst (dCons (dC (.str "- 0,1,2 0,1,2")) (dCons (dC (.str "25")) (dCons (dC (.str "ok 1")) (dCons (dC (.str "- 0 1")) (dCons (dC (.str "37")) dNil))))))))))))))))))
@[irreducible] def F_law_k58 : FF := dDefC 1 16 den_law_k58
end Pu
namespace Pu
open PySem PySem.Spec PyProof.Rows L2
def topS (i : Nat) : Stmt := PySem.Challenge.pw_roadbikes_k58_shell_queries.main.body.getD i (.Pass ⟨0, 0, 0, 0⟩)
abbrev s_is_number_from : Stmt := topS 8
abbrev s_is_end : Stmt := topS 9
abbrev s_is_starts : Stmt := topS 10
abbrev s_road_error : Stmt := topS 31
abbrev s_counts_of : Stmt := topS 32
abbrev s_room_of : Stmt := topS 33
abbrev s_with_further : Stmt := topS 34
abbrev s_is_edit : Stmt := topS 37
abbrev s_changed : Stmt := topS 38
abbrev s_with_person : Stmt := topS 39
abbrev s_without_person : Stmt := topS 40
abbrev s_with_more_bikes : Stmt := topS 41
abbrev s_with_fewer_bikes : Stmt := topS 42
abbrev s_check_bikes : Stmt := topS 43
abbrev s_ticks_of : Stmt := topS 45
abbrev s_bike_ticks : Stmt := topS 46
abbrev s_leaving_ticks : Stmt := topS 47
abbrev s_finish_of : Stmt := topS 48
abbrev s_rule_plan : Stmt := topS 50
abbrev s_greatest : Stmt := topS 51
abbrev s_least_finish : Stmt := topS 52
abbrev s_needs_of : Stmt := topS 53
abbrev s_find_certificate : Stmt := topS 54
abbrev s_excluding_people : Stmt := topS 55
abbrev s_exclude : Stmt := topS 56
abbrev s_trip_text : Stmt := topS 59
abbrev s_listed : Stmt := topS 60
abbrev s_number_in : Stmt := topS 65
abbrev s_command_in : Stmt := topS 70
abbrev s_riders_text : Stmt := topS 71
abbrev s__law_deck : Stmt := topS 78
abbrev s__law_draw : Stmt := topS 79
abbrev s__law_state : Stmt := topS 80
abbrev s__law_numbers_text : Stmt := topS 81
abbrev s__law_trip_text : Stmt := topS 82
abbrev s__law_rule : Stmt := topS 83
abbrev s__law_edit : Stmt := topS 84
abbrev s__law_after : Stmt := topS 85
abbrev s__law_do : Stmt := topS 86
abbrev s__law_answers : Stmt := topS 87
abbrev s__law_heard : Stmt := topS 88
abbrev s__law_made : Stmt := topS 89
abbrev s_Shell___init__ : Stmt := inClass (topS 69) 0
abbrev s_Shell_execute : Stmt := inClass (topS 69) 1
abbrev s_Shell_answer : Stmt := inClass (topS 69) 2
abbrev s_Promise___init__ : Stmt := inClass (topS 73) 0
abbrev s_Promise_latest : Stmt := inClass (topS 73) 1
abbrev s_Trip___init__ : Stmt := inClass (topS 75) 1
abbrev s_Trip_road : Stmt := inClass (topS 75) 2
abbrev s_Trip_starts : Stmt := inClass (topS 75) 3
abbrev s_Trip_finish : Stmt := inClass (topS 75) 4
abbrev s_Trip_come : Stmt := inClass (topS 75) 5
abbrev s_Trip_leave : Stmt := inClass (topS 75) 6
abbrev s_Trip_place : Stmt := inClass (topS 75) 7
abbrev s_Trip_take : Stmt := inClass (topS 75) 8
abbrev s_Trip_do_edit : Stmt := inClass (topS 75) 9
abbrev s_Trip_check_not_watched : Stmt := inClass (topS 75) 10
abbrev s_Trip_undo : Stmt := inClass (topS 75) 11
abbrev s_Trip_call_edit : Stmt := inClass (topS 75) 14
abbrev s_Trip_state : Stmt := inClass (topS 75) 16
abbrev s_Trip_certificate : Stmt := inClass (topS 75) 17
abbrev s_Trip___len__ : Stmt := inClass (topS 75) 21
abbrev s_PromisedTrip___init__ : Stmt := inClass (topS 76) 0
abbrev s_PromisedTrip_come : Stmt := inClass (topS 76) 1
abbrev s_PromisedTrip_leave : Stmt := inClass (topS 76) 2
abbrev s_PromisedTrip_place : Stmt := inClass (topS 76) 3
abbrev s_PromisedTrip_take : Stmt := inClass (topS 76) 4
abbrev s_law : Stmt := topS 90
abbrev si_BadStart : Stmt := inClass (topS 19) 0
abbrev si_NoPerson : Stmt := inClass (topS 27) 0
abbrev si_TooMuch : Stmt := inClass (topS 22) 0
abbrev si_TooFew : Stmt := inClass (topS 23) 0
abbrev si_NoStation : Stmt := inClass (topS 28) 0
abbrev si_BadCount : Stmt := inClass (topS 21) 0
abbrev si_BadEnd : Stmt := inClass (topS 25) 0
abbrev si_BadRoad : Stmt := inClass (topS 16) 0
abbrev si_BadStarts : Stmt := inClass (topS 13) 0
abbrev si_TooLate : Stmt := inClass (topS 15) 0
abbrev si_NoVersion : Stmt := inClass (topS 29) 0
abbrev N_is_number_from : List Str := ["value", "least", "most"]
theorem sc_is_number_from : FnScope N_is_number_from ["value", "least", "most"] (defScope s_is_number_from) := ⟨rfl, rfl, rfl, by decide +kernel, rfl, by decide +kernel, by decide +kernel⟩
abbrev N_is_end : List Str := ["value"]
theorem sc_is_end : FnScope N_is_end ["value"] (defScope s_is_end) := ⟨rfl, rfl, rfl, by decide +kernel, rfl, by decide +kernel, by decide +kernel⟩
abbrev N_is_starts : List Str := ["value", "start"]
theorem sc_is_starts : FnScope N_is_starts ["value"] (defScope s_is_starts) := ⟨rfl, rfl, rfl, by decide +kernel, rfl, by decide +kernel, by decide +kernel⟩
abbrev N_road_error : List Str := ["value", "walk", "ride", "bikes", "index", "count"]
theorem sc_road_error : FnScope N_road_error ["value"] (defScope s_road_error) := ⟨rfl, rfl, rfl, by decide +kernel, rfl, by decide +kernel, by decide +kernel⟩
abbrev N_counts_of : List Str := ["road", "bikes", "stage"]
theorem sc_counts_of : FnScope N_counts_of ["road"] (defScope s_counts_of) := ⟨rfl, rfl, rfl, by decide +kernel, rfl, by decide +kernel, by decide +kernel⟩
abbrev N_room_of : List Str := ["road", "many", "count"]
theorem sc_room_of : FnScope N_room_of ["road", "many"] (defScope s_room_of) := ⟨rfl, rfl, rfl, by decide +kernel, rfl, by decide +kernel, by decide +kernel⟩
abbrev N_with_further : List Str := ["road", "station", "many", "walk", "ride", "bikes"]
theorem sc_with_further : FnScope N_with_further ["road", "station", "many"] (defScope s_with_further) := ⟨rfl, rfl, rfl, by decide +kernel, rfl, by decide +kernel, by decide +kernel⟩
abbrev N_is_edit : List Str := ["value"]
theorem sc_is_edit : FnScope N_is_edit ["value"] (defScope s_is_edit) := ⟨rfl, rfl, rfl, by decide +kernel, rfl, by decide +kernel, by decide +kernel⟩
abbrev N_changed : List Str := ["road", "starts", "edit", "name"]
theorem sc_changed : FnScope N_changed ["road", "starts", "edit"] (defScope s_changed) := ⟨rfl, rfl, rfl, by decide +kernel, rfl, by decide +kernel, by decide +kernel⟩
abbrev N_with_person : List Str := ["starts", "start"]
theorem sc_with_person : FnScope N_with_person ["starts", "start"] (defScope s_with_person) := ⟨rfl, rfl, rfl, by decide +kernel, rfl, by decide +kernel, by decide +kernel⟩
abbrev N_without_person : List Str := ["starts", "person"]
theorem sc_without_person : FnScope N_without_person ["starts", "person"] (defScope s_without_person) := ⟨rfl, rfl, rfl, by decide +kernel, rfl, by decide +kernel, by decide +kernel⟩
abbrev N_with_more_bikes : List Str := ["road", "station", "count", "total"]
theorem sc_with_more_bikes : FnScope N_with_more_bikes ["road", "station", "count"] (defScope s_with_more_bikes) := ⟨rfl, rfl, rfl, by decide +kernel, rfl, by decide +kernel, by decide +kernel⟩
abbrev N_with_fewer_bikes : List Str := ["road", "station", "count", "present"]
theorem sc_with_fewer_bikes : FnScope N_with_fewer_bikes ["road", "station", "count"] (defScope s_with_fewer_bikes) := ⟨rfl, rfl, rfl, by decide +kernel, rfl, by decide +kernel, by decide +kernel⟩
abbrev N_check_bikes : List Str := ["road", "station", "count"]
theorem sc_check_bikes : FnScope N_check_bikes ["road", "station", "count"] (defScope s_check_bikes) := ⟨rfl, rfl, rfl, by decide +kernel, rfl, by decide +kernel, by decide +kernel⟩
abbrev N_ticks_of : List Str := ["road", "starts", "plan", "walk", "ride", "bikes", "rows", "brought", "riders", "standing", "ticks", "leaving", "person", "tick"]
theorem sc_ticks_of : FnScope N_ticks_of ["road", "starts", "plan"] (defScope s_ticks_of) := ⟨rfl, rfl, rfl, by decide +kernel, rfl, by decide +kernel, by decide +kernel⟩
abbrev N_bike_ticks : List Str := ["ticks", "brought", "standing", "person"]
theorem sc_bike_ticks : FnScope N_bike_ticks ["ticks", "brought", "standing"] (defScope s_bike_ticks) := ⟨rfl, rfl, rfl, by decide +kernel, rfl, by decide +kernel, by decide +kernel⟩
abbrev N_leaving_ticks : List Str := ["ticks", "riders", "bikes", "leaving", "queue", "tick", "person", "bike"]
theorem sc_leaving_ticks : FnScope N_leaving_ticks ["ticks", "riders", "bikes"] (defScope s_leaving_ticks) := ⟨rfl, rfl, rfl, by decide +kernel, rfl, by decide +kernel, by decide +kernel⟩
abbrev N_finish_of : List Str := ["road", "starts", "plan"]
theorem sc_finish_of : FnScope N_finish_of ["road", "starts", "plan"] (defScope s_finish_of) := ⟨rfl, rfl, rfl, by decide +kernel, rfl, by decide +kernel, by decide +kernel⟩
abbrev N_rule_plan : List Str := ["road", "starts", "walk", "ride", "ticks", "plan", "count", "riders", "person", "tick"]
theorem sc_rule_plan : FnScope N_rule_plan ["road", "starts"] (defScope s_rule_plan) := ⟨rfl, rfl, rfl, by decide +kernel, rfl, by decide +kernel, by decide +kernel⟩
abbrev N_greatest : List Str := ["numbers", "many", "order", "person", "number"]
theorem sc_greatest : FnScope N_greatest ["numbers", "many"] (defScope s_greatest) := ⟨rfl, rfl, rfl, by decide +kernel, rfl, by decide +kernel, by decide +kernel⟩
abbrev N_least_finish : List Str := ["road", "starts"]
theorem sc_least_finish : FnScope N_least_finish ["road", "starts"] (defScope s_least_finish) := ⟨rfl, rfl, rfl, by decide +kernel, rfl, by decide +kernel, by decide +kernel⟩
abbrev N_needs_of : List Str := ["road", "starts", "end", "walk", "ride", "bikes", "on_foot", "start"]
theorem sc_needs_of : FnScope N_needs_of ["road", "starts", "end"] (defScope s_needs_of) := ⟨rfl, rfl, rfl, by decide +kernel, rfl, by decide +kernel, by decide +kernel⟩
abbrev N_find_certificate : List Str := ["road", "starts", "end", "plan"]
theorem sc_find_certificate : FnScope N_find_certificate ["road", "starts", "end"] (defScope s_find_certificate) := ⟨rfl, rfl, rfl, by decide +kernel, rfl, by decide +kernel, by decide +kernel⟩
abbrev N_excluding_people : List Str := ["road", "needs", "groups", "many", "people"]
theorem sc_excluding_people : FnScope N_excluding_people ["road", "needs"] (defScope s_excluding_people) := ⟨rfl, rfl, rfl, by decide +kernel, rfl, by decide +kernel, by decide +kernel⟩
abbrev N_exclude : List Str := ["road", "needs", "people", "person"]
theorem sc_exclude : FnScope N_exclude ["road", "needs", "people"] (defScope s_exclude) := ⟨rfl, rfl, rfl, by decide +kernel, rfl, by decide +kernel, by decide +kernel⟩
abbrev N_trip_text : List Str := ["road", "starts", "walk", "ride", "bikes"]
theorem sc_trip_text : FnScope N_trip_text ["road", "starts"] (defScope s_trip_text) := ⟨rfl, rfl, rfl, by decide +kernel, rfl, by decide +kernel, by decide +kernel⟩
abbrev N_listed : List Str := ["numbers", "number"]
theorem sc_listed : FnScope N_listed ["numbers"] (defScope s_listed) := ⟨rfl, rfl, rfl, by decide +kernel, rfl, by decide +kernel, by decide +kernel⟩
abbrev N_number_in : List Str := ["text", "least", "most", "number"]
theorem sc_number_in : FnScope N_number_in ["text", "least", "most"] (defScope s_number_in) := ⟨rfl, rfl, rfl, by decide +kernel, rfl, by decide +kernel, by decide +kernel⟩
abbrev N_command_in : List Str := ["line", "words", "numbers", "word"]
theorem sc_command_in : FnScope N_command_in ["line"] (defScope s_command_in) := ⟨rfl, rfl, rfl, by decide +kernel, rfl, by decide +kernel, by decide +kernel⟩
abbrev N_riders_text : List Str := ["plan", "riders"]
theorem sc_riders_text : FnScope N_riders_text ["plan"] (defScope s_riders_text) := ⟨rfl, rfl, rfl, by decide +kernel, rfl, by decide +kernel, by decide +kernel⟩
abbrev N__law_deck : List Str := ["_law_script", "_law_cell"]
theorem sc__law_deck : FnScope N__law_deck ["_law_script"] (defScope s__law_deck) := ⟨rfl, rfl, rfl, by decide +kernel, rfl, by decide +kernel, by decide +kernel⟩
abbrev N__law_draw : List Str := ["_law_deck_here", "_law_bound", "_law_at", "_law_cell", "_law_mixed"]
theorem sc__law_draw : FnScope N__law_draw ["_law_deck_here", "_law_bound"] (defScope s__law_draw) := ⟨rfl, rfl, rfl, by decide +kernel, rfl, by decide +kernel, by decide +kernel⟩
abbrev N__law_state : List Str := ["_law_deck_here", "_law_stages", "_law_people", "_law_wide", "_law_on_foot", "_law_riding", "_law_bikes", "_law_starts", "_law_stage", "_law_person"]
theorem sc__law_state : FnScope N__law_state ["_law_deck_here", "_law_stages", "_law_people"] (defScope s__law_state) := ⟨rfl, rfl, rfl, by decide +kernel, rfl, by decide +kernel, by decide +kernel⟩
abbrev N__law_numbers_text : List Str := ["_law_numbers", "_law_number"]
theorem sc__law_numbers_text : FnScope N__law_numbers_text ["_law_numbers"] (defScope s__law_numbers_text) := ⟨rfl, rfl, rfl, by decide +kernel, rfl, by decide +kernel, by decide +kernel⟩
abbrev N__law_trip_text : List Str := ["_law_state_here", "_law_on_foot", "_law_riding", "_law_bikes", "_law_starts", "_law_words"]
theorem sc__law_trip_text : FnScope N__law_trip_text ["_law_state_here"] (defScope s__law_trip_text) := ⟨rfl, rfl, rfl, by decide +kernel, rfl, by decide +kernel, by decide +kernel⟩
abbrev N__law_rule : List Str := ["_law_state_here", "_law_on_foot", "_law_riding", "_law_bikes", "_law_starts", "_law_ticks", "_law_plan", "_law_count", "_law_number", "_law_order", "_law_riders", "_law_person", "_law_tick"]
theorem sc__law_rule : FnScope N__law_rule ["_law_state_here"] (defScope s__law_rule) := ⟨rfl, rfl, rfl, by decide +kernel, rfl, by decide +kernel, by decide +kernel⟩
abbrev N__law_edit : List Str := ["_law_deck_here", "_law_state_here", "_law_on_foot", "_law_riding", "_law_bikes", "_law_starts", "_law_way", "_law_station"]
theorem sc__law_edit : FnScope N__law_edit ["_law_deck_here", "_law_state_here"] (defScope s__law_edit) := ⟨rfl, rfl, rfl, by decide +kernel, rfl, by decide +kernel, by decide +kernel⟩
abbrev N__law_after : List Str := ["_law_state_here", "_law_edit_here", "_law_on_foot", "_law_riding", "_law_bikes", "_law_starts", "_law_word", "_law_station", "_law_count", "_law_number"]
theorem sc__law_after : FnScope N__law_after ["_law_state_here", "_law_edit_here"] (defScope s__law_after) := ⟨rfl, rfl, rfl, by decide +kernel, rfl, by decide +kernel, by decide +kernel⟩
abbrev N__law_do : List Str := ["_law_trip", "_law_edit_here"]
theorem sc__law_do : FnScope N__law_do ["_law_trip", "_law_edit_here"] (defScope s__law_do) := ⟨rfl, rfl, rfl, by decide +kernel, rfl, by decide +kernel, by decide +kernel⟩
abbrev N__law_answers : List Str := ["_law_state_here", "_law_plan", "_law_ticks", "_law_riders", "_law_some"]
theorem sc__law_answers : FnScope N__law_answers ["_law_state_here"] (defScope s__law_answers) := ⟨rfl, rfl, rfl, by decide +kernel, rfl, by decide +kernel, by decide +kernel⟩
abbrev N__law_heard : List Str := ["_law_shell", "_law_line"]
theorem sc__law_heard : FnScope N__law_heard ["_law_shell"] (defScope s__law_heard) := ⟨rfl, rfl, rfl, by decide +kernel, rfl, by decide +kernel, by decide +kernel⟩
abbrev N__law_made : List Str := ["_law_state_here", "_law_is_promised"]
theorem sc__law_made : FnScope N__law_made ["_law_state_here", "_law_is_promised"] (defScope s__law_made) := ⟨rfl, rfl, rfl, by decide +kernel, rfl, by decide +kernel, by decide +kernel⟩
abbrev N_Shell___init__ : List Str := ["self", "trip"]
theorem sc_Shell___init__ : FnScope N_Shell___init__ ["self", "trip"] (defScope s_Shell___init__) := ⟨rfl, rfl, rfl, by decide +kernel, rfl, by decide +kernel, by decide +kernel⟩
abbrev N_Shell_execute : List Str := ["self", "line", "command"]
theorem sc_Shell_execute : FnScope N_Shell_execute ["self", "line"] (defScope s_Shell_execute) := ⟨rfl, rfl, rfl, by decide +kernel, rfl, by decide +kernel, by decide +kernel⟩
abbrev N_Shell_answer : List Str := ["self", "command"]
theorem sc_Shell_answer : FnScope N_Shell_answer ["self", "command"] (defScope s_Shell_answer) := ⟨rfl, rfl, rfl, by decide +kernel, rfl, by decide +kernel, by decide +kernel⟩
abbrev N_Promise___init__ : List Str := ["self", "latest"]
theorem sc_Promise___init__ : FnScope N_Promise___init__ ["self", "latest"] (defScope s_Promise___init__) := ⟨rfl, rfl, rfl, by decide +kernel, rfl, by decide +kernel, by decide +kernel⟩
abbrev N_Promise_latest : List Str := ["self"]
theorem sc_Promise_latest : FnScope N_Promise_latest ["self"] (defScope s_Promise_latest) := ⟨rfl, rfl, rfl, by decide +kernel, rfl, by decide +kernel, by decide +kernel⟩
abbrev N_Trip___init__ : List Str := ["self", "road", "starts", "error"]
theorem sc_Trip___init__ : FnScope N_Trip___init__ ["self", "road", "starts"] (defScope s_Trip___init__) := ⟨rfl, rfl, rfl, by decide +kernel, rfl, by decide +kernel, by decide +kernel⟩
abbrev N_Trip_road : List Str := ["self"]
theorem sc_Trip_road : FnScope N_Trip_road ["self"] (defScope s_Trip_road) := ⟨rfl, rfl, rfl, by decide +kernel, rfl, by decide +kernel, by decide +kernel⟩
abbrev N_Trip_starts : List Str := ["self"]
theorem sc_Trip_starts : FnScope N_Trip_starts ["self"] (defScope s_Trip_starts) := ⟨rfl, rfl, rfl, by decide +kernel, rfl, by decide +kernel, by decide +kernel⟩
abbrev N_Trip_finish : List Str := ["self"]
theorem sc_Trip_finish : FnScope N_Trip_finish ["self"] (defScope s_Trip_finish) := ⟨rfl, rfl, rfl, by decide +kernel, rfl, by decide +kernel, by decide +kernel⟩
abbrev N_Trip_come : List Str := ["self", "start"]
theorem sc_Trip_come : FnScope N_Trip_come ["self", "start"] (defScope s_Trip_come) := ⟨rfl, rfl, rfl, by decide +kernel, rfl, by decide +kernel, by decide +kernel⟩
abbrev N_Trip_leave : List Str := ["self", "person"]
theorem sc_Trip_leave : FnScope N_Trip_leave ["self", "person"] (defScope s_Trip_leave) := ⟨rfl, rfl, rfl, by decide +kernel, rfl, by decide +kernel, by decide +kernel⟩
abbrev N_Trip_place : List Str := ["self", "station", "count"]
theorem sc_Trip_place : FnScope N_Trip_place ["self", "station", "count"] (defScope s_Trip_place) := ⟨rfl, rfl, rfl, by decide +kernel, rfl, by decide +kernel, by decide +kernel⟩
abbrev N_Trip_take : List Str := ["self", "station", "count"]
theorem sc_Trip_take : FnScope N_Trip_take ["self", "station", "count"] (defScope s_Trip_take) := ⟨rfl, rfl, rfl, by decide +kernel, rfl, by decide +kernel, by decide +kernel⟩
abbrev N_Trip_do_edit : List Str := ["self", "edit", "latest", "road", "starts", "finish"]
theorem sc_Trip_do_edit : FnScope N_Trip_do_edit ["self", "edit", "latest"] (defScope s_Trip_do_edit) := ⟨rfl, rfl, rfl, by decide +kernel, rfl, by decide +kernel, by decide +kernel⟩
abbrev N_Trip_check_not_watched : List Str := ["self"]
theorem sc_Trip_check_not_watched : FnScope N_Trip_check_not_watched ["self"] (defScope s_Trip_check_not_watched) := ⟨rfl, rfl, rfl, by decide +kernel, rfl, by decide +kernel, by decide +kernel⟩
abbrev N_Trip_undo : List Str := ["self"]
theorem sc_Trip_undo : FnScope N_Trip_undo ["self"] (defScope s_Trip_undo) := ⟨rfl, rfl, rfl, by decide +kernel, rfl, by decide +kernel, by decide +kernel⟩
abbrev N_Trip_call_edit : List Str := ["self", "edit", "name"]
theorem sc_Trip_call_edit : FnScope N_Trip_call_edit ["self", "edit"] (defScope s_Trip_call_edit) := ⟨rfl, rfl, rfl, by decide +kernel, rfl, by decide +kernel, by decide +kernel⟩
abbrev N_Trip_state : List Str := ["self", "version"]
theorem sc_Trip_state : FnScope N_Trip_state ["self", "version"] (defScope s_Trip_state) := ⟨rfl, rfl, rfl, by decide +kernel, rfl, by decide +kernel, by decide +kernel⟩
abbrev N_Trip_certificate : List Str := ["self", "end", "version", "road", "starts"]
theorem sc_Trip_certificate : FnScope N_Trip_certificate ["self", "end", "version"] (defScope s_Trip_certificate) := ⟨rfl, rfl, rfl, by decide +kernel, rfl, by decide +kernel, by decide +kernel⟩
abbrev N_Trip___len__ : List Str := ["self"]
theorem sc_Trip___len__ : FnScope N_Trip___len__ ["self"] (defScope s_Trip___len__) := ⟨rfl, rfl, rfl, by decide +kernel, rfl, by decide +kernel, by decide +kernel⟩
abbrev N_PromisedTrip___init__ : List Str := ["self", "road", "starts", "latest"]
theorem sc_PromisedTrip___init__ : FnScope N_PromisedTrip___init__ ["self", "road", "starts", "latest"] (defScope s_PromisedTrip___init__) := ⟨rfl, rfl, rfl, by decide +kernel, rfl, by decide +kernel, by decide +kernel⟩
abbrev N_PromisedTrip_come : List Str := ["self", "start"]
theorem sc_PromisedTrip_come : FnScope N_PromisedTrip_come ["self", "start"] (defScope s_PromisedTrip_come) := ⟨rfl, rfl, rfl, by decide +kernel, rfl, by decide +kernel, by decide +kernel⟩
abbrev N_PromisedTrip_leave : List Str := ["self", "person"]
theorem sc_PromisedTrip_leave : FnScope N_PromisedTrip_leave ["self", "person"] (defScope s_PromisedTrip_leave) := ⟨rfl, rfl, rfl, by decide +kernel, rfl, by decide +kernel, by decide +kernel⟩
abbrev N_PromisedTrip_place : List Str := ["self", "station", "count"]
theorem sc_PromisedTrip_place : FnScope N_PromisedTrip_place ["self", "station", "count"] (defScope s_PromisedTrip_place) := ⟨rfl, rfl, rfl, by decide +kernel, rfl, by decide +kernel, by decide +kernel⟩
abbrev N_PromisedTrip_take : List Str := ["self", "station", "count"]
theorem sc_PromisedTrip_take : FnScope N_PromisedTrip_take ["self", "station", "count"] (defScope s_PromisedTrip_take) := ⟨rfl, rfl, rfl, by decide +kernel, rfl, by decide +kernel, by decide +kernel⟩
abbrev N_law : List Str := ["_law_script", "_law_deck_here", "_law_start", "_law_is_promised", "_law_trip", "_law_states", "_law_early", "_law_turn", "_law_edit_here", "_law_late", "_law_many", "_law_due", "_law_state_here", "_law_far", "_law_found", "_law_line"]
theorem sc_law : FnScope N_law ["_law_script"] (defScope s_law) := ⟨rfl, rfl, rfl, by decide +kernel, rfl, by decide +kernel, by decide +kernel⟩
theorem sci_BadStart : FnScope ["self", "value"] ["self", "value"] (defScope si_BadStart) := ⟨rfl, rfl, rfl, by decide +kernel, rfl, by decide +kernel, by decide +kernel⟩
theorem sci_NoPerson : FnScope ["self", "value"] ["self", "value"] (defScope si_NoPerson) := ⟨rfl, rfl, rfl, by decide +kernel, rfl, by decide +kernel, by decide +kernel⟩
theorem sci_TooMuch : FnScope ["self", "total"] ["self", "total"] (defScope si_TooMuch) := ⟨rfl, rfl, rfl, by decide +kernel, rfl, by decide +kernel, by decide +kernel⟩
theorem sci_TooFew : FnScope ["self", "present"] ["self", "present"] (defScope si_TooFew) := ⟨rfl, rfl, rfl, by decide +kernel, rfl, by decide +kernel, by decide +kernel⟩
theorem sci_NoStation : FnScope ["self", "value"] ["self", "value"] (defScope si_NoStation) := ⟨rfl, rfl, rfl, by decide +kernel, rfl, by decide +kernel, by decide +kernel⟩
theorem sci_BadCount : FnScope ["self", "value"] ["self", "value"] (defScope si_BadCount) := ⟨rfl, rfl, rfl, by decide +kernel, rfl, by decide +kernel, by decide +kernel⟩
theorem sci_BadEnd : FnScope ["self", "value"] ["self", "value"] (defScope si_BadEnd) := ⟨rfl, rfl, rfl, by decide +kernel, rfl, by decide +kernel, by decide +kernel⟩
theorem sci_BadRoad : FnScope ["self", "error"] ["self", "error"] (defScope si_BadRoad) := ⟨rfl, rfl, rfl, by decide +kernel, rfl, by decide +kernel, by decide +kernel⟩
theorem sci_BadStarts : FnScope ["self", "value"] ["self", "value"] (defScope si_BadStarts) := ⟨rfl, rfl, rfl, by decide +kernel, rfl, by decide +kernel, by decide +kernel⟩
theorem sci_TooLate : FnScope ["self", "tick"] ["self", "tick"] (defScope si_TooLate) := ⟨rfl, rfl, rfl, by decide +kernel, rfl, by decide +kernel, by decide +kernel⟩
theorem sci_NoVersion : FnScope ["self", "value"] ["self", "value"] (defScope si_NoVersion) := ⟨rfl, rfl, rfl, by decide +kernel, rfl, by decide +kernel, by decide +kernel⟩
structure Tx (K : PySem.W.Frag) (mg : Str → Option Value) (PP : Params) where
  f_is_number_from : Addr
  fd_is_number_from : FuncData
  F_is_number_from : Fun K "is_number_from" "is_number_from" s_is_number_from f_is_number_from fd_is_number_from
  g_is_number_from : mg "is_number_from" = some (.ref f_is_number_from)
  b_is_number_from : Binds K fd_is_number_from ["value", "least", "most"] []
  f_is_end : Addr
  fd_is_end : FuncData
  F_is_end : Fun K "is_end" "is_end" s_is_end f_is_end fd_is_end
  g_is_end : mg "is_end" = some (.ref f_is_end)
  b_is_end : Binds K fd_is_end ["value"] []
  f_is_starts : Addr
  fd_is_starts : FuncData
  F_is_starts : Fun K "is_starts" "is_starts" s_is_starts f_is_starts fd_is_starts
  g_is_starts : mg "is_starts" = some (.ref f_is_starts)
  b_is_starts : Binds K fd_is_starts ["value"] []
  f_road_error : Addr
  fd_road_error : FuncData
  F_road_error : Fun K "road_error" "road_error" s_road_error f_road_error fd_road_error
  g_road_error : mg "road_error" = some (.ref f_road_error)
  b_road_error : Binds K fd_road_error ["value"] []
  f_counts_of : Addr
  fd_counts_of : FuncData
  F_counts_of : Fun K "counts_of" "counts_of" s_counts_of f_counts_of fd_counts_of
  g_counts_of : mg "counts_of" = some (.ref f_counts_of)
  b_counts_of : Binds K fd_counts_of ["road"] []
  f_room_of : Addr
  fd_room_of : FuncData
  F_room_of : Fun K "room_of" "room_of" s_room_of f_room_of fd_room_of
  g_room_of : mg "room_of" = some (.ref f_room_of)
  b_room_of : Binds K fd_room_of ["road", "many"] []
  f_with_further : Addr
  fd_with_further : FuncData
  F_with_further : Fun K "with_further" "with_further" s_with_further f_with_further fd_with_further
  g_with_further : mg "with_further" = some (.ref f_with_further)
  b_with_further : Binds K fd_with_further ["road", "station", "many"] []
  f_is_edit : Addr
  fd_is_edit : FuncData
  F_is_edit : Fun K "is_edit" "is_edit" s_is_edit f_is_edit fd_is_edit
  g_is_edit : mg "is_edit" = some (.ref f_is_edit)
  b_is_edit : Binds K fd_is_edit ["value"] []
  f_changed : Addr
  fd_changed : FuncData
  F_changed : Fun K "changed" "changed" s_changed f_changed fd_changed
  g_changed : mg "changed" = some (.ref f_changed)
  b_changed : Binds K fd_changed ["road", "starts", "edit"] []
  f_with_person : Addr
  fd_with_person : FuncData
  F_with_person : Fun K "with_person" "with_person" s_with_person f_with_person fd_with_person
  g_with_person : mg "with_person" = some (.ref f_with_person)
  b_with_person : Binds K fd_with_person ["starts", "start"] []
  f_without_person : Addr
  fd_without_person : FuncData
  F_without_person : Fun K "without_person" "without_person" s_without_person f_without_person fd_without_person
  g_without_person : mg "without_person" = some (.ref f_without_person)
  b_without_person : Binds K fd_without_person ["starts", "person"] []
  f_with_more_bikes : Addr
  fd_with_more_bikes : FuncData
  F_with_more_bikes : Fun K "with_more_bikes" "with_more_bikes" s_with_more_bikes f_with_more_bikes fd_with_more_bikes
  g_with_more_bikes : mg "with_more_bikes" = some (.ref f_with_more_bikes)
  b_with_more_bikes : Binds K fd_with_more_bikes ["road", "station", "count"] []
  f_with_fewer_bikes : Addr
  fd_with_fewer_bikes : FuncData
  F_with_fewer_bikes : Fun K "with_fewer_bikes" "with_fewer_bikes" s_with_fewer_bikes f_with_fewer_bikes fd_with_fewer_bikes
  g_with_fewer_bikes : mg "with_fewer_bikes" = some (.ref f_with_fewer_bikes)
  b_with_fewer_bikes : Binds K fd_with_fewer_bikes ["road", "station", "count"] []
  f_check_bikes : Addr
  fd_check_bikes : FuncData
  F_check_bikes : Fun K "check_bikes" "check_bikes" s_check_bikes f_check_bikes fd_check_bikes
  g_check_bikes : mg "check_bikes" = some (.ref f_check_bikes)
  b_check_bikes : Binds K fd_check_bikes ["road", "station", "count"] []
  f_ticks_of : Addr
  fd_ticks_of : FuncData
  F_ticks_of : Fun K "ticks_of" "ticks_of" s_ticks_of f_ticks_of fd_ticks_of
  g_ticks_of : mg "ticks_of" = some (.ref f_ticks_of)
  b_ticks_of : Binds K fd_ticks_of ["road", "starts", "plan"] []
  f_bike_ticks : Addr
  fd_bike_ticks : FuncData
  F_bike_ticks : Fun K "bike_ticks" "bike_ticks" s_bike_ticks f_bike_ticks fd_bike_ticks
  g_bike_ticks : mg "bike_ticks" = some (.ref f_bike_ticks)
  b_bike_ticks : Binds K fd_bike_ticks ["ticks", "brought", "standing"] []
  f_leaving_ticks : Addr
  fd_leaving_ticks : FuncData
  F_leaving_ticks : Fun K "leaving_ticks" "leaving_ticks" s_leaving_ticks f_leaving_ticks fd_leaving_ticks
  g_leaving_ticks : mg "leaving_ticks" = some (.ref f_leaving_ticks)
  b_leaving_ticks : Binds K fd_leaving_ticks ["ticks", "riders", "bikes"] []
  f_finish_of : Addr
  fd_finish_of : FuncData
  F_finish_of : Fun K "finish_of" "finish_of" s_finish_of f_finish_of fd_finish_of
  g_finish_of : mg "finish_of" = some (.ref f_finish_of)
  b_finish_of : Binds K fd_finish_of ["road", "starts", "plan"] []
  f_rule_plan : Addr
  fd_rule_plan : FuncData
  F_rule_plan : Fun K "rule_plan" "rule_plan" s_rule_plan f_rule_plan fd_rule_plan
  g_rule_plan : mg "rule_plan" = some (.ref f_rule_plan)
  b_rule_plan : Binds K fd_rule_plan ["road", "starts"] []
  f_greatest : Addr
  fd_greatest : FuncData
  F_greatest : Fun K "greatest" "greatest" s_greatest f_greatest fd_greatest
  g_greatest : mg "greatest" = some (.ref f_greatest)
  b_greatest : Binds K fd_greatest ["numbers", "many"] []
  f_least_finish : Addr
  fd_least_finish : FuncData
  F_least_finish : Fun K "least_finish" "least_finish" s_least_finish f_least_finish fd_least_finish
  g_least_finish : mg "least_finish" = some (.ref f_least_finish)
  b_least_finish : Binds K fd_least_finish ["road", "starts"] []
  f_needs_of : Addr
  fd_needs_of : FuncData
  F_needs_of : Fun K "needs_of" "needs_of" s_needs_of f_needs_of fd_needs_of
  g_needs_of : mg "needs_of" = some (.ref f_needs_of)
  b_needs_of : Binds K fd_needs_of ["road", "starts", "end"] []
  f_find_certificate : Addr
  fd_find_certificate : FuncData
  F_find_certificate : Fun K "find_certificate" "find_certificate" s_find_certificate f_find_certificate fd_find_certificate
  g_find_certificate : mg "find_certificate" = some (.ref f_find_certificate)
  b_find_certificate : Binds K fd_find_certificate ["road", "starts", "end"] []
  f_excluding_people : Addr
  fd_excluding_people : FuncData
  F_excluding_people : Fun K "excluding_people" "excluding_people" s_excluding_people f_excluding_people fd_excluding_people
  g_excluding_people : mg "excluding_people" = some (.ref f_excluding_people)
  b_excluding_people : Binds K fd_excluding_people ["road", "needs"] []
  f_exclude : Addr
  fd_exclude : FuncData
  F_exclude : Fun K "exclude" "exclude" s_exclude f_exclude fd_exclude
  g_exclude : mg "exclude" = some (.ref f_exclude)
  b_exclude : Binds K fd_exclude ["road", "needs", "people"] []
  f_trip_text : Addr
  fd_trip_text : FuncData
  F_trip_text : Fun K "trip_text" "trip_text" s_trip_text f_trip_text fd_trip_text
  g_trip_text : mg "trip_text" = some (.ref f_trip_text)
  b_trip_text : Binds K fd_trip_text ["road", "starts"] []
  f_listed : Addr
  fd_listed : FuncData
  F_listed : Fun K "listed" "listed" s_listed f_listed fd_listed
  g_listed : mg "listed" = some (.ref f_listed)
  b_listed : Binds K fd_listed ["numbers"] []
  f_number_in : Addr
  fd_number_in : FuncData
  F_number_in : Fun K "number_in" "number_in" s_number_in f_number_in fd_number_in
  g_number_in : mg "number_in" = some (.ref f_number_in)
  b_number_in : Binds K fd_number_in ["text", "least", "most"] []
  f_command_in : Addr
  fd_command_in : FuncData
  F_command_in : Fun K "command_in" "command_in" s_command_in f_command_in fd_command_in
  g_command_in : mg "command_in" = some (.ref f_command_in)
  b_command_in : Binds K fd_command_in ["line"] []
  f_riders_text : Addr
  fd_riders_text : FuncData
  F_riders_text : Fun K "riders_text" "riders_text" s_riders_text f_riders_text fd_riders_text
  g_riders_text : mg "riders_text" = some (.ref f_riders_text)
  b_riders_text : Binds K fd_riders_text ["plan"] []
  f__law_deck : Addr
  fd__law_deck : FuncData
  F__law_deck : Fun K "_law_deck" "_law_deck" s__law_deck f__law_deck fd__law_deck
  g__law_deck : mg "_law_deck" = some (.ref f__law_deck)
  b__law_deck : Binds K fd__law_deck ["_law_script"] []
  f__law_draw : Addr
  fd__law_draw : FuncData
  F__law_draw : Fun K "_law_draw" "_law_draw" s__law_draw f__law_draw fd__law_draw
  g__law_draw : mg "_law_draw" = some (.ref f__law_draw)
  b__law_draw : Binds K fd__law_draw ["_law_deck_here", "_law_bound"] []
  f__law_state : Addr
  fd__law_state : FuncData
  F__law_state : Fun K "_law_state" "_law_state" s__law_state f__law_state fd__law_state
  g__law_state : mg "_law_state" = some (.ref f__law_state)
  b__law_state : Binds K fd__law_state ["_law_deck_here", "_law_stages", "_law_people"] []
  f__law_numbers_text : Addr
  fd__law_numbers_text : FuncData
  F__law_numbers_text : Fun K "_law_numbers_text" "_law_numbers_text" s__law_numbers_text f__law_numbers_text fd__law_numbers_text
  g__law_numbers_text : mg "_law_numbers_text" = some (.ref f__law_numbers_text)
  b__law_numbers_text : Binds K fd__law_numbers_text ["_law_numbers"] []
  f__law_trip_text : Addr
  fd__law_trip_text : FuncData
  F__law_trip_text : Fun K "_law_trip_text" "_law_trip_text" s__law_trip_text f__law_trip_text fd__law_trip_text
  g__law_trip_text : mg "_law_trip_text" = some (.ref f__law_trip_text)
  b__law_trip_text : Binds K fd__law_trip_text ["_law_state_here"] []
  f__law_rule : Addr
  fd__law_rule : FuncData
  F__law_rule : Fun K "_law_rule" "_law_rule" s__law_rule f__law_rule fd__law_rule
  g__law_rule : mg "_law_rule" = some (.ref f__law_rule)
  b__law_rule : Binds K fd__law_rule ["_law_state_here"] []
  f__law_edit : Addr
  fd__law_edit : FuncData
  F__law_edit : Fun K "_law_edit" "_law_edit" s__law_edit f__law_edit fd__law_edit
  g__law_edit : mg "_law_edit" = some (.ref f__law_edit)
  b__law_edit : Binds K fd__law_edit ["_law_deck_here", "_law_state_here"] []
  f__law_after : Addr
  fd__law_after : FuncData
  F__law_after : Fun K "_law_after" "_law_after" s__law_after f__law_after fd__law_after
  g__law_after : mg "_law_after" = some (.ref f__law_after)
  b__law_after : Binds K fd__law_after ["_law_state_here", "_law_edit_here"] []
  f__law_do : Addr
  fd__law_do : FuncData
  F__law_do : Fun K "_law_do" "_law_do" s__law_do f__law_do fd__law_do
  g__law_do : mg "_law_do" = some (.ref f__law_do)
  b__law_do : Binds K fd__law_do ["_law_trip", "_law_edit_here"] []
  f__law_answers : Addr
  fd__law_answers : FuncData
  F__law_answers : Fun K "_law_answers" "_law_answers" s__law_answers f__law_answers fd__law_answers
  g__law_answers : mg "_law_answers" = some (.ref f__law_answers)
  b__law_answers : Binds K fd__law_answers ["_law_state_here"] []
  f__law_heard : Addr
  fd__law_heard : FuncData
  F__law_heard : Fun K "_law_heard" "_law_heard" s__law_heard f__law_heard fd__law_heard
  g__law_heard : mg "_law_heard" = some (.ref f__law_heard)
  b__law_heard : Binds K fd__law_heard ["_law_shell"] []
  f__law_made : Addr
  fd__law_made : FuncData
  F__law_made : Fun K "_law_made" "_law_made" s__law_made f__law_made fd__law_made
  g__law_made : mg "_law_made" = some (.ref f__law_made)
  b__law_made : Binds K fd__law_made ["_law_state_here", "_law_is_promised"] []
  f_Shell___init__ : Addr
  fd_Shell___init__ : FuncData
  F_Shell___init__ : Fun K "__init__" "Shell.__init__" s_Shell___init__ f_Shell___init__ fd_Shell___init__
  b_Shell___init__ : Binds K fd_Shell___init__ ["self", "trip"] []
  f_Shell_execute : Addr
  fd_Shell_execute : FuncData
  F_Shell_execute : Fun K "execute" "Shell.execute" s_Shell_execute f_Shell_execute fd_Shell_execute
  b_Shell_execute : Binds K fd_Shell_execute ["self", "line"] []
  f_Shell_answer : Addr
  fd_Shell_answer : FuncData
  F_Shell_answer : Fun K "answer" "Shell.answer" s_Shell_answer f_Shell_answer fd_Shell_answer
  b_Shell_answer : Binds K fd_Shell_answer ["self", "command"] []
  f_Promise___init__ : Addr
  fd_Promise___init__ : FuncData
  F_Promise___init__ : Fun K "__init__" "Promise.__init__" s_Promise___init__ f_Promise___init__ fd_Promise___init__
  b_Promise___init__ : Binds K fd_Promise___init__ ["self", "latest"] []
  f_Promise_latest : Addr
  fd_Promise_latest : FuncData
  F_Promise_latest : Fun K "latest" "Promise.latest" s_Promise_latest f_Promise_latest fd_Promise_latest
  b_Promise_latest : Binds K fd_Promise_latest ["self"] []
  f_Trip___init__ : Addr
  fd_Trip___init__ : FuncData
  F_Trip___init__ : Fun K "__init__" "Trip.__init__" s_Trip___init__ f_Trip___init__ fd_Trip___init__
  b_Trip___init__ : Binds K fd_Trip___init__ ["self", "road", "starts"] []
  f_Trip_road : Addr
  fd_Trip_road : FuncData
  F_Trip_road : Fun K "road" "Trip.road" s_Trip_road f_Trip_road fd_Trip_road
  b_Trip_road : Binds K fd_Trip_road ["self"] []
  f_Trip_starts : Addr
  fd_Trip_starts : FuncData
  F_Trip_starts : Fun K "starts" "Trip.starts" s_Trip_starts f_Trip_starts fd_Trip_starts
  b_Trip_starts : Binds K fd_Trip_starts ["self"] []
  f_Trip_finish : Addr
  fd_Trip_finish : FuncData
  F_Trip_finish : Fun K "finish" "Trip.finish" s_Trip_finish f_Trip_finish fd_Trip_finish
  b_Trip_finish : Binds K fd_Trip_finish ["self"] []
  f_Trip_come : Addr
  fd_Trip_come : FuncData
  F_Trip_come : Fun K "come" "Trip.come" s_Trip_come f_Trip_come fd_Trip_come
  b_Trip_come : Binds K fd_Trip_come ["self", "start"] []
  f_Trip_leave : Addr
  fd_Trip_leave : FuncData
  F_Trip_leave : Fun K "leave" "Trip.leave" s_Trip_leave f_Trip_leave fd_Trip_leave
  b_Trip_leave : Binds K fd_Trip_leave ["self", "person"] []
  f_Trip_place : Addr
  fd_Trip_place : FuncData
  F_Trip_place : Fun K "place" "Trip.place" s_Trip_place f_Trip_place fd_Trip_place
  b_Trip_place : Binds K fd_Trip_place ["self", "station", "count"] []
  f_Trip_take : Addr
  fd_Trip_take : FuncData
  F_Trip_take : Fun K "take" "Trip.take" s_Trip_take f_Trip_take fd_Trip_take
  b_Trip_take : Binds K fd_Trip_take ["self", "station", "count"] []
  f_Trip_do_edit : Addr
  fd_Trip_do_edit : FuncData
  F_Trip_do_edit : Fun K "do_edit" "Trip.do_edit" s_Trip_do_edit f_Trip_do_edit fd_Trip_do_edit
  b_Trip_do_edit : Binds K fd_Trip_do_edit ["self", "edit", "latest"] []
  f_Trip_check_not_watched : Addr
  fd_Trip_check_not_watched : FuncData
  F_Trip_check_not_watched : Fun K "check_not_watched" "Trip.check_not_watched" s_Trip_check_not_watched f_Trip_check_not_watched fd_Trip_check_not_watched
  b_Trip_check_not_watched : Binds K fd_Trip_check_not_watched ["self"] []
  f_Trip_undo : Addr
  fd_Trip_undo : FuncData
  F_Trip_undo : Fun K "undo" "Trip.undo" s_Trip_undo f_Trip_undo fd_Trip_undo
  b_Trip_undo : Binds K fd_Trip_undo ["self"] []
  f_Trip_call_edit : Addr
  fd_Trip_call_edit : FuncData
  F_Trip_call_edit : Fun K "call_edit" "Trip.call_edit" s_Trip_call_edit f_Trip_call_edit fd_Trip_call_edit
  b_Trip_call_edit : Binds K fd_Trip_call_edit ["self", "edit"] []
  f_Trip_state : Addr
  fd_Trip_state : FuncData
  F_Trip_state : Fun K "state" "Trip.state" s_Trip_state f_Trip_state fd_Trip_state
  b_Trip_state : Binds K fd_Trip_state ["self", "version"] [.none]
  kb_Trip_state : KB1 K fd_Trip_state ["self", "version"] "version"
  f_Trip_certificate : Addr
  fd_Trip_certificate : FuncData
  F_Trip_certificate : Fun K "certificate" "Trip.certificate" s_Trip_certificate f_Trip_certificate fd_Trip_certificate
  b_Trip_certificate : Binds K fd_Trip_certificate ["self", "end", "version"] [.none]
  kb_Trip_certificate : KB1 K fd_Trip_certificate ["self", "end", "version"] "version"
  f_Trip___len__ : Addr
  fd_Trip___len__ : FuncData
  F_Trip___len__ : Fun K "__len__" "Trip.__len__" s_Trip___len__ f_Trip___len__ fd_Trip___len__
  b_Trip___len__ : Binds K fd_Trip___len__ ["self"] []
  f_PromisedTrip___init__ : Addr
  fd_PromisedTrip___init__ : FuncData
  F_PromisedTrip___init__ : Fun K "__init__" "PromisedTrip.__init__" s_PromisedTrip___init__ f_PromisedTrip___init__ fd_PromisedTrip___init__
  b_PromisedTrip___init__ : Binds K fd_PromisedTrip___init__ ["self", "road", "starts", "latest"] []
  f_PromisedTrip_come : Addr
  fd_PromisedTrip_come : FuncData
  F_PromisedTrip_come : Fun K "come" "PromisedTrip.come" s_PromisedTrip_come f_PromisedTrip_come fd_PromisedTrip_come
  b_PromisedTrip_come : Binds K fd_PromisedTrip_come ["self", "start"] []
  f_PromisedTrip_leave : Addr
  fd_PromisedTrip_leave : FuncData
  F_PromisedTrip_leave : Fun K "leave" "PromisedTrip.leave" s_PromisedTrip_leave f_PromisedTrip_leave fd_PromisedTrip_leave
  b_PromisedTrip_leave : Binds K fd_PromisedTrip_leave ["self", "person"] []
  f_PromisedTrip_place : Addr
  fd_PromisedTrip_place : FuncData
  F_PromisedTrip_place : Fun K "place" "PromisedTrip.place" s_PromisedTrip_place f_PromisedTrip_place fd_PromisedTrip_place
  b_PromisedTrip_place : Binds K fd_PromisedTrip_place ["self", "station", "count"] []
  f_PromisedTrip_take : Addr
  fd_PromisedTrip_take : FuncData
  F_PromisedTrip_take : Fun K "take" "PromisedTrip.take" s_PromisedTrip_take f_PromisedTrip_take fd_PromisedTrip_take
  b_PromisedTrip_take : Binds K fd_PromisedTrip_take ["self", "station", "count"] []
  f_law : Addr
  fd_law : FuncData
  F_law : Fun K "law" "law" s_law f_law fd_law
  g_law : mg "law" = some (.ref f_law)
  b_law : Binds K fd_law ["_law_script"] []
  C_BadStarts : Addr
  gC_BadStarts : mg "BadStarts" = some (.ref C_BadStarts)
  C_TooManyPeople : Addr
  gC_TooManyPeople : mg "TooManyPeople" = some (.ref C_TooManyPeople)
  C_TooLate : Addr
  gC_TooLate : mg "TooLate" = some (.ref C_TooLate)
  C_BadRoad : Addr
  gC_BadRoad : mg "BadRoad" = some (.ref C_BadRoad)
  C_Busy : Addr
  gC_Busy : mg "Busy" = some (.ref C_Busy)
  C_TooManyEdits : Addr
  gC_TooManyEdits : mg "TooManyEdits" = some (.ref C_TooManyEdits)
  C_BadStart : Addr
  gC_BadStart : mg "BadStart" = some (.ref C_BadStart)
  C_LastPerson : Addr
  gC_LastPerson : mg "LastPerson" = some (.ref C_LastPerson)
  C_BadCount : Addr
  gC_BadCount : mg "BadCount" = some (.ref C_BadCount)
  C_TooMuch : Addr
  gC_TooMuch : mg "TooMuch" = some (.ref C_TooMuch)
  C_TooFew : Addr
  gC_TooFew : mg "TooFew" = some (.ref C_TooFew)
  C_NothingToUndo : Addr
  gC_NothingToUndo : mg "NothingToUndo" = some (.ref C_NothingToUndo)
  C_BadEnd : Addr
  gC_BadEnd : mg "BadEnd" = some (.ref C_BadEnd)
  C_NoPerson : Addr
  gC_NoPerson : mg "NoPerson" = some (.ref C_NoPerson)
  C_NoStation : Addr
  gC_NoStation : mg "NoStation" = some (.ref C_NoStation)
  C_NoVersion : Addr
  gC_NoVersion : mg "NoVersion" = some (.ref C_NoVersion)
  C_Shell : Addr
  gC_Shell : mg "Shell" = some (.ref C_Shell)
  C_Promise : Addr
  gC_Promise : mg "Promise" = some (.ref C_Promise)
  C_Trip : Addr
  gC_Trip : mg "Trip" = some (.ref C_Trip)
  C_PromisedTrip : Addr
  gC_PromisedTrip : mg "PromisedTrip" = some (.ref C_PromisedTrip)
  cl_Shell : Cls K C_Shell
  cl_Promise : Cls K C_Promise
  cl_Trip : Cls K C_Trip
  cl_PromisedTrip : Cls K C_PromisedTrip
  na_Promise_promised : NoAttr K C_Promise "promised"
  na_PromisedTrip_done : NoAttr K C_PromisedTrip "done"
  na_PromisedTrip_promised : NoAttr K C_PromisedTrip "promised"
  na_PromisedTrip_versions : NoAttr K C_PromisedTrip "versions"
  na_PromisedTrip_watched : NoAttr K C_PromisedTrip "watched"
  na_Shell_trip : NoAttr K C_Shell "trip"
  na_Trip_done : NoAttr K C_Trip "done"
  na_Trip_versions : NoAttr K C_Trip "versions"
  na_Trip_watched : NoAttr K C_Trip "watched"
  mk_PromisedTrip : Mk K C_PromisedTrip f_PromisedTrip___init__
  mk_Shell : Mk K C_Shell f_Shell___init__
  mk_Trip : Mk K C_Trip f_Trip___init__
  me_PromisedTrip_call_edit : Meth K C_PromisedTrip "call_edit" f_Trip_call_edit
  me_PromisedTrip_certificate : Meth K C_PromisedTrip "certificate" f_Trip_certificate
  me_PromisedTrip_check_not_watched : Meth K C_PromisedTrip "check_not_watched" f_Trip_check_not_watched
  me_PromisedTrip_come : Meth K C_PromisedTrip "come" f_PromisedTrip_come
  me_PromisedTrip_do_edit : Meth K C_PromisedTrip "do_edit" f_Trip_do_edit
  me_PromisedTrip_leave : Meth K C_PromisedTrip "leave" f_PromisedTrip_leave
  me_PromisedTrip_place : Meth K C_PromisedTrip "place" f_PromisedTrip_place
  me_PromisedTrip_state : Meth K C_PromisedTrip "state" f_Trip_state
  me_PromisedTrip_take : Meth K C_PromisedTrip "take" f_PromisedTrip_take
  me_PromisedTrip_undo : Meth K C_PromisedTrip "undo" f_Trip_undo
  me_Shell_answer : Meth K C_Shell "answer" f_Shell_answer
  me_Shell_execute : Meth K C_Shell "execute" f_Shell_execute
  me_Trip_call_edit : Meth K C_Trip "call_edit" f_Trip_call_edit
  me_Trip_certificate : Meth K C_Trip "certificate" f_Trip_certificate
  me_Trip_check_not_watched : Meth K C_Trip "check_not_watched" f_Trip_check_not_watched
  me_Trip_come : Meth K C_Trip "come" f_Trip_come
  me_Trip_do_edit : Meth K C_Trip "do_edit" f_Trip_do_edit
  me_Trip_leave : Meth K C_Trip "leave" f_Trip_leave
  me_Trip_place : Meth K C_Trip "place" f_Trip_place
  me_Trip_state : Meth K C_Trip "state" f_Trip_state
  me_Trip_take : Meth K C_Trip "take" f_Trip_take
  me_Trip_undo : Meth K C_Trip "undo" f_Trip_undo
  pa_PromisedTrip_finish : Addr
  pr_PromisedTrip_finish : PropOf K C_PromisedTrip "finish" pa_PromisedTrip_finish f_Trip_finish
  pa_PromisedTrip_latest : Addr
  pr_PromisedTrip_latest : PropOf K C_PromisedTrip "latest" pa_PromisedTrip_latest f_Promise_latest
  pa_PromisedTrip_road : Addr
  pr_PromisedTrip_road : PropOf K C_PromisedTrip "road" pa_PromisedTrip_road f_Trip_road
  pa_PromisedTrip_starts : Addr
  pr_PromisedTrip_starts : PropOf K C_PromisedTrip "starts" pa_PromisedTrip_starts f_Trip_starts
  pa_Trip_finish : Addr
  pr_Trip_finish : PropOf K C_Trip "finish" pa_Trip_finish f_Trip_finish
  pa_Trip_road : Addr
  pr_Trip_road : PropOf K C_Trip "road" pa_Trip_road f_Trip_road
  pa_Trip_starts : Addr
  pr_Trip_starts : PropOf K C_Trip "starts" pa_Trip_starts f_Trip_starts
  con_PromisedTrip_MOST_EDITS : ConI K mg "MOST_EDITS" 60 "PromisedTrip"
  con_Trip_MOST_EDITS : ConI K mg "MOST_EDITS" 60 "Trip"
  ln_PromisedTrip : PySem.W.findIn K (.ref C_PromisedTrip) "__len__" = some (some (.ref f_Trip___len__))
  lnf_PromisedTrip : PySem.W.isFn K (.ref f_Trip___len__) = true
  ln_Trip : PySem.W.findIn K (.ref C_Trip) "__len__" = some (some (.ref f_Trip___len__))
  lnf_Trip : PySem.W.isFn K (.ref f_Trip___len__) = true
  E_BadStart : OwnI K C_BadStart
  L_BadStart : ErrC K C_BadStart [.type "ValueError", .type "Exception", .type "BaseException", .type "object"] "ValueError.__new__"
  no_BadStart : PySem.W.findIn K (.ref C_BadStart) "value" = some none
  fI_BadStart : Addr
  fdI_BadStart : FuncData
  iC_BadStart : PySem.W.findIn K (.ref C_BadStart) "__init__" = some (some (.ref fI_BadStart))
  tI_BadStart : PySem.W.typeIn K (.ref fI_BadStart) = some (.type "function")
  FI_BadStart : Fun K "__init__" "BadStart.__init__" si_BadStart fI_BadStart fdI_BadStart
  bI_BadStart : Binds K fdI_BadStart ["self", "value"] []
  E_TooManyPeople : OwnI K C_TooManyPeople
  q_TooManyPeople : PySem.W.excIn K C_TooManyPeople [.type "ValueError", .type "Exception", .type "BaseException", .type "object"] "ValueError.__new__" = true
  kp_TooManyPeople : PySem.W.keepIn K (.ref C_TooManyPeople) = true
  bx_TooManyPeople : PySem.W.subIn K (.ref C_TooManyPeople) (.type "BaseException") = some true
  ty_TooManyPeople : PySem.W.typeIn K (.ref C_TooManyPeople) = some (.type "type")
  E_NoPerson : OwnI K C_NoPerson
  L_NoPerson : ErrC K C_NoPerson [.type "LookupError", .type "Exception", .type "BaseException", .type "object"] "LookupError.__new__"
  no_NoPerson : PySem.W.findIn K (.ref C_NoPerson) "value" = some none
  fI_NoPerson : Addr
  fdI_NoPerson : FuncData
  iC_NoPerson : PySem.W.findIn K (.ref C_NoPerson) "__init__" = some (some (.ref fI_NoPerson))
  tI_NoPerson : PySem.W.typeIn K (.ref fI_NoPerson) = some (.type "function")
  FI_NoPerson : Fun K "__init__" "NoPerson.__init__" si_NoPerson fI_NoPerson fdI_NoPerson
  bI_NoPerson : Binds K fdI_NoPerson ["self", "value"] []
  E_LastPerson : OwnI K C_LastPerson
  q_LastPerson : PySem.W.excIn K C_LastPerson [.type "ValueError", .type "Exception", .type "BaseException", .type "object"] "ValueError.__new__" = true
  kp_LastPerson : PySem.W.keepIn K (.ref C_LastPerson) = true
  bx_LastPerson : PySem.W.subIn K (.ref C_LastPerson) (.type "BaseException") = some true
  ty_LastPerson : PySem.W.typeIn K (.ref C_LastPerson) = some (.type "type")
  E_TooMuch : OwnI K C_TooMuch
  L_TooMuch : ErrC K C_TooMuch [.type "ValueError", .type "Exception", .type "BaseException", .type "object"] "ValueError.__new__"
  no_TooMuch : PySem.W.findIn K (.ref C_TooMuch) "total" = some none
  fI_TooMuch : Addr
  fdI_TooMuch : FuncData
  iC_TooMuch : PySem.W.findIn K (.ref C_TooMuch) "__init__" = some (some (.ref fI_TooMuch))
  tI_TooMuch : PySem.W.typeIn K (.ref fI_TooMuch) = some (.type "function")
  FI_TooMuch : Fun K "__init__" "TooMuch.__init__" si_TooMuch fI_TooMuch fdI_TooMuch
  bI_TooMuch : Binds K fdI_TooMuch ["self", "total"] []
  E_TooFew : OwnI K C_TooFew
  L_TooFew : ErrC K C_TooFew [.type "ValueError", .type "Exception", .type "BaseException", .type "object"] "ValueError.__new__"
  no_TooFew : PySem.W.findIn K (.ref C_TooFew) "present" = some none
  fI_TooFew : Addr
  fdI_TooFew : FuncData
  iC_TooFew : PySem.W.findIn K (.ref C_TooFew) "__init__" = some (some (.ref fI_TooFew))
  tI_TooFew : PySem.W.typeIn K (.ref fI_TooFew) = some (.type "function")
  FI_TooFew : Fun K "__init__" "TooFew.__init__" si_TooFew fI_TooFew fdI_TooFew
  bI_TooFew : Binds K fdI_TooFew ["self", "present"] []
  E_NoStation : OwnI K C_NoStation
  L_NoStation : ErrC K C_NoStation [.type "LookupError", .type "Exception", .type "BaseException", .type "object"] "LookupError.__new__"
  no_NoStation : PySem.W.findIn K (.ref C_NoStation) "value" = some none
  fI_NoStation : Addr
  fdI_NoStation : FuncData
  iC_NoStation : PySem.W.findIn K (.ref C_NoStation) "__init__" = some (some (.ref fI_NoStation))
  tI_NoStation : PySem.W.typeIn K (.ref fI_NoStation) = some (.type "function")
  FI_NoStation : Fun K "__init__" "NoStation.__init__" si_NoStation fI_NoStation fdI_NoStation
  bI_NoStation : Binds K fdI_NoStation ["self", "value"] []
  E_BadCount : OwnI K C_BadCount
  L_BadCount : ErrC K C_BadCount [.type "ValueError", .type "Exception", .type "BaseException", .type "object"] "ValueError.__new__"
  no_BadCount : PySem.W.findIn K (.ref C_BadCount) "value" = some none
  fI_BadCount : Addr
  fdI_BadCount : FuncData
  iC_BadCount : PySem.W.findIn K (.ref C_BadCount) "__init__" = some (some (.ref fI_BadCount))
  tI_BadCount : PySem.W.typeIn K (.ref fI_BadCount) = some (.type "function")
  FI_BadCount : Fun K "__init__" "BadCount.__init__" si_BadCount fI_BadCount fdI_BadCount
  bI_BadCount : Binds K fdI_BadCount ["self", "value"] []
  E_BadEnd : OwnI K C_BadEnd
  L_BadEnd : ErrC K C_BadEnd [.type "ValueError", .type "Exception", .type "BaseException", .type "object"] "ValueError.__new__"
  no_BadEnd : PySem.W.findIn K (.ref C_BadEnd) "value" = some none
  fI_BadEnd : Addr
  fdI_BadEnd : FuncData
  iC_BadEnd : PySem.W.findIn K (.ref C_BadEnd) "__init__" = some (some (.ref fI_BadEnd))
  tI_BadEnd : PySem.W.typeIn K (.ref fI_BadEnd) = some (.type "function")
  FI_BadEnd : Fun K "__init__" "BadEnd.__init__" si_BadEnd fI_BadEnd fdI_BadEnd
  bI_BadEnd : Binds K fdI_BadEnd ["self", "value"] []
  E_BadRoad : OwnI K C_BadRoad
  L_BadRoad : ErrC K C_BadRoad [.type "ValueError", .type "Exception", .type "BaseException", .type "object"] "ValueError.__new__"
  no_BadRoad : PySem.W.findIn K (.ref C_BadRoad) "error" = some none
  fI_BadRoad : Addr
  fdI_BadRoad : FuncData
  iC_BadRoad : PySem.W.findIn K (.ref C_BadRoad) "__init__" = some (some (.ref fI_BadRoad))
  tI_BadRoad : PySem.W.typeIn K (.ref fI_BadRoad) = some (.type "function")
  FI_BadRoad : Fun K "__init__" "BadRoad.__init__" si_BadRoad fI_BadRoad fdI_BadRoad
  bI_BadRoad : Binds K fdI_BadRoad ["self", "error"] []
  E_BadStarts : OwnI K C_BadStarts
  L_BadStarts : ErrC K C_BadStarts [.type "ValueError", .type "Exception", .type "BaseException", .type "object"] "ValueError.__new__"
  no_BadStarts : PySem.W.findIn K (.ref C_BadStarts) "value" = some none
  fI_BadStarts : Addr
  fdI_BadStarts : FuncData
  iC_BadStarts : PySem.W.findIn K (.ref C_BadStarts) "__init__" = some (some (.ref fI_BadStarts))
  tI_BadStarts : PySem.W.typeIn K (.ref fI_BadStarts) = some (.type "function")
  FI_BadStarts : Fun K "__init__" "BadStarts.__init__" si_BadStarts fI_BadStarts fdI_BadStarts
  bI_BadStarts : Binds K fdI_BadStarts ["self", "value"] []
  E_TooManyEdits : OwnI K C_TooManyEdits
  q_TooManyEdits : PySem.W.excIn K C_TooManyEdits [.type "ValueError", .type "Exception", .type "BaseException", .type "object"] "ValueError.__new__" = true
  kp_TooManyEdits : PySem.W.keepIn K (.ref C_TooManyEdits) = true
  bx_TooManyEdits : PySem.W.subIn K (.ref C_TooManyEdits) (.type "BaseException") = some true
  ty_TooManyEdits : PySem.W.typeIn K (.ref C_TooManyEdits) = some (.type "type")
  E_TooLate : OwnI K C_TooLate
  L_TooLate : ErrC K C_TooLate [.type "ValueError", .type "Exception", .type "BaseException", .type "object"] "ValueError.__new__"
  no_TooLate : PySem.W.findIn K (.ref C_TooLate) "tick" = some none
  fI_TooLate : Addr
  fdI_TooLate : FuncData
  iC_TooLate : PySem.W.findIn K (.ref C_TooLate) "__init__" = some (some (.ref fI_TooLate))
  tI_TooLate : PySem.W.typeIn K (.ref fI_TooLate) = some (.type "function")
  FI_TooLate : Fun K "__init__" "TooLate.__init__" si_TooLate fI_TooLate fdI_TooLate
  bI_TooLate : Binds K fdI_TooLate ["self", "tick"] []
  E_Busy : OwnI K C_Busy
  q_Busy : PySem.W.excIn K C_Busy [.type "ValueError", .type "Exception", .type "BaseException", .type "object"] "ValueError.__new__" = true
  kp_Busy : PySem.W.keepIn K (.ref C_Busy) = true
  bx_Busy : PySem.W.subIn K (.ref C_Busy) (.type "BaseException") = some true
  ty_Busy : PySem.W.typeIn K (.ref C_Busy) = some (.type "type")
  E_NothingToUndo : OwnI K C_NothingToUndo
  q_NothingToUndo : PySem.W.excIn K C_NothingToUndo [.type "ValueError", .type "Exception", .type "BaseException", .type "object"] "ValueError.__new__" = true
  kp_NothingToUndo : PySem.W.keepIn K (.ref C_NothingToUndo) = true
  bx_NothingToUndo : PySem.W.subIn K (.ref C_NothingToUndo) (.type "BaseException") = some true
  ty_NothingToUndo : PySem.W.typeIn K (.ref C_NothingToUndo) = some (.type "type")
  E_NoVersion : OwnI K C_NoVersion
  L_NoVersion : ErrC K C_NoVersion [.type "LookupError", .type "Exception", .type "BaseException", .type "object"] "LookupError.__new__"
  no_NoVersion : PySem.W.findIn K (.ref C_NoVersion) "value" = some none
  fI_NoVersion : Addr
  fdI_NoVersion : FuncData
  iC_NoVersion : PySem.W.findIn K (.ref C_NoVersion) "__init__" = some (some (.ref fI_NoVersion))
  tI_NoVersion : PySem.W.typeIn K (.ref fI_NoVersion) = some (.type "function")
  FI_NoVersion : Fun K "__init__" "NoVersion.__init__" si_NoVersion fI_NoVersion fdI_NoVersion
  bI_NoVersion : Binds K fdI_NoVersion ["self", "value"] []
  rd_Promise : PySem.W.readsIn K C_Promise (.type "type") = true
  ra_Promise : PySem.W.specialIn K (.ref C_Promise) "__getattribute__" = some (some (.builtin "type.__getattribute__"))
  rd_Trip : PySem.W.readsIn K C_Trip (.type "type") = true
  ra_Trip : PySem.W.specialIn K (.ref C_Trip) "__getattribute__" = some (some (.builtin "type.__getattribute__"))
  fc_Promise___init__ : PySem.W.findCls K (.ref C_Promise) (.type "type") "__init__" = some (.val (.ref f_Promise___init__))
  fc_Trip___init__ : PySem.W.findCls K (.ref C_Trip) (.type "type") "__init__" = some (.val (.ref f_Trip___init__))
  d_EDIT_LENGTHS : Addr
  es_EDIT_LENGTHS : Array DictEntry
  n_EDIT_LENGTHS : Nat
  g_EDIT_LENGTHS : mg "EDIT_LENGTHS" = some (.ref d_EDIT_LENGTHS)
  l_EDIT_LENGTHS : K.lookup d_EDIT_LENGTHS = some ⟨.type "dict", none, .dict es_EDIT_LENGTHS n_EDIT_LENGTHS, #[]⟩
  y_EDIT_LENGTHS : (d_EDIT_LENGTHS == sysModules) = false
  e_EDIT_LENGTHS : DicOf PP es_EDIT_LENGTHS.toList [("come", 2), ("leave", 2), ("place", 3), ("take", 3)]
  t_LIMIT : Tok
  c_LIMIT : mg "LIMIT" = some (.int 10000000 t_LIMIT)
  t_MAX_PEOPLE : Tok
  c_MAX_PEOPLE : mg "MAX_PEOPLE" = some (.int 10 t_MAX_PEOPLE)
  t_MAX_START : Tok
  c_MAX_START : mg "MAX_START" = some (.int 1000000 t_MAX_START)
  t_MAX_TICKS : Tok
  c_MAX_TICKS : mg "MAX_TICKS" = some (.int 1000 t_MAX_TICKS)
  t_MAX_STAGES : Tok
  c_MAX_STAGES : mg "MAX_STAGES" = some (.int 12 t_MAX_STAGES)
  t_MAX_BIKES : Tok
  c_MAX_BIKES : mg "MAX_BIKES" = some (.int 12 t_MAX_BIKES)
  t_MOST : Tok
  c_MOST : mg "MOST" = some (.int 99999999 t_MOST)
  z_abs : mg "abs" = none
  z_bool : mg "bool" = none
  z_enumerate : mg "enumerate" = none
  z_int : mg "int" = none
  z_isinstance : mg "isinstance" = none
  z_len : mg "len" = none
  z_list : mg "list" = none
  z_max : mg "max" = none
  z_min : mg "min" = none
  z_range : mg "range" = none
  z_sorted : mg "sorted" = none
  z_str : mg "str" = none
  z_sum : mg "sum" = none
  z_tuple : mg "tuple" = none
  z_zip : mg "zip" = none
section
variable {P : Program} {w : World} {K : PySem.W.Frag} {mg : Str → Option Value} {base : Heap}
theorem Gi_BadStart (T : Tx K mg w.params) : FnOk P w K mg base CX0 1 T.fI_BadStart T.fdI_BadStart ["self", "value"] (Rb.spIni K T.C_BadStart "value") :=
  iniE T.FI_BadStart sci_BadStart T.L_BadStart T.no_BadStart (fun _ _ _ _ _ _ => pss_one (ps_putE PySem.F.store_ValueError (pv 0) (pv 1)))
theorem Gi_NoPerson (T : Tx K mg w.params) : FnOk P w K mg base CX0 1 T.fI_NoPerson T.fdI_NoPerson ["self", "value"] (Rb.spIni K T.C_NoPerson "value") :=
  iniE T.FI_NoPerson sci_NoPerson T.L_NoPerson T.no_NoPerson (fun _ _ _ _ _ _ => pss_one (ps_putE PySem.F.store_LookupError (pv 0) (pv 1)))
theorem Gi_TooMuch (T : Tx K mg w.params) : FnOk P w K mg base CX0 1 T.fI_TooMuch T.fdI_TooMuch ["self", "total"] (Rb.spIni K T.C_TooMuch "total") :=
  iniE T.FI_TooMuch sci_TooMuch T.L_TooMuch T.no_TooMuch (fun _ _ _ _ _ _ => pss_one (ps_putE PySem.F.store_ValueError (pv 0) (pv 1)))
theorem Gi_TooFew (T : Tx K mg w.params) : FnOk P w K mg base CX0 1 T.fI_TooFew T.fdI_TooFew ["self", "present"] (Rb.spIni K T.C_TooFew "present") :=
  iniE T.FI_TooFew sci_TooFew T.L_TooFew T.no_TooFew (fun _ _ _ _ _ _ => pss_one (ps_putE PySem.F.store_ValueError (pv 0) (pv 1)))
theorem Gi_NoStation (T : Tx K mg w.params) : FnOk P w K mg base CX0 1 T.fI_NoStation T.fdI_NoStation ["self", "value"] (Rb.spIni K T.C_NoStation "value") :=
  iniE T.FI_NoStation sci_NoStation T.L_NoStation T.no_NoStation (fun _ _ _ _ _ _ => pss_one (ps_putE PySem.F.store_LookupError (pv 0) (pv 1)))
theorem Gi_BadCount (T : Tx K mg w.params) : FnOk P w K mg base CX0 1 T.fI_BadCount T.fdI_BadCount ["self", "value"] (Rb.spIni K T.C_BadCount "value") :=
  iniE T.FI_BadCount sci_BadCount T.L_BadCount T.no_BadCount (fun _ _ _ _ _ _ => pss_one (ps_putE PySem.F.store_ValueError (pv 0) (pv 1)))
theorem Gi_BadEnd (T : Tx K mg w.params) : FnOk P w K mg base CX0 1 T.fI_BadEnd T.fdI_BadEnd ["self", "value"] (Rb.spIni K T.C_BadEnd "value") :=
  iniE T.FI_BadEnd sci_BadEnd T.L_BadEnd T.no_BadEnd (fun _ _ _ _ _ _ => pss_one (ps_putE PySem.F.store_ValueError (pv 0) (pv 1)))
theorem Gi_BadRoad (T : Tx K mg w.params) : FnOk P w K mg base CX0 1 T.fI_BadRoad T.fdI_BadRoad ["self", "error"] (Rb.spIni K T.C_BadRoad "error") :=
  iniE T.FI_BadRoad sci_BadRoad T.L_BadRoad T.no_BadRoad (fun _ _ _ _ _ _ => pss_one (ps_putE PySem.F.store_ValueError (pv 0) (pv 1)))
theorem Gi_BadStarts (T : Tx K mg w.params) : FnOk P w K mg base CX0 1 T.fI_BadStarts T.fdI_BadStarts ["self", "value"] (Rb.spIni K T.C_BadStarts "value") :=
  iniE T.FI_BadStarts sci_BadStarts T.L_BadStarts T.no_BadStarts (fun _ _ _ _ _ _ => pss_one (ps_putE PySem.F.store_ValueError (pv 0) (pv 1)))
theorem Gi_TooLate (T : Tx K mg w.params) : FnOk P w K mg base CX0 1 T.fI_TooLate T.fdI_TooLate ["self", "tick"] (Rb.spIni K T.C_TooLate "tick") :=
  iniE T.FI_TooLate sci_TooLate T.L_TooLate T.no_TooLate (fun _ _ _ _ _ _ => pss_one (ps_putE PySem.F.store_ValueError (pv 0) (pv 1)))
theorem Gi_NoVersion (T : Tx K mg w.params) : FnOk P w K mg base CX0 1 T.fI_NoVersion T.fdI_NoVersion ["self", "value"] (Rb.spIni K T.C_NoVersion "value") :=
  iniE T.FI_NoVersion sci_NoVersion T.L_NoVersion T.no_NoVersion (fun _ _ _ _ _ _ => pss_one (ps_putE PySem.F.store_LookupError (pv 0) (pv 1)))
theorem G_is_number_from (T : Tx K mg w.params) : Rb.FnG P w K mg base CX0 1 T.f_is_number_from T.fd_is_number_from ["value", "least", "most"] (spF (ct0 K mg) F_is_number_from) := by
  unfold F_is_number_from
  exact
   d_fn T.F_is_number_from sc_is_number_from fun cdv A out s H E hg hr => (d_seq (d_if (PW.pt (d_or (d_tval (d_isi (t := .bool) (by rfl) T.z_isinstance (d_var (pv 0)) (pe_bltn (by rfl) T.z_bool (show bootBuiltins "bool" = some (.type "bool") by decide +kernel) (show RelV (V.ty "bool") _ from rfl)))) (d_or1 (d_not (d_tval (d_isi (t := .int) (by rfl) T.z_isinstance (d_var (pv 0)) (pe_bltn (by rfl) T.z_int (show bootBuiltins "int" = some (.type "int") by decide +kernel) (show RelV (V.ty "int") _ from rfl))))))))
 (d_last (d_ret d_bl))
 d_end)
 (d_last (d_ret (d_chain o_le o_le (d_var (pv 1)) (d_var (pv 0)) (d_var (pv 2))))))
theorem G_counts_of (T : Tx K mg w.params) : Rb.FnG P w K mg base CX0 1 T.f_counts_of T.fd_counts_of ["road"] (spF (ct0 K mg) F_counts_of) := by
  unfold F_counts_of
  exact
   d_fn T.F_counts_of sc_counts_of fun cdv A out s H E hg hr => (d_seq (d_set (i := 1) sc_counts_of.nd rfl (.inr rfl) (d_ix (d_var (pv 0)) d_int (fun _ _ => rfl)))
 (d_last (d_ret (d_callT c_tuple (by rfl) T.z_tuple (by decide +kernel) (d_cons (d_lc (own := [("stage", 2)]) (g := (gName 2)) (st := (st1 2)) lct1 (by rfl) sc_counts_of.nd (d_rng1 (by rfl) T.z_range (d_cons (d_callB c_len (by rfl) T.z_len (by decide +kernel) (d_cons (d_var (pv 1)) d_nil)) d_nil)) (blkOk_by (own := [("stage", 2)]) (N := N_counts_of) (sc := defScope s_counts_of) (by decide +kernel)) (fun _ _ _ _ _ => (pg_name (i := 2) sc_counts_of.nd rfl (.inl rfl))) (fun _ _ _ _ _ => d_tnil) (fun _ _ _ _ _ => (d_callB (c_sum rfl) (by rfl) T.z_sum (by decide +kernel) (d_cons (d_slice (d_var (pv 1)) d_noP (d_part (d_bin o_add (d_var (pv 2)) d_int))) d_nil)))) d_nil)))))
theorem G_with_further (T : Tx K mg w.params) : Rb.FnG P w K mg base CX0 1 T.f_with_further T.fd_with_further ["road", "station", "many"] (spF (ct0 K mg) F_with_further) := by
  unfold F_with_further
  exact
   d_fn T.F_with_further sc_with_further fun cdv A out s H E hg hr => (d_seq (d_asg (d_var (pv 0)) (d_gtup rfl (d_gcons (d_gn (pg_name (i := 3) sc_with_further.nd rfl (.inl rfl))) (d_gcons (d_gn (pg_name (i := 4) sc_with_further.nd rfl (.inl rfl))) (d_gcons (d_gn (pg_name (i := 5) sc_with_further.nd rfl (.inl rfl))) d_gnil)))))
 (d_last (d_ret (d_tup (d_cons (d_var (pv 3)) (d_cons (d_var (pv 4)) (d_cons (d_bin o_add (d_bin o_add (d_slice (d_var (pv 5)) d_noP (d_part (d_var (pv 1)))) (d_tup (d_cons (d_bin o_add (d_ix (d_var (pv 5)) (d_var (pv 1)) (fun _ _ => rfl)) (d_var (pv 2))) d_nil))) (d_slice (d_var (pv 5)) (d_part (d_bin o_add (d_var (pv 1)) d_int)) d_noP)) d_nil)))))))
theorem G_is_edit (T : Tx K mg w.params) : Rb.FnG P w K mg base CX0 1 T.f_is_edit T.fd_is_edit ["value"] (spF (ct0 K mg) F_is_edit) := by
  unfold F_is_edit
  exact
   d_fn T.F_is_edit sc_is_edit fun cdv A out s H E hg hr => (d_seq (d_if (PW.pt (d_or (d_not (d_tval (d_isi (t := .tup) (by rfl) T.z_isinstance (d_var (pv 0)) (pe_bltn (by rfl) T.z_tuple (show bootBuiltins "tuple" = some (.type "tuple") by decide +kernel) (show RelV (V.ty "tuple") _ from rfl))))) (d_or (d_tcmp (o_ieq hr.units) (d_callB c_len (by rfl) T.z_len (by decide +kernel) (d_cons (d_var (pv 0)) d_nil)) d_int (nomark _)) (d_or1 (d_not (d_tval (d_isi (t := .str) (by rfl) T.z_isinstance (d_ix (d_var (pv 0)) d_int (fun _ _ => rfl)) (pe_bltn (by rfl) T.z_str (show bootBuiltins "str" = some (.type "str") by decide +kernel) (show RelV (V.ty "str") _ from rfl)))))))))
 (d_last (d_ret d_bl))
 d_end)
 (d_last (d_ret (d_cmp (o_ieq hr.units) (d_kget (ktab_of (by rfl) T.g_EDIT_LENGTHS T.l_EDIT_LENGTHS T.y_EDIT_LENGTHS T.e_EDIT_LENGTHS) (d_ix (d_var (pv 0)) d_int (fun _ _ => rfl)) ⟨rfl, rfl, rfl, rfl⟩) (d_callB c_len (by rfl) T.z_len (by decide +kernel) (d_cons (d_var (pv 0)) d_nil)) (nomark _)))))
theorem G_bike_ticks (T : Tx K mg w.params) : Rb.FnG P w K mg base CX0 1 T.f_bike_ticks T.fd_bike_ticks ["ticks", "brought", "standing"] (spF (ct0 K mg) F_bike_ticks) := by
  unfold F_bike_ticks
  exact
   d_fn T.F_bike_ticks sc_bike_ticks fun cdv A out s H E hg hr => (d_last (d_ret (d_callB c_sorted (by rfl) T.z_sorted (by decide +kernel) (d_cons (d_bin o_add (d_bin o_mul (d_lst (d_cons d_int d_nil)) (d_var (pv 2))) (d_lc (own := [("person", 3)]) (g := (gName 3)) (st := (st1 3)) lct1 (by rfl) sc_bike_ticks.nd (d_iseq (d_var (pv 1))) (blkOk_by (own := [("person", 3)]) (N := N_bike_ticks) (sc := defScope s_bike_ticks) (by decide +kernel)) (fun _ _ _ _ _ => (pg_name (i := 3) sc_bike_ticks.nd rfl (.inl rfl))) (fun _ _ _ _ _ => d_tnil) (fun _ _ _ _ _ => (d_ix (d_var (pv 0)) (d_var (pv 3)) (fun _ _ => rfl))))) d_nil))))
theorem G_leaving_ticks (T : Tx K mg w.params) : Rb.FnG P w K mg base CX0 1 T.f_leaving_ticks T.fd_leaving_ticks ["ticks", "riders", "bikes"] (spF (ct0 K mg) F_leaving_ticks) := by
  unfold F_leaving_ticks
  exact
   d_fnC T.F_leaving_ticks sc_leaving_ticks fun cdv A out s H E hg hr => (d_seq (d_set (i := 3) sc_leaving_ticks.nd rfl (.inl rfl) (d_callT c_listC (by rfl) T.z_list (by decide +kernel) (d_cons (d_var (pv 0)) d_nil)))
 (d_seq (d_set (i := 4) sc_leaving_ticks.nd rfl (.inl rfl) (d_callB c_sorted (by rfl) T.z_sorted (by decide +kernel) (d_cons (d_lc (own := [("person", 6)]) (g := (gName 6)) (st := (st1 6)) lct1 (by rfl) sc_leaving_ticks.nd (d_iseq (d_var (pv 1))) (blkOk_by (own := [("person", 6)]) (N := N_leaving_ticks) (sc := defScope s_leaving_ticks) (by decide +kernel)) (fun _ _ _ _ _ => (pg_name (i := 6) sc_leaving_ticks.nd rfl (.inl rfl))) (fun _ _ _ _ _ => d_tnil) (fun _ _ _ _ _ => (d_tup (d_cons (d_ix (d_var (pv 0)) (d_var (pv 6)) (fun _ _ => rfl)) (d_cons (d_var (pv 6)) d_nil))))) d_nil)))
 (d_seq (d_for PassesOwn.never rfl (d_zip (by rfl) T.z_zip (d_cons (d_var (pv 4)) (d_cons (d_var (pv 2)) d_nil))) (d_gtup rfl (d_gcons (d_gtup rfl (d_gcons (d_gn (pg_name (i := 5) sc_leaving_ticks.nd rfl (.inl rfl))) (d_gcons (d_gn (pg_name (i := 6) sc_leaving_ticks.nd rfl (.inl rfl))) d_gnil))) (d_gcons (d_gn (pg_name (i := 7) sc_leaving_ticks.nd rfl (.inl rfl))) d_gnil)))
 (d_last (d_asg (d_callB (c_max rfl hr.units) (by rfl) T.z_max (by decide +kernel) (d_cons (d_var (pv 5)) (d_cons (d_var (pv 7)) d_nil))) (d_gsub (d_var (pv 3)) (d_var (pv 6))))))
 (d_last (d_ret (d_var (pv 3)))))))
theorem G_greatest (T : Tx K mg w.params) : Rb.FnG P w K mg base CX0 1 T.f_greatest T.fd_greatest ["numbers", "many"] (spF (ct0 K mg) F_greatest) := by
  unfold F_greatest
  exact
   d_fn T.F_greatest sc_greatest fun cdv A out s H E hg hr => (d_seq (d_set (i := 2) sc_greatest.nd rfl (.inl rfl) (d_callB c_sorted (by rfl) T.z_sorted (by decide +kernel) (d_cons (d_lc (own := [("person", 3), ("number", 4)]) (g := (gTup K 2 (gCons (gName 3) (gCons (gName 4) gNil)))) (st := (st2 3 4)) (lct2 (by decide)) (by rfl) sc_greatest.nd (d_en (by rfl) T.z_enumerate (d_cons (d_var (pv 0)) d_nil)) (blkOk_by (own := [("person", 3), ("number", 4)]) (N := N_greatest) (sc := defScope s_greatest) (by decide +kernel)) (fun _ _ _ _ _ => (pg_tup rfl (pgs_cons (pg_name (i := 3) sc_greatest.nd rfl (.inl rfl)) (pgs_cons (pg_name (i := 4) sc_greatest.nd rfl (.inl rfl)) pgs_nil)))) (fun _ _ _ _ _ => d_tnil) (fun _ _ _ _ _ => (d_tup (d_cons (d_un u_neg (d_var (pv 4))) (d_cons (d_var (pv 3)) d_nil))))) d_nil)))
 (d_last (d_ret (d_callT c_tuple (by rfl) T.z_tuple (by decide +kernel) (d_cons (d_callB c_sorted (by rfl) T.z_sorted (by decide +kernel) (d_cons (d_lc (own := [("number", 4), ("person", 3)]) (g := (gTup K 2 (gCons (gName 4) (gCons (gName 3) gNil)))) (st := (st2 4 3)) (lct2 (by decide)) (by rfl) sc_greatest.nd (d_iseq (d_slice (d_var (pv 2)) d_noP (d_part (d_var (pv 1))))) (blkOk_by (own := [("number", 4), ("person", 3)]) (N := N_greatest) (sc := defScope s_greatest) (by decide +kernel)) (fun _ _ _ _ _ => (pg_tup rfl (pgs_cons (pg_name (i := 4) sc_greatest.nd rfl (.inl rfl)) (pgs_cons (pg_name (i := 3) sc_greatest.nd rfl (.inl rfl)) pgs_nil)))) (fun _ _ _ _ _ => d_tnil) (fun _ _ _ _ _ => (d_var (pv 3)))) d_nil)) d_nil)))))
theorem G_needs_of (T : Tx K mg w.params) : Rb.FnG P w K mg base CX0 1 T.f_needs_of T.fd_needs_of ["road", "starts", "end"] (spF (ct0 K mg) F_needs_of) := by
  unfold F_needs_of
  exact
   d_fn T.F_needs_of sc_needs_of fun cdv A out s H E hg hr => (d_seq (d_asg (d_var (pv 0)) (d_gtup rfl (d_gcons (d_gn (pg_name (i := 3) sc_needs_of.nd rfl (.inr rfl))) (d_gcons (d_gn (pg_name (i := 4) sc_needs_of.nd rfl (.inr rfl))) (d_gcons (d_gn (pg_name (i := 5) sc_needs_of.nd rfl (.inl rfl))) d_gnil)))))
 (d_seq (d_set (i := 6) sc_needs_of.nd rfl (.inr rfl) (d_bin o_mul (d_var (pv 3)) (d_callB c_len (by rfl) T.z_len (by decide +kernel) (d_cons (d_var (pv 5)) d_nil))))
 (d_last (d_ret (d_callT c_tuple (by rfl) T.z_tuple (by decide +kernel) (d_cons (d_lc (own := [("start", 7)]) (g := (gName 7)) (st := (st1 7)) lct1 (by rfl) sc_needs_of.nd (d_iseq (d_var (pv 1))) (blkOk_by (own := [("start", 7)]) (N := N_needs_of) (sc := defScope s_needs_of) (by decide +kernel)) (fun _ _ _ _ _ => (pg_name (i := 7) sc_needs_of.nd rfl (.inl rfl))) (fun _ _ _ _ _ => d_tnil) (fun _ _ _ _ _ => (d_callB (c_max rfl hr.units) (by rfl) T.z_max (by decide +kernel) (d_cons d_int (d_cons (d_un u_neg (d_bin o_fdiv (d_bin o_sub (d_bin o_sub (d_var (pv 2)) (d_var (pv 7))) (d_var (pv 6))) (d_bin o_sub (d_var (pv 3)) (d_var (pv 4))))) d_nil))))) d_nil))))))
theorem G_listed (T : Tx K mg w.params) : Rb.FnG P w K mg base CX0 1 T.f_listed T.fd_listed ["numbers"] (spF (ct0 K mg) F_listed) := by
  unfold F_listed
  exact
   d_fn T.F_listed sc_listed fun cdv A out s H E hg hr => (d_last (d_ret (d_join d_str (d_lc (own := [("number", 1)]) (g := (gName 1)) (st := (st1 1)) lct1 (by rfl) sc_listed.nd (d_iseq (d_var (pv 0))) (blkOk_by (own := [("number", 1)]) (N := N_listed) (sc := defScope s_listed) (by decide +kernel)) (fun _ _ _ _ _ => (pg_name (i := 1) sc_listed.nd rfl (.inl rfl))) (fun _ _ _ _ _ => d_tnil) (fun _ _ _ _ _ => (d_callT c_str (by rfl) T.z_str (by decide +kernel) (d_cons (d_var (pv 1)) d_nil)))))))
theorem G_number_in (T : Tx K mg w.params) : Rb.FnG P w K mg base CX0 1 T.f_number_in T.fd_number_in ["text", "least", "most"] (spF (ct0 K mg) F_number_in) := by
  unfold F_number_in
  exact
   d_fn T.F_number_in sc_number_in fun cdv A out s H E hg hr => (d_seq (d_if (PW.pt (d_or (d_not (d_tval (d_ascii (d_var (pv 0))))) (d_or1 (d_not (d_tval (d_digit (d_var (pv 0))))))))
 (d_last (d_ret d_non))
 d_end)
 (d_seq (d_if (PW.pt (d_or (d_tcmp o_gt (d_callB c_len (by rfl) T.z_len (by decide +kernel) (d_cons (d_var (pv 0)) d_nil)) (d_callB c_len (by rfl) T.z_len (by decide +kernel) (d_cons (d_callT c_str (by rfl) T.z_str (by decide +kernel) (d_cons (d_var (pv 2)) d_nil)) d_nil)) (nomark _)) (d_or1 (PW.pt (d_and (d_tval (d_starts (d_var (pv 0)) d_str)) (d_and1 (d_tcmp (o_ine hr.units) (d_var (pv 0)) d_str (nomark _))))))))
 (d_last (d_ret d_non))
 d_end)
 (d_seq (d_set (i := 3) sc_number_in.nd rfl (.inl rfl) (d_callT c_intS (by rfl) T.z_int (by decide +kernel) (d_cons (d_var (pv 0)) d_nil)))
 (d_last (d_ret (d_ifE (d_tchain o_le o_le (d_var (pv 1)) (d_var (pv 3)) (d_var (pv 2))) (d_var (pv 3)) d_non))))))
theorem G_law_deck (T : Tx K mg w.params) : Rb.FnG P w K mg base CX0 1 T.f__law_deck T.fd__law_deck ["_law_script"] (spF (ct0 K mg) F_law_deck_2) := by
  unfold F_law_deck_2
  exact
   d_fn T.F__law_deck sc__law_deck fun cdv A out s H E hg hr => (d_last (d_ret (d_lstC (d_cons (d_lcC (own := [("_law_cell", 1)]) (g := (gName 1)) (st := (st1 1)) lct1 (by rfl) sc__law_deck.nd (d_iseq (d_slice (d_var (pv 0)) d_noP (d_part d_int))) (blkOk_by (own := [("_law_cell", 1)]) (N := N__law_deck) (sc := defScope s__law_deck) (by decide +kernel)) (fun _ _ _ _ _ => (pg_name (i := 1) sc__law_deck.nd rfl (.inl rfl))) (fun _ _ _ _ _ => d_tnil) (fun _ _ _ _ _ => (d_callB c_abs (by rfl) T.z_abs (by decide +kernel) (d_cons (d_var (pv 1)) d_nil)))) (d_cons d_int d_nil)))))
theorem G_law_draw (T : Tx K mg w.params) : Rb.FnG P w K mg base CX0 1 T.f__law_draw T.fd__law_draw ["_law_deck_here", "_law_bound"] (spF (ct0 K mg) F_law_draw_3) := by
  unfold F_law_draw_3
  exact
   d_fn T.F__law_draw sc__law_draw fun cdv A out s H E hg hr => (d_seq (d_asg (d_bin o_add (d_ix (d_var (pv 0)) d_int (fun _ _ => rfl)) d_int) (d_gsub (d_var (pv 0)) d_int))
 (d_seq (d_set (i := 2) sc__law_draw.nd rfl (.inl rfl) (d_bin o_mod (d_ix (d_var (pv 0)) d_int (fun _ _ => rfl)) (d_callB (c_max rfl hr.units) (by rfl) T.z_max (by decide +kernel) (d_cons d_int (d_cons (d_callB c_len (by rfl) T.z_len (by decide +kernel) (d_cons (d_ix (d_var (pv 0)) d_int (fun _ _ => rfl)) d_nil)) d_nil)))))
 (d_seq (d_set (i := 3) sc__law_draw.nd rfl (.inl rfl) (d_ix (d_bin o_add (d_ix (d_var (pv 0)) d_int (fun _ _ => rfl)) (d_lst (d_cons d_int d_nil))) (d_var (pv 2)) (fun _ _ => rfl)))
 (d_seq (d_if (d_tcmp o_ge (d_var (pv 3)) (d_bin o_pow d_int d_int) (nomark _))
 (d_seq (d_asg (d_bin o_fdiv (d_var (pv 3)) (d_var (pv 1))) (d_gsub (d_ix (d_var (pv 0)) d_int (fun _ _ => rfl)) (d_var (pv 2))))
 (d_last (d_ret (d_bin o_mod (d_var (pv 3)) (d_var (pv 1))))))
 d_end)
 (d_seq (d_set (i := 4) sc__law_draw.nd rfl (.inl rfl) (d_bin o_mod (d_bin o_pow (d_bin o_add (d_bin o_add (d_bin o_mod (d_var (pv 3)) d_int) (d_bin o_mul d_int (d_ix (d_var (pv 0)) d_int (fun _ _ => rfl)))) d_int) d_int) d_int))
 (d_last (d_ret (d_bin o_mod (d_bin o_add (d_bin o_fdiv (d_var (pv 4)) d_int) (d_bin o_mul d_int (d_ix (d_var (pv 0)) d_int (fun _ _ => rfl)))) (d_var (pv 1))))))))))
theorem G_law_numbers_text (T : Tx K mg w.params) : Rb.FnG P w K mg base CX0 1 T.f__law_numbers_text T.fd__law_numbers_text ["_law_numbers"] (spF (ct0 K mg) F_listed) := by
  unfold F_listed
  exact
   d_fn T.F__law_numbers_text sc__law_numbers_text fun cdv A out s H E hg hr => (d_last (d_ret (d_join d_str (d_lc (own := [("_law_number", 1)]) (g := (gName 1)) (st := (st1 1)) lct1 (by rfl) sc__law_numbers_text.nd (d_iseq (d_var (pv 0))) (blkOk_by (own := [("_law_number", 1)]) (N := N__law_numbers_text) (sc := defScope s__law_numbers_text) (by decide +kernel)) (fun _ _ _ _ _ => (pg_name (i := 1) sc__law_numbers_text.nd rfl (.inl rfl))) (fun _ _ _ _ _ => d_tnil) (fun _ _ _ _ _ => (d_callT c_str (by rfl) T.z_str (by decide +kernel) (d_cons (d_var (pv 1)) d_nil)))))))
theorem G_law_rule (T : Tx K mg w.params) : Rb.FnG P w K mg base CX0 1 T.f__law_rule T.fd__law_rule ["_law_state_here"] (spF (ct0 K mg) F_law_rule_2) := by
  unfold F_law_rule_2
  exact
   d_fnC T.F__law_rule sc__law_rule fun cdv A out s H E hg hr => (d_seq (d_asg (d_var (pv 0)) (d_gtup rfl (d_gcons (d_gtup rfl (d_gcons (d_gn (pg_name (i := 1) sc__law_rule.nd rfl (.inr rfl))) (d_gcons (d_gn (pg_name (i := 2) sc__law_rule.nd rfl (.inr rfl))) (d_gcons (d_gn (pg_name (i := 3) sc__law_rule.nd rfl (.inl rfl))) d_gnil)))) (d_gcons (d_gn (pg_name (i := 4) sc__law_rule.nd rfl (.inl rfl))) d_gnil))))
 (d_seq (d_par3 (i := 5) (j := 6) (l := 7) (by rfl) sc__law_rule.nd rfl rfl rfl (by decide) (by decide) (by decide) rfl rfl rfl (d_cons (d_callT c_listN (by rfl) T.z_list (by decide +kernel) (d_cons (d_var (pv 4)) d_nil)) (d_cons (d_lstC d_nil) (d_cons d_int d_nil))) (by rfl))
 (d_seq (d_for PassesOwn.never rfl (d_iseq (d_var (pv 3))) (d_gn (pg_name (i := 8) sc__law_rule.nd rfl (.inl rfl)))
 (d_seq (d_set (i := 7) sc__law_rule.nd rfl (.inl rfl) (d_bin o_add (d_var (pv 7)) (d_var (pv 8))))
 (d_seq (d_set (i := 9) sc__law_rule.nd rfl (.inl rfl) (d_slice (d_callB c_sorted (by rfl) T.z_sorted (by decide +kernel) (d_cons (d_lc (own := [("_law_person", 11), ("_law_tick", 12)]) (g := (gTup K 2 (gCons (gName 11) (gCons (gName 12) gNil)))) (st := (st2 11 12)) (lct2 (by decide)) (by rfl) sc__law_rule.nd (d_enL (by rfl) T.z_enumerate (d_cons (d_var (pv 5)) d_nil)) (blkOk_by (own := [("_law_person", 11), ("_law_tick", 12)]) (N := N__law_rule) (sc := defScope s__law_rule) (by decide +kernel)) (fun _ _ _ _ _ => (pg_tup rfl (pgs_cons (pg_name (i := 11) sc__law_rule.nd rfl (.inl rfl)) (pgs_cons (pg_name (i := 12) sc__law_rule.nd rfl (.inl rfl)) pgs_nil)))) (fun _ _ _ _ _ => d_tnil) (fun _ _ _ _ _ => (d_tup (d_cons (d_bin o_sub d_int (d_var (pv 12))) (d_cons (d_var (pv 11)) d_nil))))) d_nil)) d_noP (d_part (d_var (pv 7)))))
 (d_seq (d_set (i := 10) sc__law_rule.nd rfl (.inr rfl) (d_callB c_sorted (by rfl) T.z_sorted (by decide +kernel) (d_cons (d_lc (own := [("_law_tick", 12), ("_law_person", 11)]) (g := (gTup K 2 (gCons (gName 12) (gCons (gName 11) gNil)))) (st := (st2 12 11)) (lct2 (by decide)) (by rfl) sc__law_rule.nd (d_iseq (d_var (pv 9))) (blkOk_by (own := [("_law_tick", 12), ("_law_person", 11)]) (N := N__law_rule) (sc := defScope s__law_rule) (by decide +kernel)) (fun _ _ _ _ _ => (pg_tup rfl (pgs_cons (pg_name (i := 12) sc__law_rule.nd rfl (.inl rfl)) (pgs_cons (pg_name (i := 11) sc__law_rule.nd rfl (.inl rfl)) pgs_nil)))) (fun _ _ _ _ _ => d_tnil) (fun _ _ _ _ _ => (d_var (pv 11)))) d_nil)))
 (d_seq (d_expr (d_ml PySem.F.slot_list_append PySem.F.type_list_append m_append (d_var (pv 6)) (d_cons (d_callT c_tuple (by rfl) T.z_tuple (by decide +kernel) (d_cons (d_var (pv 10)) d_nil)) d_nil)))
 (d_last (d_setLc (i := 5) (own := [("_law_person", 11), ("_law_tick", 12)]) (g := (gTup K 2 (gCons (gName 11) (gCons (gName 12) gNil)))) (st := (st2 11 12)) (lct2 (by decide)) (by rfl) sc__law_rule.nd rfl rfl (sw_true rfl rfl rfl (by decide +kernel)) (d_enL (by rfl) T.z_enumerate (d_cons (d_var (pv 5)) d_nil)) (blkOk_by (own := [("_law_person", 11), ("_law_tick", 12)]) (N := N__law_rule) (sc := defScope s__law_rule) (by decide +kernel)) (fun _ _ _ _ _ => (pg_tup rfl (pgs_cons (pg_name (i := 11) sc__law_rule.nd rfl (.inl rfl)) (pgs_cons (pg_name (i := 12) sc__law_rule.nd rfl (.inl rfl)) pgs_nil)))) (fun _ _ _ _ _ => d_tnil) (fun _ _ _ _ _ => (d_bin o_add (d_var (pv 12)) (d_ifE (d_tcmp o_in (d_var (pv 11)) (d_var (pv 10)) (by rfl)) (d_var (pv 2)) (d_var (pv 1))))))))))))
 (d_last (d_ret (d_lst (d_cons (d_callT c_tuple (by rfl) T.z_tuple (by decide +kernel) (d_cons (d_var (pv 6)) d_nil)) (d_cons (d_var (pv 5)) d_nil))))))))
theorem G_law_after (T : Tx K mg w.params) : Rb.FnG P w K mg base CX0 1 T.f__law_after T.fd__law_after ["_law_state_here", "_law_edit_here"] (spF (ct0 K mg) F_law_after_2) := by
  unfold F_law_after_2
  exact
   d_fn T.F__law_after sc__law_after fun cdv A out s H E hg hr => (d_seq (d_asg (d_var (pv 0)) (d_gtup rfl (d_gcons (d_gtup rfl (d_gcons (d_gn (pg_name (i := 2) sc__law_after.nd rfl (.inl rfl))) (d_gcons (d_gn (pg_name (i := 3) sc__law_after.nd rfl (.inl rfl))) (d_gcons (d_gn (pg_name (i := 4) sc__law_after.nd rfl (.inl rfl))) d_gnil)))) (d_gcons (d_gn (pg_name (i := 5) sc__law_after.nd rfl (.inl rfl))) d_gnil))))
 (d_seq (d_if (d_tcmp (o_ieq hr.units) (d_ix (d_var (pv 1)) d_int (fun _ _ => rfl)) d_str (nomark _))
 (d_last (d_ret (d_tup (d_cons (d_ix (d_var (pv 0)) d_int (fun _ _ => rfl)) (d_cons (d_bin o_add (d_var (pv 5)) (d_tup (d_cons (d_ix (d_var (pv 1)) d_int (fun _ _ => rfl)) d_nil))) d_nil)))))
 d_end)
 (d_seq (d_if (d_tcmp (o_ieq hr.units) (d_ix (d_var (pv 1)) d_int (fun _ _ => rfl)) d_str (nomark _))
 (d_last (d_ret (d_tup (d_cons (d_ix (d_var (pv 0)) d_int (fun _ _ => rfl)) (d_cons (d_bin o_add (d_slice (d_var (pv 5)) d_noP (d_part (d_ix (d_var (pv 1)) d_int (fun _ _ => rfl)))) (d_slice (d_var (pv 5)) (d_part (d_bin o_add (d_ix (d_var (pv 1)) d_int (fun _ _ => rfl)) d_int)) d_noP)) d_nil)))))
 d_end)
 (d_seq (d_asg (d_var (pv 1)) (d_gtup rfl (d_gcons (d_gn (pg_name (i := 6) sc__law_after.nd rfl (.inl rfl))) (d_gcons (d_gn (pg_name (i := 7) sc__law_after.nd rfl (.inl rfl))) (d_gcons (d_gn (pg_name (i := 8) sc__law_after.nd rfl (.inl rfl))) d_gnil)))))
 (d_seq (d_set (i := 9) sc__law_after.nd rfl (.inl rfl) (d_bin o_add (d_ix (d_var (pv 4)) (d_var (pv 7)) (fun _ _ => rfl)) (d_ifE (d_tcmp (o_ieq hr.units) (d_var (pv 6)) d_str (nomark _)) (d_var (pv 8)) (d_bin o_sub d_int (d_var (pv 8))))))
 (d_last (d_ret (d_tup (d_cons (d_tup (d_cons (d_var (pv 2)) (d_cons (d_var (pv 3)) (d_cons (d_bin o_add (d_bin o_add (d_slice (d_var (pv 4)) d_noP (d_part (d_var (pv 7)))) (d_tup (d_cons (d_var (pv 9)) d_nil))) (d_slice (d_var (pv 4)) (d_part (d_bin o_add (d_var (pv 7)) d_int)) d_noP)) d_nil)))) (d_cons (d_var (pv 5)) d_nil))))))))))
theorem G_Shell_init (T : Tx K mg w.params) : Rb.FnG P w K mg base CX0 1 T.f_Shell___init__ T.fd_Shell___init__ ["self", "trip"] (spF (ct0 K mg) F_Shell_init) := by
  unfold F_Shell_init
  exact
   d_fn T.F_Shell___init__ sc_Shell___init__ fun cdv A out s H E hg hr => (d_last (d_stF (allS (clf T.cl_Shell T.gC_Shell T.na_Shell_trip) all0) (d_var (pv 0)) (d_var (pv 1))))
theorem MkF_Shell (T : Tx K mg w.params) : MkF P w K mg base CX0 1 T.C_Shell F_Shell_init := ⟨_, _, _, T.mk_Shell, G_Shell_init T, T.b_Shell___init__⟩
theorem G_Promise_latest (T : Tx K mg w.params) : Rb.FnG P w K mg base CX0 1 T.f_Promise_latest T.fd_Promise_latest ["self"] (spF (ct0 K mg) F_Promise_latest_2) := by
  unfold F_Promise_latest_2
  exact
   d_fn T.F_Promise_latest sc_Promise_latest fun cdv A out s H E hg hr => (d_last (d_ret (d_fld (allS (clf T.cl_Promise T.gC_Promise T.na_Promise_promised) (allS (clf T.cl_PromisedTrip T.gC_PromisedTrip T.na_PromisedTrip_promised) all0)) (d_var (pv 0)))))
theorem PF_PromisedTrip_latest (T : Tx K mg w.params) {lv : Nat} (h : 1 ≤ lv) : PF P w K mg base lv "latest" "PromisedTrip" F_Promise_latest_2 := pf_of T.gC_PromisedTrip T.cl_PromisedTrip T.pr_PromisedTrip_latest (FnG_mono (G_Promise_latest T) h) T.b_Promise_latest
theorem G_Trip_road (T : Tx K mg w.params) : Rb.FnG P w K mg base CX0 1 T.f_Trip_road T.fd_Trip_road ["self"] (spF (ct0 K mg) F_Trip_road_2) := by
  unfold F_Trip_road_2
  exact
   d_fn T.F_Trip_road sc_Trip_road fun cdv A out s H E hg hr => (d_last (d_ret (d_ix (d_ix (d_fld (allS (clf T.cl_Trip T.gC_Trip T.na_Trip_versions) (allS (clf T.cl_PromisedTrip T.gC_PromisedTrip T.na_PromisedTrip_versions) all0)) (d_var (pv 0))) (d_un u_neg d_int) (fun _ _ => rfl)) d_int (fun _ _ => rfl))))
theorem PF_PromisedTrip_road (T : Tx K mg w.params) {lv : Nat} (h : 1 ≤ lv) : PF P w K mg base lv "road" "PromisedTrip" F_Trip_road_2 := pf_of T.gC_PromisedTrip T.cl_PromisedTrip T.pr_PromisedTrip_road (FnG_mono (G_Trip_road T) h) T.b_Trip_road
theorem PF_Trip_road (T : Tx K mg w.params) {lv : Nat} (h : 1 ≤ lv) : PF P w K mg base lv "road" "Trip" F_Trip_road_2 := pf_of T.gC_Trip T.cl_Trip T.pr_Trip_road (FnG_mono (G_Trip_road T) h) T.b_Trip_road
theorem G_Trip_starts (T : Tx K mg w.params) : Rb.FnG P w K mg base CX0 1 T.f_Trip_starts T.fd_Trip_starts ["self"] (spF (ct0 K mg) F_Trip_starts_2) := by
  unfold F_Trip_starts_2
  exact
   d_fn T.F_Trip_starts sc_Trip_starts fun cdv A out s H E hg hr => (d_last (d_ret (d_ix (d_ix (d_fld (allS (clf T.cl_Trip T.gC_Trip T.na_Trip_versions) (allS (clf T.cl_PromisedTrip T.gC_PromisedTrip T.na_PromisedTrip_versions) all0)) (d_var (pv 0))) (d_un u_neg d_int) (fun _ _ => rfl)) d_int (fun _ _ => rfl))))
theorem PF_PromisedTrip_starts (T : Tx K mg w.params) {lv : Nat} (h : 1 ≤ lv) : PF P w K mg base lv "starts" "PromisedTrip" F_Trip_starts_2 := pf_of T.gC_PromisedTrip T.cl_PromisedTrip T.pr_PromisedTrip_starts (FnG_mono (G_Trip_starts T) h) T.b_Trip_starts
theorem PF_Trip_starts (T : Tx K mg w.params) {lv : Nat} (h : 1 ≤ lv) : PF P w K mg base lv "starts" "Trip" F_Trip_starts_2 := pf_of T.gC_Trip T.cl_Trip T.pr_Trip_starts (FnG_mono (G_Trip_starts T) h) T.b_Trip_starts
theorem G_Trip_finish (T : Tx K mg w.params) : Rb.FnG P w K mg base CX0 1 T.f_Trip_finish T.fd_Trip_finish ["self"] (spF (ct0 K mg) F_Trip_finish_2) := by
  unfold F_Trip_finish_2
  exact
   d_fn T.F_Trip_finish sc_Trip_finish fun cdv A out s H E hg hr => (d_last (d_ret (d_ix (d_ix (d_fld (allS (clf T.cl_Trip T.gC_Trip T.na_Trip_versions) (allS (clf T.cl_PromisedTrip T.gC_PromisedTrip T.na_PromisedTrip_versions) all0)) (d_var (pv 0))) (d_un u_neg d_int) (fun _ _ => rfl)) d_int (fun _ _ => rfl))))
theorem PF_PromisedTrip_finish (T : Tx K mg w.params) {lv : Nat} (h : 1 ≤ lv) : PF P w K mg base lv "finish" "PromisedTrip" F_Trip_finish_2 := pf_of T.gC_PromisedTrip T.cl_PromisedTrip T.pr_PromisedTrip_finish (FnG_mono (G_Trip_finish T) h) T.b_Trip_finish
theorem PF_Trip_finish (T : Tx K mg w.params) {lv : Nat} (h : 1 ≤ lv) : PF P w K mg base lv "finish" "Trip" F_Trip_finish_2 := pf_of T.gC_Trip T.cl_Trip T.pr_Trip_finish (FnG_mono (G_Trip_finish T) h) T.b_Trip_finish
theorem G_Trip_len (T : Tx K mg w.params) : Rb.FnG P w K mg base CX0 1 T.f_Trip___len__ T.fd_Trip___len__ ["self"] (spF (ct0 K mg) F_Trip_len) := by
  unfold F_Trip_len
  exact
   d_fn T.F_Trip___len__ sc_Trip___len__ fun cdv A out s H E hg hr => (d_last (d_ret (d_callB c_len (by rfl) T.z_len (by decide +kernel) (d_cons (d_fld (allS (clf T.cl_Trip T.gC_Trip T.na_Trip_done) (allS (clf T.cl_PromisedTrip T.gC_PromisedTrip T.na_PromisedTrip_done) all0)) (d_var (pv 0))) d_nil))))
theorem LnF_PromisedTrip (T : Tx K mg w.params) {lv : Nat} (h : 1 ≤ lv) : LnF P w K mg base lv "PromisedTrip" F_Trip_len := ln_of T.gC_PromisedTrip T.ln_PromisedTrip T.lnf_PromisedTrip (FnG_mono (G_Trip_len T) h) T.b_Trip___len__
theorem LnF_Trip (T : Tx K mg w.params) {lv : Nat} (h : 1 ≤ lv) : LnF P w K mg base lv "Trip" F_Trip_len := ln_of T.gC_Trip T.ln_Trip T.lnf_Trip (FnG_mono (G_Trip_len T) h) T.b_Trip___len__
theorem G_is_end (T : Tx K mg w.params) : Rb.FnG P w K mg base CX0 2 T.f_is_end T.fd_is_end ["value"] (spF (ct0 K mg) F_is_end) := by
  unfold F_is_end
  exact
   d_fn T.F_is_end sc_is_end fun cdv A out s H E hg hr => (d_last (d_ret (d_callW (G_is_number_from T) hg hr (by rfl) T.g_is_number_from T.F_is_number_from.kp T.b_is_number_from passG (d_cons (d_var (pv 0)) (d_cons d_int (d_cons (d_gint (by rfl) T.c_LIMIT) d_nil))))))
theorem G_is_starts (T : Tx K mg w.params) : Rb.FnG P w K mg base CX0 2 T.f_is_starts T.fd_is_starts ["value"] (spF (ct0 K mg) F_is_starts) := by
  unfold F_is_starts
  exact
   d_fn T.F_is_starts sc_is_starts fun cdv A out s H E hg hr => (d_seq (d_if (PW.pt (d_or (d_not (d_tval (d_isi (t := .tup) (by rfl) T.z_isinstance (d_var (pv 0)) (pe_bltn (by rfl) T.z_tuple (show bootBuiltins "tuple" = some (.type "tuple") by decide +kernel) (show RelV (V.ty "tuple") _ from rfl))))) (d_or1 (d_not (d_tchain o_le o_le d_int (d_callB c_len (by rfl) T.z_len (by decide +kernel) (d_cons (d_var (pv 0)) d_nil)) (d_gint (by rfl) T.c_MAX_PEOPLE))))))
 (d_last (d_ret d_bl))
 d_end)
 (d_seq (d_for PassesOwn.never rfl (d_iseq (d_var (pv 0))) (d_gn (pg_name (i := 1) sc_is_starts.nd rfl (.inl rfl)))
 (d_last (d_if (d_not (d_tval (d_callW (G_is_number_from T) hg hr (by rfl) T.g_is_number_from T.F_is_number_from.kp T.b_is_number_from passG (d_cons (d_var (pv 1)) (d_cons d_int (d_cons (d_gint (by rfl) T.c_MAX_START) d_nil))))))
 (d_last (d_ret d_bl))
 d_end)))
 (d_last (d_ret d_bl))))
theorem G_road_error (T : Tx K mg w.params) : Rb.FnG P w K mg base CX0 2 T.f_road_error T.fd_road_error ["value"] (spF (ct0 K mg) F_road_error_2) := by
  unfold F_road_error_2
  exact
   d_fn T.F_road_error sc_road_error fun cdv A out s H E hg hr => (d_seq (d_if (PW.pt (d_or (d_not (d_tval (d_isi (t := .tup) (by rfl) T.z_isinstance (d_var (pv 0)) (pe_bltn (by rfl) T.z_tuple (show bootBuiltins "tuple" = some (.type "tuple") by decide +kernel) (show RelV (V.ty "tuple") _ from rfl))))) (d_or1 (d_tcmp (o_ine hr.units) (d_callB c_len (by rfl) T.z_len (by decide +kernel) (d_cons (d_var (pv 0)) d_nil)) d_int (nomark _)))))
 (d_last (d_ret (d_tup (d_cons d_non (d_cons d_str d_nil)))))
 d_end)
 (d_seq (d_asg (d_var (pv 0)) (d_gtup rfl (d_gcons (d_gn (pg_name (i := 1) sc_road_error.nd rfl (.inl rfl))) (d_gcons (d_gn (pg_name (i := 2) sc_road_error.nd rfl (.inl rfl))) (d_gcons (d_gn (pg_name (i := 3) sc_road_error.nd rfl (.inl rfl))) d_gnil)))))
 (d_seq (d_if (PW.pt (d_or (d_not (d_tval (d_callW (G_is_number_from T) hg hr (by rfl) T.g_is_number_from T.F_is_number_from.kp T.b_is_number_from passG (d_cons (d_var (pv 1)) (d_cons d_int (d_cons (d_gint (by rfl) T.c_MAX_TICKS) d_nil)))))) (d_or1 (d_not (d_tval (d_callW (G_is_number_from T) hg hr (by rfl) T.g_is_number_from T.F_is_number_from.kp T.b_is_number_from passG (d_cons (d_var (pv 2)) (d_cons d_int (d_cons (d_bin o_sub (d_var (pv 1)) d_int) d_nil)))))))))
 (d_last (d_ret (d_tup (d_cons d_non (d_cons d_str d_nil)))))
 d_end)
 (d_seq (d_if (PW.pt (d_or (d_not (d_tval (d_isi (t := .tup) (by rfl) T.z_isinstance (d_var (pv 3)) (pe_bltn (by rfl) T.z_tuple (show bootBuiltins "tuple" = some (.type "tuple") by decide +kernel) (show RelV (V.ty "tuple") _ from rfl))))) (d_or1 (d_not (d_tchain o_le o_le d_int (d_callB c_len (by rfl) T.z_len (by decide +kernel) (d_cons (d_var (pv 3)) d_nil)) (d_gint (by rfl) T.c_MAX_STAGES))))))
 (d_last (d_ret (d_tup (d_cons d_non (d_cons d_str d_nil)))))
 d_end)
 (d_seq (d_for PassesOwn.never rfl (d_enT (by rfl) T.z_enumerate (d_cons (d_var (pv 3)) d_nil)) (d_gtup rfl (d_gcons (d_gn (pg_name (i := 4) sc_road_error.nd rfl (.inl rfl))) (d_gcons (d_gn (pg_name (i := 5) sc_road_error.nd rfl (.inl rfl))) d_gnil)))
 (d_last (d_if (d_not (d_tval (d_callW (G_is_number_from T) hg hr (by rfl) T.g_is_number_from T.F_is_number_from.kp T.b_is_number_from passG (d_cons (d_var (pv 5)) (d_cons d_int (d_cons (d_gint (by rfl) T.c_MAX_BIKES) d_nil))))))
 (d_last (d_ret (d_tup (d_cons (d_var (pv 4)) (d_cons d_str d_nil)))))
 d_end)))
 (d_last (d_ret d_non)))))))
theorem G_room_of (T : Tx K mg w.params) : Rb.FnG P w K mg base CX0 2 T.f_room_of T.fd_room_of ["road", "many"] (spF (ct0 K mg) F_room_of) := by
  unfold F_room_of
  exact
   d_fn T.F_room_of sc_room_of fun cdv A out s H E hg hr => (d_last (d_ret (d_callB (c_sum rfl) (by rfl) T.z_sum (by decide +kernel) (d_cons (d_lc (own := [("count", 2)]) (g := (gName 2)) (st := (st1 2)) lct1 (by rfl) sc_room_of.nd (d_iseq (d_callW (G_counts_of T) hg hr (by rfl) T.g_counts_of T.F_counts_of.kp T.b_counts_of passG (d_cons (d_var (pv 0)) d_nil))) (blkOk_by (own := [("count", 2)]) (N := N_room_of) (sc := defScope s_room_of) (by decide +kernel)) (fun _ _ _ _ _ => (pg_name (i := 2) sc_room_of.nd rfl (.inl rfl))) (fun _ _ _ _ _ => d_tnil) (fun _ _ _ _ _ => (d_callB (c_minL rfl) (by rfl) T.z_min (by decide +kernel) (d_cons (d_var (pv 2)) (d_cons (d_var (pv 1)) d_nil))))) d_nil))))
theorem G_ticks_of (T : Tx K mg w.params) : Rb.FnG P w K mg base CX0 2 T.f_ticks_of T.fd_ticks_of ["road", "starts", "plan"] (spF (ct0 K mg) F_ticks_of) := by
  unfold F_ticks_of
  exact
   d_fnC T.F_ticks_of sc_ticks_of fun cdv A out s H E hg hr => (d_seq (d_asg (d_var (pv 0)) (d_gtup rfl (d_gcons (d_gn (pg_name (i := 3) sc_ticks_of.nd rfl (.inr rfl))) (d_gcons (d_gn (pg_name (i := 4) sc_ticks_of.nd rfl (.inr rfl))) (d_gcons (d_gn (pg_name (i := 5) sc_ticks_of.nd rfl (.inl rfl))) d_gnil)))))
 (d_seq (d_set (i := 6) sc_ticks_of.nd rfl (.inl rfl) (d_lstC (d_cons (d_var (pv 1)) d_nil)))
 (d_seq (d_set (i := 7) sc_ticks_of.nd rfl (.inl rfl) (d_tup d_nil))
 (d_seq (d_for PassesOwn.never rfl (d_zip (by rfl) T.z_zip (d_cons (d_var (pv 2)) (d_cons (d_var (pv 5)) d_nil))) (d_gtup rfl (d_gcons (d_gn (pg_name (i := 8) sc_ticks_of.nd rfl (.inr rfl))) (d_gcons (d_gn (pg_name (i := 9) sc_ticks_of.nd rfl (.inl rfl))) d_gnil)))
 (d_seq (d_set (i := 10) sc_ticks_of.nd rfl (.inl rfl) (d_ix (d_var (pv 6)) (d_un u_neg d_int) (fun _ _ => rfl)))
 (d_seq (d_set (i := 11) sc_ticks_of.nd rfl (.inl rfl) (d_call 0 (G_leaving_ticks T) hg hr (by rfl) T.g_leaving_ticks T.F_leaving_ticks.kp T.b_leaving_ticks passG (d_cons (d_var (pv 10)) (d_cons (d_var (pv 8)) (d_cons (d_callW (G_bike_ticks T) hg hr (by rfl) T.g_bike_ticks T.F_bike_ticks.kp T.b_bike_ticks passG (d_cons (d_var (pv 10)) (d_cons (d_var (pv 7)) (d_cons (d_var (pv 9)) d_nil)))) d_nil)))))
 (d_seq (d_expr (d_ml PySem.F.slot_list_append PySem.F.type_list_append m_append (d_var (pv 6)) (d_cons (d_callT c_tuple (by rfl) T.z_tuple (by decide +kernel) (d_cons (d_lc (own := [("person", 12), ("tick", 13)]) (g := (gTup K 2 (gCons (gName 12) (gCons (gName 13) gNil)))) (st := (st2 12 13)) (lct2 (by decide)) (by rfl) sc_ticks_of.nd (d_enL (by rfl) T.z_enumerate (d_cons (d_var (pv 11)) d_nil)) (blkOk_by (own := [("person", 12), ("tick", 13)]) (N := N_ticks_of) (sc := defScope s_ticks_of) (by decide +kernel)) (fun _ _ _ _ _ => (pg_tup rfl (pgs_cons (pg_name (i := 12) sc_ticks_of.nd rfl (.inl rfl)) (pgs_cons (pg_name (i := 13) sc_ticks_of.nd rfl (.inl rfl)) pgs_nil)))) (fun _ _ _ _ _ => d_tnil) (fun _ _ _ _ _ => (d_bin o_add (d_var (pv 13)) (d_ifE (d_tcmp o_in (d_var (pv 12)) (d_var (pv 8)) (by rfl)) (d_var (pv 4)) (d_var (pv 3)))))) d_nil)) d_nil)))
 (d_last (d_set (i := 7) sc_ticks_of.nd rfl (.inl rfl) (d_var (pv 8))))))))
 (d_last (d_ret (d_callT c_tuple (by rfl) T.z_tuple (by decide +kernel) (d_cons (d_var (pv 6)) d_nil))))))))
theorem G_rule_plan (T : Tx K mg w.params) : Rb.FnG P w K mg base CX0 2 T.f_rule_plan T.fd_rule_plan ["road", "starts"] (spF (ct0 K mg) F_rule_plan) := by
  unfold F_rule_plan
  exact
   d_fnC T.F_rule_plan sc_rule_plan fun cdv A out s H E hg hr => (d_seq (d_asg (d_slice (d_var (pv 0)) d_noP (d_part d_int)) (d_gtup rfl (d_gcons (d_gn (pg_name (i := 2) sc_rule_plan.nd rfl (.inr rfl))) (d_gcons (d_gn (pg_name (i := 3) sc_rule_plan.nd rfl (.inr rfl))) d_gnil))))
 (d_seq (d_set (i := 4) sc_rule_plan.nd rfl (.inl rfl) (d_var (pv 1)))
 (d_seq (d_set (i := 5) sc_rule_plan.nd rfl (.inl rfl) (d_lstC d_nil))
 (d_seq (d_for PassesOwn.never rfl (d_iseq (d_callW (G_counts_of T) hg hr (by rfl) T.g_counts_of T.F_counts_of.kp T.b_counts_of passG (d_cons (d_var (pv 0)) d_nil))) (d_gn (pg_name (i := 6) sc_rule_plan.nd rfl (.inl rfl)))
 (d_seq (d_set (i := 7) sc_rule_plan.nd rfl (.inr rfl) (d_callW (G_greatest T) hg hr (by rfl) T.g_greatest T.F_greatest.kp T.b_greatest passG (d_cons (d_var (pv 4)) (d_cons (d_var (pv 6)) d_nil))))
 (d_seq (d_setLc (i := 4) (own := [("person", 8), ("tick", 9)]) (g := (gTup K 2 (gCons (gName 8) (gCons (gName 9) gNil)))) (st := (st2 8 9)) (lct2 (by decide)) (by rfl) sc_rule_plan.nd rfl rfl (sw_true rfl rfl rfl (by decide +kernel)) (d_en (by rfl) T.z_enumerate (d_cons (d_var (pv 4)) d_nil)) (blkOk_by (own := [("person", 8), ("tick", 9)]) (N := N_rule_plan) (sc := defScope s_rule_plan) (by decide +kernel)) (fun _ _ _ _ _ => (pg_tup rfl (pgs_cons (pg_name (i := 8) sc_rule_plan.nd rfl (.inl rfl)) (pgs_cons (pg_name (i := 9) sc_rule_plan.nd rfl (.inl rfl)) pgs_nil)))) (fun _ _ _ _ _ => d_tnil) (fun _ _ _ _ _ => (d_bin o_add (d_var (pv 9)) (d_ifE (d_tcmp o_in (d_var (pv 8)) (d_var (pv 7)) (by rfl)) (d_var (pv 3)) (d_var (pv 2))))))
 (d_last (d_expr (d_ml PySem.F.slot_list_append PySem.F.type_list_append m_append (d_var (pv 5)) (d_cons (d_var (pv 7)) d_nil)))))))
 (d_last (d_ret (d_callT c_tuple (by rfl) T.z_tuple (by decide +kernel) (d_cons (d_var (pv 5)) d_nil))))))))
theorem G_trip_text (T : Tx K mg w.params) : Rb.FnG P w K mg base CX0 2 T.f_trip_text T.fd_trip_text ["road", "starts"] (spF (ct0 K mg) F_trip_text) := by
  unfold F_trip_text
  exact
   d_fn T.F_trip_text sc_trip_text fun cdv A out s H E hg hr => (d_seq (d_asg (d_var (pv 0)) (d_gtup rfl (d_gcons (d_gn (pg_name (i := 2) sc_trip_text.nd rfl (.inl rfl))) (d_gcons (d_gn (pg_name (i := 3) sc_trip_text.nd rfl (.inl rfl))) (d_gcons (d_gn (pg_name (i := 4) sc_trip_text.nd rfl (.inl rfl))) d_gnil)))))
 (d_last (d_ret (d_fstr (PJd.cons (d_fmt (d_var (pv 2))) (PJd.cons d_str (PJd.cons (d_fmt (d_var (pv 3))) (PJd.cons d_str (PJd.cons (d_fmt (d_callW (G_listed T) hg hr (by rfl) T.g_listed T.F_listed.kp T.b_listed passG (d_cons (d_var (pv 4)) d_nil))) (PJd.cons d_str (PJd.cons (d_fmt (d_callW (G_listed T) hg hr (by rfl) T.g_listed T.F_listed.kp T.b_listed passG (d_cons (d_var (pv 1)) d_nil))) PJd.nil)))))))))))
theorem G_command_in (T : Tx K mg w.params) : Rb.FnG P w K mg base CX0 2 T.f_command_in T.fd_command_in ["line"] (spF (ct0 K mg) F_command_in) := by
  unfold F_command_in
  exact
   d_fn T.F_command_in sc_command_in fun cdv A out s H E hg hr => (d_seq (d_if (d_not (d_tval (d_isi (t := .str) (by rfl) T.z_isinstance (d_var (pv 0)) (pe_bltn (by rfl) T.z_str (show bootBuiltins "str" = some (.type "str") by decide +kernel) (show RelV (V.ty "str") _ from rfl)))))
 (d_last (d_ret d_non))
 d_end)
 (d_seq (d_set (i := 1) sc_command_in.nd rfl (.inl rfl) (d_split (d_var (pv 0)) d_str))
 (d_seq (d_setLc (i := 2) (own := [("word", 3)]) (g := (gName 3)) (st := (st1 3)) lct1 (by rfl) sc_command_in.nd rfl rfl (sw_true rfl rfl rfl (by decide +kernel)) (d_iseq (d_slice (d_var (pv 1)) (d_part d_int) d_noP)) (blkOk_by (own := [("word", 3)]) (N := N_command_in) (sc := defScope s_command_in) (by decide +kernel)) (fun _ _ _ _ _ => (pg_name (i := 3) sc_command_in.nd rfl (.inl rfl))) (fun _ _ _ _ _ => d_tnil) (fun _ _ _ _ _ => (d_callW (G_number_in T) hg hr (by rfl) T.g_number_in T.F_number_in.kp T.b_number_in passG (d_cons (d_var (pv 3)) (d_cons d_int (d_cons (d_gint (by rfl) T.c_MOST) d_nil))))))
 (d_last (d_ret (d_ifE (d_tcmp o_inN d_non (d_var (pv 2)) (by rfl)) d_non (d_tup (d_cons (d_ix (d_var (pv 1)) d_int (fun _ _ => rfl)) (d_star (d_var (pv 2)) d_nil)))))))))
theorem G_riders_text (T : Tx K mg w.params) : Rb.FnG P w K mg base CX0 2 T.f_riders_text T.fd_riders_text ["plan"] (spF (ct0 K mg) F_riders_text_2) := by
  unfold F_riders_text_2
  exact
   d_fn T.F_riders_text sc_riders_text fun cdv A out s H E hg hr => (d_last (d_ret (d_join d_str (d_lc (own := [("riders", 1)]) (g := (gName 1)) (st := (st1 1)) lct1 (by rfl) sc_riders_text.nd (d_iseq (d_var (pv 0))) (blkOk_by (own := [("riders", 1)]) (N := N_riders_text) (sc := defScope s_riders_text) (by decide +kernel)) (fun _ _ _ _ _ => (pg_name (i := 1) sc_riders_text.nd rfl (.inl rfl))) (fun _ _ _ _ _ => d_tnil) (fun _ _ _ _ _ => (d_ifE (d_tvalU (d_var (pv 1))) (d_callW (G_listed T) hg hr (by rfl) T.g_listed T.F_listed.kp T.b_listed passG (d_cons (d_var (pv 1)) d_nil)) d_str))))))
theorem G_law_state (T : Tx K mg w.params) : Rb.FnG P w K mg base CX0 2 T.f__law_state T.fd__law_state ["_law_deck_here", "_law_stages", "_law_people"] (spF (ct0 K mg) F_law_state) := by
  unfold F_law_state
  exact
   d_fnC T.F__law_state sc__law_state fun cdv A out s H E hg hr => (d_seq (d_set (i := 3) sc__law_state.nd rfl (.inl rfl) (d_cmp (o_ieq hr.units) (d_callW (G_law_draw T) hg hr (by rfl) T.g__law_draw T.F__law_draw.kp T.b__law_draw passG (d_cons (d_var (pv 0)) (d_cons d_int d_nil))) d_int (nomark _)))
 (d_seq (d_set (i := 4) sc__law_state.nd rfl (.inl rfl) (d_bin o_add d_int (d_callW (G_law_draw T) hg hr (by rfl) T.g__law_draw T.F__law_draw.kp T.b__law_draw passG (d_cons (d_var (pv 0)) (d_cons (d_ix (d_lst (d_cons d_int (d_cons d_int d_nil))) (d_callT c_int (by rfl) T.z_int (by decide +kernel) (d_cons (d_var (pv 3)) d_nil)) (fun _ _ => rfl)) d_nil)))))
 (d_seq (d_par3 (i := 5) (j := 6) (l := 7) (by rfl) sc__law_state.nd rfl rfl rfl (by decide) (by decide) (by decide) rfl rfl rfl (d_cons (d_bin o_add d_int (d_callW (G_law_draw T) hg hr (by rfl) T.g__law_draw T.F__law_draw.kp T.b__law_draw passG (d_cons (d_var (pv 0)) (d_cons (d_bin o_sub (d_var (pv 4)) d_int) d_nil)))) (d_cons (d_lstC d_nil) (d_cons (d_lstC d_nil) d_nil))) (by rfl))
 (d_seq (d_for PassesOwn.never rfl (d_rng1 (by rfl) T.z_range (d_cons (d_bin o_add d_int (d_callW (G_law_draw T) hg hr (by rfl) T.g__law_draw T.F__law_draw.kp T.b__law_draw passG (d_cons (d_var (pv 0)) (d_cons (d_var (pv 1)) d_nil)))) d_nil)) (d_gn (pg_name (i := 8) sc__law_state.nd rfl (.inl rfl)))
 (d_last (d_expr (d_ml PySem.F.slot_list_append PySem.F.type_list_append m_append (d_var (pv 6)) (d_cons (d_ix (d_lst (d_cons d_int (d_cons (d_callW (G_law_draw T) hg hr (by rfl) T.g__law_draw T.F__law_draw.kp T.b__law_draw passG (d_cons (d_var (pv 0)) (d_cons d_int d_nil))) (d_cons (d_callW (G_law_draw T) hg hr (by rfl) T.g__law_draw T.F__law_draw.kp T.b__law_draw passG (d_cons (d_var (pv 0)) (d_cons d_int d_nil))) (d_cons (d_callW (G_law_draw T) hg hr (by rfl) T.g__law_draw T.F__law_draw.kp T.b__law_draw passG (d_cons (d_var (pv 0)) (d_cons d_int d_nil))) d_nil))))) (d_callW (G_law_draw T) hg hr (by rfl) T.g__law_draw T.F__law_draw.kp T.b__law_draw passG (d_cons (d_var (pv 0)) (d_cons d_int d_nil))) (fun _ _ => rfl)) d_nil)))))
 (d_seq (d_for PassesOwn.never rfl (d_rng1 (by rfl) T.z_range (d_cons (d_bin o_add d_int (d_callW (G_law_draw T) hg hr (by rfl) T.g__law_draw T.F__law_draw.kp T.b__law_draw passG (d_cons (d_var (pv 0)) (d_cons (d_var (pv 2)) d_nil)))) d_nil)) (d_gn (pg_name (i := 9) sc__law_state.nd rfl (.inl rfl)))
 (d_last (d_expr (d_ml PySem.F.slot_list_append PySem.F.type_list_append m_append (d_var (pv 7)) (d_cons (d_callW (G_law_draw T) hg hr (by rfl) T.g__law_draw T.F__law_draw.kp T.b__law_draw passG (d_cons (d_var (pv 0)) (d_cons (d_ix (d_lst (d_cons d_int (d_cons (d_bin o_add (d_bin o_pow d_int d_int) d_int) d_nil))) (d_callT c_int (by rfl) T.z_int (by decide +kernel) (d_cons (d_andV (d_var (pv 3)) (d_one (d_cmp (o_ieq hr.units) (d_callW (G_law_draw T) hg hr (by rfl) T.g__law_draw T.F__law_draw.kp T.b__law_draw passG (d_cons (d_var (pv 0)) (d_cons d_int d_nil))) d_int (nomark _)))) d_nil)) (fun _ _ => rfl)) d_nil))) d_nil)))))
 (d_last (d_ret (d_tup (d_cons (d_tup (d_cons (d_var (pv 4)) (d_cons (d_var (pv 5)) (d_cons (d_callT c_tuple (by rfl) T.z_tuple (by decide +kernel) (d_cons (d_var (pv 6)) d_nil)) d_nil)))) (d_cons (d_callT c_tuple (by rfl) T.z_tuple (by decide +kernel) (d_cons (d_var (pv 7)) d_nil)) d_nil))))))))))
theorem G_law_trip_text (T : Tx K mg w.params) : Rb.FnG P w K mg base CX0 2 T.f__law_trip_text T.fd__law_trip_text ["_law_state_here"] (spF (ct0 K mg) F_law_trip_text) := by
  unfold F_law_trip_text
  exact
   d_fn T.F__law_trip_text sc__law_trip_text fun cdv A out s H E hg hr => (d_seq (d_asg (d_var (pv 0)) (d_gtup rfl (d_gcons (d_gtup rfl (d_gcons (d_gn (pg_name (i := 1) sc__law_trip_text.nd rfl (.inl rfl))) (d_gcons (d_gn (pg_name (i := 2) sc__law_trip_text.nd rfl (.inl rfl))) (d_gcons (d_gn (pg_name (i := 3) sc__law_trip_text.nd rfl (.inl rfl))) d_gnil)))) (d_gcons (d_gn (pg_name (i := 4) sc__law_trip_text.nd rfl (.inl rfl))) d_gnil))))
 (d_seq (d_set (i := 5) sc__law_trip_text.nd rfl (.inl rfl) (d_lst (d_cons (d_bin o_add (d_bin o_add (d_callT c_str (by rfl) T.z_str (by decide +kernel) (d_cons (d_var (pv 1)) d_nil)) d_str) (d_callT c_str (by rfl) T.z_str (by decide +kernel) (d_cons (d_var (pv 2)) d_nil))) (d_cons (d_callW (G_law_numbers_text T) hg hr (by rfl) T.g__law_numbers_text T.F__law_numbers_text.kp T.b__law_numbers_text passG (d_cons (d_var (pv 3)) d_nil)) (d_cons d_str (d_cons (d_callW (G_law_numbers_text T) hg hr (by rfl) T.g__law_numbers_text T.F__law_numbers_text.kp T.b__law_numbers_text passG (d_cons (d_var (pv 4)) d_nil)) d_nil))))))
 (d_last (d_ret (d_join d_str (d_var (pv 5)))))))
theorem G_law_edit (T : Tx K mg w.params) : Rb.FnG P w K mg base CX0 2 T.f__law_edit T.fd__law_edit ["_law_deck_here", "_law_state_here"] (spF (ct0 K mg) F_law_edit_2) := by
  unfold F_law_edit_2
  exact
   d_fn T.F__law_edit sc__law_edit fun cdv A out s H E hg hr => (d_seq (d_asg (d_var (pv 1)) (d_gtup rfl (d_gcons (d_gtup rfl (d_gcons (d_gn (pg_name (i := 2) sc__law_edit.nd rfl (.inl rfl))) (d_gcons (d_gn (pg_name (i := 3) sc__law_edit.nd rfl (.inl rfl))) (d_gcons (d_gn (pg_name (i := 4) sc__law_edit.nd rfl (.inl rfl))) d_gnil)))) (d_gcons (d_gn (pg_name (i := 5) sc__law_edit.nd rfl (.inl rfl))) d_gnil))))
 (d_seq (d_par (i := 6) (j := 7) (by rfl) sc__law_edit.nd rfl rfl (by decide) rfl rfl (d_cons (d_callW (G_law_draw T) hg hr (by rfl) T.g__law_draw T.F__law_draw.kp T.b__law_draw passG (d_cons (d_var (pv 0)) (d_cons d_int d_nil))) (d_cons (d_callW (G_law_draw T) hg hr (by rfl) T.g__law_draw T.F__law_draw.kp T.b__law_draw passG (d_cons (d_var (pv 0)) (d_cons (d_callB c_len (by rfl) T.z_len (by decide +kernel) (d_cons (d_var (pv 4)) d_nil)) d_nil))) d_nil)) (by rfl))
 (d_seq (d_if (PW.pt (d_and (d_tcmp (o_ieq hr.units) (d_var (pv 6)) d_int (nomark _)) (d_and1 (d_tcmp o_gt (d_callB c_len (by rfl) T.z_len (by decide +kernel) (d_cons (d_var (pv 5)) d_nil)) d_int (nomark _)))))
 (d_last (d_ret (d_tup (d_cons d_str (d_cons (d_callW (G_law_draw T) hg hr (by rfl) T.g__law_draw T.F__law_draw.kp T.b__law_draw passG (d_cons (d_var (pv 0)) (d_cons (d_callB c_len (by rfl) T.z_len (by decide +kernel) (d_cons (d_var (pv 5)) d_nil)) d_nil))) d_nil)))))
 d_end)
 (d_seq (d_if (PW.pt (d_and (d_tcmp (o_ieq hr.units) (d_var (pv 6)) d_int (nomark _)) (d_and1 (d_tcmp o_gt (d_ix (d_var (pv 4)) (d_var (pv 7)) (fun _ _ => rfl)) d_int (nomark _)))))
 (d_last (d_ret (d_tup (d_cons d_str (d_cons (d_var (pv 7)) (d_cons (d_bin o_add d_int (d_callW (G_law_draw T) hg hr (by rfl) T.g__law_draw T.F__law_draw.kp T.b__law_draw passG (d_cons (d_var (pv 0)) (d_cons (d_ix (d_var (pv 4)) (d_var (pv 7)) (fun _ _ => rfl)) d_nil)))) d_nil))))))
 d_end)
 (d_seq (d_if (PW.pt (d_and (d_tcmp o_lt (d_var (pv 6)) d_int (nomark _)) (d_and1 (d_tcmp o_lt (d_ix (d_var (pv 4)) (d_var (pv 7)) (fun _ _ => rfl)) d_int (nomark _)))))
 (d_last (d_ret (d_tup (d_cons d_str (d_cons (d_var (pv 7)) (d_cons (d_bin o_add d_int (d_callW (G_law_draw T) hg hr (by rfl) T.g__law_draw T.F__law_draw.kp T.b__law_draw passG (d_cons (d_var (pv 0)) (d_cons (d_callB (c_minL rfl) (by rfl) T.z_min (by decide +kernel) (d_cons d_int (d_cons (d_bin o_sub d_int (d_ix (d_var (pv 4)) (d_var (pv 7)) (fun _ _ => rfl))) d_nil))) d_nil)))) d_nil))))))
 d_end)
 (d_seq (d_if (d_tcmp (o_ieq hr.units) (d_callB c_len (by rfl) T.z_len (by decide +kernel) (d_cons (d_var (pv 5)) d_nil)) d_int (nomark _))
 (d_last (d_ret (d_tup (d_cons d_str (d_cons d_int d_nil)))))
 d_end)
 (d_last (d_ret (d_tup (d_cons d_str (d_cons (d_callW (G_law_draw T) hg hr (by rfl) T.g__law_draw T.F__law_draw.kp T.b__law_draw passG (d_cons (d_var (pv 0)) (d_cons (d_ix (d_lst (d_cons d_int (d_cons (d_bin o_add (d_bin o_pow d_int d_int) d_int) d_nil))) (d_callW (G_law_draw T) hg hr (by rfl) T.g__law_draw T.F__law_draw.kp T.b__law_draw passG (d_cons (d_var (pv 0)) (d_cons d_int d_nil))) (fun _ _ => rfl)) d_nil))) d_nil)))))))))))
theorem G_with_person (T : Tx K mg w.params) : Rb.FnG P w K mg base (L2.CX P w) 3 T.f_with_person T.fd_with_person ["starts", "start"] (spF (ct0 K mg) F_with_person) := by
  unfold F_with_person
  exact
   d_fnX T.F_with_person sc_with_person fun cdv A out s H E hg hr => (d_seq (d_if (d_not (d_tval (d_callW (G_is_number_from T) hg (hr.mono (by decide)) (by rfl) T.g_is_number_from T.F_is_number_from.kp T.b_is_number_from passG (d_cons (d_var (pv 1)) (d_cons d_int (d_cons (d_gint (by rfl) T.c_MAX_START) d_nil))))))
 (d_last (d_raiseE rfl (takes_of rfl rfl rfl rfl) PySem.F.excBase_ValueError T.L_BadStart T.iC_BadStart T.tI_BadStart (Gi_BadStart T) hr T.bI_BadStart (by rfl) T.gC_BadStart (d_var (pv 1))))
 d_end)
 (d_seq (d_if (d_tcmp o_ge (d_callB c_len (by rfl) T.z_len (by decide +kernel) (d_cons (d_var (pv 0)) d_nil)) (d_gint (by rfl) T.c_MAX_PEOPLE) (nomark _))
 (d_last (d_raiseE0 rfl (takes_of rfl rfl rfl rfl) PySem.F.excBase_ValueError T.q_TooManyPeople T.kp_TooManyPeople T.bx_TooManyPeople T.ty_TooManyPeople (by rfl) T.gC_TooManyPeople))
 d_end)
 (d_last (d_ret (d_bin o_add (d_var (pv 0)) (d_tup (d_cons (d_var (pv 1)) d_nil)))))))
theorem G_without_person (T : Tx K mg w.params) : Rb.FnG P w K mg base (L2.CX P w) 3 T.f_without_person T.fd_without_person ["starts", "person"] (spF (ct0 K mg) F_without_person) := by
  unfold F_without_person
  exact
   d_fnX T.F_without_person sc_without_person fun cdv A out s H E hg hr => (d_seq (d_if (d_not (d_tval (d_callW (G_is_number_from T) hg (hr.mono (by decide)) (by rfl) T.g_is_number_from T.F_is_number_from.kp T.b_is_number_from passG (d_cons (d_var (pv 1)) (d_cons d_int (d_cons (d_bin o_sub (d_callB c_len (by rfl) T.z_len (by decide +kernel) (d_cons (d_var (pv 0)) d_nil)) d_int) d_nil))))))
 (d_last (d_raiseE rfl (takes_of rfl rfl rfl rfl) PySem.F.excBase_LookupError T.L_NoPerson T.iC_NoPerson T.tI_NoPerson (Gi_NoPerson T) hr T.bI_NoPerson (by rfl) T.gC_NoPerson (d_var (pv 1))))
 d_end)
 (d_seq (d_if (d_tcmp (o_ieq hr.units) (d_callB c_len (by rfl) T.z_len (by decide +kernel) (d_cons (d_var (pv 0)) d_nil)) d_int (nomark _))
 (d_last (d_raiseE0 rfl (takes_of rfl rfl rfl rfl) PySem.F.excBase_ValueError T.q_LastPerson T.kp_LastPerson T.bx_LastPerson T.ty_LastPerson (by rfl) T.gC_LastPerson))
 d_end)
 (d_last (d_ret (d_bin o_add (d_slice (d_var (pv 0)) d_noP (d_part (d_var (pv 1)))) (d_slice (d_var (pv 0)) (d_part (d_bin o_add (d_var (pv 1)) d_int)) d_noP))))))
theorem G_check_bikes (T : Tx K mg w.params) : Rb.FnG P w K mg base (L2.CX P w) 3 T.f_check_bikes T.fd_check_bikes ["road", "station", "count"] (spF (ct0 K mg) F_check_bikes) := by
  unfold F_check_bikes
  exact
   d_fnX T.F_check_bikes sc_check_bikes fun cdv A out s H E hg hr => (d_seq (d_if (d_not (d_tval (d_callW (G_is_number_from T) hg (hr.mono (by decide)) (by rfl) T.g_is_number_from T.F_is_number_from.kp T.b_is_number_from passG (d_cons (d_var (pv 1)) (d_cons d_int (d_cons (d_bin o_sub (d_callB c_len (by rfl) T.z_len (by decide +kernel) (d_cons (d_ix (d_var (pv 0)) d_int (fun _ _ => rfl)) d_nil)) d_int) d_nil))))))
 (d_last (d_raiseE rfl (takes_of rfl rfl rfl rfl) PySem.F.excBase_LookupError T.L_NoStation T.iC_NoStation T.tI_NoStation (Gi_NoStation T) hr T.bI_NoStation (by rfl) T.gC_NoStation (d_var (pv 1))))
 d_end)
 (d_last (d_if (d_not (d_tval (d_callW (G_is_number_from T) hg (hr.mono (by decide)) (by rfl) T.g_is_number_from T.F_is_number_from.kp T.b_is_number_from passG (d_cons (d_var (pv 2)) (d_cons d_int (d_cons (d_gint (by rfl) T.c_MAX_BIKES) d_nil))))))
 (d_last (d_raiseE rfl (takes_of rfl rfl rfl rfl) PySem.F.excBase_ValueError T.L_BadCount T.iC_BadCount T.tI_BadCount (Gi_BadCount T) hr T.bI_BadCount (by rfl) T.gC_BadCount (d_var (pv 2))))
 d_end)))
theorem G_finish_of (T : Tx K mg w.params) : Rb.FnG P w K mg base CX0 3 T.f_finish_of T.fd_finish_of ["road", "starts", "plan"] (spF (ct0 K mg) F_finish_of) := by
  unfold F_finish_of
  exact
   d_fn T.F_finish_of sc_finish_of fun cdv A out s H E hg hr => (d_last (d_ret (d_callB (c_max rfl hr.units) (by rfl) T.z_max (by decide +kernel) (d_cons (d_ix (d_call 0 (G_ticks_of T) hg hr (by rfl) T.g_ticks_of T.F_ticks_of.kp T.b_ticks_of passG (d_cons (d_var (pv 0)) (d_cons (d_var (pv 1)) (d_cons (d_var (pv 2)) d_nil)))) (d_un u_neg d_int) (fun _ _ => rfl)) d_nil))))
theorem G_exclude (T : Tx K mg w.params) : Rb.FnG P w K mg base CX0 3 T.f_exclude T.fd_exclude ["road", "needs", "people"] (spF (ct0 K mg) F_exclude) := by
  unfold F_exclude
  exact
   d_fn T.F_exclude sc_exclude fun cdv A out s H E hg hr => (d_last (d_ret (d_cmp o_gt (d_callB (c_sum rfl) (by rfl) T.z_sum (by decide +kernel) (d_cons (d_lc (own := [("person", 3)]) (g := (gName 3)) (st := (st1 3)) lct1 (by rfl) sc_exclude.nd (d_iseq (d_var (pv 2))) (blkOk_by (own := [("person", 3)]) (N := N_exclude) (sc := defScope s_exclude) (by decide +kernel)) (fun _ _ _ _ _ => (pg_name (i := 3) sc_exclude.nd rfl (.inl rfl))) (fun _ _ _ _ _ => d_tnil) (fun _ _ _ _ _ => (d_ix (d_var (pv 1)) (d_var (pv 3)) (fun _ _ => rfl)))) d_nil)) (d_callW (G_room_of T) hg hr (by rfl) T.g_room_of T.F_room_of.kp T.b_room_of passG (d_cons (d_var (pv 0)) (d_cons (d_callB c_len (by rfl) T.z_len (by decide +kernel) (d_cons (d_var (pv 2)) d_nil)) d_nil))) (nomark _))))
theorem G_law_answers (T : Tx K mg w.params) : Rb.FnG P w K mg base CX0 3 T.f__law_answers T.fd__law_answers ["_law_state_here"] (spF (ct0 K mg) F_law_answers) := by
  unfold F_law_answers
  exact
   d_fn T.F__law_answers sc__law_answers fun cdv A out s H E hg hr => (d_seq (d_asg (d_call 0 (G_law_rule T) hg (hr.mono (by decide)) (by rfl) T.g__law_rule T.F__law_rule.kp T.b__law_rule passG (d_cons (d_var (pv 0)) d_nil)) (d_gunl rfl (d_gcons (d_gn (pg_name (i := 1) sc__law_answers.nd rfl (.inl rfl))) (d_gcons (d_gn (pg_name (i := 2) sc__law_answers.nd rfl (.inl rfl))) d_gnil))))
 (d_seq (d_setLc (i := 3) (own := [("_law_some", 4)]) (g := (gName 4)) (st := (st1 4)) lct1 (by rfl) sc__law_answers.nd rfl rfl (sw_true rfl rfl rfl (by decide +kernel)) (d_iseq (d_var (pv 1))) (blkOk_by (own := [("_law_some", 4)]) (N := N__law_answers) (sc := defScope s__law_answers) (by decide +kernel)) (fun _ _ _ _ _ => (pg_name (i := 4) sc__law_answers.nd rfl (.inl rfl))) (fun _ _ _ _ _ => d_tnil) (fun _ _ _ _ _ => (d_ifE (d_tcmp (o_ine hr.units) (d_var (pv 4)) (d_tup d_nil) (nomark _)) (d_callW (G_law_numbers_text T) hg (hr.mono (by decide)) (by rfl) T.g__law_numbers_text T.F__law_numbers_text.kp T.b__law_numbers_text passG (d_cons (d_var (pv 4)) d_nil)) d_str)))
 (d_last (d_ret (d_lst (d_cons (d_callW (G_law_trip_text T) hg hr (by rfl) T.g__law_trip_text T.F__law_trip_text.kp T.b__law_trip_text passG (d_cons (d_var (pv 0)) d_nil)) (d_cons (d_callT c_str (by rfl) T.z_str (by decide +kernel) (d_cons (d_callB (c_max rfl hr.units) (by rfl) T.z_max (by decide +kernel) (d_cons (d_var (pv 2)) d_nil)) d_nil)) (d_cons (d_join d_str (d_var (pv 3))) d_nil))))))))
theorem G_Promise_init (T : Tx K mg w.params) : Rb.FnG P w K mg base (L2.CX P w) 3 T.f_Promise___init__ T.fd_Promise___init__ ["self", "latest"] (spF (ct0 K mg) F_Promise_init_2) := by
  unfold F_Promise_init_2
  exact
   d_fnX T.F_Promise___init__ sc_Promise___init__ fun cdv A out s H E hg hr => (d_seq (d_if (d_not (d_tval (d_callW (G_is_end T) hg hr (by rfl) T.g_is_end T.F_is_end.kp T.b_is_end passG (d_cons (d_var (pv 1)) d_nil))))
 (d_last (d_raiseE rfl (takes_of rfl rfl rfl rfl) PySem.F.excBase_ValueError T.L_BadEnd T.iC_BadEnd T.tI_BadEnd (Gi_BadEnd T) hr T.bI_BadEnd (by rfl) T.gC_BadEnd (d_var (pv 1))))
 d_end)
 (d_last (d_stF (allS (clf T.cl_Promise T.gC_Promise T.na_Promise_promised) (allS (clf T.cl_PromisedTrip T.gC_PromisedTrip T.na_PromisedTrip_promised) all0)) (d_var (pv 0)) (d_var (pv 1)))))
theorem G_Trip_check_not_watched (T : Tx K mg w.params) : Rb.FnG P w K mg base (L2.CX P w) 3 T.f_Trip_check_not_watched T.fd_Trip_check_not_watched ["self"] (spF (ct0 K mg) F_Trip_check_not_watched_2) := by
  unfold F_Trip_check_not_watched_2
  exact
   d_fnX T.F_Trip_check_not_watched sc_Trip_check_not_watched fun cdv A out s H E hg hr => (d_last (d_if (d_tval (d_fld (allS (clf T.cl_Trip T.gC_Trip T.na_Trip_watched) (allS (clf T.cl_PromisedTrip T.gC_PromisedTrip T.na_PromisedTrip_watched) all0)) (d_var (pv 0))))
 (d_last (d_raiseE0 rfl (takes_of rfl rfl rfl rfl) PySem.F.excBase_ValueError T.q_Busy T.kp_Busy T.bx_Busy T.ty_Busy (by rfl) T.gC_Busy))
 d_end))
theorem MF_PromisedTrip_check_not_watched (T : Tx K mg w.params) {lv : Nat} (h : 3 ≤ lv) : MF P w K mg base (L2.CX P w) lv "check_not_watched" "PromisedTrip" F_Trip_check_not_watched_2 := mf_of T.gC_PromisedTrip T.cl_PromisedTrip T.me_PromisedTrip_check_not_watched (FnG_mono (G_Trip_check_not_watched T) h) T.b_Trip_check_not_watched
theorem MF_Trip_check_not_watched (T : Tx K mg w.params) {lv : Nat} (h : 3 ≤ lv) : MF P w K mg base (L2.CX P w) lv "check_not_watched" "Trip" F_Trip_check_not_watched_2 := mf_of T.gC_Trip T.cl_Trip T.me_Trip_check_not_watched (FnG_mono (G_Trip_check_not_watched T) h) T.b_Trip_check_not_watched
theorem G_Trip_state (T : Tx K mg w.params) : Rb.FnG P w K mg base (L2.CX P w) 3 T.f_Trip_state T.fd_Trip_state ["self", "version"] (spF (ct0 K mg) F_Trip_state) := by
  unfold F_Trip_state
  exact
   d_fnX T.F_Trip_state sc_Trip_state fun cdv A out s H E hg hr => (d_seq (d_if (d_tcmp o_is (d_var (pv 1)) d_non (nomark _))
 (d_last (d_ret (d_tup (d_cons (d_prop (lv := 1) (ct_calm rfl) (allS (PF_Trip_road T (by decide)) (allS (PF_PromisedTrip_road T (by decide)) all0)) hg hr (d_var (pv 0))) (d_cons (d_prop (lv := 1) (ct_calm rfl) (allS (PF_Trip_starts T (by decide)) (allS (PF_PromisedTrip_starts T (by decide)) all0)) hg hr (d_var (pv 0))) d_nil)))))
 d_end)
 (d_seq (d_if (d_not (d_tval (d_callW (G_is_number_from T) hg (hr.mono (by decide)) (by rfl) T.g_is_number_from T.F_is_number_from.kp T.b_is_number_from passG (d_cons (d_var (pv 1)) (d_cons d_int (d_cons (d_callB c_len (by rfl) T.z_len (by decide +kernel) (d_cons (d_fld (allS (clf T.cl_Trip T.gC_Trip T.na_Trip_done) (allS (clf T.cl_PromisedTrip T.gC_PromisedTrip T.na_PromisedTrip_done) all0)) (d_var (pv 0))) d_nil)) d_nil))))))
 (d_last (d_raiseE rfl (takes_of rfl rfl rfl rfl) PySem.F.excBase_LookupError T.L_NoVersion T.iC_NoVersion T.tI_NoVersion (Gi_NoVersion T) hr T.bI_NoVersion (by rfl) T.gC_NoVersion (d_var (pv 1))))
 d_end)
 (d_last (d_ret (d_slice (d_ix (d_fld (allS (clf T.cl_Trip T.gC_Trip T.na_Trip_versions) (allS (clf T.cl_PromisedTrip T.gC_PromisedTrip T.na_PromisedTrip_versions) all0)) (d_var (pv 0))) (d_var (pv 1)) (fun _ _ => rfl)) d_noP (d_part d_int))))))
theorem MF_PromisedTrip_state (T : Tx K mg w.params) {lv : Nat} (h : 3 ≤ lv) : MFN P w K mg base (L2.CX P w) lv "version" "state" "PromisedTrip" F_Trip_state := mfn_of T.gC_PromisedTrip T.cl_PromisedTrip T.me_PromisedTrip_state (FnG_mono (G_Trip_state T) h) T.b_Trip_state T.kb_Trip_state
theorem MF_Trip_state (T : Tx K mg w.params) {lv : Nat} (h : 3 ≤ lv) : MFN P w K mg base (L2.CX P w) lv "version" "state" "Trip" F_Trip_state := mfn_of T.gC_Trip T.cl_Trip T.me_Trip_state (FnG_mono (G_Trip_state T) h) T.b_Trip_state T.kb_Trip_state
theorem G_with_more_bikes (T : Tx K mg w.params) : Rb.FnG P w K mg base (L2.CX P w) 4 T.f_with_more_bikes T.fd_with_more_bikes ["road", "station", "count"] (spF (ct0 K mg) F_with_more_bikes) := by
  unfold F_with_more_bikes
  exact
   d_fnX T.F_with_more_bikes sc_with_more_bikes fun cdv A out s H E hg hr => (d_seq (d_expr (d_callW (G_check_bikes T) hg hr (by rfl) T.g_check_bikes T.F_check_bikes.kp T.b_check_bikes (passX (takes_of rfl rfl rfl rfl)) (d_cons (d_var (pv 0)) (d_cons (d_var (pv 1)) (d_cons (d_var (pv 2)) d_nil)))))
 (d_seq (d_set (i := 3) sc_with_more_bikes.nd rfl (.inl rfl) (d_bin o_add (d_ix (d_ix (d_var (pv 0)) d_int (fun _ _ => rfl)) (d_var (pv 1)) (fun _ _ => rfl)) (d_var (pv 2))))
 (d_seq (d_if (d_tcmp o_gt (d_var (pv 3)) (d_gint (by rfl) T.c_MAX_BIKES) (nomark _))
 (d_last (d_raiseE rfl (takes_of rfl rfl rfl rfl) PySem.F.excBase_ValueError T.L_TooMuch T.iC_TooMuch T.tI_TooMuch (Gi_TooMuch T) (hr.mono (by decide)) T.bI_TooMuch (by rfl) T.gC_TooMuch (d_var (pv 3))))
 d_end)
 (d_last (d_ret (d_callW (G_with_further T) hg (hr.mono (by decide)) (by rfl) T.g_with_further T.F_with_further.kp T.b_with_further passG (d_cons (d_var (pv 0)) (d_cons (d_var (pv 1)) (d_cons (d_var (pv 2)) d_nil)))))))))
theorem G_with_fewer_bikes (T : Tx K mg w.params) : Rb.FnG P w K mg base (L2.CX P w) 4 T.f_with_fewer_bikes T.fd_with_fewer_bikes ["road", "station", "count"] (spF (ct0 K mg) F_with_fewer_bikes) := by
  unfold F_with_fewer_bikes
  exact
   d_fnX T.F_with_fewer_bikes sc_with_fewer_bikes fun cdv A out s H E hg hr => (d_seq (d_expr (d_callW (G_check_bikes T) hg hr (by rfl) T.g_check_bikes T.F_check_bikes.kp T.b_check_bikes (passX (takes_of rfl rfl rfl rfl)) (d_cons (d_var (pv 0)) (d_cons (d_var (pv 1)) (d_cons (d_var (pv 2)) d_nil)))))
 (d_seq (d_set (i := 3) sc_with_fewer_bikes.nd rfl (.inl rfl) (d_ix (d_ix (d_var (pv 0)) d_int (fun _ _ => rfl)) (d_var (pv 1)) (fun _ _ => rfl)))
 (d_seq (d_if (d_tcmp o_lt (d_var (pv 3)) (d_var (pv 2)) (nomark _))
 (d_last (d_raiseE rfl (takes_of rfl rfl rfl rfl) PySem.F.excBase_ValueError T.L_TooFew T.iC_TooFew T.tI_TooFew (Gi_TooFew T) (hr.mono (by decide)) T.bI_TooFew (by rfl) T.gC_TooFew (d_var (pv 3))))
 d_end)
 (d_last (d_ret (d_callW (G_with_further T) hg (hr.mono (by decide)) (by rfl) T.g_with_further T.F_with_further.kp T.b_with_further passG (d_cons (d_var (pv 0)) (d_cons (d_var (pv 1)) (d_cons (d_un u_neg (d_var (pv 2))) d_nil)))))))))
theorem G_least_finish (T : Tx K mg w.params) : Rb.FnG P w K mg base CX0 4 T.f_least_finish T.fd_least_finish ["road", "starts"] (spF (ct0 K mg) F_least_finish) := by
  unfold F_least_finish
  exact
   d_fn T.F_least_finish sc_least_finish fun cdv A out s H E hg hr => (d_last (d_ret (d_callW (G_finish_of T) hg hr (by rfl) T.g_finish_of T.F_finish_of.kp T.b_finish_of passG (d_cons (d_var (pv 0)) (d_cons (d_var (pv 1)) (d_cons (d_call 0 (G_rule_plan T) hg (hr.mono (by decide)) (by rfl) T.g_rule_plan T.F_rule_plan.kp T.b_rule_plan passG (d_cons (d_var (pv 0)) (d_cons (d_var (pv 1)) d_nil))) d_nil))))))
theorem G_excluding_people (T : Tx K mg w.params) : Rb.FnG P w K mg base CX0 4 T.f_excluding_people T.fd_excluding_people ["road", "needs"] (spF (ct0 K mg) F_excluding_people) := by
  unfold F_excluding_people
  exact
   d_fn T.F_excluding_people sc_excluding_people fun cdv A out s H E hg hr => (d_seq (d_setLc (i := 2) (own := [("many", 3)]) (g := (gName 3)) (st := (st1 3)) lct1 (by rfl) sc_excluding_people.nd rfl rfl (sw_true rfl rfl rfl (by decide +kernel)) (d_rng2 (by rfl) T.z_range (d_cons d_int (d_cons (d_bin o_add (d_callB c_len (by rfl) T.z_len (by decide +kernel) (d_cons (d_var (pv 1)) d_nil)) d_int) d_nil))) (blkOk_by (own := [("many", 3)]) (N := N_excluding_people) (sc := defScope s_excluding_people) (by decide +kernel)) (fun _ _ _ _ _ => (pg_name (i := 3) sc_excluding_people.nd rfl (.inl rfl))) (fun _ _ _ _ _ => d_tnil) (fun _ _ _ _ _ => (d_callW (G_greatest T) hg (hr.mono (by decide)) (by rfl) T.g_greatest T.F_greatest.kp T.b_greatest passG (d_cons (d_var (pv 1)) (d_cons (d_var (pv 3)) d_nil)))))
 (d_last (d_ret (d_ix (d_lc (own := [("people", 4)]) (g := (gName 4)) (st := (st1 4)) lct1 (by rfl) sc_excluding_people.nd (d_iseq (d_var (pv 2))) (blkOk_by (own := [("people", 4)]) (N := N_excluding_people) (sc := defScope s_excluding_people) (by decide +kernel)) (fun _ _ _ _ _ => (pg_name (i := 4) sc_excluding_people.nd rfl (.inl rfl))) (fun _ _ _ _ _ => (d_tone (d_tval (d_callW (G_exclude T) hg hr (by rfl) T.g_exclude T.F_exclude.kp T.b_exclude passG (d_cons (d_var (pv 0)) (d_cons (d_var (pv 1)) (d_cons (d_var (pv 4)) d_nil))))))) (fun _ _ _ _ _ => (d_var (pv 4)))) d_int (fun _ _ => rfl)))))
theorem G_Trip_undo (T : Tx K mg w.params) : Rb.FnG P w K mg base (L2.CX P w) 4 T.f_Trip_undo T.fd_Trip_undo ["self"] (spF (ct0 K mg) F_Trip_undo) := by
  unfold F_Trip_undo
  exact
   d_fnX T.F_Trip_undo sc_Trip_undo fun cdv A out s H E hg hr => (d_seq (d_expr (d_meth0 (lv := 3) (cx := L2.CX P w) (ct_calm rfl) (allS (MF_Trip_check_not_watched T (by decide)) (allS (MF_PromisedTrip_check_not_watched T (by decide)) all0)) hg hr (passX (takes_of rfl rfl rfl rfl)) (d_var (pv 0))))
 (d_seq (d_if (d_tcmp (o_ieq hr.units) (d_callB c_len (by rfl) T.z_len (by decide +kernel) (d_cons (d_fld (allS (clf T.cl_Trip T.gC_Trip T.na_Trip_done) (allS (clf T.cl_PromisedTrip T.gC_PromisedTrip T.na_PromisedTrip_done) all0)) (d_var (pv 0))) d_nil)) d_int (nomark _))
 (d_last (d_raiseE0 rfl (takes_of rfl rfl rfl rfl) PySem.F.excBase_ValueError T.q_NothingToUndo T.kp_NothingToUndo T.bx_NothingToUndo T.ty_NothingToUndo (by rfl) T.gC_NothingToUndo))
 d_end)
 (d_seq (d_stF (allS (clf T.cl_Trip T.gC_Trip T.na_Trip_done) (allS (clf T.cl_PromisedTrip T.gC_PromisedTrip T.na_PromisedTrip_done) all0)) (d_var (pv 0)) (d_slice (d_fld (allS (clf T.cl_Trip T.gC_Trip T.na_Trip_done) (allS (clf T.cl_PromisedTrip T.gC_PromisedTrip T.na_PromisedTrip_done) all0)) (d_var (pv 0))) d_noP (d_part (d_un u_neg d_int))))
 (d_seq (d_stF (allS (clf T.cl_Trip T.gC_Trip T.na_Trip_versions) (allS (clf T.cl_PromisedTrip T.gC_PromisedTrip T.na_PromisedTrip_versions) all0)) (d_var (pv 0)) (d_slice (d_fld (allS (clf T.cl_Trip T.gC_Trip T.na_Trip_versions) (allS (clf T.cl_PromisedTrip T.gC_PromisedTrip T.na_PromisedTrip_versions) all0)) (d_var (pv 0))) d_noP (d_part (d_un u_neg d_int))))
 (d_last (d_ret (d_callB c_len (by rfl) T.z_len (by decide +kernel) (d_cons (d_fld (allS (clf T.cl_Trip T.gC_Trip T.na_Trip_done) (allS (clf T.cl_PromisedTrip T.gC_PromisedTrip T.na_PromisedTrip_done) all0)) (d_var (pv 0))) d_nil))))))))
theorem MF_PromisedTrip_undo (T : Tx K mg w.params) {lv : Nat} (h : 4 ≤ lv) : MF P w K mg base (L2.CX P w) lv "undo" "PromisedTrip" F_Trip_undo := mf_of T.gC_PromisedTrip T.cl_PromisedTrip T.me_PromisedTrip_undo (FnG_mono (G_Trip_undo T) h) T.b_Trip_undo
theorem MF_Trip_undo (T : Tx K mg w.params) {lv : Nat} (h : 4 ≤ lv) : MF P w K mg base (L2.CX P w) lv "undo" "Trip" F_Trip_undo := mf_of T.gC_Trip T.cl_Trip T.me_Trip_undo (FnG_mono (G_Trip_undo T) h) T.b_Trip_undo
theorem G_changed (T : Tx K mg w.params) : Rb.FnG P w K mg base (L2.CX P w) 5 T.f_changed T.fd_changed ["road", "starts", "edit"] (spF (ct0 K mg) F_changed) := by
  unfold F_changed
  exact
   d_fnX T.F_changed sc_changed fun cdv A out s H E hg hr => (d_seq (d_set (i := 3) sc_changed.nd rfl (.inl rfl) (d_ix (d_var (pv 2)) d_int (fun _ _ => rfl)))
 (d_seq (d_if (d_tcmp (o_ieq hr.units) (d_var (pv 3)) d_str (nomark _))
 (d_last (d_ret (d_tup (d_cons (d_var (pv 0)) (d_cons (d_callW (G_with_person T) hg (hr.mono (by decide)) (by rfl) T.g_with_person T.F_with_person.kp T.b_with_person (passX (takes_of rfl rfl rfl rfl)) (d_cons (d_var (pv 1)) (d_cons (d_ix (d_var (pv 2)) d_int (fun _ _ => rfl)) d_nil))) d_nil)))))
 d_end)
 (d_seq (d_if (d_tcmp (o_ieq hr.units) (d_var (pv 3)) d_str (nomark _))
 (d_last (d_ret (d_tup (d_cons (d_var (pv 0)) (d_cons (d_callW (G_without_person T) hg (hr.mono (by decide)) (by rfl) T.g_without_person T.F_without_person.kp T.b_without_person (passX (takes_of rfl rfl rfl rfl)) (d_cons (d_var (pv 1)) (d_cons (d_ix (d_var (pv 2)) d_int (fun _ _ => rfl)) d_nil))) d_nil)))))
 d_end)
 (d_seq (d_if (d_tcmp (o_ieq hr.units) (d_var (pv 3)) d_str (nomark _))
 (d_last (d_ret (d_tup (d_cons (d_callW (G_with_more_bikes T) hg hr (by rfl) T.g_with_more_bikes T.F_with_more_bikes.kp T.b_with_more_bikes (passX (takes_of rfl rfl rfl rfl)) (d_cons (d_var (pv 0)) (d_cons (d_ix (d_var (pv 2)) d_int (fun _ _ => rfl)) (d_cons (d_ix (d_var (pv 2)) d_int (fun _ _ => rfl)) d_nil)))) (d_cons (d_var (pv 1)) d_nil)))))
 d_end)
 (d_last (d_ret (d_tup (d_cons (d_callW (G_with_fewer_bikes T) hg hr (by rfl) T.g_with_fewer_bikes T.F_with_fewer_bikes.kp T.b_with_fewer_bikes (passX (takes_of rfl rfl rfl rfl)) (d_cons (d_var (pv 0)) (d_cons (d_ix (d_var (pv 2)) d_int (fun _ _ => rfl)) (d_cons (d_ix (d_var (pv 2)) d_int (fun _ _ => rfl)) d_nil)))) (d_cons (d_var (pv 1)) d_nil)))))))))
theorem G_find_certificate (T : Tx K mg w.params) : Rb.FnG P w K mg base CX0 5 T.f_find_certificate T.fd_find_certificate ["road", "starts", "end"] (spF (ct0 K mg) F_find_certificate) := by
  unfold F_find_certificate
  exact
   d_fn T.F_find_certificate sc_find_certificate fun cdv A out s H E hg hr => (d_seq (d_set (i := 3) sc_find_certificate.nd rfl (.inl rfl) (d_call 0 (G_rule_plan T) hg (hr.mono (by decide)) (by rfl) T.g_rule_plan T.F_rule_plan.kp T.b_rule_plan passG (d_cons (d_var (pv 0)) (d_cons (d_var (pv 1)) d_nil))))
 (d_seq (d_if (d_tcmp o_le (d_callW (G_finish_of T) hg (hr.mono (by decide)) (by rfl) T.g_finish_of T.F_finish_of.kp T.b_finish_of passG (d_cons (d_var (pv 0)) (d_cons (d_var (pv 1)) (d_cons (d_var (pv 3)) d_nil)))) (d_var (pv 2)) (nomark _))
 (d_last (d_ret (d_tup (d_cons d_str (d_cons (d_var (pv 3)) d_nil)))))
 d_end)
 (d_last (d_ret (d_tup (d_cons d_str (d_cons (d_callW (G_excluding_people T) hg hr (by rfl) T.g_excluding_people T.F_excluding_people.kp T.b_excluding_people passG (d_cons (d_var (pv 0)) (d_cons (d_callW (G_needs_of T) hg (hr.mono (by decide)) (by rfl) T.g_needs_of T.F_needs_of.kp T.b_needs_of passG (d_cons (d_var (pv 0)) (d_cons (d_var (pv 1)) (d_cons (d_var (pv 2)) d_nil)))) d_nil))) d_nil)))))))
theorem G_Trip_init (T : Tx K mg w.params) : Rb.FnG P w K mg base (L2.CX P w) 5 T.f_Trip___init__ T.fd_Trip___init__ ["self", "road", "starts"] (spF (ct0 K mg) F_Trip_init_2) := by
  unfold F_Trip_init_2
  exact
   d_fnX T.F_Trip___init__ sc_Trip___init__ fun cdv A out s H E hg hr => (d_seq (d_set (i := 3) sc_Trip___init__.nd rfl (.inl rfl) (d_callW (G_road_error T) hg (hr.mono (by decide)) (by rfl) T.g_road_error T.F_road_error.kp T.b_road_error passG (d_cons (d_var (pv 1)) d_nil)))
 (d_seq (d_if (d_tcmp o_isnot (d_var (pv 3)) d_non (nomark _))
 (d_last (d_raiseE rfl (takes_of rfl rfl rfl rfl) PySem.F.excBase_ValueError T.L_BadRoad T.iC_BadRoad T.tI_BadRoad (Gi_BadRoad T) (hr.mono (by decide)) T.bI_BadRoad (by rfl) T.gC_BadRoad (d_var (pv 3))))
 d_end)
 (d_seq (d_if (d_not (d_tval (d_callW (G_is_starts T) hg (hr.mono (by decide)) (by rfl) T.g_is_starts T.F_is_starts.kp T.b_is_starts passG (d_cons (d_var (pv 2)) d_nil))))
 (d_last (d_raiseE rfl (takes_of rfl rfl rfl rfl) PySem.F.excBase_ValueError T.L_BadStarts T.iC_BadStarts T.tI_BadStarts (Gi_BadStarts T) (hr.mono (by decide)) T.bI_BadStarts (by rfl) T.gC_BadStarts (d_var (pv 2))))
 d_end)
 (d_seq (d_stF (allS (clf T.cl_Trip T.gC_Trip T.na_Trip_done) (allS (clf T.cl_PromisedTrip T.gC_PromisedTrip T.na_PromisedTrip_done) all0)) (d_var (pv 0)) (d_tup d_nil))
 (d_seq (d_stF (allS (clf T.cl_Trip T.gC_Trip T.na_Trip_versions) (allS (clf T.cl_PromisedTrip T.gC_PromisedTrip T.na_PromisedTrip_versions) all0)) (d_var (pv 0)) (d_tup (d_cons (d_tup (d_cons (d_var (pv 1)) (d_cons (d_var (pv 2)) (d_cons (d_callW (G_least_finish T) hg hr (by rfl) T.g_least_finish T.F_least_finish.kp T.b_least_finish passG (d_cons (d_var (pv 1)) (d_cons (d_var (pv 2)) d_nil))) d_nil)))) d_nil)))
 (d_last (d_stF (allS (clf T.cl_Trip T.gC_Trip T.na_Trip_watched) (allS (clf T.cl_PromisedTrip T.gC_PromisedTrip T.na_PromisedTrip_watched) all0)) (d_var (pv 0)) d_bl)))))))
theorem MkF_Trip (T : Tx K mg w.params) : MkF P w K mg base (L2.CX P w) 5 T.C_Trip F_Trip_init_2 := ⟨_, _, _, T.mk_Trip, G_Trip_init T, T.b_Trip___init__⟩
theorem G_Trip_do_edit (T : Tx K mg w.params) : Rb.FnG P w K mg base (L2.CX P w) 6 T.f_Trip_do_edit T.fd_Trip_do_edit ["self", "edit", "latest"] (spF (ct0 K mg) F_Trip_do_edit_2) := by
  unfold F_Trip_do_edit_2
  exact
   d_fnX T.F_Trip_do_edit sc_Trip_do_edit fun cdv A out s H E hg hr => (d_seq (d_expr (d_meth0 (lv := 3) (cx := L2.CX P w) (ct_calm rfl) (allS (MF_Trip_check_not_watched T (by decide)) (allS (MF_PromisedTrip_check_not_watched T (by decide)) all0)) hg (hr.mono (by decide)) (passX (takes_of rfl rfl rfl rfl)) (d_var (pv 0))))
 (d_seq (d_if (d_tcmp o_ge (d_callB c_len (by rfl) T.z_len (by decide +kernel) (d_cons (d_fld (allS (clf T.cl_Trip T.gC_Trip T.na_Trip_done) (allS (clf T.cl_PromisedTrip T.gC_PromisedTrip T.na_PromisedTrip_done) all0)) (d_var (pv 0))) d_nil)) (d_con (i := 60) (allS T.con_Trip_MOST_EDITS (allS T.con_PromisedTrip_MOST_EDITS all0)) (d_var (pv 0))) (nomark _))
 (d_last (d_raiseE0 rfl (takes_of rfl rfl rfl rfl) PySem.F.excBase_ValueError T.q_TooManyEdits T.kp_TooManyEdits T.bx_TooManyEdits T.ty_TooManyEdits (by rfl) T.gC_TooManyEdits))
 d_end)
 (d_seq (d_asg (d_callW (G_changed T) hg hr (by rfl) T.g_changed T.F_changed.kp T.b_changed (passX (takes_of rfl rfl rfl rfl)) (d_cons (d_prop (lv := 1) (ct_calm rfl) (allS (PF_Trip_road T (by decide)) (allS (PF_PromisedTrip_road T (by decide)) all0)) hg (hr.mono (by decide)) (d_var (pv 0))) (d_cons (d_prop (lv := 1) (ct_calm rfl) (allS (PF_Trip_starts T (by decide)) (allS (PF_PromisedTrip_starts T (by decide)) all0)) hg (hr.mono (by decide)) (d_var (pv 0))) (d_cons (d_var (pv 1)) d_nil)))) (d_gtup rfl (d_gcons (d_gn (pg_name (i := 3) sc_Trip_do_edit.nd rfl (.inl rfl))) (d_gcons (d_gn (pg_name (i := 4) sc_Trip_do_edit.nd rfl (.inl rfl))) d_gnil))))
 (d_seq (d_set (i := 5) sc_Trip_do_edit.nd rfl (.inl rfl) (d_callW (G_least_finish T) hg (hr.mono (by decide)) (by rfl) T.g_least_finish T.F_least_finish.kp T.b_least_finish passG (d_cons (d_var (pv 3)) (d_cons (d_var (pv 4)) d_nil))))
 (d_seq (d_if (PW.pt (d_and (d_tcmp o_isnot (d_var (pv 2)) d_non (nomark _)) (d_and1 (d_tcmp o_gt (d_var (pv 5)) (d_var (pv 2)) (nomark _)))))
 (d_last (d_raiseE rfl (takes_of rfl rfl rfl rfl) PySem.F.excBase_ValueError T.L_TooLate T.iC_TooLate T.tI_TooLate (Gi_TooLate T) (hr.mono (by decide)) T.bI_TooLate (by rfl) T.gC_TooLate (d_var (pv 5))))
 d_end)
 (d_seq (d_stF (allS (clf T.cl_Trip T.gC_Trip T.na_Trip_done) (allS (clf T.cl_PromisedTrip T.gC_PromisedTrip T.na_PromisedTrip_done) all0)) (d_var (pv 0)) (d_bin o_add (d_fld (allS (clf T.cl_Trip T.gC_Trip T.na_Trip_done) (allS (clf T.cl_PromisedTrip T.gC_PromisedTrip T.na_PromisedTrip_done) all0)) (d_var (pv 0))) (d_tup (d_cons (d_var (pv 1)) d_nil))))
 (d_seq (d_stF (allS (clf T.cl_Trip T.gC_Trip T.na_Trip_versions) (allS (clf T.cl_PromisedTrip T.gC_PromisedTrip T.na_PromisedTrip_versions) all0)) (d_var (pv 0)) (d_bin o_add (d_fld (allS (clf T.cl_Trip T.gC_Trip T.na_Trip_versions) (allS (clf T.cl_PromisedTrip T.gC_PromisedTrip T.na_PromisedTrip_versions) all0)) (d_var (pv 0))) (d_tup (d_cons (d_tup (d_cons (d_var (pv 3)) (d_cons (d_var (pv 4)) (d_cons (d_var (pv 5)) d_nil)))) d_nil))))
 (d_last (d_ret (d_callB c_len (by rfl) T.z_len (by decide +kernel) (d_cons (d_fld (allS (clf T.cl_Trip T.gC_Trip T.na_Trip_done) (allS (clf T.cl_PromisedTrip T.gC_PromisedTrip T.na_PromisedTrip_done) all0)) (d_var (pv 0))) d_nil)))))))))))
theorem MF_PromisedTrip_do_edit (T : Tx K mg w.params) {lv : Nat} (h : 6 ≤ lv) : MF P w K mg base (L2.CX P w) lv "do_edit" "PromisedTrip" F_Trip_do_edit_2 := mf_of T.gC_PromisedTrip T.cl_PromisedTrip T.me_PromisedTrip_do_edit (FnG_mono (G_Trip_do_edit T) h) T.b_Trip_do_edit
theorem MF_Trip_do_edit (T : Tx K mg w.params) {lv : Nat} (h : 6 ≤ lv) : MF P w K mg base (L2.CX P w) lv "do_edit" "Trip" F_Trip_do_edit_2 := mf_of T.gC_Trip T.cl_Trip T.me_Trip_do_edit (FnG_mono (G_Trip_do_edit T) h) T.b_Trip_do_edit
theorem G_Trip_certificate (T : Tx K mg w.params) : Rb.FnG P w K mg base (L2.CX P w) 6 T.f_Trip_certificate T.fd_Trip_certificate ["self", "end", "version"] (spF (ct0 K mg) F_Trip_certificate) := by
  unfold F_Trip_certificate
  exact
   d_fnX T.F_Trip_certificate sc_Trip_certificate fun cdv A out s H E hg hr => (d_seq (d_asg (d_methK0 (lv := 3) (cx := L2.CX P w) (kw := "version") (ct_calm rfl) (allS (MF_Trip_state T (by decide)) (allS (MF_PromisedTrip_state T (by decide)) all0)) hg (hr.mono (by decide)) (passX (takes_of rfl rfl rfl rfl)) (d_var (pv 0)) (d_var (pv 2))) (d_gtup rfl (d_gcons (d_gn (pg_name (i := 3) sc_Trip_certificate.nd rfl (.inl rfl))) (d_gcons (d_gn (pg_name (i := 4) sc_Trip_certificate.nd rfl (.inl rfl))) d_gnil))))
 (d_seq (d_if (d_not (d_tval (d_callW (G_is_end T) hg (hr.mono (by decide)) (by rfl) T.g_is_end T.F_is_end.kp T.b_is_end passG (d_cons (d_var (pv 1)) d_nil))))
 (d_last (d_raiseE rfl (takes_of rfl rfl rfl rfl) PySem.F.excBase_ValueError T.L_BadEnd T.iC_BadEnd T.tI_BadEnd (Gi_BadEnd T) (hr.mono (by decide)) T.bI_BadEnd (by rfl) T.gC_BadEnd (d_var (pv 1))))
 d_end)
 (d_last (d_ret (d_callW (G_find_certificate T) hg hr (by rfl) T.g_find_certificate T.F_find_certificate.kp T.b_find_certificate passG (d_cons (d_var (pv 3)) (d_cons (d_var (pv 4)) (d_cons (d_var (pv 1)) d_nil))))))))
theorem MF_PromisedTrip_certificate (T : Tx K mg w.params) {lv : Nat} (h : 6 ≤ lv) : MFN P w K mg base (L2.CX P w) lv "version" "certificate" "PromisedTrip" F_Trip_certificate := mfn_of T.gC_PromisedTrip T.cl_PromisedTrip T.me_PromisedTrip_certificate (FnG_mono (G_Trip_certificate T) h) T.b_Trip_certificate T.kb_Trip_certificate
theorem MF_Trip_certificate (T : Tx K mg w.params) {lv : Nat} (h : 6 ≤ lv) : MFN P w K mg base (L2.CX P w) lv "version" "certificate" "Trip" F_Trip_certificate := mfn_of T.gC_Trip T.cl_Trip T.me_Trip_certificate (FnG_mono (G_Trip_certificate T) h) T.b_Trip_certificate T.kb_Trip_certificate
theorem G_Trip_come (T : Tx K mg w.params) : Rb.FnG P w K mg base (L2.CX P w) 7 T.f_Trip_come T.fd_Trip_come ["self", "start"] (spF (ct0 K mg) F_Trip_come_2) := by
  unfold F_Trip_come_2
  exact
   d_fnX T.F_Trip_come sc_Trip_come fun cdv A out s H E hg hr => (d_last (d_ret (d_meth (lv := 6) (cx := L2.CX P w) (ct_calm rfl) (allS (MF_Trip_do_edit T (by decide)) (allS (MF_PromisedTrip_do_edit T (by decide)) all0)) hg hr (passX (takes_of rfl rfl rfl rfl)) (d_var (pv 0)) (d_cons (d_tup (d_cons d_str (d_cons (d_var (pv 1)) d_nil))) (d_cons d_non d_nil)))))
theorem MF_Trip_come (T : Tx K mg w.params) {lv : Nat} (h : 7 ≤ lv) : MF P w K mg base (L2.CX P w) lv "come" "Trip" F_Trip_come_2 := mf_of T.gC_Trip T.cl_Trip T.me_Trip_come (FnG_mono (G_Trip_come T) h) T.b_Trip_come
theorem G_Trip_leave (T : Tx K mg w.params) : Rb.FnG P w K mg base (L2.CX P w) 7 T.f_Trip_leave T.fd_Trip_leave ["self", "person"] (spF (ct0 K mg) F_Trip_leave) := by
  unfold F_Trip_leave
  exact
   d_fnX T.F_Trip_leave sc_Trip_leave fun cdv A out s H E hg hr => (d_last (d_ret (d_meth (lv := 6) (cx := L2.CX P w) (ct_calm rfl) (allS (MF_Trip_do_edit T (by decide)) (allS (MF_PromisedTrip_do_edit T (by decide)) all0)) hg hr (passX (takes_of rfl rfl rfl rfl)) (d_var (pv 0)) (d_cons (d_tup (d_cons d_str (d_cons (d_var (pv 1)) d_nil))) (d_cons d_non d_nil)))))
theorem MF_Trip_leave (T : Tx K mg w.params) {lv : Nat} (h : 7 ≤ lv) : MF P w K mg base (L2.CX P w) lv "leave" "Trip" F_Trip_leave := mf_of T.gC_Trip T.cl_Trip T.me_Trip_leave (FnG_mono (G_Trip_leave T) h) T.b_Trip_leave
theorem G_Trip_place (T : Tx K mg w.params) : Rb.FnG P w K mg base (L2.CX P w) 7 T.f_Trip_place T.fd_Trip_place ["self", "station", "count"] (spF (ct0 K mg) F_Trip_place) := by
  unfold F_Trip_place
  exact
   d_fnX T.F_Trip_place sc_Trip_place fun cdv A out s H E hg hr => (d_last (d_ret (d_meth (lv := 6) (cx := L2.CX P w) (ct_calm rfl) (allS (MF_Trip_do_edit T (by decide)) (allS (MF_PromisedTrip_do_edit T (by decide)) all0)) hg hr (passX (takes_of rfl rfl rfl rfl)) (d_var (pv 0)) (d_cons (d_tup (d_cons d_str (d_cons (d_var (pv 1)) (d_cons (d_var (pv 2)) d_nil)))) (d_cons d_non d_nil)))))
theorem MF_Trip_place (T : Tx K mg w.params) {lv : Nat} (h : 7 ≤ lv) : MF P w K mg base (L2.CX P w) lv "place" "Trip" F_Trip_place := mf_of T.gC_Trip T.cl_Trip T.me_Trip_place (FnG_mono (G_Trip_place T) h) T.b_Trip_place
theorem G_Trip_take (T : Tx K mg w.params) : Rb.FnG P w K mg base (L2.CX P w) 7 T.f_Trip_take T.fd_Trip_take ["self", "station", "count"] (spF (ct0 K mg) F_Trip_take) := by
  unfold F_Trip_take
  exact
   d_fnX T.F_Trip_take sc_Trip_take fun cdv A out s H E hg hr => (d_last (d_ret (d_meth (lv := 6) (cx := L2.CX P w) (ct_calm rfl) (allS (MF_Trip_do_edit T (by decide)) (allS (MF_PromisedTrip_do_edit T (by decide)) all0)) hg hr (passX (takes_of rfl rfl rfl rfl)) (d_var (pv 0)) (d_cons (d_tup (d_cons d_str (d_cons (d_var (pv 1)) (d_cons (d_var (pv 2)) d_nil)))) (d_cons d_non d_nil)))))
theorem MF_Trip_take (T : Tx K mg w.params) {lv : Nat} (h : 7 ≤ lv) : MF P w K mg base (L2.CX P w) lv "take" "Trip" F_Trip_take := mf_of T.gC_Trip T.cl_Trip T.me_Trip_take (FnG_mono (G_Trip_take T) h) T.b_Trip_take
theorem G_PromisedTrip_init (T : Tx K mg w.params) : Rb.FnG P w K mg base (L2.CX P w) 7 T.f_PromisedTrip___init__ T.fd_PromisedTrip___init__ ["self", "road", "starts", "latest"] (spF (ct0 K mg) F_PromisedTrip_init) := by
  unfold F_PromisedTrip_init
  exact
   d_fnX T.F_PromisedTrip___init__ sc_PromisedTrip___init__ fun cdv A out s H E hg hr => (d_seq (d_expr (d_ccall ⟨T.rd_Trip, T.ra_Trip⟩ T.fc_Trip___init__ (G_Trip_init T) hg (hr.mono (by decide)) T.b_Trip___init__ T.F_Trip___init__.kp (by rfl) T.gC_Trip (passX (takes_of rfl rfl rfl rfl)) (d_cons (d_var (pv 0)) (d_cons (d_var (pv 1)) (d_cons (d_var (pv 2)) d_nil)))))
 (d_seq (d_expr (d_ccall ⟨T.rd_Promise, T.ra_Promise⟩ T.fc_Promise___init__ (G_Promise_init T) hg (hr.mono (by decide)) T.b_Promise___init__ T.F_Promise___init__.kp (by rfl) T.gC_Promise (passX (takes_of rfl rfl rfl rfl)) (d_cons (d_var (pv 0)) (d_cons (d_var (pv 3)) d_nil))))
 (d_last (d_if (d_tcmp o_gt (d_prop (lv := 1) (ct_calm rfl) (allS (PF_PromisedTrip_finish T (by decide)) all0) hg (hr.mono (by decide)) (d_var (pv 0))) (d_prop (lv := 1) (ct_calm rfl) (allS (PF_PromisedTrip_latest T (by decide)) all0) hg (hr.mono (by decide)) (d_var (pv 0))) (nomark _))
 (d_last (d_raiseE rfl (takes_of rfl rfl rfl rfl) PySem.F.excBase_ValueError T.L_TooLate T.iC_TooLate T.tI_TooLate (Gi_TooLate T) (hr.mono (by decide)) T.bI_TooLate (by rfl) T.gC_TooLate (d_prop (lv := 1) (ct_calm rfl) (allS (PF_PromisedTrip_finish T (by decide)) all0) hg (hr.mono (by decide)) (d_var (pv 0)))))
 d_end))))
theorem MkF_PromisedTrip (T : Tx K mg w.params) : MkF P w K mg base (L2.CX P w) 7 T.C_PromisedTrip F_PromisedTrip_init := ⟨_, _, _, T.mk_PromisedTrip, G_PromisedTrip_init T, T.b_PromisedTrip___init__⟩
theorem G_PromisedTrip_come (T : Tx K mg w.params) : Rb.FnG P w K mg base (L2.CX P w) 7 T.f_PromisedTrip_come T.fd_PromisedTrip_come ["self", "start"] (spF (ct0 K mg) F_PromisedTrip_come) := by
  unfold F_PromisedTrip_come
  exact
   d_fnX T.F_PromisedTrip_come sc_PromisedTrip_come fun cdv A out s H E hg hr => (d_last (d_ret (d_meth (lv := 6) (cx := L2.CX P w) (ct_calm rfl) (allS (MF_PromisedTrip_do_edit T (by decide)) all0) hg hr (passX (takes_of rfl rfl rfl rfl)) (d_var (pv 0)) (d_cons (d_tup (d_cons d_str (d_cons (d_var (pv 1)) d_nil))) (d_cons (d_prop (lv := 1) (ct_calm rfl) (allS (PF_PromisedTrip_latest T (by decide)) all0) hg (hr.mono (by decide)) (d_var (pv 0))) d_nil)))))
theorem MF_PromisedTrip_come (T : Tx K mg w.params) {lv : Nat} (h : 7 ≤ lv) : MF P w K mg base (L2.CX P w) lv "come" "PromisedTrip" F_PromisedTrip_come := mf_of T.gC_PromisedTrip T.cl_PromisedTrip T.me_PromisedTrip_come (FnG_mono (G_PromisedTrip_come T) h) T.b_PromisedTrip_come
theorem G_PromisedTrip_leave (T : Tx K mg w.params) : Rb.FnG P w K mg base (L2.CX P w) 7 T.f_PromisedTrip_leave T.fd_PromisedTrip_leave ["self", "person"] (spF (ct0 K mg) F_PromisedTrip_leave) := by
  unfold F_PromisedTrip_leave
  exact
   d_fnX T.F_PromisedTrip_leave sc_PromisedTrip_leave fun cdv A out s H E hg hr => (d_last (d_ret (d_meth (lv := 6) (cx := L2.CX P w) (ct_calm rfl) (allS (MF_PromisedTrip_do_edit T (by decide)) all0) hg hr (passX (takes_of rfl rfl rfl rfl)) (d_var (pv 0)) (d_cons (d_tup (d_cons d_str (d_cons (d_var (pv 1)) d_nil))) (d_cons (d_prop (lv := 1) (ct_calm rfl) (allS (PF_PromisedTrip_latest T (by decide)) all0) hg (hr.mono (by decide)) (d_var (pv 0))) d_nil)))))
theorem MF_PromisedTrip_leave (T : Tx K mg w.params) {lv : Nat} (h : 7 ≤ lv) : MF P w K mg base (L2.CX P w) lv "leave" "PromisedTrip" F_PromisedTrip_leave := mf_of T.gC_PromisedTrip T.cl_PromisedTrip T.me_PromisedTrip_leave (FnG_mono (G_PromisedTrip_leave T) h) T.b_PromisedTrip_leave
theorem G_PromisedTrip_place (T : Tx K mg w.params) : Rb.FnG P w K mg base (L2.CX P w) 7 T.f_PromisedTrip_place T.fd_PromisedTrip_place ["self", "station", "count"] (spF (ct0 K mg) F_PromisedTrip_place) := by
  unfold F_PromisedTrip_place
  exact
   d_fnX T.F_PromisedTrip_place sc_PromisedTrip_place fun cdv A out s H E hg hr => (d_last (d_ret (d_meth (lv := 6) (cx := L2.CX P w) (ct_calm rfl) (allS (MF_PromisedTrip_do_edit T (by decide)) all0) hg hr (passX (takes_of rfl rfl rfl rfl)) (d_var (pv 0)) (d_cons (d_tup (d_cons d_str (d_cons (d_var (pv 1)) (d_cons (d_var (pv 2)) d_nil)))) (d_cons (d_prop (lv := 1) (ct_calm rfl) (allS (PF_PromisedTrip_latest T (by decide)) all0) hg (hr.mono (by decide)) (d_var (pv 0))) d_nil)))))
theorem MF_PromisedTrip_place (T : Tx K mg w.params) {lv : Nat} (h : 7 ≤ lv) : MF P w K mg base (L2.CX P w) lv "place" "PromisedTrip" F_PromisedTrip_place := mf_of T.gC_PromisedTrip T.cl_PromisedTrip T.me_PromisedTrip_place (FnG_mono (G_PromisedTrip_place T) h) T.b_PromisedTrip_place
theorem G_PromisedTrip_take (T : Tx K mg w.params) : Rb.FnG P w K mg base (L2.CX P w) 7 T.f_PromisedTrip_take T.fd_PromisedTrip_take ["self", "station", "count"] (spF (ct0 K mg) F_PromisedTrip_take) := by
  unfold F_PromisedTrip_take
  exact
   d_fnX T.F_PromisedTrip_take sc_PromisedTrip_take fun cdv A out s H E hg hr => (d_last (d_ret (d_meth (lv := 6) (cx := L2.CX P w) (ct_calm rfl) (allS (MF_PromisedTrip_do_edit T (by decide)) all0) hg hr (passX (takes_of rfl rfl rfl rfl)) (d_var (pv 0)) (d_cons (d_tup (d_cons d_str (d_cons (d_var (pv 1)) (d_cons (d_var (pv 2)) d_nil)))) (d_cons (d_prop (lv := 1) (ct_calm rfl) (allS (PF_PromisedTrip_latest T (by decide)) all0) hg (hr.mono (by decide)) (d_var (pv 0))) d_nil)))))
theorem MF_PromisedTrip_take (T : Tx K mg w.params) {lv : Nat} (h : 7 ≤ lv) : MF P w K mg base (L2.CX P w) lv "take" "PromisedTrip" F_PromisedTrip_take := mf_of T.gC_PromisedTrip T.cl_PromisedTrip T.me_PromisedTrip_take (FnG_mono (G_PromisedTrip_take T) h) T.b_PromisedTrip_take
theorem G_law_do (T : Tx K mg w.params) : Rb.FnG P w K mg base (L2.CX P w) 8 T.f__law_do T.fd__law_do ["_law_trip", "_law_edit_here"] (spF (ct0 K mg) F_law_do_2) := by
  unfold F_law_do_2
  exact
   d_fnX T.F__law_do sc__law_do fun cdv A out s H E hg hr => (d_seq (d_if (d_tcmp (o_ieq hr.units) (d_ix (d_var (pv 1)) d_int (fun _ _ => rfl)) d_str (nomark _))
 (d_last (d_ret (d_meth (lv := 7) (cx := L2.CX P w) (ct_calm rfl) (allS (MF_Trip_come T (by decide)) (allS (MF_PromisedTrip_come T (by decide)) all0)) hg hr (passX (takes_of rfl rfl rfl rfl)) (d_var (pv 0)) (d_cons (d_ix (d_var (pv 1)) d_int (fun _ _ => rfl)) d_nil))))
 d_end)
 (d_seq (d_if (d_tcmp (o_ieq hr.units) (d_ix (d_var (pv 1)) d_int (fun _ _ => rfl)) d_str (nomark _))
 (d_last (d_ret (d_meth (lv := 7) (cx := L2.CX P w) (ct_calm rfl) (allS (MF_Trip_leave T (by decide)) (allS (MF_PromisedTrip_leave T (by decide)) all0)) hg hr (passX (takes_of rfl rfl rfl rfl)) (d_var (pv 0)) (d_cons (d_ix (d_var (pv 1)) d_int (fun _ _ => rfl)) d_nil))))
 d_end)
 (d_last (d_ret (d_ifE (d_tcmp (o_ieq hr.units) (d_ix (d_var (pv 1)) d_int (fun _ _ => rfl)) d_str (nomark _)) (d_meth (lv := 7) (cx := L2.CX P w) (ct_calm rfl) (allS (MF_Trip_place T (by decide)) (allS (MF_PromisedTrip_place T (by decide)) all0)) hg hr (passX (takes_of rfl rfl rfl rfl)) (d_var (pv 0)) (d_cons (d_ix (d_var (pv 1)) d_int (fun _ _ => rfl)) (d_cons (d_ix (d_var (pv 1)) d_int (fun _ _ => rfl)) d_nil))) (d_meth (lv := 7) (cx := L2.CX P w) (ct_calm rfl) (allS (MF_Trip_take T (by decide)) (allS (MF_PromisedTrip_take T (by decide)) all0)) hg hr (passX (takes_of rfl rfl rfl rfl)) (d_var (pv 0)) (d_cons (d_ix (d_var (pv 1)) d_int (fun _ _ => rfl)) (d_cons (d_ix (d_var (pv 1)) d_int (fun _ _ => rfl)) d_nil))))))))
theorem G_Trip_call_edit (T : Tx K mg w.params) : Rb.FnG P w K mg base (L2.CX P w) 8 T.f_Trip_call_edit T.fd_Trip_call_edit ["self", "edit"] (spF (ct0 K mg) F_Trip_call_edit) := by
  unfold F_Trip_call_edit
  exact
   d_fnX T.F_Trip_call_edit sc_Trip_call_edit fun cdv A out s H E hg hr => (d_seq (d_set (i := 2) sc_Trip_call_edit.nd rfl (.inl rfl) (d_ix (d_var (pv 1)) d_int (fun _ _ => rfl)))
 (d_seq (d_if (d_tcmp (o_ieq hr.units) (d_var (pv 2)) d_str (nomark _))
 (d_last (d_ret (d_meth (lv := 7) (cx := L2.CX P w) (ct_calm rfl) (allS (MF_Trip_come T (by decide)) (allS (MF_PromisedTrip_come T (by decide)) all0)) hg hr (passX (takes_of rfl rfl rfl rfl)) (d_var (pv 0)) (d_cons (d_ix (d_var (pv 1)) d_int (fun _ _ => rfl)) d_nil))))
 d_end)
 (d_seq (d_if (d_tcmp (o_ieq hr.units) (d_var (pv 2)) d_str (nomark _))
 (d_last (d_ret (d_meth (lv := 7) (cx := L2.CX P w) (ct_calm rfl) (allS (MF_Trip_leave T (by decide)) (allS (MF_PromisedTrip_leave T (by decide)) all0)) hg hr (passX (takes_of rfl rfl rfl rfl)) (d_var (pv 0)) (d_cons (d_ix (d_var (pv 1)) d_int (fun _ _ => rfl)) d_nil))))
 d_end)
 (d_seq (d_if (d_tcmp (o_ieq hr.units) (d_var (pv 2)) d_str (nomark _))
 (d_last (d_ret (d_meth (lv := 7) (cx := L2.CX P w) (ct_calm rfl) (allS (MF_Trip_place T (by decide)) (allS (MF_PromisedTrip_place T (by decide)) all0)) hg hr (passX (takes_of rfl rfl rfl rfl)) (d_var (pv 0)) (d_cons (d_ix (d_var (pv 1)) d_int (fun _ _ => rfl)) (d_cons (d_ix (d_var (pv 1)) d_int (fun _ _ => rfl)) d_nil)))))
 d_end)
 (d_last (d_ret (d_meth (lv := 7) (cx := L2.CX P w) (ct_calm rfl) (allS (MF_Trip_take T (by decide)) (allS (MF_PromisedTrip_take T (by decide)) all0)) hg hr (passX (takes_of rfl rfl rfl rfl)) (d_var (pv 0)) (d_cons (d_ix (d_var (pv 1)) d_int (fun _ _ => rfl)) (d_cons (d_ix (d_var (pv 1)) d_int (fun _ _ => rfl)) d_nil)))))))))
theorem MF_PromisedTrip_call_edit (T : Tx K mg w.params) {lv : Nat} (h : 8 ≤ lv) : MF P w K mg base (L2.CX P w) lv "call_edit" "PromisedTrip" F_Trip_call_edit := mf_of T.gC_PromisedTrip T.cl_PromisedTrip T.me_PromisedTrip_call_edit (FnG_mono (G_Trip_call_edit T) h) T.b_Trip_call_edit
theorem MF_Trip_call_edit (T : Tx K mg w.params) {lv : Nat} (h : 8 ≤ lv) : MF P w K mg base (L2.CX P w) lv "call_edit" "Trip" F_Trip_call_edit := mf_of T.gC_Trip T.cl_Trip T.me_Trip_call_edit (FnG_mono (G_Trip_call_edit T) h) T.b_Trip_call_edit
theorem G_law_made (T : Tx K mg w.params) : Rb.FnG P w K mg base (L2.CX P w) 9 T.f__law_made T.fd__law_made ["_law_state_here", "_law_is_promised"] (spF (ct0 K mg) F_law_made_3) := by
  unfold F_law_made_3
  exact
   d_fnX T.F__law_made sc__law_made fun cdv A out s H E hg hr => (d_last (d_ret (d_ifE (d_tval (d_var (pv 1))) (d_make (lv := 7) (ct_calm rfl) (MkF_PromisedTrip T) hg hr (by rfl) T.gC_PromisedTrip (passX (takes_of rfl rfl rfl rfl)) (d_cons (d_ix (d_var (pv 0)) d_int (fun _ _ => rfl)) (d_cons (d_ix (d_var (pv 0)) d_int (fun _ _ => rfl)) (d_cons (d_bin o_pow d_int d_int) d_nil)))) (d_make (lv := 5) (ct_calm rfl) (MkF_Trip T) hg (hr.mono (by decide)) (by rfl) T.gC_Trip (passX (takes_of rfl rfl rfl rfl)) (d_cons (d_ix (d_var (pv 0)) d_int (fun _ _ => rfl)) (d_cons (d_ix (d_var (pv 0)) d_int (fun _ _ => rfl)) d_nil))))))
theorem G_Shell_answer (T : Tx K mg w.params) : Rb.FnG P w K mg base (L2.CX P w) 9 T.f_Shell_answer T.fd_Shell_answer ["self", "command"] (spF (ct0 K mg) F_Shell_answer_2) := by
  unfold F_Shell_answer_2
  exact
   d_fnX T.F_Shell_answer sc_Shell_answer fun cdv A out s H E hg hr => (d_seq (d_if (d_tval (d_callW (G_is_edit T) hg (hr.mono (by decide)) (by rfl) T.g_is_edit T.F_is_edit.kp T.b_is_edit passG (d_cons (d_var (pv 1)) d_nil)))
 (d_last (d_ret (d_fstr (PJd.cons d_str (PJd.cons (d_fmt (d_meth (lv := 8) (cx := L2.CX P w) (ct_calm rfl) (allS (MF_Trip_call_edit T (by decide)) (allS (MF_PromisedTrip_call_edit T (by decide)) all0)) hg hr (passX (takes_of rfl rfl rfl rfl)) (d_fld (allS (clf T.cl_Shell T.gC_Shell T.na_Shell_trip) all0) (d_var (pv 0))) (d_cons (d_var (pv 1)) d_nil))) PJd.nil)))))
 d_end)
 (d_seq (d_if (d_tcmp (o_ieq hr.units) (d_var (pv 1)) (d_tup (d_cons d_str d_nil)) (nomark _))
 (d_last (d_ret (d_fstr (PJd.cons d_str (PJd.cons (d_fmt (d_meth0 (lv := 4) (cx := L2.CX P w) (ct_calm rfl) (allS (MF_Trip_undo T (by decide)) (allS (MF_PromisedTrip_undo T (by decide)) all0)) hg (hr.mono (by decide)) (passX (takes_of rfl rfl rfl rfl)) (d_fld (allS (clf T.cl_Shell T.gC_Shell T.na_Shell_trip) all0) (d_var (pv 0))))) PJd.nil)))))
 d_end)
 (d_seq (d_if (d_tcmp (o_ieq hr.units) (d_var (pv 1)) (d_tup (d_cons d_str d_nil)) (nomark _))
 (d_last (d_ret (d_callW (G_trip_text T) hg (hr.mono (by decide)) (by rfl) T.g_trip_text T.F_trip_text.kp T.b_trip_text passG (d_cons (d_prop (lv := 1) (ct_calm rfl) (allS (PF_Trip_road T (by decide)) (allS (PF_PromisedTrip_road T (by decide)) all0)) hg (hr.mono (by decide)) (d_fld (allS (clf T.cl_Shell T.gC_Shell T.na_Shell_trip) all0) (d_var (pv 0)))) (d_cons (d_prop (lv := 1) (ct_calm rfl) (allS (PF_Trip_starts T (by decide)) (allS (PF_PromisedTrip_starts T (by decide)) all0)) hg (hr.mono (by decide)) (d_fld (allS (clf T.cl_Shell T.gC_Shell T.na_Shell_trip) all0) (d_var (pv 0)))) d_nil)))))
 d_end)
 (d_seq (d_if (d_tcmp (o_ieq hr.units) (d_var (pv 1)) (d_tup (d_cons d_str d_nil)) (nomark _))
 (d_last (d_ret (d_callT c_str (by rfl) T.z_str (by decide +kernel) (d_cons (d_prop (lv := 1) (ct_calm rfl) (allS (PF_Trip_finish T (by decide)) (allS (PF_PromisedTrip_finish T (by decide)) all0)) hg (hr.mono (by decide)) (d_fld (allS (clf T.cl_Shell T.gC_Shell T.na_Shell_trip) all0) (d_var (pv 0)))) d_nil))))
 d_end)
 (d_seq (d_if (d_tcmp (o_ieq hr.units) (d_var (pv 1)) (d_tup (d_cons d_str d_nil)) (nomark _))
 (d_last (d_ret (d_callW (G_riders_text T) hg (hr.mono (by decide)) (by rfl) T.g_riders_text T.F_riders_text.kp T.b_riders_text passG (d_cons (d_call 0 (G_rule_plan T) hg (hr.mono (by decide)) (by rfl) T.g_rule_plan T.F_rule_plan.kp T.b_rule_plan passG (d_cons (d_prop (lv := 1) (ct_calm rfl) (allS (PF_Trip_road T (by decide)) (allS (PF_PromisedTrip_road T (by decide)) all0)) hg (hr.mono (by decide)) (d_fld (allS (clf T.cl_Shell T.gC_Shell T.na_Shell_trip) all0) (d_var (pv 0)))) (d_cons (d_prop (lv := 1) (ct_calm rfl) (allS (PF_Trip_starts T (by decide)) (allS (PF_PromisedTrip_starts T (by decide)) all0)) hg (hr.mono (by decide)) (d_fld (allS (clf T.cl_Shell T.gC_Shell T.na_Shell_trip) all0) (d_var (pv 0)))) d_nil))) d_nil))))
 d_end)
 (d_seq (d_if (PW.pt (d_and (d_tcmp (o_ieq hr.units) (d_ix (d_var (pv 1)) d_int (fun _ _ => rfl)) d_str (nomark _)) (d_and1 (d_tcmp (o_ieq hr.units) (d_callB c_len (by rfl) T.z_len (by decide +kernel) (d_cons (d_var (pv 1)) d_nil)) d_int (nomark _)))))
 (d_last (d_ret (d_ix (d_methN (lv := 6) (cx := L2.CX P w) (kw := "version") (ct_calm rfl) (allS (MF_Trip_certificate T (by decide)) (allS (MF_PromisedTrip_certificate T (by decide)) all0)) hg (hr.mono (by decide)) (passX (takes_of rfl rfl rfl rfl)) (d_fld (allS (clf T.cl_Shell T.gC_Shell T.na_Shell_trip) all0) (d_var (pv 0))) (d_cons (d_ix (d_var (pv 1)) d_int (fun _ _ => rfl)) d_nil)) d_int (fun _ _ => rfl))))
 d_end)
 (d_last (d_ret d_nevE))))))))
theorem MF_Shell_answer (T : Tx K mg w.params) {lv : Nat} (h : 9 ≤ lv) : MF P w K mg base (L2.CX P w) lv "answer" "Shell" F_Shell_answer_2 := mf_of T.gC_Shell T.cl_Shell T.me_Shell_answer (FnG_mono (G_Shell_answer T) h) T.b_Shell_answer
theorem G_Shell_execute (T : Tx K mg w.params) : Rb.FnG P w K mg base CX0 10 T.f_Shell_execute T.fd_Shell_execute ["self", "line"] (spF (ct0 K mg) F_Shell_execute_2) := by
  unfold F_Shell_execute_2
  exact
   d_fn T.F_Shell_execute sc_Shell_execute fun cdv A out s H E hg hr => (d_seq (d_set (i := 2) sc_Shell_execute.nd rfl (.inl rfl) (d_callW (G_command_in T) hg (hr.mono (by decide)) (by rfl) T.g_command_in T.F_command_in.kp T.b_command_in passG (d_cons (d_var (pv 1)) d_nil)))
 (d_seq (d_if (d_tcmp o_is (d_var (pv 2)) d_non (nomark _))
 (d_last (d_ret d_nevE))
 d_end)
 (d_last (d_tryN (d_last (d_ret (d_meth (lv := 9) (cx := L2.CX P w) (ct_calm rfl) (allS (MF_Shell_answer T (by decide)) all0) hg hr passLG (d_var (pv 0)) (d_cons (d_var (pv 2)) d_nil))))))))
theorem MF_Shell_execute (T : Tx K mg w.params) {lv : Nat} (h : 10 ≤ lv) : MF P w K mg base CX0 lv "execute" "Shell" F_Shell_execute_2 := mf_of T.gC_Shell T.cl_Shell T.me_Shell_execute (FnG_mono (G_Shell_execute T) h) T.b_Shell_execute
theorem G_law_heard (T : Tx K mg w.params) : Rb.FnG P w K mg base CX0 11 T.f__law_heard T.fd__law_heard ["_law_shell"] (spF (ct0 K mg) F_law_heard) := by
  unfold F_law_heard
  exact
   d_fn T.F__law_heard sc__law_heard fun cdv A out s H E hg hr => (d_last (d_ret (d_lc (own := [("_law_line", 1)]) (g := (gName 1)) (st := (st1 1)) lct1 (by rfl) sc__law_heard.nd (d_iseq (d_lst (d_cons d_str (d_cons d_str (d_cons d_str d_nil))))) (blkOk_by (own := [("_law_line", 1)]) (N := N__law_heard) (sc := defScope s__law_heard) (by decide +kernel)) (fun _ _ _ _ _ => (pg_name (i := 1) sc__law_heard.nd rfl (.inl rfl))) (fun _ _ _ _ _ => d_tnil) (fun _ _ _ _ _ => (d_meth (lv := 10) (cx := CX0) (ct_calm rfl) (allS (MF_Shell_execute T (by decide)) all0) hg hr passG (d_var (pv 0)) (d_cons (d_var (pv 1)) d_nil))))))
theorem G_law (T : Tx K mg w.params) : Rb.FnG P w K mg base CX0 12 T.f_law T.fd_law ["_law_script"] (spF (ct0 K mg) F_law_k58) := by
  unfold F_law_k58
  exact
   d_fnC T.F_law sc_law fun cdv A out s H E hg hr => (d_seq (d_set (i := 1) sc_law.nd rfl (.inl rfl) (d_callW (G_law_deck T) hg (hr.mono (by decide)) (by rfl) T.g__law_deck T.F__law_deck.kp T.b__law_deck passG (d_cons (d_var (pv 0)) d_nil)))
 (d_seq (d_par (i := 2) (j := 3) (by rfl) sc_law.nd rfl rfl (by decide) rfl rfl (d_cons (d_call 2 (G_law_state T) hg (hr.mono (by decide)) (by rfl) T.g__law_state T.F__law_state.kp T.b__law_state passG (d_cons (d_var (pv 1)) (d_cons d_int (d_cons d_int d_nil)))) (d_cons (d_cmp (o_ieq hr.units) (d_callW (G_law_draw T) hg (hr.mono (by decide)) (by rfl) T.g__law_draw T.F__law_draw.kp T.b__law_draw passG (d_cons (d_var (pv 1)) (d_cons d_int d_nil))) d_int (nomark _)) d_nil)) (by rfl))
 (d_seq (d_par (i := 4) (j := 5) (by rfl) sc_law.nd rfl rfl (by decide) rfl rfl (d_cons (d_callW (G_law_made T) hg (hr.mono (by decide)) (by rfl) T.g__law_made T.F__law_made.kp T.b__law_made passLG (d_cons (d_var (pv 2)) (d_cons (d_var (pv 3)) d_nil))) (d_cons (d_lstC (d_cons (d_var (pv 2)) d_nil)) d_nil)) (by rfl))
 (d_seq (d_set (i := 6) sc_law.nd rfl (.inl rfl) (d_make (lv := 1) (ct_calm rfl) (MkF_Shell T) hg (hr.mono (by decide)) (by rfl) T.gC_Shell passG (d_cons (d_var (pv 4)) d_nil)))
 (d_seq (d_for PassesOwn.never rfl (d_rng1 (by rfl) T.z_range (d_cons (d_bin o_add d_int (d_callW (G_law_draw T) hg (hr.mono (by decide)) (by rfl) T.g__law_draw T.F__law_draw.kp T.b__law_draw passG (d_cons (d_var (pv 1)) (d_cons d_int d_nil)))) d_nil)) (d_gn (pg_name (i := 7) sc_law.nd rfl (.inl rfl)))
 (d_seq (d_if (d_tcmp (o_ine hr.units) (d_callW (G_law_heard T) hg hr (by rfl) T.g__law_heard T.F__law_heard.kp T.b__law_heard passG (d_cons (d_var (pv 6)) d_nil)) (d_callW (G_law_answers T) hg (hr.mono (by decide)) (by rfl) T.g__law_answers T.F__law_answers.kp T.b__law_answers passG (d_cons (d_ix (d_var (pv 5)) (d_un u_neg d_int) (fun _ _ => rfl)) d_nil)) (nomark _))
 (d_last (d_ret d_bl))
 d_end)
 (d_cut (d_if (PW.pt (d_and (d_tcmp o_gt (d_callB c_len (by rfl) T.z_len (by decide +kernel) (d_cons (d_var (pv 5)) d_nil)) d_int (nomark _)) (d_and1 (d_tcmp (o_ieq hr.units) (d_callW (G_law_draw T) hg (hr.mono (by decide)) (by rfl) T.g__law_draw T.F__law_draw.kp T.b__law_draw passG (d_cons (d_var (pv 1)) (d_cons d_int d_nil))) d_int (nomark _)))))
 (d_seq (d_expr (d_meth0 (lv := 4) (cx := L2.CX P w) (ct_calm rfl) (allS (MF_Trip_undo T (by decide)) (allS (MF_PromisedTrip_undo T (by decide)) all0)) hg (hr.mono (by decide)) passLG (d_var (pv 4))))
 (d_last (d_expr (d_ml0 PySem.F.slot_list_pop PySem.F.type_list_pop m_pop (d_var (pv 5))))))
 d_end)
 (d_seq (d_set (i := 8) sc_law.nd rfl (.inl rfl) (d_callW (G_law_edit T) hg (hr.mono (by decide)) (by rfl) T.g__law_edit T.F__law_edit.kp T.b__law_edit passG (d_cons (d_var (pv 1)) (d_cons (d_ix (d_var (pv 5)) (d_un u_neg d_int) (fun _ _ => rfl)) d_nil))))
 (d_seq (d_expr (d_callW (G_law_do T) hg (hr.mono (by decide)) (by rfl) T.g__law_do T.F__law_do.kp T.b__law_do passLG (d_cons (d_var (pv 4)) (d_cons (d_var (pv 8)) d_nil))))
 (d_last (d_expr (d_ml PySem.F.slot_list_append PySem.F.type_list_append m_append (d_var (pv 5)) (d_cons (d_callW (G_law_after T) hg (hr.mono (by decide)) (by rfl) T.g__law_after T.F__law_after.kp T.b__law_after passG (d_cons (d_ix (d_var (pv 5)) (d_un u_neg d_int) (fun _ _ => rfl)) (d_cons (d_var (pv 8)) d_nil))) d_nil)))))))))
 (d_seq (d_par3 (i := 9) (j := 10) (l := 11) (by rfl) sc_law.nd rfl rfl rfl (by decide) (by decide) (by decide) rfl rfl rfl (d_cons (d_make (lv := 1) (ct_calm rfl) (MkF_Shell T) hg (hr.mono (by decide)) (by rfl) T.gC_Shell passG (d_cons (d_var (pv 4)) d_nil)) (d_cons (d_callB (c_lenO (lv := 1) (ct_calm rfl) (allS (LnF_Trip T (by decide)) (allS (LnF_PromisedTrip T (by decide)) all0)) hg (hr.mono (by decide))) (by rfl) T.z_len (by decide +kernel) (d_cons (d_var (pv 4)) d_nil)) (d_cons (d_callW (G_law_answers T) hg (hr.mono (by decide)) (by rfl) T.g__law_answers T.F__law_answers.kp T.b__law_answers passG (d_cons (d_ix (d_var (pv 5)) (d_un u_neg d_int) (fun _ _ => rfl)) d_nil)) d_nil))) (by rfl))
 (d_seq (d_if (PW.pt (d_or (d_tcmp (o_ine hr.units) (d_callW (G_law_heard T) hg hr (by rfl) T.g__law_heard T.F__law_heard.kp T.b__law_heard passG (d_cons (d_var (pv 9)) d_nil)) (d_var (pv 11)) (nomark _)) (d_or (d_tcmp (o_ine hr.units) (d_callW (G_law_heard T) hg hr (by rfl) T.g__law_heard T.F__law_heard.kp T.b__law_heard passG (d_cons (d_var (pv 6)) d_nil)) (d_var (pv 11)) (nomark _)) (d_or1 (d_tcmp (o_ine hr.units) (d_callB (c_lenO (lv := 1) (ct_calm rfl) (allS (LnF_Trip T (by decide)) (allS (LnF_PromisedTrip T (by decide)) all0)) hg (hr.mono (by decide))) (by rfl) T.z_len (by decide +kernel) (d_cons (d_var (pv 4)) d_nil)) (d_var (pv 10)) (nomark _))))))
 (d_last (d_ret d_bl))
 d_end)
 (d_seq (d_for PassesOwn.never rfl (d_iseq (d_revL (d_slice (d_var (pv 5)) d_noP (d_part (d_un u_neg d_int))))) (d_gn (pg_name (i := 12) sc_law.nd rfl (.inl rfl)))
 (d_last (d_if (PW.pt (d_or (d_tcmp (o_ine hr.units) (d_slice (d_meth (lv := 10) (cx := CX0) (ct_calm rfl) (allS (MF_Shell_execute T (by decide)) all0) hg (hr.mono (by decide)) passG (d_var (pv 9)) (d_cons d_str d_nil)) d_noP (d_part d_int)) d_str (nomark _)) (d_or1 (d_tcmp (o_ine hr.units) (d_callW (G_law_heard T) hg hr (by rfl) T.g__law_heard T.F__law_heard.kp T.b__law_heard passG (d_cons (d_var (pv 6)) d_nil)) (d_callW (G_law_answers T) hg (hr.mono (by decide)) (by rfl) T.g__law_answers T.F__law_answers.kp T.b__law_answers passG (d_cons (d_var (pv 12)) d_nil)) (nomark _)))))
 (d_last (d_ret d_bl))
 d_end)))
 (d_seq (d_set (i := 13) sc_law.nd rfl (.inr rfl) (d_make (lv := 1) (ct_calm rfl) (MkF_Shell T) hg (hr.mono (by decide)) (by rfl) T.gC_Shell passG (d_cons (d_make (lv := 5) (ct_calm rfl) (MkF_Trip T) hg (hr.mono (by decide)) (by rfl) T.gC_Trip passLG (d_cons (d_tup (d_cons d_int (d_cons d_int (d_cons (d_tup (d_cons d_int (d_cons d_int (d_cons d_int d_nil)))) d_nil)))) (d_cons (d_tup (d_cons d_int (d_cons d_int (d_cons d_int d_nil)))) d_nil))) d_nil)))
 (d_seq (d_setLc (i := 14) (own := [("_law_line", 15)]) (g := (gName 15)) (st := (st1 15)) lct1 (by rfl) sc_law.nd rfl rfl (sw_true rfl rfl rfl (by decide +kernel)) (d_iseq (d_lst (d_cons d_str (d_cons d_str (d_cons d_str (d_cons d_str (d_cons d_str d_nil))))))) (blkOk_by (own := [("_law_line", 15)]) (N := N_law) (sc := defScope s_law) (by decide +kernel)) (fun _ _ _ _ _ => (pg_name (i := 15) sc_law.nd rfl (.inl rfl))) (fun _ _ _ _ _ => d_tnil) (fun _ _ _ _ _ => (d_meth (lv := 10) (cx := CX0) (ct_calm rfl) (allS (MF_Shell_execute T (by decide)) all0) hg (hr.mono (by decide)) passG (d_var (pv 13)) (d_cons (d_var (pv 15)) d_nil))))
 (d_last (d_ret (d_cmp (o_ieq hr.units) (d_var (pv 14)) (d_lst (d_cons d_str (d_cons d_str (d_cons d_str (d_cons d_str (d_cons d_str d_nil)))))) (nomark _))))))))))))))
end
end Pu
namespace Pu
open PySem L2
theorem ifT {b : Bool} {P Q : Prop} (h : b = true) (p : P) : if b = true then P else Q := by rw [if_pos h]; exact p
theorem ifF {b : Bool} {P Q : Prop} (h : b = false) (p : Q) : if b = true then P else Q := by rw [h, if_neg Bool.false_ne_true]; exact p
theorem ifB {b : Bool} {P Q : Prop} (h1 : b = true → P) (h2 : b = false → Q) : if b = true then P else Q := by
  cases b with
  | true => exact ifT rfl (h1 rfl)
  | false => exact ifF rfl (h2 rfl)
theorem onS {α : Type} {o : Option α} {a : α} {k : α → Prop} (h : o = some a) (p : k a) : onSome o k := by rw [h]; exact p
/-! ## numbers in a range, any value -/
def isNum (lo hi : Int) : D → Bool
  | .int i => decide (lo ≤ i) && decide (i ≤ hi)
  | _ => false
theorem number_ok {v : D} {lo hi : Int} {S : Sto} {Q : QD} {E : ED} (hv : (toPy v).isSome = true) (q : Q (.bl (isNum lo hi v)) S) : F_is_number_from [v, .int lo, .int hi] S Q E := by
  unfold F_is_number_from
  refine ⟨rfl, ?_⟩
  cases v with
  | int i =>
    show (onBl (.bl (decide (lo ≤ i))) fun k => if k = true then Q (.bl (decide (i ≤ hi))) S else Q (.bl false) S)
    by_cases h : lo ≤ i <;> simpa [isNum, h, onBl] using q
  | cell _ => cases hv
  | glo _ => cases hv
  | ty _ => cases hv
  | ins _ _ => cases hv
  | exc _ _ => cases hv
  | kls _ => cases hv
  | _ => exact q
/-! ## the deck -/
def deckS (cs : List Int) (n : Int) : Sto := [.lst (cs.map D.int), .lst [.cell 0, .int n]]
def Dk (S : Sto) (N : Int) (T : Sto) : Prop := ∃ cs n, S = deckS cs n ++ T ∧ cs.length ≤ 63 ∧ (∀ x ∈ cs, 0 ≤ x) ∧ 0 ≤ n ∧ n ≤ N
theorem Dk.le {S : Sto} {N M : Int} {T : Sto} (h : Dk S N T) (e : N ≤ M) : Dk S M T := by
  obtain ⟨cs, n, h1, h2, h3, h4, h5⟩ := h
  exact ⟨cs, n, h1, h2, h3, h4, by omega⟩
/-- a comprehension whose element changes nothing -/
theorem comp_map {st : D → Rho → Option Rho} {f : FE} {src : Src} {k : List D → Sto → Prop} {S : Sto} {ρ : Rho} {g : D → D} (hsrc : ∀ P : Prop, P → srcOk src S P) : ∀ (xs acc : List D), (∀ x ∈ xs, ∃ ρ1, st x ρ = some ρ1 ∧ ∀ Q : QD, Q (g x) S → f ρ1 S Q noE) → k (acc ++ xs.map g) S → dCompL st dYes f src xs acc ρ S k
  | [], acc, _, h => by rw [List.map_nil, List.append_nil] at h; exact h
  | x :: xs, acc, hx, h => by
    obtain ⟨ρ1, e, hf⟩ := hx x List.mem_cons_self
    refine onS e ?_
    refine ifT (b := true) (Q := srcOk src S (dCompL st dYes f src xs acc ρ S k)) rfl ?_
    refine hf _ (hsrc _ (comp_map hsrc xs _ (fun y hy => hx y (List.mem_cons_of_mem _ hy)) ?_))
    rw [List.append_assoc]
    exact h
def absI (i : Int) : Int := if i < 0 then -i else i
theorem absI_nn (i : Int) : 0 ≤ absI i := by unfold absI; split <;> omega
end Pu
namespace Pu
open PySem L2
/-- a loop by an invariant -/
theorem for_inv {g : FG} {fb : FS} {src : Src} {De : DEnds} {Ed : ED} {ρ : Rho} {S : Sto} (xs : List D) (I : Nat → Rho → Sto → Prop) (h0 : I 0 ρ S)
    (hs : ∀ (i : Nat) (x : D) (ρ : Rho) (S : Sto) (K : Rho → Sto → Prop), xs[i]? = some x → (∀ ρ' S', I (i + 1) ρ' S' → K ρ' S') → I i ρ S → g x ρ S (fun ρ1 S1 => fb ρ1 S1 ⟨K, De.rt, De.nx, K⟩ Ed) Ed)
    (hd : ∀ ρ S, I xs.length ρ S → De.nx ρ S) (hsrc : ∀ i ρ S, I i ρ S → ∀ P : Prop, P → srcOk src S P := by intro _ _ _ _ _ p; exact p) : dLoop g fb src xs ρ S De Ed := by
  have go : ∀ (m n : Nat) (ρ : Rho) (S : Sto), n + m = xs.length → I n ρ S → dLoop g fb src (xs.drop n) ρ S De Ed := by
    intro m
    induction m with
    | zero =>
      intro n ρ S e h
      have : n = xs.length := by omega
      subst this
      rw [List.drop_length]
      exact hd ρ S h
    | succ m ih =>
      intro n ρ S e h
      have hlt : n < xs.length := by omega
      have hx := List.getElem?_eq_getElem hlt
      rw [drop_cons hx]
      exact hs n _ ρ S _ hx (fun ρ' S' h' => hsrc _ _ _ h' _ (ih (n + 1) ρ' S' (by omega) h')) h
  exact go xs.length 0 ρ S (by omega) h0
theorem rangeD_len {lo : Int} {n : Nat} : (rangeD lo n).length = n := by unfold rangeD; rw [List.length_map, List.length_range]
theorem for_rng {g : FG} {fb : FS} {De : DEnds} {Ed : ED} {ρ : Rho} {S : Sto} (lo : Int) (n : Nat) (I : Nat → Rho → Sto → Prop) (h0 : I 0 ρ S)
    (hs : ∀ (i : Nat) (ρ : Rho) (S : Sto) (K : Rho → Sto → Prop), i < n → (∀ ρ' S', I (i + 1) ρ' S' → K ρ' S') → I i ρ S → g (.int (lo + (i : Int))) ρ S (fun ρ1 S1 => fb ρ1 S1 ⟨K, De.rt, De.nx, K⟩ Ed) Ed)
    (hd : ∀ ρ S, I n ρ S → De.nx ρ S) : dLoop g fb [] (rangeD lo n) ρ S De Ed := by
  refine for_inv (rangeD lo n) I h0 (fun i x ρ S K hx hK hI => ?_) (fun ρ S h => hd ρ S (by rw [rangeD_len] at h; exact h))
  obtain ⟨h1, rfl⟩ := rangeD_get hx
  exact hs i ρ S K h1 hK hI
theorem szd {n : Nat} (h : n ≤ 100000) : n ≤ sizeLine := Rb.sz_le h
def roadV (wk rd : Int) (bs : List Int) : D := .tup [.int wk, .int rd, .tup (bs.map .int)]
end Pu
namespace Pu
open PySem L2
theorem py_ints (ns : List Int) : toPyAll (ns.map D.int) = some (ns.map .int) := by
  induction ns with
  | nil => rfl
  | cons n ns ih =>
    show (toPy (.int n)).bind (fun p => (toPyAll (ns.map D.int)).map (p :: ·)) = _
    rw [ih]
    rfl
end Pu
namespace Pu
open PySem L2
theorem szr {n : Nat} (h : Nat.ble n 100000 = true) : n ≤ sizeLine := szd (Nat.le_of_ble_eq_true h)
/-! ## any value, of a bounded size -/
structure Av (k n : Nat) (d : D) : Prop where
  py : ∃ p, toPy d = some p ∧ Rb.Nice k n p
  kn : known d = true
abbrev Avs (k n : Nat) (ds : List D) : Prop := ∀ d ∈ ds, Av k n d
theorem Av.some {k n : Nat} {d : D} (h : Av k n d) : (toPy d).isSome = true := by
  obtain ⟨p, e, _⟩ := h.py
  rw [e]
  rfl
theorem Av.mono {k n k' n' : Nat} {d : D} (h : Av k n d) (h1 : k ≤ k') (h2 : n ≤ n') : Av k' n' d := by
  obtain ⟨p, e, hn⟩ := h.py
  exact ⟨⟨p, e, hn.mono h1 h2⟩, h.kn⟩
theorem Av.int {i : Int} (h : i.natAbs < 10 ^ 99) : Av 0 0 (.int i) := ⟨⟨_, rfl, Rb.Nice.int h⟩, rfl⟩
theorem Av.non : Av 0 0 .non := ⟨⟨_, rfl, Rb.Nice.none⟩, rfl⟩
theorem Av.bl {b : Bool} : Av 0 0 (.bl b) := ⟨⟨_, rfl, Rb.Nice.bool⟩, rfl⟩
theorem avs_py {k n : Nat} : ∀ {ds : List D}, Avs k n ds → (∃ ps, toPyAll ds = some ps ∧ ps.length = ds.length ∧ ∀ p ∈ ps, Rb.Nice k n p) ∧ knownAll ds = true
  | [], _ => ⟨⟨[], rfl, rfl, fun _ z => nomatch z⟩, rfl⟩
  | d :: ds, h => by
    obtain ⟨⟨ps, e, hl, hn⟩, hk⟩ := avs_py (ds := ds) fun x hx => h x (List.mem_cons_of_mem _ hx)
    obtain ⟨⟨p, e1, h1⟩, k1⟩ := h d List.mem_cons_self
    refine ⟨⟨p :: ps, ?_, by rw [List.length_cons, List.length_cons, hl], fun q hq => ?_⟩, ?_⟩
    · show (toPy d).bind (fun p => (toPyAll ds).map (p :: ·)) = _
      rw [e1, e]
      rfl
    · rcases List.mem_cons.mp hq with rfl | hq
      · exact h1
      · exact hn q hq
    · show (known d && knownAll ds) = true
      rw [k1, hk]
      rfl
theorem Av.tup {k n m : Nat} {ds : List D} (h : Avs k n ds) (hm : ds.length * (n + 1) ≤ m) : Av (k + 1) m (.tup ds) := by
  obtain ⟨⟨ps, e, hl, hn⟩, hk⟩ := avs_py h
  refine ⟨⟨.tuple ps, ?_, Rb.Nice.tup hn (by rw [hl]; exact hm)⟩, hk⟩
  show (toPyAll ds).map PyData.tuple = _
  rw [e]
  rfl
theorem Av.lst {k n m : Nat} {ds : List D} (h : Avs k n ds) (hm : ds.length * (n + 1) ≤ m) : Av (k + 1) m (.lst true ds) := by
  obtain ⟨⟨ps, e, hl, hn⟩, hk⟩ := avs_py h
  refine ⟨⟨.list ps, ?_, Rb.Nice.lst hn (by rw [hl]; exact hm)⟩, hk⟩
  show (toPyAll ds).map PyData.list = _
  rw [e]
  rfl
theorem Avs.nil {k n : Nat} : Avs k n [] := fun _ z => nomatch z
theorem Avs.cons {k n : Nat} {d : D} {ds : List D} (h : Av k n d) (t : Avs k n ds) : Avs k n (d :: ds) := fun x hx => by
  rcases List.mem_cons.mp hx with rfl | hx
  · exact h
  · exact t x hx
theorem Avs.app {k n : Nat} {ds es : List D} (h : Avs k n ds) (t : Avs k n es) : Avs k n (ds ++ es) := fun x hx => by
  rcases List.mem_append.mp hx with hx | hx
  · exact h x hx
  · exact t x hx
theorem Avs.ints {ns : List Int} (h : ∀ i ∈ ns, i.natAbs < 10 ^ 99) : Avs 0 0 (ns.map D.int) := fun x hx => by
  obtain ⟨i, hi, rfl⟩ := List.mem_map.mp hx
  exact Av.int (h i hi)
theorem Avs.mono {k n k' n' : Nat} {ds : List D} (h : Avs k n ds) (h1 : k ≤ k') (h2 : n ≤ n') : Avs k' n' ds := fun x hx => (h x hx).mono h1 h2
theorem cutD_le {ds : List D} {lo hi : Option Int} : (cutD ds lo hi).length ≤ ds.length := by
  unfold cutD
  rw [List.length_take, List.length_drop]
  omega
theorem Avs.rep {k n m : Nat} {ds : List D} (h : Avs k n ds) : Avs k n (List.replicate m ds).flatten := fun x hx => by
  obtain ⟨l, hl, hx⟩ := List.mem_flatten.mp hx
  rw [(List.mem_replicate.mp hl).2] at hx
  exact h x hx
/-! ## odd values -/
end Pu
namespace Pu
open PySem L2 Rb
/-! ## people, plans -/
def natsV (r : List Nat) : List D := r.map fun p : Nat => D.int (p : Int)
def ridersV (r : List Nat) : D := .tup (natsV r)
def planV (plan : List (List Nat)) : D := .tup (plan.map ridersV)
def nI (r : List Nat) : List Int := r.map fun p : Nat => (p : Int)
theorem natsV_eq (r : List Nat) : natsV r = (nI r).map D.int := by unfold natsV nI; rw [List.map_map]; rfl
theorem nI_len (r : List Nat) : (nI r).length = r.length := by unfold nI; rw [List.length_map]
theorem natsV_len (r : List Nat) : (natsV r).length = r.length := by unfold natsV; rw [List.length_map]
theorem nI_asc {r : List Nat} (h : (nI r).Pairwise (· ≤ ·)) (nd : r.Nodup) : r.Pairwise (· < ·) := by
  unfold nI at h
  have h1 := List.pairwise_map.mp h
  have h2 := List.nodup_iff_pairwise_ne.mp nd
  exact (h1.and h2).imp fun ⟨a, b⟩ => by omega
structure PlanPre (bikes : List Int) (n : Nat) (plan : List (List Nat)) : Prop where
  asc : ∀ r ∈ plan, r.Pairwise (· < ·)
  lt : ∀ r ∈ plan, ∀ p ∈ r, p < n
  few : ∀ i, i < plan.length → (plan.getD i []).length ≤ (bikes.getD i 0).toNat + (brM plan i).length
theorem getD_app {α : Type} {l m : List α} {i : Nat} {d : α} (h : i < l.length) : (l ++ m).getD i d = l.getD i d := by
  rw [List.getD_eq_getElem?_getD, List.getD_eq_getElem?_getD, List.getElem?_append_left h]
theorem PlanPre.snoc {bikes : List Int} {n : Nat} {plan : List (List Nat)} {r : List Nat} (h : PlanPre bikes n plan) (h1 : r.Pairwise (· < ·)) (h2 : ∀ p ∈ r, p < n) (h3 : r.length ≤ (bikes.getD plan.length 0).toNat + (brM plan plan.length).length) : PlanPre bikes n (plan ++ [r]) := by
  refine ⟨fun s hs => ?_, fun s hs => ?_, fun i hi => ?_⟩
  · rcases List.mem_append.mp hs with g | g
    · exact h.asc s g
    · rw [List.mem_singleton.mp g]; exact h1
  · rcases List.mem_append.mp hs with g | g
    · exact h.lt s g
    · rw [List.mem_singleton.mp g]; exact h2
  · have hi : i < plan.length + 1 := by rw [List.length_append] at hi; exact hi
    have eb : brM (plan ++ [r]) i = brM plan i := by
      unfold brM
      split
      · rfl
      · exact getD_app (by omega)
    rw [eb]
    by_cases e : i < plan.length
    · rw [getD_app e]
      exact h.few i e
    · have e : i = plan.length := by omega
      subst e
      have : (plan ++ [r]).getD plan.length [] = r := by
        rw [List.getD_eq_getElem?_getD, List.getElem?_append_right (Nat.le_refl _), Nat.sub_self]
        rfl
      rw [this]
      exact h3
theorem PlanPre.ok {bikes : List Int} {n : Nat} {plan : List (List Nat)} (h : PlanPre bikes n plan) (hl : plan.length = bikes.length) (hn : ∀ b ∈ bikes, 0 ≤ b) : PlanOk bikes n plan := by
  refine ⟨hl, hn, h.asc, h.lt, fun i => ?_⟩
  by_cases hi : i < plan.length
  · have := h.few i hi
    have e : (brM plan i).length = if i = 0 then 0 else (plan.getD (i - 1) []).length := by
      unfold brM
      split <;> rfl
    rw [← e]
    exact this
  · rw [List.getD_eq_getElem?_getD, List.getElem?_eq_none (by omega)]
    exact Nat.zero_le _
/-! what is below -/
theorem below_ints {k : Nat} : ∀ (ns : List Int), belowAll k (ns.map D.int) = true
  | [] => rfl
  | n :: ns => below_ints ns
theorem below_nats {k : Nat} (r : List Nat) : belowAll k (natsV r) = true := by rw [natsV_eq]; exact below_ints _
theorem below_plan {k : Nat} : ∀ (plan : List (List Nat)), belowAll k (plan.map ridersV) = true
  | [] => rfl
  | r :: plan => by
    show (belowAll k (natsV r) && belowAll k (plan.map ridersV)) = true
    rw [below_nats, below_plan plan]
    rfl
theorem set_last {A : Sto} {c d : Cl} : (A ++ [c]).set A.length d = A ++ [d] := by
  rw [List.set_append_right _ _ (Nat.le_refl _), Nat.sub_self]
  rfl
theorem Dk.len {S : Sto} {N : Int} {T : Sto} (h : Dk S N T) : S.length = 2 + T.length := by
  obtain ⟨cs, n, rfl, _⟩ := h
  rw [List.length_append]
  rfl
theorem Dk.snoc {S : Sto} {N : Int} {T : Sto} (h : Dk S N T) (c : Cl) : Dk (S ++ [c]) N (T ++ [c]) := by
  obtain ⟨cs, n, rfl, h⟩ := h
  exact ⟨cs, n, by rw [List.append_assoc], h⟩
theorem Dk.take2 {S : Sto} {N : Int} {T : Sto} (h : Dk S N T) : Dk (S.take 2) N [] ∧ S.drop 2 = T ∧ (S.take 2).all (Cl.below 2) = true ∧ (S.take 2).length = 2 := by
  obtain ⟨cs, n, rfl, h⟩ := h
  refine ⟨⟨cs, n, rfl, h⟩, rfl, ?_, rfl⟩
  show (belowAll 2 (cs.map D.int) && ((true && (true && true)) && true)) = true
  rw [below_ints]
  rfl
end Pu
namespace Pu
open PySem L2 Rb
/-! ## what is a plan -/
theorem zipD_lenEq {xs ys : List D} : xs.length = ys.length → (zipD xs ys).length = xs.length := by
  induction xs generalizing ys with
  | nil => intro _; cases ys <;> rfl
  | cons x xs ih =>
    intro h
    match ys, h with
    | y :: ys, h => exact congrArg (· + 1) (ih (ys := ys) (Nat.succ.inj h))
/-! the law's own look -/
end Pu
namespace Pu
open PySem L2 Rb
def tupLe (k : Nat) : D → Bool
  | .tup xs => Nat.ble xs.length k
  | _ => true
def smallD (k : Nat) : D → Bool
  | .tup vs => vs.all (tupLe k)
  | _ => true
theorem tupLe_tup {k : Nat} {xs : List D} (h : xs.length ≤ k) : tupLe k (.tup xs) = true := Nat.ble_eq_true_of_le h
/-- an item of a plan -/
structure Ri (d : D) : Prop where
  av : Av 3 1000 d
  le : tupLe 60 d = true
structure Ok2 (d : D) : Prop where
  av : Av 5 40000 d
  sm : smallD 60 d = true
theorem Ri.tup {ds : List D} (h : Avs 2 20 ds) (hl : ds.length ≤ 40) : Ri (.tup ds) := ⟨Av.tup h (by omega), tupLe_tup (by omega)⟩
theorem Ri.lst {ds : List D} (h : Avs 2 20 ds) (hl : ds.length ≤ 40) : Ri (.lst true ds) := ⟨Av.lst h (by omega), rfl⟩
theorem Ok2.tup {ds : List D} (h : ∀ d ∈ ds, Ri d) (hl : ds.length ≤ 30) : Ok2 (.tup ds) := ⟨(Av.tup (k := 3) (n := 1000) (m := 40000) (fun d hd => (h d hd).av) (by omega)).mono (by decide) (by decide), List.all_eq_true.mpr fun d hd => (h d hd).le⟩
theorem Ok2.lst {ds : List D} (h : ∀ d ∈ ds, Ri d) (hl : ds.length ≤ 30) : Ok2 (.lst true ds) := ⟨(Av.lst (k := 3) (n := 1000) (m := 40000) (fun d hd => (h d hd).av) (by omega)).mono (by decide) (by decide), rfl⟩
end Pu
namespace Pu
open PySem L2 Rb
def tkD (ticks : List Int) : D := .tup (ticks.map D.int)
theorem atI_tick {ticks : List Int} {p : Nat} (h : p < ticks.length) : atI (ticks.map D.int) (p : Int) = some (.int (tickAt ticks p)) := by
  refine atI_nat ?_
  rw [List.getElem?_map, List.getElem?_eq_getElem h]
  unfold tickAt
  rw [List.getD_eq_getElem?_getD, List.getElem?_eq_getElem h]
  rfl
def tickD (ticks : List Int) : D → D
  | .int p => .int (tickAt ticks p.toNat)
  | d => d
theorem tickD_map (ticks : List Int) (r : List Nat) : (natsV r).map (tickD ticks) = (r.map fun p => tickAt ticks p).map D.int := by
  unfold natsV
  rw [List.map_map, List.map_map]
  rfl
theorem bike_ticks_okW {ticks : List Int} {brought : List Nat} {st : Int} {S : Sto} {Q : QD} {E : ED} (h0 : 0 ≤ st) (h1 : st ≤ 50) (hb : ∀ p ∈ brought, p < ticks.length) (hl : brought.length ≤ 20)
    (q : Q (.lst false ((bikesM ticks brought st.toNat).map D.int)) S) : F_bike_ticks [tkD ticks, ridersV brought, .int st] S Q E := by
  unfold F_bike_ticks
  have nl : (natsV brought).length ≤ 20 := by rw [natsV_len]; exact hl
  refine ⟨rfl, szr rfl, ⟨by omega, by omega, szd (by show 1 * st.toNat ≤ 100000; omega)⟩, szd (by show (natsV brought).length ≤ 100000; omega), comp_map (src := []) (g := tickD ticks) (fun _ p => p) (natsV brought) [] (fun x hx => ?_) ?_⟩
  · obtain ⟨p, hp, rfl⟩ := List.mem_map.mp hx
    exact ⟨_, rfl, fun Q' q' => onS (atI_tick (hb p hp)) q'⟩
  rw [List.nil_append, tickD_map]
  have e1 : (List.replicate st.toNat [D.int 0]).flatten = (List.replicate st.toNat (0 : Int)).map D.int := by
    generalize st.toNat = m
    induction m with
    | zero => rfl
    | succ m ih => rw [List.replicate_succ, List.replicate_succ, List.flatten_cons, ih]; rfl
  rw [e1]
  refine ⟨szd (by rw [List.length_map, List.length_replicate, List.length_map, List.length_map]; omega), .inl ⟨List.replicate st.toNat 0 ++ brought.map (fun p => tickAt ticks p), by rw [List.map_append], q⟩⟩
def prD (p : Int × Int) : D := .tup [.int p.1, .int p.2]
def pairD (ticks : List Int) : D → D
  | .int p => .tup [.int (tickAt ticks p.toNat), .int p]
  | d => d
theorem pairD_map (ticks : List Int) (r : List Nat) : (natsV r).map (pairD ticks) = (r.map fun p => (tickAt ticks p, (p : Int))).map prD := by
  unfold natsV
  rw [List.map_map, List.map_map]
  rfl
def zpD (z : (Int × Int) × Int) : D := .tup [prD z.1, .int z.2]
theorem zipD_map : ∀ (q : List (Int × Int)) (b : List Int), zipD (q.map fun p => D.tup [.int p.1, .int p.2]) (b.map D.int) = (q.zip b).map zpD
  | [], _ => rfl
  | _ :: _, [] => rfl
  | x :: q, y :: b => by
    show _ :: zipD (q.map fun p => D.tup [.int p.1, .int p.2]) (b.map D.int) = _ :: (q.zip b).map zpD
    rw [zipD_map q b]
    rfl
theorem ixN_nat {n m : Nat} (h : m < n) : ixN n (m : Int) = some m := by
  unfold ixN
  rw [if_pos (by omega), if_pos (by omega), Int.toNat_natCast]
theorem leaving_okW {ticks : List Int} {riders brought : List Nat} {st : Nat} {S : Sto} {Q : QD} {E : ED} (hs : S = []) (hr : ∀ p ∈ riders, p < ticks.length) (hl : riders.length ≤ 20) (ht : ticks.length ≤ 20) (h2 : riders.length ≤ st + brought.length) (h12 : st ≤ 50) (hb10 : brought.length ≤ 20)
    (q : Q (.lst false ((leaveM ticks riders brought st).map D.int)) []) : F_leaving_ticks [tkD ticks, ridersV riders, .lst false ((bikesM ticks brought st).map D.int)] S Q E := by
  subst hs
  unfold F_leaving_ticks
  have nl : (natsV riders).length ≤ 20 := by rw [natsV_len]; exact hl
  refine ⟨rfl, szd (by show (natsV riders).length ≤ 100000; omega), comp_map (src := []) (g := pairD ticks) (fun _ p => p) (natsV riders) [] (fun x hx => ?_) ?_⟩
  · obtain ⟨p, hp, rfl⟩ := List.mem_map.mp hx
    exact ⟨_, rfl, fun Q' q' => onS (atI_tick (hr p hp)) ⟨szr rfl, q'⟩⟩
  rw [List.nil_append, pairD_map]
  refine .inr ⟨riders.map fun p => (tickAt ticks p, (p : Int)), rfl, ?_⟩
  have e1 : srtP (riders.map fun p => (tickAt ticks p, (p : Int))) = queueM ticks riders := rfl
  rw [e1]
  have ez : zipD ((queueM ticks riders).map fun p => D.tup [.int p.1, .int p.2]) ((bikesM ticks brought st).map D.int) = (pairsM ticks riders brought st).map zpD := zipD_map _ _
  have hS : (ticks.map D.int).length = ticks.length := List.length_map ..
  show dLoop _ _ [] (zipD ((queueM ticks riders).map fun p => D.tup [.int p.1, .int p.2]) ((bikesM ticks brought st).map D.int)) _ _ _ _
  rw [ez]
  refine for_inv (src := []) _ (fun i ρ S' => S' = [.lst ((setF ticks (((pairsM ticks riders brought st).take i).map fun z => (z.1.2.toNat, mx z.1.1 z.2))).map D.int)] ∧ ∃ y4 y5 y6 y7, ρ = [some (tkD ticks), some (ridersV riders), some (.lst false ((bikesM ticks brought st).map D.int)), some (.cell 0), y4, y5, y6, y7]) ⟨rfl, _, _, _, _, rfl⟩ ?_ ?_
  · rintro i x ρ S' K hx hK ⟨rfl, y4, y5, y6, y7, rfl⟩
    rw [List.getElem?_map] at hx
    obtain ⟨z, hz, rfl⟩ := Option.map_eq_some_iff.mp hx
    obtain ⟨p, hp, ep⟩ := pairs_mem (List.mem_of_getElem? hz)
    have hpl := hr p hp
    have e2 : z.1.2 = (p : Int) := by rw [ep]
    refine ⟨rfl, rfl, ?_⟩
    have hsn := setF_snoc ticks (((pairsM ticks riders brought st).take i).map fun z => (z.1.2.toNat, mx z.1.1 z.2)) (z.1.2.toNat, mx z.1.1 z.2)
    have hll : (setF ticks (((pairsM ticks riders brought st).take i).map fun z => (z.1.2.toNat, mx z.1.1 z.2))).length = ticks.length := setF_len _ _
    have hK2 : ∀ ρ', (∃ y4 y5 y6 y7, ρ' = [some (tkD ticks), some (ridersV riders), some (.lst false ((bikesM ticks brought st).map D.int)), some (.cell 0), y4, y5, y6, y7]) → K ρ' [.lst (((setF ticks (((pairsM ticks riders brought st).take i).map fun z => (z.1.2.toNat, mx z.1.1 z.2))).map D.int).set p (.int (mx z.1.1 z.2)))] := fun ρ' he => hK ρ' _ ⟨by
      rw [take_snoc hz, List.map_append]
      rw [show ([z].map fun z : (Int × Int) × Int => (z.1.2.toNat, mx z.1.1 z.2)) = [(z.1.2.toNat, mx z.1.1 z.2)] from rfl, hsn, List.map_set, e2, Int.toNat_natCast], he⟩
    generalize setF ticks (((pairsM ticks riders brought st).take i).map fun z => (z.1.2.toNat, mx z.1.1 z.2)) = L at hK2 hll
    refine onS (o := ixN (L.map D.int).length z.1.2) (a := p) ?_ ?_
    · rw [e2]
      refine ixN_nat ?_
      rw [List.length_map, hll]
      exact hpl
    · exact hK2 _ ⟨_, _, _, _, rfl⟩
  · rintro ρ S' ⟨rfl, y4, y5, y6, y7, rfl⟩
    rw [List.length_map, List.take_length]
    refine ⟨⟨rfl, rfl⟩, onS (a := .lst false ((leaveM ticks riders brought st).map D.int)) ?_ q⟩
    show (if belowAll 0 _ = true then some (D.lst false _) else none) = _
    rw [below_ints]
    rfl
end Pu
namespace Pu
open PySem L2 Rb
def rowsV (rows : List (List Int)) : List D := rows.map tkD
def stepD (wk rd : Int) (r : List Nat) : D → D
  | .tup [.int p, .int t] => .int (t + if p ∈ nI r then rd else wk)
  | d => d
theorem nI_mem {r : List Nat} {p : Nat} : (p : Int) ∈ nI r ↔ p ∈ r := by
  unfold nI
  constructor
  · intro h
    obtain ⟨q, hq, e⟩ := List.mem_map.mp h
    have : q = p := by omega
    exact this ▸ hq
  · intro h
    exact List.mem_map.mpr ⟨p, h, rfl⟩
theorem step_map {wk rd : Int} {r : List Nat} {l : List Int} : (enumD (l.map D.int)).map (stepD wk rd r) = (l.mapIdx fun p t => t + if p ∈ r then rd else wk).map D.int := by
  unfold enumD
  apply List.ext_getElem?
  intro i
  rw [List.getElem?_map, List.getElem?_mapIdx, List.getElem?_map, List.getElem?_map, List.getElem?_mapIdx]
  cases l[i]? with
  | none => rfl
  | some t =>
    show some (D.int (t + if (i : Int) ∈ nI r then rd else wk)) = some (D.int (t + if i ∈ r then rd else wk))
    by_cases h : i ∈ r
    · rw [if_pos h, if_pos (nI_mem.mpr h)]
    · rw [if_neg h, if_neg (fun z => h (nI_mem.mp z))]
theorem rowsM_succ {wk rd : Int} {bs starts : List Int} {plan : List (List Nat)} {i : Nat} : rowsM wk rd bs starts plan (i + 1) = rowsM wk rd bs starts plan i ++ [tkM wk rd bs starts plan (i + 1)] := by
  unfold rowsM
  rw [List.range_succ, List.map_append]
  rfl
theorem rowsM_last {wk rd : Int} {bs starts : List Int} {plan : List (List Nat)} {i : Nat} : atI (rowsV (rowsM wk rd bs starts plan i)) (-1) = some (tkD (tkM wk rd bs starts plan i)) := by
  have e : rowsV (rowsM wk rd bs starts plan i) = rowsV ((List.range i).map (tkM wk rd bs starts plan)) ++ [tkD (tkM wk rd bs starts plan i)] := by
    unfold rowsM rowsV
    rw [List.range_succ, List.map_append, List.map_append]
    rfl
  rw [e]
  exact atI_last _ _
theorem below_rows {k : Nat} : ∀ rows : List (List Int), belowAll k (rowsV rows) = true
  | [] => rfl
  | r :: rows => by
    show (belowAll k (r.map D.int) && belowAll k (rowsV rows)) = true
    rw [below_ints, below_rows rows]
    rfl
theorem ticks_okW {wk rd : Int} {bs starts : List Int} {n : Nat} {plan : List (List Nat)} {S : Sto} {Q : QD} {E : ED} (hs : S = []) (ok : PlanOk bs n plan) (hn : starts.length = n) (n2 : n ≤ 20) (l2 : bs.length ≤ 12) (hb : ∀ b ∈ bs, 0 ≤ b ∧ b ≤ 50)
    (q : Q (.tup (rowsV (rowsM wk rd bs starts plan bs.length))) []) : F_ticks_of [roadV wk rd bs, tkD starts, planV plan] S Q E := by
  subst hs
  unfold F_ticks_of
  have hl := ok.len
  refine ⟨rfl, rfl, szr rfl, szr rfl, ?_⟩
  show dLoop _ _ [] (zipD (plan.map ridersV) (bs.map D.int)) _ _ _ _
  refine for_inv (src := []) _ (fun i ρ S' => S' = [.lst (rowsV (rowsM wk rd bs starts plan i))] ∧ ∃ y8 y9 y10 y11 y12 y13, ρ = [some (roadV wk rd bs), some (tkD starts), some (planV plan), some (.int wk), some (.int rd), some (.tup (bs.map D.int)), some (.cell 0), some (ridersV (brM plan i)), y8, y9, y10, y11, y12, y13]) ⟨rfl, _, _, _, _, _, _, rfl⟩ ?_ ?_
  · rintro i x ρ S' K hx hK ⟨rfl, y8, y9, y10, y11, y12, y13, rfl⟩
    obtain ⟨u, y, hu, hy, rfl⟩ := zipD_get hx
    rw [List.getElem?_map] at hu hy
    obtain ⟨r, hri, rfl⟩ := Option.map_eq_some_iff.mp hu
    obtain ⟨b, hbi, rfl⟩ := Option.map_eq_some_iff.mp hy
    have ib : i < bs.length := (List.getElem?_eq_some_iff.mp hbi).1
    have hbb := hb b (List.mem_of_getElem? hbi)
    have hrm := List.mem_of_getElem? hri
    have er : plan.getD i [] = r := by rw [List.getD_eq_getElem?_getD, hri]; rfl
    have eb : bs.getD i 0 = b := by rw [List.getD_eq_getElem?_getD, hbi]; rfl
    have brm : ∀ p ∈ brM plan i, p < n := fun p hp => by
      unfold brM at hp
      split at hp
      · cases hp
      · by_cases e : i - 1 < plan.length
        · rw [List.getD_eq_getElem?_getD, List.getElem?_eq_getElem e] at hp
          exact ok.lt _ (List.getElem_mem e) p hp
        · rw [List.getD_eq_getElem?_getD, List.getElem?_eq_none (by omega)] at hp
          cases hp
    have brl : (brM plan i).length ≤ 20 := by
      unfold brM
      split
      · exact Nat.zero_le _
      · by_cases e : i - 1 < plan.length
        · rw [List.getD_eq_getElem?_getD, List.getElem?_eq_getElem e]
          exact Nat.le_trans (nodup_le ((ok.asc _ (List.getElem_mem e)).imp fun h => Nat.ne_of_lt h) (ok.lt _ (List.getElem_mem e))) n2
        · rw [List.getD_eq_getElem?_getD, List.getElem?_eq_none (by omega)]
          exact Nat.zero_le _
    have rl : r.length ≤ 20 := Nat.le_trans (nodup_le ((ok.asc _ hrm).imp fun h => Nat.ne_of_lt h) (ok.lt _ hrm)) n2
    have tl : (tkM wk rd bs starts plan i).length = n := by rw [tkM_len, hn]
    have few : r.length ≤ b.toNat + (brM plan i).length := by
      have := ok.few i
      rw [er, eb] at this
      have e : (brM plan i).length = if i = 0 then 0 else (plan.getD (i - 1) []).length := by
        unfold brM
        split <;> rfl
      rw [e]
      exact this
    have hK2 : ∀ ρ', (∃ y8 y9 y10 y11 y12 y13, ρ' = [some (roadV wk rd bs), some (tkD starts), some (planV plan), some (.int wk), some (.int rd), some (.tup (bs.map D.int)), some (.cell 0), some (ridersV r), y8, y9, y10, y11, y12, y13]) → K ρ' [.lst (rowsV (rowsM wk rd bs starts plan i) ++ [.tup ((rowM (tkM wk rd bs starts plan i) r (brM plan i) b.toNat wk rd).map D.int)])] := fun ρ' he => hK ρ' _ ⟨by
      rw [rowsM_succ]
      have : tkM wk rd bs starts plan (i + 1) = rowM (tkM wk rd bs starts plan i) r (brM plan i) b.toNat wk rd := by
        show rowM _ (plan.getD i []) _ (bs.getD i 0).toNat _ _ = _
        rw [er, eb]
      rw [this]
      unfold rowsV
      rw [List.map_append]
      rfl, by
      have : brM plan (i + 1) = r := by
        unfold brM
        rw [if_neg (Nat.succ_ne_zero i), Nat.add_sub_cancel, er]
      rw [this]
      exact he⟩
    have rll : (rowsV (rowsM wk rd bs starts plan i)).length = i + 1 := by unfold rowsV rowsM; rw [List.length_map, List.length_map, List.length_range]
    have lst := rowsM_last (wk := wk) (rd := rd) (bs := bs) (starts := starts) (plan := plan) (i := i)
    generalize rowsV (rowsM wk rd bs starts plan i) = RR at hK2 rll lst
    generalize tkM wk rd bs starts plan i = tk at hK2 tl lst
    generalize brM plan i = br at hK2 brm brl few
    refine ⟨rfl, onS lst ?_⟩
    refine bike_ticks_okW (by omega) (by omega) (fun p hp => by rw [tl]; exact brm p hp) brl ?_
    have bl : belowAll 0 [tkD tk, ridersV r, .lst false ((bikesM tk br b.toNat).map D.int)] = true := by
      show (belowAll 0 (tk.map D.int) && (belowAll 0 (natsV r) && (belowAll 0 ((bikesM tk br b.toNat).map D.int) && true))) = true
      rw [below_ints, below_nats, below_ints]
      rfl
    refine ⟨⟨bl, rfl⟩, leaving_okW rfl (fun p hp => by rw [tl]; exact ok.lt r hrm p hp) rl (by omega) few (by omega) brl ⟨rfl, ?_⟩⟩
    have ll : ((leaveM tk r br b.toNat).map D.int).length = n := by rw [List.length_map, leaveM_len, tl]
    have el : (enumD ((leaveM tk r br b.toNat).map D.int)).length = n := by unfold enumD; rw [List.length_mapIdx, ll]
    refine ⟨szd (by show (enumD ((leaveM tk r br b.toNat).map D.int)).length ≤ 100000; omega), comp_map (src := []) (g := stepD wk rd r) (fun _ p => p) (enumD ((leaveM tk r br b.toNat).map D.int)) [] (fun x hx => ?_) ?_⟩
    · obtain ⟨j, hj, ej⟩ := List.getElem_of_mem hx
      obtain ⟨y, hy, rfl⟩ := enumD_get (List.getElem?_eq_some_iff.mpr ⟨hj, ej⟩)
      rw [List.getElem?_map] at hy
      obtain ⟨t, ht, rfl⟩ := Option.map_eq_some_iff.mp hy
      refine ⟨_, rfl, fun Q' q' => onS (a := nI r) (by show intsOf (natsV r) = _; rw [natsV_eq]; exact intsOf_map _) ?_⟩
      have q2 : Q' (.int (t + if (j : Int) ∈ nI r then rd else wk)) _ := q'
      refine ifB (fun c => ?_) fun c => ?_
      · have c' : (j : Int) ∈ nI r := of_decide_eq_true c
        rw [if_pos c'] at q2
        exact q2
      · have c' : ¬ (j : Int) ∈ nI r := of_decide_eq_false c
        rw [if_neg c'] at q2
        exact q2
    rw [List.nil_append, step_map]
    have e9 : ((leaveM tk r br b.toNat).mapIdx fun p t => t + if p ∈ r then rd else wk) = rowM tk r br b.toNat wk rd := rfl
    rw [e9]
    refine ⟨Nat.lt_of_le_of_lt (Nat.le_of_eq rll) (Nat.lt_of_lt_of_le (show i + 1 < 100 by omega) (by decide)), ?_⟩
    exact hK2 _ ⟨_, _, _, _, _, _, rfl⟩
  · rintro ρ S' ⟨rfl, y8, y9, y10, y11, y12, y13, rfl⟩
    have zl : (zipD (plan.map ridersV) (bs.map D.int)).length = bs.length := by
      rw [zipD_lenEq (by rw [List.length_map, List.length_map, hl]), List.length_map, hl]
    rw [zl]
    refine ⟨⟨rfl, rfl⟩, onS (a := .tup (rowsV (rowsM wk rd bs starts plan bs.length))) ?_ q⟩
    show (if belowAll 0 _ = true then some (D.tup _) else none) = _
    rw [below_rows]
    rfl
end Pu
namespace Pu
open PySem L2 Rb
theorem below_args {k : Nat} {wk rd : Int} {bs starts : List Int} {plan : List (List Nat)} : belowAll k [roadV wk rd bs, tkD starts, planV plan] = true := by
  show ((true && (true && (belowAll k (bs.map D.int) && true))) && (belowAll k (starts.map D.int) && (belowAll k (plan.map ridersV) && true))) = true
  rw [below_ints, below_ints, below_plan]
  rfl
theorem finish_okW {wk rd : Int} {bs starts : List Int} {plan : List (List Nat)} {S : Sto} {Q : QD} {E : ED} (ok : PlanOk bs starts.length plan) (n1 : 1 ≤ starts.length) (n2 : starts.length ≤ 20) (l2 : bs.length ≤ 12) (hb : ∀ b ∈ bs, 0 ≤ b ∧ b ≤ 50)
    (q : Q (.int (maxL (tkM wk rd bs starts plan bs.length))) S) : F_finish_of [roadV wk rd bs, tkD starts, planV plan] S Q E := by
  unfold F_finish_of
  refine ⟨rfl, ⟨below_args, rfl⟩, ticks_okW rfl ok rfl n2 l2 hb ⟨rfl, ?_⟩⟩
  refine onS (a := tkD (tkM wk rd bs starts plan bs.length)) rowsM_last (onS (intsOf_map _) ⟨fun z => ?_, q⟩)
  have := tkM_len (walk := wk) (ride := rd) (bikes := bs) (starts := starts) (plan := plan) bs.length
  rw [z] at this
  simp at this
  omega
end Pu
namespace Pu
open PySem L2 Rb
theorem cut_to {xs : List D} {m : Nat} : cutD xs none (some (m : Int)) = xs.take m := by
  unfold cutD
  have h1 : HT.sIx xs.length 0 none = 0 := HT.sIx_none ..
  have h2 : HT.sIx xs.length xs.length (some (m : Int)) = min m xs.length := HT.sIx_nat ..
  rw [h1, h2, List.drop_zero, Nat.sub_zero]
  by_cases h : m ≤ xs.length
  · rw [Nat.min_eq_left h]
  · rw [Nat.min_eq_right (by omega), List.take_length, List.take_of_length_le (by omega)]
def countsM (bs : List Int) : List Int := (List.range bs.length).map fun k => (bs.take (k + 1)).sum
def cntD (bs : List Int) : D → D
  | .int k => .int (bs.take (k + 1).toNat).sum
  | d => d
theorem counts_ok {wk rd : Int} {bs : List Int} {S : Sto} {Q : QD} {E : ED} (l2 : bs.length ≤ 12) (q : Q (.tup ((countsM bs).map D.int)) S) : F_counts_of [roadV wk rd bs] S Q E := by
  unfold F_counts_of
  have hl : (bs.map D.int).length = bs.length := List.length_map ..
  refine ⟨rfl, ⟨by omega, by omega⟩, szd (by rw [rangeD_len]; omega), comp_map (src := []) (g := cntD bs) (fun _ p => p) (rangeD 0 ((bs.map D.int).length : Int).toNat) [] (fun x hx => ?_) ?_⟩
  · obtain ⟨k, hk, ek⟩ := List.getElem_of_mem hx
    obtain ⟨hk2, rfl⟩ := rangeD_get (List.getElem?_eq_some_iff.mpr ⟨hk, ek⟩)
    refine ⟨_, rfl, fun Q' q' => ?_⟩
    have e1 : (0 + (k : Int)) + 1 = ((k + 1 : Nat) : Int) := by omega
    have e2 : cutD (bs.map D.int) none (some (0 + (k : Int) + 1)) = (bs.take (k + 1)).map D.int := by rw [e1, cut_to, List.map_take]
    have q2 : Q' (.int (bs.take (0 + (k : Int) + 1).toNat).sum) S := q'
    rw [e1, Int.toNat_natCast] at q2
    refine onS (a := bs.take (k + 1)) ?_ q2
    show intsOf (cutD (bs.map D.int) none (some (0 + (k : Int) + 1))) = _
    rw [e2]
    exact intsOf_map _
  rw [List.nil_append]
  have e : (rangeD 0 ((bs.map D.int).length : Int).toNat).map (cntD bs) = (countsM bs).map D.int := by
    rw [Int.toNat_natCast, hl]
    unfold rangeD countsM
    rw [List.map_map, List.map_map]
    refine List.map_congr_left fun k _ => ?_
    show D.int (bs.take (0 + (k : Int) + 1).toNat).sum = D.int (bs.take (k + 1)).sum
    have e1 : (0 + (k : Int)) + 1 = ((k + 1 : Nat) : Int) := by omega
    rw [e1, Int.toNat_natCast]
  rw [e]
  exact q
end Pu
namespace Pu
open PySem L2 Rb
/-! ## parts of a road -/
theorem getD_take {α : Type} {l : List α} {i k : Nat} {d : α} (h : i < k) : (l.take k).getD i d = l.getD i d := by
  rw [List.getD_eq_getElem?_getD, List.getD_eq_getElem?_getD, List.getElem?_take_of_lt h]
theorem PlanOk.take {bs : List Int} {n k : Nat} {plan : List (List Nat)} (ok : PlanOk bs n plan) (hk : k ≤ bs.length) : PlanOk (bs.take k) n (plan.take k) := by
  refine ⟨by rw [List.length_take, List.length_take, ok.len], fun b h => ok.nn b (List.mem_of_mem_take h), fun r h => ok.asc r (List.mem_of_mem_take h), fun r h => ok.lt r (List.mem_of_mem_take h), fun i => ?_⟩
  by_cases h : i < k
  · rw [getD_take h, getD_take h]
    have := ok.few i
    by_cases z : i = 0
    · rw [if_pos z] at this ⊢
      exact this
    · rw [if_neg z] at this ⊢
      rw [getD_take (by omega)]
      exact this
  · have : (plan.take k).getD i [] = [] := by
      rw [List.getD_eq_getElem?_getD, List.getElem?_eq_none (by rw [List.length_take]; omega)]
      rfl
    rw [this]
    exact Nat.zero_le _
/-! ## no tick is below 0: the bicycles that stand there come first -/
end Pu
namespace Pu
open PySem L2 Rb
/-! ## all ticks moved by one growing map: shifts and multiples -/
structure Grow (f : Int → Int) : Prop where
  lt : ∀ a b, a < b → f a < f b
  nn : ∀ t, 0 ≤ t → 0 ≤ f t
section
variable {f : Int → Int} (G : Grow f)
include G
theorem Grow.le {a b : Int} (h : a ≤ b) : f a ≤ f b := by
  rcases Int.lt_or_eq_of_le h with h | h
  · exact Int.le_of_lt (G.lt a b h)
  · rw [h]; exact Int.le_refl _
end
theorem br_lt {bs : List Int} {n : Nat} {plan : List (List Nat)} (ok : PlanOk bs n plan) (i : Nat) : (∀ p ∈ plan.getD i [], p < n) ∧ ∀ p ∈ brM plan i, p < n := by
  have go : ∀ i, ∀ p ∈ plan.getD i [], p < n := fun i p hp => by
    by_cases e : i < plan.length
    · rw [List.getD_eq_getElem?_getD, List.getElem?_eq_getElem e] at hp
      exact ok.lt _ (List.getElem_mem e) p hp
    · rw [List.getD_eq_getElem?_getD, List.getElem?_eq_none (by omega)] at hp
      cases hp
  refine ⟨go i, fun p hp => ?_⟩
  unfold brM at hp
  split at hp
  · cases hp
  · exact go _ p hp
end Pu
namespace Pu
open PySem L2 Rb
/-! ## one road behind the other -/
theorem getD_right {α : Type} {l m : List α} {i : Nat} {d : α} : (l ++ m).getD (l.length + i) d = m.getD i d := by
  rw [List.getD_eq_getElem?_getD, List.getD_eq_getElem?_getD, List.getElem?_append_right (by omega), Nat.add_sub_cancel_left]
section
variable {wk rd : Int} {bs bs2 starts : List Int} {plan plan2 : List (List Nat)}
theorem PlanOk.join {n : Nat} (ok : PlanOk bs n plan) (ok2 : PlanOk bs2 n plan2) : PlanOk (bs ++ bs2) n (plan ++ plan2) := by
  have hl := ok.len
  refine ⟨by rw [List.length_append, List.length_append, ok.len, ok2.len], fun b h => ?_, fun r h => ?_, fun r h => ?_, fun i => ?_⟩
  · rcases List.mem_append.mp h with h | h
    · exact ok.nn b h
    · exact ok2.nn b h
  · rcases List.mem_append.mp h with h | h
    · exact ok.asc r h
    · exact ok2.asc r h
  · rcases List.mem_append.mp h with h | h
    · exact ok.lt r h
    · exact ok2.lt r h
  · by_cases h : i < bs.length
    · rw [getD_app (by omega), getD_app h]
      have := ok.few i
      by_cases z : i = 0
      · rw [if_pos z] at this ⊢
        exact this
      · rw [if_neg z] at this ⊢
        rw [getD_app (by omega)]
        exact this
    · obtain ⟨j, rfl⟩ : ∃ j, i = bs.length + j := ⟨i - bs.length, by omega⟩
      have e : (plan ++ plan2).getD (bs.length + j) [] = plan2.getD j [] := by rw [← hl]; exact getD_right
      rw [e, getD_right]
      have := ok2.few j
      by_cases z : j = 0
      · rw [if_pos z] at this
        omega
      · rw [if_neg z] at this
        rw [if_neg (by omega)]
        have e2 : bs.length + j - 1 = plan.length + (j - 1) := by omega
        rw [e2, getD_right]
        exact this
end
end Pu
namespace Pu
open PySem L2 Rb
structure RoadOk (wk rd : Int) (bs : List Int) : Prop where
  rd1 : 1 ≤ rd
  lt : rd < wk
  w2 : wk ≤ 1000
  l1 : 1 ≤ bs.length
  l2 : bs.length ≤ 12
  hb : ∀ b ∈ bs, 0 ≤ b ∧ b ≤ 12
end Pu
namespace Pu
open PySem L2 Rb
theorem py_natsV (r : List Nat) : toPyAll (natsV r) = some ((nI r).map .int) := by rw [natsV_eq]; exact py_ints _
theorem RoadOk.take {wk rd : Int} {bs : List Int} (h : RoadOk wk rd bs) {k : Nat} (h1 : 1 ≤ k) : RoadOk wk rd (bs.take k) :=
  ⟨h.rd1, h.lt, h.w2, by rw [List.length_take]; have := h.l1; omega, by rw [List.length_take]; have := h.l2; omega, fun b hb => h.hb b (List.mem_of_mem_take hb)⟩
end Pu
namespace Pu
open PySem L2 Rb
/-- the end of a def that has its own cells behind the deck -/
theorem ret2 {S S' T : Sto} {N : Int} {d : D} {Q : QD} (hS : S.length = 2) (dk : Dk S' N T) (hb : ∃ d', frz S' 2 d = some d' ∧ ∀ S2, Dk S2 N [] → S2.length = 2 → Q d' S2) :
    ((S'.take S.length).length = S.length ∧ (S'.take S.length).all (Cl.below S.length) = true) ∧ onSome (frz S' S.length d) fun d' => Q d' (S'.take S.length) := by
  rw [hS]
  obtain ⟨d1, d2, d3, d4⟩ := dk.take2
  obtain ⟨d', e, q⟩ := hb
  exact ⟨⟨d4, d3⟩, onS e (q _ d1 d4)⟩
theorem frz_below {S : Sto} {n : Nat} {d : D} (hc : ∀ k, d ≠ .cell k) (h : below n d = true) : frz S n d = some d := by
  cases d with
  | cell k => exact absurd rfl (hc k)
  | _ => simp only [frz, h, if_true]
theorem below_roadV {k : Nat} {wk rd : Int} {bs : List Int} : below k (roadV wk rd bs) = true := by
  show (true && (true && (belowAll k (bs.map D.int) && true))) = true
  rw [below_ints]
  rfl
/-- a call that sees the deck only -/
theorem Dk.bel {S T : Sto} {N : Int} (h : Dk S N T) : (S.take 2).all (Cl.below 2) = true := h.take2.2.2.1
theorem Dk.app {S T : Sto} {N : Int} (h : Dk S N []) : Dk (S ++ T) N T := by
  obtain ⟨cs, n, rfl, h⟩ := h
  exact ⟨cs, n, by rw [List.append_nil], h⟩
theorem Dk.l2 {S T S1 : Sto} {N : Int} (h : Dk S N T) (l : S1.length = 2) : S1.length = (S.take 2).length := l.trans h.take2.2.2.2.symm
theorem Dk.back {S T S1 : Sto} {N M : Int} (h : Dk S N T) (d : Dk S1 M []) : Dk (S1 ++ S.drop 2) M T := by
  rw [h.take2.2.1]
  exact d.app
end Pu
namespace Pu
open PySem L2 Rb
/-! ## texts of small signs -/
def Fine (x : Str) : Prop := ∀ c ∈ x.cps.toList, c < 1114112
theorem app_cps (a b : Str) : (a ++ b).cps.toList = a.cps.toList ++ b.cps.toList := by
  show (a.cps ++ b.cps).toList = _
  exact Array.toList_append
theorem Fine.app {a b : Str} (ha : Fine a) (hb : Fine b) : Fine (a ++ b) := fun c hc => by
  rw [app_cps] at hc
  rcases List.mem_append.mp hc with h | h
  · exact ha c h
  · exact hb c h
theorem fine_of {x : Str} (h : x.cps.toList.all (fun c => decide (c < 1114112)) = true) : Fine x := fun c hc => of_decide_eq_true (List.all_eq_true.mp h c hc)
theorem fine_join {sep : Str} (hs : Fine sep) : ∀ {ts : List Str}, (∀ t ∈ ts, Fine t) → Fine (Str.join sep ts)
  | [], _ => fine_of rfl
  | [x], h => h x List.mem_cons_self
  | x :: y :: r, h => by
    show Fine (x ++ sep ++ Str.join sep (y :: r))
    exact ((h x List.mem_cons_self).app hs).app (fine_join hs fun t ht => h t (List.mem_cons_of_mem _ ht))
theorem fine_from : ∀ (ts : List Str) (k : Nat) (acc : Str), Fine acc → (∀ t ∈ ts, Fine t) → Fine (textFrom k acc ts)
  | [], _, acc, ha, _ => ha
  | t :: ts, k, acc, ha, h => by
    show Fine (textFrom (k + 1) (acc ++ (if k > 0 then ", " else "" : String) ++ t) ts)
    refine fine_from ts (k + 1) _ ((ha.app ?_).app (h t List.mem_cons_self)) fun x hx => h x (List.mem_cons_of_mem _ hx)
    split
    · exact fine_of (by decide)
    · exact fine_of (by decide)
theorem fine_int (i : Int) : Fine (PyData.int i).shown := fun c hc => by
  by_cases h : c < 1114112
  · exact h
  · exact absurd hc (PyProof.Rows.shown_int_free' ⟨by omega, by omega⟩ i)
theorem fine_list {ts : List Str} (h : ∀ t ∈ ts, Fine t) : Fine (listText ts) := (fine_from ts 0 _ (fine_of (by decide)) h).app (fine_of (by decide))
theorem fine_tuple {ts : List Str} (h : ∀ t ∈ ts, Fine t) : Fine (tupleText ts) := by
  unfold tupleText
  refine ((fine_of (by decide)).app (fine_join (fine_of (by decide)) h)).app ?_
  split
  · exact fine_of (by decide)
  · exact fine_of (by decide)
/-! ## repr and == of values without dicts -/
structure RepP (k n : Nat) (p : PyData) : Prop where
  nice : Rb.Nice k n p
  nod : p.hasDict = false
  lay : PyData.canLay0 p = true
  fine : Fine p.shown
structure Rep (k n : Nat) (d : D) : Prop where
  py : ∃ p, toPy d = some p ∧ RepP k n p
theorem RepP.mono {k n k' n' : Nat} {p : PyData} (h : RepP k n p) (h1 : k ≤ k') (h2 : n ≤ n') : RepP k' n' p := ⟨h.nice.mono h1 h2, h.nod, h.lay, h.fine⟩
theorem Rep.mono {k n k' n' : Nat} {d : D} (h : Rep k n d) (h1 : k ≤ k') (h2 : n ≤ n') : Rep k' n' d := by
  obtain ⟨p, e, hp⟩ := h.py
  exact ⟨p, e, hp.mono h1 h2⟩
theorem Rep.int {i : Int} (h1 : -1000000000000 ≤ i) (h2 : i ≤ 1000000000000) : Rep 0 0 (.int i) := ⟨_, rfl, Rb.Nice.int (Nat.lt_of_lt_of_le (show i.natAbs < 10000000000000 by omega) (by decide)), rfl, rfl, fine_int i⟩
theorem Rep.non : Rep 0 0 .non := ⟨_, rfl, Rb.Nice.none, rfl, rfl, fine_of (by decide)⟩
theorem Rep.bl {b : Bool} : Rep 0 0 (.bl b) := ⟨_, rfl, Rb.Nice.bool, rfl, rfl, by cases b <;> exact fine_of (by decide)⟩
theorem Rep.str {x : Str} {n : Nat} (h : x.cps.size ≤ n) (hx : ∀ c ∈ x.cps.toList, c < 16 ^ 8) (ho : PyData.canLay0 (.str x) = true) (hf : Fine (PyData.str x).shown) : Rep 0 n (.str x) := ⟨_, rfl, Rb.Nice.str h hx, rfl, ho, hf⟩
theorem reps_py {k n : Nat} : ∀ {ds : List D}, (∀ d ∈ ds, Rep k n d) → ∃ ps, toPyAll ds = some ps ∧ ps.length = ds.length ∧ (∀ p ∈ ps, Rb.Nice k n p) ∧ PyData.hasDictAll ps = false ∧ PyData.canLayAll0 ps = true ∧ ∀ t ∈ PyData.shownAll ps, Fine t
  | [], _ => ⟨[], rfl, rfl, (fun _ z => nomatch z), rfl, rfl, fun _ z => nomatch z⟩
  | d :: ds, h => by
    obtain ⟨p, e, hn, hd, hc, hf⟩ := (h d List.mem_cons_self).py
    obtain ⟨ps, e2, hl, hn2, hd2, hc2, hf2⟩ := reps_py (ds := ds) fun x hx => h x (List.mem_cons_of_mem _ hx)
    refine ⟨p :: ps, ?_, congrArg Nat.succ hl, fun q hq => ?_, ?_, ?_, fun t ht => ?_⟩
    · show (toPy d).bind _ = _
      rw [e, e2]
      rfl
    · rcases List.mem_cons.mp hq with rfl | hq
      · exact hn
      · exact hn2 q hq
    · simp only [PyData.hasDictAll, hd, hd2, Bool.or_self]
    · simp only [PyData.canLayAll0, hc, hc2, Bool.and_self]
    · rcases List.mem_cons.mp (show t ∈ p.shown :: PyData.shownAll ps from ht) with rfl | ht
      · exact hf
      · exact hf2 t ht
theorem Rep.tup {k n m : Nat} {ds : List D} (h : ∀ d ∈ ds, Rep k n d) (hm : ds.length * (n + 1) ≤ m) : Rep (k + 1) m (.tup ds) := by
  obtain ⟨ps, e, hl, hn, hd, hc, hf⟩ := reps_py h
  refine ⟨.tuple ps, ?_, Rb.Nice.tup hn (by rw [hl]; exact hm), ?_, ?_, ?_⟩
  · show (toPyAll ds).map PyData.tuple = _
    rw [e]
    rfl
  · simp only [PyData.hasDict, hd]
  · simp only [PyData.canLay0, hc]
  · simp only [PyData.shown]
    exact fine_tuple hf
theorem Rep.lst {k n m : Nat} {b : Bool} {ds : List D} (h : ∀ d ∈ ds, Rep k n d) (hm : ds.length * (n + 1) ≤ m) : Rep (k + 1) m (.lst b ds) := by
  obtain ⟨ps, e, hl, hn, hd, hc, hf⟩ := reps_py h
  refine ⟨.list ps, ?_, Rb.Nice.lst hn (by rw [hl]; exact hm), ?_, ?_, ?_⟩
  · show (toPyAll ds).map PyData.list = _
    rw [e]
    rfl
  · simp only [PyData.hasDict, hd]
  · simp only [PyData.canLay0, hc]
  · simp only [PyData.shown]
    exact fine_list hf
theorem Rep.ints {ns : List Int} {m : Nat} (h : ∀ i ∈ ns, -1000000000000 ≤ i ∧ i ≤ 1000000000000) (hm : ns.length ≤ m) : Rep 1 m (.tup (ns.map D.int)) :=
  Rep.tup (k := 0) (n := 0) (fun d hd => by
    obtain ⟨i, hi, rfl⟩ := List.mem_map.mp hd
    exact Rep.int (h i hi).1 (h i hi).2) (by rw [List.length_map]; omega)
theorem Rep.road {wk rd : Int} {bs : List Int} (R : RoadOk wk rd bs) : Rep 2 39 (roadV wk rd bs) := by
  have h1 := R.rd1
  have h2 := R.lt
  have h3 := R.w2
  refine Rep.tup (k := 1) (n := 12) (fun d hd => ?_) (Nat.le_of_ble_eq_true rfl)
  simp only [List.mem_cons, List.not_mem_nil, or_false] at hd
  rcases hd with rfl | rfl | rfl
  · exact (Rep.int (by omega) (by omega)).mono (by decide) (by decide)
  · exact (Rep.int (by omega) (by omega)).mono (by decide) (by decide)
  · exact Rep.ints (fun i hi => by have := R.hb i hi; omega) R.l2
theorem Rep.starts {starts : List Int} (n2 : starts.length ≤ 10) (hb : Bnd 1000000 starts) : Rep 1 10 (tkD starts) := Rep.ints (fun i hi => by have := hb i hi; omega) n2
theorem Rep.two {a b : D} {k n m : Nat} {f : Bool} (ha : Rep k n a) (hb : Rep k n b) (hm : 2 * (n + 1) ≤ m) : Rep (k + 1) m (.lst f [a, b]) :=
  Rep.lst (fun d hd => by
    simp only [List.mem_cons, List.not_mem_nil, or_false] at hd
    rcases hd with rfl | rfl
    · exact ha
    · exact hb) hm
def shw (d : D) : Str := match toPy d with
  | some p => p.shown
  | none => ""
theorem eqB_ok {neg : Bool} {x y : D} {S : Sto} {Q : QD} {p q : PyData} (h1 : pyC S x = some p) (h2 : pyC S y = some q) (s1 : SeqAt.shaped p = true) (s2 : SeqAt.shaped q = true) (r : Q (.bl (nb neg (PyData.eqv p q))) S) : iEqB neg x y S Q := by
  refine iEqB_of ?_
  unfold gEqB
  split
  · cases h1
    cases h2
    rename_i i j
    have e : PyData.eqv (.int i) (.int j) = decide (i = j) := by simp only [PyData.eqv]; by_cases h : i = j <;> simp [h]
    rw [e] at r
    exact r
  · cases h1
    cases h2
    rename_i i j
    have e : PyData.eqv (.str i) (.str j) = decide (i = j) := by simp only [PyData.eqv]; by_cases h : i = j <;> simp [h]
    rw [e] at r
    exact r
  · exact onS h1 (onS h2 ⟨⟨s1, s2⟩, r⟩)
theorem pyC_of {S : Sto} {d : D} {p : PyData} (h : toPy d = some p) : pyC S d = some p := by
  cases d with
  | cell n => cases h
  | _ => exact h
/-- what == can be asked of -/
structure Shp (k : Nat) (d : D) : Prop where
  py : ∃ p, toPy d = some p ∧ PyData.canLay0 p = true ∧ p.depth ≤ k
theorem Shp.mono {k k' : Nat} {d : D} (h : Shp k d) (h1 : k ≤ k') : Shp k' d := by
  obtain ⟨p, e, h2, h3⟩ := h.py
  exact ⟨p, e, h2, Nat.le_trans h3 h1⟩
theorem Shp.str {x : Str} (h : Fine x) : Shp 0 (.str x) := by
  refine ⟨_, rfl, ?_, Nat.le_refl _⟩
  show PyData.strOk x = true
  unfold PyData.strOk
  rw [← Array.all_toList, List.all_eq_true]
  intro c hc
  exact decide_eq_true (h c hc)
theorem shps_py {k : Nat} : ∀ {ds : List D}, (∀ d ∈ ds, Shp k d) → ∃ ps, toPyAll ds = some ps ∧ PyData.canLayAll0 ps = true ∧ PyData.depthAll ps ≤ k
  | [], _ => ⟨[], rfl, rfl, Nat.zero_le _⟩
  | d :: ds, h => by
    obtain ⟨p, e, hc, hd⟩ := (h d List.mem_cons_self).py
    obtain ⟨ps, e2, hc2, hd2⟩ := shps_py (ds := ds) fun x hx => h x (List.mem_cons_of_mem _ hx)
    refine ⟨p :: ps, ?_, ?_, ?_⟩
    · show (toPy d).bind _ = _
      rw [e, e2]
      rfl
    · simp only [PyData.canLayAll0, hc, hc2, Bool.and_self]
    · simp only [PyData.depthAll]
      exact Nat.max_le.mpr ⟨hd, hd2⟩
theorem Shp.lst {k : Nat} {b : Bool} {ds : List D} (h : ∀ d ∈ ds, Shp k d) : Shp (k + 1) (.lst b ds) := by
  obtain ⟨ps, e, hc, hd⟩ := shps_py h
  refine ⟨.list ps, ?_, ?_, ?_⟩
  · show (toPyAll ds).map PyData.list = _
    rw [e]
    rfl
  · simp only [PyData.canLay0, hc]
  · simp only [PyData.depth]
    omega
theorem Shp.tup {k : Nat} {ds : List D} (h : ∀ d ∈ ds, Shp k d) : Shp (k + 1) (.tup ds) := by
  obtain ⟨ps, e, hc, hd⟩ := shps_py h
  refine ⟨.tuple ps, ?_, ?_, ?_⟩
  · show (toPyAll ds).map PyData.tuple = _
    rw [e]
    rfl
  · simp only [PyData.canLay0, hc]
  · simp only [PyData.depth]
    omega
theorem Shp.int {i : Int} : Shp 0 (.int i) := ⟨_, rfl, rfl, Nat.le_refl _⟩
theorem Shp.sh {k : Nat} {d : D} (h : Shp k d) (hk : k ≤ 64) : ∃ p, toPy d = some p ∧ SeqAt.shaped p = true ∧ PyData.canLay0 p = true := by
  obtain ⟨p, e, hc, hd⟩ := h.py
  refine ⟨p, e, ?_, hc⟩
  unfold SeqAt.shaped
  rw [hc, decide_eq_true (Nat.le_trans hd hk)]
  rfl
/-- the same value twice -/
theorem eq_same {neg : Bool} {d d' : D} {S : Sto} {Q : QD} {k : Nat} (h : Shp k d) (e : toPy d = toPy d') (q : Q (.bl (nb neg true)) S) (hk : k ≤ 64 := by decide) : iEqB neg d d' S Q := by
  obtain ⟨p, e1, hs, hc⟩ := h.sh hk
  refine eqB_ok (pyC_of e1) (pyC_of (e ▸ e1)) hs hs ?_
  rw [SeqAt.eqv_refl _ hc]
  exact q
end Pu
namespace Pu
open PySem L2 Rb
/-! ## values that repr shows -/
structure Vv (d : D) (p : PyData) : Prop where
  py : toPy d = some p
  nice : Rb.Nice 3 8 p
  kn : p.hasDict = false ∨ known d = true
  fine : Fine p.shown
theorem Vv.rep {d : D} {p : PyData} {S : Sto} {Q : QD} (h : Vv d p) (q : Q (.str p.shown) S) : iRepr [d] S Q := by
  refine iRepr_of (onS h.py ⟨⟨h.nice.mono (by decide) (by decide), h.kn⟩, q⟩)
theorem Vv.size {d : D} {p : PyData} (h : Vv d p) : p.shown.cps.size ≤ 3000 := by
  have e := PyData.shown_le_bulk 100 (by decide) p h.nice.lv
  have := h.nice.blk
  have : p.shown.length = p.shown.cps.size := rfl
  omega
theorem Vv.two {d : D} {p : PyData} {S : Sto} {Q : QD} {f : Bool} {w : Str} (h : Vv d p) (hw : w.cps.size ≤ 3000) (hf : Fine w) (q : Q (.str (PyData.list [.str w, .str p.shown]).shown) S) : iRepr [.lst f [.str w, .str p.shown]] S Q := by
  refine iRepr_of ?_
  unfold gRepr
  dsimp only
  refine onS (show toPy (.lst f [.str w, .str p.shown]) = some (PyData.list [.str w, .str p.shown]) from rfl) ⟨⟨?_, .inl rfl⟩, q⟩
  refine (Rb.Nice.lst (k := 0) (n := 3000) (m := 6002) (fun x hx => ?_) (by show 2 * 3001 ≤ 6002; decide)).mono (by decide) (by decide)
  simp only [List.mem_cons, List.not_mem_nil, or_false] at hx
  rcases hx with rfl | rfl
  · exact Rb.Nice.str hw fun c hc => Nat.lt_trans (hf c hc) (by decide)
  · exact Rb.Nice.str h.size fun c hc => Nat.lt_trans (h.fine c hc) (by decide)
theorem Vv.int {i : Int} (h : i.natAbs < 10 ^ 99) : Vv (.int i) (.int i) := ⟨rfl, (Rb.Nice.int h).mono (by decide) (by decide), .inl rfl, fine_int i⟩
/-! ## a promise -/
end Pu
namespace Gm
/-! ## sums over sets of people, and the step of the rule -/
def sumP (P : Nat → Bool) (f : Nat → Int) : Nat → Int
  | 0 => 0
  | n + 1 => sumP P f n + if P n = true then f n else 0
def card (P : Nat → Bool) (n : Nat) : Int := sumP P (fun _ => 1) n
def upP (P : Nat → Bool) (j : Nat) (b : Bool) : Nat → Bool := fun i => if i = j then b else P i
theorem sumP_congr {P P' : Nat → Bool} {f f' : Nat → Int} : ∀ {n : Nat}, (∀ i, i < n → P i = P' i) → (∀ i, i < n → P i = true → f i = f' i) → sumP P f n = sumP P' f' n
  | 0, _, _ => rfl
  | n + 1, h, h2 => by
    show sumP P f n + (if P n = true then f n else 0) = sumP P' f' n + (if P' n = true then f' n else 0)
    rw [sumP_congr (n := n) (fun i hi => h i (by omega)) (fun i hi => h2 i (by omega)), h n (by omega)]
    by_cases c : P' n = true
    · rw [if_pos c, if_pos c, h2 n (by omega) (by rw [h n (by omega)]; exact c)]
    · rw [if_neg c, if_neg c]
theorem sumP_le {P P' : Nat → Bool} {f f' : Nat → Int} : ∀ {n : Nat}, (∀ i, i < n → (if P i = true then f i else 0) ≤ (if P' i = true then f' i else 0)) → sumP P f n ≤ sumP P' f' n
  | 0, _ => Int.le_refl _
  | n + 1, h => by
    have a := sumP_le (n := n) (P := P) (P' := P') (f := f) (f' := f') fun i hi => h i (by omega)
    have b := h n (by omega)
    show sumP P f n + (if P n = true then f n else 0) ≤ sumP P' f' n + (if P' n = true then f' n else 0)
    omega
theorem sumP_up {P : Nat → Bool} {f : Nat → Int} {j : Nat} {b : Bool} : ∀ {n : Nat}, j < n → sumP (upP P j b) f n = sumP P f n - (if P j = true then f j else 0) + (if b = true then f j else 0)
  | 0, h => absurd h (Nat.not_lt_zero _)
  | n + 1, h => by
    show sumP (upP P j b) f n + (if upP P j b n = true then f n else 0) = (sumP P f n + (if P n = true then f n else 0)) - _ + _
    by_cases e : j = n
    · subst e
      have e1 : sumP (upP P j b) f j = sumP P f j := sumP_congr (fun i hi => by unfold upP; rw [if_neg (by omega)]) fun _ _ _ => rfl
      have e2 : upP P j b j = b := by unfold upP; rw [if_pos rfl]
      rw [e1, e2]
      omega
    · have e2 : upP P j b n = P n := by unfold upP; rw [if_neg (by omega)]
      rw [sumP_up (n := n) (by omega), e2]
      omega
/-! ## the room of some stages -/
end Gm
namespace Pu
open PySem L2 Rb
/-! ## the latest people -/
def ordM (ticks : List Int) : List (Int × Int) := srtP (ticks.mapIdx fun p t => (-t, (p : Int)))
def grM (ticks : List Int) (c : Nat) : List Nat := (srt (((ordM ticks).take c).map (·.2))).map Int.toNat
theorem tickAt_get {ticks : List Int} {p : Nat} {t : Int} (h : ticks[p]? = some t) : tickAt ticks p = t := by
  unfold tickAt
  rw [List.getD_eq_getElem?_getD, h]
  rfl
theorem ord_len (ticks : List Int) : (ordM ticks).length = ticks.length := by
  unfold ordM
  rw [srtP_len, List.length_mapIdx]
theorem ord_mem {ticks : List Int} {z : Int × Int} : z ∈ ordM ticks ↔ ∃ p : Nat, p < ticks.length ∧ z = (-(tickAt ticks p), (p : Int)) := by
  unfold ordM
  rw [(srtP_perm _).mem_iff]
  constructor
  · intro h
    obtain ⟨p, hp, e⟩ := List.getElem_of_mem h
    rw [List.length_mapIdx] at hp
    rw [List.getElem_mapIdx] at e
    exact ⟨p, hp, by rw [tickAt_get (List.getElem?_eq_getElem hp)]; exact e.symm⟩
  · rintro ⟨p, hp, rfl⟩
    rw [tickAt_get (List.getElem?_eq_getElem hp)]
    refine List.mem_of_getElem? (i := p) ?_
    rw [List.getElem?_mapIdx, List.getElem?_eq_getElem hp]
    rfl
theorem ord_snd (ticks : List Int) : ((ordM ticks).map (·.2)).Perm (nI (List.range ticks.length)) := by
  have h := (srtP_perm (ticks.mapIdx fun p t => (-t, (p : Int)))).map (·.2)
  have e : (ticks.mapIdx fun p t => (-t, (p : Int))).map (·.2) = nI (List.range ticks.length) := by
    apply List.ext_getElem?
    intro i
    unfold nI
    rw [List.getElem?_map, List.getElem?_mapIdx, List.getElem?_map]
    by_cases hi : i < ticks.length
    · rw [List.getElem?_eq_getElem hi, List.getElem?_range hi]
      rfl
    · rw [List.getElem?_eq_none (by omega), List.getElem?_eq_none (by rw [List.length_range]; omega)]
      rfl
  rw [e] at h
  exact h
theorem ord_nodup (ticks : List Int) : ((ordM ticks).map (·.2)).Nodup := by
  refine (ord_snd ticks).nodup_iff.mpr ?_
  unfold nI
  exact List.pairwise_map.mpr ((List.nodup_range (n := ticks.length)).imp fun h z => h (by omega))
theorem take_snd {ticks : List Int} {c : Nat} {y : Int} (h : y ∈ ((ordM ticks).take c).map (·.2)) : ∃ p : Nat, p < ticks.length ∧ y = (p : Int) := by
  obtain ⟨z, hz, rfl⟩ := List.mem_map.mp h
  obtain ⟨p, hp, rfl⟩ := ord_mem.mp (List.mem_of_mem_take hz)
  exact ⟨p, hp, rfl⟩
theorem nI_toNat_of {l : List Int} (h : ∀ y ∈ l, ∃ p : Nat, y = (p : Int)) : nI (l.map Int.toNat) = l := by
  unfold nI
  rw [List.map_map]
  have e : ∀ y ∈ l, ((fun p : Nat => (p : Int)) ∘ Int.toNat) y = y := fun y hy => by
    obtain ⟨p, rfl⟩ := h y hy
    rfl
  rw [List.map_congr_left e, List.map_id']
theorem nI_grM {ticks : List Int} {c : Nat} : nI (grM ticks c) = srt (((ordM ticks).take c).map (·.2)) :=
  nI_toNat_of fun y hy => by
    obtain ⟨p, _, e⟩ := take_snd ((srt_perm _).mem_iff.mp hy)
    exact ⟨p, e⟩
theorem grM_len {ticks : List Int} {c : Nat} : (grM ticks c).length = min c ticks.length := by
  unfold grM
  rw [List.length_map, srt_len, List.length_map, List.length_take, ord_len]
theorem grM_mem {ticks : List Int} {c p : Nat} : p ∈ grM ticks c ↔ (p : Int) ∈ ((ordM ticks).take c).map (·.2) := by
  rw [← nI_mem, nI_grM, (srt_perm _).mem_iff]
theorem grM_lt {ticks : List Int} {c p : Nat} (h : p ∈ grM ticks c) : p < ticks.length := by
  obtain ⟨q, hq, e⟩ := take_snd (grM_mem.mp h)
  omega
theorem take_nodup {ticks : List Int} {c : Nat} : (((ordM ticks).take c).map (·.2)).Nodup := by
  rw [List.map_take]
  exact (ord_nodup ticks).sublist (List.take_sublist _ _)
theorem grM_asc {ticks : List Int} {c : Nat} : (grM ticks c).Pairwise (· < ·) := by
  refine nI_asc (by rw [nI_grM]; exact srt_sorted _) ?_
  have h : (nI (grM ticks c)).Nodup := by
    rw [nI_grM]
    exact (srt_perm _).nodup_iff.mpr take_nodup
  unfold nI at h
  exact (List.pairwise_map.mp h).imp fun a z => a (by omega)
def negP : D → D
  | .tup [.int p, .int t] => .tup [.int (-t), .int p]
  | d => d
def sndP : D → D
  | .tup [_, .int p] => .int p
  | d => d
def prsV (ps : List (Int × Int)) : List D := ps.map fun p => D.tup [.int p.1, .int p.2]
theorem prsV_len (ps : List (Int × Int)) : (prsV ps).length = ps.length := List.length_map ..
theorem greatest_okW {xs : D} {ticks : List Int} {c : Nat} {S : Sto} {Q : QD} {E : ED} (hx : xs = tkD ticks ∨ ∃ b, xs = .lst b (ticks.map D.int)) (n2 : ticks.length ≤ 20) (q : Q (ridersV (grM ticks c)) S) : F_greatest [xs, .int (c : Int)] S Q E := by
  unfold F_greatest
  have el : (enumD (ticks.map D.int)).length = ticks.length := by unfold enumD; rw [List.length_mapIdx, List.length_map]
  have em : (enumD (ticks.map D.int)).map negP = prsV (ticks.mapIdx fun p t => (-t, (p : Int))) := by
    unfold enumD prsV
    apply List.ext_getElem?
    intro i
    rw [List.getElem?_map, List.getElem?_mapIdx, List.getElem?_map, List.getElem?_map, List.getElem?_mapIdx]
    cases ticks[i]? with
    | none => rfl
    | some t => rfl
  have ec : cutD (prsV (ordM ticks)) none (some (c : Int)) = prsV ((ordM ticks).take c) := by
    rw [cut_to]
    unfold prsV
    rw [List.map_take]
  have es : (prsV ((ordM ticks).take c)).map sndP = (((ordM ticks).take c).map (·.2)).map D.int := by
    unfold prsV
    rw [List.map_map, List.map_map]
    rfl
  have tail : ∀ ρ : Rho, ρ = [some xs, some (.int (c : Int)), some (.lst false (prsV (ordM ticks))), none, none] → dRet (dB gTuple (dCons (dB gSorted (dCons (dLc (st2 4 3) dYes (dVar 3) (dItS (dSl (dVar 2) dNoP (dPart (dVar 1))))) dNil)) dNil)) ρ S { nx := fun _ S' => Q .non S', rt := Q, bk := fun _ _ => False, ct := fun _ _ => False } noE := by
    rintro ρ rfl
    show (cutD (prsV (ordM ticks)) none (some (c : Int))).length ≤ sizeLine ∧ dCompL (st2 4 3) dYes (dVar 3) [] (cutD (prsV (ordM ticks)) none (some (c : Int))) [] _ S _
    rw [ec]
    refine ⟨szd (by show (prsV ((ordM ticks).take c)).length ≤ 100000; rw [prsV_len, List.length_take, ord_len]; omega), ?_⟩
    refine comp_map (src := []) (g := sndP) (fun _ p => p) (prsV ((ordM ticks).take c)) [] (fun x hx => ?_) ?_
    · obtain ⟨z, hz, rfl⟩ := List.mem_map.mp hx
      exact ⟨_, rfl, fun Q' q' => q'⟩
    rw [List.nil_append, es]
    refine .inl ⟨_, rfl, ?_⟩
    show Q (.tup ((srt (((ordM ticks).take c).map (·.2))).map D.int)) S
    rw [← nI_grM, ← natsV_eq]
    exact q
  have comp : ∀ (k : List D → Sto → Prop), k (prsV (ticks.mapIdx fun p t => (-t, (p : Int)))) S → dCompL (st2 3 4) dYes (dTup (dCons (dUn gNeg (dVar 4)) (dCons (dVar 3) dNil))) [] (enumD (ticks.map D.int)) [] [some xs, some (.int (c : Int)), none, none, none] S k := by
    intro k hk
    refine comp_map (src := []) (g := negP) (fun _ p => p) (enumD (ticks.map D.int)) [] (fun x hx => ?_) ?_
    · obtain ⟨j, hj, ej⟩ := List.getElem_of_mem hx
      obtain ⟨y, hy, rfl⟩ := enumD_get (List.getElem?_eq_some_iff.mpr ⟨hj, ej⟩)
      rw [List.getElem?_map] at hy
      obtain ⟨t, ht, rfl⟩ := Option.map_eq_some_iff.mp hy
      exact ⟨_, rfl, fun Q' q' => ⟨szr rfl, q'⟩⟩
    rw [List.nil_append, em]
    exact hk
  refine ⟨rfl, ?_⟩
  rcases hx with rfl | ⟨b, rfl⟩
  · refine .inl ⟨szd (by show (enumD (ticks.map D.int)).length ≤ 100000; omega), comp _ ?_⟩
    exact .inr ⟨_, rfl, tail _ rfl⟩
  · refine .inr ⟨szd (by show (enumD (ticks.map D.int)).length ≤ 100000; omega), comp _ ?_⟩
    exact .inr ⟨_, rfl, tail _ rfl⟩
end Pu
namespace Pu
open PySem L2 Rb
/-! ## the plan of the rule -/
def ruleRow (wk rd : Int) (ticks : List Int) (r : List Nat) : List Int := ticks.mapIdx fun p t => t + if p ∈ r then rd else wk
def rtk (wk rd : Int) (cs starts : List Int) : Nat → List Int
  | 0 => starts
  | i + 1 => ruleRow wk rd (rtk wk rd cs starts i) (grM (rtk wk rd cs starts i) (cs.getD i 0).toNat)
def rrd (wk rd : Int) (cs starts : List Int) (i : Nat) : List Nat := grM (rtk wk rd cs starts i) (cs.getD i 0).toNat
def rpl (wk rd : Int) (cs starts : List Int) (m : Nat) : List (List Nat) := (List.range m).map (rrd wk rd cs starts)
theorem ruleRow_len {wk rd : Int} {ticks : List Int} {r : List Nat} : (ruleRow wk rd ticks r).length = ticks.length := List.length_mapIdx
theorem rtk_len {wk rd : Int} {cs starts : List Int} : ∀ i, (rtk wk rd cs starts i).length = starts.length
  | 0 => rfl
  | i + 1 => by rw [rtk, ruleRow_len, rtk_len i]
theorem rpl_succ {wk rd : Int} {cs starts : List Int} {m : Nat} : rpl wk rd cs starts (m + 1) = rpl wk rd cs starts m ++ [rrd wk rd cs starts m] := by
  unfold rpl
  rw [List.range_succ, List.map_append]
  rfl
theorem rpl_len {wk rd : Int} {cs starts : List Int} {m : Nat} : (rpl wk rd cs starts m).length = m := by
  unfold rpl
  rw [List.length_map, List.length_range]
theorem countsM_len {bs : List Int} : (countsM bs).length = bs.length := by unfold countsM; rw [List.length_map, List.length_range]
theorem sum_nn : ∀ {l : List Int}, (∀ b ∈ l, 0 ≤ b) → 0 ≤ l.sum
  | [], _ => Int.le_refl _
  | x :: l, h => by
    rw [List.sum_cons]
    have := h x List.mem_cons_self
    have := sum_nn (l := l) fun b hb => h b (List.mem_cons_of_mem _ hb)
    omega
theorem countsM_get {bs : List Int} {i : Nat} (h : i < bs.length) : (countsM bs)[i]? = some (bs.take (i + 1)).sum := by
  unfold countsM
  rw [List.getElem?_map, List.getElem?_range h]
  rfl
theorem countsM_nn {bs : List Int} (h : ∀ b ∈ bs, 0 ≤ b) : ∀ c ∈ countsM bs, 0 ≤ c := fun c hc => by
  obtain ⟨k, hk, rfl⟩ := List.mem_map.mp hc
  exact sum_nn fun b hb => h b (List.mem_of_mem_take hb)
def seqI (xs : D) (ticks : List Int) : Prop := xs = tkD ticks ∨ ∃ b, xs = .lst b (ticks.map D.int)
theorem step_comp {f : Rho → Rho} {wk rd : Int} {ticks : List Int} {r : List Nat} {S : Sto} {ρ : Rho} {k : List D → Sto → Prop} {fe : FE}
    (hfe : ∀ (j : Nat) (t : Int) (Q : QD), Q (.int (t + if (j : Int) ∈ nI r then rd else wk)) S → ∃ ρ1, st2 8 9 (.tup [.int (j : Int), .int t]) ρ = some ρ1 ∧ fe ρ1 S Q noE)
    (hk : k ((ruleRow wk rd ticks r).map D.int) S) : dCompL (st2 8 9) dYes fe [] (enumD (ticks.map D.int)) [] ρ S k := by
  refine comp_map (src := []) (g := stepD wk rd r) (fun _ p => p) (enumD (ticks.map D.int)) [] (fun x hx => ?_) ?_
  · obtain ⟨j, hj, ej⟩ := List.getElem_of_mem hx
    obtain ⟨y, hy, rfl⟩ := enumD_get (List.getElem?_eq_some_iff.mpr ⟨hj, ej⟩)
    rw [List.getElem?_map] at hy
    obtain ⟨t, ht, rfl⟩ := Option.map_eq_some_iff.mp hy
    refine ⟨_, rfl, fun Q q => ?_⟩
    obtain ⟨ρ1, e, h⟩ := hfe j t Q q
    cases e
    exact h
  · rw [List.nil_append, step_map]
    exact hk
theorem below_planV {k : Nat} (plan : List (List Nat)) : below k (planV plan) = true := below_plan plan
theorem rule_okW {wk rd : Int} {bs starts : List Int} {Q : QD} {E : ED} (l2 : bs.length ≤ 12) (hb0 : ∀ b ∈ bs, 0 ≤ b) (n2 : starts.length ≤ 20)
    (q : Q (planV (rpl wk rd (countsM bs) starts bs.length)) []) : F_rule_plan [roadV wk rd bs, tkD starts] [] Q E := by
  unfold F_rule_plan
  have cn := countsM_nn hb0
  have cl := countsM_len (bs := bs)
  refine ⟨rfl, rfl, szr rfl, counts_ok l2 ?_⟩
  generalize hcs : countsM bs = cs at cn cl q
  refine for_inv (src := []) (cs.map D.int) (fun i ρ S' => S' = [.lst ((rpl wk rd cs starts i).map ridersV)] ∧ ∃ xs y6 y7 y8 y9, ρ = [some (roadV wk rd bs), some (tkD starts), some (.int wk), some (.int rd), some xs, some (.cell 0), y6, y7, y8, y9] ∧ seqI xs (rtk wk rd cs starts i)) ⟨rfl, _, _, _, _, _, rfl, .inl rfl⟩ ?_ ?_
  · rintro i x ρ S' K hx hK ⟨rfl, xs, y6, y7, y8, y9, rfl, hxs⟩
    rw [List.getElem?_map] at hx
    obtain ⟨ci, hci, rfl⟩ := Option.map_eq_some_iff.mp hx
    have c0 := cn ci (List.mem_of_getElem? hci)
    have hi : i < cs.length := (List.getElem?_eq_some_iff.mp hci).1
    obtain ⟨c, rfl⟩ : ∃ c : Nat, ci = (c : Int) := ⟨ci.toNat, (Int.toNat_of_nonneg c0).symm⟩
    have eg : rrd wk rd cs starts i = grM (rtk wk rd cs starts i) c := by
      unfold rrd
      rw [List.getD_eq_getElem?_getD, hci]
      rfl
    have ert : rtk wk rd cs starts (i + 1) = ruleRow wk rd (rtk wk rd cs starts i) (grM (rtk wk rd cs starts i) c) := by
      rw [rtk, ← eg]
      rfl
    have tl := rtk_len (wk := wk) (rd := rd) (cs := cs) (starts := starts) i
    have hK2 : ∀ ρ', (∃ xs y6 y7 y8 y9, ρ' = [some (roadV wk rd bs), some (tkD starts), some (.int wk), some (.int rd), some xs, some (.cell 0), y6, y7, y8, y9] ∧ seqI xs (ruleRow wk rd (rtk wk rd cs starts i) (grM (rtk wk rd cs starts i) c))) → K ρ' [.lst ((rpl wk rd cs starts i).map ridersV ++ [ridersV (grM (rtk wk rd cs starts i) c)])] := fun ρ' h => hK ρ' _ ⟨by
      rw [rpl_succ, List.map_append, eg]
      rfl, by
      rw [ert]
      exact h⟩
    have pl : ((rpl wk rd cs starts i).map ridersV).length = i := by rw [List.length_map, rpl_len]
    generalize (rpl wk rd cs starts i).map ridersV = PP at hK2 pl
    generalize rtk wk rd cs starts i = tk at hK2 tl hxs
    refine greatest_okW hxs (by omega) ?_
    generalize grM tk c = r at hK2
    have el : (enumD (tk.map D.int)).length = tk.length := by unfold enumD; rw [List.length_mapIdx, List.length_map]
    have hfe : ∀ (ρ : Rho) (j : Nat) (t : Int) (Q : QD), getV ρ 2 = some (.int wk) → getV ρ 3 = some (.int rd) → getV ρ 7 = some (ridersV r) → getV ρ 8 = some (.int (j : Int)) → getV ρ 9 = some (.int t) → Q (.int (t + if (j : Int) ∈ nI r then rd else wk)) [.lst PP] → (dBin gAdd (dVar 9) (dIf (dTest (dBin (gIn false) (dVar 8) (dVar 7))) (dVar 3) (dVar 2))) ρ [.lst PP] Q noE := by
      intro ρ j t Q g2 g3 g7 g8 g9 q'
      refine onS g9 (onS g8 (onS g7 (onS (a := nI r) (by show intsOf (natsV r) = _; rw [natsV_eq]; exact intsOf_map _) ?_)))
      refine ifB (fun cc => ?_) fun cc => ?_
      · have c' : (j : Int) ∈ nI r := of_decide_eq_true cc
        rw [if_pos c'] at q'
        exact onS g3 q'
      · have c' : ¬ (j : Int) ∈ nI r := of_decide_eq_false cc
        rw [if_neg c'] at q'
        exact onS g2 q'
    have hsz : (enumD (tk.map D.int)).length ≤ sizeLine := szd (by omega)
    have fin : ∀ ρ', (∃ xs y6 y8 y9, ρ' = [some (roadV wk rd bs), some (tkD starts), some (.int wk), some (.int rd), some xs, some (.cell 0), y6, some (ridersV r), y8, y9] ∧ seqI xs (ruleRow wk rd tk r)) → (dDrop (dML gAppend (dVar 5) (dCons (dVar 7) dNil))) ρ' [.lst PP] ⟨K, fun _ _ => True, fun _ _ => True, K⟩ noE := by
      rintro ρ' ⟨xs, y6, y8, y9, rfl, hx2⟩
      exact ⟨szd (by rw [pl]; omega), hK2 _ ⟨_, _, _, _, _, rfl, hx2⟩⟩
    rcases hxs with rfl | ⟨b, rfl⟩
    · refine .inl ⟨hsz, step_comp (f := id) (r := r) (fun j t Q' q' => ⟨_, rfl, hfe _ j t Q' rfl rfl rfl rfl rfl q'⟩) ?_⟩
      exact fin _ ⟨_, _, _, _, rfl, .inr ⟨_, rfl⟩⟩
    · refine .inr ⟨hsz, step_comp (f := id) (r := r) (fun j t Q' q' => ⟨_, rfl, hfe _ j t Q' rfl rfl rfl rfl rfl q'⟩) ?_⟩
      exact fin _ ⟨_, _, _, _, rfl, .inr ⟨_, rfl⟩⟩
  · rintro ρ S' ⟨rfl, xs, y6, y7, y8, y9, rfl, hxs⟩
    rw [List.length_map, cl]
    refine ⟨⟨rfl, rfl⟩, onS (frz_below (fun k z => nomatch z) (below_planV _)) q⟩
theorem rule_ok {wk rd : Int} {bs starts : List Int} {Q : QD} {E : ED} (R : RoadOk wk rd bs) (n2 : starts.length ≤ 10)
    (q : Q (planV (rpl wk rd (countsM bs) starts bs.length)) []) : F_rule_plan [roadV wk rd bs, tkD starts] [] Q E := rule_okW R.l2 (fun b hb => (R.hb b hb).1) (by omega) q
end Pu
namespace Pu
open PySem L2 Rb
/-! ## two cells at the end of the store -/
/-! ## the law's own way to the latest people -/
def mkp (ticks : List Int) (p : Nat) : Int × Int := (-(tickAt ticks p), (p : Int))
theorem filter_asc {lf : List Nat} {f : Nat → Bool} (h : lf.Pairwise (· < ·)) {b : Nat} {rest : List Nat} (e : lf.filter f = b :: rest) : b ∈ lf ∧ f b = true ∧ ∀ q ∈ lf, f q = true → b ≤ q := by
  have hm : b ∈ lf.filter f := by rw [e]; exact List.mem_cons_self
  obtain ⟨h1, h2⟩ := List.mem_filter.mp hm
  refine ⟨h1, h2, fun q hq hf => ?_⟩
  have hq2 : q ∈ lf.filter f := List.mem_filter.mpr ⟨hq, hf⟩
  have hp := h.filter f
  rw [e] at hp hq2
  rcases List.mem_cons.mp hq2 with rfl | hq2
  · exact Nat.le_refl _
  · exact Nat.le_of_lt ((List.pairwise_cons.mp hp).1 q hq2)
theorem next_best {ticks : List Int} {lf : List Nat} {j b : Nat} {rest : List Nat} (asc : lf.Pairwise (· < ·)) (pm : (lf.map (mkp ticks)).Perm ((ordM ticks).drop j)) (ne : lf ≠ []) (e : lf.filter (fun k => decide (tickAt ticks k = maxL (lf.map (tickAt ticks)))) = b :: rest) :
    (ordM ticks)[j]? = some (mkp ticks b) ∧ (ordM ticks).drop j = mkp ticks b :: (ordM ticks).drop (j + 1) ∧ b ∈ lf := by
  obtain ⟨h1, h2, h3⟩ := filter_asc asc e
  have h2 : tickAt ticks b = maxL (lf.map (tickAt ticks)) := of_decide_eq_true h2
  obtain ⟨m1, m2⟩ := maxL_spec (ns := lf.map (tickAt ticks)) (by simpa using ne)
  have ln := least_next (k := j) (m := mkp ticks b) (srtP_sorted _) pm (List.mem_map.mpr ⟨b, h1, rfl⟩) fun q hq => by
    obtain ⟨p, hp, rfl⟩ := List.mem_map.mp hq
    have hle := m2 (tickAt ticks p) (List.mem_map.mpr ⟨p, hp, rfl⟩)
    show -(tickAt ticks b) < -(tickAt ticks p) ∨ (-(tickAt ticks b) = -(tickAt ticks p) ∧ (b : Int) ≤ (p : Int))
    by_cases et : tickAt ticks p = tickAt ticks b
    · exact .inr ⟨by omega, by have := h3 p hp (decide_eq_true (by omega)); omega⟩
    · exact .inl (by omega)
  exact ⟨ln.1, ln.2, h1⟩
end Pu
namespace Pu
open PySem L2 Rb
/-- what the loop has chosen -/
structure Chosen (ticks : List Int) (c : Nat) (lf rs : List Nat) : Prop where
  asc : lf.Pairwise (· < ·)
  lt : ∀ p ∈ lf, p < ticks.length
  pm : (lf.map (mkp ticks)).Perm ((ordM ticks).drop rs.length)
  sel : nI rs = ((ordM ticks).take rs.length).map (·.2)
  le : rs.length ≤ c
theorem Chosen.start {ticks : List Int} {c : Nat} : Chosen ticks c (List.range ticks.length) [] where
  asc := List.pairwise_lt_range
  lt := fun p hp => List.mem_range.mp hp
  pm := by
    rw [List.length_nil, List.drop_zero]
    have e : (List.range ticks.length).map (mkp ticks) = ticks.mapIdx fun p t => (-t, (p : Int)) := by
      apply List.ext_getElem?
      intro i
      rw [List.getElem?_map, List.getElem?_mapIdx]
      by_cases hi : i < ticks.length
      · rw [List.getElem?_range hi, List.getElem?_eq_getElem hi]
        show some (-(tickAt ticks i), (i : Int)) = some (-ticks[i], (i : Int))
        rw [tickAt_get (List.getElem?_eq_getElem hi)]
      · rw [List.getElem?_eq_none (by rw [List.length_range]; omega), List.getElem?_eq_none (by omega)]
        rfl
    rw [e]
    exact (srtP_perm _).symm
  sel := rfl
  le := Nat.zero_le _
theorem Chosen.len {ticks : List Int} {c : Nat} {lf rs : List Nat} (h : Chosen ticks c lf rs) : lf.length + rs.length = ticks.length := by
  have h1 := h.pm.length_eq
  have h2 := congrArg List.length h.sel
  rw [List.length_map, List.length_drop, ord_len] at h1
  rw [nI_len, List.length_map, List.length_take, ord_len] at h2
  omega
theorem Chosen.next {ticks : List Int} {c : Nat} {lf rs : List Nat} (h : Chosen ticks c lf rs) {b j : Nat} {rest : List Nat} (hc : rs.length < c) (ne : lf ≠ []) (e : lf.filter (fun k => decide (tickAt ticks k = maxL (lf.map (tickAt ticks)))) = b :: rest) (hj : lf[j]? = some b) : Chosen ticks c (lf.eraseIdx j) (rs ++ [b]) := by
  obtain ⟨o1, o2, o3⟩ := next_best h.asc h.pm ne e
  have el : (rs ++ [b]).length = rs.length + 1 := by rw [List.length_append]; rfl
  refine ⟨h.asc.sublist (List.eraseIdx_sublist ..), fun p hp => h.lt p (List.mem_of_mem_eraseIdx hp), ?_, ?_, by omega⟩
  · rw [el]
    have hp := h.pm
    rw [o2] at hp
    have e1 : (lf.map (mkp ticks)).eraseIdx j = (lf.eraseIdx j).map (mkp ticks) := by
      clear hp o1 o2 o3 e ne el
      clear h
      induction lf generalizing j with
      | nil => simp
      | cons x l ih =>
        cases j with
        | zero => rfl
        | succ j => exact congrArg _ (ih hj)
    rw [← e1]
    exact erase_next (by rw [List.getElem?_map, hj]; rfl) hp
  · rw [el, List.take_add_one, o1, List.map_append, ← h.sel]
    unfold nI
    rw [List.map_append]
    rfl
end Pu
namespace Pu
open PySem L2 Rb Gm
/-! ## if no people exclude an end, the rule keeps it -/
theorem card_mem {n : Nat} : ∀ {r : List Nat}, r.Nodup → (∀ p ∈ r, p < n) → card (fun i => decide (i ∈ r)) n = r.length
  | [], _, _ => by
    have e : card (fun i => decide (i ∈ ([] : List Nat))) n = sumP (fun _ => false) (fun _ => 1) n := sumP_congr (fun i _ => by simp) fun _ _ _ => rfl
    rw [e]
    have z : ∀ m, sumP (fun _ => false) (fun _ => 1) m = 0 := fun m => by
      induction m with
      | zero => rfl
      | succ m ih => show sumP (fun _ => false) (fun _ => 1) m + (if false = true then 1 else 0) = 0; rw [ih]; rfl
    exact z n
  | a :: r, nd, h => by
    obtain ⟨n1, n2⟩ := List.nodup_cons.mp nd
    have ih := card_mem n2 fun p hp => h p (List.mem_cons_of_mem _ hp)
    have e : card (fun i => decide (i ∈ a :: r)) n = card (upP (fun i => decide (i ∈ r)) a true) n := sumP_congr (fun i _ => by
      unfold upP
      by_cases c : i = a
      · rw [if_pos c, c]
        simp
      · rw [if_neg c]
        simp [c]) fun _ _ _ => rfl
    rw [e]
    unfold card at ih ⊢
    rw [sumP_up (h a List.mem_cons_self), ih, decide_eq_false n1]
    simp
/-- who is among the latest comes no earlier than who is not -/
theorem gr_le {ticks : List Int} {c i j : Nat} (hi : i < ticks.length) (hn : i ∉ grM ticks c) (hj : j ∈ grM ticks c) : tickAt ticks i ≤ tickAt ticks j := by
  obtain ⟨z, hz, ez⟩ := List.mem_map.mp (grM_mem.mp hj)
  obtain ⟨q, hq, rfl⟩ := ord_mem.mp (List.mem_of_mem_take hz)
  have : q = j := by
    have e : (q : Int) = (j : Int) := ez
    omega
  subst this
  have hm : (-(tickAt ticks i), (i : Int)) ∈ ordM ticks := ord_mem.mpr ⟨i, hi, rfl⟩
  rw [← List.take_append_drop c (ordM ticks)] at hm
  rcases List.mem_append.mp hm with h | h
  · exact absurd (grM_mem.mpr (List.mem_map.mpr ⟨_, h, rfl⟩)) hn
  · have hs : ((ordM ticks).take c ++ (ordM ticks).drop c).Pairwise leP := by
      rw [List.take_append_drop]
      exact srtP_sorted _
    have := (List.pairwise_append.mp hs).2.2 _ hz _ h
    rcases this with g | ⟨g, _⟩
    · have g : -(tickAt ticks q) < -(tickAt ticks i) := g
      omega
    · have g : -(tickAt ticks q) = -(tickAt ticks i) := g
      omega
end Pu
namespace Pu
open PySem L2 Rb Gm
/-! ## nobody waits under the rule -/
theorem take_sum_succ {bs : List Int} {i : Nat} (h : i < bs.length) : (bs.take (i + 1)).sum = (bs.take i).sum + bs.getD i 0 := by
  rw [List.take_add_one, List.getElem?_eq_getElem h, List.sum_append, List.getD_eq_getElem?_getD, List.getElem?_eq_getElem h]
  simp
theorem countsM_getD {bs : List Int} {i : Nat} (h : i < bs.length) : (countsM bs).getD i 0 = (bs.take (i + 1)).sum := by
  rw [List.getD_eq_getElem?_getD, countsM_get h]
  rfl
theorem rpl_getD {wk rd : Int} {cs starts : List Int} {m i : Nat} (h : i < m) : (rpl wk rd cs starts m).getD i [] = rrd wk rd cs starts i := by
  unfold rpl
  rw [List.getD_eq_getElem?_getD, List.getElem?_map, List.getElem?_range h]
  rfl
theorem rrd_len {wk rd : Int} {cs starts : List Int} {i : Nat} : (rrd wk rd cs starts i).length = min (cs.getD i 0).toNat starts.length := by
  unfold rrd
  rw [grM_len, rtk_len]
theorem rpl_ok {wk rd : Int} {bs starts : List Int} (hb : ∀ b ∈ bs, 0 ≤ b) : PlanOk bs starts.length (rpl wk rd (countsM bs) starts bs.length) := by
  refine ⟨rpl_len, hb, fun r hr => ?_, fun r hr p hp => ?_, fun i => ?_⟩
  · obtain ⟨j, hj, rfl⟩ := List.mem_map.mp hr
    exact grM_asc
  · obtain ⟨j, hj, rfl⟩ := List.mem_map.mp hr
    have := grM_lt hp
    rw [rtk_len] at this
    exact this
  · by_cases h : i < bs.length
    · rw [rpl_getD h, rrd_len, countsM_getD h, take_sum_succ h]
      have b0 : 0 ≤ bs.getD i 0 := by
        rw [List.getD_eq_getElem?_getD, List.getElem?_eq_getElem h]
        exact hb _ (List.getElem_mem h)
      have s0 : 0 ≤ (bs.take i).sum := sum_nn fun b hm => hb b (List.mem_of_mem_take hm)
      by_cases z : i = 0
      · subst z
        rw [if_pos rfl]
        simp
        omega
      · rw [if_neg z, rpl_getD (by omega), rrd_len, countsM_getD (by omega), show i - 1 + 1 = i by omega]
        omega
    · have e : (rpl wk rd (countsM bs) starts bs.length).getD i [] = [] := by
        rw [List.getD_eq_getElem?_getD, List.getElem?_eq_none (by rw [rpl_len]; omega)]
        rfl
      rw [e]
      exact Nat.zero_le _
theorem len_le_of {n : Nat} {l m : List Nat} (h1 : l.Nodup) (h2 : m.Nodup) (h3 : ∀ p ∈ m, p < n) (h : ∀ p ∈ l, p ∈ m) : l.length ≤ m.length := by
  have a := card_mem h1 fun p hp => h3 p (h p hp)
  have b := card_mem h2 h3
  have c : card (fun i => decide (i ∈ l)) n ≤ card (fun i => decide (i ∈ m)) n := sumP_le fun i _ => by
    by_cases hi : i ∈ l
    · rw [if_pos (decide_eq_true hi), if_pos (decide_eq_true (h i hi))]
      exact Int.le_refl _
    · rw [if_neg (by simpa using hi)]
      split <;> decide
  omega
theorem pairs_early {ticks : List Int} {riders brought : List Nat} {st : Nat} (h0 : ∀ t ∈ ticks, 0 ≤ t) (few : riders.length ≤ st + brought.length) (rn : riders.Nodup) (rl : ∀ p ∈ riders, p < ticks.length) (bn : brought.Nodup) (bl : ∀ p ∈ brought, p < ticks.length)
    (late : ∀ i j, i < ticks.length → i ∉ riders → j ∈ riders → tickAt ticks i ≤ tickAt ticks j) : ∀ z ∈ pairsM ticks riders brought st, z.2 ≤ z.1.1 := by
  intro z hz
  obtain ⟨j, hj, ej⟩ := List.getElem_of_mem hz
  have hjl := hj
  rw [pairsM_len few] at hjl
  have hq : j < (queueM ticks riders).length := by rw [queueM_len]; exact hjl
  have hb : j < (bikesM ticks brought st).length := by rw [bikesM_len]; omega
  have e1 : z = ((queueM ticks riders)[j], (bikesM ticks brought st)[j]) := by
    rw [← ej]
    exact List.getElem_zip
  subst e1
  show (bikesM ticks brought st)[j] ≤ ((queueM ticks riders)[j]).1
  by_cases hlt : (bikesM ticks brought st)[j] ≤ ((queueM ticks riders)[j]).1
  · exact hlt
  exfalso
  have hm : (queueM ticks riders)[j] ∈ queueM ticks riders := List.getElem_mem hq
  obtain ⟨p, hp, ep⟩ := List.mem_map.mp ((srtP_perm _).mem_iff.mp hm)
  have et : ((queueM ticks riders)[j]).1 = tickAt ticks p := by rw [← ep]
  rw [et] at hlt
  have t0 : 0 ≤ tickAt ticks p := by
    rw [tickAt_get (List.getElem?_eq_getElem (rl p hp))]
    exact h0 _ (List.getElem_mem _)
  generalize ht : tickAt ticks p = t at *
  -- bicycles that are there by then
  have cB : (bikesM ticks brought st).countP (fun b => decide (b ≤ t)) ≤ j := by
    rw [← List.take_append_drop j (bikesM ticks brought st), List.countP_append]
    have a : ((bikesM ticks brought st).take j).countP (fun b => decide (b ≤ t)) ≤ j := Nat.le_trans List.countP_le_length (by rw [List.length_take]; omega)
    have b : ((bikesM ticks brought st).drop j).countP (fun b => decide (b ≤ t)) = 0 := by
      refine List.countP_eq_zero.mpr fun x hx => ?_
      have hs : ((bikesM ticks brought st).drop j).Pairwise (· ≤ ·) := (srt_sorted _).sublist (List.drop_sublist _ _)
      have ed : (bikesM ticks brought st).drop j = (bikesM ticks brought st)[j] :: (bikesM ticks brought st).drop (j + 1) := List.drop_eq_getElem_cons hb
      rw [ed] at hs hx
      have : (bikesM ticks brought st)[j] ≤ x := by
        rcases List.mem_cons.mp hx with e | e
        · omega
        · exact (List.pairwise_cons.mp hs).1 x e
      simp
      omega
    omega
  have cB2 : (bikesM ticks brought st).countP (fun b => decide (b ≤ t)) = st + (brought.filter fun q => decide (tickAt ticks q ≤ t)).length := by
    unfold bikesM
    rw [(srt_perm _).countP_eq, List.countP_append, List.countP_map, List.countP_eq_length_filter (l := brought)]
    have : (List.replicate st (0 : Int)).countP (fun b => decide (b ≤ t)) = st := by
      rw [List.countP_replicate, if_pos (by simpa using t0)]
    rw [this]
    rfl
  have cS : (brought.filter fun q => decide (tickAt ticks q ≤ t)).length + (brought.filter fun q => decide (t < tickAt ticks q)).length = brought.length := by
    rw [← List.countP_eq_length_filter, ← List.countP_eq_length_filter]
    have := List.length_eq_countP_add_countP (fun q => decide (tickAt ticks q ≤ t)) (l := brought)
    simpa using this.symm
  -- riders who come later
  have cQ : (queueM ticks riders).countP (fun q => decide (t < q.1)) ≤ riders.length - (j + 1) := by
    rw [← List.take_append_drop (j + 1) (queueM ticks riders), List.countP_append]
    have a : ((queueM ticks riders).take (j + 1)).countP (fun q => decide (t < q.1)) = 0 := by
      refine List.countP_eq_zero.mpr fun x hx => ?_
      obtain ⟨i, hi, ei⟩ := List.getElem_of_mem hx
      rw [List.length_take, queueM_len] at hi
      rw [List.getElem_take] at ei
      have le : leP (queueM ticks riders)[i] (queueM ticks riders)[j] := by
        by_cases e : i = j
        · subst e
          exact .inr ⟨rfl, Int.le_refl _⟩
        · exact List.pairwise_iff_getElem.mp (srtP_sorted _) i j (by show i < (queueM ticks riders).length; rw [queueM_len]; omega) hq (by omega)
      rw [ei] at le
      rcases le with g | ⟨g, _⟩
      · simp
        omega
      · simp
        omega
    have b : ((queueM ticks riders).drop (j + 1)).countP (fun q => decide (t < q.1)) ≤ riders.length - (j + 1) := Nat.le_trans List.countP_le_length (by rw [List.length_drop, queueM_len]; exact Nat.le_refl _)
    omega
  have cQ2 : (queueM ticks riders).countP (fun q => decide (t < q.1)) = (riders.filter fun q => decide (t < tickAt ticks q)).length := by
    unfold queueM
    rw [(srtP_perm _).countP_eq, List.countP_map, List.countP_eq_length_filter]
    rfl
  have sub : (brought.filter fun q => decide (t < tickAt ticks q)).length ≤ (riders.filter fun q => decide (t < tickAt ticks q)).length := by
    refine len_le_of (n := ticks.length) (bn.filter _) (rn.filter _) (fun q hq => rl q (List.mem_filter.mp hq).1) fun q hq => ?_
    obtain ⟨q1, q2⟩ := List.mem_filter.mp hq
    have q3 : t < tickAt ticks q := by simpa using q2
    refine List.mem_filter.mpr ⟨?_, decide_eq_true (by omega)⟩
    by_cases hr : q ∈ riders
    · exact hr
    · have := late q p (bl q q1) hr hp
      omega
  omega
theorem setF_self : ∀ (zs : List (Nat × Int)) (l : List Int), (∀ z ∈ zs, l[z.1]? = some z.2) → setF l zs = l
  | [], _, _ => rfl
  | z :: zs, l, h => by
    show setF (l.set z.1 z.2) zs = l
    have e : l.set z.1 z.2 = l := by
      have := h z List.mem_cons_self
      apply List.ext_getElem?
      intro i
      rw [List.getElem?_set]
      split
      · rename_i c
        subst c
        split
        · rw [this]
        · rename_i c2
          rw [List.getElem?_eq_none (by omega)]
      · rfl
    rw [e]
    exact setF_self zs l fun y hy => h y (List.mem_cons_of_mem _ hy)
theorem leave_same {ticks : List Int} {riders brought : List Nat} {st : Nat} (rl : ∀ p ∈ riders, p < ticks.length) (h : ∀ z ∈ pairsM ticks riders brought st, z.2 ≤ z.1.1) : leaveM ticks riders brought st = ticks := by
  refine setF_self _ _ fun z hz => ?_
  obtain ⟨y, hy, rfl⟩ := List.mem_map.mp hz
  obtain ⟨p, hp, e⟩ := pairs_mem hy
  have h1 := h y hy
  have e1 : y.1.1 = tickAt ticks p := by rw [e]
  have e2 : y.1.2 = (p : Int) := by rw [e]
  show ticks[y.1.2.toNat]? = some (mx y.1.1 y.2)
  have em : mx y.1.1 y.2 = y.1.1 := by
    unfold mx
    rw [if_neg (by omega)]
  rw [em, e1, e2, Int.toNat_natCast, tickAt_get (List.getElem?_eq_getElem (rl p hp)), List.getElem?_eq_getElem (rl p hp)]
theorem rtk_nn {wk rd : Int} {cs starts : List Int} (w : 0 ≤ wk) (r : 0 ≤ rd) (h : ∀ s ∈ starts, 0 ≤ s) : ∀ i, ∀ t ∈ rtk wk rd cs starts i, 0 ≤ t
  | 0 => h
  | i + 1 => fun t ht => by
    rw [rtk] at ht
    unfold ruleRow at ht
    obtain ⟨j, hj, e⟩ := List.getElem_of_mem ht
    rw [List.getElem_mapIdx] at e
    rw [List.length_mapIdx] at hj
    have := rtk_nn (cs := cs) w r h i _ (List.getElem_mem hj)
    split at e <;> omega
theorem rule_ticks {wk rd : Int} {bs starts : List Int} (w : 0 ≤ wk) (r : 0 ≤ rd) (hb : ∀ b ∈ bs, 0 ≤ b) (h0 : ∀ s ∈ starts, 0 ≤ s) : ∀ i, i ≤ bs.length → tkM wk rd bs starts (rpl wk rd (countsM bs) starts bs.length) i = rtk wk rd (countsM bs) starts i
  | 0, _ => rfl
  | i + 1, hi => by
    have ih := rule_ticks w r hb h0 i (by omega)
    have ok := rpl_ok (wk := wk) (rd := rd) (starts := starts) hb
    obtain ⟨nd, rlt, few⟩ := stages_ok ok (show i < (rpl wk rd (countsM bs) starts bs.length).length by rw [rpl_len]; omega)
    have tl := rtk_len (wk := wk) (rd := rd) (cs := countsM bs) (starts := starts) i
    have eg : (rpl wk rd (countsM bs) starts bs.length).getD i [] = rrd wk rd (countsM bs) starts i := rpl_getD (by omega)
    obtain ⟨bl1, bl2⟩ := br_lt ok i
    show rowM (tkM _ _ _ _ _ i) _ _ _ _ _ = rtk wk rd (countsM bs) starts (i + 1)
    rw [ih]
    have bn : (brM (rpl wk rd (countsM bs) starts bs.length) i).Nodup := by
      unfold brM
      split
      · exact List.nodup_nil
      · rw [rpl_getD (by omega)]
        exact grM_asc.imp fun h => Nat.ne_of_lt h
    have hp := pairs_early (ticks := rtk wk rd (countsM bs) starts i) (rtk_nn w r h0 i) few nd (fun p hp => by rw [tl]; exact rlt p hp) bn (fun p hp => by rw [tl]; exact bl2 p hp) (fun a b ha hna hb2 => by
      rw [eg] at hna hb2
      exact gr_le ha hna hb2)
    unfold rowM
    rw [leave_same (fun p hp => by rw [tl]; exact rlt p hp) hp, eg]
    rfl
end Pu
namespace Pu
open PySem L2 Rb Gm
/-! ## people exclude an end: no plan keeps it -/
/-! ## the least finish -/
def lfin (wk rd : Int) (bs starts : List Int) : Int := maxL (rtk wk rd (countsM bs) starts bs.length)
theorem rtk_ne {wk rd : Int} {cs starts : List Int} {i : Nat} (n1 : 1 ≤ starts.length) : rtk wk rd cs starts i ≠ [] := fun z => by
  have := rtk_len (wk := wk) (rd := rd) (cs := cs) (starts := starts) i
  rw [z] at this
  simp at this
  omega
end Pu
namespace Pu
open PySem L2 Rb Gm
/-! ## cells behind the deck -/
/-! ## the least finish -/
theorem lfin_eqW {wk rd : Int} {bs starts : List Int} (r1 : 1 ≤ rd) (lt : rd < wk) (hb : ∀ b ∈ bs, 0 ≤ b) (sb : ∀ s ∈ starts, 0 ≤ s) : maxL (tkM wk rd bs starts (rpl wk rd (countsM bs) starts bs.length) bs.length) = lfin wk rd bs starts := by
  unfold lfin
  rw [rule_ticks (by omega) (by omega) hb sb bs.length (Nat.le_refl _)]
theorem least_okW {wk rd : Int} {bs starts : List Int} {S : Sto} {Q : QD} {E : ED} (r1 : 1 ≤ rd) (lt : rd < wk) (l2 : bs.length ≤ 12) (hb : ∀ b ∈ bs, 0 ≤ b ∧ b ≤ 50) (n1 : 1 ≤ starts.length) (n2 : starts.length ≤ 20) (sb : ∀ s ∈ starts, 0 ≤ s) (q : Q (.int (lfin wk rd bs starts)) S) : F_least_finish [roadV wk rd bs, tkD starts] S Q E := by
  unfold F_least_finish
  refine ⟨rfl, ⟨by
    show (below 0 (roadV wk rd bs) && (belowAll 0 (starts.map D.int) && true)) = true
    rw [below_roadV, below_ints]
    rfl, rfl⟩, rule_okW l2 (fun b h => (hb b h).1) n2 ⟨rfl, finish_okW (rpl_ok fun b h => (hb b h).1) n1 n2 l2 hb ?_⟩⟩
  rw [lfin_eqW r1 lt (fun b h => (hb b h).1) sb]
  exact q
theorem least_ok {wk rd : Int} {bs starts : List Int} {S : Sto} {Q : QD} {E : ED} (R : RoadOk wk rd bs) (n1 : 1 ≤ starts.length) (n2 : starts.length ≤ 10) (sb : ∀ s ∈ starts, 0 ≤ s) (q : Q (.int (lfin wk rd bs starts)) S) : F_least_finish [roadV wk rd bs, tkD starts] S Q E :=
  least_okW R.rd1 R.lt R.l2 (fun b h => ⟨(R.hb b h).1, by have := (R.hb b h).2; omega⟩) n1 (by omega) sb q
end Pu
namespace Pu
open PySem L2 Rb Gm
theorem cut_from {xs : List D} {m : Nat} : cutD xs (some (m : Int)) none = xs.drop m := by
  unfold cutD
  have h1 : HT.sIx xs.length xs.length none = xs.length := HT.sIx_none ..
  have h2 : HT.sIx xs.length 0 (some (m : Int)) = min m xs.length := HT.sIx_nat ..
  rw [h1, h2]
  by_cases h : m ≤ xs.length
  · rw [Nat.min_eq_left h, List.take_of_length_le (by rw [List.length_drop]; omega)]
  · rw [Nat.min_eq_right (by omega), List.drop_length, List.drop_of_length_le (by omega)]
    simp
theorem PlanOk.set {bs : List Int} {n : Nat} {plan : List (List Nat)} {sp : Nat} {r r' : List Nat} (ok : PlanOk bs n plan) (hr : plan[sp]? = some r) (h1 : r'.Pairwise (· < ·)) (h2 : ∀ p ∈ r', p < n) (h3 : r'.length = r.length) : PlanOk bs n (plan.set sp r') := by
  have el : ∀ i, ((plan.set sp r').getD i []).length = (plan.getD i []).length := fun i => by
    rw [List.getD_eq_getElem?_getD, List.getD_eq_getElem?_getD, List.getElem?_set]
    split
    · rename_i e
      subst e
      rw [hr, if_pos (List.getElem?_eq_some_iff.mp hr).1]
      exact h3
    · rfl
  refine ⟨by rw [List.length_set]; exact ok.len, ok.nn, fun x hx => ?_, fun x hx => ?_, fun i => ?_⟩
  · rcases List.mem_or_eq_of_mem_set hx with h | rfl
    · exact ok.asc x h
    · exact h1
  · rcases List.mem_or_eq_of_mem_set hx with h | rfl
    · exact ok.lt x h
    · exact h2
  · rw [el, el]
    exact ok.few i
end Pu
namespace Pu
open PySem L2 Rb Gm
theorem rtk_bnd {wk rd : Int} {cs starts : List Int} (r1 : 1 ≤ rd) (rw : rd ≤ wk) (w : wk ≤ 1000) (h : Bnd 1000000 starts) : ∀ i : Nat, ∀ t ∈ rtk wk rd cs starts i, (i : Int) ≤ t ∧ t ≤ 1000000 + 1000 * i
  | 0 => fun t ht => by have := h t ht; omega
  | i + 1 => fun t ht => by
    rw [rtk] at ht
    unfold ruleRow at ht
    obtain ⟨j, hj, e⟩ := List.getElem_of_mem ht
    rw [List.getElem_mapIdx] at e
    rw [List.length_mapIdx] at hj
    have := rtk_bnd (cs := cs) r1 rw w h i _ (List.getElem_mem hj)
    split at e <;> omega
theorem lfin_bnd {wk rd : Int} {bs starts : List Int} (R : RoadOk wk rd bs) (n1 : 1 ≤ starts.length) (sb : Bnd 1000000 starts) : 1 ≤ lfin wk rd bs starts ∧ lfin wk rd bs starts ≤ 1012000 := by
  have h1 := R.rd1
  have h2 := R.lt
  have h3 := R.w2
  have h4 := R.l1
  have h5 := R.l2
  obtain ⟨m, _⟩ := maxL_spec (rtk_ne (wk := wk) (rd := rd) (cs := countsM bs) (i := bs.length) n1)
  have := rtk_bnd (cs := countsM bs) h1 (by omega) h3 sb bs.length _ m
  unfold lfin
  omega
end Pu
namespace Pu
open PySem L2 Rb Gm
/-! ## the other draws: a state of cells and rests -/
def stateS (cs rs : List Int) (n : Int) : Sto := [.lst (rs.map D.int), .lst [.lst false (cs.map D.int), .int n, .cell 0]]
def Nk (S : Sto) (N : Int) (T : Sto) : Prop := ∃ cs rs n, S = stateS cs rs n ++ T ∧ 1 ≤ cs.length ∧ cs.length ≤ 64 ∧ rs.length = cs.length ∧ (∀ x ∈ cs, 0 ≤ x) ∧ (∀ x ∈ rs, 0 ≤ x) ∧ 0 ≤ n ∧ n ≤ N
theorem Nk.le {S : Sto} {N M : Int} {T : Sto} (h : Nk S N T) (e : N ≤ M) : Nk S M T := by
  obtain ⟨cs, rs, n, h1, h2, h3, h4, h5, h6, h7, h8⟩ := h
  exact ⟨cs, rs, n, h1, h2, h3, h4, h5, h6, h7, by omega⟩
end Pu
namespace Pu
open PySem L2 Rb Gm
theorem Nk.len {S : Sto} {N : Int} {T : Sto} (h : Nk S N T) : S.length = 2 + T.length := by
  obtain ⟨cs, rs, n, rfl, _⟩ := h
  rw [List.length_append]
  rfl
theorem Nk.snoc {S : Sto} {N : Int} {T : Sto} (h : Nk S N T) (c : Cl) : Nk (S ++ [c]) N (T ++ [c]) := by
  obtain ⟨cs, rs, n, rfl, h⟩ := h
  exact ⟨cs, rs, n, by rw [List.append_assoc], h⟩
theorem Nk.take2 {S : Sto} {N : Int} {T : Sto} (h : Nk S N T) : Nk (S.take 2) N [] ∧ S.drop 2 = T ∧ (S.take 2).all (Cl.below 2) = true ∧ (S.take 2).length = 2 := by
  obtain ⟨cs, rs, n, rfl, h⟩ := h
  refine ⟨⟨cs, rs, n, rfl, h⟩, rfl, ?_, rfl⟩
  show (belowAll 2 (rs.map D.int) && ((belowAll 2 (cs.map D.int) && (true && (true && true))) && true)) = true
  rw [below_ints, below_ints]
  rfl
theorem Nk.bel {S T : Sto} {N : Int} (h : Nk S N T) : (S.take 2).all (Cl.below 2) = true := h.take2.2.2.1
theorem Nk.app {S T : Sto} {N : Int} (h : Nk S N []) : Nk (S ++ T) N T := by
  obtain ⟨cs, rs, n, rfl, h⟩ := h
  exact ⟨cs, rs, n, by rw [List.append_nil], h⟩
theorem Nk.l2 {S T S1 : Sto} {N : Int} (h : Nk S N T) (l : S1.length = 2) : S1.length = (S.take 2).length := l.trans h.take2.2.2.2.symm
theorem Nk.back {S T S1 : Sto} {N M : Int} (h : Nk S N T) (d : Nk S1 M []) : Nk (S1 ++ S.drop 2) M T := by
  rw [h.take2.2.1]
  exact d.app
end Pu
namespace Pu
open PySem L2 Rb Gm
theorem below_rs {k : Nat} {wk rd : Int} {bs starts : List Int} : belowAll k [roadV wk rd bs, tkD starts] = true := by
  show (below k (roadV wk rd bs) && (belowAll k (starts.map D.int) && true)) = true
  rw [below_roadV, below_ints]
  rfl
end Pu
namespace Pu
open PySem L2 Rb
structure Gv (k n : Nat) (v : D) : Prop where
  py : ∃ p, toPy v = some p ∧ Rb.Nice k n p
  kn : known v = true
  bl : below 0 v = true
  nx : noX v = true
theorem Gv.mono {k n k' n' : Nat} {v : D} (h : Gv k n v) (h1 : k ≤ k') (h2 : n ≤ n') : Gv k' n' v := by
  obtain ⟨p, e, hp⟩ := h.py
  exact ⟨⟨p, e, hp.mono h1 h2⟩, h.kn, h.bl, h.nx⟩
theorem Gv.rep {k n : Nat} {v : D} {S : Sto} {Q : QD} (h : Gv k n v) (q : Q (.str (shw v)) S) (hk : k ≤ 20 := by decide) (hn : n ≤ 100000 := by decide) : iRepr [v] S Q := by
  obtain ⟨p, e, hp⟩ := h.py
  unfold shw at q
  rw [e] at q
  exact iRepr_of (onS e ⟨⟨hp.mono hk hn, .inr h.kn⟩, q⟩)
theorem gvs_all {k n : Nat} : ∀ {xs : List D}, (∀ x ∈ xs, Gv k n x) → (∃ ps, toPyAll xs = some ps ∧ ps.length = xs.length ∧ ∀ p ∈ ps, Rb.Nice k n p) ∧ knownAll xs = true ∧ belowAll 0 xs = true ∧ noXs xs = true
  | [], _ => ⟨⟨[], rfl, rfl, fun p h => absurd h List.not_mem_nil⟩, rfl, rfl, rfl⟩
  | x :: xs, h => by
    obtain ⟨⟨ps, e, l, hp⟩, a, b, c⟩ := gvs_all (xs := xs) fun y hy => h y (List.mem_cons_of_mem _ hy)
    have hx := h x List.mem_cons_self
    obtain ⟨p, ep, np⟩ := hx.py
    refine ⟨⟨p :: ps, ?_, by rw [List.length_cons, List.length_cons, l], fun y hy => ?_⟩, ?_, ?_, ?_⟩
    · show (toPy x).bind _ = _
      rw [ep, e]
      rfl
    · rcases List.mem_cons.mp hy with rfl | hy
      · exact np
      · exact hp y hy
    · show (known x && knownAll xs) = true
      rw [hx.kn, a]
      rfl
    · show (below 0 x && belowAll 0 xs) = true
      rw [hx.bl, b]
      rfl
    · show (noX x && noXs xs) = true
      rw [hx.nx, c]
      rfl
theorem Gv.tup {k n m : Nat} {xs : List D} (h : ∀ x ∈ xs, Gv k n x) (hm : xs.length * (n + 1) ≤ m) : Gv (k + 1) m (.tup xs) := by
  obtain ⟨⟨ps, e, l, hp⟩, a, b, c⟩ := gvs_all h
  refine ⟨⟨.tuple ps, ?_, Rb.Nice.tup hp (by rw [l]; exact hm)⟩, a, b, c⟩
  show (toPyAll xs).map _ = _
  rw [e]
  rfl
theorem Gv.lst {k n m : Nat} {xs : List D} (h : ∀ x ∈ xs, Gv k n x) (hm : xs.length * (n + 1) ≤ m) : Gv (k + 1) m (.lst true xs) := by
  obtain ⟨⟨ps, e, l, hp⟩, a, b, c⟩ := gvs_all h
  refine ⟨⟨.list ps, ?_, Rb.Nice.lst hp (by rw [l]; exact hm)⟩, a, b, c⟩
  show (toPyAll xs).map _ = _
  rw [e]
  rfl
theorem Gv.int {i : Int} (h : i.natAbs < 10 ^ 99) : Gv 0 0 (.int i) := ⟨⟨_, rfl, Rb.Nice.int h⟩, rfl, rfl, rfl⟩
theorem Gv.ints {ns : List Int} (h : ∀ i ∈ ns, 0 ≤ i ∧ i ≤ 10000000) (l : ns.length ≤ 30) : Gv 1 30 (.tup (ns.map D.int)) := Gv.tup (k := 0) (n := 0) (fun x hx => by
  obtain ⟨i, hi, rfl⟩ := List.mem_map.mp hx
  exact Gv.int (Nat.lt_of_lt_of_le (show i.natAbs < 100000000 by have := h i hi; omega) (by decide))) (by rw [List.length_map]; omega)
theorem pyAll_some : ∀ {xs : List D} {ps : List PyData}, toPyAll xs = some ps → ∀ x ∈ xs, (toPy x).isSome = true
  | [], _, _, x, h => absurd h List.not_mem_nil
  | y :: xs, ps, e, x, h => by
    have e : (toPy y).bind (fun z => (toPyAll xs).map (z :: ·)) = some ps := e
    obtain ⟨z, ez, e⟩ := Option.bind_eq_some_iff.mp e
    obtain ⟨zs, ezs, rfl⟩ := Option.map_eq_some_iff.mp e
    rcases List.mem_cons.mp h with rfl | h
    · rw [ez]; rfl
    · exact pyAll_some ezs x h
theorem tup_some {xs : List D} (h : (toPy (.tup xs)).isSome = true) : ∀ x ∈ xs, (toPy x).isSome = true := by
  obtain ⟨p, e⟩ := Option.isSome_iff_exists.mp h
  obtain ⟨ps, e2, _⟩ := Option.map_eq_some_iff.mp (show (toPyAll xs).map PyData.tuple = some p from e)
  exact pyAll_some e2
def isSt : D → Bool
  | .tup xs => (decide (1 ≤ xs.length) && decide (xs.length ≤ 10)) && xs.all (isNum 0 1000000)
  | _ => false
theorem isstarts_ok {v : D} {S : Sto} {Q : QD} {E : ED} (h : (toPy v).isSome = true) (q : Q (.bl (isSt v)) S) : F_is_starts [v] S Q E := by
  unfold F_is_starts
  refine ⟨rfl, ?_⟩
  cases v with
  | tup xs =>
    have hs := tup_some h
    by_cases c : 1 ≤ xs.length ∧ xs.length ≤ 10
    · have e1 : isSt (.tup xs) = xs.all (isNum 0 1000000) := by
        show ((decide (1 ≤ xs.length) && decide (xs.length ≤ 10)) && _) = _
        rw [decide_eq_true c.1, decide_eq_true c.2]
        rfl
      rw [e1] at q
      refine ifT (b := decide ((1 : Int) ≤ (xs.length : Int))) (decide_eq_true (by omega)) ?_
      refine ifF (b := !decide ((xs.length : Int) ≤ 10)) (by rw [decide_eq_true (by omega)]; rfl) ?_
      refine for_inv (src := []) xs (fun i ρ S' => S' = S ∧ (∃ y, ρ = [some (.tup xs), y]) ∧ ∀ x ∈ xs.take i, isNum 0 1000000 x = true) ⟨rfl, ⟨_, rfl⟩, fun x hx => by rw [List.take_zero] at hx; exact absurd hx List.not_mem_nil⟩ ?_ ?_
      · rintro i x ρ S' K hx hK ⟨rfl, ⟨y, rfl⟩, ht⟩
        refine number_ok (hs x (List.mem_of_getElem? hx)) ?_
        cases hn : isNum 0 1000000 x with
        | false =>
          rw [show xs.all (isNum 0 1000000) = false from List.all_eq_false.mpr ⟨x, List.mem_of_getElem? hx, by rw [hn]; decide⟩] at q
          exact q
        | true =>
          refine hK _ _ ⟨rfl, ⟨_, rfl⟩, fun z hz => ?_⟩
          rw [List.take_add_one, hx] at hz
          rcases List.mem_append.mp hz with h | h
          · exact ht z h
          · rw [List.mem_singleton.mp h]
            exact hn
      · rintro ρ S' ⟨rfl, ⟨y, rfl⟩, ht⟩
        rw [List.take_length] at ht
        rw [show xs.all (isNum 0 1000000) = true from List.all_eq_true.mpr ht] at q
        exact q
    · have e1 : isSt (.tup xs) = false := by
        show ((decide (1 ≤ xs.length) && decide (xs.length ≤ 10)) && _) = _
        rw [show (decide (1 ≤ xs.length) && decide (xs.length ≤ 10)) = false by
          rw [← Bool.decide_and]
          exact decide_eq_false c]
        rfl
      rw [e1] at q
      by_cases d : 1 ≤ xs.length
      · refine ifT (b := decide ((1 : Int) ≤ (xs.length : Int))) (decide_eq_true (by omega)) ?_
        exact ifT (b := !decide ((xs.length : Int) ≤ 10)) (by rw [decide_eq_false (by omega)]; rfl) q
      · exact ifF (b := decide ((1 : Int) ≤ (xs.length : Int))) (decide_eq_false (by omega)) q
  | cell _ => cases h
  | glo _ => cases h
  | ty _ => cases h
  | ins _ _ => cases h
  | exc _ _ => cases h
  | kls _ => cases h
  | _ => exact q
end Pu
namespace Pu
open PySem L2 Rb
theorem isSt_of {ns : List Int} (a : 1 ≤ ns.length) (b : ns.length ≤ 10) (c : ∀ i ∈ ns, 0 ≤ i ∧ i ≤ 1000000) : isSt (.tup (ns.map D.int)) = true := by
  show ((decide (1 ≤ (ns.map D.int).length) && decide ((ns.map D.int).length ≤ 10)) && (ns.map D.int).all (isNum 0 1000000)) = true
  rw [List.length_map, decide_eq_true a, decide_eq_true b]
  refine List.all_eq_true.mpr fun x hx => ?_
  obtain ⟨i, hi, rfl⟩ := List.mem_map.mp hx
  show (decide (0 ≤ i) && decide (i ≤ 1000000)) = true
  rw [decide_eq_true (c i hi).1, decide_eq_true (c i hi).2]
  rfl
def ptyF (ns : List Int) : List (Str × D) := [("given", .tup (ns.map D.int)), ("ordered", .tup ((srt ns).map D.int))]
theorem ins_cell {S : Sto} {k : Nat} {x : Str} {fs : List (Str × D)} (h : S[k]? = some (.ins x fs)) : insOf S (.cell k) = some (x, fs) := by
  show insAt S[k]? = _
  rw [h]
  rfl
end Pu
namespace Pu
open PySem L2 Rb Gm
/-! ## parties, races, trips: what their defs give -/
/-- starts as a party takes them -/
structure Sts (ns : List Int) : Prop where
  n1 : 1 ≤ ns.length
  n2 : ns.length ≤ 10
  sb : ∀ s ∈ ns, 0 ≤ s ∧ s ≤ 1000000
theorem Sts.nn {ns : List Int} (h : Sts ns) : ∀ s ∈ ns, 0 ≤ s := fun s hs => (h.sb s hs).1
theorem Sts.is {ns : List Int} (h : Sts ns) : isSt (.tup (ns.map D.int)) = true := isSt_of h.n1 h.n2 h.sb
theorem Sts.py {ns : List Int} : (toPy (.tup (ns.map D.int))).isSome = true := by
  show ((toPyAll (ns.map D.int)).map PyData.tuple).isSome = true
  rw [py_ints]
  rfl
end Pu
namespace Pu
open PySem L2 Rb Gm
/-- what a trip holds -/
def verV (wk rd : Int) (bs ns : List Int) : D := .tup [roadV wk rd bs, .tup (ns.map D.int), .int (lfin wk rd bs ns)]
def trpF (done vs : List D) : List (Str × D) := [("done", .tup done), ("versions", .tup vs), ("watched", .bl false)]
def rcF (wk rd : Int) (bs : List Int) (b : D) : List (Str × D) := [("course", roadV wk rd bs), ("least", b)]
def obD : Option Int → D
  | none => .non
  | some x => .int x
section
variable {S : Sto} {k j : Nat} {Q : QD} {E : ED} {ns ms : List Int} {wk rd : Int} {bs : List Int}
theorem cell_ins {x : Str} {fs : List (Str × D)} (h : S[k]? = some (.ins x fs)) : cellIns S (.cell k) = some (k, x, fs) := by
  show (insAt S[k]?).map _ = _
  rw [h]
  rfl
theorem roaderr2_ok (R : RoadOk wk rd bs) (q : Q .non S) : F_road_error_2 [roadV wk rd bs] S Q E := by
  unfold F_road_error_2
  have h1 := R.rd1
  have h2 := R.lt
  have h3 := R.w2
  refine ⟨rfl, ne_int rfl ⟨rfl, number_ok rfl ?_⟩⟩
  rw [show isNum 1 1000 (.int wk) = true by
    show (decide (1 ≤ wk) && decide (wk ≤ 1000)) = true
    rw [decide_eq_true (by omega), decide_eq_true (by omega)]
    rfl]
  refine number_ok rfl ?_
  rw [show isNum 1 (wk - 1) (.int rd) = true by
    show (decide (1 ≤ rd) && decide (rd ≤ wk - 1)) = true
    rw [decide_eq_true (by omega), decide_eq_true (by omega)]
    rfl]
  have l1 := R.l1
  have l2 := R.l2
  have lm : ((bs.map D.int).length : Int) = (bs.length : Int) := by rw [List.length_map]
  refine ifT (b := decide ((1 : Int) ≤ ((bs.map D.int).length : Int))) (decide_eq_true (by omega)) ?_
  refine ifF (b := !decide (((bs.map D.int).length : Int) ≤ 12)) (by rw [decide_eq_true (by omega)]; rfl) ?_
  refine for_inv (enumD (bs.map D.int)) (fun _ ρ S' => S' = S ∧ ∃ y4 y5, ρ = [some (roadV wk rd bs), some (.int wk), some (.int rd), some (.tup (bs.map D.int)), y4, y5]) ⟨rfl, _, _, rfl⟩ ?_ ?_
  · rintro k x ρ S' K hx hK ⟨rfl, y4, y5, rfl⟩
    obtain ⟨z, hz, rfl⟩ := enumD_get hx
    rw [List.getElem?_map] at hz
    obtain ⟨b, hb, rfl⟩ := Option.map_eq_some_iff.mp hz
    have hbb := R.hb b (List.mem_of_getElem? hb)
    refine ⟨rfl, number_ok rfl ?_⟩
    rw [show isNum 0 12 (.int b) = true by
      show (decide (0 ≤ b) && decide (b ≤ 12)) = true
      rw [decide_eq_true hbb.1, decide_eq_true hbb.2]
      rfl]
    exact hK _ _ ⟨rfl, _, _, rfl⟩
  · rintro ρ S' ⟨rfl, y4, y5, rfl⟩
    exact q
theorem set_new {c d : Cl} : (S ++ [c]).set S.length d = S ++ [d] := set_last
theorem get_new {c : Cl} : (S ++ [c])[S.length]? = some c := by
  rw [List.getElem?_append_right (Nat.le_refl _), Nat.sub_self]
  rfl
section
variable {done : List D} {vs : List D} {v1 v2 v3 : D}
theorem tr_finish (hk : S[k]? = some (.ins "Trip" (trpF done (vs ++ [.tup [v1, v2, v3]])))) (q : Q v3 S) : F_Trip_finish [.cell k] S Q E := by
  unfold F_Trip_finish
  refine ⟨rfl, onS (ins_cell hk) ⟨rfl, onS (a := .tup (vs ++ [.tup [v1, v2, v3]])) rfl ?_⟩⟩
  show onSome (atI (vs ++ [.tup [v1, v2, v3]]) (-1)) _
  exact onS (atI_last _ _) q
end
end
end Pu
namespace Pu
open PySem L2 Rb Gm
/-! ### cells behind the deck -/
section
variable {S T : Sto} {N : Int}
theorem Dk.get (h : Dk S N T) {j : Nat} {c : Cl} (e : T[j]? = some c) : S[2 + j]? = some c := by
  obtain ⟨cs, n, rfl, _⟩ := h
  show (deckS cs n ++ T)[2 + j]? = _
  rw [List.getElem?_append_right (by show (deckS cs n).length ≤ 2 + j; exact Nat.le_add_right _ _)]
  show T[2 + j - 2]? = _
  rw [Nat.add_sub_cancel_left]
  exact e
theorem Dk.put (h : Dk S N T) {j : Nat} {c : Cl} (hj : j < T.length) : Dk (S.set (2 + j) c) N (T.set j c) := by
  obtain ⟨cs, n, rfl, h⟩ := h
  refine ⟨cs, n, ?_, h⟩
  rw [List.set_append_right _ _ (by show (deckS cs n).length ≤ 2 + j; exact Nat.le_add_right _ _)]
  show deckS cs n ++ T.set (2 + j - 2) c = _
  rw [Nat.add_sub_cancel_left]
end
end Pu
namespace Pu
open PySem L2 Rb Gm
/-- all cells stand as before, but perhaps kr; there may be more -/
structure Ev (kr : Nat) (S S' : Sto) : Prop where
  le : S.length ≤ S'.length
  at_ : ∀ i, i < S.length → i ≠ kr → S'[i]? = S[i]?
section
variable {kr k : Nat} {S S' S2 T T' : Sto} {N N' : Int} {c : Cl}
theorem Ev.refl : Ev kr S S := ⟨Nat.le_refl _, fun _ _ _ => rfl⟩
theorem Ev.trans (a : Ev kr S S') (b : Ev kr S' S2) : Ev kr S S2 := ⟨Nat.le_trans a.le b.le, fun i hi h => (b.at_ i (Nat.lt_of_lt_of_le hi a.le) h).trans (a.at_ i hi h)⟩
theorem Ev.app : Ev kr S (S ++ [c]) := ⟨by rw [List.length_append]; omega, fun i hi _ => List.getElem?_append_left hi⟩
theorem Ev.set : Ev kr S (S.set kr c) := ⟨by rw [List.length_set]; exact Nat.le_refl _, fun i _ h => List.getElem?_set_ne (Ne.symm h)⟩
theorem Ev.get (e : Ev kr S S') (h : S[k]? = some c) (n : k ≠ kr) : S'[k]? = some c := (e.at_ k (List.getElem?_eq_some_iff.mp h).1 n).trans h
theorem Dk.any (h : Dk S N T) {k : Nat} (hk : 2 ≤ k) : S[k]? = T[k - 2]? := by
  obtain ⟨cs, n, rfl, _⟩ := h
  show (deckS cs n ++ T)[k]? = _
  rw [List.getElem?_append_right (show (deckS cs n).length ≤ k from hk)]
  rfl
theorem Dk.same (h : Dk S N T) (h' : Dk S' N' T) (hk : 2 ≤ k) (e : S[k]? = some c) : S'[k]? = some c := by rw [h'.any hk, ← h.any hk, e]
end
section
variable {S : Sto} {kt kp kr : Nat} {wk rd : Int} {bs ns : List Int} {a0 a2 a8 a9 a10 a11 a12 : Option D}
/-- the three objects of a turn -/
structure Obj3 (S : Sto) (kt kp kr : Nat) (wk rd : Int) (bs ns : List Int) (b : Option Int) : Prop where
  R : RoadOk wk rd bs
  st : Sts ns
  tr : S[kt]? = some (.ins "Trip" (trpF [] [verV wk rd bs ns]))
  pt : S[kp]? = some (.ins "Party" (ptyF ns))
  rc : S[kr]? = some (.ins "Race" (rcF wk rd bs (obD b)))
  n1 : kt ≠ kr
  n2 : kp ≠ kr
theorem Obj3.fin {Q : QD} {E : ED} {b : Option Int} (o : Obj3 S kt kp kr wk rd bs ns b) (q : Q (.int (lfin wk rd bs ns)) S) : F_Trip_finish [.cell kt] S Q E := tr_finish (vs := []) (v1 := roadV wk rd bs) (v2 := .tup (ns.map D.int)) (v3 := .int (lfin wk rd bs ns)) o.tr q
end
end Pu
namespace Pu
open PySem L2 Rb Gm
/-! ## the draws of k18 to k23: cells of any sign -/
def Mk (S : Sto) (N : Int) (T : Sto) : Prop := ∃ cs rs n, S = stateS cs rs n ++ T ∧ 1 ≤ cs.length ∧ cs.length ≤ 64 ∧ rs.length = cs.length ∧ (∀ x ∈ rs, 0 ≤ x) ∧ 0 ≤ n ∧ n ≤ N
theorem Mk.le {S : Sto} {N M : Int} {T : Sto} (h : Mk S N T) (e : N ≤ M) : Mk S M T := by
  obtain ⟨cs, rs, n, h1, h2, h3, h4, h6, h7, h8⟩ := h
  exact ⟨cs, rs, n, h1, h2, h3, h4, h6, h7, by omega⟩
theorem Mk.len {S : Sto} {N : Int} {T : Sto} (h : Mk S N T) : S.length = 2 + T.length := by
  obtain ⟨cs, rs, n, rfl, _⟩ := h
  rw [List.length_append]
  rfl
theorem Mk.snoc {S : Sto} {N : Int} {T : Sto} (h : Mk S N T) (c : Cl) : Mk (S ++ [c]) N (T ++ [c]) := by
  obtain ⟨cs, rs, n, rfl, h⟩ := h
  exact ⟨cs, rs, n, by rw [List.append_assoc], h⟩
theorem Mk.take2 {S : Sto} {N : Int} {T : Sto} (h : Mk S N T) : Mk (S.take 2) N [] ∧ S.drop 2 = T ∧ (S.take 2).all (Cl.below 2) = true ∧ (S.take 2).length = 2 := by
  obtain ⟨cs, rs, n, rfl, h⟩ := h
  refine ⟨⟨cs, rs, n, rfl, h⟩, rfl, ?_, rfl⟩
  show (belowAll 2 (rs.map D.int) && ((belowAll 2 (cs.map D.int) && (true && (true && true))) && true)) = true
  rw [below_ints, below_ints]
  rfl
theorem Mk.bel {S T : Sto} {N : Int} (h : Mk S N T) : (S.take 2).all (Cl.below 2) = true := h.take2.2.2.1
theorem Mk.app {S T : Sto} {N : Int} (h : Mk S N []) : Mk (S ++ T) N T := by
  obtain ⟨cs, rs, n, rfl, h⟩ := h
  exact ⟨cs, rs, n, by rw [List.append_nil], h⟩
theorem Mk.l2 {S T S1 : Sto} {N : Int} (h : Mk S N T) (l : S1.length = 2) : S1.length = (S.take 2).length := l.trans h.take2.2.2.2.symm
theorem Mk.back {S T S1 : Sto} {N M : Int} (h : Mk S N T) (d : Mk S1 M []) : Mk (S1 ++ S.drop 2) M T := by
  rw [h.take2.2.1]
  exact d.app
end Pu
namespace Pu
open PySem L2 Rb Gm
/-! ## the laws' own finish -/
theorem take_succ_sum {bs : List Int} {i : Nat} {b : Int} (h : bs[i]? = some b) : (bs.take (i + 1)).sum = (bs.take i).sum + b := by
  rw [List.take_add_one, h, List.sum_append]
  simp
/-! ## more bicycles at a station -/
def plM (bs : List Int) (j : Nat) (m : Int) : List Int := bs.take j ++ [bs.getD j 0 + m] ++ bs.drop (j + 1)
theorem plM_len {bs : List Int} {j : Nat} {m : Int} (h : j < bs.length) : (plM bs j m).length = bs.length := by
  unfold plM
  rw [List.length_append, List.length_append, List.length_take, List.length_drop, List.length_singleton]
  omega
theorem plM_D {bs : List Int} {j : Nat} {m : Int} : (cutD (bs.map D.int) none (some (j : Int)) ++ [D.int (tickAt bs j + m)]) ++ cutD (bs.map D.int) (some ((j : Int) + 1)) none = (plM bs j m).map D.int := by
  rw [cut_to, show ((j : Int) + 1) = ((j + 1 : Nat) : Int) from rfl, cut_from]
  unfold plM
  rw [List.map_append, List.map_append, List.map_take, List.map_drop]
  rfl
theorem further_ok {wk rd m : Int} {bs : List Int} {j : Nat} {S : Sto} {Q : QD} {E : ED} (l2 : bs.length ≤ 12) (hj : j < bs.length) (q : Q (roadV wk rd (plM bs j m)) S) : F_with_further [roadV wk rd bs, .int (j : Int), .int m] S Q E := by
  unfold F_with_further
  have cl1 := cutD_le (ds := bs.map D.int) (lo := none) (hi := some (j : Int))
  have cl2 := cutD_le (ds := bs.map D.int) (lo := some ((j : Int) + 1)) (hi := none)
  rw [List.length_map] at cl1 cl2
  refine ⟨rfl, rfl, onS (atI_tick hj) ⟨szr rfl, szd (by show (cutD (bs.map D.int) none (some (j : Int))).length + 1 ≤ 100000; omega), szd (by
    show (cutD (bs.map D.int) none (some (j : Int)) ++ [D.int (tickAt bs j + m)]).length + (cutD (bs.map D.int) (some ((j : Int) + 1)) none).length ≤ 100000
    rw [List.length_append, List.length_singleton]
    omega), szr rfl, ?_⟩⟩
  show Q (.tup [.int wk, .int rd, .tup ((cutD (bs.map D.int) none (some (j : Int)) ++ [D.int (tickAt bs j + m)]) ++ cutD (bs.map D.int) (some ((j : Int) + 1)) none)]) S
  rw [plM_D]
  exact q
/-! ## the least number -/
structure FewOk (f : Nat → Int) (e : Int) (n : Nat) (d : D) : Prop where
  w : (d = .non ∧ ∀ m : Nat, m ≤ n → e < f m) ∨ ∃ m : Nat, m ≤ n ∧ d = .int (m : Int) ∧ f m ≤ e ∧ ∀ k : Nat, k < m → e < f k
theorem FewOk.rep {f : Nat → Int} {e : Int} {n : Nat} {d : D} (h : FewOk f e n d) (hn : n ≤ 100) : Rep 0 0 d := by
  rcases h.w with ⟨rfl, a⟩ | ⟨m, m1, rfl, m2, m3⟩
  · exact Rep.non
  · exact Rep.int (by omega) (by omega)
end Pu
namespace Pu
open PySem L2 Rb Gm
/-! ## trips of either kind: a model -/
structure Vn where
  wk : Int
  rd : Int
  bs : List Int
  ns : List Int
structure VnOk (v : Vn) : Prop where
  R : RoadOk v.wk v.rd v.bs
  st : Sts v.ns
def Vn.rv (v : Vn) : D := roadV v.wk v.rd v.bs
def Vn.sv (v : Vn) : D := .tup (v.ns.map D.int)
def Vn.fin (v : Vn) : Int := lfin v.wk v.rd v.bs v.ns
def Vn.d (v : Vn) : D := .tup [v.rv, v.sv, .int v.fin]
inductive TKd where
  | plain
  | prom (L : Int)
def TKd.c : TKd → Str
  | .plain => "Trip"
  | .prom _ => "PromisedTrip"
def TKd.ex : TKd → List (Str × D)
  | .plain => []
  | .prom L => [("promised", .int L)]
def tF (t : TKd) (done vs : List D) (w : Bool) : List (Str × D) := ("done", .tup done) :: ("versions", .tup vs) :: ("watched", .bl w) :: t.ex
def tripC (t : TKd) (done vs : List D) (w : Bool) : Cl := .ins t.c (tF t done vs w)
/-! ### edits of any values -/
inductive Edt where
  | come (a : D)
  | leave (a : D)
  | place (a b : D)
  | take (a b : D)
def Edt.d : Edt → D
  | .come a => .tup [.str "come", a]
  | .leave a => .tup [.str "leave", a]
  | .place a b => .tup [.str "place", a, b]
  | .take a b => .tup [.str "take", a, b]
def Edt.Py : Edt → Prop
  | .come a => (toPy a).isSome = true
  | .leave a => (toPy a).isSome = true
  | .place a b => (toPy a).isSome = true ∧ (toPy b).isSome = true
  | .take a b => (toPy a).isSome = true ∧ (toPy b).isSome = true
def numIn (lo hi : Int) : D → Option Int
  | .int i => if isNum lo hi (.int i) = true then some i else none
  | _ => none
theorem numIn_none {lo hi : Int} {d : D} (h : isNum lo hi d = false) : numIn lo hi d = none := by
  cases d with
  | int i => exact if_neg (by rw [h]; decide)
  | _ => rfl
theorem numIn_some {lo hi : Int} {d : D} (h : isNum lo hi d = true) : ∃ i, d = .int i ∧ lo ≤ i ∧ i ≤ hi ∧ numIn lo hi d = some i := by
  cases d with
  | int i =>
    have h2 : (decide (lo ≤ i) && decide (i ≤ hi)) = true := h
    rw [Bool.and_eq_true] at h2
    exact ⟨i, rfl, of_decide_eq_true h2.1, of_decide_eq_true h2.2, if_pos h⟩
  | _ => cases h
theorem numIn_int {lo hi i : Int} (h1 : lo ≤ i) (h2 : i ≤ hi) : numIn lo hi (.int i) = some i := by
  refine if_pos ?_
  show (decide (lo ≤ i) && decide (i ≤ hi)) = true
  rw [decide_eq_true h1, decide_eq_true h2]
  rfl
def Edt.app : Edt → Vn → Except Er Vn
  | .come a, v => match numIn 0 1000000 a with
    | none => .error ("BadStart", [("value", a)])
    | some s => if 10 ≤ v.ns.length then .error ("TooManyPeople", []) else .ok { v with ns := v.ns ++ [s] }
  | .leave a, v => match numIn 0 ((v.ns.length : Int) - 1) a with
    | none => .error ("NoPerson", [("value", a)])
    | some p => if v.ns.length = 1 then .error ("LastPerson", []) else .ok { v with ns := v.ns.take p.toNat ++ v.ns.drop (p.toNat + 1) }
  | .place a b, v => match numIn 0 ((v.bs.length : Int) - 1) a with
    | none => .error ("NoStation", [("value", a)])
    | some x => match numIn 1 12 b with
      | none => .error ("BadCount", [("value", b)])
      | some n => if 12 < v.bs.getD x.toNat 0 + n then .error ("TooMuch", [("total", .int (v.bs.getD x.toNat 0 + n))]) else .ok { v with bs := plM v.bs x.toNat n }
  | .take a b, v => match numIn 0 ((v.bs.length : Int) - 1) a with
    | none => .error ("NoStation", [("value", a)])
    | some x => match numIn 1 12 b with
      | none => .error ("BadCount", [("value", b)])
      | some n => if v.bs.getD x.toNat 0 < n then .error ("TooFew", [("present", .int (v.bs.getD x.toNat 0))]) else .ok { v with bs := plM v.bs x.toNat (-n) }
section
variable {S : Sto} {Q : QD} {E : ED} {v : Vn}
theorem without_cut {ns : List Int} {p : Nat} : cutD (ns.map D.int) none (some (p : Int)) ++ cutD (ns.map D.int) (some ((p : Int) + 1)) none = (ns.take p ++ ns.drop (p + 1)).map D.int := by
  rw [show (p : Int) + 1 = ((p + 1 : Nat) : Int) by omega, cut_to, cut_from, List.map_append, List.map_take, List.map_drop]
/-- check_bikes -/
theorem check_ok {bs : List Int} {wk rd : Int} {a b : D} (ha : (toPy a).isSome = true) (hb : (toPy b).isSome = true) (e1 : isNum 0 ((bs.length : Int) - 1) a = false → E ("NoStation", [("value", a)]) S) (e2 : isNum 0 ((bs.length : Int) - 1) a = true → isNum 1 12 b = false → E ("BadCount", [("value", b)]) S)
    (q : isNum 0 ((bs.length : Int) - 1) a = true → isNum 1 12 b = true → Q .non S) : F_check_bikes [roadV wk rd bs, a, b] S Q E := by
  unfold F_check_bikes
  have lm : ((bs.map D.int).length : Int) = (bs.length : Int) := by rw [List.length_map]
  refine ⟨rfl, ?_⟩
  show F_is_number_from [a, .int 0, .int (((bs.map D.int).length : Int) - 1)] S _ _
  rw [lm]
  refine number_ok ha ?_
  cases h1 : isNum 0 ((bs.length : Int) - 1) a with
  | false => exact e1 h1
  | true =>
    refine number_ok hb ?_
    cases h2 : isNum 1 12 b with
    | false => exact e2 h1 h2
    | true => exact q h1 h2
theorem person2_ok {ns : List Int} {a : D} (hl : ns.length ≤ 10) (py : (toPy a).isSome = true) (e1 : numIn 0 1000000 a = none → E ("BadStart", [("value", a)]) S) (e2 : ∀ s, numIn 0 1000000 a = some s → 10 ≤ ns.length → E ("TooManyPeople", []) S)
    (q : ∀ s, numIn 0 1000000 a = some s → ¬ 10 ≤ ns.length → Q (.tup ((ns ++ [s]).map D.int)) S) : F_with_person [.tup (ns.map D.int), a] S Q E := by
  have lm : ((ns.map D.int).length : Int) = (ns.length : Int) := by rw [List.length_map]
  unfold F_with_person
  refine ⟨rfl, number_ok py ?_⟩
  cases h : isNum 0 1000000 a with
  | false => exact e1 (numIn_none h)
  | true =>
    obtain ⟨s, rfl, s0, s1, hn⟩ := numIn_some h
    refine ifB (b := decide ((10 : Int) ≤ ((ns.map D.int).length : Int))) (fun c => ?_) fun c => ?_
    · have c' := of_decide_eq_true c
      exact e2 s hn (by omega)
    · have c' := of_decide_eq_false c
      refine ⟨szr rfl, szd (by show (ns.map D.int).length + 1 ≤ 100000; omega), ?_⟩
      have := q s hn (by omega)
      rw [List.map_append] at this
      exact this
theorem without_ok {ns : List Int} {a : D} (hl : ns.length ≤ 10) (py : (toPy a).isSome = true) (e1 : numIn 0 ((ns.length : Int) - 1) a = none → E ("NoPerson", [("value", a)]) S) (e2 : ∀ s, numIn 0 ((ns.length : Int) - 1) a = some s → ns.length = 1 → E ("LastPerson", []) S)
    (q : ∀ s, numIn 0 ((ns.length : Int) - 1) a = some s → ¬ ns.length = 1 → Q (.tup ((ns.take s.toNat ++ ns.drop (s.toNat + 1)).map D.int)) S) : F_without_person [.tup (ns.map D.int), a] S Q E := by
  have lm : ((ns.map D.int).length : Int) = (ns.length : Int) := by rw [List.length_map]
  unfold F_without_person
  refine ⟨rfl, ?_⟩
  show F_is_number_from [a, .int 0, .int (((ns.map D.int).length : Int) - 1)] S _ _
  rw [lm]
  refine number_ok py ?_
  cases h : isNum 0 ((ns.length : Int) - 1) a with
  | false => exact e1 (numIn_none h)
  | true =>
    obtain ⟨s, rfl, s0, s1, hn⟩ := numIn_some h
    obtain ⟨p, rfl⟩ : ∃ p : Nat, s = (p : Int) := ⟨s.toNat, (Int.toNat_of_nonneg s0).symm⟩
    refine eq_int ?_
    show (if decide (((ns.map D.int).length : Int) = 1) = true then _ else _)
    refine ifB (fun c => ?_) fun c => ?_
    · have c' := of_decide_eq_true c
      exact e2 _ hn (by omega)
    · have c' := of_decide_eq_false c
      have cl1 := cutD_le (ds := ns.map D.int) (lo := none) (hi := some (p : Int))
      have cl2 := cutD_le (ds := ns.map D.int) (lo := some ((p : Int) + 1)) (hi := none)
      refine ⟨szd (by show (cutD (ns.map D.int) none (some (p : Int))).length + (cutD (ns.map D.int) (some ((p : Int) + 1)) none).length ≤ 100000; omega), ?_⟩
      have := q _ hn (by omega)
      rw [Int.toNat_natCast, ← without_cut] at this
      exact this
theorem more_ok {wk rd : Int} {bs : List Int} {a b : D} (l2 : bs.length ≤ 12) (ha : (toPy a).isSome = true) (hb : (toPy b).isSome = true) (e1 : numIn 0 ((bs.length : Int) - 1) a = none → E ("NoStation", [("value", a)]) S) (e2 : ∀ x, numIn 0 ((bs.length : Int) - 1) a = some x → numIn 1 12 b = none → E ("BadCount", [("value", b)]) S)
    (e3 : ∀ x n, numIn 0 ((bs.length : Int) - 1) a = some x → numIn 1 12 b = some n → 12 < bs.getD x.toNat 0 + n → E ("TooMuch", [("total", .int (bs.getD x.toNat 0 + n))]) S)
    (q : ∀ x n, numIn 0 ((bs.length : Int) - 1) a = some x → numIn 1 12 b = some n → ¬ 12 < bs.getD x.toNat 0 + n → Q (roadV wk rd (plM bs x.toNat n)) S) : F_with_more_bikes [roadV wk rd bs, a, b] S Q E := by
  unfold F_with_more_bikes
  refine ⟨rfl, check_ok ha hb (fun h => e1 (numIn_none h)) (fun h h2 => ?_) fun h h2 => ?_⟩
  · obtain ⟨x, rfl, x0, x1, hn⟩ := numIn_some h
    exact e2 x hn (numIn_none h2)
  · obtain ⟨x, rfl, x0, x1, hn⟩ := numIn_some h
    obtain ⟨n, rfl, n0, n1, hn2⟩ := numIn_some h2
    obtain ⟨p, rfl⟩ : ∃ p : Nat, x = (p : Int) := ⟨x.toNat, (Int.toNat_of_nonneg x0).symm⟩
    have hp : p < bs.length := by omega
    have e3' := e3 _ _ hn hn2
    have q' := q _ _ hn hn2
    rw [Int.toNat_natCast] at e3' q'
    show onSome (atI (bs.map D.int) (p : Int)) _
    refine onS (atI_tick hp) ?_
    refine ifB (b := decide (12 < tickAt bs p + n)) (fun c => e3' (of_decide_eq_true c)) fun c => ?_
    exact further_ok l2 hp (q' (of_decide_eq_false c))
theorem fewerB_ok {wk rd : Int} {bs : List Int} {a b : D} (l2 : bs.length ≤ 12) (ha : (toPy a).isSome = true) (hb : (toPy b).isSome = true) (e1 : numIn 0 ((bs.length : Int) - 1) a = none → E ("NoStation", [("value", a)]) S) (e2 : ∀ x, numIn 0 ((bs.length : Int) - 1) a = some x → numIn 1 12 b = none → E ("BadCount", [("value", b)]) S)
    (e3 : ∀ x n, numIn 0 ((bs.length : Int) - 1) a = some x → numIn 1 12 b = some n → bs.getD x.toNat 0 < n → E ("TooFew", [("present", .int (bs.getD x.toNat 0))]) S)
    (q : ∀ x n, numIn 0 ((bs.length : Int) - 1) a = some x → numIn 1 12 b = some n → ¬ bs.getD x.toNat 0 < n → Q (roadV wk rd (plM bs x.toNat (-n))) S) : F_with_fewer_bikes [roadV wk rd bs, a, b] S Q E := by
  unfold F_with_fewer_bikes
  refine ⟨rfl, check_ok ha hb (fun h => e1 (numIn_none h)) (fun h h2 => ?_) fun h h2 => ?_⟩
  · obtain ⟨x, rfl, x0, x1, hn⟩ := numIn_some h
    exact e2 x hn (numIn_none h2)
  · obtain ⟨x, rfl, x0, x1, hn⟩ := numIn_some h
    obtain ⟨n, rfl, n0, n1, hn2⟩ := numIn_some h2
    obtain ⟨p, rfl⟩ : ∃ p : Nat, x = (p : Int) := ⟨x.toNat, (Int.toNat_of_nonneg x0).symm⟩
    have hp : p < bs.length := by omega
    have e3' := e3 _ _ hn hn2
    have q' := q _ _ hn hn2
    rw [Int.toNat_natCast] at e3' q'
    show onSome (atI (bs.map D.int) (p : Int)) _
    refine onS (atI_tick hp) ?_
    refine ifB (b := decide (tickAt bs p < n)) (fun c => e3' (of_decide_eq_true c)) fun c => ?_
    show F_with_further [roadV wk rd bs, .int (p : Int), .int (-n)] S _ _
    exact further_ok l2 hp (q' (of_decide_eq_false c))
theorem app_come {a : D} : (Edt.come a).app v = match numIn 0 1000000 a with
    | none => .error ("BadStart", [("value", a)])
    | some s => if 10 ≤ v.ns.length then .error ("TooManyPeople", []) else .ok { v with ns := v.ns ++ [s] } := rfl
theorem app_leave {a : D} : (Edt.leave a).app v = match numIn 0 ((v.ns.length : Int) - 1) a with
    | none => .error ("NoPerson", [("value", a)])
    | some p => if v.ns.length = 1 then .error ("LastPerson", []) else .ok { v with ns := v.ns.take p.toNat ++ v.ns.drop (p.toNat + 1) } := rfl
theorem app_place {a b : D} : (Edt.place a b).app v = match numIn 0 ((v.bs.length : Int) - 1) a with
    | none => .error ("NoStation", [("value", a)])
    | some x => match numIn 1 12 b with
      | none => .error ("BadCount", [("value", b)])
      | some n => if 12 < v.bs.getD x.toNat 0 + n then .error ("TooMuch", [("total", .int (v.bs.getD x.toNat 0 + n))]) else .ok { v with bs := plM v.bs x.toNat n } := rfl
theorem app_take {a b : D} : (Edt.take a b).app v = match numIn 0 ((v.bs.length : Int) - 1) a with
    | none => .error ("NoStation", [("value", a)])
    | some x => match numIn 1 12 b with
      | none => .error ("BadCount", [("value", b)])
      | some n => if v.bs.getD x.toNat 0 < n then .error ("TooFew", [("present", .int (v.bs.getD x.toNat 0))]) else .ok { v with bs := plM v.bs x.toNat (-n) } := rfl
theorem setK_is : ∀ {ρ : Rho} {i : Nat} {d : D} {k : Rho → Prop}, setK ρ i d k = k (ρ.set i (some d))
  | [], _, _, _ => rfl
  | _ :: r, 0, d, k => rfl
  | x :: r, n + 1, d, k => setK_is (ρ := r) (i := n) (d := d) (k := fun r' => k (x :: r'))
theorem seq_asg {f : FE} {j : Nat} {R : FS} {ρ : Rho} {S : Sto} {De : DEnds} {Ed : ED} (h : f ρ S (fun d S1 => R (ρ.set j (some d)) S1 De Ed) Ed) : dSeq (dAsg f (gN j)) R ρ S De Ed := by
  show f ρ S (fun d S1 => setK ρ j d fun ρ' => R ρ' S1 De Ed) Ed
  simp only [setK_is]
  exact h
/-- t[n] of a written tuple -/
theorem rd_ix {i : Nat} {n : Int} {xs : List D} {d : D} {ρ : Rho} {S : Sto} {Q : QD} {Ed : ED} (g : getV ρ i = some (.tup xs)) (h : atI xs n = some d) (q : Q d S) : (dBin gIx (dVar i) (dC (.int n))) ρ S Q Ed := by
  refine onS g ?_
  show onSome (atI xs n) _
  exact onS h q
theorem seq_yes {i : Nat} {a b : Str} {A R : FS} {ρ : Rho} {S : Sto} {De : DEnds} {Ed : ED} (g : getV ρ i = some (.str a)) (n : a = b) (h : A ρ S { De with nx := fun ρ' S' => R ρ' S' De Ed } Ed) : dSeq (dIfS (dTest (dBin iEq (dVar i) (dC (.str b)))) A dSkip) R ρ S De Ed := by
  refine onS g (eq_str ?_)
  rw [decide_eq_true n]
  exact h
theorem seq_no {i : Nat} {a b : Str} {A R : FS} {ρ : Rho} {S : Sto} {De : DEnds} {Ed : ED} (g : getV ρ i = some (.str a)) (n : a ≠ b) (h : R ρ S De Ed) : dSeq (dIfS (dTest (dBin iEq (dVar i) (dC (.str b)))) A dSkip) R ρ S De Ed := by
  refine onS g (eq_str ?_)
  rw [decide_eq_false n]
  exact h
theorem changed_come {wk rd : Int} {bs ns : List Int} {a : D} (hl : ns.length ≤ 10) (py : (toPy a).isSome = true) (e1 : numIn 0 1000000 a = none → E ("BadStart", [("value", a)]) S) (e2 : ∀ s, numIn 0 1000000 a = some s → 10 ≤ ns.length → E ("TooManyPeople", []) S)
    (q : ∀ s, numIn 0 1000000 a = some s → ¬ 10 ≤ ns.length → Q (.tup [roadV wk rd bs, .tup ((ns ++ [s]).map D.int)]) S) : F_changed [roadV wk rd bs, .tup (ns.map D.int), .tup [.str "come", a]] S Q E := by
  unfold F_changed
  refine ⟨rfl, ne_str rfl ?_⟩
  exact person2_ok hl py e1 e2 fun s h1 h2 => ⟨szr rfl, q s h1 h2⟩
theorem changed_leave {wk rd : Int} {bs ns : List Int} {a : D} (hl : ns.length ≤ 10) (py : (toPy a).isSome = true) (e1 : numIn 0 ((ns.length : Int) - 1) a = none → E ("NoPerson", [("value", a)]) S) (e2 : ∀ s, numIn 0 ((ns.length : Int) - 1) a = some s → ns.length = 1 → E ("LastPerson", []) S)
    (q : ∀ s, numIn 0 ((ns.length : Int) - 1) a = some s → ¬ ns.length = 1 → Q (.tup [roadV wk rd bs, .tup ((ns.take s.toNat ++ ns.drop (s.toNat + 1)).map D.int)]) S) : F_changed [roadV wk rd bs, .tup (ns.map D.int), .tup [.str "leave", a]] S Q E := by
  unfold F_changed
  refine ⟨rfl, seq_asg (rd_ix rfl rfl (seq_no rfl (by decide) (seq_yes rfl rfl ?_)))⟩
  exact without_ok hl py e1 e2 fun s h1 h2 => ⟨szr rfl, q s h1 h2⟩
theorem changed_place {wk rd : Int} {bs ns : List Int} {a b : D} (l2 : bs.length ≤ 12) (ha : (toPy a).isSome = true) (hb : (toPy b).isSome = true) (e1 : numIn 0 ((bs.length : Int) - 1) a = none → E ("NoStation", [("value", a)]) S) (e2 : ∀ x, numIn 0 ((bs.length : Int) - 1) a = some x → numIn 1 12 b = none → E ("BadCount", [("value", b)]) S)
    (e3 : ∀ x n, numIn 0 ((bs.length : Int) - 1) a = some x → numIn 1 12 b = some n → 12 < bs.getD x.toNat 0 + n → E ("TooMuch", [("total", .int (bs.getD x.toNat 0 + n))]) S)
    (q : ∀ x n, numIn 0 ((bs.length : Int) - 1) a = some x → numIn 1 12 b = some n → ¬ 12 < bs.getD x.toNat 0 + n → Q (.tup [roadV wk rd (plM bs x.toNat n), .tup (ns.map D.int)]) S) : F_changed [roadV wk rd bs, .tup (ns.map D.int), .tup [.str "place", a, b]] S Q E := by
  unfold F_changed
  refine ⟨rfl, seq_asg (rd_ix rfl rfl (seq_no rfl (by decide) (seq_no rfl (by decide) (seq_yes rfl rfl ?_))))⟩
  exact more_ok l2 ha hb e1 e2 e3 fun x n h1 h2 h3 => ⟨szr rfl, q x n h1 h2 h3⟩
theorem changed_take {wk rd : Int} {bs ns : List Int} {a b : D} (l2 : bs.length ≤ 12) (ha : (toPy a).isSome = true) (hb : (toPy b).isSome = true) (e1 : numIn 0 ((bs.length : Int) - 1) a = none → E ("NoStation", [("value", a)]) S) (e2 : ∀ x, numIn 0 ((bs.length : Int) - 1) a = some x → numIn 1 12 b = none → E ("BadCount", [("value", b)]) S)
    (e3 : ∀ x n, numIn 0 ((bs.length : Int) - 1) a = some x → numIn 1 12 b = some n → bs.getD x.toNat 0 < n → E ("TooFew", [("present", .int (bs.getD x.toNat 0))]) S)
    (q : ∀ x n, numIn 0 ((bs.length : Int) - 1) a = some x → numIn 1 12 b = some n → ¬ bs.getD x.toNat 0 < n → Q (.tup [roadV wk rd (plM bs x.toNat (-n)), .tup (ns.map D.int)]) S) : F_changed [roadV wk rd bs, .tup (ns.map D.int), .tup [.str "take", a, b]] S Q E := by
  unfold F_changed
  refine ⟨rfl, seq_asg (rd_ix rfl rfl (seq_no rfl (by decide) (seq_no rfl (by decide) (seq_no rfl (by decide) ?_))))⟩
  exact fewerB_ok l2 ha hb e1 e2 e3 fun x n h1 h2 h3 => ⟨szr rfl, q x n h1 h2 h3⟩
theorem changed_ok {e : Edt} (ok : VnOk v) (py : e.Py) (er : ∀ x, e.app v = .error x → E x S) (q : ∀ v', e.app v = .ok v' → Q (.tup [v'.rv, v'.sv]) S) : F_changed [v.rv, v.sv, e.d] S Q E := by
  have l2 := ok.R.l2
  have n2 := ok.st.n2
  cases e with
  | come a =>
    rw [app_come] at er q
    exact changed_come n2 py (fun h => er _ (by rw [h])) (fun s h c => er _ (by rw [h]; exact if_pos c)) fun s h c => q { v with ns := v.ns ++ [s] } (by rw [h]; exact if_neg c)
  | leave a =>
    rw [app_leave] at er q
    exact changed_leave n2 py (fun h => er _ (by rw [h])) (fun s h c => er _ (by rw [h]; exact if_pos c)) fun s h c => q { v with ns := v.ns.take s.toNat ++ v.ns.drop (s.toNat + 1) } (by rw [h]; exact if_neg c)
  | place a b =>
    rw [app_place] at er q
    exact changed_place l2 py.1 py.2 (fun h => er _ (by rw [h])) (fun x h h2 => er _ (by rw [h]; dsimp only; rw [h2])) (fun x n h h2 c => er _ (by rw [h]; dsimp only; rw [h2]; exact if_pos c)) fun x n h h2 c => q { v with bs := plM v.bs x.toNat n } (by rw [h]; dsimp only; rw [h2]; exact if_neg c)
  | take a b =>
    rw [app_take] at er q
    exact changed_take l2 py.1 py.2 (fun h => er _ (by rw [h])) (fun x h h2 => er _ (by rw [h]; dsimp only; rw [h2])) (fun x n h h2 c => er _ (by rw [h]; dsimp only; rw [h2]; exact if_pos c)) fun x n h h2 c => q { v with bs := plM v.bs x.toNat (-n) } (by rw [h]; dsimp only; rw [h2]; exact if_neg c)
end
/-- an edit keeps what a version must be -/
theorem plM_bd {bs : List Int} {j : Nat} {m : Int} (hb : ∀ b ∈ bs, 0 ≤ b ∧ b ≤ 12) (hj : j < bs.length) (h0 : 0 ≤ bs.getD j 0 + m) (h1 : bs.getD j 0 + m ≤ 12) : ∀ b ∈ plM bs j m, 0 ≤ b ∧ b ≤ 12 := fun b h => by
  unfold plM at h
  rcases List.mem_append.mp h with h | h
  · rcases List.mem_append.mp h with h | h
    · exact hb b (List.mem_of_mem_take h)
    · rw [List.mem_singleton.mp h]
      exact ⟨h0, h1⟩
  · exact hb b (List.mem_of_mem_drop h)
theorem getD_mem' {bs : List Int} {j : Nat} (hj : j < bs.length) : bs.getD j 0 ∈ bs := by
  rw [List.getD_eq_getElem?_getD, List.getElem?_eq_getElem hj]
  exact List.getElem_mem hj
theorem app_ok {e : Edt} {v v' : Vn} (ok : VnOk v) (h : e.app v = .ok v') : VnOk v' := by
  obtain ⟨wk, rd, bs, ns⟩ := v
  obtain ⟨R, st⟩ := ok
  dsimp only at R st
  have hl := st.n2
  have hl1 := st.n1
  cases e with
  | come a =>
    cases hn : numIn 0 1000000 a with
    | none =>
      unfold Edt.app at h
      dsimp only at h
      rw [hn] at h
      cases h
    | some s =>
      unfold Edt.app at h
      dsimp only at h
      rw [hn] at h
      dsimp only at h
      split at h
      · cases h
      · rename_i c
        cases h
        refine ⟨R, ?_, ?_, fun x hx => ?_⟩
        · show 1 ≤ (ns ++ [s]).length
          rw [List.length_append]; omega
        · show (ns ++ [s]).length ≤ 10
          rw [List.length_append, List.length_singleton]; omega
        · rcases List.mem_append.mp hx with z | z
          · exact st.sb x z
          · rw [List.mem_singleton.mp z]
            have : isNum 0 1000000 a = true := by
              cases hh : isNum 0 1000000 a with
              | true => rfl
              | false => rw [numIn_none hh] at hn; cases hn
            obtain ⟨i, rfl, i0, i1, e⟩ := numIn_some this
            rw [e] at hn
            cases hn
            exact ⟨i0, i1⟩
  | leave a =>
    cases hn : numIn 0 ((ns.length : Int) - 1) a with
    | none =>
      unfold Edt.app at h
      dsimp only at h
      rw [hn] at h
      cases h
    | some s =>
      unfold Edt.app at h
      dsimp only at h
      rw [hn] at h
      dsimp only at h
      split at h
      · cases h
      · rename_i c
        cases h
        have : isNum 0 ((ns.length : Int) - 1) a = true := by
          cases hh : isNum 0 ((ns.length : Int) - 1) a with
          | true => rfl
          | false => rw [numIn_none hh] at hn; cases hn
        obtain ⟨i, rfl, i0, i1, e⟩ := numIn_some this
        rw [e] at hn
        cases hn
        refine ⟨R, ?_, ?_, fun x hx => ?_⟩
        · show 1 ≤ (ns.take s.toNat ++ ns.drop (s.toNat + 1)).length
          rw [List.length_append, List.length_take, List.length_drop]; omega
        · show (ns.take s.toNat ++ ns.drop (s.toNat + 1)).length ≤ 10
          rw [List.length_append, List.length_take, List.length_drop]; omega
        · rcases List.mem_append.mp hx with z | z
          · exact st.sb x (List.mem_of_mem_take z)
          · exact st.sb x (List.mem_of_mem_drop z)
  | place a b =>
    cases hn : numIn 0 ((bs.length : Int) - 1) a with
    | none =>
      unfold Edt.app at h
      dsimp only at h
      rw [hn] at h
      cases h
    | some x =>
      cases hn2 : numIn 1 12 b with
      | none =>
        unfold Edt.app at h
        dsimp only at h
        rw [hn] at h
        dsimp only at h
        rw [hn2] at h
        cases h
      | some n =>
        unfold Edt.app at h
        dsimp only at h
        rw [hn] at h
        dsimp only at h
        rw [hn2] at h
        dsimp only at h
        split at h
        · cases h
        · rename_i c
          cases h
          have b1 : isNum 0 ((bs.length : Int) - 1) a = true := by
            cases hh : isNum 0 ((bs.length : Int) - 1) a with
            | true => rfl
            | false => rw [numIn_none hh] at hn; cases hn
          obtain ⟨i, rfl, i0, i1, e⟩ := numIn_some b1
          rw [e] at hn
          cases hn
          have b2 : isNum 1 12 b = true := by
            cases hh : isNum 1 12 b with
            | true => rfl
            | false => rw [numIn_none hh] at hn2; cases hn2
          obtain ⟨i2, rfl, j0, j1, e2⟩ := numIn_some b2
          rw [e2] at hn2
          cases hn2
          have hx : x.toNat < bs.length := by omega
          have hb := R.hb _ (getD_mem' hx)
          exact ⟨⟨R.rd1, R.lt, R.w2, by show 1 ≤ (plM bs x.toNat n).length; rw [plM_len hx]; exact R.l1, by show (plM bs x.toNat n).length ≤ 12; rw [plM_len hx]; exact R.l2, plM_bd R.hb hx (by omega) (by omega)⟩, st⟩
  | take a b =>
    cases hn : numIn 0 ((bs.length : Int) - 1) a with
    | none =>
      unfold Edt.app at h
      dsimp only at h
      rw [hn] at h
      cases h
    | some x =>
      cases hn2 : numIn 1 12 b with
      | none =>
        unfold Edt.app at h
        dsimp only at h
        rw [hn] at h
        dsimp only at h
        rw [hn2] at h
        cases h
      | some n =>
        unfold Edt.app at h
        dsimp only at h
        rw [hn] at h
        dsimp only at h
        rw [hn2] at h
        dsimp only at h
        split at h
        · cases h
        · rename_i c
          cases h
          have b1 : isNum 0 ((bs.length : Int) - 1) a = true := by
            cases hh : isNum 0 ((bs.length : Int) - 1) a with
            | true => rfl
            | false => rw [numIn_none hh] at hn; cases hn
          obtain ⟨i, rfl, i0, i1, e⟩ := numIn_some b1
          rw [e] at hn
          cases hn
          have b2 : isNum 1 12 b = true := by
            cases hh : isNum 1 12 b with
            | true => rfl
            | false => rw [numIn_none hh] at hn2; cases hn2
          obtain ⟨i2, rfl, j0, j1, e2⟩ := numIn_some b2
          rw [e2] at hn2
          cases hn2
          have hx : x.toNat < bs.length := by omega
          have hb := R.hb _ (getD_mem' hx)
          exact ⟨⟨R.rd1, R.lt, R.w2, by show 1 ≤ (plM bs x.toNat (-n)).length; rw [plM_len hx]; exact R.l1, by show (plM bs x.toNat (-n)).length ≤ 12; rw [plM_len hx]; exact R.l2, plM_bd R.hb hx (by omega) (by omega)⟩, st⟩
end Pu
namespace Pu
open PySem L2 Rb Gm
/-! ## trips of either kind: attributes, edits -/
section
variable {S : Sto} {k : Nat} {t : TKd} {done vs : List D} {w : Bool}
abbrev TAt (S : Sto) (k : Nat) (t : TKd) (done vs : List D) (w : Bool) : Prop := S[k]? = some (tripC t done vs w)
theorem t_ins (hk : TAt S k t done vs w) : insOf S (.cell k) = some (t.c, tF t done vs w) := ins_cell hk
theorem t_cel (hk : TAt S k t done vs w) : cellIns S (.cell k) = some (k, t.c, tF t done vs w) := cell_ins hk
theorem t_has : (["Trip", "PromisedTrip"] : List Str).contains t.c = true := by cases t <;> rfl
theorem t_len : (tF t done vs w).length ≤ 500 := by cases t <;> (unfold tF TKd.ex; simp)
theorem t_done {K : D → Prop} (hk : TAt S k t done vs w) (q : K (.tup done)) : onSome (insOf S (.cell k)) fun cf => (["Trip", "PromisedTrip"] : List Str).contains cf.1 = true ∧ onSome (lookF "done" cf.2) K := onS (t_ins hk) ⟨t_has, onS (a := .tup done) rfl q⟩
theorem t_vers {K : D → Prop} (hk : TAt S k t done vs w) (q : K (.tup vs)) : onSome (insOf S (.cell k)) fun cf => (["Trip", "PromisedTrip"] : List Str).contains cf.1 = true ∧ onSome (lookF "versions" cf.2) K := onS (t_ins hk) ⟨t_has, onS (a := .tup vs) rfl q⟩
theorem t_wat {K : D → Prop} (hk : TAt S k t done vs w) (q : K (.bl w)) : onSome (insOf S (.cell k)) fun cf => (["Trip", "PromisedTrip"] : List Str).contains cf.1 = true ∧ onSome (lookF "watched" cf.2) K := onS (t_ins hk) ⟨t_has, onS (a := .bl w) rfl q⟩
theorem t_most {P : Prop} (hk : TAt S k t done vs w) (q : P) : onSome (insOf S (.cell k)) fun cf => ((["Trip", "PromisedTrip"] : List Str).contains cf.1 = true ∧ lookF "MOST_EDITS" cf.2 = none) ∧ P := onS (t_ins hk) ⟨⟨t_has, by cases t <;> rfl⟩, q⟩
/-- a property, a method that both kinds have -/
theorem t_prop {F : FF} {K : FF → Prop} (hk : TAt S k t done vs w) (q : K F) : onSome (insOf S (.cell k)) fun cf => onSome (tabF [("Trip", F), ("PromisedTrip", F)] cf.1) K := onS (t_ins hk) (onS (a := F) (by cases t <;> rfl) q)
theorem t_meth {F : FF} {K : FF → Prop} {m : Str} (hk : TAt S k t done vs w) (nm : lookF m (tF t done vs w) = none) (q : K F) : onSome (insOf S (.cell k)) fun cf => lookF m cf.2 = none ∧ onSome (tabF [("Trip", F), ("PromisedTrip", F)] cf.1) K := onS (t_ins hk) ⟨nm, onS (a := F) (by cases t <;> rfl) q⟩
def TKd.pick (t : TKd) (F G : FF) : FF := match t with | .plain => F | .prom _ => G
theorem t_meth2 {F G : FF} {K : FF → Prop} {m : Str} (hk : TAt S k t done vs w) (nm : lookF m (tF t done vs w) = none) (q : K (t.pick F G)) : onSome (insOf S (.cell k)) fun cf => lookF m cf.2 = none ∧ onSome (tabF [("Trip", F), ("PromisedTrip", G)] cf.1) K := onS (t_ins hk) ⟨nm, onS (a := t.pick F G) (by cases t <;> rfl) q⟩
theorem t_stDone {K : Sto → Prop} {done' : List D} (hk : TAt S k t done vs w) (q : K (S.set k (tripC t done' vs w))) : onSome (cellIns S (.cell k)) fun q => ((["Trip", "PromisedTrip"] : List Str).contains q.2.1 = true ∧ q.2.2.length ≤ 500) ∧ K (S.set q.1 (.ins q.2.1 (putD "done" (.tup done') q.2.2))) :=
  onS (t_cel hk) ⟨⟨t_has, t_len⟩, q⟩
theorem t_stVers {K : Sto → Prop} {vs' : List D} (hk : TAt S k t done vs w) (q : K (S.set k (tripC t done vs' w))) : onSome (cellIns S (.cell k)) fun q => ((["Trip", "PromisedTrip"] : List Str).contains q.2.1 = true ∧ q.2.2.length ≤ 500) ∧ K (S.set q.1 (.ins q.2.1 (putD "versions" (.tup vs') q.2.2))) :=
  onS (t_cel hk) ⟨⟨t_has, t_len⟩, q⟩
theorem TAt.put {c : Cl} (hk : S[k]? = some c) (done' vs' : List D) (w' : Bool) : TAt (S.set k (tripC t done' vs' w')) k t done' vs' w' := List.getElem?_set_self (List.getElem?_eq_some_iff.mp hk).1
end
section
variable {S : Sto} {k : Nat} {Q : QD} {E : ED} {v : Vn} {t : TKd} {done vs : List D} {w : Bool} {v1 v2 v3 : D}
theorem t_road (hk : TAt S k t done (vs ++ [.tup [v1, v2, v3]]) w) (q : Q v1 S) : F_Trip_road_2 [.cell k] S Q E := by
  unfold F_Trip_road_2
  refine ⟨rfl, t_vers hk ?_⟩
  show onSome (atI (vs ++ [.tup [v1, v2, v3]]) (-1)) _
  exact onS (atI_last _ _) q
theorem t_starts (hk : TAt S k t done (vs ++ [.tup [v1, v2, v3]]) w) (q : Q v2 S) : F_Trip_starts_2 [.cell k] S Q E := by
  unfold F_Trip_starts_2
  refine ⟨rfl, t_vers hk ?_⟩
  show onSome (atI (vs ++ [.tup [v1, v2, v3]]) (-1)) _
  exact onS (atI_last _ _) q
theorem t_finish (hk : TAt S k t done (vs ++ [.tup [v1, v2, v3]]) w) (q : Q v3 S) : F_Trip_finish_2 [.cell k] S Q E := by
  unfold F_Trip_finish_2
  refine ⟨rfl, t_vers hk ?_⟩
  show onSome (atI (vs ++ [.tup [v1, v2, v3]]) (-1)) _
  exact onS (atI_last _ _) q
theorem t_length (hk : TAt S k t done vs w) (q : Q (.int (done.length : Int)) S) : F_Trip_len [.cell k] S Q E := by
  unfold F_Trip_len
  exact ⟨rfl, t_done hk q⟩
theorem t_free (hk : TAt S k t done vs w) (b : w = true → E ("Busy", []) S) (q : w = false → Q .non S) : F_Trip_check_not_watched_2 [.cell k] S Q E := by
  unfold F_Trip_check_not_watched_2
  refine ⟨rfl, t_wat hk ?_⟩
  refine ifB (b := w) (fun h => b h) fun h => q h
/-! ### one edit -/
/-- what an edit of a trip with n edits gives -/
def stepT (L : Option Int) (w : Bool) (n : Nat) (e : Edt) (v : Vn) : Except Er Vn :=
  if w = true then .error ("Busy", []) else if 60 ≤ n then .error ("TooManyEdits", []) else match e.app v with
  | .error x => .error x
  | .ok v' => match L with
    | none => .ok v'
    | some l => if l < v'.fin then .error ("TooLate", [("tick", .int v'.fin)]) else .ok v'
def latD : Option Int → D
  | none => .non
  | some l => .int l
theorem stepT_ok {L : Option Int} {n : Nat} {e : Edt} {v v' : Vn} (h60 : n < 60) (h : e.app v = .ok v') (hl : ∀ l, L = some l → v'.fin ≤ l) : stepT L false n e v = .ok v' := by
  unfold stepT
  rw [if_neg (by decide), if_neg (by omega), h]
  cases L with
  | none => rfl
  | some l =>
    have := hl l rfl
    exact if_neg (by omega)
def den_keep : FS := (dSeq (dStF ["Trip", "PromisedTrip"] "done" (dVar 0) (dBin gAdd (dFld ["Trip", "PromisedTrip"] "done" (dVar 0)) (dTup (dCons (dVar 1) dNil))))
 (dSeq (dStF ["Trip", "PromisedTrip"] "versions" (dVar 0) (dBin gAdd (dFld ["Trip", "PromisedTrip"] "versions" (dVar 0)) (dTup (dCons (dTup (dCons (dVar 3) (dCons (dVar 4) (dCons (dVar 5) dNil)))) dNil))))
 (dRet (dB gLen (dCons (dFld ["Trip", "PromisedTrip"] "done" (dVar 0)) dNil)))))
theorem keep_ok {e x2 v3 v4 v5 : D} {De : DEnds} (hk : TAt S k t done vs w) (dl : done.length ≤ 1000) (vl : vs.length ≤ 1000) (q : De.rt (.int (done.length + 1 : Nat)) (S.set k (tripC t (done ++ [e]) (vs ++ [.tup [v3, v4, v5]]) w))) :
    den_keep [some (.cell k), some e, some x2, some v3, some v4, some v5] S De E := by
  unfold den_keep
  refine t_done hk ⟨szr rfl, szd (by show done.length + 1 ≤ 100000; omega), ?_⟩
  refine t_stDone hk ?_
  have hk1 : TAt (S.set k (tripC t (done ++ [e]) vs w)) k t (done ++ [e]) vs w := TAt.put hk _ _ _
  refine t_vers hk1 ⟨szr rfl, szr rfl, szd (by show vs.length + 1 ≤ 100000; omega), ?_⟩
  refine t_stVers hk1 ?_
  rw [List.set_set]
  refine t_done (TAt.put hk (done ++ [e]) (vs ++ [.tup [v3, v4, v5]]) w) ?_
  have el : ((done ++ [e]).length : Int) = ((done.length + 1 : Nat) : Int) := by rw [List.length_append]; rfl
  show De.rt (.int ((done ++ [e]).length : Int)) _
  rw [el]
  exact q
theorem t_edit {e : Edt} {L : Option Int} (ok : VnOk v) (py : e.Py) (hk : TAt S k t done (vs ++ [v.d]) w) (dl : done.length ≤ 1000) (vl : vs.length ≤ 900) (er : ∀ x, stepT L w done.length e v = .error x → E x S)
    (q : ∀ v', stepT L w done.length e v = .ok v' → Q (.int (done.length + 1 : Nat)) (S.set k (tripC t (done ++ [e.d]) (vs ++ [v.d] ++ [v'.d]) w))) : F_Trip_do_edit_2 [.cell k, e.d, latD L] S Q E := by
  unfold F_Trip_do_edit_2
  refine ⟨rfl, t_meth hk (by cases t <;> rfl) (t_free hk (fun h => er _ (by unfold stepT; exact if_pos h)) fun hw => ?_)⟩
  have nw : ¬ w = true := by rw [hw]; decide
  refine t_done hk (t_most hk ?_)
  refine ifB (b := decide ((60 : Int) ≤ (done.length : Int))) (fun c => ?_) fun c => ?_
  · have c' := of_decide_eq_true c
    exact er _ (by unfold stepT; rw [if_neg nw]; exact if_pos (by omega))
  have n60 : ¬ 60 ≤ done.length := by have := of_decide_eq_false c; omega
  refine t_prop hk (t_road hk (t_prop hk (t_starts hk ?_)))
  refine changed_ok ok py (fun x h => er x (by unfold stepT; rw [if_neg nw, if_neg n60, h])) fun v' h => ⟨rfl, ?_⟩
  have ok' := app_ok ok h
  refine least_ok ok'.R ok'.st.n1 ok'.st.n2 ok'.st.nn ?_
  have vl' : (vs ++ [v.d]).length ≤ 1000 := by rw [List.length_append, List.length_singleton]; omega
  cases L with
  | some l =>
    refine ⟨rfl, ifB (b := decide (l < v'.fin)) (fun c => er _ ?_) fun c => ?_⟩
    · unfold stepT
      rw [if_neg nw, if_neg n60, h]
      exact if_pos (of_decide_eq_true c)
    · have e1 : stepT (some l) w done.length e v = .ok v' := by unfold stepT; rw [if_neg nw, if_neg n60, h]; exact if_neg (of_decide_eq_false c)
      exact keep_ok hk dl vl' (q v' e1)
  | none =>
    have e1 : stepT none w done.length e v = .ok v' := by unfold stepT; rw [if_neg nw, if_neg n60, h]
    have fin := keep_ok (E := E) (De := ⟨fun _ S' => Q .non S', Q, fun _ _ => False, fun _ _ => False⟩) (e := e.d) (x2 := .non) (v3 := v'.rv) (v4 := v'.sv) (v5 := .int v'.fin) hk dl vl' (q v' e1)
    exact ⟨rfl, fin⟩
end
end Pu
namespace Pu
open PySem L2 Rb Gm
/-! ## a new trip, what it tells -/
def itx (i : Int) : Str := Str.ofString (toString i)
theorem itx_len {i : Int} (h : i.natAbs < 10 ^ 10) : (itx i).length ≤ 11 := by
  have e := int_text_length_le10 (k := 10) (by decide) h
  unfold itx
  rw [ofString_length]
  exact e
section
variable {S : Sto} {k : Nat} {Q : QD} {E : ED} {v : Vn} {t : TKd} {done vs : List D} {w : Bool}
theorem t_init {c : Str} (hc : c = "Trip" ∨ c = "PromisedTrip") (hk : S[k]? = some (.ins c [])) (ok : VnOk v) (q : Q .non (S.set k (.ins c [("done", .tup []), ("versions", .tup [v.d]), ("watched", .bl false)]))) : F_Trip_init_2 [.cell k, v.rv, v.sv] S Q E := by
  have hh : (["Trip", "PromisedTrip"] : List Str).contains c = true := by rcases hc with rfl | rfl <;> rfl
  have kl : k < S.length := (List.getElem?_eq_some_iff.mp hk).1
  have put : ∀ fs, (S.set k (.ins c fs))[k]? = some (.ins c fs) := fun fs => List.getElem?_set_self kl
  unfold F_Trip_init_2
  refine ⟨rfl, roaderr2_ok ok.R ⟨rfl, ?_⟩⟩
  refine isstarts_ok Sts.py ?_
  rw [show isSt v.sv = true from ok.st.is]
  refine ⟨szr rfl, ?_⟩
  show onSome (cellIns S (.cell k)) _
  refine onS (cell_ins hk) ⟨⟨hh, by show 0 ≤ 500; decide⟩, ?_⟩
  refine least_ok ok.R ok.st.n1 ok.st.n2 ok.st.nn ⟨szr rfl, szr rfl, ?_⟩
  show onSome (cellIns (S.set k (.ins c [("done", .tup [])])) (.cell k)) _
  refine onS (cell_ins (put _)) ⟨⟨hh, by show 1 ≤ 500; decide⟩, ?_⟩
  rw [List.set_set]
  show onSome (cellIns (S.set k (.ins c [("done", .tup []), ("versions", .tup [v.d])])) (.cell k)) _
  refine onS (cell_ins (put _)) ⟨⟨hh, by show 2 ≤ 500; decide⟩, ?_⟩
  rw [List.set_set]
  exact q
/-- a new plain trip -/
theorem t_make (ok : VnOk v) (q : Q .non (S ++ [tripC .plain [] [v.d] false])) : F_Trip_init_2 [.cell S.length, v.rv, v.sv] (S ++ [.ins "Trip" []]) Q E := by
  refine t_init (.inl rfl) get_new ok ?_
  rw [set_new]
  exact q
end
end Pu
namespace Pu
open PySem L2 Rb Gm TL
/-! ## the text of a trip -/
section
variable {S : Sto} {k : Nat} {Q : QD} {E : ED} {v : Vn} {t : TKd} {done vs : List D} {w : Bool}
theorem str_len (a b : Str) : (a ++ b).length = a.length + b.length := by
  show (a ++ b).cps.size = _
  rw [Str.cps_append, Array.size_append]
  rfl
theorem fin_bd (ok : VnOk v) : 1 ≤ v.fin ∧ v.fin ≤ 1012000 := lfin_bnd ok.R ok.st.n1 fun s hs => ok.st.sb s hs
end
end Pu
namespace Pu
open PySem L2 Rb Gm TL
/-! ## the draws of the laws of texts -/
theorem deck2_ok {ns : List Int} {Q : QD} {E : ED} (q : ∀ S, Dk S 0 [] → Q (.cell 1) S) : F_law_deck_2 [.kls (ns.map D.int)] [] Q E := by
  unfold F_law_deck_2
  refine ⟨rfl, ?_⟩
  have e : cutD (ns.map D.int) none (some 60) = (ns.take 60).map D.int := by
    rw [show (60 : Int) = ((60 : Nat) : Int) from rfl, cut_to, List.map_take]
  show (cutD (ns.map D.int) none (some 60)).length ≤ sizeLine ∧ dCompL (st1 1) dYes (dB gAbs (dCons (dVar 1) dNil)) [] (cutD (ns.map D.int) none (some 60)) [] [some (.kls (ns.map D.int)), none] [] _
  rw [e]
  refine ⟨by rw [List.length_map, List.length_take]; exact Rb.sz_le (by omega), ?_⟩
  refine comp_map (src := []) (g := fun d => match d with | .int i => .int (absI i) | d => d) (fun _ p => p) _ [] ?_ ?_
  · intro x hx
    obtain ⟨i, _, rfl⟩ := List.mem_map.mp hx
    exact ⟨_, rfl, fun Q q => q⟩
  rw [List.nil_append, List.map_map]
  refine ⟨szr rfl, ?_⟩
  have em : ((ns.take 60).map D.int).length ≤ 60 := by rw [List.length_map, List.length_take]; omega
  refine q _ ⟨(ns.take 60).map absI, 0, ?_, by rw [List.length_map, List.length_take]; omega, fun x hx => ?_, by omega, by omega⟩
  · rw [List.append_nil]
    show [Cl.lst _, _] = [Cl.lst (((ns.take 60).map absI).map D.int), _]
    rw [List.map_map]
    rfl
  · obtain ⟨i, _, rfl⟩ := List.mem_map.mp hx
    exact absI_nn i
theorem draw3_ok {S T : Sto} {N lim : Int} {Q : QD} {E : ED} (h : Dk S N T) (hN : N ≤ 1000000) (h1 : 1 ≤ lim) (h2 : lim ≤ 1000000000) (q : ∀ r S', 0 ≤ r → r < lim → Dk S' (N + 1) T → Q (.int r) S') : F_law_draw_3 [.cell 1, .int lim] S Q E := by
  obtain ⟨cs, n, rfl, hl, h0, hn, hn2⟩ := h
  have fin : ∀ r cs', 0 ≤ r → r < lim → cs'.length ≤ 63 → (∀ x ∈ cs', 0 ≤ x) → Q (.int r) (deckS cs' (n + 1) ++ T) := fun r cs' a b c d => q r _ a b ⟨cs', n + 1, rfl, c, d, by omega, by omega⟩
  unfold F_law_draw_3
  have cl : ((cs.map D.int).length : Int) = (cs.length : Int) := by rw [List.length_map]
  generalize hmx : (if ((cs.map D.int).length : Int) > 1 then ((cs.map D.int).length : Int) else 1) = mx
  have mb : 1 ≤ mx ∧ (cs.length : Int) ≤ mx ∧ (mx = 1 ∨ mx = cs.length) := by rw [← hmx, cl]; split <;> omega
  have y0 : 0 ≤ (n + 1) % mx := Int.emod_nonneg _ (by omega)
  have y1 : (n + 1) % mx < mx := Int.emod_lt_of_pos _ (by omega)
  refine ⟨rfl, ?_⟩
  show (0 : Int) < (if ((cs.map D.int).length : Int) > 1 then ((cs.map D.int).length : Int) else 1) ∧ _
  rw [hmx]
  refine ⟨by omega, ?_⟩
  obtain ⟨j, hj⟩ : ∃ j : Nat, (n + 1) % mx = (j : Int) := ⟨_, (Int.toNat_of_nonneg y0).symm⟩
  refine ⟨szr rfl, szd (by show (cs.map D.int).length + 1 ≤ 100000; rw [List.length_map]; omega), ?_⟩
  have ex : ∃ x : Int, atI ((cs ++ [0]).map D.int) (j : Int) = some (.int x) ∧ 0 ≤ x ∧ (10 ^ 18 ≤ x → j < cs.length) := by
    have jl : j < (cs ++ [0]).length := by rw [List.length_append, List.length_singleton]; omega
    refine ⟨(cs ++ [0])[j], atI_nat (by rw [List.getElem?_map, List.getElem?_eq_getElem jl]; rfl), ?_, fun hb => ?_⟩
    · rcases List.mem_append.mp (List.getElem_mem jl) with z | z
      · exact h0 _ z
      · rw [List.mem_singleton.mp z]; exact Int.le_refl _
    · rcases Nat.lt_or_ge j cs.length with z | z
      · exact z
      · exfalso
        rw [List.getElem_append_right z] at hb
        rw [show ([0] : List Int)[j - cs.length]'(by rw [List.length_singleton]; omega) = 0 from List.mem_singleton.mp (List.getElem_mem _)] at hb
        exact absurd hb (by decide)
  obtain ⟨x, e1, hx, hbig⟩ := ex
  have e2 : atI (cs.map D.int ++ [D.int 0]) ((n + 1) % mx) = some (.int x) := by rw [hj]; rw [List.map_append] at e1; exact e1
  show onSome (atI (cs.map D.int ++ [D.int 0]) ((n + 1) % mx)) _
  refine onS e2 ?_
  refine ⟨⟨by decide, by decide, by decide⟩, ifB (fun hb => ?_) fun hb => ?_⟩
  · have hb' : (10 : Int) ^ 18 ≤ x := of_decide_eq_true hb
    have jc := hbig hb'
    have wd : CDivW x lim := wide_div (b := 30) (by omega) (by omega) (by decide) (by decide)
    refine ⟨wd, onS (a := j) ?_ ?_⟩
    · show ixN (cs.map D.int).length ((n + 1) % mx) = some j
      rw [hj]
      unfold ixN
      rw [if_pos (by omega), if_pos (by rw [List.length_map]; omega), Int.toNat_natCast]
    · refine ⟨by omega, ?_⟩
      have e : (cs.map D.int).set j (D.int (x / lim)) = (cs.set j (x / lim)).map D.int := List.map_set.symm
      show Q (.int (x % lim)) (Cl.lst ((cs.map D.int).set j (D.int (x / lim))) :: Cl.lst [.cell 0, .int (n + 1)] :: T)
      rw [e]
      refine fin _ (cs.set j (x / lim)) (Int.emod_nonneg _ (by omega)) (Int.emod_lt_of_pos _ (by omega)) (by rw [List.length_set]; exact hl) fun z hz => ?_
      rcases List.mem_or_eq_of_mem_set hz with hz | rfl
      · exact h0 z hz
      · exact Int.ediv_nonneg hx (by omega)
  · have hm := Int.emod_nonneg x (show (2147483563 : Int) ≠ 0 by decide)
    have hm2 := Int.emod_lt_of_pos x (show (0 : Int) < 2147483563 by decide)
    refine ⟨by show (0 : Int) < _; decide, .inl (.inl ⟨by decide, by decide⟩), ⟨by decide, by decide, ?_⟩, by show (0 : Int) < _; decide, ?_⟩
    · show (x % 2147483563 + 104729 * (n + 1) + 7).natAbs < 2 ^ 64
      omega
    have z := Int.emod_nonneg (((x % 2147483563 + 104729 * (n + 1) + 7) ^ (4 : Int).toNat % 2147483629) / 8 + 31 * (n + 1)) (show lim ≠ 0 by omega)
    have z2 := Int.emod_lt_of_pos (((x % 2147483563 + 104729 * (n + 1) + 7) ^ (4 : Int).toNat % 2147483629) / 8 + 31 * (n + 1)) (show 0 < lim by omega)
    exact ⟨⟨by decide, by decide⟩, .inl (.inl ⟨by decide, by decide⟩), by show (0 : Int) < lim; omega, fin _ cs z z2 hl h0⟩
end Pu
namespace Pu
open PySem L2 Rb Gm TL
theorem seqE_no {f : FE} {a b : Str} {A R : FS} {ρ : Rho} {S : Sto} {De : DEnds} {Ed : ED} (hf : ∀ K : QD, K (.str a) S → f ρ S K Ed) (n : a ≠ b) (h : R ρ S De Ed) : dSeq (dIfS (dTest (dBin iEq f (dC (.str b)))) A dSkip) R ρ S De Ed := by
  refine hf _ (eq_str ?_)
  rw [decide_eq_false n]
  exact h
theorem seqE_yes {f : FE} {a b : Str} {A R : FS} {ρ : Rho} {S : Sto} {De : DEnds} {Ed : ED} (hf : ∀ K : QD, K (.str a) S → f ρ S K Ed) (n : a = b) (h : A ρ S { De with nx := fun ρ' S' => R ρ' S' De Ed } Ed) : dSeq (dIfS (dTest (dBin iEq f (dC (.str b)))) A dSkip) R ρ S De Ed := by
  refine hf _ (eq_str ?_)
  rw [decide_eq_true n]
  exact h
theorem seq_tp3 {n i j l : Nat} {x y z : D} {R : FS} {ρ : Rho} {S : Sto} {De : DEnds} {Ed : ED} (g : getV ρ n = some (.tup [x, y, z])) (h : R (((ρ.set i (some x)).set j (some y)).set l (some z)) S De Ed) : dSeq (dAsg (dVar n) (gTp 3 (gsCons (gN i) (gsCons (gN j) (gsCons (gN l) gsNil))))) R ρ S De Ed := by
  refine onS g ⟨rfl, ?_⟩
  show setK ρ i x fun ρ' => setK ρ' j y fun ρ'' => setK ρ'' l z fun ρ3 => R ρ3 S De Ed
  rw [setK_is, setK_is, setK_is]
  exact h
theorem numIn_inv {lo hi i : Int} {d : D} (h : numIn lo hi d = some i) : d = .int i ∧ lo ≤ i ∧ i ≤ hi := by
  have e : isNum lo hi d = true := by
    cases hh : isNum lo hi d with
    | true => rfl
    | false => rw [numIn_none hh] at h; cases h
  obtain ⟨j, rfl, a, b, e⟩ := numIn_some e
  rw [e] at h
  cases h
  exact ⟨rfl, a, b⟩
/-- an edit that is right, and what comes of it -/
inductive Okk (v : Vn) : Edt → Vn → Prop
  | come (s : Int) (s0 : 0 ≤ s) (s1 : s ≤ 1000000) (h : v.ns.length ≤ 9) : Okk v (.come (.int s)) { v with ns := v.ns ++ [s] }
  | leave (p : Nat) (hp : p < v.ns.length) (h : 2 ≤ v.ns.length) : Okk v (.leave (.int (p : Int))) { v with ns := v.ns.take p ++ v.ns.drop (p + 1) }
  | place (x : Nat) (n : Int) (hx : x < v.bs.length) (n0 : 1 ≤ n) (n1 : n ≤ 12) (h : v.bs.getD x 0 + n ≤ 12) : Okk v (.place (.int (x : Int)) (.int n)) { v with bs := plM v.bs x n }
  | take (x : Nat) (n : Int) (hx : x < v.bs.length) (n0 : 1 ≤ n) (n1 : n ≤ 12) (h : n ≤ v.bs.getD x 0) : Okk v (.take (.int (x : Int)) (.int n)) { v with bs := plM v.bs x (-n) }
theorem Okk.app {v v' : Vn} {e : Edt} (h : Okk v e v') : e.app v = .ok v' := by
  cases h with
  | come s s0 s1 h =>
    rw [app_come, numIn_int s0 s1]
    exact if_neg (by omega)
  | leave p hp h =>
    rw [app_leave, numIn_int (by omega) (by omega)]
    exact if_neg (by omega)
  | place x n hx n0 n1 h =>
    rw [app_place, numIn_int (by omega) (by omega)]
    dsimp only
    rw [numIn_int n0 n1]
    exact if_neg (by rw [Int.toNat_natCast]; omega)
  | take x n hx n0 n1 h =>
    rw [app_take, numIn_int (by omega) (by omega)]
    dsimp only
    rw [numIn_int n0 n1]
    exact if_neg (by rw [Int.toNat_natCast]; omega)
theorem Okk.of {v v' : Vn} {e : Edt} (h1 : 1 ≤ v.ns.length) (h : e.app v = .ok v') : Okk v e v' := by
  cases e with
  | come a =>
    rw [app_come] at h
    cases hn : numIn 0 1000000 a with
    | none => rw [hn] at h; cases h
    | some s =>
      rw [hn] at h
      obtain ⟨rfl, a0, a1⟩ := numIn_inv hn
      dsimp only at h
      split at h
      · cases h
      · cases h; exact .come s a0 a1 (by omega)
  | leave a =>
    rw [app_leave] at h
    cases hn : numIn 0 ((v.ns.length : Int) - 1) a with
    | none => rw [hn] at h; cases h
    | some s =>
      rw [hn] at h
      obtain ⟨rfl, a0, a1⟩ := numIn_inv hn
      obtain ⟨p, rfl⟩ : ∃ p : Nat, s = (p : Int) := ⟨s.toNat, (Int.toNat_of_nonneg a0).symm⟩
      dsimp only at h
      split at h
      · cases h
      · cases h; exact .leave p (by omega) (by omega)
  | place a b =>
    rw [app_place] at h
    cases hn : numIn 0 ((v.bs.length : Int) - 1) a with
    | none => rw [hn] at h; cases h
    | some x =>
      rw [hn] at h
      obtain ⟨rfl, a0, a1⟩ := numIn_inv hn
      obtain ⟨p, rfl⟩ : ∃ p : Nat, x = (p : Int) := ⟨x.toNat, (Int.toNat_of_nonneg a0).symm⟩
      dsimp only at h
      cases hm : numIn 1 12 b with
      | none => rw [hm] at h; cases h
      | some n =>
        rw [hm] at h
        obtain ⟨rfl, b0, b1⟩ := numIn_inv hm
        dsimp only at h
        split at h
        · cases h
        · rename_i hc
          cases h
          rw [Int.toNat_natCast] at hc
          exact .place p n (by omega) b0 b1 (by omega)
  | take a b =>
    rw [app_take] at h
    cases hn : numIn 0 ((v.bs.length : Int) - 1) a with
    | none => rw [hn] at h; cases h
    | some x =>
      rw [hn] at h
      obtain ⟨rfl, a0, a1⟩ := numIn_inv hn
      obtain ⟨p, rfl⟩ : ∃ p : Nat, x = (p : Int) := ⟨x.toNat, (Int.toNat_of_nonneg a0).symm⟩
      dsimp only at h
      cases hm : numIn 1 12 b with
      | none => rw [hm] at h; cases h
      | some n =>
        rw [hm] at h
        obtain ⟨rfl, b0, b1⟩ := numIn_inv hm
        dsimp only at h
        split at h
        · cases h
        · rename_i hc
          cases h
          rw [Int.toNat_natCast] at hc
          exact .take p n (by omega) b0 b1 (by omega)
theorem Okk.py {v v' : Vn} {e : Edt} (h : Okk v e v') : e.Py := by cases h <;> first | rfl | exact ⟨rfl, rfl⟩
end Pu
namespace Pu
open PySem L2 Rb Gm TL
/-- if t: return .. where the test's answer is known as a proposition -/
theorem or_ok {p : Prop} [Decidable p] {t : FT} {A R : FS} {ρ : Rho} {S : Sto} {De : DEnds} {Ed : ED} (ht : ∀ K : Bool → Sto → Prop, K (decide p) S → t ρ S K Ed) (h1 : p → A ρ S { De with nx := fun ρ' S' => R ρ' S' De Ed } Ed) (h2 : ¬ p → R ρ S De Ed) : dSeq (dIfS t A dSkip) R ρ S De Ed := by
  refine ht _ ?_
  by_cases h : p
  · rw [decide_eq_true h]
    exact h1 h
  · rw [decide_eq_false h]
    exact h2 h
end Pu
namespace Pu
open PySem L2 Rb Gm TL
def TKd.L : TKd → Option Int
  | .plain => none
  | .prom l => some l
section
variable {S : Sto} {k : Nat} {Q : QD} {E : ED} {v : Vn} {t : TKd} {done vs : List D} {w : Bool}
/-- the promised tick of a trip with a promise -/
theorem p_latest {l : Int} (hk : TAt S k (.prom l) done vs w) (q : Q (.int l) S) : F_Promise_latest_2 [.cell k] S Q E := by
  unfold F_Promise_latest_2
  exact ⟨rfl, onS (t_ins hk) ⟨rfl, onS (a := .int l) rfl q⟩⟩
theorem p_prop {l : Int} {K : FF → Prop} (hk : TAt S k (.prom l) done vs w) (q : K F_Promise_latest_2) : onSome (insOf S (.cell k)) fun cf => onSome (tabF [("PromisedTrip", F_Promise_latest_2)] cf.1) K := onS (t_ins hk) (onS (a := F_Promise_latest_2) rfl q)
theorem p_meth {l : Int} {F : FF} {K : FF → Prop} {m : Str} (hk : TAt S k (.prom l) done vs w) (nm : lookF m (tF (.prom l) done vs w) = none) (q : K F) : onSome (insOf S (.cell k)) fun cf => lookF m cf.2 = none ∧ onSome (tabF [("PromisedTrip", F)] cf.1) K := onS (t_ins hk) ⟨nm, onS (a := F) rfl q⟩
theorem t_come {a : D} (hk : TAt S k t done vs w) (h : F_Trip_do_edit_2 [.cell k, (Edt.come a).d, latD t.L] S Q E) : (t.pick F_Trip_come_2 F_PromisedTrip_come) [.cell k, a] S Q E := by
  cases t with
  | plain =>
    show F_Trip_come_2 [.cell k, a] S Q E
    unfold F_Trip_come_2
    exact ⟨rfl, t_meth hk rfl ⟨szr rfl, h⟩⟩
  | prom l =>
    show F_PromisedTrip_come [.cell k, a] S Q E
    unfold F_PromisedTrip_come
    exact ⟨rfl, p_meth hk rfl ⟨szr rfl, p_prop hk (p_latest hk h)⟩⟩
theorem t_leave {a : D} (hk : TAt S k t done vs w) (h : F_Trip_do_edit_2 [.cell k, (Edt.leave a).d, latD t.L] S Q E) : (t.pick F_Trip_leave F_PromisedTrip_leave) [.cell k, a] S Q E := by
  cases t with
  | plain =>
    show F_Trip_leave [.cell k, a] S Q E
    unfold F_Trip_leave
    exact ⟨rfl, t_meth hk rfl ⟨szr rfl, h⟩⟩
  | prom l =>
    show F_PromisedTrip_leave [.cell k, a] S Q E
    unfold F_PromisedTrip_leave
    exact ⟨rfl, p_meth hk rfl ⟨szr rfl, p_prop hk (p_latest hk h)⟩⟩
theorem t_place {a b : D} (hk : TAt S k t done vs w) (h : F_Trip_do_edit_2 [.cell k, (Edt.place a b).d, latD t.L] S Q E) : (t.pick F_Trip_place F_PromisedTrip_place) [.cell k, a, b] S Q E := by
  cases t with
  | plain =>
    show F_Trip_place [.cell k, a, b] S Q E
    unfold F_Trip_place
    exact ⟨rfl, t_meth hk rfl ⟨szr rfl, h⟩⟩
  | prom l =>
    show F_PromisedTrip_place [.cell k, a, b] S Q E
    unfold F_PromisedTrip_place
    exact ⟨rfl, p_meth hk rfl ⟨szr rfl, p_prop hk (p_latest hk h)⟩⟩
theorem t_take {a b : D} (hk : TAt S k t done vs w) (h : F_Trip_do_edit_2 [.cell k, (Edt.take a b).d, latD t.L] S Q E) : (t.pick F_Trip_take F_PromisedTrip_take) [.cell k, a, b] S Q E := by
  cases t with
  | plain =>
    show F_Trip_take [.cell k, a, b] S Q E
    unfold F_Trip_take
    exact ⟨rfl, t_meth hk rfl ⟨szr rfl, h⟩⟩
  | prom l =>
    show F_PromisedTrip_take [.cell k, a, b] S Q E
    unfold F_PromisedTrip_take
    exact ⟨rfl, p_meth hk rfl ⟨szr rfl, p_prop hk (p_latest hk h)⟩⟩
end
end Pu
namespace Pu
open PySem L2 Rb Gm TL
theorem VnOk.repS {v : Vn} (ok : VnOk v) : Rep 1 10 v.sv := Rep.starts ok.st.n2 fun s hs => ok.st.sb s hs
theorem VnOk.repR {v : Vn} (ok : VnOk v) : Rep 2 39 v.rv := Rep.road ok.R
theorem VnOk.rep {v : Vn} (ok : VnOk v) : Rep 3 80 (.tup [v.rv, v.sv]) := Rep.tup (k := 2) (n := 39) (fun d hd => by
  rcases List.mem_cons.mp hd with rfl | hd
  · exact ok.repR
  · rw [List.mem_singleton.mp hd]
    exact ok.repS.mono (by decide) (by decide)) (by show 2 * 40 ≤ 80; decide)
theorem rep_word {x : Str} (h : x.cps.size ≤ 5) (hx : x.cps.toList.all (fun c => decide (c < 16 ^ 8)) = true) (ho : PyData.canLay0 (.str x) = true) (hf : (PyData.str x).shown.cps.toList.all (fun c => decide (c < 1114112)) = true) : Rep 0 5 (.str x) := Rep.str h (fun c hc => of_decide_eq_true (List.all_eq_true.mp hx c hc)) ho (fine_of hf)
theorem Okk.rep {v v' : Vn} {e : Edt} (l2 : v.bs.length ≤ 12) (n2 : v.ns.length ≤ 10) (h : Okk v e v') : Rep 1 18 e.d := by
  have wc : Rep 0 5 (.str "come") := rep_word (by decide +kernel) (by decide +kernel) (by decide +kernel) (by decide +kernel)
  have wl : Rep 0 5 (.str "leave") := rep_word (by decide +kernel) (by decide +kernel) (by decide +kernel) (by decide +kernel)
  have wp : Rep 0 5 (.str "place") := rep_word (by decide +kernel) (by decide +kernel) (by decide +kernel) (by decide +kernel)
  have wt : Rep 0 5 (.str "take") := rep_word (by decide +kernel) (by decide +kernel) (by decide +kernel) (by decide +kernel)
  have int : ∀ {i : Int}, -1000000000000 ≤ i → i ≤ 1000000000000 → Rep 0 5 (.int i) := fun a b => (Rep.int a b).mono (by decide) (by decide)
  cases h with
  | come s s0 s1 h =>
    refine Rep.tup (n := 5) (fun d hd => ?_) (by show 2 * 6 ≤ 18; decide)
    simp only [List.mem_cons, List.not_mem_nil, or_false] at hd
    rcases hd with rfl | rfl
    · exact wc
    · exact int (by omega) (by omega)
  | leave p hp h =>
    refine Rep.tup (n := 5) (fun d hd => ?_) (by show 2 * 6 ≤ 18; decide)
    simp only [List.mem_cons, List.not_mem_nil, or_false] at hd
    rcases hd with rfl | rfl
    · exact wl
    · exact int (by omega) (by omega)
  | place x n hx n0 n1 h =>
    refine Rep.tup (n := 5) (fun d hd => ?_) (by show 3 * 6 ≤ 18; decide)
    simp only [List.mem_cons, List.not_mem_nil, or_false] at hd
    rcases hd with rfl | rfl | rfl
    · exact wp
    · exact int (by omega) (by omega)
    · exact int (by omega) (by omega)
  | take x n hx n0 n1 h =>
    refine Rep.tup (n := 5) (fun d hd => ?_) (by show 3 * 6 ≤ 18; decide)
    simp only [List.mem_cons, List.not_mem_nil, or_false] at hd
    rcases hd with rfl | rfl | rfl
    · exact wt
    · exact int (by omega) (by omega)
    · exact int (by omega) (by omega)
section
variable {S : Sto} {k j : Nat} {Q : QD} {E : ED} {v : Vn} {t : TKd} {done vs : List D} {w : Bool} {b : Bool}
theorem nat_bd {i : Int} (h : i.natAbs < 10 ^ 10) : i.natAbs < 2 ^ 1000 := Nat.lt_trans h (by decide)
end
end Pu
namespace Pu
open PySem L2 Rb Gm TL
section
variable {S : Sto} {n : Nat} {xs : List D}
theorem cell_lst (h : S[n]? = some (.lst xs)) : cellOf S (.cell n) = some (n, xs) := by
  show (lstAt S[n]?).map _ = _
  rw [h]
  rfl
theorem seq_cell (h : S[n]? = some (.lst xs)) : seqOf S (.cell n) = some xs := by
  show lstAt S[n]? = _
  rw [h]
  rfl
end
/-- a trip and the law's list of its edits, in the cells behind the deck -/
structure TrW (T : Sto) (a b : Nat) (t : TKd) (es : List Edt) (us : List Vn) (v : Vn) : Prop where
  ha : T[a]? = some (.lst (es.map Edt.d))
  hb : T[b]? = some (tripC t (es.map Edt.d) (us.map Vn.d ++ [v.d]) false)
  ne : a ≠ b
  hl : us.length = es.length
  rep : ∀ d ∈ es.map Edt.d, Rep 1 18 d
  ok : VnOk v
theorem TrW.la {T : Sto} {a b : Nat} {t : TKd} {es : List Edt} {us : List Vn} {v : Vn} (h : TrW T a b t es us v) : a < T.length := (List.getElem?_eq_some_iff.mp h.ha).1
theorem TrW.lb {T : Sto} {a b : Nat} {t : TKd} {es : List Edt} {us : List Vn} {v : Vn} (h : TrW T a b t es us v) : b < T.length := (List.getElem?_eq_some_iff.mp h.hb).1
/-- after one more edit -/
theorem TrW.next {T : Sto} {a b : Nat} {t : TKd} {es : List Edt} {us : List Vn} {v v' : Vn} {e : Edt} (h : TrW T a b t es us v) (o : Okk v e v') : TrW ((T.set a (.lst (es.map Edt.d ++ [e.d]))).set b (tripC t (es.map Edt.d ++ [e.d]) (us.map Vn.d ++ [v.d] ++ [v'.d]) false)) a b t (es ++ [e]) (us ++ [v]) v' where
  ha := by
    rw [List.getElem?_set_ne (Ne.symm h.ne), List.getElem?_set_self h.la, List.map_append]
    rfl
  hb := by
    rw [List.getElem?_set_self (by rw [List.length_set]; exact h.lb), List.map_append, List.map_append]
    rfl
  ne := h.ne
  hl := by rw [List.length_append, List.length_append, h.hl]; rfl
  rep := fun d hd => by
    rw [List.map_append] at hd
    rcases List.mem_append.mp hd with z | z
    · exact h.rep d z
    · rw [List.mem_singleton.mp z]
      exact o.rep h.ok.R.l2 h.ok.st.n2
  ok := app_ok h.ok o.app
end Pu
namespace Pu
open PySem L2 Rb Gm TL
theorem pk4 {x y z w r : Int} (h0 : 0 ≤ r) (h1 : r < 4) : ∃ v : Int, atI [D.int x, .int y, .int z, .int w] r = some (.int v) ∧ (v = x ∨ v = y ∨ v = z ∨ v = w) := by
  rcases (by omega : r = 0 ∨ r = 1 ∨ r = 2 ∨ r = 3) with rfl | rfl | rfl | rfl
  · exact ⟨x, rfl, .inl rfl⟩
  · exact ⟨y, rfl, .inr (.inl rfl)⟩
  · exact ⟨z, rfl, .inr (.inr (.inl rfl))⟩
  · exact ⟨w, rfl, .inr (.inr (.inr rfl))⟩
abbrev stEnv (st pe : Int) (b : Bool) (wk rd : Int) (a8 a9 : Option D) : Rho := [some (.cell 1), some (.int st), some (.int pe), some (.bl b), some (.int wk), some (.int rd), some (.cell 2), some (.cell 3), a8, a9]
theorem stateT_ok {S : Sto} {N st pe : Int} {Q : QD} {E : ED} (h : Dk S N []) (hN : N ≤ 800000) (s1 : 1 ≤ st) (s2 : st ≤ 12) (p1 : 1 ≤ pe) (p2 : pe ≤ 10)
    (q : ∀ wk rd (bs ns : List Int) S', RoadOk wk rd bs → (bs.length : Int) ≤ st → Sts ns → (ns.length : Int) ≤ pe → Dk S' (N + 200) [] → S'.length = 2 → Q (.tup [roadV wk rd bs, .tup (ns.map D.int)]) S') : F_law_state [.cell 1, .int st, .int pe] S Q E := by
  unfold F_law_state
  have hS : S.length = 2 := h.len
  refine ⟨rfl, draw3_ok h (by omega) (by decide) (by decide) fun w S1 w0 w1 d1 => eq_int ?_⟩
  have kk : ∃ b : Bool, nb false (decide (w = 0)) = b := ⟨_, rfl⟩
  obtain ⟨b, hb⟩ := kk
  rw [hb]
  refine ⟨szr rfl, ?_⟩
  have e1 : ∃ v : Int, atI [D.int 12, .int 999] (if b = true then 1 else 0) = some (.int v) ∧ 12 ≤ v ∧ v ≤ 999 := by
    cases b with
    | true => exact ⟨999, rfl, by decide, by decide⟩
    | false => exact ⟨12, rfl, by decide, by decide⟩
  obtain ⟨lf, e1, lf1, lf2⟩ := e1
  show onSome (atI [D.int 12, .int 999] (if b = true then 1 else 0)) _
  refine onS e1 (draw3_ok d1 (by omega) (by omega) (by omega) fun f S2 f0 f1 d2 => ?_)
  refine draw3_ok d2 (by omega) (by omega) (by omega) fun r S3 r0 r1 d3 => ⟨szr rfl, szr rfl, ?_⟩
  have l3 : S3.length = 2 := d3.len
  have d4 := (d3.snoc (.lst [])).snoc (.lst [])
  rw [show (S3 ++ [Cl.lst []]).length = 3 by rw [List.length_append, l3]; rfl, l3]
  generalize (S3 ++ [Cl.lst []]) ++ [Cl.lst []] = S4 at d4 ⊢
  refine draw3_ok d4 (by omega) (by omega) (by omega) fun m S5 m0 m1 d5 => ⟨⟨by omega, by omega⟩, ?_⟩
  obtain ⟨n, hn⟩ : ∃ n : Nat, 1 + m = (n : Int) := ⟨(1 + m).toNat, (Int.toNat_of_nonneg (by omega)).symm⟩
  rw [hn, Int.toNat_natCast]
  refine for_rng 0 n (fun i ρ S' => ∃ a8 a9, ρ = stEnv st pe b (2 + f) (1 + r) a8 a9 ∧ ∃ bs : List Int, bs.length = i ∧ (∀ x ∈ bs, 0 ≤ x ∧ x ≤ 12) ∧ Dk S' (N + 5 + 4 * i) [.lst (bs.map D.int), .lst []]) ⟨_, _, rfl, [], rfl, (fun _ z => nomatch z), d5.le (by omega)⟩ ?_ ?_
  · rintro i ρ S6 K hi hK ⟨a8, a9, rfl, bs, bl, hbs, d6⟩
    refine onS (cell_lst (d6.get (j := 0) rfl)) ?_
    refine draw3_ok d6 (by omega) (by decide) (by decide) fun x1 S7 x10 x11 d7 => ?_
    refine draw3_ok d7 (by omega) (by decide) (by decide) fun x2 S8 x20 x21 d8 => ?_
    refine draw3_ok d8 (by omega) (by decide) (by decide) fun x3 S9 x30 x31 d9 => ⟨szr rfl, ?_⟩
    refine draw3_ok d9 (by omega) (by decide) (by decide) fun x4 S10 x40 x41 d10 => ?_
    obtain ⟨v, e5, c5⟩ := pk4 (x := 0) (y := x1) (z := x2) (w := x3) x40 x41
    show onSome (atI [D.int 0, .int x1, .int x2, .int x3] x4) _
    refine onS e5 ?_
    refine onS (cell_lst (d10.get (j := 0) rfl)) ⟨szd (by show (bs.map D.int).length < 100000; rw [List.length_map]; omega), ?_⟩
    have d11 := d10.put (j := 0) (c := .lst (bs.map D.int ++ [.int v])) (by show 0 < 2; decide)
    refine hK _ _ ⟨_, _, rfl, bs ++ [v], by rw [List.length_append, bl]; rfl, fun x hx => ?_, ?_⟩
    · rcases List.mem_append.mp hx with z | z
      · exact hbs x z
      · rw [List.mem_singleton.mp z]; omega
    · rw [List.map_append]
      exact d11.le (by omega)
  · rintro ρ S6 ⟨a8, a9, rfl, bs, bl, hbs, d6⟩
    refine draw3_ok d6 (by omega) (by omega) (by omega) fun m2 S7 m20 m21 d7 => ⟨⟨by omega, by omega⟩, ?_⟩
    obtain ⟨n2, hn2⟩ : ∃ n2 : Nat, 1 + m2 = (n2 : Int) := ⟨(1 + m2).toNat, (Int.toNat_of_nonneg (by omega)).symm⟩
    rw [hn2, Int.toNat_natCast]
    refine for_rng 0 n2 (fun i ρ S' => ∃ a8 a9, ρ = stEnv st pe b (2 + f) (1 + r) a8 a9 ∧ ∃ ns : List Int, ns.length = i ∧ (∀ x ∈ ns, 0 ≤ x ∧ x ≤ 1000000) ∧ Dk S' (N + 60 + 2 * i) [.lst (bs.map D.int), .lst (ns.map D.int)]) ⟨_, _, rfl, [], rfl, (fun _ z => nomatch z), d7.le (by omega)⟩ ?_ ?_
    · rintro i ρ S8 K hi hK ⟨a8, a9, rfl, ns, nl, hns, d8⟩
      refine onS (cell_lst (d8.get (j := 1) rfl)) ?_
      refine ⟨⟨by decide, by decide, by decide⟩, szr rfl, ?_⟩
      have draws : ∀ S9 k, Dk S9 (N + 61 + 2 * i) [.lst (bs.map D.int), .lst (ns.map D.int)] → (k = 0 ∨ k = 1) → onSome (atI [D.int 40, .int (10 ^ (6 : Int).toNat + 1)] k) fun d => F_law_draw_3 [.cell 1, d] S9 (fun d S1 => gAppend (.cell 3) [d] S1 fun _ S1 => K (stEnv st pe b (2 + f) (1 + r) a8 (some (.int (0 + (i : Int))))) S1) noE := by
        intro S9 k d9 hk
        obtain ⟨lim, el, l1, l2⟩ : ∃ lim : Int, atI [D.int 40, .int (10 ^ (6 : Int).toNat + 1)] k = some (.int lim) ∧ 1 ≤ lim ∧ lim ≤ 1000001 := by
          rcases hk with rfl | rfl
          · exact ⟨40, rfl, by decide, by decide⟩
          · exact ⟨_, rfl, by decide, by decide⟩
        refine onS el (draw3_ok d9 (by omega) l1 (by omega) fun x S10 x0 x1 d10 => ?_)
        refine onS (cell_lst (d10.get (j := 1) rfl)) ⟨szd (by show (ns.map D.int).length < 100000; rw [List.length_map]; omega), ?_⟩
        have d11 := d10.put (j := 1) (c := .lst (ns.map D.int ++ [.int x])) (by show 1 < 2; decide)
        refine hK _ _ ⟨_, _, rfl, ns ++ [x], by rw [List.length_append, nl]; rfl, fun y hy => ?_, ?_⟩
        · rcases List.mem_append.mp hy with z | z
          · exact hns y z
          · rw [List.mem_singleton.mp z]; omega
        · rw [List.map_append]
          exact d11.le (by omega)
      cases b with
      | true =>
        refine draw3_ok d8 (by omega) (by decide) (by decide) fun z S9 z0 z1 d9 => eq_int ?_
        have := draws S9 (if nb false (decide (z = 0)) = true then 1 else 0) (d9.le (by omega)) (by split <;> simp)
        exact this
      | false => exact draws S8 0 (d8.le (by omega)) (.inl rfl)
    · rintro ρ S8 ⟨a8, a9, rfl, ns, nl, hns, d8⟩
      refine onS (seq_cell (d8.get (j := 0) rfl)) ⟨szr rfl, onS (seq_cell (d8.get (j := 1) rfl)) ⟨szr rfl, ?_⟩⟩
      have R : RoadOk (2 + f) (1 + r) bs := ⟨by omega, by omega, by omega, by omega, by omega, hbs⟩
      have hst : Sts ns := ⟨by omega, by omega, hns⟩
      refine ret2 hS d8 ⟨_, frz_below (d := .tup [roadV (2 + f) (1 + r) bs, .tup (ns.map D.int)]) (fun k z => nomatch z) ?_, fun S2 d2 l2 => ?_⟩
      · show (below 2 (roadV (2 + f) (1 + r) bs) && (belowAll 2 (ns.map D.int) && true)) = true
        rw [below_roadV, below_ints]
        rfl
      · exact q (2 + f) (1 + r) bs ns S2 R (by omega) hst (by omega) (d2.le (by omega)) l2
end Pu
namespace Pu
open PySem L2 Rb Gm TL
/-! ## numbers as texts -/
theorem tl_itx (n : Nat) : tl (itx (n : Int)) = numL n := tl_num n
def numsTx (ns : List Int) : Str := Txt.join "," (ns.map itx)
theorem tl_space : tl " " = [32] := by decide +kernel
theorem ks : (" " : Str).cps.all (· < 256) = true := by decide +kernel
theorem kl : ("/" : Str).cps.all (· < 256) = true := by decide +kernel
/-! ## the text of a trip -/
def tripWords (wk rd : Int) (bs ns : List Int) : List Str := [itx wk ++ "/" ++ itx rd, numsTx bs, "from", numsTx ns]
def tripT (wk rd : Int) (bs ns : List Int) : Str := Txt.join " " (tripWords wk rd bs ns)
theorem tl_from : tl "from" = [102, 114, 111, 109] := by decide +kernel
end Pu
namespace Pu
open PySem L2 Rb Gm TL
/-! ## numbers that a text stands for -/
theorem numL_mono : ∀ {m n : Nat}, n ≤ m → (numL n).length ≤ (numL m).length := by
  intro m
  induction m using Nat.strongRecOn with
  | ind m ih =>
    intro n h
    by_cases h1 : n < 10
    · rw [numL_lt h1]
      have := numL_ne m
      cases hm : numL m with
      | nil => exact absurd hm this
      | cons a b => exact Nat.succ_le_succ (Nat.zero_le _)
    · rw [numL_step (n := n) (by omega), numL_step (n := m) (by omega), List.length_append, List.length_append]
      exact Nat.add_le_add_right (ih (m / 10) (by omega) (Nat.div_le_div_right h)) 1
theorem numL_head : ∀ {n : Nat}, 0 < n → ∃ c r, numL n = c :: r ∧ c ≠ 48 := by
  intro n
  induction n using Nat.strongRecOn with
  | ind n ih =>
    intro h
    by_cases h1 : n < 10
    · exact ⟨48 + n, [], numL_lt h1, by omega⟩
    · obtain ⟨c, r, e, hc⟩ := ih (n / 10) (by omega) (by omega)
      exact ⟨c, r ++ [48 + n % 10], by rw [numL_step (by omega), e]; rfl, hc⟩
theorem digit_dec {c : Nat} (h1 : 48 ≤ c) (h2 : c ≤ 57) : Unicode.isDigit c = true := by
  obtain ⟨k, rfl⟩ : ∃ k, c = 48 + k := ⟨c - 48, by omega⟩
  have hk : k < 10 := by omega
  have : ∀ k : Fin 10, Unicode.isDigit (48 + k.val) = true := by decide +kernel
  exact this ⟨k, hk⟩
theorem itx_digits (n : Nat) : ∀ c ∈ (itx (n : Int)).cps.toList, 48 ≤ c ∧ c ≤ 57 := fun c hc => by
  have h : c ∈ tl (itx (n : Int)) := hc
  rw [tl_itx] at h
  exact numL_digits n c h
theorem itx_ascii (n : Nat) : Txt.isascii (itx (n : Int)) = true := by
  unfold Txt.isascii
  rw [← Array.all_toList, List.all_eq_true]
  intro c hc
  have := itx_digits n c hc
  exact decide_eq_true (by omega)
theorem itx_size (n : Nat) : (itx (n : Int)).length = (numL n).length := by
  rw [← tl_itx]
  rfl
theorem itx_digit (n : Nat) : Txt.isdigit (itx (n : Int)) = true := by
  unfold Txt.isdigit
  have l : 0 < (itx (n : Int)).length := by
    rw [itx_size]
    cases h : numL n with
    | nil => exact absurd h (numL_ne n)
    | cons a b => exact Nat.succ_pos _
  rw [← Array.all_toList]
  have : (itx (n : Int)).cps.toList.all Unicode.isDigit = true := List.all_eq_true.mpr fun c hc => digit_dec (itx_digits n c hc).1 (itx_digits n c hc).2
  rw [this]
  simp [l]
theorem itx_zero : itx 0 = "0" := by decide +kernel
theorem itx_starts {n : Nat} (h : 0 < n) : Txt.startswith (itx (n : Int)) "0" = false := by
  obtain ⟨c, r, e, hc⟩ := numL_head h
  unfold Txt.startswith Builtin.Str.subAt
  rw [Bool.and_eq_false_iff]
  right
  refine Bool.eq_false_iff.mpr fun z => hc ?_
  have z' := eq_of_beq z
  have z2 := congrArg Array.toList z'
  rw [Array.toList_extract] at z2
  have e' : (itx (n : Int)).cps.toList = c :: r := by
    have : tl (itx (n : Int)) = c :: r := by rw [tl_itx]; exact e
    exact this
  rw [e'] at z2
  have e0 : ("0" : Str).cps.toList = [48] := by decide +kernel
  have l0 : ("0" : Str).length = 1 := by decide +kernel
  rw [e0, l0] at z2
  simp at z2
  exact z2
theorem itx_int {n : Nat} (h : n < 10 ^ 10) : PySem.intText? (itx (n : Int)) = some (n : Int) := int_num (Nat.le_trans (numL_len (k := 10) (by decide) h) (by decide))
def num3 : FS := (dSeq (dAsg (dB gIntS (dCons (dVar 0) dNil)) (gN 3))
 (dRet (dIf (dTest (dChain gLe gLe (dVar 1) (dVar 3) (dVar 2))) (dVar 3) (dC .non))))
def num2 : FS := (dSeq (dIfS (dOr (dTest (dBin gGt (dB gLen (dCons (dVar 0) dNil)) (dB gLen (dCons (dB gStr (dCons (dVar 2) dNil)) dNil)))) (dAnd (dTest (dMS1 gStarts (dVar 0) (dC (.str "0")))) (dTest (dBin iNe (dVar 0) (dC (.str "0"))))))
 (dRet (dC .non))
 dSkip)
 num3)
section
variable {S : Sto} {Q : QD} {E : ED}
theorem number_in_ok {n most : Nat} (h : n ≤ most) (hm : most < 10 ^ 10) (q : Q (.int (n : Int)) S) : F_number_in [.str (itx (n : Int)), .int 0, .int (most : Int)] S Q E := by
  have lm := numL_mono h
  have l10 := numL_len (n := n) (k := 10) (by decide) (by omega)
  unfold F_number_in
  refine ⟨rfl, ?_⟩
  have a1 : (!Txt.isascii (itx (n : Int))) = false := by rw [itx_ascii]; rfl
  have a2 : (!Txt.isdigit (itx (n : Int))) = false := by rw [itx_digit]; rfl
  refine ifF a1 (ifF a2 ?_)
  show num2 [some (.str (itx (n : Int))), some (.int 0), some (.int (most : Int)), none] S ⟨fun _ S' => Q .non S', Q, fun _ _ => False, fun _ _ => False⟩ noE
  unfold num2
  have lm10 := numL_len (n := most) (k := 10) (by decide) hm
  refine ⟨szd (by rw [itx_size]; omega), ?_⟩
  refine ⟨nat_bd (by rw [Int.natAbs_natCast]; exact hm), ?_⟩
  refine ⟨szd (by show (itx (most : Int)).length ≤ 100000; rw [itx_size]; omega), ?_⟩
  refine ifF (b := decide (((itx (most : Int)).length : Int) < ((itx (n : Int)).length : Int))) (decide_eq_false (by rw [itx_size, itx_size]; omega)) ?_
  have fin : ∀ S' : Sto, S' = S → num3 [some (.str (itx (n : Int))), some (.int 0), some (.int (most : Int)), none] S' ⟨fun _ S' => Q .non S', Q, fun _ _ => False, fun _ _ => False⟩ noE := by
    rintro S' rfl
    unfold num3
    refine onS (itx_int (by omega)) ⟨by rw [itx_size]; omega, ?_⟩
    obtain ⟨i, hi⟩ : ∃ i : Int, (n : Int) = i := ⟨_, rfl⟩
    obtain ⟨m, hm2⟩ : ∃ i : Int, (most : Int) = i := ⟨_, rfl⟩
    rw [hi] at q ⊢
    rw [hm2]
    have i0 : 0 ≤ i := by omega
    have i1 : i ≤ m := by omega
    clear hi hm2
    show dRet (dIf (dTest (dChain gLe gLe (dVar 1) (dVar 3) (dVar 2))) (dVar 3) (dC .non)) [some (.str (itx (n : Int))), some (.int 0), some (.int m), some (.int i)] S' ⟨fun _ S' => Q .non S', Q, fun _ _ => False, fun _ _ => False⟩ noE
    refine ifT (b := decide ((0 : Int) ≤ i)) (decide_eq_true i0) ?_
    refine ifT (b := decide (i ≤ m)) (decide_eq_true i1) ?_
    exact q
  by_cases h0 : n = 0
  · subst h0
    refine ifB (b := Txt.startswith (itx ((0 : Nat) : Int)) "0") (fun _ => ?_) fun _ => fin S rfl
    refine ne_str itx_zero ?_
    exact fin S rfl
  · refine ifF (itx_starts (by omega)) ?_
    exact fin S rfl
end
end Pu
namespace Pu
open PySem L2 Rb Gm TL
section
variable {S : Sto} {k : Nat} {Q : QD} {E : ED} {v : Vn} {t : TKd} {done vs : List D} {w : Bool} {x u : D}
theorem cut_last (xs : List D) (b : D) : cutD (xs ++ [b]) none (some (-1)) = xs := by
  unfold cutD
  have h1 : HT.sIx (xs ++ [b]).length 0 none = 0 := HT.sIx_none ..
  have hl : (xs ++ [b]).length = xs.length + 1 := by rw [List.length_append]; rfl
  have h2 : HT.sIx (xs ++ [b]).length (xs ++ [b]).length (some (-1)) = xs.length := by
    rw [hl]
    unfold HT.sIx
    simp
    omega
  rw [h1, h2, List.drop_zero, Nat.sub_zero, List.take_append_of_le_length (Nat.le_refl _), List.take_length]
theorem t_undo (hk : TAt S k t (done ++ [x]) (vs ++ [u]) false) (q : Q (.int (done.length : Int)) (S.set k (tripC t done vs false))) : F_Trip_undo [.cell k] S Q E := by
  unfold F_Trip_undo
  refine ⟨rfl, t_meth hk (by cases t <;> rfl) (t_free hk (fun h => nomatch h) fun _ => ?_)⟩
  refine t_done hk (eq_int ?_)
  have n0 : decide (((done ++ [x]).length : Int) = 0) = false := by
    rw [List.length_append]
    simp
    omega
  rw [n0]
  refine t_done hk ?_
  show onSome (cellIns S (.cell k)) _
  rw [cut_last]
  refine t_stDone hk ?_
  have h1 := TAt.put (t := t) hk done (vs ++ [u]) false
  have e1 : ∀ c, (S.set k (tripC t done (vs ++ [u]) false)).set k c = S.set k c := fun c => List.set_set ..
  refine t_vers h1 ?_
  show onSome (cellIns _ (.cell k)) _
  rw [cut_last]
  refine t_stVers h1 ?_
  rw [e1]
  have h2 := TAt.put (t := t) hk done vs false
  refine t_done h2 ?_
  exact q
end
end Pu
namespace Pu
open PySem L2 Rb Gm TL
/-! ## edits by their tuples, batches that are all right -/
def EL : List (Str × Int) := [("come", 2), ("leave", 2), ("place", 3), ("take", 3)]
section
variable {S : Sto} {k : Nat} {Q : QD} {E : ED} {v : Vn} {t : TKd} {done vs : List D} {w : Bool}
theorem is_edit_of {x : Str} {ds : List D} {n : Int} (hx : lookI x EL = some n) (q : Q (.bl (decide (n = ((.str x :: ds : List D).length : Int)))) S) : F_is_edit [.tup (.str x :: ds)] S Q E := by
  unfold F_is_edit
  refine ⟨rfl, ?_⟩
  refine eq_int ?_
  have n0 : decide (((.str x :: ds : List D).length : Int) = 0) = false := decide_eq_false (by simp; omega)
  rw [n0]
  refine onS (o := atI (.str x :: ds) 0) (a := D.str x) (atI_nat (j := 0) rfl) ?_
  refine onS (o := atI (.str x :: ds) 0) (a := D.str x) (atI_nat (j := 0) rfl) ?_
  show iEqB false ((lookI x EL).elim D.non D.int) (.int ((.str x :: ds : List D).length : Int)) S Q
  rw [hx]
  exact eq_int q
theorem is_edit_ok {e : Edt} (q : Q (.bl true) S) : F_is_edit [e.d] S Q E := by
  cases e with
  | come a => exact is_edit_of (n := 2) (by rfl) q
  | leave a => exact is_edit_of (n := 2) (by rfl) q
  | place a b => exact is_edit_of (n := 3) (by rfl) q
  | take a b => exact is_edit_of (n := 3) (by rfl) q
theorem call_edit_ok {e : Edt} (hk : TAt S k t done vs w) (h : F_Trip_do_edit_2 [.cell k, e.d, latD t.L] S Q E) : F_Trip_call_edit [.cell k, e.d] S Q E := by
  unfold F_Trip_call_edit
  cases e with
  | come a =>
    refine ⟨rfl, seq_asg (rd_ix (xs := [.str "come", a]) rfl rfl (seq_yes rfl rfl ?_))⟩
    exact t_meth2 hk (by cases t <;> rfl) (t_come hk h)
  | leave a =>
    refine ⟨rfl, seq_asg (rd_ix (xs := [.str "leave", a]) rfl rfl (seq_no rfl (by decide) (seq_yes rfl rfl ?_)))⟩
    exact t_meth2 hk (by cases t <;> rfl) (t_leave hk h)
  | place a b =>
    refine ⟨rfl, seq_asg (rd_ix (xs := [.str "place", a, b]) rfl rfl (seq_no rfl (by decide) (seq_no rfl (by decide) (seq_yes rfl rfl ?_))))⟩
    exact t_meth2 hk (by cases t <;> rfl) (t_place hk h)
  | take a b =>
    refine ⟨rfl, seq_asg (rd_ix (xs := [.str "take", a, b]) rfl rfl (seq_no rfl (by decide) (seq_no rfl (by decide) (seq_no rfl (by decide) ?_))))⟩
    exact t_meth2 hk (by cases t <;> rfl) (t_take hk h)
inductive Run : Vn → List Edt → List Vn → Prop where
  | nil {v : Vn} : Run v [] []
  | cons {v v' : Vn} {e : Edt} {es : List Edt} {us : List Vn} : Okk v e v' → Run v' es us → Run v (e :: es) (v' :: us)
theorem Run.len {es : List Edt} {us : List Vn} (r : Run v es us) : us.length = es.length := by
  induction r with
  | nil => rfl
  | cons _ _ ih => exact congrArg (· + 1) ih
theorem Run.at {es : List Edt} {us : List Vn} (r : Run v es us) : ∀ {i : Nat} {e : Edt}, es[i]? = some e → ∃ a b, (v :: us)[i]? = some a ∧ us[i]? = some b ∧ Okk a e b := by
  induction r with
  | nil => intro i e h; simp at h
  | cons o r ih =>
    intro i e h
    cases i with
    | zero => cases h; exact ⟨_, _, rfl, rfl, o⟩
    | succ i => exact ih h
theorem Run.ok {es : List Edt} {us : List Vn} (r : Run v es us) : VnOk v → ∀ u ∈ v :: us, VnOk u := by
  induction r with
  | nil => intro ok u hu; rw [List.mem_singleton.mp hu]; exact ok
  | cons o r ih =>
    intro ok u hu
    rcases List.mem_cons.mp hu with z | z
    · rw [z]; exact ok
    · exact ih (app_ok ok o.app) u z
end
end Pu
namespace Pu
open PySem L2 Rb Gm TL
/-! ## trips that keep a promise are made; certificates of trips -/
section
variable {S : Sto} {k : Nat} {Q : QD} {E : ED} {v : Vn} {t : TKd} {done vs : List D} {w : Bool}
theorem end_ok {d : D} (h : (toPy d).isSome = true) (q : Q (.bl (isNum 0 10000000 d)) S) : F_is_end [d] S Q E := by
  unfold F_is_end
  exact ⟨rfl, number_ok h q⟩
theorem isNum_in {a b i : Int} (h1 : a ≤ i) (h2 : i ≤ b) : isNum a b (.int i) = true := by
  show (decide (a ≤ i) && decide (i ≤ b)) = true
  rw [decide_eq_true h1, decide_eq_true h2]
  rfl
theorem p_init {L : Int} (hk : S[k]? = some (.ins "PromisedTrip" [])) (ok : VnOk v) (l0 : 0 ≤ L) (l1 : L ≤ 10000000) (er : L < v.fin → E ("TooLate", [("tick", .int v.fin)]) (S.set k (tripC (.prom L) [] [v.d] false)))
    (q : v.fin ≤ L → Q .non (S.set k (tripC (.prom L) [] [v.d] false))) : F_PromisedTrip_init [.cell k, v.rv, v.sv, .int L] S Q E := by
  unfold F_PromisedTrip_init
  refine ⟨rfl, t_init (.inr rfl) hk ok ?_⟩
  have hlt := (List.getElem?_eq_some_iff.mp hk).1
  have h1 : (S.set k (.ins "PromisedTrip" [("done", .tup []), ("versions", .tup [v.d]), ("watched", .bl false)]))[k]? = some (.ins "PromisedTrip" [("done", .tup []), ("versions", .tup [v.d]), ("watched", .bl false)]) := List.getElem?_set_self hlt
  show F_Promise_init_2 [.cell k, .int L] (S.set k (.ins "PromisedTrip" [("done", .tup []), ("versions", .tup [v.d]), ("watched", .bl false)])) _ _
  unfold F_Promise_init_2
  refine ⟨rfl, end_ok rfl ?_⟩
  rw [isNum_in l0 l1]
  refine onS (cell_ins h1) ⟨⟨rfl, by simp⟩, ?_⟩
  show (dIfS (dTest (dBin gGt (dProp [("PromisedTrip", F_Trip_finish_2)] (dVar 0)) (dProp [("PromisedTrip", F_Promise_latest_2)] (dVar 0)))) (dRaise "TooLate" "tick" (dProp [("PromisedTrip", F_Trip_finish_2)] (dVar 0))) dSkip) [some (.cell k), some v.rv, some v.sv, some (.int L)] ((S.set k (.ins "PromisedTrip" [("done", .tup []), ("versions", .tup [v.d]), ("watched", .bl false)])).set k (tripC (.prom L) [] [v.d] false)) _ _
  rw [List.set_set]
  have hk2 : TAt (S.set k (tripC (.prom L) [] [v.d] false)) k (.prom L) [] ([] ++ [v.d]) false := List.getElem?_set_self hlt
  generalize S.set k (tripC (.prom L) [] [v.d] false) = S2 at er q hk2
  have pr : ∀ {K : FF → Prop}, K F_Trip_finish_2 → onSome (insOf S2 (.cell k)) fun cf => onSome (tabF [("PromisedTrip", F_Trip_finish_2)] cf.1) K := fun hK => onS (t_ins hk2) (onS (a := F_Trip_finish_2) rfl hK)
  refine pr (t_finish hk2 (p_prop hk2 (p_latest hk2 ?_)))
  refine ifB (b := decide (L < v.fin)) (fun c => ?_) fun c => ?_
  · exact pr (t_finish hk2 (er (of_decide_eq_true c)))
  · have := of_decide_eq_false c
    exact q (by omega)
theorem p_make {L : Int} (ok : VnOk v) (l0 : 0 ≤ L) (l1 : L ≤ 10000000) (er : L < v.fin → E ("TooLate", [("tick", .int v.fin)]) (S ++ [tripC (.prom L) [] [v.d] false])) (q : v.fin ≤ L → Q .non (S ++ [tripC (.prom L) [] [v.d] false])) :
    F_PromisedTrip_init [.cell S.length, v.rv, v.sv, .int L] (S ++ [.ins "PromisedTrip" []]) Q E :=
  p_init (List.getElem?_concat_length ..) ok l0 l1 (fun h => by rw [set_last]; exact er h) fun h => by rw [set_last]; exact q h
end
end Pu
namespace Pu
open PySem L2 Rb Gm
/-! ## one person more or less, bicycles at a station -/
/-! ## how late one more person may begin -/
structure LateOk (g : Int → Int) (e : Int) (d : D) : Prop where
  w : (d = .non ∧ ∀ s : Int, 0 ≤ s → e < g s) ∨ ∃ s : Int, d = .int s ∧ 0 ≤ s ∧ s ≤ e ∧ g s ≤ e ∧ ∀ s' : Int, s < s' → e < g s'
theorem LateOk.rep {g : Int → Int} {e : Int} {d : D} (h : LateOk g e d) (he : e ≤ 100000000) : Rep 0 0 d := by
  rcases h.w with ⟨rfl, a⟩ | ⟨s, rfl, s0, se, s1, s2⟩
  · exact Rep.non
  · exact Rep.int (by omega) (by omega)
end Pu
namespace Pu
open PySem L2 Rb Gm TL
/-! ## walk: the list of what it hands out -/
section
variable {S : Sto} {k : Nat} {Q : QD} {E : ED} {v : Vn} {t : TKd} {done vs : List D} {w : Bool} {p : D}
def planM (v : Vn) : List (List Nat) := rpl v.wk v.rd (countsM v.bs) v.ns v.bs.length
theorem planM_ok (ok : VnOk v) : PlanOk v.bs v.ns.length (planM v) := rpl_ok fun b hb => (ok.R.hb b hb).1
end
end Pu
namespace Pu
open PySem L2 Rb Gm TL
/-! ## state, walk and certificate in one word -/
theorem rid_few {bs : List Int} {n : Nat} {plan : List (List Nat)} (pk : PlanOk bs n plan) (n2 : n ≤ 10) {r : List Nat} (hr : r ∈ plan) : r.length ≤ 10 ∧ ∀ p ∈ r, p < n :=
  ⟨Nat.le_trans (nodup_le ((pk.asc r hr).imp fun h => Nat.ne_of_lt h) (pk.lt r hr)) n2, pk.lt r hr⟩
end Pu
namespace Pu
open PySem L2 Rb Gm TL
/-! ## the shell's answer to 'by N' -/
def shC (k : Nat) : Cl := .ins "Shell" [("trip", .cell k)]
section
variable {S : Sto} {Q : QD} {E : ED} {v : Vn} {t : TKd} {done vs : List D} {w : Bool} {k ks : Nat}
theorem non_int {i : Int} (q : Q (.bl false) S) : iEqB false .non (.int i) S Q := eqB_ok (pyC_of (d := .non) rfl) (pyC_of (d := .int i) rfl) rfl rfl q
theorem is_edit_no {x : Str} {ds : List D} (hx : lookI x EL = none) (q : Q (.bl false) S) : F_is_edit [.tup (.str x :: ds)] S Q E := by
  unfold F_is_edit
  refine ⟨rfl, ?_⟩
  refine eq_int ?_
  have n0 : decide (((.str x :: ds : List D).length : Int) = 0) = false := decide_eq_false (by simp; omega)
  rw [n0]
  refine onS (o := atI (.str x :: ds) 0) (a := D.str x) (atI_nat (j := 0) rfl) ?_
  refine onS (o := atI (.str x :: ds) 0) (a := D.str x) (atI_nat (j := 0) rfl) ?_
  show iEqB false ((lookI x EL).elim D.non D.int) (.int ((.str x :: ds : List D).length : Int)) S Q
  rw [hx]
  exact non_int q
end
end Pu
namespace Pu
open PySem L2 Rb Gm TL
/-! ## lines of one word -/
section
variable {S : Sto} {Q : QD} {E : ED}
theorem command_word {x : Str} (hl : x.length ≤ 10) (sp : Txt.split x (" " : Str) = [x]) (q : Q (.tup [.str x]) S) : F_command_in [.str x] S Q E := by
  have sz : x.length + 2 ≤ sizeLine := szd (by omega)
  unfold F_command_in
  refine ⟨rfl, ⟨⟨by decide +kernel, sz⟩, ?_⟩⟩
  have fin : ∀ ws : List Str, ws = [x] → (dSeq (dAsg (dLc (st1 3) dYes (dCallW F_number_in (dCons (dVar 3) (dCons (dC (.int 0)) (dCons (dC (.int 99999999)) dNil)))) (dItS (dSl (dVar 1) (dPart (dC (.int 1))) dNoP))) (gN 2))
 (dRet (dIf (dTest (dBin gInN (dC .non) (dVar 2))) (dC .non) (dTup (dCons (dBin gIx (dVar 1) (dC (.int 0))) (dStar (dVar 2) dNil)))))) [some (.str x), some (.lst false (ws.map D.str)), none, none] S ⟨fun _ S' => Q .non S', Q, fun _ _ => False, fun _ _ => False⟩ noE := by
    rintro ws rfl
    refine ⟨szr rfl, ?_⟩
    exact ⟨szr rfl, q⟩
  exact fin _ sp
theorem words_ne {x y : Str} (fx : Fine x) (fy : Fine y) (ne : (x == y) = false) (q : Q (.bl false) S) : iEqB false (.tup [.str x]) (.tup [.str y]) S Q := by
  have s1 : Shp 1 (.tup [.str x]) := Shp.tup fun d hd => by rw [List.mem_singleton.mp hd]; exact Shp.str fx
  have s2 : Shp 1 (.tup [.str y]) := Shp.tup fun d hd => by rw [List.mem_singleton.mp hd]; exact Shp.str fy
  obtain ⟨p1, e1, h1, _⟩ := s1.sh (by decide)
  obtain ⟨p2, e2, h2, _⟩ := s2.sh (by decide)
  refine eqB_ok (pyC_of e1) (pyC_of e2) h1 h2 ?_
  have a1 : p1 = .tuple [.str x] := (Option.some.inj (e1.symm.trans (show toPy (.tup [.str x]) = some (.tuple [.str x]) from rfl)))
  have a2 : p2 = .tuple [.str y] := (Option.some.inj (e2.symm.trans (show toPy (.tup [.str y]) = some (.tuple [.str y]) from rfl)))
  rw [a1, a2]
  have e : PyData.eqv (.tuple [.str x]) (.tuple [.str y]) = false := by
    simp only [PyData.eqv, PyData.eqvAll, ne, Bool.false_and]
  rw [e]
  exact q
theorem words_eq {x : Str} (fx : Fine x) (q : Q (.bl true) S) : iEqB false (.tup [.str x]) (.tup [.str x]) S Q :=
  eq_same (Shp.tup (k := 0) fun d hd => by rw [List.mem_singleton.mp hd]; exact Shp.str fx) rfl q
end
end Pu
namespace Pu
open PySem L2 Rb Gm TL
theorem len_join_le : ∀ (y : Str) (ps : List Str), (Txt.join y ps).length ≤ (ps.map (·.length)).sum + ps.length * y.length := by
  intro y ps
  rw [join_eq]
  have key : ∀ ps : List Str, (joinL (tl y) (ps.map tl)).length ≤ (ps.map (·.length)).sum + ps.length * y.length := by
    intro ps
    induction ps with
    | nil => exact Nat.zero_le _
    | cons p r ih =>
      cases r with
      | nil =>
        show (tl p).length ≤ p.length + 0 + _
        have : (tl p).length = p.length := rfl
        omega
      | cons q r =>
        show (tl p ++ (tl y ++ joinL (tl y) ((q :: r).map tl))).length ≤ _
        rw [List.length_append, List.length_append]
        have a : (tl p).length = p.length := rfl
        have b : (tl y).length = y.length := rfl
        have hs : ((p :: q :: r).map (·.length)).sum = p.length + ((q :: r).map (·.length)).sum := rfl
        have hl : (p :: q :: r).length = (q :: r).length + 1 := rfl
        rw [hs, hl, Nat.succ_mul]
        omega
  have := key ps
  rw [← tl_join] at this
  exact this
theorem nums_sum {ns : List Int} (h : ∀ i ∈ ns, i.natAbs < 10 ^ 10) : ((ns.map itx).map (·.length)).sum ≤ 11 * ns.length := by
  induction ns with
  | nil => exact Nat.zero_le _
  | cons x r ih =>
    rw [List.map_cons, List.map_cons, List.sum_cons, List.length_cons]
    have := ih fun i hi => h i (List.mem_cons_of_mem _ hi)
    have h2 := itx_len (h x List.mem_cons_self)
    show (itx x).length + _ ≤ _
    omega
theorem nums_len {ns : List Int} (h : ∀ i ∈ ns, i.natAbs < 10 ^ 10) : (numsTx ns).length ≤ 12 * ns.length := by
  have a := len_join_le "," (ns.map itx)
  have b := nums_sum h
  have c : ("," : Str).length = 1 := by decide +kernel
  rw [List.length_map, c] at a
  unfold numsTx
  omega
section
variable {S : Sto} {Q : QD} {E : ED}
theorem listed_ok {ns : List Int} (h : ∀ i ∈ ns, i.natAbs < 10 ^ 10) (hl : ns.length ≤ 100) (q : Q (.str (numsTx ns)) S) : F_listed [.tup (ns.map D.int)] S Q E := by
  unfold F_listed
  refine ⟨rfl, ?_⟩
  refine ⟨szd (by show (ns.map D.int).length ≤ 100000; rw [List.length_map]; omega), ?_⟩
  refine comp_map (src := []) (g := fun d => match d with | .int i => .str (itx i) | d => d) (fun _ p => p) (ns.map D.int) [] (fun x hx => ?_) ?_
  · obtain ⟨i, hi, rfl⟩ := List.mem_map.mp hx
    exact ⟨_, rfl, fun Q' q' => ⟨nat_bd (h i hi), q'⟩⟩
  rw [List.nil_append, List.map_map]
  have em : ns.map ((fun d => match d with | .int i => D.str (itx i) | d => d) ∘ D.int) = (ns.map itx).map D.str := by
    rw [List.map_map]
    rfl
  rw [em]
  refine onS (a := (ns.map itx).map D.str) rfl (onS (strsOf_map _) ⟨?_, q⟩)
  have b := nums_sum h
  have c : ("," : Str).length = 1 := by decide +kernel
  rw [List.length_map, c]
  omega
theorem tripT_is {wk rd : Int} {bs ns : List Int} : (((((((Str.empty ++ itx wk) ++ "/") ++ itx rd) ++ " ") ++ numsTx bs) ++ " from ") ++ numsTx ns : Str) = tripT wk rd bs ns := by
  refine ext_tl ?_
  unfold tripT tripWords
  rw [join_eq, tl_join]
  simp only [List.map_cons, List.map_nil, joinL, tl_append, List.append_assoc]
  have l1 : tl " from " = [32, 102, 114, 111, 109, 32] := by decide +kernel
  have l0 : tl Str.empty = [] := rfl
  simp only [l0, l1, tl_space, tl_from, List.nil_append, List.cons_append]
theorem nb10 {i : Int} (h0 : 0 ≤ i) (h : i ≤ 1000000) : i.natAbs < 10 ^ 10 := by
  have : (10 : Nat) ^ 10 = 10000000000 := rfl
  omega
theorem bs_bd {bs : List Int} (h : ∀ b ∈ bs, 0 ≤ b ∧ b ≤ 12) : ∀ i ∈ bs, i.natAbs < 10 ^ 10 := fun i hi => nb10 (h i hi).1 (by have := (h i hi).2; omega)
theorem ns_bd {ns : List Int} (h : Sts ns) : ∀ i ∈ ns, i.natAbs < 10 ^ 10 := fun i hi => nb10 (h.sb i hi).1 (h.sb i hi).2
/-- trip_text -/
theorem ttext_ok {wk rd : Int} {bs ns : List Int} (R : RoadOk wk rd bs) (hs : Sts ns) (q : Q (.str (tripT wk rd bs ns)) S) : F_trip_text [roadV wk rd bs, .tup (ns.map D.int)] S Q E := by
  have r1 := R.rd1
  have r2 := R.lt
  have r3 := R.w2
  have b1 := itx_len (nb10 (i := wk) (by omega) (by omega))
  have b2 := itx_len (nb10 (i := rd) (by omega) (by omega))
  have b3 := nums_len (bs_bd R.hb)
  have b4 := nums_len (ns_bd hs)
  have l2 := R.l2
  have n2 := hs.n2
  have c : (" " : Str).length = 1 := by decide +kernel
  have c0 : (Str.empty : Str).length = 0 := by decide +kernel
  have c2 : ("/" : Str).length = 1 := by decide +kernel
  have c3 : (" from " : Str).length = 6 := by decide +kernel
  unfold F_trip_text
  refine ⟨rfl, seq_tp3 (x := .int wk) (y := .int rd) (z := .tup (bs.map D.int)) rfl ?_⟩
  refine ⟨nat_bd (nb10 (by omega) (by omega)), szd (by show (Str.empty ++ itx wk).length ≤ 100000; rw [str_len, c0]; omega), ?_⟩
  refine ⟨szd (by show (Str.empty ++ itx wk ++ "/").length ≤ 100000; rw [str_len, str_len, c0, c2]; omega), ?_⟩
  refine ⟨nat_bd (nb10 (by omega) (by omega)), szd (by show (Str.empty ++ itx wk ++ "/" ++ itx rd).length ≤ 100000; simp only [str_len, c0, c2]; omega), ?_⟩
  refine ⟨szd (by show (Str.empty ++ itx wk ++ "/" ++ itx rd ++ " ").length ≤ 100000; simp only [str_len, c0, c2, c]; omega), ?_⟩
  refine listed_ok (bs_bd R.hb) (by omega) ⟨szd (by omega), szd (by show (Str.empty ++ itx wk ++ "/" ++ itx rd ++ " " ++ numsTx bs).length ≤ 100000; simp only [str_len, c0, c2, c]; omega), ?_⟩
  refine ⟨szd (by show (Str.empty ++ itx wk ++ "/" ++ itx rd ++ " " ++ numsTx bs ++ " from ").length ≤ 100000; simp only [str_len, c0, c2, c, c3]; omega), ?_⟩
  refine listed_ok (ns_bd hs) (by omega) ⟨szd (by omega), szd (by show (Str.empty ++ itx wk ++ "/" ++ itx rd ++ " " ++ numsTx bs ++ " from " ++ numsTx ns).length ≤ 100000; simp only [str_len, c0, c2, c, c3]; omega), ?_⟩
  have e := tripT_is (wk := wk) (rd := rd) (bs := bs) (ns := ns)
  rw [← e] at q
  exact q
end
end Pu
namespace Pu
open PySem L2 Rb Gm TL
section
variable {S : Sto} {Q : QD} {E : ED}
def Vn.tt (v : Vn) : Str := tripT v.wk v.rd v.bs v.ns
def Vn.sd (v : Vn) : D := .tup [v.rv, v.sv]
theorem join_end {a : Str} {d : D} {ys : List Str} {a0 a1 a2 a3 a4 a5 : Option D} {S : Sto} {De : DEnds} {Ed : ED} (h : seqOf S d = some (ys.map D.str)) (hl : (ys.map (·.length)).sum + ys.length * a.length ≤ 100000) (q : De.rt (.str (Txt.join a ys)) S) :
    gN 5 d [a0, a1, a2, a3, a4, a5] S { De with nx := fun ρ' S' => dRet (dJoin (dC (.str a)) (dVar 5)) ρ' S' De Ed }.nx Ed := by
  show onSome (seqOf S d) _
  refine onS h ?_
  exact onS (strsOf_map ys) ⟨hl, q⟩
theorem ltext_ok {v : Vn} (ok : VnOk v) (q : Q (.str v.tt) S) : F_law_trip_text [v.sd] S Q E := by
  have R := ok.R
  have r1 := R.rd1
  have r2 := R.lt
  have r3 := R.w2
  have b1 := itx_len (nb10 (i := v.wk) (by omega) (by omega))
  have b2 := itx_len (nb10 (i := v.rd) (by omega) (by omega))
  have b3 := nums_len (bs_bd R.hb)
  have b4 := nums_len (ns_bd ok.st)
  have l2 := R.l2
  have n2 := ok.st.n2
  have c : (" " : Str).length = 1 := by decide +kernel
  have c2 : ("/" : Str).length = 1 := by decide +kernel
  have c3 : ("from" : Str).length = 4 := by decide +kernel
  unfold F_law_trip_text
  refine ⟨rfl, rfl, rfl, ?_⟩
  refine ⟨nat_bd (nb10 (by omega) (by omega)), szd (by show (itx v.wk).length + ("/" : Str).length ≤ 100000; omega), nat_bd (nb10 (by omega) (by omega)), szd (by show (itx v.wk ++ "/").length + (itx v.rd).length ≤ 100000; rw [str_len]; omega), ?_⟩
  refine listed_ok (ns := v.bs) (bs_bd R.hb) (by omega) ?_
  refine listed_ok (ns := v.ns) (ns_bd ok.st) (by omega) ?_
  refine ⟨szr rfl, ?_⟩
  refine join_end (ys := tripWords v.wk v.rd v.bs v.ns) rfl ?_ q
  unfold tripWords
  simp only [List.map_cons, List.map_nil, List.sum_cons, List.sum_nil, List.length_cons, List.length_nil, str_len, c, c2, c3]
  omega
end
end Pu
namespace Pu
open PySem L2 Rb Gm TL
/-! ## the shell's answers to 'trip' and 'finish' -/
section
variable {S : Sto} {Q : QD} {E : ED} {v : Vn} {t : TKd} {done vs : List D} {w : Bool} {k ks : Nat}
theorem fine_trip : Fine "trip" := fine_of (by decide +kernel)
theorem fine_finish : Fine "finish" := fine_of (by decide +kernel)
theorem fine_riders : Fine "riders" := fine_of (by decide +kernel)
theorem fine_undo : Fine "undo" := fine_of (by decide +kernel)
theorem answer_trip (ok : VnOk v) (hs : S[ks]? = some (shC k)) (hk : TAt S k t done (vs ++ [v.d]) w) (q : Q (.str (tripT v.wk v.rd v.bs v.ns)) S) : F_Shell_answer_2 [.cell ks, .tup [.str "trip"]] S Q E := by
  unfold F_Shell_answer_2
  refine ⟨rfl, ?_⟩
  refine is_edit_no (x := "trip") (by rfl) ?_
  refine ⟨szr rfl, words_ne fine_trip fine_undo (by decide) ?_⟩
  refine ⟨szr rfl, words_eq fine_trip ?_⟩
  refine onS (ins_cell hs) ⟨rfl, onS (a := D.cell k) rfl ?_⟩
  refine t_prop hk (t_road hk ?_)
  refine onS (ins_cell hs) ⟨rfl, onS (a := D.cell k) rfl ?_⟩
  refine t_prop hk (t_starts hk ?_)
  exact ttext_ok ok.R ok.st q
theorem answer_finish (ok : VnOk v) (hs : S[ks]? = some (shC k)) (hk : TAt S k t done (vs ++ [v.d]) w) (q : Q (.str (itx v.fin)) S) : F_Shell_answer_2 [.cell ks, .tup [.str "finish"]] S Q E := by
  have fb := fin_bd ok
  have big : v.fin.natAbs < 2 ^ 1000 := Nat.lt_of_lt_of_le (show v.fin.natAbs < 2 ^ 30 by omega) (Nat.pow_le_pow_right (by decide) (by decide))
  unfold F_Shell_answer_2
  refine ⟨rfl, ?_⟩
  refine is_edit_no (x := "finish") (by rfl) ?_
  refine ⟨szr rfl, words_ne fine_finish fine_undo (by decide) ?_⟩
  refine ⟨szr rfl, words_ne fine_finish fine_trip (by decide) ?_⟩
  refine ⟨szr rfl, words_eq fine_finish ?_⟩
  refine onS (ins_cell hs) ⟨rfl, onS (a := D.cell k) rfl ?_⟩
  refine t_prop hk (t_finish hk ?_)
  exact ⟨big, q⟩
end
end Pu
namespace Pu
open PySem L2 Rb Gm TL
theorem retE_no {f : FE} {a b : Str} {A R : FE} {ρ : Rho} {S : Sto} {De : DEnds} {Ed : ED} (hf : ∀ K : QD, K (.str a) S → f ρ S K Ed) (n : a ≠ b) (h : R ρ S De.rt Ed) : dRet (dIf (dTest (dBin iEq f (dC (.str b)))) A R) ρ S De Ed := by
  refine hf _ (eq_str ?_)
  rw [decide_eq_false n]
  exact h
theorem retE_yes {f : FE} {a b : Str} {A R : FE} {ρ : Rho} {S : Sto} {De : DEnds} {Ed : ED} (hf : ∀ K : QD, K (.str a) S → f ρ S K Ed) (n : a = b) (h : A ρ S De.rt Ed) : dRet (dIf (dTest (dBin iEq f (dC (.str b)))) A R) ρ S De Ed := by
  refine hf _ (eq_str ?_)
  rw [decide_eq_true n]
  exact h
section
variable {S : Sto} {k : Nat} {Q : QD} {E : ED} {v : Vn} {t : TKd} {done vs : List D} {w : Bool}
theorem ldo2_any {e : Edt} (hk : TAt S k t done vs w) (h : F_Trip_do_edit_2 [.cell k, e.d, latD t.L] S Q E) : F_law_do_2 [.cell k, e.d] S Q E := by
  unfold F_law_do_2
  cases e with
  | come a =>
    refine ⟨rfl, seqE_yes (a := "come") (fun K hK => rd_ix (xs := [.str "come", a]) rfl rfl hK) rfl ?_⟩
    exact t_meth2 hk (by cases t <;> rfl) (t_come hk h)
  | leave a =>
    refine ⟨rfl, seqE_no (a := "leave") (fun K hK => rd_ix (xs := [.str "leave", a]) rfl rfl hK) (by decide) ?_⟩
    refine seqE_yes (a := "leave") (fun K hK => rd_ix (xs := [.str "leave", a]) rfl rfl hK) rfl ?_
    exact t_meth2 hk (by cases t <;> rfl) (t_leave hk h)
  | place a b =>
    refine ⟨rfl, seqE_no (a := "place") (fun K hK => rd_ix (xs := [.str "place", a, b]) rfl rfl hK) (by decide) ?_⟩
    refine seqE_no (a := "place") (fun K hK => rd_ix (xs := [.str "place", a, b]) rfl rfl hK) (by decide) ?_
    refine retE_yes (a := "place") (fun K hK => rd_ix (xs := [.str "place", a, b]) rfl rfl hK) rfl ?_
    exact t_meth2 hk (by cases t <;> rfl) (t_place hk h)
  | take a b =>
    refine ⟨rfl, seqE_no (a := "take") (fun K hK => rd_ix (xs := [.str "take", a, b]) rfl rfl hK) (by decide) ?_⟩
    refine seqE_no (a := "take") (fun K hK => rd_ix (xs := [.str "take", a, b]) rfl rfl hK) (by decide) ?_
    refine retE_no (a := "take") (fun K hK => rd_ix (xs := [.str "take", a, b]) rfl rfl hK) (by decide) ?_
    exact t_meth2 hk (by cases t <;> rfl) (t_take hk h)
theorem ldo2_ok {e : Edt} {v' : Vn} (ok : VnOk v) (o : Okk v e v') (hk : TAt S k t done (vs ++ [v.d]) false) (h60 : done.length < 60) (vl : vs.length ≤ 900) (hl : ∀ l, t.L = some l → v'.fin ≤ l)
    (q : Q (.int (done.length + 1 : Nat)) (S.set k (tripC t (done ++ [e.d]) (vs ++ [v.d] ++ [v'.d]) false))) : F_law_do_2 [.cell k, e.d] S Q E := by
  have st := stepT_ok (L := t.L) h60 o.app hl
  refine ldo2_any hk (t_edit ok o.py hk (by omega) vl (fun x h => by rw [st] at h; cases h) fun u h => ?_)
  rw [st] at h
  cases h
  exact q
end
end Pu
namespace Pu
open PySem L2 Rb Gm TL
/-! ## the law's own walk over states that are tuples -/
def tsV (v : Vn) : D := .tup [v.rv, v.sv]
theorem seq_st {n i j l m : Nat} {x y z w : D} {R : FS} {ρ : Rho} {S : Sto} {De : DEnds} {Ed : ED} (g : getV ρ n = some (.tup [.tup [x, y, z], w])) (h : R ((((ρ.set i (some x)).set j (some y)).set l (some z)).set m (some w)) S De Ed) : dSeq (dAsg (dVar n) (gTp 2 (gsCons (gTp 3 (gsCons (gN i) (gsCons (gN j) (gsCons (gN l) gsNil)))) (gsCons (gN m) gsNil)))) R ρ S De Ed := by
  refine onS g ⟨rfl, rfl, ?_⟩
  show setK ρ i x fun ρ' => setK ρ' j y fun ρ'' => setK ρ'' l z fun ρ3 => setK ρ3 m w fun ρ4 => R ρ4 S De Ed
  rw [setK_is, setK_is, setK_is, setK_is]
  exact h
section
variable {S T : Sto} {k : Nat} {Q : QD} {E : ED} {v : Vn} {N : Int}
theorem lafter2_ok {v' : Vn} {e : Edt} (ok : VnOk v) (o : Okk v e v') (q : Q (tsV v') S) : F_law_after_2 [tsV v, e.d] S Q E := by
  have l2 := ok.R.l2
  have n2 := ok.st.n2
  unfold F_law_after_2
  cases o with
  | come s s0 s1 h =>
    refine ⟨rfl, seq_st (x := .int v.wk) (y := .int v.rd) (z := .tup (v.bs.map D.int)) (w := v.sv) rfl ?_⟩
    refine seqE_yes (a := "come") (fun K hK => rd_ix (xs := [.str "come", .int s]) rfl rfl hK) rfl ?_
    refine ⟨szr rfl, szd (by show (v.ns.map D.int).length + 1 ≤ 100000; rw [List.length_map]; omega), szr rfl, ?_⟩
    unfold tsV Vn.sv at q
    dsimp only at q
    rw [List.map_append] at q
    exact q
  | leave p hp h =>
    have cl1 := cutD_le (ds := v.ns.map D.int) (lo := none) (hi := some (p : Int))
    have cl2 := cutD_le (ds := v.ns.map D.int) (lo := some ((p : Int) + 1)) (hi := none)
    rw [List.length_map] at cl1 cl2
    refine ⟨rfl, seq_st (x := .int v.wk) (y := .int v.rd) (z := .tup (v.bs.map D.int)) (w := v.sv) rfl ?_⟩
    refine seqE_no (a := "leave") (fun K hK => rd_ix (xs := [.str "leave", .int p]) rfl rfl hK) (by decide) ?_
    refine seqE_yes (a := "leave") (fun K hK => rd_ix (xs := [.str "leave", .int p]) rfl rfl hK) rfl ?_
    refine ⟨szd (by show (cutD (v.ns.map D.int) none (some (p : Int))).length + (cutD (v.ns.map D.int) (some ((p : Int) + 1)) none).length ≤ 100000; omega), szr rfl, ?_⟩
    unfold tsV Vn.sv at q
    dsimp only at q
    rw [← without_cut] at q
    exact q
  | place x n hx n0 n1 h =>
    have cl1 := cutD_le (ds := v.bs.map D.int) (lo := none) (hi := some (x : Int))
    have cl2 := cutD_le (ds := v.bs.map D.int) (lo := some ((x : Int) + 1)) (hi := none)
    rw [List.length_map] at cl1 cl2
    refine ⟨rfl, seq_st (x := .int v.wk) (y := .int v.rd) (z := .tup (v.bs.map D.int)) (w := v.sv) rfl ?_⟩
    refine seqE_no (a := "place") (fun K hK => rd_ix (xs := [.str "place", .int x, .int n]) rfl rfl hK) (by decide) ?_
    refine seqE_no (a := "place") (fun K hK => rd_ix (xs := [.str "place", .int x, .int n]) rfl rfl hK) (by decide) ?_
    refine seq_tp3 (x := .str "place") (y := .int x) (z := .int n) rfl ?_
    show onSome (atI (v.bs.map D.int) (x : Int)) _
    refine onS (atI_tick hx) ?_
    refine eq_str ?_
    rw [show nb false (decide (("place" : Str) = "place")) = true by decide]
    refine ⟨szr rfl, szd (by show (cutD (v.bs.map D.int) none (some (x : Int))).length + 1 ≤ 100000; omega), szd (by
      show (cutD (v.bs.map D.int) none (some (x : Int)) ++ [D.int (tickAt v.bs x + n)]).length + (cutD (v.bs.map D.int) (some ((x : Int) + 1)) none).length ≤ 100000
      rw [List.length_append, List.length_singleton]
      omega), szr rfl, szr rfl, ?_⟩
    unfold tsV Vn.rv roadV at q
    dsimp only at q
    rw [← plM_D] at q
    exact q
  | take x n hx n0 n1 h =>
    have cl1 := cutD_le (ds := v.bs.map D.int) (lo := none) (hi := some (x : Int))
    have cl2 := cutD_le (ds := v.bs.map D.int) (lo := some ((x : Int) + 1)) (hi := none)
    rw [List.length_map] at cl1 cl2
    refine ⟨rfl, seq_st (x := .int v.wk) (y := .int v.rd) (z := .tup (v.bs.map D.int)) (w := v.sv) rfl ?_⟩
    refine seqE_no (a := "take") (fun K hK => rd_ix (xs := [.str "take", .int x, .int n]) rfl rfl hK) (by decide) ?_
    refine seqE_no (a := "take") (fun K hK => rd_ix (xs := [.str "take", .int x, .int n]) rfl rfl hK) (by decide) ?_
    refine seq_tp3 (x := .str "take") (y := .int x) (z := .int n) rfl ?_
    show onSome (atI (v.bs.map D.int) (x : Int)) _
    refine onS (atI_tick hx) ?_
    refine eq_str ?_
    rw [show nb false (decide (("take" : Str) = "place")) = false by decide]
    refine ⟨szr rfl, szd (by show (cutD (v.bs.map D.int) none (some (x : Int))).length + 1 ≤ 100000; omega), szd (by
      show (cutD (v.bs.map D.int) none (some (x : Int)) ++ [D.int (tickAt v.bs x + (0 - n))]).length + (cutD (v.bs.map D.int) (some ((x : Int) + 1)) none).length ≤ 100000
      rw [List.length_append, List.length_singleton]
      omega), szr rfl, szr rfl, ?_⟩
    unfold tsV Vn.rv roadV at q
    dsimp only at q
    rw [← plM_D, show -n = (0 : Int) - n by omega] at q
    exact q
end
end Pu
namespace Pu
open PySem L2 Rb Gm TL
/-! ## the law's own rule over states that are tuples -/
def negP0 : D → D
  | .tup [.int p, .int t] => .tup [.int (0 - t), .int p]
  | d => d
theorem add_ix {i j : Nat} {a b : Int} {ρ : Rho} {S : Sto} {Q : QD} {Ed : ED} (g1 : getV ρ i = some (.int a)) (g2 : getV ρ j = some (.int b)) (q : Q (.int (a + b)) S) : (dBin gAdd (dVar i) (dVar j)) ρ S Q Ed := onS g1 (onS g2 q)
abbrev eR2 (v : Vn) (b : Bool) (tk : List Int) (n : Int) (y8 y9 y10 y11 y12 : Option D) : Rho := [some (tsV v), some (.int v.wk), some (.int v.rd), some (.tup (v.bs.map D.int)), some v.sv, some (.lst b (tk.map D.int)), some (.cell 0), some (.int n), y8, y9, y10, y11, y12]
def fOrd : FE := (dSl (dB gSorted (dCons (dLc (st2 11 12) dYes (dTup (dCons (dBin gSub (dC (.int 0)) (dVar 12)) (dCons (dVar 11) dNil))) (dEnL (dCons (dVar 5) dNil))) dNil)) dNoP (dPart (dVar 7)))
def fRid : FE := (dB gSorted (dCons (dLc (st2 12 11) dYes (dVar 11) (dItS (dVar 9))) dNil))
def fRow : FE := (dLc (st2 11 12) dYes (dBin gAdd (dVar 12) (dIf (dTest (dBin (gIn false) (dVar 11) (dVar 10))) (dVar 2) (dVar 1))) (dEnL (dCons (dVar 5) dNil)))
section
variable {S : Sto} {Q : QD} {E : ED} {v : Vn} {b : Bool} {tk : List Int} {c : Nat} {y8 y9 y10 y11 y12 : Option D}
theorem ord2_ok (n2 : tk.length ≤ 20) (q : Q (.lst false (prsV ((ordM tk).take c))) S) : fOrd (eR2 v b tk (c : Int) y8 y9 y10 y11 y12) S Q noE := by
  have el : (enumD (tk.map D.int)).length = tk.length := by unfold enumD; rw [List.length_mapIdx, List.length_map]
  have em : (enumD (tk.map D.int)).map negP0 = prsV (tk.mapIdx fun p t => (-t, (p : Int))) := by
    unfold enumD prsV
    apply List.ext_getElem?
    intro i
    rw [List.getElem?_map, List.getElem?_mapIdx, List.getElem?_map, List.getElem?_map, List.getElem?_mapIdx]
    cases tk[i]? with
    | none => rfl
    | some t =>
      show some (D.tup [.int (0 - t), .int (i : Int)]) = some (D.tup [.int (-t), .int (i : Int)])
      rw [Int.zero_sub]
  have ec : cutD (prsV (ordM tk)) none (some (c : Int)) = prsV ((ordM tk).take c) := by
    rw [cut_to]
    unfold prsV
    rw [List.map_take]
  unfold fOrd
  refine ⟨szd (by show (enumD (tk.map D.int)).length ≤ 100000; omega), ?_⟩
  refine comp_map (src := []) (g := negP0) (fun _ p => p) (enumD (tk.map D.int)) [] (fun x hx => ?_) ?_
  · obtain ⟨j, hj, ej⟩ := List.getElem_of_mem hx
    obtain ⟨y, hy, rfl⟩ := enumD_get (List.getElem?_eq_some_iff.mpr ⟨hj, ej⟩)
    rw [List.getElem?_map] at hy
    obtain ⟨t, ht, rfl⟩ := Option.map_eq_some_iff.mp hy
    exact ⟨_, rfl, fun Q' q' => ⟨szr rfl, q'⟩⟩
  rw [List.nil_append, em]
  refine .inr ⟨_, rfl, ?_⟩
  show Q (.lst false (cutD (prsV (ordM tk)) none (some (c : Int)))) S
  rw [ec]
  exact q
theorem rid2_ok {n : Int} (n2 : tk.length ≤ 20) (q : Q (.lst false (natsV (grM tk c))) S) : fRid (eR2 v b tk n y8 (some (.lst false (prsV ((ordM tk).take c)))) y10 y11 y12) S Q noE := by
  have es : (prsV ((ordM tk).take c)).map sndP = (((ordM tk).take c).map (·.2)).map D.int := by
    unfold prsV
    rw [List.map_map, List.map_map]
    rfl
  unfold fRid
  refine ⟨szd (by show (prsV ((ordM tk).take c)).length ≤ 100000; rw [prsV_len, List.length_take, ord_len]; omega), ?_⟩
  refine comp_map (src := []) (g := sndP) (fun _ p => p) (prsV ((ordM tk).take c)) [] (fun x hx => ?_) ?_
  · obtain ⟨z, hz, rfl⟩ := List.mem_map.mp hx
    exact ⟨_, rfl, fun Q' q' => q'⟩
  rw [List.nil_append, es]
  refine .inl ⟨_, rfl, ?_⟩
  rw [← nI_grM, ← natsV_eq]
  exact q
theorem row2_ok {n : Int} {r : List Nat} (n2 : tk.length ≤ 20) (q : Q (.lst false ((ruleRow v.wk v.rd tk r).map D.int)) S) : fRow (eR2 v b tk n y8 y9 (some (.lst false (natsV r))) y11 y12) S Q noE := by
  have el : (enumD (tk.map D.int)).length = tk.length := by unfold enumD; rw [List.length_mapIdx, List.length_map]
  unfold fRow
  refine ⟨szd (by show (enumD (tk.map D.int)).length ≤ 100000; omega), ?_⟩
  refine comp_map (src := []) (g := stepD v.wk v.rd r) (fun _ p => p) (enumD (tk.map D.int)) [] (fun x hx => ?_) ?_
  · obtain ⟨j, hj, ej⟩ := List.getElem_of_mem hx
    obtain ⟨y, hy, rfl⟩ := enumD_get (List.getElem?_eq_some_iff.mpr ⟨hj, ej⟩)
    rw [List.getElem?_map] at hy
    obtain ⟨t, ht, rfl⟩ := Option.map_eq_some_iff.mp hy
    refine ⟨_, rfl, fun Q' q' => ?_⟩
    refine onS (a := nI r) (by show intsOf (natsV r) = _; rw [natsV_eq]; exact intsOf_map _) ?_
    refine ifB (fun cc => ?_) fun cc => ?_
    · have c' : (j : Int) ∈ nI r := of_decide_eq_true cc
      have q2 : Q' (.int (t + if (j : Int) ∈ nI r then v.rd else v.wk)) S := q'
      rw [if_pos c'] at q2
      exact q2
    · have c' : ¬ (j : Int) ∈ nI r := of_decide_eq_false cc
      have q2 : Q' (.int (t + if (j : Int) ∈ nI r then v.rd else v.wk)) S := q'
      rw [if_neg c'] at q2
      exact q2
  · rw [List.nil_append, step_map]
    exact q
end
def stepR2 : FS := (dSeq (dAsg (dBin gAdd (dVar 7) (dVar 8)) (gN 7))
 (dSeq (dAsg fOrd (gN 9))
 (dSeq (dAsg fRid (gN 10))
 (dSeq (dDrop (dML gAppend (dVar 6) (dCons (dB gTuple (dCons (dVar 10) dNil)) dNil)))
 (dAsg fRow (gN 5))))))
section
variable {Q : QD} {E : ED} {v : Vn}
theorem asg_end {f : FE} {j : Nat} {ρ : Rho} {S : Sto} {De : DEnds} {Ed : ED} (h : f ρ S (fun d S1 => De.nx (ρ.set j (some d)) S1) Ed) : dAsg f (gN j) ρ S De Ed := by
  show f ρ S (fun d S1 => setK ρ j d fun ρ' => De.nx ρ' S1) Ed
  have e : (fun d S1 => setK ρ j d fun ρ' => De.nx ρ' S1) = fun d S1 => De.nx (ρ.set j (some d)) S1 := by
    funext d S1
    exact setK_is
  rw [e]
  exact h
theorem stepR2_ok {b : Bool} {tk : List Int} {c : Nat} {n m : Int} {y9 y10 y11 y12 : Option D} {PP : List D} {De : DEnds} (n2 : tk.length ≤ 20) (pl : PP.length ≤ 1000) (hc : n + m = (c : Int))
    (q : De.nx (eR2 v false (ruleRow v.wk v.rd tk (grM tk c)) (c : Int) (some (.int m)) (some (.lst false (prsV ((ordM tk).take c)))) (some (.lst false (natsV (grM tk c)))) y11 y12) [.lst (PP ++ [ridersV (grM tk c)])]) :
    stepR2 (eR2 v b tk n (some (.int m)) y9 y10 y11 y12) [.lst PP] De noE := by
  unfold stepR2
  refine seq_asg (add_ix (a := n) (b := m) rfl rfl ?_)
  rw [hc]
  refine seq_asg (ord2_ok n2 ?_)
  refine seq_asg (rid2_ok n2 ?_)
  refine ⟨szd (by show PP.length < 100000; omega), ?_⟩
  exact asg_end (row2_ok n2 q)
theorem lrule2_ok (ok : VnOk v) (q : ∀ b, Q (.lst true [planV (planM v), .lst b ((rtk v.wk v.rd (countsM v.bs) v.ns v.bs.length).map D.int)]) []) : F_law_rule_2 [tsV v] [] Q E := by
  have l2 := ok.R.l2
  have n2 := ok.st.n2
  have cn := countsM_nn fun b hb => (ok.R.hb b hb).1
  unfold F_law_rule_2
  refine ⟨rfl, seq_st (x := .int v.wk) (y := .int v.rd) (z := .tup (v.bs.map D.int)) (w := v.sv) rfl ?_⟩
  show (dSeq (dPar3 5 6 7 (dCons (dB gListN (dCons (dVar 4) dNil)) (dCons (dLstC dNil) (dCons (dC (.int 0)) dNil)))) (dSeq (dFor (dItS (dVar 3)) (gN 8) stepR2) (dRet (dLst (dCons (dB gTuple (dCons (dVar 6) dNil)) (dCons (dVar 5) dNil)))))) [some (tsV v), some (.int v.wk), some (.int v.rd), some (.tup (v.bs.map D.int)), some v.sv, none, none, none, none, none, none, none, none] [] _ noE
  refine ⟨szr rfl, ?_⟩
  unfold planM at q
  generalize hcs : countsM v.bs = cs at cn q
  refine for_inv (src := []) (v.bs.map D.int) (fun i ρ S' => S' = [.lst ((rpl v.wk v.rd cs v.ns i).map ridersV)] ∧ ∃ b y8 y9 y10 y11 y12, ρ = eR2 v b (rtk v.wk v.rd cs v.ns i) (v.bs.take i).sum y8 y9 y10 y11 y12) ⟨rfl, _, _, _, _, _, _, rfl⟩ ?_ ?_
  · rintro i x ρ S' K hx hK ⟨rfl, b, y8, y9, y10, y11, y12, rfl⟩
    rw [List.getElem?_map] at hx
    obtain ⟨m, hm, rfl⟩ := Option.map_eq_some_iff.mp hx
    have hi : i < v.bs.length := (List.getElem?_eq_some_iff.mp hm).1
    have hci : cs[i]? = some (v.bs.take (i + 1)).sum := by rw [← hcs]; exact countsM_get hi
    have c0 := cn _ (List.mem_of_getElem? hci)
    have esum := take_succ_sum hm
    obtain ⟨c, hc⟩ : ∃ c : Nat, (v.bs.take (i + 1)).sum = (c : Int) := ⟨(v.bs.take (i + 1)).sum.toNat, (Int.toNat_of_nonneg c0).symm⟩
    rw [hc] at hci
    have eg : rrd v.wk v.rd cs v.ns i = grM (rtk v.wk v.rd cs v.ns i) c := by
      unfold rrd
      rw [List.getD_eq_getElem?_getD, hci]
      rfl
    have ert : rtk v.wk v.rd cs v.ns (i + 1) = ruleRow v.wk v.rd (rtk v.wk v.rd cs v.ns i) (grM (rtk v.wk v.rd cs v.ns i) c) := by
      rw [rtk, ← eg]
      rfl
    have tl := rtk_len (wk := v.wk) (rd := v.rd) (cs := cs) (starts := v.ns) i
    have pl : ((rpl v.wk v.rd cs v.ns i).map ridersV).length = i := by rw [List.length_map, rpl_len]
    have hK2 := hK (eR2 v false (rtk v.wk v.rd cs v.ns (i + 1)) (v.bs.take (i + 1)).sum (some (.int m)) (some (.lst false (prsV ((ordM (rtk v.wk v.rd cs v.ns i)).take c)))) (some (.lst false (natsV (grM (rtk v.wk v.rd cs v.ns i) c)))) y11 y12) _ ⟨rfl, _, _, _, _, _, _, rfl⟩
    rw [ert, hc, rpl_succ, List.map_append, eg] at hK2
    exact stepR2_ok (b := b) (y9 := y9) (y10 := y10) (by omega) (by omega) (by omega) hK2
  · rintro ρ S' ⟨rfl, b, y8, y9, y10, y11, y12, rfl⟩
    rw [List.length_map]
    refine ⟨szr rfl, ⟨rfl, rfl⟩, onS (frz_below (fun k z => nomatch z) ?_) (q b)⟩
    show (below 0 (planV _) && (belowAll 0 _ && true)) = true
    rw [below_planV, below_ints]
    rfl
/-! ## riders as a text -/
theorem comp_mapV {α : Type} {st : D → Rho → Option Rho} {fe : FE} {src : Src} {k : List D → Sto → Prop} {S : Sto} {ρ : Rho} (f g : α → D) (hsrc : ∀ P : Prop, P → srcOk src S P) : ∀ (xs : List α) (acc : List D),
    (∀ x ∈ xs, ∃ ρ1, st (f x) ρ = some ρ1 ∧ ∀ Q : QD, Q (g x) S → fe ρ1 S Q noE) → k (acc ++ xs.map g) S → dCompL st dYes fe src (xs.map f) acc ρ S k
  | [], acc, _, h => by rw [List.map_nil, List.append_nil] at h; exact h
  | x :: xs, acc, hx, h => by
    obtain ⟨ρ1, e, hf⟩ := hx x List.mem_cons_self
    refine onS e ?_
    refine ifT (b := true) (Q := srcOk src S (dCompL st dYes fe src (xs.map f) acc ρ S k)) rfl ?_
    refine hf _ (hsrc _ (comp_mapV f g hsrc xs _ (fun y hy => hx y (List.mem_cons_of_mem _ hy)) ?_))
    rw [List.append_assoc]
    exact h
def ridW (r : List Nat) : Str := if r.isEmpty = true then "-" else numsTx (nI r)
def ridT (plan : List (List Nat)) : Str := Txt.join " " (plan.map ridW)
structure PlanS (plan : List (List Nat)) : Prop where
  l : plan.length ≤ 12
  r : ∀ r ∈ plan, r.length ≤ 10 ∧ ∀ p ∈ r, p < 10
theorem planM_S (ok : VnOk v) : PlanS (planM v) := by
  have pk := planM_ok ok
  have n2 := ok.st.n2
  refine ⟨?_, fun r hr => ?_⟩
  · unfold planM
    rw [rpl_len]
    exact ok.R.l2
  · obtain ⟨a, b⟩ := rid_few pk n2 hr
    exact ⟨a, fun p hp => Nat.lt_of_lt_of_le (b p hp) n2⟩
theorem nI_bd {r : List Nat} (h : ∀ p ∈ r, p < 10) : ∀ i ∈ nI r, i.natAbs < 10 ^ 10 := fun i hi => by
  unfold nI at hi
  obtain ⟨p, hp, rfl⟩ := List.mem_map.mp hi
  have := h p hp
  show ((p : Int)).natAbs < 10000000000
  omega
theorem ridW_len {r : List Nat} (l : r.length ≤ 10) (h : ∀ p ∈ r, p < 10) : (ridW r).length ≤ 120 := by
  unfold ridW
  split
  · decide +kernel
  · have := nums_len (nI_bd h)
    rw [nI_len] at this
    omega
theorem ridTs_len : ∀ {plan : List (List Nat)}, (∀ r ∈ plan, r.length ≤ 10 ∧ ∀ p ∈ r, p < 10) → ((plan.map ridW).map (·.length)).sum ≤ 120 * plan.length
  | [], _ => Nat.le_refl _
  | r :: plan, h => by
    have a := h r List.mem_cons_self
    have b := ridW_len a.1 a.2
    have c := ridTs_len (plan := plan) fun r hr => h r (List.mem_cons_of_mem _ hr)
    rw [List.map_cons, List.map_cons, List.sum_cons, List.length_cons]
    omega
variable {S : Sto}
theorem rtext_ok {plan : List (List Nat)} (h : PlanS plan) (q : Q (.str (ridT plan)) S) : F_riders_text_2 [planV plan] S Q E := by
  unfold F_riders_text_2
  have pl := h.l
  refine ⟨rfl, ?_⟩
  refine ⟨szd (by show (plan.map ridersV).length ≤ 100000; rw [List.length_map]; omega), ?_⟩
  refine comp_mapV (src := []) ridersV (fun r => D.str (ridW r)) (fun _ p => p) plan [] (fun r hr => ?_) ?_
  · refine ⟨_, rfl, fun Q' q' => ?_⟩
    have hr2 := h.r r hr
    have q2 := q'
    unfold ridW at q2
    cases r with
    | nil => exact q2
    | cons p r =>
      show F_listed [ridersV (p :: r)] S Q' noE
      rw [show ridersV (p :: r) = .tup ((nI (p :: r)).map D.int) by show D.tup (natsV _) = _; rw [natsV_eq]]
      exact listed_ok (nI_bd hr2.2) (by rw [nI_len]; omega) q2
  rw [List.nil_append]
  have e : plan.map (fun r => D.str (ridW r)) = (plan.map ridW).map D.str := by rw [List.map_map]; rfl
  rw [e]
  have b := ridTs_len h.r
  have c : (" " : Str).length = 1 := by decide +kernel
  refine onS rfl (onS (strsOf_map _) ⟨?_, q⟩)
  rw [List.length_map, c]
  omega
end
end Pu
namespace Pu
open PySem L2 Rb Gm TL
/-! ## what a shell answers to 'trip', 'finish', 'riders', and what the law expects -/
def ansV (b : Bool) (v : Vn) : D := .lst b [.str v.tt, .str (itx v.fin), .str (ridT (planM v))]
section
variable {S : Sto} {Q : QD} {E : ED} {v : Vn} {t : TKd} {done vs : List D} {w : Bool} {k ks : Nat}
theorem neT_empty {r : List Nat} (q : Q (.bl (!r.isEmpty)) S) : iEqB true (ridersV r) (.tup []) S Q := by
  refine eqB_ok (p := .tuple ((nI r).map .int)) (q := .tuple []) (pyC_of ?_) (pyC_of rfl) ?_ rfl ?_
  · show (toPyAll (natsV r)).map PyData.tuple = _
    rw [py_natsV]
    rfl
  · have h : Shp 1 (ridersV r) := by
      rw [show ridersV r = .tup ((nI r).map D.int) by show D.tup (natsV r) = _; rw [natsV_eq]]
      exact Shp.tup fun d hd => by
        obtain ⟨i, _, rfl⟩ := List.mem_map.mp hd
        exact Shp.int
    obtain ⟨p, e1, h1, _⟩ := h.sh (by decide)
    have e2 : toPy (ridersV r) = some (.tuple ((nI r).map .int)) := by
      show (toPyAll (natsV r)).map PyData.tuple = _
      rw [py_natsV]
      rfl
    rw [e2] at e1
    cases e1
    exact h1
  · cases r with
    | nil => exact q
    | cons x r => exact q
theorem max_rtk (ok : VnOk v) {b : Bool} (q : Q (.int v.fin) S) : gMax [.lst b ((rtk v.wk v.rd (countsM v.bs) v.ns v.bs.length).map D.int)] S Q := by
  have n1 := ok.st.n1
  refine onS (intsOf_map _) ⟨?_, q⟩
  intro z
  have h := rtk_len (wk := v.wk) (rd := v.rd) (cs := countsM v.bs) (starts := v.ns) v.bs.length
  rw [z] at h
  simp at h
  omega
theorem join3 {a : Str} {ys : List Str} {j : Nat} {ρ : Rho} {Ed : ED} (g : getV ρ j = some (.lst false (ys.map D.str))) (hl : (ys.map (·.length)).sum + ys.length * a.length ≤ 100000) (q : Q (.str (Txt.join a ys)) S) : dJoin (dC (.str a)) (dVar j) ρ S Q Ed := by
  show onSome (getV ρ j) _
  refine onS g ?_
  exact onS rfl (onS (strsOf_map ys) ⟨hl, q⟩)
theorem cons_of {f : FE} {g : FA} {ρ : Rho} {Q : List D → Sto → Prop} {Ed : ED} (h : f ρ S (fun x S1 => g ρ S1 (fun xs S2 => Q (x :: xs) S2) Ed) Ed) : dCons f g ρ S Q Ed := h
theorem dB_of {g : List D → Sto → QD → Prop} {fa : FA} {ρ : Rho} {Ed : ED} (h : fa ρ S (fun ds S1 => g ds S1 Q) Ed) : dB g fa ρ S Q Ed := h
theorem max_at {b : Bool} {j : Nat} {ρ : Rho} {Ed : ED} (ok : VnOk v) (g : getV ρ j = some (.lst b ((rtk v.wk v.rd (countsM v.bs) v.ns v.bs.length).map D.int))) (q : Q (.int v.fin) S) : dB gMax (dCons (dVar j) dNil) ρ S Q Ed := onS g (max_rtk (b := b) ok q)
theorem lanswers_ok (ok : VnOk v) (q : Q (ansV true v) S) : F_law_answers [tsV v] S Q E := by
  have ps := planM_S ok
  have fb := fin_bd ok
  have big : v.fin.natAbs < 2 ^ 1000 := Nat.lt_of_lt_of_le (show v.fin.natAbs < 2 ^ 30 by omega) (Nat.pow_le_pow_right (by decide) (by decide))
  unfold F_law_answers
  refine ⟨rfl, ⟨?_, rfl⟩, lrule2_ok ok fun b => ⟨rfl, rfl, ?_⟩⟩
  · show (below 0 (.tup [roadV v.wk v.rd v.bs, .tup (v.ns.map D.int)]) && true) = true
    show ((below 0 (roadV v.wk v.rd v.bs) && (belowAll 0 (v.ns.map D.int) && true)) && true) = true
    rw [below_roadV, below_ints]
    rfl
  show (dSeq (dAsg (dLc (st1 4) dYes (dIf (dTest (dBin iNe (dVar 4) (dTup dNil))) (dCallW F_listed (dCons (dVar 4) dNil)) (dC (.str "-"))) (dItS (dVar 1))) (gN 3)) (dRet (dLst (dCons (dCallW F_law_trip_text (dCons (dVar 0) dNil)) (dCons (dB gStr (dCons (dB gMax (dCons (dVar 2) dNil)) dNil)) (dCons (dJoin (dC (.str " ")) (dVar 3)) dNil))))))
    [some (tsV v), some (planV (planM v)), some (.lst b ((rtk v.wk v.rd (countsM v.bs) v.ns v.bs.length).map D.int)), none, none] S _ noE
  unfold ansV at q
  generalize planM v = plan at ps q ⊢
  have pl := ps.l
  refine seq_asg ⟨szd (by show (plan.map ridersV).length ≤ 100000; rw [List.length_map]; omega), ?_⟩
  refine comp_mapV (src := []) ridersV (fun r => D.str (ridW r)) (fun _ p => p) plan [] (fun r hr => ?_) ?_
  · refine ⟨_, rfl, fun Q' q' => ?_⟩
    have hr2 := ps.r r hr
    refine ⟨szr rfl, neT_empty ?_⟩
    unfold ridW at q'
    cases r with
    | nil => exact q'
    | cons p r =>
      show F_listed [ridersV (p :: r)] S Q' noE
      rw [show ridersV (p :: r) = .tup ((nI (p :: r)).map D.int) by show D.tup (natsV _) = _; rw [natsV_eq]]
      exact listed_ok (nI_bd hr2.2) (by rw [nI_len]; omega) q'
  rw [List.nil_append]
  have e : plan.map (fun r => D.str (ridW r)) = (plan.map ridW).map D.str := by rw [List.map_map]; rfl
  rw [e]
  have bl := ridTs_len ps.r
  have c : (" " : Str).length = 1 := by decide +kernel
  show (dRet (dLst (dCons (dCallW F_law_trip_text (dCons (dVar 0) dNil)) (dCons (dB gStr (dCons (dB gMax (dCons (dVar 2) dNil)) dNil)) (dCons (dJoin (dC (.str " ")) (dVar 3)) dNil))))) [some (tsV v), some (planV plan), some (.lst b ((rtk v.wk v.rd (countsM v.bs) v.ns v.bs.length).map D.int)), some (.lst false ((plan.map ridW).map D.str)), none] S _ noE
  refine ltext_ok ok ?_
  refine cons_of (dB_of (cons_of (max_at (b := b) ok rfl ?_)))
  refine ⟨big, ?_⟩
  refine join3 (ys := plan.map ridW) rfl (by rw [List.length_map, c]; omega) ?_
  exact ⟨szr rfl, q⟩
theorem answer_riders (ok : VnOk v) (hs : S[ks]? = some (shC k)) (hk : TAt S k t done (vs ++ [v.d]) w) (q : Q (.str (ridT (planM v))) S) : F_Shell_answer_2 [.cell ks, .tup [.str "riders"]] S Q E := by
  unfold F_Shell_answer_2
  refine ⟨rfl, ?_⟩
  refine is_edit_no (x := "riders") (by rfl) ?_
  refine ⟨szr rfl, words_ne fine_riders fine_undo (by decide) ?_⟩
  refine ⟨szr rfl, words_ne fine_riders fine_trip (by decide) ?_⟩
  refine ⟨szr rfl, words_ne fine_riders fine_finish (by decide) ?_⟩
  refine ⟨szr rfl, words_eq fine_riders ?_⟩
  refine onS (ins_cell hs) ⟨rfl, onS (a := D.cell k) rfl ?_⟩
  refine t_prop hk (t_road hk ?_)
  refine onS (ins_cell hs) ⟨rfl, onS (a := D.cell k) rfl ?_⟩
  refine t_prop hk (t_starts hk ?_)
  refine ⟨⟨below_rs, rfl⟩, rule_ok ok.R ok.st.n2 ⟨rfl, ?_⟩⟩
  exact rtext_ok (planM_S ok) q
theorem js_num3 {fe : FE} {i : Int} {y : Str} {ρ : Rho} {S1 : Sto} (h : i.natAbs < 10 ^ 10) (hy : y.length ≤ 1000) (hf : ∀ K : QD, K (.int i) S1 → fe ρ S K E) (q : Q (.str (y ++ itx i)) S1) : dJs [dC (.str y), dFmt fe] Str.empty ρ S Q E := by
  have hl := itx_len h
  have e0 : Str.empty ++ y = y := by refine ext_tl ?_; rw [tl_append]; rfl
  refine ⟨by rw [e0]; exact szd (by omega), ?_⟩
  rw [e0]
  refine hf _ ⟨Nat.lt_trans h (by decide), ?_, q⟩
  show (y ++ itx i).length ≤ sizeLine
  rw [str_len]
  exact szd (by omega)
theorem ok_len : ("ok " : Str).length ≤ 1000 := by decide +kernel
theorem answer_undo {x u : D} (hs : S[ks]? = some (shC k)) (hk : TAt S k t (done ++ [x]) (vs ++ [u]) false) (hl : done.length ≤ 1000) (q : Q (.str (("ok " : Str) ++ itx (done.length : Int))) (S.set k (tripC t done vs false))) : F_Shell_answer_2 [.cell ks, .tup [.str "undo"]] S Q E := by
  unfold F_Shell_answer_2
  refine ⟨rfl, ?_⟩
  refine is_edit_no (x := "undo") (by rfl) ?_
  refine ⟨szr rfl, words_eq fine_undo ?_⟩
  exact js_num3 (i := (done.length : Int)) (by show _ < 10000000000; omega) ok_len (fun K hK => onS (ins_cell hs) ⟨rfl, onS (a := D.cell k) rfl (t_meth hk (by cases t <;> rfl) (t_undo hk hK))⟩) q
theorem answer_edit {e : Edt} {v' : Vn} (ok : VnOk v) (o : Okk v e v') (hs : S[ks]? = some (shC k)) (hk : TAt S k t done (vs ++ [v.d]) false) (h60 : done.length < 60) (vl : vs.length ≤ 900) (hl : ∀ l, t.L = some l → v'.fin ≤ l)
    (q : Q (.str (("ok " : Str) ++ itx ((done.length + 1 : Nat) : Int))) (S.set k (tripC t (done ++ [e.d]) (vs ++ [v.d] ++ [v'.d]) false))) : F_Shell_answer_2 [.cell ks, e.d] S Q E := by
  have st := stepT_ok (L := t.L) h60 o.app hl
  unfold F_Shell_answer_2
  refine ⟨rfl, ?_⟩
  refine is_edit_ok ?_
  refine js_num3 (i := ((done.length + 1 : Nat) : Int)) (by show _ < 10000000000; omega) ok_len (fun K hK => onS (ins_cell hs) ⟨rfl, onS (a := D.cell k) rfl (t_meth hk (by cases t <;> rfl) ?_)⟩) q
  refine call_edit_ok hk (t_edit ok o.py hk (by omega) vl (fun x h => by rw [st] at h; cases h) fun u h => ?_)
  rw [st] at h
  cases h
  exact hK
theorem exec_of {x : Str} {d : D} (hs : S[ks]? = some (shC k)) (hc : ∀ (Q : QD) (E : ED), Q d S → F_command_in [.str x] S Q E) (nn : ∃ ds, d = .tup ds) (h : F_Shell_answer_2 [.cell ks, d] S Q noE) : F_Shell_execute_2 [.cell ks, .str x] S Q E := by
  obtain ⟨ds, rfl⟩ := nn
  unfold F_Shell_execute_2
  refine ⟨rfl, hc _ _ ?_⟩
  refine ⟨rfl, ?_⟩
  exact onS (ins_cell hs) ⟨rfl, onS (a := F_Shell_answer_2) rfl h⟩
theorem cmd_trip : ∀ (Q : QD) (E : ED), Q (.tup [.str "trip"]) S → F_command_in [.str "trip"] S Q E := fun Q E => command_word (by decide +kernel) (by decide +kernel)
theorem cmd_finish : ∀ (Q : QD) (E : ED), Q (.tup [.str "finish"]) S → F_command_in [.str "finish"] S Q E := fun Q E => command_word (by decide +kernel) (by decide +kernel)
theorem cmd_riders : ∀ (Q : QD) (E : ED), Q (.tup [.str "riders"]) S → F_command_in [.str "riders"] S Q E := fun Q E => command_word (by decide +kernel) (by decide +kernel)
theorem cmd_undo : ∀ (Q : QD) (E : ED), Q (.tup [.str "undo"]) S → F_command_in [.str "undo"] S Q E := fun Q E => command_word (by decide +kernel) (by decide +kernel)
theorem exec_trip (ok : VnOk v) (hs : S[ks]? = some (shC k)) (hk : TAt S k t done (vs ++ [v.d]) w) (q : Q (.str v.tt) S) : F_Shell_execute_2 [.cell ks, .str "trip"] S Q E := exec_of hs cmd_trip ⟨_, rfl⟩ (answer_trip ok hs hk q)
theorem exec_finish (ok : VnOk v) (hs : S[ks]? = some (shC k)) (hk : TAt S k t done (vs ++ [v.d]) w) (q : Q (.str (itx v.fin)) S) : F_Shell_execute_2 [.cell ks, .str "finish"] S Q E := exec_of hs cmd_finish ⟨_, rfl⟩ (answer_finish ok hs hk q)
theorem exec_riders (ok : VnOk v) (hs : S[ks]? = some (shC k)) (hk : TAt S k t done (vs ++ [v.d]) w) (q : Q (.str (ridT (planM v))) S) : F_Shell_execute_2 [.cell ks, .str "riders"] S Q E := exec_of hs cmd_riders ⟨_, rfl⟩ (answer_riders ok hs hk q)
theorem comp_one {st : D → Rho → Option Rho} {f : FE} {src : Src} {x : D} {xs acc : List D} {ρ ρ1 : Rho} {K : List D → Sto → Prop} (h1 : st x ρ = some ρ1) (h2 : f ρ1 S (fun y S2 => srcOk src S2 (dCompL st dYes f src xs (acc ++ [y]) ρ S2 K)) noE) : dCompL st dYes f src (x :: xs) acc ρ S K :=
  onS h1 (ifT (b := true) (Q := srcOk src S (dCompL st dYes f src xs acc ρ S K)) rfl h2)
theorem lheard_ok (ok : VnOk v) (hs : S[ks]? = some (shC k)) (hk : TAt S k t done (vs ++ [v.d]) w) (q : Q (ansV false v) S) : F_law_heard [.cell ks] S Q E := by
  unfold F_law_heard
  refine ⟨rfl, szr rfl, szr rfl, ?_⟩
  refine comp_one rfl (onS (ins_cell hs) ⟨rfl, onS (a := F_Shell_execute_2) rfl (exec_trip ok hs hk ?_)⟩)
  refine comp_one rfl (onS (ins_cell hs) ⟨rfl, onS (a := F_Shell_execute_2) rfl (exec_finish ok hs hk ?_)⟩)
  refine comp_one rfl (onS (ins_cell hs) ⟨rfl, onS (a := F_Shell_execute_2) rfl (exec_riders ok hs hk ?_)⟩)
  exact q
theorem fine_nums (ns : List Int) : Fine (numsTx ns) := by
  unfold numsTx
  rw [join_eq]
  refine fine_join (sep := ",") (fine_of (by decide +kernel)) fun t ht => ?_
  obtain ⟨i, _, rfl⟩ := List.mem_map.mp ht
  exact fine_int i
theorem fine_rid (plan : List (List Nat)) : Fine (ridT plan) := by
  unfold ridT
  rw [join_eq]
  refine fine_join (sep := " ") (fine_of (by decide +kernel)) fun t ht => ?_
  obtain ⟨r, _, rfl⟩ := List.mem_map.mp ht
  unfold ridW
  split
  · exact fine_of (by decide +kernel)
  · exact fine_nums _
theorem fine_tt (v : Vn) : Fine v.tt := by
  unfold Vn.tt tripT tripWords
  rw [join_eq]
  refine fine_join (sep := " ") (fine_of (by decide +kernel)) fun t ht => ?_
  simp only [List.mem_cons, List.not_mem_nil, or_false] at ht
  rcases ht with rfl | rfl | rfl | rfl
  · exact ((fine_int _).app (fine_of (by decide +kernel))).app (fine_int _)
  · exact fine_nums _
  · exact fine_of (by decide +kernel)
  · exact fine_nums _
theorem ans_shp (b : Bool) (v : Vn) : Shp 1 (ansV b v) := Shp.lst fun d hd => by
  simp only [List.mem_cons, List.not_mem_nil, or_false] at hd
  rcases hd with rfl | rfl | rfl
  · exact Shp.str (fine_tt v)
  · exact Shp.str (fine_int _)
  · exact Shp.str (fine_rid _)
theorem ans_ne {b c : Bool} (q : Q (.bl false) S) : iEqB true (ansV b v) (ansV c v) S Q := eq_same (ans_shp b v) rfl q
end
end Pu
namespace Pu
open PySem L2 Rb Gm TL
theorem sh_make {S : Sto} {Q : QD} {E : ED} {k : Nat} (q : Q .non (S ++ [shC k])) : F_Shell_init [.cell S.length, .cell k] (S ++ [.ins "Shell" []]) Q E := by
  unfold F_Shell_init
  refine ⟨rfl, ?_⟩
  show onSome (cellIns (S ++ [Cl.ins "Shell" []]) (.cell S.length)) _
  refine onS (cell_ins get_new) ⟨⟨rfl, by show 0 ≤ 500; decide⟩, ?_⟩
  show Q .non ((S ++ [Cl.ins "Shell" []]).set S.length (shC k))
  rw [set_new]
  exact q
theorem ret_of {f : FE} {ρ : Rho} {S : Sto} {De : DEnds} {Ed : ED} (h : f ρ S De.rt Ed) : dRet f ρ S De Ed := h
theorem dIf_yes {α : Type} {t : FT} {f g : FX α} {ρ : Rho} {S : Sto} {Q : α → Sto → Prop} {Ed : ED} (ht : ∀ K : Bool → Sto → Prop, K true S → t ρ S K Ed) (h : f ρ S Q Ed) : dIf t f g ρ S Q Ed := ht _ (ifT (b := true) rfl h)
theorem dIf_no {α : Type} {t : FT} {f g : FX α} {ρ : Rho} {S : Sto} {Q : α → Sto → Prop} {Ed : ED} (ht : ∀ K : Bool → Sto → Prop, K false S → t ρ S K Ed) (h : g ρ S Q Ed) : dIf t f g ρ S Q Ed := ht _ (ifF (b := false) rfl h)
theorem sq_no {c : FT} {A rest : FS} {ρ : Rho} {S : Sto} {De : DEnds} {Ed : ED} (hc : ∀ K : Bool → Sto → Prop, K false S → c ρ S K Ed) (h : rest ρ S De Ed) : dSeq (dIfS c A dSkip) rest ρ S De Ed := hc _ (ifF (b := false) rfl h)
theorem callW_of {F : FF} {fa : FA} {ρ : Rho} {S : Sto} {Q : QD} {Ed : ED} (h : fa ρ S (fun ds S1 => F ds S1 Q Ed) Ed) : dCallW F fa ρ S Q Ed := h
/-! ## lines of a word and one or two numbers -/
section
variable {S : Sto} {Q : QD} {E : ED}
def cmdR : FS := (dSeq (dAsg (dLc (st1 3) dYes (dCallW F_number_in (dCons (dVar 3) (dCons (dC (.int 0)) (dCons (dC (.int 99999999)) dNil)))) (dItS (dSl (dVar 1) (dPart (dC (.int 1))) dNoP))) (gN 2))
 (dRet (dIf (dTest (dBin gInN (dC .non) (dVar 2))) (dC .non) (dTup (dCons (dBin gIx (dVar 1) (dC (.int 0))) (dStar (dVar 2) dNil))))))
theorem cmdR_of {line : Str} {ws : List Str} (hl : line.length ≤ 1000) (sp : Txt.split line (" " : Str) = ws)
    (h : cmdR [some (.str line), some (.lst false (ws.map D.str)), none, none] S ⟨fun _ S' => Q .non S', Q, fun _ _ => False, fun _ _ => False⟩ noE) : F_command_in [.str line] S Q E := by
  have sz : line.length + 2 ≤ sizeLine := szd (by omega)
  unfold F_command_in
  refine ⟨rfl, ⟨⟨by decide +kernel, sz⟩, ?_⟩⟩
  subst sp
  exact h
theorem command2 {line x : Str} {m n : Nat} (hl : line.length ≤ 1000) (sp : Txt.split line (" " : Str) = [x, itx (m : Int), itx (n : Int)]) (h1 : m ≤ 99999999) (h2 : n ≤ 99999999) (q : Q (.tup [.str x, .int (m : Int), .int (n : Int)]) S) : F_command_in [.str line] S Q E := by
  refine cmdR_of hl sp ?_
  unfold cmdR
  refine ⟨szr rfl, ?_⟩
  refine number_in_ok (most := 99999999) h1 (by decide) ?_
  refine number_in_ok (most := 99999999) h2 (by decide) ?_
  exact ⟨szr rfl, q⟩
end
end Pu
namespace Pu
open PySem L2 Rb Gm TL
/-! ## the law's drawn edits -/
def den_edit4 : FS := (dSeq (dIfS (dTest (dBin iEq (dB gLen (dCons (dVar 5) dNil)) (dC (.int 10))))
 (dRet (dTup (dCons (dC (.str "leave")) (dCons (dC (.int 0)) dNil))))
 dSkip)
 (dRet (dTup (dCons (dC (.str "come")) (dCons (dCallW F_law_draw_3 (dCons (dVar 0) (dCons (dBin gIx (dLst (dCons (dC (.int 40)) (dCons (dBin gAdd (dBin gPow (dC (.int 10)) (dC (.int 6))) (dC (.int 1))) dNil))) (dCallW F_law_draw_3 (dCons (dVar 0) (dCons (dC (.int 2)) dNil)))) dNil))) dNil)))))
def den_editP : FS := (dSeq (dIfS (dAnd (dTest (dBin gLt (dVar 6) (dC (.int 4)))) (dTest (dBin gLt (dBin gIx (dVar 4) (dVar 7)) (dC (.int 12)))))
 (dRet (dTup (dCons (dC (.str "place")) (dCons (dVar 7) (dCons (dBin gAdd (dC (.int 1)) (dCallW F_law_draw_3 (dCons (dVar 0) (dCons (dB gMinL (dCons (dC (.int 2)) (dCons (dBin gSub (dC (.int 12)) (dBin gIx (dVar 4) (dVar 7))) dNil))) dNil)))) dNil)))))
 dSkip)
 den_edit4)
def den_editT : FS := (dSeq (dIfS (dAnd (dTest (dBin iEq (dVar 6) (dC (.int 1)))) (dTest (dBin gGt (dBin gIx (dVar 4) (dVar 7)) (dC (.int 0)))))
 (dRet (dTup (dCons (dC (.str "take")) (dCons (dVar 7) (dCons (dBin gAdd (dC (.int 1)) (dCallW F_law_draw_3 (dCons (dVar 0) (dCons (dBin gIx (dVar 4) (dVar 7)) dNil)))) dNil)))))
 dSkip)
 den_editP)
def den_editL : FS := (dSeq (dIfS (dAnd (dTest (dBin iEq (dVar 6) (dC (.int 0)))) (dTest (dBin gGt (dB gLen (dCons (dVar 5) dNil)) (dC (.int 1)))))
 (dRet (dTup (dCons (dC (.str "leave")) (dCons (dCallW F_law_draw_3 (dCons (dVar 0) (dCons (dB gLen (dCons (dVar 5) dNil)) dNil))) dNil))))
 dSkip)
 den_editT)
section
variable {S T : Sto} {k : Nat} {Q : QD} {E : ED} {v : Vn} {N : Int}
theorem ledit2_ok (ok : VnOk v) (dk : Dk S N T) (hN : N ≤ 900000) (q : ∀ e v' S', Okk v e v' → VnOk v' → Dk S' (N + 4) T → Q e.d S') : F_law_edit_2 [.cell 1, tsV v] S Q E := by
  have l1 := ok.R.l1
  have l2 := ok.R.l2
  have n1 := ok.st.n1
  have n2 := ok.st.n2
  have lb : ((v.bs.map D.int).length : Int) = (v.bs.length : Int) := by rw [List.length_map]
  have ln : ((v.ns.map D.int).length : Int) = (v.ns.length : Int) := by rw [List.length_map]
  have q : ∀ e v' S', Okk v e v' → Dk S' (N + 4) T → Q e.d S' := fun e v' S' o d => q e v' S' o (app_ok ok o.app) d
  unfold F_law_edit_2
  refine ⟨rfl, seq_st (x := .int v.wk) (y := .int v.rd) (z := .tup (v.bs.map D.int)) (w := v.sv) rfl ?_⟩
  refine draw3_ok dk (by omega) (by decide) (by decide) fun way S1 w0 w1 d1 => ?_
  show F_law_draw_3 [.cell 1, .int ((v.bs.map D.int).length : Int)] S1 _ _
  rw [lb]
  refine draw3_ok d1 (by omega) (by omega) (by omega) fun a S2 a0 a1 d2 => ?_
  obtain ⟨x, rfl⟩ : ∃ x : Nat, a = (x : Int) := ⟨a.toNat, (Int.toNat_of_nonneg a0).symm⟩
  have hx : x < v.bs.length := by omega
  have hb := ok.R.hb _ (getD_mem' hx)
  have et : tickAt v.bs x = v.bs.getD x 0 := rfl
  have hat := atI_tick hx
  rw [et] at hat
  have d2 : Dk S2 (N + 2) T := d2.le (by omega)
  clear d1 dk
  generalize S2 = S2 at d2 ⊢
  let env : Rho := [some (.cell 1), some (tsV v), some (.int v.wk), some (.int v.rd), some (.tup (v.bs.map D.int)), some v.sv, some (.int way), some (.int (x : Int))]
  let De : DEnds := ⟨fun _ S' => Q .non S', Q, fun _ _ => False, fun _ _ => False⟩
  have r4 : den_edit4 env S2 De noE := by
    show iEqB false (.int ((v.ns.map D.int).length : Int)) (.int 10) S2 _
    rw [ln]
    refine eq_int ?_
    refine ifB (b := decide ((v.ns.length : Int) = 10)) (fun c => ?_) fun c => ?_
    · refine ⟨szr rfl, ?_⟩
      exact q (.leave (.int ((0 : Nat) : Int))) _ S2 (.leave 0 (by omega) (by have := of_decide_eq_true c; omega)) (d2.le (by omega))
    · have c := of_decide_eq_false c
      refine ⟨⟨by decide, by decide, by decide⟩, szr rfl, ?_⟩
      refine draw3_ok d2 (by omega) (by decide) (by decide) fun r S3 r0 r1 d3 => ?_
      obtain ⟨lim, el, k1, k2⟩ : ∃ lim : Int, atI [D.int 40, .int (10 ^ (6 : Int).toNat + 1)] r = some (.int lim) ∧ 1 ≤ lim ∧ lim ≤ 1000001 := by
        rcases (by omega : r = 0 ∨ r = 1) with rfl | rfl
        · exact ⟨40, rfl, by decide, by decide⟩
        · exact ⟨_, rfl, by decide, by decide⟩
      show onSome (atI [D.int 40, .int (10 ^ (6 : Int).toNat + 1)] r) _
      refine onS el (draw3_ok d3 (by omega) k1 (by omega) fun s S4 s0 s1 d4 => ⟨szr rfl, ?_⟩)
      exact q _ _ S4 (.come s s0 (by omega) (by omega)) (d4.le (by omega))
  have rP : den_editP env S2 De noE := by
    refine or_ok (p := way < 4 ∧ v.bs.getD x 0 < 12) (fun K hK => ?_) (fun hp => ?_) fun hp => r4
    · refine ifB (b := decide (way < 4)) (fun c => ?_) fun c => ?_
      · have c' := of_decide_eq_true c
        show onSome (atI (v.bs.map D.int) (x : Int)) _
        refine onS hat ?_
        have e : decide (v.bs.getD x 0 < 12) = decide (way < 4 ∧ v.bs.getD x 0 < 12) := decide_eq_decide.mpr ⟨fun h => ⟨c', h⟩, fun h => h.2⟩
        rw [← e] at hK
        exact hK
      · have c' := of_decide_eq_false c
        rw [decide_eq_false (fun z => c' z.1)] at hK
        exact hK
    · show onSome (atI (v.bs.map D.int) (x : Int)) _
      refine onS hat ?_
      generalize hm : (if 12 - v.bs.getD x 0 < 2 then 12 - v.bs.getD x 0 else 2) = m
      have hm2 : 1 ≤ m ∧ m ≤ 12 - v.bs.getD x 0 ∧ m ≤ 2 := by rw [← hm]; split <;> omega
      show F_law_draw_3 [.cell 1, .int (if 12 - v.bs.getD x 0 < 2 then 12 - v.bs.getD x 0 else 2)] S2 _ _
      rw [hm]
      refine draw3_ok d2 (by omega) (by omega) (by omega) fun r S4 r0 r1 d4 => ⟨szr rfl, ?_⟩
      exact q _ _ S4 (.place x (1 + r) hx (by omega) (by omega) (by omega)) (d4.le (by omega))
  have rT : den_editT env S2 De noE := by
    refine or_ok (p := way = 1 ∧ 0 < v.bs.getD x 0) (fun K hK => ?_) (fun hp => ?_) fun hp => rP
    · refine eq_int ?_
      refine ifB (b := decide (way = 1)) (fun c => ?_) fun c => ?_
      · have c' := of_decide_eq_true c
        show onSome (atI (v.bs.map D.int) (x : Int)) _
        refine onS hat ?_
        have e : decide (v.bs.getD x 0 > 0) = decide (way = 1 ∧ 0 < v.bs.getD x 0) := decide_eq_decide.mpr ⟨fun h => ⟨c', h⟩, fun h => h.2⟩
        rw [← e] at hK
        exact hK
      · have c' := of_decide_eq_false c
        rw [decide_eq_false (fun z => c' z.1)] at hK
        exact hK
    · show onSome (atI (v.bs.map D.int) (x : Int)) _
      refine onS hat ?_
      refine draw3_ok d2 (by omega) (by omega) (by omega) fun r S4 r0 r1 d4 => ⟨szr rfl, ?_⟩
      exact q _ _ S4 (.take x (1 + r) hx (by omega) (by omega) (by omega)) (d4.le (by omega))
  have fin : den_editL env S2 De noE := by
    refine or_ok (p := way = 0 ∧ 1 < v.ns.length) (fun K hK => ?_) (fun hp => ?_) fun hp => rT
    · refine eq_int ?_
      refine ifB (b := decide (way = 0)) (fun c => ?_) fun c => ?_
      · have c' := of_decide_eq_true c
        have e : decide (((v.ns.map D.int).length : Int) > 1) = decide (way = 0 ∧ 1 < v.ns.length) := decide_eq_decide.mpr ⟨fun h => ⟨c', by omega⟩, fun h => by omega⟩
        rw [← e] at hK
        exact hK
      · have c' := of_decide_eq_false c
        rw [decide_eq_false (fun z => c' z.1)] at hK
        exact hK
    · show F_law_draw_3 [.cell 1, .int ((v.ns.map D.int).length : Int)] S2 _ _
      rw [ln]
      refine draw3_ok d2 (by omega) (by omega) (by omega) fun r S4 r0 r1 d4 => ⟨szr rfl, ?_⟩
      obtain ⟨p, rfl⟩ : ∃ p : Nat, r = (p : Int) := ⟨r.toNat, (Int.toNat_of_nonneg r0).symm⟩
      exact q _ _ S4 (.leave p (by omega) (by omega)) (d4.le (by omega))
  exact fin
end
end Pu
namespace Pu
open PySem L2 Rb Gm TL
/-! ## the law's look at the ends -/
def IsN (d : D) : Prop := ∃ n : Nat, n ≤ 10000000 ∧ d = .int (n : Int)
theorem IsN.of {z : Int} (h0 : 0 ≤ z) (h1 : z ≤ 10000000) : IsN (.int z) := ⟨z.toNat, by omega, by rw [Int.toNat_of_nonneg h0]⟩
end Pu
namespace Pu
open PySem L2 Rb Gm TL
def fUndo : FE := (dMeth [("Trip", F_Trip_undo), ("PromisedTrip", F_Trip_undo)] "undo" (dVar 4) dNil)
def fLast : FE := (dBin gIx (dVar 5) (dUn gNeg (dC (.int 1))))
def turnB : FS := (dSeq (dAsg (dCallW F_law_edit_2 (dCons (dVar 1) (dCons fLast dNil))) (gN 8))
 (dSeq (dDrop (dCallW F_law_do_2 (dCons (dVar 4) (dCons (dVar 8) dNil))))
 (dDrop (dML gAppend (dVar 5) (dCons (dCallW F_law_after_2 (dCons fLast (dCons (dVar 8) dNil))) dNil)))))
def turnU : FS := (dIfS (dAnd (dTest (dBin gGt (dB gLen (dCons (dVar 5) dNil)) (dC (.int 1)))) (dTest (dBin iEq (dCallW F_law_draw_3 (dCons (dVar 1) (dCons (dC (.int 3)) dNil))) (dC (.int 0)))))
 (dSeq (dDrop fUndo)
 (dDrop (dML0 gPopEnd (dVar 5))))
 dSkip)
def turnA : FS := (dSeq (dIfS (dTest (dBin iNe (dCallW F_law_heard (dCons (dVar 6) dNil)) (dCallW F_law_answers (dCons fLast dNil))))
 (dRet (dC (.bl false)))
 dSkip)
 (dCut turnU turnB))
def fExU : FE := (dSl (dMeth [("Shell", F_Shell_execute_2)] "execute" (dVar 9) (dCons (dC (.str "undo")) dNil)) dNoP (dPart (dC (.int 3))))
def backB : FS := (dIfS (dOr (dTest (dBin iNe fExU (dC (.str "ok ")))) (dTest (dBin iNe (dCallW F_law_heard (dCons (dVar 6) dNil)) (dCallW F_law_answers (dCons (dVar 12) dNil)))))
 (dRet (dC (.bl false)))
 dSkip)
def tail58 : FS := (dSeq (dAsg (dMake "Shell" F_Shell_init (dCons (dMake "Trip" F_Trip_init_2 (dCons (dTup (dCons (dC (.int 10)) (dCons (dC (.int 4)) (dCons (dTup (dCons (dC (.int 0)) (dCons (dC (.int 12)) (dCons (dC (.int 0)) dNil)))) dNil)))) (dCons (dTup (dCons (dC (.int 7)) (dCons (dC (.int 7)) (dCons (dC (.int 7)) dNil)))) dNil))) dNil)) (gN 13))
 (dSeq (dAsg (dLc (st1 15) dYes (dMeth [("Shell", F_Shell_execute_2)] "execute" (dVar 13) (dCons (dVar 15) dNil)) (dItS (dLst (dCons (dC (.str "riders")) (dCons (dC (.str "finish")) (dCons (dC (.str "take 1 11")) (dCons (dC (.str "riders")) (dCons (dC (.str "finish")) dNil)))))))) (gN 14))
 (dRet (dBin iEq (dVar 14) (dLst (dCons (dC (.str "- 0,1,2 0,1,2")) (dCons (dC (.str "25")) (dCons (dC (.str "ok 1")) (dCons (dC (.str "- 0 1")) (dCons (dC (.str "37")) dNil))))))))))
abbrev e58 (y0 y2 y3 : Option D) (y7 y8 y9 y10 y11 y12 y13 y14 y15 : Option D) : Rho := [y0, some (.cell 1), y2, y3, some (.cell 2), some (.cell 3), some (.cell 4), y7, y8, y9, y10, y11, y12, y13, y14, y15]
section
variable {S : Sto} {Q : QD} {E : ED} {v : Vn} {t : TKd} {N : Int}
/-- a trip, the law's list of its states, a shell -/
abbrev T58 (t : TKd) (done : List D) (us : List Vn) (v : Vn) (R : List Cl) : Sto := tripC t done (us.map Vn.d ++ [v.d]) false :: .lst (us.map tsV ++ [tsV v]) :: shC 2 :: R
structure A58 (S : Sto) (N : Int) (t : TKd) (done : List D) (us : List Vn) (v : Vn) (R : List Cl) : Prop where
  dk : Dk S N (T58 t done us v R)
  hl : us.length = done.length
  ok : VnOk v
  oks : ∀ u ∈ us, VnOk u
  big : ∀ l, t.L = some l → l = 10000000
variable {done : List D} {us : List Vn} {R : List Cl}
theorem A58.hk (a : A58 S N t done us v R) : TAt S 2 t done (us.map Vn.d ++ [v.d]) false := a.dk.get (j := 0) rfl
theorem A58.hs (a : A58 S N t done us v R) : S[4]? = some (shC 2) := a.dk.get (j := 2) rfl
theorem A58.hq (a : A58 S N t done us v R) : S[3]? = some (.lst (us.map tsV ++ [tsV v])) := a.dk.get (j := 1) rfl
theorem last_ok {xs : List D} {x : D} {ρ : Rho} {Ed : ED} (g : getV ρ 5 = some (.cell 3)) (h : S[3]? = some (.lst (xs ++ [x]))) (q : Q x S) : fLast ρ S Q Ed := by
  refine onS g ?_
  exact onS (seq_cell h) (onS (atI_last _ _) q)
theorem A58.dn (a : A58 S N t done us v R) : (us.map Vn.d).length = done.length ∧ (us.map tsV).length = done.length := ⟨by rw [List.length_map]; exact a.hl, by rw [List.length_map]; exact a.hl⟩
theorem A58.le {M : Int} (a : A58 S N t done us v R) (h : N ≤ M) : A58 S M t done us v R := ⟨a.dk.le h, a.hl, a.ok, a.oks, a.big⟩
variable {y0 y2 y3 y7 y8 y9 y10 y11 y12 y13 y14 y15 : Option D} {De : DEnds}
theorem turnB_ok (a : A58 S N t done us v R) (hN : N ≤ 900000) (hd : done.length < 60)
    (q : ∀ S' e v' y8, A58 S' (N + 4) t (done ++ [e]) (us ++ [v]) v' R → De.nx (e58 y0 y2 y3 y7 y8 y9 y10 y11 y12 y13 y14 y15) S') : turnB (e58 y0 y2 y3 y7 y8 y9 y10 y11 y12 y13 y14 y15) S De noE := by
  obtain ⟨l1, l2⟩ := a.dn
  unfold turnB
  refine last_ok (Ed := noE) (ρ := e58 y0 y2 y3 y7 y8 y9 y10 y11 y12 y13 y14 y15) rfl a.hq ?_
  refine ledit2_ok a.ok a.dk (by omega) fun e v' S2 o ok' d2 => ?_
  have fb := fin_bd ok'
  refine ldo2_ok a.ok o (d2.get (j := 0) rfl) hd (by omega) (fun l z => by have := a.big l z; omega) ?_
  have d3 := d2.put (j := 0) (c := tripC t (done ++ [e.d]) (us.map Vn.d ++ [v.d] ++ [v'.d]) false) (by simp)
  show (dDrop (dML gAppend (dVar 5) (dCons (dCallW F_law_after_2 (dCons fLast (dCons (dVar 8) dNil))) dNil))) (e58 y0 y2 y3 y7 (some e.d) y9 y10 y11 y12 y13 y14 y15) (S2.set (2 + 0) (tripC t (done ++ [e.d]) (us.map Vn.d ++ [v.d] ++ [v'.d]) false)) De noE
  generalize S2.set (2 + 0) (tripC t (done ++ [e.d]) (us.map Vn.d ++ [v.d] ++ [v'.d]) false) = S3 at d3 ⊢
  refine onS (cell_lst (d3.get (j := 1) rfl)) ?_
  refine cons_of (callW_of (cons_of (last_ok (Ed := noE) (ρ := e58 y0 y2 y3 y7 (some e.d) y9 y10 y11 y12 y13 y14 y15) rfl (d3.get (j := 1) rfl) ?_)))
  refine lafter2_ok a.ok o ?_
  refine onS (cell_lst (d3.get (j := 1) rfl)) ⟨szd (by show (us.map tsV ++ [tsV v]).length < 100000; rw [List.length_append, l2]; show done.length + 1 < 100000; omega), ?_⟩
  have d4 := d3.put (j := 1) (c := .lst (us.map tsV ++ [tsV v] ++ [tsV v'])) (by simp)
  refine q (S3.set (2 + 1) (.lst (us.map tsV ++ [tsV v] ++ [tsV v']))) e.d v' _ ⟨?_, by rw [List.length_append, List.length_append, a.hl]; rfl, ok', fun u hu => ?_, a.big⟩
  · have e1 : (((T58 t done us v R).set 0 (tripC t (done ++ [e.d]) (us.map Vn.d ++ [v.d] ++ [v'.d]) false)).set 1 (.lst (us.map tsV ++ [tsV v] ++ [tsV v']))) = T58 t (done ++ [e.d]) (us ++ [v]) v' R := by
      show tripC t (done ++ [e.d]) (us.map Vn.d ++ [v.d] ++ [v'.d]) false :: .lst (us.map tsV ++ [tsV v] ++ [tsV v']) :: shC 2 :: R = _
      unfold T58
      rw [List.map_append, List.map_append]
      rfl
    rw [e1] at d4
    exact d4
  · rcases List.mem_append.mp hu with z | z
    · exact a.oks u z
    · rw [List.mem_singleton.mp z]; exact a.ok
theorem A58.pop {u : Vn} {x : D} (a : A58 S N t (done ++ [x]) (us ++ [u]) v R) : A58 ((S.set 2 (tripC t done (us.map Vn.d ++ [u.d]) false)).set 3 (.lst (us.map tsV ++ [tsV u]))) N t done us u R := by
  have d1 := (a.dk.put (j := 0) (c := tripC t done (us.map Vn.d ++ [u.d]) false) (by simp)).put (j := 1) (c := .lst (us.map tsV ++ [tsV u])) (by simp)
  refine ⟨d1, ?_, a.oks u (by simp), fun z hz => a.oks z (by simp [hz]), a.big⟩
  have := a.hl
  rw [List.length_append, List.length_append] at this
  simpa using this
theorem A58.hk' {u : Vn} {x : D} (a : A58 S N t (done ++ [x]) (us ++ [u]) v R) : TAt S 2 t (done ++ [x]) ((us.map Vn.d ++ [u.d]) ++ [v.d]) false := by
  have h := a.hk
  rw [List.map_append] at h
  exact h
theorem turnU_ok (a : A58 S N t done us v R) (hN : N ≤ 900000)
    (q : ∀ S' done' us' v', done'.length ≤ done.length → A58 S' (N + 1) t done' us' v' R → De.nx (e58 y0 y2 y3 y7 y8 y9 y10 y11 y12 y13 y14 y15) S') : turnU (e58 y0 y2 y3 y7 y8 y9 y10 y11 y12 y13 y14 y15) S De noE := by
  obtain ⟨l1, l2⟩ := a.dn
  unfold turnU
  refine onS (seq_cell a.hq) ?_
  refine ifB (b := decide ((((us.map tsV ++ [tsV v]).length : Nat) : Int) > 1)) (fun c => ?_) fun c => ?_
  · have c1 := of_decide_eq_true c
    rw [List.length_append, l2, List.length_singleton] at c1
    refine draw3_ok a.dk (by omega) (by decide) (by decide) fun r S1 r0 r1 d1 => ?_
    have a1 : A58 S1 (N + 1) t done us v R := ⟨d1, a.hl, a.ok, a.oks, a.big⟩
    refine eq_int (ifB (b := decide (r = 0)) (fun _ => ?_) fun _ => ?_)
    · rcases List.eq_nil_or_concat done with rfl | ⟨done', x, e1⟩
      · exact absurd c1 (by decide)
      rcases List.eq_nil_or_concat us with rfl | ⟨us', u, e2⟩
      · have := a.hl
        rw [e1, List.concat_eq_append, List.length_append] at this
        simp at this
      rw [List.concat_eq_append] at e1 e2
      subst e1 e2
      refine t_meth a1.hk' (by cases t <;> rfl) (t_undo a1.hk' ?_)
      have h3 : (S1.set 2 (tripC t done' (us'.map Vn.d ++ [u.d]) false))[3]? = some (.lst ((us'.map tsV ++ [tsV u]) ++ [tsV v])) := by
        rw [List.getElem?_set_ne (by decide), a1.hq, List.map_append]
        rfl
      refine onS (cell_lst h3) ?_
      refine onS (cell_lst h3) (onS (a := tsV v) (by rw [List.length_append]; simp) ?_)
      show De.nx _ ((S1.set 2 (tripC t done' (us'.map Vn.d ++ [u.d]) false)).set 3 (.lst (((us'.map tsV ++ [tsV u]) ++ [tsV v]).eraseIdx (((us'.map tsV ++ [tsV u]) ++ [tsV v]).length - 1))))
      rw [PyProof.Rows.Copied.eraseIdx_last, List.dropLast_concat]
      exact q _ _ _ _ (by rw [List.length_append]; exact Nat.le_add_right _ _) a1.pop
    · exact q S1 _ _ _ (Nat.le_refl _) a1
  · exact q S _ _ _ (Nat.le_refl _) (a.le (by omega))
theorem turnA_ok (a : A58 S N t done us v R) (hN : N ≤ 800000) (hd : done.length < 60)
    (q : ∀ S' done' us' v' y8, done'.length ≤ done.length + 1 → A58 S' (N + 10) t done' us' v' R → De.nx (e58 y0 y2 y3 y7 y8 y9 y10 y11 y12 y13 y14 y15) S') : turnA (e58 y0 y2 y3 y7 y8 y9 y10 y11 y12 y13 y14 y15) S De noE := by
  unfold turnA
  refine lheard_ok a.ok a.hs a.hk ?_
  refine last_ok (Ed := noE) (ρ := e58 y0 y2 y3 y7 y8 y9 y10 y11 y12 y13 y14 y15) rfl a.hq ?_
  refine lanswers_ok a.ok (ans_ne ?_)
  show (dCut turnU turnB) (e58 y0 y2 y3 y7 y8 y9 y10 y11 y12 y13 y14 y15) S De noE
  refine ⟨fun ρ S' => ρ = e58 y0 y2 y3 y7 y8 y9 y10 y11 y12 y13 y14 y15 ∧ ∃ done' us' v', done'.length ≤ done.length ∧ A58 S' (N + 1) t done' us' v' R, ?_, ?_⟩
  · exact turnU_ok a (by omega) fun S' done' us' v' h1 a1 => ⟨rfl, _, _, _, h1, a1⟩
  · rintro ρ S' ⟨rfl, done', us', v', h1, a1⟩
    refine turnB_ok a1 (by omega) (by omega) fun S2 e v2 y8 a2 => ?_
    exact q S2 _ _ _ _ (by rw [List.length_append, List.length_singleton]; omega) (a2.le (by omega))
/-! ### behind the turns: everything is undone -/
theorem ok3 (y : Str) : cutS (("ok " : Str) ++ y) none (some 3) = "ok " := by
  refine ext_tl ?_
  show ((tl (("ok " : Str) ++ y)).drop (HT.sIx (("ok " : Str) ++ y).length 0 none)).take (HT.sIx (("ok " : Str) ++ y).length (("ok " : Str) ++ y).length (some ((3 : Nat) : Int)) - HT.sIx (("ok " : Str) ++ y).length 0 none) = _
  rw [HT.sIx_none, HT.sIx_nat, List.drop_zero, Nat.sub_zero, str_len, tl_append]
  have k : tl ("ok " : Str) = [111, 107, 32] := by decide +kernel
  have l : ("ok " : Str).length = 3 := by decide +kernel
  rw [k, l, Nat.min_eq_left (by omega)]
  rfl
theorem sl_ok {y : Str} {K : QD} (hl : y.length ≤ 1000) (q : K (.str "ok ") S) : gSl (.str (("ok " : Str) ++ y)) none (some 3) S K := by
  refine ⟨szd (by rw [str_len]; have := ok_len; omega), ?_⟩
  rw [ok3]
  exact q
theorem sl3_ok {f : FE} {y : Str} {ρ : Rho} {S1 : Sto} {K : QD} {Ed : ED} (hl : y.length ≤ 1000) (hf : ∀ K : QD, K (.str (("ok " : Str) ++ y)) S1 → f ρ S K Ed) (q : K (.str "ok ") S1) : dSl f dNoP (dPart (dC (.int 3))) ρ S K Ed := hf _ (sl_ok hl q)
structure B58 (S : Sto) (N : Int) (t : TKd) (done : List D) (us : List Vn) (v : Vn) (L : List D) : Prop where
  dk : Dk S N [tripC t done (us.map Vn.d ++ [v.d]) false, .lst L, shC 2, shC 2]
  hl : us.length = done.length
  ok : VnOk v
  oks : ∀ u ∈ us, VnOk u
variable {L : List D}
theorem B58.hk (a : B58 S N t done us v L) : TAt S 2 t done (us.map Vn.d ++ [v.d]) false := a.dk.get (j := 0) rfl
theorem B58.hs (a : B58 S N t done us v L) : S[4]? = some (shC 2) := a.dk.get (j := 2) rfl
theorem B58.hs5 (a : B58 S N t done us v L) : S[5]? = some (shC 2) := a.dk.get (j := 3) rfl
theorem backB_ok {u : Vn} {x : D} (a : B58 S N t (done ++ [x]) (us ++ [u]) v L) (hd : done.length ≤ 1000)
    (q : ∀ S', B58 S' N t done us u L → De.nx (e58 y0 y2 y3 y7 y8 (some (.cell 5)) y10 y11 (some (tsV u)) y13 y14 y15) S') : backB (e58 y0 y2 y3 y7 y8 (some (.cell 5)) y10 y11 (some (tsV u)) y13 y14 y15) S De noE := by
  have hk' : TAt S 2 t (done ++ [x]) ((us.map Vn.d ++ [u.d]) ++ [v.d]) false := by
    have h := a.hk
    rw [List.map_append] at h
    exact h
  have il := itx_len (i := (done.length : Int)) (by show _ < 10000000000; omega)
  have d1 := a.dk.put (j := 0) (c := tripC t done (us.map Vn.d ++ [u.d]) false) (by simp)
  have hl : us.length = done.length := by
    have := a.hl
    rw [List.length_append, List.length_append] at this
    simpa using this
  have b : B58 (S.set (2 + 0) (tripC t done (us.map Vn.d ++ [u.d]) false)) N t done us u L := ⟨d1, hl, a.oks u (by simp), fun z hz => a.oks z (by simp [hz])⟩
  unfold backB
  refine sl3_ok (y := itx (done.length : Int)) (S1 := S.set 2 (tripC t done (us.map Vn.d ++ [u.d]) false)) (by omega) (fun K hK => onS (ins_cell a.hs5) ⟨rfl, onS (a := F_Shell_execute_2) rfl (exec_of a.hs5 cmd_undo ⟨_, rfl⟩ (answer_undo a.hs5 hk' hd hK))⟩) ?_
  refine ne_str rfl ?_
  refine lheard_ok b.ok b.hs b.hk ?_
  exact lanswers_ok b.ok (ans_ne (q _ b))
def mid2 : FS := (dSeq (dIfS (dOr (dTest (dBin iNe (dCallW F_law_heard (dCons (dVar 9) dNil)) (dVar 11))) (dOr (dTest (dBin iNe (dCallW F_law_heard (dCons (dVar 6) dNil)) (dVar 11))) (dTest (dBin iNe (dB (gLenO [("Trip", F_Trip_len), ("PromisedTrip", F_Trip_len)]) (dCons (dVar 4) dNil)) (dVar 10)))))
 (dRet (dC (.bl false)))
 dSkip)
 (dSeq (dFor (dItS (dUn gRevL (dSl (dVar 5) dNoP (dPart (dUn gNeg (dC (.int 1))))))) (gN 12) backB) tail58))
def mid58 : FS := (dSeq (dPar3 9 10 11 (dCons (dMake "Shell" F_Shell_init (dCons (dVar 4) dNil)) (dCons (dB (gLenO [("Trip", F_Trip_len), ("PromisedTrip", F_Trip_len)]) (dCons (dVar 4) dNil)) (dCons (dCallW F_law_answers (dCons fLast dNil)) dNil)))) mid2)
theorem mid2_ok (a : B58 S N t done us v (us.map tsV ++ [tsV v])) (hd : done.length ≤ 60)
    (q : ∀ S' y12, tail58 (e58 y0 y2 y3 y7 y8 (some (.cell 5)) (some (.int (done.length : Int))) (some (ansV true v)) y12 y13 y14 y15) S' De noE) : mid2 (e58 y0 y2 y3 y7 y8 (some (.cell 5)) (some (.int (done.length : Int))) (some (ansV true v)) y12 y13 y14 y15) S De noE := by
  unfold mid2
  refine sq_no (fun K hK => ?_) ?_
  · refine lheard_ok a.ok a.hs5 a.hk (ans_ne ?_)
    refine lheard_ok a.ok a.hs a.hk (ans_ne ?_)
    exact onS (t_ins a.hk) (onS (a := F_Trip_len) (by cases t <;> rfl) (t_length a.hk ⟨⟨by omega, by omega⟩, ne_int rfl hK⟩))
  show dFor (dItS (dUn gRevL (dSl (dVar 5) dNoP (dPart (dUn gNeg (dC (.int 1))))))) (gN 12) backB _ S _ noE
  have hq : S[3]? = some (.lst (us.map tsV ++ [tsV v])) := a.dk.get (j := 1) rfl
  refine onS (seq_cell hq) ?_
  show onSome (lstOf S (.lst false (cutD (us.map tsV ++ [tsV v]) none (some (-1))))) _
  rw [cut_last]
  show dLoop (gN 12) backB [] (us.map tsV).reverse _ S _ noE
  generalize hL : us.map tsV ++ [tsV v] = L at a
  refine for_inv (src := []) (us.map tsV).reverse (fun i ρ S' => ∃ y12 done' us' rest v', ρ = e58 y0 y2 y3 y7 y8 (some (.cell 5)) (some (.int (done.length : Int))) (some (ansV true v)) y12 y13 y14 y15 ∧ B58 S' N t done' us' v' L ∧ us = us' ++ rest ∧ rest.length = i) ⟨_, _, us, [], _, rfl, a, by simp, rfl⟩ ?_ ?_
  · rintro i x ρ S1 K hx hK ⟨y12, done', us', rest, v', rfl, b, eu, rl⟩
    have hi : i < us.length := by
      have := (List.getElem?_eq_some_iff.mp hx).1
      rw [List.length_reverse, List.length_map] at this
      exact this
    have ul : us.length = us'.length + rest.length := by rw [eu, List.length_append]
    rcases List.eq_nil_or_concat us' with rfl | ⟨us2, u, e2⟩
    · simp at ul
      omega
    rw [List.concat_eq_append] at e2
    subst e2
    rcases List.eq_nil_or_concat done' with rfl | ⟨done2, z, e1⟩
    · have := b.hl
      rw [List.length_append] at this
      simp at this
    rw [List.concat_eq_append] at e1
    subst e1
    have ex : x = tsV u := by
      rw [eu, List.map_append, List.reverse_append, List.getElem?_append_right (by rw [List.length_reverse, List.length_map, rl]; exact Nat.le_refl _), List.length_reverse, List.length_map, rl, Nat.sub_self, List.map_append, List.reverse_append] at hx
      cases hx
      rfl
    subst ex
    have dl : done2.length ≤ 1000 := by
      have h1 := b.hl
      have h2 := a.hl
      rw [List.length_append, List.length_append] at h1
      rw [List.length_append] at ul
      simp at h1 ul
      omega
    refine backB_ok b dl fun S2 c => ?_
    exact hK _ _ ⟨_, done2, us2, u :: rest, u, rfl, c, by rw [eu, List.append_assoc]; rfl, by rw [List.length_cons, rl]⟩
  · rintro ρ S1 ⟨y12, done', us', rest, v', rfl, b, eu, rl⟩
    exact q S1 y12
theorem mid58_ok (a : A58 S N t done us v []) (hd : done.length ≤ 60)
    (q : ∀ S' y9 y10 y11 y12, tail58 (e58 y0 y2 y3 y7 y8 y9 y10 y11 y12 y13 y14 y15) S' De noE) : mid58 (e58 y0 y2 y3 y7 y8 y9 y10 y11 y12 y13 y14 y15) S De noE := by
  unfold mid58
  have l5 : S.length = 5 := a.dk.len
  refine sh_make ⟨rfl, ?_⟩
  rw [l5]
  have d1 := a.dk.snoc (shC 2)
  have b : B58 (S ++ [shC 2]) N t done us v (us.map tsV ++ [tsV v]) := ⟨d1, a.hl, a.ok, a.oks⟩
  generalize S ++ [shC 2] = S1 at b ⊢
  refine onS (t_ins b.hk) (onS (a := F_Trip_len) (by cases t <;> rfl) (t_length b.hk ⟨⟨by omega, by omega⟩, ?_⟩))
  refine last_ok (Ed := noE) (ρ := e58 y0 y2 y3 y7 y8 y9 y10 y11 y12 y13 y14 y15) rfl (b.dk.get (j := 1) rfl) ?_
  refine lanswers_ok b.ok ?_
  exact mid2_ok b hd fun S' y12 => q S' _ _ _ _
end
def v58 : Vn := ⟨10, 4, [0, 12, 0], [7, 7, 7]⟩
def w58 : Vn := ⟨10, 4, [0, 1, 0], [7, 7, 7]⟩
theorem v58_ok : VnOk v58 := ⟨⟨by decide, by decide, by decide, by decide, by decide, by decide⟩, ⟨by decide, by decide, by decide⟩⟩
theorem w58_ok : VnOk w58 := ⟨⟨by decide, by decide, by decide, by decide, by decide, by decide⟩, ⟨by decide, by decide, by decide⟩⟩
theorem o58 : Okk v58 (.take (.int ((1 : Nat) : Int)) (.int ((11 : Nat) : Int))) w58 := by
  have h : w58 = { v58 with bs := plM v58.bs 1 (-11) } := by
    have e : plM [0, 12, 0] 1 (-11) = [0, 1, 0] := by decide +kernel
    show Vn.mk 10 4 [0, 1, 0] [7, 7, 7] = Vn.mk 10 4 (plM [0, 12, 0] 1 (-11)) [7, 7, 7]
    rw [e]
  rw [h]
  exact Okk.take 1 11 (by decide) (by decide) (by decide) (by decide)
theorem tail58_ok {S : Sto} {y0 y2 y3 y7 y8 y9 y10 y11 y12 y15 : Option D} {De : DEnds} (q : ∀ S', De.rt (.bl true) S') : tail58 (e58 y0 y2 y3 y7 y8 y9 y10 y11 y12 none none y15) S De noE := by
  unfold tail58
  refine ⟨szr rfl, szr rfl, szr rfl, ?_⟩
  refine t_make (v := v58) v58_ok ⟨rfl, ?_⟩
  refine sh_make ⟨rfl, ?_⟩
  have hk : TAt ((S ++ [tripC .plain [] [v58.d] false]) ++ [shC S.length]) S.length .plain [] ([] ++ [v58.d]) false := by
    show ((S ++ [_]) ++ [_])[S.length]? = _
    rw [List.append_assoc, List.getElem?_append_right (Nat.le_refl _), Nat.sub_self]
    rfl
  have hs : ((S ++ [tripC .plain [] [v58.d] false]) ++ [shC S.length])[(S ++ [tripC .plain [] [v58.d] false]).length]? = some (shC S.length) := by
    rw [List.getElem?_append_right (Nat.le_refl _), Nat.sub_self]
    rfl
  have ne : S.length ≠ (S ++ [tripC .plain [] [v58.d] false]).length := by rw [List.length_append, List.length_singleton]; omega
  generalize (S ++ [tripC .plain [] [v58.d] false]).length = ks at hs ne ⊢
  generalize (S ++ [tripC .plain [] [v58.d] false]) ++ [shC S.length] = S1 at hk hs ⊢
  generalize S.length = k at hk hs ne
  refine ⟨szr rfl, szr rfl, ?_⟩
  refine comp_one rfl (onS (ins_cell hs) ⟨rfl, onS (a := F_Shell_execute_2) rfl (exec_riders v58_ok hs hk ?_)⟩)
  refine comp_one rfl (onS (ins_cell hs) ⟨rfl, onS (a := F_Shell_execute_2) rfl (exec_finish v58_ok hs hk ?_)⟩)
  refine comp_one rfl (onS (ins_cell hs) ⟨rfl, onS (a := F_Shell_execute_2) rfl (exec_of hs (fun Q E => command2 (line := "take 1 11") (x := "take") (m := 1) (n := 11) (by decide +kernel) (by decide +kernel) (by decide) (by decide)) ⟨_, rfl⟩ (answer_edit v58_ok o58 hs hk (by decide) (by decide) (fun l z => nomatch z) ?_))⟩)
  have hk2 := TAt.put (t := .plain) hk ([] ++ [(Edt.take (.int ((1 : Nat) : Int)) (.int ((11 : Nat) : Int))).d]) ([] ++ [v58.d] ++ [w58.d]) false
  have hs2 : (S1.set k (tripC .plain ([] ++ [(Edt.take (.int ((1 : Nat) : Int)) (.int ((11 : Nat) : Int))).d]) ([] ++ [v58.d] ++ [w58.d]) false))[ks]? = some (shC k) := by
    rw [List.getElem?_set_ne ne]
    exact hs
  generalize S1.set k (tripC .plain ([] ++ [(Edt.take (.int ((1 : Nat) : Int)) (.int ((11 : Nat) : Int))).d]) ([] ++ [v58.d] ++ [w58.d]) false) = S2 at hk2 hs2 ⊢
  refine comp_one rfl (onS (ins_cell hs2) ⟨rfl, onS (a := F_Shell_execute_2) rfl (exec_riders w58_ok hs2 hk2 ?_)⟩)
  refine comp_one rfl (onS (ins_cell hs2) ⟨rfl, onS (a := F_Shell_execute_2) rfl (exec_finish w58_ok hs2 hk2 ?_)⟩)
  have r1 : ridT (planM v58) = "- 0,1,2 0,1,2" := by decide +kernel
  have r2 : itx v58.fin = "25" := by decide +kernel
  have r3 : ("ok " : Str) ++ itx ((([] : List D).length + 1 : Nat) : Int) = "ok 1" := by decide +kernel
  have r4 : ridT (planM w58) = "- 0 1" := by decide +kernel
  have r5 : itx w58.fin = "37" := by decide +kernel
  rw [r1, r2, r3, r4, r5]
  refine ⟨szr rfl, ?_⟩
  have sw : Shp 1 (.lst false [.str "- 0,1,2 0,1,2", .str "25", .str "ok 1", .str "- 0 1", .str "37"]) := Shp.lst fun d hd => by
    simp only [List.mem_cons, List.not_mem_nil, or_false] at hd
    rcases hd with rfl | rfl | rfl | rfl | rfl <;> exact Shp.str (fine_of (by decide +kernel))
  refine eq_same (d := .lst false [.str "- 0,1,2 0,1,2", .str "25", .str "ok 1", .str "- 0 1", .str "37"]) sw rfl ?_
  exact q _
theorem lmade3_ok {S : Sto} {Q : QD} {E : ED} {v : Vn} {b : Bool} (ok : VnOk v) (q : ∀ t : TKd, (∀ l, t.L = some l → l = 10000000) → Q (.cell S.length) (S ++ [tripC t [] [v.d] false])) : F_law_made_3 [tsV v, .bl b] S Q E := by
  have fb := fin_bd ok
  unfold F_law_made_3
  cases b with
  | true =>
    refine ⟨rfl, ret_of (dIf_yes (fun K h => h) ?_)⟩
    refine ⟨⟨by decide, by decide, by decide⟩, ?_⟩
    exact p_make (L := 10000000) ok (by decide) (by decide) (fun h => by omega) fun _ => ⟨rfl, q (.prom 10000000) fun l z => by cases z; rfl⟩
  | false =>
    refine ⟨rfl, ret_of (dIf_no (fun K h => h) ?_)⟩
    exact t_make ok ⟨rfl, q .plain fun l z => nomatch z⟩
theorem law_ok : ∀ ns : List Int, ns.length ≤ 63 → F_law_k58 [.kls (ns.map D.int)] [] (fun d _ => d = .bl true) noE := by
  intro ns _
  unfold F_law_k58
  refine ⟨rfl, deck2_ok fun S dk => ?_⟩
  refine ⟨⟨rfl, dk.bel⟩, stateT_ok dk.take2.1 (by omega) (by decide) (by decide) (by decide) (by decide) fun wk rd bs st S2 R b1 hst n1 d2 l2 => ⟨dk.l2 l2, ?_⟩⟩
  replace d2 := dk.back d2
  generalize S2 ++ List.drop 2 S = S3 at d2 ⊢
  have ok : VnOk ⟨wk, rd, bs, st⟩ := ⟨R, hst⟩
  refine draw3_ok d2 (by omega) (by decide) (by decide) fun r S4 r0 r1 d4 => eq_int ?_
  have l4 : S4.length = 2 := d4.len
  refine lmade3_ok (v := ⟨wk, rd, bs, st⟩) ok fun t ht => ?_
  rw [l4]
  have d5 := d4.snoc (tripC t [] [Vn.d ⟨wk, rd, bs, st⟩] false)
  have l5 : (S4 ++ [tripC t [] [Vn.d ⟨wk, rd, bs, st⟩] false]).length = 3 := d5.len
  generalize S4 ++ [tripC t [] [Vn.d ⟨wk, rd, bs, st⟩] false] = S5 at d5 l5 ⊢
  refine ⟨szr rfl, ?_⟩
  rw [l5]
  have d6 := d5.snoc (.lst [tsV ⟨wk, rd, bs, st⟩])
  have l6 : (S5 ++ [Cl.lst [tsV ⟨wk, rd, bs, st⟩]]).length = 4 := d6.len
  show (dSeq (dAsg (dMake "Shell" F_Shell_init (dCons (dVar 4) dNil)) (gN 6)) (dSeq (dFor (dRng1 (dCons (dBin gAdd (dC (.int 1)) (dCallW F_law_draw_3 (dCons (dVar 1) (dCons (dC (.int 6)) dNil)))) dNil)) (gN 7) turnA) mid58)) [some (.kls (ns.map D.int)), some (.cell 1), some (tsV ⟨wk, rd, bs, st⟩), some (.bl (nb false (decide (r = 0)))), some (.cell 2), some (.cell 3), none, none, none, none, none, none, none, none, none, none] (S5 ++ [Cl.lst [tsV ⟨wk, rd, bs, st⟩]]) _ noE
  generalize S5 ++ [Cl.lst [tsV ⟨wk, rd, bs, st⟩]] = S6 at d6 l6 ⊢
  refine sh_make ⟨rfl, ?_⟩
  rw [l6]
  have d7 := d6.snoc (shC 2)
  generalize S6 ++ [shC 2] = S7 at d7 ⊢
  have a : A58 S7 (0 + 200 + 1) t [] [] ⟨wk, rd, bs, st⟩ [] := ⟨d7, rfl, ok, (fun _ z => nomatch z), ht⟩
  refine draw3_ok d7 (by omega) (by decide) (by decide) fun m S8 m0 m1 d8 => ⟨⟨by omega, by omega⟩, ?_⟩
  replace a : A58 S8 202 t [] [] ⟨wk, rd, bs, st⟩ [] := ⟨d8, rfl, ok, (fun _ z => nomatch z), ht⟩
  obtain ⟨n, hn⟩ : ∃ n : Nat, 1 + m = (n : Int) := ⟨(1 + m).toNat, (Int.toNat_of_nonneg (by omega)).symm⟩
  rw [hn, Int.toNat_natCast]
  refine for_rng 0 n (fun i ρ S' => ∃ y7 y8 done us v, ρ = e58 (some (.kls (ns.map D.int))) (some (tsV ⟨wk, rd, bs, st⟩)) (some (.bl (nb false (decide (r = 0))))) y7 y8 none none none none none none none ∧ done.length ≤ i ∧ A58 S' (202 + 10 * (i : Int)) t done us v []) ⟨_, _, [], [], _, rfl, Nat.le_refl _, a.le (by omega)⟩ ?_ ?_
  · rintro i ρ S9 K hi hK ⟨y7, y8, done, us, v, rfl, hd, a9⟩
    refine turnA_ok (y7 := some (.int (0 + (i : Int)))) a9 (by omega) (by omega) fun S' done' us' v' y8' h1 a' => ?_
    exact hK _ _ ⟨_, _, done', us', v', rfl, by omega, a'.le (by omega)⟩
  · rintro ρ S9 ⟨y7, y8, done, us, v, rfl, hd, a9⟩
    refine mid58_ok a9 (by omega) fun S' y9 y10 y11 y12 => ?_
    refine tail58_ok fun S' => ?_
    exact ⟨⟨rfl, rfl⟩, rfl⟩
end Pu
namespace Pu
open PySem PySem.Spec PyProof.Rows L2
theorem all_mk {l : PySem.W.OpenLaw} {w : World} {K : PySem.W.Frag} {h : Heap} {mg : Str → Option Value} {fa : Addr} (X : K.In h) (G : h.Ns mainGlobals mg) (hfa : mg "law" = some (.ref fa))
    {C_BadStarts : Addr}
    (aC_BadStarts : PySem.W.nsIn K mainGlobals "BadStarts" = some (some (.ref C_BadStarts)))
    {C_TooManyPeople : Addr}
    (aC_TooManyPeople : PySem.W.nsIn K mainGlobals "TooManyPeople" = some (some (.ref C_TooManyPeople)))
    {C_TooLate : Addr}
    (aC_TooLate : PySem.W.nsIn K mainGlobals "TooLate" = some (some (.ref C_TooLate)))
    {C_BadRoad : Addr}
    (aC_BadRoad : PySem.W.nsIn K mainGlobals "BadRoad" = some (some (.ref C_BadRoad)))
    {C_Busy : Addr}
    (aC_Busy : PySem.W.nsIn K mainGlobals "Busy" = some (some (.ref C_Busy)))
    {C_TooManyEdits : Addr}
    (aC_TooManyEdits : PySem.W.nsIn K mainGlobals "TooManyEdits" = some (some (.ref C_TooManyEdits)))
    {C_BadStart : Addr}
    (aC_BadStart : PySem.W.nsIn K mainGlobals "BadStart" = some (some (.ref C_BadStart)))
    {C_LastPerson : Addr}
    (aC_LastPerson : PySem.W.nsIn K mainGlobals "LastPerson" = some (some (.ref C_LastPerson)))
    {C_BadCount : Addr}
    (aC_BadCount : PySem.W.nsIn K mainGlobals "BadCount" = some (some (.ref C_BadCount)))
    {C_TooMuch : Addr}
    (aC_TooMuch : PySem.W.nsIn K mainGlobals "TooMuch" = some (some (.ref C_TooMuch)))
    {C_TooFew : Addr}
    (aC_TooFew : PySem.W.nsIn K mainGlobals "TooFew" = some (some (.ref C_TooFew)))
    {C_NothingToUndo : Addr}
    (aC_NothingToUndo : PySem.W.nsIn K mainGlobals "NothingToUndo" = some (some (.ref C_NothingToUndo)))
    {C_BadEnd : Addr}
    (aC_BadEnd : PySem.W.nsIn K mainGlobals "BadEnd" = some (some (.ref C_BadEnd)))
    {C_NoPerson : Addr}
    (aC_NoPerson : PySem.W.nsIn K mainGlobals "NoPerson" = some (some (.ref C_NoPerson)))
    {C_NoStation : Addr}
    (aC_NoStation : PySem.W.nsIn K mainGlobals "NoStation" = some (some (.ref C_NoStation)))
    {C_NoVersion : Addr}
    (aC_NoVersion : PySem.W.nsIn K mainGlobals "NoVersion" = some (some (.ref C_NoVersion)))
    {C_Shell : Addr}
    (aC_Shell : PySem.W.nsIn K mainGlobals "Shell" = some (some (.ref C_Shell)))
    {C_Promise : Addr}
    (aC_Promise : PySem.W.nsIn K mainGlobals "Promise" = some (some (.ref C_Promise)))
    {C_Trip : Addr}
    (aC_Trip : PySem.W.nsIn K mainGlobals "Trip" = some (some (.ref C_Trip)))
    {C_PromisedTrip : Addr}
    (aC_PromisedTrip : PySem.W.nsIn K mainGlobals "PromisedTrip" = some (some (.ref C_PromisedTrip)))
    {f_is_number_from : Addr} {od_is_number_from an_is_number_from : Option Addr} {sl_is_number_from : Array (Option Value)} {oc_is_number_from kV_is_number_from dc_is_number_from pm_is_number_from cd_is_number_from ct_is_number_from : Value}
    (a_is_number_from : PySem.W.nsIn K mainGlobals "is_number_from" = some (some (.ref f_is_number_from)))
    (l_is_number_from : K.lookup f_is_number_from = some ⟨oc_is_number_from, od_is_number_from, .func (PySem.W.fnOf "is_number_from" "is_number_from" (defArgs s_is_number_from) (defBody s_is_number_from) (defScope s_is_number_from) .none kV_is_number_from dc_is_number_from pm_is_number_from an_is_number_from cd_is_number_from ct_is_number_from), sl_is_number_from⟩)
    (c_is_number_from : PySem.W.codeIn K cd_is_number_from "is_number_from" = true)
    (k_is_number_from : PySem.W.keepIn K (.ref f_is_number_from) = true)
    {f_is_end : Addr} {od_is_end an_is_end : Option Addr} {sl_is_end : Array (Option Value)} {oc_is_end kV_is_end dc_is_end pm_is_end cd_is_end ct_is_end : Value}
    (a_is_end : PySem.W.nsIn K mainGlobals "is_end" = some (some (.ref f_is_end)))
    (l_is_end : K.lookup f_is_end = some ⟨oc_is_end, od_is_end, .func (PySem.W.fnOf "is_end" "is_end" (defArgs s_is_end) (defBody s_is_end) (defScope s_is_end) .none kV_is_end dc_is_end pm_is_end an_is_end cd_is_end ct_is_end), sl_is_end⟩)
    (c_is_end : PySem.W.codeIn K cd_is_end "is_end" = true)
    (k_is_end : PySem.W.keepIn K (.ref f_is_end) = true)
    {f_is_starts : Addr} {od_is_starts an_is_starts : Option Addr} {sl_is_starts : Array (Option Value)} {oc_is_starts kV_is_starts dc_is_starts pm_is_starts cd_is_starts ct_is_starts : Value}
    (a_is_starts : PySem.W.nsIn K mainGlobals "is_starts" = some (some (.ref f_is_starts)))
    (l_is_starts : K.lookup f_is_starts = some ⟨oc_is_starts, od_is_starts, .func (PySem.W.fnOf "is_starts" "is_starts" (defArgs s_is_starts) (defBody s_is_starts) (defScope s_is_starts) .none kV_is_starts dc_is_starts pm_is_starts an_is_starts cd_is_starts ct_is_starts), sl_is_starts⟩)
    (c_is_starts : PySem.W.codeIn K cd_is_starts "is_starts" = true)
    (k_is_starts : PySem.W.keepIn K (.ref f_is_starts) = true)
    {f_road_error : Addr} {od_road_error an_road_error : Option Addr} {sl_road_error : Array (Option Value)} {oc_road_error kV_road_error dc_road_error pm_road_error cd_road_error ct_road_error : Value}
    (a_road_error : PySem.W.nsIn K mainGlobals "road_error" = some (some (.ref f_road_error)))
    (l_road_error : K.lookup f_road_error = some ⟨oc_road_error, od_road_error, .func (PySem.W.fnOf "road_error" "road_error" (defArgs s_road_error) (defBody s_road_error) (defScope s_road_error) .none kV_road_error dc_road_error pm_road_error an_road_error cd_road_error ct_road_error), sl_road_error⟩)
    (c_road_error : PySem.W.codeIn K cd_road_error "road_error" = true)
    (k_road_error : PySem.W.keepIn K (.ref f_road_error) = true)
    {f_counts_of : Addr} {od_counts_of an_counts_of : Option Addr} {sl_counts_of : Array (Option Value)} {oc_counts_of kV_counts_of dc_counts_of pm_counts_of cd_counts_of ct_counts_of : Value}
    (a_counts_of : PySem.W.nsIn K mainGlobals "counts_of" = some (some (.ref f_counts_of)))
    (l_counts_of : K.lookup f_counts_of = some ⟨oc_counts_of, od_counts_of, .func (PySem.W.fnOf "counts_of" "counts_of" (defArgs s_counts_of) (defBody s_counts_of) (defScope s_counts_of) .none kV_counts_of dc_counts_of pm_counts_of an_counts_of cd_counts_of ct_counts_of), sl_counts_of⟩)
    (c_counts_of : PySem.W.codeIn K cd_counts_of "counts_of" = true)
    (k_counts_of : PySem.W.keepIn K (.ref f_counts_of) = true)
    {f_room_of : Addr} {od_room_of an_room_of : Option Addr} {sl_room_of : Array (Option Value)} {oc_room_of kV_room_of dc_room_of pm_room_of cd_room_of ct_room_of : Value}
    (a_room_of : PySem.W.nsIn K mainGlobals "room_of" = some (some (.ref f_room_of)))
    (l_room_of : K.lookup f_room_of = some ⟨oc_room_of, od_room_of, .func (PySem.W.fnOf "room_of" "room_of" (defArgs s_room_of) (defBody s_room_of) (defScope s_room_of) .none kV_room_of dc_room_of pm_room_of an_room_of cd_room_of ct_room_of), sl_room_of⟩)
    (c_room_of : PySem.W.codeIn K cd_room_of "room_of" = true)
    (k_room_of : PySem.W.keepIn K (.ref f_room_of) = true)
    {f_with_further : Addr} {od_with_further an_with_further : Option Addr} {sl_with_further : Array (Option Value)} {oc_with_further kV_with_further dc_with_further pm_with_further cd_with_further ct_with_further : Value}
    (a_with_further : PySem.W.nsIn K mainGlobals "with_further" = some (some (.ref f_with_further)))
    (l_with_further : K.lookup f_with_further = some ⟨oc_with_further, od_with_further, .func (PySem.W.fnOf "with_further" "with_further" (defArgs s_with_further) (defBody s_with_further) (defScope s_with_further) .none kV_with_further dc_with_further pm_with_further an_with_further cd_with_further ct_with_further), sl_with_further⟩)
    (c_with_further : PySem.W.codeIn K cd_with_further "with_further" = true)
    (k_with_further : PySem.W.keepIn K (.ref f_with_further) = true)
    {f_is_edit : Addr} {od_is_edit an_is_edit : Option Addr} {sl_is_edit : Array (Option Value)} {oc_is_edit kV_is_edit dc_is_edit pm_is_edit cd_is_edit ct_is_edit : Value}
    (a_is_edit : PySem.W.nsIn K mainGlobals "is_edit" = some (some (.ref f_is_edit)))
    (l_is_edit : K.lookup f_is_edit = some ⟨oc_is_edit, od_is_edit, .func (PySem.W.fnOf "is_edit" "is_edit" (defArgs s_is_edit) (defBody s_is_edit) (defScope s_is_edit) .none kV_is_edit dc_is_edit pm_is_edit an_is_edit cd_is_edit ct_is_edit), sl_is_edit⟩)
    (c_is_edit : PySem.W.codeIn K cd_is_edit "is_edit" = true)
    (k_is_edit : PySem.W.keepIn K (.ref f_is_edit) = true)
    {f_changed : Addr} {od_changed an_changed : Option Addr} {sl_changed : Array (Option Value)} {oc_changed kV_changed dc_changed pm_changed cd_changed ct_changed : Value}
    (a_changed : PySem.W.nsIn K mainGlobals "changed" = some (some (.ref f_changed)))
    (l_changed : K.lookup f_changed = some ⟨oc_changed, od_changed, .func (PySem.W.fnOf "changed" "changed" (defArgs s_changed) (defBody s_changed) (defScope s_changed) .none kV_changed dc_changed pm_changed an_changed cd_changed ct_changed), sl_changed⟩)
    (c_changed : PySem.W.codeIn K cd_changed "changed" = true)
    (k_changed : PySem.W.keepIn K (.ref f_changed) = true)
    {f_with_person : Addr} {od_with_person an_with_person : Option Addr} {sl_with_person : Array (Option Value)} {oc_with_person kV_with_person dc_with_person pm_with_person cd_with_person ct_with_person : Value}
    (a_with_person : PySem.W.nsIn K mainGlobals "with_person" = some (some (.ref f_with_person)))
    (l_with_person : K.lookup f_with_person = some ⟨oc_with_person, od_with_person, .func (PySem.W.fnOf "with_person" "with_person" (defArgs s_with_person) (defBody s_with_person) (defScope s_with_person) .none kV_with_person dc_with_person pm_with_person an_with_person cd_with_person ct_with_person), sl_with_person⟩)
    (c_with_person : PySem.W.codeIn K cd_with_person "with_person" = true)
    (k_with_person : PySem.W.keepIn K (.ref f_with_person) = true)
    {f_without_person : Addr} {od_without_person an_without_person : Option Addr} {sl_without_person : Array (Option Value)} {oc_without_person kV_without_person dc_without_person pm_without_person cd_without_person ct_without_person : Value}
    (a_without_person : PySem.W.nsIn K mainGlobals "without_person" = some (some (.ref f_without_person)))
    (l_without_person : K.lookup f_without_person = some ⟨oc_without_person, od_without_person, .func (PySem.W.fnOf "without_person" "without_person" (defArgs s_without_person) (defBody s_without_person) (defScope s_without_person) .none kV_without_person dc_without_person pm_without_person an_without_person cd_without_person ct_without_person), sl_without_person⟩)
    (c_without_person : PySem.W.codeIn K cd_without_person "without_person" = true)
    (k_without_person : PySem.W.keepIn K (.ref f_without_person) = true)
    {f_with_more_bikes : Addr} {od_with_more_bikes an_with_more_bikes : Option Addr} {sl_with_more_bikes : Array (Option Value)} {oc_with_more_bikes kV_with_more_bikes dc_with_more_bikes pm_with_more_bikes cd_with_more_bikes ct_with_more_bikes : Value}
    (a_with_more_bikes : PySem.W.nsIn K mainGlobals "with_more_bikes" = some (some (.ref f_with_more_bikes)))
    (l_with_more_bikes : K.lookup f_with_more_bikes = some ⟨oc_with_more_bikes, od_with_more_bikes, .func (PySem.W.fnOf "with_more_bikes" "with_more_bikes" (defArgs s_with_more_bikes) (defBody s_with_more_bikes) (defScope s_with_more_bikes) .none kV_with_more_bikes dc_with_more_bikes pm_with_more_bikes an_with_more_bikes cd_with_more_bikes ct_with_more_bikes), sl_with_more_bikes⟩)
    (c_with_more_bikes : PySem.W.codeIn K cd_with_more_bikes "with_more_bikes" = true)
    (k_with_more_bikes : PySem.W.keepIn K (.ref f_with_more_bikes) = true)
    {f_with_fewer_bikes : Addr} {od_with_fewer_bikes an_with_fewer_bikes : Option Addr} {sl_with_fewer_bikes : Array (Option Value)} {oc_with_fewer_bikes kV_with_fewer_bikes dc_with_fewer_bikes pm_with_fewer_bikes cd_with_fewer_bikes ct_with_fewer_bikes : Value}
    (a_with_fewer_bikes : PySem.W.nsIn K mainGlobals "with_fewer_bikes" = some (some (.ref f_with_fewer_bikes)))
    (l_with_fewer_bikes : K.lookup f_with_fewer_bikes = some ⟨oc_with_fewer_bikes, od_with_fewer_bikes, .func (PySem.W.fnOf "with_fewer_bikes" "with_fewer_bikes" (defArgs s_with_fewer_bikes) (defBody s_with_fewer_bikes) (defScope s_with_fewer_bikes) .none kV_with_fewer_bikes dc_with_fewer_bikes pm_with_fewer_bikes an_with_fewer_bikes cd_with_fewer_bikes ct_with_fewer_bikes), sl_with_fewer_bikes⟩)
    (c_with_fewer_bikes : PySem.W.codeIn K cd_with_fewer_bikes "with_fewer_bikes" = true)
    (k_with_fewer_bikes : PySem.W.keepIn K (.ref f_with_fewer_bikes) = true)
    {f_check_bikes : Addr} {od_check_bikes an_check_bikes : Option Addr} {sl_check_bikes : Array (Option Value)} {oc_check_bikes kV_check_bikes dc_check_bikes pm_check_bikes cd_check_bikes ct_check_bikes : Value}
    (a_check_bikes : PySem.W.nsIn K mainGlobals "check_bikes" = some (some (.ref f_check_bikes)))
    (l_check_bikes : K.lookup f_check_bikes = some ⟨oc_check_bikes, od_check_bikes, .func (PySem.W.fnOf "check_bikes" "check_bikes" (defArgs s_check_bikes) (defBody s_check_bikes) (defScope s_check_bikes) .none kV_check_bikes dc_check_bikes pm_check_bikes an_check_bikes cd_check_bikes ct_check_bikes), sl_check_bikes⟩)
    (c_check_bikes : PySem.W.codeIn K cd_check_bikes "check_bikes" = true)
    (k_check_bikes : PySem.W.keepIn K (.ref f_check_bikes) = true)
    {f_ticks_of : Addr} {od_ticks_of an_ticks_of : Option Addr} {sl_ticks_of : Array (Option Value)} {oc_ticks_of kV_ticks_of dc_ticks_of pm_ticks_of cd_ticks_of ct_ticks_of : Value}
    (a_ticks_of : PySem.W.nsIn K mainGlobals "ticks_of" = some (some (.ref f_ticks_of)))
    (l_ticks_of : K.lookup f_ticks_of = some ⟨oc_ticks_of, od_ticks_of, .func (PySem.W.fnOf "ticks_of" "ticks_of" (defArgs s_ticks_of) (defBody s_ticks_of) (defScope s_ticks_of) .none kV_ticks_of dc_ticks_of pm_ticks_of an_ticks_of cd_ticks_of ct_ticks_of), sl_ticks_of⟩)
    (c_ticks_of : PySem.W.codeIn K cd_ticks_of "ticks_of" = true)
    (k_ticks_of : PySem.W.keepIn K (.ref f_ticks_of) = true)
    {f_bike_ticks : Addr} {od_bike_ticks an_bike_ticks : Option Addr} {sl_bike_ticks : Array (Option Value)} {oc_bike_ticks kV_bike_ticks dc_bike_ticks pm_bike_ticks cd_bike_ticks ct_bike_ticks : Value}
    (a_bike_ticks : PySem.W.nsIn K mainGlobals "bike_ticks" = some (some (.ref f_bike_ticks)))
    (l_bike_ticks : K.lookup f_bike_ticks = some ⟨oc_bike_ticks, od_bike_ticks, .func (PySem.W.fnOf "bike_ticks" "bike_ticks" (defArgs s_bike_ticks) (defBody s_bike_ticks) (defScope s_bike_ticks) .none kV_bike_ticks dc_bike_ticks pm_bike_ticks an_bike_ticks cd_bike_ticks ct_bike_ticks), sl_bike_ticks⟩)
    (c_bike_ticks : PySem.W.codeIn K cd_bike_ticks "bike_ticks" = true)
    (k_bike_ticks : PySem.W.keepIn K (.ref f_bike_ticks) = true)
    {f_leaving_ticks : Addr} {od_leaving_ticks an_leaving_ticks : Option Addr} {sl_leaving_ticks : Array (Option Value)} {oc_leaving_ticks kV_leaving_ticks dc_leaving_ticks pm_leaving_ticks cd_leaving_ticks ct_leaving_ticks : Value}
    (a_leaving_ticks : PySem.W.nsIn K mainGlobals "leaving_ticks" = some (some (.ref f_leaving_ticks)))
    (l_leaving_ticks : K.lookup f_leaving_ticks = some ⟨oc_leaving_ticks, od_leaving_ticks, .func (PySem.W.fnOf "leaving_ticks" "leaving_ticks" (defArgs s_leaving_ticks) (defBody s_leaving_ticks) (defScope s_leaving_ticks) .none kV_leaving_ticks dc_leaving_ticks pm_leaving_ticks an_leaving_ticks cd_leaving_ticks ct_leaving_ticks), sl_leaving_ticks⟩)
    (c_leaving_ticks : PySem.W.codeIn K cd_leaving_ticks "leaving_ticks" = true)
    (k_leaving_ticks : PySem.W.keepIn K (.ref f_leaving_ticks) = true)
    {f_finish_of : Addr} {od_finish_of an_finish_of : Option Addr} {sl_finish_of : Array (Option Value)} {oc_finish_of kV_finish_of dc_finish_of pm_finish_of cd_finish_of ct_finish_of : Value}
    (a_finish_of : PySem.W.nsIn K mainGlobals "finish_of" = some (some (.ref f_finish_of)))
    (l_finish_of : K.lookup f_finish_of = some ⟨oc_finish_of, od_finish_of, .func (PySem.W.fnOf "finish_of" "finish_of" (defArgs s_finish_of) (defBody s_finish_of) (defScope s_finish_of) .none kV_finish_of dc_finish_of pm_finish_of an_finish_of cd_finish_of ct_finish_of), sl_finish_of⟩)
    (c_finish_of : PySem.W.codeIn K cd_finish_of "finish_of" = true)
    (k_finish_of : PySem.W.keepIn K (.ref f_finish_of) = true)
    {f_rule_plan : Addr} {od_rule_plan an_rule_plan : Option Addr} {sl_rule_plan : Array (Option Value)} {oc_rule_plan kV_rule_plan dc_rule_plan pm_rule_plan cd_rule_plan ct_rule_plan : Value}
    (a_rule_plan : PySem.W.nsIn K mainGlobals "rule_plan" = some (some (.ref f_rule_plan)))
    (l_rule_plan : K.lookup f_rule_plan = some ⟨oc_rule_plan, od_rule_plan, .func (PySem.W.fnOf "rule_plan" "rule_plan" (defArgs s_rule_plan) (defBody s_rule_plan) (defScope s_rule_plan) .none kV_rule_plan dc_rule_plan pm_rule_plan an_rule_plan cd_rule_plan ct_rule_plan), sl_rule_plan⟩)
    (c_rule_plan : PySem.W.codeIn K cd_rule_plan "rule_plan" = true)
    (k_rule_plan : PySem.W.keepIn K (.ref f_rule_plan) = true)
    {f_greatest : Addr} {od_greatest an_greatest : Option Addr} {sl_greatest : Array (Option Value)} {oc_greatest kV_greatest dc_greatest pm_greatest cd_greatest ct_greatest : Value}
    (a_greatest : PySem.W.nsIn K mainGlobals "greatest" = some (some (.ref f_greatest)))
    (l_greatest : K.lookup f_greatest = some ⟨oc_greatest, od_greatest, .func (PySem.W.fnOf "greatest" "greatest" (defArgs s_greatest) (defBody s_greatest) (defScope s_greatest) .none kV_greatest dc_greatest pm_greatest an_greatest cd_greatest ct_greatest), sl_greatest⟩)
    (c_greatest : PySem.W.codeIn K cd_greatest "greatest" = true)
    (k_greatest : PySem.W.keepIn K (.ref f_greatest) = true)
    {f_least_finish : Addr} {od_least_finish an_least_finish : Option Addr} {sl_least_finish : Array (Option Value)} {oc_least_finish kV_least_finish dc_least_finish pm_least_finish cd_least_finish ct_least_finish : Value}
    (a_least_finish : PySem.W.nsIn K mainGlobals "least_finish" = some (some (.ref f_least_finish)))
    (l_least_finish : K.lookup f_least_finish = some ⟨oc_least_finish, od_least_finish, .func (PySem.W.fnOf "least_finish" "least_finish" (defArgs s_least_finish) (defBody s_least_finish) (defScope s_least_finish) .none kV_least_finish dc_least_finish pm_least_finish an_least_finish cd_least_finish ct_least_finish), sl_least_finish⟩)
    (c_least_finish : PySem.W.codeIn K cd_least_finish "least_finish" = true)
    (k_least_finish : PySem.W.keepIn K (.ref f_least_finish) = true)
    {f_needs_of : Addr} {od_needs_of an_needs_of : Option Addr} {sl_needs_of : Array (Option Value)} {oc_needs_of kV_needs_of dc_needs_of pm_needs_of cd_needs_of ct_needs_of : Value}
    (a_needs_of : PySem.W.nsIn K mainGlobals "needs_of" = some (some (.ref f_needs_of)))
    (l_needs_of : K.lookup f_needs_of = some ⟨oc_needs_of, od_needs_of, .func (PySem.W.fnOf "needs_of" "needs_of" (defArgs s_needs_of) (defBody s_needs_of) (defScope s_needs_of) .none kV_needs_of dc_needs_of pm_needs_of an_needs_of cd_needs_of ct_needs_of), sl_needs_of⟩)
    (c_needs_of : PySem.W.codeIn K cd_needs_of "needs_of" = true)
    (k_needs_of : PySem.W.keepIn K (.ref f_needs_of) = true)
    {f_find_certificate : Addr} {od_find_certificate an_find_certificate : Option Addr} {sl_find_certificate : Array (Option Value)} {oc_find_certificate kV_find_certificate dc_find_certificate pm_find_certificate cd_find_certificate ct_find_certificate : Value}
    (a_find_certificate : PySem.W.nsIn K mainGlobals "find_certificate" = some (some (.ref f_find_certificate)))
    (l_find_certificate : K.lookup f_find_certificate = some ⟨oc_find_certificate, od_find_certificate, .func (PySem.W.fnOf "find_certificate" "find_certificate" (defArgs s_find_certificate) (defBody s_find_certificate) (defScope s_find_certificate) .none kV_find_certificate dc_find_certificate pm_find_certificate an_find_certificate cd_find_certificate ct_find_certificate), sl_find_certificate⟩)
    (c_find_certificate : PySem.W.codeIn K cd_find_certificate "find_certificate" = true)
    (k_find_certificate : PySem.W.keepIn K (.ref f_find_certificate) = true)
    {f_excluding_people : Addr} {od_excluding_people an_excluding_people : Option Addr} {sl_excluding_people : Array (Option Value)} {oc_excluding_people kV_excluding_people dc_excluding_people pm_excluding_people cd_excluding_people ct_excluding_people : Value}
    (a_excluding_people : PySem.W.nsIn K mainGlobals "excluding_people" = some (some (.ref f_excluding_people)))
    (l_excluding_people : K.lookup f_excluding_people = some ⟨oc_excluding_people, od_excluding_people, .func (PySem.W.fnOf "excluding_people" "excluding_people" (defArgs s_excluding_people) (defBody s_excluding_people) (defScope s_excluding_people) .none kV_excluding_people dc_excluding_people pm_excluding_people an_excluding_people cd_excluding_people ct_excluding_people), sl_excluding_people⟩)
    (c_excluding_people : PySem.W.codeIn K cd_excluding_people "excluding_people" = true)
    (k_excluding_people : PySem.W.keepIn K (.ref f_excluding_people) = true)
    {f_exclude : Addr} {od_exclude an_exclude : Option Addr} {sl_exclude : Array (Option Value)} {oc_exclude kV_exclude dc_exclude pm_exclude cd_exclude ct_exclude : Value}
    (a_exclude : PySem.W.nsIn K mainGlobals "exclude" = some (some (.ref f_exclude)))
    (l_exclude : K.lookup f_exclude = some ⟨oc_exclude, od_exclude, .func (PySem.W.fnOf "exclude" "exclude" (defArgs s_exclude) (defBody s_exclude) (defScope s_exclude) .none kV_exclude dc_exclude pm_exclude an_exclude cd_exclude ct_exclude), sl_exclude⟩)
    (c_exclude : PySem.W.codeIn K cd_exclude "exclude" = true)
    (k_exclude : PySem.W.keepIn K (.ref f_exclude) = true)
    {f_trip_text : Addr} {od_trip_text an_trip_text : Option Addr} {sl_trip_text : Array (Option Value)} {oc_trip_text kV_trip_text dc_trip_text pm_trip_text cd_trip_text ct_trip_text : Value}
    (a_trip_text : PySem.W.nsIn K mainGlobals "trip_text" = some (some (.ref f_trip_text)))
    (l_trip_text : K.lookup f_trip_text = some ⟨oc_trip_text, od_trip_text, .func (PySem.W.fnOf "trip_text" "trip_text" (defArgs s_trip_text) (defBody s_trip_text) (defScope s_trip_text) .none kV_trip_text dc_trip_text pm_trip_text an_trip_text cd_trip_text ct_trip_text), sl_trip_text⟩)
    (c_trip_text : PySem.W.codeIn K cd_trip_text "trip_text" = true)
    (k_trip_text : PySem.W.keepIn K (.ref f_trip_text) = true)
    {f_listed : Addr} {od_listed an_listed : Option Addr} {sl_listed : Array (Option Value)} {oc_listed kV_listed dc_listed pm_listed cd_listed ct_listed : Value}
    (a_listed : PySem.W.nsIn K mainGlobals "listed" = some (some (.ref f_listed)))
    (l_listed : K.lookup f_listed = some ⟨oc_listed, od_listed, .func (PySem.W.fnOf "listed" "listed" (defArgs s_listed) (defBody s_listed) (defScope s_listed) .none kV_listed dc_listed pm_listed an_listed cd_listed ct_listed), sl_listed⟩)
    (c_listed : PySem.W.codeIn K cd_listed "listed" = true)
    (k_listed : PySem.W.keepIn K (.ref f_listed) = true)
    {f_number_in : Addr} {od_number_in an_number_in : Option Addr} {sl_number_in : Array (Option Value)} {oc_number_in kV_number_in dc_number_in pm_number_in cd_number_in ct_number_in : Value}
    (a_number_in : PySem.W.nsIn K mainGlobals "number_in" = some (some (.ref f_number_in)))
    (l_number_in : K.lookup f_number_in = some ⟨oc_number_in, od_number_in, .func (PySem.W.fnOf "number_in" "number_in" (defArgs s_number_in) (defBody s_number_in) (defScope s_number_in) .none kV_number_in dc_number_in pm_number_in an_number_in cd_number_in ct_number_in), sl_number_in⟩)
    (c_number_in : PySem.W.codeIn K cd_number_in "number_in" = true)
    (k_number_in : PySem.W.keepIn K (.ref f_number_in) = true)
    {f_command_in : Addr} {od_command_in an_command_in : Option Addr} {sl_command_in : Array (Option Value)} {oc_command_in kV_command_in dc_command_in pm_command_in cd_command_in ct_command_in : Value}
    (a_command_in : PySem.W.nsIn K mainGlobals "command_in" = some (some (.ref f_command_in)))
    (l_command_in : K.lookup f_command_in = some ⟨oc_command_in, od_command_in, .func (PySem.W.fnOf "command_in" "command_in" (defArgs s_command_in) (defBody s_command_in) (defScope s_command_in) .none kV_command_in dc_command_in pm_command_in an_command_in cd_command_in ct_command_in), sl_command_in⟩)
    (c_command_in : PySem.W.codeIn K cd_command_in "command_in" = true)
    (k_command_in : PySem.W.keepIn K (.ref f_command_in) = true)
    {f_riders_text : Addr} {od_riders_text an_riders_text : Option Addr} {sl_riders_text : Array (Option Value)} {oc_riders_text kV_riders_text dc_riders_text pm_riders_text cd_riders_text ct_riders_text : Value}
    (a_riders_text : PySem.W.nsIn K mainGlobals "riders_text" = some (some (.ref f_riders_text)))
    (l_riders_text : K.lookup f_riders_text = some ⟨oc_riders_text, od_riders_text, .func (PySem.W.fnOf "riders_text" "riders_text" (defArgs s_riders_text) (defBody s_riders_text) (defScope s_riders_text) .none kV_riders_text dc_riders_text pm_riders_text an_riders_text cd_riders_text ct_riders_text), sl_riders_text⟩)
    (c_riders_text : PySem.W.codeIn K cd_riders_text "riders_text" = true)
    (k_riders_text : PySem.W.keepIn K (.ref f_riders_text) = true)
    {f__law_deck : Addr} {od__law_deck an__law_deck : Option Addr} {sl__law_deck : Array (Option Value)} {oc__law_deck kV__law_deck dc__law_deck pm__law_deck cd__law_deck ct__law_deck : Value}
    (a__law_deck : PySem.W.nsIn K mainGlobals "_law_deck" = some (some (.ref f__law_deck)))
    (l__law_deck : K.lookup f__law_deck = some ⟨oc__law_deck, od__law_deck, .func (PySem.W.fnOf "_law_deck" "_law_deck" (defArgs s__law_deck) (defBody s__law_deck) (defScope s__law_deck) .none kV__law_deck dc__law_deck pm__law_deck an__law_deck cd__law_deck ct__law_deck), sl__law_deck⟩)
    (c__law_deck : PySem.W.codeIn K cd__law_deck "_law_deck" = true)
    (k__law_deck : PySem.W.keepIn K (.ref f__law_deck) = true)
    {f__law_draw : Addr} {od__law_draw an__law_draw : Option Addr} {sl__law_draw : Array (Option Value)} {oc__law_draw kV__law_draw dc__law_draw pm__law_draw cd__law_draw ct__law_draw : Value}
    (a__law_draw : PySem.W.nsIn K mainGlobals "_law_draw" = some (some (.ref f__law_draw)))
    (l__law_draw : K.lookup f__law_draw = some ⟨oc__law_draw, od__law_draw, .func (PySem.W.fnOf "_law_draw" "_law_draw" (defArgs s__law_draw) (defBody s__law_draw) (defScope s__law_draw) .none kV__law_draw dc__law_draw pm__law_draw an__law_draw cd__law_draw ct__law_draw), sl__law_draw⟩)
    (c__law_draw : PySem.W.codeIn K cd__law_draw "_law_draw" = true)
    (k__law_draw : PySem.W.keepIn K (.ref f__law_draw) = true)
    {f__law_state : Addr} {od__law_state an__law_state : Option Addr} {sl__law_state : Array (Option Value)} {oc__law_state kV__law_state dc__law_state pm__law_state cd__law_state ct__law_state : Value}
    (a__law_state : PySem.W.nsIn K mainGlobals "_law_state" = some (some (.ref f__law_state)))
    (l__law_state : K.lookup f__law_state = some ⟨oc__law_state, od__law_state, .func (PySem.W.fnOf "_law_state" "_law_state" (defArgs s__law_state) (defBody s__law_state) (defScope s__law_state) .none kV__law_state dc__law_state pm__law_state an__law_state cd__law_state ct__law_state), sl__law_state⟩)
    (c__law_state : PySem.W.codeIn K cd__law_state "_law_state" = true)
    (k__law_state : PySem.W.keepIn K (.ref f__law_state) = true)
    {f__law_numbers_text : Addr} {od__law_numbers_text an__law_numbers_text : Option Addr} {sl__law_numbers_text : Array (Option Value)} {oc__law_numbers_text kV__law_numbers_text dc__law_numbers_text pm__law_numbers_text cd__law_numbers_text ct__law_numbers_text : Value}
    (a__law_numbers_text : PySem.W.nsIn K mainGlobals "_law_numbers_text" = some (some (.ref f__law_numbers_text)))
    (l__law_numbers_text : K.lookup f__law_numbers_text = some ⟨oc__law_numbers_text, od__law_numbers_text, .func (PySem.W.fnOf "_law_numbers_text" "_law_numbers_text" (defArgs s__law_numbers_text) (defBody s__law_numbers_text) (defScope s__law_numbers_text) .none kV__law_numbers_text dc__law_numbers_text pm__law_numbers_text an__law_numbers_text cd__law_numbers_text ct__law_numbers_text), sl__law_numbers_text⟩)
    (c__law_numbers_text : PySem.W.codeIn K cd__law_numbers_text "_law_numbers_text" = true)
    (k__law_numbers_text : PySem.W.keepIn K (.ref f__law_numbers_text) = true)
    {f__law_trip_text : Addr} {od__law_trip_text an__law_trip_text : Option Addr} {sl__law_trip_text : Array (Option Value)} {oc__law_trip_text kV__law_trip_text dc__law_trip_text pm__law_trip_text cd__law_trip_text ct__law_trip_text : Value}
    (a__law_trip_text : PySem.W.nsIn K mainGlobals "_law_trip_text" = some (some (.ref f__law_trip_text)))
    (l__law_trip_text : K.lookup f__law_trip_text = some ⟨oc__law_trip_text, od__law_trip_text, .func (PySem.W.fnOf "_law_trip_text" "_law_trip_text" (defArgs s__law_trip_text) (defBody s__law_trip_text) (defScope s__law_trip_text) .none kV__law_trip_text dc__law_trip_text pm__law_trip_text an__law_trip_text cd__law_trip_text ct__law_trip_text), sl__law_trip_text⟩)
    (c__law_trip_text : PySem.W.codeIn K cd__law_trip_text "_law_trip_text" = true)
    (k__law_trip_text : PySem.W.keepIn K (.ref f__law_trip_text) = true)
    {f__law_rule : Addr} {od__law_rule an__law_rule : Option Addr} {sl__law_rule : Array (Option Value)} {oc__law_rule kV__law_rule dc__law_rule pm__law_rule cd__law_rule ct__law_rule : Value}
    (a__law_rule : PySem.W.nsIn K mainGlobals "_law_rule" = some (some (.ref f__law_rule)))
    (l__law_rule : K.lookup f__law_rule = some ⟨oc__law_rule, od__law_rule, .func (PySem.W.fnOf "_law_rule" "_law_rule" (defArgs s__law_rule) (defBody s__law_rule) (defScope s__law_rule) .none kV__law_rule dc__law_rule pm__law_rule an__law_rule cd__law_rule ct__law_rule), sl__law_rule⟩)
    (c__law_rule : PySem.W.codeIn K cd__law_rule "_law_rule" = true)
    (k__law_rule : PySem.W.keepIn K (.ref f__law_rule) = true)
    {f__law_edit : Addr} {od__law_edit an__law_edit : Option Addr} {sl__law_edit : Array (Option Value)} {oc__law_edit kV__law_edit dc__law_edit pm__law_edit cd__law_edit ct__law_edit : Value}
    (a__law_edit : PySem.W.nsIn K mainGlobals "_law_edit" = some (some (.ref f__law_edit)))
    (l__law_edit : K.lookup f__law_edit = some ⟨oc__law_edit, od__law_edit, .func (PySem.W.fnOf "_law_edit" "_law_edit" (defArgs s__law_edit) (defBody s__law_edit) (defScope s__law_edit) .none kV__law_edit dc__law_edit pm__law_edit an__law_edit cd__law_edit ct__law_edit), sl__law_edit⟩)
    (c__law_edit : PySem.W.codeIn K cd__law_edit "_law_edit" = true)
    (k__law_edit : PySem.W.keepIn K (.ref f__law_edit) = true)
    {f__law_after : Addr} {od__law_after an__law_after : Option Addr} {sl__law_after : Array (Option Value)} {oc__law_after kV__law_after dc__law_after pm__law_after cd__law_after ct__law_after : Value}
    (a__law_after : PySem.W.nsIn K mainGlobals "_law_after" = some (some (.ref f__law_after)))
    (l__law_after : K.lookup f__law_after = some ⟨oc__law_after, od__law_after, .func (PySem.W.fnOf "_law_after" "_law_after" (defArgs s__law_after) (defBody s__law_after) (defScope s__law_after) .none kV__law_after dc__law_after pm__law_after an__law_after cd__law_after ct__law_after), sl__law_after⟩)
    (c__law_after : PySem.W.codeIn K cd__law_after "_law_after" = true)
    (k__law_after : PySem.W.keepIn K (.ref f__law_after) = true)
    {f__law_do : Addr} {od__law_do an__law_do : Option Addr} {sl__law_do : Array (Option Value)} {oc__law_do kV__law_do dc__law_do pm__law_do cd__law_do ct__law_do : Value}
    (a__law_do : PySem.W.nsIn K mainGlobals "_law_do" = some (some (.ref f__law_do)))
    (l__law_do : K.lookup f__law_do = some ⟨oc__law_do, od__law_do, .func (PySem.W.fnOf "_law_do" "_law_do" (defArgs s__law_do) (defBody s__law_do) (defScope s__law_do) .none kV__law_do dc__law_do pm__law_do an__law_do cd__law_do ct__law_do), sl__law_do⟩)
    (c__law_do : PySem.W.codeIn K cd__law_do "_law_do" = true)
    (k__law_do : PySem.W.keepIn K (.ref f__law_do) = true)
    {f__law_answers : Addr} {od__law_answers an__law_answers : Option Addr} {sl__law_answers : Array (Option Value)} {oc__law_answers kV__law_answers dc__law_answers pm__law_answers cd__law_answers ct__law_answers : Value}
    (a__law_answers : PySem.W.nsIn K mainGlobals "_law_answers" = some (some (.ref f__law_answers)))
    (l__law_answers : K.lookup f__law_answers = some ⟨oc__law_answers, od__law_answers, .func (PySem.W.fnOf "_law_answers" "_law_answers" (defArgs s__law_answers) (defBody s__law_answers) (defScope s__law_answers) .none kV__law_answers dc__law_answers pm__law_answers an__law_answers cd__law_answers ct__law_answers), sl__law_answers⟩)
    (c__law_answers : PySem.W.codeIn K cd__law_answers "_law_answers" = true)
    (k__law_answers : PySem.W.keepIn K (.ref f__law_answers) = true)
    {f__law_heard : Addr} {od__law_heard an__law_heard : Option Addr} {sl__law_heard : Array (Option Value)} {oc__law_heard kV__law_heard dc__law_heard pm__law_heard cd__law_heard ct__law_heard : Value}
    (a__law_heard : PySem.W.nsIn K mainGlobals "_law_heard" = some (some (.ref f__law_heard)))
    (l__law_heard : K.lookup f__law_heard = some ⟨oc__law_heard, od__law_heard, .func (PySem.W.fnOf "_law_heard" "_law_heard" (defArgs s__law_heard) (defBody s__law_heard) (defScope s__law_heard) .none kV__law_heard dc__law_heard pm__law_heard an__law_heard cd__law_heard ct__law_heard), sl__law_heard⟩)
    (c__law_heard : PySem.W.codeIn K cd__law_heard "_law_heard" = true)
    (k__law_heard : PySem.W.keepIn K (.ref f__law_heard) = true)
    {f__law_made : Addr} {od__law_made an__law_made : Option Addr} {sl__law_made : Array (Option Value)} {oc__law_made kV__law_made dc__law_made pm__law_made cd__law_made ct__law_made : Value}
    (a__law_made : PySem.W.nsIn K mainGlobals "_law_made" = some (some (.ref f__law_made)))
    (l__law_made : K.lookup f__law_made = some ⟨oc__law_made, od__law_made, .func (PySem.W.fnOf "_law_made" "_law_made" (defArgs s__law_made) (defBody s__law_made) (defScope s__law_made) .none kV__law_made dc__law_made pm__law_made an__law_made cd__law_made ct__law_made), sl__law_made⟩)
    (c__law_made : PySem.W.codeIn K cd__law_made "_law_made" = true)
    (k__law_made : PySem.W.keepIn K (.ref f__law_made) = true)
    {f_Shell___init__ : Addr} {od_Shell___init__ an_Shell___init__ : Option Addr} {sl_Shell___init__ : Array (Option Value)} {oc_Shell___init__ kV_Shell___init__ dc_Shell___init__ pm_Shell___init__ cd_Shell___init__ ct_Shell___init__ : Value}
    (w_Shell___init__ : PySem.W.findIn K (.ref C_Shell) "__init__" = some (some (.ref f_Shell___init__)))
    (l_Shell___init__ : K.lookup f_Shell___init__ = some ⟨oc_Shell___init__, od_Shell___init__, .func (PySem.W.fnOf "__init__" "Shell.__init__" (defArgs s_Shell___init__) (defBody s_Shell___init__) (defScope s_Shell___init__) .none kV_Shell___init__ dc_Shell___init__ pm_Shell___init__ an_Shell___init__ cd_Shell___init__ ct_Shell___init__), sl_Shell___init__⟩)
    (c_Shell___init__ : PySem.W.codeIn K cd_Shell___init__ "Shell.__init__" = true)
    (k_Shell___init__ : PySem.W.keepIn K (.ref f_Shell___init__) = true)
    {f_Shell_execute : Addr} {od_Shell_execute an_Shell_execute : Option Addr} {sl_Shell_execute : Array (Option Value)} {oc_Shell_execute kV_Shell_execute dc_Shell_execute pm_Shell_execute cd_Shell_execute ct_Shell_execute : Value}
    (w_Shell_execute : PySem.W.findIn K (.ref C_Shell) "execute" = some (some (.ref f_Shell_execute)))
    (l_Shell_execute : K.lookup f_Shell_execute = some ⟨oc_Shell_execute, od_Shell_execute, .func (PySem.W.fnOf "execute" "Shell.execute" (defArgs s_Shell_execute) (defBody s_Shell_execute) (defScope s_Shell_execute) .none kV_Shell_execute dc_Shell_execute pm_Shell_execute an_Shell_execute cd_Shell_execute ct_Shell_execute), sl_Shell_execute⟩)
    (c_Shell_execute : PySem.W.codeIn K cd_Shell_execute "Shell.execute" = true)
    (k_Shell_execute : PySem.W.keepIn K (.ref f_Shell_execute) = true)
    {f_Shell_answer : Addr} {od_Shell_answer an_Shell_answer : Option Addr} {sl_Shell_answer : Array (Option Value)} {oc_Shell_answer kV_Shell_answer dc_Shell_answer pm_Shell_answer cd_Shell_answer ct_Shell_answer : Value}
    (w_Shell_answer : PySem.W.findIn K (.ref C_Shell) "answer" = some (some (.ref f_Shell_answer)))
    (l_Shell_answer : K.lookup f_Shell_answer = some ⟨oc_Shell_answer, od_Shell_answer, .func (PySem.W.fnOf "answer" "Shell.answer" (defArgs s_Shell_answer) (defBody s_Shell_answer) (defScope s_Shell_answer) .none kV_Shell_answer dc_Shell_answer pm_Shell_answer an_Shell_answer cd_Shell_answer ct_Shell_answer), sl_Shell_answer⟩)
    (c_Shell_answer : PySem.W.codeIn K cd_Shell_answer "Shell.answer" = true)
    (k_Shell_answer : PySem.W.keepIn K (.ref f_Shell_answer) = true)
    {f_Promise___init__ : Addr} {od_Promise___init__ an_Promise___init__ : Option Addr} {sl_Promise___init__ : Array (Option Value)} {oc_Promise___init__ kV_Promise___init__ dc_Promise___init__ pm_Promise___init__ cd_Promise___init__ ct_Promise___init__ : Value}
    (w_Promise___init__ : PySem.W.findIn K (.ref C_Promise) "__init__" = some (some (.ref f_Promise___init__)))
    (l_Promise___init__ : K.lookup f_Promise___init__ = some ⟨oc_Promise___init__, od_Promise___init__, .func (PySem.W.fnOf "__init__" "Promise.__init__" (defArgs s_Promise___init__) (defBody s_Promise___init__) (defScope s_Promise___init__) .none kV_Promise___init__ dc_Promise___init__ pm_Promise___init__ an_Promise___init__ cd_Promise___init__ ct_Promise___init__), sl_Promise___init__⟩)
    (c_Promise___init__ : PySem.W.codeIn K cd_Promise___init__ "Promise.__init__" = true)
    (k_Promise___init__ : PySem.W.keepIn K (.ref f_Promise___init__) = true)
    {f_Promise_latest : Addr} {od_Promise_latest an_Promise_latest : Option Addr} {sl_Promise_latest : Array (Option Value)} {oc_Promise_latest kV_Promise_latest dc_Promise_latest pm_Promise_latest cd_Promise_latest ct_Promise_latest : Value}
    {p_Promise_latest : Addr} {r_Promise_latest : List Value}
    (w_Promise_latest : PySem.W.findIn K (.ref C_PromisedTrip) "latest" = some (some (.ref p_Promise_latest)))
    (rc_Promise_latest : PySem.W.recIn K p_Promise_latest "property" = some (.ref f_Promise_latest :: r_Promise_latest))
    (l_Promise_latest : K.lookup f_Promise_latest = some ⟨oc_Promise_latest, od_Promise_latest, .func (PySem.W.fnOf "latest" "Promise.latest" (defArgs s_Promise_latest) (defBody s_Promise_latest) (defScope s_Promise_latest) .none kV_Promise_latest dc_Promise_latest pm_Promise_latest an_Promise_latest cd_Promise_latest ct_Promise_latest), sl_Promise_latest⟩)
    (c_Promise_latest : PySem.W.codeIn K cd_Promise_latest "Promise.latest" = true)
    (k_Promise_latest : PySem.W.keepIn K (.ref f_Promise_latest) = true)
    {f_Trip___init__ : Addr} {od_Trip___init__ an_Trip___init__ : Option Addr} {sl_Trip___init__ : Array (Option Value)} {oc_Trip___init__ kV_Trip___init__ dc_Trip___init__ pm_Trip___init__ cd_Trip___init__ ct_Trip___init__ : Value}
    (w_Trip___init__ : PySem.W.findIn K (.ref C_Trip) "__init__" = some (some (.ref f_Trip___init__)))
    (l_Trip___init__ : K.lookup f_Trip___init__ = some ⟨oc_Trip___init__, od_Trip___init__, .func (PySem.W.fnOf "__init__" "Trip.__init__" (defArgs s_Trip___init__) (defBody s_Trip___init__) (defScope s_Trip___init__) .none kV_Trip___init__ dc_Trip___init__ pm_Trip___init__ an_Trip___init__ cd_Trip___init__ ct_Trip___init__), sl_Trip___init__⟩)
    (c_Trip___init__ : PySem.W.codeIn K cd_Trip___init__ "Trip.__init__" = true)
    (k_Trip___init__ : PySem.W.keepIn K (.ref f_Trip___init__) = true)
    {f_Trip_road : Addr} {od_Trip_road an_Trip_road : Option Addr} {sl_Trip_road : Array (Option Value)} {oc_Trip_road kV_Trip_road dc_Trip_road pm_Trip_road cd_Trip_road ct_Trip_road : Value}
    {p_Trip_road : Addr} {r_Trip_road : List Value}
    (w_Trip_road : PySem.W.findIn K (.ref C_PromisedTrip) "road" = some (some (.ref p_Trip_road)))
    (rc_Trip_road : PySem.W.recIn K p_Trip_road "property" = some (.ref f_Trip_road :: r_Trip_road))
    (l_Trip_road : K.lookup f_Trip_road = some ⟨oc_Trip_road, od_Trip_road, .func (PySem.W.fnOf "road" "Trip.road" (defArgs s_Trip_road) (defBody s_Trip_road) (defScope s_Trip_road) .none kV_Trip_road dc_Trip_road pm_Trip_road an_Trip_road cd_Trip_road ct_Trip_road), sl_Trip_road⟩)
    (c_Trip_road : PySem.W.codeIn K cd_Trip_road "Trip.road" = true)
    (k_Trip_road : PySem.W.keepIn K (.ref f_Trip_road) = true)
    {f_Trip_starts : Addr} {od_Trip_starts an_Trip_starts : Option Addr} {sl_Trip_starts : Array (Option Value)} {oc_Trip_starts kV_Trip_starts dc_Trip_starts pm_Trip_starts cd_Trip_starts ct_Trip_starts : Value}
    {p_Trip_starts : Addr} {r_Trip_starts : List Value}
    (w_Trip_starts : PySem.W.findIn K (.ref C_PromisedTrip) "starts" = some (some (.ref p_Trip_starts)))
    (rc_Trip_starts : PySem.W.recIn K p_Trip_starts "property" = some (.ref f_Trip_starts :: r_Trip_starts))
    (l_Trip_starts : K.lookup f_Trip_starts = some ⟨oc_Trip_starts, od_Trip_starts, .func (PySem.W.fnOf "starts" "Trip.starts" (defArgs s_Trip_starts) (defBody s_Trip_starts) (defScope s_Trip_starts) .none kV_Trip_starts dc_Trip_starts pm_Trip_starts an_Trip_starts cd_Trip_starts ct_Trip_starts), sl_Trip_starts⟩)
    (c_Trip_starts : PySem.W.codeIn K cd_Trip_starts "Trip.starts" = true)
    (k_Trip_starts : PySem.W.keepIn K (.ref f_Trip_starts) = true)
    {f_Trip_finish : Addr} {od_Trip_finish an_Trip_finish : Option Addr} {sl_Trip_finish : Array (Option Value)} {oc_Trip_finish kV_Trip_finish dc_Trip_finish pm_Trip_finish cd_Trip_finish ct_Trip_finish : Value}
    {p_Trip_finish : Addr} {r_Trip_finish : List Value}
    (w_Trip_finish : PySem.W.findIn K (.ref C_PromisedTrip) "finish" = some (some (.ref p_Trip_finish)))
    (rc_Trip_finish : PySem.W.recIn K p_Trip_finish "property" = some (.ref f_Trip_finish :: r_Trip_finish))
    (l_Trip_finish : K.lookup f_Trip_finish = some ⟨oc_Trip_finish, od_Trip_finish, .func (PySem.W.fnOf "finish" "Trip.finish" (defArgs s_Trip_finish) (defBody s_Trip_finish) (defScope s_Trip_finish) .none kV_Trip_finish dc_Trip_finish pm_Trip_finish an_Trip_finish cd_Trip_finish ct_Trip_finish), sl_Trip_finish⟩)
    (c_Trip_finish : PySem.W.codeIn K cd_Trip_finish "Trip.finish" = true)
    (k_Trip_finish : PySem.W.keepIn K (.ref f_Trip_finish) = true)
    {f_Trip_come : Addr} {od_Trip_come an_Trip_come : Option Addr} {sl_Trip_come : Array (Option Value)} {oc_Trip_come kV_Trip_come dc_Trip_come pm_Trip_come cd_Trip_come ct_Trip_come : Value}
    (w_Trip_come : PySem.W.findIn K (.ref C_Trip) "come" = some (some (.ref f_Trip_come)))
    (l_Trip_come : K.lookup f_Trip_come = some ⟨oc_Trip_come, od_Trip_come, .func (PySem.W.fnOf "come" "Trip.come" (defArgs s_Trip_come) (defBody s_Trip_come) (defScope s_Trip_come) .none kV_Trip_come dc_Trip_come pm_Trip_come an_Trip_come cd_Trip_come ct_Trip_come), sl_Trip_come⟩)
    (c_Trip_come : PySem.W.codeIn K cd_Trip_come "Trip.come" = true)
    (k_Trip_come : PySem.W.keepIn K (.ref f_Trip_come) = true)
    {f_Trip_leave : Addr} {od_Trip_leave an_Trip_leave : Option Addr} {sl_Trip_leave : Array (Option Value)} {oc_Trip_leave kV_Trip_leave dc_Trip_leave pm_Trip_leave cd_Trip_leave ct_Trip_leave : Value}
    (w_Trip_leave : PySem.W.findIn K (.ref C_Trip) "leave" = some (some (.ref f_Trip_leave)))
    (l_Trip_leave : K.lookup f_Trip_leave = some ⟨oc_Trip_leave, od_Trip_leave, .func (PySem.W.fnOf "leave" "Trip.leave" (defArgs s_Trip_leave) (defBody s_Trip_leave) (defScope s_Trip_leave) .none kV_Trip_leave dc_Trip_leave pm_Trip_leave an_Trip_leave cd_Trip_leave ct_Trip_leave), sl_Trip_leave⟩)
    (c_Trip_leave : PySem.W.codeIn K cd_Trip_leave "Trip.leave" = true)
    (k_Trip_leave : PySem.W.keepIn K (.ref f_Trip_leave) = true)
    {f_Trip_place : Addr} {od_Trip_place an_Trip_place : Option Addr} {sl_Trip_place : Array (Option Value)} {oc_Trip_place kV_Trip_place dc_Trip_place pm_Trip_place cd_Trip_place ct_Trip_place : Value}
    (w_Trip_place : PySem.W.findIn K (.ref C_Trip) "place" = some (some (.ref f_Trip_place)))
    (l_Trip_place : K.lookup f_Trip_place = some ⟨oc_Trip_place, od_Trip_place, .func (PySem.W.fnOf "place" "Trip.place" (defArgs s_Trip_place) (defBody s_Trip_place) (defScope s_Trip_place) .none kV_Trip_place dc_Trip_place pm_Trip_place an_Trip_place cd_Trip_place ct_Trip_place), sl_Trip_place⟩)
    (c_Trip_place : PySem.W.codeIn K cd_Trip_place "Trip.place" = true)
    (k_Trip_place : PySem.W.keepIn K (.ref f_Trip_place) = true)
    {f_Trip_take : Addr} {od_Trip_take an_Trip_take : Option Addr} {sl_Trip_take : Array (Option Value)} {oc_Trip_take kV_Trip_take dc_Trip_take pm_Trip_take cd_Trip_take ct_Trip_take : Value}
    (w_Trip_take : PySem.W.findIn K (.ref C_Trip) "take" = some (some (.ref f_Trip_take)))
    (l_Trip_take : K.lookup f_Trip_take = some ⟨oc_Trip_take, od_Trip_take, .func (PySem.W.fnOf "take" "Trip.take" (defArgs s_Trip_take) (defBody s_Trip_take) (defScope s_Trip_take) .none kV_Trip_take dc_Trip_take pm_Trip_take an_Trip_take cd_Trip_take ct_Trip_take), sl_Trip_take⟩)
    (c_Trip_take : PySem.W.codeIn K cd_Trip_take "Trip.take" = true)
    (k_Trip_take : PySem.W.keepIn K (.ref f_Trip_take) = true)
    {f_Trip_do_edit : Addr} {od_Trip_do_edit an_Trip_do_edit : Option Addr} {sl_Trip_do_edit : Array (Option Value)} {oc_Trip_do_edit kV_Trip_do_edit dc_Trip_do_edit pm_Trip_do_edit cd_Trip_do_edit ct_Trip_do_edit : Value}
    (w_Trip_do_edit : PySem.W.findIn K (.ref C_PromisedTrip) "do_edit" = some (some (.ref f_Trip_do_edit)))
    (l_Trip_do_edit : K.lookup f_Trip_do_edit = some ⟨oc_Trip_do_edit, od_Trip_do_edit, .func (PySem.W.fnOf "do_edit" "Trip.do_edit" (defArgs s_Trip_do_edit) (defBody s_Trip_do_edit) (defScope s_Trip_do_edit) .none kV_Trip_do_edit dc_Trip_do_edit pm_Trip_do_edit an_Trip_do_edit cd_Trip_do_edit ct_Trip_do_edit), sl_Trip_do_edit⟩)
    (c_Trip_do_edit : PySem.W.codeIn K cd_Trip_do_edit "Trip.do_edit" = true)
    (k_Trip_do_edit : PySem.W.keepIn K (.ref f_Trip_do_edit) = true)
    {f_Trip_check_not_watched : Addr} {od_Trip_check_not_watched an_Trip_check_not_watched : Option Addr} {sl_Trip_check_not_watched : Array (Option Value)} {oc_Trip_check_not_watched kV_Trip_check_not_watched dc_Trip_check_not_watched pm_Trip_check_not_watched cd_Trip_check_not_watched ct_Trip_check_not_watched : Value}
    (w_Trip_check_not_watched : PySem.W.findIn K (.ref C_PromisedTrip) "check_not_watched" = some (some (.ref f_Trip_check_not_watched)))
    (l_Trip_check_not_watched : K.lookup f_Trip_check_not_watched = some ⟨oc_Trip_check_not_watched, od_Trip_check_not_watched, .func (PySem.W.fnOf "check_not_watched" "Trip.check_not_watched" (defArgs s_Trip_check_not_watched) (defBody s_Trip_check_not_watched) (defScope s_Trip_check_not_watched) .none kV_Trip_check_not_watched dc_Trip_check_not_watched pm_Trip_check_not_watched an_Trip_check_not_watched cd_Trip_check_not_watched ct_Trip_check_not_watched), sl_Trip_check_not_watched⟩)
    (c_Trip_check_not_watched : PySem.W.codeIn K cd_Trip_check_not_watched "Trip.check_not_watched" = true)
    (k_Trip_check_not_watched : PySem.W.keepIn K (.ref f_Trip_check_not_watched) = true)
    {f_Trip_undo : Addr} {od_Trip_undo an_Trip_undo : Option Addr} {sl_Trip_undo : Array (Option Value)} {oc_Trip_undo kV_Trip_undo dc_Trip_undo pm_Trip_undo cd_Trip_undo ct_Trip_undo : Value}
    (w_Trip_undo : PySem.W.findIn K (.ref C_PromisedTrip) "undo" = some (some (.ref f_Trip_undo)))
    (l_Trip_undo : K.lookup f_Trip_undo = some ⟨oc_Trip_undo, od_Trip_undo, .func (PySem.W.fnOf "undo" "Trip.undo" (defArgs s_Trip_undo) (defBody s_Trip_undo) (defScope s_Trip_undo) .none kV_Trip_undo dc_Trip_undo pm_Trip_undo an_Trip_undo cd_Trip_undo ct_Trip_undo), sl_Trip_undo⟩)
    (c_Trip_undo : PySem.W.codeIn K cd_Trip_undo "Trip.undo" = true)
    (k_Trip_undo : PySem.W.keepIn K (.ref f_Trip_undo) = true)
    {f_Trip_call_edit : Addr} {od_Trip_call_edit an_Trip_call_edit : Option Addr} {sl_Trip_call_edit : Array (Option Value)} {oc_Trip_call_edit kV_Trip_call_edit dc_Trip_call_edit pm_Trip_call_edit cd_Trip_call_edit ct_Trip_call_edit : Value}
    (w_Trip_call_edit : PySem.W.findIn K (.ref C_PromisedTrip) "call_edit" = some (some (.ref f_Trip_call_edit)))
    (l_Trip_call_edit : K.lookup f_Trip_call_edit = some ⟨oc_Trip_call_edit, od_Trip_call_edit, .func (PySem.W.fnOf "call_edit" "Trip.call_edit" (defArgs s_Trip_call_edit) (defBody s_Trip_call_edit) (defScope s_Trip_call_edit) .none kV_Trip_call_edit dc_Trip_call_edit pm_Trip_call_edit an_Trip_call_edit cd_Trip_call_edit ct_Trip_call_edit), sl_Trip_call_edit⟩)
    (c_Trip_call_edit : PySem.W.codeIn K cd_Trip_call_edit "Trip.call_edit" = true)
    (k_Trip_call_edit : PySem.W.keepIn K (.ref f_Trip_call_edit) = true)
    {f_Trip_state : Addr} {od_Trip_state an_Trip_state : Option Addr} {sl_Trip_state : Array (Option Value)} {oc_Trip_state dc_Trip_state pm_Trip_state cd_Trip_state ct_Trip_state : Value}
    (w_Trip_state : PySem.W.findIn K (.ref C_PromisedTrip) "state" = some (some (.ref f_Trip_state)))
    {kD_Trip_state : Addr}
    (l_Trip_state : K.lookup f_Trip_state = some ⟨oc_Trip_state, od_Trip_state, .func (PySem.W.fnOf "state" "Trip.state" (defArgs s_Trip_state) (defBody s_Trip_state) (defScope s_Trip_state) .none (.ref kD_Trip_state) dc_Trip_state pm_Trip_state an_Trip_state cd_Trip_state ct_Trip_state), sl_Trip_state⟩)
    (kw_Trip_state : PySem.W.nsIn K kD_Trip_state "version" = some (some .none))
    (c_Trip_state : PySem.W.codeIn K cd_Trip_state "Trip.state" = true)
    (k_Trip_state : PySem.W.keepIn K (.ref f_Trip_state) = true)
    {f_Trip_certificate : Addr} {od_Trip_certificate an_Trip_certificate : Option Addr} {sl_Trip_certificate : Array (Option Value)} {oc_Trip_certificate dc_Trip_certificate pm_Trip_certificate cd_Trip_certificate ct_Trip_certificate : Value}
    (w_Trip_certificate : PySem.W.findIn K (.ref C_PromisedTrip) "certificate" = some (some (.ref f_Trip_certificate)))
    {kD_Trip_certificate : Addr}
    (l_Trip_certificate : K.lookup f_Trip_certificate = some ⟨oc_Trip_certificate, od_Trip_certificate, .func (PySem.W.fnOf "certificate" "Trip.certificate" (defArgs s_Trip_certificate) (defBody s_Trip_certificate) (defScope s_Trip_certificate) .none (.ref kD_Trip_certificate) dc_Trip_certificate pm_Trip_certificate an_Trip_certificate cd_Trip_certificate ct_Trip_certificate), sl_Trip_certificate⟩)
    (kw_Trip_certificate : PySem.W.nsIn K kD_Trip_certificate "version" = some (some .none))
    (c_Trip_certificate : PySem.W.codeIn K cd_Trip_certificate "Trip.certificate" = true)
    (k_Trip_certificate : PySem.W.keepIn K (.ref f_Trip_certificate) = true)
    {f_Trip___len__ : Addr} {od_Trip___len__ an_Trip___len__ : Option Addr} {sl_Trip___len__ : Array (Option Value)} {oc_Trip___len__ kV_Trip___len__ dc_Trip___len__ pm_Trip___len__ cd_Trip___len__ ct_Trip___len__ : Value}
    (w_Trip___len__ : PySem.W.findIn K (.ref C_PromisedTrip) "__len__" = some (some (.ref f_Trip___len__)))
    (l_Trip___len__ : K.lookup f_Trip___len__ = some ⟨oc_Trip___len__, od_Trip___len__, .func (PySem.W.fnOf "__len__" "Trip.__len__" (defArgs s_Trip___len__) (defBody s_Trip___len__) (defScope s_Trip___len__) .none kV_Trip___len__ dc_Trip___len__ pm_Trip___len__ an_Trip___len__ cd_Trip___len__ ct_Trip___len__), sl_Trip___len__⟩)
    (c_Trip___len__ : PySem.W.codeIn K cd_Trip___len__ "Trip.__len__" = true)
    (k_Trip___len__ : PySem.W.keepIn K (.ref f_Trip___len__) = true)
    {f_PromisedTrip___init__ : Addr} {od_PromisedTrip___init__ an_PromisedTrip___init__ : Option Addr} {sl_PromisedTrip___init__ : Array (Option Value)} {oc_PromisedTrip___init__ kV_PromisedTrip___init__ dc_PromisedTrip___init__ pm_PromisedTrip___init__ cd_PromisedTrip___init__ ct_PromisedTrip___init__ : Value}
    (w_PromisedTrip___init__ : PySem.W.findIn K (.ref C_PromisedTrip) "__init__" = some (some (.ref f_PromisedTrip___init__)))
    (l_PromisedTrip___init__ : K.lookup f_PromisedTrip___init__ = some ⟨oc_PromisedTrip___init__, od_PromisedTrip___init__, .func (PySem.W.fnOf "__init__" "PromisedTrip.__init__" (defArgs s_PromisedTrip___init__) (defBody s_PromisedTrip___init__) (defScope s_PromisedTrip___init__) .none kV_PromisedTrip___init__ dc_PromisedTrip___init__ pm_PromisedTrip___init__ an_PromisedTrip___init__ cd_PromisedTrip___init__ ct_PromisedTrip___init__), sl_PromisedTrip___init__⟩)
    (c_PromisedTrip___init__ : PySem.W.codeIn K cd_PromisedTrip___init__ "PromisedTrip.__init__" = true)
    (k_PromisedTrip___init__ : PySem.W.keepIn K (.ref f_PromisedTrip___init__) = true)
    {f_PromisedTrip_come : Addr} {od_PromisedTrip_come an_PromisedTrip_come : Option Addr} {sl_PromisedTrip_come : Array (Option Value)} {oc_PromisedTrip_come kV_PromisedTrip_come dc_PromisedTrip_come pm_PromisedTrip_come cd_PromisedTrip_come ct_PromisedTrip_come : Value}
    (w_PromisedTrip_come : PySem.W.findIn K (.ref C_PromisedTrip) "come" = some (some (.ref f_PromisedTrip_come)))
    (l_PromisedTrip_come : K.lookup f_PromisedTrip_come = some ⟨oc_PromisedTrip_come, od_PromisedTrip_come, .func (PySem.W.fnOf "come" "PromisedTrip.come" (defArgs s_PromisedTrip_come) (defBody s_PromisedTrip_come) (defScope s_PromisedTrip_come) .none kV_PromisedTrip_come dc_PromisedTrip_come pm_PromisedTrip_come an_PromisedTrip_come cd_PromisedTrip_come ct_PromisedTrip_come), sl_PromisedTrip_come⟩)
    (c_PromisedTrip_come : PySem.W.codeIn K cd_PromisedTrip_come "PromisedTrip.come" = true)
    (k_PromisedTrip_come : PySem.W.keepIn K (.ref f_PromisedTrip_come) = true)
    {f_PromisedTrip_leave : Addr} {od_PromisedTrip_leave an_PromisedTrip_leave : Option Addr} {sl_PromisedTrip_leave : Array (Option Value)} {oc_PromisedTrip_leave kV_PromisedTrip_leave dc_PromisedTrip_leave pm_PromisedTrip_leave cd_PromisedTrip_leave ct_PromisedTrip_leave : Value}
    (w_PromisedTrip_leave : PySem.W.findIn K (.ref C_PromisedTrip) "leave" = some (some (.ref f_PromisedTrip_leave)))
    (l_PromisedTrip_leave : K.lookup f_PromisedTrip_leave = some ⟨oc_PromisedTrip_leave, od_PromisedTrip_leave, .func (PySem.W.fnOf "leave" "PromisedTrip.leave" (defArgs s_PromisedTrip_leave) (defBody s_PromisedTrip_leave) (defScope s_PromisedTrip_leave) .none kV_PromisedTrip_leave dc_PromisedTrip_leave pm_PromisedTrip_leave an_PromisedTrip_leave cd_PromisedTrip_leave ct_PromisedTrip_leave), sl_PromisedTrip_leave⟩)
    (c_PromisedTrip_leave : PySem.W.codeIn K cd_PromisedTrip_leave "PromisedTrip.leave" = true)
    (k_PromisedTrip_leave : PySem.W.keepIn K (.ref f_PromisedTrip_leave) = true)
    {f_PromisedTrip_place : Addr} {od_PromisedTrip_place an_PromisedTrip_place : Option Addr} {sl_PromisedTrip_place : Array (Option Value)} {oc_PromisedTrip_place kV_PromisedTrip_place dc_PromisedTrip_place pm_PromisedTrip_place cd_PromisedTrip_place ct_PromisedTrip_place : Value}
    (w_PromisedTrip_place : PySem.W.findIn K (.ref C_PromisedTrip) "place" = some (some (.ref f_PromisedTrip_place)))
    (l_PromisedTrip_place : K.lookup f_PromisedTrip_place = some ⟨oc_PromisedTrip_place, od_PromisedTrip_place, .func (PySem.W.fnOf "place" "PromisedTrip.place" (defArgs s_PromisedTrip_place) (defBody s_PromisedTrip_place) (defScope s_PromisedTrip_place) .none kV_PromisedTrip_place dc_PromisedTrip_place pm_PromisedTrip_place an_PromisedTrip_place cd_PromisedTrip_place ct_PromisedTrip_place), sl_PromisedTrip_place⟩)
    (c_PromisedTrip_place : PySem.W.codeIn K cd_PromisedTrip_place "PromisedTrip.place" = true)
    (k_PromisedTrip_place : PySem.W.keepIn K (.ref f_PromisedTrip_place) = true)
    {f_PromisedTrip_take : Addr} {od_PromisedTrip_take an_PromisedTrip_take : Option Addr} {sl_PromisedTrip_take : Array (Option Value)} {oc_PromisedTrip_take kV_PromisedTrip_take dc_PromisedTrip_take pm_PromisedTrip_take cd_PromisedTrip_take ct_PromisedTrip_take : Value}
    (w_PromisedTrip_take : PySem.W.findIn K (.ref C_PromisedTrip) "take" = some (some (.ref f_PromisedTrip_take)))
    (l_PromisedTrip_take : K.lookup f_PromisedTrip_take = some ⟨oc_PromisedTrip_take, od_PromisedTrip_take, .func (PySem.W.fnOf "take" "PromisedTrip.take" (defArgs s_PromisedTrip_take) (defBody s_PromisedTrip_take) (defScope s_PromisedTrip_take) .none kV_PromisedTrip_take dc_PromisedTrip_take pm_PromisedTrip_take an_PromisedTrip_take cd_PromisedTrip_take ct_PromisedTrip_take), sl_PromisedTrip_take⟩)
    (c_PromisedTrip_take : PySem.W.codeIn K cd_PromisedTrip_take "PromisedTrip.take" = true)
    (k_PromisedTrip_take : PySem.W.keepIn K (.ref f_PromisedTrip_take) = true)
    {f_law : Addr} {od_law an_law : Option Addr} {sl_law : Array (Option Value)} {oc_law kV_law dc_law pm_law cd_law ct_law : Value}
    (a_law : PySem.W.nsIn K mainGlobals "law" = some (some (.ref f_law)))
    (l_law : K.lookup f_law = some ⟨oc_law, od_law, .func (PySem.W.fnOf "law" "law" (defArgs s_law) (defBody s_law) (defScope s_law) .none kV_law dc_law pm_law an_law cd_law ct_law), sl_law⟩)
    (c_law : PySem.W.codeIn K cd_law "law" = true)
    (k_law : PySem.W.keepIn K (.ref f_law) = true)
    (pg_Shell : PySem.W.plainGet K C_Shell Str.empty = true)
    (hd_Shell : PySem.W.hasDictIn K C_Shell = true)
    (po_Shell : PySem.W.plainOver K C_Shell = true)
    (sa_Shell : PySem.W.findIn K (.ref C_Shell) "__setattr__" = some (some (.builtin "object.__setattr__")))
    (pg_Promise : PySem.W.plainGet K C_Promise Str.empty = true)
    (hd_Promise : PySem.W.hasDictIn K C_Promise = true)
    (po_Promise : PySem.W.plainOver K C_Promise = true)
    (sa_Promise : PySem.W.findIn K (.ref C_Promise) "__setattr__" = some (some (.builtin "object.__setattr__")))
    (pg_Trip : PySem.W.plainGet K C_Trip Str.empty = true)
    (hd_Trip : PySem.W.hasDictIn K C_Trip = true)
    (po_Trip : PySem.W.plainOver K C_Trip = true)
    (sa_Trip : PySem.W.findIn K (.ref C_Trip) "__setattr__" = some (some (.builtin "object.__setattr__")))
    (pg_PromisedTrip : PySem.W.plainGet K C_PromisedTrip Str.empty = true)
    (hd_PromisedTrip : PySem.W.hasDictIn K C_PromisedTrip = true)
    (po_PromisedTrip : PySem.W.plainOver K C_PromisedTrip = true)
    (sa_PromisedTrip : PySem.W.findIn K (.ref C_PromisedTrip) "__setattr__" = some (some (.builtin "object.__setattr__")))
    (na_Promise_promised : PySem.W.findIn K (.ref C_Promise) "promised" = some none)
    (na_PromisedTrip_done : PySem.W.findIn K (.ref C_PromisedTrip) "done" = some none)
    (na_PromisedTrip_promised : PySem.W.findIn K (.ref C_PromisedTrip) "promised" = some none)
    (na_PromisedTrip_versions : PySem.W.findIn K (.ref C_PromisedTrip) "versions" = some none)
    (na_PromisedTrip_watched : PySem.W.findIn K (.ref C_PromisedTrip) "watched" = some none)
    (na_Shell_trip : PySem.W.findIn K (.ref C_Shell) "trip" = some none)
    (na_Trip_done : PySem.W.findIn K (.ref C_Trip) "done" = some none)
    (na_Trip_versions : PySem.W.findIn K (.ref C_Trip) "versions" = some none)
    (na_Trip_watched : PySem.W.findIn K (.ref C_Trip) "watched" = some none)
    (mm_PromisedTrip : PySem.W.makesIn K C_PromisedTrip = true)
    (mi_PromisedTrip : PySem.W.findIn K (.ref C_PromisedTrip) "__init__" = some (some (.ref f_PromisedTrip___init__)))
    (mf_PromisedTrip : PySem.W.isFn K (.ref f_PromisedTrip___init__) = true)
    (mk_PromisedTrip : PySem.W.keepIn K (.ref C_PromisedTrip) = true)
    (mm_Shell : PySem.W.makesIn K C_Shell = true)
    (mi_Shell : PySem.W.findIn K (.ref C_Shell) "__init__" = some (some (.ref f_Shell___init__)))
    (mf_Shell : PySem.W.isFn K (.ref f_Shell___init__) = true)
    (mk_Shell : PySem.W.keepIn K (.ref C_Shell) = true)
    (mm_Trip : PySem.W.makesIn K C_Trip = true)
    (mi_Trip : PySem.W.findIn K (.ref C_Trip) "__init__" = some (some (.ref f_Trip___init__)))
    (mf_Trip : PySem.W.isFn K (.ref f_Trip___init__) = true)
    (mk_Trip : PySem.W.keepIn K (.ref C_Trip) = true)
    (ma_PromisedTrip_call_edit : PySem.W.findIn K (.ref C_PromisedTrip) "call_edit" = some (some (.ref f_Trip_call_edit)))
    (mn_PromisedTrip_call_edit : PySem.W.isFn K (.ref f_Trip_call_edit) = true)
    (ma_PromisedTrip_certificate : PySem.W.findIn K (.ref C_PromisedTrip) "certificate" = some (some (.ref f_Trip_certificate)))
    (mn_PromisedTrip_certificate : PySem.W.isFn K (.ref f_Trip_certificate) = true)
    (ma_PromisedTrip_check_not_watched : PySem.W.findIn K (.ref C_PromisedTrip) "check_not_watched" = some (some (.ref f_Trip_check_not_watched)))
    (mn_PromisedTrip_check_not_watched : PySem.W.isFn K (.ref f_Trip_check_not_watched) = true)
    (ma_PromisedTrip_come : PySem.W.findIn K (.ref C_PromisedTrip) "come" = some (some (.ref f_PromisedTrip_come)))
    (mn_PromisedTrip_come : PySem.W.isFn K (.ref f_PromisedTrip_come) = true)
    (ma_PromisedTrip_do_edit : PySem.W.findIn K (.ref C_PromisedTrip) "do_edit" = some (some (.ref f_Trip_do_edit)))
    (mn_PromisedTrip_do_edit : PySem.W.isFn K (.ref f_Trip_do_edit) = true)
    (ma_PromisedTrip_leave : PySem.W.findIn K (.ref C_PromisedTrip) "leave" = some (some (.ref f_PromisedTrip_leave)))
    (mn_PromisedTrip_leave : PySem.W.isFn K (.ref f_PromisedTrip_leave) = true)
    (ma_PromisedTrip_place : PySem.W.findIn K (.ref C_PromisedTrip) "place" = some (some (.ref f_PromisedTrip_place)))
    (mn_PromisedTrip_place : PySem.W.isFn K (.ref f_PromisedTrip_place) = true)
    (ma_PromisedTrip_state : PySem.W.findIn K (.ref C_PromisedTrip) "state" = some (some (.ref f_Trip_state)))
    (mn_PromisedTrip_state : PySem.W.isFn K (.ref f_Trip_state) = true)
    (ma_PromisedTrip_take : PySem.W.findIn K (.ref C_PromisedTrip) "take" = some (some (.ref f_PromisedTrip_take)))
    (mn_PromisedTrip_take : PySem.W.isFn K (.ref f_PromisedTrip_take) = true)
    (ma_PromisedTrip_undo : PySem.W.findIn K (.ref C_PromisedTrip) "undo" = some (some (.ref f_Trip_undo)))
    (mn_PromisedTrip_undo : PySem.W.isFn K (.ref f_Trip_undo) = true)
    (ma_Shell_answer : PySem.W.findIn K (.ref C_Shell) "answer" = some (some (.ref f_Shell_answer)))
    (mn_Shell_answer : PySem.W.isFn K (.ref f_Shell_answer) = true)
    (ma_Shell_execute : PySem.W.findIn K (.ref C_Shell) "execute" = some (some (.ref f_Shell_execute)))
    (mn_Shell_execute : PySem.W.isFn K (.ref f_Shell_execute) = true)
    (ma_Trip_call_edit : PySem.W.findIn K (.ref C_Trip) "call_edit" = some (some (.ref f_Trip_call_edit)))
    (mn_Trip_call_edit : PySem.W.isFn K (.ref f_Trip_call_edit) = true)
    (ma_Trip_certificate : PySem.W.findIn K (.ref C_Trip) "certificate" = some (some (.ref f_Trip_certificate)))
    (mn_Trip_certificate : PySem.W.isFn K (.ref f_Trip_certificate) = true)
    (ma_Trip_check_not_watched : PySem.W.findIn K (.ref C_Trip) "check_not_watched" = some (some (.ref f_Trip_check_not_watched)))
    (mn_Trip_check_not_watched : PySem.W.isFn K (.ref f_Trip_check_not_watched) = true)
    (ma_Trip_come : PySem.W.findIn K (.ref C_Trip) "come" = some (some (.ref f_Trip_come)))
    (mn_Trip_come : PySem.W.isFn K (.ref f_Trip_come) = true)
    (ma_Trip_do_edit : PySem.W.findIn K (.ref C_Trip) "do_edit" = some (some (.ref f_Trip_do_edit)))
    (mn_Trip_do_edit : PySem.W.isFn K (.ref f_Trip_do_edit) = true)
    (ma_Trip_leave : PySem.W.findIn K (.ref C_Trip) "leave" = some (some (.ref f_Trip_leave)))
    (mn_Trip_leave : PySem.W.isFn K (.ref f_Trip_leave) = true)
    (ma_Trip_place : PySem.W.findIn K (.ref C_Trip) "place" = some (some (.ref f_Trip_place)))
    (mn_Trip_place : PySem.W.isFn K (.ref f_Trip_place) = true)
    (ma_Trip_state : PySem.W.findIn K (.ref C_Trip) "state" = some (some (.ref f_Trip_state)))
    (mn_Trip_state : PySem.W.isFn K (.ref f_Trip_state) = true)
    (ma_Trip_take : PySem.W.findIn K (.ref C_Trip) "take" = some (some (.ref f_Trip_take)))
    (mn_Trip_take : PySem.W.isFn K (.ref f_Trip_take) = true)
    (ma_Trip_undo : PySem.W.findIn K (.ref C_Trip) "undo" = some (some (.ref f_Trip_undo)))
    (mn_Trip_undo : PySem.W.isFn K (.ref f_Trip_undo) = true)
    (pa_PromisedTrip_finish : PySem.W.findIn K (.ref C_PromisedTrip) "finish" = some (some (.ref p_Trip_finish)))
    (pa_PromisedTrip_latest : PySem.W.findIn K (.ref C_PromisedTrip) "latest" = some (some (.ref p_Promise_latest)))
    (pa_PromisedTrip_road : PySem.W.findIn K (.ref C_PromisedTrip) "road" = some (some (.ref p_Trip_road)))
    (pa_PromisedTrip_starts : PySem.W.findIn K (.ref C_PromisedTrip) "starts" = some (some (.ref p_Trip_starts)))
    (pa_Trip_finish : PySem.W.findIn K (.ref C_Trip) "finish" = some (some (.ref p_Trip_finish)))
    (pa_Trip_road : PySem.W.findIn K (.ref C_Trip) "road" = some (some (.ref p_Trip_road)))
    (pa_Trip_starts : PySem.W.findIn K (.ref C_Trip) "starts" = some (some (.ref p_Trip_starts)))
    (pg2_Promise_latest : PySem.W.specialIn K (.ref p_Promise_latest) "__get__" = some (some (.builtin "property.__get__")))
    (pt_Promise_latest : PySem.W.takesIn K (.ref p_Promise_latest) = some true)
    (pg2_Trip_finish : PySem.W.specialIn K (.ref p_Trip_finish) "__get__" = some (some (.builtin "property.__get__")))
    (pt_Trip_finish : PySem.W.takesIn K (.ref p_Trip_finish) = some true)
    (pg2_Trip_road : PySem.W.specialIn K (.ref p_Trip_road) "__get__" = some (some (.builtin "property.__get__")))
    (pt_Trip_road : PySem.W.takesIn K (.ref p_Trip_road) = some true)
    (pg2_Trip_starts : PySem.W.specialIn K (.ref p_Trip_starts) "__get__" = some (some (.builtin "property.__get__")))
    (pt_Trip_starts : PySem.W.takesIn K (.ref p_Trip_starts) = some true)
    {tk_PromisedTrip_MOST_EDITS : Tok}
    (co_PromisedTrip_MOST_EDITS : PySem.W.findIn K (.ref C_PromisedTrip) "MOST_EDITS" = some (some (.int 60 tk_PromisedTrip_MOST_EDITS)))
    (cg_PromisedTrip_MOST_EDITS : PySem.W.specialIn K (.int 60 tk_PromisedTrip_MOST_EDITS) "__get__" = some none)
    {tk_Trip_MOST_EDITS : Tok}
    (co_Trip_MOST_EDITS : PySem.W.findIn K (.ref C_Trip) "MOST_EDITS" = some (some (.int 60 tk_Trip_MOST_EDITS)))
    (cg_Trip_MOST_EDITS : PySem.W.specialIn K (.int 60 tk_Trip_MOST_EDITS) "__get__" = some none)
    (ln_PromisedTrip : PySem.W.findIn K (.ref C_PromisedTrip) "__len__" = some (some (.ref f_Trip___len__)))
    (lnf_PromisedTrip : PySem.W.isFn K (.ref f_Trip___len__) = true)
    (ln_Trip : PySem.W.findIn K (.ref C_Trip) "__len__" = some (some (.ref f_Trip___len__)))
    (lnf_Trip : PySem.W.isFn K (.ref f_Trip___len__) = true)
    (cgE : PySem.W.specialIn K (.builtin "object.__class__") "__get__" = some (some (.builtin "getset_descriptor.__get__")))
    (ctE : PySem.W.takesIn K (.builtin "object.__class__") = some true)
    (xmk_BadStart : PySem.W.excInitIn K C_BadStart [.type "ValueError", .type "Exception", .type "BaseException", .type "object"] "ValueError.__new__" = true)
    (xov_BadStart : PySem.W.excOver K C_BadStart [.type "ValueError", .type "Exception", .type "BaseException", .type "object"] = true)
    (xsa_BadStart : PySem.W.findIn K (.ref C_BadStart) "__setattr__" = some (some (.builtin "object.__setattr__")))
    (xga_BadStart : PySem.W.findIn K (.ref C_BadStart) "__getattribute__" = some (some (.builtin "BaseException.__getattribute__")))
    (xgg_BadStart : PySem.W.findIn K (.ref C_BadStart) "__getattr__" = some none)
    (xnb_BadStart : PySem.W.findIn K (.ref C_BadStart) "value" = some none)
    (xcl_BadStart : PySem.W.findIn K (.ref C_BadStart) "__class__" = some (some (.builtin "object.__class__")))
    (xco_BadStart : PySem.W.mroIn K C_BadStart (.type "object") = some true)
    (xkC_BadStart : PySem.W.keepIn K (.ref C_BadStart) = true)
    (xhd_BadStart : PySem.W.hasDictIn K C_BadStart = true)
    (xiC_BadStart : PySem.W.isClsIn K C_BadStart = true)
    (xtC_BadStart : PySem.W.typeIn K (.ref C_BadStart) = some (.type "type"))
    (xeC_BadStart : PySem.W.subIn K (.ref C_BadStart) (.type "BaseException") = some true)
    {f_iBadStart : Addr} {od_iBadStart an_iBadStart : Option Addr} {sl_iBadStart : Array (Option Value)} {oc_iBadStart kV_iBadStart dc_iBadStart pm_iBadStart cd_iBadStart ct_iBadStart : Value}
    (ini_BadStart : PySem.W.findIn K (.ref C_BadStart) "__init__" = some (some (.ref f_iBadStart)))
    (tI_BadStart : PySem.W.typeIn K (.ref f_iBadStart) = some (.type "function"))
    (lI_BadStart : K.lookup f_iBadStart = some ⟨oc_iBadStart, od_iBadStart, .func (PySem.W.fnOf "__init__" "BadStart.__init__" (defArgs si_BadStart) (defBody si_BadStart) (defScope si_BadStart) .none kV_iBadStart dc_iBadStart pm_iBadStart an_iBadStart cd_iBadStart ct_iBadStart), sl_iBadStart⟩)
    (cI_BadStart : PySem.W.codeIn K cd_iBadStart "BadStart.__init__" = true)
    (kI_BadStart : PySem.W.keepIn K (.ref f_iBadStart) = true)
    (xq_TooManyPeople : PySem.W.excIn K C_TooManyPeople [.type "ValueError", .type "Exception", .type "BaseException", .type "object"] "ValueError.__new__" = true)
    (xsa_TooManyPeople : PySem.W.findIn K (.ref C_TooManyPeople) "__setattr__" = some (some (.builtin "object.__setattr__")))
    (xga_TooManyPeople : PySem.W.findIn K (.ref C_TooManyPeople) "__getattribute__" = some (some (.builtin "BaseException.__getattribute__")))
    (xgg_TooManyPeople : PySem.W.findIn K (.ref C_TooManyPeople) "__getattr__" = some none)
    (xcl_TooManyPeople : PySem.W.findIn K (.ref C_TooManyPeople) "__class__" = some (some (.builtin "object.__class__")))
    (xco_TooManyPeople : PySem.W.mroIn K C_TooManyPeople (.type "object") = some true)
    (xkC_TooManyPeople : PySem.W.keepIn K (.ref C_TooManyPeople) = true)
    (xhd_TooManyPeople : PySem.W.hasDictIn K C_TooManyPeople = true)
    (xiC_TooManyPeople : PySem.W.isClsIn K C_TooManyPeople = true)
    (xtC_TooManyPeople : PySem.W.typeIn K (.ref C_TooManyPeople) = some (.type "type"))
    (xeC_TooManyPeople : PySem.W.subIn K (.ref C_TooManyPeople) (.type "BaseException") = some true)
    (xmk_NoPerson : PySem.W.excInitIn K C_NoPerson [.type "LookupError", .type "Exception", .type "BaseException", .type "object"] "LookupError.__new__" = true)
    (xov_NoPerson : PySem.W.excOver K C_NoPerson [.type "LookupError", .type "Exception", .type "BaseException", .type "object"] = true)
    (xsa_NoPerson : PySem.W.findIn K (.ref C_NoPerson) "__setattr__" = some (some (.builtin "object.__setattr__")))
    (xga_NoPerson : PySem.W.findIn K (.ref C_NoPerson) "__getattribute__" = some (some (.builtin "BaseException.__getattribute__")))
    (xgg_NoPerson : PySem.W.findIn K (.ref C_NoPerson) "__getattr__" = some none)
    (xnb_NoPerson : PySem.W.findIn K (.ref C_NoPerson) "value" = some none)
    (xcl_NoPerson : PySem.W.findIn K (.ref C_NoPerson) "__class__" = some (some (.builtin "object.__class__")))
    (xco_NoPerson : PySem.W.mroIn K C_NoPerson (.type "object") = some true)
    (xkC_NoPerson : PySem.W.keepIn K (.ref C_NoPerson) = true)
    (xhd_NoPerson : PySem.W.hasDictIn K C_NoPerson = true)
    (xiC_NoPerson : PySem.W.isClsIn K C_NoPerson = true)
    (xtC_NoPerson : PySem.W.typeIn K (.ref C_NoPerson) = some (.type "type"))
    (xeC_NoPerson : PySem.W.subIn K (.ref C_NoPerson) (.type "BaseException") = some true)
    {f_iNoPerson : Addr} {od_iNoPerson an_iNoPerson : Option Addr} {sl_iNoPerson : Array (Option Value)} {oc_iNoPerson kV_iNoPerson dc_iNoPerson pm_iNoPerson cd_iNoPerson ct_iNoPerson : Value}
    (ini_NoPerson : PySem.W.findIn K (.ref C_NoPerson) "__init__" = some (some (.ref f_iNoPerson)))
    (tI_NoPerson : PySem.W.typeIn K (.ref f_iNoPerson) = some (.type "function"))
    (lI_NoPerson : K.lookup f_iNoPerson = some ⟨oc_iNoPerson, od_iNoPerson, .func (PySem.W.fnOf "__init__" "NoPerson.__init__" (defArgs si_NoPerson) (defBody si_NoPerson) (defScope si_NoPerson) .none kV_iNoPerson dc_iNoPerson pm_iNoPerson an_iNoPerson cd_iNoPerson ct_iNoPerson), sl_iNoPerson⟩)
    (cI_NoPerson : PySem.W.codeIn K cd_iNoPerson "NoPerson.__init__" = true)
    (kI_NoPerson : PySem.W.keepIn K (.ref f_iNoPerson) = true)
    (xq_LastPerson : PySem.W.excIn K C_LastPerson [.type "ValueError", .type "Exception", .type "BaseException", .type "object"] "ValueError.__new__" = true)
    (xsa_LastPerson : PySem.W.findIn K (.ref C_LastPerson) "__setattr__" = some (some (.builtin "object.__setattr__")))
    (xga_LastPerson : PySem.W.findIn K (.ref C_LastPerson) "__getattribute__" = some (some (.builtin "BaseException.__getattribute__")))
    (xgg_LastPerson : PySem.W.findIn K (.ref C_LastPerson) "__getattr__" = some none)
    (xcl_LastPerson : PySem.W.findIn K (.ref C_LastPerson) "__class__" = some (some (.builtin "object.__class__")))
    (xco_LastPerson : PySem.W.mroIn K C_LastPerson (.type "object") = some true)
    (xkC_LastPerson : PySem.W.keepIn K (.ref C_LastPerson) = true)
    (xhd_LastPerson : PySem.W.hasDictIn K C_LastPerson = true)
    (xiC_LastPerson : PySem.W.isClsIn K C_LastPerson = true)
    (xtC_LastPerson : PySem.W.typeIn K (.ref C_LastPerson) = some (.type "type"))
    (xeC_LastPerson : PySem.W.subIn K (.ref C_LastPerson) (.type "BaseException") = some true)
    (xmk_TooMuch : PySem.W.excInitIn K C_TooMuch [.type "ValueError", .type "Exception", .type "BaseException", .type "object"] "ValueError.__new__" = true)
    (xov_TooMuch : PySem.W.excOver K C_TooMuch [.type "ValueError", .type "Exception", .type "BaseException", .type "object"] = true)
    (xsa_TooMuch : PySem.W.findIn K (.ref C_TooMuch) "__setattr__" = some (some (.builtin "object.__setattr__")))
    (xga_TooMuch : PySem.W.findIn K (.ref C_TooMuch) "__getattribute__" = some (some (.builtin "BaseException.__getattribute__")))
    (xgg_TooMuch : PySem.W.findIn K (.ref C_TooMuch) "__getattr__" = some none)
    (xnb_TooMuch : PySem.W.findIn K (.ref C_TooMuch) "total" = some none)
    (xcl_TooMuch : PySem.W.findIn K (.ref C_TooMuch) "__class__" = some (some (.builtin "object.__class__")))
    (xco_TooMuch : PySem.W.mroIn K C_TooMuch (.type "object") = some true)
    (xkC_TooMuch : PySem.W.keepIn K (.ref C_TooMuch) = true)
    (xhd_TooMuch : PySem.W.hasDictIn K C_TooMuch = true)
    (xiC_TooMuch : PySem.W.isClsIn K C_TooMuch = true)
    (xtC_TooMuch : PySem.W.typeIn K (.ref C_TooMuch) = some (.type "type"))
    (xeC_TooMuch : PySem.W.subIn K (.ref C_TooMuch) (.type "BaseException") = some true)
    {f_iTooMuch : Addr} {od_iTooMuch an_iTooMuch : Option Addr} {sl_iTooMuch : Array (Option Value)} {oc_iTooMuch kV_iTooMuch dc_iTooMuch pm_iTooMuch cd_iTooMuch ct_iTooMuch : Value}
    (ini_TooMuch : PySem.W.findIn K (.ref C_TooMuch) "__init__" = some (some (.ref f_iTooMuch)))
    (tI_TooMuch : PySem.W.typeIn K (.ref f_iTooMuch) = some (.type "function"))
    (lI_TooMuch : K.lookup f_iTooMuch = some ⟨oc_iTooMuch, od_iTooMuch, .func (PySem.W.fnOf "__init__" "TooMuch.__init__" (defArgs si_TooMuch) (defBody si_TooMuch) (defScope si_TooMuch) .none kV_iTooMuch dc_iTooMuch pm_iTooMuch an_iTooMuch cd_iTooMuch ct_iTooMuch), sl_iTooMuch⟩)
    (cI_TooMuch : PySem.W.codeIn K cd_iTooMuch "TooMuch.__init__" = true)
    (kI_TooMuch : PySem.W.keepIn K (.ref f_iTooMuch) = true)
    (xmk_TooFew : PySem.W.excInitIn K C_TooFew [.type "ValueError", .type "Exception", .type "BaseException", .type "object"] "ValueError.__new__" = true)
    (xov_TooFew : PySem.W.excOver K C_TooFew [.type "ValueError", .type "Exception", .type "BaseException", .type "object"] = true)
    (xsa_TooFew : PySem.W.findIn K (.ref C_TooFew) "__setattr__" = some (some (.builtin "object.__setattr__")))
    (xga_TooFew : PySem.W.findIn K (.ref C_TooFew) "__getattribute__" = some (some (.builtin "BaseException.__getattribute__")))
    (xgg_TooFew : PySem.W.findIn K (.ref C_TooFew) "__getattr__" = some none)
    (xnb_TooFew : PySem.W.findIn K (.ref C_TooFew) "present" = some none)
    (xcl_TooFew : PySem.W.findIn K (.ref C_TooFew) "__class__" = some (some (.builtin "object.__class__")))
    (xco_TooFew : PySem.W.mroIn K C_TooFew (.type "object") = some true)
    (xkC_TooFew : PySem.W.keepIn K (.ref C_TooFew) = true)
    (xhd_TooFew : PySem.W.hasDictIn K C_TooFew = true)
    (xiC_TooFew : PySem.W.isClsIn K C_TooFew = true)
    (xtC_TooFew : PySem.W.typeIn K (.ref C_TooFew) = some (.type "type"))
    (xeC_TooFew : PySem.W.subIn K (.ref C_TooFew) (.type "BaseException") = some true)
    {f_iTooFew : Addr} {od_iTooFew an_iTooFew : Option Addr} {sl_iTooFew : Array (Option Value)} {oc_iTooFew kV_iTooFew dc_iTooFew pm_iTooFew cd_iTooFew ct_iTooFew : Value}
    (ini_TooFew : PySem.W.findIn K (.ref C_TooFew) "__init__" = some (some (.ref f_iTooFew)))
    (tI_TooFew : PySem.W.typeIn K (.ref f_iTooFew) = some (.type "function"))
    (lI_TooFew : K.lookup f_iTooFew = some ⟨oc_iTooFew, od_iTooFew, .func (PySem.W.fnOf "__init__" "TooFew.__init__" (defArgs si_TooFew) (defBody si_TooFew) (defScope si_TooFew) .none kV_iTooFew dc_iTooFew pm_iTooFew an_iTooFew cd_iTooFew ct_iTooFew), sl_iTooFew⟩)
    (cI_TooFew : PySem.W.codeIn K cd_iTooFew "TooFew.__init__" = true)
    (kI_TooFew : PySem.W.keepIn K (.ref f_iTooFew) = true)
    (xmk_NoStation : PySem.W.excInitIn K C_NoStation [.type "LookupError", .type "Exception", .type "BaseException", .type "object"] "LookupError.__new__" = true)
    (xov_NoStation : PySem.W.excOver K C_NoStation [.type "LookupError", .type "Exception", .type "BaseException", .type "object"] = true)
    (xsa_NoStation : PySem.W.findIn K (.ref C_NoStation) "__setattr__" = some (some (.builtin "object.__setattr__")))
    (xga_NoStation : PySem.W.findIn K (.ref C_NoStation) "__getattribute__" = some (some (.builtin "BaseException.__getattribute__")))
    (xgg_NoStation : PySem.W.findIn K (.ref C_NoStation) "__getattr__" = some none)
    (xnb_NoStation : PySem.W.findIn K (.ref C_NoStation) "value" = some none)
    (xcl_NoStation : PySem.W.findIn K (.ref C_NoStation) "__class__" = some (some (.builtin "object.__class__")))
    (xco_NoStation : PySem.W.mroIn K C_NoStation (.type "object") = some true)
    (xkC_NoStation : PySem.W.keepIn K (.ref C_NoStation) = true)
    (xhd_NoStation : PySem.W.hasDictIn K C_NoStation = true)
    (xiC_NoStation : PySem.W.isClsIn K C_NoStation = true)
    (xtC_NoStation : PySem.W.typeIn K (.ref C_NoStation) = some (.type "type"))
    (xeC_NoStation : PySem.W.subIn K (.ref C_NoStation) (.type "BaseException") = some true)
    {f_iNoStation : Addr} {od_iNoStation an_iNoStation : Option Addr} {sl_iNoStation : Array (Option Value)} {oc_iNoStation kV_iNoStation dc_iNoStation pm_iNoStation cd_iNoStation ct_iNoStation : Value}
    (ini_NoStation : PySem.W.findIn K (.ref C_NoStation) "__init__" = some (some (.ref f_iNoStation)))
    (tI_NoStation : PySem.W.typeIn K (.ref f_iNoStation) = some (.type "function"))
    (lI_NoStation : K.lookup f_iNoStation = some ⟨oc_iNoStation, od_iNoStation, .func (PySem.W.fnOf "__init__" "NoStation.__init__" (defArgs si_NoStation) (defBody si_NoStation) (defScope si_NoStation) .none kV_iNoStation dc_iNoStation pm_iNoStation an_iNoStation cd_iNoStation ct_iNoStation), sl_iNoStation⟩)
    (cI_NoStation : PySem.W.codeIn K cd_iNoStation "NoStation.__init__" = true)
    (kI_NoStation : PySem.W.keepIn K (.ref f_iNoStation) = true)
    (xmk_BadCount : PySem.W.excInitIn K C_BadCount [.type "ValueError", .type "Exception", .type "BaseException", .type "object"] "ValueError.__new__" = true)
    (xov_BadCount : PySem.W.excOver K C_BadCount [.type "ValueError", .type "Exception", .type "BaseException", .type "object"] = true)
    (xsa_BadCount : PySem.W.findIn K (.ref C_BadCount) "__setattr__" = some (some (.builtin "object.__setattr__")))
    (xga_BadCount : PySem.W.findIn K (.ref C_BadCount) "__getattribute__" = some (some (.builtin "BaseException.__getattribute__")))
    (xgg_BadCount : PySem.W.findIn K (.ref C_BadCount) "__getattr__" = some none)
    (xnb_BadCount : PySem.W.findIn K (.ref C_BadCount) "value" = some none)
    (xcl_BadCount : PySem.W.findIn K (.ref C_BadCount) "__class__" = some (some (.builtin "object.__class__")))
    (xco_BadCount : PySem.W.mroIn K C_BadCount (.type "object") = some true)
    (xkC_BadCount : PySem.W.keepIn K (.ref C_BadCount) = true)
    (xhd_BadCount : PySem.W.hasDictIn K C_BadCount = true)
    (xiC_BadCount : PySem.W.isClsIn K C_BadCount = true)
    (xtC_BadCount : PySem.W.typeIn K (.ref C_BadCount) = some (.type "type"))
    (xeC_BadCount : PySem.W.subIn K (.ref C_BadCount) (.type "BaseException") = some true)
    {f_iBadCount : Addr} {od_iBadCount an_iBadCount : Option Addr} {sl_iBadCount : Array (Option Value)} {oc_iBadCount kV_iBadCount dc_iBadCount pm_iBadCount cd_iBadCount ct_iBadCount : Value}
    (ini_BadCount : PySem.W.findIn K (.ref C_BadCount) "__init__" = some (some (.ref f_iBadCount)))
    (tI_BadCount : PySem.W.typeIn K (.ref f_iBadCount) = some (.type "function"))
    (lI_BadCount : K.lookup f_iBadCount = some ⟨oc_iBadCount, od_iBadCount, .func (PySem.W.fnOf "__init__" "BadCount.__init__" (defArgs si_BadCount) (defBody si_BadCount) (defScope si_BadCount) .none kV_iBadCount dc_iBadCount pm_iBadCount an_iBadCount cd_iBadCount ct_iBadCount), sl_iBadCount⟩)
    (cI_BadCount : PySem.W.codeIn K cd_iBadCount "BadCount.__init__" = true)
    (kI_BadCount : PySem.W.keepIn K (.ref f_iBadCount) = true)
    (xmk_BadEnd : PySem.W.excInitIn K C_BadEnd [.type "ValueError", .type "Exception", .type "BaseException", .type "object"] "ValueError.__new__" = true)
    (xov_BadEnd : PySem.W.excOver K C_BadEnd [.type "ValueError", .type "Exception", .type "BaseException", .type "object"] = true)
    (xsa_BadEnd : PySem.W.findIn K (.ref C_BadEnd) "__setattr__" = some (some (.builtin "object.__setattr__")))
    (xga_BadEnd : PySem.W.findIn K (.ref C_BadEnd) "__getattribute__" = some (some (.builtin "BaseException.__getattribute__")))
    (xgg_BadEnd : PySem.W.findIn K (.ref C_BadEnd) "__getattr__" = some none)
    (xnb_BadEnd : PySem.W.findIn K (.ref C_BadEnd) "value" = some none)
    (xcl_BadEnd : PySem.W.findIn K (.ref C_BadEnd) "__class__" = some (some (.builtin "object.__class__")))
    (xco_BadEnd : PySem.W.mroIn K C_BadEnd (.type "object") = some true)
    (xkC_BadEnd : PySem.W.keepIn K (.ref C_BadEnd) = true)
    (xhd_BadEnd : PySem.W.hasDictIn K C_BadEnd = true)
    (xiC_BadEnd : PySem.W.isClsIn K C_BadEnd = true)
    (xtC_BadEnd : PySem.W.typeIn K (.ref C_BadEnd) = some (.type "type"))
    (xeC_BadEnd : PySem.W.subIn K (.ref C_BadEnd) (.type "BaseException") = some true)
    {f_iBadEnd : Addr} {od_iBadEnd an_iBadEnd : Option Addr} {sl_iBadEnd : Array (Option Value)} {oc_iBadEnd kV_iBadEnd dc_iBadEnd pm_iBadEnd cd_iBadEnd ct_iBadEnd : Value}
    (ini_BadEnd : PySem.W.findIn K (.ref C_BadEnd) "__init__" = some (some (.ref f_iBadEnd)))
    (tI_BadEnd : PySem.W.typeIn K (.ref f_iBadEnd) = some (.type "function"))
    (lI_BadEnd : K.lookup f_iBadEnd = some ⟨oc_iBadEnd, od_iBadEnd, .func (PySem.W.fnOf "__init__" "BadEnd.__init__" (defArgs si_BadEnd) (defBody si_BadEnd) (defScope si_BadEnd) .none kV_iBadEnd dc_iBadEnd pm_iBadEnd an_iBadEnd cd_iBadEnd ct_iBadEnd), sl_iBadEnd⟩)
    (cI_BadEnd : PySem.W.codeIn K cd_iBadEnd "BadEnd.__init__" = true)
    (kI_BadEnd : PySem.W.keepIn K (.ref f_iBadEnd) = true)
    (xmk_BadRoad : PySem.W.excInitIn K C_BadRoad [.type "ValueError", .type "Exception", .type "BaseException", .type "object"] "ValueError.__new__" = true)
    (xov_BadRoad : PySem.W.excOver K C_BadRoad [.type "ValueError", .type "Exception", .type "BaseException", .type "object"] = true)
    (xsa_BadRoad : PySem.W.findIn K (.ref C_BadRoad) "__setattr__" = some (some (.builtin "object.__setattr__")))
    (xga_BadRoad : PySem.W.findIn K (.ref C_BadRoad) "__getattribute__" = some (some (.builtin "BaseException.__getattribute__")))
    (xgg_BadRoad : PySem.W.findIn K (.ref C_BadRoad) "__getattr__" = some none)
    (xnb_BadRoad : PySem.W.findIn K (.ref C_BadRoad) "error" = some none)
    (xcl_BadRoad : PySem.W.findIn K (.ref C_BadRoad) "__class__" = some (some (.builtin "object.__class__")))
    (xco_BadRoad : PySem.W.mroIn K C_BadRoad (.type "object") = some true)
    (xkC_BadRoad : PySem.W.keepIn K (.ref C_BadRoad) = true)
    (xhd_BadRoad : PySem.W.hasDictIn K C_BadRoad = true)
    (xiC_BadRoad : PySem.W.isClsIn K C_BadRoad = true)
    (xtC_BadRoad : PySem.W.typeIn K (.ref C_BadRoad) = some (.type "type"))
    (xeC_BadRoad : PySem.W.subIn K (.ref C_BadRoad) (.type "BaseException") = some true)
    {f_iBadRoad : Addr} {od_iBadRoad an_iBadRoad : Option Addr} {sl_iBadRoad : Array (Option Value)} {oc_iBadRoad kV_iBadRoad dc_iBadRoad pm_iBadRoad cd_iBadRoad ct_iBadRoad : Value}
    (ini_BadRoad : PySem.W.findIn K (.ref C_BadRoad) "__init__" = some (some (.ref f_iBadRoad)))
    (tI_BadRoad : PySem.W.typeIn K (.ref f_iBadRoad) = some (.type "function"))
    (lI_BadRoad : K.lookup f_iBadRoad = some ⟨oc_iBadRoad, od_iBadRoad, .func (PySem.W.fnOf "__init__" "BadRoad.__init__" (defArgs si_BadRoad) (defBody si_BadRoad) (defScope si_BadRoad) .none kV_iBadRoad dc_iBadRoad pm_iBadRoad an_iBadRoad cd_iBadRoad ct_iBadRoad), sl_iBadRoad⟩)
    (cI_BadRoad : PySem.W.codeIn K cd_iBadRoad "BadRoad.__init__" = true)
    (kI_BadRoad : PySem.W.keepIn K (.ref f_iBadRoad) = true)
    (xmk_BadStarts : PySem.W.excInitIn K C_BadStarts [.type "ValueError", .type "Exception", .type "BaseException", .type "object"] "ValueError.__new__" = true)
    (xov_BadStarts : PySem.W.excOver K C_BadStarts [.type "ValueError", .type "Exception", .type "BaseException", .type "object"] = true)
    (xsa_BadStarts : PySem.W.findIn K (.ref C_BadStarts) "__setattr__" = some (some (.builtin "object.__setattr__")))
    (xga_BadStarts : PySem.W.findIn K (.ref C_BadStarts) "__getattribute__" = some (some (.builtin "BaseException.__getattribute__")))
    (xgg_BadStarts : PySem.W.findIn K (.ref C_BadStarts) "__getattr__" = some none)
    (xnb_BadStarts : PySem.W.findIn K (.ref C_BadStarts) "value" = some none)
    (xcl_BadStarts : PySem.W.findIn K (.ref C_BadStarts) "__class__" = some (some (.builtin "object.__class__")))
    (xco_BadStarts : PySem.W.mroIn K C_BadStarts (.type "object") = some true)
    (xkC_BadStarts : PySem.W.keepIn K (.ref C_BadStarts) = true)
    (xhd_BadStarts : PySem.W.hasDictIn K C_BadStarts = true)
    (xiC_BadStarts : PySem.W.isClsIn K C_BadStarts = true)
    (xtC_BadStarts : PySem.W.typeIn K (.ref C_BadStarts) = some (.type "type"))
    (xeC_BadStarts : PySem.W.subIn K (.ref C_BadStarts) (.type "BaseException") = some true)
    {f_iBadStarts : Addr} {od_iBadStarts an_iBadStarts : Option Addr} {sl_iBadStarts : Array (Option Value)} {oc_iBadStarts kV_iBadStarts dc_iBadStarts pm_iBadStarts cd_iBadStarts ct_iBadStarts : Value}
    (ini_BadStarts : PySem.W.findIn K (.ref C_BadStarts) "__init__" = some (some (.ref f_iBadStarts)))
    (tI_BadStarts : PySem.W.typeIn K (.ref f_iBadStarts) = some (.type "function"))
    (lI_BadStarts : K.lookup f_iBadStarts = some ⟨oc_iBadStarts, od_iBadStarts, .func (PySem.W.fnOf "__init__" "BadStarts.__init__" (defArgs si_BadStarts) (defBody si_BadStarts) (defScope si_BadStarts) .none kV_iBadStarts dc_iBadStarts pm_iBadStarts an_iBadStarts cd_iBadStarts ct_iBadStarts), sl_iBadStarts⟩)
    (cI_BadStarts : PySem.W.codeIn K cd_iBadStarts "BadStarts.__init__" = true)
    (kI_BadStarts : PySem.W.keepIn K (.ref f_iBadStarts) = true)
    (xq_TooManyEdits : PySem.W.excIn K C_TooManyEdits [.type "ValueError", .type "Exception", .type "BaseException", .type "object"] "ValueError.__new__" = true)
    (xsa_TooManyEdits : PySem.W.findIn K (.ref C_TooManyEdits) "__setattr__" = some (some (.builtin "object.__setattr__")))
    (xga_TooManyEdits : PySem.W.findIn K (.ref C_TooManyEdits) "__getattribute__" = some (some (.builtin "BaseException.__getattribute__")))
    (xgg_TooManyEdits : PySem.W.findIn K (.ref C_TooManyEdits) "__getattr__" = some none)
    (xcl_TooManyEdits : PySem.W.findIn K (.ref C_TooManyEdits) "__class__" = some (some (.builtin "object.__class__")))
    (xco_TooManyEdits : PySem.W.mroIn K C_TooManyEdits (.type "object") = some true)
    (xkC_TooManyEdits : PySem.W.keepIn K (.ref C_TooManyEdits) = true)
    (xhd_TooManyEdits : PySem.W.hasDictIn K C_TooManyEdits = true)
    (xiC_TooManyEdits : PySem.W.isClsIn K C_TooManyEdits = true)
    (xtC_TooManyEdits : PySem.W.typeIn K (.ref C_TooManyEdits) = some (.type "type"))
    (xeC_TooManyEdits : PySem.W.subIn K (.ref C_TooManyEdits) (.type "BaseException") = some true)
    (xmk_TooLate : PySem.W.excInitIn K C_TooLate [.type "ValueError", .type "Exception", .type "BaseException", .type "object"] "ValueError.__new__" = true)
    (xov_TooLate : PySem.W.excOver K C_TooLate [.type "ValueError", .type "Exception", .type "BaseException", .type "object"] = true)
    (xsa_TooLate : PySem.W.findIn K (.ref C_TooLate) "__setattr__" = some (some (.builtin "object.__setattr__")))
    (xga_TooLate : PySem.W.findIn K (.ref C_TooLate) "__getattribute__" = some (some (.builtin "BaseException.__getattribute__")))
    (xgg_TooLate : PySem.W.findIn K (.ref C_TooLate) "__getattr__" = some none)
    (xnb_TooLate : PySem.W.findIn K (.ref C_TooLate) "tick" = some none)
    (xcl_TooLate : PySem.W.findIn K (.ref C_TooLate) "__class__" = some (some (.builtin "object.__class__")))
    (xco_TooLate : PySem.W.mroIn K C_TooLate (.type "object") = some true)
    (xkC_TooLate : PySem.W.keepIn K (.ref C_TooLate) = true)
    (xhd_TooLate : PySem.W.hasDictIn K C_TooLate = true)
    (xiC_TooLate : PySem.W.isClsIn K C_TooLate = true)
    (xtC_TooLate : PySem.W.typeIn K (.ref C_TooLate) = some (.type "type"))
    (xeC_TooLate : PySem.W.subIn K (.ref C_TooLate) (.type "BaseException") = some true)
    {f_iTooLate : Addr} {od_iTooLate an_iTooLate : Option Addr} {sl_iTooLate : Array (Option Value)} {oc_iTooLate kV_iTooLate dc_iTooLate pm_iTooLate cd_iTooLate ct_iTooLate : Value}
    (ini_TooLate : PySem.W.findIn K (.ref C_TooLate) "__init__" = some (some (.ref f_iTooLate)))
    (tI_TooLate : PySem.W.typeIn K (.ref f_iTooLate) = some (.type "function"))
    (lI_TooLate : K.lookup f_iTooLate = some ⟨oc_iTooLate, od_iTooLate, .func (PySem.W.fnOf "__init__" "TooLate.__init__" (defArgs si_TooLate) (defBody si_TooLate) (defScope si_TooLate) .none kV_iTooLate dc_iTooLate pm_iTooLate an_iTooLate cd_iTooLate ct_iTooLate), sl_iTooLate⟩)
    (cI_TooLate : PySem.W.codeIn K cd_iTooLate "TooLate.__init__" = true)
    (kI_TooLate : PySem.W.keepIn K (.ref f_iTooLate) = true)
    (xq_Busy : PySem.W.excIn K C_Busy [.type "ValueError", .type "Exception", .type "BaseException", .type "object"] "ValueError.__new__" = true)
    (xsa_Busy : PySem.W.findIn K (.ref C_Busy) "__setattr__" = some (some (.builtin "object.__setattr__")))
    (xga_Busy : PySem.W.findIn K (.ref C_Busy) "__getattribute__" = some (some (.builtin "BaseException.__getattribute__")))
    (xgg_Busy : PySem.W.findIn K (.ref C_Busy) "__getattr__" = some none)
    (xcl_Busy : PySem.W.findIn K (.ref C_Busy) "__class__" = some (some (.builtin "object.__class__")))
    (xco_Busy : PySem.W.mroIn K C_Busy (.type "object") = some true)
    (xkC_Busy : PySem.W.keepIn K (.ref C_Busy) = true)
    (xhd_Busy : PySem.W.hasDictIn K C_Busy = true)
    (xiC_Busy : PySem.W.isClsIn K C_Busy = true)
    (xtC_Busy : PySem.W.typeIn K (.ref C_Busy) = some (.type "type"))
    (xeC_Busy : PySem.W.subIn K (.ref C_Busy) (.type "BaseException") = some true)
    (xq_NothingToUndo : PySem.W.excIn K C_NothingToUndo [.type "ValueError", .type "Exception", .type "BaseException", .type "object"] "ValueError.__new__" = true)
    (xsa_NothingToUndo : PySem.W.findIn K (.ref C_NothingToUndo) "__setattr__" = some (some (.builtin "object.__setattr__")))
    (xga_NothingToUndo : PySem.W.findIn K (.ref C_NothingToUndo) "__getattribute__" = some (some (.builtin "BaseException.__getattribute__")))
    (xgg_NothingToUndo : PySem.W.findIn K (.ref C_NothingToUndo) "__getattr__" = some none)
    (xcl_NothingToUndo : PySem.W.findIn K (.ref C_NothingToUndo) "__class__" = some (some (.builtin "object.__class__")))
    (xco_NothingToUndo : PySem.W.mroIn K C_NothingToUndo (.type "object") = some true)
    (xkC_NothingToUndo : PySem.W.keepIn K (.ref C_NothingToUndo) = true)
    (xhd_NothingToUndo : PySem.W.hasDictIn K C_NothingToUndo = true)
    (xiC_NothingToUndo : PySem.W.isClsIn K C_NothingToUndo = true)
    (xtC_NothingToUndo : PySem.W.typeIn K (.ref C_NothingToUndo) = some (.type "type"))
    (xeC_NothingToUndo : PySem.W.subIn K (.ref C_NothingToUndo) (.type "BaseException") = some true)
    (xmk_NoVersion : PySem.W.excInitIn K C_NoVersion [.type "LookupError", .type "Exception", .type "BaseException", .type "object"] "LookupError.__new__" = true)
    (xov_NoVersion : PySem.W.excOver K C_NoVersion [.type "LookupError", .type "Exception", .type "BaseException", .type "object"] = true)
    (xsa_NoVersion : PySem.W.findIn K (.ref C_NoVersion) "__setattr__" = some (some (.builtin "object.__setattr__")))
    (xga_NoVersion : PySem.W.findIn K (.ref C_NoVersion) "__getattribute__" = some (some (.builtin "BaseException.__getattribute__")))
    (xgg_NoVersion : PySem.W.findIn K (.ref C_NoVersion) "__getattr__" = some none)
    (xnb_NoVersion : PySem.W.findIn K (.ref C_NoVersion) "value" = some none)
    (xcl_NoVersion : PySem.W.findIn K (.ref C_NoVersion) "__class__" = some (some (.builtin "object.__class__")))
    (xco_NoVersion : PySem.W.mroIn K C_NoVersion (.type "object") = some true)
    (xkC_NoVersion : PySem.W.keepIn K (.ref C_NoVersion) = true)
    (xhd_NoVersion : PySem.W.hasDictIn K C_NoVersion = true)
    (xiC_NoVersion : PySem.W.isClsIn K C_NoVersion = true)
    (xtC_NoVersion : PySem.W.typeIn K (.ref C_NoVersion) = some (.type "type"))
    (xeC_NoVersion : PySem.W.subIn K (.ref C_NoVersion) (.type "BaseException") = some true)
    {f_iNoVersion : Addr} {od_iNoVersion an_iNoVersion : Option Addr} {sl_iNoVersion : Array (Option Value)} {oc_iNoVersion kV_iNoVersion dc_iNoVersion pm_iNoVersion cd_iNoVersion ct_iNoVersion : Value}
    (ini_NoVersion : PySem.W.findIn K (.ref C_NoVersion) "__init__" = some (some (.ref f_iNoVersion)))
    (tI_NoVersion : PySem.W.typeIn K (.ref f_iNoVersion) = some (.type "function"))
    (lI_NoVersion : K.lookup f_iNoVersion = some ⟨oc_iNoVersion, od_iNoVersion, .func (PySem.W.fnOf "__init__" "NoVersion.__init__" (defArgs si_NoVersion) (defBody si_NoVersion) (defScope si_NoVersion) .none kV_iNoVersion dc_iNoVersion pm_iNoVersion an_iNoVersion cd_iNoVersion ct_iNoVersion), sl_iNoVersion⟩)
    (cI_NoVersion : PySem.W.codeIn K cd_iNoVersion "NoVersion.__init__" = true)
    (kI_NoVersion : PySem.W.keepIn K (.ref f_iNoVersion) = true)
    (rd_Promise : PySem.W.readsIn K C_Promise (.type "type") = true)
    (ra_Promise : PySem.W.specialIn K (.ref C_Promise) "__getattribute__" = some (some (.builtin "type.__getattribute__")))
    (rd_Trip : PySem.W.readsIn K C_Trip (.type "type") = true)
    (ra_Trip : PySem.W.specialIn K (.ref C_Trip) "__getattribute__" = some (some (.builtin "type.__getattribute__")))
    (fc_Promise___init__ : PySem.W.findCls K (.ref C_Promise) (.type "type") "__init__" = some (.val (.ref f_Promise___init__)))
    (fc_Trip___init__ : PySem.W.findCls K (.ref C_Trip) (.type "type") "__init__" = some (.val (.ref f_Trip___init__)))
    {d_EDIT_LENGTHS : Addr} {es_EDIT_LENGTHS : Array DictEntry} {n_EDIT_LENGTHS : Nat}
    (gk_EDIT_LENGTHS : PySem.W.nsIn K mainGlobals "EDIT_LENGTHS" = some (some (.ref d_EDIT_LENGTHS)))
    (lk_EDIT_LENGTHS : K.lookup d_EDIT_LENGTHS = some ⟨.type "dict", none, .dict es_EDIT_LENGTHS n_EDIT_LENGTHS, #[]⟩)
    (yk_EDIT_LENGTHS : (d_EDIT_LENGTHS == sysModules) = false)
    (dk_EDIT_LENGTHS : DicOf w.params es_EDIT_LENGTHS.toList [("come", 2), ("leave", 2), ("place", 3), ("take", 3)])
    {t_LIMIT : Tok}
    (v_LIMIT : PySem.W.nsIn K mainGlobals "LIMIT" = some (some (.int 10000000 t_LIMIT)))
    {t_MAX_PEOPLE : Tok}
    (v_MAX_PEOPLE : PySem.W.nsIn K mainGlobals "MAX_PEOPLE" = some (some (.int 10 t_MAX_PEOPLE)))
    {t_MAX_START : Tok}
    (v_MAX_START : PySem.W.nsIn K mainGlobals "MAX_START" = some (some (.int 1000000 t_MAX_START)))
    {t_MAX_TICKS : Tok}
    (v_MAX_TICKS : PySem.W.nsIn K mainGlobals "MAX_TICKS" = some (some (.int 1000 t_MAX_TICKS)))
    {t_MAX_STAGES : Tok}
    (v_MAX_STAGES : PySem.W.nsIn K mainGlobals "MAX_STAGES" = some (some (.int 12 t_MAX_STAGES)))
    {t_MAX_BIKES : Tok}
    (v_MAX_BIKES : PySem.W.nsIn K mainGlobals "MAX_BIKES" = some (some (.int 12 t_MAX_BIKES)))
    {t_MOST : Tok}
    (v_MOST : PySem.W.nsIn K mainGlobals "MOST" = some (some (.int 99999999 t_MOST)))
    (z_abs : PySem.W.nsIn K mainGlobals "abs" = some none)
    (z_bool : PySem.W.nsIn K mainGlobals "bool" = some none)
    (z_enumerate : PySem.W.nsIn K mainGlobals "enumerate" = some none)
    (z_int : PySem.W.nsIn K mainGlobals "int" = some none)
    (z_isinstance : PySem.W.nsIn K mainGlobals "isinstance" = some none)
    (z_len : PySem.W.nsIn K mainGlobals "len" = some none)
    (z_list : PySem.W.nsIn K mainGlobals "list" = some none)
    (z_max : PySem.W.nsIn K mainGlobals "max" = some none)
    (z_min : PySem.W.nsIn K mainGlobals "min" = some none)
    (z_range : PySem.W.nsIn K mainGlobals "range" = some none)
    (z_sorted : PySem.W.nsIn K mainGlobals "sorted" = some none)
    (z_str : PySem.W.nsIn K mainGlobals "str" = some none)
    (z_sum : PySem.W.nsIn K mainGlobals "sum" = some none)
    (z_tuple : PySem.W.nsIn K mainGlobals "tuple" = some none)
    (z_zip : PySem.W.nsIn K mainGlobals "zip" = some none)
    : ∃ fd : FuncData, (∀ (s : Shared) (v : Value), BindsTo s fd ⟨[v], []⟩ [("_law_script", v)]) ∧ ∀ base : Heap, K.In base → base.Ns mainGlobals mg → Rb.FnG l.prog w K mg base CX0 12 fa fd ["_law_script"] (spF (Pu.ct0 K mg) F_law_k58) := by
  cases hfa.symm.trans (PySem.W.mg_of X G a_law)
  have F_is_number_from := fun_mk (st := s_is_number_from) l_is_number_from c_is_number_from k_is_number_from
  have b_is_number_from := F_is_number_from.binds (ps := ["value", "least", "most"]) fun _ _ _ _ _ _ us hl => match us, hl with | [_, _, _], _ => rfl
  have F_is_end := fun_mk (st := s_is_end) l_is_end c_is_end k_is_end
  have b_is_end := F_is_end.binds (ps := ["value"]) fun _ _ _ _ _ _ us hl => match us, hl with | [_], _ => rfl
  have F_is_starts := fun_mk (st := s_is_starts) l_is_starts c_is_starts k_is_starts
  have b_is_starts := F_is_starts.binds (ps := ["value"]) fun _ _ _ _ _ _ us hl => match us, hl with | [_], _ => rfl
  have F_road_error := fun_mk (st := s_road_error) l_road_error c_road_error k_road_error
  have b_road_error := F_road_error.binds (ps := ["value"]) fun _ _ _ _ _ _ us hl => match us, hl with | [_], _ => rfl
  have F_counts_of := fun_mk (st := s_counts_of) l_counts_of c_counts_of k_counts_of
  have b_counts_of := F_counts_of.binds (ps := ["road"]) fun _ _ _ _ _ _ us hl => match us, hl with | [_], _ => rfl
  have F_room_of := fun_mk (st := s_room_of) l_room_of c_room_of k_room_of
  have b_room_of := F_room_of.binds (ps := ["road", "many"]) fun _ _ _ _ _ _ us hl => match us, hl with | [_, _], _ => rfl
  have F_with_further := fun_mk (st := s_with_further) l_with_further c_with_further k_with_further
  have b_with_further := F_with_further.binds (ps := ["road", "station", "many"]) fun _ _ _ _ _ _ us hl => match us, hl with | [_, _, _], _ => rfl
  have F_is_edit := fun_mk (st := s_is_edit) l_is_edit c_is_edit k_is_edit
  have b_is_edit := F_is_edit.binds (ps := ["value"]) fun _ _ _ _ _ _ us hl => match us, hl with | [_], _ => rfl
  have F_changed := fun_mk (st := s_changed) l_changed c_changed k_changed
  have b_changed := F_changed.binds (ps := ["road", "starts", "edit"]) fun _ _ _ _ _ _ us hl => match us, hl with | [_, _, _], _ => rfl
  have F_with_person := fun_mk (st := s_with_person) l_with_person c_with_person k_with_person
  have b_with_person := F_with_person.binds (ps := ["starts", "start"]) fun _ _ _ _ _ _ us hl => match us, hl with | [_, _], _ => rfl
  have F_without_person := fun_mk (st := s_without_person) l_without_person c_without_person k_without_person
  have b_without_person := F_without_person.binds (ps := ["starts", "person"]) fun _ _ _ _ _ _ us hl => match us, hl with | [_, _], _ => rfl
  have F_with_more_bikes := fun_mk (st := s_with_more_bikes) l_with_more_bikes c_with_more_bikes k_with_more_bikes
  have b_with_more_bikes := F_with_more_bikes.binds (ps := ["road", "station", "count"]) fun _ _ _ _ _ _ us hl => match us, hl with | [_, _, _], _ => rfl
  have F_with_fewer_bikes := fun_mk (st := s_with_fewer_bikes) l_with_fewer_bikes c_with_fewer_bikes k_with_fewer_bikes
  have b_with_fewer_bikes := F_with_fewer_bikes.binds (ps := ["road", "station", "count"]) fun _ _ _ _ _ _ us hl => match us, hl with | [_, _, _], _ => rfl
  have F_check_bikes := fun_mk (st := s_check_bikes) l_check_bikes c_check_bikes k_check_bikes
  have b_check_bikes := F_check_bikes.binds (ps := ["road", "station", "count"]) fun _ _ _ _ _ _ us hl => match us, hl with | [_, _, _], _ => rfl
  have F_ticks_of := fun_mk (st := s_ticks_of) l_ticks_of c_ticks_of k_ticks_of
  have b_ticks_of := F_ticks_of.binds (ps := ["road", "starts", "plan"]) fun _ _ _ _ _ _ us hl => match us, hl with | [_, _, _], _ => rfl
  have F_bike_ticks := fun_mk (st := s_bike_ticks) l_bike_ticks c_bike_ticks k_bike_ticks
  have b_bike_ticks := F_bike_ticks.binds (ps := ["ticks", "brought", "standing"]) fun _ _ _ _ _ _ us hl => match us, hl with | [_, _, _], _ => rfl
  have F_leaving_ticks := fun_mk (st := s_leaving_ticks) l_leaving_ticks c_leaving_ticks k_leaving_ticks
  have b_leaving_ticks := F_leaving_ticks.binds (ps := ["ticks", "riders", "bikes"]) fun _ _ _ _ _ _ us hl => match us, hl with | [_, _, _], _ => rfl
  have F_finish_of := fun_mk (st := s_finish_of) l_finish_of c_finish_of k_finish_of
  have b_finish_of := F_finish_of.binds (ps := ["road", "starts", "plan"]) fun _ _ _ _ _ _ us hl => match us, hl with | [_, _, _], _ => rfl
  have F_rule_plan := fun_mk (st := s_rule_plan) l_rule_plan c_rule_plan k_rule_plan
  have b_rule_plan := F_rule_plan.binds (ps := ["road", "starts"]) fun _ _ _ _ _ _ us hl => match us, hl with | [_, _], _ => rfl
  have F_greatest := fun_mk (st := s_greatest) l_greatest c_greatest k_greatest
  have b_greatest := F_greatest.binds (ps := ["numbers", "many"]) fun _ _ _ _ _ _ us hl => match us, hl with | [_, _], _ => rfl
  have F_least_finish := fun_mk (st := s_least_finish) l_least_finish c_least_finish k_least_finish
  have b_least_finish := F_least_finish.binds (ps := ["road", "starts"]) fun _ _ _ _ _ _ us hl => match us, hl with | [_, _], _ => rfl
  have F_needs_of := fun_mk (st := s_needs_of) l_needs_of c_needs_of k_needs_of
  have b_needs_of := F_needs_of.binds (ps := ["road", "starts", "end"]) fun _ _ _ _ _ _ us hl => match us, hl with | [_, _, _], _ => rfl
  have F_find_certificate := fun_mk (st := s_find_certificate) l_find_certificate c_find_certificate k_find_certificate
  have b_find_certificate := F_find_certificate.binds (ps := ["road", "starts", "end"]) fun _ _ _ _ _ _ us hl => match us, hl with | [_, _, _], _ => rfl
  have F_excluding_people := fun_mk (st := s_excluding_people) l_excluding_people c_excluding_people k_excluding_people
  have b_excluding_people := F_excluding_people.binds (ps := ["road", "needs"]) fun _ _ _ _ _ _ us hl => match us, hl with | [_, _], _ => rfl
  have F_exclude := fun_mk (st := s_exclude) l_exclude c_exclude k_exclude
  have b_exclude := F_exclude.binds (ps := ["road", "needs", "people"]) fun _ _ _ _ _ _ us hl => match us, hl with | [_, _, _], _ => rfl
  have F_trip_text := fun_mk (st := s_trip_text) l_trip_text c_trip_text k_trip_text
  have b_trip_text := F_trip_text.binds (ps := ["road", "starts"]) fun _ _ _ _ _ _ us hl => match us, hl with | [_, _], _ => rfl
  have F_listed := fun_mk (st := s_listed) l_listed c_listed k_listed
  have b_listed := F_listed.binds (ps := ["numbers"]) fun _ _ _ _ _ _ us hl => match us, hl with | [_], _ => rfl
  have F_number_in := fun_mk (st := s_number_in) l_number_in c_number_in k_number_in
  have b_number_in := F_number_in.binds (ps := ["text", "least", "most"]) fun _ _ _ _ _ _ us hl => match us, hl with | [_, _, _], _ => rfl
  have F_command_in := fun_mk (st := s_command_in) l_command_in c_command_in k_command_in
  have b_command_in := F_command_in.binds (ps := ["line"]) fun _ _ _ _ _ _ us hl => match us, hl with | [_], _ => rfl
  have F_riders_text := fun_mk (st := s_riders_text) l_riders_text c_riders_text k_riders_text
  have b_riders_text := F_riders_text.binds (ps := ["plan"]) fun _ _ _ _ _ _ us hl => match us, hl with | [_], _ => rfl
  have F__law_deck := fun_mk (st := s__law_deck) l__law_deck c__law_deck k__law_deck
  have b__law_deck := F__law_deck.binds (ps := ["_law_script"]) fun _ _ _ _ _ _ us hl => match us, hl with | [_], _ => rfl
  have F__law_draw := fun_mk (st := s__law_draw) l__law_draw c__law_draw k__law_draw
  have b__law_draw := F__law_draw.binds (ps := ["_law_deck_here", "_law_bound"]) fun _ _ _ _ _ _ us hl => match us, hl with | [_, _], _ => rfl
  have F__law_state := fun_mk (st := s__law_state) l__law_state c__law_state k__law_state
  have b__law_state := F__law_state.binds (ps := ["_law_deck_here", "_law_stages", "_law_people"]) fun _ _ _ _ _ _ us hl => match us, hl with | [_, _, _], _ => rfl
  have F__law_numbers_text := fun_mk (st := s__law_numbers_text) l__law_numbers_text c__law_numbers_text k__law_numbers_text
  have b__law_numbers_text := F__law_numbers_text.binds (ps := ["_law_numbers"]) fun _ _ _ _ _ _ us hl => match us, hl with | [_], _ => rfl
  have F__law_trip_text := fun_mk (st := s__law_trip_text) l__law_trip_text c__law_trip_text k__law_trip_text
  have b__law_trip_text := F__law_trip_text.binds (ps := ["_law_state_here"]) fun _ _ _ _ _ _ us hl => match us, hl with | [_], _ => rfl
  have F__law_rule := fun_mk (st := s__law_rule) l__law_rule c__law_rule k__law_rule
  have b__law_rule := F__law_rule.binds (ps := ["_law_state_here"]) fun _ _ _ _ _ _ us hl => match us, hl with | [_], _ => rfl
  have F__law_edit := fun_mk (st := s__law_edit) l__law_edit c__law_edit k__law_edit
  have b__law_edit := F__law_edit.binds (ps := ["_law_deck_here", "_law_state_here"]) fun _ _ _ _ _ _ us hl => match us, hl with | [_, _], _ => rfl
  have F__law_after := fun_mk (st := s__law_after) l__law_after c__law_after k__law_after
  have b__law_after := F__law_after.binds (ps := ["_law_state_here", "_law_edit_here"]) fun _ _ _ _ _ _ us hl => match us, hl with | [_, _], _ => rfl
  have F__law_do := fun_mk (st := s__law_do) l__law_do c__law_do k__law_do
  have b__law_do := F__law_do.binds (ps := ["_law_trip", "_law_edit_here"]) fun _ _ _ _ _ _ us hl => match us, hl with | [_, _], _ => rfl
  have F__law_answers := fun_mk (st := s__law_answers) l__law_answers c__law_answers k__law_answers
  have b__law_answers := F__law_answers.binds (ps := ["_law_state_here"]) fun _ _ _ _ _ _ us hl => match us, hl with | [_], _ => rfl
  have F__law_heard := fun_mk (st := s__law_heard) l__law_heard c__law_heard k__law_heard
  have b__law_heard := F__law_heard.binds (ps := ["_law_shell"]) fun _ _ _ _ _ _ us hl => match us, hl with | [_], _ => rfl
  have F__law_made := fun_mk (st := s__law_made) l__law_made c__law_made k__law_made
  have b__law_made := F__law_made.binds (ps := ["_law_state_here", "_law_is_promised"]) fun _ _ _ _ _ _ us hl => match us, hl with | [_, _], _ => rfl
  have F_Shell___init__ := fun_mk (st := s_Shell___init__) l_Shell___init__ c_Shell___init__ k_Shell___init__
  have b_Shell___init__ := F_Shell___init__.binds (ps := ["self", "trip"]) fun _ _ _ _ _ _ us hl => match us, hl with | [_, _], _ => rfl
  have F_Shell_execute := fun_mk (st := s_Shell_execute) l_Shell_execute c_Shell_execute k_Shell_execute
  have b_Shell_execute := F_Shell_execute.binds (ps := ["self", "line"]) fun _ _ _ _ _ _ us hl => match us, hl with | [_, _], _ => rfl
  have F_Shell_answer := fun_mk (st := s_Shell_answer) l_Shell_answer c_Shell_answer k_Shell_answer
  have b_Shell_answer := F_Shell_answer.binds (ps := ["self", "command"]) fun _ _ _ _ _ _ us hl => match us, hl with | [_, _], _ => rfl
  have F_Promise___init__ := fun_mk (st := s_Promise___init__) l_Promise___init__ c_Promise___init__ k_Promise___init__
  have b_Promise___init__ := F_Promise___init__.binds (ps := ["self", "latest"]) fun _ _ _ _ _ _ us hl => match us, hl with | [_, _], _ => rfl
  have F_Promise_latest := fun_mk (st := s_Promise_latest) l_Promise_latest c_Promise_latest k_Promise_latest
  have b_Promise_latest := F_Promise_latest.binds (ps := ["self"]) fun _ _ _ _ _ _ us hl => match us, hl with | [_], _ => rfl
  have F_Trip___init__ := fun_mk (st := s_Trip___init__) l_Trip___init__ c_Trip___init__ k_Trip___init__
  have b_Trip___init__ := F_Trip___init__.binds (ps := ["self", "road", "starts"]) fun _ _ _ _ _ _ us hl => match us, hl with | [_, _, _], _ => rfl
  have F_Trip_road := fun_mk (st := s_Trip_road) l_Trip_road c_Trip_road k_Trip_road
  have b_Trip_road := F_Trip_road.binds (ps := ["self"]) fun _ _ _ _ _ _ us hl => match us, hl with | [_], _ => rfl
  have F_Trip_starts := fun_mk (st := s_Trip_starts) l_Trip_starts c_Trip_starts k_Trip_starts
  have b_Trip_starts := F_Trip_starts.binds (ps := ["self"]) fun _ _ _ _ _ _ us hl => match us, hl with | [_], _ => rfl
  have F_Trip_finish := fun_mk (st := s_Trip_finish) l_Trip_finish c_Trip_finish k_Trip_finish
  have b_Trip_finish := F_Trip_finish.binds (ps := ["self"]) fun _ _ _ _ _ _ us hl => match us, hl with | [_], _ => rfl
  have F_Trip_come := fun_mk (st := s_Trip_come) l_Trip_come c_Trip_come k_Trip_come
  have b_Trip_come := F_Trip_come.binds (ps := ["self", "start"]) fun _ _ _ _ _ _ us hl => match us, hl with | [_, _], _ => rfl
  have F_Trip_leave := fun_mk (st := s_Trip_leave) l_Trip_leave c_Trip_leave k_Trip_leave
  have b_Trip_leave := F_Trip_leave.binds (ps := ["self", "person"]) fun _ _ _ _ _ _ us hl => match us, hl with | [_, _], _ => rfl
  have F_Trip_place := fun_mk (st := s_Trip_place) l_Trip_place c_Trip_place k_Trip_place
  have b_Trip_place := F_Trip_place.binds (ps := ["self", "station", "count"]) fun _ _ _ _ _ _ us hl => match us, hl with | [_, _, _], _ => rfl
  have F_Trip_take := fun_mk (st := s_Trip_take) l_Trip_take c_Trip_take k_Trip_take
  have b_Trip_take := F_Trip_take.binds (ps := ["self", "station", "count"]) fun _ _ _ _ _ _ us hl => match us, hl with | [_, _, _], _ => rfl
  have F_Trip_do_edit := fun_mk (st := s_Trip_do_edit) l_Trip_do_edit c_Trip_do_edit k_Trip_do_edit
  have b_Trip_do_edit := F_Trip_do_edit.binds (ps := ["self", "edit", "latest"]) fun _ _ _ _ _ _ us hl => match us, hl with | [_, _, _], _ => rfl
  have F_Trip_check_not_watched := fun_mk (st := s_Trip_check_not_watched) l_Trip_check_not_watched c_Trip_check_not_watched k_Trip_check_not_watched
  have b_Trip_check_not_watched := F_Trip_check_not_watched.binds (ps := ["self"]) fun _ _ _ _ _ _ us hl => match us, hl with | [_], _ => rfl
  have F_Trip_undo := fun_mk (st := s_Trip_undo) l_Trip_undo c_Trip_undo k_Trip_undo
  have b_Trip_undo := F_Trip_undo.binds (ps := ["self"]) fun _ _ _ _ _ _ us hl => match us, hl with | [_], _ => rfl
  have F_Trip_call_edit := fun_mk (st := s_Trip_call_edit) l_Trip_call_edit c_Trip_call_edit k_Trip_call_edit
  have b_Trip_call_edit := F_Trip_call_edit.binds (ps := ["self", "edit"]) fun _ _ _ _ _ _ us hl => match us, hl with | [_, _], _ => rfl
  have F_Trip_state := fun_mk (st := s_Trip_state) l_Trip_state c_Trip_state k_Trip_state
  have b_Trip_state : Binds K (PySem.W.fnOf "state" "Trip.state" (defArgs s_Trip_state) (defBody s_Trip_state) (defScope s_Trip_state) .none (.ref kD_Trip_state) dc_Trip_state pm_Trip_state an_Trip_state cd_Trip_state ct_Trip_state) ["self", "version"] [.none] := bindsN_of (fun us hl => match us, hl with | [_], _ => ⟨_, _, _, _, _, _, rfl, rfl, rfl⟩) kw_Trip_state
  have kb_Trip_state : KB1 K (PySem.W.fnOf "state" "Trip.state" (defArgs s_Trip_state) (defBody s_Trip_state) (defScope s_Trip_state) .none (.ref kD_Trip_state) dc_Trip_state pm_Trip_state an_Trip_state cd_Trip_state ct_Trip_state) ["self", "version"] "version" := kb1_of fun us u hl => match us, hl with | [_], _ => rfl
  have F_Trip_certificate := fun_mk (st := s_Trip_certificate) l_Trip_certificate c_Trip_certificate k_Trip_certificate
  have b_Trip_certificate : Binds K (PySem.W.fnOf "certificate" "Trip.certificate" (defArgs s_Trip_certificate) (defBody s_Trip_certificate) (defScope s_Trip_certificate) .none (.ref kD_Trip_certificate) dc_Trip_certificate pm_Trip_certificate an_Trip_certificate cd_Trip_certificate ct_Trip_certificate) ["self", "end", "version"] [.none] := bindsN_of (fun us hl => match us, hl with | [_, _], _ => ⟨_, _, _, _, _, _, rfl, rfl, rfl⟩) kw_Trip_certificate
  have kb_Trip_certificate : KB1 K (PySem.W.fnOf "certificate" "Trip.certificate" (defArgs s_Trip_certificate) (defBody s_Trip_certificate) (defScope s_Trip_certificate) .none (.ref kD_Trip_certificate) dc_Trip_certificate pm_Trip_certificate an_Trip_certificate cd_Trip_certificate ct_Trip_certificate) ["self", "end", "version"] "version" := kb1_of fun us u hl => match us, hl with | [_, _], _ => rfl
  have F_Trip___len__ := fun_mk (st := s_Trip___len__) l_Trip___len__ c_Trip___len__ k_Trip___len__
  have b_Trip___len__ := F_Trip___len__.binds (ps := ["self"]) fun _ _ _ _ _ _ us hl => match us, hl with | [_], _ => rfl
  have F_PromisedTrip___init__ := fun_mk (st := s_PromisedTrip___init__) l_PromisedTrip___init__ c_PromisedTrip___init__ k_PromisedTrip___init__
  have b_PromisedTrip___init__ := F_PromisedTrip___init__.binds (ps := ["self", "road", "starts", "latest"]) fun _ _ _ _ _ _ us hl => match us, hl with | [_, _, _, _], _ => rfl
  have F_PromisedTrip_come := fun_mk (st := s_PromisedTrip_come) l_PromisedTrip_come c_PromisedTrip_come k_PromisedTrip_come
  have b_PromisedTrip_come := F_PromisedTrip_come.binds (ps := ["self", "start"]) fun _ _ _ _ _ _ us hl => match us, hl with | [_, _], _ => rfl
  have F_PromisedTrip_leave := fun_mk (st := s_PromisedTrip_leave) l_PromisedTrip_leave c_PromisedTrip_leave k_PromisedTrip_leave
  have b_PromisedTrip_leave := F_PromisedTrip_leave.binds (ps := ["self", "person"]) fun _ _ _ _ _ _ us hl => match us, hl with | [_, _], _ => rfl
  have F_PromisedTrip_place := fun_mk (st := s_PromisedTrip_place) l_PromisedTrip_place c_PromisedTrip_place k_PromisedTrip_place
  have b_PromisedTrip_place := F_PromisedTrip_place.binds (ps := ["self", "station", "count"]) fun _ _ _ _ _ _ us hl => match us, hl with | [_, _, _], _ => rfl
  have F_PromisedTrip_take := fun_mk (st := s_PromisedTrip_take) l_PromisedTrip_take c_PromisedTrip_take k_PromisedTrip_take
  have b_PromisedTrip_take := F_PromisedTrip_take.binds (ps := ["self", "station", "count"]) fun _ _ _ _ _ _ us hl => match us, hl with | [_, _, _], _ => rfl
  have F_law := fun_mk (st := s_law) l_law c_law k_law
  have b_law := F_law.binds (ps := ["_law_script"]) fun _ _ _ _ _ _ us hl => match us, hl with | [_], _ => rfl
  have cl_Shell : Cls K C_Shell := ⟨pg_Shell, hd_Shell, po_Shell, sa_Shell⟩
  have cl_Promise : Cls K C_Promise := ⟨pg_Promise, hd_Promise, po_Promise, sa_Promise⟩
  have cl_Trip : Cls K C_Trip := ⟨pg_Trip, hd_Trip, po_Trip, sa_Trip⟩
  have cl_PromisedTrip : Cls K C_PromisedTrip := ⟨pg_PromisedTrip, hd_PromisedTrip, po_PromisedTrip, sa_PromisedTrip⟩
  have E_BadStart : OwnI K C_BadStart := ⟨⟨xga_BadStart, xgg_BadStart, xeC_BadStart, xhd_BadStart⟩, xiC_BadStart, xcl_BadStart, cgE, ctE, xco_BadStart⟩
  have L_BadStart : ErrC K C_BadStart [.type "ValueError", .type "Exception", .type "BaseException", .type "object"] "ValueError.__new__" := ⟨xmk_BadStart, xov_BadStart, xhd_BadStart, xsa_BadStart, xeC_BadStart, xtC_BadStart, xkC_BadStart⟩
  have FI_BadStart := fun_mk (st := si_BadStart) lI_BadStart cI_BadStart kI_BadStart
  have bI_BadStart := FI_BadStart.binds (ps := ["self", "value"]) fun _ _ _ _ _ _ us hl => match us, hl with | [_, _], _ => rfl
  have E_TooManyPeople : OwnI K C_TooManyPeople := ⟨⟨xga_TooManyPeople, xgg_TooManyPeople, xeC_TooManyPeople, xhd_TooManyPeople⟩, xiC_TooManyPeople, xcl_TooManyPeople, cgE, ctE, xco_TooManyPeople⟩
  have E_NoPerson : OwnI K C_NoPerson := ⟨⟨xga_NoPerson, xgg_NoPerson, xeC_NoPerson, xhd_NoPerson⟩, xiC_NoPerson, xcl_NoPerson, cgE, ctE, xco_NoPerson⟩
  have L_NoPerson : ErrC K C_NoPerson [.type "LookupError", .type "Exception", .type "BaseException", .type "object"] "LookupError.__new__" := ⟨xmk_NoPerson, xov_NoPerson, xhd_NoPerson, xsa_NoPerson, xeC_NoPerson, xtC_NoPerson, xkC_NoPerson⟩
  have FI_NoPerson := fun_mk (st := si_NoPerson) lI_NoPerson cI_NoPerson kI_NoPerson
  have bI_NoPerson := FI_NoPerson.binds (ps := ["self", "value"]) fun _ _ _ _ _ _ us hl => match us, hl with | [_, _], _ => rfl
  have E_LastPerson : OwnI K C_LastPerson := ⟨⟨xga_LastPerson, xgg_LastPerson, xeC_LastPerson, xhd_LastPerson⟩, xiC_LastPerson, xcl_LastPerson, cgE, ctE, xco_LastPerson⟩
  have E_TooMuch : OwnI K C_TooMuch := ⟨⟨xga_TooMuch, xgg_TooMuch, xeC_TooMuch, xhd_TooMuch⟩, xiC_TooMuch, xcl_TooMuch, cgE, ctE, xco_TooMuch⟩
  have L_TooMuch : ErrC K C_TooMuch [.type "ValueError", .type "Exception", .type "BaseException", .type "object"] "ValueError.__new__" := ⟨xmk_TooMuch, xov_TooMuch, xhd_TooMuch, xsa_TooMuch, xeC_TooMuch, xtC_TooMuch, xkC_TooMuch⟩
  have FI_TooMuch := fun_mk (st := si_TooMuch) lI_TooMuch cI_TooMuch kI_TooMuch
  have bI_TooMuch := FI_TooMuch.binds (ps := ["self", "total"]) fun _ _ _ _ _ _ us hl => match us, hl with | [_, _], _ => rfl
  have E_TooFew : OwnI K C_TooFew := ⟨⟨xga_TooFew, xgg_TooFew, xeC_TooFew, xhd_TooFew⟩, xiC_TooFew, xcl_TooFew, cgE, ctE, xco_TooFew⟩
  have L_TooFew : ErrC K C_TooFew [.type "ValueError", .type "Exception", .type "BaseException", .type "object"] "ValueError.__new__" := ⟨xmk_TooFew, xov_TooFew, xhd_TooFew, xsa_TooFew, xeC_TooFew, xtC_TooFew, xkC_TooFew⟩
  have FI_TooFew := fun_mk (st := si_TooFew) lI_TooFew cI_TooFew kI_TooFew
  have bI_TooFew := FI_TooFew.binds (ps := ["self", "present"]) fun _ _ _ _ _ _ us hl => match us, hl with | [_, _], _ => rfl
  have E_NoStation : OwnI K C_NoStation := ⟨⟨xga_NoStation, xgg_NoStation, xeC_NoStation, xhd_NoStation⟩, xiC_NoStation, xcl_NoStation, cgE, ctE, xco_NoStation⟩
  have L_NoStation : ErrC K C_NoStation [.type "LookupError", .type "Exception", .type "BaseException", .type "object"] "LookupError.__new__" := ⟨xmk_NoStation, xov_NoStation, xhd_NoStation, xsa_NoStation, xeC_NoStation, xtC_NoStation, xkC_NoStation⟩
  have FI_NoStation := fun_mk (st := si_NoStation) lI_NoStation cI_NoStation kI_NoStation
  have bI_NoStation := FI_NoStation.binds (ps := ["self", "value"]) fun _ _ _ _ _ _ us hl => match us, hl with | [_, _], _ => rfl
  have E_BadCount : OwnI K C_BadCount := ⟨⟨xga_BadCount, xgg_BadCount, xeC_BadCount, xhd_BadCount⟩, xiC_BadCount, xcl_BadCount, cgE, ctE, xco_BadCount⟩
  have L_BadCount : ErrC K C_BadCount [.type "ValueError", .type "Exception", .type "BaseException", .type "object"] "ValueError.__new__" := ⟨xmk_BadCount, xov_BadCount, xhd_BadCount, xsa_BadCount, xeC_BadCount, xtC_BadCount, xkC_BadCount⟩
  have FI_BadCount := fun_mk (st := si_BadCount) lI_BadCount cI_BadCount kI_BadCount
  have bI_BadCount := FI_BadCount.binds (ps := ["self", "value"]) fun _ _ _ _ _ _ us hl => match us, hl with | [_, _], _ => rfl
  have E_BadEnd : OwnI K C_BadEnd := ⟨⟨xga_BadEnd, xgg_BadEnd, xeC_BadEnd, xhd_BadEnd⟩, xiC_BadEnd, xcl_BadEnd, cgE, ctE, xco_BadEnd⟩
  have L_BadEnd : ErrC K C_BadEnd [.type "ValueError", .type "Exception", .type "BaseException", .type "object"] "ValueError.__new__" := ⟨xmk_BadEnd, xov_BadEnd, xhd_BadEnd, xsa_BadEnd, xeC_BadEnd, xtC_BadEnd, xkC_BadEnd⟩
  have FI_BadEnd := fun_mk (st := si_BadEnd) lI_BadEnd cI_BadEnd kI_BadEnd
  have bI_BadEnd := FI_BadEnd.binds (ps := ["self", "value"]) fun _ _ _ _ _ _ us hl => match us, hl with | [_, _], _ => rfl
  have E_BadRoad : OwnI K C_BadRoad := ⟨⟨xga_BadRoad, xgg_BadRoad, xeC_BadRoad, xhd_BadRoad⟩, xiC_BadRoad, xcl_BadRoad, cgE, ctE, xco_BadRoad⟩
  have L_BadRoad : ErrC K C_BadRoad [.type "ValueError", .type "Exception", .type "BaseException", .type "object"] "ValueError.__new__" := ⟨xmk_BadRoad, xov_BadRoad, xhd_BadRoad, xsa_BadRoad, xeC_BadRoad, xtC_BadRoad, xkC_BadRoad⟩
  have FI_BadRoad := fun_mk (st := si_BadRoad) lI_BadRoad cI_BadRoad kI_BadRoad
  have bI_BadRoad := FI_BadRoad.binds (ps := ["self", "error"]) fun _ _ _ _ _ _ us hl => match us, hl with | [_, _], _ => rfl
  have E_BadStarts : OwnI K C_BadStarts := ⟨⟨xga_BadStarts, xgg_BadStarts, xeC_BadStarts, xhd_BadStarts⟩, xiC_BadStarts, xcl_BadStarts, cgE, ctE, xco_BadStarts⟩
  have L_BadStarts : ErrC K C_BadStarts [.type "ValueError", .type "Exception", .type "BaseException", .type "object"] "ValueError.__new__" := ⟨xmk_BadStarts, xov_BadStarts, xhd_BadStarts, xsa_BadStarts, xeC_BadStarts, xtC_BadStarts, xkC_BadStarts⟩
  have FI_BadStarts := fun_mk (st := si_BadStarts) lI_BadStarts cI_BadStarts kI_BadStarts
  have bI_BadStarts := FI_BadStarts.binds (ps := ["self", "value"]) fun _ _ _ _ _ _ us hl => match us, hl with | [_, _], _ => rfl
  have E_TooManyEdits : OwnI K C_TooManyEdits := ⟨⟨xga_TooManyEdits, xgg_TooManyEdits, xeC_TooManyEdits, xhd_TooManyEdits⟩, xiC_TooManyEdits, xcl_TooManyEdits, cgE, ctE, xco_TooManyEdits⟩
  have E_TooLate : OwnI K C_TooLate := ⟨⟨xga_TooLate, xgg_TooLate, xeC_TooLate, xhd_TooLate⟩, xiC_TooLate, xcl_TooLate, cgE, ctE, xco_TooLate⟩
  have L_TooLate : ErrC K C_TooLate [.type "ValueError", .type "Exception", .type "BaseException", .type "object"] "ValueError.__new__" := ⟨xmk_TooLate, xov_TooLate, xhd_TooLate, xsa_TooLate, xeC_TooLate, xtC_TooLate, xkC_TooLate⟩
  have FI_TooLate := fun_mk (st := si_TooLate) lI_TooLate cI_TooLate kI_TooLate
  have bI_TooLate := FI_TooLate.binds (ps := ["self", "tick"]) fun _ _ _ _ _ _ us hl => match us, hl with | [_, _], _ => rfl
  have E_Busy : OwnI K C_Busy := ⟨⟨xga_Busy, xgg_Busy, xeC_Busy, xhd_Busy⟩, xiC_Busy, xcl_Busy, cgE, ctE, xco_Busy⟩
  have E_NothingToUndo : OwnI K C_NothingToUndo := ⟨⟨xga_NothingToUndo, xgg_NothingToUndo, xeC_NothingToUndo, xhd_NothingToUndo⟩, xiC_NothingToUndo, xcl_NothingToUndo, cgE, ctE, xco_NothingToUndo⟩
  have E_NoVersion : OwnI K C_NoVersion := ⟨⟨xga_NoVersion, xgg_NoVersion, xeC_NoVersion, xhd_NoVersion⟩, xiC_NoVersion, xcl_NoVersion, cgE, ctE, xco_NoVersion⟩
  have L_NoVersion : ErrC K C_NoVersion [.type "LookupError", .type "Exception", .type "BaseException", .type "object"] "LookupError.__new__" := ⟨xmk_NoVersion, xov_NoVersion, xhd_NoVersion, xsa_NoVersion, xeC_NoVersion, xtC_NoVersion, xkC_NoVersion⟩
  have FI_NoVersion := fun_mk (st := si_NoVersion) lI_NoVersion cI_NoVersion kI_NoVersion
  have bI_NoVersion := FI_NoVersion.binds (ps := ["self", "value"]) fun _ _ _ _ _ _ us hl => match us, hl with | [_, _], _ => rfl
  exact ⟨_, fun s v => .of_eq rfl, fun base _ _ => G_law (⟨_, _, F_is_number_from, PySem.W.mg_of X G a_is_number_from, b_is_number_from, _, _, F_is_end, PySem.W.mg_of X G a_is_end, b_is_end, _, _, F_is_starts, PySem.W.mg_of X G a_is_starts, b_is_starts, _, _, F_road_error, PySem.W.mg_of X G a_road_error, b_road_error, _, _, F_counts_of, PySem.W.mg_of X G a_counts_of, b_counts_of, _, _, F_room_of, PySem.W.mg_of X G a_room_of, b_room_of, _, _, F_with_further, PySem.W.mg_of X G a_with_further, b_with_further, _, _, F_is_edit, PySem.W.mg_of X G a_is_edit, b_is_edit, _, _, F_changed, PySem.W.mg_of X G a_changed, b_changed, _, _, F_with_person, PySem.W.mg_of X G a_with_person, b_with_person, _, _, F_without_person, PySem.W.mg_of X G a_without_person, b_without_person, _, _, F_with_more_bikes, PySem.W.mg_of X G a_with_more_bikes, b_with_more_bikes, _, _, F_with_fewer_bikes, PySem.W.mg_of X G a_with_fewer_bikes, b_with_fewer_bikes, _, _, F_check_bikes, PySem.W.mg_of X G a_check_bikes, b_check_bikes, _, _, F_ticks_of, PySem.W.mg_of X G a_ticks_of, b_ticks_of, _, _, F_bike_ticks, PySem.W.mg_of X G a_bike_ticks, b_bike_ticks, _, _, F_leaving_ticks, PySem.W.mg_of X G a_leaving_ticks, b_leaving_ticks, _, _, F_finish_of, PySem.W.mg_of X G a_finish_of, b_finish_of, _, _, F_rule_plan, PySem.W.mg_of X G a_rule_plan, b_rule_plan, _, _, F_greatest, PySem.W.mg_of X G a_greatest, b_greatest, _, _, F_least_finish, PySem.W.mg_of X G a_least_finish, b_least_finish, _, _, F_needs_of, PySem.W.mg_of X G a_needs_of, b_needs_of, _, _, F_find_certificate, PySem.W.mg_of X G a_find_certificate, b_find_certificate, _, _, F_excluding_people, PySem.W.mg_of X G a_excluding_people, b_excluding_people, _, _, F_exclude, PySem.W.mg_of X G a_exclude, b_exclude, _, _, F_trip_text, PySem.W.mg_of X G a_trip_text, b_trip_text, _, _, F_listed, PySem.W.mg_of X G a_listed, b_listed, _, _, F_number_in, PySem.W.mg_of X G a_number_in, b_number_in, _, _, F_command_in, PySem.W.mg_of X G a_command_in, b_command_in, _, _, F_riders_text, PySem.W.mg_of X G a_riders_text, b_riders_text, _, _, F__law_deck, PySem.W.mg_of X G a__law_deck, b__law_deck, _, _, F__law_draw, PySem.W.mg_of X G a__law_draw, b__law_draw, _, _, F__law_state, PySem.W.mg_of X G a__law_state, b__law_state, _, _, F__law_numbers_text, PySem.W.mg_of X G a__law_numbers_text, b__law_numbers_text, _, _, F__law_trip_text, PySem.W.mg_of X G a__law_trip_text, b__law_trip_text, _, _, F__law_rule, PySem.W.mg_of X G a__law_rule, b__law_rule, _, _, F__law_edit, PySem.W.mg_of X G a__law_edit, b__law_edit, _, _, F__law_after, PySem.W.mg_of X G a__law_after, b__law_after, _, _, F__law_do, PySem.W.mg_of X G a__law_do, b__law_do, _, _, F__law_answers, PySem.W.mg_of X G a__law_answers, b__law_answers, _, _, F__law_heard, PySem.W.mg_of X G a__law_heard, b__law_heard, _, _, F__law_made, PySem.W.mg_of X G a__law_made, b__law_made, _, _, F_Shell___init__, b_Shell___init__, _, _, F_Shell_execute, b_Shell_execute, _, _, F_Shell_answer, b_Shell_answer, _, _, F_Promise___init__, b_Promise___init__, _, _, F_Promise_latest, b_Promise_latest, _, _, F_Trip___init__, b_Trip___init__, _, _, F_Trip_road, b_Trip_road, _, _, F_Trip_starts, b_Trip_starts, _, _, F_Trip_finish, b_Trip_finish, _, _, F_Trip_come, b_Trip_come, _, _, F_Trip_leave, b_Trip_leave, _, _, F_Trip_place, b_Trip_place, _, _, F_Trip_take, b_Trip_take, _, _, F_Trip_do_edit, b_Trip_do_edit, _, _, F_Trip_check_not_watched, b_Trip_check_not_watched, _, _, F_Trip_undo, b_Trip_undo, _, _, F_Trip_call_edit, b_Trip_call_edit, _, _, F_Trip_state, b_Trip_state, kb_Trip_state, _, _, F_Trip_certificate, b_Trip_certificate, kb_Trip_certificate, _, _, F_Trip___len__, b_Trip___len__, _, _, F_PromisedTrip___init__, b_PromisedTrip___init__, _, _, F_PromisedTrip_come, b_PromisedTrip_come, _, _, F_PromisedTrip_leave, b_PromisedTrip_leave, _, _, F_PromisedTrip_place, b_PromisedTrip_place, _, _, F_PromisedTrip_take, b_PromisedTrip_take, _, _, F_law, PySem.W.mg_of X G a_law, b_law, _, PySem.W.mg_of X G aC_BadStarts, _, PySem.W.mg_of X G aC_TooManyPeople, _, PySem.W.mg_of X G aC_TooLate, _, PySem.W.mg_of X G aC_BadRoad, _, PySem.W.mg_of X G aC_Busy, _, PySem.W.mg_of X G aC_TooManyEdits, _, PySem.W.mg_of X G aC_BadStart, _, PySem.W.mg_of X G aC_LastPerson, _, PySem.W.mg_of X G aC_BadCount, _, PySem.W.mg_of X G aC_TooMuch, _, PySem.W.mg_of X G aC_TooFew, _, PySem.W.mg_of X G aC_NothingToUndo, _, PySem.W.mg_of X G aC_BadEnd, _, PySem.W.mg_of X G aC_NoPerson, _, PySem.W.mg_of X G aC_NoStation, _, PySem.W.mg_of X G aC_NoVersion, _, PySem.W.mg_of X G aC_Shell, _, PySem.W.mg_of X G aC_Promise, _, PySem.W.mg_of X G aC_Trip, _, PySem.W.mg_of X G aC_PromisedTrip, cl_Shell, cl_Promise, cl_Trip, cl_PromisedTrip, na_Promise_promised, na_PromisedTrip_done, na_PromisedTrip_promised, na_PromisedTrip_versions, na_PromisedTrip_watched, na_Shell_trip, na_Trip_done, na_Trip_versions, na_Trip_watched, ⟨mm_PromisedTrip, mi_PromisedTrip, mf_PromisedTrip, mk_PromisedTrip⟩, ⟨mm_Shell, mi_Shell, mf_Shell, mk_Shell⟩, ⟨mm_Trip, mi_Trip, mf_Trip, mk_Trip⟩, ⟨ma_PromisedTrip_call_edit, mn_PromisedTrip_call_edit, k_Trip_call_edit⟩, ⟨ma_PromisedTrip_certificate, mn_PromisedTrip_certificate, k_Trip_certificate⟩, ⟨ma_PromisedTrip_check_not_watched, mn_PromisedTrip_check_not_watched, k_Trip_check_not_watched⟩, ⟨ma_PromisedTrip_come, mn_PromisedTrip_come, k_PromisedTrip_come⟩, ⟨ma_PromisedTrip_do_edit, mn_PromisedTrip_do_edit, k_Trip_do_edit⟩, ⟨ma_PromisedTrip_leave, mn_PromisedTrip_leave, k_PromisedTrip_leave⟩, ⟨ma_PromisedTrip_place, mn_PromisedTrip_place, k_PromisedTrip_place⟩, ⟨ma_PromisedTrip_state, mn_PromisedTrip_state, k_Trip_state⟩, ⟨ma_PromisedTrip_take, mn_PromisedTrip_take, k_PromisedTrip_take⟩, ⟨ma_PromisedTrip_undo, mn_PromisedTrip_undo, k_Trip_undo⟩, ⟨ma_Shell_answer, mn_Shell_answer, k_Shell_answer⟩, ⟨ma_Shell_execute, mn_Shell_execute, k_Shell_execute⟩, ⟨ma_Trip_call_edit, mn_Trip_call_edit, k_Trip_call_edit⟩, ⟨ma_Trip_certificate, mn_Trip_certificate, k_Trip_certificate⟩, ⟨ma_Trip_check_not_watched, mn_Trip_check_not_watched, k_Trip_check_not_watched⟩, ⟨ma_Trip_come, mn_Trip_come, k_Trip_come⟩, ⟨ma_Trip_do_edit, mn_Trip_do_edit, k_Trip_do_edit⟩, ⟨ma_Trip_leave, mn_Trip_leave, k_Trip_leave⟩, ⟨ma_Trip_place, mn_Trip_place, k_Trip_place⟩, ⟨ma_Trip_state, mn_Trip_state, k_Trip_state⟩, ⟨ma_Trip_take, mn_Trip_take, k_Trip_take⟩, ⟨ma_Trip_undo, mn_Trip_undo, k_Trip_undo⟩, _, ⟨pa_PromisedTrip_finish, pg2_Trip_finish, pt_Trip_finish, _, rc_Trip_finish⟩, _, ⟨pa_PromisedTrip_latest, pg2_Promise_latest, pt_Promise_latest, _, rc_Promise_latest⟩, _, ⟨pa_PromisedTrip_road, pg2_Trip_road, pt_Trip_road, _, rc_Trip_road⟩, _, ⟨pa_PromisedTrip_starts, pg2_Trip_starts, pt_Trip_starts, _, rc_Trip_starts⟩, _, ⟨pa_Trip_finish, pg2_Trip_finish, pt_Trip_finish, _, rc_Trip_finish⟩, _, ⟨pa_Trip_road, pg2_Trip_road, pt_Trip_road, _, rc_Trip_road⟩, _, ⟨pa_Trip_starts, pg2_Trip_starts, pt_Trip_starts, _, rc_Trip_starts⟩, con_of (PySem.W.mg_of X G aC_PromisedTrip) cl_PromisedTrip ⟨co_PromisedTrip_MOST_EDITS, ⟨_, rfl⟩, cg_PromisedTrip_MOST_EDITS, by decide +kernel⟩, con_of (PySem.W.mg_of X G aC_Trip) cl_Trip ⟨co_Trip_MOST_EDITS, ⟨_, rfl⟩, cg_Trip_MOST_EDITS, by decide +kernel⟩, ln_PromisedTrip, lnf_PromisedTrip, ln_Trip, lnf_Trip, E_BadStart, L_BadStart, xnb_BadStart, _, _, ini_BadStart, tI_BadStart, FI_BadStart, bI_BadStart, E_TooManyPeople, xq_TooManyPeople, xkC_TooManyPeople, xeC_TooManyPeople, xtC_TooManyPeople, E_NoPerson, L_NoPerson, xnb_NoPerson, _, _, ini_NoPerson, tI_NoPerson, FI_NoPerson, bI_NoPerson, E_LastPerson, xq_LastPerson, xkC_LastPerson, xeC_LastPerson, xtC_LastPerson, E_TooMuch, L_TooMuch, xnb_TooMuch, _, _, ini_TooMuch, tI_TooMuch, FI_TooMuch, bI_TooMuch, E_TooFew, L_TooFew, xnb_TooFew, _, _, ini_TooFew, tI_TooFew, FI_TooFew, bI_TooFew, E_NoStation, L_NoStation, xnb_NoStation, _, _, ini_NoStation, tI_NoStation, FI_NoStation, bI_NoStation, E_BadCount, L_BadCount, xnb_BadCount, _, _, ini_BadCount, tI_BadCount, FI_BadCount, bI_BadCount, E_BadEnd, L_BadEnd, xnb_BadEnd, _, _, ini_BadEnd, tI_BadEnd, FI_BadEnd, bI_BadEnd, E_BadRoad, L_BadRoad, xnb_BadRoad, _, _, ini_BadRoad, tI_BadRoad, FI_BadRoad, bI_BadRoad, E_BadStarts, L_BadStarts, xnb_BadStarts, _, _, ini_BadStarts, tI_BadStarts, FI_BadStarts, bI_BadStarts, E_TooManyEdits, xq_TooManyEdits, xkC_TooManyEdits, xeC_TooManyEdits, xtC_TooManyEdits, E_TooLate, L_TooLate, xnb_TooLate, _, _, ini_TooLate, tI_TooLate, FI_TooLate, bI_TooLate, E_Busy, xq_Busy, xkC_Busy, xeC_Busy, xtC_Busy, E_NothingToUndo, xq_NothingToUndo, xkC_NothingToUndo, xeC_NothingToUndo, xtC_NothingToUndo, E_NoVersion, L_NoVersion, xnb_NoVersion, _, _, ini_NoVersion, tI_NoVersion, FI_NoVersion, bI_NoVersion, rd_Promise, ra_Promise, rd_Trip, ra_Trip, fc_Promise___init__, fc_Trip___init__, _, _, _, PySem.W.mg_of X G gk_EDIT_LENGTHS, lk_EDIT_LENGTHS, yk_EDIT_LENGTHS, dk_EDIT_LENGTHS, _, PySem.W.mg_of X G v_LIMIT, _, PySem.W.mg_of X G v_MAX_PEOPLE, _, PySem.W.mg_of X G v_MAX_START, _, PySem.W.mg_of X G v_MAX_TICKS, _, PySem.W.mg_of X G v_MAX_STAGES, _, PySem.W.mg_of X G v_MAX_BIKES, _, PySem.W.mg_of X G v_MOST, PySem.W.mg_none_of X G z_abs, PySem.W.mg_none_of X G z_bool, PySem.W.mg_none_of X G z_enumerate, PySem.W.mg_none_of X G z_int, PySem.W.mg_none_of X G z_isinstance, PySem.W.mg_none_of X G z_len, PySem.W.mg_none_of X G z_list, PySem.W.mg_none_of X G z_max, PySem.W.mg_none_of X G z_min, PySem.W.mg_none_of X G z_range, PySem.W.mg_none_of X G z_sorted, PySem.W.mg_none_of X G z_str, PySem.W.mg_none_of X G z_sum, PySem.W.mg_none_of X G z_tuple, PySem.W.mg_none_of X G z_zip⟩ : Tx K mg w.params)⟩
end Pu
namespace PuHd
open PySem PySem.W PySem.Calls PyProof.Rows
theorem gA (w : World) (os : OsState) : PhA w os := hBoth (P := PhA) "special-get-raises" hAt hAf w os
theorem gB (w : World) (os : OsState) : PhB w os := hBoth (P := PhB) "special-get-raises" hBt hBf w os
theorem gD (w : World) (os : OsState) : PhD w os := hBoth (P := PhD) "special-get-raises" hDt hDf w os
theorem gG (w : World) (os : OsState) : PhG w os := hBoth (P := PhG) "special-get-raises" hGt hGf w os
theorem gJ (w : World) (os : OsState) : PhJ w os := hBoth (P := PhJ) "special-get-raises" hJt hJf w os
theorem gBCD (w : World) (os : OsState) : Option.map (fun s => hSeen s.abs) (hEnd w os) = some (openGood hq hLo) := run9 (gB w os) (oSnd (gA w os)) (gD w os) (gG w os) (gJ w os)
end PuHd
open PySem PySem.W PySem.Calls PyProof.Rows in
local macro_rules
  | `(tactic| o_headL $h:term) => do
    let hw := Lean.mkIdent `hw
    let hc := Lean.mkIdent `hc
    `(tactic| (refine holds_open (q := PuHd.hq) (loose := PuHd.hLo) (Xt := fun s => xlAt PuHd.hq PuHd.hLv s && recOk PySem.Challenge.rw_roadbikes_k58_shell_queries.row.records s) (XP := XL PuHd.hq PuHd.hLv) (Yf := Hook.obs $h) (Ya := Hook.val $h) (YP := Hook.says $h) (N := 17188) (HeadRun.left_oneK (M := 16488) (by kernel_rfl) (by rfl) (fun s => by kernel_rfl) (by rfl) (fun w os => PuHd.run2 (Eq.mp (by kernel_rfl) (PuHd.oFst (PuHd.gA w os))) (Eq.mp (by kernel_rfl) (PuHd.gBCD w os)))) (Hook.of $h) (Hook.keeps $h) (fun s e => xl_of s (Bool.and_eq_true_iff.mp e).1) XL.keeps (by rfl) (by rfl) (by rfl) (fun s e => recFacts_of (Bool.and_eq_true_iff.mp e).2) (by rfl) (by first | assumption | decide +kernel) (by decide +kernel) ⟨rfl, rfl, rfl, rfl, rfl, by decide +kernel⟩ ?$hw:ident ?$hc:ident))
open PySem PySem.W PyProof.Rows
set_option maxHeartbeats 0 in
theorem PySem.Challenge.cw_roadbikes_k58_shell_queries_holds : PySem.Challenge.rw_roadbikes_k58_shell_queries.Holds := by
  w_on; o_law; k_headL; (case hw => w_witness2)
  k_fill
  refine Pu.endP (l := PySem.Challenge.rw_roadbikes_k58_shell_queries) (n := 63) (lv := 12) (x := "_law_script") (FL := Pu.F_law_k58) rfl (by decide) rfl ⟨rfl, by decide, by decide⟩ (fun w h Y => PySem.W.kIn_of Y) ?F Pu.law_ok
  case F =>
    intro w mg fa h KX G hmg
    refine' Pu.all_mk KX G hmg ?aC_BadStarts ?aC_TooManyPeople ?aC_TooLate ?aC_BadRoad ?aC_Busy ?aC_TooManyEdits ?aC_BadStart ?aC_LastPerson ?aC_BadCount ?aC_TooMuch ?aC_TooFew ?aC_NothingToUndo ?aC_BadEnd ?aC_NoPerson ?aC_NoStation ?aC_NoVersion ?aC_Shell ?aC_Promise ?aC_Trip ?aC_PromisedTrip ?a_is_number_from ?l_is_number_from ?c_is_number_from ?k_is_number_from ?a_is_end ?l_is_end ?c_is_end ?k_is_end ?a_is_starts ?l_is_starts ?c_is_starts ?k_is_starts ?a_road_error ?l_road_error ?c_road_error ?k_road_error ?a_counts_of ?l_counts_of ?c_counts_of ?k_counts_of ?a_room_of ?l_room_of ?c_room_of ?k_room_of ?a_with_further ?l_with_further ?c_with_further ?k_with_further ?a_is_edit ?l_is_edit ?c_is_edit ?k_is_edit ?a_changed ?l_changed ?c_changed ?k_changed ?a_with_person ?l_with_person ?c_with_person ?k_with_person ?a_without_person ?l_without_person ?c_without_person ?k_without_person ?a_with_more_bikes ?l_with_more_bikes ?c_with_more_bikes ?k_with_more_bikes ?a_with_fewer_bikes ?l_with_fewer_bikes ?c_with_fewer_bikes ?k_with_fewer_bikes ?a_check_bikes ?l_check_bikes ?c_check_bikes ?k_check_bikes ?a_ticks_of ?l_ticks_of ?c_ticks_of ?k_ticks_of ?a_bike_ticks ?l_bike_ticks ?c_bike_ticks ?k_bike_ticks ?a_leaving_ticks ?l_leaving_ticks ?c_leaving_ticks ?k_leaving_ticks ?a_finish_of ?l_finish_of ?c_finish_of ?k_finish_of ?a_rule_plan ?l_rule_plan ?c_rule_plan ?k_rule_plan ?a_greatest ?l_greatest ?c_greatest ?k_greatest ?a_least_finish ?l_least_finish ?c_least_finish ?k_least_finish ?a_needs_of ?l_needs_of ?c_needs_of ?k_needs_of ?a_find_certificate ?l_find_certificate ?c_find_certificate ?k_find_certificate ?a_excluding_people ?l_excluding_people ?c_excluding_people ?k_excluding_people ?a_exclude ?l_exclude ?c_exclude ?k_exclude ?a_trip_text ?l_trip_text ?c_trip_text ?k_trip_text ?a_listed ?l_listed ?c_listed ?k_listed ?a_number_in ?l_number_in ?c_number_in ?k_number_in ?a_command_in ?l_command_in ?c_command_in ?k_command_in ?a_riders_text ?l_riders_text ?c_riders_text ?k_riders_text ?a__law_deck ?l__law_deck ?c__law_deck ?k__law_deck ?a__law_draw ?l__law_draw ?c__law_draw ?k__law_draw ?a__law_state ?l__law_state ?c__law_state ?k__law_state ?a__law_numbers_text ?l__law_numbers_text ?c__law_numbers_text ?k__law_numbers_text ?a__law_trip_text ?l__law_trip_text ?c__law_trip_text ?k__law_trip_text ?a__law_rule ?l__law_rule ?c__law_rule ?k__law_rule ?a__law_edit ?l__law_edit ?c__law_edit ?k__law_edit ?a__law_after ?l__law_after ?c__law_after ?k__law_after ?a__law_do ?l__law_do ?c__law_do ?k__law_do ?a__law_answers ?l__law_answers ?c__law_answers ?k__law_answers ?a__law_heard ?l__law_heard ?c__law_heard ?k__law_heard ?a__law_made ?l__law_made ?c__law_made ?k__law_made ?w_Shell___init__ ?l_Shell___init__ ?c_Shell___init__ ?k_Shell___init__ ?w_Shell_execute ?l_Shell_execute ?c_Shell_execute ?k_Shell_execute ?w_Shell_answer ?l_Shell_answer ?c_Shell_answer ?k_Shell_answer ?w_Promise___init__ ?l_Promise___init__ ?c_Promise___init__ ?k_Promise___init__ ?w_Promise_latest ?rc_Promise_latest ?l_Promise_latest ?c_Promise_latest ?k_Promise_latest ?w_Trip___init__ ?l_Trip___init__ ?c_Trip___init__ ?k_Trip___init__ ?w_Trip_road ?rc_Trip_road ?l_Trip_road ?c_Trip_road ?k_Trip_road ?w_Trip_starts ?rc_Trip_starts ?l_Trip_starts ?c_Trip_starts ?k_Trip_starts ?w_Trip_finish ?rc_Trip_finish ?l_Trip_finish ?c_Trip_finish ?k_Trip_finish ?w_Trip_come ?l_Trip_come ?c_Trip_come ?k_Trip_come ?w_Trip_leave ?l_Trip_leave ?c_Trip_leave ?k_Trip_leave ?w_Trip_place ?l_Trip_place ?c_Trip_place ?k_Trip_place ?w_Trip_take ?l_Trip_take ?c_Trip_take ?k_Trip_take ?w_Trip_do_edit ?l_Trip_do_edit ?c_Trip_do_edit ?k_Trip_do_edit ?w_Trip_check_not_watched ?l_Trip_check_not_watched ?c_Trip_check_not_watched ?k_Trip_check_not_watched ?w_Trip_undo ?l_Trip_undo ?c_Trip_undo ?k_Trip_undo ?w_Trip_call_edit ?l_Trip_call_edit ?c_Trip_call_edit ?k_Trip_call_edit ?w_Trip_state ?l_Trip_state ?kw_Trip_state ?c_Trip_state ?k_Trip_state ?w_Trip_certificate ?l_Trip_certificate ?kw_Trip_certificate ?c_Trip_certificate ?k_Trip_certificate ?w_Trip___len__ ?l_Trip___len__ ?c_Trip___len__ ?k_Trip___len__ ?w_PromisedTrip___init__ ?l_PromisedTrip___init__ ?c_PromisedTrip___init__ ?k_PromisedTrip___init__ ?w_PromisedTrip_come ?l_PromisedTrip_come ?c_PromisedTrip_come ?k_PromisedTrip_come ?w_PromisedTrip_leave ?l_PromisedTrip_leave ?c_PromisedTrip_leave ?k_PromisedTrip_leave ?w_PromisedTrip_place ?l_PromisedTrip_place ?c_PromisedTrip_place ?k_PromisedTrip_place ?w_PromisedTrip_take ?l_PromisedTrip_take ?c_PromisedTrip_take ?k_PromisedTrip_take ?a_law ?l_law ?c_law ?k_law ?pg_Shell ?hd_Shell ?po_Shell ?sa_Shell ?pg_Promise ?hd_Promise ?po_Promise ?sa_Promise ?pg_Trip ?hd_Trip ?po_Trip ?sa_Trip ?pg_PromisedTrip ?hd_PromisedTrip ?po_PromisedTrip ?sa_PromisedTrip ?na_Promise_promised ?na_PromisedTrip_done ?na_PromisedTrip_promised ?na_PromisedTrip_versions ?na_PromisedTrip_watched ?na_Shell_trip ?na_Trip_done ?na_Trip_versions ?na_Trip_watched ?mm_PromisedTrip ?mi_PromisedTrip ?mf_PromisedTrip ?mk_PromisedTrip ?mm_Shell ?mi_Shell ?mf_Shell ?mk_Shell ?mm_Trip ?mi_Trip ?mf_Trip ?mk_Trip ?ma_PromisedTrip_call_edit ?mn_PromisedTrip_call_edit ?ma_PromisedTrip_certificate ?mn_PromisedTrip_certificate ?ma_PromisedTrip_check_not_watched ?mn_PromisedTrip_check_not_watched ?ma_PromisedTrip_come ?mn_PromisedTrip_come ?ma_PromisedTrip_do_edit ?mn_PromisedTrip_do_edit ?ma_PromisedTrip_leave ?mn_PromisedTrip_leave ?ma_PromisedTrip_place ?mn_PromisedTrip_place ?ma_PromisedTrip_state ?mn_PromisedTrip_state ?ma_PromisedTrip_take ?mn_PromisedTrip_take ?ma_PromisedTrip_undo ?mn_PromisedTrip_undo ?ma_Shell_answer ?mn_Shell_answer ?ma_Shell_execute ?mn_Shell_execute ?ma_Trip_call_edit ?mn_Trip_call_edit ?ma_Trip_certificate ?mn_Trip_certificate ?ma_Trip_check_not_watched ?mn_Trip_check_not_watched ?ma_Trip_come ?mn_Trip_come ?ma_Trip_do_edit ?mn_Trip_do_edit ?ma_Trip_leave ?mn_Trip_leave ?ma_Trip_place ?mn_Trip_place ?ma_Trip_state ?mn_Trip_state ?ma_Trip_take ?mn_Trip_take ?ma_Trip_undo ?mn_Trip_undo ?pa_PromisedTrip_finish ?pa_PromisedTrip_latest ?pa_PromisedTrip_road ?pa_PromisedTrip_starts ?pa_Trip_finish ?pa_Trip_road ?pa_Trip_starts ?pg2_Promise_latest ?pt_Promise_latest ?pg2_Trip_finish ?pt_Trip_finish ?pg2_Trip_road ?pt_Trip_road ?pg2_Trip_starts ?pt_Trip_starts ?co_PromisedTrip_MOST_EDITS ?cg_PromisedTrip_MOST_EDITS ?co_Trip_MOST_EDITS ?cg_Trip_MOST_EDITS ?ln_PromisedTrip ?lnf_PromisedTrip ?ln_Trip ?lnf_Trip ?cgE ?ctE ?xmk_BadStart ?xov_BadStart ?xsa_BadStart ?xga_BadStart ?xgg_BadStart ?xnb_BadStart ?xcl_BadStart ?xco_BadStart ?xkC_BadStart ?xhd_BadStart ?xiC_BadStart ?xtC_BadStart ?xeC_BadStart ?ini_BadStart ?tI_BadStart ?lI_BadStart ?cI_BadStart ?kI_BadStart ?xq_TooManyPeople ?xsa_TooManyPeople ?xga_TooManyPeople ?xgg_TooManyPeople ?xcl_TooManyPeople ?xco_TooManyPeople ?xkC_TooManyPeople ?xhd_TooManyPeople ?xiC_TooManyPeople ?xtC_TooManyPeople ?xeC_TooManyPeople ?xmk_NoPerson ?xov_NoPerson ?xsa_NoPerson ?xga_NoPerson ?xgg_NoPerson ?xnb_NoPerson ?xcl_NoPerson ?xco_NoPerson ?xkC_NoPerson ?xhd_NoPerson ?xiC_NoPerson ?xtC_NoPerson ?xeC_NoPerson ?ini_NoPerson ?tI_NoPerson ?lI_NoPerson ?cI_NoPerson ?kI_NoPerson ?xq_LastPerson ?xsa_LastPerson ?xga_LastPerson ?xgg_LastPerson ?xcl_LastPerson ?xco_LastPerson ?xkC_LastPerson ?xhd_LastPerson ?xiC_LastPerson ?xtC_LastPerson ?xeC_LastPerson ?xmk_TooMuch ?xov_TooMuch ?xsa_TooMuch ?xga_TooMuch ?xgg_TooMuch ?xnb_TooMuch ?xcl_TooMuch ?xco_TooMuch ?xkC_TooMuch ?xhd_TooMuch ?xiC_TooMuch ?xtC_TooMuch ?xeC_TooMuch ?ini_TooMuch ?tI_TooMuch ?lI_TooMuch ?cI_TooMuch ?kI_TooMuch ?xmk_TooFew ?xov_TooFew ?xsa_TooFew ?xga_TooFew ?xgg_TooFew ?xnb_TooFew ?xcl_TooFew ?xco_TooFew ?xkC_TooFew ?xhd_TooFew ?xiC_TooFew ?xtC_TooFew ?xeC_TooFew ?ini_TooFew ?tI_TooFew ?lI_TooFew ?cI_TooFew ?kI_TooFew ?xmk_NoStation ?xov_NoStation ?xsa_NoStation ?xga_NoStation ?xgg_NoStation ?xnb_NoStation ?xcl_NoStation ?xco_NoStation ?xkC_NoStation ?xhd_NoStation ?xiC_NoStation ?xtC_NoStation ?xeC_NoStation ?ini_NoStation ?tI_NoStation ?lI_NoStation ?cI_NoStation ?kI_NoStation ?xmk_BadCount ?xov_BadCount ?xsa_BadCount ?xga_BadCount ?xgg_BadCount ?xnb_BadCount ?xcl_BadCount ?xco_BadCount ?xkC_BadCount ?xhd_BadCount ?xiC_BadCount ?xtC_BadCount ?xeC_BadCount ?ini_BadCount ?tI_BadCount ?lI_BadCount ?cI_BadCount ?kI_BadCount ?xmk_BadEnd ?xov_BadEnd ?xsa_BadEnd ?xga_BadEnd ?xgg_BadEnd ?xnb_BadEnd ?xcl_BadEnd ?xco_BadEnd ?xkC_BadEnd ?xhd_BadEnd ?xiC_BadEnd ?xtC_BadEnd ?xeC_BadEnd ?ini_BadEnd ?tI_BadEnd ?lI_BadEnd ?cI_BadEnd ?kI_BadEnd ?xmk_BadRoad ?xov_BadRoad ?xsa_BadRoad ?xga_BadRoad ?xgg_BadRoad ?xnb_BadRoad ?xcl_BadRoad ?xco_BadRoad ?xkC_BadRoad ?xhd_BadRoad ?xiC_BadRoad ?xtC_BadRoad ?xeC_BadRoad ?ini_BadRoad ?tI_BadRoad ?lI_BadRoad ?cI_BadRoad ?kI_BadRoad ?xmk_BadStarts ?xov_BadStarts ?xsa_BadStarts ?xga_BadStarts ?xgg_BadStarts ?xnb_BadStarts ?xcl_BadStarts ?xco_BadStarts ?xkC_BadStarts ?xhd_BadStarts ?xiC_BadStarts ?xtC_BadStarts ?xeC_BadStarts ?ini_BadStarts ?tI_BadStarts ?lI_BadStarts ?cI_BadStarts ?kI_BadStarts ?xq_TooManyEdits ?xsa_TooManyEdits ?xga_TooManyEdits ?xgg_TooManyEdits ?xcl_TooManyEdits ?xco_TooManyEdits ?xkC_TooManyEdits ?xhd_TooManyEdits ?xiC_TooManyEdits ?xtC_TooManyEdits ?xeC_TooManyEdits ?xmk_TooLate ?xov_TooLate ?xsa_TooLate ?xga_TooLate ?xgg_TooLate ?xnb_TooLate ?xcl_TooLate ?xco_TooLate ?xkC_TooLate ?xhd_TooLate ?xiC_TooLate ?xtC_TooLate ?xeC_TooLate ?ini_TooLate ?tI_TooLate ?lI_TooLate ?cI_TooLate ?kI_TooLate ?xq_Busy ?xsa_Busy ?xga_Busy ?xgg_Busy ?xcl_Busy ?xco_Busy ?xkC_Busy ?xhd_Busy ?xiC_Busy ?xtC_Busy ?xeC_Busy ?xq_NothingToUndo ?xsa_NothingToUndo ?xga_NothingToUndo ?xgg_NothingToUndo ?xcl_NothingToUndo ?xco_NothingToUndo ?xkC_NothingToUndo ?xhd_NothingToUndo ?xiC_NothingToUndo ?xtC_NothingToUndo ?xeC_NothingToUndo ?xmk_NoVersion ?xov_NoVersion ?xsa_NoVersion ?xga_NoVersion ?xgg_NoVersion ?xnb_NoVersion ?xcl_NoVersion ?xco_NoVersion ?xkC_NoVersion ?xhd_NoVersion ?xiC_NoVersion ?xtC_NoVersion ?xeC_NoVersion ?ini_NoVersion ?tI_NoVersion ?lI_NoVersion ?cI_NoVersion ?kI_NoVersion ?rd_Promise ?ra_Promise ?rd_Trip ?ra_Trip ?fc_Promise___init__ ?fc_Trip___init__ ?gk_EDIT_LENGTHS ?lk_EDIT_LENGTHS ?yk_EDIT_LENGTHS ?dk_EDIT_LENGTHS ?v_LIMIT ?v_MAX_PEOPLE ?v_MAX_START ?v_MAX_TICKS ?v_MAX_STAGES ?v_MAX_BIKES ?v_MOST ?z_abs ?z_bool ?z_enumerate ?z_int ?z_isinstance ?z_len ?z_list ?z_max ?z_min ?z_range ?z_sorted ?z_str ?z_sum ?z_tuple ?z_zip
    (case aC_BadStarts => k_is); (case aC_TooManyPeople => k_is); (case aC_TooLate => k_is); (case aC_BadRoad => k_is); (case aC_Busy => k_is); (case aC_TooManyEdits => k_is); (case aC_BadStart => k_is); (case aC_LastPerson => k_is); (case aC_BadCount => k_is); (case aC_TooMuch => k_is); (case aC_TooFew => k_is); (case aC_NothingToUndo => k_is); (case aC_BadEnd => k_is); (case aC_NoPerson => k_is); (case aC_NoStation => k_is); (case aC_NoVersion => k_is); (case aC_Shell => k_is); (case aC_Promise => k_is); (case aC_Trip => k_is); (case aC_PromisedTrip => k_is); (case a_is_number_from => k_is); (case l_is_number_from => k_is); (case c_is_number_from => k_is); (case k_is_number_from => k_is); (case a_is_end => k_is); (case l_is_end => k_is); (case c_is_end => k_is); (case k_is_end => k_is); (case a_is_starts => k_is); (case l_is_starts => k_is); (case c_is_starts => k_is); (case k_is_starts => k_is); (case a_road_error => k_is); (case l_road_error => k_is); (case c_road_error => k_is); (case k_road_error => k_is); (case a_counts_of => k_is); (case l_counts_of => k_is); (case c_counts_of => k_is); (case k_counts_of => k_is); (case a_room_of => k_is); (case l_room_of => k_is); (case c_room_of => k_is); (case k_room_of => k_is); (case a_with_further => k_is); (case l_with_further => k_is); (case c_with_further => k_is); (case k_with_further => k_is); (case a_is_edit => k_is); (case l_is_edit => k_is); (case c_is_edit => k_is); (case k_is_edit => k_is); (case a_changed => k_is); (case l_changed => k_is); (case c_changed => k_is); (case k_changed => k_is); (case a_with_person => k_is); (case l_with_person => k_is); (case c_with_person => k_is); (case k_with_person => k_is); (case a_without_person => k_is); (case l_without_person => k_is); (case c_without_person => k_is); (case k_without_person => k_is); (case a_with_more_bikes => k_is); (case l_with_more_bikes => k_is); (case c_with_more_bikes => k_is); (case k_with_more_bikes => k_is); (case a_with_fewer_bikes => k_is); (case l_with_fewer_bikes => k_is); (case c_with_fewer_bikes => k_is); (case k_with_fewer_bikes => k_is); (case a_check_bikes => k_is); (case l_check_bikes => k_is); (case c_check_bikes => k_is); (case k_check_bikes => k_is); (case a_ticks_of => k_is); (case l_ticks_of => k_is); (case c_ticks_of => k_is); (case k_ticks_of => k_is); (case a_bike_ticks => k_is); (case l_bike_ticks => k_is); (case c_bike_ticks => k_is); (case k_bike_ticks => k_is); (case a_leaving_ticks => k_is); (case l_leaving_ticks => k_is); (case c_leaving_ticks => k_is); (case k_leaving_ticks => k_is); (case a_finish_of => k_is); (case l_finish_of => k_is); (case c_finish_of => k_is); (case k_finish_of => k_is); (case a_rule_plan => k_is); (case l_rule_plan => k_is); (case c_rule_plan => k_is); (case k_rule_plan => k_is); (case a_greatest => k_is); (case l_greatest => k_is); (case c_greatest => k_is); (case k_greatest => k_is); (case a_least_finish => k_is); (case l_least_finish => k_is); (case c_least_finish => k_is); (case k_least_finish => k_is); (case a_needs_of => k_is); (case l_needs_of => k_is); (case c_needs_of => k_is); (case k_needs_of => k_is); (case a_find_certificate => k_is); (case l_find_certificate => k_is); (case c_find_certificate => k_is); (case k_find_certificate => k_is); (case a_excluding_people => k_is); (case l_excluding_people => k_is); (case c_excluding_people => k_is); (case k_excluding_people => k_is); (case a_exclude => k_is); (case l_exclude => k_is); (case c_exclude => k_is); (case k_exclude => k_is); (case a_trip_text => k_is); (case l_trip_text => k_is); (case c_trip_text => k_is); (case k_trip_text => k_is); (case a_listed => k_is); (case l_listed => k_is); (case c_listed => k_is); (case k_listed => k_is); (case a_number_in => k_is); (case l_number_in => k_is); (case c_number_in => k_is); (case k_number_in => k_is); (case a_command_in => k_is); (case l_command_in => k_is); (case c_command_in => k_is); (case k_command_in => k_is); (case a_riders_text => k_is); (case l_riders_text => k_is); (case c_riders_text => k_is); (case k_riders_text => k_is); (case a__law_deck => k_is); (case l__law_deck => k_is); (case c__law_deck => k_is); (case k__law_deck => k_is); (case a__law_draw => k_is); (case l__law_draw => k_is); (case c__law_draw => k_is); (case k__law_draw => k_is); (case a__law_state => k_is); (case l__law_state => k_is); (case c__law_state => k_is); (case k__law_state => k_is); (case a__law_numbers_text => k_is); (case l__law_numbers_text => k_is); (case c__law_numbers_text => k_is); (case k__law_numbers_text => k_is); (case a__law_trip_text => k_is); (case l__law_trip_text => k_is); (case c__law_trip_text => k_is); (case k__law_trip_text => k_is); (case a__law_rule => k_is); (case l__law_rule => k_is); (case c__law_rule => k_is); (case k__law_rule => k_is); (case a__law_edit => k_is); (case l__law_edit => k_is); (case c__law_edit => k_is); (case k__law_edit => k_is); (case a__law_after => k_is); (case l__law_after => k_is); (case c__law_after => k_is); (case k__law_after => k_is); (case a__law_do => k_is); (case l__law_do => k_is); (case c__law_do => k_is); (case k__law_do => k_is); (case a__law_answers => k_is); (case l__law_answers => k_is); (case c__law_answers => k_is); (case k__law_answers => k_is); (case a__law_heard => k_is); (case l__law_heard => k_is); (case c__law_heard => k_is); (case k__law_heard => k_is); (case a__law_made => k_is); (case l__law_made => k_is); (case c__law_made => k_is); (case k__law_made => k_is); (case w_Shell___init__ => k_is); (case l_Shell___init__ => k_is); (case c_Shell___init__ => k_is); (case k_Shell___init__ => k_is); (case w_Shell_execute => k_is); (case l_Shell_execute => k_is); (case c_Shell_execute => k_is); (case k_Shell_execute => k_is); (case w_Shell_answer => k_is); (case l_Shell_answer => k_is); (case c_Shell_answer => k_is); (case k_Shell_answer => k_is); (case w_Promise___init__ => k_is); (case l_Promise___init__ => k_is); (case c_Promise___init__ => k_is); (case k_Promise___init__ => k_is); (case w_Promise_latest => k_is); (case rc_Promise_latest => k_is); (case l_Promise_latest => k_is); (case c_Promise_latest => k_is); (case k_Promise_latest => k_is); (case w_Trip___init__ => k_is); (case l_Trip___init__ => k_is); (case c_Trip___init__ => k_is); (case k_Trip___init__ => k_is); (case w_Trip_road => k_is); (case rc_Trip_road => k_is); (case l_Trip_road => k_is); (case c_Trip_road => k_is); (case k_Trip_road => k_is); (case w_Trip_starts => k_is); (case rc_Trip_starts => k_is); (case l_Trip_starts => k_is); (case c_Trip_starts => k_is); (case k_Trip_starts => k_is); (case w_Trip_finish => k_is); (case rc_Trip_finish => k_is); (case l_Trip_finish => k_is); (case c_Trip_finish => k_is); (case k_Trip_finish => k_is); (case w_Trip_come => k_is); (case l_Trip_come => k_is); (case c_Trip_come => k_is); (case k_Trip_come => k_is); (case w_Trip_leave => k_is); (case l_Trip_leave => k_is); (case c_Trip_leave => k_is); (case k_Trip_leave => k_is); (case w_Trip_place => k_is); (case l_Trip_place => k_is); (case c_Trip_place => k_is); (case k_Trip_place => k_is); (case w_Trip_take => k_is); (case l_Trip_take => k_is); (case c_Trip_take => k_is); (case k_Trip_take => k_is); (case w_Trip_do_edit => k_is); (case l_Trip_do_edit => k_is); (case c_Trip_do_edit => k_is); (case k_Trip_do_edit => k_is); (case w_Trip_check_not_watched => k_is); (case l_Trip_check_not_watched => k_is); (case c_Trip_check_not_watched => k_is); (case k_Trip_check_not_watched => k_is); (case w_Trip_undo => k_is); (case l_Trip_undo => k_is); (case c_Trip_undo => k_is); (case k_Trip_undo => k_is); (case w_Trip_call_edit => k_is); (case l_Trip_call_edit => k_is); (case c_Trip_call_edit => k_is); (case k_Trip_call_edit => k_is); (case w_Trip_state => k_is); (case l_Trip_state => k_is); (case kw_Trip_state => k_is); (case c_Trip_state => k_is); (case k_Trip_state => k_is); (case w_Trip_certificate => k_is); (case l_Trip_certificate => k_is); (case kw_Trip_certificate => k_is); (case c_Trip_certificate => k_is); (case k_Trip_certificate => k_is); (case w_Trip___len__ => k_is); (case l_Trip___len__ => k_is); (case c_Trip___len__ => k_is); (case k_Trip___len__ => k_is); (case w_PromisedTrip___init__ => k_is); (case l_PromisedTrip___init__ => k_is); (case c_PromisedTrip___init__ => k_is); (case k_PromisedTrip___init__ => k_is); (case w_PromisedTrip_come => k_is); (case l_PromisedTrip_come => k_is); (case c_PromisedTrip_come => k_is); (case k_PromisedTrip_come => k_is); (case w_PromisedTrip_leave => k_is); (case l_PromisedTrip_leave => k_is); (case c_PromisedTrip_leave => k_is); (case k_PromisedTrip_leave => k_is); (case w_PromisedTrip_place => k_is); (case l_PromisedTrip_place => k_is); (case c_PromisedTrip_place => k_is); (case k_PromisedTrip_place => k_is); (case w_PromisedTrip_take => k_is); (case l_PromisedTrip_take => k_is); (case c_PromisedTrip_take => k_is); (case k_PromisedTrip_take => k_is); (case a_law => k_is); (case l_law => k_is); (case c_law => k_is); (case k_law => k_is); (case pg_Shell => k_is); (case hd_Shell => k_is); (case po_Shell => k_is); (case sa_Shell => k_is); (case pg_Promise => k_is); (case hd_Promise => k_is); (case po_Promise => k_is); (case sa_Promise => k_is); (case pg_Trip => k_is); (case hd_Trip => k_is); (case po_Trip => k_is); (case sa_Trip => k_is); (case pg_PromisedTrip => k_is); (case hd_PromisedTrip => k_is); (case po_PromisedTrip => k_is); (case sa_PromisedTrip => k_is); (case na_Promise_promised => k_is); (case na_PromisedTrip_done => k_is); (case na_PromisedTrip_promised => k_is); (case na_PromisedTrip_versions => k_is); (case na_PromisedTrip_watched => k_is); (case na_Shell_trip => k_is); (case na_Trip_done => k_is); (case na_Trip_versions => k_is); (case na_Trip_watched => k_is); (case mm_PromisedTrip => k_is); (case mi_PromisedTrip => k_is); (case mf_PromisedTrip => k_is); (case mk_PromisedTrip => k_is); (case mm_Shell => k_is); (case mi_Shell => k_is); (case mf_Shell => k_is); (case mk_Shell => k_is); (case mm_Trip => k_is); (case mi_Trip => k_is); (case mf_Trip => k_is); (case mk_Trip => k_is); (case ma_PromisedTrip_call_edit => k_is); (case mn_PromisedTrip_call_edit => k_is); (case ma_PromisedTrip_certificate => k_is); (case mn_PromisedTrip_certificate => k_is); (case ma_PromisedTrip_check_not_watched => k_is); (case mn_PromisedTrip_check_not_watched => k_is); (case ma_PromisedTrip_come => k_is); (case mn_PromisedTrip_come => k_is); (case ma_PromisedTrip_do_edit => k_is); (case mn_PromisedTrip_do_edit => k_is); (case ma_PromisedTrip_leave => k_is); (case mn_PromisedTrip_leave => k_is); (case ma_PromisedTrip_place => k_is); (case mn_PromisedTrip_place => k_is); (case ma_PromisedTrip_state => k_is); (case mn_PromisedTrip_state => k_is); (case ma_PromisedTrip_take => k_is); (case mn_PromisedTrip_take => k_is); (case ma_PromisedTrip_undo => k_is); (case mn_PromisedTrip_undo => k_is); (case ma_Shell_answer => k_is); (case mn_Shell_answer => k_is); (case ma_Shell_execute => k_is); (case mn_Shell_execute => k_is); (case ma_Trip_call_edit => k_is); (case mn_Trip_call_edit => k_is); (case ma_Trip_certificate => k_is); (case mn_Trip_certificate => k_is); (case ma_Trip_check_not_watched => k_is); (case mn_Trip_check_not_watched => k_is); (case ma_Trip_come => k_is); (case mn_Trip_come => k_is); (case ma_Trip_do_edit => k_is); (case mn_Trip_do_edit => k_is); (case ma_Trip_leave => k_is); (case mn_Trip_leave => k_is); (case ma_Trip_place => k_is); (case mn_Trip_place => k_is); (case ma_Trip_state => k_is); (case mn_Trip_state => k_is); (case ma_Trip_take => k_is); (case mn_Trip_take => k_is); (case ma_Trip_undo => k_is); (case mn_Trip_undo => k_is); (case pa_PromisedTrip_finish => k_is); (case pa_PromisedTrip_latest => k_is); (case pa_PromisedTrip_road => k_is); (case pa_PromisedTrip_starts => k_is); (case pa_Trip_finish => k_is); (case pa_Trip_road => k_is); (case pa_Trip_starts => k_is); (case pg2_Promise_latest => k_is); (case pt_Promise_latest => k_is); (case pg2_Trip_finish => k_is); (case pt_Trip_finish => k_is); (case pg2_Trip_road => k_is); (case pt_Trip_road => k_is); (case pg2_Trip_starts => k_is); (case pt_Trip_starts => k_is); (case co_PromisedTrip_MOST_EDITS => k_is); (case cg_PromisedTrip_MOST_EDITS => k_is); (case co_Trip_MOST_EDITS => k_is); (case cg_Trip_MOST_EDITS => k_is); (case ln_PromisedTrip => k_is); (case lnf_PromisedTrip => k_is); (case ln_Trip => k_is); (case lnf_Trip => k_is); (case cgE => k_is); (case ctE => k_is); (case xmk_BadStart => kx_is); (case xov_BadStart => kx_is); (case xsa_BadStart => k_is); (case xga_BadStart => k_is); (case xgg_BadStart => k_is); (case xnb_BadStart => k_is); (case xcl_BadStart => k_is); (case xco_BadStart => k_is); (case xkC_BadStart => k_is); (case xhd_BadStart => k_is); (case xiC_BadStart => k_is); (case xtC_BadStart => k_is); (case xeC_BadStart => k_is); (case ini_BadStart => k_is); (case tI_BadStart => k_is); (case lI_BadStart => k_is); (case cI_BadStart => k_is); (case kI_BadStart => k_is); (case xq_TooManyPeople => k_exc); (case xsa_TooManyPeople => k_is); (case xga_TooManyPeople => k_is); (case xgg_TooManyPeople => k_is); (case xcl_TooManyPeople => k_is); (case xco_TooManyPeople => k_is); (case xkC_TooManyPeople => k_is); (case xhd_TooManyPeople => k_is); (case xiC_TooManyPeople => k_is); (case xtC_TooManyPeople => k_is); (case xeC_TooManyPeople => k_is); (case xmk_NoPerson => kx_is); (case xov_NoPerson => kx_is); (case xsa_NoPerson => k_is); (case xga_NoPerson => k_is); (case xgg_NoPerson => k_is); (case xnb_NoPerson => k_is); (case xcl_NoPerson => k_is); (case xco_NoPerson => k_is); (case xkC_NoPerson => k_is); (case xhd_NoPerson => k_is); (case xiC_NoPerson => k_is); (case xtC_NoPerson => k_is); (case xeC_NoPerson => k_is); (case ini_NoPerson => k_is); (case tI_NoPerson => k_is); (case lI_NoPerson => k_is); (case cI_NoPerson => k_is); (case kI_NoPerson => k_is); (case xq_LastPerson => k_exc); (case xsa_LastPerson => k_is); (case xga_LastPerson => k_is); (case xgg_LastPerson => k_is); (case xcl_LastPerson => k_is); (case xco_LastPerson => k_is); (case xkC_LastPerson => k_is); (case xhd_LastPerson => k_is); (case xiC_LastPerson => k_is); (case xtC_LastPerson => k_is); (case xeC_LastPerson => k_is); (case xmk_TooMuch => kx_is); (case xov_TooMuch => kx_is); (case xsa_TooMuch => k_is); (case xga_TooMuch => k_is); (case xgg_TooMuch => k_is); (case xnb_TooMuch => k_is); (case xcl_TooMuch => k_is); (case xco_TooMuch => k_is); (case xkC_TooMuch => k_is); (case xhd_TooMuch => k_is); (case xiC_TooMuch => k_is); (case xtC_TooMuch => k_is); (case xeC_TooMuch => k_is); (case ini_TooMuch => k_is); (case tI_TooMuch => k_is); (case lI_TooMuch => k_is); (case cI_TooMuch => k_is); (case kI_TooMuch => k_is); (case xmk_TooFew => kx_is); (case xov_TooFew => kx_is); (case xsa_TooFew => k_is); (case xga_TooFew => k_is); (case xgg_TooFew => k_is); (case xnb_TooFew => k_is); (case xcl_TooFew => k_is); (case xco_TooFew => k_is); (case xkC_TooFew => k_is); (case xhd_TooFew => k_is); (case xiC_TooFew => k_is); (case xtC_TooFew => k_is); (case xeC_TooFew => k_is); (case ini_TooFew => k_is); (case tI_TooFew => k_is); (case lI_TooFew => k_is); (case cI_TooFew => k_is); (case kI_TooFew => k_is); (case xmk_NoStation => kx_is); (case xov_NoStation => kx_is); (case xsa_NoStation => k_is); (case xga_NoStation => k_is); (case xgg_NoStation => k_is); (case xnb_NoStation => k_is); (case xcl_NoStation => k_is); (case xco_NoStation => k_is); (case xkC_NoStation => k_is); (case xhd_NoStation => k_is); (case xiC_NoStation => k_is); (case xtC_NoStation => k_is); (case xeC_NoStation => k_is); (case ini_NoStation => k_is); (case tI_NoStation => k_is); (case lI_NoStation => k_is); (case cI_NoStation => k_is); (case kI_NoStation => k_is); (case xmk_BadCount => kx_is); (case xov_BadCount => kx_is); (case xsa_BadCount => k_is); (case xga_BadCount => k_is); (case xgg_BadCount => k_is); (case xnb_BadCount => k_is); (case xcl_BadCount => k_is); (case xco_BadCount => k_is); (case xkC_BadCount => k_is); (case xhd_BadCount => k_is); (case xiC_BadCount => k_is); (case xtC_BadCount => k_is); (case xeC_BadCount => k_is); (case ini_BadCount => k_is); (case tI_BadCount => k_is); (case lI_BadCount => k_is); (case cI_BadCount => k_is); (case kI_BadCount => k_is); (case xmk_BadEnd => kx_is); (case xov_BadEnd => kx_is); (case xsa_BadEnd => k_is); (case xga_BadEnd => k_is); (case xgg_BadEnd => k_is); (case xnb_BadEnd => k_is); (case xcl_BadEnd => k_is); (case xco_BadEnd => k_is); (case xkC_BadEnd => k_is); (case xhd_BadEnd => k_is); (case xiC_BadEnd => k_is); (case xtC_BadEnd => k_is); (case xeC_BadEnd => k_is); (case ini_BadEnd => k_is); (case tI_BadEnd => k_is); (case lI_BadEnd => k_is); (case cI_BadEnd => k_is); (case kI_BadEnd => k_is); (case xmk_BadRoad => kx_is); (case xov_BadRoad => kx_is); (case xsa_BadRoad => k_is); (case xga_BadRoad => k_is); (case xgg_BadRoad => k_is); (case xnb_BadRoad => k_is); (case xcl_BadRoad => k_is); (case xco_BadRoad => k_is); (case xkC_BadRoad => k_is); (case xhd_BadRoad => k_is); (case xiC_BadRoad => k_is); (case xtC_BadRoad => k_is); (case xeC_BadRoad => k_is); (case ini_BadRoad => k_is); (case tI_BadRoad => k_is); (case lI_BadRoad => k_is); (case cI_BadRoad => k_is); (case kI_BadRoad => k_is); (case xmk_BadStarts => kx_is); (case xov_BadStarts => kx_is); (case xsa_BadStarts => k_is); (case xga_BadStarts => k_is); (case xgg_BadStarts => k_is); (case xnb_BadStarts => k_is); (case xcl_BadStarts => k_is); (case xco_BadStarts => k_is); (case xkC_BadStarts => k_is); (case xhd_BadStarts => k_is); (case xiC_BadStarts => k_is); (case xtC_BadStarts => k_is); (case xeC_BadStarts => k_is); (case ini_BadStarts => k_is); (case tI_BadStarts => k_is); (case lI_BadStarts => k_is); (case cI_BadStarts => k_is); (case kI_BadStarts => k_is); (case xq_TooManyEdits => k_exc); (case xsa_TooManyEdits => k_is); (case xga_TooManyEdits => k_is); (case xgg_TooManyEdits => k_is); (case xcl_TooManyEdits => k_is); (case xco_TooManyEdits => k_is); (case xkC_TooManyEdits => k_is); (case xhd_TooManyEdits => k_is); (case xiC_TooManyEdits => k_is); (case xtC_TooManyEdits => k_is); (case xeC_TooManyEdits => k_is); (case xmk_TooLate => kx_is); (case xov_TooLate => kx_is); (case xsa_TooLate => k_is); (case xga_TooLate => k_is); (case xgg_TooLate => k_is); (case xnb_TooLate => k_is); (case xcl_TooLate => k_is); (case xco_TooLate => k_is); (case xkC_TooLate => k_is); (case xhd_TooLate => k_is); (case xiC_TooLate => k_is); (case xtC_TooLate => k_is); (case xeC_TooLate => k_is); (case ini_TooLate => k_is); (case tI_TooLate => k_is); (case lI_TooLate => k_is); (case cI_TooLate => k_is); (case kI_TooLate => k_is); (case xq_Busy => k_exc); (case xsa_Busy => k_is); (case xga_Busy => k_is); (case xgg_Busy => k_is); (case xcl_Busy => k_is); (case xco_Busy => k_is); (case xkC_Busy => k_is); (case xhd_Busy => k_is); (case xiC_Busy => k_is); (case xtC_Busy => k_is); (case xeC_Busy => k_is); (case xq_NothingToUndo => k_exc); (case xsa_NothingToUndo => k_is); (case xga_NothingToUndo => k_is); (case xgg_NothingToUndo => k_is); (case xcl_NothingToUndo => k_is); (case xco_NothingToUndo => k_is); (case xkC_NothingToUndo => k_is); (case xhd_NothingToUndo => k_is); (case xiC_NothingToUndo => k_is); (case xtC_NothingToUndo => k_is); (case xeC_NothingToUndo => k_is); (case xmk_NoVersion => kx_is); (case xov_NoVersion => kx_is); (case xsa_NoVersion => k_is); (case xga_NoVersion => k_is); (case xgg_NoVersion => k_is); (case xnb_NoVersion => k_is); (case xcl_NoVersion => k_is); (case xco_NoVersion => k_is); (case xkC_NoVersion => k_is); (case xhd_NoVersion => k_is); (case xiC_NoVersion => k_is); (case xtC_NoVersion => k_is); (case xeC_NoVersion => k_is); (case ini_NoVersion => k_is); (case tI_NoVersion => k_is); (case lI_NoVersion => k_is); (case cI_NoVersion => k_is); (case kI_NoVersion => k_is); (case rd_Promise => k_is); (case ra_Promise => k_is); (case rd_Trip => k_is); (case ra_Trip => k_is); (case fc_Promise___init__ => k_is); (case fc_Trip___init__ => k_is); (case gk_EDIT_LENGTHS => k_is); (case lk_EDIT_LENGTHS => k_is); (case yk_EDIT_LENGTHS => exact rfl); (case dk_EDIT_LENGTHS => exact ⟨⟨⟨_, rfl⟩, ⟨_, rfl⟩, rfl⟩, ⟨⟨_, rfl⟩, ⟨_, rfl⟩, rfl⟩, ⟨⟨_, rfl⟩, ⟨_, rfl⟩, rfl⟩, ⟨⟨_, rfl⟩, ⟨_, rfl⟩, rfl⟩, trivial⟩); (case v_LIMIT => k_is); (case v_MAX_PEOPLE => k_is); (case v_MAX_START => k_is); (case v_MAX_TICKS => k_is); (case v_MAX_STAGES => k_is); (case v_MAX_BIKES => k_is); (case v_MOST => k_is); (case z_abs => k_is); (case z_bool => k_is); (case z_enumerate => k_is); (case z_int => k_is); (case z_isinstance => k_is); (case z_len => k_is); (case z_list => k_is); (case z_max => k_is); (case z_min => k_is); (case z_range => k_is); (case z_sorted => k_is); (case z_str => k_is); (case z_sum => k_is); (case z_tuple => k_is); (case z_zip => k_is)
