import PyProof.Rows.All
import Wide.All
import OpenK.AllK
import Wide.FinOn
import HandS.GenList
import HandS.ForMost
import HandS.Wide
import HandS.TupAny
import HandS.TupMul
import HandS.Style
import HandS.Conv
import HandS.Zip
import PyProof.ReprRoads
import PyProof.SumWalkG
import PyProof.WalksMore
import KE.DataMinMax
import HandS.Evl
import PyProof.ReprBulk
import PyProof.FitsInt
import KE.GoesMore
import PyProof.Draws
import HandS.SortRule
import HandS.Walk
import KE.DatumOrd
import KE.DataFind
import HandS.SetFor
import PyProof.Rows.RowBridgeK
import KE.KExcIs
import HandS.Star
import HandS.ExcInit
import HandS.ExcField
import HandS.ExcOwn
import HandS.WordsExc
import HandS.NoneIn
import HandS.IsInst
import HandS.Lambda
import HandS.SortInts
import HandS.Strs
import HandS.TupLe
import HandS.Property
import KE.KExcInit
import KE.KOpsOwn
import PyProof.InstNe
import HandS.Flt
import HandS.FStr
import HandS.Text
import KE.KCallOwn
import HandS.Defaults
import HandS.ClsMeth
import HandS.Iter
import HandS.StrMore
import HandS.TryMany
import KE.KTryMore
import HandS.NamedTupSort
import PyProof.EqKinds
import PyProof.FactsAll.dict_1
import KE.DataEq
import PyProof.StrBlock2
import HandS.HotCalls
import HandS.RaiseMore
import HandS.ReplaceLit
import KE.KxField
import HandS.Finally
import HandS.EndTab
import HandS.SuiteRaise
import HandS.RaiseFrom
import HandS.ExcInitHot
import KE.KEqDict
import KE.GoesRev
import PyProof.Rows.ReprOcc
import KE.KExcLine
import KE.OsRunLaw
import PySem.Challenge.RW_roadbikes_k26_plans_yielded
set_option Elab.async false
set_option linter.all false
set_option maxRecDepth 100000
set_option maxHeartbeats 4000000
namespace Pu
open PySem
/-! ## generators that sleep: a run that never wakes them does not know what is in them -/
/-- the same to look at; whoever wakes it is stuck -/
def poison : GenState → GenState
  | .suspended k l c p fs cl => .suspended (fun r => .fork c fun _ => k r) l c p fs cl
  | g => g
theorem poison_seen (x : GenState) : (poison x).seen = x.seen := by cases x <;> rfl
theorem poison_bare (x : GenState) : (poison x).bare = x.bare := by cases x <;> rfl
def isSusp : GenState → Bool
  | .suspended _ _ _ _ _ _ => true
  | _ => false
def frRet : Frame → Bool
  | .ret _ _ _ _ _ _ _ => true
  | .gen _ _ _ _ _ => false
/-- no generator is under way in these frames -/
def clF (fs : List Frame) : Prop := fs.all frRet = true
def clG : GenState → Prop
  | .suspended _ _ _ _ fs _ => clF fs
  | _ => True
def clE : End → Prop
  | .ret _ => True
  | .susp _ _ _ _ _ _ fs => clF fs
theorem clF_cons {F : Frame} {fs : List Frame} (h : clF (F :: fs)) : frRet F = true ∧ clF fs := Bool.and_eq_true_iff.mp h
theorem clF_app {a b : List Frame} (h1 : clF a) (h2 : clF b) : clF (a ++ b) := by
  unfold clF
  rw [List.all_append, Bool.and_eq_true]
  exact ⟨h1, h2⟩
theorem split_cl : ∀ {fs : List Frame}, clF fs → splitAtGen fs = none
  | [], _ => rfl
  | .ret k h g l c p kp :: fs, c' => by
    have e := split_cl (clF_cons c').2
    unfold splitAtGen
    rw [e]
    rfl
  | .gen _ _ _ _ _ :: _, c' => by cases (clF_cons c').1
theorem no_run {M : Model} {Γ : Ctx} {p : Pos} {t : Sem PySem.Fin} {fs : List Frame} {s s' : Shared} {e : End} (h : Runs M Γ p t fs s e s') : ∀ {c : Code} {k : Nat → Sem PySem.Fin}, t ≠ .fork c k := by
  induction h with
  | segRet _ _ ih _ => exact ih
  | segGen _ _ ih _ => exact ih
  | segSuspOut _ _ ih => exact ih
  | segSuspGen _ _ _ _ ih _ => exact ih
  | _ => intro c k z; cases z
abbrev sw (s : Shared) (G : Array GenState) : Shared := ⟨s.heap, G, s.drawn, s.toks, s.os⟩
/-- Z tells who sleeps; G has them poisoned, G' as they are -/
structure Zr (Z : Nat → Option GenState) (G G' : Array GenState) : Prop where
  size : G.size = G'.size
  slp : ∀ i x, Z i = some x → isSusp x = true ∧ G[i]? = some (poison x) ∧ G'[i]? = some x
  oth : ∀ i, Z i = none → G[i]? = G'[i]? ∧ ∀ y, G[i]? = some y → clG y
section
variable {Z : Nat → Option GenState} {G G' : Array GenState}
theorem Zr.lt (z : Zr Z G G') {i : Nat} {x : GenState} (h : Z i = some x) : i < G.size := (Array.getElem?_eq_some_iff.mp (z.slp i x h).2.1).1
theorem Zr.out (z : Zr Z G G') {i : Nat} (h : G.size ≤ i) : Z i = none := by
  cases e : Z i with
  | none => rfl
  | some x => have := z.lt e; omega
theorem Zr.push (z : Zr Z G G') {y : GenState} (hy : clG y) : Zr Z (G.push y) (G'.push y) := by
  refine ⟨by rw [Array.size_push, Array.size_push, z.size], fun i x h => ?_, fun i h => ?_⟩
  · have hi := z.lt h
    obtain ⟨a, b, c⟩ := z.slp i x h
    refine ⟨a, ?_, ?_⟩
    · rw [Array.getElem?_push, if_neg (by omega)]; exact b
    · rw [Array.getElem?_push, if_neg (by rw [← z.size]; omega)]; exact c
  · rw [Array.getElem?_push, Array.getElem?_push, z.size]
    by_cases e : i = G'.size
    · rw [if_pos e, if_pos e]
      exact ⟨rfl, fun u hu => by cases hu; exact hy⟩
    · rw [if_neg e, if_neg e]
      exact z.oth i h
theorem Zr.set (z : Zr Z G G') {g : Nat} {y : GenState} (hg : Z g = none) (hy : clG y) : Zr Z (G.setIfInBounds g y) (G'.setIfInBounds g y) := by
  refine ⟨by rw [Array.size_setIfInBounds, Array.size_setIfInBounds, z.size], fun i x h => ?_, fun i h => ?_⟩
  · have ne : g ≠ i := fun e => by rw [e, h] at hg; cases hg
    obtain ⟨a, b, c⟩ := z.slp i x h
    rw [Array.getElem?_setIfInBounds_ne ne, Array.getElem?_setIfInBounds_ne ne]
    exact ⟨a, b, c⟩
  · by_cases e : g = i
    · subst e
      rw [Array.getElem?_setIfInBounds_self, Array.getElem?_setIfInBounds_self, z.size]
      refine ⟨rfl, fun u hu => ?_⟩
      split at hu
      · cases hu; exact hy
      · cases hu
    · rw [Array.getElem?_setIfInBounds_ne e, Array.getElem?_setIfInBounds_ne e]
      exact z.oth i h
/-- a look at a state -/
theorem Zr.look (z : Zr Z G G') {g : Nat} {y : GenState} (h : G[g]? = some y) : ∃ y', G'[g]? = some y' ∧ y'.seen = y.seen := by
  cases e : Z g with
  | none => exact ⟨y, by rw [← (z.oth g e).1]; exact h, rfl⟩
  | some x =>
    obtain ⟨_, b, c⟩ := z.slp g x e
    rw [h] at b
    cases b
    exact ⟨x, c, (poison_seen x).symm⟩
/-- who can be woken is the same on both sides -/
theorem Zr.wake (z : Zr Z G G') {g : Nat} {y : GenState} (h : G[g]? = some y) (hn : ∀ k l c p fs cl, y = .suspended k l c p fs cl → ∀ k0 : Resume → Sem PySem.Fin, k ≠ fun r => .fork c fun _ => k0 r) : Z g = none ∧ G'[g]? = some y ∧ clG y := by
  cases e : Z g with
  | none => exact ⟨rfl, by rw [← (z.oth g e).1]; exact h, (z.oth g e).2 y h⟩
  | some x =>
    exfalso
    obtain ⟨a, b, c⟩ := z.slp g x e
    rw [h] at b
    cases x with
    | suspended k l c p fs cl => exact hn _ _ _ _ _ _ (Option.some.inj b) k rfl
    | _ => cases a
end
theorem clE_state {e : End} (h : clE e) : clG e.genState := by
  cases e with
  | ret r => exact trivial
  | susp v g l k c p fs => exact h
theorem runs_z {M : Model} {Γ : Ctx} {p : Pos} {t : Sem PySem.Fin} {fs : List Frame} {s s' : Shared} {e : End} (h : Runs M Γ p t fs s e s') {Z : Nat → Option GenState} :
    clF fs → ∀ G2, Zr Z s.gens G2 → ∃ G3, Runs M Γ p t fs (sw s G2) e (sw s' G3) ∧ Zr Z s'.gens G3 ∧ clE e := by
  induction h with
  | done => intro _ G2 z; exact ⟨G2, .done, z, trivial⟩
  | raise => intro _ G2 z; exact ⟨G2, .raise, z, trivial⟩
  | again q _ ih => intro c G2 z; obtain ⟨G3, r, z3, ce⟩ := ih c G2 z; exact ⟨G3, .again q r, z3, ce⟩
  | rule _ ih => intro c G2 z; obtain ⟨G3, r, z3, ce⟩ := ih c G2 z; exact ⟨G3, .rule r, z3, ce⟩
  | «at» _ ih => intro c G2 z; obtain ⟨G3, r, z3, ce⟩ := ih c G2 z; exact ⟨G3, .at r, z3, ce⟩
  | load h _ ih => intro c G2 z; obtain ⟨G3, r, z3, ce⟩ := ih c G2 z; exact ⟨G3, .load h r, z3, ce⟩
  | update h _ ih => intro c G2 z; obtain ⟨G3, r, z3, ce⟩ := ih c G2 z; exact ⟨G3, .update h r, z3, ce⟩
  | loadIfAlive _ ih => intro c G2 z; obtain ⟨G3, r, z3, ce⟩ := ih c G2 z; exact ⟨G3, .loadIfAlive r, z3, ce⟩
  | point _ ih => intro c G2 z; obtain ⟨G3, r, z3, ce⟩ := ih c G2 z; exact ⟨G3, .point r, z3, ce⟩
  | alloc _ ih => intro c G2 z; obtain ⟨G3, r, z3, ce⟩ := ih c G2 z; exact ⟨G3, .alloc r, z3, ce⟩
  | fresh _ ih => intro c G2 z; obtain ⟨G3, r, z3, ce⟩ := ih c G2 z; exact ⟨G3, .fresh r, z3, ce⟩
  | ask _ ih => intro c G2 z; obtain ⟨G3, r, z3, ce⟩ := ih c G2 z; exact ⟨G3, .ask r, z3, ce⟩
  | choose n _ ih => intro c G2 z; obtain ⟨G3, r, z3, ce⟩ := ih c G2 z; exact ⟨G3, .choose n r, z3, ce⟩
  | os _ ih => intro c G2 z; obtain ⟨G3, r, z3, ce⟩ := ih c G2 z; exact ⟨G3, .os r, z3, ce⟩
  | handled _ ih => intro c G2 z; obtain ⟨G3, r, z3, ce⟩ := ih c G2 z; exact ⟨G3, .handled r, z3, ce⟩
  | genState h _ ih =>
    intro c G2 z
    obtain ⟨G3, r, z3, ce⟩ := ih c G2 z
    obtain ⟨y, hy, es⟩ := z.look h
    exact ⟨G3, .genState hy (by rw [es]; exact r), z3, ce⟩
  | stack _ ih => intro c G2 z; obtain ⟨G3, r, z3, ce⟩ := ih c G2 z; exact ⟨G3, .stack r, z3, ce⟩
  | thread _ ih => intro c G2 z; obtain ⟨G3, r, z3, ce⟩ := ih c G2 z; exact ⟨G3, .thread r, z3, ce⟩
  | newGen _ ih =>
    intro c G2 z
    obtain ⟨G3, r, z3, ce⟩ := ih c (G2.push _) (z.push trivial)
    refine ⟨G3, .newGen ?_, z3, ce⟩
    rw [show (sw _ G2).gens.size = _ from z.size.symm]
    exact r
  | call _ _ ih1 ih2 =>
    intro c G2 z
    obtain ⟨G3, r, z3, _⟩ := ih1 rfl G2 z
    obtain ⟨G4, r4, z4, ce⟩ := ih2 c G3 z3
    exact ⟨G4, .call r r4, z4, ce⟩
  | callSusp _ ih =>
    intro c G2 z
    obtain ⟨G3, r, z3, ce⟩ := ih rfl G2 z
    exact ⟨G3, .callSusp r, z3, clF_app ce rfl⟩
  | yield => intro _ G2 z; exact ⟨G2, .yield, z, rfl⟩
  | resumeFresh h _ q _ ih1 ih2 =>
    intro c G2 z
    obtain ⟨z0, hg, cy⟩ := z.wake h (fun _ _ _ _ _ _ z => (by cases z))
    obtain ⟨G3, r, z3, ce⟩ := ih1 rfl _ (z.set z0 (y := .running) trivial)
    obtain ⟨G4, r4, z4, ce4⟩ := ih2 c _ (z3.set z0 (clE_state ce))
    exact ⟨G4, .resumeFresh hg r q r4, z4, ce4⟩
  | resumeSuspended h h1 q _ ih1 ih2 =>
    intro c G2 z
    obtain ⟨z0, hg, cy⟩ := z.wake h (fun k l c p fs cl e k0 ek => by
      cases e
      rw [ek] at h1
      exact no_run h1 rfl)
    obtain ⟨G3, r, z3, ce⟩ := ih1 cy _ (z.set z0 (y := .running) trivial)
    obtain ⟨G4, r4, z4, ce4⟩ := ih2 c _ (z3.set z0 (clE_state ce))
    exact ⟨G4, .resumeSuspended hg r q r4, z4, ce4⟩
  | resumeJustStarted h n _ ih =>
    intro c G2 z
    obtain ⟨z0, hg, cy⟩ := z.wake h (fun _ _ _ _ _ _ z => (by cases z))
    obtain ⟨G3, r, z3, ce⟩ := ih c G2 z
    exact ⟨G3, .resumeJustStarted hg n r, z3, ce⟩
  | resumeThrowFresh h _ ih =>
    intro c G2 z
    obtain ⟨z0, hg, cy⟩ := z.wake h (fun _ _ _ _ _ _ z => (by cases z))
    obtain ⟨G3, r, z3, ce⟩ := ih c _ (z.set z0 (y := .finished) trivial)
    exact ⟨G3, .resumeThrowFresh hg r, z3, ce⟩
  | resumeRunning h _ ih =>
    intro c G2 z
    obtain ⟨z0, hg, cy⟩ := z.wake h (fun _ _ _ _ _ _ z => (by cases z))
    obtain ⟨G3, r, z3, ce⟩ := ih c G2 z
    exact ⟨G3, .resumeRunning hg r, z3, ce⟩
  | resumeFinished h _ ih =>
    intro c G2 z
    obtain ⟨z0, hg, cy⟩ := z.wake h (fun _ _ _ _ _ _ z => (by cases z))
    obtain ⟨G3, r, z3, ce⟩ := ih c G2 z
    exact ⟨G3, .resumeFinished hg r, z3, ce⟩
  | segRet _ _ ih1 ih2 =>
    intro c G2 z
    obtain ⟨G3, r, z3, _⟩ := ih1 rfl G2 z
    obtain ⟨G4, r4, z4, ce⟩ := ih2 (clF_cons c).2 G3 z3
    exact ⟨G4, .segRet r r4, z4, ce⟩
  | segGen _ _ ih1 ih2 => intro c; exact absurd (clF_cons c).1 (fun z => by cases z)
  | segSuspOut h _ ih =>
    intro c G2 z
    obtain ⟨G3, r, z3, ce⟩ := ih rfl G2 z
    exact ⟨G3, .segSuspOut h r, z3, clF_app ce c⟩
  | segSuspGen h _ _ _ ih1 ih2 =>
    intro c G2 z
    rw [split_cl c] at h
    cases h
end Pu
namespace Pu
open PySem
section
variable {M : Model} {Γ : Ctx} {p : Pos} {s s' : Shared} {Z : Nat → Option GenState} {G2 : Array GenState}
theorem wakes_z {g : Nat} {r : Resume} {res : GenResult} (h : Wakes M Γ p g r s res s') (z : Zr Z s.gens G2) : ∃ G3, Wakes M Γ p g r (sw s G2) res (sw s' G3) ∧ Zr Z s'.gens G3 := by
  unfold Wakes at h ⊢
  cases e : s.gens[g]? with
  | none => rw [e] at h; exact h.elim
  | some y =>
    rw [e] at h
    cases y with
    | fresh c =>
      obtain ⟨z0, hg, cy⟩ := z.wake e (fun _ _ _ _ _ _ z => by cases z)
      rw [show (sw s G2).gens[g]? = some (.fresh c) from hg]
      cases r with
      | send v =>
        by_cases hv : v = .none
        · subst hv
          obtain ⟨e1, s1, r1, q, hr, hs⟩ := h
          obtain ⟨G3, r3, z3, ce⟩ := runs_z r1 rfl _ (z.set z0 (y := .running) trivial)
          subst hs
          exact ⟨_, ⟨e1, _, r3, q, hr, rfl⟩, z3.set z0 (clE_state ce)⟩
        · have h2 : res = .justStarted ∧ s' = s := by
            cases v <;> first | exact h | exact absurd rfl hv
          obtain ⟨hr, rfl⟩ := h2
          refine ⟨G2, ?_, z⟩
          cases v <;> first | exact ⟨hr, rfl⟩ | exact absurd rfl hv
      | throw x =>
        obtain ⟨hr, rfl⟩ := h
        exact ⟨_, ⟨hr, rfl⟩, z.set z0 (y := .finished) trivial⟩
    | suspended k l c p0 fs cl =>
      obtain ⟨e1, s1, r1, q, hr, hs⟩ := h
      obtain ⟨z0, hg, cy⟩ := z.wake e (fun k' l' c' p' fs' cl' e' k0 ek => by
        cases e'
        rw [ek] at r1
        exact no_run r1 rfl)
      rw [show (sw s G2).gens[g]? = some (.suspended k l c p0 fs cl) from hg]
      obtain ⟨G3, r3, z3, ce⟩ := runs_z r1 cy _ (z.set z0 (y := .running) trivial)
      subst hs
      exact ⟨_, ⟨e1, _, r3, q, hr, rfl⟩, z3.set z0 (clE_state ce)⟩
    | running =>
      obtain ⟨z0, hg, cy⟩ := z.wake e (fun _ _ _ _ _ _ z => by cases z)
      rw [show (sw s G2).gens[g]? = some .running from hg]
      obtain ⟨hr, rfl⟩ := h
      exact ⟨G2, ⟨hr, rfl⟩, z⟩
    | finished =>
      obtain ⟨z0, hg, cy⟩ := z.wake e (fun _ _ _ _ _ _ z => by cases z)
      rw [show (sw s G2).gens[g]? = some .finished from hg]
      obtain ⟨hr, rfl⟩ := h
      exact ⟨G2, ⟨hr, rfl⟩, z⟩
end
/-- what is true behind the poisoned run is true behind the other, but for who sleeps -/
def liftZ {α : Type} (Z : Nat → Option GenState) (Q : α → Pos → Shared → Prop) : α → Pos → Shared → Prop := fun a p s2 => ∃ s1 G3, Q a p s1 ∧ Zr Z s1.gens G3 ∧ s2 = sw s1 G3
theorem wp_z {α : Type} {M : Model} {Γ : Ctx} {Z : Nat → Option GenState} {Q : α → Pos → Shared → Prop} {E : Value → Pos → Shared → Prop} (t : Sem α) : ∀ {p : Pos} {s : Shared} {G2 : Array GenState}, Sem.wp M Γ t Q E p s → Zr Z s.gens G2 → Sem.wp M Γ t (liftZ Z Q) (liftZ Z E) p (sw s G2) := by
  induction t with
  | pure a => intro p s G2 h z; exact ⟨s, G2, h, z, rfl⟩
  | raise e => intro p s G2 h z; exact ⟨s, G2, h, z, rfl⟩
  | unsupported w => intro p s G2 h z; exact h
  | finish e => intro p s G2 h z; exact h
  | rule tag k ih => intro p s G2 h z; exact ih () h z
  | «at» p' k ih => intro p s G2 h z; exact ih () h z
  | load a part k ih =>
    intro p s G2 h z
    obtain ⟨o, ho, h⟩ := h
    exact ⟨o, ho, ih o h z⟩
  | update a part f k ih =>
    intro p s G2 h z
    obtain ⟨ho, h⟩ := h
    exact ⟨ho, ih () h z⟩
  | alloc o k ih => intro p s G2 h z; exact ih _ h z
  | loadIfAlive a k ih => intro p s G2 h z; exact ih _ h z
  | point l k ih => intro p s G2 h z; exact ih () h z
  | register a k ih => intro p s G2 h z; exact h
  | fresh k ih => intro p s G2 h z; exact ih _ h z
  | ask k ih => intro p s G2 h z; exact ih _ h z
  | choose src n k ih =>
    intro p s G2 h z
    obtain ⟨hn, h⟩ := h
    exact ⟨hn, ih _ h z⟩
  | os q l k ih => intro p s G2 h z; exact ih _ h z
  | call c h g l k ih =>
    intro p s G2 hh z
    obtain ⟨r, s', hr, h⟩ := hh
    obtain ⟨G3, r3, z3, _⟩ := runs_z hr rfl G2 z
    exact ⟨r, _, r3, ih r h z3⟩
  | handled own k ih => intro p s G2 h z; exact ih _ h z
  | newGen c k ih =>
    intro p s G2 h z
    have h2 := ih _ h (z.push (y := .fresh c) trivial)
    rw [z.size] at h2
    exact h2
  | genState g k ih =>
    intro p s G2 h z
    obtain ⟨st, hs, h⟩ := h
    obtain ⟨y, hy, es⟩ := z.look hs
    exact ⟨y, hy, by rw [es]; exact ih _ h z⟩
  | resume g r l k ih =>
    intro p s G2 h z
    obtain ⟨res, s', hw, h⟩ := h
    obtain ⟨G3, w3, z3⟩ := wakes_z hw z
    exact ⟨res, _, w3, ih res h z3⟩
  | yield v g l k ih => intro p s G2 h z; exact h
  | stack k ih => intro p s G2 h z; exact ih _ h z
  | fork c k ih => intro p s G2 h z; exact h
  | thread k ih => intro p s G2 h z; exact ih _ h z
  | await a take timed l k ih => intro p s G2 h z; exact h
/-- all that sleeps is poisoned -/
def psnG (G : Array GenState) : Array GenState := G.map poison
def slpZ (G : Array GenState) : Nat → Option GenState := fun i => match G[i]? with
  | some y => if isSusp y = true then some y else none
  | none => none
theorem slp_zr (G : Array GenState) : Zr (slpZ G) (psnG G) G := by
  refine ⟨Array.size_map, fun i x h => ?_, fun i h => ?_⟩
  · unfold slpZ at h
    cases e : G[i]? with
    | none => rw [e] at h; cases h
    | some y =>
      rw [e] at h
      dsimp only at h
      split at h
      · rename_i c
        cases h
        exact ⟨c, by unfold psnG; rw [Array.getElem?_map, e]; rfl, rfl⟩
      · cases h
  · unfold slpZ at h
    unfold psnG
    rw [Array.getElem?_map]
    cases e : G[i]? with
    | none => exact ⟨rfl, fun y hy => by cases hy⟩
    | some y =>
      rw [e] at h
      dsimp only at h
      split at h
      · cases h
      · rename_i c
        cases y with
        | suspended k l c' p fs cl => exact absurd rfl c
        | _ => exact ⟨rfl, fun u hu => by cases hu; exact trivial⟩
theorem psn_bare {G : Array GenState} (h : PyProof.Rows.AllBare G) : PyProof.Rows.AllBare (psnG G) := fun y hy => by
  obtain ⟨x, hx, rfl⟩ := Array.mem_map.mp hy
  rw [poison_bare]
  exact h x hx
/-- the rule: run it where all sleepers are poisoned; behind it every sleeper is as it was -/
theorem wpAny_sleep {α : Type} {M : Model} {A : Around} {t : Sem α} {Q : α → Shared → Prop} {E : Value → Shared → Prop} {s : Shared} (h : wpAny M A t Q E (sw s (psnG s.gens))) :
    wpAny M A t (fun a s2 => ∃ s1 G3, Q a s1 ∧ Zr (slpZ s.gens) s1.gens G3 ∧ s2 = sw s1 G3) (fun e s2 => ∃ s1 G3, E e s1 ∧ Zr (slpZ s.gens) s1.gens G3 ∧ s2 = sw s1 G3) s := fun Γ p hi => by
  have h2 := wp_z (s := sw s (psnG s.gens)) (G2 := s.gens) t (h Γ p hi) (slp_zr s.gens)
  exact h2
/-- behind it all is bare, and who slept sleeps on -/
theorem zr_bare {G s : Array GenState} {G3 : Array GenState} (z : Zr (slpZ s) G G3) (hb : PyProof.Rows.AllBare G) (hs : PyProof.Rows.AllBare s) : PyProof.Rows.AllBare G3 := fun y hy => by
  obtain ⟨i, hi, rfl⟩ := Array.mem_iff_getElem.mp hy
  have e : G3[i]? = some G3[i] := Array.getElem?_eq_getElem hi
  cases h : slpZ s i with
  | none =>
    have := (z.oth i h).1
    rw [e] at this
    exact hb _ (Array.mem_of_getElem? this)
  | some x =>
    obtain ⟨_, _, c⟩ := z.slp i x h
    rw [e] at c
    cases c
    have : s[i]? = some G3[i] := by
      unfold slpZ at h
      cases e2 : s[i]? with
      | none => rw [e2] at h; cases h
      | some y =>
        rw [e2] at h
        dsimp only at h
        split at h
        · cases h; rfl
        · cases h
    exact hs _ (Array.mem_of_getElem? this)
theorem zr_at {G s G3 : Array GenState} {g : Nat} {y : GenState} (z : Zr (slpZ s) G G3) (h : s[g]? = some y) (hy : isSusp y = true) : G3[g]? = some y := by
  have : slpZ s g = some y := by
    unfold slpZ
    rw [h]
    exact if_pos hy
  exact (z.slp g y this).2.2
end Pu
namespace Rb
open PySem PySem.Spec PyProof.Rows L2
/-! repr of data -/
/-! sum of a tuple of ints -/
theorem isTup_isTuple {h : Heap} {a : Addr} {items : Array Value} (x : IsTup h a items) : h.IsTuple a items := by
  obtain ⟨o, e, c, n, d⟩ := x
  exact ⟨o, e, c, n, d⟩
end Rb
namespace Rb
open PySem PySem.Spec PyProof.Rows L2
/-! defs that are run where no repr is under way -/
structure FnG (pr : Program) (wo : World) (K : PySem.W.Frag) (mg : Str → Option Value) (b0 : Heap) (cx : CXT) (lv : Nat) (fn : Addr) (dat : FuncData) (pars : List Str) (sp : Sp) : Prop where
  many : ∀ xs H Q E, sp xs H Q E → xs.length = pars.length
  goes : ∀ (A : Around) (out : List Env) (s : Shared) (H : Hp) (ar : Args) (us : List Value) (xs : List V) (Q : VK) (E : XK),
    Room lv A → A.guards = some [] → Env0 pr wo K mg b0 A out s H → BindsTo s dat ar (pars.zip us) → Vals xs us → sp xs H Q E →
    codeAny (model pr wo) A (.call (.ref fn) ar) (CR cx out pr wo H s Q E) s
section
variable {pr : Program} {wo : World} {K : PySem.W.Frag} {mg : Str → Option Value} {b0 : Heap} {cx : CXT} {lv : Nat} {fn : Addr} {dat : FuncData} {pars : List Str} {sp : Sp}
theorem FnG.of (F : FnOk pr wo K mg b0 cx lv fn dat pars sp) : FnG pr wo K mg b0 cx lv fn dat pars sp :=
  ⟨F.len, fun A out s H ar us xs Q E h1 _ h2 h3 h4 h5 => F.run A out s H ar us xs Q E h1 h2 h3 h4 h5⟩
end
section
variable {pr : Program} {wo : World} {K : PySem.W.Frag} {mg : Str → Option Value} {b0 : Heap} {lv : Nat} {sp : Sp}
theorem fnG_of {cx : CXT} {fn : Addr} {nm qn : Str} {pm : Arguments} {bd : List Stmt} {sco : Scope} {dV kV dc pv cdv ct oc : Value} {an od : Option Addr} {osl : Array (Option Value)} {NN pars : List Str}
    (at_ : K.lookup fn = some ⟨oc, od, .func (PySem.W.fnOf nm qn pm bd sco dV kV dc pv an cdv ct), osl⟩) (code : PySem.W.codeIn K cdv qn = true) (S : FnScope NN pars sco)
    (many : ∀ xs H Q E, sp xs H Q E → xs.length = pars.length)
    (body : ∀ (A : Around) (out : List Env) (s : Shared) (H : Hp) (xs : List V) (Q : VK) (E : XK), A.guards = some [] → Room lv (A.deeper (envOfC qn sco s.heap.objs.size fn cdv)) → sp xs H Q E →
      ∃ t, PSs (cxOf cx pr wo K mg b0 NN qn sco fn cdv A out s H E) bd t ∧ t { nx := fun _ H' => Q .non H', rt := Q } (start NN xs) H) :
    FnG pr wo K mg b0 cx (lv + 1) fn (PySem.W.fnOf nm qn pm bd sco dV kV dc pv an cdv ct) pars sp := by
  constructor
  · exact many
  intro A out s H ar us xs Q E rm gd e0 bi vx pro
  have old : ∀ b o, b0.get? b = some o → s.heap.get? b = some o := fun b o e => (e0.bs b o e).1
  have kin : K.In s.heap := e0.mod.kin.keeps old
  refine codeAny_call_function rm.depth (kin _ _ at_) rfl S.co S.gen rfl (PySem.W.codeRec_of kin code) (bi _ _ _ _ ?_)
  refine wpAny_newFunctionEnv_cells S.kind ?_ ?_
  · rintro ⟨n, v⟩ hy
    cases S.par n (List.of_mem_zip hy).1 with
    | inl q => exact Or.inl q
    | inr q => exact Or.inr ⟨q, PySem.W.cellsFrom_some _ _ _ (Or.inl q)⟩
  intro env he s1 ic
  subst he
  refine ⟨(e0.mod.nolimit.keeps old).keeps ic.toInCall.keep, codeAny_func ?_⟩
  obtain ⟨t, ht, rd⟩ := body A out s H xs Q E gd (rm.deeper _) pro
  have I : Inv (cxOf cx pr wo K mg b0 NN qn sco fn cdv A out s H E) [] (start NN xs) H s1 := inv_start S rm.hd e0 (many _ _ _ _ pro) vx ic
  refine wpAny_mono (ht.run [] s1 (start NN xs) H _ I rd) ?_ (fun _ _ z => z)
  intro fl s2 hs
  match fl, hs with
  | .ret u, ⟨v, σ2, H2, J, rv, q⟩ => exact ⟨v, H2, J.os, J.bare, J.base, J.hok, rv, q⟩
  | .next, ⟨σ2, H2, J, q⟩ => exact ⟨V.non, H2, J.os, J.bare, J.base, J.hok, rfl, q⟩
  | .brk, ⟨_, _, _, q⟩ => exact (q : False).elim
  | .cont, ⟨_, _, _, q⟩ => exact (q : False).elim
/-- a def of the text that is run where no repr is under way -/
theorem okG {x qn : Str} {st : Stmt} {fn : Addr} {dat : FuncData} {NN pars : List Str} (F : Fun K x qn st fn dat) (S : FnScope NN pars (defScope st)) (many : ∀ xs H Q E, sp xs H Q E → xs.length = pars.length)
    (body : ∀ (cdv : Value) (A : Around) (out : List Env) (s : Shared) (H : Hp) (xs : List V) (Q : VK) (E : XK), A.guards = some [] → Room lv (A.deeper (envOfC qn (defScope st) s.heap.objs.size fn cdv)) → sp xs H Q E →
      ∃ t, PSs (cxOf CX0 pr wo K mg b0 NN qn (defScope st) fn cdv A out s H E).nox (defBody st) t ∧ t { nx := fun _ H' => Q .non H', rt := Q } (start NN xs) H) :
    FnG pr wo K mg b0 CX0 (lv + 1) fn dat pars sp := by
  obtain ⟨oc, od, kV, dc, pv, an, cdv, ct, osl, rfl, at_, code⟩ := F.ex
  refine fnG_of at_ code S many fun A out s H xs Q E gd rm pro => ?_
  obtain ⟨t, h, q⟩ := body cdv A out s H xs Q E gd rm pro
  exact ⟨t, h.nox, q⟩
end
end Rb
namespace Rb
open PySem PySem.Spec PyProof.Rows L2
/-! the deck: a list of the cells and the count of draws -/
def Dk (H : Hp) (d c : Addr) (N : Int) : Prop := ∃ (cs : List Int) (n : Int), H d = some (.lst [.ref c, .int n]) ∧ H c = some (.lst (cs.map V.int)) ∧ cs.length ≤ 63 ∧ (∀ x ∈ cs, 0 ≤ x) ∧ 0 ≤ n ∧ n ≤ N
/-- all but the deck is kept -/
def Kp (d c : Addr) (H H' : Hp) : Prop := ∀ b o, H b = some o → b ≠ d → b ≠ c → H' b = some o
theorem Kp.refl {d c : Addr} {H : Hp} : Kp d c H H := fun _ _ e _ _ => e
theorem Kp.trans {d c : Addr} {H H1 H2 : Hp} (a : Kp d c H H1) (b : Kp d c H1 H2) : Kp d c H H2 := fun x o e n1 n2 => b x o (a x o e n1 n2) n1 n2
theorem Kp.ex {d c : Addr} {H H1 : Hp} (a : Evl.Ex H H1) : Kp d c H H1 := fun x o e _ _ => a x o e
theorem Kp.new {d c : Addr} {H : Hp} {p : Addr} {o : HO} (h : H p = none) : Kp d c H (upd H p o) := Kp.ex (Evl.Ex.new h)
theorem Dk.ex {H H' : Hp} {d c : Addr} {N : Int} (h : Dk H d c N) (e : Evl.Ex H H') : Dk H' d c N := by
  obtain ⟨cs, n, h1, h2, r⟩ := h
  exact ⟨cs, n, e _ _ h1, e _ _ h2, r⟩
theorem Dk.new {H : Hp} {d c p : Addr} {N : Int} {o : HO} (h : Dk H d c N) (hp : H p = none) : Dk (upd H p o) d c N := h.ex (Evl.Ex.new hp)
theorem Dk.le {H : Hp} {d c : Addr} {N M : Int} (h : Dk H d c N) (e : N ≤ M) : Dk H d c M := by
  obtain ⟨cs, n, h1, h2, h3, h4, h5, h6⟩ := h
  exact ⟨cs, n, h1, h2, h3, h4, h5, by omega⟩
theorem Dk.ne1 {H : Hp} {d c p : Addr} {N : Int} (h : Dk H d c N) (hp : H p = none) : p ≠ d := by
  obtain ⟨cs, n, h1, _⟩ := h
  rintro rfl
  rw [h1] at hp
  cases hp
theorem Dk.ne2 {H : Hp} {d c p : Addr} {N : Int} (h : Dk H d c N) (hp : H p = none) : p ≠ c := by
  obtain ⟨cs, n, _, h1, _⟩ := h
  rintro rfl
  rw [h1] at hp
  cases hp
/-- fresh behind is fresh before -/
theorem Kp.fresh {d c p : Addr} {H H' : Hp} {N : Int} (k : Kp d c H H') (h : Dk H' d c N) (hp : H' p = none) : H p = none := by
  cases e : H p with
  | none => rfl
  | some o =>
    rw [k p o e (h.ne1 hp) (h.ne2 hp)] at hp
    cases hp
theorem Kp.sqT {K : PySem.W.Frag} {d c a : Addr} {H H' : Hp} {N : Int} {xs : List V} (k : Kp d c H H') (h : Dk H d c N) (hs : SqT K H a xs) : SqT K H' a xs := by
  obtain ⟨cs, n, h1, h2, _⟩ := h
  have go : ∀ u : HO, (∀ ys, u ≠ .lst ys) → H a = some u → H' a = some u := fun u nu e => k a u e
    (by rintro rfl; rw [h1] at e; exact nu _ (Option.some.inj e).symm) (by rintro rfl; rw [h2] at e; exact nu _ (Option.some.inj e).symm)
  rcases hs with (e | ⟨o, e⟩) | e
  · exact .inl (.inl (go _ (fun _ z => nomatch z) e))
  · exact .inl (.inr ⟨o, go _ (fun _ z => nomatch z) e⟩)
  · exact .inr e
theorem tupOf {K : PySem.W.Frag} {H : Hp} {a : Addr} {xs : List V} (h : H a = some (.tup xs)) : SqT K H a xs := .inl (.inl h)
theorem lstOf {K : PySem.W.Frag} {H : Hp} {a : Addr} {xs : List V} (h : H a = some (.lst xs)) : SqL K H a xs := .inl (.inl h)
/-! picks from short lists -/
theorem pick3 {x y z : V} {r : Int} (h0 : 0 ≤ r) (h1 : r < 3) : ∃ v, atI [x, y, z] r = some v ∧ (v = x ∨ v = y ∨ v = z) := by
  rcases (by omega : r = 0 ∨ r = 1 ∨ r = 2) with rfl | rfl | rfl
  · exact ⟨x, rfl, .inl rfl⟩
  · exact ⟨y, rfl, .inr (.inl rfl)⟩
  · exact ⟨z, rfl, .inr (.inr rfl)⟩
theorem pick3i {x y z r : Int} (h0 : 0 ≤ r) (h1 : r < 3) : ∃ v : Int, atI [V.int x, V.int y, V.int z] r = some (V.int v) ∧ (v = x ∨ v = y ∨ v = z) := by
  rcases (by omega : r = 0 ∨ r = 1 ∨ r = 2) with rfl | rfl | rfl
  · exact ⟨x, rfl, .inl rfl⟩
  · exact ⟨y, rfl, .inr (.inl rfl)⟩
  · exact ⟨z, rfl, .inr (.inr rfl)⟩
theorem sz_le {n : Nat} (h : n ≤ 100000) : n ≤ sizeLine := Evl.sz_of h
/-- slices from the beginning -/
theorem cut_to {xs : List V} {k : Nat} : cutV xs none (some (k : Int)) = xs.take k := by
  unfold cutV
  rw [HT.sIx_none, HT.sIx_nat]
  show List.take (min k xs.length - 0) (xs.drop 0) = _
  rw [List.drop_zero, Nat.sub_zero]
  rcases Nat.le_total k xs.length with h | h
  · rw [Nat.min_eq_left h]
  · rw [Nat.min_eq_right h, List.take_length, List.take_of_length_le h]
/-! a road -/
def Road (K : PySem.W.Frag) (H : Hp) (v : V) (w r : Int) (bs : List Int) : Prop := ∃ a b, v = .ref a ∧ SqT K H a [.int w, .int r, .ref b] ∧ SqT K H b (bs.map V.int)
theorem Road.kp {K : PySem.W.Frag} {d c : Addr} {H H' : Hp} {N : Int} {v : V} {w r : Int} {bs : List Int} (x : Road K H v w r bs) (k : Kp d c H H') (h : Dk H d c N) : Road K H' v w r bs := by
  obtain ⟨a, b, e, h1, h2⟩ := x
  exact ⟨a, b, e, k.sqT h h1, k.sqT h h2⟩
theorem Road.ex {K : PySem.W.Frag} {H H' : Hp} {v : V} {w r : Int} {bs : List Int} (x : Road K H v w r bs) (k : Evl.Ex H H') : Road K H' v w r bs := by
  obtain ⟨a, b, e, h1, h2⟩ := x
  exact ⟨a, b, e, Evl.ex_t k h1, Evl.ex_t k h2⟩
/-! data of ints: what repr shows -/
theorem DpAll.ints {K : PySem.W.Frag} {H : Hp} : ∀ ns : List Int, DpAll K H (ns.map V.int) (ns.map PyData.int)
  | [] => .nil
  | n :: ns => .cons (.int n) (DpAll.ints ns)
theorem Dp.tupI {K : PySem.W.Frag} {H : Hp} {a : Addr} {ns : List Int} (h : SqT K H a (ns.map V.int)) : Dp K H (.ref a) (.tuple (ns.map .int)) := .tup h (DpAll.ints ns)
def roadD (w r : Int) (bs : List Int) : PyData := .tuple [.int w, .int r, .tuple (bs.map .int)]
theorem Road.dp {K : PySem.W.Frag} {H : Hp} {v : V} {w r : Int} {bs : List Int} (x : Road K H v w r bs) : Dp K H v (roadD w r bs) := by
  obtain ⟨a, b, rfl, h1, h2⟩ := x
  exact .tup h1 (.cons (.int w) (.cons (.int r) (.cons (Dp.tupI h2) .nil)))
/-! data that repr shows: what it asks, by parts -/
structure Nice (k n : Nat) (d : PyData) : Prop where
  sh : d.showable = true
  lv : d.leavesShort 100 = true
  dep : d.depth ≤ k
  blk : d.bulk ≤ n
theorem Nice.mono {k n k' n' : Nat} {d : PyData} (h : Nice k n d) (h1 : k ≤ k') (h2 : n ≤ n') : Nice k' n' d := ⟨h.sh, h.lv, Nat.le_trans h.dep h1, Nat.le_trans h.blk h2⟩
theorem Nice.int {i : Int} (h : i.natAbs < 10 ^ 99) : Nice 0 0 (.int i) := by
  refine ⟨?_, ?_, Nat.le_refl _, Nat.le_refl _⟩
  · simp only [PyData.showable, decide_eq_true_eq]
    by_cases z : i.natAbs = 0
    · rw [z]; decide
    · refine (Nat.log2_lt z).mpr (Nat.lt_of_lt_of_le h ?_)
      decide +kernel
  · simp only [PyData.leavesShort, decide_eq_true_eq, PyData.shown]
    refine decide_eq_true ?_
    rw [PySem.ofString_length]
    exact int_text_length_le10 (k := 99) (by decide) h
theorem Nice.none : Nice 0 0 .none := ⟨rfl, rfl, Nat.le_refl _, Nat.le_refl _⟩
theorem Nice.bool {b : Bool} : Nice 0 0 (.bool b) := ⟨rfl, rfl, Nat.le_refl _, Nat.le_refl _⟩
theorem Nice.str {x : Str} {n : Nat} (h : x.cps.size ≤ n) (hx : ∀ c ∈ x.cps.toList, c < 16 ^ 8) : Nice 0 n (.str x) := by
  refine ⟨rfl, ?_, Nat.le_refl _, h⟩
  simpa only [PyData.leavesShort, List.all_eq_true, decide_eq_true_eq] using hx
theorem nice_all {k n : Nat} : ∀ {xs : List PyData}, (∀ x ∈ xs, Nice k n x) → PyData.showableAll xs = true ∧ PyData.leavesShortAll 100 xs = true ∧ PyData.depthAll xs ≤ k ∧ PyData.bulkAll xs ≤ xs.length * (n + 1)
  | [], _ => ⟨rfl, rfl, Nat.zero_le _, Nat.zero_le _⟩
  | x :: xs, h => by
    obtain ⟨a, b, c, d⟩ := nice_all (xs := xs) fun y hy => h y (List.mem_cons_of_mem _ hy)
    have hx := h x List.mem_cons_self
    refine ⟨?_, ?_, ?_, ?_⟩
    · simp only [PyData.showableAll, hx.sh, a, Bool.and_true]
    · simp only [PyData.leavesShortAll, hx.lv, b, Bool.and_true]
    · simp only [PyData.depthAll]
      exact Nat.max_le.mpr ⟨hx.dep, c⟩
    · simp only [PyData.bulkAll, List.length_cons]
      have := hx.blk
      rw [Nat.add_mul]
      omega
theorem Nice.tup {k n m : Nat} {xs : List PyData} (h : ∀ x ∈ xs, Nice k n x) (hm : xs.length * (n + 1) ≤ m) : Nice (k + 1) m (.tuple xs) := by
  obtain ⟨a, b, c, d⟩ := nice_all h
  exact ⟨by simpa only [PyData.showable] using a, by simpa only [PyData.leavesShort] using b, by simp only [PyData.depth]; omega, by simp only [PyData.bulk]; omega⟩
theorem Nice.lst {k n m : Nat} {xs : List PyData} (h : ∀ x ∈ xs, Nice k n x) (hm : xs.length * (n + 1) ≤ m) : Nice (k + 1) m (.list xs) := by
  obtain ⟨a, b, c, d⟩ := nice_all h
  exact ⟨by simpa only [PyData.showable] using a, by simpa only [PyData.leavesShort] using b, by simp only [PyData.depth]; omega, by simp only [PyData.bulk]; omega⟩
theorem Nice.ints {ns : List Int} {m : Nat} (h : ∀ i ∈ ns, i.natAbs < 10 ^ 99) (hm : ns.length ≤ m) : Nice 1 m (.tuple (ns.map .int)) := by
  refine Nice.tup (k := 0) (n := 0) (fun x hx => ?_) (by rw [List.length_map]; omega)
  obtain ⟨i, hi, rfl⟩ := List.mem_map.mp hx
  exact Nice.int (h i hi)
theorem Nice.fits {k : Nat} {d : PyData} (n : Nice k 100000 d) : d.shown.length ≤ sizeLine := by
  have e := PyData.shown_le_bulk 100 (by decide) d n.lv
  have := n.blk
  have : (16777216 : Nat) ≤ sizeLine := by decide
  omega
/-! comprehensions whose element changes nothing -/
end Rb
namespace Rb
open PySem PySem.Spec PyProof.Rows L2
/-! data without lists: it never changes -/
mutual
inductive Tp (K : PySem.W.Frag) (H : Hp) : V → PyData → Prop
  | non : Tp K H .non .none
  | bl (b : Bool) : Tp K H (.bl b) (.bool b)
  | int (i : Int) : Tp K H (.int i) (.int i)
  | str (x : Str) : Tp K H (.str x) (.str x)
  | tup {a : Addr} {xs : List V} {ds : List PyData} : SqT K H a xs → TpAll K H xs ds → Tp K H (.ref a) (.tuple ds)
inductive TpAll (K : PySem.W.Frag) (H : Hp) : List V → List PyData → Prop
  | nil : TpAll K H [] []
  | cons {v : V} {vs : List V} {d : PyData} {ds : List PyData} : Tp K H v d → TpAll K H vs ds → TpAll K H (v :: vs) (d :: ds)
end
section
variable {K : PySem.W.Frag} {H H' : Hp}
mutual
theorem Tp.dp : ∀ (d : PyData) (v : V), Tp K H v d → Dp K H v d
  | .none, _, h => by cases h; exact .non
  | .bool b, _, h => by cases h; exact .bl b
  | .int i, _, h => by cases h; exact .int i
  | .str x, _, h => by cases h; exact .str x
  | .list _, _, h => by cases h
  | .dict _, _, h => by cases h
  | .tuple ds, _, h => by
    cases h with
    | tup hs ha => exact .tup hs (TpAll.dp ds _ ha)
theorem TpAll.dp : ∀ (ds : List PyData) (vs : List V), TpAll K H vs ds → DpAll K H vs ds
  | [], _, h => by cases h; exact .nil
  | d :: ds, _, h => by
    cases h with
    | cons h1 h2 => exact .cons (Tp.dp d _ h1) (TpAll.dp ds _ h2)
end
mutual
theorem Tp.keep (k : ∀ a xs, SqT K H a xs → SqT K H' a xs) : ∀ (d : PyData) (v : V), Tp K H v d → Tp K H' v d
  | .none, _, h => by cases h; exact .non
  | .bool b, _, h => by cases h; exact .bl b
  | .int i, _, h => by cases h; exact .int i
  | .str x, _, h => by cases h; exact .str x
  | .list _, _, h => by cases h
  | .dict _, _, h => by cases h
  | .tuple ds, _, h => by
    cases h with
    | tup hs ha => exact .tup (k _ _ hs) (TpAll.keep k ds _ ha)
theorem TpAll.keep (k : ∀ a xs, SqT K H a xs → SqT K H' a xs) : ∀ (ds : List PyData) (vs : List V), TpAll K H vs ds → TpAll K H' vs ds
  | [], _, h => by cases h; exact .nil
  | d :: ds, _, h => by
    cases h with
    | cons h1 h2 => exact .cons (Tp.keep k d _ h1) (TpAll.keep k ds _ h2)
end
theorem Tp.ex {v : V} {d : PyData} (h : Tp K H v d) (e : Evl.Ex H H') : Tp K H' v d := Tp.keep (fun _ _ z => Evl.ex_t e z) d v h
theorem TpAll.ex {vs : List V} {ds : List PyData} (h : TpAll K H vs ds) (e : Evl.Ex H H') : TpAll K H' vs ds := TpAll.keep (fun _ _ z => Evl.ex_t e z) ds vs h
theorem Tp.kp {d c : Addr} {N : Int} {v : V} {x : PyData} (h : Tp K H v x) (k : Kp d c H H') (dk : Dk H d c N) : Tp K H' v x := Tp.keep (fun _ _ z => k.sqT dk z) x v h
theorem TpAll.kp {d c : Addr} {N : Int} {vs : List V} {ds : List PyData} (h : TpAll K H vs ds) (k : Kp d c H H') (dk : Dk H d c N) : TpAll K H' vs ds := TpAll.keep (fun _ _ z => k.sqT dk z) ds vs h
theorem sqT_upd {D a : Addr} {ys zs xs : List V} (hD : H D = some (.lst ys)) (h : SqT K H a xs) : SqT K (upd H D (.lst zs)) a xs := by
  have go : ∀ u : HO, (∀ ys, u ≠ .lst ys) → H a = some u → upd H D (.lst zs) a = some u := fun u nu e => by
    rw [upd_ne (by rintro rfl; rw [hD] at e; exact nu _ (Option.some.inj e).symm)]
    exact e
  rcases h with (e | ⟨o, e⟩) | e
  · exact .inl (.inl (go _ (fun _ z => nomatch z) e))
  · exact .inl (.inr ⟨o, go _ (fun _ z => nomatch z) e⟩)
  · exact .inr e
theorem Tp.upd {D : Addr} {ys zs : List V} {v : V} {d : PyData} (h : Tp K H v d) (hD : H D = some (.lst ys)) : Tp K (upd H D (.lst zs)) v d := Tp.keep (fun _ _ z => sqT_upd hD z) d v h
theorem TpAll.upd {D : Addr} {ys zs : List V} {vs : List V} {ds : List PyData} (h : TpAll K H vs ds) (hD : H D = some (.lst ys)) : TpAll K (upd H D (.lst zs)) vs ds := TpAll.keep (fun _ _ z => sqT_upd hD z) ds vs h
theorem TpAll.length : ∀ {vs : List V} {ds : List PyData}, TpAll K H vs ds → vs.length = ds.length
  | _, _, .nil => rfl
  | _, _, .cons _ h => congrArg (· + 1) (TpAll.length h)
theorem TpAll.ints : ∀ ns : List Int, TpAll K H (ns.map V.int) (ns.map PyData.int)
  | [] => .nil
  | n :: ns => .cons (.int n) (TpAll.ints ns)
theorem Tp.tupI {a : Addr} {ns : List Int} (h : SqT K H a (ns.map V.int)) : Tp K H (.ref a) (.tuple (ns.map .int)) := .tup h (TpAll.ints ns)
theorem Road.tp {v : V} {w r : Int} {bs : List Int} (x : Road K H v w r bs) : Tp K H v (roadD w r bs) := by
  obtain ⟨a, b, rfl, h1, h2⟩ := x
  exact .tup h1 (.cons (.int w) (.cons (.int r) (.cons (Tp.tupI h2) .nil)))
end
/-! a comprehension over a range whose elements are such data -/
end Rb
namespace Rb
open PySem PySem.Spec PyProof.Rows L2
/-! enumerate of a tuple -/
/-! loops over pairs: the pair is a new tuple -/
end Rb
namespace Rb
/-! ### plans and ticks: the mathematics -/
def leP (p q : Int × Int) : Prop := p.1 < q.1 ∨ (p.1 = q.1 ∧ p.2 ≤ q.2)
instance (p q : Int × Int) : Decidable (leP p q) := inferInstanceAs (Decidable (p.1 < q.1 ∨ (p.1 = q.1 ∧ p.2 ≤ q.2)))
def insB {α : Type} (le : α → α → Bool) (x : α) : List α → List α
  | [] => [x]
  | y :: ys => if le x y = true then x :: y :: ys else y :: insB le x ys
def sortB {α : Type} (le : α → α → Bool) : List α → List α
  | [] => []
  | x :: xs => insB le x (sortB le xs)
theorem insB_perm {α : Type} (le : α → α → Bool) (x : α) : ∀ l : List α, (insB le x l).Perm (x :: l)
  | [] => List.Perm.refl _
  | y :: ys => by
    unfold insB
    split
    · exact List.Perm.refl _
    · exact ((insB_perm le x ys).cons y).trans (List.Perm.swap x y ys)
theorem sortB_perm {α : Type} (le : α → α → Bool) : ∀ l : List α, (sortB le l).Perm l
  | [] => List.Perm.refl _
  | x :: xs => (insB_perm le x _).trans ((sortB_perm le xs).cons x)
theorem insB_sorted {α : Type} {le : α → α → Bool} (tr : ∀ a b c, le a b = true → le b c = true → le a c = true) (tot : ∀ a b, le a b = true ∨ le b a = true) (x : α) : ∀ l : List α, l.Pairwise (fun a b => le a b = true) → (insB le x l).Pairwise (fun a b => le a b = true)
  | [], _ => List.pairwise_singleton _ _
  | y :: ys, h => by
    have hy := List.pairwise_cons.mp h
    unfold insB
    split
    · rename_i c
      refine List.pairwise_cons.mpr ⟨fun z hz => ?_, h⟩
      rcases List.mem_cons.mp hz with rfl | hz
      · exact c
      · exact tr _ _ _ c (hy.1 z hz)
    · rename_i c
      refine List.pairwise_cons.mpr ⟨fun z hz => ?_, insB_sorted tr tot x ys hy.2⟩
      rcases List.mem_cons.mp ((insB_perm le x ys).mem_iff.mp hz) with rfl | hz
      · exact (tot z y).resolve_left c
      · exact hy.1 z hz
theorem sortB_sorted {α : Type} {le : α → α → Bool} (tr : ∀ a b c, le a b = true → le b c = true → le a c = true) (tot : ∀ a b, le a b = true ∨ le b a = true) : ∀ l : List α, (sortB le l).Pairwise (fun a b => le a b = true)
  | [] => List.Pairwise.nil
  | x :: xs => insB_sorted tr tot x _ (sortB_sorted tr tot xs)
def srt (l : List Int) : List Int := sortB (fun a b => decide (a ≤ b)) l
def srtP (l : List (Int × Int)) : List (Int × Int) := sortB (fun a b => decide (leP a b)) l
theorem srt_perm (l : List Int) : (srt l).Perm l := sortB_perm _ l
theorem srtP_perm (l : List (Int × Int)) : (srtP l).Perm l := sortB_perm _ l
theorem leP_trans {a b c : Int × Int} (h1 : leP a b) (h2 : leP b c) : leP a c := by
  unfold leP at *
  omega
theorem leP_total (a b : Int × Int) : leP a b ∨ leP b a := by
  unfold leP
  omega
theorem srtP_sorted (l : List (Int × Int)) : (srtP l).Pairwise leP := by
  have h := sortB_sorted (le := fun a b : Int × Int => decide (leP a b)) (fun a b c h1 h2 => decide_eq_true (leP_trans (of_decide_eq_true h1) (of_decide_eq_true h2))) (fun a b => by rcases leP_total a b with h | h <;> simp [h]) l
  exact h.imp fun h => of_decide_eq_true h
theorem leP_anti {a b : Int × Int} (h1 : leP a b) (h2 : leP b a) : a = b := by
  obtain ⟨a1, a2⟩ := a
  obtain ⟨b1, b2⟩ := b
  simp only [leP] at h1 h2
  have : a1 = b1 := by omega
  have : a2 = b2 := by omega
  simp [*]
theorem srtP_len (l : List (Int × Int)) : (srtP l).length = l.length := (srtP_perm l).length_eq
/-! one stage -/
section
variable (ticks : List Int) (riders brought : List Nat) (st : Nat) (walk ride : Int)
def tickAt (p : Nat) : Int := ticks.getD p 0
end
/-! a whole plan: the ticks at each station -/
structure PlanOk (bikes : List Int) (n : Nat) (plan : List (List Nat)) : Prop where
  len : plan.length = bikes.length
  nn : ∀ b ∈ bikes, 0 ≤ b
  asc : ∀ r ∈ plan, r.Pairwise (· < ·)
  lt : ∀ r ∈ plan, ∀ p ∈ r, p < n
  few : ∀ i, (plan.getD i []).length ≤ (bikes.getD i 0).toNat + (if i = 0 then 0 else (plan.getD (i - 1) []).length)
def brM (plan : List (List Nat)) (i : Nat) : List Nat := if i = 0 then [] else plan.getD (i - 1) []
/-! waits -/
/-- a least item of what is left is the next in order -/
theorem least_next {S l : List (Int × Int)} {k : Nat} {m : Int × Int} (hs : S.Pairwise leP) (hp : l.Perm (S.drop k)) (hm : m ∈ l) (hle : ∀ q ∈ l, leP m q) : S[k]? = some m ∧ S.drop k = m :: S.drop (k + 1) := by
  have hm2 := hp.mem_iff.mp hm
  have kl : k < S.length := by
    rcases Nat.lt_or_ge k S.length with c | c
    · exact c
    · rw [List.drop_of_length_le c] at hm2
      cases hm2
  have ed : S.drop k = S[k] :: S.drop (k + 1) := List.drop_eq_getElem_cons kl
  have h1 : leP m S[k] := hle _ (hp.mem_iff.mpr (by rw [ed]; exact List.mem_cons_self))
  have h2 : leP S[k] m := by
    have hs2 : (S.drop k).Pairwise leP := hs.sublist (List.drop_sublist _ _)
    rw [ed] at hs2 hm2
    rcases List.mem_cons.mp hm2 with e | e
    · rw [e]
      exact .inr ⟨rfl, Int.le_refl _⟩
    · exact (List.pairwise_cons.mp hs2).1 m e
  have e := leP_anti h1 h2
  exact ⟨by rw [List.getElem?_eq_getElem kl, e], by rw [e]; exact ed⟩
theorem erase_next {α : Type} {l r : List α} {m : α} {j : Nat} (hj : l[j]? = some m) (hp : l.Perm (m :: r)) : (l.eraseIdx j).Perm r := by
  have h : (m :: l.eraseIdx j).Perm l := by
    clear hp
    induction l generalizing j with
    | nil => simp at hj
    | cons x l ih =>
      cases j with
      | zero =>
        cases hj
        exact List.Perm.refl _
      | succ j => exact (List.Perm.swap x m _).trans ((ih hj).cons x)
  exact (h.trans hp).cons_inv
/-! bounds -/
end Rb
namespace Rb
open PySem PySem.Spec PyProof.Rows L2
/-! pairs of ints in a list: min, remove, sorted -/
def pairD (p : Int × Int) : PyData := .tuple [.int p.1, .int p.2]
/-- the list's items are pairs, as told -/
def Prs (H : Hp) (xs : List V) (ps : List (Int × Int)) : Prop := xs.length = ps.length ∧ ∀ (i : Nat) (p : Int × Int), ps[i]? = some p → ∃ t, xs[i]? = some (.ref t) ∧ H t = some (.tup [.int p.1, .int p.2])
theorem Prs.nil {H : Hp} : Prs H [] [] := ⟨rfl, fun i p h => by simp at h⟩
theorem Prs.keep {H H' : Hp} {xs : List V} {ps : List (Int × Int)} (h : Prs H xs ps) (k : ∀ a ys, H a = some (.tup ys) → H' a = some (.tup ys)) : Prs H' xs ps :=
  ⟨h.1, fun i p hp => by
    obtain ⟨t, h1, h2⟩ := h.2 i p hp
    exact ⟨t, h1, k _ _ h2⟩⟩
theorem Prs.dp {K : PySem.W.Frag} {H : Hp} : ∀ {xs : List V} {ps : List (Int × Int)}, Prs H xs ps → DpAll K H xs (ps.map pairD)
  | [], [], _ => .nil
  | [], _ :: _, h => by cases h.1
  | _ :: _, [], h => by cases h.1
  | x :: xs, p :: ps, h => by
    obtain ⟨t, h1, h2⟩ := h.2 0 p rfl
    cases (Option.some.inj h1)
    refine .cons (.tup (tupOf h2) (.cons (.int _) (.cons (.int _) .nil))) (Prs.dp ⟨Nat.succ.inj h.1, fun i q hq => ?_⟩)
    exact h.2 (i + 1) q hq
end Rb
namespace Rb
open PySem PySem.Spec PyProof.Rows L2
/-- rows: refs of tuples of ints -/
def Rws (K : PySem.W.Frag) (H : Hp) (xs : List V) (rows : List (List Int)) : Prop := xs.length = rows.length ∧ ∀ (i : Nat) (r : List Int), rows[i]? = some r → ∃ t, xs[i]? = some (.ref t) ∧ SqT K H t (r.map V.int)
section
variable {K : PySem.W.Frag} {H H' : Hp} {xs : List V} {rows : List (List Int)}
theorem Rws.nil : Rws K H [] [] := ⟨rfl, fun i p h => by simp at h⟩
theorem Rws.keep (h : Rws K H xs rows) (k : ∀ a ys, SqT K H a ys → SqT K H' a ys) : Rws K H' xs rows :=
  ⟨h.1, fun i p hp => by
    obtain ⟨t, h1, h2⟩ := h.2 i p hp
    exact ⟨t, h1, k _ _ h2⟩⟩
theorem Rws.ex (h : Rws K H xs rows) (e : Evl.Ex H H') : Rws K H' xs rows := h.keep fun _ _ z => Evl.ex_t e z
theorem Rws.kp {d c : Addr} {N : Int} (h : Rws K H xs rows) (k : Kp d c H H') (dk : Dk H d c N) : Rws K H' xs rows := h.keep fun _ _ z => k.sqT dk z
theorem Rws.upd {D : Addr} {ys zs : List V} (h : Rws K H xs rows) (hD : H D = some (.lst ys)) : Rws K (upd H D (.lst zs)) xs rows := h.keep fun _ _ z => sqT_upd hD z
theorem Rws.tp : ∀ {xs : List V} {rows : List (List Int)}, Rws K H xs rows → TpAll K H xs (rows.map fun r => .tuple (r.map .int))
  | [], [], _ => .nil
  | [], _ :: _, h => by cases h.1
  | _ :: _, [], h => by cases h.1
  | x :: xs, p :: ps, h => by
    obtain ⟨t, h1, h2⟩ := h.2 0 p rfl
    cases (Option.some.inj h1)
    exact .cons (Tp.tupI h2) (Rws.tp ⟨Nat.succ.inj h.1, fun i q hq => h.2 (i + 1) q hq⟩)
end
/-! comprehensions over enumerate(list), and whose elements are new pairs -/
/-! sorted pairs -/
end Rb
namespace Rb
open PySem PySem.Spec PyProof.Rows L2
/-! a tuple times a number: once is the tuple itself -/
open AutoSeq1 (wpAny_loadPart') in
theorem tupMul1 (t : Addr) (its : Array Value) (n : Nat) (dc : Option Addr) (sl : Array (Option Value)) (u : Tok) :
    Meets (Builtin.«tuple.__mul__» ⟨[.ref t, .int 1 u], []⟩) (fun _ R s => s.heap.get? t = some { cls := .type "tuple", dict := dc, data := .seq its n, slots := sl } ∧ R (.ok (.ret (Value.ref t))) s) := by
  refine .of_wp fun pr wo A R s h => ?_
  obtain ⟨hp, g, d, tk, os⟩ := s
  obtain ⟨ht, h⟩ := h
  have f1 := AutoSeq1.idx_int
  wp_walk using wpAny_loadPart' ht
  repeat (first
    | (refine wpAny_ite_false (by decide) ?_; wp_walk using wpAny_loadPart' ht)
    | (refine wpAny_ite_true (decide_eq_true (by cases its.isEmpty <;> rfl)) ?_; wp_walk using wpAny_loadPart' ht))
  exact ⟨_, rfl, h⟩
/-! max of a tuple of ints -/
end Rb
namespace Rb
/-! waits by the ticks alone -/
end Rb
namespace Rb
open PySem PySem.Spec PyProof.Rows L2
end Rb
namespace Rb
open PySem PySem.Spec PyProof.Rows L2
/-! own errors with one field: made, raised, caught, asked for their class -/
/-! ### isinstance of the error that a suite holds -/
end Rb
namespace Rb
open PySem PySem.Spec PyProof.Rows L2
/-! roads one behind the other -/
abbrev Rd := Int × Int × List Int
/-- roads in a sequence -/
def Rds (K : PySem.W.Frag) (H : Hp) (xs : List V) (rs : List Rd) : Prop := xs.length = rs.length ∧ ∀ (i : Nat) (r : Rd), rs[i]? = some r → ∃ v, xs[i]? = some v ∧ Road K H v r.1 r.2.1 r.2.2
section
variable {K : PySem.W.Frag} {H H' : Hp} {xs : List V} {rs : List Rd}
theorem Rds.nil : Rds K H [] [] := ⟨rfl, fun i r h => by simp at h⟩
theorem Road.keep {v : V} {w r : Int} {bs : List Int} (x : Road K H v w r bs) (k : ∀ a ys, SqT K H a ys → SqT K H' a ys) : Road K H' v w r bs := by
  obtain ⟨a, b, rfl, h1, h2⟩ := x
  exact ⟨a, b, rfl, k _ _ h1, k _ _ h2⟩
theorem Rds.keep (h : Rds K H xs rs) (k : ∀ a ys, SqT K H a ys → SqT K H' a ys) : Rds K H' xs rs :=
  ⟨h.1, fun i r e => by
    obtain ⟨v, h1, h2⟩ := h.2 i r e
    exact ⟨v, h1, h2.keep k⟩⟩
theorem Rds.ex (h : Rds K H xs rs) (e : Evl.Ex H H') : Rds K H' xs rs := h.keep fun _ _ z => Evl.ex_t e z
theorem Rds.kp {d c : Addr} {N : Int} (h : Rds K H xs rs) (k : Kp d c H H') (dk : Dk H d c N) : Rds K H' xs rs := h.keep fun _ _ z => k.sqT dk z
theorem Rds.upd {D : Addr} {ys zs : List V} (h : Rds K H xs rs) (hD : H D = some (.lst ys)) : Rds K (upd H D (.lst zs)) xs rs := h.keep fun _ _ z => sqT_upd hD z
theorem Rds.cons {v : V} {r : Rd} (h1 : Road K H v r.1 r.2.1 r.2.2) (h : Rds K H xs rs) : Rds K H (v :: xs) (r :: rs) := by
  refine ⟨by rw [List.length_cons, List.length_cons, h.1], fun i s e => ?_⟩
  cases i with
  | zero =>
    cases e
    exact ⟨v, rfl, h1⟩
  | succ i => exact h.2 i s e
theorem Rds.uncons {v : V} {r : Rd} (h : Rds K H (v :: xs) (r :: rs)) : Road K H v r.1 r.2.1 r.2.2 ∧ Rds K H xs rs := by
  refine ⟨?_, by have := h.1; rw [List.length_cons, List.length_cons] at this; omega, fun i s e => h.2 (i + 1) s e⟩
  obtain ⟨u, h1, h2⟩ := h.2 0 r rfl
  cases h1
  exact h2
theorem Rds.at {i : Nat} {v : V} (h : Rds K H xs rs) (hv : xs[i]? = some v) : ∃ r, rs[i]? = some r ∧ Road K H v r.1 r.2.1 r.2.2 := by
  have hl := (List.getElem?_eq_some_iff.mp hv).1
  have e : rs[i]? = some (rs[i]'(by rw [← h.1]; exact hl)) := List.getElem?_eq_getElem _
  obtain ⟨u, h1, h2⟩ := h.2 i _ e
  rw [hv] at h1
  cases h1
  exact ⟨_, e, h2⟩
theorem Rds.set {i : Nat} {v : V} {r : Rd} (h : Rds K H xs rs) (h1 : Road K H v r.1 r.2.1 r.2.2) : Rds K H (xs.set i v) (rs.set i r) := by
  refine ⟨by simp [h.1], fun j s e => ?_⟩
  by_cases hij : i = j
  · subst hij
    by_cases hl : i < rs.length
    · rw [List.getElem?_set_self hl] at e
      cases e
      exact ⟨v, List.getElem?_set_self (by rw [h.1]; exact hl), h1⟩
    · rw [List.getElem?_eq_none (by simp; omega)] at e
      cases e
  · rw [List.getElem?_set_ne hij] at e
    obtain ⟨u, h2, h3⟩ := h.2 j s e
    exact ⟨u, by rw [List.getElem?_set_ne hij]; exact h2, h3⟩
theorem Rds.dp : ∀ {xs : List V} {rs : List Rd}, Rds K H xs rs → DpAll K H xs (rs.map fun r => roadD r.1 r.2.1 r.2.2)
  | [], [], _ => .nil
  | [], _ :: _, h => by cases h.1
  | _ :: _, [], h => by cases h.1
  | x :: xs, r :: rs, h => by
    obtain ⟨h1, h2⟩ := h.uncons
    exact .cons h1.dp (Rds.dp h2)
/-! the two ends of a road -/
end
/-! a result: plain immutable data, or a new list of a text and a number -/
def Res (K : PySem.W.Frag) (H0 H : Hp) (v : V) (d : PyData) : Prop := Tp K H v d ∨ ∃ (q : Addr) (x : Str) (n : Int), v = .ref q ∧ H0 q = none ∧ H q = some (.lst [.str x, .int n]) ∧ d = .list [.str x, .int n]
theorem Res.ex {K : PySem.W.Frag} {H0 H H' : Hp} {v : V} {d : PyData} (h : Res K H0 H v d) (e : Evl.Ex H H') : Res K H0 H' v d := by
  rcases h with h | ⟨q, x, n, h1, h2, h3, h4⟩
  · exact .inl (h.ex e)
  · exact .inr ⟨q, x, n, h1, h2, e _ _ h3, h4⟩
theorem Res.old {K : PySem.W.Frag} {H0 H1 H : Hp} {v : V} {d : PyData} (h : Res K H1 H v d) (e : Evl.Ex H0 H1) : Res K H0 H v d := by
  rcases h with h | ⟨q, x, n, h1, h2, h3, h4⟩
  · exact .inl h
  · refine .inr ⟨q, x, n, h1, ?_, h3, h4⟩
    cases z : H0 q with
    | none => rfl
    | some o => rw [e _ _ z] at h2; cases h2
theorem Res.dp {K : PySem.W.Frag} {H0 H : Hp} {v : V} {d : PyData} (h : Res K H0 H v d) : Dp K H v d := by
  rcases h with h | ⟨q, x, n, h1, h2, h3, h4⟩
  · exact Tp.dp _ _ h
  · subst h1 h4
    exact .lst (lstOf h3) (.cons (.str x) (.cons (.int n) .nil))
/-- the same of all, the lists none of them at D -/
inductive ResAll (K : PySem.W.Frag) (D : Addr) (H : Hp) : List V → List PyData → Prop
  | nil : ResAll K D H [] []
  | tp {v : V} {d : PyData} {vs : List V} {ds : List PyData} : Tp K H v d → ResAll K D H vs ds → ResAll K D H (v :: vs) (d :: ds)
  | ls {q : Addr} {x : Str} {n : Int} {vs : List V} {ds : List PyData} : q ≠ D → H q = some (.lst [.str x, .int n]) → ResAll K D H vs ds → ResAll K D H (.ref q :: vs) (.list [.str x, .int n] :: ds)
section
variable {K : PySem.W.Frag} {D : Addr} {H H' : Hp}
theorem ResAll.dp : ∀ {vs : List V} {ds : List PyData}, ResAll K D H vs ds → DpAll K H vs ds
  | _, _, .nil => .nil
  | _, _, .tp h r => .cons (Tp.dp _ _ h) r.dp
  | _, _, .ls _ h r => .cons (.lst (lstOf h) (.cons (.str _) (.cons (.int _) .nil))) r.dp
theorem ResAll.ex (e : Evl.Ex H H') : ∀ {vs : List V} {ds : List PyData}, ResAll K D H vs ds → ResAll K D H' vs ds
  | _, _, .nil => .nil
  | _, _, .tp h r => .tp (h.ex e) (r.ex e)
  | _, _, .ls n h r => .ls n (e _ _ h) (r.ex e)
theorem ResAll.upd {ys zs : List V} (hD : H D = some (.lst ys)) : ∀ {vs : List V} {ds : List PyData}, ResAll K D H vs ds → ResAll K D (upd H D (.lst zs)) vs ds
  | _, _, .nil => .nil
  | _, _, .tp h r => .tp (h.upd hD) (r.upd hD)
  | _, _, .ls n h r => .ls n (by rw [upd_ne n]; exact h) (r.upd hD)
theorem ResAll.length : ∀ {vs : List V} {ds : List PyData}, ResAll K D H vs ds → vs.length = ds.length
  | _, _, .nil => rfl
  | _, _, .tp _ r => congrArg Nat.succ r.length
  | _, _, .ls _ _ r => congrArg Nat.succ r.length
end
end Rb
namespace Rb
open PySem PySem.Spec PyProof.Rows L2
/-! any value: plain data, small dicts from texts to ints among it -/
def dicV (ps : List (Str × Int)) : List (Key × V) := ps.map fun p => (Sum.inr p.1, V.int p.2)
def dicD (ps : List (Str × Int)) : PyData := .dict (ps.map fun p => (.str p.1, .int p.2))
mutual
inductive Ap (K : PySem.W.Frag) (S : List Addr) (H : Hp) : V → PyData → Prop
  | non : Ap K S H .non .none
  | bl (b : Bool) : Ap K S H (.bl b) (.bool b)
  | int (i : Int) : Ap K S H (.int i) (.int i)
  | str (x : Str) : Ap K S H (.str x) (.str x)
  | lst {a : Addr} {xs : List V} {ds : List PyData} : a ∉ S → L2.Rd H a (.lst xs) → ApAll K S H xs ds → Ap K S H (.ref a) (.list ds)
  | tup {a : Addr} {xs : List V} {ds : List PyData} : SqT K H a xs → ApAll K S H xs ds → Ap K S H (.ref a) (.tuple ds)
  | dic {a : Addr} {ps : List (Str × Int)} : H a = some (.dK (dicV ps)) → Ap K S H (.ref a) (dicD ps)
inductive ApAll (K : PySem.W.Frag) (S : List Addr) (H : Hp) : List V → List PyData → Prop
  | nil : ApAll K S H [] []
  | cons {v : V} {vs : List V} {d : PyData} {ds : List PyData} : Ap K S H v d → ApAll K S H vs ds → ApAll K S H (v :: vs) (d :: ds)
end
section
variable {X : Cx} {pins : List (Addr × Obj)} {σ : L2.St} {H : Hp} {s : Shared} {S : List Addr}
theorem dic_reads {h : Heap} : ∀ {ps : List (Str × Int)} {vs : List (Key × Value)} {es : List DictEntry}, KV (dicV ps) vs → Pairs (mixKind X.prog X.w) es vs →
    ReadsAll h (es.map (·.key)) (ps.map fun p => PyData.str p.1) [] ∧ ReadsAll h (es.map (·.val)) (ps.map fun p => PyData.int p.2) []
  | [], _, _, .nil, .nil => ⟨.nil, .nil⟩
  | p :: ps, _, _, .cons hp r, .cons h1 h2 h3 => by
    obtain ⟨q1, q2⟩ := dic_reads r h3
    obtain ⟨e1, t, e2⟩ := hp
    have hk : keyIs (Sum.inr p.1) _ = true := e1 ▸ h1
    rcases keyIs_shape hk with ⟨i, t, z, _⟩ | ⟨x, t2, z, e3⟩
    · cases z
    · cases z
      refine ⟨?_, ?_⟩
      · rw [List.map_cons, List.map_cons, e3]
        exact ReadsAll.cons (as := []) (bs := []) (.str _ _) q1
      · rw [List.map_cons, List.map_cons, h2, e2]
        exact ReadsAll.cons (as := []) (bs := []) (.int _ _) q2
mutual
theorem Ap.reads (hm : sysModules ∈ S) (I : Inv X pins σ H s) : ∀ (d : PyData) (v : V) (u : Value), Ap X.K S H v d → RelV v u → ∃ as, Reads s.heap u d as ∧ sysModules ∉ as
  | .none, _, _, h, r => by
    cases h
    cases r
    exact ⟨_, Reads.none, (fun z => nomatch z)⟩
  | .bool b, _, _, h, r => by
    cases h
    cases r
    exact ⟨_, Reads.bool b, (fun z => nomatch z)⟩
  | .int i, _, _, h, r => by
    cases h
    obtain ⟨t, rfl⟩ := r
    exact ⟨_, Reads.int i t, (fun z => nomatch z)⟩
  | .str x, _, _, h, r => by
    cases h
    obtain ⟨t, rfl⟩ := r
    exact ⟨_, Reads.str x t, (fun z => nomatch z)⟩
  | .list ds, _, _, h, r => by
    cases h with
    | lst ne hs ha =>
      cases r
      obtain ⟨its, rv, ⟨o, n, ho, hc, _, hd⟩, _⟩ := I.list (show SqL X.K H _ _ from .inl hs)
      obtain ⟨as, hr, no⟩ := Ap.readsAll hm I ds _ its ha rv
      refine ⟨_, Reads.list ho hc hd hr, fun z => ?_⟩
      rcases List.mem_cons.mp z with z | z
      · exact ne (z ▸ hm)
      · exact no z
  | .tuple ds, _, _, h, r => by
    cases h with
    | tup hs ha =>
      cases r
      obtain ⟨its, rv, ⟨o, ho, hc, n, hd⟩, _⟩ := I.tuple hs
      obtain ⟨as, hr, no⟩ := Ap.readsAll hm I ds _ its ha rv
      exact ⟨_, Reads.tuple ho hc hd hr, no⟩
  | .dict kvs, _, _, h, r => by
    generalize e : PyData.dict kvs = dd at h
    cases h with
    | non => cases e
    | bl => cases e
    | int => cases e
    | str => cases e
    | lst => cases e
    | tup => cases e
    | @dic a ps hd =>
      cases (PyData.dict.inj e)
      cases r
      obtain ⟨_, ne, vs, rel, o, es, ep, ho, hx, hdat, _, hp, _⟩ := dk_of I.hok hd
      obtain ⟨q1, q2⟩ := dic_reads (X := X) (h := s.heap) rel hp
      have e1 : (ps.map fun p => ((PyData.str p.1, PyData.int p.2) : PyData × PyData)).map (·.1) = ps.map fun p => PyData.str p.1 := by rw [List.map_map]; rfl
      have e2 : (ps.map fun p => ((PyData.str p.1, PyData.int p.2) : PyData × PyData)).map (·.2) = ps.map fun p => PyData.int p.2 := by rw [List.map_map]; rfl
      refine ⟨_, Reads.dict (as := []) (bs := []) ho hx.1 hdat (by rw [e1]; exact q1) (by rw [e2]; exact q2), fun z => ?_⟩
      rcases List.mem_cons.mp z with z | z
      · rw [← z] at ne
        cases ne
      · cases z
theorem Ap.readsAll (hm : sysModules ∈ S) (I : Inv X pins σ H s) : ∀ (ds : List PyData) (vs : List V) (us : List Value), ApAll X.K S H vs ds → Vals vs us → ∃ as, ReadsAll s.heap us ds as ∧ sysModules ∉ as
  | [], _, _, h, r => by
    cases h
    cases r
    exact ⟨_, ReadsAll.nil, (fun z => nomatch z)⟩
  | d :: ds, _, _, h, r => by
    cases h with
    | cons h1 h2 =>
      cases r with
      | cons r1 r2 =>
        obtain ⟨as, q1, n1⟩ := Ap.reads hm I d _ _ h1 r1
        obtain ⟨bs, q2, n2⟩ := Ap.readsAll hm I ds _ _ h2 r2
        refine ⟨_, ReadsAll.cons q1 q2, fun z => ?_⟩
        rcases List.mem_append.mp z with z | z
        · exact n1 z
        · exact n2 z
end
end
/-! what stays -/
section
variable {K : PySem.W.Frag} {H H' : Hp} {S : List Addr}
mutual
theorem Ap.keep (kl : ∀ a xs, a ∉ S → L2.Rd H a (.lst xs) → L2.Rd H' a (.lst xs)) (kt : ∀ a xs, SqT K H a xs → SqT K H' a xs) (kd : ∀ a ps, H a = some (.dK ps) → H' a = some (.dK ps)) : ∀ (d : PyData) (v : V), Ap K S H v d → Ap K S H' v d
  | .none, _, h => by cases h; exact .non
  | .bool b, _, h => by cases h; exact .bl b
  | .int i, _, h => by cases h; exact .int i
  | .str x, _, h => by cases h; exact .str x
  | .list ds, _, h => by
    cases h with
    | lst ne hs ha => exact .lst ne (kl _ _ ne hs) (ApAll.keep kl kt kd ds _ ha)
  | .tuple ds, _, h => by
    cases h with
    | tup hs ha => exact .tup (kt _ _ hs) (ApAll.keep kl kt kd ds _ ha)
  | .dict kvs, _, h => by
    generalize e : PyData.dict kvs = dd at h ⊢
    cases h with
    | non => cases e
    | bl => cases e
    | int => cases e
    | str => cases e
    | lst => cases e
    | tup => cases e
    | dic hd => exact .dic (kd _ _ hd)
theorem ApAll.keep (kl : ∀ a xs, a ∉ S → L2.Rd H a (.lst xs) → L2.Rd H' a (.lst xs)) (kt : ∀ a xs, SqT K H a xs → SqT K H' a xs) (kd : ∀ a ps, H a = some (.dK ps) → H' a = some (.dK ps)) : ∀ (ds : List PyData) (vs : List V), ApAll K S H vs ds → ApAll K S H' vs ds
  | [], _, h => by cases h; exact .nil
  | d :: ds, _, h => by
    cases h with
    | cons h1 h2 => exact .cons (Ap.keep kl kt kd d _ h1) (ApAll.keep kl kt kd ds _ h2)
end
theorem Ap.ex {v : V} {d : PyData} (h : Ap K S H v d) (e : Evl.Ex H H') : Ap K S H' v d := Ap.keep (fun _ _ _ z => Evl.ex_rd e z) (fun _ _ z => Evl.ex_t e z) (fun _ _ z => e _ _ z) d v h
theorem ApAll.ex {vs : List V} {ds : List PyData} (h : ApAll K S H vs ds) (e : Evl.Ex H H') : ApAll K S H' vs ds := ApAll.keep (fun _ _ _ z => Evl.ex_rd e z) (fun _ _ z => Evl.ex_t e z) (fun _ _ z => e _ _ z) ds vs h
theorem ApAll.length : ∀ {vs : List V} {ds : List PyData}, ApAll K S H vs ds → vs.length = ds.length
  | _, _, .nil => rfl
  | _, _, .cons _ r => congrArg Nat.succ r.length
theorem ApAll.at : ∀ {vs : List V} {ds : List PyData} {i : Nat} {v : V}, ApAll K S H vs ds → vs[i]? = some v → ∃ d, ds[i]? = some d ∧ Ap K S H v d
  | _, _, i, _, .nil, h => by simp at h
  | _, _, 0, _, .cons h1 _, h => by
    cases h
    exact ⟨_, rfl, h1⟩
  | _, _, i + 1, _, .cons _ h2, h => ApAll.at (i := i) h2 h
theorem ApAll.append : ∀ {vs ws : List V} {ds es : List PyData}, ApAll K S H vs ds → ApAll K S H ws es → ApAll K S H (vs ++ ws) (ds ++ es)
  | _, _, _, _, .nil, h => h
  | _, _, _, _, .cons h1 h2, h => .cons h1 (h2.append h)
mutual
theorem Tp.ap : ∀ (d : PyData) (v : V), Tp K H v d → Ap K S H v d
  | .none, _, h => by cases h; exact .non
  | .bool b, _, h => by cases h; exact .bl b
  | .int i, _, h => by cases h; exact .int i
  | .str x, _, h => by cases h; exact .str x
  | .list ds, _, h => by cases h
  | .tuple ds, _, h => by
    cases h with
    | tup hs ha => exact .tup hs (TpAll.ap ds _ ha)
  | .dict kvs, _, h => by cases h
theorem TpAll.ap : ∀ (ds : List PyData) (vs : List V), TpAll K H vs ds → ApAll K S H vs ds
  | [], _, h => by cases h; exact .nil
  | d :: ds, _, h => by
    cases h with
    | cons h1 h2 => exact .cons (Tp.ap d _ h1) (TpAll.ap ds _ h2)
end
end
/-! the deck's two lists apart -/
theorem Kp.rd {d c a : Addr} {H H' : Hp} {u : HO} (k : Kp d c H H') (n1 : a ≠ d) (n2 : a ≠ c) (hs : L2.Rd H a u) : L2.Rd H' a u := by
  rcases hs with h | ⟨o, h⟩
  · exact .inl (k _ _ h n1 n2)
  · exact .inr ⟨o, k _ _ h n1 n2⟩
theorem Kp.dic {d c a : Addr} {H H' : Hp} {N : Int} {ps : List (Key × V)} (k : Kp d c H H') (dk : Dk H d c N) (h : H a = some (.dK ps)) : H' a = some (.dK ps) := by
  obtain ⟨cs, n, h1, h2, _⟩ := dk
  refine k _ _ h (fun z => ?_) (fun z => ?_)
  · rw [z, h1] at h
    cases h
  · rw [z, h2] at h
    cases h
/-- addresses that lists of values keep away from: the table of modules, the deck's two lists, and others that stand already -/
structure Sok (H : Hp) (d c : Addr) (S : List Addr) : Prop where
  m : sysModules ∈ S
  d : d ∈ S
  c : c ∈ S
  old : ∀ a ∈ S, a = sysModules ∨ ∃ o, H a = some o
theorem Sok.kp {H H' : Hp} {d c : Addr} {S : List Addr} {N M : Int} (h : Sok H d c S) (k : Kp d c H H') (dk : Dk H' d c M) : Sok H' d c S := by
  refine ⟨h.m, h.d, h.c, fun a ha => ?_⟩
  obtain ⟨cs, n, h1, h2, _⟩ := dk
  by_cases e1 : a = d
  · subst e1
    exact .inr ⟨_, h1⟩
  by_cases e2 : a = c
  · subst e2
    exact .inr ⟨_, h2⟩
  rcases h.old a ha with e | ⟨o, e⟩
  · exact .inl e
  · exact .inr ⟨o, k _ _ e e1 e2⟩
theorem Sok.ex {H H' : Hp} {d c : Addr} {S : List Addr} (h : Sok H d c S) (e : Evl.Ex H H') : Sok H' d c S := ⟨h.m, h.d, h.c, fun a ha => by
  rcases h.old a ha with z | ⟨o, z⟩
  · exact .inl z
  · exact .inr ⟨o, e _ _ z⟩⟩
theorem Sok.new {H : Hp} {d c p : Addr} {S : List Addr} (h : Sok H d c S) (np : H p = none) (ns : p ≠ sysModules) : p ∉ S := fun z => by
  rcases h.old p z with e | ⟨o, e⟩
  · exact ns e
  · rw [np] at e
    cases e
theorem Sok.more {H : Hp} {d c p : Addr} {S : List Addr} {o : HO} (h : Sok H d c S) (hp : H p = some o) : Sok H d c (p :: S) := ⟨.tail _ h.m, .tail _ h.d, .tail _ h.c, fun a ha => by
  rcases List.mem_cons.mp ha with rfl | ha
  · exact .inr ⟨o, hp⟩
  · exact h.old a ha⟩
theorem Ap.kp {K : PySem.W.Frag} {d c : Addr} {S : List Addr} {H H' : Hp} {N : Int} {v : V} {x : PyData} (h : Ap K S H v x) (ok : Sok H d c S) (k : Kp d c H H') (dk : Dk H d c N) : Ap K S H' v x :=
  Ap.keep (fun a _ n z => k.rd (fun e => n (e ▸ ok.d)) (fun e => n (e ▸ ok.c)) z) (fun _ _ z => k.sqT dk z) (fun _ _ z => k.dic dk z) x v h
theorem ApAll.kp {K : PySem.W.Frag} {d c : Addr} {S : List Addr} {H H' : Hp} {N : Int} {vs : List V} {xs : List PyData} (h : ApAll K S H vs xs) (ok : Sok H d c S) (k : Kp d c H H') (dk : Dk H d c N) : ApAll K S H' vs xs :=
  ApAll.keep (fun a _ n z => k.rd (fun e => n (e ▸ ok.d)) (fun e => n (e ▸ ok.c)) z) (fun _ _ z => k.sqT dk z) (fun _ _ z => k.dic dk z) xs vs h
/-! one more address that lists keep away from, because it was free -/
theorem rd_ne {H : Hp} {a D : Addr} {u : HO} (h : L2.Rd H a u) (n : H D = none) : a ≠ D := fun e => by
  subst e
  rcases h with h | ⟨o, h⟩ <;> rw [n] at h <;> cases h
mutual
theorem Ap.more {K : PySem.W.Frag} {S : List Addr} {H : Hp} {D : Addr} (n : H D = none) : ∀ (d : PyData) (v : V), Ap K S H v d → Ap K (D :: S) H v d
  | .none, _, h => by cases h; exact .non
  | .bool b, _, h => by cases h; exact .bl b
  | .int i, _, h => by cases h; exact .int i
  | .str x, _, h => by cases h; exact .str x
  | .list ds, _, h => by
    cases h with
    | lst ne hs ha => exact .lst (fun z => (List.mem_cons.mp z).elim (rd_ne hs n) ne) hs (ApAll.more n ds _ ha)
  | .tuple ds, _, h => by
    cases h with
    | tup hs ha => exact .tup hs (ApAll.more n ds _ ha)
  | .dict kvs, _, h => by
    generalize e : PyData.dict kvs = dd at h ⊢
    cases h with
    | non => cases e
    | bl => cases e
    | int => cases e
    | str => cases e
    | lst => cases e
    | tup => cases e
    | dic hd => exact .dic hd
theorem ApAll.more {K : PySem.W.Frag} {S : List Addr} {H : Hp} {D : Addr} (n : H D = none) : ∀ (ds : List PyData) (vs : List V), ApAll K S H vs ds → ApAll K (D :: S) H vs ds
  | [], _, h => by cases h; exact .nil
  | d :: ds, _, h => by
    cases h with
    | cons h1 h2 => exact .cons (Ap.more n d _ h1) (ApAll.more n ds _ h2)
end
/-! an address of S may be forgotten -/
/-- the list at D, of S, grows: values that keep away from it stay -/
theorem rd_upd {H : Hp} {a D : Addr} {u o : HO} (n : a ≠ D) (h : L2.Rd H a u) : L2.Rd (upd H D o) a u := by
  rcases h with h | ⟨z, h⟩
  · exact .inl (by rw [upd_ne n]; exact h)
  · exact .inr ⟨z, by rw [upd_ne n]; exact h⟩
theorem Ap.upd {K : PySem.W.Frag} {S : List Addr} {H : Hp} {D : Addr} {ys zs : List V} {v : V} {x : PyData} (h : Ap K S H v x) (hs : D ∈ S) (hD : H D = some (.lst ys)) : Ap K S (upd H D (.lst zs)) v x :=
  Ap.keep (fun a _ n z => rd_upd (fun e => n (e ▸ hs)) z) (fun _ _ z => sqT_upd hD z) (fun a ps z => by rw [upd_ne (fun e => by rw [e, hD] at z; cases z)]; exact z) x v h
/-! repr, ==, != of any such value -/
/-! lists that stand apart from the table of modules -/
def tLstN (t : TA) : TE := fun σ H Q => t σ H fun xs H1 => xs.length ≤ sizeLine ∧ ∀ p, H1 p = none → p ≠ sysModules → Q (.ref p) (upd H1 p (.lst xs))
theorem pe_lstN {X : Cx} {es : List Expr} {t : TA} {pos : Pos} (h : PA X es t) : PE X (.List es pos) (tLstN t) := by
  refine ⟨fun pins s σ H Q I hq => ?_⟩
  refine wpAny_List_spliced (thn (h.run pos pins s σ H _ I hq) fun us s1 ⟨xs, H1, I1, r, z, q⟩ => ⟨by rw [← r.length]; exact z, ?_⟩)
  have hf : H1 s1.heap.objs.size = none := I1.hok.fresh (Nat.le_refl _)
  refine ⟨.ref s1.heap.objs.size, upd H1 s1.heap.objs.size (.lst xs), I1.laid (t' := s1.toks) (fun b u e => Heap.get?_push_of_some _ e) (Nat.le_refl _) ?_, rfl, q _ hf (Nat.ne_of_gt I1.big)⟩
  exact ⟨z, us, 0, r, Heap.get?_push_size _ rfl⟩
/-! the type of a value -/
def tyD : PyData → String
  | .none => "NoneType"
  | .bool _ => "bool"
  | .int _ => "int"
  | .str _ => "str"
  | .list _ => "list"
  | .tuple _ => "tuple"
  | .dict _ => "dict"
theorem Ap.ty {K : PySem.W.Frag} {S : List Addr} {H : Hp} {v : V} {d : PyData} (h : Ap K S H v d) : TyX K H v (.type (tyD d)) := by
  cases h with
  | non => exact .base .non
  | bl b => exact .base (.bl b)
  | int i => exact .base (.int i)
  | str x => exact .base (.str x)
  | lst ne hs _ =>
    rcases hs with hs | ⟨o, hs⟩
    · exact .base (.lst hs)
    · exact .base (.frz hs)
  | tup hs _ =>
    rcases hs with (hs | ⟨o, hs⟩) | ⟨o, its, n, h1, h2, _⟩
    · exact .base (.tup hs)
    · exact .fTuple hs
    · exact .kTuple h1 h2
  | dic hd => exact .base (.dK hd)
end Rb
/-! t[::-1], t a tuple that is not empty -/
namespace Rb
open PySem PySem.Spec PyProof.Rows L2 HT
/-! any value of a bounded size -/
def Av (K : PySem.W.Frag) (S : List Addr) (H : Hp) (k n : Nat) (v : V) : Prop := ∃ x, Ap K S H v x ∧ Nice k n x
def Avs (K : PySem.W.Frag) (S : List Addr) (H : Hp) (k n : Nat) (xs : List V) : Prop := ∀ v ∈ xs, Av K S H k n v
section
variable {K : PySem.W.Frag} {S S' : List Addr} {d c D : Addr} {H H' : Hp} {N : Int} {k n k' n' : Nat} {v : V} {xs ys : List V}
theorem Av.ex (h : Av K S H k n v) (e : Evl.Ex H H') : Av K S H' k n v := by
  obtain ⟨x, h1, h2⟩ := h
  exact ⟨x, h1.ex e, h2⟩
theorem Av.kp (h : Av K S H k n v) (ok : Sok H d c S) (e : Kp d c H H') (dk : Dk H d c N) : Av K S H' k n v := by
  obtain ⟨x, h1, h2⟩ := h
  exact ⟨x, h1.kp ok e dk, h2⟩
theorem Av.mono (h : Av K S H k n v) (h1 : k ≤ k') (h2 : n ≤ n') : Av K S H k' n' v := by
  obtain ⟨x, h3, h4⟩ := h
  exact ⟨x, h3, h4.mono h1 h2⟩
theorem Av.more (h : Av K S H k n v) (nD : H D = none) : Av K (D :: S) H k n v := by
  obtain ⟨x, h1, h2⟩ := h
  exact ⟨x, Ap.more nD _ _ h1, h2⟩
theorem Av.upd {ys zs : List V} (h : Av K S H k n v) (hs : D ∈ S) (hD : H D = some (.lst ys)) : Av K S (L2.upd H D (.lst zs)) k n v := by
  obtain ⟨x, h1, h2⟩ := h
  exact ⟨x, h1.upd hs hD, h2⟩
theorem Avs.more (h : Avs K S H k n xs) (nD : H D = none) : Avs K (D :: S) H k n xs := fun v hv => (h v hv).more nD
theorem Avs.upd {ys zs : List V} (h : Avs K S H k n xs) (hs : D ∈ S) (hD : H D = some (.lst ys)) : Avs K S (L2.upd H D (.lst zs)) k n xs := fun v hv => (h v hv).upd hs hD
theorem Avs.ex (h : Avs K S H k n xs) (e : Evl.Ex H H') : Avs K S H' k n xs := fun v hv => (h v hv).ex e
theorem Avs.kp (h : Avs K S H k n xs) (ok : Sok H d c S) (e : Kp d c H H') (dk : Dk H d c N) : Avs K S H' k n xs := fun v hv => (h v hv).kp ok e dk
theorem Avs.mono (h : Avs K S H k n xs) (h1 : k ≤ k') (h2 : n ≤ n') : Avs K S H k' n' xs := fun v hv => (h v hv).mono h1 h2
theorem Avs.nil : Avs K S H k n [] := fun _ z => nomatch z
theorem Avs.cons (h1 : Av K S H k n v) (h : Avs K S H k n xs) : Avs K S H k n (v :: xs) := fun u hu => by
  rcases List.mem_cons.mp hu with rfl | hu
  · exact h1
  · exact h u hu
theorem Avs.append (h1 : Avs K S H k n xs) (h2 : Avs K S H k n ys) : Avs K S H k n (xs ++ ys) := fun u hu => by
  rcases List.mem_append.mp hu with hu | hu
  · exact h1 u hu
  · exact h2 u hu
theorem Avs.sub (h : Avs K S H k n xs) (hs : ∀ v ∈ ys, v ∈ xs) : Avs K S H k n ys := fun u hu => h u (hs u hu)
theorem Avs.data : ∀ {xs : List V}, Avs K S H k n xs → ∃ ds, ApAll K S H xs ds ∧ ∀ x ∈ ds, Nice k n x
  | [], _ => ⟨[], .nil, fun _ z => nomatch z⟩
  | v :: xs, h => by
    obtain ⟨x, h1, h2⟩ := h v List.mem_cons_self
    obtain ⟨ds, h3, h4⟩ := Avs.data fun u hu => h u (List.mem_cons_of_mem _ hu)
    refine ⟨x :: ds, .cons h1 h3, fun y hy => ?_⟩
    rcases List.mem_cons.mp hy with rfl | hy
    · exact h2
    · exact h4 y hy
theorem Av.tup {a : Addr} {m : Nat} (hs : SqT K H a xs) (h : Avs K S H k n xs) (hm : xs.length * (n + 1) ≤ m) : Av K S H (k + 1) m (.ref a) := by
  obtain ⟨ds, h1, h2⟩ := h.data
  exact ⟨_, .tup hs h1, Nice.tup h2 (by rw [← h1.length]; exact hm)⟩
theorem Av.lst {a : Addr} {m : Nat} (hn : a ∉ S) (hs : L2.Rd H a (.lst xs)) (h : Avs K S H k n xs) (hm : xs.length * (n + 1) ≤ m) : Av K S H (k + 1) m (.ref a) := by
  obtain ⟨ds, h1, h2⟩ := h.data
  exact ⟨_, .lst hn hs h1, Nice.lst h2 (by rw [← h1.length]; exact hm)⟩
theorem Av.int {i : Int} (h : i.natAbs < 10 ^ 99) : Av K S H k n (.int i) := ⟨_, .int i, (Nice.int h).mono (Nat.zero_le _) (Nat.zero_le _)⟩
theorem Av.bl {b : Bool} : Av K S H k n (.bl b) := ⟨_, .bl b, Nice.bool.mono (Nat.zero_le _) (Nat.zero_le _)⟩
theorem Avs.ints {ns : List Int} (h : ∀ i ∈ ns, i.natAbs < 10 ^ 99) : Avs K S H k n (ns.map V.int) := fun v hv => by
  obtain ⟨i, hi, rfl⟩ := List.mem_map.mp hv
  exact Av.int (h i hi)
end
/-! comprehensions over such values -/
end Rb
namespace Pu
open PySem PySem.Spec PyProof.Rows L2
/-- a lambda: its text, the names that it takes from the def around it -/
structure Lam where
  qual : Str
  params : Arguments
  body : Expr
  scope : Scope
  caps : List Str
/-! ## values without addresses (lst: k tells that the list is known to stand apart from the table of modules) -/
inductive D where
  | non | bl (b : Bool) | int (i : Int) | str (x : Str)
  | tup (xs : List D) | lst (k : Bool) (xs : List D) | dic (ps : List (Str × Int))
  | kls (xs : List D) | cell (n : Nat) | glo (x : Str) | ty (n : String)
  | ins (c : Str) (fs : List (Str × D))
  | exc (c : Str) (fs : List (Str × D))
  | fn (x : Lam) (ds : List D)
instance : Inhabited D := ⟨.non⟩
/-- what stands in a cell -/
inductive Cl where
  | lst (xs : List D) | ins (c : Str) (fs : List (Str × D))
abbrev Sto := List Cl
abbrev Rho := List (Option D)
/-- the addresses of the cells; addresses that no value mentions -/
structure Mu where
  m : List Addr
  av : List Addr
/-- the row's written part and names -/
structure Ct where
  K : PySem.W.Frag
  mg : Str → Option Value
  hx : Addr → Option (Value × Option Addr)
/-- where no error is held -/
abbrev ct0 (K : PySem.W.Frag) (mg : Str → Option Value) : Ct := ⟨K, mg, fun _ => none⟩
abbrev extT : HO := .ext fun _ => True
/-- the cells that a lambda holds, and what is in them -/
structure Caps (H : Hp) (av : List Addr) (cells : List (Str × Addr)) (ys : List Str) (vs : List V) : Prop where
  len : ys.length = vs.length
  dom : ∀ y c, cells.lookup y = some c → y ∈ ys
  inj : ∀ x y c, cells.lookup x = some c → cells.lookup y = some c → x = y
  at_ : ∀ (i : Nat) (y : Str) (v : V), ys[i]? = some y → vs[i]? = some v → ∃ c ob u, cells.lookup y = some c ∧ (H c = some (.frz ob extT) ∧ c ∉ av) ∧ ob.data = .cell (some u) ∧ RelV v u
def LamAt (H : Hp) (av : List Addr) (a : Addr) (x : Lam) (vs : List V) : Prop := ∃ cells pm c' ctv, H a = some (.frz (PySem.W.kla_obj "<lambda>" x.qual x.params x.body x.scope cells pm c' ctv) extT) ∧ H c' = some (LamX.CodeO c' x.qual) ∧ Caps H av cells x.caps vs
section
variable (c : Ct) (μ : Mu) (H : Hp)
mutual
inductive Rp : V → D → Prop
  | non : Rp .non .non
  | bl (b : Bool) : Rp (.bl b) (.bl b)
  | int (i : Int) : Rp (.int i) (.int i)
  | str (x : Str) : Rp (.str x) (.str x)
  | tup {a : Addr} {vs : List V} {ds : List D} : H a = some (.tup vs) → RpAll vs ds → Rp (.ref a) (.tup ds)
  | lst {a : Addr} {k : Bool} {vs : List V} {ds : List D} : H a = some (.lst vs) → a ∉ μ.m → a ∉ μ.av → (k = true → a ≠ sysModules) → RpAll vs ds → Rp (.ref a) (.lst k ds)
  | kls {a : Addr} {vs : List V} {ds : List D} : L2.Rd H a (.lst vs) → a ∉ μ.m → a ∉ μ.av → RpAll vs ds → Rp (.ref a) (.kls ds)
  | klsK {a : Addr} {vs : List V} {ds : List D} (o : Obj) (its : Array Value) (n : Nat) : c.K.lookup a = some o → o.cls = .type "list" → o.dict = none → o.data = .seq its n → its.size ≤ sizeLine → Vals vs its.toList → RpAll vs ds → Rp (.ref a) (.kls ds)
  | dic {a : Addr} {ps : List (Str × Int)} : H a = some (.dK (Rb.dicV ps)) → a ∉ μ.m → a ∉ μ.av → Rp (.ref a) (.dic ps)
  | cell {n : Nat} {a : Addr} : μ.m[n]? = some a → Rp (.ref a) (.cell n)
  | glo {x : Str} {v : V} {u : Value} : c.mg x = some u → RelV v u → Rp v (.glo x)
  | ty (n : String) : Rp (.ty n) (.ty n)
  | ins {a C dx : Addr} {x : Str} {fv : List (Str × V)} {fs : List (Str × D)} : H a = some (.ins C dx fv) → a ∉ μ.m → a ∉ μ.av → c.mg x = some (.ref C) → RpFs fv fs → Rp (.ref a) (.ins x fs)
  | exc0 {a : Addr} {x : Str} {cls : Value} : c.hx a = some (cls, none) → c.mg x = some cls → Rp (.ref a) (.exc x [])
  | exc1 {a dx : Addr} {x : Str} {cls : Value} {fv : List (Str × V)} {fs : List (Str × D)} : c.hx a = some (cls, some dx) → c.mg x = some cls → H dx = some (.xd fv) → RpFs fv fs → Rp (.ref a) (.exc x fs)
  | fn {a : Addr} {x : Lam} {vs : List V} {ds : List D} : LamAt H μ.av a x vs → RpAll vs ds → Rp (.ref a) (.fn x ds)
inductive RpAll : List V → List D → Prop
  | nil : RpAll [] []
  | cons {v : V} {vs : List V} {d : D} {ds : List D} : Rp v d → RpAll vs ds → RpAll (v :: vs) (d :: ds)
inductive RpFs : List (Str × V) → List (Str × D) → Prop
  | nil : RpFs [] []
  | cons {f : Str} {v : V} {vs : List (Str × V)} {d : D} {ds : List (Str × D)} : Rp v d → RpFs vs ds → RpFs ((f, v) :: vs) ((f, d) :: ds)
end
end
/-! ## what stays -/
/-- from one state to a later one: cells may have changed, new ones may have come; all else is kept -/
structure Fw (μ : Mu) (H : Hp) (μ' : Mu) (H' : Hp) : Prop where
  pre : ∃ t, μ'.m = μ.m ++ t
  av : μ'.av = μ.av
  keep : ∀ a o, H a = some o → a ∉ μ.m → (∀ ps, o ≠ .tbl ps) → H' a = some o ∧ a ∉ μ'.m
theorem Fw.refl {μ : Mu} {H : Hp} : Fw μ H μ H := ⟨⟨[], by simp⟩, rfl, fun _ _ e n _ => ⟨e, n⟩⟩
theorem Fw.trans {μ μ1 μ2 : Mu} {H H1 H2 : Hp} (a : Fw μ H μ1 H1) (b : Fw μ1 H1 μ2 H2) : Fw μ H μ2 H2 := by
  obtain ⟨t, e⟩ := a.pre
  obtain ⟨u, e'⟩ := b.pre
  exact ⟨⟨t ++ u, by rw [e', e, List.append_assoc]⟩, b.av.trans a.av, fun x o e n t => let ⟨h1, h2⟩ := a.keep x o e n t; b.keep x o h1 h2 t⟩
theorem Fw.at {μ μ' : Mu} {H H' : Hp} (f : Fw μ H μ' H') {n : Nat} {a : Addr} (h : μ.m[n]? = some a) : μ'.m[n]? = some a := by
  obtain ⟨t, e⟩ := f.pre
  rw [e, List.getElem?_append_left (List.getElem?_eq_some_iff.mp h).1]
  exact h
theorem Fw.new {μ : Mu} {H : Hp} {p : Addr} {o : HO} (hp : H p = none) : Fw μ H μ (upd H p o) :=
  ⟨⟨[], by simp⟩, rfl, fun a u e n _ => ⟨by rw [upd_ne (ne_of_none e hp)]; exact e, n⟩⟩
/-- a new object that becomes a cell -/
theorem Fw.newC {μ : Mu} {H : Hp} {p : Addr} {o : HO} (hp : H p = none) : Fw μ H ⟨μ.m ++ [p], μ.av⟩ (upd H p o) :=
  ⟨⟨[p], rfl⟩, rfl, fun a u e n _ => ⟨by rw [upd_ne (ne_of_none e hp)]; exact e, fun z => by
    rcases List.mem_append.mp z with z | z
    · exact n z
    · exact ne_of_none e hp (List.mem_singleton.mp z)⟩⟩
/-- a cell is written -/
theorem Fw.write {μ : Mu} {H : Hp} {p : Addr} {o : HO} (hp : p ∈ μ.m) : Fw μ H μ (upd H p o) :=
  ⟨⟨[], by simp⟩, rfl, fun a u e n _ => ⟨by rw [upd_ne (fun z => n (by rw [z]; exact hp))]; exact e, n⟩⟩
section
variable {c : Ct} {μ μ' : Mu} {H H' : Hp}
/-- the general form: what a value leans on is kept -/
structure Kp (c : Ct) (μ : Mu) (H : Hp) (μ' : Mu) (H' : Hp) : Prop where
  t : ∀ a xs, H a = some (.tup xs) → H' a = some (.tup xs)
  l : ∀ a xs, L2.Rd H a (.lst xs) → a ∉ μ.m → a ∉ μ.av → L2.Rd H' a (.lst xs) ∧ a ∉ μ'.m ∧ a ∉ μ'.av
  m : ∀ a xs, H a = some (.lst xs) → a ∉ μ.m → a ∉ μ.av → H' a = some (.lst xs) ∧ a ∉ μ'.m ∧ a ∉ μ'.av
  d : ∀ a ps, H a = some (.dK ps) → a ∉ μ.m → a ∉ μ.av → H' a = some (.dK ps) ∧ a ∉ μ'.m ∧ a ∉ μ'.av
  i : ∀ a C dx fs, H a = some (.ins C dx fs) → a ∉ μ.m → a ∉ μ.av → H' a = some (.ins C dx fs) ∧ a ∉ μ'.m ∧ a ∉ μ'.av
  cl : ∀ (n : Nat) (a : Addr), μ.m[n]? = some a → μ'.m[n]? = some a
  x : ∀ a fv, H a = some (.xd fv) → H' a = some (.xd fv)
  f : ∀ a ob φ, H a = some (.frz ob (.ext φ)) → H' a = some (.frz ob (.ext φ)) ∧ (a ∉ μ.av → a ∉ μ'.av)
  g : ∀ a φ, H a = some (.ext φ) → H' a = some (.ext φ)
theorem Caps.kp {av av' : List Addr} {cells : List (Str × Addr)} {ys : List Str} {vs : List V} (h : Caps H av cells ys vs) (k : ∀ a ob φ, H a = some (.frz ob (.ext φ)) → H' a = some (.frz ob (.ext φ)) ∧ (a ∉ av → a ∉ av')) : Caps H' av' cells ys vs :=
  ⟨h.len, h.dom, h.inj, fun i y v h1 h2 => let ⟨c, ob, u, e1, e2, e3, e4⟩ := h.at_ i y v h1 h2; ⟨c, ob, u, e1, ⟨(k _ _ _ e2.1).1, (k _ _ _ e2.1).2 e2.2⟩, e3, e4⟩⟩
theorem LamAt.kp {av av' : List Addr} {a : Addr} {x : Lam} {vs : List V} (h : LamAt H av a x vs) (k : ∀ a ob φ, H a = some (.frz ob (.ext φ)) → H' a = some (.frz ob (.ext φ)) ∧ (a ∉ av → a ∉ av')) (g : ∀ a φ, H a = some (.ext φ) → H' a = some (.ext φ)) : LamAt H' av' a x vs :=
  let ⟨cells, pm, c', ctv, e1, e2, e3⟩ := h; ⟨cells, pm, c', ctv, (k _ _ _ e1).1, g _ _ e2, e3.kp k⟩
mutual
theorem Rp.kp (k : Kp c μ H μ' H') : ∀ {v : V} {d : D}, Rp c μ H v d → Rp c μ' H' v d
  | _, _, .non => .non
  | _, _, .bl b => .bl b
  | _, _, .int i => .int i
  | _, _, .str x => .str x
  | _, _, .tup h r => .tup (k.t _ _ h) (RpAll.kp k r)
  | _, _, .lst h n1 n2 n3 r => let ⟨a, b, d⟩ := k.m _ _ h n1 n2; .lst a b d n3 (RpAll.kp k r)
  | _, _, .kls h n1 n2 r => let ⟨a, b, d⟩ := k.l _ _ h n1 n2; .kls a b d (RpAll.kp k r)
  | _, _, .klsK o its n h1 h2 h3 h4 h5 h6 r => .klsK o its n h1 h2 h3 h4 h5 h6 (RpAll.kp k r)
  | _, _, .dic h n n2 => let ⟨a, b, d⟩ := k.d _ _ h n n2; .dic a b d
  | _, _, .cell h => .cell (k.cl _ _ h)
  | _, _, .glo h r => .glo h r
  | _, _, .ty n => .ty n
  | _, _, .ins h n n2 g r => let ⟨a, b, d⟩ := k.i _ _ _ _ h n n2; .ins a b d g (RpFs.kp k r)
  | _, _, .exc0 h g => .exc0 h g
  | _, _, .exc1 h g e r => .exc1 h g (k.x _ _ e) (RpFs.kp k r)
  | _, _, .fn h r => .fn (h.kp k.f k.g) (RpAll.kp k r)
theorem RpAll.kp (k : Kp c μ H μ' H') : ∀ {vs : List V} {ds : List D}, RpAll c μ H vs ds → RpAll c μ' H' vs ds
  | _, _, .nil => .nil
  | _, _, .cons h r => .cons (Rp.kp k h) (RpAll.kp k r)
theorem RpFs.kp (k : Kp c μ H μ' H') : ∀ {vs : List (Str × V)} {ds : List (Str × D)}, RpFs c μ H vs ds → RpFs c μ' H' vs ds
  | _, _, .nil => .nil
  | _, _, .cons h r => .cons (Rp.kp k h) (RpFs.kp k r)
end
end
/-- a cell's object -/
def ClOk (c : Ct) (μ : Mu) (H : Hp) (a : Addr) : Cl → Prop
  | .lst ds => ∃ vs, H a = some (.lst vs) ∧ RpAll c μ H vs ds
  | .ins x fs => ∃ C dx fv, H a = some (.ins C dx fv) ∧ c.mg x = some (.ref C) ∧ RpFs c μ H fv fs
/-- the names of the defs whose tables are told: those that may make a lambda -/
def lamDefs : List Str := ["law", "_law_watch_right", "_law_long_right", "_law_tried", "_law_attempted", "_law_other", "_law_promise_busy"]
def codeQ (P : Addr) (o : Obj) : Option Str := match o.data with
  | .fields vs => (match vs.getD 11 .none, vs.getD 1 .none with
    | .ref a, .str q _ => if a = P ∧ lamDefs.contains q = true then some q else none
    | _, _ => none)
  | _ => none
/-- the name of the code object whose table stands at P -/
def tabQ (K : PySem.W.Frag) (P : Addr) : Option Str := (List.range 8).findSome? fun i => (K.lookup (P + i)).bind (codeQ P)
def lamQ (q : Str) : Str := (q ++ ".<locals>.") ++ "<lambda>"
/-- what is known of the tables that are told (they are not in the written part): what is in them are code objects of lambdas -/
def Tbs (c : Ct) (H : Hp) : Prop := ∀ (P : Addr) (q : Str), tabQ c.K P = some q → c.K.lookup P = none → LamX.TabS H P (lamQ q)
theorem Tbs.of {c : Ct} {H H' : Hp} (t : Tbs c H) (k1 : ∀ P ps, H P = some (.tbl ps) → H' P = some (.tbl ps)) (k2 : ∀ b φ, H b = some (.ext φ) → H' b = some (.ext φ)) : Tbs c H' := fun P q h hn => by
  obtain ⟨ps, e, tr, ha⟩ := t P q h hn
  exact ⟨ps, k1 _ _ e, tr, fun pos cv hc => let ⟨c', e1, e2⟩ := ha pos cv hc; ⟨c', e1, k2 _ _ e2⟩⟩
theorem Tbs.ct {c c' : Ct} {H : Hp} (t : Tbs c H) (e : c.K = c'.K) : Tbs c' H := fun P q h hn => t P q (e ▸ h) (e ▸ hn)
/-- one object more, or one written, that is no table and stood for no code object -/
theorem Tbs.upd {c : Ct} {H : Hp} {p : Addr} {o : HO} (t : Tbs c H) (h1 : ∀ ps, H p ≠ some (.tbl ps)) (h2 : ∀ φ, H p ≠ some (.ext φ)) : Tbs c (L2.upd H p o) := t.of (fun P ps e => by rw [upd_ne (fun z => h1 ps (by rw [← z]; exact e))]; exact e) fun b φ e => by rw [upd_ne (fun z => h2 φ (by rw [← z]; exact e))]; exact e
/-- the told tables of code objects of the written part stand there, but those at cs -/
def tabChk (K : PySem.W.Frag) (cs : List Addr) : Bool := K.all fun e => match e.2.data with
  | .fields vs => (match vs.getD 11 .none, vs.getD 1 .none with
    | .ref a, .str q _ => !lamDefs.contains q || (K.lookup a).isSome || cs.contains a
    | _, _ => true)
  | _ => true
theorem lookup_memK {K : PySem.W.Frag} {a : Addr} {o : Obj} (h : K.lookup a = some o) : ∃ b, (b, o) ∈ K := by
  induction K with
  | nil => cases h
  | cons p r ih =>
    obtain ⟨b, u⟩ := p
    rw [List.lookup_cons] at h
    split at h
    · cases h
      exact ⟨_, List.mem_cons_self⟩
    · obtain ⟨b', hb⟩ := ih h
      exact ⟨b', List.mem_cons_of_mem _ hb⟩
theorem tab_in {K : PySem.W.Frag} {cs : List Addr} {P : Addr} {q : Str} (k : tabChk K cs = true) (h : tabQ K P = some q) (n : K.lookup P = none) : P ∈ cs := by
  obtain ⟨i, _, e⟩ := List.exists_of_findSome?_eq_some h
  obtain ⟨o, e1, e2⟩ := Option.bind_eq_some_iff.mp e
  obtain ⟨b, hb⟩ := lookup_memK e1
  have c := List.all_eq_true.mp k _ hb
  dsimp only at c
  unfold codeQ at e2
  split at e2
  · rename_i vs hd
    split at e2
    · rename_i a q' t h11 h1
      split at e2
      · rename_i ea
        obtain ⟨ea, eq⟩ := ea
        subst ea
        rw [hd] at c
        dsimp only at c
        rw [h11, h1] at c
        dsimp only at c
        rw [n, eq] at c
        simpa using c
      · cases e2
    · cases e2
  · cases e2
theorem Tbs.start {c : Ct} {H : Hp} {cs : List Addr} (k : tabChk c.K cs = true) (h : ∀ P ∈ cs, H P = some (.tbl #[])) : Tbs c H := fun P q hq hn => LamX.TabS.nil (h P (tab_in k hq hn))
structure Wd (c : Ct) (μ : Mu) (S : Sto) (H : Hp) : Prop where
  nd : μ.m.Nodup
  len : μ.m.length = S.length
  ap : ∀ a ∈ μ.m, a ∉ μ.av
  avs : ∀ a ∈ μ.av, H a ≠ none
  ok : ∀ (i : Nat) (a : Addr) (x : Cl), μ.m[i]? = some a → S[i]? = some x → ClOk c μ H a x
  tb : Tbs c H
theorem upd_some {H : Hp} {p a : Addr} {o : HO} (h : H a ≠ none) : upd H p o a ≠ none := by
  unfold upd
  split
  · exact fun z => nomatch z
  · exact h
theorem ClOk.there {c : Ct} {μ : Mu} {H : Hp} {a : Addr} : ∀ {x : Cl}, ClOk c μ H a x → ∃ o, H a = some o ∧ (∀ xs, o ≠ .tup xs) ∧ (∀ ob u, o ≠ .frz ob u) ∧ (∀ fv, o ≠ .xd fv) ∧ ∀ φ, o ≠ .ext φ
  | .lst _, ⟨_, h, _⟩ => ⟨_, h, (fun _ z => nomatch z), (fun _ _ z => nomatch z), (fun _ z => nomatch z), fun _ z => nomatch z⟩
  | .ins _ _, ⟨_, _, _, h, _⟩ => ⟨_, h, (fun _ z => nomatch z), (fun _ _ z => nomatch z), (fun _ z => nomatch z), fun _ z => nomatch z⟩
theorem ClOk.noT {c : Ct} {μ : Mu} {H : Hp} {a : Addr} {o : HO} (e : H a = some o) : ∀ {x : Cl}, ClOk c μ H a x → ∀ ps, o ≠ .tbl ps
  | .lst _, ⟨_, h, _⟩, ps, z => by rw [h] at e; cases e; cases z
  | .ins _ _, ⟨_, _, _, h, _⟩, ps, z => by rw [h] at e; cases e; cases z
theorem Wd.there {c : Ct} {μ : Mu} {S : Sto} {H : Hp} (w : Wd c μ S H) {a : Addr} (h : a ∈ μ.m) : ∃ o, H a = some o ∧ (∀ xs, o ≠ .tup xs) ∧ (∀ ob u, o ≠ .frz ob u) ∧ (∀ fv, o ≠ .xd fv) ∧ ∀ φ, o ≠ .ext φ := by
  obtain ⟨i, hi, e⟩ := List.getElem_of_mem h
  have h1 : μ.m[i]? = some a := List.getElem?_eq_some_iff.mpr ⟨hi, e⟩
  have h2 : i < S.length := by rw [← w.len]; exact hi
  exact (w.ok i a S[i] h1 (List.getElem?_eq_getElem h2)).there
theorem Wd.fresh {c : Ct} {μ : Mu} {S : Sto} {H : Hp} (w : Wd c μ S H) {p : Addr} (hp : H p = none) : p ∉ μ.m := fun z => by
  obtain ⟨o, e, _⟩ := w.there z
  rw [hp] at e
  cases e
theorem Wd.tupK {c : Ct} {μ μ' : Mu} {S : Sto} {H H' : Hp} (w : Wd c μ S H) (f : Fw μ H μ' H') {a : Addr} {xs : List V} (e : H a = some (.tup xs)) : H' a = some (.tup xs) := by
  refine (f.keep a _ e (fun z => ?_) (fun _ z => nomatch z)).1
  obtain ⟨o, e', n, _⟩ := w.there z
  rw [e] at e'
  exact n xs (Option.some.inj e').symm
theorem Wd.xdK {c : Ct} {μ μ' : Mu} {S : Sto} {H H' : Hp} (w : Wd c μ S H) (f : Fw μ H μ' H') {a : Addr} {fv : List (Str × V)} (e : H a = some (.xd fv)) : H' a = some (.xd fv) := by
  refine (f.keep a _ e (fun z => ?_) (fun _ z => nomatch z)).1
  obtain ⟨o, e', _, _, n, _⟩ := w.there z
  rw [e] at e'
  exact n fv (Option.some.inj e').symm
theorem Wd.frK {c : Ct} {μ μ' : Mu} {S : Sto} {H H' : Hp} (w : Wd c μ S H) (f : Fw μ H μ' H') {a : Addr} {ob : Obj} {u : HO} (e : H a = some (.frz ob u)) : H' a = some (.frz ob u) := by
  refine (f.keep a _ e (fun z => ?_) (fun _ z => nomatch z)).1
  obtain ⟨o, e', _, n, _⟩ := w.there z
  rw [e] at e'
  exact n ob u (Option.some.inj e').symm
theorem Wd.exK {c : Ct} {μ μ' : Mu} {S : Sto} {H H' : Hp} (w : Wd c μ S H) (f : Fw μ H μ' H') {a : Addr} {φ : Heap → Prop} (e : H a = some (.ext φ)) : H' a = some (.ext φ) := by
  refine (f.keep a _ e (fun z => ?_) (fun _ z => nomatch z)).1
  obtain ⟨o, e', _, _, _, n⟩ := w.there z
  rw [e] at e'
  exact n φ (Option.some.inj e').symm
theorem Wd.kp {c : Ct} {μ μ' : Mu} {S : Sto} {H H' : Hp} (w : Wd c μ S H) (f : Fw μ H μ' H') : Kp c μ H μ' H' where
  t := fun _ _ h => w.tupK f h
  l := fun a xs h n1 n2 => by
    rcases h with e | ⟨o, e⟩
    · exact ⟨.inl (f.keep a _ e n1 (fun _ z => nomatch z)).1, (f.keep a _ e n1 (fun _ z => nomatch z)).2, f.av ▸ n2⟩
    · exact ⟨.inr ⟨o, (f.keep a _ e n1 (fun _ z => nomatch z)).1⟩, (f.keep a _ e n1 (fun _ z => nomatch z)).2, f.av ▸ n2⟩
  m := fun a xs e n1 n2 => ⟨(f.keep a _ e n1 (fun _ z => nomatch z)).1, (f.keep a _ e n1 (fun _ z => nomatch z)).2, f.av ▸ n2⟩
  d := fun a ps e n1 n2 => ⟨(f.keep a _ e n1 (fun _ z => nomatch z)).1, (f.keep a _ e n1 (fun _ z => nomatch z)).2, f.av ▸ n2⟩
  i := fun a C dx fs e n1 n2 => ⟨(f.keep a _ e n1 (fun _ z => nomatch z)).1, (f.keep a _ e n1 (fun _ z => nomatch z)).2, f.av ▸ n2⟩
  cl := fun n a h => f.at h
  x := fun _ _ h => w.xdK f h
  f := fun _ _ _ h => ⟨w.frK f h, fun n => f.av ▸ n⟩
  g := fun _ _ h => w.exK f h
section
variable {c : Ct} {μ μ' : Mu} {S : Sto} {H H' : Hp} {v : V} {d : D} {vs : List V} {ds : List D}
theorem Rp.fw (r : Rp c μ H v d) (w : Wd c μ S H) (f : Fw μ H μ' H') : Rp c μ' H' v d := r.kp (w.kp f)
theorem RpAll.fw (r : RpAll c μ H vs ds) (w : Wd c μ S H) (f : Fw μ H μ' H') : RpAll c μ' H' vs ds := r.kp (w.kp f)
theorem ClOk.kp (k : Kp c μ H μ' H') {a : Addr} (g : ∀ o, H a = some o → H' a = some o) : ∀ {x : Cl}, ClOk c μ H a x → ClOk c μ' H' a x
  | .lst _, ⟨vs, h, r⟩ => ⟨vs, g _ h, r.kp k⟩
  | .ins _ _, ⟨C, dx, fv, h, e, r⟩ => ⟨C, dx, fv, g _ h, e, r.kp k⟩
/-- a new object that is no cell -/
theorem Wd.new (w : Wd c μ S H) {p : Addr} {o : HO} (hp : H p = none) : Wd c μ S (upd H p o) :=
  ⟨w.nd, w.len, w.ap, fun a h => upd_some (w.avs a h), fun i a x h1 h2 => ClOk.kp (w.kp (Fw.new hp)) (fun u e => by rw [upd_ne (ne_of_none e hp)]; exact e) (w.ok i a x h1 h2), w.tb.upd (fun φ z => by rw [hp] at z; cases z) (fun φ z => by rw [hp] at z; cases z)⟩
theorem RpAll.length : ∀ {vs : List V} {ds : List D}, RpAll c μ H vs ds → vs.length = ds.length
  | _, _, .nil => rfl
  | _, _, .cons _ r => congrArg Nat.succ r.length
theorem RpAll.at : ∀ {vs : List V} {ds : List D} {i : Nat} {d : D}, RpAll c μ H vs ds → ds[i]? = some d → ∃ v, vs[i]? = some v ∧ Rp c μ H v d
  | _, _, i, _, .nil, h => by simp at h
  | _, _, 0, _, .cons h1 _, h => by cases h; exact ⟨_, rfl, h1⟩
  | _, _, i + 1, _, .cons _ h2, h => RpAll.at (i := i) h2 h
theorem RpAll.append : ∀ {vs ws : List V} {ds es : List D}, RpAll c μ H vs ds → RpAll c μ H ws es → RpAll c μ H (vs ++ ws) (ds ++ es)
  | _, _, _, _, .nil, h => h
  | _, _, _, _, .cons h1 h2, h => .cons h1 (h2.append h)
theorem RpAll.take : ∀ {vs : List V} {ds : List D} (n : Nat), RpAll c μ H vs ds → RpAll c μ H (vs.take n) (ds.take n)
  | _, _, 0, _ => .nil
  | _, _, _ + 1, .nil => .nil
  | _, _, n + 1, .cons h r => .cons h (RpAll.take n r)
theorem RpAll.drop : ∀ {vs : List V} {ds : List D} (n : Nat), RpAll c μ H vs ds → RpAll c μ H (vs.drop n) (ds.drop n)
  | _, _, 0, r => r
  | _, _, _ + 1, .nil => .nil
  | _, _, n + 1, .cons _ r => RpAll.drop n r
theorem RpAll.set {v : V} {d : D} (h : Rp c μ H v d) : ∀ {vs : List V} {ds : List D} (n : Nat), RpAll c μ H vs ds → RpAll c μ H (vs.set n v) (ds.set n d)
  | _, _, _, .nil => .nil
  | _, _, 0, .cons _ r => .cons h r
  | _, _, n + 1, .cons q r => .cons q (RpAll.set h n r)
theorem RpAll.rep : ∀ (n : Nat), RpAll c μ H vs ds → RpAll c μ H (List.replicate n vs).flatten (List.replicate n ds).flatten
  | 0, _ => .nil
  | n + 1, r => by
    rw [List.replicate_succ, List.replicate_succ, List.flatten_cons, List.flatten_cons]
    exact r.append (RpAll.rep n r)
end
theorem ix_uniq {N : List Addr} (hN : N.Nodup) {i j : Nat} {x : Addr} (a : N[i]? = some x) (b : N[j]? = some x) : i = j := by
  obtain ⟨h1, e1⟩ := List.getElem?_eq_some_iff.mp a
  obtain ⟨h2, e2⟩ := List.getElem?_eq_some_iff.mp b
  exact (List.getElem_inj hN).mp (e1.trans e2.symm)
/-- one write to a cell -/
theorem Wd.set {c : Ct} {μ : Mu} {S : Sto} {H : Hp} (w : Wd c μ S H) {n : Nat} {a : Addr} {o : HO} {x : Cl} (h : μ.m[n]? = some a) (hx : ClOk c μ (upd H a o) a x) : Wd c μ (S.set n x) (upd H a o) := by
  have hm : a ∈ μ.m := List.mem_of_getElem? h
  refine ⟨w.nd, by rw [List.length_set]; exact w.len, w.ap, fun a h => upd_some (w.avs a h), fun i b y h1 h2 => ?_, w.tb.upd (fun ps z => by
    have hl : n < S.length := by rw [← w.len]; exact (List.getElem?_eq_some_iff.mp h).1
    exact (w.ok n a S[n] h (List.getElem?_eq_getElem hl)).noT z ps rfl) fun φ z => by
    obtain ⟨o', e', _, _, _, n⟩ := w.there hm
    rw [z] at e'
    exact n φ (Option.some.inj e').symm⟩
  by_cases hi : n = i
  · subst hi
    rw [h] at h1
    cases h1
    have : n < S.length := by rw [← w.len]; exact (List.getElem?_eq_some_iff.mp h).1
    rw [List.getElem?_set_self this] at h2
    cases h2
    exact hx
  · rw [List.getElem?_set_ne hi] at h2
    have ne : b ≠ a := fun z => by
      subst z
      exact hi (ix_uniq w.nd h h1)
    exact ClOk.kp (w.kp (Fw.write hm)) (fun u e => by rw [upd_ne ne]; exact e) (w.ok i b y h1 h2)
/-- a new cell -/
theorem Wd.newC {c : Ct} {μ : Mu} {S : Sto} {H : Hp} (w : Wd c μ S H) {p : Addr} {o : HO} {x : Cl} (hp : H p = none) (hx : ClOk c ⟨μ.m ++ [p], μ.av⟩ (upd H p o) p x) : Wd c ⟨μ.m ++ [p], μ.av⟩ (S ++ [x]) (upd H p o) := by
  have nm := w.fresh hp
  refine ⟨?_, by simp [w.len], fun a h => ?_, fun a h => upd_some (w.avs a h), fun i a y h1 h2 => ?_, w.tb.upd (fun φ z => by rw [hp] at z; cases z) (fun φ z => by rw [hp] at z; cases z)⟩
  · rw [List.nodup_append]
    exact ⟨w.nd, by simp, fun a ha b hb e => nm (by rw [List.mem_singleton.mp hb] at e; exact e ▸ ha)⟩
  · rcases List.mem_append.mp h with h | h
    · exact w.ap a h
    · rw [List.mem_singleton.mp h]; exact fun z => w.avs p z hp
  · have hl := w.len
    by_cases hi : i < μ.m.length
    · rw [List.getElem?_append_left hi] at h1
      rw [List.getElem?_append_left (by omega)] at h2
      exact ClOk.kp (w.kp (Fw.newC hp)) (fun u e => by rw [upd_ne (ne_of_none e hp)]; exact e) (w.ok i a y h1 h2)
    · have hi2 : i = μ.m.length := by
        have := (List.getElem?_eq_some_iff.mp h1).1
        simp at this
        omega
      subst hi2
      rw [List.getElem?_append_right (Nat.le_refl _), Nat.sub_self] at h1
      cases h1
      rw [List.getElem?_append_right (by omega), hl, Nat.sub_self] at h2
      cases h2
      exact hx
end Pu
namespace Pu
open PySem PySem.Spec PyProof.Rows L2
/-! ## meanings: what must hold so that a piece of code ends as wanted, over values without addresses -/
abbrev QD := D → Sto → Prop
/-- an error: its class, its fields -/
abbrev Er := Str × List (Str × D)
abbrev ED := Er → Sto → Prop
abbrev FX (α : Type) := Rho → Sto → (α → Sto → Prop) → ED → Prop
abbrev FE := FX D
abbrev FT := FX Bool
abbrev FA := FX (List D)
abbrev FO := FX (Option Int)
structure DEnds where
  nx : Rho → Sto → Prop
  rt : QD
  bk : Rho → Sto → Prop
  ct : Rho → Sto → Prop
abbrev FS := Rho → Sto → DEnds → ED → Prop
abbrev FG := D → Rho → Sto → (Rho → Sto → Prop) → ED → Prop
abbrev FGs := List D → Rho → Sto → (Rho → Sto → Prop) → ED → Prop
/-- a def -/
abbrev FF := List D → Sto → QD → ED → Prop
def hxOf (pn : List (Addr × Obj)) (a : Addr) : Option (Value × Option Addr) := match pn with
  | (b, o) :: _ => if b = a then some (o.cls, o.dict) else none
  | [] => none
def ct (X : Cx) : Ct := ⟨X.K, X.mg, if X.calm = true then fun _ => none else hxOf X.pn⟩
/-- what leaves by an error, whatever the slots -/
abbrev cE (E : XK) : L2.St → XK := fun _ => E
structure EnvR (c : Ct) (μ : Mu) (H : Hp) (σ : L2.St) (ρ : Rho) : Prop where
  len : σ.length = ρ.length
  ok : ∀ (i : Nat) (d : D), ρ[i]? = some (some d) → ∃ v, σ[i]? = some (some v) ∧ Rp c μ H v d
def RpX (c : Ct) (μ : Mu) (H : Hp) (cls : Value) (dx : Option Addr) (e : Er) : Prop :=
  c.mg e.1 = some cls ∧ match e.2 with
    | [] => dx = none
    | f :: fs => ∃ a fv, dx = some a ∧ H a = some (.xd fv) ∧ RpFs c μ H fv (f :: fs)
def PX (c : Ct) (μ : Mu) (H : Hp) (Ed : ED) (E : XK) : Prop := ∀ e S' cls dx H' μ', Ed e S' → Fw μ H μ' H' → Wd c μ' S' H' → RpX c μ' H' cls dx e → E cls dx H'
section
variable {c : Ct} {μ μ' : Mu} {S S' : Sto} {H H' : Hp} {σ : L2.St} {ρ : Rho} {Ed : ED} {E : XK}
theorem EnvR.fw (en : EnvR c μ H σ ρ) (w : Wd c μ S H) (f : Fw μ H μ' H') : EnvR c μ' H' σ ρ := ⟨en.len, fun i d h => let ⟨v, e, r⟩ := en.ok i d h; ⟨v, e, r.fw w f⟩⟩
theorem EnvR.kp (en : EnvR c μ H σ ρ) (k : Kp c μ H μ' H') : EnvR c μ' H' σ ρ := ⟨en.len, fun i d h => let ⟨v, e, r⟩ := en.ok i d h; ⟨v, e, r.kp k⟩⟩
theorem PX.fw (p : PX c μ H Ed E) (f : Fw μ H μ' H') : PX c μ' H' Ed E := fun e S' cls dx H2 μ2 h g w r => p e S' cls dx H2 μ2 h (f.trans g) w r
theorem EnvR.set (en : EnvR c μ H σ ρ) {i : Nat} {v : V} {d : D} (r : Rp c μ H v d) : EnvR c μ H (σ.set i (some v)) (ρ.set i (some d)) := by
  refine ⟨by rw [List.length_set, List.length_set]; exact en.len, fun j x h => ?_⟩
  by_cases e : i = j
  · subst e
    have hl : i < ρ.length := by
      have := (List.getElem?_eq_some_iff.mp h).1
      rwa [List.length_set] at this
    rw [List.getElem?_set_self hl] at h
    cases h
    exact ⟨v, by rw [List.getElem?_set_self (by rw [en.len]; exact hl)], r⟩
  · rw [List.getElem?_set_ne e] at h ⊢
    exact en.ok j x h
end
/-- the reading that a meaning gives -/
def tR {α β : Type} (c : Ct) (R : Mu → Hp → β → α → Prop) (E : L2.St → XK) (f : FX α) : L2.St → Hp → (β → Hp → Prop) → Prop := fun σ H Q =>
  ∃ μ S ρ Qd Ed, Wd c μ S H ∧ EnvR c μ H σ ρ ∧ f ρ S Qd Ed ∧ (∀ d S' v H' μ', Qd d S' → Fw μ H μ' H' → Wd c μ' S' H' → R μ' H' v d → Q v H') ∧ PX c μ H Ed (E σ)
theorem tR_of {α β : Type} {c : Ct} {R : Mu → Hp → β → α → Prop} {E : L2.St → XK} {f : FX α} {σ : L2.St} {H : Hp} {Q : β → Hp → Prop} {μ : Mu} {S : Sto} {ρ : Rho} {Qd : α → Sto → Prop} {Ed : ED}
    (w : Wd c μ S H) (en : EnvR c μ H σ ρ) (h : f ρ S Qd Ed) (px : PX c μ H Ed (E σ))
    (q : ∀ d S' v H' μ', Qd d S' → Fw μ H μ' H' → Wd c μ' S' H' → EnvR c μ' H' σ ρ → PX c μ' H' Ed (E σ) → R μ' H' v d → Q v H') : tR c R E f σ H Q :=
  ⟨μ, S, ρ, Qd, Ed, w, en, h, fun d S' v H' μ' h1 h2 h3 h4 => q d S' v H' μ' h1 h2 h3 (en.fw w h2) (px.fw h2) h4, px⟩
def rEqB {α : Type} : Mu → Hp → α → α → Prop := fun _ _ a b => a = b
abbrev tD (c : Ct) (E : L2.St → XK) (f : FE) : TE := tR c (Rp c) E f
abbrev tT (c : Ct) (E : L2.St → XK) (f : FT) : TT := tR c rEqB E f
abbrev tAr (c : Ct) (E : L2.St → XK) (f : FA) : TA := tR c (RpAll c) E f
abbrev tOp' (c : Ct) (E : L2.St → XK) (f : FO) : TO := tR c rEqB E f
abbrev PEd (X : Cx) (E : L2.St → XK) (e : Expr) (f : FE) : Prop := PE X e (tD (ct X) E f)
abbrev PTd (X : Cx) (E : L2.St → XK) (e : Expr) (f : FT) : Prop := PT X e (tT (ct X) E f)
abbrev PWd (X : Cx) (E : L2.St → XK) (e : Expr) (f : FT) : Prop := PW X e (tT (ct X) E f)
abbrev PAd (X : Cx) (E : L2.St → XK) (es : List Expr) (f : FA) : Prop := PA X es (tAr (ct X) E f)
abbrev POd (X : Cx) (E : L2.St → XK) (e : Option Expr) (f : FO) : Prop := PO X e (tOp' (ct X) E f)
section
variable {X : Cx}
theorem PE.imp {e : Expr} {t t' : TE} (h : PE X e t) (k : ∀ σ H Q, t' σ H Q → t σ H Q) : PE X e t' := ⟨fun pins s σ H Q I q => h.run pins s σ H Q I (k σ H Q q)⟩
theorem PT.imp {e : Expr} {t t' : TT} (h : PT X e t) (k : ∀ σ H Q, t' σ H Q → t σ H Q) : PT X e t' := ⟨fun pins s σ H Q I q => h.run pins s σ H Q I (k σ H Q q)⟩
theorem PW.imp {e : Expr} {t t' : TT} (h : PW X e t) (k : ∀ σ H Q, t' σ H Q → t σ H Q) : PW X e t' := ⟨fun wh pins s σ H Q I q => h.run wh pins s σ H Q I (k σ H Q q)⟩
theorem PA.imp {e : List Expr} {t t' : TA} (h : PA X e t) (k : ∀ σ H Q, t' σ H Q → t σ H Q) : PA X e t' := ⟨fun p pins s σ H Q I q => h.run p pins s σ H Q I (k σ H Q q)⟩
theorem PO.imp {e : Option Expr} {t t' : TO} (h : PO X e t) (k : ∀ σ H Q, t' σ H Q → t σ H Q) : PO X e t' := ⟨fun pins s σ H Q I q => h.run pins s σ H Q I (k σ H Q q)⟩
theorem PS.imp {e : Stmt} {t t' : TS} (h : PS X e t) (k : ∀ D σ H, t' D σ H → t D σ H) : PS X e t' := ⟨fun pins s σ H D I q => h.run pins s σ H D I (k D σ H q)⟩
theorem PSs.imp {e : List Stmt} {t t' : TS} (h : PSs X e t) (k : ∀ D σ H, t' D σ H → t D σ H) : PSs X e t' := ⟨fun pins s σ H D I q => h.run pins s σ H D I (k D σ H q)⟩
theorem PG.imp {e : Expr} {t t' : TG} (h : PG X e t) (k : ∀ v σ H Q, t' v σ H Q → t v σ H Q) : PG X e t' := ⟨fun pins s σ H v u Q I r q => h.run pins s σ H v u Q I r (k v σ H Q q)⟩
end
/-! ### names, constants -/
def getV : Rho → Nat → Option D
  | [], _ => none
  | x :: _, 0 => x
  | _ :: r, n + 1 => getV r n
theorem getV_some : ∀ {ρ : Rho} {i : Nat} {d : D}, getV ρ i = some d → ρ[i]? = some (some d)
  | [], _, _, h => by cases h
  | _ :: _, 0, _, h => by
    rw [List.getElem?_cons_zero]
    exact congrArg some h
  | _ :: r, n + 1, _, h => by
    rw [List.getElem?_cons_succ]
    exact getV_some (ρ := r) h
def onSome {α : Type} (o : Option α) (k : α → Prop) : Prop := match o with | some a => k a | none => False
theorem onSome_of {α : Type} {o : Option α} {k : α → Prop} (h : onSome o k) : ∃ a, o = some a ∧ k a := by
  cases o with
  | none => exact h.elim
  | some a => exact ⟨a, rfl, h⟩
def dVar (i : Nat) : FE := fun ρ S Q _ => onSome (getV ρ i) fun d => Q d S
def dC {α : Type} (d : α) : FX α := fun _ S Q _ => Q d S
section
variable {X : Cx} {E : L2.St → XK} {pos : Pos}
theorem d_var {i : Nat} {e : Expr} (h : PE X e (tVar i)) : PEd X E e (dVar i) := by
  refine PE.imp h fun σ H Q ⟨μ, S, ρ, Qd, Ed, w, en, hf, q, px⟩ => ?_
  obtain ⟨d, e1, hd⟩ := onSome_of hf
  obtain ⟨v, e2, r⟩ := en.ok i d (getV_some e1)
  exact ⟨v, e2, q d S v H μ hd Fw.refl w r⟩
theorem d_const {v : V} {d : D} {e : Expr} (h : PE X e (tC v)) (r : ∀ μ H, Rp (ct X) μ H v d) : PEd X E e (dC d) :=
  PE.imp h fun σ H Q ⟨μ, S, ρ, Qd, Ed, w, en, hf, q, px⟩ => q d S v H μ hf Fw.refl w (r μ H)
theorem d_int {i j} : PEd X E (.Constant (.int i) j pos) (dC (.int i)) := d_const pe_int fun _ _ => .int i
theorem d_bl {b j} : PEd X E (.Constant (.bool b) j pos) (dC (.bl b)) := d_const pe_bl fun _ _ => .bl b
theorem d_non {j} : PEd X E (.Constant .none j pos) (dC .non) := d_const pe_non fun _ _ => .non
end
/-! ### argument lists -/
def dNil : FA := fun _ S Q _ => Q [] S
def dCons (f : FE) (g : FA) : FA := fun ρ S Q Ed => f ρ S (fun x S1 => g ρ S1 (fun xs S2 => Q (x :: xs) S2) Ed) Ed
section
variable {X : Cx} {E : L2.St → XK} {pos : Pos} {a b e : Expr} {es : List Expr} {fa fb : FE} {fs : FA}
theorem d_nil : PAd X E [] dNil := PA.imp pa_nil fun σ H Q ⟨μ, S, ρ, Qd, Ed, w, en, hf, q, px⟩ => q [] S [] H μ hf Fw.refl w .nil
theorem d_cons (ha : PEd X E e fa) (hr : PAd X E es fs) (hs : starEach (e :: es) X.env = (false, eval e X.env) :: starEach es X.env := by rfl) : PAd X E (e :: es) (dCons fa fs) := by
  refine PA.imp (pa_cons ha hr hs) fun σ H Q ⟨μ, S, ρ, Qd, Ed, w, en, hf, q, px⟩ => ?_
  refine tR_of w en hf px fun x S1 v H1 μ1 h1 f1 w1 en1 px1 r1 => ?_
  refine tR_of w1 en1 h1 px1 fun xs S2 vs H2 μ2 h2 f2 w2 en2 px2 r2 => ?_
  exact q _ S2 _ H2 μ2 h2 (f1.trans f2) w2 (.cons (r1.fw w1 f2) r2)
/-! ### operators by values -/
abbrev G2 := D → D → Sto → QD → Prop
def PostV (c : Ct) (μ : Mu) (H : Hp) (Qd : QD) (Q : VK) : Prop := ∀ d S' v H' μ', Qd d S' → Fw μ H μ' H' → Wd c μ' S' H' → Rp c μ' H' v d → Q v H'
def rD2 (c : Ct) (g : G2) : R2 := fun x y H Q => ∃ μ S dx dy Qd, Wd c μ S H ∧ Rp c μ H x dx ∧ Rp c μ H y dy ∧ g dx dy S Qd ∧ PostV c μ H Qd Q
def rD1 (c : Ct) (g : D → Sto → QD → Prop) : V → Hp → VK → Prop := fun x H Q => ∃ μ S dx Qd, Wd c μ S H ∧ Rp c μ H x dx ∧ g dx S Qd ∧ PostV c μ H Qd Q
def rDs (c : Ct) (g : List D → Sto → QD → Prop) : List V → Hp → VK → Prop := fun xs H Q => ∃ μ S ds Qd, Wd c μ S H ∧ RpAll c μ H xs ds ∧ g ds S Qd ∧ PostV c μ H Qd Q
def rDm (c : Ct) (g : D → List D → Sto → QD → Prop) : V → List V → Hp → VK → Prop := fun x xs H Q => ∃ μ S d ds Qd, Wd c μ S H ∧ Rp c μ H x d ∧ RpAll c μ H xs ds ∧ g d ds S Qd ∧ PostV c μ H Qd Q
def dBin (g : G2) (fa fb : FE) : FE := fun ρ S Q Ed => fa ρ S (fun x S1 => fb ρ S1 (fun y S2 => g x y S2 Q) Ed) Ed
def dUn (g : D → Sto → QD → Prop) (fa : FE) : FE := fun ρ S Q Ed => fa ρ S (fun x S1 => g x S1 Q) Ed
def dB (g : List D → Sto → QD → Prop) (fa : FA) : FE := fun ρ S Q Ed => fa ρ S (fun ds S1 => g ds S1 Q) Ed
theorem tBin {g : G2} {σ : L2.St} {H : Hp} {Q : VK} {c : Ct} (h : tD c E (dBin g fa fb) σ H Q) : tOp (rD2 c g) (tD c E fa) (tD c E fb) σ H Q := by
  obtain ⟨μ, S, ρ, Qd, Ed, w, en, hf, q, px⟩ := h
  refine tR_of w en hf px fun x S1 v H1 μ1 h1 f1 w1 en1 px1 r1 => ?_
  refine tR_of w1 en1 h1 px1 fun y S2 u H2 μ2 h2 f2 w2 en2 px2 r2 => ?_
  exact ⟨μ2, S2, x, y, Qd, w2, r1.fw w1 f2, r2, h2, fun d S' v' H' μ' h f w' r => q d S' v' H' μ' h (f1.trans (f2.trans f)) w' r⟩
theorem d_bin {op : Operator} {g : G2} (ho : OpR X (binaryOp op) (rD2 (ct X) g)) (ha : PEd X E a fa) (hb : PEd X E b fb) : PEd X E (.BinOp a op b pos) (dBin g fa fb) :=
  PE.imp (pe_op ho ha hb) fun _ _ _ h => tBin h
theorem d_un {op : UnaryOp} {g : D → Sto → QD → Prop} (ho : UnR X (unaryOp op) (rD1 (ct X) g)) (ha : PEd X E a fa) : PEd X E (.UnaryOp op a pos) (dUn g fa) := by
  refine PE.imp (pe_un ho ha) fun σ H Q ⟨μ, S, ρ, Qd, Ed, w, en, hf, q, px⟩ => ?_
  refine tR_of w en hf px fun x S1 v H1 μ1 h1 f1 w1 en1 px1 r1 => ?_
  exact ⟨μ1, S1, x, Qd, w1, r1, h1, fun d S' v' H' μ' h f w' r => q d S' v' H' μ' h (f1.trans f) w' r⟩
theorem d_cmp {op : CmpOp} {g : G2} (ho : OpR X (compareOp op) (rD2 (ct X) g)) (ha : PEd X E a fa) (hb : PEd X E b fb) (hm : behindInMarks op b = false) : PEd X E (.Compare a [op] [b] pos) (dBin g fa fb) :=
  PE.imp (pe_cmpR ho ha hb hm) fun _ _ _ h => tBin h
/-- a bool's test -/
def onBl (d : D) (k : Bool → Prop) : Prop := match d with | .bl b => k b | _ => False
theorem onBl_of {d : D} {k : Bool → Prop} (h : onBl d k) : ∃ b, d = .bl b ∧ k b := by
  cases d with
  | bl b => exact ⟨b, rfl, h⟩
  | _ => exact h.elim
def dTest (f : FE) : FT := fun ρ S Q Ed => f ρ S (fun d S1 => onBl d fun b => Q b S1) Ed
theorem Rp.bl_inv {c : Ct} {μ : Mu} {H : Hp} {v : V} {b : Bool} (h : Rp c μ H v (.bl b)) : v = .bl b := by cases h; rfl
theorem tTest_of {f : FE} {σ : L2.St} {H : Hp} {Q : Bool → Hp → Prop} {c : Ct} (h : tT c E (dTest f) σ H Q) : tD c E f σ H (fun x H' => ∃ k, x = .bl k ∧ Q k H') := by
  obtain ⟨μ, S, ρ, Qd, Ed, w, en, hf, q, px⟩ := h
  refine tR_of w en hf px fun x S1 v H1 μ1 h1 f1 w1 en1 px1 r1 => ?_
  obtain ⟨b, rfl, hb⟩ := onBl_of h1
  exact ⟨b, r1.bl_inv, q b S1 b H1 μ1 hb f1 w1 rfl⟩
theorem d_tcmp {op : CmpOp} {g : G2} (ho : OpR X (compareOp op) (rD2 (ct X) g)) (ha : PEd X E a fa) (hb : PEd X E b fb) (hm : behindInMarks op b = false) : PTd X E (.Compare a [op] [b] pos) (dTest (dBin g fa fb)) := by
  refine PT.imp (pt_cmpR ho ha hb hm) fun σ H Q h => ?_
  obtain ⟨μ, S, ρ, Qd, Ed, w, en, hf, q, px⟩ := h
  show tOp _ _ _ σ H _
  refine tBin ⟨μ, S, ρ, _, Ed, w, en, hf, fun d S' v H' μ' h1 f1 w1 r1 => ?_, px⟩
  obtain ⟨b, rfl, hb⟩ := onBl_of h1
  exact ⟨b, r1.bl_inv, q b S' b H' μ' hb f1 w1 rfl⟩
/-- an expression that is a bool, as a test -/
theorem d_tval {f : FE} (h : PEd X E e f) (he : ∀ whole, isTrue e X.env whole = (do let v ← whole; standAt e.pos; holding [v] (truthy v)) := by intro _; rfl) : PTd X E e (dTest f) :=
  PT.imp (pt_val h he) fun _ _ _ h => tTest_of h
end
/-! ### and, or, not, if -/
def dAnd (f g : FT) : FT := fun ρ S Q Ed => f ρ S (fun b S1 => if b = true then g ρ S1 Q Ed else Q false S1) Ed
def dOr (f g : FT) : FT := fun ρ S Q Ed => f ρ S (fun b S1 => if b = true then Q true S1 else g ρ S1 Q Ed) Ed
def dNot (f : FT) : FT := fun ρ S Q Ed => f ρ S (fun b S1 => Q (!b) S1) Ed
def dIf {α : Type} (t : FT) (f g : FX α) : FX α := fun ρ S Q Ed => t ρ S (fun b S1 => if b = true then f ρ S1 Q Ed else g ρ S1 Q Ed) Ed
section
variable {X : Cx} {E : L2.St → XK} {pos : Pos} {a b c e : Expr} {rest : List Expr} {f g : FT} {fa fb : FE}
theorem d_and1 (ha : PTd X E a f) : PWd X E (.BoolOp .And [a] pos) f := pw_and1 ha
theorem d_or1 (ha : PTd X E a f) : PWd X E (.BoolOp .Or [a] pos) f := pw_or1 ha
theorem d_and (ha : PTd X E a f) (hb : PWd X E (.BoolOp .And (b :: rest) pos) g) : PWd X E (.BoolOp .And (a :: b :: rest) pos) (dAnd f g) := by
  refine PW.imp (pw_and ha hb) fun σ H Q ⟨μ, S, ρ, Qd, Ed, w, en, hf, q, px⟩ => ?_
  refine tR_of w en hf px fun x S1 v H1 μ1 h1 f1 w1 en1 px1 r1 => ?_
  cases (r1 : v = x)
  split
  · rename_i hv
    rw [if_pos hv] at h1
    exact tR_of w1 en1 h1 px1 fun y S2 u H2 μ2 h2 f2 w2 en2 px2 r2 => q y S2 u H2 μ2 h2 (f1.trans f2) w2 r2
  · rename_i hv
    rw [if_neg hv] at h1
    exact q false S1 false H1 μ1 h1 f1 w1 rfl
theorem d_or (ha : PTd X E a f) (hb : PWd X E (.BoolOp .Or (b :: rest) pos) g) : PWd X E (.BoolOp .Or (a :: b :: rest) pos) (dOr f g) := by
  refine PW.imp (pw_or ha hb) fun σ H Q ⟨μ, S, ρ, Qd, Ed, w, en, hf, q, px⟩ => ?_
  refine tR_of w en hf px fun x S1 v H1 μ1 h1 f1 w1 en1 px1 r1 => ?_
  cases (r1 : v = x)
  split
  · rename_i hv
    rw [if_pos hv] at h1
    exact q true S1 true H1 μ1 h1 f1 w1 rfl
  · rename_i hv
    rw [if_neg hv] at h1
    exact tR_of w1 en1 h1 px1 fun y S2 u H2 μ2 h2 f2 w2 en2 px2 r2 => q y S2 u H2 μ2 h2 (f1.trans f2) w2 r2
theorem d_not (ha : PTd X E a f) : PTd X E (.UnaryOp .Not a pos) (dNot f) := by
  refine PT.imp (pt_not ha) fun σ H Q ⟨μ, S, ρ, Qd, Ed, w, en, hf, q, px⟩ => ?_
  refine tR_of w en hf px fun x S1 v H1 μ1 h1 f1 w1 en1 px1 r1 => ?_
  cases (r1 : v = x)
  exact q _ S1 _ H1 μ1 h1 f1 w1 rfl
theorem d_ifE (ht : PTd X E c f) (ha : PEd X E a fa) (hb : PEd X E b fb) : PEd X E (.IfExp c a b pos) (dIf f fa fb) := by
  refine PE.imp (pe_ifExp ht ha hb) fun σ H Q ⟨μ, S, ρ, Qd, Ed, w, en, hf, q, px⟩ => ?_
  refine tR_of w en hf px fun x S1 v H1 μ1 h1 f1 w1 en1 px1 r1 => ?_
  cases (r1 : v = x)
  split
  · rename_i hv
    rw [if_pos hv] at h1
    exact tR_of w1 en1 h1 px1 fun y S2 u H2 μ2 h2 f2 w2 en2 px2 r2 => q y S2 u H2 μ2 h2 (f1.trans f2) w2 r2
  · rename_i hv
    rw [if_neg hv] at h1
    exact tR_of w1 en1 h1 px1 fun y S2 u H2 μ2 h2 f2 w2 en2 px2 r2 => q y S2 u H2 μ2 h2 (f1.trans f2) w2 r2
end
/-! ### two comparisons in a row -/
end Pu
namespace Pu
open PySem PySem.Spec PyProof.Rows L2
/-! ## reading data -/
def lstAt : Option Cl → Option (List D)
  | some (.lst xs) => some xs
  | _ => none
theorem lstAt_inv {o : Option Cl} {xs : List D} (h : lstAt o = some xs) : o = some (.lst xs) := by
  cases o with
  | none => cases h
  | some x =>
    cases x with
    | lst ys => cases h; rfl
    | ins _ _ => cases h
def seqOf (S : Sto) : D → Option (List D)
  | .tup xs => some xs
  | .lst _ xs => some xs
  | .kls xs => some xs
  | .cell n => lstAt S[n]?
  | _ => none
def lstOf (S : Sto) : D → Option (List D)
  | .lst _ xs => some xs
  | .cell n => lstAt S[n]?
  | _ => none
def cellOf (S : Sto) : D → Option (Nat × List D)
  | .cell n => (lstAt S[n]?).map ((n, ·))
  | _ => none
section
variable {c : Ct} {μ μ' : Mu} {S : Sto} {H H' : Hp} {v : V} {d : D} {xs : List D}
theorem Wd.atCell (w : Wd c μ S H) {n : Nat} {x : Cl} (h : S[n]? = some x) : ∃ a, μ.m[n]? = some a ∧ ClOk c μ H a x := by
  have h1 : n < μ.m.length := by rw [w.len]; exact (List.getElem?_eq_some_iff.mp h).1
  exact ⟨μ.m[n], List.getElem?_eq_getElem h1, w.ok n _ x (List.getElem?_eq_getElem h1) h⟩
theorem cellOf_inv {n : Nat} (e : cellOf S d = some (n, xs)) : d = .cell n ∧ S[n]? = some (.lst xs) := by
  cases d with
  | cell k =>
    obtain ⟨ys, h, e2⟩ := Option.map_eq_some_iff.mp (show (lstAt S[k]?).map ((k, ·)) = some (n, xs) from e)
    cases e2
    exact ⟨rfl, lstAt_inv h⟩
  | _ => cases e
theorem Wd.cellL (w : Wd c μ S H) (r : Rp c μ H v d) {n : Nat} (e : cellOf S d = some (n, xs)) : ∃ a vs, v = .ref a ∧ μ.m[n]? = some a ∧ H a = some (.lst vs) ∧ RpAll c μ H vs xs := by
  obtain ⟨rfl, h⟩ := cellOf_inv e
  cases r with
  | cell hm =>
    obtain ⟨vs, h1, h2⟩ := w.ok n _ _ hm h
    exact ⟨_, vs, rfl, hm, h1, h2⟩
theorem Rp.lstT (w : Wd c μ S H) (r : Rp c μ H v d) (e : lstOf S d = some xs) : ∃ a vs, v = .ref a ∧ H a = some (.lst vs) ∧ RpAll c μ H vs xs := by
  cases r with
  | lst h _ _ _ ra => cases e; exact ⟨_, _, rfl, h, ra⟩
  | @cell n a hm =>
    obtain ⟨vs, h1, h2⟩ := w.ok n _ _ hm (lstAt_inv e)
    exact ⟨_, vs, rfl, h1, h2⟩
  | _ => cases e
theorem Rp.seq (w : Wd c μ S H) (r : Rp c μ H v d) (e : seqOf S d = some xs) : ∃ a vs, v = .ref a ∧ (SqL c.K H a vs ∨ SqT c.K H a vs) ∧ RpAll c μ H vs xs := by
  cases r with
  | tup h ra => cases e; exact ⟨_, _, rfl, .inr (SqT.of h), ra⟩
  | lst h _ _ _ ra => cases e; exact ⟨_, _, rfl, .inl (SqL.of h), ra⟩
  | kls h _ _ ra => cases e; exact ⟨_, _, rfl, .inl (.inl h), ra⟩
  | klsK o its n h1 h2 h3 h4 h5 h6 ra => cases e; exact ⟨_, _, rfl, .inl (.inr ⟨o, its, n, h1, h2, h3, h4, h5, h6⟩), ra⟩
  | @cell n a hm =>
    obtain ⟨vs, h1, h2⟩ := w.ok n _ _ hm (lstAt_inv e)
    exact ⟨_, vs, rfl, .inl (SqL.of h1), h2⟩
  | _ => cases e
/-! what a new object is worth -/
theorem PostV.tup {Qd : QD} {Q : VK} (q : PostV c μ H Qd Q) (w : Wd c μ S H) {vs : List V} {ds : List D} (r : RpAll c μ H vs ds) (h : Qd (.tup ds) S) {p : Addr} (hp : H p = none) : Q (.ref p) (upd H p (.tup vs)) :=
  q _ S _ _ μ h (Fw.new hp) (w.new hp) (.tup upd_same (r.fw w (Fw.new hp)))
theorem Wd.newL (w : Wd c μ S H) {vs : List V} {ds : List D} (r : RpAll c μ H vs ds) {p : Addr} (hp : H p = none) {k : Bool} (hk : k = true → p ≠ sysModules) : Rp c μ (upd H p (.lst vs)) (.ref p) (.lst k ds) :=
  .lst upd_same (w.fresh hp) (fun z => w.avs p z hp) hk (r.fw w (Fw.new hp))
theorem PostV.lst {Qd : QD} {Q : VK} (q : PostV c μ H Qd Q) (w : Wd c μ S H) {vs : List V} {ds : List D} (r : RpAll c μ H vs ds) (h : Qd (.lst false ds) S) {p : Addr} (hp : H p = none) : Q (.ref p) (upd H p (.lst vs)) :=
  q _ S _ _ μ h (Fw.new hp) (w.new hp) (w.newL r hp fun z => nomatch z)
theorem PostV.lstN {Qd : QD} {Q : VK} (q : PostV c μ H Qd Q) (w : Wd c μ S H) {vs : List V} {ds : List D} (r : RpAll c μ H vs ds) (h : Qd (.lst true ds) S) {p : Addr} (hp : H p = none) (hs : p ≠ sysModules) : Q (.ref p) (upd H p (.lst vs)) :=
  q _ S _ _ μ h (Fw.new hp) (w.new hp) (w.newL r hp fun _ => hs)
theorem PostV.same {Qd : QD} {Q : VK} (q : PostV c μ H Qd Q) (w : Wd c μ S H) (r : Rp c μ H v d) (h : Qd d S) : Q v H := q _ S _ _ μ h Fw.refl w r
/-- a cell is written, a value given back -/
theorem PostV.cell {Qd : QD} {Q : VK} (q : PostV c μ H Qd Q) (w : Wd c μ S H) {n : Nat} {a : Addr} {vs : List V} {ds : List D} (hm : μ.m[n]? = some a) (r : RpAll c μ H vs ds) (rv : Rp c μ H v d) (h : Qd d (S.set n (.lst ds))) : Q v (upd H a (.lst vs)) := by
  have f : Fw μ H μ (upd H a (.lst vs)) := Fw.write (List.mem_of_getElem? hm)
  exact q _ _ _ _ μ h f (w.set hm ⟨vs, upd_same, r.fw w f⟩) (rv.fw w f)
end
/-! ints -/
def intsOf : List D → Option (List Int)
  | [] => some []
  | .int i :: r => (intsOf r).map (i :: ·)
  | _ :: _ => none
theorem intsOf_inv : ∀ {ds : List D} {ns : List Int}, intsOf ds = some ns → ds = ns.map D.int
  | [], ns, h => by cases h; rfl
  | .int i :: r, ns, h => by
    obtain ⟨ms, e, rfl⟩ := Option.map_eq_some_iff.mp (show (intsOf r).map (i :: ·) = some ns from h)
    rw [intsOf_inv e]
    rfl
  | .non :: _, _, h => by cases h
  | .bl _ :: _, _, h => by cases h
  | .str _ :: _, _, h => by cases h
  | .tup _ :: _, _, h => by cases h
  | .lst _ _ :: _, _, h => by cases h
  | .dic _ :: _, _, h => by cases h
  | .kls _ :: _, _, h => by cases h
  | .cell _ :: _, _, h => by cases h
  | .glo _ :: _, _, h => by cases h
  | .ty _ :: _, _, h => by cases h
  | .ins _ _ :: _, _, h => by cases h
  | .exc _ _ :: _, _, h => by cases h
  | .fn _ _ :: _, _, h => by cases h
section
variable {c : Ct} {μ : Mu} {H : Hp}
theorem RpAll.ints : ∀ {vs : List V} {ns : List Int}, RpAll c μ H vs (ns.map D.int) → vs = ns.map V.int
  | _, [], h => by cases h; rfl
  | _, n :: ns, h => by
    cases h with
    | cons h1 h2 =>
      cases h1
      rw [RpAll.ints h2]
      rfl
theorem RpAll.ofInts : ∀ (ns : List Int), RpAll c μ H (ns.map V.int) (ns.map D.int)
  | [] => .nil
  | n :: ns => .cons (.int n) (RpAll.ofInts ns)
end
/-! ## displays -/
def dTup (f : FA) : FE := fun ρ S Q Ed => f ρ S (fun ds S1 => ds.length ≤ sizeLine ∧ Q (.tup ds) S1) Ed
def dLst (f : FA) : FE := fun ρ S Q Ed => f ρ S (fun ds S1 => ds.length ≤ sizeLine ∧ Q (.lst true ds) S1) Ed
/-- a list that will be changed -/
def dLstC (f : FA) : FE := fun ρ S Q Ed => f ρ S (fun ds S1 => ds.length ≤ sizeLine ∧ Q (.cell S1.length) (S1 ++ [.lst ds])) Ed
section
variable {X : Cx} {E : L2.St → XK} {pos : Pos} {es : List Expr} {fa : FA}
theorem d_tup {x1} (h : PAd X E es fa) : PEd X E (.Tuple es x1 pos) (dTup fa) := by
  refine PE.imp (pe_tup h) fun σ H Q ⟨μ, S, ρ, Qd, Ed, w, en, hf, q, px⟩ => ?_
  refine tR_of w en hf px fun ds S1 vs H1 μ1 h1 f1 w1 en1 px1 r1 => ⟨by rw [r1.length]; exact h1.1, fun p hp => ?_⟩
  exact PostV.tup (fun d S' v H' μ' h f w' r => q d S' v H' μ' h (f1.trans f) w' r) w1 r1 h1.2 hp
theorem d_lst (h : PAd X E es fa) : PEd X E (.List es pos) (dLst fa) := by
  refine PE.imp (Rb.pe_lstN h) fun σ H Q ⟨μ, S, ρ, Qd, Ed, w, en, hf, q, px⟩ => ?_
  refine tR_of w en hf px fun ds S1 vs H1 μ1 h1 f1 w1 en1 px1 r1 => ⟨by rw [r1.length]; exact h1.1, fun p hp hs => ?_⟩
  exact PostV.lstN (fun d S' v H' μ' h f w' r => q d S' v H' μ' h (f1.trans f) w' r) w1 r1 h1.2 hp hs
theorem Wd.lay {c : Ct} {μ : Mu} {S : Sto} {H : Hp} (w : Wd c μ S H) {vs : List V} {ds : List D} (r : RpAll c μ H vs ds) {p : Addr} (hp : H p = none) :
    Fw μ H ⟨μ.m ++ [p], μ.av⟩ (upd H p (.lst vs)) ∧ Wd c ⟨μ.m ++ [p], μ.av⟩ (S ++ [.lst ds]) (upd H p (.lst vs)) ∧ Rp c ⟨μ.m ++ [p], μ.av⟩ (upd H p (.lst vs)) (.ref p) (.cell S.length) := by
  have f : Fw μ H ⟨μ.m ++ [p], μ.av⟩ (upd H p (.lst vs)) := Fw.newC hp
  refine ⟨f, w.newC hp ⟨vs, upd_same, r.fw w f⟩, .cell ?_⟩
  show (μ.m ++ [p])[S.length]? = some p
  rw [← w.len, List.getElem?_append_right (Nat.le_refl _), Nat.sub_self]
  rfl
theorem d_lstC (h : PAd X E es fa) : PEd X E (.List es pos) (dLstC fa) := by
  refine PE.imp (pe_lst h) fun σ H Q ⟨μ, S, ρ, Qd, Ed, w, en, hf, q, px⟩ => ?_
  refine tR_of w en hf px fun ds S1 vs H1 μ1 h1 f1 w1 en1 px1 r1 => ⟨by rw [r1.length]; exact h1.1, fun p hp => ?_⟩
  obtain ⟨f2, w2, r2⟩ := w1.lay r1 hp
  exact q _ _ _ _ _ h1.2 (f1.trans f2) w2 r2
end
/-! ## built-ins that make a new list: as a value, as a cell -/
section
variable {X : Cx} {E : L2.St → XK} {e : Expr} {es : List Expr} {fa : FA} {id : String} {x : Str} {pos p2 : Pos}
theorem d_callB {g : List D → Sto → QD → Prop} (hc : CallR X (.builtin id) (rDs (ct X) g)) (hg : Gl X x) (hm : X.mg x = none) (hv : bootBuiltins x = some (.builtin id)) (ha : PAd X E (e :: es) fa) (hn : x ≠ "__name__" := by decide) (hdb : (x == ("__debug__" : Str)) = false := by decide)
    (hs : starEach (e :: es) X.env = (false, eval e X.env) :: starEach es X.env := by rfl) (hf2 : (backTo pos (starEach es X.env)).any (·.1) = false := by rfl) : PEd X E (.Call (.Name x p2) (e :: es) [] pos) (dB g fa) := by
  refine PE.imp (pe_callB hc hg hm hv ha hn hdb hs hf2) fun σ H Q ⟨μ, S, ρ, Qd, Ed, w, en, hf, q, px⟩ => ?_
  refine tR_of w en hf px fun ds S1 vs H1 μ1 h1 f1 w1 en1 px1 r1 => ?_
  exact ⟨μ1, S1, ds, Qd, w1, r1, h1, fun d S' v H' μ' h f w' r => q d S' v H' μ' h (f1.trans f) w' r⟩
theorem d_callT {T : String} {g : List D → Sto → QD → Prop} (hc : CallR X (.type T) (rDs (ct X) g)) (hg : Gl X x) (hm : X.mg x = none) (hv : bootBuiltins x = some (.type T)) (ha : PAd X E (e :: es) fa) (hn : x ≠ "__name__" := by decide) (hdb : (x == ("__debug__" : Str)) = false := by decide)
    (hs : starEach (e :: es) X.env = (false, eval e X.env) :: starEach es X.env := by rfl) (hf2 : (backTo pos (starEach es X.env)).any (·.1) = false := by rfl) : PEd X E (.Call (.Name x p2) (e :: es) [] pos) (dB g fa) := by
  refine PE.imp (pe_callTy hc hg hm hv ha hn hdb hs hf2) fun σ H Q ⟨μ, S, ρ, Qd, Ed, w, en, hf, q, px⟩ => ?_
  refine tR_of w en hf px fun ds S1 vs H1 μ1 h1 f1 w1 en1 px1 r1 => ?_
  exact ⟨μ1, S1, ds, Qd, w1, r1, h1, fun d S' v H' μ' h f w' r => q d S' v H' μ' h (f1.trans f) w' r⟩
end
end Pu
namespace Pu
open PySem PySem.Spec PyProof.Rows L2
/-! ## arithmetic -/
def gInt (f : Int → Int → D) (C : Int → Int → Prop) : G2 := fun x y S Q => match x, y with
  | .int i, .int j => C i j ∧ Q (f i j) S
  | _, _ => False
def gInt0 (f : Int → Int → D) : G2 := fun x y S Q => match x, y with
  | .int i, .int j => Q (f i j) S
  | _, _ => False
theorem gInt_inv {f : Int → Int → D} {C : Int → Int → Prop} {x y : D} {S : Sto} {Q : QD} (h : gInt f C x y S Q) : ∃ i j, x = .int i ∧ y = .int j ∧ C i j ∧ Q (f i j) S := by
  unfold gInt at h
  split at h
  · exact ⟨_, _, rfl, rfl, h⟩
  · exact h.elim
theorem gInt0_inv {f : Int → Int → D} {x y : D} {S : Sto} {Q : QD} (h : gInt0 f x y S Q) : ∃ i j, x = .int i ∧ y = .int j ∧ Q (f i j) S := by
  unfold gInt0 at h
  split at h
  · exact ⟨_, _, rfl, rfl, h⟩
  · exact h.elim
section
variable {c : Ct} {μ : Mu} {H : Hp} {v : V}
theorem Rp.int_inv {i : Int} (h : Rp c μ H v (.int i)) : v = .int i := by cases h; rfl
theorem Rp.str_inv {x : Str} (h : Rp c μ H v (.str x)) : v = .str x := by cases h; rfl
theorem Rp.tup_inv {ds : List D} (h : Rp c μ H v (.tup ds)) : ∃ a vs, v = .ref a ∧ H a = some (.tup vs) ∧ RpAll c μ H vs ds := by
  cases h with
  | tup h r => exact ⟨_, _, rfl, h, r⟩
end
section
variable {X : Cx}
theorem opInt {f : Value → Value → Sem Value} {C : Int → Int → Prop} {g : Int → Int → Int} (h : OpR X f (rI C fun i j => .int (g i j))) : OpR X f (rD2 (ct X) (gInt (fun i j => .int (g i j)) C)) := by
  intro pins s σ H x y v u Q I rx ry ⟨μ, S, dx, dy, Qd, w, r1, r2, hg, q⟩
  obtain ⟨i, j, rfl, rfl, hC, hq⟩ := gInt_inv hg
  exact h pins s σ H x y v u Q I rx ry ⟨i, j, r1.int_inv, r2.int_inv, hC, q.same w (.int _) hq⟩
theorem opInt0 {f : Value → Value → Sem Value} {g : Int → Int → Int} (h : OpR X f (rI0 fun i j => .int (g i j))) : OpR X f (rD2 (ct X) (gInt0 (fun i j => .int (g i j)))) := by
  intro pins s σ H x y v u Q I rx ry ⟨μ, S, dx, dy, Qd, w, r1, r2, hg, q⟩
  obtain ⟨i, j, rfl, rfl, hq⟩ := gInt0_inv hg
  exact h pins s σ H x y v u Q I rx ry ⟨i, j, r1.int_inv, r2.int_inv, q.same w (.int _) hq⟩
theorem opBl0 {f : Value → Value → Sem Value} {g : Int → Int → Bool} (h : OpR X f (rI0 fun i j => .bl (g i j))) : OpR X f (rD2 (ct X) (gInt0 (fun i j => .bl (g i j)))) := by
  intro pins s σ H x y v u Q I rx ry ⟨μ, S, dx, dy, Qd, w, r1, r2, hg, q⟩
  obtain ⟨i, j, rfl, rfl, hq⟩ := gInt0_inv hg
  exact h pins s σ H x y v u Q I rx ry ⟨i, j, r1.int_inv, r2.int_inv, q.same w (.bl _) hq⟩
end
abbrev gSub : G2 := gInt0 fun i j => .int (i - j)
abbrev gFdiv : G2 := gInt (fun i j => .int (i / j)) CDivW
abbrev gMod : G2 := gInt (fun i j => .int (i % j)) fun _ j => 0 < j
abbrev gPow : G2 := gInt (fun i j => .int (i ^ j.toNat)) CPow
abbrev gLt : G2 := gInt0 fun i j => .bl (decide (i < j))
abbrev gGt : G2 := gInt0 fun i j => .bl (decide (j < i))
abbrev gGe : G2 := gInt0 fun i j => .bl (decide (j ≤ i))
section
variable {X : Cx}
theorem o_sub : OpR X (binaryOp .Sub) (rD2 (ct X) gSub) := opInt0 op_sub
theorem o_fdiv : OpR X (binaryOp .FloorDiv) (rD2 (ct X) gFdiv) := opInt op_fdivW
theorem o_mod : OpR X (binaryOp .Mod) (rD2 (ct X) gMod) := opInt op_mod
theorem o_pow : OpR X (binaryOp .Pow) (rD2 (ct X) gPow) := opInt op_pow
theorem o_lt : OpR X (compareOp .Lt) (rD2 (ct X) gLt) := opBl0 op_lt
theorem o_gt : OpR X (compareOp .Gt) (rD2 (ct X) gGt) := opBl0 op_gt
theorem o_ge : OpR X (compareOp .GtE) (rD2 (ct X) gGe) := opBl0 op_ge
end
def gNeg : D → Sto → QD → Prop := fun x S Q => match x with
  | .int i => Q (.int (-i)) S
  | _ => False
def gAdd : G2 := fun x y S Q => match x, y with
  | .int i, .int j => Q (.int (i + j)) S
  | .tup xs, .tup ys => xs.length + ys.length ≤ sizeLine ∧ Q (.tup (xs ++ ys)) S
  | .str a, .str b => a.length + b.length ≤ sizeLine ∧ Q (.str (a ++ b)) S
  | x, y => onSome (lstOf S x) fun xs => onSome (lstOf S y) fun ys => xs.length + ys.length ≤ sizeLine ∧ Q (.lst false (xs ++ ys)) S
def gMul : G2 := fun x y S Q => match x, y with
  | .int i, .int j => (CMul i j ∨ CMulW i j) ∧ Q (.int (i * j)) S
  | .tup xs, .int k => (xs ≠ [] ∧ 1 ≤ k ∧ k ≤ 1000 ∧ xs.length ≤ 1000) ∧ Q (.tup (List.replicate k.toNat xs).flatten) S
  | x, .int k => onSome (lstOf S x) fun xs => (-(2 ^ 63) ≤ k ∧ k < 2 ^ 63 ∧ xs.length * k.toNat ≤ sizeLine) ∧ Q (.lst false (List.replicate k.toNat xs).flatten) S
  | _, _ => False
section
variable {X : Cx}
theorem u_neg : UnR X (unaryOp .USub) (rD1 (ct X) gNeg) := by
  intro pins s σ H x v Q I rx ⟨μ, S, dx, Qd, w, r1, hg, q⟩
  unfold gNeg at hg
  split at hg
  · exact un_neg pins s σ H x v Q I rx ⟨_, r1.int_inv, q.same w (.int _) hg⟩
  · exact hg.elim
theorem o_add : OpR X (binaryOp .Add) (rD2 (ct X) gAdd) := by
  intro pins s σ H x y v u Q I rx ry ⟨μ, S, dx, dy, Qd, w, r1, r2, hg, q⟩
  unfold gAdd at hg
  split at hg
  · exact op_add pins s σ H x y v u Q I rx ry ⟨_, _, r1.int_inv, r2.int_inv, q.same w (.int _) hg⟩
  · rename_i xs ys
    obtain ⟨a, vs, rfl, ha, ra⟩ := r1.tup_inv
    obtain ⟨b, ws, rfl, hb, rb⟩ := r2.tup_inv
    refine op_catA pins s σ H _ _ v u Q I rx ry ⟨a, b, vs, ws, rfl, rfl, SqT.of ha, SqT.of hb, by rw [ra.length, rb.length]; exact hg.1, fun e => ?_, fun _ e => ?_, fun _ _ p hp => ?_⟩
    · subst e
      cases ra
      exact q.same w (.tup hb rb) hg.2
    · subst e
      cases rb
      have h2 := hg.2
      rw [List.append_nil] at h2
      exact q.same w (.tup ha ra) h2
    · exact q.tup w (ra.append rb) hg.2 hp
  · exact op_add_str pins s σ H x y v u Q I rx ry ⟨_, _, r1.str_inv, r2.str_inv, hg.1, q.same w (.str _) hg.2⟩
  · obtain ⟨xs, e1, hg⟩ := onSome_of hg
    obtain ⟨ys, e2, hg⟩ := onSome_of hg
    obtain ⟨a, vs, rfl, ha, ra⟩ := r1.lstT w e1
    obtain ⟨b, ws, rfl, hb, rb⟩ := r2.lstT w e2
    exact op_cat pins s σ H _ _ v u Q I rx ry ⟨a, b, vs, ws, rfl, rfl, ha, hb, by rw [ra.length, rb.length]; exact hg.1, fun p hp => q.lst w (ra.append rb) hg.2 hp⟩
open Rb in
theorem op_rep1 : OpR X (binaryOp .Mult) (fun x y H Q => ∃ (l : Addr) (xs : List V), x = .ref l ∧ y = .int 1 ∧ SqT X.K H l xs ∧ Q (.ref l) H) := by
  intro pins s σ H x y v u Q I rx ry h
  obtain ⟨l, xs, rfl, rfl, hT, q⟩ := h
  cases rx
  obtain ⟨t, rfl⟩ := ry
  obtain ⟨its, r, ⟨⟨cls, dd, data, sl⟩, ho, hc, n, hd⟩, hs⟩ := I.tuple hT
  simp only at hc hd
  subst hc hd
  refine wpAny_binaryOp_repeat_ref (T := "tuple") (U := "int") (by decide) ⟨_, ho, rfl⟩ (fun s' => typeIs_int s' 1 t) noFill_tuple_mul F.fills_int_mul F.slot_int_rmul repeat_tuple F.slot_int_index.lookup
    (call_meets F.slot_int_rmul (typeIs_int s 1 t) F.entry_int_rmul (F.args_int_rmul_2 _ _) (int_rmul_tuple 1 t l its.toArray n dd sl)
      ⟨ho, rfl, ⟨_, ho, rfl⟩, call_meets F.slot_tuple_mul ⟨_, ho, rfl⟩ F.entry_tuple_mul (F.args_tuple_mul_2 _ _) (tupMul1 l its.toArray n dd sl t) ⟨ho, ?_⟩⟩)
  exact ⟨.ref l, H, I, rfl, q⟩
theorem o_mul : OpR X (binaryOp .Mult) (rD2 (ct X) gMul) := by
  intro pins s σ H x y v u Q I rx ry ⟨μ, S, dx, dy, Qd, w, r1, r2, hg, q⟩
  unfold gMul at hg
  split at hg
  · rcases hg.1 with hc | hc
    · exact op_mul pins s σ H x y v u Q I rx ry ⟨_, _, r1.int_inv, r2.int_inv, hc, q.same w (.int _) hg.2⟩
    · exact op_mulW pins s σ H x y v u Q I rx ry ⟨_, _, r1.int_inv, r2.int_inv, hc, q.same w (.int _) hg.2⟩
  · rename_i xs k
    obtain ⟨a, vs, rfl, ha, ra⟩ := r1.tup_inv
    obtain ⟨⟨ne, h1, h2, h3⟩, hq⟩ := hg
    have nv : vs ≠ [] := fun e => by
      subst e
      cases ra
      exact ne rfl
    by_cases hk : k = 1
    · subst hk
      refine op_rep1 pins s σ H _ _ v u Q I rx ry ⟨a, vs, rfl, r2.int_inv, SqT.of ha, ?_⟩
      have e : (List.replicate (1 : Int).toNat xs).flatten = xs := by show (List.replicate 1 xs).flatten = xs; simp
      rw [e] at hq
      exact q.same w (.tup ha ra) hq
    · refine op_repT pins s σ H _ _ v u Q I rx ry ⟨a, k, vs, rfl, r2.int_inv, SqT.of ha, nv, by omega, h2, by rw [ra.length]; exact h3, fun p hp => q.tup w (ra.rep _) hq hp⟩
  · rename_i k _ _
    obtain ⟨xs, e1, hg⟩ := onSome_of hg
    obtain ⟨a, vs, rfl, ha, ra⟩ := r1.lstT w e1
    exact op_rep pins s σ H _ _ v u Q I rx ry ⟨a, k, vs, rfl, r2.int_inv, ha, hg.1.1, hg.1.2.1, by rw [ra.length]; exact hg.1.2.2, fun p hp => q.lst w (ra.rep _) hg.2 hp⟩
  · exact hg.elim
end
end Pu
namespace Pu
open PySem PySem.Spec PyProof.Rows L2
/-! ## plain data -/
mutual
def toPy : D → Option PyData
  | .non => some .none
  | .bl b => some (.bool b)
  | .int i => some (.int i)
  | .str x => some (.str x)
  | .tup xs => (toPyAll xs).map .tuple
  | .lst _ xs => (toPyAll xs).map .list
  | .kls _ => none
  | .dic ps => some (Rb.dicD ps)
  | .cell _ => none
  | .glo _ => none
  | .ty _ => none
  | .ins _ _ => none
  | .exc _ _ => none
  | .fn _ _ => none
def toPyAll : List D → Option (List PyData)
  | [] => some []
  | x :: xs => (toPy x).bind fun p => (toPyAll xs).map (p :: ·)
end
mutual
/-- all lists in it are known to stand apart from the table of modules -/
def known : D → Bool
  | .tup xs => knownAll xs
  | .lst k xs => k && knownAll xs
  | .kls _ => false
  | _ => true
def knownAll : List D → Bool
  | [] => true
  | x :: xs => known x && knownAll xs
end
def pyC (S : Sto) : D → Option PyData
  | .cell n => (lstAt S[n]?).bind fun xs => (toPyAll xs).map .list
  | d => toPy d
section
variable {X : Cx} {pins : List (Addr × Obj)} {σ : L2.St} {H : Hp} {s : Shared} {μ : Mu}
mutual
theorem Rp.reads (I : Inv X pins σ H s) : ∀ (d : D) (v : V) (u : Value) (p : PyData), Rp (ct X) μ H v d → RelV v u → toPy d = some p → ∃ as, Reads s.heap u p as ∧ (known d = true → sysModules ∉ as)
  | .non, _, _, _, h, r, e => by
    cases h; cases r; cases e
    exact ⟨_, Reads.none, fun _ z => nomatch z⟩
  | .bl b, _, _, _, h, r, e => by
    cases h; cases r; cases e
    exact ⟨_, Reads.bool b, fun _ z => nomatch z⟩
  | .int i, _, _, _, h, r, e => by
    cases h; cases e
    obtain ⟨t, rfl⟩ := r
    exact ⟨_, Reads.int i t, fun _ z => nomatch z⟩
  | .str x, _, _, _, h, r, e => by
    cases h; cases e
    obtain ⟨t, rfl⟩ := r
    exact ⟨_, Reads.str x t, fun _ z => nomatch z⟩
  | .tup ds, _, _, _, h, r, e => by
    cases h with
    | tup hs ha =>
      cases r
      obtain ⟨ps, e1, rfl⟩ := Option.map_eq_some_iff.mp (show (toPyAll ds).map PyData.tuple = some _ from e)
      obtain ⟨its, rv, ⟨o, ho, hc, n, hd⟩, _⟩ := I.tuple (SqT.of hs)
      obtain ⟨as, hr, no⟩ := RpAll.reads I ds _ its ps ha rv e1
      exact ⟨_, Reads.tuple ho hc hd hr, fun hk => no hk⟩
  | .lst k ds, _, _, _, h, r, e => by
    cases h with
    | lst hs _ _ ne ha =>
      cases r
      obtain ⟨ps, e1, rfl⟩ := Option.map_eq_some_iff.mp (show (toPyAll ds).map PyData.list = some _ from e)
      obtain ⟨its, rv, ⟨o, n, ho, hc, _, hd⟩, _⟩ := I.list (SqL.of hs)
      obtain ⟨as, hr, no⟩ := RpAll.reads I ds _ its ps ha rv e1
      refine ⟨_, Reads.list ho hc hd hr, fun hk z => ?_⟩
      obtain ⟨h1, h2⟩ := Bool.and_eq_true_iff.mp (show (k && knownAll ds) = true from hk)
      rcases List.mem_cons.mp z with z | z
      · exact ne h1 z.symm
      · exact no h2 z
  | .kls _, _, _, _, _, _, e => by cases e
  | .dic qs, _, _, _, h, r, e => by
    cases h with
    | dic hd _ _ =>
      cases e
      obtain ⟨as, h1, h2⟩ := Rb.Ap.reads (S := [sysModules]) List.mem_cons_self I (Rb.dicD qs) _ _ (.dic hd) r
      exact ⟨as, h1, fun _ => h2⟩
  | .cell _, _, _, _, _, _, e => by cases e
  | .glo _, _, _, _, _, _, e => by cases e
  | .ty _, _, _, _, _, _, e => by cases e
  | .ins _ _, _, _, _, _, _, e => by cases e
  | .exc _ _, _, _, _, _, _, e => by cases e
  | .fn _ _, _, _, _, _, _, e => by cases e
theorem RpAll.reads (I : Inv X pins σ H s) : ∀ (ds : List D) (vs : List V) (us : List Value) (ps : List PyData), RpAll (ct X) μ H vs ds → Vals vs us → toPyAll ds = some ps → ∃ as, ReadsAll s.heap us ps as ∧ (knownAll ds = true → sysModules ∉ as)
  | [], _, _, _, h, r, e => by
    cases h; cases r; cases e
    exact ⟨_, ReadsAll.nil, fun _ z => nomatch z⟩
  | d :: ds, _, _, _, h, r, e => by
    cases h with
    | cons h1 h2 =>
      cases r with
      | cons r1 r2 =>
        obtain ⟨p, e1, e2⟩ := Option.bind_eq_some_iff.mp (show (toPy d).bind (fun p => (toPyAll ds).map (p :: ·)) = some _ from e)
        obtain ⟨ps, e3, rfl⟩ := Option.map_eq_some_iff.mp e2
        obtain ⟨as, q1, n1⟩ := Rp.reads I d _ _ p h1 r1 e1
        obtain ⟨bs, q2, n2⟩ := RpAll.reads I ds _ _ ps h2 r2 e3
        refine ⟨_, ReadsAll.cons q1 q2, fun hk z => ?_⟩
        obtain ⟨k1, k2⟩ := Bool.and_eq_true_iff.mp (show (known d && knownAll ds) = true from hk)
        rcases List.mem_append.mp z with z | z
        · exact n1 k1 z
        · exact n2 k2 z
end
theorem Wd.reads {S : Sto} (w : Wd (ct X) μ S H) (I : Inv X pins σ H s) {d : D} {v : V} {u : Value} {p : PyData} (h : Rp (ct X) μ H v d) (r : RelV v u) (e : pyC S d = some p) : ∃ as, Reads s.heap u p as := by
  by_cases hc : ∃ n, d = .cell n
  · obtain ⟨n, rfl⟩ := hc
    obtain ⟨xs, e1, e2⟩ := Option.bind_eq_some_iff.mp (show (lstAt S[n]?).bind (fun xs => (toPyAll xs).map .list) = some p from e)
    obtain ⟨ps, e3, rfl⟩ := Option.map_eq_some_iff.mp e2
    obtain ⟨a, vs, rfl, ha, ra⟩ := h.lstT w (show lstOf S (.cell n) = some xs from e1)
    cases r
    obtain ⟨its, rv, ⟨o, k, ho, hc, _, hd⟩, _⟩ := I.list (SqL.of ha)
    obtain ⟨as, hr, no⟩ := RpAll.reads I xs _ its ps ra rv e3
    exact ⟨_, Reads.list ho hc hd hr⟩
  · have e' : toPy d = some p := by
      cases d with
      | cell n => exact absurd ⟨n, rfl⟩ hc
      | _ => exact e
    obtain ⟨as, h1, _⟩ := Rp.reads I d v u p h r e'
    exact ⟨as, h1⟩
end
/-! ## repr -/
def gRepr : List D → Sto → QD → Prop := fun ds S Q => match ds with
  | [d] => onSome (toPy d) fun p => (Rb.Nice 20 100000 p ∧ (p.hasDict = false ∨ known d = true)) ∧ Q (.str p.shown) S
  | _ => False
theorem Rp.glo_py {c : Ct} {μ : Mu} {H : Hp} {v : V} {d : D} {p : PyData} (h : Rp c μ H v d) (e : toPy d = some p) : (∃ a, v = .ref a) ∨ (v = .non ∧ p = .none) ∨ (∃ b, v = .bl b ∧ p = .bool b) ∨ (∃ i, v = .int i ∧ p = .int i) ∨ ∃ x, v = .str x ∧ p = .str x := by
  cases h with
  | non => cases e; exact .inr (.inl ⟨rfl, rfl⟩)
  | bl b => cases e; exact .inr (.inr (.inl ⟨b, rfl, rfl⟩))
  | int i => cases e; exact .inr (.inr (.inr (.inl ⟨i, rfl, rfl⟩)))
  | str x => cases e; exact .inr (.inr (.inr (.inr ⟨x, rfl, rfl⟩)))
  | glo _ _ => cases e
  | ty _ => cases e
  | _ => exact .inl ⟨_, rfl⟩
theorem c_repr {X : Cx} (hg : X.A.guards = some []) (hu : X.A.units + 64 < cLine) : CallR X (.builtin "repr") (rDs (ct X) gRepr) := by
  intro pins s σ H vs us Q I r ⟨μ, S, ds, Qd, w, ra, hr, q⟩
  unfold gRepr at hr
  split at hr
  · rename_i d
    obtain ⟨p, e, ⟨hn, hk⟩, hq⟩ := onSome_of hr
    cases ra with
    | cons rd r0 =>
      cases r0
      obtain ⟨u, rfl, ru⟩ := vals1 r
      have fin := q.same w (.str p.shown) hq
      obtain ⟨as, rr, no⟩ := Rp.reads I d _ u p rd ru e
      have hsz := hn.fits
      have hdep := hn.dep
      have hs := hn.sh
      rcases rd.glo_py e with ⟨a, rfl⟩ | ⟨rfl, rfl⟩ | ⟨b, rfl, rfl⟩ | ⟨i, rfl, rfl⟩ | ⟨x, rfl, rfl⟩
      · cases ru
        refine repr_of_reads' rr hs (fun z => ?_) hg (by omega) (fun _ _ e => e) (fun h' t tk hk => ?_) hsz
        · rcases hk with hk | hk
          · rw [hk] at z; cases z
          · exact no hk
        · exact ⟨.str _, H, I.kept hk, ⟨_, rfl⟩, fin⟩
      · cases ru
        simp only [PyData.shown] at fin
        exact PySem.P.repr_of_none ⟨.str _, H, I.tok _, ⟨_, rfl⟩, fin⟩
      · cases ru
        simp only [PyData.shown] at fin
        exact PySem.P.repr_of_bool ⟨.str _, H, I.tok _, ⟨_, rfl⟩, fin⟩
      · obtain ⟨t, rfl⟩ := ru
        simp only [PyData.showable, decide_eq_true_eq] at hs
        simp only [PyData.shown] at fin
        exact PySem.P.repr_of_int hs ⟨.str _, H, I.tok _, ⟨_, rfl⟩, fin⟩
      · obtain ⟨t, rfl⟩ := ru
        simp only [PyData.shown] at fin hsz
        exact PySem.P.repr_of_str ⟨.str _, H, I.tok _, ⟨_, rfl⟩, fin⟩ hsz
  · exact hr.elim
/-! ## == and != -/
def nb : Bool → Bool → Bool
  | true, b => !b
  | false, b => b
def gEqB (neg : Bool) : G2 := fun x y S Q => match x, y with
  | .int i, .int j => Q (.bl (nb neg (decide (i = j)))) S
  | .str a, .str b => Q (.bl (nb neg (decide (a = b)))) S
  | x, y => onSome (pyC S x) fun p => onSome (pyC S y) fun q => (SeqAt.shaped p = true ∧ SeqAt.shaped q = true) ∧ Q (.bl (nb neg (PyData.eqv p q))) S
abbrev gEq : G2 := gEqB false
abbrev gNe : G2 := gEqB true
section
variable {X : Cx}
theorem dec_i {i j : Int} : decide (V.int i = V.int j) = decide (i = j) := by
  by_cases h : i = j
  · subst h; simp
  · rw [decide_eq_false h, decide_eq_false (fun z => h (V.int.inj z))]
theorem dec_s {i j : Str} : decide (V.str i = V.str j) = decide (i = j) := by
  by_cases h : i = j
  · subst h; simp
  · rw [decide_eq_false h, decide_eq_false (fun z => h (V.str.inj z))]
theorem o_eq (hu : X.A.units + 64 < cLine) : OpR X (compareOp .Eq) (rD2 (ct X) gEq) := by
  intro pins s σ H x y v u Q I rx ry ⟨μ, S, dx, dy, Qd, w, r1, r2, hg, q⟩
  unfold gEq gEqB at hg
  split at hg
  · cases r1.int_inv
    cases r2.int_inv
    refine op_eq pins s σ H _ _ v u Q I rx ry ⟨rfl, ?_⟩
    rw [dec_i]
    exact q.same w (.bl _) hg
  · cases r1.str_inv
    cases r2.str_inv
    refine op_eq pins s σ H _ _ v u Q I rx ry ⟨rfl, ?_⟩
    rw [dec_s]
    exact q.same w (.bl _) hg
  · obtain ⟨p, e1, hg⟩ := onSome_of hg
    obtain ⟨p', e2, ⟨s1, s2⟩, hg⟩ := onSome_of hg
    obtain ⟨as, h1⟩ := w.reads I r1 rx e1
    obtain ⟨bs, h2⟩ := w.reads I r2 ry e2
    exact SeqAt.compareEq_shaped h1 h2 s1 s2 hu ⟨.bl _, H, I, rfl, q.same w (.bl _) hg⟩
theorem o_ne (hu : X.A.units + 64 < cLine) : OpR X (compareOp .NotEq) (rD2 (ct X) gNe) := by
  intro pins s σ H x y v u Q I rx ry ⟨μ, S, dx, dy, Qd, w, r1, r2, hg, q⟩
  unfold gNe gEqB at hg
  split at hg
  · cases r1.int_inv
    cases r2.int_inv
    refine op_ne pins s σ H _ _ v u Q I rx ry ⟨rfl, ?_⟩
    rw [dec_i]
    exact q.same w (.bl _) hg
  · cases r1.str_inv
    cases r2.str_inv
    refine op_ne pins s σ H _ _ v u Q I rx ry ⟨rfl, ?_⟩
    rw [dec_s]
    exact q.same w (.bl _) hg
  · obtain ⟨p, e1, hg⟩ := onSome_of hg
    obtain ⟨p', e2, ⟨s1, s2⟩, hg⟩ := onSome_of hg
    obtain ⟨as, h1⟩ := w.reads I r1 rx e1
    obtain ⟨bs, h2⟩ := w.reads I r2 ry e2
    exact SeqAt.compareNe_shaped h1 h2 s1 s2 hu ⟨.bl _, H, I, rfl, q.same w (.bl _) hg⟩
end
/-! ## is None -/
def isNon : D → Bool
  | .non => true
  | _ => false
theorem Rp.non_iff {c : Ct} {μ : Mu} {H : Hp} {v : V} {d : D} (h : Rp c μ H v d) (hg : ∀ x, d ≠ .glo x) : decide (v = .non) = isNon d := by
  cases h with
  | non => rfl
  | glo _ _ => exact absurd rfl (hg _)
  | _ => rfl
def noGlo : D → Bool
  | .glo _ => false
  | _ => true
def gIs (neg : Bool) : G2 := fun x y S Q => match y with
  | .non => noGlo x = true ∧ Q (.bl (nb neg (isNon x))) S
  | _ => False
section
variable {X : Cx}
theorem o_isnot : OpR X (compareOp .IsNot) (rD2 (ct X) (gIs true)) := by
  intro pins s σ H x y v u Q I rx ry ⟨μ, S, dx, dy, Qd, w, r1, r2, hg, q⟩
  unfold gIs at hg
  split at hg
  · cases r2
    refine op_notN pins s σ H _ _ v u Q I rx ry ⟨rfl, ?_⟩
    rw [r1.non_iff (fun z e => by rw [e] at hg; cases hg.1)]
    exact q.same w (.bl _) hg.2
  · exact hg.elim
end
/-! ## isinstance of a built-in type -/
inductive Ty6 where
  | int | bool | tup | lst | str | dic
def Ty6.name : Ty6 → String
  | .int => "int"
  | .bool => "bool"
  | .tup => "tuple"
  | .lst => "list"
  | .str => "str"
  | .dic => "dict"
end Pu
namespace Pu
open PySem PySem.Spec PyProof.Rows L2
section
variable {c : Ct} {μ : Mu} {S : Sto} {H : Hp}
theorem RpAll.one {vs : List V} {d : D} (h : RpAll c μ H vs [d]) : ∃ v, vs = [v] ∧ Rp c μ H v d := by
  cases h with
  | cons h1 h2 => cases h2; exact ⟨_, rfl, h1⟩
theorem RpAll.two {vs : List V} {d e : D} (h : RpAll c μ H vs [d, e]) : ∃ v u, vs = [v, u] ∧ Rp c μ H v d ∧ Rp c μ H u e := by
  cases h with
  | cons h1 h2 =>
    obtain ⟨u, rfl, h3⟩ := h2.one
    exact ⟨_, _, rfl, h1, h3⟩
theorem Rp.seq2 {v : V} {d : D} {xs : List D} (w : Wd c μ S H) (r : Rp c μ H v d) (e : seqOf S d = some xs) : (∃ a vs, d = .tup xs ∧ v = .ref a ∧ H a = some (.tup vs) ∧ RpAll c μ H vs xs) ∨ ∃ a vs, v = .ref a ∧ SqL c.K H a vs ∧ RpAll c μ H vs xs := by
  cases r with
  | tup h ra => cases e; exact .inl ⟨_, _, rfl, rfl, h, ra⟩
  | lst h _ _ _ ra => cases e; exact .inr ⟨_, _, rfl, SqL.of h, ra⟩
  | kls h _ _ ra => cases e; exact .inr ⟨_, _, rfl, .inl h, ra⟩
  | klsK o its n h1 h2 h3 h4 h5 h6 ra => cases e; exact .inr ⟨_, _, rfl, .inr ⟨o, its, n, h1, h2, h3, h4, h5, h6⟩, ra⟩
  | @cell n a hm =>
    obtain ⟨vs, h1, h2⟩ := w.ok n _ _ hm (lstAt_inv e)
    exact .inr ⟨_, vs, rfl, SqL.of h1, h2⟩
  | _ => cases e
end
/-! ## len, abs, int, sum, min, max, tuple, list, str, sorted -/
def gLen : List D → Sto → QD → Prop := fun ds S Q => match ds with
  | [.str x] => x.length ≤ sizeLine ∧ Q (.int x.length) S
  | [.dic ps] => Q (.int ps.length) S
  | [d] => onSome (seqOf S d) fun xs => Q (.int xs.length) S
  | _ => False
def gAbs : List D → Sto → QD → Prop := fun ds S Q => match ds with
  | [.int i] => Q (.int (if i < 0 then -i else i)) S
  | _ => False
def gToInt : List D → Sto → QD → Prop := fun ds S Q => match ds with
  | [.int i] => Q (.int i) S
  | [.bl b] => Q (.int (if b then 1 else 0)) S
  | _ => False
/-- the first greatest, the first least -/
def maxL : List Int → Int
  | [] => 0
  | [x] => x
  | x :: xs => max x (maxL xs)
def minL : List Int → Int
  | [] => 0
  | [x] => x
  | x :: xs => min x (minL xs)
theorem maxL_spec : ∀ {ns : List Int}, ns ≠ [] → maxL ns ∈ ns ∧ ∀ y ∈ ns, y ≤ maxL ns
  | [], h => absurd rfl h
  | [x], _ => ⟨List.mem_cons_self, fun y hy => by rw [List.mem_singleton.mp hy]; exact Int.le_refl _⟩
  | x :: y :: r, _ => by
    obtain ⟨h1, h2⟩ := maxL_spec (ns := y :: r) (fun z => nomatch z)
    have e : maxL (x :: y :: r) = max x (maxL (y :: r)) := rfl
    rw [e]
    refine ⟨?_, fun z hz => ?_⟩
    · rcases Int.le_total x (maxL (y :: r)) with h | h
      · rw [Int.max_eq_right h]; exact List.mem_cons_of_mem _ h1
      · rw [Int.max_eq_left h]; exact List.mem_cons_self
    · rcases List.mem_cons.mp hz with rfl | hz
      · exact Int.le_max_left _ _
      · exact Int.le_trans (h2 z hz) (Int.le_max_right _ _)
theorem minL_spec : ∀ {ns : List Int}, ns ≠ [] → minL ns ∈ ns ∧ ∀ y ∈ ns, minL ns ≤ y
  | [], h => absurd rfl h
  | [x], _ => ⟨List.mem_cons_self, fun y hy => by rw [List.mem_singleton.mp hy]; exact Int.le_refl _⟩
  | x :: y :: r, _ => by
    obtain ⟨h1, h2⟩ := minL_spec (ns := y :: r) (fun z => nomatch z)
    have e : minL (x :: y :: r) = min x (minL (y :: r)) := rfl
    rw [e]
    refine ⟨?_, fun z hz => ?_⟩
    · rcases Int.le_total x (minL (y :: r)) with h | h
      · rw [Int.min_eq_left h]; exact List.mem_cons_self
      · rw [Int.min_eq_right h]; exact List.mem_cons_of_mem _ h1
    · rcases List.mem_cons.mp hz with rfl | hz
      · exact Int.min_le_left _ _
      · exact Int.le_trans (Int.min_le_right _ _) (h2 z hz)
theorem minL_uniq {ns : List Int} {m : Int} (h : m ∈ ns) (h2 : ∀ y ∈ ns, m ≤ y) : m = minL ns := by
  obtain ⟨a, b⟩ := minL_spec (ns := ns) (fun e => by rw [e] at h; cases h)
  have := h2 _ a
  have := b _ h
  omega
section
variable {X : Cx}
theorem c_len : CallR X (.builtin "len") (rDs (ct X) gLen) := by
  intro pins s σ H vs us Q I r ⟨μ, S, ds, Qd, w, ra, hg, q⟩
  unfold gLen at hg
  split at hg
  · obtain ⟨v, rfl, rv⟩ := ra.one
    cases rv.str_inv
    exact call_len pins s σ H _ us Q I r ⟨_, _, rfl, ⟨hg.1, rfl⟩, q.same w (.int _) hg.2⟩
  · obtain ⟨v, rfl, rv⟩ := ra.one
    cases rv with
    | dic hd _ _ =>
      refine call_lenD pins s σ H _ us Q I r ⟨_, _, rfl, hd, ?_⟩
      rw [show (Rb.dicV _).length = _ from List.length_map ..]
      exact q.same w (.int _) hg
  · obtain ⟨v, rfl, rv⟩ := ra.one
    obtain ⟨xs, e, hg⟩ := onSome_of hg
    obtain ⟨a, ws, rfl, hs, rs⟩ := rv.seq w e
    refine call_len_seq pins s σ H _ us Q I r ⟨a, ws, rfl, hs, ?_⟩
    rw [rs.length]
    exact q.same w (.int _) hg
  · exact hg.elim
theorem c_abs : CallR X (.builtin "abs") (rDs (ct X) gAbs) := by
  intro pins s σ H vs us Q I r ⟨μ, S, ds, Qd, w, ra, hg, q⟩
  unfold gAbs at hg
  split at hg
  · obtain ⟨v, rfl, rv⟩ := ra.one
    cases rv.int_inv
    exact call_abs pins s σ H _ us Q I r ⟨_, rfl, q.same w (.int _) hg⟩
  · exact hg.elim
theorem c_int : CallR X (.type "int") (rDs (ct X) gToInt) := by
  intro pins s σ H vs us Q I r ⟨μ, S, ds, Qd, w, ra, hg, q⟩
  unfold gToInt at hg
  split at hg
  · obtain ⟨v, rfl, rv⟩ := ra.one
    cases rv.int_inv
    exact call_int1 pins s σ H _ us Q I r (.inl ⟨_, rfl, q.same w (.int _) hg⟩)
  · obtain ⟨v, rfl, rv⟩ := ra.one
    cases rv.bl_inv
    exact call_int1 pins s σ H _ us Q I r (.inr ⟨_, rfl, q.same w (.int _) hg⟩)
  · exact hg.elim
def gMinL : List D → Sto → QD → Prop := fun ds S Q => match ds with
  | [.int i, .int j] => Q (.int (if j < i then j else i)) S
  | [d] => onSome (lstOf S d) fun xs => onSome (intsOf xs) fun ns => ns ≠ [] ∧ Q (.int (minL ns)) S
  | _ => False
theorem c_minL (hc : X.calm = true) : CallR X (.builtin "min") (rDs (ct X) gMinL) := by
  intro pins s σ H vs us Q I r ⟨μ, S, ds, Qd, w, ra, hg, q⟩
  unfold gMinL at hg
  split at hg
  · obtain ⟨v, u, rfl, rv, ru⟩ := ra.two
    cases rv.int_inv
    cases ru.int_inv
    exact call_min2 hc pins s σ H _ us Q I r ⟨_, _, rfl, q.same w (.int _) hg⟩
  · obtain ⟨v, rfl, rv⟩ := ra.one
    obtain ⟨xs, e, hg⟩ := onSome_of hg
    obtain ⟨ns, e2, ne, hg⟩ := onSome_of hg
    obtain ⟨a, ws, rfl, hs, rs⟩ := rv.lstT w e
    rw [intsOf_inv e2] at rs
    rw [rs.ints] at hs
    exact cr_min hc pins s σ H _ us Q I r ⟨a, ns, rfl, SqL.of hs, List.length_pos_iff.mpr ne, fun m h1 h2 => by
      rw [minL_uniq h1 h2]
      exact q.same w (.int _) hg⟩
  · exact hg.elim
theorem PostV.lay {c : Ct} {μ : Mu} {S : Sto} {H : Hp} {Qd : QD} {Q : VK} (q : PostV c μ H Qd Q) (w : Wd c μ S H) {vs : List V} {ds : List D} (r : RpAll c μ H vs ds) (h : Qd (.cell S.length) (S ++ [.lst ds])) {p : Addr} (hp : H p = none) : Q (.ref p) (upd H p (.lst vs)) := by
  obtain ⟨f2, w2, r2⟩ := w.lay r hp
  exact q _ _ _ _ _ h f2 w2 r2
end
/-! ## sorted: ints, pairs of ints -/
end Pu
namespace Pu
open PySem PySem.Spec PyProof.Rows L2
/-! ## subscripts, slices, in -/
theorem atI_map {α β : Type} {R : α → β → Prop} {xs : List α} {ys : List β} (hl : xs.length = ys.length) (h : ∀ (i : Nat) y, ys[i]? = some y → ∃ x, xs[i]? = some x ∧ R x y) {i : Int} {y : β} (e : atI ys i = some y) : ∃ x, atI xs i = some x ∧ R x y := by
  unfold atI at e ⊢
  rw [hl]
  obtain ⟨j, e1, e2⟩ := Option.bind_eq_some_iff.mp e
  obtain ⟨x, e3, r⟩ := h j y e2
  exact ⟨x, by rw [e1]; exact e3, r⟩
def gIx : G2 := fun x y S Q => match x, y with
  | .str z, .int i => z.length ≤ sizeLine ∧ onSome (atI z.cps.toList i) fun c => Q (.str ⟨#[c]⟩) S
  | x, .int i => onSome (seqOf S x) fun xs => onSome (atI xs i) fun d => Q d S
  | _, _ => False
/-- the items of xs[lo:hi] -/
def cutD (xs : List D) (lo hi : Option Int) : List D := (xs.drop (HT.sIx xs.length 0 lo)).take (HT.sIx xs.length xs.length hi - HT.sIx xs.length 0 lo)
def gSl : D → Option Int → Option Int → Sto → QD → Prop := fun x lo hi S Q => match x with
  | .tup xs => Q (.tup (cutD xs lo hi)) S
  | .str z => z.length ≤ sizeLine ∧ Q (.str (cutS z lo hi)) S
  | x => onSome (seqOf S x) fun xs => Q (.lst false (cutD xs lo hi)) S
def rDsl (c : Ct) (g : D → Option Int → Option Int → Sto → QD → Prop) : V → Option Int → Option Int → Hp → VK → Prop := fun x lo hi H Q => ∃ μ S d Qd, Wd c μ S H ∧ Rp c μ H x d ∧ g d lo hi S Qd ∧ PostV c μ H Qd Q
def dSl (fe : FE) (fl fh : FO) : FE := fun ρ S Q Ed => fe ρ S (fun x S1 => fl ρ S1 (fun l S2 => fh ρ S2 (fun h S3 => gSl x l h S3 Q) Ed) Ed) Ed
def dPart (f : FE) : FO := fun ρ S Q Ed => f ρ S (fun d S1 => match d with | .int i => Q (some i) S1 | _ => False) Ed
def dNoP : FO := fun _ S Q _ => Q none S
section
variable {c : Ct} {μ : Mu} {S : Sto} {H : Hp}
theorem cutV_eq {vs : List V} {ds : List D} (r : RpAll c μ H vs ds) (lo hi : Option Int) : RpAll c μ H (cutV vs lo hi) (cutD ds lo hi) := by
  unfold cutV cutD
  rw [r.length]
  exact (r.drop _).take _
end
section
variable {X : Cx} {E : L2.St → XK} {a b e : Expr} {fa fb fe : FE} {lo hi : Option Expr} {fl fh : FO} {pos p2 : Pos}
theorem ix_D : IxR X (rD2 (ct X) gIx) := by
  intro value slice pins s σ H x y v u Q I rx ry ⟨μ, S, dx, dy, Qd, w, r1, r2, hg, q⟩ hs
  unfold gIx at hg
  split at hg
  · obtain ⟨hz, hg⟩ := hg
    obtain ⟨c, e, hg⟩ := onSome_of hg
    cases r1.str_inv
    cases r2.int_inv
    exact ix_str value slice pins s σ H _ _ v u Q I rx ry ⟨_, _, c, rfl, rfl, hz, e, q.same w (.str _) hg⟩ hs
  · obtain ⟨xs, e1, hg⟩ := onSome_of hg
    obtain ⟨d, e2, hg⟩ := onSome_of hg
    obtain ⟨a, ws, rfl, hq, rs⟩ := r1.seq w e1
    cases r2.int_inv
    obtain ⟨z, e3, rz⟩ := atI_map rs.length (fun i y h => rs.at h) e2
    have fin := q.same w rz hg
    rcases hq with hq | hq
    · exact ix_list value slice pins s σ H _ _ v u Q I rx ry ⟨a, ws, _, z, rfl, rfl, hq, e3, fin⟩ hs
    · exact ix_tup value slice pins s σ H _ _ v u Q I rx ry ⟨a, ws, _, z, rfl, rfl, hq, e3, fin⟩ hs
  · exact hg.elim
theorem d_ix (ha : PEd X E a fa) (hb : PEd X E b fb) (hs : PlainIx b) : PEd X E (.Subscript a b pos) (dBin gIx fa fb) := PE.imp (pe_ix ix_D ha hb hs) fun _ _ _ h => tBin h
theorem sl_D : SlR X (rDsl (ct X) gSl) := by
  intro pins s σ H x v vl vu lo hi sl Q I rx hs pl pu ⟨μ, S, d, Qd, w, r1, hg, q⟩
  unfold gSl at hg
  split at hg
  · obtain ⟨a, ws, rfl, ha, rs⟩ := r1.tup_inv
    refine sl_tupA pins s σ H _ v vl vu lo hi sl Q I rx hs pl pu ⟨a, ws, rfl, SqT.of ha, fun hw => ?_, fun hw p hp => q.tup w (cutV_eq rs lo hi) hg hp⟩
    refine q.same w (.tup ha ?_) hg
    have : cutV ws lo hi = ws := by
      unfold cutV
      rw [hw.1, hw.2, List.drop_zero, Nat.sub_zero, List.take_length]
    rw [← this]
    exact cutV_eq rs lo hi
  · cases r1.str_inv
    exact sl_str pins s σ H _ v vl vu lo hi sl Q I rx hs pl pu ⟨_, rfl, hg.1, q.same w (.str _) hg.2⟩
  · rename_i hnt0 hnt1
    obtain ⟨xs, e1, hg⟩ := onSome_of hg
    rcases r1.seq2 w e1 with ⟨a, ws, rfl, rfl, ha, rs⟩ | ⟨a, ws, rfl, hq, rs⟩
    · exact absurd rfl (hnt0 _)
    · exact sl_list pins s σ H _ v vl vu lo hi sl Q I rx hs pl pu ⟨a, ws, rfl, hq, fun p hp => q.lst w (cutV_eq rs lo hi) hg hp⟩
theorem d_slice (he : PEd X E e fe) (hl : POd X E lo fl) (hh : POd X E hi fh) : PEd X E (.Subscript e (.Slice lo hi none p2) pos) (dSl fe fl fh) := by
  refine PE.imp (pe_slice sl_D he hl hh) fun σ H Q ⟨μ, S, ρ, Qd, Ed, w, en, hf, q, px⟩ => ?_
  refine tR_of w en hf px fun x S1 v H1 μ1 h1 f1 w1 en1 px1 r1 => ?_
  refine tR_of w1 en1 h1 px1 fun l S2 l' H2 μ2 h2 f2 w2 en2 px2 r2 => ?_
  cases (r2 : l' = l)
  refine tR_of w2 en2 h2 px2 fun h S3 h' H3 μ3 h3 f3 w3 en3 px3 r3 => ?_
  cases (r3 : h' = h)
  exact ⟨μ3, S3, x, Qd, w3, (r1.fw w1 f2).fw w2 f3, h3, fun d S' v' H' μ' h f w' r => q d S' v' H' μ' h (f1.trans (f2.trans (f3.trans f))) w' r⟩
theorem d_noP : POd X E none dNoP := PO.imp po_none fun σ H Q ⟨μ, S, ρ, Qd, Ed, w, en, hf, q, px⟩ => q none S none H μ hf Fw.refl w rfl
theorem d_part (he : PEd X E e fe) : POd X E (some e) (dPart fe) := by
  refine PO.imp (po_some he) fun σ H Q ⟨μ, S, ρ, Qd, Ed, w, en, hf, q, px⟩ => ?_
  refine tR_of w en hf px fun x S1 v H1 μ1 h1 f1 w1 en1 px1 r1 => ?_
  split at h1
  · exact ⟨_, r1.int_inv, q _ S1 _ H1 μ1 h1 f1 w1 rfl⟩
  · exact h1.elim
end
/-! ## methods of lists -/
abbrev GM := D → List D → Sto → QD → Prop
def dML (g : GM) (fo : FE) (fa : FA) : FE := fun ρ S Q Ed => fo ρ S (fun x S1 => onSome (cellOf S1 x) fun _ => fa ρ S1 (fun ds S2 => g x ds S2 Q) Ed) Ed
def gAppend : GM := fun x ds S Q => match ds with
  | [d] => onSome (cellOf S x) fun nx => nx.2.length < sizeLine ∧ Q .non (S.set nx.1 (.lst (nx.2 ++ [d])))
  | _ => False
section
variable {X : Cx} {E : L2.St → XK} {o e : Expr} {es : List Expr} {fo : FE} {fa : FA} {name : Str} {id : String} {apos cpos : Pos}
theorem d_ml {g : GM} (slot : Slot "list" name id) (hty : typeOf (.builtin id) = pure (.type "method_descriptor")) (hm : MtR X id (rDm (ct X) g)) (ho : PEd X E o fo) (ha : PAd X E (e :: es) fa)
    (hbase : attributeBase o name X.env (eval o X.env) = eval o X.env := by rfl)
    (hfew : ((backTo cpos (starEach (e :: es) X.env)).all (fun x => !x.1) && (backToKw cpos (keywordEach [] X.env)).all (fun x => x.1.isSome)
      && decide ((e :: es).length + ([] : List Keyword).length + (if ([] : List Keyword).isEmpty then 0 else 1) < 30)) = true := by rfl)
    (hline : (apos.endLine == cpos.line) = true := by rfl) (hs : starEach (e :: es) X.env = (false, eval e X.env) :: starEach es X.env := by rfl) (hplain : (backTo cpos (starEach es X.env)).any (·.1) = false := by rfl) :
    PEd X E (.Call (.Attribute o name apos) (e :: es) [] cpos) (dML g fo fa) := by
  refine PE.imp (pe_bm PySem.F.plainAttrs_list slot hty hm ho ha hbase hfew hline hs hplain) fun σ H Q ⟨μ, S, ρ, Qd, Ed, w, en, hf, q, px⟩ => ?_
  refine tR_of w en hf px fun x S1 v H1 μ1 h1 f1 w1 en1 px1 r1 => ?_
  obtain ⟨nx, e1, h1⟩ := onSome_of h1
  obtain ⟨a, vs, rfl, hm', ha', ra⟩ := w1.cellL r1 e1
  refine ⟨.inl ⟨rfl, vs, SqL.of ha'⟩, ?_⟩
  refine tR_of w1 en1 h1 px1 fun ds S2 us H2 μ2 h2 f2 w2 en2 px2 r2 => ?_
  exact ⟨μ2, S2, x, ds, Qd, w2, r1.fw w1 f2, r2, h2, fun d S' v' H' μ' h f w' r => q d S' v' H' μ' h (f1.trans (f2.trans f)) w' r⟩
theorem m_append : MtR X "list.append" (rDm (ct X) gAppend) := by
  intro pins s σ H x xs v us Q I rx rs ⟨μ, S, d, ds, Qd, w, r1, ra, hg, q⟩
  unfold gAppend at hg
  split at hg
  · obtain ⟨y, rfl, ry⟩ := ra.one
    obtain ⟨⟨n, zs⟩, e, hz, hg⟩ := onSome_of hg
    obtain ⟨a, vs, rfl, hm, ha, rz⟩ := w.cellL r1 e
    exact mt_append pins s σ H _ _ v us Q I rx rs ⟨a, vs, y, rfl, rfl, ha, by rw [rz.length]; exact hz, q.cell w hm (rz.append (.cons ry .nil)) .non hg⟩
  · exact hg.elim
end
end Pu
namespace Pu
open PySem PySem.Spec PyProof.Rows L2
/-! ## statements -/
structure EndsOk (c : Ct) (μ : Mu) (H : Hp) (De : DEnds) (D : Ends) : Prop where
  nx : ∀ ρ' S' σ' H' μ', De.nx ρ' S' → Fw μ H μ' H' → Wd c μ' S' H' → EnvR c μ' H' σ' ρ' → D.nx σ' H'
  rt : PostV c μ H De.rt D.rt
  bk : ∀ ρ' S' σ' H' μ', De.bk ρ' S' → Fw μ H μ' H' → Wd c μ' S' H' → EnvR c μ' H' σ' ρ' → D.bk σ' H'
  ct : ∀ ρ' S' σ' H' μ', De.ct ρ' S' → Fw μ H μ' H' → Wd c μ' S' H' → EnvR c μ' H' σ' ρ' → D.ct σ' H'
theorem PostV.fw {c : Ct} {μ μ' : Mu} {H H' : Hp} {Qd : QD} {Q : VK} (q : PostV c μ H Qd Q) (f : Fw μ H μ' H') : PostV c μ' H' Qd Q := fun d S' v H2 μ2 h g w r => q d S' v H2 μ2 h (f.trans g) w r
theorem EndsOk.fw {c : Ct} {μ μ' : Mu} {H H' : Hp} {De : DEnds} {D : Ends} (k : EndsOk c μ H De D) (f : Fw μ H μ' H') : EndsOk c μ' H' De D :=
  ⟨fun ρ S σ H2 μ2 h g w e => k.nx ρ S σ H2 μ2 h (f.trans g) w e, k.rt.fw f, fun ρ S σ H2 μ2 h g w e => k.bk ρ S σ H2 μ2 h (f.trans g) w e, fun ρ S σ H2 μ2 h g w e => k.ct ρ S σ H2 μ2 h (f.trans g) w e⟩
def tS (c : Ct) (E : XK) (f : FS) : TS := fun D σ H => ∃ μ S ρ De Ed, Wd c μ S H ∧ EnvR c μ H σ ρ ∧ f ρ S De Ed ∧ EndsOk c μ H De D ∧ PX c μ H Ed E
abbrev PSd (X : Cx) (E : XK) (st : Stmt) (f : FS) : Prop := PS X st (tS (ct X) E f)
abbrev PBd (X : Cx) (E : XK) (sts : List Stmt) (f : FS) : Prop := PSs X sts (tS (ct X) E f)
def dSkip : FS := fun ρ S De _ => De.nx ρ S
def dSeq (f g : FS) : FS := fun ρ S De Ed => f ρ S { De with nx := fun ρ' S' => g ρ' S' De Ed } Ed
/-- a word between the two -/
def dCut (f g : FS) : FS := fun ρ S De Ed => ∃ Mid : Rho → Sto → Prop, f ρ S { De with nx := Mid } Ed ∧ ∀ ρ' S', Mid ρ' S' → g ρ' S' De Ed
def dDrop (f : FE) : FS := fun ρ S De Ed => f ρ S (fun _ S1 => De.nx ρ S1) Ed
def dRet (f : FE) : FS := fun ρ S De Ed => f ρ S De.rt Ed
def dIfS (t : FT) (f g : FS) : FS := fun ρ S De Ed => t ρ S (fun b S1 => if b = true then f ρ S1 De Ed else g ρ S1 De Ed) Ed
def dAsg (f : FE) (g : FG) : FS := fun ρ S De Ed => f ρ S (fun d S1 => g d ρ S1 De.nx Ed) Ed
section
variable {X : Cx} {E : XK} {st : Stmt} {rest : List Stmt} {f g : FS} {e : Expr} {fe : FE} {pos : Pos}
theorem d_end : PBd X E [] dSkip := PSs.imp pss_nil fun D σ H ⟨μ, S, ρ, De, Ed, w, en, hf, k, px⟩ => k.nx ρ S σ H μ hf Fw.refl w en
theorem d_seq (h1 : PSd X E st f) (h2 : PBd X E rest g) : PBd X E (st :: rest) (dSeq f g) := by
  refine PSs.imp (pss_cons h1 h2) fun D σ H ⟨μ, S, ρ, De, Ed, w, en, hf, k, px⟩ => ?_
  exact ⟨μ, S, ρ, _, Ed, w, en, hf, ⟨fun ρ' S' σ' H' μ' h fw w' en' => ⟨μ', S', ρ', De, Ed, w', en', h, k.fw fw, px.fw fw⟩, k.rt, k.bk, k.ct⟩, px⟩
theorem d_cut (h1 : PSd X E st f) (h2 : PBd X E rest g) : PBd X E (st :: rest) (dCut f g) := by
  refine PSs.imp (pss_cons h1 h2) fun D σ H ⟨μ, S, ρ, De, Ed, w, en, ⟨Mid, hf, hm⟩, k, px⟩ => ?_
  exact ⟨μ, S, ρ, _, Ed, w, en, hf, ⟨fun ρ' S' σ' H' μ' h fw w' en' => ⟨μ', S', ρ', De, Ed, w', en', hm ρ' S' h, k.fw fw, px.fw fw⟩, k.rt, k.bk, k.ct⟩, px⟩
theorem d_last (h1 : PSd X E st f) : PBd X E [st] f := pss_one h1
theorem d_expr (he : PEd X (cE E) e fe) (hs : swapsWith e none pos.line X.env = pure false := by rfl) : PSd X E (.Expr e pos) (dDrop fe) := by
  refine PS.imp (ps_expr he hs) fun D σ H ⟨μ, S, ρ, De, Ed, w, en, hf, k, px⟩ => ?_
  exact tR_of w en hf px fun x S1 v H1 μ1 h1 f1 w1 en1 px1 r1 => k.nx ρ S1 σ H1 μ1 h1 f1 w1 en1
theorem d_ret (he : PEd X (cE E) e fe) : PSd X E (.Return (some e) pos) (dRet fe) := by
  refine PS.imp (ps_ret he) fun D σ H ⟨μ, S, ρ, De, Ed, w, en, hf, k, px⟩ => ?_
  exact tR_of w en hf px fun x S1 v H1 μ1 h1 f1 w1 en1 px1 r1 => k.rt x S1 v H1 μ1 h1 f1 w1 r1
theorem d_if {c : Expr} {a b : List Stmt} {t : FT} (hc : PTd X (cE E) c t) (ha : PBd X E a f) (hb : PBd X E b g) : PSd X E (.If c a b pos) (dIfS t f g) := by
  refine PS.imp (ps_if hc ha hb) fun D σ H ⟨μ, S, ρ, De, Ed, w, en, hf, k, px⟩ => ?_
  refine tR_of w en hf px fun x S1 v H1 μ1 h1 f1 w1 en1 px1 r1 => ?_
  cases (r1 : v = x)
  split
  · rename_i hv
    rw [if_pos hv] at h1
    exact ⟨μ1, S1, ρ, De, Ed, w1, en1, h1, k.fw f1, px1⟩
  · rename_i hv
    rw [if_neg hv] at h1
    exact ⟨μ1, S1, ρ, De, Ed, w1, en1, h1, k.fw f1, px1⟩
end
/-! ## targets -/
def tG (c : Ct) (E : XK) (g : FG) : TG := fun v σ H Q => ∃ μ S ρ d Qd Ed, Wd c μ S H ∧ EnvR c μ H σ ρ ∧ Rp c μ H v d ∧ g d ρ S Qd Ed ∧ (∀ ρ' S' σ' H' μ', Qd ρ' S' → Fw μ H μ' H' → Wd c μ' S' H' → EnvR c μ' H' σ' ρ' → Q σ' H') ∧ PX c μ H Ed E
def tGs (c : Ct) (E : XK) (g : FGs) : TGs := fun vs σ H Q => ∃ μ S ρ ds Qd Ed, Wd c μ S H ∧ EnvR c μ H σ ρ ∧ RpAll c μ H vs ds ∧ g ds ρ S Qd Ed ∧ (∀ ρ' S' σ' H' μ', Qd ρ' S' → Fw μ H μ' H' → Wd c μ' S' H' → EnvR c μ' H' σ' ρ' → Q σ' H') ∧ PX c μ H Ed E
abbrev PGd (X : Cx) (E : XK) (tg : Expr) (g : FG) : Prop := PG X tg (tG (ct X) E g)
abbrev PGsd (X : Cx) (E : XK) (tgs : List Expr) (g : FGs) : Prop := PGs X tgs (tGs (ct X) E g)
/-- the slot i is filled, the list of slots written out -/
def setK : Rho → Nat → D → (Rho → Prop) → Prop
  | [], _, _, k => k []
  | _ :: r, 0, d, k => k (some d :: r)
  | x :: r, n + 1, d, k => setK r n d fun r' => k (x :: r')
theorem setK_eq : ∀ {ρ : Rho} {i : Nat} {d : D} {k : Rho → Prop}, setK ρ i d k → k (ρ.set i (some d))
  | [], _, _, _, h => h
  | _ :: r, 0, d, k, h => h
  | x :: r, n + 1, d, k, h => setK_eq (ρ := r) (i := n) (d := d) (k := fun r' => k (x :: r')) h
def gN (i : Nat) : FG := fun d ρ S Q _ => setK ρ i d fun ρ' => Q ρ' S
def gsNil : FGs := fun ds ρ S Q _ => match ds with
  | [] => Q ρ S
  | _ => False
def gsCons (g : FG) (gs : FGs) : FGs := fun ds ρ S Q Ed => match ds with
  | d :: r => g d ρ S (fun ρ1 S1 => gs r ρ1 S1 Q Ed) Ed
  | [] => False
def gTp (n : Nat) (gs : FGs) : FG := fun d ρ S Q Ed => match d with
  | .tup ds => ds.length = n ∧ gs ds ρ S Q Ed
  | _ => False
def gUn (n : Nat) (gs : FGs) : FG := fun d ρ S Q Ed => onSome (lstOf S d) fun ds => ds.length = n ∧ gs ds ρ S Q Ed
/-- o[i] = .. -/
def gSetI (fo fi : FE) : FG := fun d ρ S Q Ed => fo ρ S (fun x S1 => fi ρ S1 (fun y S2 => match y with
  | .int k => onSome (cellOf S2 x) fun nx => onSome (ixN nx.2.length k) fun j => Q ρ (S2.set nx.1 (.lst (nx.2.set j d)))
  | _ => False) Ed) Ed
section
variable {X : Cx} {E : XK} {pos : Pos} {tg e o ie : Expr} {es : List Expr} {g : FG} {gs : FGs} {fe fo fi : FE}
theorem PGs.imp {t t' : TGs} (h : PGs X es t) (k : ∀ v σ H Q, t' v σ H Q → t v σ H Q) : PGs X es t' := ⟨fun pins s σ H v u Q I r q => h.run pins s σ H v u Q I r (k v σ H Q q)⟩
theorem d_gn {i : Nat} (h : PG X tg (gName i)) : PGd X E tg (gN i) :=
  PG.imp h fun v σ H Q ⟨μ, S, ρ, d, Qd, Ed, w, en, r, hg, q, px⟩ => q _ S _ H μ (setK_eq (k := fun ρ' => Qd ρ' S) hg) Fw.refl w (en.set r)
theorem d_gnil : PGsd X E [] gsNil := by
  refine PGs.imp pgs_nil fun vs σ H Q ⟨μ, S, ρ, ds, Qd, Ed, w, en, r, hg, q, px⟩ => ?_
  unfold gsNil at hg
  split at hg
  · cases r
    exact ⟨rfl, q ρ S σ H μ hg Fw.refl w en⟩
  · exact hg.elim
theorem d_gcons (h1 : PGd X E e g) (h2 : PGsd X E es gs) (hs : (assignEach (e :: es) X.env).map (·.2) = assign e X.env :: (assignEach es X.env).map (·.2) := by rfl) : PGsd X E (e :: es) (gsCons g gs) := by
  refine PGs.imp (pgs_cons h1 h2 hs) fun vs σ H Q ⟨μ, S, ρ, ds, Qd, Ed, w, en, r, hg, q, px⟩ => ?_
  unfold gsCons at hg
  split at hg
  · cases r with
    | cons r1 r2 =>
      refine ⟨_, _, rfl, μ, S, ρ, _, _, Ed, w, en, r1, hg, fun ρ1 S1 σ1 H1 μ1 h1 f1 w1 en1 => ?_, px⟩
      exact ⟨μ1, S1, ρ1, _, Qd, Ed, w1, en1, r2.fw w f1, h1, fun ρ2 S2 σ2 H2 μ2 h2 f2 w2 en2 => q ρ2 S2 σ2 H2 μ2 h2 (f1.trans f2) w2 en2, px.fw f1⟩
  · exact hg.elim
theorem d_gtup {k n : Nat} (hc : X.calm = true) (h : PGsd X E es gs) (hn : (assignEach es X.env).length = n := by rfl) (hst : (assignEach es X.env).findIdx? (·.1) = none := by rfl) : PGd X E (.Tuple es k pos) (gTp n gs) := by
  refine PG.imp (pg_tup hc h hn hst) fun v σ H Q ⟨μ, S, ρ, d, Qd, Ed, w, en, r, hg, q, px⟩ => ?_
  unfold gTp at hg
  split at hg
  · obtain ⟨a, ws, rfl, ha, rs⟩ := r.tup_inv
    exact ⟨a, ws, rfl, SqT.of ha, by rw [rs.length]; exact hg.1, μ, S, ρ, _, Qd, Ed, w, en, rs, hg.2, q, px⟩
  · exact hg.elim
theorem d_gunl {k n : Nat} (hc : X.calm = true) (h : PGsd X E es gs) (hn : (assignEach es X.env).length = n := by rfl) (hst : (assignEach es X.env).findIdx? (·.1) = none := by rfl) : PGd X E (.Tuple es k pos) (gUn n gs) := by
  refine PG.imp (pg_unl hc h hn hst) fun v σ H Q ⟨μ, S, ρ, d, Qd, Ed, w, en, r, hg, q, px⟩ => ?_
  obtain ⟨ds, e, hl, hg⟩ := onSome_of hg
  obtain ⟨a, ws, rfl, ha, rs⟩ := r.lstT w e
  exact ⟨a, ws, rfl, SqL.of ha, by rw [rs.length]; exact hl, μ, S, ρ, _, Qd, Ed, w, en, rs, hg, q, px⟩
theorem d_gsub (ho : PEd X (cE E) o fo) (hi : PEd X (cE E) ie fi)
    (ha : ∀ v, assign (.Subscript o ie pos) X.env v = (do
      let ov ← holding [v] (eval o X.env)
      let iv ← holding [v, ov] (eval ie X.env)
      standAt pos
      holding [v, ov, iv] (setItem ov iv v)
      release [v, ov, iv] []) := by intro _; rfl) : PGd X E (.Subscript o ie pos) (gSetI fo fi) := by
  refine PG.imp (pg_sub ho hi set_list ha) fun v σ H Q ⟨μ, S, ρ, d, Qd, Ed, w, en, r, hg, q, px⟩ => ?_
  refine tR_of w en hg px fun x S1 vx H1 μ1 h1 f1 w1 en1 px1 r1 => ?_
  refine tR_of w1 en1 h1 px1 fun y S2 vy H2 μ2 h2 f2 w2 en2 px2 r2 => ?_
  split at h2
  · obtain ⟨⟨n, zs⟩, e, h2⟩ := onSome_of h2
    obtain ⟨j, e2, h2⟩ := onSome_of h2
    obtain ⟨a, vs, rfl, hm, hl, rz⟩ := w2.cellL (r1.fw w1 f2) e
    have fw : Fw μ2 H2 μ2 (upd H2 a (.lst (vs.set j v))) := Fw.write (List.mem_of_getElem? hm)
    have rd := ((r.fw w f1).fw w1 f2)
    refine ⟨a, vs, _, j, rfl, r2.int_inv, hl, by rw [rz.length]; exact e2, ?_⟩
    exact q ρ _ σ _ μ2 h2 (f1.trans (f2.trans fw)) (w2.set hm ⟨_, upd_same, (rz.set rd j).fw w2 fw⟩) (en2.fw w2 fw)
  · exact h2.elim
theorem d_asg (he : PEd X (cE E) e fe) (hg : PGd X E tg g) (hs : swapsWithSole [tg] e pos.line X.env = pure false := by rfl) (hw : swappedStores [tg] e X.env = pure none := by rfl)
    (h1 : (assignEach [tg] X.env).map (·.2) = [assign tg X.env] := by rfl) : PSd X E (.Assign [tg] e pos) (dAsg fe g) := by
  refine PS.imp (ps_asg he hg hs hw h1) fun D σ H ⟨μ, S, ρ, De, Ed, w, en, hf, k, px⟩ => ?_
  refine tR_of w en hf px fun x S1 v H1 μ1 h1 f1 w1 en1 px1 r1 => ?_
  exact ⟨μ1, S1, ρ, x, _, Ed, w1, en1, r1, h1, fun ρ2 S2 σ2 H2 μ2 h2 f2 w2 en2 => k.nx ρ2 S2 σ2 H2 μ2 h2 (f1.trans f2) w2 en2, px1⟩
theorem d_set {i : Nat} {x : Str} {pos' : Pos} (hN : X.N.Nodup) (hi : X.N[i]? = some x) (hx : Loc X.env.scope x) (he : PEd X (cE E) e fe) (hs : swapsWith e (some (.Name x pos')) pos.line X.env = pure false := by rfl)
    (hf : X.fn x = true ∨ X.env.scope.names.lookup x = some .local := by first | exact .inl rfl | exact .inr rfl | assumption) : PSd X E (.Assign [.Name x pos'] e pos) (dAsg fe (gN i)) := by
  refine PS.imp (ps_set hN hi hx he hs hf) fun D σ H ⟨μ, S, ρ, De, Ed, w, en, hf, k, px⟩ => ?_
  refine tR_of w en hf px fun x S1 v H1 μ1 h1 f1 w1 en1 px1 r1 => ?_
  exact k.nx _ S1 _ H1 μ1 (setK_eq (k := fun ρ' => De.nx ρ' S1) h1) f1 w1 (en1.set r1)
end
/-- a, b = x, y -/
def dPar (i j : Nat) (fa : FA) : FS := fun ρ S De Ed => fa ρ S (fun ds S1 => match ds with
  | [d, e] => setK ρ i d fun ρ1 => setK ρ1 j e fun ρ2 => De.nx ρ2 S1
  | _ => False) Ed
section
variable {X : Cx} {E : XK} {pos : Pos} {a b c : Expr} {fa : FA}
theorem d_par {i j : Nat} {x y : Str} {px py pt : Pos} {kt k2 pt2} (hc : X.calm = true) (hN : X.N.Nodup) (hi : X.N[i]? = some x) (hj : X.N[j]? = some y) (hij : i ≠ j)
    (hx : X.env.scope.names.lookup x = some .local) (hy : X.env.scope.names.lookup y = some .local) (ha : PAd X (cE E) [a, b] fa)
    (hw : swappedStores [.Tuple [.Name x px, .Name y py] kt pt] (.Tuple [a, b] k2 pt2) X.env = pure (some [x, y]))
    (hs : swapsWithSole [.Tuple [.Name x px, .Name y py] kt pt] (.Tuple [a, b] k2 pt2) pos.line X.env = pure false := by rfl) :
    PSd X E (.Assign [.Tuple [.Name x px, .Name y py] kt pt] (.Tuple [a, b] k2 pt2) pos) (dPar i j fa) := by
  refine PS.imp (ps_par hc hN hi hj hij hx hy ha hw hs) fun D σ H ⟨μ, S, ρ, De, Ed, w, en, hf, k, px⟩ => ?_
  refine tR_of w en hf px fun ds S1 vs H1 μ1 h1 f1 w1 en1 px1 r1 => ?_
  split at h1
  · obtain ⟨u, v, rfl, ru, rv⟩ := r1.two
    exact ⟨u, v, rfl, k.nx _ S1 _ H1 μ1 (setK_eq (k := fun ρ2 => De.nx ρ2 S1) (setK_eq (k := fun ρ1 => setK ρ1 _ _ fun ρ2 => De.nx ρ2 S1) h1)) f1 w1 ((en1.set ru).set rv)⟩
  · exact h1.elim
end
end Pu
namespace Pu
open PySem PySem.Spec PyProof.Rows L2
/-! ## what a loop walks: its items, the cells that must stay as they are -/
abbrev Src := List (Nat × List D)
def srcOk : Src → Sto → Prop → Prop
  | [], _, P => P
  | (n, xs) :: r, S, P => S[n]? = some (.lst xs) ∧ srcOk r S P
theorem srcOk_iff {src : Src} {S : Sto} {P : Prop} : srcOk src S P ↔ (∀ p ∈ src, S[p.1]? = some (.lst p.2)) ∧ P := by
  induction src with
  | nil => exact ⟨fun h => ⟨(fun _ z => nomatch z), h⟩, fun h => h.2⟩
  | cons p r ih =>
    obtain ⟨n, xs⟩ := p
    constructor
    · rintro ⟨h1, h2⟩
      obtain ⟨h3, h4⟩ := ih.mp h2
      refine ⟨fun q hq => ?_, h4⟩
      rcases List.mem_cons.mp hq with rfl | hq
      · exact h1
      · exact h3 q hq
    · rintro ⟨h1, h2⟩
      exact ⟨h1 _ List.mem_cons_self, ih.mpr ⟨fun q hq => h1 q (List.mem_cons_of_mem _ hq), h2⟩⟩
def src1 (n : Nat) : Option (List D) → Src
  | some xs => [(n, xs)]
  | none => []
def srcOf (S : Sto) : D → Src
  | .cell n => src1 n (lstAt S[n]?)
  | _ => []
theorem srcOf_seq {S S' : Sto} {d : D} {xs : List D} (e : seqOf S d = some xs) (h : ∀ p ∈ srcOf S d, S'[p.1]? = some (.lst p.2)) : seqOf S' d = some xs := by
  cases d with
  | cell n =>
    have e' : lstAt S[n]? = some xs := e
    have h1 : srcOf S (.cell n) = [(n, xs)] := by show src1 n (lstAt S[n]?) = _; rw [e']; rfl
    rw [h1] at h
    have := h (n, xs) List.mem_cons_self
    show lstAt S'[n]? = some xs
    rw [this]
    rfl
  | _ => exact e
structure ItOk (c : Ct) (J : It) (items : List D) (src : Src) (Anc : Mu → Hp → Prop) : Prop where
  keep : ∀ {μ H μ' H'}, Anc μ H → Kp c μ H μ' H' → Anc μ' H'
  go : ∀ {μ S H}, Anc μ H → Wd c μ S H → (∀ p ∈ src, S[p.1]? = some (.lst p.2)) → ∀ (i : Nat) (d : D), items[i]? = some d → J.go i H ∧ ∀ x H', J.yld i H x H' → Fw μ H μ H' ∧ Wd c μ S H' ∧ Rp c μ H' x d
  stop : ∀ {μ S H}, Anc μ H → Wd c μ S H → (∀ p ∈ src, S[p.1]? = some (.lst p.2)) → J.stop items.length H
abbrev FI := FX (List D × Src)
def tI (c : Ct) (E : L2.St → XK) (fi : FI) : TI := fun σ H R => ∃ μ S ρ Qi Ed, Wd c μ S H ∧ EnvR c μ H σ ρ ∧ fi ρ S Qi Ed ∧
  (∀ is S' H' μ' J Anc, Qi is S' → Fw μ H μ' H' → Wd c μ' S' H' → ItOk c J is.1 is.2 Anc → Anc μ' H' → (∀ p ∈ is.2, S'[p.1]? = some (.lst p.2)) → R J H') ∧ PX c μ H Ed (E σ)
abbrev PId (X : Cx) (E : L2.St → XK) (tg e : Expr) (fi : FI) : Prop := PI X tg e (tI (ct X) E fi)
theorem PI.imp {X : Cx} {tg e : Expr} {t t' : TI} (h : PI X tg e t) (k : ∀ σ H R, t' σ H R → t σ H R) : PI X tg e t' := ⟨fun pins s σ H R I q => h.run pins s σ H R I (k σ H R q)⟩
theorem srcOf_ok {S : Sto} {d : D} {xs : List D} (e : seqOf S d = some xs) : ∀ p ∈ srcOf S d, S[p.1]? = some (.lst p.2) := by
  intro p hp
  cases d with
  | cell n =>
    have e' : lstAt S[n]? = some xs := e
    have h1 : srcOf S (.cell n) = [(n, xs)] := by show src1 n (lstAt S[n]?) = _; rw [e']; rfl
    rw [h1] at hp
    cases List.mem_singleton.mp hp
    exact lstAt_inv e'
  | _ => cases hp
/-! ### a list or a tuple -/
def iSeq (K : PySem.W.Frag) (tl : TE) : TI := fun σ H R => tl σ H fun x H1 => ∃ a, x = .ref a ∧ (((∃ xs, SqL K H1 a xs) ∧ R (Itl K a) H1) ∨ ((∃ xs, SqT K H1 a xs) ∧ R (Itt K a) H1))
section
variable {X : Cx} {E : L2.St → XK} {tg e : Expr} {fe : FE} {fa : FA}
theorem pi_seq {tl : TE} (hl : PE X e tl) : PI X tg e (iSeq X.K tl) := by
  constructor
  intro pins s σ H R I h
  refine thn (hl.run pins s σ H _ I h) fun v s1 hv => ?_
  obtain ⟨x, H1, I1, r1, a, rfl, q⟩ := hv
  cases r1
  have own : ∀ b, b ∈ [s1.heap.objs.size] → FpOk X pins H1 b := fun b hb => by
    rw [List.mem_singleton.mp hb]
    exact I1.fpOk (Nat.le_refl _) (I1.hok.fresh (Nat.le_refl _))
  rcases q with ⟨⟨xs, hq⟩, q⟩ | ⟨⟨xs, hq⟩, q⟩
  · obtain ⟨its, rv, pl, _⟩ := I1.list hq
    exact wpAny_pyIter_list pl.isList
      ⟨_, _, _, _, H1, rfl, I1.kept (t' := s1.toks) (fun b o eb => Heap.get?_push_of_some _ eb), turn_list a _, ⟨_, Heap.get?_push_size _ rfl, rfl, rfl⟩, own, q⟩
  · obtain ⟨its, rv, pl, _⟩ := I1.tuple hq
    exact wpAny_pyIter_tuple (Rb.isTup_isTuple pl)
      ⟨_, _, _, _, H1, rfl, I1.kept (t' := s1.toks) (fun b o eb => Heap.get?_push_of_some _ eb), turn_tuple a _, ⟨_, Heap.get?_push_size _ rfl, rfl, rfl⟩, own, q⟩
def dItS (fe : FE) : FI := fun ρ S Q Ed => fe ρ S (fun d S1 => onSome (seqOf S1 d) fun xs => Q (xs, srcOf S1 d) S1) Ed
theorem itl_ok {c : Ct} {S0 : Sto} {a : Addr} {d : D} {xs : List D} (hn : ∀ ys, d ≠ .tup ys) (e : seqOf S0 d = some xs) : ItOk c (Itl c.K a) xs (srcOf S0 d) (fun μ H => Rp c μ H (.ref a) d) where
  keep := fun r k => r.kp k
  go := fun {μ S H} r w hs i x hx => by
    rcases r.seq2 w (srcOf_seq e hs) with ⟨_, _, rfl, _⟩ | ⟨b, vs, eb, hq, rs⟩
    · exact absurd rfl (hn _)
    cases eb
    obtain ⟨v, ev, rv⟩ := rs.at hx
    refine ⟨⟨vs, v, hq, ev⟩, fun y H' hy => ?_⟩
    obtain ⟨rfl, hy⟩ := hy
    have := hy vs hq
    rw [ev] at this
    cases this
    exact ⟨Fw.refl, w, rv⟩
  stop := fun {μ S H} r w hs => by
    rcases r.seq2 w (srcOf_seq e hs) with ⟨_, _, rfl, _⟩ | ⟨b, vs, eb, hq, rs⟩
    · exact absurd rfl (hn _)
    cases eb
    exact ⟨vs, hq, by rw [rs.length]; exact Nat.le_refl _⟩
theorem itt_ok {c : Ct} {a : Addr} {xs : List D} : ItOk c (Itt c.K a) xs [] (fun μ H => Rp c μ H (.ref a) (.tup xs)) where
  keep := fun r k => r.kp k
  go := fun {μ S H} r w hs i x hx => by
    obtain ⟨b, vs, eb, ha, rs⟩ := r.tup_inv
    cases eb
    obtain ⟨v, ev, rv⟩ := rs.at hx
    refine ⟨⟨vs, v, SqT.of ha, ev⟩, fun y H' hy => ?_⟩
    obtain ⟨rfl, hy⟩ := hy
    have := hy vs (SqT.of ha)
    rw [ev] at this
    cases this
    exact ⟨Fw.refl, w, rv⟩
  stop := fun {μ S H} r w hs => by
    obtain ⟨b, vs, eb, ha, rs⟩ := r.tup_inv
    cases eb
    exact ⟨vs, SqT.of ha, by rw [rs.length]; exact Nat.le_refl _⟩
theorem d_iseq (he : PEd X E e fe) : PId X E tg e (dItS fe) := by
  refine PI.imp (pi_seq he) fun σ H R ⟨μ, S, ρ, Qi, Ed, w, en, hf, q, px⟩ => ?_
  refine tR_of w en hf px fun d S1 v H1 μ1 h1 f1 w1 en1 px1 r1 => ?_
  obtain ⟨xs, e1, hq⟩ := onSome_of h1
  rcases r1.seq2 w1 e1 with ⟨a, vs, rfl, rfl, ha, rs⟩ | ⟨a, vs, rfl, hs, rs⟩
  · exact ⟨a, rfl, .inr ⟨⟨vs, SqT.of ha⟩, q _ S1 H1 μ1 _ _ hq f1 w1 itt_ok r1 (fun _ z => nomatch z)⟩⟩
  · by_cases ht : ∃ ys, d = .tup ys
    · obtain ⟨ys, rfl⟩ := ht
      cases e1
      obtain ⟨b, ws, eb, hb, rs'⟩ := r1.tup_inv
      cases eb
      exact ⟨a, rfl, .inr ⟨⟨ws, SqT.of hb⟩, q _ S1 H1 μ1 _ _ hq f1 w1 itt_ok r1 (fun _ z => nomatch z)⟩⟩
    · exact ⟨a, rfl, .inl ⟨⟨vs, hs⟩, q _ S1 H1 μ1 _ _ hq f1 w1 (itl_ok (fun ys z => ht ⟨ys, z⟩) e1) r1 (srcOf_ok e1)⟩⟩
/-! ### range -/
def rangeD (lo : Int) (n : Nat) : List D := (List.range n).map fun i : Nat => D.int (lo + (i : Int))
theorem rangeD_get {lo : Int} {n i : Nat} {d : D} (h : (rangeD lo n)[i]? = some d) : i < n ∧ d = .int (lo + (i : Int)) := by
  unfold rangeD at h
  rw [List.getElem?_map] at h
  obtain ⟨j, e1, rfl⟩ := Option.map_eq_some_iff.mp h
  obtain ⟨h1, h2⟩ := List.getElem?_eq_some_iff.mp e1
  rw [List.getElem_range] at h2
  rw [List.length_range] at h1
  subst h2
  exact ⟨h1, rfl⟩
theorem itr_ok {c : Ct} {lo : Int} {n : Nat} : ItOk c (Itr lo n) (rangeD lo n) [] (fun _ _ => True) where
  keep := fun _ _ => trivial
  go := fun {μ S H} _ w _ i d hd => by
    obtain ⟨h1, rfl⟩ := rangeD_get hd
    refine ⟨h1, fun x H' hy => ?_⟩
    obtain ⟨rfl, rfl⟩ := hy
    exact ⟨Fw.refl, w, .int _⟩
  stop := fun {μ S H} _ _ _ => by
    show n ≤ (rangeD lo n).length
    unfold rangeD
    rw [List.length_map, List.length_range]
    exact Nat.le_refl _
def dRng1 (fa : FA) : FI := fun ρ S Q Ed => fa ρ S (fun ds S1 => match ds with
  | [.int j] => (-(2 ^ 62) ≤ j ∧ j < 2 ^ 62) ∧ Q (rangeD 0 j.toNat, []) S1
  | _ => False) Ed
theorem d_rng1 {a : Expr} {p pos : Pos} (hg : Gl X "range") (hm : X.mg "range" = none) (ha : PAd X E [a] fa) (hs : starEach [a] X.env = [(false, eval a X.env)] := by rfl) : PId X E tg (.Call (.Name "range" p) [a] [] pos) (dRng1 fa) := by
  refine PI.imp (pi_range1 hg hm ha hs) fun σ H R ⟨μ, S, ρ, Qi, Ed, w, en, hf, q, px⟩ => ?_
  refine tR_of w en hf px fun ds S1 vs H1 μ1 h1 f1 w1 en1 px1 r1 => ?_
  split at h1
  · obtain ⟨v, rfl, rv⟩ := r1.one
    cases rv.int_inv
    exact ⟨_, rfl, h1.1.1, h1.1.2, q _ S1 H1 μ1 _ _ h1.2 f1 w1 itr_ok trivial (fun _ z => nomatch z)⟩
  · exact h1.elim
/-! ### enumerate -/
/-! ### zip -/
end
/-! ## for -/
def dLoop (g : FG) (fb : FS) (src : Src) : List D → FS
  | [], ρ, S, De, _ => De.nx ρ S
  | x :: xs, ρ, S, De, Ed => g x ρ S (fun ρ1 S1 => fb ρ1 S1 { nx := fun ρ2 S2 => srcOk src S2 (dLoop g fb src xs ρ2 S2 De Ed), ct := fun ρ2 S2 => srcOk src S2 (dLoop g fb src xs ρ2 S2 De Ed), bk := De.nx, rt := De.rt } Ed) Ed
def dFor (fi : FI) (g : FG) (fb : FS) : FS := fun ρ S De Ed => fi ρ S (fun is S1 => dLoop g fb is.2 is.1 ρ S1 De Ed) Ed
section
variable {X : Cx} {E : XK} {tg iter : Expr} {body : List Stmt} {fi : FI} {g : FG} {fb : FS} {pos : Pos}
theorem drop_cons {α : Type} {xs : List α} {i : Nat} {x : α} (h : xs[i]? = some x) : xs.drop i = x :: xs.drop (i + 1) := by
  obtain ⟨h1, h2⟩ := List.getElem?_eq_some_iff.mp h
  rw [List.drop_eq_getElem_cons h1, h2]
theorem d_for (hp : PassesOwn (model X.prog X.w) X.A X.env X.xe) (hc : X.calm = true) (hi : PId X (cE E) tg iter fi) (hg : PGd X E tg g) (hb : PBd X E body fb) (hs : ∀ x, foldedSetIterable iter X.env x = pure x := by intro _; rfl) : PSd X E (.For tg iter body [] pos) (dFor fi g fb) := by
  refine PS.imp (ps_for hp hc hi hg hb hs) fun D σ H ⟨μ, S, ρ, De, Ed, w, en, hf, k, px⟩ => ?_
  refine ⟨μ, S, ρ, _, Ed, w, en, hf, fun is S1 H1 μ1 J Anc h1 f1 w1 ok anc hsrc => ?_, px⟩
  obtain ⟨items, src⟩ := is
  refine ⟨fun i m σ' H' => m = items.length - i ∧ i ≤ items.length ∧ ∃ μ' S' ρ', Fw μ1 H1 μ' H' ∧ Wd (ct X) μ' S' H' ∧ EnvR (ct X) μ' H' σ' ρ' ∧ Anc μ' H' ∧ (∀ p ∈ src, S'[p.1]? = some (.lst p.2)) ∧ dLoop g fb src (items.drop i) ρ' S' De Ed,
    ⟨_, rfl, Nat.zero_le _, μ1, S1, ρ, Fw.refl, w1, en.fw w f1, anc, hsrc, h1⟩, ?_⟩
  rintro i m σ' H' ⟨rfl, hi, μ', S', ρ', f', w', en', anc', hs', h'⟩
  by_cases hlt : i < items.length
  · have hx := List.getElem?_eq_getElem hlt
    obtain ⟨go, yl⟩ := ok.go anc' w' hs' i _ hx
    rw [drop_cons hx] at h'
    refine .inr ⟨go, fun σ2 H2 => i + 1 ≤ items.length ∧ ∃ μ2 S2 ρ2, Fw μ1 H1 μ2 H2 ∧ Wd (ct X) μ2 S2 H2 ∧ EnvR (ct X) μ2 H2 σ2 ρ2 ∧ Anc μ2 H2 ∧ (∀ p ∈ src, S2[p.1]? = some (.lst p.2)) ∧ dLoop g fb src (items.drop (i + 1)) ρ2 S2 De Ed,
      fun σ2 H2 hN => ⟨_, by omega, rfl, hN.1, hN.2⟩, fun x H2 hy => ?_⟩
    obtain ⟨fy, wy, ry⟩ := yl x H2 hy
    refine ⟨μ', S', ρ', _, _, Ed, wy, en'.fw w' fy, ry, h', fun ρ3 S3 σ3 H3 μ3 h3 f3 w3 en3 => ?_, (px.fw f1).fw (f'.trans fy)⟩
    have ff := f1.trans (f'.trans (fy.trans f3))
    refine ⟨μ3, S3, ρ3, _, Ed, w3, en3, h3, ⟨fun ρ4 S4 σ4 H4 μ4 h4 f4 w4 en4 => ?_, k.rt.fw ff, fun ρ4 S4 σ4 H4 μ4 h4 f4 w4 en4 => k.nx ρ4 S4 σ4 H4 μ4 h4 (ff.trans f4) w4 en4, fun ρ4 S4 σ4 H4 μ4 h4 f4 w4 en4 => ?_⟩, px.fw ff⟩
    · obtain ⟨q1, q2⟩ := srcOk_iff.mp h4
      exact ⟨hlt, μ4, S4, ρ4, f'.trans (fy.trans (f3.trans f4)), w4, en4, ok.keep (ok.keep (ok.keep anc' (w'.kp fy)) (wy.kp f3)) (w3.kp f4), q1, q2⟩
    · obtain ⟨q1, q2⟩ := srcOk_iff.mp h4
      exact ⟨hlt, μ4, S4, ρ4, f'.trans (fy.trans (f3.trans f4)), w4, en4, ok.keep (ok.keep (ok.keep anc' (w'.kp fy)) (wy.kp f3)) (w3.kp f4), q1, q2⟩
  · have e : i = items.length := by omega
    subst e
    rw [List.drop_length] at h'
    exact .inl ⟨ok.stop anc' w' hs', k.nx ρ' S' σ' H' μ' h' (f1.trans f') w' en'⟩
end
end Pu
namespace Pu
open PySem PySem.Spec PyProof.Rows L2
/-! ## comprehensions -/
def noE : ED := fun _ _ => False
def dYes : FT := fun _ S Q _ => Q true S
def dCompL (st : D → Rho → Option Rho) (t : FT) (f : FE) (src : Src) : List D → List D → Rho → Sto → (List D → Sto → Prop) → Prop
  | [], acc, _, S, k => k acc S
  | x :: xs, acc, ρ, S, k => onSome (st x ρ) fun ρ1 => t ρ1 S (fun b S1 => if b = true then f ρ1 S1 (fun y S2 => srcOk src S2 (dCompL st t f src xs (acc ++ [y]) ρ S2 k)) noE else srcOk src S1 (dCompL st t f src xs acc ρ S1 k)) noE
def dLc (st : D → Rho → Option Rho) (t : FT) (f : FE) (fi : FI) : FE := fun ρ S Q Ed => fi ρ S (fun is S1 => is.1.length ≤ sizeLine ∧ dCompL st t f is.2 is.1 [] ρ S1 fun acc S2 => Q (.lst false acc) S2) Ed
/-- a list that will be changed -/
def dLcC (st : D → Rho → Option Rho) (t : FT) (f : FE) (fi : FI) : FE := fun ρ S Q Ed => fi ρ S (fun is S1 => is.1.length ≤ sizeLine ∧ dCompL st t f is.2 is.1 [] ρ S1 fun acc S2 => Q (.cell S2.length) (S2 ++ [.lst acc])) Ed
def st1 (j : Nat) : D → Rho → Option Rho := fun x ρ => some (ρ.set j (some x))
def st2 (i j : Nat) : D → Rho → Option Rho := fun x ρ => match x with
  | .tup [a, b] => some ((ρ.set i (some a)).set j (some b))
  | _ => none
/-- what the target does -/
def LcT (c : Ct) (g : TG) (st : D → Rho → Option Rho) (vs : List Nat) : Prop :=
  ∀ {μ : Mu} {S : Sto} {H : Hp} {σ : L2.St} {ρ ρ1 : Rho} {x : V} {d : D} {k : L2.St → Hp → Prop}, Wd c μ S H → EnvR c μ H σ ρ → Rp c μ H x d → st d ρ = some ρ1 → (∀ σ2, EnvR c μ H σ2 ρ1 → wipe σ2 vs = wipe σ vs → k σ2 H) → g x (wipe σ vs) H k
theorem lct1 {c : Ct} {j : Nat} : LcT c (gName j) (st1 j) [j] := by
  intro μ S H σ ρ ρ1 x d k w en r e h
  cases e
  show k ((σ.set j none).set j (some x)) H
  rw [List.set_set]
  exact h _ (en.set r) (by show ((σ.set j (some x)).set j none) = σ.set j none; rw [List.set_set])
section
variable {c : Ct} {m av : List Addr} {D1 : Addr} {H : Hp} {S : Sto} {vs : List V}
theorem kpD {ws : List V} (hD : H D1 = some (.lst vs)) : Kp c ⟨m, D1 :: av⟩ H ⟨m, D1 :: av⟩ (upd H D1 (.lst ws)) where
  t := fun a xs e => by rw [upd_ne (fun z => by rw [z, hD] at e; cases e)]; exact e
  l := fun a xs e n1 n2 => by
    have ne : a ≠ D1 := fun z => n2 (by rw [z]; exact List.mem_cons_self)
    rcases e with e | ⟨o, e⟩
    · exact ⟨.inl (by rw [upd_ne ne]; exact e), n1, n2⟩
    · exact ⟨.inr ⟨o, by rw [upd_ne ne]; exact e⟩, n1, n2⟩
  m := fun a xs e n1 n2 => ⟨by rw [upd_ne (fun z => n2 (by rw [z]; exact List.mem_cons_self))]; exact e, n1, n2⟩
  d := fun a ps e n n2 => ⟨by rw [upd_ne (fun z => by rw [z, hD] at e; cases e)]; exact e, n, n2⟩
  i := fun a C dx fs e n n2 => ⟨by rw [upd_ne (fun z => by rw [z, hD] at e; cases e)]; exact e, n, n2⟩
  cl := fun _ _ h => h
  x := fun a fv e => by rw [upd_ne (fun z => by rw [z, hD] at e; cases e)]; exact e
  f := fun a ob φ e => ⟨by rw [upd_ne (fun z => by rw [z, hD] at e; cases e)]; exact e, fun n => n⟩
  g := fun a φ e => by rw [upd_ne (fun z => by rw [z, hD] at e; cases e)]; exact e
theorem wdD {ws : List V} (w : Wd c ⟨m, D1 :: av⟩ S H) (hD : H D1 = some (.lst vs)) : Wd c ⟨m, D1 :: av⟩ S (upd H D1 (.lst ws)) :=
  ⟨w.nd, w.len, w.ap, fun a h => upd_some (w.avs a h), fun i a x h1 h2 => ClOk.kp (kpD hD) (fun o e => by
    rw [upd_ne (fun z => w.ap a (List.mem_of_getElem? h1) (by rw [z]; exact List.mem_cons_self))]
    exact e) (w.ok i a x h1 h2), w.tb.upd (fun φ z => by rw [hD] at z; cases z) (fun φ z => by rw [hD] at z; cases z)⟩
theorem kpStart {μ : Mu} (hD : H D1 = none) : Kp c μ H ⟨μ.m, D1 :: μ.av⟩ (upd H D1 (.lst [])) := by
  have av2 : ∀ {a : Addr} {o : HO}, H a = some o → a ∉ μ.av → a ∉ D1 :: μ.av := fun e n z => by
    rcases List.mem_cons.mp z with z | z
    · exact ne_of_none e hD z
    · exact n z
  refine ⟨fun a xs e => ?_, fun a xs e n1 n2 => ?_, fun a xs e n1 n2 => ⟨?_, n1, av2 e n2⟩, fun a ps e n n2 => ⟨?_, n, av2 e n2⟩, fun a C dx fs e n n2 => ⟨?_, n, av2 e n2⟩, (fun _ _ h => h), fun a fv e => ?_, fun a ob φ e => ⟨by rw [upd_ne (ne_of_none e hD)]; exact e, av2 e⟩, fun a φ e => by rw [upd_ne (ne_of_none e hD)]; exact e⟩
  · rw [upd_ne (ne_of_none e hD)]; exact e
  · rcases e with e | ⟨o, e⟩
    · exact ⟨.inl (by rw [upd_ne (ne_of_none e hD)]; exact e), n1, av2 e n2⟩
    · exact ⟨.inr ⟨o, by rw [upd_ne (ne_of_none e hD)]; exact e⟩, n1, av2 e n2⟩
  · rw [upd_ne (ne_of_none e hD)]; exact e
  · rw [upd_ne (ne_of_none e hD)]; exact e
  · rw [upd_ne (ne_of_none e hD)]; exact e
  · rw [upd_ne (ne_of_none e hD)]; exact e
theorem wdStart {μ : Mu} (w : Wd c μ S H) (hD : H D1 = none) : Wd c ⟨μ.m, D1 :: μ.av⟩ S (upd H D1 (.lst [])) :=
  ⟨w.nd, w.len, fun a h z => by
    rcases List.mem_cons.mp z with z | z
    · exact w.fresh hD (z ▸ h)
    · exact w.ap a h z, fun a h => by
    rcases List.mem_cons.mp h with h | h
    · rw [h, upd_same]; exact fun z => nomatch z
    · exact upd_some (w.avs a h), fun i a x h1 h2 => ClOk.kp (kpStart hD) (fun o e => by rw [upd_ne (ne_of_none e hD)]; exact e) (w.ok i a x h1 h2), w.tb.upd (fun φ z => by rw [hD] at z; cases z) (fun φ z => by rw [hD] at z; cases z)⟩
theorem kpEnd : Kp c ⟨m, D1 :: av⟩ H ⟨m, av⟩ H :=
  ⟨fun _ _ e => e, fun _ _ e n1 n2 => ⟨e, n1, fun z => n2 (List.mem_cons_of_mem _ z)⟩, fun _ _ e n1 n2 => ⟨e, n1, fun z => n2 (List.mem_cons_of_mem _ z)⟩, fun _ _ e n1 n2 => ⟨e, n1, fun z => n2 (List.mem_cons_of_mem _ z)⟩, fun _ _ _ _ e n1 n2 => ⟨e, n1, fun z => n2 (List.mem_cons_of_mem _ z)⟩, (fun _ _ h => h), fun _ _ e => e, fun _ _ _ e => ⟨e, fun n z => n (List.mem_cons_of_mem _ z)⟩, fun _ _ e => e⟩
theorem kpEndC (hD : H D1 = some (.lst vs)) : Kp c ⟨m, D1 :: av⟩ H ⟨m ++ [D1], av⟩ H := by
  have nm : ∀ {a : Addr}, a ∉ m → a ≠ D1 → a ∉ m ++ [D1] := fun n1 n2 z => by
    rcases List.mem_append.mp z with z | z
    · exact n1 z
    · exact n2 (List.mem_singleton.mp z)
  have ne : ∀ {a : Addr}, a ∉ D1 :: av → a ≠ D1 := fun n z => n (by rw [z]; exact List.mem_cons_self)
  refine ⟨fun _ _ e => e, fun _ _ e n1 n2 => ⟨e, nm n1 (ne n2), fun z => n2 (List.mem_cons_of_mem _ z)⟩, fun _ _ e n1 n2 => ⟨e, nm n1 (ne n2), fun z => n2 (List.mem_cons_of_mem _ z)⟩, fun a _ e n1 n2 => ⟨e, nm n1 (ne n2), fun z => n2 (List.mem_cons_of_mem _ z)⟩,
    fun a _ _ _ e n1 n2 => ⟨e, nm n1 (ne n2), fun z => n2 (List.mem_cons_of_mem _ z)⟩, fun n a h => ?_, fun _ _ e => e, fun _ _ _ e => ⟨e, fun n z => n (List.mem_cons_of_mem _ z)⟩, fun _ _ e => e⟩
  show (m ++ [D1])[n]? = some a
  rw [List.getElem?_append_left (List.getElem?_eq_some_iff.mp (show m[n]? = some a from h)).1]
  exact h
end
/-- the state of a comprehension: D1 the list that is made -/
def LcI (c : Ct) (μ1 : Mu) (H1 : Hp) (D1 : Addr) (σ : L2.St) (ρ : Rho) (Anc : Mu → Hp → Prop) (src : Src) (i : Nat) (go : List D → Sto → Prop) (H : Hp) : Prop :=
  ∃ m' S' acc vs, acc.length ≤ i ∧ Wd c ⟨m', D1 :: μ1.av⟩ S' H ∧ (∃ t, m' = μ1.m ++ t) ∧ (∀ a o, H1 a = some o → a ∉ μ1.m → (∀ ps, o ≠ .tbl ps) → H a = some o ∧ a ∉ m') ∧ H D1 = some (.lst vs) ∧ RpAll c ⟨m', D1 :: μ1.av⟩ H vs acc ∧
    EnvR c ⟨m', D1 :: μ1.av⟩ H σ ρ ∧ Anc ⟨m', D1 :: μ1.av⟩ H ∧ (∀ p ∈ src, S'[p.1]? = some (.lst p.2)) ∧ go acc S'
theorem pxNo {c : Ct} {μ : Mu} {H : Hp} {E : XK} : PX c μ H noE E := fun _ _ _ _ _ _ h => h.elim
theorem lc_W {c : Ct} {g : TG} {st : D → Rho → Option Rho} {t : FT} {f : FE} {vs : List Nat} {μ1 : Mu} {S1 : Sto} {H1 : Hp} {σ : L2.St} {ρ : Rho} {J : It} {items : List D} {src : Src} {Anc : Mu → Hp → Prop} {k : List D → Sto → Prop} {D1 : Addr} {Qd : Hp → Prop} {E : L2.St → XK}
    (hT : LcT c g st vs) (w1 : Wd c μ1 S1 H1) (en1 : EnvR c μ1 H1 σ ρ) (ok : ItOk c J items src Anc) (anc : Anc μ1 H1) (hsrc : ∀ p ∈ src, S1[p.1]? = some (.lst p.2)) (hz : items.length ≤ sizeLine)
    (h : dCompL st t f src items [] ρ S1 k) (nD : H1 D1 = none) (fin : ∀ H, LcI c μ1 H1 D1 σ ρ Anc src items.length k H → Qd H) :
    ∃ W : Nat → Nat → Hp → Prop, (∃ m, W 0 m (upd H1 D1 (.lst []))) ∧ ∀ i m H, W i m H →
      (J.stop i H ∧ Qd H) ∨ (J.go i H ∧ ∃ Nx : Hp → Prop, (∀ H', Nx H' → ∃ m', m' < m ∧ W (i + 1) m' H') ∧ ∀ x H', J.yld i H x H' → g x (wipe σ vs) H' fun σ2 H2 => wipe σ2 vs = wipe σ vs ∧ tT c E t σ2 H2 fun b H3 =>
        if b = true then tD c E f σ2 H3 fun y H4 => ∃ acc, H4 D1 = some (.lst acc) ∧ acc.length < sizeLine ∧ Nx (upd H4 D1 (.lst (acc ++ [y]))) else Nx H3) := by
  refine ⟨fun i m H => m = items.length - i ∧ i ≤ items.length ∧ LcI c μ1 H1 D1 σ ρ Anc src i (fun acc S => dCompL st t f src (items.drop i) acc ρ S k) H, ⟨_, rfl, Nat.zero_le _, ?_⟩, ?_⟩
  · refine ⟨μ1.m, S1, [], [], Nat.le_refl _, wdStart w1 nD, ⟨[], by simp⟩, fun a o e n _ => ⟨?_, n⟩, upd_same, .nil, en1.kp (kpStart nD), ok.keep anc (kpStart nD), hsrc, h⟩
    rw [upd_ne (ne_of_none e nD)]
    exact e
  · rintro i m H ⟨rfl, hi, m', S', acc, ws, hl, w, ⟨tt, em⟩, keep, hD, ra, en, anc', hs', h'⟩
    by_cases hlt : i < items.length
    · have hx := List.getElem?_eq_getElem hlt
      obtain ⟨go, yl⟩ := ok.go anc' w hs' i _ hx
      rw [drop_cons hx] at h'
      refine .inr ⟨go, fun H' => i + 1 ≤ items.length ∧ LcI c μ1 H1 D1 σ ρ Anc src (i + 1) (fun acc S => dCompL st t f src (items.drop (i + 1)) acc ρ S k) H', fun H' hN => ⟨_, by omega, rfl, hN.1, hN.2⟩, fun x H2 hy => ?_⟩
      obtain ⟨fy, wy, ry⟩ := yl x H2 hy
      obtain ⟨ρ1, e1, h1⟩ := onSome_of h'
      refine hT wy (en.fw w fy) ry e1 fun σ2 en2 hw => ⟨hw, ?_⟩
      refine tR_of wy en2 h1 pxNo fun b S3 b' H3 μ3 h3 f3 w3 en3 px3 r3 => ?_
      cases (r3 : b' = b)
      have nDm : ∀ {μ : Mu} {S : Sto} {HH : Hp}, Wd c μ S HH → μ.av = D1 :: μ1.av → D1 ∉ μ.m := fun wx ex z => wx.ap D1 z (by rw [ex]; exact List.mem_cons_self)
      have all3 : ∀ {μ4 : Mu} {H4 : Hp} {S4 : Sto}, Wd c μ4 S4 H4 → Fw ⟨m', D1 :: μ1.av⟩ H μ4 H4 → μ4 = ⟨μ4.m, D1 :: μ1.av⟩ ∧ (∃ t, μ4.m = μ1.m ++ t) ∧ (∀ a o, H1 a = some o → a ∉ μ1.m → (∀ ps, o ≠ .tbl ps) → H4 a = some o ∧ a ∉ μ4.m) ∧ H4 D1 = some (.lst ws) ∧ RpAll c μ4 H4 ws acc ∧ EnvR c μ4 H4 σ ρ ∧ Anc μ4 H4 := fun {μ4 H4 S4} w4 ff => by
        have eav : μ4.av = D1 :: μ1.av := ff.av
        refine ⟨by rw [← eav], ?_, fun a o e n nt => ?_, (ff.keep D1 _ hD (nDm w rfl) (fun _ z => nomatch z)).1, ra.fw w ff, en.fw w ff, ok.keep anc' (w.kp ff)⟩
        · obtain ⟨t2, e2⟩ := ff.pre
          exact ⟨tt ++ t2, by rw [e2]; show m' ++ t2 = _; rw [em, List.append_assoc]⟩
        · obtain ⟨q1, q2⟩ := keep a o e n nt
          exact ff.keep a o q1 q2 nt
      split
      · rename_i hb
        rw [if_pos hb] at h3
        refine tR_of w3 en3 h3 pxNo fun y S4 vy H4 μ4 h4 f4 w4 en4 px4 r4 => ?_
        obtain ⟨e4, t4, k4, D4, ra4, en4', anc4⟩ := all3 w4 (fy.trans (f3.trans f4))
        rw [e4] at w4 ra4 en4' anc4 r4
        obtain ⟨q1, q2⟩ := srcOk_iff.mp h4
        refine ⟨ws, D4, by rw [ra4.length]; omega, hlt, ?_⟩
        refine ⟨μ4.m, S4, acc ++ [y], ws ++ [vy], by rw [List.length_append]; show acc.length + 1 ≤ i + 1; omega, wdD w4 D4, t4, fun a o e n nt => ?_, upd_same, (ra4.append (.cons r4 .nil)).kp (kpD D4), en4'.kp (kpD D4), ok.keep anc4 (kpD D4), q1, q2⟩
        obtain ⟨z1, z2⟩ := k4 a o e n nt
        refine ⟨?_, z2⟩
        rw [upd_ne (ne_of_none e nD)]
        exact z1
      · rename_i hb
        rw [if_neg hb] at h3
        obtain ⟨e4, t4, k4, D4, ra4, en4', anc4⟩ := all3 w3 (fy.trans f3)
        rw [e4] at w3 ra4 en4' anc4
        obtain ⟨q1, q2⟩ := srcOk_iff.mp h3
        exact ⟨hlt, μ3.m, S3, acc, ws, by omega, w3, t4, k4, D4, ra4, en4', anc4, q1, q2⟩
    · have e : i = items.length := by omega
      subst e
      rw [List.drop_length] at h'
      exact .inl ⟨ok.stop anc' w hs', fin H ⟨m', S', acc, ws, hl, w, ⟨tt, em⟩, keep, hD, ra, en, anc', hs', h'⟩⟩
section
variable {X : Cx} {E : L2.St → XK} {elt tg iter : Expr} {ifs : List Expr} {scope : Scope} {own : List (Str × Nat)} {pos : Pos} {fi : FI} {g : TG} {st : D → Rho → Option Rho} {t : FT} {f : FE}
theorem d_tnil : PTs X [] (tT (ct X) E dYes) := ⟨fun pins s σ H Q I ⟨μ, S, ρ, Qd, Ed, w, en, hf, q, px⟩ => pts_nil.run pins s σ H Q I (q true S true H μ hf Fw.refl w rfl)⟩
theorem d_tone {c : Expr} (h : PTd X E c t) : PTs X [c] (tT (ct X) E t) := pts_one h
theorem lc_end {c : Ct} {μ μ1 : Mu} {S S1 : Sto} {H H1 : Hp} {σ : L2.St} {ρ : Rho} {Anc : Mu → Hp → Prop} {src : Src} {n : Nat} {Qd : QD} {Q : VK} {D1 : Addr} (q : ∀ d S' v H' μ', Qd d S' → Fw μ H μ' H' → Wd c μ' S' H' → Rp c μ' H' v d → Q v H') (f1 : Fw μ H μ1 H1) (w1 : Wd c μ1 S1 H1) (nD : H1 D1 = none)
    {H' : Hp} (h : LcI c μ1 H1 D1 σ ρ Anc src n (fun acc S2 => Qd (.lst false acc) S2) H') : Q (.ref D1) H' := by
  obtain ⟨m', S', acc, ws, hl, w, ⟨tt, em⟩, keep, hD, ra, en, anc', hs', h'⟩ := h
  have f2 : Fw μ1 H1 ⟨m', μ1.av⟩ H' := ⟨⟨tt, em⟩, rfl, keep⟩
  have nm : D1 ∉ m' := fun z => w.ap D1 z List.mem_cons_self
  refine q _ S' _ H' ⟨m', μ1.av⟩ h' (f1.trans f2) ⟨w.nd, w.len, fun a h z => w.ap a h (List.mem_cons_of_mem _ z), fun a h => w.avs a (List.mem_cons_of_mem _ h), fun i a x h1 h2 => ClOk.kp kpEnd (fun _ e => e) (w.ok i a x h1 h2), w.tb⟩ ?_
  exact .lst hD nm (fun z => w1.avs D1 z nD) (fun z => nomatch z) (ra.kp kpEnd)
theorem lc_endC {c : Ct} {μ μ1 : Mu} {S S1 : Sto} {H H1 : Hp} {σ : L2.St} {ρ : Rho} {Anc : Mu → Hp → Prop} {src : Src} {n : Nat} {Qd : QD} {Q : VK} {D1 : Addr} (q : ∀ d S' v H' μ', Qd d S' → Fw μ H μ' H' → Wd c μ' S' H' → Rp c μ' H' v d → Q v H') (f1 : Fw μ H μ1 H1) (w1 : Wd c μ1 S1 H1) (nD : H1 D1 = none)
    {H' : Hp} (h : LcI c μ1 H1 D1 σ ρ Anc src n (fun acc S2 => Qd (.cell S2.length) (S2 ++ [.lst acc])) H') : Q (.ref D1) H' := by
  obtain ⟨m', S', acc, ws, hl, w, ⟨tt, em⟩, keep, hD, ra, en, anc', hs', h'⟩ := h
  have nm : D1 ∉ m' := fun z => w.ap D1 z List.mem_cons_self
  have f2 : Fw μ1 H1 ⟨m' ++ [D1], μ1.av⟩ H' := ⟨⟨tt ++ [D1], by show m' ++ [D1] = _; rw [em, List.append_assoc]⟩, rfl, fun a o e n nt => ⟨(keep a o e n nt).1, fun z => by
    rcases List.mem_append.mp z with z | z
    · exact (keep a o e n nt).2 z
    · exact ne_of_none e nD (List.mem_singleton.mp z)⟩⟩
  have hlen : m'.length = S'.length := w.len
  refine q _ _ _ H' ⟨m' ++ [D1], μ1.av⟩ h' (f1.trans f2) ⟨?_, ?_, fun a h z => ?_, fun a h => w.avs a (List.mem_cons_of_mem _ h), fun i a x h1 h2 => ?_, w.tb⟩ (.cell ?_)
  · show (m' ++ [D1]).Nodup
    rw [List.nodup_append]
    exact ⟨w.nd, by simp, fun a ha b hb e => nm (by rw [List.mem_singleton.mp hb] at e; exact e ▸ ha)⟩
  · show (m' ++ [D1]).length = (S' ++ [Cl.lst acc]).length
    rw [List.length_append, List.length_append, hlen]
    rfl
  · rcases List.mem_append.mp h with h | h
    · exact w.ap a h (List.mem_cons_of_mem _ z)
    · rw [List.mem_singleton.mp h] at z
      exact w1.avs D1 z nD
  · by_cases hi : i < m'.length
    · have h1' : m'[i]? = some a := by rw [← List.getElem?_append_left hi]; exact h1
      rw [List.getElem?_append_left (by omega)] at h2
      exact ClOk.kp (kpEndC hD) (fun _ e => e) (w.ok i a x h1' h2)
    · have h1' : (m' ++ [D1])[i]? = some a := h1
      have hi2 : i = m'.length := by
        have := (List.getElem?_eq_some_iff.mp h1').1
        simp at this
        omega
      subst hi2
      rw [List.getElem?_append_right (Nat.le_refl _), Nat.sub_self] at h1'
      cases h1'
      rw [List.getElem?_append_right (by omega), hlen, Nat.sub_self] at h2
      cases h2
      exact ⟨ws, hD, ra.kp (kpEndC hD)⟩
  · show (m' ++ [D1])[S'.length]? = some D1
    rw [← hlen, List.getElem?_append_right (Nat.le_refl _), Nat.sub_self]
    rfl
theorem d_lc (hT : LcT (ct X) g st (own.map (·.2))) (hc : X.calm = true) (hN : X.N.Nodup) (hi : PId X E tg iter fi) (ok : BlkOk X.N X.env.scope scope own)
    (hg : ∀ (s : Shared) (H : Hp) (C : Addr) (cl : List (Str × Addr)) (fp : List Addr), PG (X.blk s H scope (compEnvC scope cl C X.env) fp) tg g)
    (ht : ∀ (s : Shared) (H : Hp) (C : Addr) (cl : List (Str × Addr)) (fp : List Addr), PTs (X.blk s H scope (compEnvC scope cl C X.env) fp) ifs (tT (ct X) (cE E0) t))
    (he : ∀ (s : Shared) (H : Hp) (C : Addr) (cl : List (Str × Addr)) (fp : List Addr), PE (X.blk s H scope (compEnvC scope cl C X.env) fp) elt (tD (ct X) (cE E0) f)) (hs : ∀ x, foldedSetIterable iter X.env x = pure x := by intro _; rfl) :
    PEd X E (.ListComp elt [⟨tg, iter, ifs, 0⟩] scope pos) (dLc st t f fi) := by
  refine PE.imp (pe_lc hc hN hi ok hg ht he hs) fun σ H Q ⟨μ, S, ρ, Qd, Ed, w, en, hf, q, px⟩ => ?_
  refine ⟨μ, S, ρ, _, Ed, w, en, hf, fun is S1 H1 μ1 J Anc h1 f1 w1 ok' anc hsrc D1 nD => ?_, px⟩
  exact lc_W hT w1 (en.fw w f1) ok' anc hsrc h1.1 h1.2 nD fun H' h => lc_end (S := S) q f1 w1 nD h
theorem d_lcC (hT : LcT (ct X) g st (own.map (·.2))) (hc : X.calm = true) (hN : X.N.Nodup) (hi : PId X E tg iter fi) (ok : BlkOk X.N X.env.scope scope own)
    (hg : ∀ (s : Shared) (H : Hp) (C : Addr) (cl : List (Str × Addr)) (fp : List Addr), PG (X.blk s H scope (compEnvC scope cl C X.env) fp) tg g)
    (ht : ∀ (s : Shared) (H : Hp) (C : Addr) (cl : List (Str × Addr)) (fp : List Addr), PTs (X.blk s H scope (compEnvC scope cl C X.env) fp) ifs (tT (ct X) (cE E0) t))
    (he : ∀ (s : Shared) (H : Hp) (C : Addr) (cl : List (Str × Addr)) (fp : List Addr), PE (X.blk s H scope (compEnvC scope cl C X.env) fp) elt (tD (ct X) (cE E0) f)) (hs : ∀ x, foldedSetIterable iter X.env x = pure x := by intro _; rfl) :
    PEd X E (.ListComp elt [⟨tg, iter, ifs, 0⟩] scope pos) (dLcC st t f fi) := by
  refine PE.imp (pe_lc hc hN hi ok hg ht he hs) fun σ H Q ⟨μ, S, ρ, Qd, Ed, w, en, hf, q, px⟩ => ?_
  refine ⟨μ, S, ρ, _, Ed, w, en, hf, fun is S1 H1 μ1 J Anc h1 f1 w1 ok' anc hsrc D1 nD => ?_, px⟩
  exact lc_W hT w1 (en.fw w f1) ok' anc hsrc h1.1 h1.2 nD fun H' h => lc_endC (S := S) q f1 w1 nD h
end
end Pu
namespace Pu
open PySem PySem.Spec PyProof.Rows L2
/-! ## defs and their calls -/
def spF (c : Ct) (F : FF) : Sp := fun vs H Q E => ∃ μ S ds Qd Ed, Wd c μ S H ∧ RpAll c μ H vs ds ∧ F ds S Qd Ed ∧ PostV c μ H Qd Q ∧ PX c μ H Ed E
/-- a call in which the callee sees all cells -/
def dCallW (F : FF) (fa : FA) : FE := fun ρ S Q Ed => fa ρ S (fun ds S1 => F ds S1 Q Ed) Ed
mutual
/-- it mentions no cell but the first k -/
def below (k : Nat) : D → Bool
  | .cell n => decide (n < k)
  | .tup xs => belowAll k xs
  | .lst _ xs => belowAll k xs
  | .kls xs => belowAll k xs
  | .ins _ fs => belowFs k fs
  | .exc _ fs => belowFs k fs
  | .fn _ _ => false
  | _ => true
def belowAll (k : Nat) : List D → Bool
  | [] => true
  | x :: xs => below k x && belowAll k xs
def belowFs (k : Nat) : List (Str × D) → Bool
  | [] => true
  | (_, x) :: xs => below k x && belowFs k xs
end
def Cl.below (k : Nat) : Cl → Bool
  | .lst xs => belowAll k xs
  | .ins _ fs => belowFs k fs
/-- a call in which the callee sees the first k cells -/
def dCall (k : Nat) (F : FF) (fa : FA) : FE := fun ρ S Q Ed => fa ρ S (fun ds S1 => (belowAll k ds = true ∧ (S1.take k).all (Cl.below k) = true) ∧
  F ds (S1.take k) (fun d S2 => S2.length = (S1.take k).length ∧ Q d (S2 ++ S1.drop k)) fun e S2 => S2.length = (S1.take k).length ∧ Ed e (S2 ++ S1.drop k)) Ed
section
variable {c : Ct} {μ : Mu} {H : Hp} {k : Nat}
def sub (μ : Mu) (k : Nat) : Mu := ⟨μ.m.take k, μ.m.drop k ++ μ.av⟩
theorem not_sub {a : Addr} (h1 : a ∉ μ.m) (h2 : a ∉ μ.av) : a ∉ (sub μ k).m ∧ a ∉ (sub μ k).av :=
  ⟨fun z => h1 (List.mem_of_mem_take z), fun z => by
    rcases List.mem_append.mp z with z | z
    · exact h1 (List.mem_of_mem_drop z)
    · exact h2 z⟩
theorem of_sub {a : Addr} (h1 : a ∉ (sub μ k).m) (h2 : a ∉ (sub μ k).av) : a ∉ μ.m ∧ a ∉ μ.av :=
  ⟨fun z => by
    rw [← List.take_append_drop k μ.m] at z
    rcases List.mem_append.mp z with z | z
    · exact h1 z
    · exact h2 (List.mem_append_left _ z), fun z => h2 (List.mem_append_right _ z)⟩
mutual
theorem Rp.sub : ∀ {v : V} {d : D}, Rp c μ H v d → below k d = true → Rp c (Pu.sub μ k) H v d
  | _, _, .non, _ => .non
  | _, _, .bl b, _ => .bl b
  | _, _, .int i, _ => .int i
  | _, _, .str x, _ => .str x
  | _, _, .tup h r, b => .tup h (RpAll.sub r b)
  | _, _, .lst h n1 n2 n3 r, b => .lst h (not_sub n1 n2).1 (not_sub n1 n2).2 n3 (RpAll.sub r b)
  | _, _, .kls h n1 n2 r, b => .kls h (not_sub n1 n2).1 (not_sub n1 n2).2 (RpAll.sub r b)
  | _, _, .klsK o its n h1 h2 h3 h4 h5 h6 r, b => .klsK o its n h1 h2 h3 h4 h5 h6 (RpAll.sub r b)
  | _, _, .dic h n n2, _ => .dic h (not_sub n n2).1 (not_sub n n2).2
  | _, _, .cell h, b => .cell (by
    show (μ.m.take k)[_]? = _
    rw [List.getElem?_take_of_lt (of_decide_eq_true b)]
    exact h)
  | _, _, .glo h r, _ => .glo h r
  | _, _, .ty n, _ => .ty n
  | _, _, .ins h n n2 g r, b => .ins h (not_sub n n2).1 (not_sub n n2).2 g (RpFs.sub r b)
  | _, _, .exc0 h g, _ => .exc0 h g
  | _, _, .exc1 h g e r, b => .exc1 h g e (RpFs.sub r b)
  | _, _, .fn _ _, b => nomatch b
theorem RpAll.sub : ∀ {vs : List V} {ds : List D}, RpAll c μ H vs ds → belowAll k ds = true → RpAll c (Pu.sub μ k) H vs ds
  | _, _, .nil, _ => .nil
  | _, _, .cons h r, b => .cons (Rp.sub h (Bool.and_eq_true_iff.mp b).1) (RpAll.sub r (Bool.and_eq_true_iff.mp b).2)
theorem RpFs.sub : ∀ {vs : List (Str × V)} {ds : List (Str × D)}, RpFs c μ H vs ds → belowFs k ds = true → RpFs c (Pu.sub μ k) H vs ds
  | _, _, .nil, _ => .nil
  | _, _, .cons h r, b => .cons (Rp.sub h (Bool.and_eq_true_iff.mp b).1) (RpFs.sub r (Bool.and_eq_true_iff.mp b).2)
end
theorem Wd.disj {S : Sto} (w : Wd c μ S H) {a : Addr} (h1 : a ∈ μ.m.take k) (h2 : a ∈ μ.m.drop k) : False := by
  have nd := w.nd
  rw [← List.take_append_drop k μ.m, List.nodup_append] at nd
  exact nd.2.2 a h1 a h2 rfl
theorem Wd.sub {S : Sto} (w : Wd c μ S H) (hb : (S.take k).all (Cl.below k) = true) : Wd c (Pu.sub μ k) (S.take k) H := by
  refine ⟨?_, ?_, fun a h z => ?_, fun a h => ?_, fun i a x h1 h2 => ?_, w.tb⟩
  · show (μ.m.take k).Nodup
    have nd := w.nd
    rw [← List.take_append_drop k μ.m, List.nodup_append] at nd
    exact nd.1
  · show (μ.m.take k).length = (S.take k).length
    rw [List.length_take, List.length_take, w.len]
  · rcases List.mem_append.mp z with z | z
    · exact w.disj h z
    · exact w.ap a (List.mem_of_mem_take h) z
  · rcases List.mem_append.mp h with h | h
    · obtain ⟨o, e, _⟩ := w.there (List.mem_of_mem_drop h)
      rw [e]
      exact fun z => nomatch z
    · exact w.avs a h
  · have hi : i < k := by
      have := (List.getElem?_eq_some_iff.mp (show (μ.m.take k)[i]? = some a from h1)).1
      rw [List.length_take] at this
      omega
    have e1 : μ.m[i]? = some a := by
      rw [← List.getElem?_take_of_lt hi]
      exact h1
    have e2 : S[i]? = some x := by
      rw [← List.getElem?_take_of_lt hi]
      exact h2
    have bx : Cl.below k x = true := List.all_eq_true.mp hb x (List.mem_of_getElem? h2)
    have o := w.ok i a x e1 e2
    cases x with
    | lst ds =>
      obtain ⟨vs, h3, h4⟩ := o
      exact ⟨vs, h3, h4.sub bx⟩
    | ins cn fs =>
      obtain ⟨C, dx, fv, h3, h4, h5⟩ := o
      exact ⟨C, dx, fv, h3, h4, h5.sub bx⟩
theorem kp_unsub : Kp c (Pu.sub μ k) H μ H := by
  have cl : ∀ (n : Nat) (a : Addr), (μ.m.take k)[n]? = some a → μ.m[n]? = some a := fun n a h => by
    have hi : n < k := by
      have := (List.getElem?_eq_some_iff.mp h).1
      rw [List.length_take] at this
      omega
    rw [← List.getElem?_take_of_lt hi]
    exact h
  exact ⟨fun _ _ e => e, fun _ _ e n1 n2 => ⟨e, (of_sub n1 n2).1, (of_sub n1 n2).2⟩, fun _ _ e n1 n2 => ⟨e, (of_sub n1 n2).1, (of_sub n1 n2).2⟩, fun _ _ e n1 n2 => ⟨e, (of_sub n1 n2).1, (of_sub n1 n2).2⟩, fun _ _ _ _ e n1 n2 => ⟨e, (of_sub n1 n2).1, (of_sub n1 n2).2⟩, cl, fun _ _ e => e, fun _ _ _ e => ⟨e, fun n z => n (List.mem_append_right _ z)⟩, fun _ _ e => e⟩
/-- back from a callee that saw the first k cells -/
theorem Wd.back {S S2 : Sto} {H' : Hp} {μ' : Mu} (w : Wd c μ S H) (f : Fw (Pu.sub μ k) H μ' H') (w' : Wd c μ' S2 H') (hl : S2.length = (S.take k).length) :
    Fw μ H μ H' ∧ Wd c μ (S2 ++ S.drop k) H' ∧ μ' = Pu.sub μ k := by
  obtain ⟨t, e⟩ := f.pre
  have hmt : (μ.m.take k).length = (S.take k).length := by rw [List.length_take, List.length_take, w.len]
  have ht : t = [] := by
    have h1 := w'.len
    rw [e, List.length_append] at h1
    have h2 : (Pu.sub μ k).m.length = (S.take k).length := hmt
    have : t.length = 0 := by omega
    exact List.length_eq_zero_iff.mp this
  subst ht
  rw [List.append_nil] at e
  have em : μ' = Pu.sub μ k := by
    cases μ'
    cases e
    cases (show _ = (Pu.sub μ k).av from f.av)
    rfl
  subst em
  have fw : Fw μ H μ H' := ⟨⟨[], by simp⟩, rfl, fun a o ea na nt => ⟨(f.keep a o ea (fun z => na (List.mem_of_mem_take z)) nt).1, na⟩⟩
  refine ⟨fw, ⟨w.nd, ?_, w.ap, fun a h => ?_, fun i a x h1 h2 => ?_, w'.tb⟩, rfl⟩
  · rw [List.length_append, hl, List.length_take, List.length_drop, w.len]
    omega
  · exact w'.avs a (List.mem_append_right _ h)
  · by_cases hi : i < S2.length
    · rw [List.getElem?_append_left hi] at h2
      have hk : i < k := by rw [hl, List.length_take] at hi; omega
      have e1 : (Pu.sub μ k).m[i]? = some a := by
        show (μ.m.take k)[i]? = some a
        rw [List.getElem?_take_of_lt hk]
        exact h1
      exact ClOk.kp kp_unsub (fun _ z => z) (w'.ok i a x e1 h2)
    · have hge : S2.length ≤ i := by omega
      rw [List.getElem?_append_right hge, List.getElem?_drop] at h2
      have hlt : k + (i - S2.length) < S.length := (List.getElem?_eq_some_iff.mp h2).1
      have hl2 : S2.length = k := by rw [hl, List.length_take]; omega
      have ei : k + (i - S2.length) = i := by omega
      rw [ei] at h2
      have nt : a ∉ (Pu.sub μ k).m := fun z => by
        obtain ⟨j, hj, ej⟩ := List.getElem_of_mem (show a ∈ μ.m.take k from z)
        have hj2 : (μ.m.take k)[j]? = some a := List.getElem?_eq_some_iff.mpr ⟨hj, ej⟩
        have hjk : j < k := by rw [List.length_take] at hj; omega
        rw [List.getElem?_take_of_lt hjk] at hj2
        have := ix_uniq w.nd hj2 h1
        omega
      exact ClOk.kp (w.kp fw) (fun o eo => (f.keep a o eo nt ((w.ok i a x h1 h2).noT eo)).1) (w.ok i a x h1 h2)
end
section
variable {X : Cx} {cx : CXT} {lv : Nat} {fn : Addr} {dat : FuncData} {pars : List Str} {sp : Sp} {E : L2.St → XK} {nm : Str} {p1 p2 : Pos} {a0 : Expr} {as : List Expr} {ta : TA}
theorem passG : ∀ σ, PassesAt CX0 X σ (E σ) := fun _ _ _ _ _ _ _ z => z.elim
theorem runGS {pins : List (Addr × Obj)} {σ : L2.St} {H : Hp} {s : Shared} {Q : VK} {us : List Value} {xs : List V} {E1 : XK} (F : Rb.FnG X.prog X.w X.K X.mg X.base cx lv fn dat pars sp) (gd : X.A.guards = some []) (rm : Room lv X.A)
    (bi : Binds X.K dat pars []) (ps : PassesAt cx X σ E1) (I : Inv X pins σ H s) (vx : Vals xs us) (pro : sp xs H Q E1) :
    wpAny (model X.prog X.w) X.A (call (.ref fn) us) (EP X pins σ Q) X.xe s := by
  have l2 : (us ++ []).length = pars.length := by rw [List.append_nil]; exact vx.length ▸ F.many _ _ _ _ pro
  have b := bi s us I.kIn l2
  rw [List.append_nil] at b
  refine wpAny_call (codeAny_mono (F.goes X.A X.stack s H ⟨us, []⟩ us xs Q E1 rm gd I.env0 b vx pro) ?_)
  intro res s2 fin
  match res, fin with
  | .error e, fin => exact ps pins H s e s2 I fin
  | .ok (.ret u), fin => exact I.after fin
  | .ok .next, fin => exact (fin : False).elim
  | .ok .brk, fin => exact (fin : False).elim
  | .ok .cont, fin => exact (fin : False).elim
theorem pe_callGS (F : Rb.FnG X.prog X.w X.K X.mg X.base cx lv fn dat pars sp) (gd : X.A.guards = some []) (rm : Room lv X.A) (gl : Gl X nm) (at_ : X.mg nm = some (.ref fn)) (kp : PySem.W.keepIn X.K (.ref fn) = true)
    (bi : Binds X.K dat pars []) (ps : ∀ σ, PassesAt cx X σ (E σ)) (pa : PA X (a0 :: as) ta) (ndb : (nm == ("__debug__" : Str)) = false := by decide)
    (st1 : starEach (a0 :: as) X.env = (false, eval a0 X.env) :: starEach as X.env := by rfl) (st2 : (backTo p2 (starEach as X.env)).any (·.1) = false := by rfl) :
    PE X (.Call (.Name nm p1) (a0 :: as) [] p2) (tCallS sp E ta) := by
  constructor
  intro pins s σ H Q I pre
  refine wpAny_Call_Name_kw (ld_glob I gl at_ ?_ ndb)
  exact PySem.W.callWith_K (h₀ := X.base) I.ok.mod.kin kp (thn (pa.run p2 pins s σ H _ I pre) fun us s1 ⟨xs, H1, I1, rx, q1⟩ => ⟨I1.kIn, runGS F gd rm bi (ps σ) I1 rx q1⟩) st1 st2
end
section
variable {X : Cx} {E : L2.St → XK} {cx : CXT} {lv : Nat} {fn : Addr} {dat : FuncData} {pars : List Str} {nm : Str} {p1 p2 : Pos} {a0 : Expr} {as : List Expr} {FN : FF} {fa : FA}
theorem d_callW (F : Rb.FnG X.prog X.w X.K X.mg X.base cx lv fn dat pars (spF (ct X) FN)) (gd : X.A.guards = some []) (rm : Room lv X.A) (gl : Gl X nm) (at_ : X.mg nm = some (.ref fn)) (kp : PySem.W.keepIn X.K (.ref fn) = true)
    (bi : Binds X.K dat pars []) (ps : ∀ σ, PassesAt cx X σ (E σ)) (pa : PAd X E (a0 :: as) fa) (ndb : (nm == ("__debug__" : Str)) = false := by decide)
    (s1 : starEach (a0 :: as) X.env = (false, eval a0 X.env) :: starEach as X.env := by rfl) (s2 : (backTo p2 (starEach as X.env)).any (·.1) = false := by rfl) : PEd X E (.Call (.Name nm p1) (a0 :: as) [] p2) (dCallW FN fa) := by
  refine PE.imp (pe_callGS F gd rm gl at_ kp bi ps pa ndb s1 s2) fun σ H Q ⟨μ, S, ρ, Qd, Ed, w, en, hf, q, px⟩ => ?_
  refine tR_of w en hf px fun ds S1 vs H1 μ1 h1 f1 w1 en1 px1 r1 => ?_
  exact ⟨μ1, S1, ds, Qd, Ed, w1, r1, h1, PostV.fw q f1, px1⟩
theorem d_call (k : Nat) (F : Rb.FnG X.prog X.w X.K X.mg X.base cx lv fn dat pars (spF (ct X) FN)) (gd : X.A.guards = some []) (rm : Room lv X.A) (gl : Gl X nm) (at_ : X.mg nm = some (.ref fn)) (kp : PySem.W.keepIn X.K (.ref fn) = true)
    (bi : Binds X.K dat pars []) (ps : ∀ σ, PassesAt cx X σ (E σ)) (pa : PAd X E (a0 :: as) fa) (ndb : (nm == ("__debug__" : Str)) = false := by decide)
    (s1 : starEach (a0 :: as) X.env = (false, eval a0 X.env) :: starEach as X.env := by rfl) (s2 : (backTo p2 (starEach as X.env)).any (·.1) = false := by rfl) : PEd X E (.Call (.Name nm p1) (a0 :: as) [] p2) (dCall k FN fa) := by
  refine PE.imp (pe_callGS F gd rm gl at_ kp bi ps pa ndb s1 s2) fun σ H Q ⟨μ, S, ρ, Qd, Ed, w, en, hf, q, px⟩ => ?_
  refine tR_of w en hf px fun ds S1 vs H1 μ1 h1 f1 w1 en1 px1 r1 => ?_
  obtain ⟨⟨b1, b2⟩, h1⟩ := h1
  refine ⟨sub μ1 k, S1.take k, ds, _, _, w1.sub b2, r1.sub b1, h1, fun d S2 v H2 μ2 h2 f2 w2 r2 => ?_, fun e S2 cls dx H2 μ2 h2 f2 w2 r2 => ?_⟩
  · obtain ⟨f3, w3, rfl⟩ := w1.back f2 w2 h2.1
    exact q d _ v H2 μ1 h2.2 (f1.trans f3) w3 (r2.kp kp_unsub)
  · obtain ⟨f3, w3, rfl⟩ := w1.back f2 w2 h2.1
    refine px1 e _ cls dx H2 μ1 h2.2 f3 w3 ⟨r2.1, ?_⟩
    have r3 := r2.2
    split at r3
    · exact r3
    · obtain ⟨a, fv, z1, z2, z3⟩ := r3
      exact ⟨a, fv, z1, z2, z3.kp kp_unsub⟩
end
/-! ### what a def does -/
def startD (n : Nat) (ds : List D) : Rho := ds.map some ++ List.replicate (n - ds.length) none
theorem startD_env {c : Ct} {μ : Mu} {H : Hp} {N : List Str} {vs : List V} {ds : List D} (r : RpAll c μ H vs ds) : EnvR c μ H (L2.start N vs) (startD N.length ds) := by
  refine ⟨?_, fun i d h => ?_⟩
  · unfold L2.start startD
    rw [List.length_append, List.length_append, List.length_map, List.length_map, List.length_replicate, List.length_replicate, r.length]
  · unfold L2.start
    unfold startD at h
    have hl := r.length
    by_cases hi : i < ds.length
    · rw [List.getElem?_append_left (by rw [List.length_map]; exact hi), List.getElem?_map] at h
      obtain ⟨d', e1, e2⟩ := Option.map_eq_some_iff.mp h
      cases e2
      obtain ⟨v, e3, rv⟩ := r.at e1
      refine ⟨v, ?_, rv⟩
      rw [List.getElem?_append_left (by rw [List.length_map]; omega), List.getElem?_map, e3]
      rfl
    · rw [List.getElem?_append_right (by rw [List.length_map]; omega)] at h
      have := List.mem_of_getElem? h
      cases (List.mem_replicate.mp this).2
/-- a def without cells of its own, or one whose new cells stay -/
def dDef (np n : Nat) (fb : FS) : FF := fun ds S Q Ed => ds.length = np ∧ fb (startD n ds) S { nx := fun _ S' => Q .non S', rt := Q, bk := fun _ _ => False, ct := fun _ _ => False } noE
/-- a value that leaves a def whose cells, from n on, are gone -/
def frz (S : Sto) (n : Nat) : D → Option D
  | .cell k => if k < n then some (.cell k) else match S[k]? with
    | some (.lst xs) => if belowAll n xs = true then some (.lst false xs) else none
    | some (.ins x fs) => if belowFs n fs = true then some (.ins x fs) else none
    | none => none
  | d => if below n d = true then some d else none
/-- a def with cells of its own -/
def dDefC (np n : Nat) (fb : FS) : FF := fun ds S Q Ed => ds.length = np ∧ fb (startD n ds) S
  { nx := fun _ S' => ((S'.take S.length).length = S.length ∧ (S'.take S.length).all (Cl.below S.length) = true) ∧ Q .non (S'.take S.length),
    rt := fun d S' => ((S'.take S.length).length = S.length ∧ (S'.take S.length).all (Cl.below S.length) = true) ∧ onSome (frz S' S.length d) fun d' => Q d' (S'.take S.length), bk := fun _ _ => False, ct := fun _ _ => False } noE
section
variable {pr : Program} {wo : World} {K : PySem.W.Frag} {mg : Str → Option Value} {b0 : Heap} {lv : Nat} {x qn : Str} {st : Stmt} {fn : Addr} {dat : FuncData} {NN pars : List Str} {fb : FS}
theorem d_fn (F : Fun K x qn st fn dat) (S : FnScope NN pars (defScope st))
    (body : ∀ (cdv : Value) (A : Around) (out : List Env) (s : Shared) (H : Hp) (E : XK), A.guards = some [] → Room lv (A.deeper (envOfC qn (defScope st) s.heap.objs.size fn cdv)) → PBd (cxOf CX0 pr wo K mg b0 NN qn (defScope st) fn cdv A out s H E).nox E0 (defBody st) fb) :
    Rb.FnG pr wo K mg b0 CX0 (lv + 1) fn dat pars (spF (ct0 K mg) (dDef pars.length NN.length fb)) := by
  refine Rb.okG F S (fun xs H Q E pro => ?_) fun cdv A out s H xs Q E gd rm pro => ⟨_, body cdv A out s H E gd rm, ?_⟩
  · obtain ⟨μ, S, ds, Qd, Ed, w, r, ⟨hl, _⟩, _⟩ := pro
    rw [r.length]
    exact hl
  · obtain ⟨μ, S, ds, Qd, Ed, w, r, ⟨hl, h⟩, q, px⟩ := pro
    exact ⟨μ, S, _, _, noE, w, startD_env r, h, ⟨fun ρ' S' σ' H' μ' hq f w' en => q .non S' .non H' μ' hq f w' .non, q, fun _ _ _ _ _ z => z.elim, fun _ _ _ _ _ z => z.elim⟩, pxNo⟩
theorem Wd.drop {c : Ct} {μ μ' : Mu} {S S' : Sto} {H H' : Hp} (w : Wd c μ S H) (f : Fw μ H μ' H') (w' : Wd c μ' S' H') (hb : (S'.take S.length).all (Cl.below S.length) = true) :
    Fw μ H μ H' ∧ Wd c μ (S'.take S.length) H' ∧ (Kp c (Pu.sub μ' S.length) H' μ H') := by
  obtain ⟨t, e⟩ := f.pre
  have em : (Pu.sub μ' S.length).m = μ.m := by
    show μ'.m.take S.length = μ.m
    rw [e, ← w.len, List.take_append_of_le_length (Nat.le_refl _), List.take_length]
  have ws := w'.sub hb
  have av2 : ∀ {a : Addr}, a ∉ (Pu.sub μ' S.length).av → a ∉ μ.av := fun n z => n (List.mem_append_right _ (by rw [f.av]; exact z))
  have kp : Kp c (Pu.sub μ' S.length) H' μ H' := ⟨fun _ _ e => e, fun _ _ e n1 n2 => ⟨e, em ▸ n1, av2 n2⟩, fun _ _ e n1 n2 => ⟨e, em ▸ n1, av2 n2⟩, fun _ _ e n1 n2 => ⟨e, em ▸ n1, av2 n2⟩, fun _ _ _ _ e n1 n2 => ⟨e, em ▸ n1, av2 n2⟩, (fun n a h => by rw [← em]; exact h), fun _ _ e => e, fun _ _ _ e => ⟨e, av2⟩, fun _ _ e => e⟩
  refine ⟨⟨⟨[], by simp⟩, rfl, fun a o ea na nt => ⟨(f.keep a o ea na nt).1, na⟩⟩, ⟨w.nd, ?_, w.ap, fun a h => ?_, fun i a x h1 h2 => ClOk.kp kp (fun _ z => z) (ws.ok i a x (by rw [em]; exact h1) h2), w'.tb⟩, kp⟩
  · rw [← em]; exact ws.len
  · exact ws.avs a (List.mem_append_right _ (by rw [f.av]; exact h))
theorem d_fnC (F : Fun K x qn st fn dat) (S : FnScope NN pars (defScope st))
    (body : ∀ (cdv : Value) (A : Around) (out : List Env) (s : Shared) (H : Hp) (E : XK), A.guards = some [] → Room lv (A.deeper (envOfC qn (defScope st) s.heap.objs.size fn cdv)) → PBd (cxOf CX0 pr wo K mg b0 NN qn (defScope st) fn cdv A out s H E).nox E0 (defBody st) fb) :
    Rb.FnG pr wo K mg b0 CX0 (lv + 1) fn dat pars (spF (ct0 K mg) (dDefC pars.length NN.length fb)) := by
  refine Rb.okG F S (fun xs H Q E pro => ?_) fun cdv A out s H xs Q E gd rm pro => ⟨_, body cdv A out s H E gd rm, ?_⟩
  · obtain ⟨μ, S, ds, Qd, Ed, w, r, ⟨hl, _⟩, _⟩ := pro
    rw [r.length]
    exact hl
  · obtain ⟨μ, S, ds, Qd, Ed, w, r, ⟨hl, h⟩, q, px⟩ := pro
    refine ⟨μ, S, _, _, noE, w, startD_env r, h, ⟨fun ρ' S' σ' H' μ' hq f w' en => ?_, fun d S' v H' μ' hq f w' rv => ?_, fun _ _ _ _ _ z => z.elim, fun _ _ _ _ _ z => z.elim⟩, pxNo⟩
    · obtain ⟨f2, w2, _⟩ := w.drop f w' hq.1.2
      exact q .non _ .non H' μ hq.2 f2 w2 .non
    · obtain ⟨⟨_, hb⟩, hq⟩ := hq
      obtain ⟨f2, w2, kp⟩ := w.drop f w' hb
      obtain ⟨d', e, hq⟩ := onSome_of hq
      refine q d' _ v H' μ hq f2 w2 ?_
      unfold frz at e
      split at e
      · rename_i k
        split at e
        · rename_i hk
          cases e
          exact (rv.sub (k := S.length) (decide_eq_true hk)).kp kp
        · rename_i hk
          cases rv with
          | @cell k2 a hm =>
          have hmem := List.mem_of_getElem? hm
          have nm : a ∉ μ.m := fun z => by
            obtain ⟨t, et⟩ := f.pre
            obtain ⟨j, hj, ej⟩ := List.getElem_of_mem z
            have hj2 : μ'.m[j]? = some (μ.m[j]) := by rw [et, List.getElem?_append_left hj]; exact List.getElem?_eq_getElem hj
            rw [ej] at hj2
            have := ix_uniq w'.nd hj2 hm
            have := w.len
            omega
          split at e
          · rename_i ys e1
            split at e
            · rename_i hb2
              cases e
              obtain ⟨vs, h1, h2⟩ := w'.ok k _ _ hm e1
              exact .lst h1 nm (fun z => w'.ap _ hmem (by rw [f.av]; exact z)) (fun z => nomatch z) ((h2.sub hb2).kp kp)
            · cases e
          · rename_i y gs e1
            split at e
            · rename_i hb2
              cases e
              obtain ⟨C, dx, fv, h1, h2, h3⟩ := w'.ok k _ _ hm e1
              exact .ins h1 nm (fun z => w'.ap _ hmem (by rw [f.av]; exact z)) h2 ((h3.sub hb2).kp kp)
            · cases e
          · cases e
      · split at e
        · rename_i hb2
          cases e
          exact (rv.sub hb2).kp kp
        · cases e
end
end Pu
namespace Pu
open PySem PySem.Spec PyProof.Rows L2
/-! ## small dicts, list(range(n)), tuple(range(n)) -/
section
variable {X : Cx} {E : L2.St → XK} {pos : Pos} {a : Expr} {fe : FE}
theorem PostV.dic {c : Ct} {μ : Mu} {S : Sto} {H : Hp} {Qd : QD} {Q : VK} (q : PostV c μ H Qd Q) (w : Wd c μ S H) {ps : List (Str × Int)} (h : Qd (.dic ps) S) {p : Addr} (hp : H p = none) : Q (.ref p) (upd H p (.dK (Rb.dicV ps))) :=
  q _ S _ _ μ h (Fw.new hp) (w.new hp) (.dic upd_same (w.fresh hp) fun z => w.avs p z hp)
def rngOk (n : Int) : Prop := 0 ≤ n ∧ n ≤ 16777216
theorem rngOk.of {n : Int} (h : rngOk n) : RgOk 0 n := RgOk.of_le (Int.le_refl _) h.2 (by decide) h.1
variable {p p2 p3 : Pos}
end
end Pu
namespace Pu
open PySem PySem.Spec PyProof.Rows L2
/-! ## min of a tuple or a list -/
/-! ## while -/
def dWhile (t : FT) (fb : FS) : FS := fun ρ S De Ed => ∃ W : Nat → Rho → Sto → Prop, (∃ m, W m ρ S) ∧ ∀ m ρ S, W m ρ S →
  t ρ S (fun b S1 => if b = true then fb ρ S1 { nx := fun ρ' S' => ∃ m', m' < m ∧ W m' ρ' S', ct := fun ρ' S' => ∃ m', m' < m ∧ W m' ρ' S', bk := De.nx, rt := De.rt } Ed else De.nx ρ S1) Ed
theorem d_while {X : Cx} {E : XK} {c : Expr} {body : List Stmt} {pos : Pos} {t : FT} {fb : FS} (hp : PassesOwn (model X.prog X.w) X.A X.env X.xe) (hc : PTd X (cE E) c t) (hb : PBd X E body fb) : PSd X E (.While c body [] pos) (dWhile t fb) := by
  refine PS.imp (ps_while hp hc hb) fun D σ H ⟨μ, S, ρ, De, Ed, w, en, ⟨W, ⟨m0, hm0⟩, turn⟩, k, px⟩ => ?_
  refine ⟨fun m σ' H' => ∃ μ' S' ρ', Fw μ H μ' H' ∧ Wd (ct X) μ' S' H' ∧ EnvR (ct X) μ' H' σ' ρ' ∧ W m ρ' S', ⟨m0, μ, S, ρ, Fw.refl, w, en, hm0⟩, ?_⟩
  rintro m σ' H' ⟨μ', S', ρ', f', w', en', hw⟩
  refine tR_of w' en' (turn m ρ' S' hw) (px.fw f') fun b S1 v H1 μ1 h1 f1 w1 en1 px1 r1 => ?_
  cases (r1 : v = b)
  have ff := f'.trans f1
  split
  · rename_i hv
    rw [if_pos hv] at h1
    refine ⟨fun σ2 H2 => ∃ m', m' < m ∧ ∃ μ2 S2 ρ2, Fw μ H μ2 H2 ∧ Wd (ct X) μ2 S2 H2 ∧ EnvR (ct X) μ2 H2 σ2 ρ2 ∧ W m' ρ2 S2, fun σ2 H2 h => h, ?_⟩
    refine ⟨μ1, S1, ρ', _, Ed, w1, en1, h1, ⟨fun ρ4 S4 σ4 H4 μ4 h4 f4 w4 en4 => ?_, k.rt.fw ff, fun ρ4 S4 σ4 H4 μ4 h4 f4 w4 en4 => k.nx ρ4 S4 σ4 H4 μ4 h4 (ff.trans f4) w4 en4, fun ρ4 S4 σ4 H4 μ4 h4 f4 w4 en4 => ?_⟩, px1⟩
    · obtain ⟨m', hm', hw'⟩ := h4
      exact ⟨m', hm', μ4, S4, ρ4, ff.trans f4, w4, en4, hw'⟩
    · obtain ⟨m', hm', hw'⟩ := h4
      exact ⟨m', hm', μ4, S4, ρ4, ff.trans f4, w4, en4, hw'⟩
  · rename_i hv
    rw [if_neg hv] at h1
    exact k.nx ρ' S1 σ' H1 μ1 h1 ff w1 en1
/-! ## remove, extend, pop() on a list that is a cell -/
def gExtend : GM := fun x ds S Q => match ds with
  | [d] => onSome (cellOf S x) fun nx => onSome (lstOf S d) fun zs => nx.2.length + zs.length ≤ sizeLine ∧ Q .non (S.set nx.1 (.lst (nx.2 ++ zs)))
  | _ => False
section
variable {X : Cx}
theorem m_extend : MtR X "list.extend" (rDm (ct X) gExtend) := by
  intro pins s σ H x xs v us Q I rx rs ⟨μ, S, d, ds, Qd, w, r1, ra, hg, q⟩
  unfold gExtend at hg
  split at hg
  · obtain ⟨y, rfl, ry⟩ := ra.one
    obtain ⟨⟨n, zs⟩, e, hg⟩ := onSome_of hg
    obtain ⟨ys, e2, hz, hg⟩ := onSome_of hg
    obtain ⟨a, vs, rfl, hm, ha, rz⟩ := w.cellL r1 e
    obtain ⟨b, ws, rfl, hb, rb⟩ := ry.lstT w e2
    exact mt_extend pins s σ H _ _ v us Q I rx rs ⟨a, b, vs, ws, rfl, rfl, ha, hb, by rw [rz.length, rb.length]; exact hz, q.cell w hm (rz.append rb) .non hg⟩
  · exact hg.elim
end
/-! ## repr and == that are not looked into -/
@[irreducible] def iRepr : List D → Sto → QD → Prop := gRepr
@[irreducible] def iEqB (neg : Bool) : G2 := gEqB neg
abbrev iEq : G2 := iEqB false
abbrev iNe : G2 := iEqB true
theorem iRepr_of {ds : List D} {S : Sto} {Q : QD} (h : gRepr ds S Q) : iRepr ds S Q := by
  unfold iRepr
  exact h
theorem iEqB_of {neg : Bool} {x y : D} {S : Sto} {Q : QD} (h : gEqB neg x y S Q) : iEqB neg x y S Q := by
  unfold iEqB
  exact h
theorem eq_str {neg : Bool} {a b : Str} {S : Sto} {Q : QD} (q : Q (.bl (nb neg (decide (a = b)))) S) : iEqB neg (.str a) (.str b) S Q := iEqB_of q
theorem eq_int {neg : Bool} {a b : Int} {S : Sto} {Q : QD} (q : Q (.bl (nb neg (decide (a = b)))) S) : iEqB neg (.int a) (.int b) S Q := iEqB_of q
theorem ne_str {neg : Bool} {a b : Str} {S : Sto} {Q : QD} (e : a = b) (q : Q (.bl (nb neg true)) S) : iEqB neg (.str a) (.str b) S Q := eq_str (by rw [decide_eq_true e]; exact q)
section
variable {X : Cx}
theorem c_irepr (hg : X.A.guards = some []) (hu : X.A.units + 64 < cLine) : CallR X (.builtin "repr") (rDs (ct X) iRepr) := by
  unfold iRepr
  exact c_repr hg hu
theorem o_ieq (hu : X.A.units + 64 < cLine) : OpR X (compareOp .Eq) (rD2 (ct X) iEq) := by
  unfold iEq iEqB
  exact o_eq hu
theorem o_ine (hu : X.A.units + 64 < cLine) : OpR X (compareOp .NotEq) (rD2 (ct X) iNe) := by
  unfold iNe iEqB
  exact o_ne hu
end
/-! ## enumerate of a tuple or of a list -/
end Pu
namespace Pu
open PySem PySem.Spec PyProof.Rows L2
/-! ## instances: fields, methods, properties, new ones -/
/-- the field by its name -/
def lookF (f : Str) : List (Str × D) → Option D
  | [] => none
  | (g, d) :: r => if g = f then some d else lookF f r
section
variable {c : Ct} {μ : Mu} {S : Sto} {H : Hp} {v : V} {d : D} {f : Str}
theorem RpFs.look : ∀ {fv : List (Str × V)} {fs : List (Str × D)} {d : D}, RpFs c μ H fv fs → lookF f fs = some d → ∃ v, fv.lookup f = some v ∧ Rp c μ H v d
  | _, _, _, .nil, e => by cases e
  | _, _, _, .cons (f := g) h r, e => by
    unfold lookF at e
    by_cases z : g = f
    · rw [if_pos z] at e
      cases e
      refine ⟨_, ?_, h⟩
      rw [List.lookup_cons, show (f == g) = true by rw [z]; exact beq_self_eq_true f]
    · rw [if_neg z] at e
      obtain ⟨v, e1, e2⟩ := RpFs.look r e
      refine ⟨v, ?_, e2⟩
      rw [List.lookup_cons, show (f == g) = false by exact beq_eq_false_iff_ne.mpr fun q => z q.symm]
      exact e1
theorem RpFs.none : ∀ {fv : List (Str × V)} {fs : List (Str × D)}, RpFs c μ H fv fs → lookF f fs = none → fv.lookup f = none
  | _, _, .nil, _ => rfl
  | _, _, .cons (f := g) h r, e => by
    unfold lookF at e
    by_cases z : g = f
    · rw [if_pos z] at e
      cases e
    · rw [if_neg z] at e
      rw [List.lookup_cons, show (f == g) = false by exact beq_eq_false_iff_ne.mpr fun q => z q.symm]
      exact RpFs.none r e
theorem RpFs.length : ∀ {fv : List (Str × V)} {fs : List (Str × D)}, RpFs c μ H fv fs → fv.length = fs.length
  | _, _, .nil => rfl
  | _, _, .cons _ r => congrArg Nat.succ (RpFs.length r)
theorem RpFs.fw {μ' : Mu} {H' : Hp} {fv : List (Str × V)} {fs : List (Str × D)} (r : RpFs c μ H fv fs) (w : Wd c μ S H) (g : Fw μ H μ' H') : RpFs c μ' H' fv fs := r.kp (w.kp g)
end
/-! ### fields -/
/-! ### a constant of the class -/
/-! ### methods: the def by the object's class -/
end Pu
namespace Pu
open PySem PySem.Spec PyProof.Rows L2
/-! ## values without a held error -/
mutual
def noX : D → Bool
  | .exc _ _ => false
  | .tup xs => noXs xs
  | .lst _ xs => noXs xs
  | .kls xs => noXs xs
  | .ins _ fs => noXf fs
  | .fn _ xs => noXs xs
  | _ => true
def noXs : List D → Bool
  | [] => true
  | x :: xs => noX x && noXs xs
def noXf : List (Str × D) → Bool
  | [] => true
  | (_, x) :: xs => noX x && noXf xs
end
/-- the same row, more errors held -/
structure CtLe (c c' : Ct) : Prop where
  K : c.K = c'.K
  mg : c.mg = c'.mg
  hx : ∀ a z, c.hx a = some z → c'.hx a = some z
section
variable {c c' : Ct} {μ : Mu} {H : Hp}
mutual
theorem Rp.ct (k : CtLe c c') : ∀ {v : V} {d : D}, Rp c μ H v d → Rp c' μ H v d
  | _, _, .non => .non
  | _, _, .bl b => .bl b
  | _, _, .int i => .int i
  | _, _, .str x => .str x
  | _, _, .tup h r => .tup h (RpAll.ct k r)
  | _, _, .lst h n1 n2 n3 r => .lst h n1 n2 n3 (RpAll.ct k r)
  | _, _, .kls h n1 n2 r => .kls h n1 n2 (RpAll.ct k r)
  | _, _, .klsK o its n h1 h2 h3 h4 h5 h6 r => .klsK o its n (k.K ▸ h1) h2 h3 h4 h5 h6 (RpAll.ct k r)
  | _, _, .dic h n n2 => .dic h n n2
  | _, _, .cell h => .cell h
  | _, _, .glo h r => .glo (k.mg ▸ h) r
  | _, _, .ty n => .ty n
  | _, _, .ins h n n2 g r => .ins h n n2 (k.mg ▸ g) (RpFs.ct k r)
  | _, _, .exc0 h g => .exc0 (k.hx _ _ h) (k.mg ▸ g)
  | _, _, .exc1 h g e r => .exc1 (k.hx _ _ h) (k.mg ▸ g) e (RpFs.ct k r)
  | _, _, .fn h r => .fn h (RpAll.ct k r)
theorem RpAll.ct (k : CtLe c c') : ∀ {vs : List V} {ds : List D}, RpAll c μ H vs ds → RpAll c' μ H vs ds
  | _, _, .nil => .nil
  | _, _, .cons h r => .cons (Rp.ct k h) (RpAll.ct k r)
theorem RpFs.ct (k : CtLe c c') : ∀ {vs : List (Str × V)} {ds : List (Str × D)}, RpFs c μ H vs ds → RpFs c' μ H vs ds
  | _, _, .nil => .nil
  | _, _, .cons h r => .cons (Rp.ct k h) (RpFs.ct k r)
end
/-! back, where no held error is mentioned -/
mutual
theorem Rp.un (eK : c'.K = c.K) (eg : c'.mg = c.mg) : ∀ {v : V} {d : D}, Rp c' μ H v d → noX d = true → Rp c μ H v d
  | _, _, .non, _ => .non
  | _, _, .bl b, _ => .bl b
  | _, _, .int i, _ => .int i
  | _, _, .str x, _ => .str x
  | _, _, .tup h r, n => .tup h (RpAll.un eK eg r n)
  | _, _, .lst h n1 n2 n3 r, n => .lst h n1 n2 n3 (RpAll.un eK eg r n)
  | _, _, .kls h n1 n2 r, n => .kls h n1 n2 (RpAll.un eK eg r n)
  | _, _, .klsK o its k h1 h2 h3 h4 h5 h6 r, n => .klsK o its k (eK ▸ h1) h2 h3 h4 h5 h6 (RpAll.un eK eg r n)
  | _, _, .dic h n n2, _ => .dic h n n2
  | _, _, .cell h, _ => .cell h
  | _, _, .glo h r, _ => .glo (eg ▸ h) r
  | _, _, .ty n, _ => .ty n
  | _, _, .ins h n1 n2 g r, n => .ins h n1 n2 (eg ▸ g) (RpFs.un eK eg r n)
  | _, _, .exc0 _ _, n => nomatch n
  | _, _, .exc1 _ _ _ _, n => nomatch n
  | _, _, .fn h r, n => .fn h (RpAll.un eK eg r n)
theorem RpAll.un (eK : c'.K = c.K) (eg : c'.mg = c.mg) : ∀ {vs : List V} {ds : List D}, RpAll c' μ H vs ds → noXs ds = true → RpAll c μ H vs ds
  | _, _, .nil, _ => .nil
  | _, _, .cons h r, n => have n' := Bool.and_eq_true_iff.mp n; .cons (Rp.un eK eg h n'.1) (RpAll.un eK eg r n'.2)
theorem RpFs.un (eK : c'.K = c.K) (eg : c'.mg = c.mg) : ∀ {vs : List (Str × V)} {ds : List (Str × D)}, RpFs c' μ H vs ds → noXf ds = true → RpFs c μ H vs ds
  | _, _, .nil, _ => .nil
  | _, _, .cons h r, n => have n' := Bool.and_eq_true_iff.mp n; .cons (Rp.un eK eg h n'.1) (RpFs.un eK eg r n'.2)
end
/-! where none is held, none is mentioned -/
mutual
theorem Rp.free (no : ∀ a, c.hx a = none) : ∀ {v : V} {d : D}, Rp c μ H v d → noX d = true
  | _, _, .non => rfl
  | _, _, .bl b => rfl
  | _, _, .int i => rfl
  | _, _, .str x => rfl
  | _, _, .tup h r => RpAll.free no r
  | _, _, .lst h n1 n2 n3 r => RpAll.free no r
  | _, _, .kls h n1 n2 r => RpAll.free no r
  | _, _, .klsK o its k h1 h2 h3 h4 h5 h6 r => RpAll.free no r
  | _, _, .dic h n n2 => rfl
  | _, _, .cell h => rfl
  | _, _, .glo h r => rfl
  | _, _, .ty n => rfl
  | _, _, .ins h n1 n2 g r => RpFs.free no r
  | _, _, .exc0 h _ => by rw [no] at h; cases h
  | _, _, .exc1 h _ _ _ => by rw [no] at h; cases h
  | _, _, .fn h r => RpAll.free no r
theorem RpAll.free (no : ∀ a, c.hx a = none) : ∀ {vs : List V} {ds : List D}, RpAll c μ H vs ds → noXs ds = true
  | _, _, .nil => rfl
  | _, _, .cons h r => Bool.and_eq_true_iff.mpr ⟨Rp.free no h, RpAll.free no r⟩
theorem RpFs.free (no : ∀ a, c.hx a = none) : ∀ {vs : List (Str × V)} {ds : List (Str × D)}, RpFs c μ H vs ds → noXf ds = true
  | _, _, .nil => rfl
  | _, _, .cons h r => Bool.and_eq_true_iff.mpr ⟨Rp.free no h, RpFs.free no r⟩
end
end
section
variable {c c' : Ct} {μ μ' : Mu} {S : Sto} {H H' : Hp} {σ : L2.St} {ρ : Rho}
theorem Wd.ct (k : CtLe c c') (w : Wd c μ S H) : Wd c' μ S H := ⟨w.nd, w.len, w.ap, w.avs, fun i a x h1 h2 => by
  have := w.ok i a x h1 h2
  cases x with
  | lst ds =>
    obtain ⟨vs, e, r⟩ := this
    exact ⟨vs, e, r.ct k⟩
  | ins y fs =>
    obtain ⟨C, dx, fv, e, g, r⟩ := this
    exact ⟨C, dx, fv, e, k.mg ▸ g, r.ct k⟩, w.tb.ct k.K⟩
theorem EnvR.ct (k : CtLe c c') (en : EnvR c μ H σ ρ) : EnvR c' μ H σ ρ := ⟨en.len, fun i d h => let ⟨v, e, r⟩ := en.ok i d h; ⟨v, e, r.ct k⟩⟩
/-- the cells as they were before -/
theorem Wd.un (eK : c'.K = c.K) (eg : c'.mg = c.mg) (no : ∀ a, c.hx a = none) (w0 : Wd c μ S H) (w : Wd c' μ' S H') : Wd c μ' S H' := ⟨w.nd, w.len, w.ap, w.avs, fun i a x h1 h2 => by
  obtain ⟨a0, e0, o0⟩ := w0.atCell h2
  have := w.ok i a x h1 h2
  cases x with
  | lst ds =>
    obtain ⟨vs0, _, r0⟩ := o0
    obtain ⟨vs, e, r⟩ := this
    exact ⟨vs, e, r.un eK eg (r0.free no)⟩
  | ins y fs =>
    obtain ⟨_, _, fv0, _, _, r0⟩ := o0
    obtain ⟨C, dx, fv, e, g, r⟩ := this
    exact ⟨C, dx, fv, e, eg ▸ g, r.un eK eg (r0.free no)⟩, w.tb.ct eK⟩
/-- the slots as they were before, or without a held error -/
def sameX : Rho → Rho → Prop
  | [], [] => True
  | x :: r, y :: s => (x = y ∨ y = none ∨ ∃ d, y = some d ∧ noX d = true) ∧ sameX r s
  | _, _ => False
theorem sameX_at : ∀ {ρ ρ' : Rho} {i : Nat} {d : D}, sameX ρ ρ' → ρ'[i]? = some (some d) → ρ[i]? = some (some d) ∨ noX d = true
  | [], [], i, d, _, h => by simp at h
  | x :: r, y :: s, 0, d, h, e => by
    have e' : y = some d := by simpa using e
    rcases h.1 with z | z | ⟨d', z, n⟩
    · exact .inl (by rw [z, e']; rfl)
    · rw [z] at e'; cases e'
    · rw [z] at e'; cases e'; exact .inr n
  | x :: r, y :: s, i + 1, d, h, e => by
    rw [List.getElem?_cons_succ] at e ⊢
    exact sameX_at h.2 e
  | [], _ :: _, _, _, h, _ => h.elim
  | _ :: _, [], _, _, h, _ => h.elim
theorem EnvR.un {ρ0 : Rho} {σ0 : L2.St} {μ0 : Mu} {H0 : Hp} (eK : c'.K = c.K) (eg : c'.mg = c.mg) (no : ∀ a, c.hx a = none) (en0 : EnvR c μ0 H0 σ0 ρ0) (s : sameX ρ0 ρ) (en : EnvR c' μ H σ ρ) : EnvR c μ H σ ρ := ⟨en.len, fun i d h => by
  obtain ⟨v, e, r⟩ := en.ok i d h
  refine ⟨v, e, r.un eK eg ?_⟩
  rcases sameX_at s h with z | z
  · obtain ⟨_, _, r0⟩ := en0.ok i d z
    exact r0.free no
  · exact z⟩
end
/-! ## raise -/
/-! ## statements in a try: what leaves by an error leans on the slots at their beginning -/
/-! ## try: .. except C as n: .. -/
theorem ct_calm {X : Cx} (h : X.calm = true) : ct X = ct0 X.K X.mg := by
  unfold ct
  rw [if_pos h]
end Pu
namespace Pu
open PySem PySem.Spec PyProof.Rows L2
/-! ## what a handler asks of its error -/
/-! ### isinstance -/
/-- of a class of errors x and a class named y (of the row or built in): whether y is above x -/
def lookX : List (Str × Str × Bool) → Str → Str → Option Bool
  | [], _, _ => none
  | (x, y, b) :: r, u, v => if x = u ∧ y = v then some b else lookX r u v
theorem lookX_mem : ∀ {tab : List (Str × Str × Bool)} {u v : Str} {b : Bool}, lookX tab u v = some b → (u, v, b) ∈ tab
  | [], _, _, _, h => by cases h
  | (x, y, c) :: r, u, v, b, h => by
    unfold lookX at h
    by_cases z : x = u ∧ y = v
    · rw [if_pos z] at h
      cases h
      obtain ⟨rfl, rfl⟩ := z
      exact List.mem_cons_self
    · rw [if_neg z] at h
      exact List.mem_cons_of_mem _ (lookX_mem h)
/-- what isinstance asks of a class of errors -/
structure OwnI (K : PySem.W.Frag) (C : Addr) : Prop where
  xf : XfC K C
  is : PySem.W.isClsIn K C = true
  cl : PySem.W.findIn K (.ref C) "__class__" = some (some (.builtin "object.__class__"))
  cg : PySem.W.specialIn K (.builtin "object.__class__") "__get__" = some (some (.builtin "getset_descriptor.__get__"))
  ct : PySem.W.takesIn K (.builtin "object.__class__") = some true
  co : PySem.W.mroIn K C (.type "object") = some true
def clsV (mg : Str → Option Value) (y : Str) (u : Value) : Prop := mg y = some u ∨ (mg y = none ∧ bootBuiltins y = some u)
def XI (K : PySem.W.Frag) (mg : Str → Option Value) (x y : Str) (b : Bool) : Prop := ∃ C, mg x = some (.ref C) ∧ OwnI K C ∧ ∀ u, clsV mg y u → PySem.W.kitOne K (.ref C) u = some b
def anyX (tab : List (Str × Str × Bool)) (x : Str) : List Str → Option Bool
  | [] => some false
  | y :: r => match lookX tab x y with | some true => some true | some false => anyX tab x r | none => none
/-- a class by its name, in an expression -/
structure ClE (X : Cx) (e : Expr) (y : Str) (u : Value) : Prop where
  ex : ∃ v, PE X e (tC v) ∧ ClsV v u
  at_ : clsV X.mg y u
/-- classes by their names -/
inductive ClEs (X : Cx) : List Expr → List Str → List Value → Prop where
  | nil : ClEs X [] [] []
  | cons {e : Expr} {es : List Expr} {y : Str} {ys : List Str} {u : Value} {us : List Value} (h : ClE X e y u) (r : ClEs X es ys us) (hs : starEach (e :: es) X.env = (false, eval e X.env) :: starEach es X.env := by rfl) : ClEs X (e :: es) (y :: ys) (u :: us)
section
variable {X : Cx} {E : L2.St → XK} {a : Addr} {oe : Obj} {pn : List (Addr × Obj)} {i : Nat} {tab : List (Str × Str × Bool)} {e ce : Expr} {ces : List Expr} {y : Str} {ys : List Str} {u : Value} {us : List Value} {p pos tpos : Pos} {kt : Nat}
theorem ClEs.any {K : PySem.W.Frag} {x : Str} {C : Addr} {X' : Cx} (hx : X'.mg x = some (.ref C)) (ht : ∀ z ∈ tab, XI K X'.mg z.1 z.2.1 z.2.2) : ∀ {es : List Expr} {ys : List Str} {us : List Value} {b : Bool}, ClEs X' es ys us → anyX tab x ys = some b → PySem.W.kitAny K (.ref C) us = some b
  | _, _, _, b, .nil, e => by cases e; rfl
  | _, _, _, b, .cons (y := y) h r _, e => by
    unfold anyX at e
    unfold PySem.W.kitAny
    cases e1 : lookX tab x y with
    | none => rw [e1] at e; cases e
    | some k =>
      rw [e1] at e
      obtain ⟨C', gC, _, hk⟩ := ht _ (lookX_mem e1)
      have : C' = C := by
        have z : X'.mg x = some (.ref C') := gC
        rw [hx] at z
        cases z
        rfl
      subst this
      rw [hk _ h.at_]
      cases k with
      | true => cases e; rfl
      | false => exact ClEs.any hx ht r e
end
end Pu
namespace Pu
open PySem PySem.Spec PyProof.Rows L2
/-! ## a class's own operators: a + b, a >> i, a == b, x in a, a(x) -/
/-- what stands when both operands are there -/
def Two (X : Cx) (cx : CXT) (lv : Nat) (E1 : XK) (Q : VK) (x y : V) (H : Hp) (Y : Addr → Addr → V → Hp → Prop) : Prop :=
  ∃ (a C dx : Addr) (fv : List (Str × V)) (fn : Addr) (dat : FuncData) (pars : List Str) (F : FF) (d i : D) (μ : Mu) (S : Sto) (Qd : QD) (Ed : ED), (x = .ref a ∧ H a = some (.ins C dx fv) ∧ Y C fn y H) ∧
    Rb.FnG X.prog X.w X.K X.mg X.base cx lv fn dat pars (spF (ct X) F) ∧ Binds X.K dat pars [] ∧ Wd (ct X) μ S H ∧ Rp (ct X) μ H x d ∧ Rp (ct X) μ H y i ∧ F [d, i] S Qd Ed ∧ PostV (ct X) μ H Qd Q ∧ PX (ct X) μ H Ed E1
section
variable {X : Cx} {cx : CXT} {lv : Nat} {tab : List (Str × FF)}
theorem Two.run {pins : List (Addr × Obj)} {σ : L2.St} {s : Shared} {E1 : XK} {Q : VK} {x y : V} {v u : Value} {H : Hp} {Y : Addr → Addr → V → Hp → Prop} (gd : X.A.guards = some []) (rm : Room lv X.A) (ps : PassesAt cx X σ E1) (I : Inv X pins σ H s) (rx : RelV x v) (ry : RelV y u) (t : Two X cx lv E1 Q x y H Y) :
    ∃ (a C fn : Addr) (ox : Obj) (od : Option Obj) (m : Str → Option Value), v = .ref a ∧ Y C fn y H ∧ ox.data = .plain ∧ PySem.W.InstAt s.heap a ox C od ∧ Fr X.base X.env.locals s.heap m ∧ wpAny (model X.prog X.w) X.A (call (.ref fn) [.ref a, u]) (EP X pins σ Q) X.xe s := by
  obtain ⟨a, C, dx, fv, fn, dat, pars, F, d, i, μ, S, Qd, Ed, ⟨rfl, ea, hy⟩, c4, c5, w2, r1, r2, h2, q2, px2⟩ := t
  obtain rfl : v = Value.ref a := rx
  obtain ⟨mm, ob, _, _, _, _⟩ := ins_get I.hok ea
  obtain ⟨od, J, _⟩ := ob.look
  obtain ⟨m, fr⟩ := I.fr
  exact ⟨a, C, fn, _, od, m, rfl, hy, rfl, J, fr, runGS (us := [.ref a, u]) (xs := [.ref a, y]) c4 gd rm c5 ps I (.cons rfl (.cons ry .nil)) ⟨μ, S, [d, i], Qd, Ed, w2, .cons r1 (.cons r2 .nil), h2, q2, px2⟩⟩
end
end Pu
namespace Pu
open PySem PySem.Spec PyProof.Rows L2
/-! ## defs that are run whatever repr is under way (what a generator's body calls) -/
structure FnU (pr : Program) (wo : World) (K : PySem.W.Frag) (mg : Str → Option Value) (b0 : Heap) (cx : CXT) (lv : Nat) (fn : Addr) (dat : FuncData) (pars : List Str) (sp : Sp) : Prop where
  many : ∀ xs H Q E, sp xs H Q E → xs.length = pars.length
  goes : ∀ (A : Around) (out : List Env) (s : Shared) (H : Hp) (ar : Args) (us : List Value) (xs : List V) (Q : VK) (E : XK),
    Room lv A → Env0 pr wo K mg b0 A out s H → BindsTo s dat ar (pars.zip us) → Vals xs us → sp xs H Q E →
    codeAny (model pr wo) A (.call (.ref fn) ar) (CR cx out pr wo H s Q E) s
theorem FnU.g {pr : Program} {wo : World} {K : PySem.W.Frag} {mg : Str → Option Value} {b0 : Heap} {cx : CXT} {lv : Nat} {fn : Addr} {dat : FuncData} {pars : List Str} {sp : Sp} (F : FnU pr wo K mg b0 cx lv fn dat pars sp) : Rb.FnG pr wo K mg b0 cx lv fn dat pars sp :=
  ⟨F.many, fun A out s H ar us xs Q E h1 _ h2 h3 h4 h5 => F.goes A out s H ar us xs Q E h1 h2 h3 h4 h5⟩
section
variable {pr : Program} {wo : World} {K : PySem.W.Frag} {mg : Str → Option Value} {b0 : Heap} {lv : Nat} {sp : Sp}
theorem fnG_ofU {cx : CXT} {fn : Addr} {nm qn : Str} {pm : Arguments} {bd : List Stmt} {sco : Scope} {dV kV dc pv cdv ct oc : Value} {an od : Option Addr} {osl : Array (Option Value)} {NN pars : List Str}
    (at_ : K.lookup fn = some ⟨oc, od, .func (PySem.W.fnOf nm qn pm bd sco dV kV dc pv an cdv ct), osl⟩) (code : PySem.W.codeIn K cdv qn = true) (S : FnScope NN pars sco)
    (many : ∀ xs H Q E, sp xs H Q E → xs.length = pars.length)
    (body : ∀ (A : Around) (out : List Env) (s : Shared) (H : Hp) (xs : List V) (Q : VK) (E : XK), Room lv (A.deeper (envOfC qn sco s.heap.objs.size fn cdv)) → sp xs H Q E →
      ∃ t, PSs (cxOf cx pr wo K mg b0 NN qn sco fn cdv A out s H E) bd t ∧ t { nx := fun _ H' => Q .non H', rt := Q } (start NN xs) H) :
    FnU pr wo K mg b0 cx (lv + 1) fn (PySem.W.fnOf nm qn pm bd sco dV kV dc pv an cdv ct) pars sp := by
  constructor
  · exact many
  intro A out s H ar us xs Q E rm e0 bi vx pro
  have old : ∀ b o, b0.get? b = some o → s.heap.get? b = some o := fun b o e => (e0.bs b o e).1
  have kin : K.In s.heap := e0.mod.kin.keeps old
  refine codeAny_call_function rm.depth (kin _ _ at_) rfl S.co S.gen rfl (PySem.W.codeRec_of kin code) (bi _ _ _ _ ?_)
  refine wpAny_newFunctionEnv_cells S.kind ?_ ?_
  · rintro ⟨n, v⟩ hy
    cases S.par n (List.of_mem_zip hy).1 with
    | inl q => exact Or.inl q
    | inr q => exact Or.inr ⟨q, PySem.W.cellsFrom_some _ _ _ (Or.inl q)⟩
  intro env he s1 ic
  subst he
  refine ⟨(e0.mod.nolimit.keeps old).keeps ic.toInCall.keep, codeAny_func ?_⟩
  obtain ⟨t, ht, rd⟩ := body A out s H xs Q E (rm.deeper _) pro
  have I : Inv (cxOf cx pr wo K mg b0 NN qn sco fn cdv A out s H E) [] (start NN xs) H s1 := inv_start S rm.hd e0 (many _ _ _ _ pro) vx ic
  refine wpAny_mono (ht.run [] s1 (start NN xs) H _ I rd) ?_ (fun _ _ z => z)
  intro fl s2 hs
  match fl, hs with
  | .ret u, ⟨v, σ2, H2, J, rv, q⟩ => exact ⟨v, H2, J.os, J.bare, J.base, J.hok, rv, q⟩
  | .next, ⟨σ2, H2, J, q⟩ => exact ⟨V.non, H2, J.os, J.bare, J.base, J.hok, rfl, q⟩
  | .brk, ⟨_, _, _, q⟩ => exact (q : False).elim
  | .cont, ⟨_, _, _, q⟩ => exact (q : False).elim
theorem okGU {x qn : Str} {st : Stmt} {fn : Addr} {dat : FuncData} {NN pars : List Str} (F : Fun K x qn st fn dat) (S : FnScope NN pars (defScope st)) (many : ∀ xs H Q E, sp xs H Q E → xs.length = pars.length)
    (body : ∀ (cdv : Value) (A : Around) (out : List Env) (s : Shared) (H : Hp) (xs : List V) (Q : VK) (E : XK), Room lv (A.deeper (envOfC qn (defScope st) s.heap.objs.size fn cdv)) → sp xs H Q E →
      ∃ t, PSs (cxOf CX0 pr wo K mg b0 NN qn (defScope st) fn cdv A out s H E).nox (defBody st) t ∧ t { nx := fun _ H' => Q .non H', rt := Q } (start NN xs) H) :
    FnU pr wo K mg b0 CX0 (lv + 1) fn dat pars sp := by
  obtain ⟨oc, od, kV, dc, pv, an, cdv, ct, osl, rfl, at_, code⟩ := F.ex
  refine fnG_ofU at_ code S many fun A out s H xs Q E rm pro => ?_
  obtain ⟨t, h, q⟩ := body cdv A out s H xs Q E rm pro
  exact ⟨t, h.nox, q⟩
end
section
variable {X : Cx} {cx : CXT} {lv : Nat} {fn : Addr} {dat : FuncData} {pars : List Str} {sp : Sp} {E : L2.St → XK} {nm : Str} {p1 p2 : Pos} {a0 : Expr} {as : List Expr} {ta : TA}
theorem runGSU {pins : List (Addr × Obj)} {σ : L2.St} {H : Hp} {s : Shared} {Q : VK} {us : List Value} {xs : List V} {E1 : XK} (F : FnU X.prog X.w X.K X.mg X.base cx lv fn dat pars sp) (rm : Room lv X.A)
    (bi : Binds X.K dat pars []) (ps : PassesAt cx X σ E1) (I : Inv X pins σ H s) (vx : Vals xs us) (pro : sp xs H Q E1) :
    wpAny (model X.prog X.w) X.A (call (.ref fn) us) (EP X pins σ Q) X.xe s := by
  have l2 : (us ++ []).length = pars.length := by rw [List.append_nil]; exact vx.length ▸ F.many _ _ _ _ pro
  have b := bi s us I.kIn l2
  rw [List.append_nil] at b
  refine wpAny_call (codeAny_mono (F.goes X.A X.stack s H ⟨us, []⟩ us xs Q E1 rm I.env0 b vx pro) ?_)
  intro res s2 fin
  match res, fin with
  | .error e, fin => exact ps pins H s e s2 I fin
  | .ok (.ret u), fin => exact I.after fin
  | .ok .next, fin => exact (fin : False).elim
  | .ok .brk, fin => exact (fin : False).elim
  | .ok .cont, fin => exact (fin : False).elim
theorem pe_callGSU (F : FnU X.prog X.w X.K X.mg X.base cx lv fn dat pars sp) (rm : Room lv X.A) (gl : Gl X nm) (at_ : X.mg nm = some (.ref fn)) (kp : PySem.W.keepIn X.K (.ref fn) = true)
    (bi : Binds X.K dat pars []) (ps : ∀ σ, PassesAt cx X σ (E σ)) (pa : PA X (a0 :: as) ta) (ndb : (nm == ("__debug__" : Str)) = false := by decide)
    (st1 : starEach (a0 :: as) X.env = (false, eval a0 X.env) :: starEach as X.env := by rfl) (st2 : (backTo p2 (starEach as X.env)).any (·.1) = false := by rfl) :
    PE X (.Call (.Name nm p1) (a0 :: as) [] p2) (tCallS sp E ta) := by
  constructor
  intro pins s σ H Q I pre
  refine wpAny_Call_Name_kw (ld_glob I gl at_ ?_ ndb)
  exact PySem.W.callWith_K (h₀ := X.base) I.ok.mod.kin kp (thn (pa.run p2 pins s σ H _ I pre) fun us s1 ⟨xs, H1, I1, rx, q1⟩ => ⟨I1.kIn, runGSU F rm bi (ps σ) I1 rx q1⟩) st1 st2
end
section
variable {X : Cx} {E : L2.St → XK} {cx : CXT} {lv : Nat} {fn : Addr} {dat : FuncData} {pars : List Str} {nm : Str} {p1 p2 : Pos} {a0 : Expr} {as : List Expr} {FN : FF} {fa : FA}
theorem d_callWU (F : FnU X.prog X.w X.K X.mg X.base cx lv fn dat pars (spF (ct X) FN)) (rm : Room lv X.A) (gl : Gl X nm) (at_ : X.mg nm = some (.ref fn)) (kp : PySem.W.keepIn X.K (.ref fn) = true)
    (bi : Binds X.K dat pars []) (ps : ∀ σ, PassesAt cx X σ (E σ)) (pa : PAd X E (a0 :: as) fa) (ndb : (nm == ("__debug__" : Str)) = false := by decide)
    (s1 : starEach (a0 :: as) X.env = (false, eval a0 X.env) :: starEach as X.env := by rfl) (s2 : (backTo p2 (starEach as X.env)).any (·.1) = false := by rfl) : PEd X E (.Call (.Name nm p1) (a0 :: as) [] p2) (dCallW FN fa) := by
  refine PE.imp (pe_callGSU F rm gl at_ kp bi ps pa ndb s1 s2) fun σ H Q ⟨μ, S, ρ, Qd, Ed, w, en, hf, q, px⟩ => ?_
  refine tR_of w en hf px fun ds S1 vs H1 μ1 h1 f1 w1 en1 px1 r1 => ?_
  exact ⟨μ1, S1, ds, Qd, Ed, w1, r1, h1, PostV.fw q f1, px1⟩
end
section
variable {pr : Program} {wo : World} {K : PySem.W.Frag} {mg : Str → Option Value} {b0 : Heap} {lv : Nat} {x qn : Str} {st : Stmt} {fn : Addr} {dat : FuncData} {NN pars : List Str} {fb : FS}
theorem d_fnU (F : Fun K x qn st fn dat) (S : FnScope NN pars (defScope st))
    (body : ∀ (cdv : Value) (A : Around) (out : List Env) (s : Shared) (H : Hp) (E : XK), Room lv (A.deeper (envOfC qn (defScope st) s.heap.objs.size fn cdv)) → PBd (cxOf CX0 pr wo K mg b0 NN qn (defScope st) fn cdv A out s H E).nox E0 (defBody st) fb) :
    FnU pr wo K mg b0 CX0 (lv + 1) fn dat pars (spF (ct0 K mg) (dDef pars.length NN.length fb)) := by
  refine okGU F S (fun xs H Q E pro => ?_) fun cdv A out s H xs Q E rm pro => ⟨_, body cdv A out s H E rm, ?_⟩
  · obtain ⟨μ, S, ds, Qd, Ed, w, r, ⟨hl, _⟩, _⟩ := pro
    rw [r.length]
    exact hl
  · obtain ⟨μ, S, ds, Qd, Ed, w, r, ⟨hl, h⟩, q, px⟩ := pro
    exact ⟨μ, S, _, _, noE, w, startD_env r, h, ⟨fun ρ' S' σ' H' μ' hq f w' en => q .non S' .non H' μ' hq f w' .non, q, fun _ _ _ _ _ z => z.elim, fun _ _ _ _ _ z => z.elim⟩, pxNo⟩
end
end Pu
namespace Pu
open PySem PySem.Spec PyProof.Rows L2 GenW
/-! ## a generator's body: what is out so far goes along -/
abbrev FY := List D → Rho → Sto → (List D → Rho → Sto → Prop) → ED → Prop
theorem GS.imp {X : Cx} {st : Stmt} {t t' : TGn} (h : GS X st t) (k : ∀ D ys σ H, t' D ys σ H → t D ys σ H) : GS X st t' :=
  ⟨fun A S ip R n ys s₀ c fs K J gd lv s σ H D g hn kk hI ht => h.run A S ip R n ys s₀ c fs K J gd lv s σ H D g hn kk hI (k D ys σ H ht)⟩
theorem GSs.imp {X : Cx} {st : List Stmt} {t t' : TGn} (h : GSs X st t) (k : ∀ D ys σ H, t' D ys σ H → t D ys σ H) : GSs X st t' :=
  ⟨fun A S ip R n ys s₀ c fs K J gd lv s σ H D g hn kk hI ht => h.run A S ip R n ys s₀ c fs K J gd lv s σ H D g hn kk hI (k D ys σ H ht)⟩
def tY (c : Ct) (E : XK) (f : FY) : TGn := fun D ys σ H => ∃ μ S ρ ds k Ed, Wd c μ S H ∧ EnvR c μ H σ ρ ∧ RpAll c μ H ys ds ∧ f ds ρ S k Ed ∧
  (∀ ds' ρ' S' ys' σ' H' μ', k ds' ρ' S' → Fw μ H μ' H' → Wd c μ' S' H' → EnvR c μ' H' σ' ρ' → RpAll c μ' H' ys' ds' → D.nx ys' σ' H') ∧ PX c μ H Ed E
abbrev GSd (X : Cx) (E : XK) (st : Stmt) (f : FY) : Prop := GS X st (tY (ct X) E f)
abbrev GBd (X : Cx) (E : XK) (sts : List Stmt) (f : FY) : Prop := GSs X sts (tY (ct X) E f)
def yPlain (f : FS) : FY := fun ds ρ S k Ed => f ρ S { nx := fun ρ' S' => k ds ρ' S', rt := fun _ _ => False, bk := fun _ _ => False, ct := fun _ _ => False } Ed
def yYield (fe : FE) : FY := fun ds ρ S k Ed => ds.length < sizeLine ∧ fe ρ S (fun d S' => k (ds ++ [d]) ρ S') Ed
def yEnd : FY := fun ds ρ S k _ => k ds ρ S
def ySeq (f g : FY) : FY := fun ds ρ S k Ed => f ds ρ S (fun ds' ρ' S' => g ds' ρ' S' k Ed) Ed
/-- the def: the list of what it hands out -/
def yDef (np n : Nat) (fb : FY) : FF := fun ds S Q Ed => ds.length = np ∧ fb [] (startD n ds) S (fun ys _ S' => Q (.lst false ys) S') Ed
section
variable {X : Cx} {E : XK} {st : Stmt} {rest : List Stmt} {f g : FY} {fs : FS} {e : Expr} {fe : FE} {pos yp : Pos}
theorem y_plain (h : PSd X E st fs) : GSd X E st (yPlain fs) :=
  GS.imp (gs_ps h) fun D ys σ H ⟨μ, S, ρ, ds, k, Ed, w, en, r, hf, q, px⟩ =>
    ⟨μ, S, ρ, _, Ed, w, en, hf, ⟨fun ρ' S' σ' H' μ' h fw w' en' => q ds ρ' S' ys σ' H' μ' h fw w' en' (r.fw w fw), fun _ _ _ _ _ z => z.elim, fun _ _ _ _ _ z => z.elim, fun _ _ _ _ _ z => z.elim⟩, px⟩
theorem y_yield (he : PEd X (cE E) e fe) (hco : X.env.scope.isCoroutine = false := by rfl) (hi : interactive X.env = false := by rfl) : GSd X E (.Expr (.Yield (some e) yp) pos) (yYield fe) := by
  refine GS.imp (gs_yield he hco hi) fun D ys σ H ⟨μ, S, ρ, ds, k, Ed, w, en, r, ⟨hl, hf⟩, q, px⟩ => ⟨by rw [r.length]; exact hl, ?_⟩
  exact tR_of w en hf px fun d S1 v H1 μ1 h1 f1 w1 en1 px1 r1 => q _ ρ S1 _ σ H1 μ1 h1 f1 w1 en1 ((r.fw w f1).append (.cons r1 .nil))
theorem y_end : GBd X E [] yEnd := GSs.imp gss_nil fun D ys σ H ⟨μ, S, ρ, ds, k, Ed, w, en, r, hf, q, px⟩ => q ds ρ S ys σ H μ hf Fw.refl w en r
theorem y_seq (h1 : GSd X E st f) (h2 : GBd X E rest g) : GBd X E (st :: rest) (ySeq f g) := by
  refine GSs.imp (gss_cons h1 h2) fun D ys σ H ⟨μ, S, ρ, ds, k, Ed, w, en, r, hf, q, px⟩ => ?_
  exact ⟨μ, S, ρ, ds, _, Ed, w, en, r, hf, fun ds' ρ' S' ys' σ' H' μ' h fw w' en' r' => ⟨μ', S', ρ', ds', k, Ed, w', en', r', h, fun ds2 ρ2 S2 ys2 σ2 H2 μ2 hk f2 w2 en2 r2 => q ds2 ρ2 S2 ys2 σ2 H2 μ2 hk (fw.trans f2) w2 en2 r2, px.fw fw⟩, px⟩
end
/-! ## the def, its promise -/
def spY (c : Ct) (F : FF) : SpG := fun vs H Q E => ∃ μ S ds Qd Ed, Wd c μ S H ∧ RpAll c μ H vs ds ∧ F ds S Qd Ed ∧
  (∀ yd S' ys H' μ', Qd (.lst false yd) S' → Fw μ H μ' H' → Wd c μ' S' H' → RpAll c μ' H' ys yd → Q ys H') ∧ PX c μ H Ed E
section
variable {pr : Program} {wo : World} {K : PySem.W.Frag} {mg : Str → Option Value} {b0 : Heap} {lv : Nat} {x qn : Str} {st : Stmt} {fn : Addr} {dat : FuncData} {NN pars : List Str} {fb : FY}
theorem y_fn (F : Fun K x qn st fn dat) (S : GScope NN pars (defScope st))
    (body : ∀ (cdv : Value) (A : Around) (out : List Env) (s : Shared) (H : Hp) (E : XK) (pn : List (Addr × Obj)), Room lv (A.deeper (envOfC qn (defScope st) s.heap.objs.size fn cdv)) → GBd (gcxOf pr wo K mg b0 NN qn (defScope st) fn cdv A out s H E pn) E (defBody st) fb) :
    GFn pr wo K mg b0 (lv + 1) fn dat pars (spY (ct0 K mg) (yDef pars.length NN.length fb)) := by
  obtain ⟨oc, od, kV, dc, pv, an, cdv, ct, osl, rfl, at_, code⟩ := F.ex
  refine gfn_of at_ code S (fun vs H Q E pro => ?_) fun A out s H vs Q E pn rm pro => ⟨_, body cdv A out s H E pn rm, ?_⟩
  · obtain ⟨μ, S, ds, Qd, Ed, w, r, ⟨hl, _⟩, _⟩ := pro
    rw [r.length]
    exact hl
  · obtain ⟨μ, S, ds, Qd, Ed, w, r, ⟨hl, h⟩, q, px⟩ := pro
    exact ⟨μ, S, _, [], _, Ed, w, startD_env r, .nil, h, fun ds' ρ' S' ys' σ' H' μ' hq f w' en' r' => q ds' S' ys' H' μ' hq f w' r', px⟩
end
section
variable {X : Cx} {lv : Nat} {E : XK} {ob ke : Expr} {fo fk : FE} {mn kw : Str} {tab : List (Str × FF)} {p1 p2 kp : Pos}
theorem runGen {k : Nat} {fn : Addr} {dat : FuncData} {pars : List Str} {sp : SpG} {pins : List (Addr × Obj)} {σ : L2.St} {H : Hp} {s : Shared} {us args : List Value} {kws : List (Str × Value)} {vs : List V} {cont : List V → Hp → Prop} {E1 : Value → Shared → Prop} (F : GFn X.prog X.w X.K X.mg X.base k fn dat pars sp) (rm : Room k X.A)
    (b : BindsTo s dat ⟨args, kws⟩ (pars.zip us)) (I : Inv X pins σ H s) (vx : Vals vs us) (pro : sp vs H cont E) :
    wpAny (model X.prog X.w) X.A (call (.ref fn) args kws) (fun u s' => ∃ H1 sc ex, Inv X pins σ H1 sc ∧ ExOk X pins ex ∧ GMade X.prog X.w k X.stack H1 sc ex cont E u s') E1 s := by
  refine wpAny_call (codeAny_mono (F.run X.A X.stack s H ⟨args, kws⟩ us vs cont E rm I.env0 b vx pro) fun r s2 hq => ?_)
  match r, hq with
  | .error e, hq => exact (hq : False).elim
  | .ok (.ret u), hq => exact ⟨H, s, [], I, .nil, hq⟩
  | .ok .next, hq => exact (hq : False).elim
  | .ok .brk, hq => exact (hq : False).elim
  | .ok .cont, hq => exact (hq : False).elim
def tgD (c : Ct) (E : XK) (f : FE) : TGen := fun σ H cont => ∃ μ S ρ Qd Ed, Wd c μ S H ∧ EnvR c μ H σ ρ ∧ f ρ S Qd Ed ∧
  (∀ yd S' ys H' μ', Qd (.lst false yd) S' → Fw μ H μ' H' → Wd c μ' S' H' → RpAll c μ' H' ys yd → cont ys H') ∧ PX c μ H Ed E
theorem noStopE0 {K : PySem.W.Frag} : NoStop K E0 := fun _ _ _ h => h.elim
/-- list(g) -/
theorem d_listG {e : Expr} {f : FE} {p pos : Pos} (h : PGen X lv e (tgD (ct X) E f) E) (hx : Passes (CX X.prog X.w) X E) (hns : NoStop X.K E) (rm : Room (lv + 3) X.A) (gl : Gl X "list") (hm : X.mg "list" = none)
    (hv : bootBuiltins "list" = some (.type "list")) (he : starEach [e] X.env = (false, eval e X.env) :: starEach [] X.env := by rfl) : PEd X (cE E) (.Call (.Name "list" p) [e] [] pos) f := by
  refine PE.imp (pe_listG h hx hns rm gl hm hv (by decide) (by decide) he) fun σ H Q ⟨μ, S, ρ, Qd, Ed, w, en, hf, q, px⟩ => ?_
  refine ⟨μ, S, ρ, Qd, Ed, w, en, hf, fun yd S' ys H' μ' hq fw w' ra p hp => ?_, px⟩
  exact q _ S' _ _ μ' hq (fw.trans (Fw.new hp)) (w'.new hp) (w'.newL ra hp (fun z => nomatch z))
end
end Pu
namespace Pu
open PySem PySem.Spec PyProof.Rows L2
/-! ## range(i, j, -1) -/
def downD (lo : Int) (n : Nat) : List D := (List.range n).map fun i : Nat => D.int (lo - (i : Int))
theorem downD_get {lo : Int} {n i : Nat} {d : D} (h : (downD lo n)[i]? = some d) : i < n ∧ d = .int (lo - (i : Int)) := by
  unfold downD at h
  rw [List.getElem?_map] at h
  obtain ⟨j, e1, rfl⟩ := Option.map_eq_some_iff.mp h
  obtain ⟨h1, h2⟩ := List.getElem?_eq_some_iff.mp e1
  rw [List.getElem_range] at h2
  rw [List.length_range] at h1
  subst h2
  exact ⟨h1, rfl⟩
theorem itc_ok {c : Ct} {lo : Int} {n : Nat} : ItOk c (Itc lo (-1) n) (downD lo n) [] (fun _ _ => True) where
  keep := fun _ _ => trivial
  go := fun {μ S H} _ w _ i d hd => by
    obtain ⟨h1, rfl⟩ := downD_get hd
    refine ⟨h1, fun x H' hy => ?_⟩
    obtain ⟨rfl, rfl⟩ := hy
    refine ⟨Fw.refl, w, ?_⟩
    rw [show lo + (i : Int) * (-1) = lo - (i : Int) by omega]
    exact .int _
  stop := fun {μ S H} _ _ _ => by
    show n ≤ (downD lo n).length
    unfold downD
    rw [List.length_map, List.length_range]
    exact Nat.le_refl _
end Pu
namespace Pu
open PySem PySem.Spec PyProof.Rows L2
/-! ## the truth of a tuple, as a test -/
def onTr (d : D) (k : Bool → Prop) : Prop := match d with | .tup xs => k (!xs.isEmpty) | .bl b => k b | _ => False
theorem onTr_of {d : D} {k : Bool → Prop} (h : onTr d k) : (∃ xs, d = .tup xs ∧ k (!xs.isEmpty)) ∨ ∃ b, d = .bl b ∧ k b := by
  cases d with
  | tup xs => exact .inl ⟨xs, rfl, h⟩
  | bl b => exact .inr ⟨b, rfl, h⟩
  | _ => exact h.elim
def dTestU (f : FE) : FT := fun ρ S Q Ed => f ρ S (fun d S1 => onTr d fun b => Q b S1) Ed
section
variable {X : Cx} {E : L2.St → XK} {e : Expr}
theorem d_tvalU {f : FE} (h : PEd X E e f) (he : ∀ whole, isTrue e X.env whole = (do let v ← whole; standAt e.pos; holding [v] (truthy v)) := by intro _; rfl) : PTd X E e (dTestU f) := by
  refine PT.imp (pt_truth h he) fun σ H Q ⟨μ, S, ρ, Qd, Ed, w, en, hf, q, px⟩ => ?_
  refine tR_of w en hf px fun x S1 v H1 μ1 h1 f1 w1 en1 px1 r1 => ?_
  rcases onTr_of h1 with ⟨xs, rfl, hb⟩ | ⟨b, rfl, hb⟩
  · obtain ⟨a, vs, rfl, ha, ra⟩ := r1.tup_inv
    refine ⟨!xs.isEmpty, .inr (.inl ⟨vs, SqT.of ha, ?_⟩), q _ S1 _ H1 μ1 hb f1 w1 rfl⟩
    cases ra <;> rfl
  · rw [r1.bl_inv]
    exact ⟨b, rfl, q b S1 b H1 μ1 hb f1 w1 rfl⟩
end
end Pu
namespace Pu
open PySem PySem.Spec PyProof.Rows L2
/-! ## several except clauses, each of one class or of two, with a name or without -/
section
variable {X : Cx}
/-- an error in the hand of the clauses: sI is the state without it -/
structure InHand (X : Cx) (B : Heap) (a : Addr) (cls : Value) (d : Option Addr) (pins : List (Addr × Obj)) (σ : L2.St) (H : Hp) (sI s' : Shared) : Prop where
  inv : Inv X pins σ H sI
  gr : ∀ b o, sI.heap.get? b = some o → b ∉ frs X.stack → B.get? b = some o
  na : H a = none
  os : s'.os = sI.os
  ag : AllBare s'.gens
section
variable {B : Heap} {a : Addr} {cls : Value} {d : Option Addr} {pins : List (Addr × Obj)} {σ : L2.St} {H : Hp} {sI s' : Shared} {h : Heap}
theorem InHand.now (c : InHand X B a cls d pins σ H sI s') (f : HandSPX.FlyingZ B (X.env :: X.outer) a (Zc cls d) h) (u : sI.heap.UpToSlots h) : Inv X pins σ H { s' with heap := h } := c.inv.landed c.gr f.1 u c.os c.ag
end
end
end Pu
/-! sorted of tuples of whole numbers, of any lengths, the first one empty -/
namespace PuSt
open PySem PySem.Calls PySem.W PyProof.Rows
def IsTI (hp : Heap) (v : Value) (ns : List Int) : Prop := ∃ (a : Addr) (dd : Option Addr) (items : Array Value) (n : Nat) (sl : Array (Option Value)), v = .ref a ∧ hp.get? a = some { cls := .type "tuple", dict := dd, data := .seq items n, slots := sl } ∧ IntsAre items.toList ns
theorem IsTI.keeps {hp hp' : Heap} {v : Value} {ns : List Int} (x : IsTI hp v ns) (k : ∀ b o, hp.get? b = some o → o.cls = .type "tuple" → hp'.get? b = some o) : IsTI hp' v ns := by
  obtain ⟨a, dd, items, n, sl, e, g, i⟩ := x
  exact ⟨a, dd, items, n, sl, e, k _ _ g rfl, i⟩
theorem IsTI.type {M : Model} {hp : Heap} {v : Value} {ns : List Int} (x : IsTI hp v ns) : Looks M hp (typeOf v) (.type "tuple") := by
  obtain ⟨a, dd, items, n, sl, rfl, g, i⟩ := x
  exact (Looks.ld g).andThen .now
section
variable {prog : Program} {w : World} {A : Around} {E : Value → Shared → Prop} {s : Shared}
theorem lt_ti {v u : Value} {ns ms : List Int} {Q : Bool → Shared → Prop} (hu : A.units < cLine) (hv : IsTI s.heap v ns) (hw : IsTI s.heap u ms) (h : Q (HT.lexLt ns ms) s) : wpAny (model prog w) A (keyLt' oneType' v u) Q E s := by
  have tv : Looks (model prog w) s.heap (typeOf v) (.type "tuple") := hv.type
  have sp : Looks (model prog w) s.heap (specialOf v "__lt__") (some (.builtin "tuple.__lt__")) := tv.andThen (by rw [show typeLookup (.type "tuple") "__lt__" = pure (some (.builtin "tuple.__lt__")) from PySem.F.slot_tuple_lt.lookup]; exact .now)
  obtain ⟨a, dd, items, n, sl, rfl, ga, ia⟩ := hv
  obtain ⟨b, dd2, items2, n2, sl2, rfl, gb, ib⟩ := hw
  rw [keyLt'_oneType, oneLt'_eq]
  simp only [if_true]
  refine wpAny_bind (wpAny_cRoomFor hu ?_)
  refine wpAny_bind (NtL.csib (E := E) sp (PySem.F.slot_tuple_lt.bind _) (call_meets PySem.F.slot_tuple_lt ⟨_, ga, rfl⟩ PySem.F.entry_tuple_lt (PySem.F.args_tuple_lt_2 _ _) (HT.tuple_lt_ints a b items items2 n n2 dd dd2 sl sl2 ns ms ia ib) ⟨ga, gb, ?_⟩))
  exact wpAny_truthy_bool h
theorem firsts_ti : ∀ (vs : List Value) {k : Value → List Int} {Q : List (Option Value) → Shared → Prop}, (∀ v ∈ vs, IsTI s.heap v (k v)) → (∀ fs : List (Option Value), fs.length = vs.length → (∀ (i : Nat) (v : Value), vs[i]? = some v → k v = [] → fs[i]? = some none) → Q fs s) → wpAny (model prog w) A (vs.mapM firstOfTuple') Q E s
  | [], k, Q, _, h => by rw [List.mapM_nil]; exact wpAny_pure (h [] rfl fun i v e _ => by simp at e)
  | v :: vs, k, Q, t, h => by
    obtain ⟨a, dd, items, n, sl, rfl, ga, ia⟩ := t v List.mem_cons_self
    rw [List.mapM_cons]
    refine wpAny_bind ?_
    rw [kas_first_eq]
    refine wpAny_bind (Looks.here (show Looks (model prog w) s.heap (typeOf (.ref a)) (.type "tuple") from (Looks.ld ga).andThen .now) ?_)
    rw [if_neg (by first | decide | simp)]
    refine wpAny_bind (listItems_at ga rfl (wpAny_pure ?_))
    refine wpAny_bind (firsts_ti vs (k := k) (Q := fun bs s' => wpAny (model prog w) A (pure (items[0]? :: bs)) Q E s') (fun u hu => t u (List.mem_cons_of_mem _ hu)) fun fs hl hf => wpAny_pure (h _ (by rw [List.length_cons, List.length_cons, hl]) fun i u e z => ?_))
    cases i with
    | zero =>
      cases e
      rw [z] at ia
      have : items.toList = [] := by cases hq : items.toList with
        | nil => rfl
        | cons x r => rw [hq] at ia; cases ia
      rw [show items = #[] from Array.toList_eq_nil_iff.mp this]
      rfl
    | succ i => exact hf i u e z
theorem kind_ti {v : Value} {vs : List Value} {k : Value → List Int} {Q : SortKind → Shared → Prop} (t : ∀ u ∈ v :: vs, IsTI s.heap u (k u)) (h0 : k v = []) (h : Q oneType' s) : wpAny (model prog w) A (keyKind' (v :: vs).toArray) Q E s := by
  rw [keyKind'_eq, List.mapM_toArray, map_eq_pure_bind]
  refine wpAny_bind (wpAny_bind (firsts_ti (v :: vs) t fun fs hl hf => wpAny_pure ?_))
  have h1 := hf 0 v rfl h0
  cases fs with
  | nil => simp at hl
  | cons f fr =>
    cases h1
    rw [if_neg (by simp), if_neg (by simp)]
    rw [oneTypeOnly'_eq, List.mapM_toArray, map_eq_pure_bind]
    refine wpAny_bind (wpAny_bind (wpAny_bind (kas_mapM (r := .type "tuple") _ (fun u hv Q' hq => ((t u hv).type).here hq) (wpAny_pure ?_))))
    have hall : ((List.map (fun _ => Value.type "tuple") (v :: vs)).toArray.all fun x => x == Value.type "tuple") = true := by
      simp only [List.all_toArray, List.all_map, List.all_eq_true]
      intro _ _
      rfl
    have h0 : (List.map (fun _ => Value.type "tuple") (v :: vs)).toArray[0]? = some (Value.type "tuple") := by simp
    rw [h0]
    simp only [hall, if_true]
    exact wpAny_pure (wpAny_pure h)
theorem sortable_ti {a : Addr} {v : Value} {vs : List Value} {k : Value → List Int} (hu : A.units < cLine) (hv : ∀ u ∈ v :: vs, IsTI s.heap u (k u)) (h0 : k v = []) (ha : ∀ o, s.heap.get? a = some o → o.cls ≠ .type "tuple") :
    SrtO.SortableO prog w A s a (v :: vs) fun v u => HT.lexLt (k v) (k u) := by
  intro h' keep
  have hv' : ∀ u ∈ v :: vs, IsTI h' u (k u) := fun u hm => (hv u hm).keeps fun b o e c => keep b o (fun z => by subst z; exact ha o e c) e
  refine ⟨oneType', fun Q E hq => kind_ti (s := { s with heap := h' }) hv' h0 hq, ?_⟩
  intro p q hp hq
  exact lt_ti (s := { s with heap := h' }) (Q := fun r s' => s' = { s with heap := h' } ∧ r = HT.lexLt (k p.1) (k q.1)) (E := fun _ _ => False) hu (hv' p.1 hp) (hv' q.1 hq) ⟨rfl, rfl⟩
theorem sorted_ti {l : Addr} {v : Value} {vs : List Value} {k : Value → List Int} {Q : Value → Shared → Prop} (hu : A.in1.in1.units < cLine) (hl : s.heap.IsList l (v :: vs).toArray) (hz : (v :: vs).length ≤ sizeLine) (hp : ∀ u ∈ v :: vs, IsTI s.heap u (k u)) (h0 : k v = [])
    (h : ∀ (h' : Heap) (d : Addr) (out : List Value), SrtO.Srtd (fun v u => HT.lexLt (k v) (k u)) out → SrtO.Stb (fun v u => HT.lexLt (k v) (k u)) out (v :: vs) → (∀ b o, s.heap.get? b = some o → h'.get? b = some o) → s.heap.objs.size ≤ d → (∃ n, h'.get? d = some (seqObj "list" out.toArray n)) → Q (.ref d) { s with heap := h' }) :
    wpAny (model prog w) A (call (.builtin "sorted") [.ref l]) Q E s := by
  refine SrtO.sorted_ord (NtL.swo_lexL k) hl hz (fun h2 h₁ a ha kk => ?_) fun out hs hb => ?_
  · refine sortable_ti (s := { s with heap := h₁ }) hu (fun u hm => (hp u hm).keeps fun b o e _ => (kk b o e).2) h0 fun o e => ?_
    have e' : some o = some (seqObj "list" (v :: vs).toArray 0) := e.symm.trans ha
    cases e'
    intro c
    exact absurd (Value.type.inj c) (by decide)
  · exact h _ _ out hs hb (fun b o e => sortedAll_old e) (Nat.le_succ _) (sortedAll_at s.heap (v :: vs) out.toArray)
end
end PuSt
namespace Pu
open PySem PySem.Spec PyProof.Rows L2
def tupI (ns : List Int) : D := .tup (ns.map D.int)
@[irreducible] def gSortT : List D → Sto → QD → Prop := fun ds S Q => match ds with
  | [d] => onSome (lstOf S d) fun xs => ∃ nss : List (List Int), xs = ([] :: nss).map tupI ∧ ∀ mss : List (List Int), mss.Perm ([] :: nss) → mss.Pairwise (fun a b => HT.lexLt b a = false) → Q (.lst false (mss.map tupI)) S
  | _ => False
def iV : V → Int
  | .int i => i
  | _ => 0
def kT (H : Hp) : V → List Int
  | .ref t => match H t with
    | some (.tup vs) => vs.map iV
    | _ => []
  | _ => []
theorem iV_ints : ∀ ns : List Int, (ns.map V.int).map iV = ns
  | [] => rfl
  | n :: ns => congrArg (n :: ·) (iV_ints ns)
theorem ints_are : ∀ {ns : List Int} {us : List Value}, Vals (ns.map V.int) us → IntsAre us ns
  | [], _, .nil => .nil
  | n :: ns, _, .cons h r => by
    obtain ⟨t, rfl⟩ := h
    exact .cons n t (ints_are r)
section
variable {X : Cx} {c : Ct} {μ : Mu} {H : Hp}
theorem RpAll.tis : ∀ {vs : List V} {nss : List (List Int)}, RpAll c μ H vs (nss.map tupI) → (∀ v ∈ vs, ∃ t, v = .ref t ∧ H t = some (.tup ((kT H v).map V.int))) ∧ vs.map (kT H) = nss
  | [], [], _ => ⟨fun v h => absurd h List.not_mem_nil, rfl⟩
  | [], _ :: _, h => nomatch h
  | _ :: _, [], h => nomatch h
  | v :: vs, ns :: nss, .cons r rs => by
    obtain ⟨h1, h2⟩ := RpAll.tis rs
    obtain ⟨a, ws, rfl, ha, ra⟩ := Rp.tup_inv r
    rw [ra.ints] at ha
    have ek : kT H (.ref a) = ns := by
      show (match H a with
        | some (.tup vs) => vs.map iV
        | _ => []) = ns
      rw [ha]
      exact iV_ints ns
    refine ⟨fun u hu => ?_, by rw [List.map_cons, ek, h2]⟩
    rcases List.mem_cons.mp hu with rfl | hu
    · exact ⟨a, rfl, by rw [ek]; exact ha⟩
    · exact h1 u hu
theorem RpAll.ofTis : ∀ {vs : List V}, (∀ v ∈ vs, ∃ t, v = .ref t ∧ H t = some (.tup ((kT H v).map V.int))) → RpAll c μ H vs ((vs.map (kT H)).map tupI)
  | [], _ => .nil
  | v :: vs, h => by
    obtain ⟨t, e, ht⟩ := h v List.mem_cons_self
    refine .cons ?_ (RpAll.ofTis fun u hu => h u (List.mem_cons_of_mem _ hu))
    rw [e] at ht ⊢
    exact .tup ht (RpAll.ofInts _)
theorem c_sortT (hu : X.A.units + 64 < cLine) : CallR X (.builtin "sorted") (rDs (ct X) gSortT) := by
  intro pins s σ H vs us Q I r ⟨μ, S, ds, Qd, w, ra, hg, q⟩
  unfold gSortT at hg
  split at hg
  · obtain ⟨v, rfl, rv⟩ := ra.one
    obtain ⟨xs, e, hg⟩ := onSome_of hg
    obtain ⟨a, ws, rfl, hs, rs⟩ := rv.lstT w e
    obtain ⟨nss, rfl, hg⟩ := hg
    obtain ⟨t1, t2⟩ := rs.tis
    obtain ⟨its, rw', hl, hz⟩ := I.list (SqL.of hs)
    obtain ⟨u, rfl, ru⟩ := vals1 r
    obtain rfl : u = Value.ref a := ru
    obtain ⟨e1, e2⟩ := refs_back rw' fun x m => by
      obtain ⟨t, e, _⟩ := t1 x m
      exact ⟨t, e⟩
    cases its with
    | nil => rw [e1] at t2; simp at t2
    | cons v0 its =>
      have k0 : kT H (backV v0) = [] := by
        rw [e1, List.map_cons, List.map_cons] at t2
        exact (List.cons.inj t2).1
      refine PuSt.sorted_ti (k := fun u => kT H (backV u)) (by show X.A.units + 1 + 1 < cLine; omega) hl.isList (by rw [← rw'.length]; exact hz) (fun v hv => ?_) k0 fun h' d out h1 h2 kp hd hn => ?_
      · obtain ⟨t, rfl⟩ := e2 v hv
        have hm : V.ref t ∈ ws := by rw [e1]; exact List.mem_map.mpr ⟨_, hv, rfl⟩
        obtain ⟨t', e, ht⟩ := t1 _ hm
        cases e
        obtain ⟨_, its2, r2, o, ho, hc, n, hd⟩ := I.hok _ _ ht
        obtain ⟨cls, dd, data, sl⟩ := o
        simp only at hc hd
        subst hc hd
        exact ⟨t, dd, its2.toArray, n, sl, rfl, ho, ints_are (by rw [show its2.toArray.toList = its2 from rfl]; exact r2)⟩
      · have h3 : ∀ u ∈ out, ∃ a, u = Value.ref a := fun u hu => e2 u (h2.perm.mem_iff.mp hu)
        obtain ⟨n, hn⟩ := hn
        have pm : (out.map backV).Perm ws := by
          rw [e1]
          exact h2.perm.map backV
        have pk := pm.map (kT H)
        rw [t2] at pk
        have t3 : ∀ v ∈ out.map backV, ∃ t, v = .ref t ∧ H t = some (.tup ((kT H v).map V.int)) := fun v hv => t1 v (pm.mem_iff.mp hv)
        have sr : ((out.map backV).map (kT H)).Pairwise (fun a b => HT.lexLt b a = false) := by
          rw [List.map_map]
          exact List.pairwise_map.mpr h1
        have fin := q.lst w (RpAll.ofTis t3) (hg _ pk sr) (I.hok.fresh hd)
        refine ⟨.ref d, upd H d (.lst (out.map backV)), I.laid (t' := s.toks) kp hd ⟨?_, out, n, vals_back h3, hn⟩, rfl, fin⟩
        rw [pm.length_eq]
        exact hz
  · exact hg.elim
theorem sortT_of {d : D} {S : Sto} {Q : QD} {xs : List D} {nss : List (List Int)} (e : lstOf S d = some xs) (ex : xs = ([] :: nss).map tupI) (q : ∀ mss : List (List Int), mss.Perm ([] :: nss) → mss.Pairwise (fun a b => HT.lexLt b a = false) → Q (.lst false (mss.map tupI)) S) : gSortT [d] S Q := by
  unfold gSortT
  show onSome (lstOf S d) _
  rw [e]
  exact ⟨nss, ex, q⟩
end
end Pu
namespace Pu
open PySem PySem.Spec PyProof.Rows L2
/-! ## a def that is called with the error that is handled -/
structure RmE (k : Nat) (A : Around) : Prop where
  dp : A.depth + 3 * k + 5 < recursionLimit
  un : A.units + 16 * k + 200 < cLine
theorem RmE.units {k : Nat} {A : Around} (r : RmE k A) : A.units + 64 < cLine := by have := r.un; omega
theorem RmE.mono {j k : Nat} {A : Around} (r : RmE k A) (h : j ≤ k) : RmE j A := ⟨by have := r.dp; omega, by have := r.un; omega⟩
theorem RmE.of {k : Nat} {A : Around} (r : Room k A) : RmE k A := ⟨r.dp, r.un⟩
end Pu
namespace Pu
open PySem PySem.Spec PyProof.Rows L2 Builtin Builtin.Str
/-! ## upper of a text -/
/-! ## replace with a count -/
/-! ## where a token has been given out -/
section
variable {X : Cx}
theorem PET.imp {e : Expr} {t t' : TE} (h : PET X e t) (k : ∀ σ H Q, t' σ H Q → t σ H Q) : PET X e t' := fun pins s σ H Q h0 I q => h pins s σ H Q h0 I (k σ H Q q)
theorem PST.imp {e : Stmt} {t t' : TS} (h : PST X e t) (k : ∀ D σ H, t' D σ H → t D σ H) : PST X e t' := fun pins s σ H D h0 I q => h pins s σ H D h0 I (k D σ H q)
theorem PSsT.imp {e : List Stmt} {t t' : TS} (h : PSsT X e t) (k : ∀ D σ H, t' D σ H → t D σ H) : PSsT X e t' := fun pins s σ H D h0 I q => h pins s σ H D h0 I (k D σ H q)
end
/-! ## what gives a token out -/
/-! ## a text, a few times -/
/-! ## a text not in a text -/
end Pu
namespace Pu
open PySem PySem.Spec PyProof.Rows L2 LamX
/-! ## cells of the def around, told for the time of a call -/
def rem (cs : List Addr) (H : Hp) : Hp := fun b => if b ∈ cs then none else H b
def add (cs : List Addr) (G H : Hp) : Hp := fun b => if b ∈ cs then G b else H b
section
variable {cs : List Addr} {G H : Hp} {b : Addr}
/-- what stands at cs are told things of which nothing is said -/
def FzH (cs : List Addr) (G : Hp) : Prop := ∀ b ∈ cs, ∃ o, G b = some (.frz o extT)
end
/-! ### what is known, with more and with less -/
/-! ## a lambda of one parameter, called -/
structure LamG (pr : Program) (wo : World) (K : PySem.W.Frag) (mg : Str → Option Value) (b0 : Heap) (lv : Nat) (x : Lam) (sp : Sp) : Prop where
  goes : ∀ (A : Around) (out : List Env) (s : Shared) (H : Hp) (av : List Addr) (f : Addr) (us : List Value) (xs vs : List V) (Q : VK), Room lv A → A.guards = some [] → Env0 pr wo K mg b0 A out s H → LamAt H av f x vs → Vals xs us →
    (∀ cs : List Addr, FzH cs H → (∀ b ∈ cs, b ∉ av) → sp (xs ++ vs) (rem cs H) (fun v H' => (∀ b ∈ cs, H' b = none) → Q v (add cs H H')) fun _ _ _ => False) →
    codeAny (model pr wo) A (.call (.ref f) ⟨us, []⟩) (CR CX0 out pr wo H s Q fun _ _ _ => False) s
end Pu
namespace Pu
open PySem PySem.Spec PyProof.Rows L2 LamX
/-! ## a lambda is made -/
/-! ## a lambda's meaning -/
def LamF (pr : Program) (wo : World) (K : PySem.W.Frag) (mg : Str → Option Value) (b0 : Heap) (lv : Nat) (x : Lam) (F : FF) : Prop := LamG pr wo K mg b0 lv x (spF (ct0 K mg) F)
/-! ## a name that holds a lambda is called -/
end Pu
namespace Pu
open PySem PySem.Spec PyProof.Rows L2 LamX
/-! ## what the written part says of a def in which a lambda stands -/
structure TabK (K : PySem.W.Frag) (mg : Str → Option Value) (c P : Addr) : Prop where
  code : ∃ o vs file tf flags tg inF text tt, K.lookup c = some o ∧ o.cls = .type "code" ∧ o.data = .fields vs ∧ vs[11]? = some (.ref P) ∧ vs.getD 11 .none = .ref P ∧ vs.getD 18 .none = .str file tf ∧
    vs.getD 7 .none = .int flags tg ∧ vs.getD 9 .none = .bool inF ∧ vs.getD 10 .none = .int text tt ∧ c ≠ P
  bm : ∃ a, mg "__builtins__" = some (.ref a) ∧ a ≠ builtinsNs ∧ a ≠ mainGlobals ∧ a ≠ P
  gP : mainGlobals ≠ P
/-- what stands at the module of built-ins -/
def BmB (b : Heap) (mg : Str → Option Value) : Prop := ∀ a, mg "__builtins__" = some (.ref a) → ∃ o, b.get? a = some o ∧ o.cls = .type "module" ∧ o.dict = some builtinsNs ∧ o.data = .plain
theorem TabK.at_ {K : PySem.W.Frag} {mg : Str → Option Value} {c P : Addr} {b : Heap} (t : TabK K mg c P) (hB : BmB b mg) (k : K.In b) : TabB b mg c P := by
  obtain ⟨o, vs, file, tf, flags, tg, inF, text, tt, e, r⟩ := t.code
  obtain ⟨a, e1, e2, e3, e4⟩ := t.bm
  obtain ⟨oa, e5, e6⟩ := hB a e1
  exact ⟨⟨o, vs, file, tf, flags, tg, inF, text, tt, k _ _ e, r⟩, ⟨a, oa, e1, e2, e3, e4, e5, e6⟩, t.gP⟩
/-! ## a def whose code object is known -/
theorem LamF.mono {pr : Program} {wo : World} {K : PySem.W.Frag} {mg : Str → Option Value} {b0 : Heap} {lv l2 : Nat} {x : Lam} {F : FF} (G : LamF pr wo K mg b0 lv x F) (h : lv ≤ l2) : LamF pr wo K mg b0 l2 x F :=
  ⟨fun A out s H av f us xs vs Q rm => G.goes A out s H av f us xs vs Q (rm.mono h)⟩
/-! ## where a lambda stands in a def's text -/
end Pu
namespace Pu
open PySem PySem.Spec PyProof.Rows L2 LamX
/-! ## the law's own call, where the tables of some defs are told -/
theorem lawGT {pr : Program} {wo : World} {K : PySem.W.Frag} {mg mb : Str → Option Value} {lv : Nat} {fn sc : Addr} {dat : FuncData} {x : Str} {sp : Sp} {s : Shared} {us : List Value} {ns : List Int} {cs : List (Addr × Addr)}
    (kin : K.In s.heap) (gns : s.heap.Ns mainGlobals mg) (bns : s.heap.Ns builtinsNs mb) (boot : ∀ y : Str, y ≠ "__name__" → mb y = bootBuiltins y) (nol : s.heap.NoLimit) (ge : s.gens = #[])
    (tabs : ∀ p ∈ cs, s.heap.get? p.2 = some { cls := .none, data := .fields #[] } ∧ K.lookup p.2 = none ∧ PySem.W.CodeHd s.heap p.1 p.2)
    (at_ : s.heap.get? sc = some { cls := .type "list", data := .seq us.toArray }) (ia : IntsAre us ns) (few : ns.length ≤ sizeLine) (rm : Room lv callerA)
    (hBm : BmB s.heap mg) (F : ∀ b0 : Heap, K.In b0 → b0.Ns mainGlobals mg → BmB b0 mg → Rb.FnG pr wo K mg b0 CX0 lv fn dat [x] sp) (bi : ∀ (z : Shared) (u : Value), BindsTo z dat ⟨[u], []⟩ [(x, u)])
    (pro : ∀ H : Hp, (∀ p ∈ cs, H p.2 = some (.tbl #[])) → SqL K H sc (ns.map V.int) → sp [.ref sc] H (fun v _ => v = .bl true) fun _ _ _ => False) :
    codeAny (model pr wo) callerA (.call (.ref fn) ⟨[.ref sc], []⟩) (fun r z => r = .ok (.ret (.bool true)) ∧ OldK s.heap z.heap ∧ z.os = s.os ∧ AllBare z.gens) s := by
  have scT : sc ∉ cs.map (·.2) := fun z => by
    obtain ⟨p, hp, e⟩ := List.mem_map.mp z
    have := (tabs p hp).1
    rw [e, at_] at this
    cases (show Data.seq us.toArray _ = Data.fields #[] from congrArg Obj.data (Option.some.inj this))
  have tabAt : ∀ b ∈ cs.map (·.2), s.heap.get? b = some { cls := .none, data := .fields #[] } := fun b hb => by
    obtain ⟨p, hp, e⟩ := List.mem_map.mp hb
    rw [← e]
    exact (tabs p hp).1
  have go : ∀ H : Hp, (∀ b o, H b = some o → (b = sc ∧ ∃ ob xs, o = .frz ob (.lst xs)) ∨ (b ∈ cs.map (·.2) ∧ o = .tbl #[])) → (∀ p ∈ cs, H p.2 = some (.tbl #[])) → SqL K H sc (ns.map V.int) → HOk pr wo H s.heap → (H sc ≠ none → K.lookup sc = none) →
      codeAny (model pr wo) callerA (.call (.ref fn) ⟨[.ref sc], []⟩) (fun r z => r = .ok (.ret (.bool true)) ∧ OldK s.heap z.heap ∧ z.os = s.os ∧ AllBare z.gens) s := by
    intro H one tb sq hok notK
    have dicts : ∀ {b : Addr} {o : Obj} {es : Array DictEntry} {ep : Nat}, s.heap.get? b = some o → o.data = .dict es ep → H b = none := by
      intro b o es ep e d
      match q : H b with
      | none => rfl
      | some u =>
        rcases one b u q with ⟨rfl, _⟩ | ⟨hb, _⟩
        · rw [at_] at e
          cases e
          cases (show Data.seq us.toArray _ = Data.dict es ep from d)
        · rw [tabAt b hb] at e
          cases e
          cases (show Data.fields #[] = Data.dict es ep from d)
    have names : ∀ {b : Addr} {m : Str → Option Value}, s.heap.Ns b m → (hidT s.heap H).Ns b m := by
      rintro b m ⟨o, es, ep, e, d, r⟩
      exact ⟨o, es, ep, hidT_get e (dicts e d), d, r⟩
    have kin2 : K.In (hidT s.heap H) := by
      intro b o e
      refine hidT_get (kin b o e) ?_
      match q : H b with
      | none => rfl
      | some u =>
        rcases one b u q with ⟨rfl, _⟩ | ⟨hb, _⟩
        · rw [notK (by rw [q]; exact Option.some_ne_none u)] at e
          cases e
        · obtain ⟨p, hp, rfl⟩ := List.mem_map.mp hb
          rw [(tabs p hp).2.1] at e
          cases e
    have bmb : BmB (hidT s.heap H) mg := fun a ea => by
      obtain ⟨o, e1, e2, e3, e4⟩ := hBm a ea
      refine ⟨o, hidT_get e1 ?_, e2, e3, e4⟩
      match q : H a with
      | none => rfl
      | some u =>
        rcases one a u q with ⟨rfl, _⟩ | ⟨hb, _⟩
        · rw [at_] at e1
          cases e1
          exact absurd (Value.type.inj (show Value.type "list" = Value.type "module" from e2)) (by decide)
        · rw [tabAt a hb] at e1
          cases e1
          cases (show Value.none = Value.type "module" from e2)
    have md : Mod K mg (hidT s.heap H) := by
      obtain ⟨mc, n1, n2⟩ := nol
      exact ⟨kin2, names gns, ⟨mb, names bns, boot⟩, ⟨mc, names n1, n2⟩⟩
    have env : Env0 pr wo K mg (hidT s.heap H) callerA [] s H :=
      { frames := rfl, mod := md, bs := fun _ _ e => of_hidT e, bsz := Nat.le_of_eq (hidT_size _ _), funs := trivial, frf := (fun _ z => nomatch z), hok := hok, bare := .of_eq ge }
    refine codeAny_mono ((F _ kin2 (names gns) bmb).goes callerA [] s H ⟨[.ref sc], []⟩ [.ref sc] [.ref sc] _ _ rm rfl env (bi s (.ref sc)) (.cons rfl .nil) (pro H tb sq)) ?_
    intro res z fin
    match res, fin with
    | .error e, fin => exact (fin : False).elim
    | .ok .next, fin => exact (fin : False).elim
    | .ok .brk, fin => exact (fin : False).elim
    | .ok .cont, fin => exact (fin : False).elim
    | .ok (.ret u), ⟨v, H2, os, bare, un, hok2, rv, q⟩ =>
      cases (q : v = .bl true)
      cases (rv : u = Value.bool true)
      have same : ∀ b o, b ∉ cs.map (·.2) → s.heap.get? b = some o → z.heap.get? b = some o := by
        intro b o nb e
        match w : H b with
        | none => exact un.keep b o e w (fun z => nomatch z) (fun z => nomatch z)
        | some uo =>
          rcases one b uo w with ⟨rfl, ob, xs, rfl⟩ | ⟨hb, _⟩
          · have e1 := (hok b _ w).1
            have e2 := (hok2 b _ (un.frzs b ob _ w)).1
            exact e2.trans (e1.symm.trans e)
          · exact absurd hb nb
      have wider : ∀ p ∈ cs, ∃ more : Array Value, z.heap.get? p.2 = some { cls := .none, data := .fields more } := fun p hp => by
        obtain ⟨m, hm⟩ := un.tbls p.2 #[] (tb p hp)
        exact ⟨_, hok2 p.2 _ hm⟩
      refine ⟨rfl, ⟨?_, ?_⟩, os, bare⟩
      · intro b o e
        by_cases hb : b ∈ cs.map (·.2)
        · obtain ⟨p, hp, rfl⟩ := List.mem_map.mp hb
          obtain ⟨m, hm⟩ := wider p hp
          obtain ⟨t1, _, t3⟩ := tabs p hp
          rw [t1] at e
          cases e
          refine .inr (.inl ⟨(t3.tab t1).isCodeTable, rfl, #[], m, rfl, ?_⟩)
          rw [Array.empty_append]
          exact hm
        · exact .inl (same b o hb e)
      · intro b o e
        by_cases hb : b ∈ cs.map (·.2)
        · obtain ⟨p, hp, rfl⟩ := List.mem_map.mp hb
          obtain ⟨m, hm⟩ := wider p hp
          exact ⟨_, hm⟩
        · exact ⟨o, same b o hb e⟩
  have vx := vals_ints ia
  have ln := ia.length
  let base : Hp := fun b => if b ∈ cs.map (·.2) then some (.tbl #[]) else none
  have baseOk : HOk pr wo base s.heap := fun b o z => by
    by_cases hb : b ∈ cs.map (·.2)
    · have z : some (HO.tbl #[]) = some o := by rw [← z]; exact (if_pos hb).symm
      cases z
      exact tabAt b hb
    · have z : none = some o := by rw [← z]; exact (if_neg hb).symm
      cases z
  match kk : K.lookup sc with
  | some o =>
    have e := kin sc o kk
    rw [at_] at e
    cases e
    refine go base (fun b o z => ?_) (fun p hp => if_pos (List.mem_map.mpr ⟨p, hp, rfl⟩)) (.inr ⟨_, us.toArray, _, kk, rfl, rfl, rfl, by rw [List.size_toArray, ln]; exact few, by simpa using vx⟩) baseOk (fun z => absurd (if_neg scT) z)
    by_cases hb : b ∈ cs.map (·.2)
    · have z : some (HO.tbl #[]) = some o := by rw [← z]; exact (if_pos hb).symm
      cases z
      exact .inr ⟨hb, rfl⟩
    · have z : none = some o := by rw [← z]; exact (if_neg hb).symm
      cases z
  | none =>
    let one : HO := .frz { cls := .type "list", data := .seq us.toArray } (.lst (ns.map V.int))
    refine go (upd base sc one) ?_ ?_ (.inl (.inr ⟨_, upd_same⟩)) ?_ (fun _ => kk)
    · intro b o z
      by_cases hb : b = sc
      · subst hb
        rw [upd_same] at z
        cases z
        exact .inl ⟨rfl, _, _, rfl⟩
      · rw [upd_ne hb] at z
        by_cases hb2 : b ∈ cs.map (·.2)
        · have z : some (HO.tbl #[]) = some o := by rw [← z]; exact (if_pos hb2).symm
          cases z
          exact .inr ⟨hb2, rfl⟩
        · have z : none = some o := by rw [← z]; exact (if_neg hb2).symm
          cases z
    · intro p hp
      have hm : p.2 ∈ cs.map (·.2) := List.mem_map.mpr ⟨p, hp, rfl⟩
      rw [upd_ne (fun z => scT (by rw [← z]; exact hm))]
      exact if_pos hm
    · intro b o z
      by_cases hb : b = sc
      · subst hb
        rw [upd_same] at z
        cases z
        exact ⟨at_, by rw [List.length_map]; exact few, us, _, vx, at_⟩
      · rw [upd_ne hb] at z
        have := baseOk b o z
        exact this.stay (fun _ _ _ q => q) (fun c q => by
          by_cases hc : c ∈ cs.map (·.2)
          · have q : some (HO.tbl #[]) = some (HO.own b) := by rw [← q]; exact (if_pos hc).symm
            cases q
          · have q : none = some (HO.own b) := by rw [← q]; exact (if_neg hc).symm
            cases q) fun c xs q => by
          by_cases hc : c ∈ cs.map (·.2)
          · have q : some (HO.tbl #[]) = some (HO.tup xs) := by rw [← q]; exact (if_pos hc).symm
            cases q
          · have q : none = some (HO.tup xs) := by rw [← q]; exact (if_neg hc).symm
            cases q
/-- what is asked of a def whose table is told: its name, its code object, its table -/
def TabIs (q : Program) (K : PySem.W.Frag) (p : Str × Addr × Addr) : Prop := ((recsOf q).any fun e => e.name == p.1) = true ∧ K.lookup p.2.2 = none ∧ ∃ fa o fd e dd vs sl, PySem.W.nsIn K mainGlobals p.1 = some (some (.ref fa)) ∧ K.lookup fa = some o ∧ o.data = .func fd ∧ fd.code = .ref p.2.1 ∧ K.lookup p.2.1 = some ⟨e, dd, .fields vs, sl⟩ ∧ vs[11]? = some (.ref p.2.2)
theorem tab_is {q : Program} {K : PySem.W.Frag} {nm : Str} {c P fa : Addr} {o : Obj} {fd : FuncData} {e : Value} {dd : Option Addr} {vs : Array Value} {sl : Array (Option Value)} (e1 : ((recsOf q).any fun e => e.name == nm) = true) (e2 : K.lookup P = none) (e3 : PySem.W.nsIn K mainGlobals nm = some (some (.ref fa))) (e4 : K.lookup fa = some o) (e5 : o.data = .func fd) (e6 : fd.code = .ref c) (e7 : K.lookup c = some ⟨e, dd, .fields vs, sl⟩) (e8 : vs[11]? = some (.ref P)) : TabIs q K (nm, c, P) :=
  ⟨e1, e2, fa, o, fd, e, dd, vs, sl, e3, e4, e5, e6, e7, e8⟩
/-- from what the law's own meaning gives to the row's claim; cs: the defs whose tables are told, their code objects and their tables -/
theorem endPT {l : PySem.W.OpenLaw} {n lv : Nat} {q : Program} {loose : List Str} {XP : (Str → Option Value) → Heap → Prop} {YP : World → Heap → Prop} {d : DefRec} {KK : Params → PySem.W.Frag} {FL : FF} {x : Str} (cs : List (Str × Addr × Addr))
    (most : l.most = some n) (few : n ≤ sizeLine) (nodef : d.params.defaults = []) (rm : Room lv callerA) (inY : ∀ (w : World) (h : Heap), YP w h → (KK w.params).In h)
    (tab : ∀ (pr : Params), ∀ p ∈ cs, TabIs q (KK pr) p)
    (F : ∀ (w : World) (mg : Str → Option Value) (fn : Addr) (h : Heap), (KK w.params).In h → h.Ns mainGlobals mg → mg d.name = some (.ref fn) →
      ∃ dat : FuncData, (∀ (s : Shared) (u : Value), BindsTo s dat ⟨[u], []⟩ [(x, u)]) ∧ ∀ b0 : Heap, (KK w.params).In b0 → b0.Ns mainGlobals mg → BmB b0 mg → Rb.FnG l.prog w (KK w.params) mg b0 CX0 lv fn dat [x] (spF (ct0 (KK w.params) mg) FL))
    (law : ∀ ns : List Int, ns.length ≤ n → FL [.kls (ns.map D.int)] [] (fun d _ => d = .bl true) noE) (hTb : ∀ pr : Params, tabChk (KK pr) (cs.map (·.2.2)) = true) :
    PySem.W.WalkO q loose XP YP l.row.toRowW d [] (fun f vs => PySem.call f vs) := by
  refine Att.attach_call most nodef ?_
  intro w s0 s1 mg mb fn o pm cd dc a us ns G Y at_ dd cdd gm ob ia ln ge
  have kin := inY w _ Y
  obtain ⟨dat, bi, ok⟩ := F w mg fn _ kin G.T.g gm
  have told : ∀ p ∈ cs, s1.heap.get? p.2.2 = some { cls := .none, data := .fields #[] } ∧ (KK w.params).lookup p.2.2 = none ∧ PySem.W.CodeHd s1.heap p.2.1 p.2.2 := fun p hp => by
    obtain ⟨t1, t2, fa, fo, fd, e, fdd, vs, sl, t3, t4, t5, t6, t7, t8⟩ := tab w.params p hp
    obtain ⟨dL, hm, hn1⟩ := List.any_eq_true.mp t1
    have hn2 : dL.name = p.1 := beq_iff_eq.mp hn1
    obtain ⟨a', o', fd', c', P', h1, h2, h3, h4, h5, h6⟩ := G.T.tab dL hm
    rw [hn2, PySem.W.mg_of kin G.T.g t3] at h1
    cases h1
    have g1 := kin _ _ t4
    rw [g1] at h2
    cases h2
    rw [t5] at h3
    cases h3
    rw [t6] at h4
    cases h4
    have hd := PySem.W.CodeHd.of h5 h6
    obtain ⟨⟨oc, vc, e1, e2, e3, e4⟩, hP⟩ := h6
    have g2 := kin _ _ t7
    rw [g2] at e1
    cases e1
    cases e3
    rw [t8] at e4
    cases e4
    exact ⟨hP, t2, hd⟩
  have ln2 := Nat.le_trans ln few
  refine lawGT (cs := cs.map (·.2)) kin G.T.g G.T.b G.T.builtins G.T.nolimit ge (fun p hp => ?_) ob ia ln2 rm (by
    intro a ea
    obtain ⟨bm, ob, b1, b2, b3, b4, b5, b6⟩ := G.T.bmain
    cases b1.symm.trans ea
    exact ⟨ob, b3, b4, b5, b6⟩) ok bi fun H tb sq => ?_
  · obtain ⟨p', hp', rfl⟩ := List.mem_map.mp hp
    exact told p' hp'
  · refine ⟨⟨[], []⟩, [], _, _, noE, ⟨List.nodup_nil, rfl, (fun _ z => nomatch z), (fun _ z => nomatch z), (fun _ _ _ z => nomatch z), Tbs.start (hTb w.params) fun P hP => ?_⟩, .cons ?_ .nil, law ns ln, fun d S' v H' μ' hq _ _ r => ?_, pxNo⟩
    · obtain ⟨p, hp, rfl⟩ := List.mem_map.mp hP
      exact tb p.2 (List.mem_map.mpr ⟨p, hp, rfl⟩)
    · rcases sq with sq | ⟨o, its, k, h1, h2, h3, h4, h5, h6⟩
      · exact .kls sq (fun z => nomatch z) (fun z => nomatch z) (RpAll.ofInts ns)
      · exact .klsK o its k h1 h2 h3 h4 h5 h6 (RpAll.ofInts ns)
    · cases (hq : d = .bl true)
      exact r.bl_inv
/-- one such def -/
theorem endPT1 {l : PySem.W.OpenLaw} {n lv : Nat} {q : Program} {loose : List Str} {XP : (Str → Option Value) → Heap → Prop} {YP : World → Heap → Prop} {d : DefRec} {KK : Params → PySem.W.Frag} {FL : FF} {x : Str} {c P : Addr} (nm : Str)
    (most : l.most = some n) (few : n ≤ sizeLine) (nodef : d.params.defaults = []) (rm : Room lv callerA) (inY : ∀ (w : World) (h : Heap), YP w h → (KK w.params).In h)
    (tab : ∀ (pr : Params), TabIs q (KK pr) (nm, c, P))
    (F : ∀ (w : World) (mg : Str → Option Value) (fn : Addr) (h : Heap), (KK w.params).In h → h.Ns mainGlobals mg → mg d.name = some (.ref fn) →
      ∃ dat : FuncData, (∀ (s : Shared) (u : Value), BindsTo s dat ⟨[u], []⟩ [(x, u)]) ∧ ∀ b0 : Heap, (KK w.params).In b0 → b0.Ns mainGlobals mg → BmB b0 mg → Rb.FnG l.prog w (KK w.params) mg b0 CX0 lv fn dat [x] (spF (ct0 (KK w.params) mg) FL))
    (law : ∀ ns : List Int, ns.length ≤ n → FL [.kls (ns.map D.int)] [] (fun d _ => d = .bl true) noE) (hTb : ∀ pr : Params, tabChk (KK pr) [P] = true) :
    PySem.W.WalkO q loose XP YP l.row.toRowW d [] (fun f vs => PySem.call f vs) :=
  endPT [(nm, c, P)] most few nodef rm inY (fun pr p hp => by
    cases List.mem_singleton.mp hp
    exact tab pr) F law hTb
end Pu
namespace Pu
open PySem PySem.Spec PyProof.Rows L2 GenW
/-! ## a heap's first addresses -/
def trHeap (n : Nat) (h : Heap) : Heap := ⟨h.objs.extract 0 n, h.life⟩
theorem tr_objs {n : Nat} {h : Heap} {b : Nat} : (h.objs.extract 0 n)[b]? = if b < n then h.objs[b]? else none := by
  by_cases d : b < h.objs.size
  · by_cases c : b < n
    · rw [if_pos c, Array.getElem?_eq_getElem (by rw [Array.size_extract]; omega), Array.getElem?_eq_getElem d, Array.getElem_extract]
      simp
    · rw [if_neg c]
      exact Array.getElem?_eq_none (by rw [Array.size_extract]; omega)
  · have e : h.objs[b]? = none := Array.getElem?_eq_none (by omega)
    rw [e, Array.getElem?_eq_none (by rw [Array.size_extract]; omega)]
    split <;> rfl
theorem tr_get {n : Nat} {h : Heap} {b : Nat} : (trHeap n h).get? b = if b < n then h.get? b else none := by
  unfold Heap.get? trHeap
  dsimp only
  rw [tr_objs]
  by_cases c : b < n
  · rw [if_pos c, if_pos c]
  · rw [if_neg c, if_neg c]
theorem tr_size {n : Nat} {h : Heap} (l : n ≤ h.objs.size) : (trHeap n h).objs.size = n := by
  unfold trHeap
  dsimp only
  rw [Array.size_extract]
  omega
def Tr (n : Nat) (s : Shared) : Shared := ⟨trHeap n s.heap, s.gens, s.drawn, s.toks, s.os⟩
theorem tr_some {n : Nat} {h : Heap} {b : Nat} {o : Obj} (e : (trHeap n h).get? b = some o) : b < n ∧ h.get? b = some o := by
  rw [tr_get] at e
  by_cases c : b < n
  · rw [if_pos c] at e; exact ⟨c, e⟩
  · rw [if_neg c] at e; cases e
theorem tr_at {n : Nat} {h : Heap} {b : Nat} (c : b < n) : (trHeap n h).get? b = h.get? b := by rw [tr_get, if_pos c]
theorem tr_fun {n : Nat} {h base : Heap} : ∀ {l : List Env}, h.FunFrames base l → (∀ L ∈ frs l, L < n) → (trHeap n h).FunFrames base l
  | [], _, _ => trivial
  | env :: r, f, lt => by
    obtain ⟨k, ⟨L, o, e1, e2, e3, e4⟩, fr⟩ := f
    have hm : L ∈ frs (env :: r) := by
      unfold frs
      rw [List.filterMap_cons, e1]
      exact List.mem_cons_self
    refine ⟨k, ⟨L, o, e1, e2, by rw [tr_at (lt L hm)]; exact e3, e4⟩, tr_fun fr fun L' hL => lt L' ?_⟩
    unfold frs
    rw [List.filterMap_cons, e1]
    exact List.mem_cons_of_mem _ hL
/-- nothing has happened since -/
theorem un_tr {n : Nat} {fs : List Addr} {H : Hp} {h : Heap} : Un fs [] H H (trHeap n h) h := by
  refine ⟨fun b o e _ _ _ => (tr_some e).2, fun b o e _ _ _ => ⟨o.slots, ?_⟩, fun b o _ e _ => e, fun b o e _ => ⟨o, (tr_some e).2⟩, fun b xs e => e, fun b o u e => e, fun b ps e => ⟨#[], by rw [Array.append_empty]; exact e⟩⟩
  rw [(tr_some e).2]
/-! ## the context of a generator's body: its locals lie at n -/
def gcxN (n : Nat) (P : Program) (w : World) (K : PySem.W.Frag) (mg : Str → Option Value) (base : Heap) (N : List Str) (qual : Str) (sc : Scope) (f : Addr) (cd : Value) (A : Around) (out : List Env) (s : Shared) (H : Hp) (E : XK) : Cx :=
  { prog := P, w := w, K := K, mg := mg, base := base, A := A.deeper (envOfC qual sc n f cd), N := N, s_0 := s, H_0 := H, env := envOfC qual sc n f cd, outer := out, stack := envOfC qual sc n f cd :: out, ex := [], fn := fun _ => true, calm := true, pn := [],
    xe := fun e s' => wpAny (model P w) (A.deeper (envOfC qual sc n f cd)) (leaving (envOfC qual sc n f cd) e) (fun x s'' => L2.CX P w out H s E e s'' ∧ ∀ p ∈ ([] : List (Addr × Obj)), s''.heap.get? p.1 = some p.2) (fun _ _ => False) s' }
section
variable {n : Nat} {P : Program} {w : World} {K : PySem.W.Frag} {mg : Str → Option Value} {base : Heap} {N : List Str} {qual : Str} {sc : Scope} {f : Addr} {cd : Value} {A : Around} {out : List Env} {s s' : Shared} {H H' : Hp} {E : XK}
theorem gcxN_eq (h : s.heap.objs.size = n) : gcxN n P w K mg base N qual sc f cd A out s H E = gcxOf P w K mg base N qual sc f cd A out s H E [] := by
  subst h
  rfl
/-- the same context over another ground -/
theorem ok_re (o : (gcxN n P w K mg base N qual sc f cd A out s H E).Ok) (sz : s'.heap.objs.size = n) (bs : ∀ (b : Addr) (o : Obj), base.get? b = some o → s'.heap.get? b = some o ∧ H' b = none) (bz : base.objs.size ≤ n) (ff : s'.heap.FunFrames base out) (fz : ∀ b ∈ frs out, H' b = none) (cz : ∀ x c, (envOfC qual sc n f cd).cells.lookup x = some c → n ≤ c) : (gcxN n P w K mg base N qual sc f cd A out s' H' E).Ok := by
  obtain ⟨a1, a2, a3, a4, a5, a6, a7, a8, a9, a10, a11, a12, a13, a14, a15, a16, a17, a18⟩ := o
  refine ⟨a1, a2, a3, a4, ?_, a6, a7, fun x c _ h => ?_, a9, a10, a11, a12, bs, ?_, a15, a16, ff, fz⟩
  · show s'.heap.objs.size ≤ n
    omega
  · show s'.heap.objs.size ≤ c
    rw [sz]; exact cz x c h
  · show base.objs.size ≤ s'.heap.objs.size
    omega
/-- what lies around a generator when it is woken -/
structure Wake (n : Nat) (P : Program) (w : World) (base : Heap) (out : List Env) (B : List Addr) (gp : List (Addr × Obj)) (h1 : Heap) (s2 : Shared) (H2 : Hp) : Prop where
  bare : AllBare s2.gens
  hok : HOk P w H2 s2.heap
  big : n ≤ s2.heap.objs.size
  bs : ∀ (b : Addr) (o : Obj), base.get? b = some o → s2.heap.get? b = some o ∧ H2 b = none
  ff : s2.heap.FunFrames base out
  fz : ∀ b ∈ frs out, H2 b = none
  loc : s2.heap.get? n = h1.get? n
  lz : H2 n = none
  pin : ∀ p ∈ gp, s2.heap.get? p.1 = some p.2 ∧ H2 p.1 = none
  bp : ∀ b ∈ B, ∃ o, s2.heap.get? b = some o ∧ H2 b = none ∧ b ≠ n ∧ b ∉ frs out ∧ ∀ v, o.data ≠ .cell v
theorem base_lt {b : Nat} {o : Obj} {h : Heap} (e : h.get? b = some o) : b < h.objs.size := by
  unfold Heap.get? at e
  by_cases c : b < h.objs.size
  · exact c
  · rw [Array.getElem?_eq_none (by omega)] at e
    cases e
theorem inv_re {gp op : List (Addr × Obj)} {B : List Addr} {σ : L2.St} {H1 H2 : Hp} {s1 s2 : Shared} (I : Inv (gcxN n P w K mg base N qual sc f cd A out s H E) (gp ++ op) σ H1 s1) (z : ∀ x, (envOfC qual sc n f cd).cells.lookup x = none) (bz : base.objs.size ≤ n) (lt : ∀ L ∈ frs out, L < n) (W : Wake n P w base out B gp s1.heap s2 H2) :
    Inv (gcxN n P w K mg base N qual sc f cd A out (Tr n s2) H2 E) (gp ++ pinsAt B s2.heap) σ H2 s2 := by
  have ok := ok_re (s' := Tr n s2) (H' := H2) I.ok (tr_size W.big) (fun b o e => by
    have hb := W.bs b o e
    exact ⟨by show (trHeap n s2.heap).get? b = _; rw [tr_at (Nat.lt_of_lt_of_le (base_lt e) bz)]; exact hb.1, hb.2⟩) bz (tr_fun W.ff lt) W.fz (fun x c h => by rw [z] at h; cases h)
  refine ⟨ok, rfl, W.bare, un_tr, ?_, fun x c h => ?_, W.lz, fun x c h => ?_, fun p hp => ?_, W.hok, I.len⟩
  · obtain ⟨m, ⟨o, es, ep, h1, h2⟩, lk⟩ := I.loc
    refine ⟨m, ⟨o, es, ep, ?_, h2⟩, fun i x v hx hv hs => ?_⟩
    · show s2.heap.get? n = _
      rw [W.loc]
      exact h1
    · obtain ⟨u, r, l⟩ := lk i x v hx hv hs
      refine ⟨u, r, ?_⟩
      rcases l with l | ⟨_, c, l, _⟩
      · exact .inl l
      · have l' : (envOfC qual sc n f cd).cells.lookup x = some c := l
        rw [z] at l'
        cases l'
  · have h' : (envOfC qual sc n f cd).cells.lookup x = some c := h
    rw [z] at h'
    cases h'
  · have h' : (envOfC qual sc n f cd).cells.lookup x = some c := h
    rw [z] at h'
    cases h'
  · have hp' : p ∈ gp ++ pinsAt B s2.heap := hp
    rcases List.mem_append.mp hp' with y | y
    · obtain ⟨_, _, a3, a4, a5⟩ := I.pin p (List.mem_append_right _ (List.mem_append_left _ y))
      obtain ⟨b1, b2⟩ := W.pin p y
      exact ⟨b1, b2, a3, a4, a5⟩
    · obtain ⟨hb, e⟩ := of_pinsAt y
      obtain ⟨o, e', b2, b3, b4, b5⟩ := W.bp p.1 hb
      rw [e] at e'
      cases e'
      exact ⟨e, b2, b3, b4, b5⟩
end
end Pu
namespace Pu
open PySem PySem.Spec PyProof.Rows L2 GenW
/-! ## a generator's body that may be left and woken again -/
structure Gx where
  n : Nat
  P : Program
  w : World
  K : PySem.W.Frag
  mg : Str → Option Value
  base : Heap
  N : List Str
  qual : Str
  sc : Scope
  f : Addr
  cd : Value
  A : Around
  out : List Env
  E : XK
  q : List (Addr × Obj) → Prop
def Gx.env (g : Gx) : Env := envOfC g.qual g.sc g.n g.f g.cd
def Gx.at (g : Gx) (s : Shared) (H : Hp) : Cx := gcxN g.n g.P g.w g.K g.mg g.base g.N g.qual g.sc g.f g.cd g.A g.out (Tr g.n s) H g.E
def Gx.AX (g : Gx) : Around := g.A.deeper g.env
def Gx.c (g : Gx) : Ct := ct0 g.K g.mg
structure Gx.Ok (g : Gx) : Prop where
  z : ∀ x, g.env.cells.lookup x = none
  bz : g.base.objs.size ≤ g.n
  lt : ∀ L ∈ frs g.out, L < g.n
/-- who asks: i items are out; the cells, the store, the heap and the state when the generator is woken -/
abbrev CZ := Nat → Mu → Sto → Hp → Shared → Prop
def YZ (g : Gx) (ds : List D) (C : CZ) (B : List Addr) : Protocol := fun n s₀ v s1 kap => ∃ i μ0 S₀ H₀ x d gp σ μ1 H1, n + 1 + i = ds.length ∧ C i μ0 S₀ H₀ s₀ ∧ RelV x v ∧ Inv (g.at s₀ H₀) (gp ++ pinsAt B s₀.heap) σ H1 s1 ∧ (g.q gp ∧ ∀ p ∈ gp, g.n ≤ p.1 ∧ p.1 ∉ B) ∧ Fw μ0 H₀ μ1 H1 ∧ Wd g.c μ1 S₀ H1 ∧ ds[i]? = some d ∧ Rp g.c μ1 H1 x d ∧
  ∀ μ2 S2 H2 s2, C (i + 1) μ2 S2 H2 s2 → Kp g.c μ1 H1 μ2 H2 → Wd g.c μ2 S2 H2 → Wake g.n g.P g.w g.base g.out B gp s1.heap s2 H2 → kap (.send .none) s2 ∧ kap (.send (.bool true)) s2
abbrev SegZ (g : Gx) (ds : List D) (C : CZ) (B : List Addr) (A : Around) (R : GenEnd) := Seg (model g.P g.w) A R (YZ g ds C B)
/-- a state of the body -/
def AnOk (c : Ct) (An : Mu → Hp → Prop) : Prop := ∀ {μ H μ' H'}, An μ H → Kp c μ H μ' H' → An μ' H'
def Zs (g : Gx) (ds : List D) (C : CZ) (An : Mu → Hp → Prop) (B : List Addr) (gp : List (Addr × Obj)) (n i : Nat) (s₀ : Shared) (S₀ : Sto) (s : Shared) (ρ : Rho) (S : Sto) : Prop := (n + i = ds.length ∧ g.n ≤ s₀.heap.objs.size ∧ (g.q gp ∧ ∀ p ∈ gp, g.n ≤ p.1 ∧ p.1 ∉ B) ∧ ∀ b ∈ B, ∃ o, s₀.heap.get? b = some o) ∧
  ∃ μ0 H₀ μ σ H, C i μ0 S₀ H₀ s₀ ∧ Inv (g.at s₀ H₀) (gp ++ pinsAt B s₀.heap) σ H s ∧ Fw μ0 H₀ μ H ∧ Wd g.c μ S H ∧ EnvR g.c μ H σ ρ ∧ An μ H
theorem inv_perm {X : Cx} {pa pb : List (Addr × Obj)} {σ : L2.St} {H : Hp} {s : Shared} (I : Inv X pa σ H s) (h : ∀ p ∈ pb, p ∈ pa) : Inv X pb σ H s := by
  refine ⟨I.ok, I.os, I.bare, I.base, I.loc, I.cell, I.free, I.freeC, fun p hp => ?_, I.hok, I.len⟩
  rcases List.mem_append.mp hp with z | z
  · exact I.pin p (List.mem_append_left _ z)
  · exact I.pin p (List.mem_append_right _ (h p z))
/-- statements of such a body: how many are out, the store when it was woken, the slots, the store -/
abbrev FZ := List D → Nat → Sto → Rho → Sto → (Nat → Sto → Rho → Sto → Prop) → Prop
structure GZr (A : Around) (c : Code) (fs : List Frame) (gd : Bool → Bool) (AX : Around) : Prop where
  over : A.over c fs = AX
  split : splitAtGen fs = none
  guard : fs.any Frame.guarded = false
  gd : gd false = false
def GZ (g : Gx) (st : List Stmt) (f : FZ) : Prop := ∀ (ds : List D) (C : CZ) (An : Mu → Hp → Prop) (B : List Addr) (gp : List (Addr × Obj)) (A : Around) (R : GenEnd) (n i : Nat) (s₀ : Shared) (S₀ : Sto) (c : Code) (fs : List Frame) (K : Flow → Sem PySem.Fin) (J : Value → Sem PySem.Fin) (gd : Bool → Bool) (lv : List Value → List Value) (s : Shared) (ρ : Rho) (S : Sto) (k : Nat → Sto → Rho → Sto → Prop),
  GZr A c fs gd g.AX → AnOk g.c An → Zs g ds C An B gp n i s₀ S₀ s ρ S → f ds i S₀ ρ S k →
  (∀ n i s₀ S₀ s ρ S, Zs g ds C An B gp n i s₀ S₀ s ρ S → k i S₀ ρ S → SegZ g ds C B A R n s₀ c (K .next) fs s) →
  (∀ n s₀ H₀ e s, g.n ≤ s₀.heap.objs.size → (g.at s₀ H₀).xe e s → SegZ g ds C B A R n s₀ c (J e) fs s) →
  SegZ g ds C B A R n s₀ c ((execs st g.env).wrap K J gd lv) fs s
def GZ1 (g : Gx) (st : Stmt) (f : FZ) : Prop := ∀ (ds : List D) (C : CZ) (An : Mu → Hp → Prop) (B : List Addr) (gp : List (Addr × Obj)) (A : Around) (R : GenEnd) (n i : Nat) (s₀ : Shared) (S₀ : Sto) (c : Code) (fs : List Frame) (K : Flow → Sem PySem.Fin) (J : Value → Sem PySem.Fin) (gd : Bool → Bool) (lv : List Value → List Value) (s : Shared) (ρ : Rho) (S : Sto) (k : Nat → Sto → Rho → Sto → Prop),
  GZr A c fs gd g.AX → AnOk g.c An → Zs g ds C An B gp n i s₀ S₀ s ρ S → f ds i S₀ ρ S k →
  (∀ n i s₀ S₀ s ρ S, Zs g ds C An B gp n i s₀ S₀ s ρ S → k i S₀ ρ S → SegZ g ds C B A R n s₀ c (K .next) fs s) →
  (∀ n s₀ H₀ e s, g.n ≤ s₀.heap.objs.size → (g.at s₀ H₀).xe e s → SegZ g ds C B A R n s₀ c (J e) fs s) →
  SegZ g ds C B A R n s₀ c ((exec st g.env).wrap K J gd lv) fs s
def zPlain (f : FS) : FZ := fun _ i S₀ ρ S k => f ρ S { nx := fun ρ' S' => k i S₀ ρ' S', rt := fun _ _ => False, bk := fun _ _ => False, ct := fun _ _ => False } noE
def zSeq (f g : FZ) : FZ := fun ds i S₀ ρ S k => f ds i S₀ ρ S fun i' S₀' ρ' S' => g ds i' S₀' ρ' S' k
def zEnd : FZ := fun _ i S₀ ρ S k => k i S₀ ρ S
/-- the next item; whoever gets it may change the store as he likes -/
def zYield (fe : FE) : FZ := fun ds i S₀ ρ S k => i < ds.length ∧ fe ρ S (fun d S' => (S' = S₀ ∧ ds[i]? = some d) ∧ ∀ S2, k (i + 1) S2 ρ S2) noE
section
variable {g : Gx} {st : Stmt} {rest : List Stmt}
theorem z_end : GZ g [] zEnd := fun ds C An B gp A R n i s₀ S₀ c fs K J gd lv s ρ S k G an z h ok ex => ok n i s₀ S₀ s ρ S z h
theorem z_seq {f1 f2 : FZ} (h1 : GZ1 g st f1) (h2 : GZ g rest f2) : GZ g (st :: rest) (zSeq f1 f2) := fun ds C An B gp A R n i s₀ S₀ c fs K J gd lv s ρ S k G an z h ok ex => by
  rw [execs_cons_wrap]
  refine h1 ds C An B gp A R n i s₀ S₀ c fs _ J gd lv s ρ S _ G an z h (fun n' i' s₀' S₀' s' ρ' S' z' h' => ?_) ex
  exact h2 ds C An B gp A R n' i' s₀' S₀' c fs K J gd lv s' ρ' S' k G an z' h' ok ex
theorem z_plain {f : FS} (h : ∀ s H, g.n ≤ s.heap.objs.size → PSd (g.at s H) g.E st f) : GZ1 g st (zPlain f) := fun ds C An B gp A R n i s₀ S₀ c fs K J gd lv s ρ S k G an z hf ok ex => by
  obtain ⟨⟨hn, hb, hp⟩, μ0, H₀, μ, σ, H, hc, I, f0, w, en, ha⟩ := z
  refine seg_wrap ?_
  rw [G.over]
  have h1 := (h s₀ H₀ hb).run (gp ++ pinsAt B s₀.heap) s σ H { nx := fun σ' H' => ∃ μ' ρ' S', Fw μ H μ' H' ∧ Wd g.c μ' S' H' ∧ EnvR g.c μ' H' σ' ρ' ∧ k i S₀ ρ' S', rt := fun _ _ => False, bk := fun _ _ => False, ct := fun _ _ => False } I
    ⟨μ, S, ρ, _, noE, w, en, hf, ⟨fun ρ' S' σ' H' μ' q fw w' en' => ⟨μ', ρ', S', fw, w', en', q⟩, fun _ _ _ _ _ z => z.elim, fun _ _ _ _ _ z => z.elim, fun _ _ _ _ _ z => z.elim⟩, pxNo⟩
  refine wpAny_mono h1 (fun fl s' hq => ?_) fun x s' hx => ex n s₀ H₀ x s' hb hx
  match fl, hq with
  | .next, ⟨σ', H', I', μ', ρ', S', fw, w', en', q⟩ => exact ok n i s₀ S₀ s' ρ' S' ⟨⟨hn, hb, hp⟩, μ0, H₀, μ', σ', H', hc, I', f0.trans fw, w', en', an ha (w.kp fw)⟩ q
  | .brk, ⟨_, _, _, q⟩ => exact q.elim
  | .cont, ⟨_, _, _, q⟩ => exact q.elim
  | .ret _, ⟨_, _, _, _, _, q⟩ => exact q.elim
theorem z_yield {e : Expr} {fe : FE} {pos yp : Pos} (o : g.Ok) (he : ∀ s H, g.n ≤ s.heap.objs.size → PEd (g.at s H) (cE g.E) e fe) (hco : g.sc.isCoroutine = false) (hi : interactive g.env = false) : GZ1 g (.Expr (.Yield (some e) yp) pos) (zYield fe) := fun ds C An B gp A R n i s₀ S₀ c fs K J gd lv s ρ S k G an z ⟨hl, hf⟩ ok ex => by
  obtain ⟨⟨hn, hb, hp⟩, μ0, H₀, μ, σ, H, hc, I, f0, w, en, ha⟩ := z
  obtain ⟨m, rfl⟩ : ∃ m, n = m + 1 := ⟨n - 1, by omega⟩
  refine seg_Expr_Yield G.split G.gd G.guard ?_ hco hi
  rw [G.over]
  have h1 := (he s₀ H₀ hb).run (gp ++ pinsAt B s₀.heap) s σ H (fun x H1 => ∃ μ1 d, Fw μ H μ1 H1 ∧ Wd g.c μ1 S₀ H1 ∧ EnvR g.c μ1 H1 σ ρ ∧ ds[i]? = some d ∧ Rp g.c μ1 H1 x d ∧ ∀ S2, k (i + 1) S2 ρ S2) I
    (tR_of w en hf pxNo fun d S' v H1 μ1 hq f1 w1 en1 _ r1 => by
      obtain ⟨⟨e1, e2⟩, q⟩ := hq
      subst e1
      exact ⟨μ1, d, f1, w1, en1, e2, r1, q⟩)
  refine wpAny_mono h1 (fun v s' hq => ?_) fun x s' hx => ex (m + 1) s₀ H₀ x s' hb hx
  obtain ⟨x, H1, I1, rel, μ1, d, f1, w1, en1, e2, r1, q⟩ := hq
  intro kap hk
  refine ⟨i, μ0, S₀, H₀, x, d, gp, σ, μ1, H1, by omega, hc, rel, I1, hp.1, f0.trans f1, w1, e2, r1, fun μ2 S2 H2 s2 hC fw w2 W => ?_⟩
  have go := ok m (i + 1) s2 S2 s2 ρ S2 ⟨⟨by omega, W.big, hp.1, fun b hb => by obtain ⟨o, e, _⟩ := W.bp b hb; exact ⟨o, e⟩⟩, μ2, H2, μ2, σ, H2, hC, inv_re I1 o.z o.bz o.lt W, Fw.refl, w2, en1.kp fw, an (an ha (w.kp f1)) fw⟩ (q S2)
  exact ⟨hk .none s2 go, hk (.bool true) s2 go⟩
end
end Pu
namespace Pu
open PySem PySem.Spec PyProof.Rows L2 GenW
section
variable {g : Gx} {ds : List D} {C : CZ} {B : List Addr} {A : Around} {R : GenEnd} {c c' : Code} {fs : List Frame} {K : Flow → Sem PySem.Fin} {J : Value → Sem PySem.Fin} {gd : Bool → Bool} {lv : List Value → List Value} {n : Nat} {s₀ s : Shared} {H₀ : Hp} {e : Value}
theorem owns_at (hb : g.n ≤ s₀.heap.objs.size) : PassesOwn (model g.P g.w) g.AX g.env (g.at s₀ H₀).xe := by
  have h := @owns_gcx g.P g.w g.K g.mg g.base g.N g.qual g.sc g.f g.cd g.A g.out (Tr g.n s₀) H₀ g.E []
  have e := gcxN_eq (n := g.n) (P := g.P) (w := g.w) (K := g.K) (mg := g.mg) (base := g.base) (N := g.N) (qual := g.qual) (sc := g.sc) (f := g.f) (cd := g.cd) (A := g.A) (out := g.out) (s := Tr g.n s₀) (H := H₀) (E := g.E) (tr_size hb)
  rw [← e] at h
  exact h
theorem cb_ok (G : GZr A c fs gd g.AX) (h : cameBackBy (model g.P g.w) g.AX g.env (g.at s₀ H₀).xe e s) (hb : g.n ≤ s₀.heap.objs.size) (ex : ∀ n s₀ H₀ e s, g.n ≤ s₀.heap.objs.size → (g.at s₀ H₀).xe e s → SegZ g ds C B A R n s₀ c (J e) fs s) : SegZ g ds C B A R n s₀ c (((Sem.raise e).onRaise (cameBack g.env)).wrap K J gd lv) fs s := by
  rw [Sem.onRaise_eq_wrap, Sem.wrap_wrap]
  show SegZ g ds C B A R n s₀ c (((cameBack g.env e).bind fun _ => Sem.raise e).wrap _ _ _ _) fs s
  rw [Sem.bind_eq_wrap, Sem.wrap_wrap]
  refine seg_wrap ?_
  rw [G.over]
  exact wpAny_mono h (fun _ s'' hx => ex n s₀ H₀ e s'' hb hx) fun y s'' hx => ex n s₀ H₀ y s'' hb hx
abbrev retF (g : Gx) (K : Flow → Sem PySem.Fin) (J : Value → Sem PySem.Fin) (gd : Bool → Bool) (lv : List Value → List Value) (c : Code) (p : Pos) : Frame := .ret (fun r => ((match r with | .ok f => (.pure f : Sem Flow) | .error e => .raise e).onRaise (cameBack g.env)).wrap K J gd lv) none (gd false) (lv []) c p []
theorem gz_loop (G : GZr A c fs gd g.AX) (p : Pos) (h1 : c'.weight = 0) (h2 : c'.cUnits = 0) : GZr A c' (retF g K J gd lv c p :: fs) id g.AX := by
  refine ⟨by rw [over_loop h1 h2]; exact G.over, ?_, ?_, rfl⟩
  · have := G.split
    unfold splitAtGen
    rw [this]
    rfl
  · rw [List.any_cons, G.guard]
    show (gd false || false) = false
    rw [G.gd]
    rfl
theorem ee_ok (G : GZr A c fs gd g.AX) (G' : GZr A c' (retF g K J gd lv c p :: fs) id g.AX) (hb : g.n ≤ s₀.heap.objs.size) (hx : (g.at s₀ H₀).xe e s) (ex : ∀ n s₀ H₀ e s, g.n ≤ s₀.heap.objs.size → (g.at s₀ H₀).xe e s → SegZ g ds C B A R n s₀ c (J e) fs s) :
    SegZ g ds C B A R n s₀ c' ((do noteFrame e g.env; theTreesLotGoes e : Sem Unit).wrap (fun _ => .raise e) .raise id id) (retF g K J gd lv c p :: fs) s := by
  refine seg_wrap ?_
  rw [G'.over]
  refine wpAny_bind (wpAny_mono (owns_at hb e s hx) (fun _ s'' hcb => wpAny_theTreesLotGoes ?_) fun y s'' hcb => ?_)
  · exact seg_leaf (.error e) (cb_ok G hcb hb ex)
  · exact seg_leaf (.error y) (cb_ok G hcb hb ex)
end
/-- while, in such a body -/
def zWhile (t : FT) (fb : FZ) : FZ := fun ds i S₀ ρ S k => ∃ W : Nat → Nat → Sto → Rho → Sto → Prop, (∃ m, W m i S₀ ρ S) ∧ ∀ m i S₀ ρ S, W m i S₀ ρ S →
  t ρ S (fun b S1 => if b = true then fb ds i S₀ ρ S1 (fun i' S₀' ρ' S' => ∃ m', m' < m ∧ W m' i' S₀' ρ' S') else k i S₀ ρ S1) noE
section
variable {g : Gx}
theorem z_while {test : Expr} {body : List Stmt} {pos : Pos} {t : FT} {fb : FZ} (ht : ∀ s H, g.n ≤ s.heap.objs.size → PTd (g.at s H) (cE g.E) test t) (hb : GZ g body fb) : GZ1 g (.While test body [] pos) (zWhile t fb) := fun ds C An B gp A R n i s₀ S₀ c fs K J gd lv s ρ S k G an z ⟨W, ⟨m0, w0⟩, turn⟩ ok ex => by
  rw [exec_While]
  refine seg_at ?_
  refine seg_call fun p => ?_
  have G' := gz_loop (K := K) (J := J) (lv := lv) (c' := .whileLoop test body [] g.env) G p rfl rfl
  have loop : ∀ (m i n : Nat) (s₀ : Shared) (S₀ : Sto) (s : Shared) (ρ : Rho) (S : Sto), Zs g ds C An B gp n i s₀ S₀ s ρ S → W m i S₀ ρ S →
      SegZ g ds C B A R n s₀ (.whileLoop test body [] g.env) ((model g.P g.w).den (.whileLoop test body [] g.env)) (retF g K J gd lv c p :: fs) s := by
    intro m
    induction m using Nat.strongRecOn with
    | ind m ih =>
      intro i n s₀ S₀ s ρ S z w
      obtain ⟨⟨hn, hsz, hp⟩, μ0, H₀, μ, σ, H, hc, I, f0, wd, en, ha⟩ := z
      refine seg_whileLoop ?_
      rw [G'.over]
      have h1 := (ht s₀ H₀ hsz).run (gp ++ pinsAt B s₀.heap) s σ H (fun b H1 => ∃ μ1 S1, Fw μ H μ1 H1 ∧ Wd g.c μ1 S1 H1 ∧ EnvR g.c μ1 H1 σ ρ ∧ (if b = true then fb ds i S₀ ρ S1 (fun i' S₀' ρ' S' => ∃ m', m' < m ∧ W m' i' S₀' ρ' S') else k i S₀ ρ S1)) I
        (tR_of wd en (turn m i S₀ ρ S w) pxNo fun b S1 v H1 μ1 hq f1 w1 en1 _ r1 => by
          cases (r1 : v = b)
          exact ⟨μ1, S1, f1, w1, en1, hq⟩)
      refine wpAny_mono h1 (fun b s' hq => ?_) fun x s' hx => ee_ok G G' hsz hx ex
      obtain ⟨H1, I1, μ1, S1, f1, w1, en1, q⟩ := hq
      have z1 : Zs g ds C An B gp n i s₀ S₀ s' ρ S1 := ⟨⟨hn, hsz, hp⟩, μ0, H₀, μ1, σ, H1, hc, I1, f0.trans f1, w1, en1, an ha (wd.kp f1)⟩
      by_cases hv : b = true
      · rw [if_pos hv] at q ⊢
        refine hb ds C An B gp A R n i s₀ S₀ _ _ _ _ id id s' ρ S1 _ G' an z1 q (fun n' i' s₀' S₀' s7 ρ' S' z' h' => ?_) (fun n' s₀' H₀' e s7 hb' hx => ee_ok G G' hb' hx ex)
        obtain ⟨m', hm, w'⟩ := h'
        exact seg_again rfl (ih m' hm i' n' s₀' S₀' s7 ρ' S' z' w')
      · rw [if_neg hv] at q ⊢
        exact seg_leaf (.ok .next) (ok n i s₀ S₀ s' ρ S1 z1 q)
  exact loop m0 i n s₀ S₀ s ρ S z w0
end
end Pu
namespace Pu
open PySem PySem.Spec PyProof.Rows L2 GenW
/-! ## a generator is made -/
theorem inv_gens {X : Cx} {pins : List (Addr × Obj)} {σ : L2.St} {H : Hp} {s s' : Shared} (I : Inv X pins σ H s) (e : s'.heap = s.heap) (os : s'.os = s.os) (hb : AllBare s'.gens) : Inv X pins σ H s' := by
  obtain ⟨a1, a2, a3, a4, a5, a6, a7, a8, a9, a10, a11⟩ := I
  refine ⟨a1, os.trans a2, hb, ?_, ?_, ?_, a7, a8, ?_, ?_, a11⟩
  · rw [e]; exact a4
  · rw [e]; exact a5
  · rw [e]; exact a6
  · rw [e]; exact a9
  · rw [e]; exact a10
theorem bare_set {G : Array GenState} {i : Nat} {x : GenState} (h : AllBare G) (hx : x.bare = true) : AllBare (G.setIfInBounds i x) := fun y hy => by
  obtain ⟨j, hj, rfl⟩ := Array.mem_iff_getElem.mp hy
  have e : (G.setIfInBounds i x)[j]? = some (G.setIfInBounds i x)[j] := Array.getElem?_eq_getElem hj
  by_cases c : i = j
  · subst c
    rw [Array.getElem?_setIfInBounds_self] at e
    split at e
    · rw [← Option.some.inj e]; exact hx
    · cases e
  · rw [Array.getElem?_setIfInBounds_ne c] at e
    exact h _ (Array.mem_of_getElem? e)
theorem bare_push {G : Array GenState} {x : GenState} (h : AllBare G) (hx : x.bare = true) : AllBare (G.push x) := fun y hy => by
  rcases Array.mem_push.mp hy with z | z
  · exact h y z
  · rw [z]; exact hx
def genEnd (F : Nat → Shared → Shared → Prop) : GenEnd := fun n s₀ r s₁ => (r = .ok (.ret .none) ∨ r = .ok .next) ∧ F n s₀ s₁ ∨ ∃ e, r = .error e ∧ (fun (_ : Value) (_ : Shared) => False) e s₁
def FZe (g : Gx) (ds : List D) (C : CZ) (B : List Addr) : Nat → Shared → Shared → Prop := fun n s₀ s1 => n = 0 ∧ ∃ μ0 S₀ H₀ gp σ μ1 H1, C ds.length μ0 S₀ H₀ s₀ ∧ Inv (g.at s₀ H₀) (gp ++ pinsAt B s₀.heap) σ H1 s1 ∧ Fw μ0 H₀ μ1 H1 ∧ Wd g.c μ1 S₀ H1
/-- at the end all items are out, and the store is as when it was woken -/
def kEnd (ds : List D) : Nat → Sto → Rho → Sto → Prop := fun i S₀ _ S => i = ds.length ∧ S = S₀
theorem goes_fresh {g : Gx} {body : List Stmt} {fz : FZ} {ds : List D} {C : CZ} {B : List Addr} {gp : List (Addr × Obj)} {s : Shared} {S : Sto} {ρ : Rho} (hE : g.E = fun _ _ _ => False) (hb : GZ g body fz) (z : Zs g ds C (fun _ _ => True) B gp ds.length 0 s S s ρ S) (h : fz ds 0 S ρ S (kEnd ds)) :
    GenState.Goes (model g.P g.w) g.A (genEnd (FZe g ds C B)) (YZ g ds C B) ds.length (.fresh (.func body g.env)) (.send .none) s := by
  refine ⟨rfl, seg_func ?_⟩
  refine hb ds C (fun _ _ => True) B gp g.A (genEnd (FZe g ds C B)) ds.length 0 s S _ [] _ _ id id s ρ S (kEnd ds) ⟨over_func, rfl, rfl, rfl⟩ (fun _ _ => trivial) z h (fun n i s₀ S₀ s ρ S z' h' => ?_) fun n s₀ H₀ e s hsz hx => ?_
  · obtain ⟨rfl, rfl⟩ := h'
    obtain ⟨⟨hn, hsz, hp⟩, μ0, H₀, μ, σ, H, hc, I, f0, wd, en, _⟩ := z'
    exact seg_end (.ok (.ret .none)) (.inl ⟨.inl rfl, by omega, μ0, _, H₀, gp, σ, μ, H, hc, I, f0, wd⟩)
  · refine seg_wrap ?_
    rw [over_func]
    have hx' : wpAny (model g.P g.w) (g.A.deeper g.env) (leaving g.env e) (fun x s'' => L2.CX g.P g.w g.out H₀ (Tr g.n s₀) g.E e s'' ∧ ∀ p ∈ ([] : List (Addr × Obj)), s''.heap.get? p.1 = some p.2) (fun _ _ => False) s := hx
    refine wpAny_mono hx' (fun _ s'' hq => ?_) fun _ _ hq => hq.elim
    obtain ⟨⟨a, B, H', cls, d, _, _, _, _, _, _, _, hE'⟩, _⟩ := hq
    rw [hE] at hE'
    exact hE'.elim
/-- a generator's def -/
abbrev qT : List (Addr × Obj) → Prop := fun _ => True
structure ZFq (q : List (Addr × Obj) → Prop) (P : Program) (w : World) (K : PySem.W.Frag) (mg : Str → Option Value) (base : Heap) (lv : Nat) (f : Addr) (fd : FuncData) (N ps : List Str) (fz : FZ) : Prop where
  ex : ∃ name qual params body sc dV kV doc pm an cdv ct oc od osl, fd = PySem.W.fnOf name qual params body sc dV kV doc pm an cdv ct ∧ K.lookup f = some ⟨oc, od, .func fd, osl⟩ ∧ PySem.W.codeIn K cdv qual = true ∧ GScope N ps sc ∧ (∀ x ∈ ps, sc.names.lookup x = some .local) ∧ (∀ n x, (envOfC qual sc n f cdv).cells.lookup x = none) ∧
    ∀ (n : Nat) (A : Around) (out : List Env), base.objs.size ≤ n → (∀ L ∈ frs out, L < n) → Room lv (A.deeper (envOfC qual sc n f cdv)) → A.handled = none → GZ ⟨n, P, w, K, mg, base, N, qual, sc, f, cdv, A, out, fun _ _ _ => False, q⟩ body fz
abbrev ZFn := ZFq qT
end Pu
namespace Pu
open PySem PySem.Spec PyProof.Rows L2 GenW
def gOf (X : Cx) (n : Nat) (N : List Str) (qual : Str) (sc : Scope) (fn : Addr) (cdv : Value) (q : List (Addr × Obj) → Prop) : Gx := ⟨n, X.prog, X.w, X.K, X.mg, X.base, N, qual, sc, fn, cdv, X.A.in1, X.stack, fun _ _ _ => False, q⟩
theorem nolimit_keep {h h' : Heap} (k : ∀ (b : Addr) (o : Obj), h.get? b = some o → h'.get? b = some o) (n : h.NoLimit) : h'.NoLimit := by
  obtain ⟨mc, ⟨o, es, ep, h1, h2⟩, h3⟩ := n
  exact ⟨mc, ⟨o, es, ep, k _ _ h1, h2⟩, h3⟩
/-- a generator that nobody has asked yet -/
def MadeZ (q : List (Addr × Obj) → Prop) (X : Cx) (N : List Str) (fn : Addr) (fz : FZ) (s : Shared) (H : Hp) (vs : List V) (u : Value) (s' : Shared) : Prop := ∃ qual sc cdv body a gi oa, u = .ref a ∧ GZ (gOf X s.heap.objs.size N qual sc fn cdv q) body fz ∧ (∀ x, (gOf X s.heap.objs.size N qual sc fn cdv q).env.cells.lookup x = none) ∧
  s'.heap.get? a = some oa ∧ (∀ v, oa.data ≠ .cell v) ∧ s'.heap.IsGen a gi ∧ s'.gens[gi]? = some (.fresh (.func body (gOf X s.heap.objs.size N qual sc fn cdv q).env)) ∧ (s'.os = s.os ∧ AllBare s'.gens) ∧
  (∀ (b : Addr) (o : Obj), s.heap.get? b = some o → s'.heap.get? b = some o) ∧ s.heap.objs.size < a ∧ Inv (gcxN s.heap.objs.size X.prog X.w X.K X.mg X.base N qual sc fn cdv X.A.in1 X.stack s H fun _ _ _ => False) [] (L2.start N vs) H s'
section
variable {X : Cx} {pins : List (Addr × Obj)} {σ : L2.St} {H : Hp} {s : Shared} {lv k : Nat} {fn : Addr} {dat : FuncData} {N ps : List Str} {fz : FZ} {args us : List Value} {kws : List (Str × Value)} {vs : List V} {E1 : Value → Shared → Prop}
theorem room_in1 {A : Around} {e : Env} (h : Room (k + 1) A) : Room k (A.in1.deeper e) ∧ A.in1.handled = none := by
  obtain ⟨h1, h2, h3⟩ := h
  refine ⟨⟨h1, ?_, ?_⟩, h1⟩
  · show A.depth + 1 + 3 * k + 5 < recursionLimit
    omega
  · show A.units + 1 + 3 + 16 * k + 200 < cLine
    omega
theorem made_z {q : List (Addr × Obj) → Prop} (Z : ZFq q X.prog X.w X.K X.mg X.base k fn dat N ps fz) (rm : Room (k + 1) X.A) (b : BindsTo s dat ⟨args, kws⟩ (ps.zip us)) (I : Inv X pins σ H s) (vx : Vals vs us) (hl : vs.length = ps.length) :
    wpAny (model X.prog X.w) X.A (call (.ref fn) args kws) (MadeZ q X N fn fz s H vs) E1 s := by
  obtain ⟨name, qual, params, body, sc, dV, kV, doc, pm, an, cdv, ct, oc, od, osl, rfl, hK, hc, gs, hpl, hz, gz⟩ := Z.ex
  obtain ⟨r1, r2⟩ := room_in1 (e := envOfC qual sc s.heap.objs.size fn cdv) rm
  refine wpAny_call (codeAny_call_generator (o := ⟨oc, od, .func (PySem.W.fnOf name qual params body sc dV kV doc pm an cdv ct), osl⟩) (body := body) (by have := rm.2; omega) (I.kIn _ _ hK) rfl gs.co gs.gen rfl (PySem.W.codeRec_of I.kIn hc) ?_)
  refine b _ _ _ _ ?_
  refine wpAny_newFunctionEnv_cells gs.kind (fun x hx => ?_) (fun env he s2 hs2 => ?_)
  · obtain ⟨x1, x2⟩ := x
    exact .inl (hpl x1 (List.of_mem_zip hx).1)
  · have ee : env = envOfC qual sc s.heap.objs.size fn cdv := he
    subst ee
    have I2 := inv_startG (P := X.prog) (w := X.w) (K := X.K) (mg := X.mg) (base := X.base) (f := fn) (cd := cdv) (qual := qual) (E := fun _ _ _ => False) gs r2 I.env0.in1 hl vx hs2
    have keep2 := hs2.toInCall.keep
    obtain ⟨h2, tk, es⟩ := hs2.toInCall.same
    refine ⟨nolimit_keep keep2 I.nolimit, ?_⟩
    have keep3 : ∀ (b : Addr) (o : Obj), s2.heap.get? b = some o → (s2.heap.push { cls := Value.type "generator", data := Data.fields #[Value.int (↑s2.gens.size) 0, Value.str name s2.toks, Value.str qual (s2.toks + 1)] }).get? b = some o := fun b o e => Heap.get?_push_of_some _ e
    have at_ := Heap.get?_push_size s2.heap (o := { cls := Value.type "generator", data := Data.fields #[Value.int (↑s2.gens.size) 0, Value.str name s2.toks, Value.str qual (s2.toks + 1)] }) rfl
    have I3 := I2.kept (t' := s2.toks) keep3
    have e3 := gcxN_eq (n := s.heap.objs.size) (P := X.prog) (w := X.w) (K := X.K) (mg := X.mg) (base := X.base) (N := N) (qual := qual) (sc := sc) (f := fn) (cd := cdv) (A := X.A.in1) (out := X.stack) (s := s) (H := H) (E := fun _ _ _ => False) rfl
    rw [← e3] at I3
    refine ⟨qual, sc, cdv, body, s2.heap.objs.size, s2.gens.size, _, rfl, gz _ _ _ I.env0.bsz (fun L hL => by
      obtain ⟨_, o, e, _⟩ := Heap.FunFrames.mem I.stack hL
      exact base_lt e) r1 r2, hz _, at_, fun v z => (by cases z), ⟨_, _, _, at_, rfl, rfl, rfl⟩, ?_, ⟨by rw [es], ?_⟩, fun b o e => keep3 b o (keep2 b o e), ?_, ?_⟩
    · show (s2.gens.push _)[s2.gens.size]? = _
      rw [Array.getElem?_push, if_pos rfl]
      rfl
    · exact bare_push I2.bare rfl
    · have := I2.lt
      exact this
    · exact inv_gens I3 rfl rfl (bare_push I2.bare rfl)
end
end Pu
namespace Pu
open PySem PySem.Spec PyProof.Rows L2 GenW
/-! ## who asks a generator -/
/-- errors that leave do not know who sleeps -/
def XeZ (X : Cx) : Prop := ∀ (Z : Nat → Option GenState) (e : Value) (s : Shared) (G3 : Array GenState), (∀ i x, Z i = some x → x.bare = true) → X.xe e s → Zr Z s.gens G3 → X.xe e (sw s G3)
theorem zr_bare2 {Z : Nat → Option GenState} {G G3 : Array GenState} (hz : ∀ i x, Z i = some x → x.bare = true) (z : Zr Z G G3) (h : AllBare G) : AllBare G3 := fun y hy => by
  obtain ⟨i, hi, rfl⟩ := Array.mem_iff_getElem.mp hy
  have e : G3[i]? = some G3[i] := Array.getElem?_eq_getElem hi
  cases c : Z i with
  | none =>
    have := (z.oth i c).1
    rw [e] at this
    exact h _ (Array.mem_of_getElem? this)
  | some x =>
    obtain ⟨_, _, d⟩ := z.slp i x c
    rw [e] at d
    rw [Option.some.inj d]
    exact hz i x c
theorem slp_bare {G : Array GenState} (h : AllBare G) : ∀ i x, slpZ G i = some x → x.bare = true := fun i x e => by
  unfold slpZ at e
  cases c : G[i]? with
  | none => rw [c] at e; cases e
  | some y =>
    rw [c] at e
    dsimp only at e
    split at e
    · rw [← Option.some.inj e]; exact h y (Array.mem_of_getElem? c)
    · cases e
theorem wpAny_zr {α : Type} {M : Model} {A : Around} {t : Sem α} {Q Q' : α → Shared → Prop} {E E' : Value → Shared → Prop} {s : Shared} {Z : Nat → Option GenState} {G3 : Array GenState} (h : wpAny M A t Q E s) (z : Zr Z s.gens G3) (q : ∀ a s1 G, Q a s1 → Zr Z s1.gens G → Q' a (sw s1 G)) (e : ∀ a s1 G, E a s1 → Zr Z s1.gens G → E' a (sw s1 G)) : wpAny M A t Q' E' (sw s G3) := by
  have h1 : wpAny M A t (fun a s2 => ∃ s1 G, Q a s1 ∧ Zr Z s1.gens G ∧ s2 = sw s1 G) (fun a s2 => ∃ s1 G, E a s1 ∧ Zr Z s1.gens G ∧ s2 = sw s1 G) (sw s G3) := fun Γ p hi => wp_z t (h Γ p hi) z
  exact wpAny_mono h1 (fun a s2 ⟨s1, G, hq, hz, es⟩ => es ▸ q a s1 G hq hz) fun a s2 ⟨s1, G, hq, hz, es⟩ => es ▸ e a s1 G hq hz
/-- a run beside sleepers -/
theorem sleep_run {X : Cx} {α : Type} {t : Sem α} {Q : α → Shared → Prop} {s : Shared} (xz : XeZ X) (hb : AllBare s.gens) (h : wpAny (model X.prog X.w) X.A t Q X.xe (sw s (psnG s.gens))) : wpAny (model X.prog X.w) X.A t (fun a s2 => ∃ s1, Q a s1 ∧ s2.heap = s1.heap ∧ s2.os = s1.os ∧ (AllBare s1.gens → AllBare s2.gens) ∧ ∀ (g : Nat) (y : GenState), s.gens[g]? = some y → isSusp y = true → s2.gens[g]? = some y) X.xe s := by
  refine wpAny_mono (wpAny_sleep h) (fun a s2 ⟨s1, G3, hq, z, es⟩ => ?_) fun e s2 ⟨s1, G3, hq, z, es⟩ => ?_
  · subst es
    exact ⟨s1, hq, rfl, rfl, fun hb1 => zr_bare z hb1 hb, fun g y hg hy => zr_at z hg hy⟩
  · subst es
    exact xz _ e s1 G3 (slp_bare hb) hq z
/-- what the generator may have changed -/
def chZ (n : Nat) (B T : List Addr) (h : Heap) : List Addr := (List.range h.objs.size).filter fun b => decide (n ≤ b) && (!B.contains b && !T.contains b)
theorem mem_chZ {n b : Nat} {B T : List Addr} {h : Heap} (m : b ∈ chZ n B T h) : n ≤ b ∧ b ∉ B ∧ b ∉ T := by
  obtain ⟨_, h2⟩ := List.mem_filter.mp m
  rw [Bool.and_eq_true, Bool.and_eq_true, Bool.not_eq_true', Bool.not_eq_true'] at h2
  refine ⟨of_decide_eq_true h2.1, fun z => ?_, fun z => ?_⟩
  · have : B.contains b = true := List.contains_iff_mem.mpr z
    rw [this] at h2
    cases h2.2.1
  · have : T.contains b = true := List.contains_iff_mem.mpr z
    rw [this] at h2
    cases h2.2.2
section
variable {X : Cx} {gp : List (Addr × Obj)} {B T : List Addr} {H H1 : Hp} {s s1 : Shared} {N : List Str} {qual : Str} {sc : Scope} {fn : Addr} {cdv : Value} {q : List (Addr × Obj) → Prop} {n : Nat} {σg : L2.St}
/-- the generator's part, seen by who asks: nothing of his has changed -/
theorem un_ask (Ig : Inv ((gOf X n N qual sc fn cdv q).at s H) (gp ++ pinsAt B s.heap) σg H1 s1) (hT : ∀ b ∈ T, H b ≠ none ∧ ∃ o, s1.heap.get? b = some o) (lt : ∀ L ∈ frs X.stack, L < n) : Un (frs X.stack) (chZ n B T s.heap) H H1 s.heap s1.heap := by
  have u : Un (frs X.stack) [] H H1 (trHeap n s.heap) s1.heap := Ig.base
  have low : ∀ {b : Addr} {o : Obj}, s.heap.get? b = some o → b ∉ chZ n B T s.heap → b < n ∨ (b, o) ∈ pinsAt B s.heap ∨ b ∈ T := fun {b o} e hb => by
    by_cases c : b < n
    · exact .inl c
    · refine .inr (Classical.byContradiction fun hc => hb ?_)
      have h1 : b ∉ B := fun z => hc (.inl (mem_pinsAt z e))
      have h2 : b ∉ T := fun z => hc (.inr z)
      refine List.mem_filter.mpr ⟨List.mem_range.mpr (base_lt e), ?_⟩
      rw [Bool.and_eq_true, Bool.and_eq_true, Bool.not_eq_true', Bool.not_eq_true']
      exact ⟨decide_eq_true (by exact Nat.le_of_not_lt c), Bool.eq_false_iff.mpr fun z => h1 (List.contains_iff_mem.mp z), Bool.eq_false_iff.mpr fun z => h2 (List.contains_iff_mem.mp z)⟩
  refine ⟨fun b o e h0 hf hx => ?_, fun b o e h0 hf hx => ?_, fun b o e h0 hx => ?_, fun b o e hx => ?_, u.tups, u.frzs, u.tbls⟩
  · rcases low e hx with c | c | c
    · exact u.keep b o (by rw [tr_at c]; exact e) h0 hf (fun z => nomatch z)
    · exact (Ig.pin (b, o) (List.mem_append_right _ (List.mem_append_right _ c))).1
    · exact absurd h0 (hT b c).1
  · exact u.slot b o (by rw [tr_at (lt b hf)]; exact e) h0 hf (fun z => nomatch z)
  · rcases low e hx with c | c | c
    · exact u.free b o (by rw [tr_at c]; exact e) h0 (fun z => nomatch z)
    · exact (Ig.pin (b, o) (List.mem_append_right _ (List.mem_append_right _ c))).2.1
    · exact absurd h0 (hT b c).1
  · rcases low e hx with c | c | c
    · exact u.there b o (by rw [tr_at c]; exact e) (fun z => nomatch z)
    · exact ⟨o, (Ig.pin (b, o) (List.mem_append_right _ (List.mem_append_right _ c))).1⟩
    · exact (hT b c).2
end
end Pu
namespace Pu
open PySem PySem.Spec PyProof.Rows L2 GenW
/-- who asks: what lies from n on and may be changed is none of his -/
structure Born (X : Cx) (pins : List (Addr × Obj)) (n : Nat) (B T : List Addr) : Prop where
  ex : ∀ b, n ≤ b → b ∉ B → b ∉ T → (b ∈ X.ex ∨ X.s_0.heap.objs.size ≤ b) ∧ b ≠ X.env.locals ∧ (∀ x c, X.env.cells.lookup x = some c → c ≠ b) ∧ ∀ p ∈ X.pn ++ pins, p.1 ≠ b
  lt : ∀ L ∈ frs X.stack, L < n
  bz : X.base.objs.size ≤ n
theorem born_lt {X : Cx} {pins : List (Addr × Obj)} {σ : L2.St} {H : Hp} {s : Shared} (I : Inv X pins σ H s) : (∀ L ∈ frs X.stack, L < s.heap.objs.size) ∧ (∀ x c, X.env.cells.lookup x = some c → c < s.heap.objs.size) := by
  refine ⟨fun L hL => ?_, fun x c h => ?_⟩
  · obtain ⟨_, o, e, _⟩ := Heap.FunFrames.mem I.stack hL
    exact base_lt e
  · obtain ⟨v, o, e, _⟩ := I.cell x c h
    exact base_lt e
theorem born_of {X : Cx} {pins : List (Addr × Obj)} {σ : L2.St} {H : Hp} {s : Shared} {T : List Addr} (I : Inv X pins σ H s) (a : Addr) : Born X pins s.heap.objs.size ((X.pn ++ pins).map (·.1) ++ [a]) T := by
  refine ⟨fun b hb h1 h2 => ⟨.inr (Nat.le_trans I.sz hb), fun e => ?_, fun x c h e => ?_, fun p hp e => ?_⟩, (born_lt I).1, I.env0.bsz⟩
  · have := I.lt
    rw [← e] at this
    exact absurd hb (Nat.not_le.mpr this)
  · have := (born_lt I).2 x c h
    rw [e] at this
    exact absurd hb (Nat.not_le.mpr this)
  · exact h1 (List.mem_append_left _ (List.mem_map.mpr ⟨p, hp, e⟩))
section
variable {X : Cx} {pins gp : List (Addr × Obj)} {B T : List Addr} {σ : L2.St} {H H1 : Hp} {s s0 s1 : Shared} {N : List Str} {qual : Str} {sc : Scope} {fn : Addr} {cdv : Value} {q : List (Addr × Obj) → Prop} {n : Nat} {σg : L2.St}
theorem ask_inv (Bn : Born X pins n B T) (I : Inv X pins σ H s) (Ig : Inv ((gOf X n N qual sc fn cdv q).at s H) (gp ++ pinsAt B s.heap) σg H1 s1) (hT : ∀ b ∈ T, H b ≠ none ∧ ∃ o, s1.heap.get? b = some o) : Inv X pins σ H1 s1 :=
  I.call' Ig.os (un_ask Ig hT Bn.lt) Ig.hok Ig.bare fun b hb => by
    obtain ⟨h1, h2, h3⟩ := mem_chZ hb
    exact Bn.ex b h1 h2 h3
theorem low_fs (lt : ∀ L ∈ frs X.stack, L < n) (I : Inv X pins σ H1 s1) : ∀ b ∈ X.fs, b < n := fun b hb => by
  rcases I.ok with ⟨_, _, _, _, _, _, _, _, _, _, a11, _⟩
  rcases a11 with z | ⟨z, _⟩
  · exact lt b (by rw [z]; exact hb)
  · refine lt b ?_
    rw [z]
    unfold frs
    rw [List.filterMap_cons]
    split
    · exact hb
    · exact List.mem_cons_of_mem _ hb
/-- while he does his own, the generator's things are pinned -/
theorem ask_pin (Bn : Born X pins n B T) (I : Inv X pins σ H1 s1) (Ig : Inv ((gOf X n N qual sc fn cdv q).at s H) (gp ++ pinsAt B s.heap) σg H1 s1) (a : Addr) (oa : Obj) (hgp : ∀ p ∈ gp, n ≤ p.1 ∧ p.1 ∉ B) (hl : ∀ b, n ≤ b → b ≠ X.env.locals ∨ b ∈ B) (hnB : n ∉ B) (ha : n < a) (aB : a ∈ B) (al : a ≠ X.env.locals) (ea : s.heap.get? a = some oa) : ∃ oL, s1.heap.get? n = some oL ∧ Inv X (pins ++ ((n, oL) :: (a, oa) :: gp)) σ H1 s1 := by
  obtain ⟨m, ⟨o, es, ep, h1, h2, h3⟩, _⟩ := Ig.loc
  have h1' : s1.heap.get? n = some o := h1
  have low := low_fs Bn.lt I
  refine ⟨o, h1', ?_⟩
  refine ⟨I.ok, I.os, I.bare, I.base, I.loc, I.cell, I.free, I.freeC, fun p hp => ?_, I.hok, I.len⟩
  rcases List.mem_append.mp hp with z | z
  · exact I.pin p (List.mem_append_left _ z)
  rcases List.mem_append.mp z with z | z
  · exact I.pin p (List.mem_append_right _ z)
  rcases List.mem_cons.mp z with rfl | z
  · refine ⟨h1', Ig.free, fun e => ?_, fun e => absurd (low n e) (Nat.lt_irrefl _), fun v e => ?_⟩
    · rcases hl n (Nat.le_refl _) with y | y
      · exact y e
      · exact hnB y
    · have e' : o.data = .cell v := e
      rw [h2] at e'
      cases e'
  rcases List.mem_cons.mp z with rfl | z
  · have q := Ig.pin (a, oa) (List.mem_append_right _ (List.mem_append_right _ (mem_pinsAt aB ea)))
    exact ⟨q.1, q.2.1, al, fun e => absurd (Nat.lt_trans (low _ e) ha) (Nat.lt_irrefl _), q.2.2.2.2⟩
  · have q := Ig.pin p (List.mem_append_right _ (List.mem_append_left _ z))
    refine ⟨q.1, q.2.1, fun e => ?_, fun e => absurd (low _ e) (Nat.not_lt.mpr (hgp p z).1), q.2.2.2.2⟩
    rcases hl p.1 (hgp p z).1 with y | y
    · exact y e
    · exact (hgp p z).2 y
/-- what he holds against the generator -/
def BOk (X : Cx) (n : Nat) (B : List Addr) (H : Hp) (s : Shared) : Prop := ∀ b ∈ B, ∃ o, s.heap.get? b = some o ∧ H b = none ∧ b ≠ n ∧ b ∉ frs X.stack ∧ ∀ v, o.data ≠ .cell v
/-- .. and when he asks again all is as the generator left it -/
theorem ask_wake {H2 : Hp} {s2 s3 : Shared} {σ2 : L2.St} {oL oa : Obj} {a : Addr} {h1 : Heap} (I : Inv X (pins ++ ((n, oL) :: (a, oa) :: gp)) σ2 H2 s2) (e1 : h1.get? n = some oL) (e2 : s3.heap = s2.heap) (hb : AllBare s3.gens) (hB : BOk X n B H2 s2) : Wake n X.prog X.w X.base X.stack B gp h1 s3 H2 := by
  have pn := I.pin (n, oL) (List.mem_append_right _ (List.mem_append_right _ List.mem_cons_self))
  refine ⟨hb, by rw [e2]; exact I.hok, by rw [e2]; exact Nat.le_of_lt (base_lt pn.1), by rw [e2]; exact I.bs, by rw [e2]; exact I.stack, I.stkFree, by rw [e2, e1]; exact pn.1, pn.2.1, fun p hp => ?_, fun b hbB => by rw [e2]; exact hB b hbB⟩
  have q := I.pin p (List.mem_append_right _ (List.mem_append_right _ (List.mem_cons_of_mem _ (List.mem_cons_of_mem _ hp))))
  rw [e2]
  exact ⟨q.1, q.2.1⟩
end
end Pu
namespace Pu
open PySem PySem.Spec PyProof.Rows L2 GenW
/-- an expression that makes a generator: the items that it will hand out -/
def PZq (q : List (Addr × Obj) → Prop) (X : Cx) (E : L2.St → XK) (iter : Expr) (fe : FX (List D)) : Prop := ∀ (pins : List (Addr × Obj)) (s : Shared) (σ : L2.St) (H : Hp) (μ : Mu) (S : Sto) (ρ : Rho) (Qd : List D → Sto → Prop) (Ed : ED), Inv X pins σ H s → Wd (ct X) μ S H → EnvR (ct X) μ H σ ρ → fe ρ S Qd Ed → PX (ct X) μ H Ed (E σ) →
  wpAny (model X.prog X.w) X.A (eval iter X.env) (fun u s' => ∃ N fn fz s0 H0 vs μ0 S0 args ds, Inv X pins σ H0 s0 ∧ MadeZ q X N fn fz s0 H0 vs u s' ∧ Fw μ H μ0 H0 ∧ Wd (ct X) μ0 S0 H0 ∧ RpAll (ct X) μ0 H0 vs args ∧ fz ds 0 S0 (startD N.length args) S0 (kEnd ds) ∧ Qd ds S0) X.xe s
abbrev PZd := PZq qT
theorem gen_at {h h' : Heap} {a : Addr} {gi : Nat} {oa : Obj} (g : h.IsGen a gi) (e : h.get? a = some oa) (e' : h'.get? a = some oa) : h'.IsGen a gi := by
  obtain ⟨o, nm, qn, h1, h2⟩ := g
  rw [e] at h1
  cases h1
  exact ⟨_, nm, qn, e', h2⟩
/-- who asks, between two items -/
def Cz (X : Cx) (pins : List (Addr × Obj)) (n : Nat) (B : List Addr) (a : Addr) (oa : Obj) (Lp : Nat → Mu → Sto → Hp → L2.St → Prop) : CZ := fun i μ S H s => ∃ σ, Inv X pins σ H s ∧ BOk X n B H s ∧ s.heap.get? a = some oa ∧ Wd (ct X) μ S H ∧ Lp i μ S H σ
def Iz (X : Cx) (pins : List (Addr × Obj)) (g : Gx) (ds : List D) (B : List Addr) (a : Addr) (oa : Obj) (gi : Nat) (Lp : Nat → Mu → Sto → Hp → L2.St → Prop) (m : Nat) (s : Shared) : Prop := ∃ i μ S H gs, m + i = ds.length ∧ Cz X pins g.n B a oa Lp i μ S H s ∧ s.heap.IsGen a gi ∧ s.gens[gi]? = some gs ∧ g.n ≤ s.heap.objs.size ∧
  GenState.Goes (model X.prog X.w) X.A.in1 (genEnd (FZe g ds (Cz X pins g.n B a oa Lp) B)) (YZ g ds (Cz X pins g.n B a oa Lp) B) m gs (.send .none) (s.setGen gi .running)
section
variable {X : Cx} {pins : List (Addr × Obj)} {s : Shared} {N : List Str} {qual : Str} {sc : Scope} {fn : Addr} {cdv : Value} {q : List (Addr × Obj) → Prop} {n gi m : Nat} {B T : List Addr} {a : Addr} {oa : Obj} {ds : List D} {Lp : Nat → Mu → Sto → Hp → L2.St → Prop} {E1 : Value → Shared → Prop}
theorem gen_next (hct : ct X = ct0 X.K X.mg) (rm : Room 1 X.A) (Bn : Born X pins n B T) (hl : ∀ b, n ≤ b → b ≠ X.env.locals ∨ b ∈ B) (ha : n < a) (aB : a ∈ B) (al : a ≠ X.env.locals)
    (hT : ∀ i μ S H σ μ1 H1 (s1 : Shared), Lp i μ S H σ → Wd (ct X) μ S H → Fw μ H μ1 H1 → HOk X.prog X.w H1 s1.heap → ∀ b ∈ T, H b ≠ none ∧ ∃ o, s1.heap.get? b = some o)
    (hI : Iz X pins (gOf X n N qual sc fn cdv q) ds B a oa gi Lp m s) : wpAny (model X.prog X.w) X.A (pyNext (.ref a)) (fun r s' => match r with
      | none => ∃ μ0 S₀ H₀ σ μ1 H1, Lp ds.length μ0 S₀ H₀ σ ∧ Inv X pins σ H1 s' ∧ Wd (ct X) μ0 S₀ H₀ ∧ Fw μ0 H₀ μ1 H1 ∧ Wd (ct X) μ1 S₀ H1
      | some v => ∃ i μ0 S₀ H₀ σ x d μ1 H1 gpn, ((a, oa) ∈ gpn ∧ (∃ oL gp, gpn = (n, oL) :: (a, oa) :: gp ∧ q gp) ∧ ∀ b ∈ B, s'.heap.get? b = s.heap.get? b) ∧ Lp i μ0 S₀ H₀ σ ∧ RelV x v ∧ Inv X (pins ++ gpn) σ H1 s' ∧ BOk X n B H1 s' ∧ Wd (ct X) μ0 S₀ H₀ ∧ Fw μ0 H₀ μ1 H1 ∧ Wd (ct X) μ1 S₀ H1 ∧ ds[i]? = some d ∧ Rp (ct X) μ1 H1 x d ∧
          ∀ μ4 S4 H4 σ4 (s3 : Shared), Inv X (pins ++ gpn) σ4 H4 s3 → BOk X n B H4 s3 → Lp (i + 1) μ4 S4 H4 σ4 → Kp (ct X) μ1 H1 μ4 H4 → Wd (ct X) μ4 S4 H4 → (∀ (g : Nat) (y : GenState), s'.gens[g]? = some y → isSusp y = true → s3.gens[g]? = some y) → ∃ m', m' < m ∧ Iz X pins (gOf X n N qual sc fn cdv q) ds B a oa gi Lp m' s3) E1 s := by
  obtain ⟨i, μ, S, H, gs, hm, ⟨σ, I, bk, ea, w, lp⟩, ig, eg, hn, go⟩ := hI
  have ec : (gOf X n N qual sc fn cdv q).c = ct X := hct.symm
  refine GenW.wpAny_gsz (n := gi + 1) (Nat.succ_le_of_lt (Array.getElem?_eq_some_iff.mp eg).1) ?_
  refine next_genG (F := FZe (gOf X n N qual sc fn cdv q) ds (Cz X pins n B a oa Lp) B) (Er := fun _ _ => False) (Y := YZ (gOf X n N qual sc fn cdv q) ds (Cz X pins n B a oa Lp) B) rm.hd I.nolimit rm.depth ig eg go (fun v s1 gs' bg hy hgz => ?_) (fun s1 hf h' kp _ => ?_) (fun _ _ z => z.elim)
  · obtain ⟨i', μ0, S₀, H₀, x, d, gp, σg, μ1, H1, hn', ⟨σ', I', bk', ea', w', lp'⟩, rel, Ig, hgp, f1, w1, ed, r1, kap⟩ := hy
    rw [ec] at w1 r1
    have I1 := ask_inv Bn I' Ig (hT i' μ0 S₀ H₀ σ' μ1 H1 s1 lp' w' f1 Ig.hok)
    have pB : ∀ b ∈ B, ∃ o, (b, o) ∈ gp ++ pinsAt B s.heap ∧ s1.heap.get? b = some o := fun b hb => by
      obtain ⟨o, eo, _⟩ := bk' b hb
      have hm := mem_pinsAt hb eo
      exact ⟨o, List.mem_append_right _ hm, (Ig.pin (b, o) (List.mem_append_right _ (List.mem_append_right _ hm))).1⟩
    have nB : n ∉ B := fun z => by
      obtain ⟨o, _, _, h3, _⟩ := bk' n z
      exact h3 rfl
    obtain ⟨oL, eL, I2⟩ := ask_pin Bn I1 Ig a oa hgp.2 hl nB ha aB al ea'
    have I2' : Inv X (pins ++ ((n, oL) :: (a, oa) :: gp)) σ' H1 (s1.setGen gi gs') := inv_gens I2 rfl rfl (bare_set I2.bare bg)
    have gz1 : gi < s1.gens.size := by
      have h1 : gi + 1 ≤ (s1.gens.setIfInBounds gi gs').size := hgz
      rw [Array.size_setIfInBounds] at h1
      exact h1
    have eg1 : (s1.setGen gi gs').gens[gi]? = some gs' := setGen_at gz1
    have bk1 : BOk X n B H1 (s1.setGen gi gs') := fun b hb => by
      obtain ⟨o, eo, h2, h3, h4, h5⟩ := bk' b hb
      have q := Ig.pin (b, o) (List.mem_append_right _ (List.mem_append_right _ (mem_pinsAt hb eo)))
      exact ⟨o, q.1, q.2.1, h3, h4, h5⟩
    refine ⟨i', μ0, S₀, H₀, σ', x, d, μ1, H1, (n, oL) :: (a, oa) :: gp, ⟨List.mem_cons_of_mem _ List.mem_cons_self, ⟨oL, gp, rfl, hgp.1⟩, fun b hb => by
      obtain ⟨o, eo, _⟩ := bk' b hb
      exact (Ig.pin (b, o) (List.mem_append_right _ (List.mem_append_right _ (mem_pinsAt hb eo)))).1.trans (show s.heap.get? b = some o from eo).symm⟩, lp', rel, I2', bk1, w', f1, w1, ed, r1, fun μ4 S4 H4 σ4 s3 I4 bk4 lp4 f4 w4 es => ?_⟩
    have I5 : Inv X pins σ4 H4 s3 := I4.unpinned
    have pa := I4.pin (a, oa) (List.mem_append_right _ (List.mem_append_right _ (List.mem_cons_of_mem _ List.mem_cons_self)))
    have hbr : AllBare (s3.setGen gi .running).gens := bare_set I5.bare rfl
    have W := ask_wake (s3 := s3.setGen gi .running) I4 eL rfl hbr bk4
    have cz : ∀ s4 : Shared, s4.heap = s3.heap → s4.os = s3.os → AllBare s4.gens → Cz X pins n B a oa Lp (i' + 1) μ4 S4 H4 s4 := fun s4 e1 e2 e3 => ⟨σ4, inv_gens I5 e1 e2 e3, fun b hb => by rw [e1]; exact bk4 b hb, by rw [e1]; exact pa.1, w4, lp4⟩
    have go2 := kap μ4 S4 H4 (s3.setGen gi .running) (cz _ rfl rfl hbr) (by rw [ec]; exact f4) (by rw [ec]; exact w4) W
    cases m with
    | zero => exact go2.1.elim
    | succ m' =>
      have sus : isSusp gs' = true := by
        cases gs' with
        | suspended => rfl
        | fresh => exact absurd (show Resume.send (.bool true) = Resume.send .none from go2.2.1) (fun z => by cases z)
        | running => exact go2.1.elim
        | finished => exact go2.1.elim
      exact ⟨m', Nat.lt_succ_self _, i' + 1, μ4, S4, H4, gs', by omega, cz s3 rfl rfl I5.bare, gen_at ig ea pa.1, es gi gs' eg1 sus, W.big, go2.1⟩
  · obtain ⟨_, μ0, S₀, H₀, gp, σg, μ1, H1, ⟨σ', I', bk', ea', w', lp'⟩, Ig, f1, w1⟩ := hf
    rw [ec] at w1
    have I1 := ask_inv Bn I' Ig (hT _ μ0 S₀ H₀ σ' μ1 H1 s1 lp' w' f1 Ig.hok)
    exact ⟨μ0, S₀, H₀, σ', μ1, H1, lp', inv_gens (I1.kept (t' := s1.toks) kp) rfl rfl (bare_set I1.bare rfl), w', f1, w1⟩
/-- before the first item -/
theorem gen_first {H0 : Hp} {vs : List V} {s0 : Shared} {fz : FZ} {body : List Stmt} {μ0 : Mu} {S0 : Sto} {args : List D} {σ : L2.St} (hq0 : q []) (hct : ct X = ct0 X.K X.mg) (Bn : Born X pins s0.heap.objs.size B T) (gz : GZ (gOf X s0.heap.objs.size N qual sc fn cdv q) body fz) (zc : ∀ x, (gOf X s0.heap.objs.size N qual sc fn cdv q).env.cells.lookup x = none)
    (ig : s.heap.IsGen a gi) (eg : s.gens[gi]? = some (.fresh (.func body (gOf X s0.heap.objs.size N qual sc fn cdv q).env))) (hsz : s0.heap.objs.size ≤ s.heap.objs.size)
    (Ig : Inv (gcxN s0.heap.objs.size X.prog X.w X.K X.mg X.base N qual sc fn cdv X.A.in1 X.stack s0 H0 fun _ _ _ => False) [] (L2.start N vs) H0 s) {H : Hp} (I : Inv X pins σ H s) (hH : H s0.heap.objs.size = none) (bk : BOk X s0.heap.objs.size B H s) (ea : s.heap.get? a = some oa) (w : Wd (ct X) μ0 S0 H) (ra : RpAll (ct X) μ0 H vs args) (hz : fz ds 0 S0 (startD N.length args) S0 (kEnd ds)) (lp : Lp 0 μ0 S0 H σ) : Iz X pins (gOf X s0.heap.objs.size N qual sc fn cdv q) ds B a oa gi Lp ds.length s := by
  have ec : (gOf X s0.heap.objs.size N qual sc fn cdv q).c = ct X := hct.symm
  have hbr : AllBare (s.setGen gi .running).gens := bare_set I.bare rfl
  have cz : ∀ s4 : Shared, s4.heap = s.heap → s4.os = s.os → AllBare s4.gens → Cz X pins s0.heap.objs.size B a oa Lp 0 μ0 S0 H s4 := fun s4 e1 e2 e3 => ⟨σ, inv_gens I e1 e2 e3, fun b hb => by rw [e1]; exact bk b hb, by rw [e1]; exact ea, w, lp⟩
  refine ⟨0, μ0, S0, H, _, rfl, cz s rfl rfl I.bare, ig, eg, hsz, ?_⟩
  refine goes_fresh (g := gOf X s0.heap.objs.size N qual sc fn cdv q) (B := B) (gp := []) (S := S0) (ρ := startD N.length args) rfl gz ⟨⟨rfl, hsz, ⟨hq0, fun _ z => nomatch z⟩, fun b hb => ?_⟩, μ0, H, μ0, L2.start N vs, H, cz _ rfl rfl hbr, ?_, Fw.refl, by rw [ec]; exact w, by rw [ec]; exact startD_env ra, trivial⟩ hz
  · obtain ⟨o, eo, _⟩ := bk b hb
    exact ⟨o, eo⟩
  · exact inv_re (gp := []) (op := []) (s1 := s) (B := B) Ig zc Bn.bz Bn.lt ⟨hbr, I.hok, hsz, I.bs, I.stack, I.stkFree, rfl, hH, (fun _ z => nomatch z), bk⟩
end
end Pu
namespace Pu
open PySem PySem.Spec PyProof.Rows L2 GenW
def dForZ (fe : FX (List D)) (gg : FG) (fb : FS) : FS := fun ρ S De Ed => fe ρ S (fun ds S1 => dLoop gg fb [] ds ρ S1 De Ed) Ed
section
variable {X : Cx}
theorem d_forZ {tg iter : Expr} {body : List Stmt} {pos : Pos} {E : XK} {fe : FX (List D)} {gg : FG} {fb : FS} (hct : ct X = ct0 X.K X.mg) (hp : PassesOwn (model X.prog X.w) X.A X.env X.xe) (xz : XeZ X) (rm : Room 1 X.A) (hi : PZd X (cE E) iter fe) (hg : PGd X E tg gg) (hb : PBd X E body fb)
    (hs : ∀ x, foldedSetIterable iter X.env x = pure x := by intro _; rfl) (ho : ∀ (it v : Value), letOwnedTupleGo tg it v = pure () := by intro _ _; rfl) : PSd X E (.For tg iter body [] pos) (dForZ fe gg fb) := by
  refine ⟨fun pins s σ H Dv I ⟨μ, S, ρ, De, Ed, w, en, hf, k, px⟩ => ?_⟩
  rw [exec_For]
  refine wpAny_bind (wpAny_standAt ?_)
  refine wpAny_bind (wpAny_mono (hi pins s σ H μ S ρ _ Ed I w en hf px) (fun u s' hu => ?_) fun _ _ h => h)
  obtain ⟨N, fn, fz, s0, H0, vs, μ0, S0, args, ds, I0, M, f0, w0, ra, hz, hl⟩ := hu
  obtain ⟨qual, sc, cdv, bd, a, gi, oa, rfl, gz, zc, ea, nc, ig, eg, ⟨os', ba'⟩, keep, lta, Ig⟩ := M
  rw [hs]
  refine wpAny_bind (wpAny_pure ?_)
  refine wpAny_bind (wpAny_standAt ?_)
  refine wpAny_bind (wpAny_holding (wpAny_pyIter_gen ig ?_))
  have Bn := born_of (T := []) I0 a
  have hA : X.A.mark none = X.A := rfl
  refine wpAny_runOwn ?_
  rw [hA]
  have lowA : ∀ L ∈ frs X.stack, L < a := fun L hL => Nat.lt_trans (Bn.lt L hL) lta
  have al : a ≠ X.env.locals := fun e => by
    have := I0.lt
    rw [← e] at this
    exact absurd (Nat.lt_trans this lta) (Nat.lt_irrefl _)
  have Iq : Inv X pins σ H0 s' := inv_gens (I0.kept (t' := s'.toks) keep) rfl os' ba'
  have na : H0 a = none := I0.hok.fresh (Nat.le_of_lt lta)
  have bokP : ∀ {H2 : Hp} {s2 : Shared} {σ2 : L2.St} {gpn : List (Addr × Obj)}, Inv X (pins ++ gpn) σ2 H2 s2 → (∃ o, s2.heap.get? a = some o ∧ H2 a = none ∧ ∀ v, o.data ≠ .cell v) → BOk X s0.heap.objs.size ((X.pn ++ pins).map (·.1) ++ [a]) H2 s2 := fun {H2 s2 σ2 gpn} I2 h2 b hb => by
    rcases List.mem_append.mp hb with y | y
    · obtain ⟨p, hp', rfl⟩ := List.mem_map.mp y
      have q := I2.pin p (by
        rcases List.mem_append.mp hp' with z | z
        · exact List.mem_append_left _ z
        · exact List.mem_append_right _ (List.mem_append_left _ z))
      have q0 := I0.pin p hp'
      refine ⟨p.2, q.1, q.2.1, fun e => ?_, fun e => ?_, q.2.2.2.2⟩
      · have := base_lt q0.1
        rw [e] at this
        exact absurd this (Nat.lt_irrefl _)
      · rcases List.mem_cons.mp (I0.stkSub _ e) with z | z
        · exact q.2.2.1 z
        · exact q.2.2.2.1 z
    · have y' := List.mem_singleton.mp y
      subst y'
      obtain ⟨o, h3, h4, h5⟩ := h2
      refine ⟨o, h3, h4, fun e => ?_, fun e => absurd (lowA _ e) (Nat.lt_irrefl _), h5⟩
      rw [e] at lta
      exact absurd lta (Nat.lt_irrefl _)
  refine codeAny_forLoop (Iz X pins (gOf X s0.heap.objs.size N qual sc fn cdv qT) ds ((X.pn ++ pins).map (·.1) ++ [a]) a oa gi (fun i μ S H σ => ∃ ρ, EnvR (ct X) μ H σ ρ ∧ dLoop gg fb [] (ds.drop i) ρ S De Ed ∧ EndsOk (ct X) μ H De Dv ∧ PX (ct X) μ H Ed E)) (fun m s hI => ?_) ds.length ?_ (ho _)
  · have aB : a ∈ (X.pn ++ pins).map (·.1) ++ [a] := List.mem_append_right _ List.mem_cons_self
    refine wpAny_mono (gen_next hct rm Bn (fun b hb => .inl fun e => by
      have := I0.lt
      rw [← e] at this
      exact absurd hb (Nat.not_le.mpr this)) lta aB al (fun _ _ _ _ _ _ _ _ _ _ _ _ _ z => nomatch z) hI) (fun r s1 hr => ?_) fun e s' hx => hx
    cases r with
    | none =>
      obtain ⟨μ0, S₀, H₀, σ', μ1, H1, ⟨ρ', en', hl', k', px'⟩, I1, w', f1, w1⟩ := hr
      refine wpAny_pure ?_
      rw [List.drop_length] at hl'
      exact ⟨σ', H1, I1, k'.nx ρ' S₀ σ' H1 μ1 hl' f1 w1 (en'.fw w' f1)⟩
    | some v =>
      obtain ⟨i', μ0, S₀, H₀, σ', x, d, μ1, H1, gpn, mg, ⟨ρ', en', hl', k', px'⟩, rel, I2, bk1, w', f1, w1, ed, r1, res⟩ := hr
      rw [drop_cons ed] at hl'
      have as1 := hg.run _ (sw s1 (psnG s1.gens)) σ' H1 x v (fun σ3 H3 => ∃ μ3 S3 ρ3, Fw μ1 H1 μ3 H3 ∧ Wd (ct X) μ3 S3 H3 ∧ EnvR (ct X) μ3 H3 σ3 ρ3 ∧ fb ρ3 S3 { nx := fun ρ2 S2 => srcOk [] S2 (dLoop gg fb [] (ds.drop (i' + 1)) ρ2 S2 De Ed), ct := fun ρ2 S2 => srcOk [] S2 (dLoop gg fb [] (ds.drop (i' + 1)) ρ2 S2 De Ed), bk := De.nx, rt := De.rt } Ed)
        (inv_gens I2 rfl rfl (psn_bare I2.bare)) rel ⟨μ1, S₀, ρ', d, _, Ed, w1, en'.fw w' f1, r1, hl', fun ρ3 S3 σ3 H3 μ3 h3 f3 w3 en3 => ⟨μ3, S3, ρ3, f3, w3, en3, h3⟩, px'.fw f1⟩
      refine wpAny_mono (sleep_run xz I2.bare as1) (fun _ s2 ⟨sa, ⟨σ3, H3, I3, μ3, S3, ρ3, f3, w3, en3, h3⟩, eh, eo, eb, es⟩ => ?_) (fun e s' hx => hp e s' hx)
      have I3' : Inv X (pins ++ gpn) σ3 H3 s2 := inv_gens I3 eh eo (eb I3.bare)
      have bd1 := hb.run _ (sw s2 (psnG s2.gens)) σ3 H3 { nx := fun σ4 H4 => ∃ μ4 S4 ρ4, Fw μ3 H3 μ4 H4 ∧ Wd (ct X) μ4 S4 H4 ∧ EnvR (ct X) μ4 H4 σ4 ρ4 ∧ dLoop gg fb [] (ds.drop (i' + 1)) ρ4 S4 De Ed, rt := Dv.rt, bk := Dv.nx, ct := fun σ4 H4 => ∃ μ4 S4 ρ4, Fw μ3 H3 μ4 H4 ∧ Wd (ct X) μ4 S4 H4 ∧ EnvR (ct X) μ4 H4 σ4 ρ4 ∧ dLoop gg fb [] (ds.drop (i' + 1)) ρ4 S4 De Ed }
        (inv_gens I3' rfl rfl (psn_bare I3'.bare)) ⟨μ3, S3, ρ3, _, Ed, w3, en3, h3, ⟨fun ρ4 S4 σ4 H4 μ4 h fw w en => ⟨μ4, S4, ρ4, fw, w, en, h⟩, (k'.fw (f1.trans f3)).rt, (k'.fw (f1.trans f3)).nx, fun ρ4 S4 σ4 H4 μ4 h fw w en => ⟨μ4, S4, ρ4, fw, w, en, h⟩⟩, px'.fw (f1.trans f3)⟩
      refine wpAny_mono (sleep_run xz I3'.bare bd1) (fun f s3 ⟨sb, hsp, eh2, eo2, eb2, es2⟩ => ?_) (fun e s' hx => hp e s' hx)
      have nxt : ∀ σ4 H4, Inv X (pins ++ gpn) σ4 H4 sb → (∃ μ4 S4 ρ4, Fw μ3 H3 μ4 H4 ∧ Wd (ct X) μ4 S4 H4 ∧ EnvR (ct X) μ4 H4 σ4 ρ4 ∧ dLoop gg fb [] (ds.drop (i' + 1)) ρ4 S4 De Ed) → ∃ m', m' < m ∧ Iz X pins (gOf X s0.heap.objs.size N qual sc fn cdv qT) ds ((X.pn ++ pins).map (·.1) ++ [a]) a oa gi (fun i μ S H σ => ∃ ρ, EnvR (ct X) μ H σ ρ ∧ dLoop gg fb [] (ds.drop i) ρ S De Ed ∧ EndsOk (ct X) μ H De Dv ∧ PX (ct X) μ H Ed E) m' s3 := fun σ4 H4 I4 ⟨μ4, S4, ρ4, f4, w4, en4, hl4⟩ => by
        have I4' : Inv X (pins ++ gpn) σ4 H4 s3 := inv_gens I4 eh2 eo2 (eb2 I4.bare)
        have ff := f1.trans (f3.trans f4)
        have pa := I4'.pin (a, oa) (List.mem_append_right _ (List.mem_append_right _ mg.1))
        exact res μ4 S4 H4 σ4 s3 I4' (bokP I4' ⟨oa, pa.1, pa.2.1, pa.2.2.2.2⟩) ⟨ρ4, en4, hl4, k'.fw ff, px'.fw ff⟩ (w1.kp (f3.trans f4)) w4 fun g y hg hy => es2 g y (es g y hg hy) hy
      match f, hsp with
      | .next, ⟨σ4, H4, I4, q⟩ => exact nxt σ4 H4 I4 q
      | .cont, ⟨σ4, H4, I4, q⟩ => exact nxt σ4 H4 I4 q
      | .brk, ⟨σ4, H4, I4, q⟩ => exact ⟨σ4, H4, (inv_gens I4 eh2 eo2 (eb2 I4.bare)).unpinned, q⟩
      | .ret v, ⟨x4, σ4, H4, I4, r4, q⟩ => exact ⟨x4, σ4, H4, (inv_gens I4 eh2 eo2 (eb2 I4.bare)).unpinned, r4, q⟩
  · refine gen_first trivial hct Bn gz zc ig eg (Nat.le_of_lt (Nat.lt_trans lta (base_lt ea))) Ig Iq (I0.hok.fresh (Nat.le_refl _)) (bokP (gpn := []) (by rw [List.append_nil]; exact Iq) ⟨oa, ea, na, nc⟩) ea w0 ra hz ?_
    exact ⟨ρ, en.fw w f0, hl, k.fw f0, px.fw f0⟩
end
end Pu
namespace Pu
open PySem PySem.Spec PyProof.Rows L2 GenW
theorem Kp.trans {c : Ct} {μ μ1 μ2 : Mu} {H H1 H2 : Hp} (a : Kp c μ H μ1 H1) (b : Kp c μ1 H1 μ2 H2) : Kp c μ H μ2 H2 where
  t := fun x xs e => b.t x xs (a.t x xs e)
  l := fun x xs e n1 n2 => let ⟨p, q, r⟩ := a.l x xs e n1 n2; b.l x xs p q r
  m := fun x xs e n1 n2 => let ⟨p, q, r⟩ := a.m x xs e n1 n2; b.m x xs p q r
  d := fun x xs e n1 n2 => let ⟨p, q, r⟩ := a.d x xs e n1 n2; b.d x xs p q r
  i := fun x C dx fs e n1 n2 => let ⟨p, q, r⟩ := a.i x C dx fs e n1 n2; b.i x C dx fs p q r
  cl := fun n x h => b.cl n x (a.cl n x h)
  x := fun x fv e => b.x x fv (a.x x fv e)
  f := fun x ob φ e => let ⟨p, q⟩ := a.f x ob φ e; let ⟨r, s⟩ := b.f x ob φ p; ⟨r, fun z => s (q z)⟩
  g := fun x φ e => b.g x φ (a.g x φ e)
end Pu
namespace Pu
open PySem PySem.Spec PyProof.Rows L2 GenW
/-! ## a generator's def, printed -/
theorem xz_no {X : Cx} : XeZ X.nox := fun _ _ _ _ _ h _ => h
section
variable {n : Nat} {P : Program} {w : World} {K : PySem.W.Frag} {mg : Str → Option Value} {base : Heap} {N : List Str} {qual : Str} {sc : Scope} {fa : Addr} {cd : Value} {A : Around} {out : List Env} {E : XK} {q : List (Addr × Obj) → Prop} {st : Stmt} {rest body : List Stmt}
theorem at_gcx {s : Shared} {H : Hp} (h : n ≤ s.heap.objs.size) : Gx.at (Gx.mk n P w K mg base N qual sc fa cd A out E q) s H = gcxOf P w K mg base N qual sc fa cd A out (Tr n s) H E [] := gcxN_eq (tr_size h)
theorem room_tr {lv : Nat} {s : Shared} (h : n ≤ s.heap.objs.size) (r : Room lv (A.deeper (envOfC qual sc n fa cd))) : Room lv (A.deeper (envOfC qual sc (Tr n s).heap.objs.size fa cd)) := by
  rw [show (Tr n s).heap.objs.size = n from tr_size h]
  exact r
theorem zp_plain {lv : Nat} {f : FS} (r : Room lv (A.deeper (envOfC qual sc n fa cd))) (h : ∀ (s : Shared) (H : Hp), Room lv (A.deeper (envOfC qual sc s.heap.objs.size fa cd)) → PSd (gcxOf P w K mg base N qual sc fa cd A out s H E []) E st f) : GZ1 (Gx.mk n P w K mg base N qual sc fa cd A out E q) st (zPlain f) :=
  z_plain fun s H hb => by
    rw [at_gcx hb]
    exact h _ H (room_tr hb r)
theorem zp_yield {lv : Nat} {e : Expr} {fe : FE} {pos yp : Pos} (o : Gx.Ok (Gx.mk n P w K mg base N qual sc fa cd A out E q)) (r : Room lv (A.deeper (envOfC qual sc n fa cd))) (h : ∀ (s : Shared) (H : Hp), Room lv (A.deeper (envOfC qual sc s.heap.objs.size fa cd)) → PEd (gcxOf P w K mg base N qual sc fa cd A out s H E []) (cE E) e fe) (hco : sc.isCoroutine = false := by rfl) (hi : interactive (envOfC qual sc n fa cd) = false := by rfl) : GZ1 (Gx.mk n P w K mg base N qual sc fa cd A out E q) (.Expr (.Yield (some e) yp) pos) (zYield fe) :=
  z_yield o (fun s H hb => by
    rw [at_gcx hb]
    exact h _ H (room_tr hb r)) hco hi
theorem zp_while {lv : Nat} {test : Expr} {pos : Pos} {t : FT} {fb : FZ} (r : Room lv (A.deeper (envOfC qual sc n fa cd))) (h : ∀ (s : Shared) (H : Hp), Room lv (A.deeper (envOfC qual sc s.heap.objs.size fa cd)) → PTd (gcxOf P w K mg base N qual sc fa cd A out s H E []) (cE E) test t) (hb : GZ (Gx.mk n P w K mg base N qual sc fa cd A out E q) body fb) : GZ1 (Gx.mk n P w K mg base N qual sc fa cd A out E q) (.While test body [] pos) (zWhile t fb) :=
  z_while (fun s H hb => by
    rw [at_gcx hb]
    exact h _ H (room_tr hb r)) hb
end
theorem cells_nil {sc : List (Str × NameKind)} (h : (sc.all fun y => match y.2 with | .cell => false | _ => true) = true) : ∀ (k : Nat) (clo : List (Str × Addr)), cellsFrom k sc clo = clo := by
  induction sc with
  | nil => intro k clo; rfl
  | cons y r ih =>
    intro k clo
    rw [List.all_cons, Bool.and_eq_true] at h
    obtain ⟨x, kd⟩ := y
    cases kd with
    | cell => cases h.1
    | «local» => exact ih h.2 k clo
    | free => exact ih h.2 k clo
    | globalImplicit => exact ih h.2 k clo
    | globalExplicit => exact ih h.2 k clo
section
variable {pr : Program} {wo : World} {K : PySem.W.Frag} {mg : Str → Option Value} {b0 : Heap} {lv : Nat} {x qn : Str} {st : Stmt} {fn : Addr} {dat : FuncData} {NN pars : List Str} {fz : FZ}
theorem z_fn {q : List (Addr × Obj) → Prop} (F : Fun K x qn st fn dat) (S : GScope NN pars (defScope st)) (loc : (pars.all fun x => match (defScope st).names.lookup x with | some .local => true | _ => false) = true) (nc : ((defScope st).names.all fun y => match y.2 with | .cell => false | _ => true) = true)
    (body : ∀ (n : Nat) (cdv : Value) (A : Around) (out : List Env), (Gx.mk n pr wo K mg b0 NN qn (defScope st) fn cdv A out (fun _ _ _ => False) q).Ok → Room lv (A.deeper (envOfC qn (defScope st) n fn cdv)) → GZ ⟨n, pr, wo, K, mg, b0, NN, qn, defScope st, fn, cdv, A, out, fun _ _ _ => False, q⟩ (defBody st) fz) : ZFq q pr wo K mg b0 lv fn dat NN pars fz := by
  obtain ⟨oc, od, kV, dc, pv, an, cdv, ct, osl, rfl, at_, code⟩ := F.ex
  have nocell : ∀ n x, (envOfC qn (defScope st) n fn cdv).cells.lookup x = none := fun n x => by
    show (cellsFrom (n + 1) (defScope st).names []).lookup x = none
    rw [cells_nil nc]
    rfl
  refine ⟨⟨_, _, _, _, _, _, _, _, _, _, cdv, _, oc, od, osl, rfl, at_, code, S, fun y hy => ?_, nocell, fun n A out hb hl rm hd => ?_⟩⟩
  · have := List.all_eq_true.mp loc y hy
    split at this
    · assumption
    · cases this
  · exact body n cdv A out ⟨nocell n, hb, hl⟩ rm
end
/-! ## a call that makes one -/
/-- a def that makes a generator: what it will hand out -/
abbrev ZF := List D → Sto → (List D → Sto → Prop) → Prop
def zDef (np n : Nat) (fz : FZ) : ZF := fun args S Q => args.length = np ∧ ∃ ds, fz ds 0 S (startD n args) S (kEnd ds) ∧ Q ds S
end Pu
namespace Pu
open PySem PySem.Spec PyProof.Rows L2 GenW
/-- a def of the module that makes a generator, with its meaning -/
def ZFm (P : Program) (w : World) (K : PySem.W.Frag) (mg : Str → Option Value) (base : Heap) (lv : Nat) (fn : Addr) (dat : FuncData) (ps : List Str) (F : ZF) : Prop := ∃ N fz, ZFn P w K mg base lv fn dat N ps fz ∧ F = zDef ps.length N.length fz
/-- f(..) makes a generator -/
def dZCall (F : ZF) (fa : FA) : FX (List D) := fun ρ S Q Ed => fa ρ S (fun ds S1 => F ds S1 Q) Ed
section
variable {X : Cx} {E : L2.St → XK} {lv : Nat} {fn : Addr} {dat : FuncData} {pars : List Str} {nm : Str} {p1 p2 : Pos} {a0 : Expr} {as : List Expr} {F : ZF} {fa : FA}
theorem pzd_call (G : ZFm X.prog X.w X.K X.mg X.base lv fn dat pars F) (rm : Room (lv + 1) X.A) (gl : Gl X nm) (at_ : X.mg nm = some (.ref fn)) (kp : PySem.W.keepIn X.K (.ref fn) = true)
    (bi : Binds X.K dat pars []) (pa : PAd X E (a0 :: as) fa) (ndb : (nm == ("__debug__" : Str)) = false := by decide)
    (st1 : starEach (a0 :: as) X.env = (false, eval a0 X.env) :: starEach as X.env := by rfl) (st2 : (backTo p2 (starEach as X.env)).any (·.1) = false := by rfl) : PZd X E (.Call (.Name nm p1) (a0 :: as) [] p2) (dZCall F fa) := fun pins s σ H μ S ρ Qd Ed I w en hf px => by
  obtain ⟨N, fz, g, rfl⟩ := G
  refine wpAny_Call_Name_kw (ld_glob I gl at_ ?_ ndb)
  refine PySem.W.callWith_K (h₀ := X.base) I.ok.mod.kin kp (thn (pa.run p2 pins s σ H (fun vs H1 => ∃ μ1 S1 args, Wd (ct X) μ1 S1 H1 ∧ RpAll (ct X) μ1 H1 vs args ∧ Fw μ H μ1 H1 ∧ zDef pars.length N.length fz args S1 Qd) I ?_) fun us s1 ⟨xs, H1, I1, rx, q1⟩ => ⟨I1.kIn, ?_⟩) st1 st2
  · exact tR_of w en hf px fun ds S1 vs H1 μ1 h1 f1 w1 en1 px1 r1 => ⟨μ1, S1, ds, w1, r1, f1, h1⟩
  · obtain ⟨μ1, S1, args, w1, r1, f1, hl, ds, hz, q⟩ := q1
    have xl : xs.length = pars.length := by rw [r1.length]; exact hl
    have l2 : (us ++ []).length = pars.length := by rw [List.append_nil]; exact rx.length ▸ xl
    have b := bi s1 us I1.kIn l2
    rw [List.append_nil] at b
    refine wpAny_mono (made_z (us := us) (vs := xs) g rm b I1 rx xl) (fun u2 s2 hm => ?_) fun _ _ h => h
    exact ⟨N, fn, fz, s1, H1, xs, μ1, S1, args, ds, I1, hm, f1, w1, r1, hz, q⟩
end
end Pu
namespace Pu
open PySem PySem.Spec PyProof.Rows L2
/-! ## reversed(range(n)) -/
theorem smallRev_one {n : Int} (h0 : 0 ≤ n) (h1 : n < 2 ^ 62) : Builtin.Range.smallRev 0 n 1 = true := by
  have e : Builtin.Range.rangeSize 0 n 1 = n := by
    rw [rangeSize_one]
    split <;> omega
  unfold Builtin.Range.smallRev
  rw [e]
  unfold Builtin.Range.rangeFitsLong
  simp only [Bool.and_eq_true, decide_eq_true_eq]
  refine ⟨⟨⟨⟨⟨?_, ?_⟩, ?_⟩, ?_⟩, ?_⟩, ?_⟩ <;> omega
def iRngR (ta : TA) : TI := fun σ H R => ta σ H fun vs H1 => ∃ n : Nat, vs = [.int (n : Int)] ∧ (n : Int) < 2 ^ 62 ∧ R (Itc ((n : Int) - 1) (-1) n) H1
section
variable {X : Cx} {tg : Expr}
theorem pi_rngRev {a : Expr} {ta : TA} {p p2 pos pos2 : Pos} (hg : Gl X "reversed") (hm : X.mg "reversed" = none) (hg2 : Gl X "range") (hm2 : X.mg "range" = none) (ha : PA X [a] ta) (hs : starEach [a] X.env = [(false, eval a X.env)] := by rfl)
    (hs2 : starEach [.Call (.Name "range" p2) [a] [] pos2] X.env = (false, eval (.Call (.Name "range" p2) [a] [] pos2) X.env) :: starEach [] X.env := by rfl) : PI X tg (.Call (.Name "reversed" p) [.Call (.Name "range" p2) [a] [] pos2] [] pos) (iRngR ta) := by
  refine ⟨fun pins s σ H R I h => ?_⟩
  refine Call_ (ld_blt I hg hm PyProof.Rows.boot_reversed (PyProof.Rows.callWith_type1 (args_cons (Call_ (ld_blt I hg2 hm2 boot_range (PyProof.Rows.callWith_type1 (thn (ha.run pos2 pins s σ H _ I h) fun us s1 ⟨vs, H1, I1, r1, q1⟩ => ?_) hs rfl))) hs2) hs2 rfl))
  obtain ⟨n, e, hn, q⟩ := q1
  subst e
  cases r1 with
  | cons r rr =>
    cases rr
    obtain ⟨t, rfl⟩ := r
    refine call_range_1 (args_nil ?_)
    have I2 : Inv X pins σ H1 { s1 with heap := s1.heap.push { cls := .type "range", data := .fields #[.int 0 s1.toks, .int (n : Int) t, .int 1 (s1.toks + 1)] }, toks := s1.toks + 1 + 1 } := I1.kept (t' := s1.toks + 1 + 1) fun b o e => Heap.get?_push_of_some _ e
    refine reversed_range (n := n) (IsRange.new ..) (smallRev_one (by omega) hn) (by rw [rangeSize_one]; split <;> omega) fun h' it hz kp => ?_
    refine wpAny_pyIter_rangeiter it ?_
    refine ⟨_, [_], _, Itc ((n : Int) - 1) (-1) n, H1, rfl, I2.kept (t' := s1.toks + 1 + 1) kp, turn_rangeC _ ((n : Int) - 1) (-1) n, ?_, fun b hb => ?_, q⟩
    · have e1 : (n : Int) - 1 + ((0 : Nat) : Int) * (-1) = 0 + ((n : Int) - 1) * 1 := by simp
      have e2 : (n : Int) - ((0 : Nat) : Int) = n := by simp
      show IsRangeIter _ _ ((n : Int) - 1 + ((0 : Nat) : Int) * (-1)) ((n : Int) - ((0 : Nat) : Int)) (-1)
      rw [e1, e2]
      exact it
    · have e := List.mem_singleton.mp hb
      subst e
      exact I2.fpOk (Nat.le_refl _) (I2.hok.fresh (Nat.le_refl _))
end
def dRngR (fa : FA) : FI := fun ρ S Q Ed => fa ρ S (fun ds S1 => match ds with
  | [.int n] => (0 ≤ n ∧ n < 2 ^ 62) ∧ Q (downD (n - 1) n.toNat, []) S1
  | _ => False) Ed
section
variable {X : Cx} {E : L2.St → XK} {tg a : Expr} {fa : FA} {p p2 pos pos2 : Pos}
theorem d_rngR (hg : Gl X "reversed") (hm : X.mg "reversed" = none) (hg2 : Gl X "range") (hm2 : X.mg "range" = none) (ha : PAd X E [a] fa) (hs : starEach [a] X.env = [(false, eval a X.env)] := by rfl)
    (hs2 : starEach [.Call (.Name "range" p2) [a] [] pos2] X.env = (false, eval (.Call (.Name "range" p2) [a] [] pos2) X.env) :: starEach [] X.env := by rfl) : PId X E tg (.Call (.Name "reversed" p) [.Call (.Name "range" p2) [a] [] pos2] [] pos) (dRngR fa) := by
  refine PI.imp (pi_rngRev hg hm hg2 hm2 ha hs hs2) fun σ H R ⟨μ, S, ρ, Qi, Ed, w, en, hf, q, px⟩ => ?_
  refine tR_of w en hf px fun ds S1 vs H1 μ1 h1 f1 w1 en1 px1 r1 => ?_
  split at h1
  · obtain ⟨⟨b1, b2⟩, h1⟩ := h1
    rename_i n
    obtain ⟨v, rfl, rv⟩ := r1.one
    cases rv.int_inv
    obtain ⟨m, rfl⟩ : ∃ m : Nat, n = (m : Int) := ⟨n.toNat, (Int.toNat_of_nonneg b1).symm⟩
    rw [Int.toNat_natCast] at h1
    exact ⟨m, rfl, b2, q _ S1 H1 μ1 _ _ h1 f1 w1 itc_ok trivial (fun _ z => nomatch z)⟩
  · exact h1.elim
end
end Pu
namespace Pu
open PySem PySem.Spec PyProof.Rows L2
/-! ## a tuple times zero -/
open AutoSeq1 (wpAny_loadPart') in
theorem tupMul0 (t : Addr) (its : Array Value) (n : Nat) (dc : Option Addr) (sl : Array (Option Value)) (u : Tok) (ne : its.isEmpty = false) :
    Meets (Builtin.«tuple.__mul__» ⟨[.ref t, .int 0 u], []⟩) (fun _ R s => s.heap.get? t = some { cls := .type "tuple", dict := dc, data := .seq its n, slots := sl } ∧ R (.ok (.ret (Value.ref s.heap.objs.size))) { s with heap := s.heap.push { cls := Value.type "tuple", data := Data.seq #[] } }) := by
  refine .of_wp fun pr wo A R s h => ?_
  obtain ⟨hp, g, d, tk, os⟩ := s
  obtain ⟨ht, h⟩ := h
  have f1 := AutoSeq1.idx_int
  have c1 : (its.isEmpty || (0 : Int) == 1) = false := by rw [ne]; rfl
  have c2 : (decide ((0 : Int) ≤ 0) || its.isEmpty) = true := rfl
  wp_walk using wpAny_loadPart' ht
  repeat (first
    | (refine wpAny_ite_false (by decide) ?_; wp_walk using wpAny_loadPart' ht)
    | (refine wpAny_ite_false (decide_eq_false (by rw [c1]; exact Bool.false_ne_true)) ?_; wp_walk using wpAny_loadPart' ht)
    | (refine wpAny_ite_true (decide_eq_true c2) ?_; wp_walk using wpAny_loadPart' ht))
  exact ⟨_, rfl, h⟩
section
variable {X : Cx}
theorem op_rep0 : OpR X (binaryOp .Mult) (fun x y H Q => ∃ (l : Addr) (xs : List V), x = .ref l ∧ y = .int 0 ∧ SqT X.K H l xs ∧ xs ≠ [] ∧ ∀ p, H p = none → Q (.ref p) (upd H p (.tup []))) := by
  intro pins s σ H x y v u Q I rx ry h
  obtain ⟨l, xs, rfl, rfl, hT, hne, q⟩ := h
  cases rx
  obtain ⟨t, rfl⟩ := ry
  obtain ⟨its, r, ⟨⟨cls, dd, data, sl⟩, ho, hc, n, hd⟩, hs⟩ := I.tuple hT
  simp only at hc hd
  subst hc hd
  have hle : its.length = xs.length := r.length.symm
  have hi : its.toArray.isEmpty = false := by
    cases its with
    | nil => exact absurd (List.eq_nil_of_length_eq_zero hle.symm) hne
    | cons a b => rfl
  refine wpAny_binaryOp_repeat_ref (T := "tuple") (U := "int") (by decide) ⟨_, ho, rfl⟩ (fun s' => typeIs_int s' 0 t) noFill_tuple_mul F.fills_int_mul F.slot_int_rmul repeat_tuple F.slot_int_index.lookup
    (call_meets F.slot_int_rmul (typeIs_int s 0 t) F.entry_int_rmul (F.args_int_rmul_2 _ _) (int_rmul_tuple 0 t l its.toArray n dd sl)
      ⟨ho, rfl, ⟨_, ho, rfl⟩, call_meets F.slot_tuple_mul ⟨_, ho, rfl⟩ F.entry_tuple_mul (F.args_tuple_mul_2 _ _) (tupMul0 l its.toArray n dd sl t hi) ⟨ho, ?_⟩⟩)
  refine ⟨.ref s.heap.objs.size, _, I.laid (t' := s.toks) (o := .tup []) (fun b ob q => Heap.get?_push_of_some _ q) (Nat.le_refl _) ?_, rfl, q _ (I.hok.fresh (Nat.le_refl _))⟩
  exact ⟨Nat.zero_le _, [], .nil, IsTup.new _ _⟩
/-- times a number, zero too -/
def gMul0 : G2 := fun x y S Q => match x, y with
  | .tup xs, .int k => (xs ≠ [] ∧ 0 ≤ k ∧ k ≤ 1000 ∧ xs.length ≤ 1000) ∧ Q (.tup (List.replicate k.toNat xs).flatten) S
  | _, _ => False
theorem o_mul0 : OpR X (binaryOp .Mult) (rD2 (ct X) gMul0) := by
  intro pins s σ H x y v u Q I rx ry ⟨μ, S, dx, dy, Qd, w, r1, r2, hg, q⟩
  unfold gMul0 at hg
  split at hg
  · rename_i xs k
    obtain ⟨⟨ne, h1, h2, h3⟩, hq⟩ := hg
    by_cases hk : k = 0
    · subst hk
      obtain ⟨a, vs, rfl, ha, ra⟩ := r1.tup_inv
      have nv : vs ≠ [] := fun e => by
        subst e
        cases ra
        exact ne rfl
      exact op_rep0 pins s σ H _ _ v u Q I rx ry ⟨a, vs, rfl, r2.int_inv, SqT.of ha, nv, fun p hp => q.tup w .nil hq hp⟩
    · exact o_mul pins s σ H _ _ v u Q I rx ry ⟨μ, S, .tup xs, .int k, Qd, w, r1, r2, ⟨⟨ne, by omega, h2, h3⟩, hq⟩, q⟩
  · exact hg.elim
end
end Pu
namespace Pu
open PySem PySem.Spec PyProof.Rows L2 GenW
/-! ## while in a generator's body that list(g) asks -/
def yWhile (t : FT) (fb : FY) : FY := fun ds ρ S k Ed => ∃ W : Nat → List D → Rho → Sto → Prop, (∃ m, W m ds ρ S) ∧ ∀ m ds ρ S, W m ds ρ S →
  t ρ S (fun b S1 => if b = true then fb ds ρ S1 (fun ds' ρ' S' => ∃ m', m' < m ∧ W m' ds' ρ' S') Ed else k ds ρ S1) Ed
section
variable {X : Cx} {E : XK}
theorem y_while {test : Expr} {body : List Stmt} {pos : Pos} {t : FT} {fb : FY} (hp : PassesOwn (model X.prog X.w) X.A X.env X.xe) (hc : PTd X (cE E) test t) (hb : GBd X E body fb) : GSd X E (.While test body [] pos) (yWhile t fb) := by
  refine GS.imp (gs_while hp hc hb) fun D ys σ H ⟨μ, S, ρ, ds, k, Ed, w, en, r, ⟨W, ⟨m0, hm0⟩, turn⟩, q, px⟩ => ?_
  refine ⟨fun m ys' σ' H' => ∃ μ' S' ρ' ds', Fw μ H μ' H' ∧ Wd (ct X) μ' S' H' ∧ EnvR (ct X) μ' H' σ' ρ' ∧ RpAll (ct X) μ' H' ys' ds' ∧ W m ds' ρ' S', ⟨m0, μ, S, ρ, ds, Fw.refl, w, en, r, hm0⟩, ?_⟩
  rintro m ys' σ' H' ⟨μ', S', ρ', ds', f', w', en', r', hw⟩
  refine tR_of w' en' (turn m ds' ρ' S' hw) (px.fw f') fun b S1 v H1 μ1 h1 f1 w1 en1 px1 r1 => ?_
  cases (r1 : v = b)
  have ff := f'.trans f1
  split
  · rename_i hv
    rw [if_pos hv] at h1
    refine ⟨fun ys2 σ2 H2 => ∃ m', m' < m ∧ ∃ μ2 S2 ρ2 ds2, Fw μ H μ2 H2 ∧ Wd (ct X) μ2 S2 H2 ∧ EnvR (ct X) μ2 H2 σ2 ρ2 ∧ RpAll (ct X) μ2 H2 ys2 ds2 ∧ W m' ds2 ρ2 S2, fun ys2 σ2 H2 h => h, ?_⟩
    refine ⟨μ1, S1, ρ', ds', _, Ed, w1, en1, r'.fw w' f1, h1, fun ds3 ρ3 S3 ys3 σ3 H3 μ3 h3 f3 w3 en3 r3 => ?_, px1⟩
    obtain ⟨m', lt, h4⟩ := h3
    exact ⟨m', lt, μ3, S3, ρ3, ds3, ff.trans f3, w3, en3, r3, h4⟩
  · rename_i hv
    rw [if_neg hv] at h1
    exact q ds' ρ' S1 ys' σ' H1 μ1 h1 ff w1 en1 (r'.fw w' f1)
end
section
variable {X : Cx} {E : XK} {lv : Nat} {fn : Addr} {dat : FuncData} {pars : List Str} {nm : Str} {p1 p2 : Pos} {a0 : Expr} {as : List Expr} {F : FF} {fa : FA}
/-- f(..), handed to list -/
theorem pgen_callN (hct : ct X = ct0 X.K X.mg) (G : GFn X.prog X.w X.K X.mg X.base lv fn dat pars (spY (ct0 X.K X.mg) F)) (rm : Room lv X.A) (gl : Gl X nm) (at_ : X.mg nm = some (.ref fn)) (kp : PySem.W.keepIn X.K (.ref fn) = true)
    (bi : Binds X.K dat pars []) (pa : PAd X (cE E) (a0 :: as) fa) (ndb : (nm == ("__debug__" : Str)) = false := by decide)
    (st1 : starEach (a0 :: as) X.env = (false, eval a0 X.env) :: starEach as X.env := by rfl) (st2 : (backTo p2 (starEach as X.env)).any (·.1) = false := by rfl) : PGen X lv (.Call (.Name nm p1) (a0 :: as) [] p2) (tgD (ct X) E (dCallW F fa)) E := by
  refine ⟨fun pins s σ H cont I ⟨μ, S, ρ, Qd, Ed, w, en, hf, q, px⟩ => ?_⟩
  rw [← hct] at G
  refine wpAny_Call_Name_kw (ld_glob I gl at_ ?_ ndb)
  refine PySem.W.callWith_K (h₀ := X.base) I.ok.mod.kin kp (thn (pa.run p2 pins s σ H (fun vs H1 => spY (ct X) F vs H1 cont E) I ?_) fun us s1 ⟨xs, H1, I1, rx, q1⟩ => ⟨I1.kIn, ?_⟩) st1 st2
  · exact tR_of w en hf px fun ds S1 vs H1 μ1 h1 f1 w1 en1 px1 r1 => ⟨μ1, S1, ds, Qd, Ed, w1, r1, h1, fun yd S' ys H' μ' hq fw => q yd S' ys H' μ' hq (f1.trans fw), px1⟩
  · have l2 : (us ++ []).length = pars.length := by rw [List.append_nil]; exact rx.length ▸ G.len _ _ _ _ q1
    have b := bi s1 us I1.kIn l2
    rw [List.append_nil] at b
    exact runGen (us := us) (vs := xs) G rm b I1 rx q1
end
end Pu
namespace Pu
open PySem PySem.Spec PyProof.Rows L2 GenW
/-! ## runs that make, look at and wake no generator -/
abbrev EPk (X : Cx) (pins : List (Addr × Obj)) (σ : L2.St) (G : Array GenState) (Q : VK) (u : Value) (s : Shared) : Prop := EP X pins σ Q u s ∧ s.gens = G
structure PEk (X : Cx) (e : Expr) (t : TE) : Prop where
  run : ∀ (pins : List (Addr × Obj)) (s : Shared) (σ : L2.St) (H : Hp) (Q : VK), Inv X pins σ H s → t σ H Q → wpAny (model X.prog X.w) X.A (eval e X.env) (EPk X pins σ s.gens Q) X.xe s
structure PAk (X : Cx) (es : List Expr) (t : TA) : Prop where
  run : ∀ (pos : Pos) (pins : List (Addr × Obj)) (s : Shared) (σ : L2.St) (H : Hp) (Q : List V → Hp → Prop), Inv X pins σ H s → t σ H Q → wpAny (model X.prog X.w) X.A (spliced (backTo pos (starEach es X.env))) (fun us s' => (∃ vs H', Inv X pins σ H' s' ∧ Vals vs us ∧ Q vs H') ∧ s'.gens = s.gens) X.xe s
structure PTk (X : Cx) (e : Expr) (t : TT) : Prop where
  run : ∀ (pins : List (Addr × Obj)) (s : Shared) (σ : L2.St) (H : Hp) (Q : Bool → Hp → Prop), Inv X pins σ H s → t σ H Q → wpAny (model X.prog X.w) X.A (isTrue e X.env (eval e X.env)) (fun b s' => (∃ H', Inv X pins σ H' s' ∧ Q b H') ∧ s'.gens = s.gens) X.xe s
section
variable {X : Cx} {e a b : Expr} {es : List Expr} {t ta tb te : TE} {ts : TA} {pos p : Pos}
theorem PEk.imp {t' : TE} (h : PEk X e t) (k : ∀ σ H Q, t' σ H Q → t σ H Q) : PEk X e t' := ⟨fun pins s σ H Q I q => h.run pins s σ H Q I (k σ H Q q)⟩
theorem PTk.imp {t t' : TT} (h : PTk X e t) (k : ∀ σ H Q, t' σ H Q → t σ H Q) : PTk X e t' := ⟨fun pins s σ H Q I q => h.run pins s σ H Q I (k σ H Q q)⟩
theorem kp_var {i : Nat} {x : Str} (hN : X.N[i]? = some x) (hv : Vis X.env.scope x) (hd : (x == ("__debug__" : Str)) = false := by decide) (hcd : (x == ("__classdict__" : Str)) = false := by decide) : PEk X (.Name x pos) (tVar i) :=
  ⟨fun pins s σ H Q I ⟨v, e, h⟩ => by
    obtain ⟨m, hn, hl⟩ := I.loc
    obtain ⟨u, r, l⟩ := hl i x v hN e hv
    have q : EPk X pins σ s.gens Q u s := ⟨⟨v, H, I, r, h⟩, rfl⟩
    rcases l with ⟨k, hm⟩ | ⟨k | k, c, hc, cell⟩
    · exact wpAny_Name (wpAny_loadName_local I.ok.kind k hn hm q) hd
    · exact wpAny_Name (wpAny_loadName_cell I.ok.kind k hc cell q) hd
    · exact wpAny_Name (wpAny_loadName_free I.ok.kind k hc cell q hcd) hd⟩
theorem kp_int {i j} : PEk X (.Constant (.int i) j pos) (tC (.int i)) := ⟨fun _ _ _ H _ I h => wpAny_Constant_int ⟨⟨.int i, H, I.tok _, ⟨_, rfl⟩, h⟩, rfl⟩⟩
theorem kp_non {j} : PEk X (.Constant .none j pos) (tC .non) := ⟨fun _ _ _ H _ I h => Constant_none ⟨⟨.non, H, I, rfl, h⟩, rfl⟩⟩
theorem ka_nil : PAk X [] tNil := ⟨fun _ _ _ _ H Q I h => Calls.spliced_nil ⟨⟨[], H, I, .nil, h⟩, rfl⟩⟩
theorem ka_cons (ha : PEk X e te) (hr : PAk X es ts) (hs : starEach (e :: es) X.env = (false, eval e X.env) :: starEach es X.env := by rfl) : PAk X (e :: es) (tCons te ts) :=
  ⟨fun pos pins s σ H Q I h => by
    rw [hs]
    exact Calls.spliced_cons (thn (ha.run pins s σ H _ I h) fun u s1 ⟨⟨x, H1, I1, r1, q1⟩, g1⟩ => thn (hr.run pos pins s1 σ H1 _ I1 q1) fun us s2 ⟨⟨xs, H2, I2, r2, q2⟩, g2⟩ => ⟨⟨x :: xs, H2, I2, .cons r1 r2, q2⟩, g2.trans g1⟩)⟩
theorem kp_tup {x1} (h : PAk X es ts) : PEk X (.Tuple es x1 pos) (tTup ts) :=
  ⟨fun pins s σ H Q I hq => wpAny_Tuple_spliced (thn (h.run pos pins s σ H _ I hq) fun us s1 ⟨⟨xs, H1, I1, r, z, q⟩, g1⟩ => by
    have nH : H1 s1.heap.objs.size = none := I1.hok.fresh (Nat.le_refl _)
    refine ⟨by rw [← r.length]; exact z, ⟨.ref s1.heap.objs.size, upd H1 s1.heap.objs.size (.tup xs), I1.laid (t' := s1.toks) (o := .tup xs) (fun b u e => Heap.get?_push_of_some _ e) (Nat.le_refl _) ⟨z, us, r, ⟨_, Heap.get?_push_size _ rfl, rfl, _, rfl⟩⟩, rfl, q _ nH⟩, g1⟩)⟩
/-- operators and the like -/
def OpK (X : Cx) (op : Value → Value → Sem Value) (r : R2) : Prop := ∀ (pins : List (Addr × Obj)) (s : Shared) (σ : L2.St) (H : Hp) (x y : V) (v u : Value) (Q : VK), Inv X pins σ H s → RelV x v → RelV y u → r x y H Q → wpAny (model X.prog X.w) X.A (op v u) (EPk X pins σ s.gens Q) X.xe s
theorem two_k (ha : PEk X a ta) (hb : PEk X b tb) {pins : List (Addr × Obj)} {s : Shared} {σ : L2.St} {H : Hp} {R : V → V → Hp → Prop} (I : Inv X pins σ H s) (h : ta σ H fun x H1 => tb σ H1 fun y H2 => R x y H2) {α : Type} {Q : α → Shared → Prop} {f : Value → Value → Sem α}
    (hf : ∀ v u s2 x y H2, Inv X pins σ H2 s2 → RelV x v → RelV y u → R x y H2 → s2.gens = s.gens → wpAny (model X.prog X.w) X.A (f v u) Q X.xe s2) :
    wpAny (model X.prog X.w) X.A (eval a X.env) (fun v s₁ => wpAny (model X.prog X.w) X.A (eval b X.env) (fun u s₂ => wpAny (model X.prog X.w) X.A (f v u) Q X.xe s₂) X.xe s₁) X.xe s :=
  thn (ha.run pins s σ H _ I h) fun v s1 ⟨⟨x, H1, I1, r1, q1⟩, g1⟩ => thn (hb.run pins s1 σ H1 _ I1 q1) fun u s2 ⟨⟨y, H2, I2, r2, q2⟩, g2⟩ => hf v u s2 x y H2 I2 r1 r2 q2 (g2.trans g1)
theorem kp_op {op : Operator} {r : R2} (ho : OpK X (binaryOp op) r) (ha : PEk X a ta) (hb : PEk X b tb) : PEk X (.BinOp a op b pos) (tOp r ta tb) :=
  ⟨fun pins s σ H Q I h => wpAny_BinOp (two_k ha hb I h fun v u s2 x y H2 I2 rx ry q g => thn (ho pins s2 σ H2 x y v u Q I2 rx ry q) fun _ _ z => ⟨z.1, z.2.trans g⟩)⟩
theorem kt_cmp {op : CmpOp} {r : R2} (ho : OpK X (compareOp op) r) (ha : PEk X a ta) (hb : PEk X b tb) (hm : behindInMarks op b = false) : PTk X (.Compare a [op] [b] pos) (tTest (tOp r ta tb)) :=
  ⟨fun pins s σ H Q I h => wpAny_isTrue_Compare1 (thn (ha.run pins s σ H _ I h) fun v s1 ⟨⟨x, H1, I1, r1, q1⟩, g1⟩ => thn (hb.run pins s1 σ H1 _ I1 q1) fun u s2 ⟨⟨y, H2, I2, r2, q2⟩, g2⟩ =>
    thn (ho pins s2 σ H2 x y v u _ I2 r1 r2 q2) fun c s3 ⟨⟨z, H3, I3, r3, k, e, q3⟩, g3⟩ => by
      subst e
      cases r3
      exact wpAny_truthy_bool ⟨⟨H3, I3, q3⟩, g3.trans (g2.trans g1)⟩) hm⟩
theorem ok_isnot : OpK X (compareOp .IsNot) (rD2 (ct X) (gIs true)) := fun pins s σ H x y v u Q I rx ry ⟨μ, S, dx, dy, Qd, w, r1, r2, hg, q⟩ => by
  unfold gIs at hg
  split at hg
  · cases r2
    cases ry
    refine isnot_none_gen ⟨fin_bl I (q.same w (.bl _) hg.2) ?_, rfl⟩
    rw [← r1.non_iff (fun z e => by rw [e] at hg; cases hg.1)]
    cases x <;> first
      | (cases rx; rfl)
      | (obtain ⟨t, rfl⟩ := rx; rfl)
  · exact hg.elim
end
/-! ### of tuples alone -/
def gMulU : G2 := fun x y S Q => match x, y with
  | .tup xs, .int k => (xs ≠ [] ∧ 1 ≤ k ∧ k ≤ 1000 ∧ xs.length ≤ 1000) ∧ Q (.tup (List.replicate k.toNat xs).flatten) S
  | _, _ => False
def gIxU : G2 := fun x y S Q => match x, y with
  | .tup xs, .int i => onSome (atI xs i) fun d => Q d S
  | _, _ => False
def gLenU : List D → Sto → QD → Prop := fun ds S Q => match ds with
  | [.tup xs] => Q (.int xs.length) S
  | _ => False
section
variable {X : Cx} {E : L2.St → XK} {e a b : Expr} {es : List Expr} {fa fb fe : FE} {fs : FA} {pos p : Pos}
theorem ka_imp {t t' : TA} (h : PAk X es t) (k : ∀ σ H Q, t' σ H Q → t σ H Q) : PAk X es t' := ⟨fun pos pins s σ H Q I q => h.run pos pins s σ H Q I (k σ H Q q)⟩
abbrev PKd (X : Cx) (E : L2.St → XK) (e : Expr) (f : FE) : Prop := PEk X e (tD (ct X) E f)
abbrev PKa (X : Cx) (E : L2.St → XK) (es : List Expr) (f : FA) : Prop := PAk X es (tAr (ct X) E f)
abbrev PKt (X : Cx) (E : L2.St → XK) (e : Expr) (f : FT) : Prop := PTk X e (tT (ct X) E f)
theorem k_var {i : Nat} (h : PEk X e (tVar i)) : PKd X E e (dVar i) :=
  PEk.imp h fun σ H Q ⟨μ, S, ρ, Qd, Ed, w, en, hf, q, px⟩ => by
    obtain ⟨d, e1, hd⟩ := onSome_of hf
    obtain ⟨v, e2, r⟩ := en.ok i d (getV_some e1)
    exact ⟨v, e2, q d S v H μ hd Fw.refl w r⟩
theorem k_int {i j} : PKd X E (.Constant (.int i) j pos) (dC (.int i)) := PEk.imp kp_int fun σ H Q ⟨μ, S, ρ, Qd, Ed, w, en, hf, q, px⟩ => q (.int i) S (.int i) H μ hf Fw.refl w (.int i)
theorem k_non {j} : PKd X E (.Constant .none j pos) (dC .non) := PEk.imp kp_non fun σ H Q ⟨μ, S, ρ, Qd, Ed, w, en, hf, q, px⟩ => q .non S .non H μ hf Fw.refl w .non
theorem k_nil : PKa X E [] dNil := ka_imp ka_nil fun σ H Q ⟨μ, S, ρ, Qd, Ed, w, en, hf, q, px⟩ => q [] S [] H μ hf Fw.refl w .nil
theorem k_cons (ha : PKd X E e fa) (hr : PKa X E es fs) (hs : starEach (e :: es) X.env = (false, eval e X.env) :: starEach es X.env := by rfl) : PKa X E (e :: es) (dCons fa fs) :=
  ka_imp (ka_cons ha hr hs) fun σ H Q ⟨μ, S, ρ, Qd, Ed, w, en, hf, q, px⟩ => by
    refine tR_of w en hf px fun x S1 v H1 μ1 h1 f1 w1 en1 px1 r1 => tR_of w1 en1 h1 px1 fun xs S2 vs H2 μ2 h2 f2 w2 en2 px2 r2 => ?_
    exact q _ S2 _ H2 μ2 h2 (f1.trans f2) w2 (.cons (r1.fw w1 f2) r2)
theorem k_tup {x1} (h : PKa X E es fs) : PKd X E (.Tuple es x1 pos) (dTup fs) :=
  PEk.imp (kp_tup h) fun σ H Q ⟨μ, S, ρ, Qd, Ed, w, en, hf, q, px⟩ => tR_of w en hf px fun ds S1 vs H1 μ1 h1 f1 w1 en1 px1 r1 => ⟨by rw [r1.length]; exact h1.1, fun p hp => (PostV.tup (c := ct X) (fun d S' v H' μ' a1 a2 a3 a4 => q d S' v H' μ' a1 (f1.trans a2) a3 a4) w1 r1 h1.2 hp)⟩
theorem k_op {op : Operator} {g : G2} (ho : OpK X (binaryOp op) (rD2 (ct X) g)) (ha : PKd X E a fa) (hb : PKd X E b fb) : PKd X E (.BinOp a op b pos) (dBin g fa fb) := PEk.imp (kp_op ho ha hb) fun _ _ _ h => tBin h
theorem k_isnot (ha : PKd X E a fa) (hb : PKd X E b fb) (hm : behindInMarks .IsNot b = false) : PKt X E (.Compare a [.IsNot] [b] pos) (dTest (dBin (gIs true) fa fb)) :=
  PTk.imp (kt_cmp ok_isnot ha hb hm) fun σ H Q ⟨μ, S, ρ, Qd, Ed, w, en, hf, q, px⟩ => by
    refine tBin ⟨μ, S, ρ, _, Ed, w, en, hf, fun d S' v H' μ' h f w' r => ?_, px⟩
    obtain ⟨b, rfl, hb⟩ := onBl_of h
    exact ⟨b, r.bl_inv, q b S' b H' μ' hb f w' rfl⟩
theorem k_len {x : Str} (hg : Gl X x) (hm : X.mg x = none) (hv : bootBuiltins x = some (.builtin "len")) (ha : PKa X E (e :: es) fs) (hn : x ≠ "__name__" := by decide) (hdb : (x == ("__debug__" : Str)) = false := by decide)
    (he : starEach (e :: es) X.env = (false, eval e X.env) :: starEach es X.env := by rfl) (hpl : (backTo pos (starEach es X.env)).any (·.1) = false := by rfl) : PKd X E (.Call (.Name x p) (e :: es) [] pos) (dB gLenU fs) :=
  ⟨fun pins s σ H Q I ⟨μ, S, ρ, Qd, Ed, w, en, hf, q, px⟩ => by
    refine wpAny_Call_Name_kw (ld_blt I hg hm hv (PyProof.Rows.callWith_builtin1 (thn (ha.run pos pins s σ H (fun vs H1 => ∃ a ws, vs = [.ref a] ∧ SqT X.K H1 a ws ∧ Q (.int ws.length) H1) I ?_) fun us s1 hu => ?_) he hpl) hn hdb)
    · refine tR_of w en hf px fun ds S1 vs H1 μ1 h1 f1 w1 en1 px1 r1 => ?_
      unfold gLenU at h1
      split at h1
      · obtain ⟨v, rfl, rv⟩ := r1.one
        obtain ⟨a, ws, rfl, ha', ra⟩ := rv.tup_inv
        exact ⟨a, ws, rfl, SqT.of ha', q _ S1 _ H1 μ1 h1 f1 w1 (by rw [ra.length]; exact .int _)⟩
      · exact h1.elim
    · obtain ⟨⟨vs, H1, I1, rv, a, ws, rfl, hs, hq⟩, g1⟩ := hu
      cases rv with
      | cons r rr =>
        cases rr
        cases r
        obtain ⟨its, r', pl, hz⟩ := I1.tuple hs
        have hlen := r'.length
        have hn := line63
        exact len_tuple pl (by simp only [List.size_toArray]; omega) ⟨⟨.int ws.length, H1, I1.tok _, ⟨s1.toks + 1, by rw [List.size_toArray, hlen]⟩, hq⟩, g1⟩⟩
theorem k_ix (ha : PKd X E a fa) (hb : PKd X E b fb) (hs : PlainIx b) : PKd X E (.Subscript a b pos) (dBin gIxU fa fb) :=
  ⟨fun pins s σ H Q I h => Subscript_ (two_k ha hb I (tBin h : tOp (rD2 (ct X) gIxU) _ _ σ H Q) fun v u s2 x y H2 I2 rx ry ⟨μ, S, dx, dy, Qd, w, r1, r2, hg, q⟩ g => by
    unfold gIxU at hg
    split at hg
    · obtain ⟨d, e2, hg⟩ := onSome_of hg
      obtain ⟨a, ws, rfl, ha', rs⟩ := r1.tup_inv
      cases r2.int_inv
      obtain ⟨z, e3, rz⟩ := atI_map rs.length (fun i y h => rs.at h) e2
      have fin := q.same w rz hg
      cases rx
      obtain ⟨t, rfl⟩ := ry
      obtain ⟨its, r, pl, hz⟩ := I2.tuple (SqT.of (K := X.K) ha')
      obtain ⟨j, h1, h2, h3, h4, h5⟩ := atI_get e3
      obtain ⟨w', ew, rw'⟩ := r.get h2
      have hl := r.length
      have hn := line63
      exact subscriptTail_builtinR (x := w') pl.typeIs slot_tuple_getitem.lookup (getItem_tuple (j := j) (Q := fun r s' => r = w' ∧ EPk X pins σ s.gens Q r s') pl (by omega) (by omega) (by rw [List.size_toArray, ← hl]; exact h1) (by simpa using ew) ⟨rfl, ⟨z, H2, I2, rw', fin⟩, g⟩) (hs _ _)
    · exact hg.elim)⟩
end
end Pu
namespace Pu
open PySem PySem.Spec PyProof.Rows L2 GenW
section
variable {X : Cx}
theorem k_rep1 {pins : List (Addr × Obj)} {s : Shared} {σ : L2.St} {H : Hp} {l : Addr} {t : Tok} {xs : List V} {Q : Value → Shared → Prop} (I : Inv X pins σ H s) (hT : SqT X.K H l xs) (q : Q (.ref l) s) : wpAny (model X.prog X.w) X.A (binaryOp .Mult (.ref l) (.int 1 t)) Q X.xe s := by
  obtain ⟨its, r, ⟨⟨cls, dd, data, sl⟩, ho, hc, n, hd⟩, hs⟩ := I.tuple hT
  cases (hc : cls = _)
  cases (hd : data = _)
  refine wpAny_binaryOp_repeat_ref (T := "tuple") (U := "int") (by decide) ⟨_, ho, rfl⟩ (fun s' => typeIs_int s' 1 t) noFill_tuple_mul F.fills_int_mul F.slot_int_rmul repeat_tuple F.slot_int_index.lookup
    (call_meets F.slot_int_rmul (typeIs_int s 1 t) F.entry_int_rmul (F.args_int_rmul_2 _ _) (int_rmul_tuple 1 t l its.toArray n dd sl) ⟨ho, rfl, ⟨_, ho, rfl⟩, call_meets F.slot_tuple_mul ⟨_, ho, rfl⟩ F.entry_tuple_mul (F.args_tuple_mul_2 _ _) (Rb.tupMul1 l its.toArray n dd sl t) ⟨ho, q⟩⟩)
theorem k_repN {pins : List (Addr × Obj)} {s : Shared} {σ : L2.St} {H : Hp} {l : Addr} {t : Tok} {k : Int} {xs : List V} {Q : VK} (I : Inv X pins σ H s) (hT : SqT X.K H l xs) (hne : xs ≠ []) (h1 : 2 ≤ k) (h2 : k ≤ 1000) (hz : xs.length ≤ 1000) (q : ∀ p, H p = none → Q (.ref p) (upd H p (.tup (List.replicate k.toNat xs).flatten))) :
    wpAny (model X.prog X.w) X.A (binaryOp .Mult (.ref l) (.int k t)) (EPk X pins σ s.gens Q) X.xe s := by
  obtain ⟨its, r, ⟨⟨cls, dd, data, sl⟩, ho, hc, n, hd⟩, hs⟩ := I.tuple hT
  cases (hc : cls = _)
  cases (hd : data = _)
  have hle : its.length = xs.length := r.length.symm
  have hn : 0 < its.length := by rw [hle]; exact List.length_pos_iff.mpr hne
  have hi : its.toArray.isEmpty = false := by cases its <;> first | rfl | exact absurd hn (Nat.lt_irrefl _)
  have z0 : its.toArray.size = xs.length := by rw [List.size_toArray, hle]
  have a0 : k.toNat * xs.length ≤ 1000 * 1000 := Nat.mul_le_mul (by omega) hz
  have hm : ((its.toArray.size : Nat) : Int) * k ≤ 1000000 := by rw [z0]; exact Int.le_trans (Int.mul_le_mul_of_nonneg_right (show ((xs.length : Nat) : Int) ≤ 1000 by omega) (by omega)) (by omega)
  have fl : (List.replicate k.toNat its).flatten.length ≤ sizeLine := by rw [lm_len_rep_flat, hle, sizeLine_eq]; omega
  have fl2 : (List.replicate k.toNat xs).flatten.length ≤ sizeLine := by rw [lm_len_rep_flat, sizeLine_eq]; omega
  have b0 : (decide (k < -(2 ^ 63)) || decide (k ≥ 2 ^ 63)) = false := by rw [Bool.or_eq_false_iff]; exact ⟨decide_eq_false (by omega), decide_eq_false (by omega)⟩
  have b1 : (its.toArray.isEmpty || k == 1) = false := by rw [hi, Bool.false_or]; exact beq_eq_false_iff_ne.mpr (by omega)
  have b2 : (decide (k ≤ 0) || its.toArray.isEmpty) = false := by rw [hi, Bool.or_false]; exact decide_eq_false (by omega)
  have b4 : Builtin.Tuple.tupleTooMany (((its.toArray.size : Nat) : Int) * k) = false := by unfold Builtin.Tuple.tupleTooMany; rw [sizeLine_eq]; exact decide_eq_false (by omega)
  refine wpAny_binaryOp_repeat_ref (T := "tuple") (U := "int") (by decide) ⟨_, ho, rfl⟩ (fun s' => typeIs_int s' k t) noFill_tuple_mul F.fills_int_mul F.slot_int_rmul repeat_tuple F.slot_int_index.lookup
    (call_meets F.slot_int_rmul (typeIs_int s k t) F.entry_int_rmul (F.args_int_rmul_2 _ _) (int_rmul_tuple k t l its.toArray n dd sl) ⟨ho, rfl, ⟨_, ho, rfl⟩, call_meets F.slot_tuple_mul ⟨_, ho, rfl⟩ F.entry_tuple_mul (F.args_tuple_mul_2 _ _) (tuple_mulW l its.toArray n dd sl k t b0 b1 b2 (by omega) b4 (by rw [size_rep, List.size_toArray]; exact fl)) ⟨ho, ?_⟩⟩)
  rw [size_rep]
  exact ⟨⟨.ref s.heap.objs.size, _, I.laid (t' := s.toks) (o := .tup (List.replicate k.toNat xs).flatten) (fun b ob z => Heap.get?_push_of_some _ z) (Nat.le_refl _) ⟨fl2, _, r.rep k.toNat, IsTup.new _ _⟩, rfl, q _ (I.hok.fresh (Nat.le_refl _))⟩, rfl⟩
theorem ok_mul : OpK X (binaryOp .Mult) (rD2 (ct X) gMulU) := fun pins s σ H x y v u Q I rx ry ⟨μ, S, dx, dy, Qd, w, r1, r2, hg, q⟩ => by
  unfold gMulU at hg
  split at hg
  · rename_i xs k
    obtain ⟨a, vs, rfl, ha, ra⟩ := r1.tup_inv
    obtain ⟨⟨ne, h1, h2, h3⟩, hq⟩ := hg
    have nv : vs ≠ [] := fun e => by subst e; cases ra; exact ne rfl
    cases rx
    cases r2.int_inv
    obtain ⟨t, rfl⟩ := ry
    by_cases hk : k = 1
    · subst hk
      refine k_rep1 I (SqT.of ha) ⟨⟨.ref a, H, I, rfl, ?_⟩, rfl⟩
      have e : (List.replicate (1 : Int).toNat xs).flatten = xs := by show (List.replicate 1 xs).flatten = xs; simp
      rw [e] at hq
      exact q.same w (.tup ha ra) hq
    · exact k_repN I (SqT.of ha) nv (by omega) h2 (by rw [ra.length]; exact h3) fun p hp => q.tup w (ra.rep _) hq hp
  · exact hg.elim
/-! ### a statement -/
structure PSk (X : Cx) (E : XK) (st : Stmt) (f : FS) : Prop where
  run : ∀ (pins : List (Addr × Obj)) (s : Shared) (σ : L2.St) (H : Hp) (D : Ends), Inv X pins σ H s → tS (ct X) E f D σ H → wpAny (model X.prog X.w) X.A (exec st X.env) (fun f s' => SP X pins D f s' ∧ s'.gens = s.gens) X.xe s
theorem inv_put {pins : List (Addr × Obj)} {s : Shared} {σ : L2.St} {H : Hp} {h' : Heap} {t' : Nat} {m : Str → Option Value} {i : Nat} {x : Str} {v : V} {u : Value} (I : Inv X pins σ H s) (hN : X.N.Nodup) (hi : X.N[i]? = some x) (hk : X.env.scope.names.lookup x = some .local) (r : RelV v u)
    (hn : s.heap.Ns X.env.locals m) (hl : ∀ (j : Nat) (y : Str) (v' : V), X.N[j]? = some y → σ[j]? = some (some v') → Vis X.env.scope y → ∃ u, RelV v' u ∧ Look X.env s.heap m y u)
    (n' : h'.Ns X.env.locals (fun y => if y = x then some u else m y)) (sb : Heap.SameBut X.env.locals s.heap h') : Inv X pins (σ.set i (some v)) H { s with heap := h', toks := t' } := by
  have ne : ∀ {b : Addr} {o : Obj}, X.s_0.heap.get? b = some o → b ≠ X.env.locals := fun e => Nat.ne_of_lt (Nat.lt_of_lt_of_le (Heap.lt_size e) I.ok.above)
  have len : i < σ.length := by rw [I.len]; exact (List.getElem?_eq_some_iff.mp hi).1
  obtain ⟨oL, _, _, eL, _⟩ := id hn
  refine { ok := I.ok, os := I.os, bare := I.bare, base := ⟨fun b o e n hb hx => (sb.2 b (ne e)).trans (I.base.keep b o e n hb hx), fun b o e n hb hx => ?_, I.base.free, fun b o e hx => ?_, I.base.tups, I.base.frzs, I.base.tbls⟩, loc := ⟨_, n', fun j y v' e1 e2 e3 => ?_⟩, cell := fun y c e => ?_, free := I.free, freeC := I.freeC, pin := fun p hp => ?_, hok := fun b ob e => ?_, len := by rw [List.length_set]; exact I.len }
  · exact (I.base.slot b o e n hb hx).imp fun sl z => (sb.2 b (ne e)).trans z
  · exact (I.base.there b o e hx).imp fun o' z => (sb.2 b (ne e)).trans z
  · by_cases hj : i = j
    · subst hj
      rw [List.getElem?_set_self len] at e2
      cases hi.symm.trans e1
      cases e2
      exact ⟨u, r, .inl ⟨hk, if_pos rfl⟩⟩
    · rw [List.getElem?_set_ne hj] at e2
      obtain ⟨u', r', l⟩ := hl j y v' e1 e2 e3
      have yx : y ≠ x := fun z => by
        rw [z] at e1
        exact hj (nodup_ix hN hi e1)
      exact ⟨u', r', l.imp (fun z => ⟨z.1, (if_neg yx).trans z.2⟩) fun ⟨k, c, z1, z2⟩ => ⟨k, c, z1, z2.sameBut sb (I.cne y c z1)⟩⟩
  · exact (I.cell y c e).imp fun w z => z.sameBut sb (I.cne y c e)
  · obtain ⟨z1, z2, z3, z4⟩ := I.pin p hp
    exact ⟨(sb.2 p.1 z3).trans z1, z2, z3, z4⟩
  · refine (I.hok b ob e).stay (fun c w' hc z => (sb.2 c fun ec => ?_).trans z) (fun _ z => z) fun _ _ z => z
    have f := I.free
    rw [← ec] at f
    rcases hc with hc | hc
    · rw [hc, e] at f; cases f
    · rw [hc] at f; cases f
theorem k_set {E : XK} {i : Nat} {x : Str} {e : Expr} {fe : FE} {pos pos' : Pos} (hN : X.N.Nodup) (hi : X.N[i]? = some x) (hk : X.env.scope.names.lookup x = some .local) (he : PKd X (cE E) e fe) (hs : swapsWith e (some (.Name x pos')) pos.line X.env = pure false := by rfl) : PSk X E (.Assign [.Name x pos'] e pos) (dAsg fe (gN i)) :=
  ⟨fun pins s σ H D I ⟨μ, S, ρ, De, Ed, w, en, hf, k, px⟩ => by
    refine wpAny_Assign_Name (thn (he.run pins s σ H (fun v H1 => D.nx (σ.set i (some v)) H1) I ?_) fun u s1 ⟨⟨v, H1, I1, r1, q⟩, g⟩ => ?_) hs
    · exact tR_of w en hf px fun x S1 v H1 μ1 h1 f1 w1 en1 px1 r1 => k.nx _ S1 _ H1 μ1 (setK_eq (k := fun ρ' => De.nx ρ' S1) h1) f1 w1 (en1.set r1)
    · obtain ⟨m, hn, hl⟩ := I1.loc
      have nc : (X.env.scope.kind == .class || (X.env.scope.kind == .module && X.env.locals != X.env.globals)) = false := by rw [I1.ok.kind] <;> rfl
      exact wpAny_storeName_local hk hn (fun h' n' sb => ⟨⟨_, _, inv_put I1 hN hi hk r1 hn hl n' sb, q⟩, g⟩) nc⟩
/-- nothing is lost -/
theorem PKd.pe {E : L2.St → XK} {e : Expr} {f : FE} (h : PKd X E e f) : PEd X E e f := ⟨fun pins s σ H Q I q => thn (h.run pins s σ H Q I q) fun _ _ z => z.1⟩
theorem PKt.pt {E : L2.St → XK} {e : Expr} {f : FT} (h : PKt X E e f) : PTd X E e f := ⟨fun pins s σ H Q I q => thn (h.run pins s σ H Q I q) fun _ _ z => z.1⟩
end
end Pu
namespace Pu
open PySem PySem.Spec PyProof.Rows L2 GenW
/-! ## a generator whose first stretch makes, looks at and wakes no other -/
theorem seg_up {M : Model} {A : Around} {R : GenEnd} {Y Y' : Protocol} {L : Nat} (hY : ∀ m s₀ v s1 (kap kap' : Resume → Shared → Prop), (m + 1 < L ∨ ∀ r s, ¬ kap' r s) → (∀ r s, kap r s → kap' r s) → Y m s₀ v s1 kap → Y' m s₀ v s1 kap') :
    ∀ (n : Nat) {s₀ : Shared} {c : Code} {t : Sem PySem.Fin} {fs : List Frame} {s : Shared}, n < L → Seg M A R Y n s₀ c t fs s → Seg M A R Y' n s₀ c t fs s
  | 0, s₀, c, t, fs, s, hn, h => fun Γ p h1 h2 => by
    obtain ⟨e, s', hr, he⟩ := h Γ p h1 h2
    refine ⟨e, s', hr, ?_⟩
    cases e with
    | ret r => exact he
    | susp v g l k c p fs => exact ⟨he.1, hY 0 s₀ v s' _ _ (.inr fun _ _ z => z) (fun _ _ z => z) he.2⟩
  | n + 1, s₀, c, t, fs, s, hn, h => fun Γ p h1 h2 => by
    obtain ⟨e, s', hr, he⟩ := h Γ p h1 h2
    refine ⟨e, s', hr, ?_⟩
    cases e with
    | ret r => exact he
    | susp v g l k c p fs => exact ⟨he.1, hY n s₀ v s' _ _ (.inl hn) (fun r s'' hs => seg_up hY n (Nat.lt_of_succ_lt hn) hs) he.2⟩
/-- .. and the first item says that nobody else was woken -/
def YF (g : Gx) (ds : List D) (C : CZ) (B : List Addr) : Protocol := fun n s₀ v s1 kap => YZ g ds C B n s₀ v s1 kap ∧ ((∃ r s, kap r s) → n + 1 = ds.length → s1.gens = s₀.gens)
theorem yz_up {g : Gx} {ds : List D} {C : CZ} {B : List Addr} {n : Nat} {s₀ s1 : Shared} {v : Value} {kap kap' : Resume → Shared → Prop} (h : YZ g ds C B n s₀ v s1 kap) (k : ∀ r s, kap r s → kap' r s) : YZ g ds C B n s₀ v s1 kap' := by
  obtain ⟨i, μ0, S₀, H₀, x, d, gp, σ, μ1, H1, a1, a2, a3, a4, a5, a6, a7, a8, a9, a10⟩ := h
  exact ⟨i, μ0, S₀, H₀, x, d, gp, σ, μ1, H1, a1, a2, a3, a4, a5, a6, a7, a8, a9, fun μ2 S2 H2 s2 b1 b2 b3 b4 => (a10 μ2 S2 H2 s2 b1 b2 b3 b4).imp (k _ _) (k _ _)⟩
theorem seg_yf {g : Gx} {ds : List D} {C : CZ} {B : List Addr} {M : Model} {A : Around} {R : GenEnd} {n : Nat} {s₀ : Shared} {c : Code} {t : Sem PySem.Fin} {fs : List Frame} {s : Shared} (hn : n < ds.length) (h : Seg M A R (YZ g ds C B) n s₀ c t fs s) : Seg M A R (YF g ds C B) n s₀ c t fs s :=
  seg_up (L := ds.length) (fun m s₀ v s1 kap kap' hm k h => ⟨yz_up h k, fun ⟨r, s, hk⟩ e => hm.elim (fun z => absurd e (Nat.ne_of_lt z)) fun z => absurd hk (z r s)⟩) n hn h
section
variable {g : Gx} {ds : List D} {C : CZ} {B : List Addr} {A : Around} {R : GenEnd} {Y : Protocol} {c c' : Code} {fs : List Frame} {K : Flow → Sem PySem.Fin} {J : Value → Sem PySem.Fin} {gd : Bool → Bool} {lv : List Value → List Value} {n : Nat} {s₀ s : Shared} {H₀ : Hp} {e : Value}
abbrev SegY (g : Gx) (Y : Protocol) (A : Around) (R : GenEnd) := Seg (model g.P g.w) A R Y
theorem cbY (G : GZr A c fs gd g.AX) (h : cameBackBy (model g.P g.w) g.AX g.env (g.at s₀ H₀).xe e s) (hb : g.n ≤ s₀.heap.objs.size) (ex : ∀ n s₀ H₀ e s, g.n ≤ s₀.heap.objs.size → (g.at s₀ H₀).xe e s → SegY g Y A R n s₀ c (J e) fs s) : SegY g Y A R n s₀ c (((Sem.raise e).onRaise (cameBack g.env)).wrap K J gd lv) fs s := by
  rw [Sem.onRaise_eq_wrap, Sem.wrap_wrap]
  show SegY g Y A R n s₀ c (((cameBack g.env e).bind fun _ => Sem.raise e).wrap _ _ _ _) fs s
  rw [Sem.bind_eq_wrap, Sem.wrap_wrap]
  refine seg_wrap ?_
  rw [G.over]
  exact wpAny_mono h (fun _ s'' hx => ex n s₀ H₀ e s'' hb hx) fun y s'' hx => ex n s₀ H₀ y s'' hb hx
theorem eeY (G : GZr A c fs gd g.AX) (G' : GZr A c' (retF g K J gd lv c p :: fs) id g.AX) (hb : g.n ≤ s₀.heap.objs.size) (hx : (g.at s₀ H₀).xe e s) (ex : ∀ n s₀ H₀ e s, g.n ≤ s₀.heap.objs.size → (g.at s₀ H₀).xe e s → SegY g Y A R n s₀ c (J e) fs s) :
    SegY g Y A R n s₀ c' ((do noteFrame e g.env; theTreesLotGoes e : Sem Unit).wrap (fun _ => .raise e) .raise id id) (retF g K J gd lv c p :: fs) s := by
  refine seg_wrap ?_
  rw [G'.over]
  refine wpAny_bind (wpAny_mono (owns_at hb e s hx) (fun _ s'' hcb => wpAny_theTreesLotGoes ?_) fun y s'' hcb => ?_)
  · exact seg_leaf (.error e) (cbY G hcb hb ex)
  · exact seg_leaf (.error y) (cbY G hcb hb ex)
end
/-- such a while, from its test on -/
theorem z_loop {g : Gx} {test : Expr} {body : List Stmt} {t : FT} {fb : FZ} (ht : ∀ s H, g.n ≤ s.heap.objs.size → PTd (g.at s H) (cE g.E) test t) (hb : GZ g body fb) {ds : List D} {C : CZ} {An : Mu → Hp → Prop} {B : List Addr} {gp : List (Addr × Obj)} {A : Around} {R : GenEnd} {c : Code} {fs : List Frame} {K : Flow → Sem PySem.Fin} {J : Value → Sem PySem.Fin} {gd : Bool → Bool} {lv : List Value → List Value} {p : Pos} {k : Nat → Sto → Rho → Sto → Prop} {W : Nat → Nat → Sto → Rho → Sto → Prop}
    (G : GZr A c fs gd g.AX) (an : AnOk g.c An)
    (turn : ∀ m i S₀ ρ S, W m i S₀ ρ S → t ρ S (fun b S1 => if b = true then fb ds i S₀ ρ S1 (fun i' S₀' ρ' S' => ∃ m', m' < m ∧ W m' i' S₀' ρ' S') else k i S₀ ρ S1) noE)
    (ok : ∀ n i s₀ S₀ s ρ S, Zs g ds C An B gp n i s₀ S₀ s ρ S → k i S₀ ρ S → SegZ g ds C B A R n s₀ c (K .next) fs s) (ex : ∀ n s₀ H₀ e s, g.n ≤ s₀.heap.objs.size → (g.at s₀ H₀).xe e s → SegZ g ds C B A R n s₀ c (J e) fs s) :
    ∀ (m i n : Nat) (s₀ : Shared) (S₀ : Sto) (s : Shared) (ρ : Rho) (S : Sto), Zs g ds C An B gp n i s₀ S₀ s ρ S → W m i S₀ ρ S → SegZ g ds C B A R n s₀ (.whileLoop test body [] g.env) ((model g.P g.w).den (.whileLoop test body [] g.env)) (retF g K J gd lv c p :: fs) s := by
  have G' := gz_loop (K := K) (J := J) (lv := lv) (c' := .whileLoop test body [] g.env) G p rfl rfl
  intro m
  induction m using Nat.strongRecOn with
  | ind m ih =>
    intro i n s₀ S₀ s ρ S ⟨⟨hn, hsz, hp⟩, μ0, H₀, μ, σ, H, hc, I, f0, wd, en, ha⟩ w
    refine seg_whileLoop ?_
    rw [G'.over]
    refine wpAny_mono ((ht s₀ H₀ hsz).run (gp ++ pinsAt B s₀.heap) s σ H (fun b H1 => ∃ μ1 S1, Fw μ H μ1 H1 ∧ Wd g.c μ1 S1 H1 ∧ EnvR g.c μ1 H1 σ ρ ∧ (if b = true then fb ds i S₀ ρ S1 (fun i' S₀' ρ' S' => ∃ m', m' < m ∧ W m' i' S₀' ρ' S') else k i S₀ ρ S1)) I
      (tR_of wd en (turn m i S₀ ρ S w) pxNo fun b S1 v H1 μ1 hq f1 w1 en1 _ r1 => by
        cases (r1 : v = b)
        exact ⟨μ1, S1, f1, w1, en1, hq⟩)) (fun b s' hq => ?_) fun x s' hx => ee_ok G G' hsz hx ex
    obtain ⟨H1, I1, μ1, S1, f1, w1, en1, q⟩ := hq
    have z1 : Zs g ds C An B gp n i s₀ S₀ s' ρ S1 := ⟨⟨hn, hsz, hp⟩, μ0, H₀, μ1, σ, H1, hc, I1, f0.trans f1, w1, en1, an ha (wd.kp f1)⟩
    by_cases hv : b = true
    · rw [if_pos hv] at q ⊢
      refine hb ds C An B gp A R n i s₀ S₀ _ _ _ _ id id s' ρ S1 _ G' an z1 q (fun n' i' s₀' S₀' s7 ρ' S' z' h' => ?_) (fun n' s₀' H₀' e s7 hb' hx => ee_ok G G' hb' hx ex)
      obtain ⟨m', hm, w'⟩ := h'
      exact seg_again rfl (ih m' hm i' n' s₀' S₀' s7 ρ' S' z' w')
    · rw [if_neg hv] at q ⊢
      exact seg_leaf (.ok .next) (ok n i s₀ S₀ s' ρ S1 z1 q)
section
variable {g : Gx} {ds : List D} {C : CZ} {B : List Addr} {Y : Protocol} {body : List Stmt}
theorem end_ex {n : Nat} {s₀ s : Shared} {H₀ : Hp} {e : Value} (hE : g.E = fun _ _ _ => False) (hx : (g.at s₀ H₀).xe e s) : SegY g Y g.A (genEnd (FZe g ds C B)) n s₀ (.func body g.env) ((leaving g.env e).wrap (fun _ => .raise e) .raise id id) [] s := by
  refine seg_wrap ?_
  rw [over_func]
  have hx' : wpAny (model g.P g.w) (g.A.deeper g.env) (leaving g.env e) (fun x s'' => L2.CX g.P g.w g.out H₀ (Tr g.n s₀) g.E e s'' ∧ ∀ p ∈ ([] : List (Addr × Obj)), s''.heap.get? p.1 = some p.2) (fun _ _ => False) s := hx
  refine wpAny_mono hx' (fun _ s'' hq => ?_) fun _ _ hq => hq.elim
  obtain ⟨⟨a, B, H', cls, d, _, _, _, _, _, _, _, hE'⟩, _⟩ := hq
  rw [hE] at hE'
  exact hE'.elim
theorem end_ok {An : Mu → Hp → Prop} {gp : List (Addr × Obj)} {n i : Nat} {s₀ s : Shared} {S₀ S : Sto} {ρ : Rho} (z : Zs g ds C An B gp n i s₀ S₀ s ρ S) (h : kEnd ds i S₀ ρ S) : SegY g Y g.A (genEnd (FZe g ds C B)) n s₀ (.func body g.env) (.pure (.done (.ret .none))) [] s := by
  obtain ⟨rfl, rfl⟩ := h
  obtain ⟨⟨hn, hsz, hp⟩, μ0, H₀, μ, σ, H, hc, I, f0, wd, en, _⟩ := z
  exact seg_end (.ok (.ret .none)) (.inl ⟨.inl rfl, by omega, μ0, _, H₀, gp, σ, μ, H, hc, I, f0, wd⟩)
end
end Pu
namespace Pu
open PySem PySem.Spec PyProof.Rows L2 GenW
/-- first a statement, then a loop that hands something out at once -/
def zShape (f : FS) (t : FT) (fe : FE) (fr : FZ) : FZ := zSeq (zPlain f) (zSeq (zWhile t (zSeq (zYield fe) fr)) zEnd)
def GF (g : Gx) (body : List Stmt) (fz : FZ) : Prop := ∀ (ds : List D) (C : CZ) (B : List Addr) (gp : List (Addr × Obj)) (s : Shared) (ρ : Rho) (S : Sto), Zs g ds C (fun _ _ => True) B gp ds.length 0 s S s ρ S → fz ds 0 S ρ S (kEnd ds) →
  GenState.Goes (model g.P g.w) g.A (genEnd (FZe g ds C B)) (YF g ds C B) ds.length (.fresh (.func body g.env)) (.send .none) s
section
variable {g : Gx} {test e : Expr} {rest : List Stmt} {pos yp ep : Pos} {t : FT} {fe : FE} {fr : FZ}
theorem gf_while (o : g.Ok) (ht : ∀ s H, g.n ≤ s.heap.objs.size → PKt (g.at s H) (cE g.E) test t) (he : ∀ s H, g.n ≤ s.heap.objs.size → PKd (g.at s H) (cE g.E) e fe) (hr : GZ g rest fr) (hco : g.sc.isCoroutine = false) (hi : interactive g.env = false)
    {ds : List D} {C : CZ} {B : List Addr} {gp : List (Addr × Obj)} {A : Around} {R : GenEnd} {c : Code} {fs : List Frame} {K : Flow → Sem PySem.Fin} {J : Value → Sem PySem.Fin} {gd : Bool → Bool} {lv : List Value → List Value} {k : Nat → Sto → Rho → Sto → Prop} (G : GZr A c fs gd g.AX)
    (ok : ∀ (Y : Protocol) n i s₀ S₀ s ρ S, Zs g ds C (fun _ _ => True) B gp n i s₀ S₀ s ρ S → k i S₀ ρ S → SegY g Y A R n s₀ c (K .next) fs s) (ex : ∀ (Y : Protocol) n s₀ H₀ e s, g.n ≤ s₀.heap.objs.size → (g.at s₀ H₀).xe e s → SegY g Y A R n s₀ c (J e) fs s)
    {s s' : Shared} {ρ1 : Rho} {S S1 : Sto} (z : Zs g ds C (fun _ _ => True) B gp ds.length 0 s S s' ρ1 S1) (h : zWhile t (zSeq (zYield fe) fr) ds 0 S ρ1 S1 k) (g1 : s'.gens = s.gens) :
    SegY g (YF g ds C B) A R ds.length s c ((exec (.While test (.Expr (.Yield (some e) yp) ep :: rest) [] pos) g.env).wrap K J gd lv) fs s' := by
  have hb : GZ g (.Expr (.Yield (some e) yp) ep :: rest) (zSeq (zYield fe) fr) := z_seq (z_yield o (fun s H q => (he s H q).pe) hco hi) hr
  have an : AnOk g.c (fun _ _ => True) := fun _ _ => trivial
  obtain ⟨W, ⟨m0, w0⟩, turn⟩ := h
  obtain ⟨⟨hn, hsz, hp⟩, μ0, H₀, μ1, σ1, H1, hc, I1, f0, w1, en1, _⟩ := z
  rw [exec_While]
  refine seg_at (seg_call fun p => ?_)
  have G' := gz_loop (K := K) (J := J) (lv := lv) (c' := .whileLoop test (.Expr (.Yield (some e) yp) ep :: rest) [] g.env) G p rfl rfl
  have loop := z_loop (fun s H q => (ht s H q).pt) hb (lv := lv) (p := p) G an turn (fun n i s₀ S₀ s ρ S z h => ok _ n i s₀ S₀ s ρ S z h) (fun n s₀ H₀ e s hb hx => ex _ n s₀ H₀ e s hb hx)
  show SegY g (YF g ds C B) A R ds.length s (.whileLoop test (.Expr (.Yield (some e) yp) ep :: rest) [] g.env) ((model g.P g.w).den (.whileLoop test (.Expr (.Yield (some e) yp) ep :: rest) [] g.env)) (retF g K J gd lv c p :: fs) s'
  refine seg_whileLoop ?_
  rw [G'.over]
  refine wpAny_mono ((ht s H₀ hsz).run (gp ++ pinsAt B s.heap) s' σ1 H1 (fun b H2 => ∃ μ2 S2, Fw μ1 H1 μ2 H2 ∧ Wd g.c μ2 S2 H2 ∧ EnvR g.c μ2 H2 σ1 ρ1 ∧ (if b = true then zSeq (zYield fe) fr ds 0 S ρ1 S2 (fun i' S₀' ρ' S' => ∃ m', m' < m0 ∧ W m' i' S₀' ρ' S') else k 0 S ρ1 S2)) I1
    (tR_of w1 en1 (turn m0 0 S ρ1 S1 w0) pxNo fun b S2 v H2 μ2 hq f2 w2 en2 _ r2 => by
      cases (r2 : v = b)
      exact ⟨μ2, S2, f2, w2, en2, hq⟩)) (fun b s2 hq => ?_) fun x s' hx => eeY G G' hsz hx fun n s₀ H₀ e s hb hx => ex _ n s₀ H₀ e s hb hx
  obtain ⟨⟨H2, I2, μ2, S2, f2, w2, en2, q⟩, g2⟩ := hq
  by_cases hv : b = true
  · rw [if_pos hv] at q ⊢
    obtain ⟨hl, q⟩ := q
    obtain ⟨m, hm⟩ : ∃ m, ds.length = m + 1 := ⟨ds.length - 1, by omega⟩
    rw [execs_cons_wrap, hm]
    refine seg_Expr_Yield G'.split rfl G'.guard ?_ hco hi
    rw [G'.over]
    refine wpAny_mono ((he s H₀ hsz).run (gp ++ pinsAt B s.heap) s2 σ1 H2 (fun x H3 => ∃ μ3 d, Fw μ2 H2 μ3 H3 ∧ Wd g.c μ3 S H3 ∧ EnvR g.c μ3 H3 σ1 ρ1 ∧ ds[0]? = some d ∧ Rp g.c μ3 H3 x d ∧ ∀ S4, fr ds 1 S4 ρ1 S4 (fun i' S₀' ρ' S' => ∃ m', m' < m0 ∧ W m' i' S₀' ρ' S')) I2
      (tR_of w2 en2 q pxNo fun d S' v H3 μ3 hq f3 w3 en3 _ r3 => by
        obtain ⟨⟨e1, e2⟩, q9⟩ := hq
        subst e1
        exact ⟨μ3, d, f3, w3, en3, e2, r3, q9⟩)) (fun v s3 hq => ?_) fun x s' hx => eeY G G' hsz hx fun n s₀ H₀ e s hb hx => ex _ n s₀ H₀ e s hb hx
    obtain ⟨⟨x, H3, I3, rel, μ3, d, f3, w3, en3, e2, r3, q3⟩, g3⟩ := hq
    intro kap hk
    refine ⟨⟨0, μ0, S, H₀, x, d, gp, σ1, μ3, H3, by omega, hc, rel, I3, hp.1, f0.trans (f2.trans f3), w3, e2, r3, fun μ5 S5 H5 s5 hC fw w5 Wk => ?_⟩, fun _ _ => g3.trans (g2.trans g1)⟩
    have zz : Zs g ds C (fun _ _ => True) B gp m 1 s5 S5 s5 ρ1 S5 := ⟨⟨by omega, Wk.big, hp.1, fun b hb => by obtain ⟨o, e, _⟩ := Wk.bp b hb; exact ⟨o, e⟩⟩, μ5, H5, μ5, σ1, H5, hC, inv_re I3 o.z o.bz o.lt Wk, Fw.refl, w5, en3.kp fw, trivial⟩
    refine ⟨hk .none s5 (seg_yf (by omega) ?_), hk (.bool true) s5 (seg_yf (by omega) ?_)⟩
    all_goals
      refine hr ds C (fun _ _ => True) B gp A R m 1 s5 S5 _ _ _ _ id id s5 ρ1 S5 _ G' an zz (q3 S5) (fun n' i' s₀' S₀' s7 ρ' S' z' h' => ?_) (fun n' s₀' H₀' e s7 hb' hx => ee_ok G G' hb' hx fun n s₀ H₀ e s hb hx => ex _ n s₀ H₀ e s hb hx)
      obtain ⟨m', _, w'⟩ := h'
      exact seg_again rfl (loop m' i' n' s₀' S₀' s7 ρ' S' z' w')
  · rw [if_neg hv] at q ⊢
    exact seg_leaf (.ok .next) (ok _ ds.length 0 s S s2 ρ1 S2 ⟨⟨hn, hsz, hp⟩, μ0, H₀, μ2, σ1, H2, hc, I2, f0.trans f2, w2, en2, trivial⟩ q)
theorem gf_shape {st1 : Stmt} {f : FS} (hE : g.E = fun _ _ _ => False) (o : g.Ok) (h1 : ∀ s H, g.n ≤ s.heap.objs.size → PSk (g.at s H) g.E st1 f) (ht : ∀ s H, g.n ≤ s.heap.objs.size → PKt (g.at s H) (cE g.E) test t)
    (he : ∀ s H, g.n ≤ s.heap.objs.size → PKd (g.at s H) (cE g.E) e fe) (hr : GZ g rest fr) (hco : g.sc.isCoroutine = false) (hi : interactive g.env = false) : GF g [st1, .While test (.Expr (.Yield (some e) yp) ep :: rest) [] pos] (zShape f t fe fr) := fun ds C B gp s ρ S z h => by
  obtain ⟨⟨hn, hsz, hp⟩, μ0, H₀, μ, σ, H, hc, I, f0, w, en, _⟩ := z
  refine ⟨rfl, seg_func ?_⟩
  rw [execs_cons_wrap]
  refine seg_wrap ?_
  rw [over_func]
  refine wpAny_mono ((h1 s H₀ hsz).run (gp ++ pinsAt B s.heap) s σ H { nx := fun σ' H' => ∃ μ' ρ' S', Fw μ H μ' H' ∧ Wd g.c μ' S' H' ∧ EnvR g.c μ' H' σ' ρ' ∧ zSeq (zWhile t (zSeq (zYield fe) fr)) zEnd ds 0 S ρ' S' (kEnd ds), rt := fun _ _ => False, bk := fun _ _ => False, ct := fun _ _ => False } I
    ⟨μ, S, ρ, _, noE, w, en, h, ⟨fun ρ' S' σ' H' μ' q fw w' en' => ⟨μ', ρ', S', fw, w', en', q⟩, fun _ _ _ _ _ z => z.elim, fun _ _ _ _ _ z => z.elim, fun _ _ _ _ _ z => z.elim⟩, pxNo⟩) (fun fl s' hq => ?_) fun x s' hx => end_ex hE hx
  match fl, hq with
  | .brk, ⟨⟨_, _, _, q⟩, _⟩ => exact q.elim
  | .cont, ⟨⟨_, _, _, q⟩, _⟩ => exact q.elim
  | .ret _, ⟨⟨_, _, _, _, _, q⟩, _⟩ => exact q.elim
  | .next, ⟨⟨σ1, H1, I1, μ1, ρ1, S1, f1, w1, en1, q⟩, g1⟩ =>
    refine (execs_cons_wrap (env := g.env) _ _).symm ▸ ?_
    exact gf_while o ht he hr hco hi (k := fun i S₀ ρ S => kEnd ds i S₀ ρ S) ⟨over_func, rfl, rfl, rfl⟩ (fun Y n i s₀ S₀ s ρ S z h => end_ok z h) (fun Y n s₀ H₀ e s hb hx => end_ex hE hx) ⟨⟨hn, hsz, hp⟩, μ0, H₀, μ1, σ1, H1, hc, I1, f0.trans f1, w1, en1, trivial⟩ q g1
end
end Pu
namespace Pu
open PySem PySem.Spec PyProof.Rows L2 GenW
/-! ## a generator asked from within zip -/
def IsStop (e : Value) (s : Shared) : Prop := ∃ a o, e = .ref a ∧ s.heap.get? a = some o ∧ o.cls = .type "StopIteration"
theorem nextOf_gen {P : Program} {w : World} {A : Around} {E : Value → Shared → Prop} {s : Shared} {a : Addr} {g n : Nat} {gs : GenState} {F : Nat → Shared → Shared → Prop} {Y : Protocol} {Q : Value → Shared → Prop} (hh : A.handled = none) (hl : s.heap.NoLimit) (hroom : A.depth < recursionLimit) (hg : s.heap.IsGen a g) (hgs : s.gens[g]? = some gs)
    (hgo : gs.Goes (model P w) A.in1 (genEnd F) Y n (.send .none) (s.setGen g .running))
    (hY : ∀ v s₁ gs', gs'.bare = true → Y (n - 1) (s.setGen g .running) v s₁ (fun r' s'' => match n with | 0 => False | m + 1 => gs'.Goes (model P w) A.in1 (genEnd F) Y m r' s'') → Q v (s₁.setGen g gs'))
    (hP : ∀ s₁, F n (s.setGen g .running) s₁ → ∀ (h' : Heap) (e : Value), (∀ b o, s₁.heap.get? b = some o → h'.get? b = some o) → IsStop e { s₁.setGen g .finished with heap := h' } → E e { s₁.setGen g .finished with heap := h' }) :
    wpAny (model P w) A (Builtin.SmallTypes.nextOf (.ref a)) Q E s := by
  unfold Builtin.SmallTypes.nextOf
  refine wpAny_bind (wpAny_callSpecial?_slot (name := Str.ofString "__next__") hg.typeIs slot_gen_next (wpAny_call_entry slot_gen_next hg.typeIs entry_gen_next ?_ (args_gen_next _)))
  show wpAny _ A.in1 (Builtin.Generator.genWake (.ref a) (.send .none)) _ _ s
  unfold Builtin.Generator.genWake
  refine wpAny_bind (wpAny_holding (wpAny_genNumber hg (wpAny_bind (wpAny_genState hgs ?_))))
  cases gs with
  | running => exact hgo.elim
  | finished => exact hgo.elim
  | _ =>
    refine wpAny_bind (wpAny_roomToWake hl hroom ?_)
    show wpAny _ A.in1 (.resume g (.send .none) [] _) _ _ s
    refine wpAny_resumeQ hgs hgo (fun x s₁ hx => ?_) (fun v s₁ gs' hb hv => wpAny_pure ⟨v, rfl, wpAny_pure (hY v s₁ gs' hb hv)⟩)
    rcases hx with ⟨hr, hp⟩ | ⟨e, _, he⟩
    · have hres : End.result (.ret x) = .returned .none := by rcases hr with hr | hr <;> rw [hr] <;> rfl
      first | rw [hres] | simp only [hres]
      show wpAny _ A.in1 (newExc (.type "StopIteration") [] >>= _) _ _ _
      refine wpAny_bind ?_
      simp only [newExc, newTuple]
      refine wpAny_bind (wpAny_newObj_type (wpAny_bind (m := firstArgMember _ _) (wpAny_of_eq (a := Value.none) (by first | rfl | (simp only [firstArgMember]; rfl)) (wpAny_newObj_type ?_ (by size_fits)))) (by size_fits))
      simp only [raiseNew]
      refine wpAny_bind (wpAny_bind (wpAny_handled ?_))
      first | rw [show A.in1.handled = none from hh] | rw [hh]
      exact wpAny_throw (hP s₁ hp _ _ (fun b o hb => Heap.get?_push_of_some _ (Heap.get?_push_of_some _ hb)) ⟨_, _, rfl, Heap.get?_push_size _ rfl, rfl⟩)
    · exact he.elim
theorem set_oth {s : Shared} {gi j : Nat} {x : GenState} (h : j ≠ gi) : (s.setGen gi x).gens[j]? = s.gens[j]? := by
  show (s.gens.setIfInBounds gi x)[j]? = _
  rw [Array.getElem?_setIfInBounds_ne (Ne.symm h)]
/-- who asks: nobody sleeps, or it is so -/
abbrev LZ := Nat → Mu → Sto → Hp → L2.St → Shared → Prop
def Cy (X : Cx) (pins : List (Addr × Obj)) (n : Nat) (B : List Addr) (a : Addr) (oa : Obj) (Lp : LZ) : CZ := fun i μ S H s => ∃ σ, Inv X pins σ H s ∧ BOk X n B H s ∧ s.heap.get? a = some oa ∧ Wd (ct X) μ S H ∧ (s.gens.size = 0 ∨ Lp i μ S H σ s)
def Iy (X : Cx) (pins : List (Addr × Obj)) (g : Gx) (ds : List D) (B : List Addr) (a : Addr) (oa : Obj) (gi : Nat) (Lp : LZ) (i : Nat) (s : Shared) : Prop := ∃ μ S H gs, i ≤ ds.length ∧ Cy X pins g.n B a oa Lp i μ S H s ∧ s.heap.IsGen a gi ∧ s.gens[gi]? = some gs ∧ g.n ≤ s.heap.objs.size ∧
  GenState.Goes (model X.prog X.w) X.A.in1 (genEnd (FZe g ds (Cy X pins g.n B a oa Lp) B)) (YF g ds (Cy X pins g.n B a oa Lp) B) (ds.length - i) gs (.send .none) (s.setGen gi .running)
/-- a loop's facts do not look at who sleeps -/
def LpOk (gi : Nat) (Lp : LZ) : Prop := ∀ i μ S H σ (s s' : Shared), s'.heap = s.heap → (∀ j, j ≠ gi → s'.gens[j]? = s.gens[j]?) → Lp i μ S H σ s → Lp i μ S H σ s'
section
variable {X : Cx} {pins : List (Addr × Obj)} {s : Shared} {N : List Str} {qual : Str} {sc : Scope} {fn : Addr} {cdv : Value} {n gi i : Nat} {B : List Addr} {a : Addr} {oa : Obj} {ds : List D} {Lp : LZ}
abbrev qN : List (Addr × Obj) → Prop := fun gp => gp = []
theorem gen_nx (hct : ct X = ct0 X.K X.mg) (rm : Room 1 X.A) (Bn : Born X pins n B []) (hl : ∀ b, n ≤ b → b ≠ X.env.locals ∨ b ∈ B) (ha : n < a) (aB : a ∈ B) (al : a ≠ X.env.locals) (hLp : LpOk gi Lp) (hI : Iy X pins (gOf X n N qual sc fn cdv qN) ds B a oa gi Lp i s) :
    wpAny (model X.prog X.w) X.A (Builtin.SmallTypes.nextOf (.ref a)) (fun v s' => i < ds.length ∧ ∃ μ0 S₀ H₀ σ x d μ1 H1 oL, (∀ b ∈ B, s'.heap.get? b = s.heap.get? b) ∧ Lp i μ0 S₀ H₀ σ s ∧ RelV x v ∧ Inv X (pins ++ [(n, oL), (a, oa)]) σ H1 s' ∧ BOk X n B H1 s' ∧ Wd (ct X) μ0 S₀ H₀ ∧ Fw μ0 H₀ μ1 H1 ∧ Wd (ct X) μ1 S₀ H1 ∧ ds[i]? = some d ∧ Rp (ct X) μ1 H1 x d ∧
        (i = 0 → ∀ j, j ≠ gi → s'.gens[j]? = s.gens[j]?) ∧ ∃ y, s'.gens[gi]? = some y ∧ isSusp y = true ∧
          ∀ μ4 S4 H4 σ4 (s3 : Shared), Inv X (pins ++ [(n, oL), (a, oa)]) σ4 H4 s3 → BOk X n B H4 s3 → Lp (i + 1) μ4 S4 H4 σ4 s3 → Kp (ct X) μ1 H1 μ4 H4 → Wd (ct X) μ4 S4 H4 → s3.gens[gi]? = some y → Iy X pins (gOf X n N qual sc fn cdv qN) ds B a oa gi Lp (i + 1) s3)
      (fun e s' => IsStop e s' ∧ i = ds.length ∧ ∃ μ0 S₀ H₀ σ μ1 H1, (∀ b ∈ B, s'.heap.get? b = s.heap.get? b) ∧ Lp ds.length μ0 S₀ H₀ σ s ∧ Inv X pins σ H1 s' ∧ BOk X n B H1 s' ∧ Wd (ct X) μ0 S₀ H₀ ∧ Fw μ0 H₀ μ1 H1 ∧ Wd (ct X) μ1 S₀ H1) s := by
  obtain ⟨μ, S, H, gs, hi, ⟨σ, I, bk, ea, w, lp⟩, ig, eg, hn, go⟩ := hI
  have ec : (gOf X n N qual sc fn cdv qN).c = ct X := hct.symm
  have gsz : gi < s.gens.size := (Array.getElem?_eq_some_iff.mp eg).1
  have nz : (s.setGen gi .running).gens.size ≠ 0 := by
    show (s.gens.setIfInBounds gi .running).size ≠ 0
    rw [Array.size_setIfInBounds]
    exact Nat.ne_of_gt (Nat.lt_of_le_of_lt (Nat.zero_le _) gsz)
  have nB : n ∉ B := fun z => by
    obtain ⟨o, _, _, h3, _⟩ := bk n z
    exact h3 rfl
  have keepB : ∀ {gp : List (Addr × Obj)} {σg : L2.St} {H' H1 : Hp} {s1 : Shared}, Inv ((gOf X n N qual sc fn cdv qN).at (s.setGen gi .running) H') (gp ++ pinsAt B s.heap) σg H1 s1 → ∀ b ∈ B, ∃ o, s.heap.get? b = some o ∧ s1.heap.get? b = some o ∧ H1 b = none ∧ b ≠ n ∧ b ∉ frs X.stack ∧ ∀ v, o.data ≠ .cell v := fun Ig b hb => by
    obtain ⟨o, eo, h2, h3, h4, h5⟩ := bk b hb
    have q := Ig.pin (b, o) (List.mem_append_right _ (List.mem_append_right _ (mem_pinsAt hb eo)))
    exact ⟨o, eo, q.1, q.2.1, h3, h4, h5⟩
  refine GenW.wpAny_gsz (n := gi + 1) (Nat.succ_le_of_lt gsz) ?_
  refine nextOf_gen rm.hd I.nolimit rm.depth ig eg go (fun v s1 gs' bg hy hgz => ?_) (fun s1 hf h' e kp st _ => ?_)
  · obtain ⟨⟨i', μ0, S₀, H₀, x, d, gp, σg, μ1, H1, hn', ⟨σ', I', bk', ea', w', lp'⟩, rel, Ig, hgp, f1, w1, ed, r1, kap⟩, hT⟩ := hy
    obtain rfl : gp = [] := hgp.1
    rw [ec] at w1 r1
    have lp1 := lp'.resolve_left nz
    have I1 := ask_inv Bn I' Ig (fun _ z => nomatch z)
    obtain ⟨oL, eL, I2⟩ := ask_pin Bn I1 Ig a oa hgp.2 hl nB ha aB al ea'
    have I2' : Inv X (pins ++ [(n, oL), (a, oa)]) σ' H1 (s1.setGen gi gs') := inv_gens I2 rfl rfl (bare_set I2.bare bg)
    have bk1 : BOk X n B H1 (s1.setGen gi gs') := fun b hb => by
      obtain ⟨o, _, q⟩ := keepB Ig b hb
      exact ⟨o, q⟩
    -- asked again, where nobody sleeps
    have alone := kap μ1 S₀ H1 ⟨s1.heap, #[], s1.drawn, s1.toks, s1.os⟩ ⟨σ', inv_gens I1 rfl rfl (fun y hy => absurd hy (Array.not_mem_empty y)), bk1, (I2.pin (a, oa) (List.mem_append_right _ (List.mem_append_right _ (List.mem_cons_of_mem _ List.mem_cons_self)))).1, w1, .inl rfl⟩ (by rw [ec]; exact w1.kp Fw.refl) (by rw [ec]; exact w1)
      (ask_wake (s3 := ⟨s1.heap, #[], s1.drawn, s1.toks, s1.os⟩) I2 eL rfl (fun y hy => absurd hy (Array.not_mem_empty y)) bk1)
    obtain ⟨m, hm⟩ : ∃ m, ds.length - i = m + 1 := by
      cases hc : ds.length - i with
      | zero => rw [hc] at alone; exact alone.1.elim
      | succ m => exact ⟨m, rfl⟩
    rw [hm] at alone hn' hT
    obtain rfl : i = i' := by have : m + 1 - 1 + 1 + i' = ds.length := hn'; omega
    have sus : isSusp gs' = true := by
      cases gs' with
      | suspended => rfl
      | fresh => exact absurd (show Resume.send (.bool true) = Resume.send .none from alone.2.1) (fun z => by cases z)
      | running => exact alone.1.elim
      | finished => exact alone.1.elim
    have gz1 : gi < s1.gens.size := by
      have h1 : gi + 1 ≤ (s1.gens.setIfInBounds gi gs').size := hgz
      rw [Array.size_setIfInBounds] at h1
      exact h1
    refine ⟨by omega, μ0, S₀, H₀, σ', x, d, μ1, H1, oL, fun b hb => ?_, hLp _ _ _ _ _ (s.setGen gi .running) s rfl (fun j hj => (set_oth hj).symm) lp1, rel, I2', bk1, w', f1, w1, ed, r1, fun h0 j hj => ?_, gs', setGen_at gz1, sus, fun μ4 S4 H4 σ4 s3 I4 bk4 lp4 f4 w4 es => ?_⟩
    · obtain ⟨o, e1, e2, _⟩ := keepB Ig b hb
      exact e2.trans e1.symm
    · have gg := hT ⟨_, _, alone.1⟩ (by omega)
      show (s1.gens.setIfInBounds gi gs')[j]? = _
      rw [Array.getElem?_setIfInBounds_ne (Ne.symm hj), gg]
      show (s.gens.setIfInBounds gi .running)[j]? = _
      rw [Array.getElem?_setIfInBounds_ne (Ne.symm hj)]
    · have I5 : Inv X pins σ4 H4 s3 := I4.unpinned
      have pa := I4.pin (a, oa) (List.mem_append_right _ (List.mem_append_right _ (List.mem_cons_of_mem _ List.mem_cons_self)))
      have hbr : AllBare (s3.setGen gi .running).gens := bare_set I5.bare rfl
      have W := ask_wake (s3 := s3.setGen gi .running) I4 eL rfl hbr bk4
      have go2 := kap μ4 S4 H4 (s3.setGen gi .running) ⟨σ4, inv_gens I5 rfl rfl hbr, bk4, pa.1, w4, .inr (hLp _ _ _ _ _ s3 (s3.setGen gi .running) rfl (fun j hj => set_oth hj) lp4)⟩ (by rw [ec]; exact f4) (by rw [ec]; exact w4) W
      rw [hm] at go2
      obtain rfl : m = ds.length - (i + 1) := by omega
      exact ⟨μ4, S4, H4, gs', by omega, ⟨σ4, I5, bk4, pa.1, w4, .inr lp4⟩, gen_at ig ea pa.1, es, W.big, go2.1⟩
  · obtain ⟨h0, μ0, S₀, H₀, gp, σg, μ1, H1, ⟨σ', I', bk', ea', w', lp'⟩, Ig, f1, w1⟩ := hf
    rw [ec] at w1
    have I1 := ask_inv Bn I' Ig (fun _ z => nomatch z)
    refine ⟨st, by omega, μ0, S₀, H₀, σ', μ1, H1, fun b hb => ?_, hLp _ _ _ _ _ (s.setGen gi .running) s rfl (fun j hj => (set_oth hj).symm) (lp'.resolve_left nz), inv_gens (I1.kept (t' := s1.toks) kp) rfl rfl (bare_set I1.bare rfl), fun b hb => ?_, w', f1, w1⟩
    · obtain ⟨o, e1, e2, _⟩ := keepB Ig b hb
      exact (kp _ _ e2).trans e1.symm
    · obtain ⟨o, _, e2, q⟩ := keepB Ig b hb
      exact ⟨o, kp _ _ e2, q⟩
end
end Pu
namespace Pu
open PySem PySem.Spec PyProof.Rows L2 GenW
/-! ## one call deeper -/
abbrev inA (X : Cx) : Cx := { X with A := X.A.in1 }
section
variable {X : Cx} {pins : List (Addr × Obj)} {σ : L2.St} {H : Hp} {s : Shared}
theorem inv_inA (I : Inv X pins σ H s) : Inv (inA X) pins σ H s := by
  obtain ⟨ok, a2, a3, a4, a5, a6, a7, a8, a9, a10, a11⟩ := I
  obtain ⟨b1, b2, b3, b4, b5, b6, b7, b8, b9, b10, b11, b12, b13, b14, b15, b16, b17, b18⟩ := ok
  exact ⟨⟨b1, b2, b3, b4, b5, b6, b7, b8, b9, b10, b11, b12, b13, b14, b15, b16, b17, b18⟩, a2, a3, a4, a5, a6, a7, a8, a9, a10, a11⟩
theorem inv_out (I : Inv (inA X) pins σ H s) : Inv X pins σ H s := by
  obtain ⟨ok, a2, a3, a4, a5, a6, a7, a8, a9, a10, a11⟩ := I
  obtain ⟨b1, b2, b3, b4, b5, b6, b7, b8, b9, b10, b11, b12, b13, b14, b15, b16, b17, b18⟩ := ok
  exact ⟨⟨b1, b2, b3, b4, b5, b6, b7, b8, b9, b10, b11, b12, b13, b14, b15, b16, b17, b18⟩, a2, a3, a4, a5, a6, a7, a8, a9, a10, a11⟩
end
/-! ## all sleep but one -/
theorem poison_inj {x y : GenState} (h : poison x = poison y) : x = y := by
  cases x <;> cases y <;> first
    | rfl
    | exact h
    | (cases h; done)
    | skip
  rename_i k l c p fs cl k' l' c' p' fs' cl'
  unfold poison at h
  injection h with h1 h2 h3 h4 h5 h6
  subst h2 h3 h4 h5 h6
  have : k = k' := funext fun r => by
    have e := congrFun h1 r
    injection e with _ e2
    exact congrFun e2 0
  rw [this]
def butZ (G : Array GenState) (gi : Nat) : Nat → Option GenState := fun i => if i = gi then none else slpZ G i
def psnB (G : Array GenState) (gi : Nat) (y : GenState) : Array GenState := (psnG G).setIfInBounds gi y
theorem psnB_at {G : Array GenState} {gi j : Nat} {x y : GenState} (h : j ≠ gi) (e : G[j]? = some y) : (psnB G gi x)[j]? = some (poison y) := by
  unfold psnB psnG
  rw [Array.getElem?_setIfInBounds_ne (Ne.symm h), Array.getElem?_map, e]
  rfl
theorem but_zr {G : Array GenState} {gi : Nat} {y : GenState} (e : G[gi]? = some y) (cl : clG y) : Zr (butZ G gi) (psnB G gi y) G := by
  have z := slp_zr G
  have lt : gi < G.size := (Array.getElem?_eq_some_iff.mp e).1
  refine ⟨by unfold psnB; rw [Array.size_setIfInBounds]; exact z.size, fun i x h => ?_, fun i h => ?_⟩
  · unfold butZ at h
    split at h
    · cases h
    · rename_i ne
      obtain ⟨a, b, c⟩ := z.slp i x h
      exact ⟨a, by unfold psnB; rw [Array.getElem?_setIfInBounds_ne (Ne.symm ne)]; exact b, c⟩
  · by_cases c : i = gi
    · subst c
      have q : (psnB G i y)[i]? = some y := by
        unfold psnB
        rw [Array.getElem?_setIfInBounds_self, z.size, if_pos lt]
      rw [q]
      exact ⟨e.symm, fun u hu => by cases hu; exact cl⟩
    · unfold butZ at h
      rw [if_neg c] at h
      unfold psnB
      rw [Array.getElem?_setIfInBounds_ne (Ne.symm c)]
      exact z.oth i h
theorem psnB_bare {G : Array GenState} {gi : Nat} {y : GenState} (h : AllBare G) (e : G[gi]? = some y) : AllBare (psnB G gi y) := bare_set (psn_bare h) (h _ (Array.mem_of_getElem? e))
theorem but_bare {G0 G G3 : Array GenState} {gi : Nat} (z : Zr (butZ G0 gi) G G3) (h0 : AllBare G0) (h : AllBare G) : AllBare G3 :=
  zr_bare2 (fun i x e => by
    unfold butZ at e
    split at e
    · cases e
    · exact slp_bare h0 i x e) z h
/-- behind a run beside all sleepers but one -/
structure Beside (G0 : Array GenState) (gi : Nat) (s1 s2 : Shared) : Prop where
  hp : s2.heap = s1.heap
  os : s2.os = s1.os
  bare : AllBare s1.gens → AllBare s2.gens
  slp : ∀ (j : Nat) (y : GenState), j ≠ gi → G0[j]? = some y → isSusp y = true → s2.gens[j]? = some y
  own : s2.gens[gi]? = s1.gens[gi]? ∧ ∀ y, s2.gens[gi]? = some y → clG y
  awake : ∀ (j : Nat) (y : GenState), G0[j]? = some y → isSusp y = false → s2.gens[j]? = s1.gens[j]?
theorem beside {G0 G3 : Array GenState} {gi : Nat} {s1 : Shared} (h0 : AllBare G0) (z : Zr (butZ G0 gi) s1.gens G3) : Beside G0 gi s1 (sw s1 G3) := by
  have g0 : butZ G0 gi gi = none := by unfold butZ; rw [if_pos rfl]
  refine ⟨rfl, rfl, fun h => but_bare z h0 h, fun j y hj e hy => ?_, ⟨(z.oth gi g0).1.symm, fun y hy => (z.oth gi g0).2 y ((z.oth gi g0).1.trans hy)⟩, fun j y e hy => ?_⟩
  · refine (z.slp j y ?_).2.2
    unfold butZ slpZ
    rw [if_neg hj, e]
    exact if_pos hy
  · refine (z.oth j ?_).1.symm
    unfold butZ slpZ
    split
    · rfl
    · rw [e]
      dsimp only
      rw [if_neg (by rw [hy]; exact Bool.false_ne_true)]
theorem run_beside {α : Type} {M : Model} {A : Around} {t : Sem α} {Q : α → Shared → Prop} {E : Value → Shared → Prop} {s : Shared} {gi : Nat} {y : GenState} (hb : AllBare s.gens) (eg : s.gens[gi]? = some y) (cl : clG y) (h : wpAny M A t Q E (sw s (psnB s.gens gi y))) :
    wpAny M A t (fun a s2 => ∃ s1, Q a s1 ∧ Beside s.gens gi s1 s2) (fun e s2 => ∃ s1, E e s1 ∧ Beside s.gens gi s1 s2) s :=
  wpAny_zr (s := sw s (psnB s.gens gi y)) (G3 := s.gens) h (but_zr eg cl) (fun a s1 G q z => ⟨s1, q, beside hb z⟩) fun a s1 G q z => ⟨s1, q, beside hb z⟩
end Pu
namespace Pu
open PySem PySem.Spec PyProof.Rows L2 GenW
/-! ## a def whose generator's first stretch is of the kind -/
structure ZFg (P : Program) (w : World) (K : PySem.W.Frag) (mg : Str → Option Value) (base : Heap) (lv : Nat) (f : Addr) (fd : FuncData) (N ps : List Str) (fz : FZ) : Prop where
  ex : ∃ name qual params body sc dV kV doc pm an cdv ct oc od osl, fd = PySem.W.fnOf name qual params body sc dV kV doc pm an cdv ct ∧ K.lookup f = some ⟨oc, od, .func fd, osl⟩ ∧ PySem.W.codeIn K cdv qual = true ∧ GScope N ps sc ∧ (∀ x ∈ ps, sc.names.lookup x = some .local) ∧ (∀ n x, (envOfC qual sc n f cdv).cells.lookup x = none) ∧
    ∀ (n : Nat) (A : Around) (out : List Env), base.objs.size ≤ n → (∀ L ∈ frs out, L < n) → Room lv (A.deeper (envOfC qual sc n f cdv)) → A.handled = none → GF ⟨n, P, w, K, mg, base, N, qual, sc, f, cdv, A, out, fun _ _ _ => False, qN⟩ body fz
section
variable {pr : Program} {wo : World} {K : PySem.W.Frag} {mg : Str → Option Value} {b0 : Heap} {lv : Nat} {x qn : Str} {st : Stmt} {fn : Addr} {dat : FuncData} {NN pars : List Str} {fz : FZ}
theorem zg_fn (F : Fun K x qn st fn dat) (S : GScope NN pars (defScope st)) (loc : (pars.all fun x => match (defScope st).names.lookup x with | some .local => true | _ => false) = true) (nc : ((defScope st).names.all fun y => match y.2 with | .cell => false | _ => true) = true)
    (body : ∀ (n : Nat) (cdv : Value) (A : Around) (out : List Env), (Gx.mk n pr wo K mg b0 NN qn (defScope st) fn cdv A out (fun _ _ _ => False) qN).Ok → Room lv (A.deeper (envOfC qn (defScope st) n fn cdv)) → GF ⟨n, pr, wo, K, mg, b0, NN, qn, defScope st, fn, cdv, A, out, fun _ _ _ => False, qN⟩ (defBody st) fz) : ZFg pr wo K mg b0 lv fn dat NN pars fz := by
  obtain ⟨oc, od, kV, dc, pv, an, cdv, ct, osl, rfl, at_, code⟩ := F.ex
  have nocell : ∀ n x, (envOfC qn (defScope st) n fn cdv).cells.lookup x = none := fun n x => by
    show (cellsFrom (n + 1) (defScope st).names []).lookup x = none
    rw [cells_nil nc]
    rfl
  refine ⟨⟨_, _, _, _, _, _, _, _, _, _, cdv, _, oc, od, osl, rfl, at_, code, S, fun y hy => ?_, nocell, fun n A out hb hl rm hd => body n cdv A out ⟨nocell n, hb, hl⟩ rm⟩⟩
  have := List.all_eq_true.mp loc y hy
  split at this
  · assumption
  · cases this
theorem zg_shape {n : Nat} {P : Program} {w : World} {base : Heap} {N : List Str} {qual : Str} {sc : Scope} {fa : Addr} {cd : Value} {A : Around} {out : List Env} {st1 : Stmt} {test e : Expr} {rest : List Stmt} {pos yp ep : Pos} {f : FS} {t : FT} {fe : FE} {fr : FZ} (o : Gx.Ok (Gx.mk n P w K mg base N qual sc fa cd A out (fun _ _ _ => False) qN)) (r : Room lv (A.deeper (envOfC qual sc n fa cd)))
    (h1 : ∀ (s : Shared) (H : Hp), Room lv (A.deeper (envOfC qual sc s.heap.objs.size fa cd)) → PSk (gcxOf P w K mg base N qual sc fa cd A out s H (fun _ _ _ => False) []) (fun _ _ _ => False) st1 f) (ht : ∀ (s : Shared) (H : Hp), Room lv (A.deeper (envOfC qual sc s.heap.objs.size fa cd)) → PKt (gcxOf P w K mg base N qual sc fa cd A out s H (fun _ _ _ => False) []) (cE fun _ _ _ => False) test t)
    (he : ∀ (s : Shared) (H : Hp), Room lv (A.deeper (envOfC qual sc s.heap.objs.size fa cd)) → PKd (gcxOf P w K mg base N qual sc fa cd A out s H (fun _ _ _ => False) []) (cE fun _ _ _ => False) e fe) (hr : GZ (Gx.mk n P w K mg base N qual sc fa cd A out (fun _ _ _ => False) qN) rest fr) (hco : sc.isCoroutine = false := by rfl) (hi : interactive (envOfC qual sc n fa cd) = false := by rfl) :
    GF (Gx.mk n P w K mg base N qual sc fa cd A out (fun _ _ _ => False) qN) [st1, .While test (.Expr (.Yield (some e) yp) ep :: rest) [] pos] (zShape f t fe fr) :=
  gf_shape rfl o (fun s H hb => by rw [at_gcx hb]; exact h1 _ H (room_tr hb r)) (fun s H hb => by rw [at_gcx hb]; exact ht _ H (room_tr hb r)) (fun s H hb => by rw [at_gcx hb]; exact he _ H (room_tr hb r)) hr hco hi
end
/-- it is made: nobody has asked, and it is the newest -/
def MadeY (X : Cx) (N : List Str) (fn : Addr) (fz : FZ) (s : Shared) (H : Hp) (vs : List V) (u : Value) (s' : Shared) : Prop := ∃ qual sc cdv body a oa, u = .ref a ∧ GF (gOf (inA X) s.heap.objs.size N qual sc fn cdv qN) body fz ∧ (∀ x, (gOf (inA X) s.heap.objs.size N qual sc fn cdv qN).env.cells.lookup x = none) ∧
  s'.heap.get? a = some oa ∧ (∀ v, oa.data ≠ .cell v) ∧ s'.heap.IsGen a s.gens.size ∧ s'.gens = s.gens.push (.fresh (.func body (gOf (inA X) s.heap.objs.size N qual sc fn cdv qN).env)) ∧ (s'.os = s.os ∧ AllBare s'.gens) ∧
  (∀ (b : Addr) (o : Obj), s.heap.get? b = some o → s'.heap.get? b = some o) ∧ s.heap.objs.size < a ∧ Inv (gcxN s.heap.objs.size X.prog X.w X.K X.mg X.base N qual sc fn cdv X.A.in1.in1 X.stack s H fun _ _ _ => False) [] (L2.start N vs) H s'
section
variable {X : Cx} {pins : List (Addr × Obj)} {σ : L2.St} {H : Hp} {s : Shared} {lv k : Nat} {fn : Addr} {dat : FuncData} {N ps : List Str} {fz : FZ} {args us : List Value} {kws : List (Str × Value)} {vs : List V} {E1 : Value → Shared → Prop}
theorem room_in2 {A : Around} {e : Env} (h : Room (k + 1) A) : Room k (A.in1.in1.deeper e) ∧ A.in1.in1.handled = none := by
  obtain ⟨h1, h2, h3⟩ := h
  refine ⟨⟨h1, ?_, ?_⟩, h1⟩
  · show A.depth + 1 + 3 * k + 5 < recursionLimit
    omega
  · show A.units + 1 + 1 + 3 + 16 * k + 200 < cLine
    omega
theorem made_y (Z : ZFg X.prog X.w X.K X.mg X.base k fn dat N ps fz) (rm : Room (k + 1) X.A) (b : BindsTo s dat ⟨args, kws⟩ (ps.zip us)) (I : Inv X pins σ H s) (vx : Vals vs us) (hl : vs.length = ps.length) :
    wpAny (model X.prog X.w) X.A (call (.ref fn) args kws) (MadeY X N fn fz s H vs) E1 s := by
  obtain ⟨name, qual, params, body, sc, dV, kV, doc, pm, an, cdv, ct, oc, od, osl, rfl, hK, hc, gs, hpl, hz, gz⟩ := Z.ex
  obtain ⟨r1, r2⟩ := room_in2 (e := envOfC qual sc s.heap.objs.size fn cdv) rm
  refine wpAny_call (codeAny_call_generator (o := ⟨oc, od, .func (PySem.W.fnOf name qual params body sc dV kV doc pm an cdv ct), osl⟩) (body := body) (by have := rm.2; omega) (I.kIn _ _ hK) rfl gs.co gs.gen rfl (PySem.W.codeRec_of I.kIn hc) (b _ _ _ _ ?_))
  refine wpAny_newFunctionEnv_cells gs.kind (fun x hx => ?_) (fun env he s2 hs2 => ?_)
  · obtain ⟨x1, x2⟩ := x
    exact .inl (hpl x1 (List.of_mem_zip hx).1)
  · have ee : env = envOfC qual sc s.heap.objs.size fn cdv := he
    subst ee
    have I2 := inv_startG (P := X.prog) (w := X.w) (K := X.K) (mg := X.mg) (base := X.base) (f := fn) (cd := cdv) (qual := qual) (E := fun _ _ _ => False) gs r2 I.env0.in1.in1 hl vx hs2
    have keep2 := hs2.toInCall.keep
    obtain ⟨h2, tk, es⟩ := hs2.toInCall.same
    refine ⟨nolimit_keep keep2 I.nolimit, ?_⟩
    have keep3 : ∀ (b : Addr) (o : Obj), s2.heap.get? b = some o → (s2.heap.push { cls := Value.type "generator", data := Data.fields #[Value.int (↑s2.gens.size) 0, Value.str name s2.toks, Value.str qual (s2.toks + 1)] }).get? b = some o := fun b o e => Heap.get?_push_of_some _ e
    have at_ := Heap.get?_push_size s2.heap (o := { cls := Value.type "generator", data := Data.fields #[Value.int (↑s2.gens.size) 0, Value.str name s2.toks, Value.str qual (s2.toks + 1)] }) rfl
    have I3 := I2.kept (t' := s2.toks) keep3
    have e3 := gcxN_eq (n := s.heap.objs.size) (P := X.prog) (w := X.w) (K := X.K) (mg := X.mg) (base := X.base) (N := N) (qual := qual) (sc := sc) (f := fn) (cd := cdv) (A := X.A.in1.in1) (out := X.stack) (s := s) (H := H) (E := fun _ _ _ => False) rfl
    rw [← e3] at I3
    have gq : s2.gens = s.gens := by rw [es]
    refine ⟨qual, sc, cdv, body, s2.heap.objs.size, _, rfl, gz _ _ _ I.env0.bsz (fun L hL => by
      obtain ⟨_, o, e, _⟩ := Heap.FunFrames.mem I.stack hL
      exact base_lt e) r1 r2, hz _, at_, fun v z => (by cases z), ⟨_, _, _, at_, rfl, by rw [← gq], rfl⟩, by rw [← gq]; rfl, ⟨by rw [es], ?_⟩, fun b o e => keep3 b o (keep2 b o e), I2.lt, inv_gens I3 rfl rfl (bare_push I2.bare rfl)⟩
    exact bare_push I2.bare rfl
end
theorem born_list {X : Cx} {pins : List (Addr × Obj)} {σ : L2.St} {H : Hp} {s : Shared} {T : List Addr} (I : Inv X pins σ H s) (l : List Addr) : Born X pins s.heap.objs.size ((X.pn ++ pins).map (·.1) ++ l) T := by
  refine ⟨fun b hb h1 h2 => ⟨.inr (Nat.le_trans I.sz hb), fun e => ?_, fun x c h e => ?_, fun p hp e => h1 (List.mem_append_left _ (List.mem_map.mpr ⟨p, hp, e⟩))⟩, (born_lt I).1, I.env0.bsz⟩
  · have := I.lt
    rw [← e] at this
    exact absurd hb (Nat.not_le.mpr this)
  · have := (born_lt I).2 x c h
    rw [e] at this
    exact absurd hb (Nat.not_le.mpr this)
/-- asked for the first time, later -/
theorem made_asleep {X : Cx} {pins : List (Addr × Obj)} {s0 s1 s3 : Shared} {n gi : Nat} {N : List Str} {qual : Str} {sc : Scope} {fn : Addr} {cdv : Value} {B : List Addr} {a : Addr} {oa oL : Obj} {ds : List D} {Lp : LZ} {body : List Stmt} {fz : FZ} {H0 H : Hp} {vs : List V} {args : List D} {μ : Mu} {S : Sto} {σ : L2.St} (hct : ct X = ct0 X.K X.mg) (Bn : Born X pins n B []) (gf : GF (gOf X n N qual sc fn cdv qN) body fz) (zc : ∀ x, (gOf X n N qual sc fn cdv qN).env.cells.lookup x = none)
    (Ig : Inv (gcxN n X.prog X.w X.K X.mg X.base N qual sc fn cdv X.A.in1 X.stack s0 H0 fun _ _ _ => False) [] (L2.start N vs) H0 s1) (eL : s1.heap.get? n = some oL) (ig : s3.heap.IsGen a gi) (eg : s3.gens[gi]? = some (.fresh (.func body (gOf X n N qual sc fn cdv qN).env))) (I3 : Inv X (pins ++ [(n, oL), (a, oa)]) σ H s3) (bk : BOk X n B H s3) (w : Wd (ct X) μ S H) (ra : RpAll (ct X) μ H vs args) (hz : fz ds 0 S (startD N.length args) S (kEnd ds)) (lp : Lp 0 μ S H σ s3) (hLp : LpOk gi Lp) :
    Iy X pins (gOf X n N qual sc fn cdv qN) ds B a oa gi Lp 0 s3 := by
  have ec : (gOf X n N qual sc fn cdv qN).c = ct X := hct.symm
  have I : Inv X pins σ H s3 := I3.unpinned
  have pa := I3.pin (a, oa) (List.mem_append_right _ (List.mem_append_right _ (List.mem_cons_of_mem _ List.mem_cons_self)))
  have hbr : AllBare (s3.setGen gi .running).gens := bare_set I.bare rfl
  have W := ask_wake (gp := []) (s3 := s3.setGen gi .running) I3 eL rfl hbr bk
  refine ⟨μ, S, H, _, Nat.zero_le _, ⟨σ, I, bk, pa.1, w, .inr lp⟩, ig, eg, W.big, ?_⟩
  refine gf ds _ B [] _ (startD N.length args) S ⟨⟨rfl, W.big, ⟨rfl, fun _ z => nomatch z⟩, fun b hb => ?_⟩, μ, H, μ, L2.start N vs, H, ⟨σ, inv_gens I rfl rfl hbr, bk, pa.1, w, .inr (hLp _ _ _ _ _ s3 (s3.setGen gi .running) rfl (fun j hj => set_oth hj) lp)⟩, inv_re (gp := []) (op := []) (s1 := s1) (B := B) Ig zc Bn.bz Bn.lt W, Fw.refl, by rw [ec]; exact w, by rw [ec]; exact startD_env ra, trivial⟩ hz
  obtain ⟨o, eo, _⟩ := bk b hb
  exact ⟨o, eo⟩
/-! ## f(..) makes one, and wakes nobody -/
def PZy (X : Cx) (E : L2.St → XK) (iter : Expr) (fe : FX (List D)) : Prop := ∀ (pins : List (Addr × Obj)) (s : Shared) (σ : L2.St) (H : Hp) (μ : Mu) (S : Sto) (ρ : Rho) (Qd : List D → Sto → Prop) (Ed : ED), Inv X pins σ H s → Wd (ct X) μ S H → EnvR (ct X) μ H σ ρ → fe ρ S Qd Ed → PX (ct X) μ H Ed (E σ) →
  wpAny (model X.prog X.w) X.A (eval iter X.env) (fun u s' => ∃ N fn fz s0 H0 vs μ0 S0 args ds, Inv X pins σ H0 s0 ∧ s0.gens = s.gens ∧ MadeY X N fn fz s0 H0 vs u s' ∧ Fw μ H μ0 H0 ∧ Wd (ct X) μ0 S0 H0 ∧ RpAll (ct X) μ0 H0 vs args ∧ fz ds 0 S0 (startD N.length args) S0 (kEnd ds) ∧ Qd ds S0) X.xe s
def ZFgm (P : Program) (w : World) (K : PySem.W.Frag) (mg : Str → Option Value) (base : Heap) (lv : Nat) (fn : Addr) (dat : FuncData) (ps : List Str) (F : ZF) : Prop := ∃ N fz, ZFg P w K mg base lv fn dat N ps fz ∧ F = zDef ps.length N.length fz
section
variable {X : Cx} {E : L2.St → XK} {lv : Nat} {fn : Addr} {dat : FuncData} {pars : List Str} {nm : Str} {p1 p2 : Pos} {a0 : Expr} {as : List Expr} {F : ZF} {fa : FA}
theorem pzy_call (G : ZFgm X.prog X.w X.K X.mg X.base lv fn dat pars F) (rm : Room (lv + 1) X.A) (gl : Gl X nm) (at_ : X.mg nm = some (.ref fn)) (kp : PySem.W.keepIn X.K (.ref fn) = true)
    (bi : Binds X.K dat pars []) (pa : PKa X E (a0 :: as) fa) (ndb : (nm == ("__debug__" : Str)) = false := by decide)
    (st1 : starEach (a0 :: as) X.env = (false, eval a0 X.env) :: starEach as X.env := by rfl) (st2 : (backTo p2 (starEach as X.env)).any (·.1) = false := by rfl) : PZy X E (.Call (.Name nm p1) (a0 :: as) [] p2) (dZCall F fa) := fun pins s σ H μ S ρ Qd Ed I w en hf px => by
  obtain ⟨N, fz, g, rfl⟩ := G
  refine wpAny_Call_Name_kw (ld_glob I gl at_ ?_ ndb)
  refine PySem.W.callWith_K (h₀ := X.base) I.ok.mod.kin kp (thn (pa.run p2 pins s σ H (fun vs H1 => ∃ μ1 S1 args, Wd (ct X) μ1 S1 H1 ∧ RpAll (ct X) μ1 H1 vs args ∧ Fw μ H μ1 H1 ∧ zDef pars.length N.length fz args S1 Qd) I ?_) fun us s1 ⟨⟨xs, H1, I1, rx, q1⟩, g1⟩ => ⟨I1.kIn, ?_⟩) st1 st2
  · exact tR_of w en hf px fun ds S1 vs H1 μ1 h1 f1 w1 en1 px1 r1 => ⟨μ1, S1, ds, w1, r1, f1, h1⟩
  · obtain ⟨μ1, S1, args, w1, r1, f1, hl, ds, hz, q⟩ := q1
    have xl : xs.length = pars.length := by rw [r1.length]; exact hl
    have l2 : (us ++ []).length = pars.length := by rw [List.append_nil]; exact rx.length ▸ xl
    have b := bi s1 us I1.kIn l2
    rw [List.append_nil] at b
    exact wpAny_mono (made_y (us := us) (vs := xs) g rm b I1 rx xl) (fun u2 s2 hm => ⟨N, fn, fz, s1, H1, xs, μ1, S1, args, ds, I1, g1, hm, f1, w1, r1, hz, q⟩) fun _ _ h => h
end
end Pu
namespace Pu
open PySem PySem.Spec PyProof.Rows L2 GenW RZ
/-! ## zip over two generators: the object -/
abbrev gzH1 (h : Heap) (a b : Addr) : Heap := h.push { cls := .type "tuple", data := .seq #[.ref a, .ref b] }
abbrev gzH2 (h : Heap) (a b : Addr) : Heap := (gzH1 h a b).push { cls := .type "tuple", data := .seq #[.none, .none] }
abbrev gzH3 (h : Heap) (a b : Addr) : Heap := (gzH2 h a b).push { cls := .type "zip", data := .fields #[.none, .bool false, .bool false, .ref h.objs.size, .ref (gzH1 h a b).objs.size] }
theorem meets_zipG (a b g1 g2 : Nat) : Meets (Builtin.«zip.__new__» ⟨[.type "zip", .ref a, .ref b], []⟩) (fun _ R s => s.heap.IsGen a g1 ∧ s.heap.IsGen b g2 ∧ R (.ok (.ret (.ref (gzH2 s.heap a b).objs.size))) { s with heap := gzH3 s.heap a b }) :=
  .of_wp fun prog w A R s h => by
    obtain ⟨hp, g, d, tk, os⟩ := s
    obtain ⟨i1, i2, h⟩ := h
    have hsub := sub_zip
    have j1 : Heap.IsGen (Shared.heap ⟨hp, g, d, tk, os⟩) a g1 := i1
    have j2 : Heap.IsGen (Shared.heap ⟨hp, g, d, tk, os⟩) b g2 := i2
    wp_walk using wpAny_pyIter_gen j1, wpAny_pyIter_gen j2
    exact ⟨_, rfl, h⟩
section
variable {prog : Program} {w : World} {A : Around} {E : Value → Shared → Prop} {s : Shared}
theorem call_zipG {a b g1 g2 : Nat} {Q : Value → Shared → Prop} (i1 : s.heap.IsGen a g1) (i2 : s.heap.IsGen b g2)
    (h : ∀ h', IsZip h' (s.heap.objs.size + 2) s.heap.objs.size (s.heap.objs.size + 1) .none → IsPair h' s.heap.objs.size (.ref a) (.ref b) → IsPair h' (s.heap.objs.size + 1) .none .none → h'.objs.size = s.heap.objs.size + 3 → (∀ c o, s.heap.get? c = some o → h'.get? c = some o) → Q (.ref (s.heap.objs.size + 2)) { s with heap := h' }) :
    wpAny (model prog w) A (call (.type "zip") [.ref a, .ref b]) Q E s := by
  refine callType_new F.called_zip (by decide) (F.typeCall_zip_2 _ _) (F.newCall_zip_2 _ _) (fun obj => F.args_object_init_3 obj _ _) F.entry_zip_new (meets_zipG a b g1 g2) ⟨i1, i2, ?_⟩
  have z1 : (gzH1 s.heap a b).objs.size = s.heap.objs.size + 1 := Heap.size_push ..
  have z2 : (gzH2 s.heap a b).objs.size = s.heap.objs.size + 2 := by rw [Heap.size_push, z1]
  have z3 : (gzH3 s.heap a b).objs.size = s.heap.objs.size + 3 := by rw [Heap.size_push, z2]
  have q3 : (gzH3 s.heap a b).get? (gzH2 s.heap a b).objs.size = some _ := Heap.get?_push_size _ rfl
  have q2 : (gzH3 s.heap a b).get? (gzH1 s.heap a b).objs.size = some _ := Heap.get?_push_of_some _ (Heap.get?_push_size _ rfl)
  have q1 : (gzH3 s.heap a b).get? s.heap.objs.size = some _ := Heap.get?_push_of_some _ (Heap.get?_push_of_some _ (Heap.get?_push_size _ rfl))
  show _ ∧ _
  rw [z1, z2] at q3
  rw [z1] at q2
  rw [z2]
  exact ⟨⟨_, q3, rfl⟩, h _ q3 q1 q2 z3 fun c o x => Heap.get?_push_of_some _ (Heap.get?_push_of_some _ (Heap.get?_push_of_some _ x))⟩
/-- the next pair, whatever the two iterators are -/
theorem zip_two {z TI TO i1 i2 : Addr} {Q : Value → Shared → Prop} {R : Shared → Prop} (TOz : TO ≠ z) (hz : IsZip s.heap z TI TO .none) (hTI : IsPair s.heap TI (.ref i1) (.ref i2))
    (h : ∀ h₁, IsZip h₁ z TI TO .ellipsis → Heap.SameBut z s.heap h₁ → wpAny (model prog w) A (Builtin.SmallTypes.nextOf (.ref i1)) (fun x s₂ => IsZip s₂.heap z TI TO .ellipsis ∧ ∃ a b, IsPair s₂.heap TO a b ∧ ∀ h₃, IsPair h₃ TO x b → Heap.SameBut TO s₂.heap h₃ →
        wpAny (model prog w) A (Builtin.SmallTypes.nextOf (.ref i2)) (fun y s₄ => IsZip s₄.heap z TI TO .ellipsis ∧ IsPair s₄.heap TO x b ∧ ∀ h₈, IsZip h₈ z TI TO (rawInt s₄.heap.objs.size) → IsPair h₈ TO x y → IsPair h₈ s₄.heap.objs.size x y → h₈.objs.size = s₄.heap.objs.size + 1 → (∀ c o, c ≠ z → c ≠ TO → s₄.heap.get? c = some o → h₈.get? c = some o) → Q (.ref s₄.heap.objs.size) { s₄ with heap := h₈ }) (fun _ _ => False) { s₂ with heap := h₃ })
      (fun e s₂ => IsStop e s₂ ∧ IsZip s₂.heap z TI TO .ellipsis ∧ ∀ h₃, Heap.SameBut z s₂.heap h₃ → R { s₂ with heap := h₃ }) { s with heap := h₁ }) :
    wpAny (model prog w) A (Builtin.«zip.__next__» ⟨[.ref z], []⟩) (fun fin s' => ∃ v, fin = .done (.ret v) ∧ Q v s') (fun e s' => IsStop e s' ∧ R s') s := by
  show wpAny _ _ (field (.ref z) 2 >>= _) _ _ _
  refine wpAny_bind (wpAny_field hz rfl (x := .bool false) rfl ?_)
  show wpAny _ _ (field (.ref z) 3 >>= _) _ _ _
  refine wpAny_bind (wpAny_field hz rfl (x := .ref TI) rfl (wpAny_bind (wpAny_seqItems hTI rfl ?_)))
  show wpAny _ _ (Builtin.SmallTypes.ownedTupleIsFree (.ref z) >>= _) _ _ _
  refine wpAny_bind ?_
  unfold Builtin.SmallTypes.ownedTupleIsFree
  refine wpAny_bind (wpAny_field hz rfl (x := .none) rfl (wpAny_pure ?_))
  simp only [if_true]
  refine wpAny_bind (wpAny_rule (wpAny_bind (wpAny_field hz rfl (x := .ref TO) rfl (wpAny_bind (wpAny_setField_rec hz (by simp) fun h₁ hz₁ hs₁ => ?_)))))
  replace hz₁ : IsZip h₁ z TI TO .ellipsis := hz₁
  refine wpAny_bind ?_
  simp only [List.zipIdx_cons, List.zipIdx_nil, List.forIn_cons, List.forIn_nil]
  refine wpAny_bind (wpAny_bind (wpAny_onRaise ?_))
  show wpAny _ _ (Builtin.SmallTypes.nextOf (.ref i1) >>= _) _ _ _
  refine wpAny_bind (wpAny_mono (h h₁ hz₁ hs₁) (fun x s₂ hx => wpAny_pure ?_) fun e s₂ he => ?_)
  · obtain ⟨hz₂, a, b, hTO₂, hx⟩ := hx
    refine wpAny_bind (wpAny_seqItems hTO₂ rfl (wpAny_bind (wpAny_updateSeq_pair hTO₂ fun h₃ hTO₃ hs₃ => ?_)))
    replace hTO₃ : IsPair h₃ TO x b := hTO₃
    refine wpAny_bind (wpAny_letGo (wpAny_pure ?_))
    refine wpAny_bind (wpAny_bind (wpAny_onRaise ?_))
    show wpAny _ _ (Builtin.SmallTypes.nextOf (.ref i2) >>= _) _ _ _
    refine wpAny_bind (wpAny_mono (hx h₃ hTO₃ hs₃) (fun y s₄ hy => wpAny_pure ?_) fun _ _ he => he.elim)
    obtain ⟨hz₄, hTO₄, hy⟩ := hy
    refine wpAny_bind (wpAny_seqItems hTO₄ rfl (wpAny_bind (wpAny_updateSeq_pair hTO₄ fun h₅ hTO₅ hs₅ => ?_)))
    replace hTO₅ : IsPair h₅ TO x y := hTO₅
    refine wpAny_bind (wpAny_letGo (wpAny_pure (wpAny_pure ?_)))
    refine wpAny_bind (wpAny_seqItems hTO₅ rfl (wpAny_bind (wpAny_newTuple ?_)))
    have hz₅ : IsZip h₅ z TI TO .ellipsis := hs₅.extBut _ _ TOz.symm hz₄
    have hzl : z < h₅.objs.size := Heap.lt_size hz₅
    have hsz : h₅.objs.size = s₄.heap.objs.size := hs₅.1
    show wpAny _ _ (Builtin.SmallTypes.ownedTupleHandOut (.ref z) (.ref h₅.objs.size) >>= _) _ _ _
    refine wpAny_bind ?_
    unfold Builtin.SmallTypes.ownedTupleHandOut
    have hz₆ : IsZip (h₅.push { cls := .type "tuple", data := .seq #[x, y] }) z TI TO .ellipsis := Heap.get?_push_of_some _ hz₅
    refine wpAny_bind (wpAny_setField_rec hz₆ (by simp) fun h₇ hz₇ hs₇ => ?_)
    replace hz₇ : IsZip h₇ z TI TO (rawInt h₅.objs.size) := hz₇
    refine wpAny_setField_rec hz₇ (by simp) fun h₈ hz₈ hs₈ => ?_
    replace hz₈ : IsZip h₈ z TI TO (rawInt h₅.objs.size) := hz₈
    have up : ∀ c o, c ≠ z → h₅.get? c = some o → h₈.get? c = some o := fun c o c1 e => hs₈.extBut _ _ c1 (hs₇.extBut _ _ c1 (Heap.get?_push_of_some _ e))
    have hT₈ : IsPair h₈ h₅.objs.size x y := hs₈.extBut _ _ (Nat.ne_of_gt hzl) (hs₇.extBut _ _ (Nat.ne_of_gt hzl) (Heap.get?_push_size _ rfl))
    have hz8 : h₈.objs.size = h₅.objs.size + 1 := by rw [hs₈.1, hs₇.1, Heap.size_push]
    rw [hsz] at hz₈ hT₈ hz8
    refine wpAny_pure ⟨_, rfl, ?_⟩
    show Q (.ref h₅.objs.size) _
    rw [hsz]
    exact hy h₈ hz₈ (up _ _ TOz hTO₅) hT₈ hz8 fun c o c1 c2 e => up c o c1 (hs₅.extBut _ _ c2 e)
  · obtain ⟨⟨ea, oe, rfl, hoe, hce⟩, hz₂, hR⟩ := he
    have hez : ea ≠ z := fun x => by subst x; rw [hz₂] at hoe; cases hoe; simp at hce
    exact wpAny_setField_rec hz₂ (by simp) fun h₃ _ hs₃ => ⟨⟨ea, oe, rfl, hs₃.extBut _ _ hez hoe, hce⟩, hR h₃ hs₃⟩
theorem next_two {z TI TO i1 i2 : Addr} {Q : Option Value → Shared → Prop} (TOz : TO ≠ z) (hz : IsZip s.heap z TI TO .none) (hTI : IsPair s.heap TI (.ref i1) (.ref i2))
    (h : ∀ h₁, IsZip h₁ z TI TO .ellipsis → Heap.SameBut z s.heap h₁ → wpAny (model prog w) A.in1 (Builtin.SmallTypes.nextOf (.ref i1)) (fun x s₂ => IsZip s₂.heap z TI TO .ellipsis ∧ ∃ a b, IsPair s₂.heap TO a b ∧ ∀ h₃, IsPair h₃ TO x b → Heap.SameBut TO s₂.heap h₃ →
        wpAny (model prog w) A.in1 (Builtin.SmallTypes.nextOf (.ref i2)) (fun y s₄ => IsZip s₄.heap z TI TO .ellipsis ∧ IsPair s₄.heap TO x b ∧ ∀ h₈, IsZip h₈ z TI TO (rawInt s₄.heap.objs.size) → IsPair h₈ TO x y → IsPair h₈ s₄.heap.objs.size x y → h₈.objs.size = s₄.heap.objs.size + 1 → (∀ c o, c ≠ z → c ≠ TO → s₄.heap.get? c = some o → h₈.get? c = some o) → Q (some (.ref s₄.heap.objs.size)) { s₄ with heap := h₈ }) (fun _ _ => False) { s₂ with heap := h₃ })
      (fun e s₂ => IsStop e s₂ ∧ IsZip s₂.heap z TI TO .ellipsis ∧ ∀ h₃, Heap.SameBut z s₂.heap h₃ → Q none { s₂ with heap := h₃ }) { s with heap := h₁ }) :
    wpAny (model prog w) A (pyNext (.ref z)) Q E s := by
  have hT : s.TypeIs (.ref z) "zip" := ⟨_, hz, rfl⟩
  unfold pyNext
  refine wpAny_bind (wpAny_attempt (wpAny_callSpecial?_slot (name := Str.ofString "__next__") hT F.slot_zip_next (wpAny_call_entry F.slot_zip_next hT F.entry_zip_next
    (wpAny_mono (zip_two (Q := fun v s' => Q (some v) s') (R := Q none) TOz hz hTI h) (fun fin s' hq => ?_) fun e s' he => ?_) (F.args_zip_next_1 _))))
  · obtain ⟨v, rfl, q⟩ := hq
    exact ⟨v, rfl, wpAny_pure q⟩
  · obtain ⟨⟨ea, oe, rfl, hoe, hce⟩, q⟩ := he
    exact wpAny_bind (wpAny_isInstance (T := "StopIteration") (b := true) ⟨oe, hoe, hce⟩ isSubtype_stop (wpAny_pure q))
end
end Pu
namespace Pu
open PySem PySem.Spec PyProof.Rows L2 GenW
/-! ## two generators that are asked in turn: what each asker's facts say of the other -/
theorem seg_conv {M : Model} {A : Around} {R R' : GenEnd} {Y Y' : Protocol} (h0 : ∀ s₀ v s1, ¬ Y 0 s₀ v s1 fun _ _ => False) : ∀ (n : Nat), (∀ m s₀ r s, m ≤ n → R m s₀ r s → R' m s₀ r s) → (∀ m s₀ v s1 (kap kap' : Resume → Shared → Prop), m < n → (∀ r s, kap r s → kap' r s) → Y m s₀ v s1 kap → Y' m s₀ v s1 kap') →
    ∀ {s₀ : Shared} {c : Code} {t : Sem PySem.Fin} {fs : List Frame} {s : Shared}, Seg M A R Y n s₀ c t fs s → Seg M A R' Y' n s₀ c t fs s
  | 0, hR, hY, s₀, c, t, fs, s, h => fun Γ p h1 h2 => by
    obtain ⟨e, s', hr, he⟩ := h Γ p h1 h2
    refine ⟨e, s', hr, ?_⟩
    cases e with
    | ret r => exact hR 0 _ _ _ (Nat.le_refl _) he
    | susp v g l k c p fs => exact absurd he.2 (h0 _ _ _)
  | n + 1, hR, hY, s₀, c, t, fs, s, h => fun Γ p h1 h2 => by
    obtain ⟨e, s', hr, he⟩ := h Γ p h1 h2
    refine ⟨e, s', hr, ?_⟩
    cases e with
    | ret r => exact hR (n + 1) _ _ _ (Nat.le_refl _) he
    | susp v g l k c p fs => exact ⟨he.1, hY n s₀ v s' _ _ (Nat.lt_succ_self n) (fun r s'' hs => seg_conv h0 n (fun m s₀ r s hm => hR m s₀ r s (Nat.le_succ_of_le hm)) (fun m s₀ v s1 kap kap' hm => hY m s₀ v s1 kap kap' (Nat.lt_succ_of_lt hm)) hs) he.2⟩
section
variable {X : Cx} {pins : List (Addr × Obj)} {s : Shared} {N : List Str} {qual : Str} {sc : Scope} {fn : Addr} {cdv : Value} {n gi i : Nat} {B : List Addr} {a : Addr} {oa : Obj} {ds : List D} {Lp Lp' : LZ}
/-- what must be so that someone may ask -/
structure Asks (X : Cx) (pins : List (Addr × Obj)) (n : Nat) (B : List Addr) (a : Addr) : Prop where
  hct : ct X = ct0 X.K X.mg
  bn : Born X pins n B []
  hl : ∀ b, n ≤ b → b ≠ X.env.locals ∨ b ∈ B
  ha : n < a
  aB : a ∈ B
  al : a ≠ X.env.locals
theorem yz_alive (K : Asks X pins n B a) {m : Nat} {s₀ s1 : Shared} {v : Value} {kap : Resume → Shared → Prop} (hy : YZ (gOf X n N qual sc fn cdv qN) ds (Cy X pins n B a oa Lp) B m s₀ v s1 kap) : ∃ r s, kap r s := by
  obtain ⟨hct, Bn, hl, ha, aB, al⟩ := K
  obtain ⟨i', μ0, S₀, H₀, x, d, gp, σg, μ1, H1, hn', ⟨σ', I', bk', ea', w', lp'⟩, rel, Ig, hgp, f1, w1, ed, r1, kap'⟩ := hy
  obtain rfl : gp = [] := hgp.1
  have ec : (gOf X n N qual sc fn cdv qN).c = ct X := hct.symm
  rw [ec] at w1
  have nB : n ∉ B := fun z => by
    obtain ⟨o, _, _, h3, _⟩ := bk' n z
    exact h3 rfl
  have I1 := ask_inv Bn I' Ig (fun _ z => nomatch z)
  obtain ⟨oL, eL, I2⟩ := ask_pin Bn I1 Ig a oa hgp.2 hl nB ha aB al ea'
  have bk1 : BOk X n B H1 s1 := fun b hb => by
    obtain ⟨o, eo, h2, h3, h4, h5⟩ := bk' b hb
    have q := Ig.pin (b, o) (List.mem_append_right _ (List.mem_append_right _ (mem_pinsAt hb eo)))
    exact ⟨o, q.1, q.2.1, h3, h4, h5⟩
  have nob : AllBare (#[] : Array GenState) := fun y hy => absurd hy (Array.not_mem_empty y)
  have alone := kap' μ1 S₀ H1 ⟨s1.heap, #[], s1.drawn, s1.toks, s1.os⟩ ⟨σ', inv_gens I1 rfl rfl nob, bk1, (I2.pin (a, oa) (List.mem_append_right _ (List.mem_append_right _ (List.mem_cons_of_mem _ List.mem_cons_self)))).1, w1, .inl rfl⟩ (by rw [ec]; exact w1.kp Fw.refl) (by rw [ec]; exact w1)
    (ask_wake (s3 := ⟨s1.heap, #[], s1.drawn, s1.toks, s1.os⟩) I2 eL rfl nob bk1)
  exact ⟨_, _, alone.1⟩
theorem iy_congr (K : Asks X pins n B a) (e : ∀ j, i ≤ j → Lp j = Lp' j) (h : Iy X pins (gOf X n N qual sc fn cdv qN) ds B a oa gi Lp i s) : Iy X pins (gOf X n N qual sc fn cdv qN) ds B a oa gi Lp' i s := by
  obtain ⟨μ, S, H, gs, hi, hc, ig, eg, hn, go⟩ := h
  have cc : ∀ {j μ S H s}, i ≤ j → (Cy X pins n B a oa Lp j μ S H s ↔ Cy X pins n B a oa Lp' j μ S H s) := fun {j μ S H s} hj => by
    unfold Cy
    rw [e j hj]
  have h0 : ∀ s₀ v s1, ¬ YF (gOf X n N qual sc fn cdv qN) ds (Cy X pins n B a oa Lp) B 0 s₀ v s1 fun _ _ => False := fun s₀ v s1 hy => by
    obtain ⟨_, _, z⟩ := yz_alive K hy.1
    exact z
  have conv : ∀ {s₀ c t fs s}, Seg (model X.prog X.w) X.A.in1 (genEnd (FZe (gOf X n N qual sc fn cdv qN) ds (Cy X pins n B a oa Lp) B)) (YF (gOf X n N qual sc fn cdv qN) ds (Cy X pins n B a oa Lp) B) (ds.length - i) s₀ c t fs s →
      Seg (model X.prog X.w) X.A.in1 (genEnd (FZe (gOf X n N qual sc fn cdv qN) ds (Cy X pins n B a oa Lp') B)) (YF (gOf X n N qual sc fn cdv qN) ds (Cy X pins n B a oa Lp') B) (ds.length - i) s₀ c t fs s := fun {s₀ c t fs s} hs => by
    refine seg_conv h0 (ds.length - i) (fun m s₀ r s hm hr => ?_) (fun m s₀ v s1 kap kap' hm hk hy => ?_) hs
    · rcases hr with ⟨h1, h2, μ0, S₀, H₀, gp, σ, μ1, H1, h3, h4⟩ | ⟨_, _, z⟩
      · exact .inl ⟨h1, h2, μ0, S₀, H₀, gp, σ, μ1, H1, (cc hi).mp h3, h4⟩
      · exact z.elim
    · have al := yz_alive K hy.1
      obtain ⟨⟨i', μ0, S₀, H₀, x, d, gp, σg, μ1, H1, b1, b2, b3, b4, b5, b6, b7, b8, b9, b10⟩, hT⟩ := hy
      refine ⟨⟨i', μ0, S₀, H₀, x, d, gp, σg, μ1, H1, b1, (cc (by omega)).mp b2, b3, b4, b5, b6, b7, b8, b9, fun μ2 S2 H2 s2 c1 c2 c3 c4 => (b10 μ2 S2 H2 s2 ((cc (by omega)).mpr c1) c2 c3 c4).imp (hk _ _) (hk _ _)⟩, fun _ => hT al⟩
  refine ⟨μ, S, H, gs, hi, (cc (Nat.le_refl i)).mp hc, ig, eg, hn, ?_⟩
  cases gs with
  | fresh c => exact ⟨go.1, conv go.2⟩
  | suspended k l c p fs cl => exact conv go
  | running => exact go.elim
  | finished => exact go.elim
end
/-! ### who sleeps, and may be asked again -/
structure Gn where
  n : Nat
  N : List Str
  qual : Str
  sc : Scope
  fn : Addr
  cdv : Value
  B : List Addr
  a : Addr
  oa : Obj
  gi : Nat
  ds : List D
abbrev Gn.g (G : Gn) (X : Cx) : Gx := gOf X G.n G.N G.qual G.sc G.fn G.cdv qN
/-- asleep at i in the state y, seen from μ, H: it may be asked from any later place -/
def AZ (X : Cx) (pins : List (Addr × Obj)) (G : Gn) (Lp : LZ) (i : Nat) (y : GenState) (oL : Obj) (μ : Mu) (H : Hp) : Prop := ∀ μ' S' H' σ' (s' : Shared), Inv X (pins ++ [(G.n, oL), (G.a, G.oa)]) σ' H' s' → BOk X G.n G.B H' s' → Lp i μ' S' H' σ' s' → Kp (ct X) μ H μ' H' → Wd (ct X) μ' S' H' → s'.gens[G.gi]? = some y → Iy X pins (G.g X) G.ds G.B G.a G.oa G.gi Lp i s'
theorem az_congr {X : Cx} {pins : List (Addr × Obj)} {G : Gn} {Lp Lp' : LZ} {i : Nat} {y : GenState} {oL : Obj} {μ : Mu} {H : Hp} (K : Asks X pins G.n G.B G.a) (e : ∀ j, i ≤ j → Lp j = Lp' j) : AZ X pins G Lp i y oL μ H ↔ AZ X pins G Lp' i y oL μ H :=
  ⟨fun h μ' S' H' σ' s' a1 a2 a3 a4 a5 a6 => iy_congr K e (h μ' S' H' σ' s' a1 a2 (by rw [e i (Nat.le_refl i)]; exact a3) a4 a5 a6),
   fun h μ' S' H' σ' s' a1 a2 a3 a4 a5 a6 => iy_congr K (fun j hj => (e j hj).symm) (h μ' S' H' σ' s' a1 a2 (by rw [← e i (Nat.le_refl i)]; exact a3) a4 a5 a6)⟩
/-- the one sleeps: what the asker of the other knows -/
def Sl (X : Cx) (pins : List (Addr × Obj)) (G : Gn) (Lp : LZ) (i : Nat) (μ : Mu) (H : Hp) (s : Shared) : Prop := ∃ y oL, s.gens[G.gi]? = some (poison y) ∧ s.heap.get? G.n = some oL ∧ AZ X pins G Lp i y oL μ H
abbrev SL := Mu → Sto → Hp → L2.St → Shared → Prop
section
variable (X : Cx) (pins : List (Addr × Obj)) (G1 G2 : Gn) (len : Nat) (b1 b2 : LZ)
/-- by how many turns are left -/
def LL : Nat → (Nat → SL) × (Nat → SL)
  | 0 => (fun _ => b1 len, fun _ => b2 len)
  | r + 1 =>
    let f2 : Nat → SL := fun j => if j = r + 1 then (fun μ S H σ s => b2 (len - (r + 1)) μ S H σ s ∧ Sl X pins G1 (fun i => (LL r).1 (len - i)) (len - (r + 1) + 1) μ H s) else (LL r).2 j
    (fun j => if j = r + 1 then (fun μ S H σ s => b1 (len - (r + 1)) μ S H σ s ∧ Sl X pins G2 (fun i => f2 (len - i)) (len - (r + 1)) μ H s) else (LL r).1 j, f2)
def LA : LZ := fun i => (LL X pins G1 G2 len b1 b2 len).1 (len - i)
def LB : LZ := fun i => (LL X pins G1 G2 len b1 b2 len).2 (len - i)
end
end Pu
namespace Pu
open PySem PySem.Spec PyProof.Rows L2 GenW
section
variable {X : Cx} {pins : List (Addr × Obj)} {G1 G2 : Gn} {len : Nat} {b1 b2 : LZ} {μ : Mu} {S : Sto} {H : Hp} {σ : L2.St} {s : Shared} {i : Nat}
theorem ll_stay (r j : Nat) (h : j ≤ r) : ∀ d, (LL X pins G1 G2 len b1 b2 (r + d)).1 j = (LL X pins G1 G2 len b1 b2 r).1 j ∧ (LL X pins G1 G2 len b1 b2 (r + d)).2 j = (LL X pins G1 G2 len b1 b2 r).2 j
  | 0 => ⟨rfl, rfl⟩
  | d + 1 => by
    obtain ⟨e1, e2⟩ := ll_stay r j h d
    refine ⟨Eq.trans ?_ e1, Eq.trans ?_ e2⟩
    · exact if_neg (Nat.ne_of_lt (Nat.lt_succ_of_le (Nat.le_trans h (Nat.le_add_right r d))))
    · exact if_neg (Nat.ne_of_lt (Nat.lt_succ_of_le (Nat.le_trans h (Nat.le_add_right r d))))
theorem ll_la {r : Nat} (hr : r ≤ len) (hj : len - i ≤ r) : LA X pins G1 G2 len b1 b2 i = (LL X pins G1 G2 len b1 b2 r).1 (len - i) := by
  obtain ⟨d, rfl⟩ : ∃ d, len = r + d := ⟨len - r, by omega⟩
  exact (ll_stay r (r + d - i) hj d).1
theorem ll_lb {r : Nat} (hr : r ≤ len) (hj : len - i ≤ r) : LB X pins G1 G2 len b1 b2 i = (LL X pins G1 G2 len b1 b2 r).2 (len - i) := by
  obtain ⟨d, rfl⟩ : ∃ d, len = r + d := ⟨len - r, by omega⟩
  exact (ll_stay r (r + d - i) hj d).2
theorem la_end (h : len ≤ i) : LA X pins G1 G2 len b1 b2 i = b1 len := by
  rw [ll_la (r := 0) (Nat.zero_le _) (by omega)]
  rfl
theorem lb_end (h : len ≤ i) : LB X pins G1 G2 len b1 b2 i = b2 len := by
  rw [ll_lb (r := 0) (Nat.zero_le _) (by omega)]
  rfl
theorem sl_congr {G : Gn} {Lp Lp' : LZ} (K : Asks X pins G.n G.B G.a) (e : ∀ j, i ≤ j → Lp j = Lp' j) : Sl X pins G Lp i μ H s ↔ Sl X pins G Lp' i μ H s :=
  ⟨fun ⟨y, oL, h1, h2, h3⟩ => ⟨y, oL, h1, h2, (az_congr K e).mp h3⟩, fun ⟨y, oL, h1, h2, h3⟩ => ⟨y, oL, h1, h2, (az_congr K e).mpr h3⟩⟩
theorem lb_eq (K1 : Asks X pins G1.n G1.B G1.a) (h : i < len) : LB X pins G1 G2 len b1 b2 i μ S H σ s ↔ b2 i μ S H σ s ∧ Sl X pins G1 (LA X pins G1 G2 len b1 b2) (i + 1) μ H s := by
  obtain ⟨r, hr⟩ : ∃ r, len - i = r + 1 := ⟨len - i - 1, by omega⟩
  have e : LB X pins G1 G2 len b1 b2 i = fun μ S H σ s => b2 (len - (r + 1)) μ S H σ s ∧ Sl X pins G1 (fun i => (LL X pins G1 G2 len b1 b2 r).1 (len - i)) (len - (r + 1) + 1) μ H s := by
    rw [ll_lb (r := r + 1) (by omega) (by omega), hr]
    exact if_pos rfl
  have e2 : len - (r + 1) = i := by omega
  rw [e, e2]
  refine and_congr Iff.rfl (sl_congr K1 fun j hj => ?_)
  exact (ll_la (by omega) (by omega)).symm
theorem la_eq (K2 : Asks X pins G2.n G2.B G2.a) (h : i < len) : LA X pins G1 G2 len b1 b2 i μ S H σ s ↔ b1 i μ S H σ s ∧ Sl X pins G2 (LB X pins G1 G2 len b1 b2) i μ H s := by
  obtain ⟨r, hr⟩ : ∃ r, len - i = r + 1 := ⟨len - i - 1, by omega⟩
  have e : LA X pins G1 G2 len b1 b2 i = fun μ S H σ s => b1 (len - (r + 1)) μ S H σ s ∧ Sl X pins G2 (fun i => (LL X pins G1 G2 len b1 b2 (r + 1)).2 (len - i)) (len - (r + 1)) μ H s := by
    rw [ll_la (r := r + 1) (by omega) (by omega), hr]
    exact if_pos rfl
  have e2 : len - (r + 1) = i := by omega
  rw [e, e2]
  refine and_congr Iff.rfl (sl_congr K2 fun j hj => ?_)
  exact (ll_lb (by omega) (by omega)).symm
/-- a loop's own facts do not look at who sleeps -/
def HOnly (b : LZ) : Prop := ∀ i μ S H σ (s s' : Shared), s'.heap = s.heap → b i μ S H σ s → b i μ S H σ s'
theorem la_ok (K2 : Asks X pins G2.n G2.B G2.a) (ne : G2.gi ≠ G1.gi) (h1 : HOnly b1) : LpOk G1.gi (LA X pins G1 G2 len b1 b2) := fun i μ S H σ s s' eh eg hl => by
  by_cases hi : i < len
  · obtain ⟨p, y, oL, q1, q2, q3⟩ := (la_eq K2 hi).mp hl
    exact (la_eq K2 hi).mpr ⟨h1 _ _ _ _ _ _ _ eh p, y, oL, (eg _ ne).trans q1, by rw [eh]; exact q2, q3⟩
  · rw [la_end (by omega)] at hl ⊢
    exact h1 _ _ _ _ _ _ _ eh hl
theorem lb_ok (K1 : Asks X pins G1.n G1.B G1.a) (ne : G1.gi ≠ G2.gi) (h2 : HOnly b2) : LpOk G2.gi (LB X pins G1 G2 len b1 b2) := fun i μ S H σ s s' eh eg hl => by
  by_cases hi : i < len
  · obtain ⟨p, y, oL, q1, q2, q3⟩ := (lb_eq K1 hi).mp hl
    exact (lb_eq K1 hi).mpr ⟨h2 _ _ _ _ _ _ _ eh p, y, oL, (eg _ ne).trans q1, by rw [eh]; exact q2, q3⟩
  · rw [lb_end (by omega)] at hl ⊢
    exact h2 _ _ _ _ _ _ _ eh hl
end
theorem kp_trans {c : Ct} {μ1 μ2 μ3 : Mu} {H1 H2 H3 : Hp} (a : Kp c μ1 H1 μ2 H2) (b : Kp c μ2 H2 μ3 H3) : Kp c μ1 H1 μ3 H3 where
  t := fun x xs h => b.t x xs (a.t x xs h)
  l := fun x xs h n1 n2 => by
    obtain ⟨h', m1, m2⟩ := a.l x xs h n1 n2
    exact b.l x xs h' m1 m2
  m := fun x xs h n1 n2 => by
    obtain ⟨h', m1, m2⟩ := a.m x xs h n1 n2
    exact b.m x xs h' m1 m2
  d := fun x xs h n1 n2 => by
    obtain ⟨h', m1, m2⟩ := a.d x xs h n1 n2
    exact b.d x xs h' m1 m2
  i := fun x C dx fs h n1 n2 => by
    obtain ⟨h', m1, m2⟩ := a.i x C dx fs h n1 n2
    exact b.i x C dx fs h' m1 m2
  cl := fun n x h => b.cl n x (a.cl n x h)
  x := fun x fv h => b.x x fv (a.x x fv h)
  g := fun x φ h => b.g x φ (a.g x φ h)
  f := fun x ob φ h => ⟨(b.f x ob φ (a.f x ob φ h).1).1, fun n => (b.f x ob φ (a.f x ob φ h).1).2 ((a.f x ob φ h).2 n)⟩
theorem AZ.kp {X : Cx} {pins : List (Addr × Obj)} {G : Gn} {Lp : LZ} {i : Nat} {y : GenState} {oL : Obj} {μ μ' : Mu} {H H' : Hp} (z : AZ X pins G Lp i y oL μ H) (k : Kp (ct X) μ H μ' H') : AZ X pins G Lp i y oL μ' H' := fun μ2 S2 H2 σ2 s2 a1 a2 a3 a4 a5 a6 => z μ2 S2 H2 σ2 s2 a1 a2 a3 (kp_trans k a4) a5 a6
end Pu
namespace Pu
open PySem PySem.Spec PyProof.Rows L2 GenW RZ
theorem poison_fix {y : GenState} (h : isSusp y = false) : poison y = y := by
  cases y <;> first
    | rfl
    | (cases h; done)
/-- zip's own three -/
structure Zo (z TI TO : Addr) (a1 a2 : Addr) (f0 : Value) (H : Hp) (h : Heap) : Prop where
  iz : IsZip h z TI TO f0
  iti : IsPair h TI (.ref a1) (.ref a2)
  ito : ∃ v w, IsPair h TO v w
  hz : H z = none
  hti : H TI = none
  hto : H TO = none
def P12 (G1 G2 : Gn) (o1 o2 : Obj) : List (Addr × Obj) := [(G1.n, o1), (G1.a, G1.oa)] ++ [(G2.n, o2), (G2.a, G2.oa)]
/-- where everything lies -/
structure ZL (X : Cx) (pins : List (Addr × Obj)) (G1 G2 : Gn) (z TI TO : Addr) : Prop where
  k1 : Asks (inA X) pins G1.n G1.B G1.a
  k2 : Asks (inA X) pins G2.n G2.B G2.a
  mem1 : ∀ b ∈ [G2.n, G2.a, z, TI, TO], b ∈ G1.B
  mem2 : ∀ b ∈ [G1.n, G1.a, z, TI, TO], b ∈ G2.B
  in1 : ∀ b ∈ G1.B, b ∈ [G1.a, G2.n, G2.a, z, TI, TO] ∨ ∃ p ∈ X.pn ++ pins, p.1 = b
  in2 : ∀ b ∈ G2.B, b ∈ [G2.a, G1.n, G1.a, z, TI, TO] ∨ ∃ p ∈ X.pn ++ pins, p.1 = b
  ne1 : ∀ b ∈ G1.B, b ≠ G1.n ∧ b ∉ frs X.stack
  ne2 : ∀ b ∈ G2.B, b ≠ G2.n ∧ b ∉ frs X.stack
  fz : ∀ c ∈ [z, TI, TO], c ≠ X.env.locals ∧ c ∉ X.fs ∧ (c ∈ X.ex ∨ X.s_0.heap.objs.size ≤ c) ∧ (∀ x c', X.env.cells.lookup x = some c' → c' ≠ c) ∧ (∀ p ∈ X.pn ++ pins, p.1 ≠ c) ∧ c ≠ G1.n ∧ c ≠ G1.a ∧ c ≠ G2.n ∧ c ≠ G2.a
  toz : TO ≠ z
  tiz : TI ≠ z
  tito : TI ≠ TO
  gi : G1.gi ≠ G2.gi
section
variable {X : Cx} {pins : List (Addr × Obj)} {G1 G2 : Gn} {z TI TO : Addr} {σ : L2.St} {H : Hp} {s : Shared} {o1 o2 : Obj} {f0 : Value}
theorem ZL.fp (L : ZL X pins G1 G2 z TI TO) {c : Addr} (hc : c ∈ [z, TI, TO]) (h0 : H c = none) : FpOk X (pins ++ P12 G1 G2 o1 o2) H c := by
  obtain ⟨a1, a2, a3, a4, a5, a6, a7, a8, a9⟩ := L.fz c hc
  refine ⟨h0, a1, a2, a3, a4, fun p hp => ?_⟩
  rcases List.mem_append.mp hp with q | q
  · exact a5 p (List.mem_append_left _ q)
  rcases List.mem_append.mp q with q | q
  · exact a5 p (List.mem_append_right _ q)
  unfold P12 at q
  rcases List.mem_cons.mp q with rfl | q
  · exact fun e => a6 e.symm
  rcases List.mem_cons.mp q with rfl | q
  · exact fun e => a7 e.symm
  rcases List.mem_cons.mp q with rfl | q
  · exact fun e => a8 e.symm
  · rw [List.mem_singleton.mp q]
    exact fun e => a9 e.symm
theorem ZL.obj (L : ZL X pins G1 G2 z TI TO) (I : Inv X (pins ++ P12 G1 G2 o1 o2) σ H s) (Z : Zo z TI TO G1.a G2.a f0 H s.heap) {b : Addr} (hb : b ∈ [G1.n, G1.a, G2.n, G2.a, z, TI, TO] ∨ ∃ p ∈ X.pn ++ pins, p.1 = b) : ∃ o, s.heap.get? b = some o ∧ H b = none ∧ ∀ v, o.data ≠ .cell v := by
  have pin : ∀ p, p ∈ X.pn ++ (pins ++ P12 G1 G2 o1 o2) → ∃ o, s.heap.get? p.1 = some o ∧ H p.1 = none ∧ ∀ v, o.data ≠ .cell v := fun p hp => by
    have q := I.pin p hp
    exact ⟨p.2, q.1, q.2.1, q.2.2.2.2⟩
  rcases hb with hb | ⟨p, hp, rfl⟩
  · have m : ∀ p ∈ P12 G1 G2 o1 o2, p ∈ X.pn ++ (pins ++ P12 G1 G2 o1 o2) := fun p hp => List.mem_append_right _ (List.mem_append_right _ hp)
    unfold P12 at m
    rcases List.mem_cons.mp hb with rfl | hb
    · exact pin (G1.n, o1) (m _ (by simp))
    rcases List.mem_cons.mp hb with rfl | hb
    · exact pin (G1.a, G1.oa) (m _ (by simp))
    rcases List.mem_cons.mp hb with rfl | hb
    · exact pin (G2.n, o2) (m _ (by simp))
    rcases List.mem_cons.mp hb with rfl | hb
    · exact pin (G2.a, G2.oa) (m _ (by simp))
    rcases List.mem_cons.mp hb with rfl | hb
    · exact ⟨_, Z.iz, Z.hz, fun v e => nomatch e⟩
    rcases List.mem_cons.mp hb with rfl | hb
    · exact ⟨_, Z.iti, Z.hti, fun v e => nomatch e⟩
    · rw [List.mem_singleton.mp hb]
      obtain ⟨v, w, e⟩ := Z.ito
      exact ⟨_, e, Z.hto, fun v e => nomatch e⟩
  · refine pin p ?_
    rcases List.mem_append.mp hp with q | q
    · exact List.mem_append_left _ q
    · exact List.mem_append_right _ (List.mem_append_left _ q)
theorem ZL.bok1 (L : ZL X pins G1 G2 z TI TO) (I : Inv X (pins ++ P12 G1 G2 o1 o2) σ H s) (Z : Zo z TI TO G1.a G2.a f0 H s.heap) : BOk (inA X) G1.n G1.B H s := fun b hb => by
  obtain ⟨o, e, h0, nc⟩ := L.obj I Z (b := b) ((L.in1 b hb).imp (fun q => by simp only [List.mem_cons, List.not_mem_nil, or_false] at q ⊢; rcases q with q | q | q | q | q | q <;> simp [q]) fun q => q)
  exact ⟨o, e, h0, (L.ne1 b hb).1, (L.ne1 b hb).2, nc⟩
theorem ZL.bok2 (L : ZL X pins G1 G2 z TI TO) (I : Inv X (pins ++ P12 G1 G2 o1 o2) σ H s) (Z : Zo z TI TO G1.a G2.a f0 H s.heap) : BOk (inA X) G2.n G2.B H s := fun b hb => by
  obtain ⟨o, e, h0, nc⟩ := L.obj I Z (b := b) ((L.in2 b hb).imp (fun q => by simp only [List.mem_cons, List.not_mem_nil, or_false] at q ⊢; rcases q with q | q | q | q | q | q <;> simp [q]) fun q => q)
  exact ⟨o, e, h0, (L.ne2 b hb).1, (L.ne2 b hb).2, nc⟩
theorem pins_1 (I : Inv X (pins ++ P12 G1 G2 o1 o2) σ H s) : Inv (inA X) (pins ++ [(G1.n, o1), (G1.a, G1.oa)]) σ H s := inv_inA (inv_perm I fun p hp => by
  rcases List.mem_append.mp hp with q | q
  · exact List.mem_append_left _ q
  · exact List.mem_append_right _ (List.mem_append_left _ q))
theorem pins_2 (I : Inv X (pins ++ P12 G1 G2 o1 o2) σ H s) : Inv (inA X) (pins ++ [(G2.n, o2), (G2.a, G2.oa)]) σ H s := inv_inA (inv_perm I fun p hp => by
  rcases List.mem_append.mp hp with q | q
  · exact List.mem_append_left _ q
  · exact List.mem_append_right _ (List.mem_append_right _ q))
/-- behind a step of the first: the second is where it was -/
theorem ZL.both1 (L : ZL X pins G1 G2 z TI TO) {s' : Shared} {σ' : L2.St} {H' : Hp} {o1' : Obj} (I : Inv X (pins ++ P12 G1 G2 o1 o2) σ H s) (Ia : Inv (inA X) (pins ++ [(G1.n, o1'), (G1.a, G1.oa)]) σ' H' s') (same : ∀ b ∈ G1.B, s'.heap.get? b = s.heap.get? b) (bk : BOk (inA X) G1.n G1.B H' s') : Inv X (pins ++ P12 G1 G2 o1' o2) σ' H' s' :=
  (inv_out Ia).pins_of fun p hp => by
    have old : ∀ p, p ∈ [(G2.n, o2), (G2.a, G2.oa)] → p.1 ∈ G1.B → s'.heap.get? p.1 = some p.2 ∧ H' p.1 = none ∧ p.1 ≠ X.env.locals ∧ p.1 ∉ X.fs ∧ ∀ v, p.2.data ≠ .cell v := fun p hp hb => by
      obtain ⟨q1, q2, q3, q4, q5⟩ := I.pin p (List.mem_append_right _ (List.mem_append_right _ (List.mem_append_right _ hp)))
      obtain ⟨o, e, h0, _⟩ := bk p.1 hb
      exact ⟨(same p.1 hb).trans q1, h0, q3, q4, q5⟩
    rcases List.mem_append.mp hp with q | q
    · exact (inv_out Ia).pin p (List.mem_append_right _ (List.mem_append_left _ q))
    rcases List.mem_append.mp q with q | q
    · exact (inv_out Ia).pin p (List.mem_append_right _ (List.mem_append_right _ q))
    · refine old p q (L.mem1 p.1 ?_)
      rcases List.mem_cons.mp q with rfl | q
      · simp
      · rw [List.mem_singleton.mp q]; simp
theorem ZL.both2 (L : ZL X pins G1 G2 z TI TO) {s' : Shared} {σ' : L2.St} {H' : Hp} {o2' : Obj} (I : Inv X (pins ++ P12 G1 G2 o1 o2) σ H s) (Ia : Inv (inA X) (pins ++ [(G2.n, o2'), (G2.a, G2.oa)]) σ' H' s') (same : ∀ b ∈ G2.B, s'.heap.get? b = s.heap.get? b) (bk : BOk (inA X) G2.n G2.B H' s') : Inv X (pins ++ P12 G1 G2 o1 o2') σ' H' s' :=
  (inv_out Ia).pins_of fun p hp => by
    have old : ∀ p, p ∈ [(G1.n, o1), (G1.a, G1.oa)] → p.1 ∈ G2.B → s'.heap.get? p.1 = some p.2 ∧ H' p.1 = none ∧ p.1 ≠ X.env.locals ∧ p.1 ∉ X.fs ∧ ∀ v, p.2.data ≠ .cell v := fun p hp hb => by
      obtain ⟨q1, q2, q3, q4, q5⟩ := I.pin p (List.mem_append_right _ (List.mem_append_right _ (List.mem_append_left _ hp)))
      obtain ⟨o, e, h0, _⟩ := bk p.1 hb
      exact ⟨(same p.1 hb).trans q1, h0, q3, q4, q5⟩
    rcases List.mem_append.mp hp with q | q
    · exact (inv_out Ia).pin p (List.mem_append_right _ (List.mem_append_left _ q))
    rcases List.mem_append.mp q with q | q
    · refine old p q (L.mem2 p.1 ?_)
      rcases List.mem_cons.mp q with rfl | q
      · simp
      · rw [List.mem_singleton.mp q]; simp
    · exact (inv_out Ia).pin p (List.mem_append_right _ (List.mem_append_right _ q))
end
end Pu
namespace Pu
open PySem PySem.Spec PyProof.Rows L2 GenW RZ
section
variable (X : Cx) (pins : List (Addr × Obj)) (G1 G2 : Gn) (z TI TO : Addr) (len : Nat) (Bs : Nat → Mu → Sto → Hp → L2.St → Prop)
def bA : LZ := fun i μ S H σ _ => Bs i μ S H σ
def bB : LZ := fun i μ S H σ s => Bs i μ S H σ ∧ ∃ v w x d, IsPair s.heap TO v w ∧ RelV x v ∧ G1.ds[i]? = some d ∧ Rp (ct X) μ H x d
abbrev ZA : LZ := LA (inA X) pins G1 G2 len (bA Bs) (bB X G1 TO Bs)
abbrev ZB : LZ := LB (inA X) pins G1 G2 len (bA Bs) (bB X G1 TO Bs)
/-- between two turns, k are out -/
structure ZS (f0 : Value) (k : Nat) (μ : Mu) (H : Hp) (σ : L2.St) (s : Shared) (y1 y2 : GenState) (o1 o2 : Obj) : Prop where
  inv : Inv X (pins ++ P12 G1 G2 o1 o2) σ H s
  zo : Zo z TI TO G1.a G2.a f0 H s.heap
  g1 : s.gens[G1.gi]? = some y1 ∧ clG y1
  g2 : s.gens[G2.gi]? = some y2 ∧ clG y2
  sus : 0 < k → isSusp y1 = true ∧ isSusp y2 = true
  frs : k = 0 → isSusp y2 = false
  a1 : AZ (inA X) pins G1 (ZA X pins G1 G2 TO len Bs) k y1 o1 μ H
  a2 : AZ (inA X) pins G2 (ZB X pins G1 G2 TO len Bs) k y2 o2 μ H
end
section
variable {X : Cx} {pins : List (Addr × Obj)} {G1 G2 : Gn} {z TI TO : Addr} {len : Nat} {Bs : Nat → Mu → Sto → Hp → L2.St → Prop} {k : Nat} {μ : Mu} {S : Sto} {H : Hp} {σ : L2.St} {s : Shared} {y1 y2 : GenState} {o1 o2 : Obj}
theorem bB_only : HOnly (bB X G1 TO Bs) := fun i μ S H σ s s' e ⟨h, v, w, x, d, hp, q⟩ => ⟨h, v, w, x, d, by rw [e]; exact hp, q⟩
theorem bA_only : HOnly (bA Bs) := fun i μ S H σ s s' e h => h
theorem zip_turn (L : ZL X pins G1 G2 z TI TO) (rm : Room 1 X.A.in1) (l1 : G1.ds.length = len) (l2 : G2.ds.length = len) (hBs : ∀ {i μ S H σ μ' H'}, Bs i μ S H σ → Wd (ct X) μ S H → Fw μ H μ' H' → Bs i μ' S H' σ) (w : Wd (ct X) μ S H) (hk : k ≤ len) (bs : Bs k μ S H σ) (W : ZS X pins G1 G2 z TI TO len Bs .none k μ H σ s y1 y2 o1 o2) :
    wpAny (model X.prog X.w) X.A (pyNext (.ref z)) (fun r s' => match r with
      | none => k = len ∧ ∃ μ0 S₀ H₀ σ' μ1 H1, Bs len μ0 S₀ H₀ σ' ∧ Inv X pins σ' H1 s' ∧ Wd (ct X) μ0 S₀ H₀ ∧ Fw μ0 H₀ μ1 H1 ∧ Wd (ct X) μ1 S₀ H1
      | some v => ∃ T μ' S' H' σ' d1 d2 y1' y2' o1' o2', v = .ref T ∧ k < len ∧ isSusp y1' = true ∧ isSusp y2' = true ∧ ZS X pins G1 G2 z TI TO len Bs (rawInt T) (k + 1) μ' H' σ' s' y1' y2' o1' o2' ∧ Wd (ct X) μ' S' H' ∧ Bs k μ' S' H' σ' ∧ G1.ds[k]? = some d1 ∧ G2.ds[k]? = some d2 ∧ Rp (ct X) μ' H' (.ref T) (.tup [d1, d2])) X.xe s := by
  have ne21 : G2.gi ≠ G1.gi := fun e => L.gi e.symm
  have mz : z ∈ [z, TI, TO] := List.mem_cons_self
  have mto : TO ∈ [z, TI, TO] := by simp
  refine next_two L.toz W.zo.iz W.zo.iti (fun h₁ hz₁ hs₁ => ?_)
  have fpz := L.fp (o1 := o1) (o2 := o2) mz W.zo.hz
  have I₁ : Inv X (pins ++ P12 G1 G2 o1 o2) σ H { s with heap := h₁ } := W.inv.turned (t' := s.toks) (fun b o hb e => (hs₁.2 b hb).trans e) fpz.1 fpz.2.1 fpz.2.2.2.1 fpz.2.2.2.2.1 fpz.2.2.2.2.2
  have Z₁ : Zo z TI TO G1.a G2.a .ellipsis H h₁ := ⟨hz₁, (hs₁.2 TI L.tiz).trans W.zo.iti, by obtain ⟨v, w', e⟩ := W.zo.ito; exact ⟨v, w', (hs₁.2 TO L.toz).trans e⟩, W.zo.hz, W.zo.hti, W.zo.hto⟩
  obtain ⟨eg1, cl1⟩ := W.g1
  obtain ⟨eg2, cl2⟩ := W.g2
  have pb : AllBare (psnB s.gens G1.gi y1) := psnB_bare W.inv.bare eg1
  have I₁' : Inv X (pins ++ P12 G1 G2 o1 o2) σ H (sw { s with heap := h₁ } (psnB s.gens G1.gi y1)) := inv_gens I₁ rfl rfl pb
  have at1 : (psnB s.gens G1.gi y1)[G1.gi]? = some y1 := by
    unfold psnB
    have lt : G1.gi < (psnG s.gens).size := by rw [(slp_zr s.gens).size]; exact (Array.getElem?_eq_some_iff.mp eg1).1
    rw [Array.getElem?_setIfInBounds_self, if_pos lt]
  have pinO2 : ∀ {H : Hp} {σ : L2.St} {s : Shared} {o1 o2 : Obj}, Inv X (pins ++ P12 G1 G2 o1 o2) σ H s → s.heap.get? G2.n = some o2 := fun I => (I.pin (G2.n, _) (List.mem_append_right _ (List.mem_append_right _ (by unfold P12; simp)))).1
  have pinO1 : ∀ {H : Hp} {σ : L2.St} {s : Shared} {o1 o2 : Obj}, Inv X (pins ++ P12 G1 G2 o1 o2) σ H s → s.heap.get? G1.n = some o1 := fun I => (I.pin (G1.n, _) (List.mem_append_right _ (List.mem_append_right _ (by unfold P12; simp)))).1
  have la : ZA X pins G1 G2 TO len Bs k μ S H σ (sw { s with heap := h₁ } (psnB s.gens G1.gi y1)) := by
    by_cases hlt : k < len
    · exact (la_eq L.k2 hlt).mpr ⟨bs, y2, o2, psnB_at ne21 eg2, pinO2 I₁', W.a2⟩
    · rw [show ZA X pins G1 G2 TO len Bs k = bA Bs len from la_end (by omega)]
      obtain rfl : k = len := by omega
      exact bs
  have iy1 := W.a1 μ S H σ _ (pins_1 I₁') (L.bok1 I₁' Z₁) la (w.kp Fw.refl) w at1
  refine wpAny_mono (run_beside (y := y1) I₁.bare eg1 cl1 (gen_nx (X := inA X) L.k1.hct rm L.k1.bn L.k1.hl L.k1.ha L.k1.aB L.k1.al (la_ok L.k2 ne21 bA_only) iy1)) (fun v s₂ hq => ?_) fun e s₂ hq => ?_
  · obtain ⟨sa, ⟨hkl, μ0, S₀, H₀, σ0, x1, d1, μ1, H1, oL1, same1, la0, rel1, Ia, bka, w0, f1, w1, ed1, r1, hT, y1', eg1', su1, res1⟩, bes⟩ := hq
    have hlt : k < len := l1 ▸ hkl
    obtain ⟨bs0, y2x, o2x, q1, q2, az2⟩ := (la_eq L.k2 hlt).mp la0
    obtain rfl : y2 = y2x := poison_inj (Option.some.inj ((psnB_at ne21 eg2).symm.trans q1))
    obtain rfl : o2 = o2x := Option.some.inj ((pinO2 I₁').symm.trans q2)
    have I₂ : Inv X (pins ++ P12 G1 G2 oL1 o2) σ0 H1 s₂ := inv_gens (L.both1 I₁' Ia same1 bka) bes.hp bes.os (bes.bare Ia.bare)
    have h0 : ∀ c ∈ [z, TI, TO], H1 c = none := fun c hc => by
      obtain ⟨o, _, h, _⟩ := bka c (L.mem1 c (List.mem_cons_of_mem _ (List.mem_cons_of_mem _ hc)))
      exact h
    have sm : ∀ c ∈ [z, TI, TO], s₂.heap.get? c = h₁.get? c := fun c hc => by
      rw [bes.hp]
      exact same1 c (L.mem1 c (List.mem_cons_of_mem _ (List.mem_cons_of_mem _ hc)))
    have hTI₂ : IsPair s₂.heap TI (.ref G1.a) (.ref G2.a) := (sm TI (by simp)).trans Z₁.iti
    obtain ⟨v0, b, hTO₁⟩ := Z₁.ito
    refine ⟨(sm z mz).trans hz₁, v0, b, (sm TO mto).trans hTO₁, fun h₃ hTO₃ hs₃ => ?_⟩
    have fpt := L.fp (o1 := oL1) (o2 := o2) mto (h0 TO mto)
    have I₃ : Inv X (pins ++ P12 G1 G2 oL1 o2) σ0 H1 { s₂ with heap := h₃ } := I₂.turned (t' := s₂.toks) (fun b o hb e => (hs₃.2 b hb).trans e) fpt.1 fpt.2.1 fpt.2.2.2.1 fpt.2.2.2.2.1 fpt.2.2.2.2.2
    have Z₃ : Zo z TI TO G1.a G2.a .ellipsis H1 h₃ := ⟨(hs₃.2 z L.toz.symm).trans ((sm z mz).trans hz₁), (hs₃.2 TI L.tito).trans hTI₂, ⟨_, _, hTO₃⟩, h0 z mz, h0 TI (by simp), h0 TO mto⟩
    have eg1₃ : s₂.gens[G1.gi]? = some y1' := bes.own.1.trans eg1'
    have cl1' : clG y1' := bes.own.2 y1' eg1₃
    have eg2₃ : s₂.gens[G2.gi]? = some y2 := by
      cases hs : isSusp y2 with
      | true => exact bes.slp G2.gi y2 ne21 eg2 hs
      | false =>
        have k0 : k = 0 := by
          rcases Nat.eq_zero_or_pos k with q | q
          · exact q
          · have := (W.sus q).2
            rw [hs] at this
            cases this
        refine (bes.awake G2.gi y2 eg2 hs).trans ((hT k0 G2.gi ne21).trans ?_)
        have := psnB_at (x := y1) ne21 eg2
        rw [poison_fix hs] at this
        exact this
    have pb2 : AllBare (psnB s₂.gens G2.gi y2) := psnB_bare I₂.bare eg2₃
    have I₃' : Inv X (pins ++ P12 G1 G2 oL1 o2) σ0 H1 (sw { s₂ with heap := h₃ } (psnB s₂.gens G2.gi y2)) := inv_gens I₃ rfl rfl pb2
    have at2 : (psnB s₂.gens G2.gi y2)[G2.gi]? = some y2 := by
      unfold psnB
      have lt : G2.gi < (psnG s₂.gens).size := by rw [(slp_zr s₂.gens).size]; exact (Array.getElem?_eq_some_iff.mp eg2₃).1
      rw [Array.getElem?_setIfInBounds_self, if_pos lt]
    have azn1 : AZ (inA X) pins G1 (ZA X pins G1 G2 TO len Bs) (k + 1) y1' oL1 μ1 H1 := res1
    have lb : ZB X pins G1 G2 TO len Bs k μ1 S₀ H1 σ0 (sw { s₂ with heap := h₃ } (psnB s₂.gens G2.gi y2)) := (lb_eq L.k1 hlt).mpr ⟨⟨hBs bs0 w0 f1, v, b, x1, d1, hTO₃, rel1, ed1, r1⟩, y1', oL1, psnB_at L.gi eg1₃, pinO1 I₃', azn1⟩
    have iy2 := az2 μ1 S₀ H1 σ0 _ (pins_2 I₃') (L.bok2 I₃' Z₃) lb (w0.kp f1) w1 at2
    refine wpAny_mono (run_beside (y := y2) I₃.bare eg2₃ cl2 (gen_nx (X := inA X) L.k2.hct rm L.k2.bn L.k2.hl L.k2.ha L.k2.aB L.k2.al (lb_ok L.k1 L.gi bB_only) iy2)) (fun v2 s₄ hq => ?_) fun e s₄ hq => ?_
    · obtain ⟨sb, ⟨_, μ0', S₀', H₀', σ0', x2, d2, μ2, H2, oL2, same2, lb0, rel2, Ib, bkb, w0', f2, w2, ed2, r2, _, y2', eg2', su2, res2⟩, bes2⟩ := hq
      obtain ⟨⟨bs0', v1', b', x1', d1', hp', rel1', ed1', r1'⟩, y1x, o1x, q3, q4, az1'⟩ := (lb_eq L.k1 hlt).mp lb0
      obtain rfl : y1' = y1x := poison_inj (Option.some.inj ((psnB_at L.gi eg1₃).symm.trans q3))
      obtain rfl : oL1 = o1x := Option.some.inj ((pinO1 I₃').symm.trans q4)
      have ev : v = v1' := by
        have := Option.some.inj (hTO₃.symm.trans hp')
        injection this with _ _ e3
        injection e3 with e4
        have e5 := congrArg Array.toList e4
        injection e5
      subst ev
      have I₄ : Inv X (pins ++ P12 G1 G2 oL1 oL2) σ0' H2 s₄ := inv_gens (L.both2 I₃' Ib same2 bkb) bes2.hp bes2.os (bes2.bare Ib.bare)
      have h0' : ∀ c ∈ [z, TI, TO], H2 c = none := fun c hc => by
        obtain ⟨o, _, h, _⟩ := bkb c (L.mem2 c (List.mem_cons_of_mem _ (List.mem_cons_of_mem _ hc)))
        exact h
      have sm' : ∀ c ∈ [z, TI, TO], s₄.heap.get? c = h₃.get? c := fun c hc => by
        rw [bes2.hp]
        exact same2 c (L.mem2 c (List.mem_cons_of_mem _ (List.mem_cons_of_mem _ hc)))
      have eg2₄ : s₄.gens[G2.gi]? = some y2' := bes2.own.1.trans eg2'
      refine ⟨(sm' z mz).trans Z₃.iz, (sm' TO mto).trans hTO₃, fun h₈ hz₈ hTO₈ hT₈ hsz hkp => ?_⟩
      have azn2 : AZ (inA X) pins G2 (ZB X pins G1 G2 TO len Bs) (k + 1) y2' oL2 μ2 H2 := res2
      have nH : H2 s₄.heap.objs.size = none := I₄.hok.fresh (Nat.le_refl _)
      have hTI₄ : IsPair s₄.heap TI (.ref G1.a) (.ref G2.a) := (sm' TI (by simp)).trans Z₃.iti
      have new : ObjOk X.prog X.w (upd H2 s₄.heap.objs.size (.tup [x1', x2])) h₈ s₄.heap.objs.size (.tup [x1', x2]) := ⟨by show 2 ≤ sizeLine; decide, [v, v2], .cons rel1' (.cons rel2 .nil), ⟨_, hT₈, rfl, _, rfl⟩⟩
      have I₈ : Inv X (pins ++ P12 G1 G2 oL1 oL2) σ0' (upd H2 s₄.heap.objs.size (.tup [x1', x2])) { s₄ with heap := h₈ } := I₄.turnedNew (t' := s₄.toks) (ch := [z, TO]) (fun c o hb q => hkp c o (fun e => hb (by simp [e])) (fun e => hb (by simp [e])) q) (fun c hc => L.fp (by
        rcases List.mem_cons.mp hc with rfl | hc
        · exact mz
        · rw [List.mem_singleton.mp hc]; exact mto) (h0' c (by
        rcases List.mem_cons.mp hc with rfl | hc
        · exact mz
        · rw [List.mem_singleton.mp hc]; exact mto))) (Nat.le_refl _) new
      have ff : Fw μ2 H2 μ2 (upd H2 s₄.heap.objs.size (.tup [x1', x2])) := Fw.new nH
      have kk : Kp (ct X) μ2 H2 μ2 (upd H2 s₄.heap.objs.size (.tup [x1', x2])) := w2.kp ff
      have ltz : ∀ c ∈ [z, TI, TO], c ≠ s₄.heap.objs.size := fun c hc e => by
        have : c < s₄.heap.objs.size := by
          rcases List.mem_cons.mp hc with rfl | hc
          · exact Heap.lt_size ((sm' _ mz).trans Z₃.iz)
          rcases List.mem_cons.mp hc with rfl | hc
          · exact Heap.lt_size hTI₄
          · rw [List.mem_singleton.mp hc]; exact Heap.lt_size ((sm' TO mto).trans hTO₃)
        rw [e] at this
        exact absurd this (Nat.lt_irrefl _)
      obtain rfl : d1 = d1' := Option.some.inj (ed1.symm.trans ed1')
      refine ⟨s₄.heap.objs.size, μ2, S₀', _, σ0', d1, d2, y1', y2', oL1, oL2, rfl, hlt, su1, su2, ⟨I₈, ⟨hz₈, hkp TI _ L.tiz L.tito hTI₄, ⟨_, _, hTO₈⟩, ?_, ?_, ?_⟩, ⟨bes2.slp G1.gi y1' L.gi eg1₃ su1, cl1'⟩, ⟨eg2₄, bes2.own.2 y2' eg2₄⟩, fun _ => ⟨su1, su2⟩, fun e => absurd e (Nat.succ_ne_zero k), (az1'.kp (w0'.kp f2)).kp kk, azn2.kp kk⟩, w2.new nH, hBs (hBs bs0' w0' f2) w2 ff, ed1, ed2, .tup upd_same (.cons ((r1'.fw w0' f2).fw w2 ff) (.cons (r2.fw w2 ff) .nil))⟩
      · rw [upd_ne (ltz z mz)]; exact h0' z mz
      · rw [upd_ne (ltz TI (by simp))]; exact h0' TI (by simp)
      · rw [upd_ne (ltz TO mto)]; exact h0' TO mto
    · obtain ⟨sb, ⟨_, e1, _⟩, _⟩ := hq
      exact absurd (e1.trans l2) (Nat.ne_of_lt hlt)
  · obtain ⟨sa, ⟨st, hkl, μ0, S₀, H₀, σ0, μ1, H1, same1, la0, Ia, bka, w0, f1, w1⟩, bes⟩ := hq
    have hk' : k = len := l1 ▸ hkl
    have hz0 : H1 z = none := by
      obtain ⟨o, _, h, _⟩ := bka z (L.mem1 z (by simp))
      exact h
    have sz : s₂.heap.get? z = h₁.get? z := by
      rw [bes.hp]
      exact same1 z (L.mem1 z (by simp))
    obtain ⟨ea, oe, rfl, hoe, hce⟩ := st
    refine ⟨⟨ea, oe, rfl, by rw [bes.hp]; exact hoe, hce⟩, sz.trans hz₁, fun h₃ hs₃ => ⟨hk', μ0, S₀, H₀, σ0, μ1, H1, ?_, ?_, w0, f1, w1⟩⟩
    · rw [la_end (Nat.le_of_eq l1.symm)] at la0
      exact la0
    · have I₂ : Inv X pins σ0 H1 s₂ := inv_gens (inv_out Ia) bes.hp bes.os (bes.bare Ia.bare)
      obtain ⟨c1, c2, c3, c4, c5, _⟩ := L.fz z mz
      exact I₂.turned (t' := s₂.toks) (fun b o hb e => (hs₃.2 b hb).trans e) hz0 c1 c3 c4 c5
end
end Pu
namespace Pu
open PySem PySem.Spec PyProof.Rows L2 GenW RZ
/-- for a, b in zip(g1(), g2()), both of one length -/
def dForTwo (fe1 fe2 : FX (List D)) (gg : FG) (fb : FS) : FS := fun ρ S De Ed => fe1 ρ S (fun ds1 S1 => fe2 ρ S1 (fun ds2 S2 => (S2 = S1 ∧ ds2.length = ds1.length) ∧ dLoop gg fb [] ((ds1.zip ds2).map fun p => D.tup [p.1, p.2]) ρ S2 De Ed) Ed) Ed
/-- what the loop knows when i turns are over -/
def BsOf (X : Cx) (E : XK) (gg : FG) (fb : FS) (prs : List D) (Dv : Ends) (De : DEnds) (Ed : ED) (S2 : Sto) (vs1 vs2 : List V) (as1 as2 : List D) : Nat → Mu → Sto → Hp → L2.St → Prop := fun i μ S H σ => (∃ ρ, EnvR (ct X) μ H σ ρ ∧ dLoop gg fb [] (prs.drop i) ρ S De Ed) ∧ EndsOk (ct X) μ H De Dv ∧ PX (ct X) μ H Ed E ∧ (i = 0 → S = S2 ∧ RpAll (ct X) μ H vs1 as1 ∧ RpAll (ct X) μ H vs2 as2)
theorem BsOf.fw {X : Cx} {E : XK} {gg : FG} {fb : FS} {prs : List D} {Dv : Ends} {De : DEnds} {Ed : ED} {S2 : Sto} {vs1 vs2 : List V} {as1 as2 : List D} {i : Nat} {μ μ' : Mu} {S : Sto} {H H' : Hp} {σ : L2.St} (h : BsOf X E gg fb prs Dv De Ed S2 vs1 vs2 as1 as2 i μ S H σ) (w : Wd (ct X) μ S H) (f : Fw μ H μ' H') : BsOf X E gg fb prs Dv De Ed S2 vs1 vs2 as1 as2 i μ' S H' σ := by
  obtain ⟨⟨ρ, en, hl⟩, k, px, z⟩ := h
  exact ⟨⟨ρ, en.fw w f, hl⟩, k.fw f, px.fw f, fun e => ⟨(z e).1, (z e).2.1.fw w f, (z e).2.2.fw w f⟩⟩
section
variable {X : Cx} {pins : List (Addr × Obj)} {G1 G2 : Gn} {z TI TO : Addr} {len : Nat} {Bs : Nat → Mu → Sto → Hp → L2.St → Prop}
/-- zip's own three, pinned -/
theorem ZL.hold (L : ZL X pins G1 G2 z TI TO) {o1 o2 : Obj} {f0 : Value} {H : Hp} {σ : L2.St} {s : Shared} (I : Inv X (pins ++ P12 G1 G2 o1 o2) σ H s) (Z : Zo z TI TO G1.a G2.a f0 H s.heap) : ∃ oz ot oo, s.heap.get? z = some oz ∧ s.heap.get? TI = some ot ∧ s.heap.get? TO = some oo ∧ Inv X (pins ++ (P12 G1 G2 o1 o2 ++ [(z, oz), (TI, ot), (TO, oo)])) σ H s := by
  obtain ⟨v, w, e⟩ := Z.ito
  refine ⟨_, _, _, Z.iz, Z.iti, e, I.pins_of fun p hp => ?_⟩
  have nl : ∀ c ∈ [z, TI, TO], c ≠ X.env.locals ∧ c ∉ X.fs := fun c hc => ⟨(L.fz c hc).1, (L.fz c hc).2.1⟩
  rcases List.mem_append.mp hp with q | q
  · exact I.pin p (List.mem_append_right _ (List.mem_append_left _ q))
  rcases List.mem_append.mp q with q | q
  · exact I.pin p (List.mem_append_right _ (List.mem_append_right _ q))
  rcases List.mem_cons.mp q with rfl | q
  · exact ⟨Z.iz, Z.hz, (nl z (by simp)).1, (nl z (by simp)).2, fun v e => nomatch e⟩
  rcases List.mem_cons.mp q with rfl | q
  · exact ⟨Z.iti, Z.hti, (nl TI (by simp)).1, (nl TI (by simp)).2, fun v e => nomatch e⟩
  · rw [List.mem_singleton.mp q]
    exact ⟨e, Z.hto, (nl TO (by simp)).1, (nl TO (by simp)).2, fun v e => nomatch e⟩
/-- .. and let go -/
theorem ZL.free {o1 o2 oz ot oo : Obj} {f0 : Value} {H0 H : Hp} {σ : L2.St} {s0 s : Shared} (Z : Zo z TI TO G1.a G2.a f0 H0 s0.heap) (ez : s0.heap.get? z = some oz) (et : s0.heap.get? TI = some ot) (eo : s0.heap.get? TO = some oo) (I : Inv X (pins ++ (P12 G1 G2 o1 o2 ++ [(z, oz), (TI, ot), (TO, oo)])) σ H s) : Inv X (pins ++ P12 G1 G2 o1 o2) σ H s ∧ Zo z TI TO G1.a G2.a f0 H s.heap := by
  have q1 := I.pin (z, oz) (List.mem_append_right _ (List.mem_append_right _ (List.mem_append_right _ (by simp))))
  have q2 := I.pin (TI, ot) (List.mem_append_right _ (List.mem_append_right _ (List.mem_append_right _ (by simp))))
  have q3 := I.pin (TO, oo) (List.mem_append_right _ (List.mem_append_right _ (List.mem_append_right _ (by simp))))
  obtain ⟨v, w, e⟩ := Z.ito
  refine ⟨inv_perm I fun p hp => ?_, ⟨(q1.1.trans ez.symm).trans Z.iz, (q2.1.trans et.symm).trans Z.iti, ⟨v, w, (q3.1.trans eo.symm).trans e⟩, q1.2.1, q2.2.1, q3.2.1⟩⟩
  rcases List.mem_append.mp hp with q | q
  · exact List.mem_append_left _ q
  · exact List.mem_append_right _ (List.mem_append_left _ q)
/-- the loop -/
theorem zip_loop {E : XK} {elts : List Expr} {kk : Nat} {tpos : Pos} {body : List Stmt} {gg : FG} {fb : FS} {prs : List D} {Dv : Ends} {De : DEnds} {Ed : ED} {S2 : Sto} {vs1 vs2 : List V} {as1 as2 : List D} (L : ZL X pins G1 G2 z TI TO) (rm : Room 1 X.A.in1) (xz : XeZ X) (hp : PassesOwn (model X.prog X.w) X.A X.env X.xe) (l1 : G1.ds.length = len) (l2 : G2.ds.length = len) (ep : prs = (G1.ds.zip G2.ds).map fun p => D.tup [p.1, p.2])
    (hg : PGd X E (.Tuple elts kk tpos) gg) (hb : PBd X E body fb) (hB : Bs = BsOf X E gg fb prs Dv De Ed S2 vs1 vs2 as1 as2) {μ : Mu} {S : Sto} {H : Hp} {σ : L2.St} {s : Shared} {y1 y2 : GenState} {o1 o2 : Obj} (w : Wd (ct X) μ S H) (bs : Bs 0 μ S H σ) (W : ZS X pins G1 G2 z TI TO len Bs .none 0 μ H σ s y1 y2 o1 o2) {R : Result → Shared → Prop}
    (hnx : ∀ s σ H, Inv X pins σ H s → Dv.nx σ H → R (.ok .next) s) (hrt : ∀ s v x σ H, Inv X pins σ H s → RelV x v → Dv.rt x H → R (.ok (.ret v)) s) (hxe : ∀ e s, X.xe e s → notedBy (model X.prog X.w) X.A X.env (fun e s' => R (.error e) s') e s) :
    codeAny (model X.prog X.w) X.A (.forLoop (.Tuple elts kk tpos) (.ref z) body [] X.env) R s := by
  have lp : prs.length = len := by rw [ep, List.length_map, List.length_zip, l1, l2, Nat.min_self]
  have hBs : ∀ {i μ S H σ μ' H'}, Bs i μ S H σ → Wd (ct X) μ S H → Fw μ H μ' H' → Bs i μ' S H' σ := fun h w f => by
    rw [hB] at h ⊢
    exact h.fw w f
  refine codeAny_forLoop_any (fun m s => ∃ k μ S H σ y1 y2 o1 o2, m + k = len ∧ Bs k μ S H σ ∧ Wd (ct X) μ S H ∧ ZS X pins G1 G2 z TI TO len Bs .none k μ H σ s y1 y2 o1 o2) (fun m s hI => ?_) len ⟨0, μ, S, H, σ, y1, y2, o1, o2, rfl, bs, w, W⟩
  obtain ⟨k, μ, S, H, σ, y1, y2, o1, o2, hm, bs, w, W⟩ := hI
  refine wpAny_mono (zip_turn (Bs := Bs) (k := k) L rm l1 l2 (fun h w f => hBs h w f) w (by omega) bs W) (fun r s1 hr => ?_) fun e s' hx => hxe e s' hx
  cases r with
  | none =>
    obtain ⟨rfl, μ0, S₀, H₀, σ', μ1, H1, b0, I1, w0, f1, w1⟩ := hr
    rw [hB] at b0
    obtain ⟨⟨ρ', en', hl'⟩, k', px', _⟩ := b0
    rw [List.drop_of_length_le (Nat.le_of_eq lp)] at hl'
    exact wpAny_execs_nil (hnx s1 σ' H1 I1 (k'.nx ρ' S₀ σ' H1 μ1 hl' f1 w1 (en'.fw w0 f1)))
  | some v =>
    obtain ⟨T, μ1, S1, H1, σ1, d1, d2, y1', y2', o1', o2', rfl, hlt, su1, su2, W1, w1, b1, ed1, ed2, rT⟩ := hr
    refine wpAny_letOwnedTupleGo_zip W1.zo.iz fun h' hz' hs' => ?_
    have fpz := L.fp (o1 := o1') (o2 := o2') List.mem_cons_self W1.zo.hz
    have I2 : Inv X (pins ++ P12 G1 G2 o1' o2') σ1 H1 { s1 with heap := h' } := W1.inv.turned (t' := s1.toks) (fun b o hb e => (hs'.2 b hb).trans e) fpz.1 fpz.2.1 fpz.2.2.2.1 fpz.2.2.2.2.1 fpz.2.2.2.2.2
    have Z2 : Zo z TI TO G1.a G2.a .none H1 h' := ⟨hz', (hs'.2 TI L.tiz).trans W1.zo.iti, by obtain ⟨v, w', e⟩ := W1.zo.ito; exact ⟨v, w', (hs'.2 TO L.toz).trans e⟩, W1.zo.hz, W1.zo.hti, W1.zo.hto⟩
    obtain ⟨oz, ot, oo, ez, et, eo, I3⟩ := L.hold (s := { s1 with heap := h' }) I2 Z2
    have b1' := b1
    rw [hB] at b1'
    obtain ⟨⟨ρ', en', hl'⟩, k', px', _⟩ := b1'
    have edp : prs[k]? = some (.tup [d1, d2]) := by
      rw [ep, List.getElem?_map]
      have : (G1.ds.zip G2.ds)[k]? = some (d1, d2) := by rw [List.getElem?_zip_eq_some]; exact ⟨ed1, ed2⟩
      rw [this]
      rfl
    rw [drop_cons edp] at hl'
    have as1 := hg.run _ (sw { s1 with heap := h' } (psnG s1.gens)) σ1 H1 (.ref T) (.ref T) (fun σ3 H3 => ∃ μ3 S3 ρ3, Fw μ1 H1 μ3 H3 ∧ Wd (ct X) μ3 S3 H3 ∧ EnvR (ct X) μ3 H3 σ3 ρ3 ∧ fb ρ3 S3 { nx := fun ρ2 S2 => srcOk [] S2 (dLoop gg fb [] (prs.drop (k + 1)) ρ2 S2 De Ed), ct := fun ρ2 S2 => srcOk [] S2 (dLoop gg fb [] (prs.drop (k + 1)) ρ2 S2 De Ed), bk := De.nx, rt := De.rt } Ed)
      (inv_gens I3 rfl rfl (psn_bare I3.bare)) rfl ⟨μ1, S1, ρ', _, _, Ed, w1, en', rT, hl', fun ρ3 S3 σ3 H3 μ3 h3 f3 w3 en3 => ⟨μ3, S3, ρ3, f3, w3, en3, h3⟩, px'⟩
    refine wpAny_mono (sleep_run xz (s := { s1 with heap := h' }) I3.bare as1) (fun _ s2 ⟨sa, ⟨σ3, H3, J3, μ3, S3, ρ3, f3, w3, en3, h3⟩, eh, eo', eb, es⟩ => ?_) (fun e s' hx => hxe e s' hx)
    have J3' : Inv X (pins ++ (P12 G1 G2 o1' o2' ++ [(z, oz), (TI, ot), (TO, oo)])) σ3 H3 s2 := inv_gens J3 eh eo' (eb J3.bare)
    have bd1 := hb.run _ (sw s2 (psnG s2.gens)) σ3 H3 { nx := fun σ4 H4 => ∃ μ4 S4 ρ4, Fw μ3 H3 μ4 H4 ∧ Wd (ct X) μ4 S4 H4 ∧ EnvR (ct X) μ4 H4 σ4 ρ4 ∧ dLoop gg fb [] (prs.drop (k + 1)) ρ4 S4 De Ed, rt := Dv.rt, bk := Dv.nx, ct := fun σ4 H4 => ∃ μ4 S4 ρ4, Fw μ3 H3 μ4 H4 ∧ Wd (ct X) μ4 S4 H4 ∧ EnvR (ct X) μ4 H4 σ4 ρ4 ∧ dLoop gg fb [] (prs.drop (k + 1)) ρ4 S4 De Ed }
      (inv_gens J3' rfl rfl (psn_bare J3'.bare)) ⟨μ3, S3, ρ3, _, Ed, w3, en3, h3, ⟨fun ρ4 S4 σ4 H4 μ4 h fw w en => ⟨μ4, S4, ρ4, fw, w, en, h⟩, (k'.fw f3).rt, (k'.fw f3).nx, fun ρ4 S4 σ4 H4 μ4 h fw w en => ⟨μ4, S4, ρ4, fw, w, en, h⟩⟩, px'.fw f3⟩
    refine wpAny_mono (sleep_run xz J3'.bare bd1) (fun f s3 ⟨sb, hsp, eh2, eo2, eb2, es2⟩ => ?_) (fun e s' hx => hxe e s' hx)
    have nxt : ∀ σ4 H4, Inv X (pins ++ (P12 G1 G2 o1' o2' ++ [(z, oz), (TI, ot), (TO, oo)])) σ4 H4 sb → (∃ μ4 S4 ρ4, Fw μ3 H3 μ4 H4 ∧ Wd (ct X) μ4 S4 H4 ∧ EnvR (ct X) μ4 H4 σ4 ρ4 ∧ dLoop gg fb [] (prs.drop (k + 1)) ρ4 S4 De Ed) → ∃ m', m' < m ∧ ∃ k μ S H σ y1 y2 o1 o2, m' + k = len ∧ Bs k μ S H σ ∧ Wd (ct X) μ S H ∧ ZS X pins G1 G2 z TI TO len Bs .none k μ H σ s3 y1 y2 o1 o2 := fun σ4 H4 I4 ⟨μ4, S4, ρ4, f4, w4, en4, hl4⟩ => by
      have I4' := inv_gens I4 eh2 eo2 (eb2 I4.bare)
      obtain ⟨I5, Z5⟩ := ZL.free (s0 := { s1 with heap := h' }) Z2 ez et eo I4'
      have ff := f3.trans f4
      refine ⟨len - (k + 1), by omega, k + 1, μ4, S4, H4, σ4, y1', y2', o1', o2', by omega, ?_, w4, ⟨I5, Z5, ⟨es2 _ _ (es _ _ W1.g1.1 su1) su1, W1.g1.2⟩, ⟨es2 _ _ (es _ _ W1.g2.1 su2) su2, W1.g2.2⟩, fun _ => ⟨su1, su2⟩, fun e => absurd e (Nat.succ_ne_zero k), W1.a1.kp (w1.kp ff), W1.a2.kp (w1.kp ff)⟩⟩
      rw [hB]
      exact ⟨⟨ρ4, en4, hl4⟩, k'.fw ff, px'.fw ff, fun e => absurd e (Nat.succ_ne_zero k)⟩
    match f, hsp with
    | .next, ⟨σ4, H4, I4, q⟩ => exact nxt σ4 H4 I4 q
    | .cont, ⟨σ4, H4, I4, q⟩ => exact nxt σ4 H4 I4 q
    | .brk, ⟨σ4, H4, I4, q⟩ => exact hnx s3 σ4 H4 (inv_gens I4 eh2 eo2 (eb2 I4.bare)).unpinned q
    | .ret v, ⟨x4, σ4, H4, I4, r4, q⟩ => exact hrt s3 v x4 σ4 H4 (inv_gens I4 eh2 eo2 (eb2 I4.bare)).unpinned r4 q
end
end Pu
namespace Pu
open PySem PySem.Spec PyProof.Rows L2 GenW RZ
section
variable {X : Cx}
theorem kv (i : Nat) {x : Str} {pos : Pos} (h : X.N[i]? = some x := by rfl) (l : Vis X.env.scope x := by first | exact Or.inl rfl | exact Or.inr (Or.inl rfl) | exact Or.inr (Or.inr rfl)) (d1 : (x == ("__debug__" : Str)) = false := by decide) (d2 : (x == ("__classdict__" : Str)) = false := by decide) : PEk X (.Name x pos) (tVar i) := kp_var h l d1 d2
theorem room_1 {A : Around} (r : Room 2 A) : Room 1 A.in1 := by
  obtain ⟨h1, h2, h3⟩ := r
  refine ⟨h1, ?_, ?_⟩
  · show A.depth + 3 * 1 + 5 < recursionLimit
    omega
  · show A.units + 1 + 16 * 1 + 200 < cLine
    omega
theorem zip_lay {n1 a1 n2 a2 m : Nat} (h1 : n1 < a1) (h2 : a1 < n2) (h3 : n2 < a2) (h4 : a2 < m) : (∀ b : Nat, b = a1 ∨ b = n2 ∨ b = a2 ∨ b = m + 2 ∨ b = m ∨ b = m + 1 → n1 < b) ∧ (∀ b : Nat, b = a2 ∨ b = n1 ∨ b = a1 ∨ b = m + 2 ∨ b = m ∨ b = m + 1 → n1 ≤ b ∧ b ≠ n2) ∧ (∀ c : Nat, m ≤ c → c ≠ n1 ∧ c ≠ a1 ∧ c ≠ n2 ∧ c ≠ a2) ∧ (m + 1 ≠ m + 2 ∧ m ≠ m + 2 ∧ m ≠ m + 1) := by
  refine ⟨fun b hb => ?_, fun b hb => ?_, fun c hc => ?_, ?_, ?_, ?_⟩
  · omega
  · omega
  · omega
  · omega
  · omega
  · omega
theorem d_forTwo {E : XK} {e1 e2 : Expr} {elts : List Expr} {kk : Nat} {tpos p pos pos2 : Pos} {body : List Stmt} {fe1 fe2 : FX (List D)} {gg : FG} {fb : FS} (hct : ct X = ct0 X.K X.mg) (hp : PassesOwn (model X.prog X.w) X.A X.env X.xe) (xz : XeZ X) (rm : Room 2 X.A) (hgz : Gl X "zip") (hm : X.mg "zip" = none) (h1 : PZy X (cE E) e1 fe1) (h2 : PZy X (cE E) e2 fe2) (hg : PGd X E (.Tuple elts kk tpos) gg) (hb : PBd X E body fb)
    (hs : ∀ x, foldedSetIterable (.Call (.Name "zip" p) [e1, e2] [] pos) X.env x = pure x := by intro _; rfl) (st1 : starEach [e1, e2] X.env = (false, eval e1 X.env) :: starEach [e2] X.env := by rfl) (st2 : starEach [e2] X.env = (false, eval e2 X.env) :: starEach [] X.env := by rfl) (hpl : (backTo pos (starEach [e2] X.env)).any (·.1) = false := by rfl) :
    PSd X E (.For (.Tuple elts kk tpos) (.Call (.Name "zip" p) [e1, e2] [] pos) body [] pos2) (dForTwo fe1 fe2 gg fb) := by
  refine ⟨fun pins s σ H Dv I ⟨μ, S, ρ, De, Ed, w, en, hf, k, px⟩ => ?_⟩
  rw [exec_For]
  refine wpAny_bind (wpAny_standAt ?_)
  refine wpAny_bind (Call_ (ld_blt I hgz hm PyProof.Rows.boot_zip (PyProof.Rows.callWith_type1 ?_ st1 hpl)))
  rw [st1]
  refine Calls.spliced_cons (thn (h1 pins s σ H μ S ρ _ Ed I w en hf px) fun u1 s1 hu1 => ?_)
  obtain ⟨N1, fn1, fz1, s01, H01, vs1, μ1, S1, as1, ds1, I1, g1, M1, f1, w1, ra1, hz1, hf2⟩ := hu1
  obtain ⟨qual1, sc1, cdv1, bd1, a1, oa1, rfl, gf1, zc1, ea1, nc1, ig1, eg1, ⟨os1, ba1⟩, keep1, lta1, Ig1⟩ := M1
  obtain ⟨_, ⟨oL1, _, _, eL1, dL1, _⟩, _⟩ := Ig1.loc
  replace eL1 : s1.heap.get? s01.heap.objs.size = some oL1 := eL1
  have J1 : Inv X pins σ H01 s1 := inv_gens (I1.kept (t' := s1.toks) keep1) rfl os1 ba1
  have fresh1 : ∀ c, s01.heap.objs.size ≤ c → FpOk X pins H01 c := fun c hc => I1.fpOk hc (I1.hok.fresh hc)
  have pin1 : Inv X (pins ++ [(s01.heap.objs.size, oL1), (a1, oa1)]) σ H01 s1 := J1.pins_of fun p hp => by
    rcases List.mem_append.mp hp with q | q
    · exact J1.pin p (List.mem_append_right _ q)
    rcases List.mem_cons.mp q with rfl | q
    · obtain ⟨b1, b2, b3, _⟩ := fresh1 _ (Nat.le_refl _)
      exact ⟨eL1, b1, b2, b3, fun v e => by rw [dL1] at e; cases e⟩
    · rw [List.mem_singleton.mp q]
      obtain ⟨b1, b2, b3, _⟩ := fresh1 a1 (Nat.le_of_lt lta1)
      exact ⟨ea1, b1, b2, b3, nc1⟩
  rw [st2]
  refine Calls.spliced_cons (thn (h2 (pins ++ [(s01.heap.objs.size, oL1), (a1, oa1)]) s1 σ H01 μ1 S1 ρ _ Ed pin1 w1 (en.fw w f1) hf2 (px.fw f1)) fun u2 s2 hu2 => Calls.spliced_nil ?_)
  obtain ⟨N2, fn2, fz2, s02, H02, vs2, μ2, S2, as2, ds2, I2, g2, M2, f2, w2, ra2, hz2, ⟨⟨rfl, l2⟩, hl⟩⟩ := hu2
  obtain ⟨qual2, sc2, cdv2, bd2, a2, oa2, rfl, gf2, zc2, ea2, nc2, ig2, eg2, ⟨os2, ba2⟩, keep2, lta2, Ig2⟩ := M2
  obtain ⟨_, ⟨oL2, _, _, eL2, dL2, _⟩, _⟩ := Ig2.loc
  replace eL2 : s2.heap.get? s02.heap.objs.size = some oL2 := eL2
  have J2 : Inv X (pins ++ [(s01.heap.objs.size, oL1), (a1, oa1)]) σ H02 s2 := inv_gens (I2.kept (t' := s2.toks) keep2) rfl os2 ba2
  have fresh2 : ∀ c, s02.heap.objs.size ≤ c → FpOk X (pins ++ [(s01.heap.objs.size, oL1), (a1, oa1)]) H02 c := fun c hc => I2.fpOk hc (I2.hok.fresh hc)
  have pin2 : Inv X (pins ++ ([(s01.heap.objs.size, oL1), (a1, oa1)] ++ [(s02.heap.objs.size, oL2), (a2, oa2)])) σ H02 s2 := J2.pins_of fun p hp => by
    rcases List.mem_append.mp hp with q | q
    · exact J2.pin p (List.mem_append_right _ (List.mem_append_left _ q))
    rcases List.mem_append.mp q with q | q
    · exact J2.pin p (List.mem_append_right _ (List.mem_append_right _ q))
    rcases List.mem_cons.mp q with rfl | q
    · obtain ⟨b1, b2, b3, _⟩ := fresh2 _ (Nat.le_refl _)
      exact ⟨eL2, b1, b2, b3, fun v e => by rw [dL2] at e; cases e⟩
    · rw [List.mem_singleton.mp q]
      obtain ⟨b1, b2, b3, _⟩ := fresh2 a2 (Nat.le_of_lt lta2)
      exact ⟨ea2, b1, b2, b3, nc2⟩
  have pa1 := pin2.pin (a1, oa1) (List.mem_append_right _ (List.mem_append_right _ (by simp)))
  have ig1' : s2.heap.IsGen a1 s01.gens.size := gen_at ig1 ea1 pa1.1
  refine call_zipG ig1' ig2 fun h' hz hTI hTO hsz keep3 => ?_
  have pin3 : Inv X (pins ++ ([(s01.heap.objs.size, oL1), (a1, oa1)] ++ [(s02.heap.objs.size, oL2), (a2, oa2)])) σ H02 { s2 with heap := h' } := pin2.kept (t' := s2.toks) keep3
  have fresh3 : ∀ c, s2.heap.objs.size ≤ c → FpOk X (pins ++ ([(s01.heap.objs.size, oL1), (a1, oa1)] ++ [(s02.heap.objs.size, oL2), (a2, oa2)])) H02 c := fun c hc => pin2.fpOk hc (pin2.hok.fresh hc)
  rw [hs]
  refine wpAny_bind (wpAny_pure ?_)
  refine wpAny_bind (wpAny_standAt ?_)
  refine wpAny_bind (wpAny_holding (wpAny_pyIter_zip hz ?_))
  have hA : X.A.mark none = X.A := rfl
  refine wpAny_runOwn ?_
  rw [hA]
  -- what lies where
  have lt12 : s01.heap.objs.size < s02.heap.objs.size := Nat.lt_of_le_of_lt (Nat.le_of_lt lta1) (base_lt (I2.pin (a1, oa1) (List.mem_append_right _ (List.mem_append_right _ (by simp)))).1)
  have lta12 : a1 < s02.heap.objs.size := base_lt (I2.pin (a1, oa1) (List.mem_append_right _ (List.mem_append_right _ (by simp)))).1
  have lt2 : a2 < s2.heap.objs.size := base_lt ea2
  have lz : ∀ c ∈ [s2.heap.objs.size + 2, s2.heap.objs.size, s2.heap.objs.size + 1], s2.heap.objs.size ≤ c := fun c hc => by
    simp only [List.mem_cons, List.not_mem_nil, or_false] at hc
    rcases hc with e | e | e <;> (rw [e]; first | exact Nat.le_refl _ | exact Nat.le_add_right _ _)
  have lowP : ∀ q ∈ X.pn ++ pins, q.1 < s01.heap.objs.size ∧ q.1 ∉ frs X.stack := fun q hq => by
    have q0 := I1.pin q hq
    refine ⟨base_lt q0.1, fun e => ?_⟩
    rcases List.mem_cons.mp (I1.stkSub _ e) with y | y
    · exact q0.2.2.1 y
    · exact q0.2.2.2.1 y
  have hi : ∀ c, s01.heap.objs.size ≤ c → c ∉ frs X.stack := fun c hc e => absurd ((born_lt I1).1 c e) (Nat.not_lt.mpr hc)
  have locL : X.env.locals < s01.heap.objs.size := I1.lt
  let B1 : List Addr := (X.pn ++ pins).map (·.1) ++ [a1, s02.heap.objs.size, a2, s2.heap.objs.size + 2, s2.heap.objs.size, s2.heap.objs.size + 1]
  let B2 : List Addr := (X.pn ++ pins).map (·.1) ++ [a2, s01.heap.objs.size, a1, s2.heap.objs.size + 2, s2.heap.objs.size, s2.heap.objs.size + 1]
  let G1 : Gn := ⟨s01.heap.objs.size, N1, qual1, sc1, fn1, cdv1, B1, a1, oa1, s01.gens.size, ds1⟩
  let G2 : Gn := ⟨s02.heap.objs.size, N2, qual2, sc2, fn2, cdv2, B2, a2, oa2, s02.gens.size, ds2⟩
  have inB : ∀ (l : List Addr) b, b ∈ (X.pn ++ pins).map (·.1) ++ l → b ∈ l ∨ ∃ q ∈ X.pn ++ pins, q.1 = b := fun l b hb => (List.mem_append.mp hb).elim (fun q => .inr (by obtain ⟨q, h, e⟩ := List.mem_map.mp q; exact ⟨q, h, e⟩)) .inl
  obtain ⟨y1, y2, y3, y4, y5, y6⟩ := zip_lay lta1 lta12 lta2 lt2
  have L : ZL X pins G1 G2 (s2.heap.objs.size + 2) s2.heap.objs.size (s2.heap.objs.size + 1) := {
    k1 := ⟨hct, born_list (inv_inA I1) _, fun b hb => .inl fun e => by rw [e] at hb; exact absurd locL (Nat.not_lt.mpr hb), lta1, (by show a1 ∈ B1; exact List.mem_append_right _ List.mem_cons_self), Nat.ne_of_gt (Nat.lt_trans locL lta1)⟩
    k2 := ⟨hct, born_list (inv_inA I2.unpinned) _, fun b hb => .inl fun e => by rw [e] at hb; exact absurd (Nat.lt_trans locL lt12) (Nat.not_lt.mpr hb), lta2, (by show a2 ∈ B2; exact List.mem_append_right _ List.mem_cons_self), Nat.ne_of_gt (Nat.lt_trans (Nat.lt_trans locL lt12) lta2)⟩
    mem1 := fun b hb => List.mem_append_right _ (List.mem_cons_of_mem _ hb)
    mem2 := fun b hb => List.mem_append_right _ (List.mem_cons_of_mem _ hb)
    in1 := fun b hb => inB _ b hb
    in2 := fun b hb => inB _ b hb
    ne1 := fun b hb => by
      rcases inB _ b hb with q | ⟨q, hq, rfl⟩
      · have : s01.heap.objs.size < b := by
          simp only [List.mem_cons, List.not_mem_nil, or_false] at q
          exact y1 b q
        exact ⟨Nat.ne_of_gt this, hi b (Nat.le_of_lt this)⟩
      · exact ⟨Nat.ne_of_lt (lowP q hq).1, (lowP q hq).2⟩
    ne2 := fun b hb => by
      rcases inB _ b hb with q | ⟨q, hq, rfl⟩
      · simp only [List.mem_cons, List.not_mem_nil, or_false] at q
        obtain ⟨q1, q2⟩ := y2 b q
        exact ⟨q2, hi b q1⟩
      · exact ⟨Nat.ne_of_lt (Nat.lt_trans (lowP q hq).1 lt12), (lowP q hq).2⟩
    fz := fun c hc => by
      obtain ⟨b1, b2, b3, b4, b5, b6⟩ := fresh3 c (lz c hc)
      obtain ⟨c1, c2, c3, c4⟩ := y3 c (lz c hc)
      exact ⟨b2, b3, b4, b5, fun q hq => b6 q ((List.mem_append.mp hq).elim (fun z => List.mem_append_left _ z) fun z => List.mem_append_right _ (List.mem_append_left _ z)), c1, c2, c3, c4⟩
    toz := y4
    tiz := y5
    tito := y6
    gi := by
      show s01.gens.size ≠ s02.gens.size
      rw [g2, eg1, Array.size_push]
      omega }
  have gq1 : s2.gens[s01.gens.size]? = some (.fresh (.func bd1 (gOf (inA X) s01.heap.objs.size N1 qual1 sc1 fn1 cdv1 qN).env)) := by
    rw [eg2, g2, eg1, Array.getElem?_push, if_neg (by rw [Array.size_push]; omega), Array.getElem?_push, if_pos rfl]
  have gq2 : s2.gens[s02.gens.size]? = some (.fresh (.func bd2 (gOf (inA X) s02.heap.objs.size N2 qual2 sc2 fn2 cdv2 qN).env)) := by
    rw [eg2, Array.getElem?_push, if_pos rfl]
  have lenA : ds1.length = ds1.length := rfl
  have f12 := f1.trans f2
  have bs0 : BsOf X E gg fb ((ds1.zip ds2).map fun p => D.tup [p.1, p.2]) Dv De Ed S2 vs1 vs2 as1 as2 0 μ2 S2 H02 σ := ⟨⟨ρ, en.fw w f12, hl⟩, k.fw f12, px.fw f12, fun _ => ⟨rfl, ra1.fw w1 f2, ra2⟩⟩
  refine zip_loop (G1 := G1) (G2 := G2) (len := ds1.length) (Bs := BsOf X E gg fb ((ds1.zip ds2).map fun p => D.tup [p.1, p.2]) Dv De Ed S2 vs1 vs2 as1 as2) L (room_1 rm) xz hp rfl l2 rfl hg hb rfl w2 bs0 (y1 := .fresh (.func bd1 (gOf (inA X) s01.heap.objs.size N1 qual1 sc1 fn1 cdv1 qN).env)) (y2 := .fresh (.func bd2 (gOf (inA X) s02.heap.objs.size N2 qual2 sc2 fn2 cdv2 qN).env)) (o1 := oL1) (o2 := oL2)
    ⟨pin3, ⟨hz, hTI, ⟨_, _, hTO⟩, (fresh3 _ (Nat.le_add_right _ _)).1, (fresh3 _ (Nat.le_refl _)).1, (fresh3 _ (Nat.le_add_right _ _)).1⟩, ⟨gq1, trivial⟩, ⟨gq2, trivial⟩, fun z => absurd z (Nat.lt_irrefl 0), fun _ => rfl, ?_, ?_⟩ (fun s σ H I q => ⟨σ, H, I, q⟩) (fun s v x σ H I r q => ⟨x, σ, H, I, r, q⟩) (fun e s hx => hp e s hx)
  · intro μ' S' H' σ' s' I' bk la kp w' eg
    have ba : BsOf X E gg fb ((ds1.zip ds2).map fun p => D.tup [p.1, p.2]) Dv De Ed S2 vs1 vs2 as1 as2 0 μ' S' H' σ' := by
      by_cases h0 : 0 < ds1.length
      · exact ((la_eq L.k2 h0).mp la).1
      · have e0 : ds1.length = 0 := by omega
        have q : bA (BsOf X E gg fb ((ds1.zip ds2).map fun p => D.tup [p.1, p.2]) Dv De Ed S2 vs1 vs2 as1 as2) ds1.length μ' S' H' σ' s' := (congrFun (congrFun (congrFun (congrFun (congrFun (la_end (X := inA X) (pins := pins) (G1 := G1) (G2 := G2) (len := ds1.length) (i := 0) (Nat.le_of_eq e0)) μ') S') H') σ') s').mp la
        rw [e0] at q
        exact q
    obtain ⟨_, _, _, z⟩ := ba
    obtain ⟨rfl, z1, z2⟩ := z rfl
    have p1 := I'.pin (a1, oa1) (List.mem_append_right _ (List.mem_append_right _ (List.mem_cons_of_mem _ List.mem_cons_self)))
    exact made_asleep (X := inA X) (s1 := s1) (ds := ds1) hct L.k1.bn gf1 zc1 Ig1 eL1 (gen_at ig1 ea1 p1.1) eg I' bk w' z1 hz1 la (la_ok L.k2 (fun e => L.gi e.symm) bA_only)
  · intro μ' S' H' σ' s' I' bk la kp w' eg
    have ba : BsOf X E gg fb ((ds1.zip ds2).map fun p => D.tup [p.1, p.2]) Dv De Ed S2 vs1 vs2 as1 as2 0 μ' S' H' σ' := by
      by_cases h0 : 0 < ds1.length
      · exact ((lb_eq L.k1 h0).mp la).1.1
      · have e0 : ds1.length = 0 := by omega
        have q : bB X G1 (s2.heap.objs.size + 1) (BsOf X E gg fb ((ds1.zip ds2).map fun p => D.tup [p.1, p.2]) Dv De Ed S2 vs1 vs2 as1 as2) ds1.length μ' S' H' σ' s' := (congrFun (congrFun (congrFun (congrFun (congrFun (lb_end (X := inA X) (pins := pins) (G1 := G1) (G2 := G2) (len := ds1.length) (i := 0) (Nat.le_of_eq e0)) μ') S') H') σ') s').mp la
        rw [e0] at q
        exact q.1
    obtain ⟨_, _, _, z⟩ := ba
    obtain ⟨rfl, z1, z2⟩ := z rfl
    have p2 := I'.pin (a2, oa2) (List.mem_append_right _ (List.mem_append_right _ (List.mem_cons_of_mem _ List.mem_cons_self)))
    exact made_asleep (X := inA X) (s1 := s2) (ds := ds2) hct L.k2.bn gf2 zc2 Ig2 eL2 (gen_at ig2 ea2 p2.1) eg I' bk w' z2 hz2 la (lb_ok L.k1 L.gi bB_only)
end
end Pu
namespace Pu
open PySem L2
def den_following_riders : FS := (dSeq (dAsg (dIf (dTestU (dVar 1)) (dBin gAdd (dBin gIx (dVar 1) (dUn gNeg (dC (.int 1)))) (dC (.int 1))) (dC (.int 0))) (gN 3))
 (dSeq (dIfS (dAnd (dTest (dBin gLt (dVar 3) (dVar 0))) (dTest (dBin gLt (dB gLen (dCons (dVar 1) dNil)) (dVar 2))))
 (dRet (dBin gAdd (dVar 1) (dTup (dCons (dVar 3) dNil))))
 dSkip)
 (dSeq (dAsg (dIf (dTest (dBin gLt (dVar 3) (dVar 0))) (dVar 1) (dSl (dVar 1) dNoP (dPart (dUn gNeg (dC (.int 1)))))) (gN 4))
 (dSeq (dIfS (dNot (dTestU (dVar 4)))
 (dRet (dC .non))
 dSkip)
 (dRet (dBin gAdd (dSl (dVar 4) dNoP (dPart (dUn gNeg (dC (.int 1))))) (dTup (dCons (dBin gAdd (dBin gIx (dVar 4) (dUn gNeg (dC (.int 1)))) (dC (.int 1))) dNil))))))))
@[irreducible] def F_following_riders : FF := dDef 3 5 den_following_riders
def den_following_plan : FS := (dSeq (dAsg (dBin gIx (dVar 0) (dC (.int 2))) (gN 3))
 (dSeq (dFor (dRngR (dCons (dB gLen (dCons (dVar 3) dNil)) dNil)) (gN 4)
 (dSeq (dAsg (dIf (dTest (dBin gGt (dVar 4) (dC (.int 0)))) (dB gLen (dCons (dBin gIx (dVar 2) (dBin gSub (dVar 4) (dC (.int 1)))) dNil)) (dC (.int 0))) (gN 5))
 (dSeq (dAsg (dCallW F_following_riders (dCons (dVar 1) (dCons (dBin gIx (dVar 2) (dVar 4)) (dCons (dBin gAdd (dVar 5) (dBin gIx (dVar 3) (dVar 4))) dNil)))) (gN 6))
 (dIfS (dTest (dBin (gIs true) (dVar 6) (dC .non)))
 (dRet (dBin gAdd (dBin gAdd (dSl (dVar 2) dNoP (dPart (dVar 4))) (dTup (dCons (dVar 6) dNil))) (dBin gMul0 (dTup (dCons (dTup dNil) dNil)) (dBin gSub (dBin gSub (dB gLen (dCons (dVar 3) dNil)) (dVar 4)) (dC (.int 1))))))
 dSkip))))
 (dRet (dC .non))))
@[irreducible] def F_following_plan : FF := dDef 3 7 den_following_plan
def den_z_each_plan : FZ := (zSeq (zPlain (dAsg (dBin gMul (dTup (dCons (dTup dNil) dNil)) (dB gLen (dCons (dBin gIx (dVar 0) (dC (.int 2))) dNil))) (gN 2)))
 (zSeq (zWhile (dTest (dBin (gIs true) (dVar 2) (dC .non)))
 (zSeq (zYield (dVar 2))
 (zSeq (zPlain (dAsg (dCallW F_following_plan (dCons (dVar 0) (dCons (dVar 1) (dCons (dVar 2) dNil)))) (gN 2)))
 zEnd)))
 zEnd))
@[irreducible] def Z_each_plan : ZF := zDef 2 3 den_z_each_plan
end Pu
namespace Pu
open PySem L2
def den_law_draws : FS := (dSeq (dAsg (dBin gAdd (dLc (st1 2) dYes (dB gAbs (dCons (dVar 2) dNil)) (dItS (dSl (dVar 0) dNoP (dPart (dC (.int 63)))))) (dBin gMul (dLst (dCons (dC (.int 0)) dNil)) (dB gToInt (dCons (dBin iEq (dB gLen (dCons (dVar 0) dNil)) (dC (.int 0))) dNil)))) (gN 1))
 (dRet (dLstC (dCons (dVar 1) (dCons (dC (.int 0)) (dCons (dLcC (st1 2) dYes (dBin gMul (dVar 2) (dB gToInt (dCons (dBin gGe (dVar 2) (dBin gPow (dC (.int 10)) (dC (.int 18)))) dNil))) (dItS (dVar 1))) dNil))))))
@[irreducible] def F_law_draws : FF := dDef 1 3 den_law_draws
def den_law_next : FS := (dSeq (dAsg (dVar 0) (gUn 3 (gsCons (gN 2) (gsCons (gN 3) (gsCons (gN 4) gsNil)))))
 (dSeq (dAsg (dBin gMod (dVar 3) (dB gLen (dCons (dVar 2) dNil))) (gN 5))
 (dSeq (dAsg (dBin gAdd (dVar 3) (dC (.int 1))) (gSetI (dVar 0) (dC (.int 1))))
 (dSeq (dIfS (dTest (dBin gGt (dBin gIx (dVar 4) (dVar 5)) (dC (.int 0))))
 (dSeq (dAsg (dBin gMod (dBin gIx (dVar 4) (dVar 5)) (dVar 1)) (gN 6))
 (dSeq (dAsg (dBin gFdiv (dBin gIx (dVar 4) (dVar 5)) (dVar 1)) (gSetI (dVar 4) (dVar 5)))
 (dRet (dVar 6))))
 dSkip)
 (dSeq (dAsg (dBin gMod (dBin gPow (dBin gAdd (dBin gAdd (dBin gMod (dBin gIx (dVar 2) (dVar 5)) (dC (.int 2147483629))) (dBin gMul (dC (.int 40037)) (dVar 3))) (dC (.int 9203))) (dC (.int 3))) (dC (.int 2147483587))) (gN 7))
 (dSeq (dAsg (dBin gMod (dBin gPow (dBin gAdd (dBin gAdd (dVar 7) (dBin gMul (dBin gMul (dC (.int 5039)) (dVar 3)) (dVar 3))) (dC (.int 43))) (dC (.int 3))) (dC (.int 2147483563))) (gN 7))
 (dRet (dBin gMod (dBin gFdiv (dBin gMod (dBin gMul (dVar 7) (dC (.int 65537))) (dC (.int 2305843009213693951))) (dC (.int 8))) (dVar 1)))))))))
@[irreducible] def F_law_next : FF := dDef 2 8 den_law_next
def den_law_road_3 : FS := (dSeq (dAsg (dBin gAdd (dC (.int 1)) (dCallW F_law_next (dCons (dVar 0) (dCons (dBin gIx (dLst (dCons (dC (.int 4)) (dCons (dC (.int 30)) (dCons (dC (.int 999)) dNil)))) (dCallW F_law_next (dCons (dVar 0) (dCons (dC (.int 3)) dNil)))) dNil)))) (gN 3))
 (dSeq (dPar 4 5 (dCons (dBin gAdd (dBin gAdd (dVar 3) (dC (.int 1))) (dCallW F_law_next (dCons (dVar 0) (dCons (dB gMinL (dCons (dBin gSub (dC (.int 1000)) (dVar 3)) (dCons (dBin gIx (dLst (dCons (dC (.int 3)) (dCons (dC (.int 30)) (dCons (dC (.int 999)) dNil)))) (dCallW F_law_next (dCons (dVar 0) (dCons (dC (.int 3)) dNil)))) dNil))) dNil)))) (dCons (dTup dNil) dNil)))
 (dSeq (dFor (dRng1 (dCons (dBin gAdd (dC (.int 1)) (dCallW F_law_next (dCons (dVar 0) (dCons (dVar 1) dNil)))) dNil)) (gN 6)
 (dAsg (dBin gAdd (dVar 5) (dTup (dCons (dBin gIx (dLst (dCons (dCallW F_law_next (dCons (dVar 0) (dCons (dBin gAdd (dVar 2) (dC (.int 1))) dNil))) (dCons (dC (.int 0)) (dCons (dC (.int 0)) (dCons (dC (.int 1)) dNil))))) (dCallW F_law_next (dCons (dVar 0) (dCons (dC (.int 4)) dNil)))) dNil))) (gN 5)))
 (dRet (dTup (dCons (dVar 4) (dCons (dVar 3) (dCons (dVar 5) dNil))))))))
@[irreducible] def F_law_road_3 : FF := dDef 3 7 den_law_road_3
end Pu
namespace Pu
open PySem L2
def den_law_groups : FS := (dSeq (dAsg (dLst (dCons (dTup dNil) dNil)) (gN 2))
 (dSeq (dFor (dRng1 (dCons (dVar 0) dNil)) (gN 3)
 (dAsg (dBin gAdd (dVar 2) (dLc (st1 4) (dTest (dBin gLt (dB gLen (dCons (dVar 4) dNil)) (dVar 1))) (dBin gAdd (dVar 4) (dTup (dCons (dVar 3) dNil))) (dItS (dVar 2)))) (gN 2)))
 (dRet (dB gSortT (dCons (dVar 2) dNil)))))
@[irreducible] def F_law_groups : FF := dDef 2 5 den_law_groups
def den_law_plans : FS := (dSeq (dAsg (dLst (dCons (dTup dNil) dNil)) (gN 2))
 (dSeq (dFor (dItS (dBin gIx (dVar 0) (dC (.int 2)))) (gN 3)
 (dSeq (dAsg (dLstC dNil) (gN 4))
 (dSeq (dFor (dItS (dVar 2)) (gN 5)
 (dSeq (dAsg (dIf (dTest (dBin iNe (dVar 5) (dTup dNil))) (dB gLen (dCons (dBin gIx (dVar 5) (dUn gNeg (dC (.int 1)))) dNil)) (dC (.int 0))) (gN 6))
 (dDrop (dML gExtend (dVar 4) (dCons (dLc (st1 7) dYes (dBin gAdd (dVar 5) (dTup (dCons (dVar 7) dNil))) (dItS (dCallW F_law_groups (dCons (dVar 1) (dCons (dBin gAdd (dVar 6) (dVar 3)) dNil))))) dNil)))))
 (dAsg (dVar 4) (gN 2)))))
 (dRet (dVar 2))))
@[irreducible] def F_law_plans : FF := dDefC 2 8 den_law_plans
def den_law_bound : FS := (dSeq (dAsg (dTup (dCons (dC (.int 1)) (dCons (dC (.int 0)) dNil))) (gTp 2 (gsCons (gN 2) (gsCons (gN 3) gsNil))))
 (dSeq (dFor (dItS (dBin gIx (dVar 0) (dC (.int 2)))) (gN 4)
 (dSeq (dAsg (dB gMinL (dCons (dVar 1) (dCons (dBin gAdd (dVar 3) (dVar 4)) dNil))) (gN 3))
 (dAsg (dBin gMul (dVar 2) (dB gLen (dCons (dCallW F_law_groups (dCons (dVar 1) (dCons (dVar 3) dNil))) dNil))) (gN 2))))
 (dRet (dVar 2))))
@[irreducible] def F_law_bound : FF := dDef 2 5 den_law_bound
def den_law_small : FS := (dSeq (dPar 2 3 (dCons (dCallW F_law_road_3 (dCons (dVar 0) (dCons (dC (.int 5)) (dCons (dC (.int 2)) dNil)))) (dCons (dBin gAdd (dC (.int 1)) (dCallW F_law_next (dCons (dVar 0) (dCons (dC (.int 4)) dNil)))) dNil)))
 (dSeq (dWhile (dTest (dBin gGt (dCallW F_law_bound (dCons (dVar 2) (dCons (dVar 3) dNil))) (dVar 1)))
 (dAsg (dTup (dCons (dBin gIx (dVar 2) (dC (.int 0))) (dCons (dBin gIx (dVar 2) (dC (.int 1))) (dCons (dSl (dBin gIx (dVar 2) (dC (.int 2))) dNoP (dPart (dUn gNeg (dC (.int 1))))) dNil)))) (gN 2)))
 (dRet (dLst (dCons (dVar 2) (dCons (dVar 3) dNil))))))
@[irreducible] def F_law_small : FF := dDef 2 4 den_law_small
end Pu
namespace Pu
open PySem L2
def den_each_plan : FY := (ySeq (yPlain (dAsg (dBin gMul (dTup (dCons (dTup dNil) dNil)) (dB gLen (dCons (dBin gIx (dVar 0) (dC (.int 2))) dNil))) (gN 2)))
 (ySeq (yWhile (dTest (dBin (gIs true) (dVar 2) (dC .non)))
 (ySeq (yYield (dVar 2))
 (ySeq (yPlain (dAsg (dCallW F_following_plan (dCons (dVar 0) (dCons (dVar 1) (dCons (dVar 2) dNil)))) (gN 2)))
 yEnd)))
 yEnd))
@[irreducible] def F_each_plan : FF := yDef 2 3 den_each_plan
def den_y_each_plan : FZ := zShape (dAsg (dBin gMulU (dTup (dCons (dTup dNil) dNil)) (dB gLenU (dCons (dBin gIxU (dVar 0) (dC (.int 2))) dNil))) (gN 2)) (dTest (dBin (gIs true) (dVar 2) (dC .non))) (dVar 2)
 (zSeq (zPlain (dAsg (dCallW F_following_plan (dCons (dVar 0) (dCons (dVar 1) (dCons (dVar 2) dNil)))) (gN 2)))
 zEnd)
@[irreducible] def Y_each_plan : ZF := zDef 2 3 den_y_each_plan
def den_law_first : FS := (dSeq (dAsg (dLstC dNil) (gN 3))
 (dSeq (dForZ (dZCall Z_each_plan (dCons (dVar 0) (dCons (dVar 1) dNil))) (gN 4)
 (dSeq (dDrop (dML gAppend (dVar 3) (dCons (dVar 4) dNil)))
 (dIfS (dTest (dBin iEq (dB gLen (dCons (dVar 3) dNil)) (dVar 2)))
 (dRet (dVar 3))
 dSkip)))
 (dRet (dVar 3))))
@[irreducible] def F_law_first : FF := dDefC 3 5 den_law_first
def den_law_two : FS := (dSeq (dForTwo (dZCall Y_each_plan (dCons (dVar 0) (dCons (dVar 1) dNil))) (dZCall Y_each_plan (dCons (dVar 0) (dCons (dVar 1) dNil))) (gTp 2 (gsCons (gN 2) (gsCons (gN 3) gsNil)))
 (dIfS (dTest (dBin iNe (dB iRepr (dCons (dVar 2) dNil)) (dB iRepr (dCons (dVar 3) dNil))))
 (dRet (dC (.bl false)))
 dSkip))
 (dRet (dC (.bl true))))
@[irreducible] def F_law_two : FF := dDef 2 4 den_law_two
def den_law_far_right : FS := (dSeq (dPar 1 2 (dCons (dCallW F_law_road_3 (dCons (dVar 0) (dCons (dC (.int 12)) (dCons (dC (.int 12)) dNil)))) (dCons (dBin gAdd (dC (.int 1)) (dCallW F_law_next (dCons (dVar 0) (dCons (dC (.int 10)) dNil)))) dNil)))
 (dSeq (dAsg (dTup (dCons (dBin gAdd (dBin gIx (dVar 1) (dC (.int 2))) (dTup (dCons (dBin gAdd (dC (.int 1)) (dCallW F_law_next (dCons (dVar 0) (dCons (dC (.int 12)) dNil)))) dNil))) (dCons (dBin gAdd (dC (.int 1)) (dCallW F_law_next (dCons (dVar 0) (dCons (dC (.int 7)) dNil)))) dNil))) (gTp 2 (gsCons (gN 3) (gsCons (gN 4) gsNil))))
 (dCut (dIfS (dTest (dBin gGt (dB gLen (dCons (dVar 3) dNil)) (dC (.int 12))))
 (dAsg (dSl (dVar 3) (dPart (dC (.int 1))) dNoP) (gN 3))
 dSkip)
 (dSeq (dAsg (dSl (dLc (st1 6) dYes (dBin gAdd (dBin gMul (dTup (dCons (dTup dNil) dNil)) (dBin gSub (dB gLen (dCons (dVar 3) dNil)) (dC (.int 1)))) (dTup (dCons (dVar 6) dNil))) (dItS (dCallW F_law_groups (dCons (dVar 2) (dCons (dBin gIx (dVar 3) (dUn gNeg (dC (.int 1)))) dNil))))) dNoP (dPart (dVar 4))) (gN 5))
 (dRet (dBin iEq (dB iRepr (dCons (dCall 0 F_law_first (dCons (dTup (dCons (dBin gIx (dVar 1) (dC (.int 0))) (dCons (dBin gIx (dVar 1) (dC (.int 1))) (dCons (dVar 3) dNil)))) (dCons (dVar 2) (dCons (dB gLen (dCons (dVar 5) dNil)) dNil)))) dNil)) (dB iRepr (dCons (dVar 5) dNil))))))))
@[irreducible] def F_law_far_right : FF := dDef 1 7 den_law_far_right
def den_law_k26 : FS := (dSeq (dAsg (dCallW F_law_draws (dCons (dVar 0) dNil)) (gN 1))
 (dSeq (dFor (dRng1 (dCons (dC (.int 6)) dNil)) (gN 2)
 (dSeq (dAsg (dCallW F_law_small (dCons (dVar 1) (dCons (dC (.int 500)) dNil))) (gUn 2 (gsCons (gN 3) (gsCons (gN 4) gsNil))))
 (dSeq (dPar 5 6 (dCons (dB iRepr (dCons (dVar 3) dNil)) (dCons (dCall 0 F_law_plans (dCons (dVar 3) (dCons (dVar 4) dNil))) dNil)))
 (dSeq (dIfS (dOr (dTest (dBin iNe (dB iRepr (dCons (dCallW F_each_plan (dCons (dVar 3) (dCons (dVar 4) dNil))) dNil)) (dB iRepr (dCons (dVar 6) dNil)))) (dTest (dBin iNe (dB iRepr (dCons (dVar 3) dNil)) (dVar 5))))
 (dRet (dC (.bl false)))
 dSkip)
 (dSeq (dIfS (dOr (dTest (dBin iNe (dB iRepr (dCons (dCall 0 F_law_first (dCons (dVar 3) (dCons (dVar 4) (dCons (dC (.int 3)) dNil)))) dNil)) (dB iRepr (dCons (dSl (dVar 6) dNoP (dPart (dC (.int 3)))) dNil)))) (dNot (dTest (dCallW F_law_two (dCons (dVar 3) (dCons (dVar 4) dNil))))))
 (dRet (dC (.bl false)))
 dSkip)
 (dIfS (dNot (dTest (dCallW F_law_far_right (dCons (dVar 1) dNil))))
 (dRet (dC (.bl false)))
 dSkip))))))
 (dSeq (dAsg (dTup (dCons (dC (.int 3)) (dCons (dC (.int 1)) (dCons (dTup (dCons (dC (.int 2)) (dCons (dC (.int 1)) dNil))) dNil)))) (gN 7))
 (dSeq (dIfS (dTest (dBin iNe (dB iRepr (dCons (dCallW F_each_plan (dCons (dVar 7) (dCons (dC (.int 6)) dNil))) dNil)) (dB iRepr (dCons (dCall 0 F_law_plans (dCons (dVar 7) (dCons (dC (.int 6)) dNil))) dNil))))
 (dRet (dC (.bl false)))
 dSkip)
 (dRet (dBin iEq (dCallW F_each_plan (dCons (dTup (dCons (dC (.int 2)) (dCons (dC (.int 1)) (dCons (dTup (dCons (dC (.int 0)) (dCons (dC (.int 0)) dNil))) dNil)))) (dCons (dC (.int 3)) dNil))) (dLst (dCons (dTup (dCons (dTup dNil) (dCons (dTup dNil) dNil))) dNil))))))))
@[irreducible] def F_law_k26 : FF := dDef 1 8 den_law_k26
end Pu
namespace Pu
open PySem PySem.Spec PyProof.Rows L2
def topS (i : Nat) : Stmt := PySem.Challenge.pw_roadbikes_k26_plans_yielded.main.body.getD i (.Pass ⟨0, 0, 0, 0⟩)
abbrev s_each_plan : Stmt := topS 1
abbrev s_following_plan : Stmt := topS 2
abbrev s_following_riders : Stmt := topS 3
abbrev s__law_draws : Stmt := topS 5
abbrev s__law_next : Stmt := topS 6
abbrev s__law_road : Stmt := topS 7
abbrev s__law_groups : Stmt := topS 8
abbrev s__law_plans : Stmt := topS 9
abbrev s__law_small : Stmt := topS 10
abbrev s__law_bound : Stmt := topS 11
abbrev s__law_first : Stmt := topS 12
abbrev s__law_two : Stmt := topS 13
abbrev s__law_far_right : Stmt := topS 14
abbrev s_law : Stmt := topS 15
abbrev N_each_plan : List Str := ["road", "people", "plan"]
theorem sc_each_plan : GScope N_each_plan ["road", "people"] (defScope s_each_plan) := ⟨rfl, rfl, rfl, by decide +kernel, rfl, by decide +kernel, by decide +kernel⟩
abbrev N_following_plan : List Str := ["road", "people", "plan", "bikes", "stage", "brought", "riders"]
theorem sc_following_plan : FnScope N_following_plan ["road", "people", "plan"] (defScope s_following_plan) := ⟨rfl, rfl, rfl, by decide +kernel, rfl, by decide +kernel, by decide +kernel⟩
abbrev N_following_riders : List Str := ["people", "riders", "most", "further", "changing"]
theorem sc_following_riders : FnScope N_following_riders ["people", "riders", "most"] (defScope s_following_riders) := ⟨rfl, rfl, rfl, by decide +kernel, rfl, by decide +kernel, by decide +kernel⟩
abbrev N__law_draws : List Str := ["_law_script", "_law_cells", "_law_cell"]
theorem sc__law_draws : FnScope N__law_draws ["_law_script"] (defScope s__law_draws) := ⟨rfl, rfl, rfl, by decide +kernel, rfl, by decide +kernel, by decide +kernel⟩
abbrev N__law_next : List Str := ["_law_state", "_law_many", "_law_cells", "_law_count", "_law_rests", "_law_index", "_law_digit", "_law_mixed"]
theorem sc__law_next : FnScope N__law_next ["_law_state", "_law_many"] (defScope s__law_next) := ⟨rfl, rfl, rfl, by decide +kernel, rfl, by decide +kernel, by decide +kernel⟩
abbrev N__law_road : List Str := ["_law_state", "_law_stages", "_law_most", "_law_ride", "_law_walk", "_law_bikes", "_law_stage"]
theorem sc__law_road : FnScope N__law_road ["_law_state", "_law_stages", "_law_most"] (defScope s__law_road) := ⟨rfl, rfl, rfl, by decide +kernel, rfl, by decide +kernel, by decide +kernel⟩
abbrev N__law_groups : List Str := ["_law_people", "_law_most", "_law_found", "_law_person", "_law_group"]
theorem sc__law_groups : FnScope N__law_groups ["_law_people", "_law_most"] (defScope s__law_groups) := ⟨rfl, rfl, rfl, by decide +kernel, rfl, by decide +kernel, by decide +kernel⟩
abbrev N__law_plans : List Str := ["_law_road_here", "_law_people", "_law_found", "_law_standing", "_law_longer", "_law_begun", "_law_before", "_law_group"]
theorem sc__law_plans : FnScope N__law_plans ["_law_road_here", "_law_people"] (defScope s__law_plans) := ⟨rfl, rfl, rfl, by decide +kernel, rfl, by decide +kernel, by decide +kernel⟩
abbrev N__law_small : List Str := ["_law_state", "_law_plans_here", "_law_road_here", "_law_people"]
theorem sc__law_small : FnScope N__law_small ["_law_state", "_law_plans_here"] (defScope s__law_small) := ⟨rfl, rfl, rfl, by decide +kernel, rfl, by decide +kernel, by decide +kernel⟩
abbrev N__law_bound : List Str := ["_law_road_here", "_law_people", "_law_found", "_law_count", "_law_standing"]
theorem sc__law_bound : FnScope N__law_bound ["_law_road_here", "_law_people"] (defScope s__law_bound) := ⟨rfl, rfl, rfl, by decide +kernel, rfl, by decide +kernel, by decide +kernel⟩
abbrev N__law_first : List Str := ["_law_road_here", "_law_people", "_law_many", "_law_found", "_law_plan"]
theorem sc__law_first : FnScope N__law_first ["_law_road_here", "_law_people", "_law_many"] (defScope s__law_first) := ⟨rfl, rfl, rfl, by decide +kernel, rfl, by decide +kernel, by decide +kernel⟩
abbrev N__law_two : List Str := ["_law_road_here", "_law_people", "_law_one", "_law_other"]
theorem sc__law_two : FnScope N__law_two ["_law_road_here", "_law_people"] (defScope s__law_two) := ⟨rfl, rfl, rfl, by decide +kernel, rfl, by decide +kernel, by decide +kernel⟩
abbrev N__law_far_right : List Str := ["_law_state", "_law_road_here", "_law_people", "_law_bikes", "_law_many", "_law_due", "_law_group"]
theorem sc__law_far_right : FnScope N__law_far_right ["_law_state"] (defScope s__law_far_right) := ⟨rfl, rfl, rfl, by decide +kernel, rfl, by decide +kernel, by decide +kernel⟩
abbrev N_law : List Str := ["_law_script", "_law_state", "_law_turn", "_law_road_here", "_law_people", "_law_shown", "_law_due", "_law_wide"]
theorem sc_law : FnScope N_law ["_law_script"] (defScope s_law) := ⟨rfl, rfl, rfl, by decide +kernel, rfl, by decide +kernel, by decide +kernel⟩
structure Tx (K : PySem.W.Frag) (mg : Str → Option Value) where
  f_each_plan : Addr
  fd_each_plan : FuncData
  F_each_plan : Fun K "each_plan" "each_plan" s_each_plan f_each_plan fd_each_plan
  g_each_plan : mg "each_plan" = some (.ref f_each_plan)
  b_each_plan : Binds K fd_each_plan ["road", "people"] []
  f_following_plan : Addr
  fd_following_plan : FuncData
  F_following_plan : Fun K "following_plan" "following_plan" s_following_plan f_following_plan fd_following_plan
  g_following_plan : mg "following_plan" = some (.ref f_following_plan)
  b_following_plan : Binds K fd_following_plan ["road", "people", "plan"] []
  f_following_riders : Addr
  fd_following_riders : FuncData
  F_following_riders : Fun K "following_riders" "following_riders" s_following_riders f_following_riders fd_following_riders
  g_following_riders : mg "following_riders" = some (.ref f_following_riders)
  b_following_riders : Binds K fd_following_riders ["people", "riders", "most"] []
  f__law_draws : Addr
  fd__law_draws : FuncData
  F__law_draws : Fun K "_law_draws" "_law_draws" s__law_draws f__law_draws fd__law_draws
  g__law_draws : mg "_law_draws" = some (.ref f__law_draws)
  b__law_draws : Binds K fd__law_draws ["_law_script"] []
  f__law_next : Addr
  fd__law_next : FuncData
  F__law_next : Fun K "_law_next" "_law_next" s__law_next f__law_next fd__law_next
  g__law_next : mg "_law_next" = some (.ref f__law_next)
  b__law_next : Binds K fd__law_next ["_law_state", "_law_many"] []
  f__law_road : Addr
  fd__law_road : FuncData
  F__law_road : Fun K "_law_road" "_law_road" s__law_road f__law_road fd__law_road
  g__law_road : mg "_law_road" = some (.ref f__law_road)
  b__law_road : Binds K fd__law_road ["_law_state", "_law_stages", "_law_most"] []
  f__law_groups : Addr
  fd__law_groups : FuncData
  F__law_groups : Fun K "_law_groups" "_law_groups" s__law_groups f__law_groups fd__law_groups
  g__law_groups : mg "_law_groups" = some (.ref f__law_groups)
  b__law_groups : Binds K fd__law_groups ["_law_people", "_law_most"] []
  f__law_plans : Addr
  fd__law_plans : FuncData
  F__law_plans : Fun K "_law_plans" "_law_plans" s__law_plans f__law_plans fd__law_plans
  g__law_plans : mg "_law_plans" = some (.ref f__law_plans)
  b__law_plans : Binds K fd__law_plans ["_law_road_here", "_law_people"] []
  f__law_small : Addr
  fd__law_small : FuncData
  F__law_small : Fun K "_law_small" "_law_small" s__law_small f__law_small fd__law_small
  g__law_small : mg "_law_small" = some (.ref f__law_small)
  b__law_small : Binds K fd__law_small ["_law_state", "_law_plans_here"] []
  f__law_bound : Addr
  fd__law_bound : FuncData
  F__law_bound : Fun K "_law_bound" "_law_bound" s__law_bound f__law_bound fd__law_bound
  g__law_bound : mg "_law_bound" = some (.ref f__law_bound)
  b__law_bound : Binds K fd__law_bound ["_law_road_here", "_law_people"] []
  f__law_first : Addr
  fd__law_first : FuncData
  F__law_first : Fun K "_law_first" "_law_first" s__law_first f__law_first fd__law_first
  g__law_first : mg "_law_first" = some (.ref f__law_first)
  b__law_first : Binds K fd__law_first ["_law_road_here", "_law_people", "_law_many"] []
  f__law_two : Addr
  fd__law_two : FuncData
  F__law_two : Fun K "_law_two" "_law_two" s__law_two f__law_two fd__law_two
  g__law_two : mg "_law_two" = some (.ref f__law_two)
  b__law_two : Binds K fd__law_two ["_law_road_here", "_law_people"] []
  f__law_far_right : Addr
  fd__law_far_right : FuncData
  F__law_far_right : Fun K "_law_far_right" "_law_far_right" s__law_far_right f__law_far_right fd__law_far_right
  g__law_far_right : mg "_law_far_right" = some (.ref f__law_far_right)
  b__law_far_right : Binds K fd__law_far_right ["_law_state"] []
  f_law : Addr
  fd_law : FuncData
  F_law : Fun K "law" "law" s_law f_law fd_law
  g_law : mg "law" = some (.ref f_law)
  b_law : Binds K fd_law ["_law_script"] []
  z_abs : mg "abs" = none
  z_int : mg "int" = none
  z_len : mg "len" = none
  z_list : mg "list" = none
  z_min : mg "min" = none
  z_range : mg "range" = none
  z_repr : mg "repr" = none
  z_reversed : mg "reversed" = none
  z_sorted : mg "sorted" = none
  z_zip : mg "zip" = none
section
variable {P : Program} {w : World} {K : PySem.W.Frag} {mg : Str → Option Value} {base : Heap}
theorem GU_following_riders (T : Tx K mg) : FnU P w K mg base CX0 1 T.f_following_riders T.fd_following_riders ["people", "riders", "most"] (spF (ct0 K mg) F_following_riders) := by
  unfold F_following_riders
  exact
   d_fnU T.F_following_riders sc_following_riders fun cdv A out s H E hr => (d_seq (d_set (i := 3) sc_following_riders.nd rfl (.inl rfl) (d_ifE (d_tvalU (d_var (pv 1))) (d_bin o_add (d_ix (d_var (pv 1)) (d_un u_neg d_int) (fun _ _ => rfl)) d_int) d_int))
 (d_seq (d_if (PW.pt (d_and (d_tcmp o_lt (d_var (pv 3)) (d_var (pv 0)) (nomark _)) (d_and1 (d_tcmp o_lt (d_callB c_len (by rfl) T.z_len (by decide +kernel) (d_cons (d_var (pv 1)) d_nil)) (d_var (pv 2)) (nomark _)))))
 (d_last (d_ret (d_bin o_add (d_var (pv 1)) (d_tup (d_cons (d_var (pv 3)) d_nil)))))
 d_end)
 (d_seq (d_set (i := 4) sc_following_riders.nd rfl (.inl rfl) (d_ifE (d_tcmp o_lt (d_var (pv 3)) (d_var (pv 0)) (nomark _)) (d_var (pv 1)) (d_slice (d_var (pv 1)) d_noP (d_part (d_un u_neg d_int)))))
 (d_seq (d_if (d_not (d_tvalU (d_var (pv 4))))
 (d_last (d_ret d_non))
 d_end)
 (d_last (d_ret (d_bin o_add (d_slice (d_var (pv 4)) d_noP (d_part (d_un u_neg d_int))) (d_tup (d_cons (d_bin o_add (d_ix (d_var (pv 4)) (d_un u_neg d_int) (fun _ _ => rfl)) d_int) d_nil)))))))))
theorem G_law_draws (T : Tx K mg) : Rb.FnG P w K mg base CX0 1 T.f__law_draws T.fd__law_draws ["_law_script"] (spF (ct0 K mg) F_law_draws) := by
  unfold F_law_draws
  exact
   d_fn T.F__law_draws sc__law_draws fun cdv A out s H E hg hr => (d_seq (d_set (i := 1) sc__law_draws.nd rfl (.inl rfl) (d_bin o_add (d_lc (own := [("_law_cell", 2)]) (g := (gName 2)) (st := (st1 2)) lct1 (by rfl) sc__law_draws.nd (d_iseq (d_slice (d_var (pv 0)) d_noP (d_part d_int))) (blkOk_by (own := [("_law_cell", 2)]) (N := N__law_draws) (sc := defScope s__law_draws) (by decide +kernel)) (fun _ _ _ _ _ => (pg_name (i := 2) sc__law_draws.nd rfl (.inl rfl))) (fun _ _ _ _ _ => d_tnil) (fun _ _ _ _ _ => (d_callB c_abs (by rfl) T.z_abs (by decide +kernel) (d_cons (d_var (pv 2)) d_nil)))) (d_bin o_mul (d_lst (d_cons d_int d_nil)) (d_callT c_int (by rfl) T.z_int (by decide +kernel) (d_cons (d_cmp (o_ieq hr.units) (d_callB c_len (by rfl) T.z_len (by decide +kernel) (d_cons (d_var (pv 0)) d_nil)) d_int (nomark _)) d_nil)))))
 (d_last (d_ret (d_lstC (d_cons (d_var (pv 1)) (d_cons d_int (d_cons (d_lcC (own := [("_law_cell", 2)]) (g := (gName 2)) (st := (st1 2)) lct1 (by rfl) sc__law_draws.nd (d_iseq (d_var (pv 1))) (blkOk_by (own := [("_law_cell", 2)]) (N := N__law_draws) (sc := defScope s__law_draws) (by decide +kernel)) (fun _ _ _ _ _ => (pg_name (i := 2) sc__law_draws.nd rfl (.inl rfl))) (fun _ _ _ _ _ => d_tnil) (fun _ _ _ _ _ => (d_bin o_mul (d_var (pv 2)) (d_callT c_int (by rfl) T.z_int (by decide +kernel) (d_cons (d_cmp o_ge (d_var (pv 2)) (d_bin o_pow d_int d_int) (nomark _)) d_nil))))) d_nil)))))))
theorem G_law_next (T : Tx K mg) : Rb.FnG P w K mg base CX0 1 T.f__law_next T.fd__law_next ["_law_state", "_law_many"] (spF (ct0 K mg) F_law_next) := by
  unfold F_law_next
  exact
   d_fn T.F__law_next sc__law_next fun cdv A out s H E hg hr => (d_seq (d_asg (d_var (pv 0)) (d_gunl rfl (d_gcons (d_gn (pg_name (i := 2) sc__law_next.nd rfl (.inl rfl))) (d_gcons (d_gn (pg_name (i := 3) sc__law_next.nd rfl (.inl rfl))) (d_gcons (d_gn (pg_name (i := 4) sc__law_next.nd rfl (.inl rfl))) d_gnil)))))
 (d_seq (d_set (i := 5) sc__law_next.nd rfl (.inl rfl) (d_bin o_mod (d_var (pv 3)) (d_callB c_len (by rfl) T.z_len (by decide +kernel) (d_cons (d_var (pv 2)) d_nil))))
 (d_seq (d_asg (d_bin o_add (d_var (pv 3)) d_int) (d_gsub (d_var (pv 0)) d_int))
 (d_seq (d_if (d_tcmp o_gt (d_ix (d_var (pv 4)) (d_var (pv 5)) (fun _ _ => rfl)) d_int (nomark _))
 (d_seq (d_set (i := 6) sc__law_next.nd rfl (.inl rfl) (d_bin o_mod (d_ix (d_var (pv 4)) (d_var (pv 5)) (fun _ _ => rfl)) (d_var (pv 1))))
 (d_seq (d_asg (d_bin o_fdiv (d_ix (d_var (pv 4)) (d_var (pv 5)) (fun _ _ => rfl)) (d_var (pv 1))) (d_gsub (d_var (pv 4)) (d_var (pv 5))))
 (d_last (d_ret (d_var (pv 6))))))
 d_end)
 (d_seq (d_set (i := 7) sc__law_next.nd rfl (.inl rfl) (d_bin o_mod (d_bin o_pow (d_bin o_add (d_bin o_add (d_bin o_mod (d_ix (d_var (pv 2)) (d_var (pv 5)) (fun _ _ => rfl)) d_int) (d_bin o_mul d_int (d_var (pv 3)))) d_int) d_int) d_int))
 (d_seq (d_set (i := 7) sc__law_next.nd rfl (.inl rfl) (d_bin o_mod (d_bin o_pow (d_bin o_add (d_bin o_add (d_var (pv 7)) (d_bin o_mul (d_bin o_mul d_int (d_var (pv 3))) (d_var (pv 3)))) d_int) d_int) d_int))
 (d_last (d_ret (d_bin o_mod (d_bin o_fdiv (d_bin o_mod (d_bin o_mul (d_var (pv 7)) d_int) d_int) d_int) (d_var (pv 1)))))))))))
theorem G_law_groups (T : Tx K mg) : Rb.FnG P w K mg base CX0 1 T.f__law_groups T.fd__law_groups ["_law_people", "_law_most"] (spF (ct0 K mg) F_law_groups) := by
  unfold F_law_groups
  exact
   d_fn T.F__law_groups sc__law_groups fun cdv A out s H E hg hr => (d_seq (d_set (i := 2) sc__law_groups.nd rfl (.inl rfl) (d_lst (d_cons (d_tup d_nil) d_nil)))
 (d_seq (d_for PassesOwn.never rfl (d_rng1 (by rfl) T.z_range (d_cons (d_var (pv 0)) d_nil)) (d_gn (pg_name (i := 3) sc__law_groups.nd rfl (.inr rfl)))
 (d_last (d_set (i := 2) sc__law_groups.nd rfl (.inl rfl) (d_bin o_add (d_var (pv 2)) (d_lc (own := [("_law_group", 4)]) (g := (gName 4)) (st := (st1 4)) lct1 (by rfl) sc__law_groups.nd (d_iseq (d_var (pv 2))) (blkOk_by (own := [("_law_group", 4)]) (N := N__law_groups) (sc := defScope s__law_groups) (by decide +kernel)) (fun _ _ _ _ _ => (pg_name (i := 4) sc__law_groups.nd rfl (.inl rfl))) (fun _ _ _ _ _ => (d_tone (d_tcmp o_lt (d_callB c_len (by rfl) T.z_len (by decide +kernel) (d_cons (d_var (pv 4)) d_nil)) (d_var (pv 1)) (nomark _)))) (fun _ _ _ _ _ => (d_bin o_add (d_var (pv 4)) (d_tup (d_cons (d_var (pv 3)) d_nil)))))))))
 (d_last (d_ret (d_callB (c_sortT hr.units) (by rfl) T.z_sorted (by decide +kernel) (d_cons (d_var (pv 2)) d_nil))))))
theorem GU_following_plan (T : Tx K mg) : FnU P w K mg base CX0 2 T.f_following_plan T.fd_following_plan ["road", "people", "plan"] (spF (ct0 K mg) F_following_plan) := by
  unfold F_following_plan
  exact
   d_fnU T.F_following_plan sc_following_plan fun cdv A out s H E hr => (d_seq (d_set (i := 3) sc_following_plan.nd rfl (.inl rfl) (d_ix (d_var (pv 0)) d_int (fun _ _ => rfl)))
 (d_seq (d_for PassesOwn.never rfl (d_rngR (by rfl) T.z_reversed (by rfl) T.z_range (d_cons (d_callB c_len (by rfl) T.z_len (by decide +kernel) (d_cons (d_var (pv 3)) d_nil)) d_nil)) (d_gn (pg_name (i := 4) sc_following_plan.nd rfl (.inl rfl)))
 (d_seq (d_set (i := 5) sc_following_plan.nd rfl (.inl rfl) (d_ifE (d_tcmp o_gt (d_var (pv 4)) d_int (nomark _)) (d_callB c_len (by rfl) T.z_len (by decide +kernel) (d_cons (d_ix (d_var (pv 2)) (d_bin o_sub (d_var (pv 4)) d_int) (fun _ _ => rfl)) d_nil)) d_int))
 (d_seq (d_set (i := 6) sc_following_plan.nd rfl (.inl rfl) (d_callWU (GU_following_riders T) hr (by rfl) T.g_following_riders T.F_following_riders.kp T.b_following_riders passG (d_cons (d_var (pv 1)) (d_cons (d_ix (d_var (pv 2)) (d_var (pv 4)) (fun _ _ => rfl)) (d_cons (d_bin o_add (d_var (pv 5)) (d_ix (d_var (pv 3)) (d_var (pv 4)) (fun _ _ => rfl))) d_nil)))))
 (d_last (d_if (d_tcmp o_isnot (d_var (pv 6)) d_non (nomark _))
 (d_last (d_ret (d_bin o_add (d_bin o_add (d_slice (d_var (pv 2)) d_noP (d_part (d_var (pv 4)))) (d_tup (d_cons (d_var (pv 6)) d_nil))) (d_bin o_mul0 (d_tup (d_cons (d_tup d_nil) d_nil)) (d_bin o_sub (d_bin o_sub (d_callB c_len (by rfl) T.z_len (by decide +kernel) (d_cons (d_var (pv 3)) d_nil)) (d_var (pv 4))) d_int)))))
 d_end)))))
 (d_last (d_ret d_non))))
theorem G_law_road (T : Tx K mg) : Rb.FnG P w K mg base CX0 2 T.f__law_road T.fd__law_road ["_law_state", "_law_stages", "_law_most"] (spF (ct0 K mg) F_law_road_3) := by
  unfold F_law_road_3
  exact
   d_fn T.F__law_road sc__law_road fun cdv A out s H E hg hr => (d_seq (d_set (i := 3) sc__law_road.nd rfl (.inl rfl) (d_bin o_add d_int (d_callW (G_law_next T) hg hr (by rfl) T.g__law_next T.F__law_next.kp T.b__law_next passG (d_cons (d_var (pv 0)) (d_cons (d_ix (d_lst (d_cons d_int (d_cons d_int (d_cons d_int d_nil)))) (d_callW (G_law_next T) hg hr (by rfl) T.g__law_next T.F__law_next.kp T.b__law_next passG (d_cons (d_var (pv 0)) (d_cons d_int d_nil))) (fun _ _ => rfl)) d_nil)))))
 (d_seq (d_par (i := 4) (j := 5) (by rfl) sc__law_road.nd rfl rfl (by decide) rfl rfl (d_cons (d_bin o_add (d_bin o_add (d_var (pv 3)) d_int) (d_callW (G_law_next T) hg hr (by rfl) T.g__law_next T.F__law_next.kp T.b__law_next passG (d_cons (d_var (pv 0)) (d_cons (d_callB (c_minL rfl) (by rfl) T.z_min (by decide +kernel) (d_cons (d_bin o_sub d_int (d_var (pv 3))) (d_cons (d_ix (d_lst (d_cons d_int (d_cons d_int (d_cons d_int d_nil)))) (d_callW (G_law_next T) hg hr (by rfl) T.g__law_next T.F__law_next.kp T.b__law_next passG (d_cons (d_var (pv 0)) (d_cons d_int d_nil))) (fun _ _ => rfl)) d_nil))) d_nil)))) (d_cons (d_tup d_nil) d_nil)) (by rfl))
 (d_seq (d_for PassesOwn.never rfl (d_rng1 (by rfl) T.z_range (d_cons (d_bin o_add d_int (d_callW (G_law_next T) hg hr (by rfl) T.g__law_next T.F__law_next.kp T.b__law_next passG (d_cons (d_var (pv 0)) (d_cons (d_var (pv 1)) d_nil)))) d_nil)) (d_gn (pg_name (i := 6) sc__law_road.nd rfl (.inl rfl)))
 (d_last (d_set (i := 5) sc__law_road.nd rfl (.inl rfl) (d_bin o_add (d_var (pv 5)) (d_tup (d_cons (d_ix (d_lst (d_cons (d_callW (G_law_next T) hg hr (by rfl) T.g__law_next T.F__law_next.kp T.b__law_next passG (d_cons (d_var (pv 0)) (d_cons (d_bin o_add (d_var (pv 2)) d_int) d_nil))) (d_cons d_int (d_cons d_int (d_cons d_int d_nil))))) (d_callW (G_law_next T) hg hr (by rfl) T.g__law_next T.F__law_next.kp T.b__law_next passG (d_cons (d_var (pv 0)) (d_cons d_int d_nil))) (fun _ _ => rfl)) d_nil))))))
 (d_last (d_ret (d_tup (d_cons (d_var (pv 4)) (d_cons (d_var (pv 3)) (d_cons (d_var (pv 5)) d_nil)))))))))
theorem G_law_plans (T : Tx K mg) : Rb.FnG P w K mg base CX0 2 T.f__law_plans T.fd__law_plans ["_law_road_here", "_law_people"] (spF (ct0 K mg) F_law_plans) := by
  unfold F_law_plans
  exact
   d_fnC T.F__law_plans sc__law_plans fun cdv A out s H E hg hr => (d_seq (d_set (i := 2) sc__law_plans.nd rfl (.inl rfl) (d_lst (d_cons (d_tup d_nil) d_nil)))
 (d_seq (d_for PassesOwn.never rfl (d_iseq (d_ix (d_var (pv 0)) d_int (fun _ _ => rfl))) (d_gn (pg_name (i := 3) sc__law_plans.nd rfl (.inl rfl)))
 (d_seq (d_set (i := 4) sc__law_plans.nd rfl (.inl rfl) (d_lstC d_nil))
 (d_seq (d_for PassesOwn.never rfl (d_iseq (d_var (pv 2))) (d_gn (pg_name (i := 5) sc__law_plans.nd rfl (.inr rfl)))
 (d_seq (d_set (i := 6) sc__law_plans.nd rfl (.inl rfl) (d_ifE (d_tcmp (o_ine hr.units) (d_var (pv 5)) (d_tup d_nil) (nomark _)) (d_callB c_len (by rfl) T.z_len (by decide +kernel) (d_cons (d_ix (d_var (pv 5)) (d_un u_neg d_int) (fun _ _ => rfl)) d_nil)) d_int))
 (d_last (d_expr (d_ml PySem.F.slot_list_extend PySem.F.type_list_extend m_extend (d_var (pv 4)) (d_cons (d_lc (own := [("_law_group", 7)]) (g := (gName 7)) (st := (st1 7)) lct1 (by rfl) sc__law_plans.nd (d_iseq (d_callW (G_law_groups T) hg hr (by rfl) T.g__law_groups T.F__law_groups.kp T.b__law_groups passG (d_cons (d_var (pv 1)) (d_cons (d_bin o_add (d_var (pv 6)) (d_var (pv 3))) d_nil)))) (blkOk_by (own := [("_law_group", 7)]) (N := N__law_plans) (sc := defScope s__law_plans) (by decide +kernel)) (fun _ _ _ _ _ => (pg_name (i := 7) sc__law_plans.nd rfl (.inl rfl))) (fun _ _ _ _ _ => d_tnil) (fun _ _ _ _ _ => (d_bin o_add (d_var (pv 5)) (d_tup (d_cons (d_var (pv 7)) d_nil))))) d_nil))))))
 (d_last (d_set (i := 2) sc__law_plans.nd rfl (.inl rfl) (d_var (pv 4)))))))
 (d_last (d_ret (d_var (pv 2))))))
theorem G_law_bound (T : Tx K mg) : Rb.FnG P w K mg base CX0 2 T.f__law_bound T.fd__law_bound ["_law_road_here", "_law_people"] (spF (ct0 K mg) F_law_bound) := by
  unfold F_law_bound
  exact
   d_fn T.F__law_bound sc__law_bound fun cdv A out s H E hg hr => (d_seq (d_asg (d_tup (d_cons d_int (d_cons d_int d_nil))) (d_gtup rfl (d_gcons (d_gn (pg_name (i := 2) sc__law_bound.nd rfl (.inl rfl))) (d_gcons (d_gn (pg_name (i := 3) sc__law_bound.nd rfl (.inl rfl))) d_gnil))))
 (d_seq (d_for PassesOwn.never rfl (d_iseq (d_ix (d_var (pv 0)) d_int (fun _ _ => rfl))) (d_gn (pg_name (i := 4) sc__law_bound.nd rfl (.inl rfl)))
 (d_seq (d_set (i := 3) sc__law_bound.nd rfl (.inl rfl) (d_callB (c_minL rfl) (by rfl) T.z_min (by decide +kernel) (d_cons (d_var (pv 1)) (d_cons (d_bin o_add (d_var (pv 3)) (d_var (pv 4))) d_nil))))
 (d_last (d_set (i := 2) sc__law_bound.nd rfl (.inl rfl) (d_bin o_mul (d_var (pv 2)) (d_callB c_len (by rfl) T.z_len (by decide +kernel) (d_cons (d_callW (G_law_groups T) hg hr (by rfl) T.g__law_groups T.F__law_groups.kp T.b__law_groups passG (d_cons (d_var (pv 1)) (d_cons (d_var (pv 3)) d_nil))) d_nil)))))))
 (d_last (d_ret (d_var (pv 2))))))
theorem G_each_plan (T : Tx K mg) : GFn P w K mg base 3 T.f_each_plan T.fd_each_plan ["road", "people"] (spY (ct0 K mg) F_each_plan) := by
  unfold F_each_plan
  exact
   y_fn T.F_each_plan sc_each_plan fun cdv A out s H E pn hr => (y_seq (y_plain (d_set (i := 2) sc_each_plan.nd rfl (.inl rfl) (d_bin o_mul (d_tup (d_cons (d_tup d_nil) d_nil)) (d_callB c_len (by rfl) T.z_len (by decide +kernel) (d_cons (d_ix (d_var (pv 0)) d_int (fun _ _ => rfl)) d_nil)))))
 (y_seq (y_while owns_gcx (d_tcmp o_isnot (d_var (pv 2)) d_non (nomark _))
 (y_seq (y_yield (d_var (pv 2)))
 (y_seq (y_plain (d_set (i := 2) sc_each_plan.nd rfl (.inl rfl) (d_callWU (GU_following_plan T) hr (by rfl) T.g_following_plan T.F_following_plan.kp T.b_following_plan passG (d_cons (d_var (pv 0)) (d_cons (d_var (pv 1)) (d_cons (d_var (pv 2)) d_nil))))))
 y_end)))
 y_end))
theorem GZ_each_plan (T : Tx K mg) : ZFn P w K mg base 2 T.f_each_plan T.fd_each_plan N_each_plan ["road", "people"] den_z_each_plan := by
  unfold den_z_each_plan
  exact
   z_fn T.F_each_plan sc_each_plan (by decide +kernel) (by decide +kernel) fun n cdv A out zo hr => (z_seq (zp_plain hr fun s H hr => (d_set (i := 2) sc_each_plan.nd rfl (.inl rfl) (d_bin o_mul (d_tup (d_cons (d_tup d_nil) d_nil)) (d_callB c_len (by rfl) T.z_len (by decide +kernel) (d_cons (d_ix (d_var (pv 0)) d_int (fun _ _ => rfl)) d_nil)))))
 (z_seq (zp_while hr (fun s H hr => (d_tcmp o_isnot (d_var (pv 2)) d_non (nomark _)))
 (z_seq (zp_yield zo hr (fun s H hr => (d_var (pv 2))))
 (z_seq (zp_plain hr fun s H hr => (d_set (i := 2) sc_each_plan.nd rfl (.inl rfl) (d_callWU (GU_following_plan T) hr (by rfl) T.g_following_plan T.F_following_plan.kp T.b_following_plan passG (d_cons (d_var (pv 0)) (d_cons (d_var (pv 1)) (d_cons (d_var (pv 2)) d_nil))))))
 z_end)))
 z_end))
theorem GZF_each_plan (T : Tx K mg) : ZFm P w K mg base 2 T.f_each_plan T.fd_each_plan ["road", "people"] Z_each_plan := by
  unfold Z_each_plan
  exact ⟨_, _, GZ_each_plan T, rfl⟩
theorem GY_each_plan (T : Tx K mg) : ZFg P w K mg base 2 T.f_each_plan T.fd_each_plan N_each_plan ["road", "people"] den_y_each_plan := by
  unfold den_y_each_plan
  exact
   zg_fn T.F_each_plan sc_each_plan (by decide +kernel) (by decide +kernel) fun n cdv A out zo hr => (zg_shape zo hr (fun s H hr => k_set (i := 2) sc_each_plan.nd rfl rfl (k_op ok_mul (k_tup (k_cons (k_tup k_nil) k_nil)) (k_len (by rfl) T.z_len (by decide +kernel) (k_cons (k_ix (k_var (kv 0)) k_int (fun _ _ => rfl)) k_nil)))) (fun s H hr => k_isnot (k_var (kv 2)) k_non (nomark _)) (fun s H hr => k_var (kv 2))
 (z_seq (zp_plain hr fun s H hr => (d_set (i := 2) sc_each_plan.nd rfl (.inl rfl) (d_callWU (GU_following_plan T) hr (by rfl) T.g_following_plan T.F_following_plan.kp T.b_following_plan passG (d_cons (d_var (pv 0)) (d_cons (d_var (pv 1)) (d_cons (d_var (pv 2)) d_nil))))))
 z_end))
theorem GYF_each_plan (T : Tx K mg) : ZFgm P w K mg base 2 T.f_each_plan T.fd_each_plan ["road", "people"] Y_each_plan := by
  unfold Y_each_plan
  exact ⟨_, _, GY_each_plan T, rfl⟩
theorem G_law_small (T : Tx K mg) : Rb.FnG P w K mg base CX0 3 T.f__law_small T.fd__law_small ["_law_state", "_law_plans_here"] (spF (ct0 K mg) F_law_small) := by
  unfold F_law_small
  exact
   d_fn T.F__law_small sc__law_small fun cdv A out s H E hg hr => (d_seq (d_par (i := 2) (j := 3) (by rfl) sc__law_small.nd rfl rfl (by decide) rfl rfl (d_cons (d_callW (G_law_road T) hg hr (by rfl) T.g__law_road T.F__law_road.kp T.b__law_road passG (d_cons (d_var (pv 0)) (d_cons d_int (d_cons d_int d_nil)))) (d_cons (d_bin o_add d_int (d_callW (G_law_next T) hg (hr.mono (by decide)) (by rfl) T.g__law_next T.F__law_next.kp T.b__law_next passG (d_cons (d_var (pv 0)) (d_cons d_int d_nil)))) d_nil)) (by rfl))
 (d_seq (d_while PassesOwn.never (d_tcmp o_gt (d_callW (G_law_bound T) hg hr (by rfl) T.g__law_bound T.F__law_bound.kp T.b__law_bound passG (d_cons (d_var (pv 2)) (d_cons (d_var (pv 3)) d_nil))) (d_var (pv 1)) (nomark _))
 (d_last (d_set (i := 2) sc__law_small.nd rfl (.inl rfl) (d_tup (d_cons (d_ix (d_var (pv 2)) d_int (fun _ _ => rfl)) (d_cons (d_ix (d_var (pv 2)) d_int (fun _ _ => rfl)) (d_cons (d_slice (d_ix (d_var (pv 2)) d_int (fun _ _ => rfl)) d_noP (d_part (d_un u_neg d_int))) d_nil)))))))
 (d_last (d_ret (d_lst (d_cons (d_var (pv 2)) (d_cons (d_var (pv 3)) d_nil)))))))
theorem G_law_first (T : Tx K mg) : Rb.FnG P w K mg base CX0 7 T.f__law_first T.fd__law_first ["_law_road_here", "_law_people", "_law_many"] (spF (ct0 K mg) F_law_first) := by
  unfold F_law_first
  exact
   d_fnC T.F__law_first sc__law_first fun cdv A out s H E hg hr => (d_seq (d_set (i := 3) sc__law_first.nd rfl (.inl rfl) (d_lstC d_nil))
 (d_seq (d_forZ (ct_calm rfl) PassesOwn.never xz_no (hr.mono (by decide)) (pzd_call (GZF_each_plan T) (hr.mono (by decide)) (by rfl) T.g_each_plan T.F_each_plan.kp T.b_each_plan (d_cons (d_var (pv 0)) (d_cons (d_var (pv 1)) d_nil))) (d_gn (pg_name (i := 4) sc__law_first.nd rfl (.inl rfl)))
 (d_seq (d_expr (d_ml PySem.F.slot_list_append PySem.F.type_list_append m_append (d_var (pv 3)) (d_cons (d_var (pv 4)) d_nil)))
 (d_last (d_if (d_tcmp (o_ieq hr.units) (d_callB c_len (by rfl) T.z_len (by decide +kernel) (d_cons (d_var (pv 3)) d_nil)) (d_var (pv 2)) (nomark _))
 (d_last (d_ret (d_var (pv 3))))
 d_end))))
 (d_last (d_ret (d_var (pv 3))))))
theorem G_law_two (T : Tx K mg) : Rb.FnG P w K mg base CX0 7 T.f__law_two T.fd__law_two ["_law_road_here", "_law_people"] (spF (ct0 K mg) F_law_two) := by
  unfold F_law_two
  exact
   d_fn T.F__law_two sc__law_two fun cdv A out s H E hg hr => (d_seq (d_forTwo (ct_calm rfl) PassesOwn.never xz_no (hr.mono (by decide)) (by rfl) T.z_zip (pzy_call (GYF_each_plan T) (hr.mono (by decide)) (by rfl) T.g_each_plan T.F_each_plan.kp T.b_each_plan (k_cons (k_var (kv 0)) (k_cons (k_var (kv 1)) k_nil))) (pzy_call (GYF_each_plan T) (hr.mono (by decide)) (by rfl) T.g_each_plan T.F_each_plan.kp T.b_each_plan (k_cons (k_var (kv 0)) (k_cons (k_var (kv 1)) k_nil))) (d_gtup rfl (d_gcons (d_gn (pg_name (i := 2) sc__law_two.nd rfl (.inl rfl))) (d_gcons (d_gn (pg_name (i := 3) sc__law_two.nd rfl (.inl rfl))) d_gnil)))
 (d_last (d_if (d_tcmp (o_ine hr.units) (d_callB (c_irepr hg hr.units) (by rfl) T.z_repr (by decide +kernel) (d_cons (d_var (pv 2)) d_nil)) (d_callB (c_irepr hg hr.units) (by rfl) T.z_repr (by decide +kernel) (d_cons (d_var (pv 3)) d_nil)) (nomark _))
 (d_last (d_ret d_bl))
 d_end)))
 (d_last (d_ret d_bl)))
theorem G_law_far_right (T : Tx K mg) : Rb.FnG P w K mg base CX0 8 T.f__law_far_right T.fd__law_far_right ["_law_state"] (spF (ct0 K mg) F_law_far_right) := by
  unfold F_law_far_right
  exact
   d_fn T.F__law_far_right sc__law_far_right fun cdv A out s H E hg hr => (d_seq (d_par (i := 1) (j := 2) (by rfl) sc__law_far_right.nd rfl rfl (by decide) rfl rfl (d_cons (d_callW (G_law_road T) hg (hr.mono (by decide)) (by rfl) T.g__law_road T.F__law_road.kp T.b__law_road passG (d_cons (d_var (pv 0)) (d_cons d_int (d_cons d_int d_nil)))) (d_cons (d_bin o_add d_int (d_callW (G_law_next T) hg (hr.mono (by decide)) (by rfl) T.g__law_next T.F__law_next.kp T.b__law_next passG (d_cons (d_var (pv 0)) (d_cons d_int d_nil)))) d_nil)) (by rfl))
 (d_seq (d_asg (d_tup (d_cons (d_bin o_add (d_ix (d_var (pv 1)) d_int (fun _ _ => rfl)) (d_tup (d_cons (d_bin o_add d_int (d_callW (G_law_next T) hg (hr.mono (by decide)) (by rfl) T.g__law_next T.F__law_next.kp T.b__law_next passG (d_cons (d_var (pv 0)) (d_cons d_int d_nil)))) d_nil))) (d_cons (d_bin o_add d_int (d_callW (G_law_next T) hg (hr.mono (by decide)) (by rfl) T.g__law_next T.F__law_next.kp T.b__law_next passG (d_cons (d_var (pv 0)) (d_cons d_int d_nil)))) d_nil))) (d_gtup rfl (d_gcons (d_gn (pg_name (i := 3) sc__law_far_right.nd rfl (.inr rfl))) (d_gcons (d_gn (pg_name (i := 4) sc__law_far_right.nd rfl (.inl rfl))) d_gnil))))
 (d_cut (d_if (d_tcmp o_gt (d_callB c_len (by rfl) T.z_len (by decide +kernel) (d_cons (d_var (pv 3)) d_nil)) d_int (nomark _))
 (d_last (d_set (i := 3) sc__law_far_right.nd rfl (.inr rfl) (d_slice (d_var (pv 3)) (d_part d_int) d_noP)))
 d_end)
 (d_seq (d_set (i := 5) sc__law_far_right.nd rfl (.inl rfl) (d_slice (d_lc (own := [("_law_group", 6)]) (g := (gName 6)) (st := (st1 6)) lct1 (by rfl) sc__law_far_right.nd (d_iseq (d_callW (G_law_groups T) hg (hr.mono (by decide)) (by rfl) T.g__law_groups T.F__law_groups.kp T.b__law_groups passG (d_cons (d_var (pv 2)) (d_cons (d_ix (d_var (pv 3)) (d_un u_neg d_int) (fun _ _ => rfl)) d_nil)))) (blkOk_by (own := [("_law_group", 6)]) (N := N__law_far_right) (sc := defScope s__law_far_right) (by decide +kernel)) (fun _ _ _ _ _ => (pg_name (i := 6) sc__law_far_right.nd rfl (.inl rfl))) (fun _ _ _ _ _ => d_tnil) (fun _ _ _ _ _ => (d_bin o_add (d_bin o_mul (d_tup (d_cons (d_tup d_nil) d_nil)) (d_bin o_sub (d_callB c_len (by rfl) T.z_len (by decide +kernel) (d_cons (d_var (pv 3)) d_nil)) d_int)) (d_tup (d_cons (d_var (pv 6)) d_nil))))) d_noP (d_part (d_var (pv 4)))))
 (d_last (d_ret (d_cmp (o_ieq hr.units) (d_callB (c_irepr hg hr.units) (by rfl) T.z_repr (by decide +kernel) (d_cons (d_call 0 (G_law_first T) hg hr (by rfl) T.g__law_first T.F__law_first.kp T.b__law_first passG (d_cons (d_tup (d_cons (d_ix (d_var (pv 1)) d_int (fun _ _ => rfl)) (d_cons (d_ix (d_var (pv 1)) d_int (fun _ _ => rfl)) (d_cons (d_var (pv 3)) d_nil)))) (d_cons (d_var (pv 2)) (d_cons (d_callB c_len (by rfl) T.z_len (by decide +kernel) (d_cons (d_var (pv 5)) d_nil)) d_nil)))) d_nil)) (d_callB (c_irepr hg hr.units) (by rfl) T.z_repr (by decide +kernel) (d_cons (d_var (pv 5)) d_nil)) (nomark _))))))))
theorem G_law (T : Tx K mg) : Rb.FnG P w K mg base CX0 9 T.f_law T.fd_law ["_law_script"] (spF (ct0 K mg) F_law_k26) := by
  unfold F_law_k26
  exact
   d_fn T.F_law sc_law fun cdv A out s H E hg hr => (d_seq (d_set (i := 1) sc_law.nd rfl (.inl rfl) (d_callW (G_law_draws T) hg (hr.mono (by decide)) (by rfl) T.g__law_draws T.F__law_draws.kp T.b__law_draws passG (d_cons (d_var (pv 0)) d_nil)))
 (d_seq (d_for PassesOwn.never rfl (d_rng1 (by rfl) T.z_range (d_cons d_int d_nil)) (d_gn (pg_name (i := 2) sc_law.nd rfl (.inl rfl)))
 (d_seq (d_asg (d_callW (G_law_small T) hg (hr.mono (by decide)) (by rfl) T.g__law_small T.F__law_small.kp T.b__law_small passG (d_cons (d_var (pv 1)) (d_cons d_int d_nil))) (d_gunl rfl (d_gcons (d_gn (pg_name (i := 3) sc_law.nd rfl (.inl rfl))) (d_gcons (d_gn (pg_name (i := 4) sc_law.nd rfl (.inl rfl))) d_gnil))))
 (d_seq (d_par (i := 5) (j := 6) (by rfl) sc_law.nd rfl rfl (by decide) rfl rfl (d_cons (d_callB (c_irepr hg hr.units) (by rfl) T.z_repr (by decide +kernel) (d_cons (d_var (pv 3)) d_nil)) (d_cons (d_call 0 (G_law_plans T) hg (hr.mono (by decide)) (by rfl) T.g__law_plans T.F__law_plans.kp T.b__law_plans passG (d_cons (d_var (pv 3)) (d_cons (d_var (pv 4)) d_nil))) d_nil)) (by rfl))
 (d_seq (d_if (PW.pt (d_or (d_tcmp (o_ine hr.units) (d_callB (c_irepr hg hr.units) (by rfl) T.z_repr (by decide +kernel) (d_cons (d_listG (lv := 3) (pgen_callN (ct_calm rfl) (G_each_plan T) (hr.mono (by decide)) (by rfl) T.g_each_plan T.F_each_plan.kp T.b_each_plan (d_cons (d_var (pv 3)) (d_cons (d_var (pv 4)) d_nil))) passL noStopE0 (hr.mono (by decide)) (by rfl) T.z_list (by decide +kernel)) d_nil)) (d_callB (c_irepr hg hr.units) (by rfl) T.z_repr (by decide +kernel) (d_cons (d_var (pv 6)) d_nil)) (nomark _)) (d_or1 (d_tcmp (o_ine hr.units) (d_callB (c_irepr hg hr.units) (by rfl) T.z_repr (by decide +kernel) (d_cons (d_var (pv 3)) d_nil)) (d_var (pv 5)) (nomark _)))))
 (d_last (d_ret d_bl))
 d_end)
 (d_seq (d_if (PW.pt (d_or (d_tcmp (o_ine hr.units) (d_callB (c_irepr hg hr.units) (by rfl) T.z_repr (by decide +kernel) (d_cons (d_call 0 (G_law_first T) hg (hr.mono (by decide)) (by rfl) T.g__law_first T.F__law_first.kp T.b__law_first passG (d_cons (d_var (pv 3)) (d_cons (d_var (pv 4)) (d_cons d_int d_nil)))) d_nil)) (d_callB (c_irepr hg hr.units) (by rfl) T.z_repr (by decide +kernel) (d_cons (d_slice (d_var (pv 6)) d_noP (d_part d_int)) d_nil)) (nomark _)) (d_or1 (d_not (d_tval (d_callW (G_law_two T) hg (hr.mono (by decide)) (by rfl) T.g__law_two T.F__law_two.kp T.b__law_two passG (d_cons (d_var (pv 3)) (d_cons (d_var (pv 4)) d_nil))))))))
 (d_last (d_ret d_bl))
 d_end)
 (d_last (d_if (d_not (d_tval (d_callW (G_law_far_right T) hg hr (by rfl) T.g__law_far_right T.F__law_far_right.kp T.b__law_far_right passG (d_cons (d_var (pv 1)) d_nil))))
 (d_last (d_ret d_bl))
 d_end)))))))
 (d_seq (d_set (i := 7) sc_law.nd rfl (.inl rfl) (d_tup (d_cons d_int (d_cons d_int (d_cons (d_tup (d_cons d_int (d_cons d_int d_nil))) d_nil)))))
 (d_seq (d_if (d_tcmp (o_ine hr.units) (d_callB (c_irepr hg hr.units) (by rfl) T.z_repr (by decide +kernel) (d_cons (d_listG (lv := 3) (pgen_callN (ct_calm rfl) (G_each_plan T) (hr.mono (by decide)) (by rfl) T.g_each_plan T.F_each_plan.kp T.b_each_plan (d_cons (d_var (pv 7)) (d_cons d_int d_nil))) passL noStopE0 (hr.mono (by decide)) (by rfl) T.z_list (by decide +kernel)) d_nil)) (d_callB (c_irepr hg hr.units) (by rfl) T.z_repr (by decide +kernel) (d_cons (d_call 0 (G_law_plans T) hg (hr.mono (by decide)) (by rfl) T.g__law_plans T.F__law_plans.kp T.b__law_plans passG (d_cons (d_var (pv 7)) (d_cons d_int d_nil))) d_nil)) (nomark _))
 (d_last (d_ret d_bl))
 d_end)
 (d_last (d_ret (d_cmp (o_ieq hr.units) (d_listG (lv := 3) (pgen_callN (ct_calm rfl) (G_each_plan T) (hr.mono (by decide)) (by rfl) T.g_each_plan T.F_each_plan.kp T.b_each_plan (d_cons (d_tup (d_cons d_int (d_cons d_int (d_cons (d_tup (d_cons d_int (d_cons d_int d_nil))) d_nil)))) (d_cons d_int d_nil))) passL noStopE0 (hr.mono (by decide)) (by rfl) T.z_list (by decide +kernel)) (d_lst (d_cons (d_tup (d_cons (d_tup d_nil) (d_cons (d_tup d_nil) d_nil))) d_nil)) (nomark _))))))))
end
end Pu
namespace Gm
/-! ## sums over sets of people, and the step of the rule -/
def sumP (P : Nat → Bool) (f : Nat → Int) : Nat → Int
  | 0 => 0
  | n + 1 => sumP P f n + if P n = true then f n else 0
def card (P : Nat → Bool) (n : Nat) : Int := sumP P (fun _ => 1) n
def upP (P : Nat → Bool) (j : Nat) (b : Bool) : Nat → Bool := fun i => if i = j then b else P i
theorem sumP_congr {P P' : Nat → Bool} {f f' : Nat → Int} : ∀ {n : Nat}, (∀ i, i < n → P i = P' i) → (∀ i, i < n → P i = true → f i = f' i) → sumP P f n = sumP P' f' n
  | 0, _, _ => rfl
  | n + 1, h, h2 => by
    show sumP P f n + (if P n = true then f n else 0) = sumP P' f' n + (if P' n = true then f' n else 0)
    rw [sumP_congr (n := n) (fun i hi => h i (by omega)) (fun i hi => h2 i (by omega)), h n (by omega)]
    by_cases c : P' n = true
    · rw [if_pos c, if_pos c, h2 n (by omega) (by rw [h n (by omega)]; exact c)]
    · rw [if_neg c, if_neg c]
theorem sumP_le {P P' : Nat → Bool} {f f' : Nat → Int} : ∀ {n : Nat}, (∀ i, i < n → (if P i = true then f i else 0) ≤ (if P' i = true then f' i else 0)) → sumP P f n ≤ sumP P' f' n
  | 0, _ => Int.le_refl _
  | n + 1, h => by
    have a := sumP_le (n := n) (P := P) (P' := P') (f := f) (f' := f') fun i hi => h i (by omega)
    have b := h n (by omega)
    show sumP P f n + (if P n = true then f n else 0) ≤ sumP P' f' n + (if P' n = true then f' n else 0)
    omega
theorem sumP_up {P : Nat → Bool} {f : Nat → Int} {j : Nat} {b : Bool} : ∀ {n : Nat}, j < n → sumP (upP P j b) f n = sumP P f n - (if P j = true then f j else 0) + (if b = true then f j else 0)
  | 0, h => absurd h (Nat.not_lt_zero _)
  | n + 1, h => by
    show sumP (upP P j b) f n + (if upP P j b n = true then f n else 0) = (sumP P f n + (if P n = true then f n else 0)) - _ + _
    by_cases e : j = n
    · subst e
      have e1 : sumP (upP P j b) f j = sumP P f j := sumP_congr (fun i hi => by unfold upP; rw [if_neg (by omega)]) fun _ _ _ => rfl
      have e2 : upP P j b j = b := by unfold upP; rw [if_pos rfl]
      rw [e1, e2]
      omega
    · have e2 : upP P j b n = P n := by unfold upP; rw [if_neg (by omega)]
      rw [sumP_up (n := n) (by omega), e2]
      omega
/-! ## the room of some stages -/
end Gm
namespace Pu
open PySem L2
theorem ifT {b : Bool} {P Q : Prop} (h : b = true) (p : P) : if b = true then P else Q := by rw [if_pos h]; exact p
theorem ifF {b : Bool} {P Q : Prop} (h : b = false) (p : Q) : if b = true then P else Q := by rw [h, if_neg Bool.false_ne_true]; exact p
theorem ifB {b : Bool} {P Q : Prop} (h1 : b = true → P) (h2 : b = false → Q) : if b = true then P else Q := by
  cases b with
  | true => exact ifT rfl (h1 rfl)
  | false => exact ifF rfl (h2 rfl)
theorem onS {α : Type} {o : Option α} {a : α} {k : α → Prop} (h : o = some a) (p : k a) : onSome o k := by rw [h]; exact p
/-! ## numbers in a range, any value -/
/-! ## the deck -/
def deckS (cs : List Int) (n : Int) : Sto := [.lst (cs.map D.int), .lst [.cell 0, .int n]]
def Dk (S : Sto) (N : Int) (T : Sto) : Prop := ∃ cs n, S = deckS cs n ++ T ∧ cs.length ≤ 63 ∧ (∀ x ∈ cs, 0 ≤ x) ∧ 0 ≤ n ∧ n ≤ N
theorem Dk.le {S : Sto} {N M : Int} {T : Sto} (h : Dk S N T) (e : N ≤ M) : Dk S M T := by
  obtain ⟨cs, n, h1, h2, h3, h4, h5⟩ := h
  exact ⟨cs, n, h1, h2, h3, h4, by omega⟩
/-- a comprehension whose element changes nothing -/
theorem comp_map {st : D → Rho → Option Rho} {f : FE} {src : Src} {k : List D → Sto → Prop} {S : Sto} {ρ : Rho} {g : D → D} (hsrc : ∀ P : Prop, P → srcOk src S P) : ∀ (xs acc : List D), (∀ x ∈ xs, ∃ ρ1, st x ρ = some ρ1 ∧ ∀ Q : QD, Q (g x) S → f ρ1 S Q noE) → k (acc ++ xs.map g) S → dCompL st dYes f src xs acc ρ S k
  | [], acc, _, h => by rw [List.map_nil, List.append_nil] at h; exact h
  | x :: xs, acc, hx, h => by
    obtain ⟨ρ1, e, hf⟩ := hx x List.mem_cons_self
    refine onS e ?_
    refine ifT (b := true) (Q := srcOk src S (dCompL st dYes f src xs acc ρ S k)) rfl ?_
    refine hf _ (hsrc _ (comp_map hsrc xs _ (fun y hy => hx y (List.mem_cons_of_mem _ hy)) ?_))
    rw [List.append_assoc]
    exact h
def absI (i : Int) : Int := if i < 0 then -i else i
theorem absI_nn (i : Int) : 0 ≤ absI i := by unfold absI; split <;> omega
end Pu
namespace Pu
open PySem L2
/-- a loop by an invariant -/
theorem for_inv {g : FG} {fb : FS} {src : Src} {De : DEnds} {Ed : ED} {ρ : Rho} {S : Sto} (xs : List D) (I : Nat → Rho → Sto → Prop) (h0 : I 0 ρ S)
    (hs : ∀ (i : Nat) (x : D) (ρ : Rho) (S : Sto) (K : Rho → Sto → Prop), xs[i]? = some x → (∀ ρ' S', I (i + 1) ρ' S' → K ρ' S') → I i ρ S → g x ρ S (fun ρ1 S1 => fb ρ1 S1 ⟨K, De.rt, De.nx, K⟩ Ed) Ed)
    (hd : ∀ ρ S, I xs.length ρ S → De.nx ρ S) (hsrc : ∀ i ρ S, I i ρ S → ∀ P : Prop, P → srcOk src S P := by intro _ _ _ _ _ p; exact p) : dLoop g fb src xs ρ S De Ed := by
  have go : ∀ (m n : Nat) (ρ : Rho) (S : Sto), n + m = xs.length → I n ρ S → dLoop g fb src (xs.drop n) ρ S De Ed := by
    intro m
    induction m with
    | zero =>
      intro n ρ S e h
      have : n = xs.length := by omega
      subst this
      rw [List.drop_length]
      exact hd ρ S h
    | succ m ih =>
      intro n ρ S e h
      have hlt : n < xs.length := by omega
      have hx := List.getElem?_eq_getElem hlt
      rw [drop_cons hx]
      exact hs n _ ρ S _ hx (fun ρ' S' h' => hsrc _ _ _ h' _ (ih (n + 1) ρ' S' (by omega) h')) h
  exact go xs.length 0 ρ S (by omega) h0
theorem rangeD_len {lo : Int} {n : Nat} : (rangeD lo n).length = n := by unfold rangeD; rw [List.length_map, List.length_range]
theorem for_rng {g : FG} {fb : FS} {De : DEnds} {Ed : ED} {ρ : Rho} {S : Sto} (lo : Int) (n : Nat) (I : Nat → Rho → Sto → Prop) (h0 : I 0 ρ S)
    (hs : ∀ (i : Nat) (ρ : Rho) (S : Sto) (K : Rho → Sto → Prop), i < n → (∀ ρ' S', I (i + 1) ρ' S' → K ρ' S') → I i ρ S → g (.int (lo + (i : Int))) ρ S (fun ρ1 S1 => fb ρ1 S1 ⟨K, De.rt, De.nx, K⟩ Ed) Ed)
    (hd : ∀ ρ S, I n ρ S → De.nx ρ S) : dLoop g fb [] (rangeD lo n) ρ S De Ed := by
  refine for_inv (rangeD lo n) I h0 (fun i x ρ S K hx hK hI => ?_) (fun ρ S h => hd ρ S (by rw [rangeD_len] at h; exact h))
  obtain ⟨h1, rfl⟩ := rangeD_get hx
  exact hs i ρ S K h1 hK hI
theorem pick3 {α : Type} {x y z : α} {r : Int} (h0 : 0 ≤ r) (h1 : r < 3) : ∃ v, atI [x, y, z] r = some v ∧ (v = x ∨ v = y ∨ v = z) := by
  rcases (by omega : r = 0 ∨ r = 1 ∨ r = 2) with rfl | rfl | rfl
  · exact ⟨x, rfl, .inl rfl⟩
  · exact ⟨y, rfl, .inr (.inl rfl)⟩
  · exact ⟨z, rfl, .inr (.inr rfl)⟩
theorem pick3i {x y z r : Int} (h0 : 0 ≤ r) (h1 : r < 3) : ∃ v : Int, atI [D.int x, D.int y, D.int z] r = some (.int v) ∧ (v = x ∨ v = y ∨ v = z) := by
  obtain ⟨v, e, rfl | rfl | rfl⟩ := pick3 (x := D.int x) (y := D.int y) (z := D.int z) h0 h1
  · exact ⟨x, e, .inl rfl⟩
  · exact ⟨y, e, .inr (.inl rfl)⟩
  · exact ⟨z, e, .inr (.inr rfl)⟩
theorem szd {n : Nat} (h : n ≤ 100000) : n ≤ sizeLine := Rb.sz_le h
def roadV (wk rd : Int) (bs : List Int) : D := .tup [.int wk, .int rd, .tup (bs.map .int)]
end Pu
namespace Pu
open PySem L2
theorem szr {n : Nat} (h : Nat.ble n 100000 = true) : n ≤ sizeLine := szd (Nat.le_of_ble_eq_true h)
/-! ## any value, of a bounded size -/
structure Av (k n : Nat) (d : D) : Prop where
  py : ∃ p, toPy d = some p ∧ Rb.Nice k n p
  kn : known d = true
abbrev Avs (k n : Nat) (ds : List D) : Prop := ∀ d ∈ ds, Av k n d
theorem Av.some {k n : Nat} {d : D} (h : Av k n d) : (toPy d).isSome = true := by
  obtain ⟨p, e, _⟩ := h.py
  rw [e]
  rfl
theorem Av.mono {k n k' n' : Nat} {d : D} (h : Av k n d) (h1 : k ≤ k') (h2 : n ≤ n') : Av k' n' d := by
  obtain ⟨p, e, hn⟩ := h.py
  exact ⟨⟨p, e, hn.mono h1 h2⟩, h.kn⟩
theorem Av.int {i : Int} (h : i.natAbs < 10 ^ 99) : Av 0 0 (.int i) := ⟨⟨_, rfl, Rb.Nice.int h⟩, rfl⟩
theorem Av.non : Av 0 0 .non := ⟨⟨_, rfl, Rb.Nice.none⟩, rfl⟩
theorem Av.bl {b : Bool} : Av 0 0 (.bl b) := ⟨⟨_, rfl, Rb.Nice.bool⟩, rfl⟩
theorem avs_py {k n : Nat} : ∀ {ds : List D}, Avs k n ds → (∃ ps, toPyAll ds = some ps ∧ ps.length = ds.length ∧ ∀ p ∈ ps, Rb.Nice k n p) ∧ knownAll ds = true
  | [], _ => ⟨⟨[], rfl, rfl, fun _ z => nomatch z⟩, rfl⟩
  | d :: ds, h => by
    obtain ⟨⟨ps, e, hl, hn⟩, hk⟩ := avs_py (ds := ds) fun x hx => h x (List.mem_cons_of_mem _ hx)
    obtain ⟨⟨p, e1, h1⟩, k1⟩ := h d List.mem_cons_self
    refine ⟨⟨p :: ps, ?_, by rw [List.length_cons, List.length_cons, hl], fun q hq => ?_⟩, ?_⟩
    · show (toPy d).bind (fun p => (toPyAll ds).map (p :: ·)) = _
      rw [e1, e]
      rfl
    · rcases List.mem_cons.mp hq with rfl | hq
      · exact h1
      · exact hn q hq
    · show (known d && knownAll ds) = true
      rw [k1, hk]
      rfl
theorem Av.tup {k n m : Nat} {ds : List D} (h : Avs k n ds) (hm : ds.length * (n + 1) ≤ m) : Av (k + 1) m (.tup ds) := by
  obtain ⟨⟨ps, e, hl, hn⟩, hk⟩ := avs_py h
  refine ⟨⟨.tuple ps, ?_, Rb.Nice.tup hn (by rw [hl]; exact hm)⟩, hk⟩
  show (toPyAll ds).map PyData.tuple = _
  rw [e]
  rfl
theorem Av.lst {k n m : Nat} {ds : List D} (h : Avs k n ds) (hm : ds.length * (n + 1) ≤ m) : Av (k + 1) m (.lst true ds) := by
  obtain ⟨⟨ps, e, hl, hn⟩, hk⟩ := avs_py h
  refine ⟨⟨.list ps, ?_, Rb.Nice.lst hn (by rw [hl]; exact hm)⟩, hk⟩
  show (toPyAll ds).map PyData.list = _
  rw [e]
  rfl
theorem Avs.nil {k n : Nat} : Avs k n [] := fun _ z => nomatch z
theorem Avs.cons {k n : Nat} {d : D} {ds : List D} (h : Av k n d) (t : Avs k n ds) : Avs k n (d :: ds) := fun x hx => by
  rcases List.mem_cons.mp hx with rfl | hx
  · exact h
  · exact t x hx
theorem Avs.app {k n : Nat} {ds es : List D} (h : Avs k n ds) (t : Avs k n es) : Avs k n (ds ++ es) := fun x hx => by
  rcases List.mem_append.mp hx with hx | hx
  · exact h x hx
  · exact t x hx
theorem Avs.ints {ns : List Int} (h : ∀ i ∈ ns, i.natAbs < 10 ^ 99) : Avs 0 0 (ns.map D.int) := fun x hx => by
  obtain ⟨i, hi, rfl⟩ := List.mem_map.mp hx
  exact Av.int (h i hi)
theorem Avs.mono {k n k' n' : Nat} {ds : List D} (h : Avs k n ds) (h1 : k ≤ k') (h2 : n ≤ n') : Avs k' n' ds := fun x hx => (h x hx).mono h1 h2
theorem Avs.rep {k n m : Nat} {ds : List D} (h : Avs k n ds) : Avs k n (List.replicate m ds).flatten := fun x hx => by
  obtain ⟨l, hl, hx⟩ := List.mem_flatten.mp hx
  rw [(List.mem_replicate.mp hl).2] at hx
  exact h x hx
/-! ## odd values -/
end Pu
namespace Pu
open PySem L2 Rb
/-! ## people, plans -/
def natsV (r : List Nat) : List D := r.map fun p : Nat => D.int (p : Int)
def ridersV (r : List Nat) : D := .tup (natsV r)
def planV (plan : List (List Nat)) : D := .tup (plan.map ridersV)
def nI (r : List Nat) : List Int := r.map fun p : Nat => (p : Int)
theorem natsV_eq (r : List Nat) : natsV r = (nI r).map D.int := by unfold natsV nI; rw [List.map_map]; rfl
theorem nI_len (r : List Nat) : (nI r).length = r.length := by unfold nI; rw [List.length_map]
theorem natsV_len (r : List Nat) : (natsV r).length = r.length := by unfold natsV; rw [List.length_map]
theorem nI_toNat (r : List Nat) : (nI r).map Int.toNat = r := by
  unfold nI
  rw [List.map_map]
  have : (Int.toNat ∘ fun p : Nat => (p : Int)) = id := funext fun p => Int.toNat_natCast p
  rw [this, List.map_id]
structure PlanPre (bikes : List Int) (n : Nat) (plan : List (List Nat)) : Prop where
  asc : ∀ r ∈ plan, r.Pairwise (· < ·)
  lt : ∀ r ∈ plan, ∀ p ∈ r, p < n
  few : ∀ i, i < plan.length → (plan.getD i []).length ≤ (bikes.getD i 0).toNat + (brM plan i).length
theorem getD_app {α : Type} {l m : List α} {i : Nat} {d : α} (h : i < l.length) : (l ++ m).getD i d = l.getD i d := by
  rw [List.getD_eq_getElem?_getD, List.getD_eq_getElem?_getD, List.getElem?_append_left h]
theorem PlanPre.ok {bikes : List Int} {n : Nat} {plan : List (List Nat)} (h : PlanPre bikes n plan) (hl : plan.length = bikes.length) (hn : ∀ b ∈ bikes, 0 ≤ b) : PlanOk bikes n plan := by
  refine ⟨hl, hn, h.asc, h.lt, fun i => ?_⟩
  by_cases hi : i < plan.length
  · have := h.few i hi
    have e : (brM plan i).length = if i = 0 then 0 else (plan.getD (i - 1) []).length := by
      unfold brM
      split <;> rfl
    rw [← e]
    exact this
  · rw [List.getD_eq_getElem?_getD, List.getElem?_eq_none (by omega)]
    exact Nat.zero_le _
/-! what is below -/
theorem below_ints {k : Nat} : ∀ (ns : List Int), belowAll k (ns.map D.int) = true
  | [] => rfl
  | n :: ns => below_ints ns
theorem set_last {A : Sto} {c d : Cl} : (A ++ [c]).set A.length d = A ++ [d] := by
  rw [List.set_append_right _ _ (Nat.le_refl _), Nat.sub_self]
  rfl
theorem Dk.len {S : Sto} {N : Int} {T : Sto} (h : Dk S N T) : S.length = 2 + T.length := by
  obtain ⟨cs, n, rfl, _⟩ := h
  rw [List.length_append]
  rfl
theorem Dk.take2 {S : Sto} {N : Int} {T : Sto} (h : Dk S N T) : Dk (S.take 2) N [] ∧ S.drop 2 = T ∧ (S.take 2).all (Cl.below 2) = true ∧ (S.take 2).length = 2 := by
  obtain ⟨cs, n, rfl, h⟩ := h
  refine ⟨⟨cs, n, rfl, h⟩, rfl, ?_, rfl⟩
  show (belowAll 2 (cs.map D.int) && ((true && (true && true)) && true)) = true
  rw [below_ints]
  rfl
end Pu
namespace Pu
open PySem L2 Rb
def tupLe (k : Nat) : D → Bool
  | .tup xs => Nat.ble xs.length k
  | _ => true
def smallD (k : Nat) : D → Bool
  | .tup vs => vs.all (tupLe k)
  | _ => true
theorem tupLe_tup {k : Nat} {xs : List D} (h : xs.length ≤ k) : tupLe k (.tup xs) = true := Nat.ble_eq_true_of_le h
/-- an item of a plan -/
structure Ri (d : D) : Prop where
  av : Av 3 1000 d
  le : tupLe 60 d = true
structure Ok2 (d : D) : Prop where
  av : Av 5 40000 d
  sm : smallD 60 d = true
theorem Ri.tup {ds : List D} (h : Avs 2 20 ds) (hl : ds.length ≤ 40) : Ri (.tup ds) := ⟨Av.tup h (by omega), tupLe_tup (by omega)⟩
theorem Ri.lst {ds : List D} (h : Avs 2 20 ds) (hl : ds.length ≤ 40) : Ri (.lst true ds) := ⟨Av.lst h (by omega), rfl⟩
theorem Ok2.tup {ds : List D} (h : ∀ d ∈ ds, Ri d) (hl : ds.length ≤ 30) : Ok2 (.tup ds) := ⟨(Av.tup (k := 3) (n := 1000) (m := 40000) (fun d hd => (h d hd).av) (by omega)).mono (by decide) (by decide), List.all_eq_true.mpr fun d hd => (h d hd).le⟩
theorem Ok2.lst {ds : List D} (h : ∀ d ∈ ds, Ri d) (hl : ds.length ≤ 30) : Ok2 (.lst true ds) := ⟨(Av.lst (k := 3) (n := 1000) (m := 40000) (fun d hd => (h d hd).av) (by omega)).mono (by decide) (by decide), rfl⟩
end Pu
namespace Pu
open PySem L2 Rb
theorem nI_mem {r : List Nat} {p : Nat} : (p : Int) ∈ nI r ↔ p ∈ r := by
  unfold nI
  constructor
  · intro h
    obtain ⟨q, hq, e⟩ := List.mem_map.mp h
    have : q = p := by omega
    exact this ▸ hq
  · intro h
    exact List.mem_map.mpr ⟨p, h, rfl⟩
end Pu
namespace Pu
open PySem L2 Rb
theorem cut_to {xs : List D} {m : Nat} : cutD xs none (some (m : Int)) = xs.take m := by
  unfold cutD
  have h1 : HT.sIx xs.length 0 none = 0 := HT.sIx_none ..
  have h2 : HT.sIx xs.length xs.length (some (m : Int)) = min m xs.length := HT.sIx_nat ..
  rw [h1, h2, List.drop_zero, Nat.sub_zero]
  by_cases h : m ≤ xs.length
  · rw [Nat.min_eq_left h]
  · rw [Nat.min_eq_right (by omega), List.take_length, List.take_of_length_le (by omega)]
end Pu
namespace Pu
open PySem L2 Rb
/-! ## parts of a road -/
theorem getD_take {α : Type} {l : List α} {i k : Nat} {d : α} (h : i < k) : (l.take k).getD i d = l.getD i d := by
  rw [List.getD_eq_getElem?_getD, List.getD_eq_getElem?_getD, List.getElem?_take_of_lt h]
theorem PlanOk.take {bs : List Int} {n k : Nat} {plan : List (List Nat)} (ok : PlanOk bs n plan) (hk : k ≤ bs.length) : PlanOk (bs.take k) n (plan.take k) := by
  refine ⟨by rw [List.length_take, List.length_take, ok.len], fun b h => ok.nn b (List.mem_of_mem_take h), fun r h => ok.asc r (List.mem_of_mem_take h), fun r h => ok.lt r (List.mem_of_mem_take h), fun i => ?_⟩
  by_cases h : i < k
  · rw [getD_take h, getD_take h]
    have := ok.few i
    by_cases z : i = 0
    · rw [if_pos z] at this ⊢
      exact this
    · rw [if_neg z] at this ⊢
      rw [getD_take (by omega)]
      exact this
  · have : (plan.take k).getD i [] = [] := by
      rw [List.getD_eq_getElem?_getD, List.getElem?_eq_none (by rw [List.length_take]; omega)]
      rfl
    rw [this]
    exact Nat.zero_le _
/-! ## no tick is below 0: the bicycles that stand there come first -/
end Pu
namespace Pu
open PySem L2 Rb
/-! ## all ticks moved by one growing map: shifts and multiples -/
structure Grow (f : Int → Int) : Prop where
  lt : ∀ a b, a < b → f a < f b
  nn : ∀ t, 0 ≤ t → 0 ≤ f t
section
variable {f : Int → Int} (G : Grow f)
include G
theorem Grow.le {a b : Int} (h : a ≤ b) : f a ≤ f b := by
  rcases Int.lt_or_eq_of_le h with h | h
  · exact Int.le_of_lt (G.lt a b h)
  · rw [h]; exact Int.le_refl _
end
end Pu
namespace Pu
open PySem L2 Rb
/-! ## one road behind the other -/
theorem getD_right {α : Type} {l m : List α} {i : Nat} {d : α} : (l ++ m).getD (l.length + i) d = m.getD i d := by
  rw [List.getD_eq_getElem?_getD, List.getD_eq_getElem?_getD, List.getElem?_append_right (by omega), Nat.add_sub_cancel_left]
section
variable {wk rd : Int} {bs bs2 starts : List Int} {plan plan2 : List (List Nat)}
theorem PlanOk.join {n : Nat} (ok : PlanOk bs n plan) (ok2 : PlanOk bs2 n plan2) : PlanOk (bs ++ bs2) n (plan ++ plan2) := by
  have hl := ok.len
  refine ⟨by rw [List.length_append, List.length_append, ok.len, ok2.len], fun b h => ?_, fun r h => ?_, fun r h => ?_, fun i => ?_⟩
  · rcases List.mem_append.mp h with h | h
    · exact ok.nn b h
    · exact ok2.nn b h
  · rcases List.mem_append.mp h with h | h
    · exact ok.asc r h
    · exact ok2.asc r h
  · rcases List.mem_append.mp h with h | h
    · exact ok.lt r h
    · exact ok2.lt r h
  · by_cases h : i < bs.length
    · rw [getD_app (by omega), getD_app h]
      have := ok.few i
      by_cases z : i = 0
      · rw [if_pos z] at this ⊢
        exact this
      · rw [if_neg z] at this ⊢
        rw [getD_app (by omega)]
        exact this
    · obtain ⟨j, rfl⟩ : ∃ j, i = bs.length + j := ⟨i - bs.length, by omega⟩
      have e : (plan ++ plan2).getD (bs.length + j) [] = plan2.getD j [] := by rw [← hl]; exact getD_right
      rw [e, getD_right]
      have := ok2.few j
      by_cases z : j = 0
      · rw [if_pos z] at this
        omega
      · rw [if_neg z] at this
        rw [if_neg (by omega)]
        have e2 : bs.length + j - 1 = plan.length + (j - 1) := by omega
        rw [e2, getD_right]
        exact this
end
end Pu
namespace Pu
open PySem L2 Rb
structure RoadOk (wk rd : Int) (bs : List Int) : Prop where
  rd1 : 1 ≤ rd
  lt : rd < wk
  w2 : wk ≤ 1000
  l1 : 1 ≤ bs.length
  l2 : bs.length ≤ 12
  hb : ∀ b ∈ bs, 0 ≤ b ∧ b ≤ 12
end Pu
namespace Pu
open PySem L2 Rb
theorem RoadOk.take {wk rd : Int} {bs : List Int} (h : RoadOk wk rd bs) {k : Nat} (h1 : 1 ≤ k) : RoadOk wk rd (bs.take k) :=
  ⟨h.rd1, h.lt, h.w2, by rw [List.length_take]; have := h.l1; omega, by rw [List.length_take]; have := h.l2; omega, fun b hb => h.hb b (List.mem_of_mem_take hb)⟩
end Pu
namespace Pu
open PySem L2 Rb
theorem below_roadV {k : Nat} {wk rd : Int} {bs : List Int} : below k (roadV wk rd bs) = true := by
  show (true && (true && (belowAll k (bs.map D.int) && true))) = true
  rw [below_ints]
  rfl
theorem Dk.app {S T : Sto} {N : Int} (h : Dk S N []) : Dk (S ++ T) N T := by
  obtain ⟨cs, n, rfl, h⟩ := h
  exact ⟨cs, n, by rw [List.append_nil], h⟩
theorem Dk.l2 {S T S1 : Sto} {N : Int} (h : Dk S N T) (l : S1.length = 2) : S1.length = (S.take 2).length := l.trans h.take2.2.2.2.symm
theorem Dk.back {S T S1 : Sto} {N M : Int} (h : Dk S N T) (d : Dk S1 M []) : Dk (S1 ++ S.drop 2) M T := by
  rw [h.take2.2.1]
  exact d.app
end Pu
namespace Pu
open PySem L2 Rb
/-! ## texts of small signs -/
def Fine (x : Str) : Prop := ∀ c ∈ x.cps.toList, c < 1114112
theorem app_cps (a b : Str) : (a ++ b).cps.toList = a.cps.toList ++ b.cps.toList := by
  show (a.cps ++ b.cps).toList = _
  exact Array.toList_append
theorem Fine.app {a b : Str} (ha : Fine a) (hb : Fine b) : Fine (a ++ b) := fun c hc => by
  rw [app_cps] at hc
  rcases List.mem_append.mp hc with h | h
  · exact ha c h
  · exact hb c h
theorem fine_of {x : Str} (h : x.cps.toList.all (fun c => decide (c < 1114112)) = true) : Fine x := fun c hc => of_decide_eq_true (List.all_eq_true.mp h c hc)
theorem fine_join {sep : Str} (hs : Fine sep) : ∀ {ts : List Str}, (∀ t ∈ ts, Fine t) → Fine (Str.join sep ts)
  | [], _ => fine_of rfl
  | [x], h => h x List.mem_cons_self
  | x :: y :: r, h => by
    show Fine (x ++ sep ++ Str.join sep (y :: r))
    exact ((h x List.mem_cons_self).app hs).app (fine_join hs fun t ht => h t (List.mem_cons_of_mem _ ht))
theorem fine_from : ∀ (ts : List Str) (k : Nat) (acc : Str), Fine acc → (∀ t ∈ ts, Fine t) → Fine (textFrom k acc ts)
  | [], _, acc, ha, _ => ha
  | t :: ts, k, acc, ha, h => by
    show Fine (textFrom (k + 1) (acc ++ (if k > 0 then ", " else "" : String) ++ t) ts)
    refine fine_from ts (k + 1) _ ((ha.app ?_).app (h t List.mem_cons_self)) fun x hx => h x (List.mem_cons_of_mem _ hx)
    split
    · exact fine_of (by decide)
    · exact fine_of (by decide)
theorem fine_int (i : Int) : Fine (PyData.int i).shown := fun c hc => by
  by_cases h : c < 1114112
  · exact h
  · exact absurd hc (PyProof.Rows.shown_int_free' ⟨by omega, by omega⟩ i)
theorem fine_list {ts : List Str} (h : ∀ t ∈ ts, Fine t) : Fine (listText ts) := (fine_from ts 0 _ (fine_of (by decide)) h).app (fine_of (by decide))
theorem fine_tuple {ts : List Str} (h : ∀ t ∈ ts, Fine t) : Fine (tupleText ts) := by
  unfold tupleText
  refine ((fine_of (by decide)).app (fine_join (fine_of (by decide)) h)).app ?_
  split
  · exact fine_of (by decide)
  · exact fine_of (by decide)
/-! ## repr and == of values without dicts -/
structure RepP (k n : Nat) (p : PyData) : Prop where
  nice : Rb.Nice k n p
  nod : p.hasDict = false
  lay : PyData.canLay0 p = true
  fine : Fine p.shown
structure Rep (k n : Nat) (d : D) : Prop where
  py : ∃ p, toPy d = some p ∧ RepP k n p
theorem RepP.mono {k n k' n' : Nat} {p : PyData} (h : RepP k n p) (h1 : k ≤ k') (h2 : n ≤ n') : RepP k' n' p := ⟨h.nice.mono h1 h2, h.nod, h.lay, h.fine⟩
theorem Rep.mono {k n k' n' : Nat} {d : D} (h : Rep k n d) (h1 : k ≤ k') (h2 : n ≤ n') : Rep k' n' d := by
  obtain ⟨p, e, hp⟩ := h.py
  exact ⟨p, e, hp.mono h1 h2⟩
theorem Rep.int {i : Int} (h1 : -1000000000000 ≤ i) (h2 : i ≤ 1000000000000) : Rep 0 0 (.int i) := ⟨_, rfl, Rb.Nice.int (Nat.lt_of_lt_of_le (show i.natAbs < 10000000000000 by omega) (by decide)), rfl, rfl, fine_int i⟩
theorem Rep.non : Rep 0 0 .non := ⟨_, rfl, Rb.Nice.none, rfl, rfl, fine_of (by decide)⟩
theorem Rep.bl {b : Bool} : Rep 0 0 (.bl b) := ⟨_, rfl, Rb.Nice.bool, rfl, rfl, by cases b <;> exact fine_of (by decide)⟩
theorem Rep.str {x : Str} {n : Nat} (h : x.cps.size ≤ n) (hx : ∀ c ∈ x.cps.toList, c < 16 ^ 8) (ho : PyData.canLay0 (.str x) = true) (hf : Fine (PyData.str x).shown) : Rep 0 n (.str x) := ⟨_, rfl, Rb.Nice.str h hx, rfl, ho, hf⟩
theorem reps_py {k n : Nat} : ∀ {ds : List D}, (∀ d ∈ ds, Rep k n d) → ∃ ps, toPyAll ds = some ps ∧ ps.length = ds.length ∧ (∀ p ∈ ps, Rb.Nice k n p) ∧ PyData.hasDictAll ps = false ∧ PyData.canLayAll0 ps = true ∧ ∀ t ∈ PyData.shownAll ps, Fine t
  | [], _ => ⟨[], rfl, rfl, (fun _ z => nomatch z), rfl, rfl, fun _ z => nomatch z⟩
  | d :: ds, h => by
    obtain ⟨p, e, hn, hd, hc, hf⟩ := (h d List.mem_cons_self).py
    obtain ⟨ps, e2, hl, hn2, hd2, hc2, hf2⟩ := reps_py (ds := ds) fun x hx => h x (List.mem_cons_of_mem _ hx)
    refine ⟨p :: ps, ?_, congrArg Nat.succ hl, fun q hq => ?_, ?_, ?_, fun t ht => ?_⟩
    · show (toPy d).bind _ = _
      rw [e, e2]
      rfl
    · rcases List.mem_cons.mp hq with rfl | hq
      · exact hn
      · exact hn2 q hq
    · simp only [PyData.hasDictAll, hd, hd2, Bool.or_self]
    · simp only [PyData.canLayAll0, hc, hc2, Bool.and_self]
    · rcases List.mem_cons.mp (show t ∈ p.shown :: PyData.shownAll ps from ht) with rfl | ht
      · exact hf
      · exact hf2 t ht
theorem Rep.tup {k n m : Nat} {ds : List D} (h : ∀ d ∈ ds, Rep k n d) (hm : ds.length * (n + 1) ≤ m) : Rep (k + 1) m (.tup ds) := by
  obtain ⟨ps, e, hl, hn, hd, hc, hf⟩ := reps_py h
  refine ⟨.tuple ps, ?_, Rb.Nice.tup hn (by rw [hl]; exact hm), ?_, ?_, ?_⟩
  · show (toPyAll ds).map PyData.tuple = _
    rw [e]
    rfl
  · simp only [PyData.hasDict, hd]
  · simp only [PyData.canLay0, hc]
  · simp only [PyData.shown]
    exact fine_tuple hf
theorem Rep.lst {k n m : Nat} {b : Bool} {ds : List D} (h : ∀ d ∈ ds, Rep k n d) (hm : ds.length * (n + 1) ≤ m) : Rep (k + 1) m (.lst b ds) := by
  obtain ⟨ps, e, hl, hn, hd, hc, hf⟩ := reps_py h
  refine ⟨.list ps, ?_, Rb.Nice.lst hn (by rw [hl]; exact hm), ?_, ?_, ?_⟩
  · show (toPyAll ds).map PyData.list = _
    rw [e]
    rfl
  · simp only [PyData.hasDict, hd]
  · simp only [PyData.canLay0, hc]
  · simp only [PyData.shown]
    exact fine_list hf
theorem Rep.ints {ns : List Int} {m : Nat} (h : ∀ i ∈ ns, -1000000000000 ≤ i ∧ i ≤ 1000000000000) (hm : ns.length ≤ m) : Rep 1 m (.tup (ns.map D.int)) :=
  Rep.tup (k := 0) (n := 0) (fun d hd => by
    obtain ⟨i, hi, rfl⟩ := List.mem_map.mp hd
    exact Rep.int (h i hi).1 (h i hi).2) (by rw [List.length_map]; omega)
theorem Rep.road {wk rd : Int} {bs : List Int} (R : RoadOk wk rd bs) : Rep 2 39 (roadV wk rd bs) := by
  have h1 := R.rd1
  have h2 := R.lt
  have h3 := R.w2
  refine Rep.tup (k := 1) (n := 12) (fun d hd => ?_) (Nat.le_of_ble_eq_true rfl)
  simp only [List.mem_cons, List.not_mem_nil, or_false] at hd
  rcases hd with rfl | rfl | rfl
  · exact (Rep.int (by omega) (by omega)).mono (by decide) (by decide)
  · exact (Rep.int (by omega) (by omega)).mono (by decide) (by decide)
  · exact Rep.ints (fun i hi => by have := R.hb i hi; omega) R.l2
theorem Rep.two {a b : D} {k n m : Nat} {f : Bool} (ha : Rep k n a) (hb : Rep k n b) (hm : 2 * (n + 1) ≤ m) : Rep (k + 1) m (.lst f [a, b]) :=
  Rep.lst (fun d hd => by
    simp only [List.mem_cons, List.not_mem_nil, or_false] at hd
    rcases hd with rfl | rfl
    · exact ha
    · exact hb) hm
def shw (d : D) : Str := match toPy d with
  | some p => p.shown
  | none => ""
theorem repr_ok {d : D} {S : Sto} {Q : QD} {k n : Nat} (h : Rep k n d) (q : Q (.str (shw d)) S) (hk : k ≤ 20 := by decide) (hn : n ≤ 100000 := by decide) : iRepr [d] S Q := by
  refine iRepr_of ?_
  obtain ⟨p, e, hp⟩ := (h.mono hk hn).py
  refine onS e ⟨⟨hp.nice, .inl hp.nod⟩, ?_⟩
  unfold shw at q
  rw [e] at q
  exact q
theorem eqB_ok {neg : Bool} {x y : D} {S : Sto} {Q : QD} {p q : PyData} (h1 : pyC S x = some p) (h2 : pyC S y = some q) (s1 : SeqAt.shaped p = true) (s2 : SeqAt.shaped q = true) (r : Q (.bl (nb neg (PyData.eqv p q))) S) : iEqB neg x y S Q := by
  refine iEqB_of ?_
  unfold gEqB
  split
  · cases h1
    cases h2
    rename_i i j
    have e : PyData.eqv (.int i) (.int j) = decide (i = j) := by simp only [PyData.eqv]; by_cases h : i = j <;> simp [h]
    rw [e] at r
    exact r
  · cases h1
    cases h2
    rename_i i j
    have e : PyData.eqv (.str i) (.str j) = decide (i = j) := by simp only [PyData.eqv]; by_cases h : i = j <;> simp [h]
    rw [e] at r
    exact r
  · exact onS h1 (onS h2 ⟨⟨s1, s2⟩, r⟩)
theorem pyC_of {S : Sto} {d : D} {p : PyData} (h : toPy d = some p) : pyC S d = some p := by
  cases d with
  | cell n => cases h
  | _ => exact h
/-- what == can be asked of -/
structure Shp (k : Nat) (d : D) : Prop where
  py : ∃ p, toPy d = some p ∧ PyData.canLay0 p = true ∧ p.depth ≤ k
theorem Shp.mono {k k' : Nat} {d : D} (h : Shp k d) (h1 : k ≤ k') : Shp k' d := by
  obtain ⟨p, e, h2, h3⟩ := h.py
  exact ⟨p, e, h2, Nat.le_trans h3 h1⟩
theorem Shp.str {x : Str} (h : Fine x) : Shp 0 (.str x) := by
  refine ⟨_, rfl, ?_, Nat.le_refl _⟩
  show PyData.strOk x = true
  unfold PyData.strOk
  rw [← Array.all_toList, List.all_eq_true]
  intro c hc
  exact decide_eq_true (h c hc)
theorem shps_py {k : Nat} : ∀ {ds : List D}, (∀ d ∈ ds, Shp k d) → ∃ ps, toPyAll ds = some ps ∧ PyData.canLayAll0 ps = true ∧ PyData.depthAll ps ≤ k
  | [], _ => ⟨[], rfl, rfl, Nat.zero_le _⟩
  | d :: ds, h => by
    obtain ⟨p, e, hc, hd⟩ := (h d List.mem_cons_self).py
    obtain ⟨ps, e2, hc2, hd2⟩ := shps_py (ds := ds) fun x hx => h x (List.mem_cons_of_mem _ hx)
    refine ⟨p :: ps, ?_, ?_, ?_⟩
    · show (toPy d).bind _ = _
      rw [e, e2]
      rfl
    · simp only [PyData.canLayAll0, hc, hc2, Bool.and_self]
    · simp only [PyData.depthAll]
      exact Nat.max_le.mpr ⟨hd, hd2⟩
theorem Shp.lst {k : Nat} {b : Bool} {ds : List D} (h : ∀ d ∈ ds, Shp k d) : Shp (k + 1) (.lst b ds) := by
  obtain ⟨ps, e, hc, hd⟩ := shps_py h
  refine ⟨.list ps, ?_, ?_, ?_⟩
  · show (toPyAll ds).map PyData.list = _
    rw [e]
    rfl
  · simp only [PyData.canLay0, hc]
  · simp only [PyData.depth]
    omega
theorem Shp.tup {k : Nat} {ds : List D} (h : ∀ d ∈ ds, Shp k d) : Shp (k + 1) (.tup ds) := by
  obtain ⟨ps, e, hc, hd⟩ := shps_py h
  refine ⟨.tuple ps, ?_, ?_, ?_⟩
  · show (toPyAll ds).map PyData.tuple = _
    rw [e]
    rfl
  · simp only [PyData.canLay0, hc]
  · simp only [PyData.depth]
    omega
theorem Shp.int {i : Int} : Shp 0 (.int i) := ⟨_, rfl, rfl, Nat.le_refl _⟩
theorem Shp.sh {k : Nat} {d : D} (h : Shp k d) (hk : k ≤ 64) : ∃ p, toPy d = some p ∧ SeqAt.shaped p = true ∧ PyData.canLay0 p = true := by
  obtain ⟨p, e, hc, hd⟩ := h.py
  refine ⟨p, e, ?_, hc⟩
  unfold SeqAt.shaped
  rw [hc, decide_eq_true (Nat.le_trans hd hk)]
  rfl
end Pu
namespace Pu
open PySem L2 Rb
/-! ## the latest people -/
def ordM (ticks : List Int) : List (Int × Int) := srtP (ticks.mapIdx fun p t => (-t, (p : Int)))
def grM (ticks : List Int) (c : Nat) : List Nat := (srt (((ordM ticks).take c).map (·.2))).map Int.toNat
theorem tickAt_get {ticks : List Int} {p : Nat} {t : Int} (h : ticks[p]? = some t) : tickAt ticks p = t := by
  unfold tickAt
  rw [List.getD_eq_getElem?_getD, h]
  rfl
theorem ord_len (ticks : List Int) : (ordM ticks).length = ticks.length := by
  unfold ordM
  rw [srtP_len, List.length_mapIdx]
theorem ord_mem {ticks : List Int} {z : Int × Int} : z ∈ ordM ticks ↔ ∃ p : Nat, p < ticks.length ∧ z = (-(tickAt ticks p), (p : Int)) := by
  unfold ordM
  rw [(srtP_perm _).mem_iff]
  constructor
  · intro h
    obtain ⟨p, hp, e⟩ := List.getElem_of_mem h
    rw [List.length_mapIdx] at hp
    rw [List.getElem_mapIdx] at e
    exact ⟨p, hp, by rw [tickAt_get (List.getElem?_eq_getElem hp)]; exact e.symm⟩
  · rintro ⟨p, hp, rfl⟩
    rw [tickAt_get (List.getElem?_eq_getElem hp)]
    refine List.mem_of_getElem? (i := p) ?_
    rw [List.getElem?_mapIdx, List.getElem?_eq_getElem hp]
    rfl
theorem take_snd {ticks : List Int} {c : Nat} {y : Int} (h : y ∈ ((ordM ticks).take c).map (·.2)) : ∃ p : Nat, p < ticks.length ∧ y = (p : Int) := by
  obtain ⟨z, hz, rfl⟩ := List.mem_map.mp h
  obtain ⟨p, hp, rfl⟩ := ord_mem.mp (List.mem_of_mem_take hz)
  exact ⟨p, hp, rfl⟩
theorem nI_toNat_of {l : List Int} (h : ∀ y ∈ l, ∃ p : Nat, y = (p : Int)) : nI (l.map Int.toNat) = l := by
  unfold nI
  rw [List.map_map]
  have e : ∀ y ∈ l, ((fun p : Nat => (p : Int)) ∘ Int.toNat) y = y := fun y hy => by
    obtain ⟨p, rfl⟩ := h y hy
    rfl
  rw [List.map_congr_left e, List.map_id']
theorem nI_grM {ticks : List Int} {c : Nat} : nI (grM ticks c) = srt (((ordM ticks).take c).map (·.2)) :=
  nI_toNat_of fun y hy => by
    obtain ⟨p, _, e⟩ := take_snd ((srt_perm _).mem_iff.mp hy)
    exact ⟨p, e⟩
end Pu
namespace Pu
open PySem L2 Rb
/-! ## two cells at the end of the store -/
/-! ## the law's own way to the latest people -/
def mkp (ticks : List Int) (p : Nat) : Int × Int := (-(tickAt ticks p), (p : Int))
theorem filter_asc {lf : List Nat} {f : Nat → Bool} (h : lf.Pairwise (· < ·)) {b : Nat} {rest : List Nat} (e : lf.filter f = b :: rest) : b ∈ lf ∧ f b = true ∧ ∀ q ∈ lf, f q = true → b ≤ q := by
  have hm : b ∈ lf.filter f := by rw [e]; exact List.mem_cons_self
  obtain ⟨h1, h2⟩ := List.mem_filter.mp hm
  refine ⟨h1, h2, fun q hq hf => ?_⟩
  have hq2 : q ∈ lf.filter f := List.mem_filter.mpr ⟨hq, hf⟩
  have hp := h.filter f
  rw [e] at hp hq2
  rcases List.mem_cons.mp hq2 with rfl | hq2
  · exact Nat.le_refl _
  · exact Nat.le_of_lt ((List.pairwise_cons.mp hp).1 q hq2)
theorem next_best {ticks : List Int} {lf : List Nat} {j b : Nat} {rest : List Nat} (asc : lf.Pairwise (· < ·)) (pm : (lf.map (mkp ticks)).Perm ((ordM ticks).drop j)) (ne : lf ≠ []) (e : lf.filter (fun k => decide (tickAt ticks k = maxL (lf.map (tickAt ticks)))) = b :: rest) :
    (ordM ticks)[j]? = some (mkp ticks b) ∧ (ordM ticks).drop j = mkp ticks b :: (ordM ticks).drop (j + 1) ∧ b ∈ lf := by
  obtain ⟨h1, h2, h3⟩ := filter_asc asc e
  have h2 : tickAt ticks b = maxL (lf.map (tickAt ticks)) := of_decide_eq_true h2
  obtain ⟨m1, m2⟩ := maxL_spec (ns := lf.map (tickAt ticks)) (by simpa using ne)
  have ln := least_next (k := j) (m := mkp ticks b) (srtP_sorted _) pm (List.mem_map.mpr ⟨b, h1, rfl⟩) fun q hq => by
    obtain ⟨p, hp, rfl⟩ := List.mem_map.mp hq
    have hle := m2 (tickAt ticks p) (List.mem_map.mpr ⟨p, hp, rfl⟩)
    show -(tickAt ticks b) < -(tickAt ticks p) ∨ (-(tickAt ticks b) = -(tickAt ticks p) ∧ (b : Int) ≤ (p : Int))
    by_cases et : tickAt ticks p = tickAt ticks b
    · exact .inr ⟨by omega, by have := h3 p hp (decide_eq_true (by omega)); omega⟩
    · exact .inl (by omega)
  exact ⟨ln.1, ln.2, h1⟩
end Pu
namespace Pu
open PySem L2 Rb
/-- what the loop has chosen -/
structure Chosen (ticks : List Int) (c : Nat) (lf rs : List Nat) : Prop where
  asc : lf.Pairwise (· < ·)
  lt : ∀ p ∈ lf, p < ticks.length
  pm : (lf.map (mkp ticks)).Perm ((ordM ticks).drop rs.length)
  sel : nI rs = ((ordM ticks).take rs.length).map (·.2)
  le : rs.length ≤ c
theorem Chosen.start {ticks : List Int} {c : Nat} : Chosen ticks c (List.range ticks.length) [] where
  asc := List.pairwise_lt_range
  lt := fun p hp => List.mem_range.mp hp
  pm := by
    rw [List.length_nil, List.drop_zero]
    have e : (List.range ticks.length).map (mkp ticks) = ticks.mapIdx fun p t => (-t, (p : Int)) := by
      apply List.ext_getElem?
      intro i
      rw [List.getElem?_map, List.getElem?_mapIdx]
      by_cases hi : i < ticks.length
      · rw [List.getElem?_range hi, List.getElem?_eq_getElem hi]
        show some (-(tickAt ticks i), (i : Int)) = some (-ticks[i], (i : Int))
        rw [tickAt_get (List.getElem?_eq_getElem hi)]
      · rw [List.getElem?_eq_none (by rw [List.length_range]; omega), List.getElem?_eq_none (by omega)]
        rfl
    rw [e]
    exact (srtP_perm _).symm
  sel := rfl
  le := Nat.zero_le _
theorem Chosen.len {ticks : List Int} {c : Nat} {lf rs : List Nat} (h : Chosen ticks c lf rs) : lf.length + rs.length = ticks.length := by
  have h1 := h.pm.length_eq
  have h2 := congrArg List.length h.sel
  rw [List.length_map, List.length_drop, ord_len] at h1
  rw [nI_len, List.length_map, List.length_take, ord_len] at h2
  omega
theorem Chosen.next {ticks : List Int} {c : Nat} {lf rs : List Nat} (h : Chosen ticks c lf rs) {b j : Nat} {rest : List Nat} (hc : rs.length < c) (ne : lf ≠ []) (e : lf.filter (fun k => decide (tickAt ticks k = maxL (lf.map (tickAt ticks)))) = b :: rest) (hj : lf[j]? = some b) : Chosen ticks c (lf.eraseIdx j) (rs ++ [b]) := by
  obtain ⟨o1, o2, o3⟩ := next_best h.asc h.pm ne e
  have el : (rs ++ [b]).length = rs.length + 1 := by rw [List.length_append]; rfl
  refine ⟨h.asc.sublist (List.eraseIdx_sublist ..), fun p hp => h.lt p (List.mem_of_mem_eraseIdx hp), ?_, ?_, by omega⟩
  · rw [el]
    have hp := h.pm
    rw [o2] at hp
    have e1 : (lf.map (mkp ticks)).eraseIdx j = (lf.eraseIdx j).map (mkp ticks) := by
      clear hp o1 o2 o3 e ne el
      clear h
      induction lf generalizing j with
      | nil => simp
      | cons x l ih =>
        cases j with
        | zero => rfl
        | succ j => exact congrArg _ (ih hj)
    rw [← e1]
    exact erase_next (by rw [List.getElem?_map, hj]; rfl) hp
  · rw [el, List.take_add_one, o1, List.map_append, ← h.sel]
    unfold nI
    rw [List.map_append]
    rfl
theorem Chosen.done {ticks : List Int} {c : Nat} {lf rs : List Nat} (h : Chosen ticks c lf rs) (hd : lf = [] ∨ c ≤ rs.length) : nI rs = ((ordM ticks).take c).map (·.2) := by
  have hl := h.len
  have hle := h.le
  rw [h.sel]
  rcases hd with rfl | hd
  · have : rs.length = ticks.length := by simpa using hl
    rw [List.take_of_length_le (by rw [ord_len]; omega), List.take_of_length_le (by rw [ord_len]; omega)]
  · rw [show rs.length = c by omega]
theorem Chosen.sorted {ticks : List Int} {c : Nat} {lf rs : List Nat} (h : Chosen ticks c lf rs) (hd : lf = [] ∨ c ≤ rs.length) : srt (nI rs) = nI (grM ticks c) := by rw [h.done hd, nI_grM]
theorem Chosen.mem {ticks : List Int} {c : Nat} {lf rs : List Nat} (h : Chosen ticks c lf rs) (hd : lf = [] ∨ c ≤ rs.length) {p : Nat} : p ∈ rs ↔ p ∈ grM ticks c := by
  rw [← nI_mem, ← nI_mem (r := grM ticks c), ← h.sorted hd, (srt_perm _).mem_iff]
end Pu
namespace Pu
open PySem L2 Rb Gm
/-! ## if no people exclude an end, the rule keeps it -/
theorem card_mem {n : Nat} : ∀ {r : List Nat}, r.Nodup → (∀ p ∈ r, p < n) → card (fun i => decide (i ∈ r)) n = r.length
  | [], _, _ => by
    have e : card (fun i => decide (i ∈ ([] : List Nat))) n = sumP (fun _ => false) (fun _ => 1) n := sumP_congr (fun i _ => by simp) fun _ _ _ => rfl
    rw [e]
    have z : ∀ m, sumP (fun _ => false) (fun _ => 1) m = 0 := fun m => by
      induction m with
      | zero => rfl
      | succ m ih => show sumP (fun _ => false) (fun _ => 1) m + (if false = true then 1 else 0) = 0; rw [ih]; rfl
    exact z n
  | a :: r, nd, h => by
    obtain ⟨n1, n2⟩ := List.nodup_cons.mp nd
    have ih := card_mem n2 fun p hp => h p (List.mem_cons_of_mem _ hp)
    have e : card (fun i => decide (i ∈ a :: r)) n = card (upP (fun i => decide (i ∈ r)) a true) n := sumP_congr (fun i _ => by
      unfold upP
      by_cases c : i = a
      · rw [if_pos c, c]
        simp
      · rw [if_neg c]
        simp [c]) fun _ _ _ => rfl
    rw [e]
    unfold card at ih ⊢
    rw [sumP_up (h a List.mem_cons_self), ih, decide_eq_false n1]
    simp
end Pu
namespace Pu
open PySem L2 Rb Gm
/-! ## nobody waits under the rule -/
theorem len_le_of {n : Nat} {l m : List Nat} (h1 : l.Nodup) (h2 : m.Nodup) (h3 : ∀ p ∈ m, p < n) (h : ∀ p ∈ l, p ∈ m) : l.length ≤ m.length := by
  have a := card_mem h1 fun p hp => h3 p (h p hp)
  have b := card_mem h2 h3
  have c : card (fun i => decide (i ∈ l)) n ≤ card (fun i => decide (i ∈ m)) n := sumP_le fun i _ => by
    by_cases hi : i ∈ l
    · rw [if_pos (decide_eq_true hi), if_pos (decide_eq_true (h i hi))]
      exact Int.le_refl _
    · rw [if_neg (by simpa using hi)]
      split <;> decide
  omega
end Pu
namespace Pu
open PySem L2 Rb Gm
theorem cut_from {xs : List D} {m : Nat} : cutD xs (some (m : Int)) none = xs.drop m := by
  unfold cutD
  have h1 : HT.sIx xs.length xs.length none = xs.length := HT.sIx_none ..
  have h2 : HT.sIx xs.length 0 (some (m : Int)) = min m xs.length := HT.sIx_nat ..
  rw [h1, h2]
  by_cases h : m ≤ xs.length
  · rw [Nat.min_eq_left h, List.take_of_length_le (by rw [List.length_drop]; omega)]
  · rw [Nat.min_eq_right (by omega), List.drop_length, List.drop_of_length_le (by omega)]
    simp
theorem PlanOk.set {bs : List Int} {n : Nat} {plan : List (List Nat)} {sp : Nat} {r r' : List Nat} (ok : PlanOk bs n plan) (hr : plan[sp]? = some r) (h1 : r'.Pairwise (· < ·)) (h2 : ∀ p ∈ r', p < n) (h3 : r'.length = r.length) : PlanOk bs n (plan.set sp r') := by
  have el : ∀ i, ((plan.set sp r').getD i []).length = (plan.getD i []).length := fun i => by
    rw [List.getD_eq_getElem?_getD, List.getD_eq_getElem?_getD, List.getElem?_set]
    split
    · rename_i e
      subst e
      rw [hr, if_pos (List.getElem?_eq_some_iff.mp hr).1]
      exact h3
    · rfl
  refine ⟨by rw [List.length_set]; exact ok.len, ok.nn, fun x hx => ?_, fun x hx => ?_, fun i => ?_⟩
  · rcases List.mem_or_eq_of_mem_set hx with h | rfl
    · exact ok.asc x h
    · exact h1
  · rcases List.mem_or_eq_of_mem_set hx with h | rfl
    · exact ok.lt x h
    · exact h2
  · rw [el, el]
    exact ok.few i
end Pu
namespace Pu
open PySem L2 Rb Gm
/-! ## the other draws: a state of cells and rests -/
def stateS (cs rs : List Int) (n : Int) : Sto := [.lst (rs.map D.int), .lst [.lst false (cs.map D.int), .int n, .cell 0]]
def Nk (S : Sto) (N : Int) (T : Sto) : Prop := ∃ cs rs n, S = stateS cs rs n ++ T ∧ 1 ≤ cs.length ∧ cs.length ≤ 64 ∧ rs.length = cs.length ∧ (∀ x ∈ cs, 0 ≤ x) ∧ (∀ x ∈ rs, 0 ≤ x) ∧ 0 ≤ n ∧ n ≤ N
theorem Nk.le {S : Sto} {N M : Int} {T : Sto} (h : Nk S N T) (e : N ≤ M) : Nk S M T := by
  obtain ⟨cs, rs, n, h1, h2, h3, h4, h5, h6, h7, h8⟩ := h
  exact ⟨cs, rs, n, h1, h2, h3, h4, h5, h6, h7, by omega⟩
theorem next_ok {S T : Sto} {N lim : Int} {Q : QD} {E : ED} (h : Nk S N T) (hN : N ≤ 1000000) (h1 : 1 ≤ lim) (h2 : lim ≤ 1000000000) (q : ∀ r S', 0 ≤ r → r < lim → Nk S' (N + 1) T → Q (.int r) S') : F_law_next [.cell 1, .int lim] S Q E := by
  obtain ⟨cs, rs, n, rfl, c1, c2, hl, hc, hr, n0, n1⟩ := h
  unfold F_law_next
  have cml : (cs.map D.int).length = cs.length := List.length_map ..
  have y0 : 0 ≤ n % ((cs.map D.int).length : Int) := Int.emod_nonneg _ (by omega)
  have y1 : n % ((cs.map D.int).length : Int) < ((cs.map D.int).length : Int) := Int.emod_lt_of_pos _ (by omega)
  obtain ⟨j, hj⟩ : ∃ j : Nat, n % ((cs.map D.int).length : Int) = (j : Int) := ⟨_, (Int.toNat_of_nonneg y0).symm⟩
  rw [hj] at y0 y1
  have jc : j < cs.length := by omega
  have jr : j < rs.length := by omega
  have ar : atI (rs.map D.int) (n % ((cs.map D.int).length : Int)) = some (.int rs[j]) := by
    rw [hj]
    exact atI_nat (j := j) (by rw [List.getElem?_map, List.getElem?_eq_getElem jr]; rfl)
  have ac : atI (cs.map D.int) (n % ((cs.map D.int).length : Int)) = some (.int cs[j]) := by
    rw [hj]
    exact atI_nat (j := j) (by rw [List.getElem?_map, List.getElem?_eq_getElem jc]; rfl)
  have rj0 := hr _ (List.getElem_mem jr)
  have cj0 := hc _ (List.getElem_mem jc)
  refine ⟨rfl, rfl, by show 0 < ((cs.map D.int).length : Int); omega, ?_⟩
  refine onS ar ?_
  refine ifB (fun hb => ?_) fun hb => ?_
  · refine onS ar ⟨by show 0 < lim; omega, onS ar ⟨wide_div (b := 30) (by omega) (by omega) (by decide) (by decide), onS (a := j) ?_ ?_⟩⟩
    · show ixN (rs.map D.int).length (n % ((cs.map D.int).length : Int)) = some j
      rw [hj]
      unfold ixN
      rw [if_pos (by omega), if_pos (by rw [List.length_map]; omega), Int.toNat_natCast]
    · have em : (rs.map D.int).set j (D.int (rs[j] / lim)) = (rs.set j (rs[j] / lim)).map D.int := List.map_set.symm
      show Q (.int (rs[j] % lim)) (Cl.lst ((rs.map D.int).set j (D.int (rs[j] / lim))) :: Cl.lst [.lst false (cs.map D.int), .int (n + 1), .cell 0] :: T)
      rw [em]
      refine q _ _ (Int.emod_nonneg _ (by omega)) (Int.emod_lt_of_pos _ (by omega)) ⟨cs, rs.set j (rs[j] / lim), n + 1, rfl, c1, c2, by rw [List.length_set]; exact hl, hc, fun x hx => ?_, by omega, by omega⟩
      rcases List.mem_or_eq_of_mem_set hx with z | rfl
      · exact hr x z
      · exact Int.ediv_nonneg rj0 (by omega)
  · refine onS ac ?_
    generalize cs[j] = x at cj0
    have a1 := Int.emod_nonneg x (show (2147483629 : Int) ≠ 0 by decide)
    have a2 := Int.emod_lt_of_pos x (show (0 : Int) < 2147483629 by decide)
    have fin : ∀ m : Int, 0 ≤ m → Q (.int (m % lim)) (stateS cs rs (n + 1) ++ T) := fun m _ => q _ _ (Int.emod_nonneg _ (by omega)) (Int.emod_lt_of_pos _ (by omega)) ⟨cs, rs, n + 1, rfl, c1, c2, hl, hc, hr, by omega, by omega⟩
    refine ⟨by show (0 : Int) < _; decide, .inl (.inl ⟨by decide, by decide⟩), ⟨by decide, by decide, ?_⟩, by show (0 : Int) < _; decide, ?_⟩
    · show (x % 2147483629 + 40037 * n + 9203).natAbs < 2 ^ 64
      omega
    show gN 7 (D.int ((x % 2147483629 + 40037 * n + 9203) ^ (3 : Int).toNat % 2147483587)) _ _ _ _
    generalize hm1 : (x % 2147483629 + 40037 * n + 9203) ^ (3 : Int).toNat % 2147483587 = mm
    have b1 : 0 ≤ mm := by rw [← hm1]; exact Int.emod_nonneg _ (by decide)
    have b2 : mm < 2147483587 := by rw [← hm1]; exact Int.emod_lt_of_pos _ (by decide)
    have sq : 0 ≤ 5039 * n * n ∧ 5039 * n * n ≤ 5039000000 * 1000000 := ⟨Int.mul_nonneg (by omega) n0, Int.mul_le_mul (by omega) (by omega) n0 (by decide)⟩
    refine ⟨.inl (.inl ⟨by decide, by decide⟩), .inl (.inr ⟨by omega, by omega⟩), ⟨by decide, by decide, ?_⟩, by show (0 : Int) < _; decide, ?_⟩
    · show (mm + 5039 * n * n + 43).natAbs < 2 ^ 64
      generalize 5039 * n * n = s at sq
      omega
    show gN 7 (D.int ((mm + 5039 * n * n + 43) ^ (3 : Int).toNat % 2147483563)) _ _ _ _
    generalize hm2 : (mm + 5039 * n * n + 43) ^ (3 : Int).toNat % 2147483563 = m2
    have d1 : 0 ≤ m2 := by rw [← hm2]; exact Int.emod_nonneg _ (by decide)
    have d2 : m2 < 2147483563 := by rw [← hm2]; exact Int.emod_lt_of_pos _ (by decide)
    refine ⟨.inl (.inl ⟨by omega, by omega⟩), by show (0 : Int) < _; decide, wide_div (b := 30) (by decide) (by decide) (by decide) (by decide), by show 0 < lim; omega, ?_⟩
    exact fin _ (Int.ediv_nonneg (Int.emod_nonneg _ (by decide)) (by decide))
end Pu
namespace Pu
open PySem L2 Rb Gm
def restD : D → D
  | .int c => .int (c * if decide (10 ^ 18 ≤ c) = true then 1 else 0)
  | d => d
theorem state_ok {ns : List Int} {Q : QD} {E : ED} (q : ∀ S, Nk S 0 [] → Q (.cell 1) S) : F_law_draws [.kls (ns.map D.int)] [] Q E := by
  unfold F_law_draws
  refine ⟨rfl, ?_⟩
  have e : cutD (ns.map D.int) none (some 63) = (ns.take 63).map D.int := by
    rw [show (63 : Int) = ((63 : Nat) : Int) from rfl, cut_to, List.map_take]
  show (cutD (ns.map D.int) none (some 63)).length ≤ sizeLine ∧ dCompL (st1 2) dYes (dB gAbs (dCons (dVar 2) dNil)) [] (cutD (ns.map D.int) none (some 63)) [] _ [] _
  rw [e]
  refine ⟨szd (by rw [List.length_map, List.length_take]; omega), ?_⟩
  refine comp_map (src := []) (g := fun d => match d with | .int i => .int (absI i) | d => d) (fun _ p => p) _ [] ?_ ?_
  · intro x hx
    obtain ⟨i, _, rfl⟩ := List.mem_map.mp hx
    exact ⟨_, rfl, fun Q q => q⟩
  rw [List.nil_append, List.map_map]
  have ea : (ns.take 63).map ((fun d => match d with | .int i => .int (absI i) | d => d) ∘ D.int) = ((ns.take 63).map absI).map D.int := by
    rw [List.map_map]
    rfl
  rw [ea]
  have al : ((ns.take 63).map absI).length ≤ 63 := by rw [List.length_map, List.length_take]; omega
  have an : ∀ x ∈ (ns.take 63).map absI, 0 ≤ x := fun x hx => by
    obtain ⟨i, _, rfl⟩ := List.mem_map.mp hx
    exact absI_nn i
  have a0 : ns.length ≠ 0 → 1 ≤ ((ns.take 63).map absI).length := fun h => by rw [List.length_map, List.length_take]; omega
  generalize (ns.take 63).map absI = as at al an a0
  refine ⟨szr rfl, eq_int ?_⟩
  have kl : (ns.map D.int).length = ns.length := List.length_map ..
  have fin : ∀ cs : List Int, 1 ≤ cs.length → cs.length ≤ 64 → (∀ x ∈ cs, 0 ≤ x) → (dRet (dLstC (dCons (dVar 1) (dCons (dC (.int 0)) (dCons (dLcC (st1 2) dYes (dBin gMul (dVar 2) (dB gToInt (dCons (dBin gGe (dVar 2) (dBin gPow (dC (.int 10)) (dC (.int 18)))) dNil))) (dItS (dVar 1))) dNil))))) [some (.kls (ns.map D.int)), some (.lst false (cs.map D.int)), none] [] { nx := fun _ S' => Q .non S', rt := Q, bk := fun _ _ => False, ct := fun _ _ => False } noE := fun cs c1 c2 hc => by
    refine ⟨szd (by show (cs.map D.int).length ≤ 100000; rw [List.length_map]; omega), comp_map (src := []) (g := restD) (fun _ p => p) (cs.map D.int) [] (fun x hx => ?_) ⟨szr rfl, ?_⟩⟩
    · obtain ⟨c, hcm, rfl⟩ := List.mem_map.mp hx
      refine ⟨_, rfl, fun Q' q' => ⟨⟨by decide, by decide, by decide⟩, ⟨.inl (.inr ?_), q'⟩⟩⟩
      show -2 ^ 64 < (if decide ((10 : Int) ^ (18 : Int).toNat ≤ c) = true then (1 : Int) else 0) ∧ (if decide ((10 : Int) ^ (18 : Int).toNat ≤ c) = true then (1 : Int) else 0) < 2 ^ 64
      split <;> decide
    · refine q _ ⟨cs, cs.map fun c => c * if decide ((10 : Int) ^ 18 ≤ c) = true then 1 else 0, 0, ?_, c1, c2, by rw [List.length_map], hc, fun x hx => ?_, by decide, by decide⟩
      · show [Cl.lst _, Cl.lst _] = [Cl.lst _, Cl.lst _]
        rw [List.nil_append, List.map_map, List.map_map]
        rfl
      · obtain ⟨c, hcm, rfl⟩ := List.mem_map.mp hx
        have := hc c hcm
        show 0 ≤ c * if decide ((10 : Int) ^ 18 ≤ c) = true then 1 else 0
        split <;> omega
  by_cases z : ns.length = 0
  · have ez : decide (((ns.map D.int).length : Int) = 0) = true := decide_eq_true (by omega)
    rw [ez]
    refine ⟨⟨by decide, by decide, szr rfl⟩, szd (by show (as.map D.int).length + 1 ≤ 100000; rw [List.length_map]; omega), ?_⟩
    have f := fin (as ++ [0]) (by rw [List.length_append]; simp) (by rw [List.length_append]; simp; omega) fun x hx => by
      rcases List.mem_append.mp hx with h | h
      · exact an x h
      · rw [List.mem_singleton.mp h]
        exact Int.le_refl _
    rw [List.map_append] at f
    exact f
  · have ez : decide (((ns.map D.int).length : Int) = 0) = false := decide_eq_false (by omega)
    rw [ez]
    refine ⟨⟨by decide, by decide, szr rfl⟩, szd (by show (as.map D.int).length + 0 ≤ 100000; rw [List.length_map]; omega), ?_⟩
    have f := fin as (a0 z) (by omega) an
    rw [← List.append_nil (as.map D.int)] at f
    exact f
end Pu
namespace Pu
open PySem L2 Rb Gm
theorem pick4i {x y z u r : Int} (h0 : 0 ≤ r) (h1 : r < 4) : ∃ v : Int, atI [D.int x, D.int y, D.int z, D.int u] r = some (.int v) ∧ (v = x ∨ v = y ∨ v = z ∨ v = u) := by
  rcases (by omega : r = 0 ∨ r = 1 ∨ r = 2 ∨ r = 3) with rfl | rfl | rfl | rfl
  · exact ⟨x, rfl, .inl rfl⟩
  · exact ⟨y, rfl, .inr (.inl rfl)⟩
  · exact ⟨z, rfl, .inr (.inr (.inl rfl))⟩
  · exact ⟨u, rfl, .inr (.inr (.inr rfl))⟩
theorem road3_ok {S T : Sto} {N st mo : Int} {Q : QD} {E : ED} (h : Nk S N T) (hN : N ≤ 900000) (s1 : 1 ≤ st) (s2 : st ≤ 12) (m1 : 1 ≤ mo) (m2 : mo ≤ 12)
    (q : ∀ wk rd (bs : List Int) S', RoadOk wk rd bs → (bs.length : Int) ≤ st → (∀ b ∈ bs, b ≤ mo) → Nk S' (N + 40) T → Q (roadV wk rd bs) S') : F_law_road_3 [.cell 1, .int st, .int mo] S Q E := by
  unfold F_law_road_3
  refine ⟨rfl, szr rfl, next_ok h (by omega) (by decide) (by decide) fun r S1 r0 r1 d1 => ?_⟩
  obtain ⟨l1, e1, c1⟩ := pick3i (x := 4) (y := 30) (z := 999) r0 r1
  refine onS e1 (next_ok d1 (by omega) (by omega) (by omega) fun r2 S2 r20 r21 d2 => ⟨szr rfl, ?_⟩)
  refine next_ok d2 (by omega) (by decide) (by decide) fun r3 S3 r30 r31 d3 => ?_
  obtain ⟨l2, e2, c2⟩ := pick3i (x := 3) (y := 30) (z := 999) r30 r31
  refine onS e2 ?_
  have hlim : ∀ a : Int, (if l2 < 1000 - (1 + r2) then l2 else 1000 - (1 + r2)) = a → 1 ≤ a ∧ a ≤ 1000 - (1 + r2) := fun a ha => by
    rw [← ha]
    split <;> omega
  generalize hla : (if l2 < 1000 - (1 + r2) then l2 else 1000 - (1 + r2)) = la
  obtain ⟨la1, la2⟩ := hlim la hla
  show F_law_next [.cell 1, .int (if l2 < 1000 - (1 + r2) then l2 else 1000 - (1 + r2))] S3 _ _
  rw [hla]
  refine next_ok d3 (by omega) (by omega) (by omega) fun r4 S4 r40 r41 d4 => ⟨szr rfl, ?_⟩
  refine next_ok d4 (by omega) (by omega) (by omega) fun r5 S5 r50 r51 d5 => ⟨⟨by omega, by omega⟩, ?_⟩
  refine for_rng 0 (1 + r5).toNat (fun i ρ S' => ∃ (bs : List Int) (y6 : Option D), ρ = [some (.cell 1), some (.int st), some (.int mo), some (.int (1 + r2)), some (.int (1 + r2 + 1 + r4)), some (.tup (bs.map .int)), y6] ∧ bs.length = i ∧ (∀ b ∈ bs, 0 ≤ b ∧ b ≤ mo) ∧ Nk S' (N + 5 + 2 * i) T) ?_ ?_ ?_
  · exact ⟨[], none, rfl, rfl, (fun _ z => nomatch z), d5.le (by omega)⟩
  · rintro i ρ S' K hi hK ⟨bs, y6, rfl, bl, hb, dk⟩
    refine next_ok dk (by omega) (by omega) (by omega) fun a1 S6 a10 a11 d6 => ⟨szr rfl, ?_⟩
    refine next_ok d6 (by omega) (by decide) (by decide) fun a2 S7 a20 a21 d7 => ?_
    obtain ⟨v, e5, c5⟩ := pick4i (x := a1) (y := 0) (z := 0) (u := 1) a20 a21
    refine onS e5 ⟨szr rfl, szd (by show (bs.map D.int).length + 1 ≤ 100000; rw [List.length_map]; omega), hK _ _ ⟨bs ++ [v], some (.int (0 + (i : Int))), by rw [List.map_append]; rfl, by rw [List.length_append, bl]; rfl, fun b hm => ?_, d7.le (by omega)⟩⟩
    rcases List.mem_append.mp hm with z | z
    · exact hb b z
    · rw [List.mem_singleton.mp z]
      omega
  · rintro ρ S' ⟨bs, y6, rfl, bl, hb, dk⟩
    refine ⟨szr rfl, ?_⟩
    exact q (1 + r2 + 1 + r4) (1 + r2) bs S' ⟨by omega, by omega, by omega, by omega, by omega, fun b hm => by have := hb b hm; omega⟩ (by omega) (fun b hm => (hb b hm).2) (dk.le (by omega))
end Pu
namespace Pu
open PySem L2 Rb Gm
theorem Nk.len {S : Sto} {N : Int} {T : Sto} (h : Nk S N T) : S.length = 2 + T.length := by
  obtain ⟨cs, rs, n, rfl, _⟩ := h
  rw [List.length_append]
  rfl
theorem Nk.take2 {S : Sto} {N : Int} {T : Sto} (h : Nk S N T) : Nk (S.take 2) N [] ∧ S.drop 2 = T ∧ (S.take 2).all (Cl.below 2) = true ∧ (S.take 2).length = 2 := by
  obtain ⟨cs, rs, n, rfl, h⟩ := h
  refine ⟨⟨cs, rs, n, rfl, h⟩, rfl, ?_, rfl⟩
  show (belowAll 2 (rs.map D.int) && ((belowAll 2 (cs.map D.int) && (true && (true && true))) && true)) = true
  rw [below_ints, below_ints]
  rfl
theorem Nk.app {S T : Sto} {N : Int} (h : Nk S N []) : Nk (S ++ T) N T := by
  obtain ⟨cs, rs, n, rfl, h⟩ := h
  exact ⟨cs, rs, n, by rw [List.append_nil], h⟩
theorem Nk.l2 {S T S1 : Sto} {N : Int} (h : Nk S N T) (l : S1.length = 2) : S1.length = (S.take 2).length := l.trans h.take2.2.2.2.symm
theorem Nk.back {S T S1 : Sto} {N M : Int} (h : Nk S N T) (d : Nk S1 M []) : Nk (S1 ++ S.drop 2) M T := by
  rw [h.take2.2.1]
  exact d.app
end Pu
namespace Pu
open PySem L2 Rb Gm
theorem shp_intsT {l : List Int} : Shp 1 (.tup (l.map D.int)) := Shp.tup fun d hd => by
  obtain ⟨b, _, rfl⟩ := List.mem_map.mp hd
  exact Shp.int
end Pu
namespace Gm
/-! ## plans counted: forwards, backwards, and by listing -/
def sm (n : Nat) (f : Nat → Int) : Int := ((List.range n).map f).sum
/-- the groups of people 0 .. p - 1 with no more than `most`, as they are listed -/
def grpM (most : Nat) : Nat → List (List Nat)
  | 0 => [[]]
  | p + 1 => grpM most p ++ ((grpM most p).filter fun g => decide (g.length < most)).map fun g => g ++ [p]
end Gm
namespace Gm
end Gm
namespace Pu
open PySem L2 Rb Gm
/-! ## plans in ascending order -/
def ltR : List Nat → List Nat → Prop
  | [], [] => False
  | [], _ :: _ => True
  | _ :: _, [] => False
  | a :: x, b :: y => a < b ∨ (a = b ∧ ltR x y)
structure GrOk (lo n m : Nat) (r : List Nat) : Prop where
  asc : r.Pairwise (· < ·)
  lo : ∀ p ∈ r, lo ≤ p
  hi : ∀ p ∈ r, p < n
  len : r.length ≤ m
theorem GrOk.nil {lo n m : Nat} : GrOk lo n m [] := ⟨.nil, (fun _ z => nomatch z), (fun _ z => nomatch z), Nat.zero_le _⟩
theorem GrOk.one {lo n m a : Nat} (h1 : lo ≤ a) (h2 : a < n) (h3 : 1 ≤ m) : GrOk lo n m [a] := ⟨List.pairwise_singleton .., fun p hp => by rw [List.mem_singleton.mp hp]; exact h1, fun p hp => by rw [List.mem_singleton.mp hp]; exact h2, h3⟩
theorem GrOk.tail {lo n m a : Nat} {x : List Nat} (h : GrOk lo n m (a :: x)) : lo ≤ a ∧ a < n ∧ 1 ≤ m ∧ GrOk (a + 1) n (m - 1) x := by
  obtain ⟨h1, h2, h3, h4⟩ := h
  obtain ⟨c1, c2⟩ := List.pairwise_cons.mp h1
  have h4 : x.length + 1 ≤ m := h4
  exact ⟨h2 a List.mem_cons_self, h3 a List.mem_cons_self, by omega, c2, fun p hp => c1 p hp, fun p hp => h3 p (List.mem_cons_of_mem _ hp), by omega⟩
theorem GrOk.cons {lo n m a : Nat} {x : List Nat} (h1 : lo ≤ a) (h2 : a < n) (h3 : 1 ≤ m) (h : GrOk (a + 1) n (m - 1) x) : GrOk lo n m (a :: x) := by
  obtain ⟨c1, c2, c3, c4⟩ := h
  refine ⟨List.pairwise_cons.mpr ⟨fun p hp => c2 p hp, c1⟩, fun p hp => ?_, fun p hp => ?_, by show x.length + 1 ≤ m; omega⟩
  · rcases List.mem_cons.mp hp with rfl | z
    · exact h1
    · have := c2 p z
      omega
  · rcases List.mem_cons.mp hp with rfl | z
    · exact h2
    · exact c3 p z
/-- the group that follows -/
def nxR (n : Nat) : Nat → Nat → List Nat → Option (List Nat)
  | lo, m, [] => if lo < n ∧ 0 < m then some [lo] else none
  | _, m, a :: x => match nxR n (a + 1) (m - 1) x with
    | some y => some (a :: y)
    | none => if a + 1 < n then some [a + 1] else none
def NxOk (P : α → Prop) (lt : α → α → Prop) (p : α) : Option α → Prop
  | some r => P r ∧ lt p r ∧ ∀ q, P q → lt p q → r = q ∨ lt r q
  | none => ∀ q, P q → ¬ lt p q
theorem nxR_spec {n : Nat} : ∀ (r : List Nat) (lo m : Nat), GrOk lo n m r → NxOk (GrOk lo n m) ltR r (nxR n lo m r)
  | [], lo, m, _ => by
    unfold nxR
    split
    · rename_i h
      refine ⟨.one (Nat.le_refl _) h.1 h.2, trivial, fun q hq hl => ?_⟩
      cases q with
      | nil => exact hl.elim
      | cons b y =>
        have := hq.tail.1
        by_cases e : lo = b
        · subst e
          cases y with
          | nil => exact .inl rfl
          | cons c z => exact .inr (.inr ⟨rfl, trivial⟩)
        · exact .inr (.inl (by omega))
    · rename_i h
      intro q hq hl
      cases q with
      | nil => exact hl.elim
      | cons b y =>
        obtain ⟨a1, a2, a3, _⟩ := hq.tail
        exact h ⟨by omega, by omega⟩
  | a :: x, lo, m, ok => by
    obtain ⟨a1, a2, a3, ok'⟩ := ok.tail
    have ih := nxR_spec x (a + 1) (m - 1) ok'
    unfold nxR
    cases e : nxR n (a + 1) (m - 1) x with
    | some y =>
      rw [e] at ih
      obtain ⟨h1, h2, h3⟩ := ih
      refine ⟨.cons a1 a2 a3 h1, .inr ⟨rfl, h2⟩, fun q hq hl => ?_⟩
      cases q with
      | nil => exact hl.elim
      | cons b z =>
        rcases hl with c | ⟨rfl, c⟩
        · exact .inr (.inl c)
        · rcases h3 z hq.tail.2.2.2 c with rfl | d
          · exact .inl rfl
          · exact .inr (.inr ⟨rfl, d⟩)
    | none =>
      rw [e] at ih
      dsimp only
      split
      · rename_i h
        refine ⟨.one (by omega) h a3, .inl (Nat.lt_succ_self a), fun q hq hl => ?_⟩
        cases q with
        | nil => exact hl.elim
        | cons b z =>
          rcases hl with c | ⟨rfl, c⟩
          · by_cases eb : a + 1 = b
            · subst eb
              cases z with
              | nil => exact .inl rfl
              | cons d w => exact .inr (.inr ⟨rfl, trivial⟩)
            · exact .inr (.inl (by omega))
          · exact absurd c (ih z hq.tail.2.2.2)
      · rename_i h
        intro q hq hl
        cases q with
        | nil => exact hl.elim
        | cons b z =>
          rcases hl with c | ⟨rfl, c⟩
          · have := hq.tail.2.1
            omega
          · exact ih z hq.tail.2.2.2 c
theorem ltR_irr : ∀ x : List Nat, ¬ ltR x x
  | [], h => h
  | a :: x, h => by
    rcases h with c | ⟨_, c⟩
    · exact Nat.lt_irrefl _ c
    · exact ltR_irr x c
theorem ltR_tr : ∀ {x y z : List Nat}, ltR x y → ltR y z → ltR x z
  | [], [], _, h, _ => h.elim
  | [], b :: y, [], _, h2 => h2.elim
  | [], b :: y, c :: z, _, _ => trivial
  | a :: x, [], _, h, _ => h.elim
  | a :: x, b :: y, [], _, h2 => h2.elim
  | a :: x, b :: y, c :: z, h, h2 => by
    rcases h with h | ⟨rfl, h⟩ <;> rcases h2 with h2 | ⟨rfl, h2⟩
    · exact .inl (Nat.lt_trans h h2)
    · exact .inl h
    · exact .inl h2
    · exact .inr ⟨rfl, ltR_tr h h2⟩
/-! plans -/
def ltP : List (List Nat) → List (List Nat) → Prop
  | r :: x, q :: y => ltR r q ∨ (r = q ∧ ltP x y)
  | _, _ => False
theorem ltP_irr : ∀ x : List (List Nat), ¬ ltP x x
  | [], h => h
  | a :: x, h => by
    rcases h with c | ⟨_, c⟩
    · exact ltR_irr _ c
    · exact ltP_irr x c
theorem ltP_tr : ∀ {x y z : List (List Nat)}, ltP x y → ltP y z → ltP x z
  | [], _, _, h, _ => h.elim
  | _ :: _, [], _, h, _ => h.elim
  | _ :: _, _ :: _, [], _, h2 => h2.elim
  | a :: x, b :: y, c :: z, h, h2 => by
    rcases h with h | ⟨rfl, h⟩ <;> rcases h2 with h2 | ⟨rfl, h2⟩
    · exact .inl (ltR_tr h h2)
    · exact .inl h
    · exact .inl h2
    · exact .inr ⟨rfl, ltP_tr h h2⟩
def PlG (n : Nat) : Nat → List Int → List (List Nat) → Prop
  | _, [], [] => True
  | br, b :: bs, r :: x => GrOk 0 n (b.toNat + br) r ∧ PlG n r.length bs x
  | _, _, _ => False
def nxP (n : Nat) : Nat → List Int → List (List Nat) → Option (List (List Nat))
  | br, b :: bs, r :: x => match nxP n r.length bs x with
    | some y => some (r :: y)
    | none => match nxR n 0 (b.toNat + br) r with
      | some r' => some (r' :: List.replicate x.length [])
      | none => none
  | _, _, _ => none
theorem PlG.len {n : Nat} : ∀ {br : Nat} {bs : List Int} {x : List (List Nat)}, PlG n br bs x → x.length = bs.length
  | _, [], [], _ => rfl
  | _, [], _ :: _, h => h.elim
  | _, _ :: _, [], h => h.elim
  | _, b :: bs, r :: x, h => by
    have := PlG.len h.2
    show x.length + 1 = bs.length + 1
    rw [this]
theorem plG_min {n : Nat} : ∀ (br : Nat) (bs : List Int), PlG n br bs (List.replicate bs.length []) ∧ ∀ q, PlG n br bs q → q = List.replicate bs.length [] ∨ ltP (List.replicate bs.length []) q
  | _, [] => ⟨trivial, fun q hq => by
    cases q with
    | nil => exact .inl rfl
    | cons r x => exact hq.elim⟩
  | br, b :: bs => by
    obtain ⟨h1, _⟩ := plG_min (n := n) 0 bs
    refine ⟨⟨.nil, h1⟩, fun q hq => ?_⟩
    cases q with
    | nil => exact hq.elim
    | cons r x =>
      cases r with
      | nil =>
        rcases (plG_min (n := n) 0 bs).2 x hq.2 with z | z
        · left
          rw [z]
          rfl
        · exact .inr (.inr ⟨rfl, z⟩)
      | cons a y => exact .inr (.inl trivial)
theorem nxP_spec {n : Nat} : ∀ (br : Nat) (bs : List Int) (p : List (List Nat)), PlG n br bs p → NxOk (PlG n br bs) ltP p (nxP n br bs p)
  | _, [], [], _ => fun q hq hl => by
    cases q <;> exact hl.elim
  | _, [], _ :: _, h => h.elim
  | _, _ :: _, [], h => h.elim
  | br, b :: bs, r :: x, h => by
    have ih := nxP_spec r.length bs x h.2
    unfold nxP
    cases e : nxP n r.length bs x with
    | some y =>
      rw [e] at ih
      obtain ⟨h1, h2, h3⟩ := ih
      refine ⟨⟨h.1, h1⟩, .inr ⟨rfl, h2⟩, fun q hq hl => ?_⟩
      cases q with
      | nil => exact hl.elim
      | cons s z =>
        rcases hl with c | ⟨rfl, c⟩
        · exact .inr (.inl c)
        · rcases h3 z hq.2 c with rfl | d
          · exact .inl rfl
          · exact .inr (.inr ⟨rfl, d⟩)
    | none =>
      rw [e] at ih
      have ih2 := nxR_spec r 0 (b.toNat + br) h.1
      dsimp only
      cases e2 : nxR n 0 (b.toNat + br) r with
      | some r' =>
        rw [e2] at ih2
        obtain ⟨h1, h2, h3⟩ := ih2
        have mn := plG_min (n := n) r'.length bs
        have xl := h.2.len
        refine ⟨⟨h1, by rw [xl]; exact mn.1⟩, .inl h2, fun q hq hl => ?_⟩
        cases q with
        | nil => exact hl.elim
        | cons s z =>
          rcases hl with c | ⟨rfl, c⟩
          · rcases h3 s hq.1 c with rfl | d
            · rcases mn.2 z hq.2 with w | w
              · left
                rw [w, xl]
              · exact .inr (.inr ⟨rfl, by rw [xl]; exact w⟩)
            · exact .inr (.inl d)
          · exact absurd c (ih z hq.2)
      | none =>
        rw [e2] at ih2
        intro q hq hl
        cases q with
        | nil => exact hl.elim
        | cons s z =>
          rcases hl with c | ⟨rfl, c⟩
          · exact ih2 s hq.1 c
          · exact ih z hq.2 c
theorem plG_iff {n : Nat} : ∀ (br : Nat) (bs : List Int) (p : List (List Nat)), PlG n br bs p ↔ (p.length = bs.length ∧ (∀ r ∈ p, r.Pairwise (· < ·)) ∧ (∀ r ∈ p, ∀ q ∈ r, q < n) ∧ ∀ i, (p.getD i []).length ≤ (bs.getD i 0).toNat + (if i = 0 then br else (p.getD (i - 1) []).length))
  | _, [], [] => ⟨fun _ => ⟨rfl, (fun _ z => nomatch z), (fun _ z => nomatch z), fun i => Nat.zero_le _⟩, fun _ => trivial⟩
  | _, [], _ :: _ => ⟨fun h => h.elim, fun h => by have := h.1; simp at this⟩
  | _, _ :: _, [] => ⟨fun h => h.elim, fun h => by have := h.1; simp at this⟩
  | br, b :: bs, r :: x => by
    have ih := plG_iff r.length bs x (n := n)
    constructor
    · rintro ⟨h1, h2⟩
      obtain ⟨a1, a2, a3, a4⟩ := ih.mp h2
      refine ⟨by show x.length + 1 = bs.length + 1; rw [a1], fun s hs => ?_, fun s hs => ?_, fun i => ?_⟩
      · rcases List.mem_cons.mp hs with rfl | z
        · exact h1.asc
        · exact a2 s z
      · rcases List.mem_cons.mp hs with rfl | z
        · exact h1.hi
        · exact a3 s z
      · cases i with
        | zero => exact h1.len
        | succ j =>
          have := a4 j
          cases j with
          | zero => exact this
          | succ l => exact this
    · rintro ⟨a1, a2, a3, a4⟩
      refine ⟨⟨a2 r List.mem_cons_self, fun _ _ => Nat.zero_le _, a3 r List.mem_cons_self, a4 0⟩, ih.mpr ⟨Nat.succ.inj a1, fun s hs => a2 s (List.mem_cons_of_mem _ hs), fun s hs => a3 s (List.mem_cons_of_mem _ hs), fun i => ?_⟩⟩
      have := a4 (i + 1)
      cases i with
      | zero => exact this
      | succ l => exact this
/-- one behind the other, up to the last -/
inductive Ch {α : Type} (f : α → Option α) : α → List α → Prop
  | last {p : α} : f p = none → Ch f p [p]
  | more {p q : α} {ds : List α} : f p = some q → Ch f q ds → Ch f p (p :: ds)
open Classical in
theorem chain_all {bs : List Int} {n : Nat} {L : List (List (List Nat))} (hL : ∀ p, PlG n 0 bs p → p ∈ L) : ∀ (k : Nat) (p : List (List Nat)), PlG n 0 bs p → L.countP (fun q => decide (ltP p q)) ≤ k → ∃ ds, Ch (nxP n 0 bs) p ds ∧ (∀ q, PlG n 0 bs q → (q = p ∨ ltP p q) → q ∈ ds) ∧ (∀ q ∈ ds, PlG n 0 bs q) ∧ ds.length ≤ k + 1 := by
  intro k
  induction k with
  | zero =>
    intro p hp hk
    have sp := nxP_spec 0 bs p hp
    cases e : nxP n 0 bs p with
    | none =>
      rw [e] at sp
      refine ⟨[p], .last e, fun q hq h => ?_, fun q hq => by rw [List.mem_singleton.mp hq]; exact hp, Nat.le_refl _⟩
      rcases h with rfl | h
      · exact List.mem_singleton.mpr rfl
      · exact absurd h (sp q hq)
    | some r =>
      rw [e] at sp
      have : 0 < L.countP (fun q => decide (ltP p q)) := List.countP_pos_iff.mpr ⟨r, hL r sp.1, decide_eq_true sp.2.1⟩
      omega
  | succ k ih =>
    intro p hp hk
    have sp := nxP_spec 0 bs p hp
    cases e : nxP n 0 bs p with
    | none =>
      rw [e] at sp
      refine ⟨[p], .last e, fun q hq h => ?_, fun q hq => by rw [List.mem_singleton.mp hq]; exact hp, by show 1 ≤ k + 1 + 1; omega⟩
      rcases h with rfl | h
      · exact List.mem_singleton.mpr rfl
      · exact absurd h (sp q hq)
    | some r =>
      rw [e] at sp
      obtain ⟨s1, s2, s3⟩ := sp
      have lt : L.countP (fun q => decide (ltP r q)) < L.countP (fun q => decide (ltP p q)) := by
        have h1 : L.countP (fun q => decide (ltP p q)) = L.countP (fun q => decide (ltP r q)) + L.countP (fun q => decide (ltP p q ∧ ¬ ltP r q)) := by
          clear hk ih hL
          induction L with
          | nil => rfl
          | cons q L ihL =>
            rw [List.countP_cons, List.countP_cons, List.countP_cons, ihL]
            by_cases c1 : ltP r q
            · have c2 := ltP_tr s2 c1
              simp [c1, c2]
              omega
            · by_cases c2 : ltP p q
              · simp [c1, c2]
                omega
              · simp [c1, c2]
        have h2 : 0 < L.countP (fun q => decide (ltP p q ∧ ¬ ltP r q)) := List.countP_pos_iff.mpr ⟨r, hL r s1, decide_eq_true ⟨s2, ltP_irr r⟩⟩
        omega
      obtain ⟨ds, d1, d2, d3, d4⟩ := ih r s1 (by omega)
      refine ⟨p :: ds, .more e d1, fun q hq h => ?_, fun q hq => ?_, by show ds.length + 1 ≤ _; omega⟩
      · rcases h with rfl | h
        · exact List.mem_cons_self
        · exact List.mem_cons_of_mem _ (d2 q hq ((s3 q hq h).imp Eq.symm id))
      · rcases List.mem_cons.mp hq with rfl | z
        · exact hp
        · exact d3 q z
end Pu
namespace Pu
open PySem L2 Rb Gm
/-! ## every plan, for any number of people and stages -/
def listsM (n : Nat) : Nat → List (List Nat)
  | 0 => [[]]
  | m + 1 => [] :: (List.range n).flatMap fun a => (listsM n m).map (a :: ·)
theorem lists_mem {n : Nat} : ∀ (m : Nat) (r : List Nat), r.length ≤ m → (∀ p ∈ r, p < n) → r ∈ listsM n m
  | 0, [], _, _ => List.mem_cons_self
  | 0, a :: r, h, _ => by cases h
  | m + 1, [], _, _ => List.mem_cons_self
  | m + 1, a :: r, h, hl => by
    have h : r.length + 1 ≤ m + 1 := h
    refine List.mem_cons_of_mem _ (List.mem_flatMap.mpr ⟨a, List.mem_range.mpr (hl a List.mem_cons_self), List.mem_map.mpr ⟨r, lists_mem m r (by omega) fun p hp => hl p (List.mem_cons_of_mem _ hp), rfl⟩⟩)
def allP (n : Nat) : Nat → List Int → List (List (List Nat))
  | _, [] => [[]]
  | br, b :: bs => (listsM n (b.toNat + br)).flatMap fun r => (allP n r.length bs).map (r :: ·)
theorem allP_mem {n : Nat} : ∀ (br : Nat) (bs : List Int) (p : List (List Nat)), PlG n br bs p → p ∈ allP n br bs
  | _, [], [], _ => List.mem_cons_self
  | _, [], _ :: _, h => h.elim
  | _, _ :: _, [], h => h.elim
  | br, b :: bs, r :: x, h => List.mem_flatMap.mpr ⟨r, lists_mem _ r h.1.len h.1.hi, List.mem_map.mpr ⟨x, allP_mem r.length bs x h.2, rfl⟩⟩
theorem plans_any {bs : List Int} {n : Nat} : ∃ ds, Ch (nxP n 0 bs) (List.replicate bs.length []) ds ∧ ∀ p, p ∈ ds ↔ PlG n 0 bs p := by
  have mn := plG_min (n := n) 0 bs
  obtain ⟨ds, d1, d2, d3, d4⟩ := chain_all (L := allP n 0 bs) (fun p hp => allP_mem 0 bs p hp) _ _ mn.1 (Nat.le_refl _)
  exact ⟨ds, d1, fun p => ⟨fun h => d3 p h, fun h => d2 p h (mn.2 p h)⟩⟩
/-- what is asked one behind the other ascends -/
theorem ch_asc {bs : List Int} {n : Nat} {p : List (List Nat)} {ds : List (List (List Nat))} (c : Ch (nxP n 0 bs) p ds) : PlG n 0 bs p → ds.Pairwise ltP ∧ ∀ q ∈ ds, q = p ∨ ltP p q := by
  induction c with
  | last e => exact fun _ => ⟨List.pairwise_singleton .., fun q hq => .inl (List.mem_singleton.mp hq)⟩
  | @more p q ds e c ih =>
    intro hp
    have sp := nxP_spec 0 bs p hp
    rw [e] at sp
    obtain ⟨s1, s2, s3⟩ := sp
    obtain ⟨i1, i2⟩ := ih s1
    have below : ∀ x ∈ ds, ltP p x := fun x hx => by
      rcases i2 x hx with rfl | h
      · exact s2
      · exact ltP_tr s2 h
    refine ⟨List.pairwise_cons.mpr ⟨below, i1⟩, fun x hx => ?_⟩
    rcases List.mem_cons.mp hx with rfl | h
    · exact .inl rfl
    · exact .inr (below x h)
/-- two ascending lists with the same plans are the same -/
theorem asc_same : ∀ {l m : List (List (List Nat))}, l.Pairwise ltP → m.Pairwise ltP → (∀ x, x ∈ l ↔ x ∈ m) → l = m
  | [], [], _, _, _ => rfl
  | [], b :: m, _, _, h => absurd ((h b).mpr List.mem_cons_self) List.not_mem_nil
  | a :: l, [], _, _, h => absurd ((h a).mp List.mem_cons_self) List.not_mem_nil
  | a :: l, b :: m, h1, h2, h => by
    obtain ⟨a1, a2⟩ := List.pairwise_cons.mp h1
    obtain ⟨b1, b2⟩ := List.pairwise_cons.mp h2
    have e : a = b := by
      rcases List.mem_cons.mp ((h a).mp List.mem_cons_self) with e | e
      · exact e
      · rcases List.mem_cons.mp ((h b).mpr List.mem_cons_self) with e2 | e2
        · exact e2.symm
        · exact absurd (ltP_tr (a1 b e2) (b1 a e)) (ltP_irr a)
    subst e
    rw [asc_same a2 b2 fun x => ⟨fun hx => ?_, fun hx => ?_⟩]
    · rcases List.mem_cons.mp ((h x).mp (List.mem_cons_of_mem _ hx)) with rfl | z
      · exact absurd (a1 x hx) (ltP_irr x)
      · exact z
    · rcases List.mem_cons.mp ((h x).mpr (List.mem_cons_of_mem _ hx)) with rfl | z
      · exact absurd (b1 x hx) (ltP_irr x)
      · exact z
end Pu
namespace Pu
open PySem L2 Rb Gm
/-! ## rows of numbers -/
theorem comp_mapB {α : Type} {st : D → Rho → Option Rho} {fe : FE} {src : Src} {k : List D → Sto → Prop} {S : Sto} {ρ : Rho} (f g : α → D) (hsrc : ∀ P : Prop, P → srcOk src S P) : ∀ (xs : List α) (acc : List D),
    (∀ x ∈ xs, ∃ ρ1, st (f x) ρ = some ρ1 ∧ ∀ Q : QD, Q (g x) S → fe ρ1 S Q noE) → k (acc ++ xs.map g) S → dCompL st dYes fe src (xs.map f) acc ρ S k
  | [], acc, _, h => by rw [List.map_nil, List.append_nil] at h; exact h
  | x :: xs, acc, hx, h => by
    obtain ⟨ρ1, e, hf⟩ := hx x List.mem_cons_self
    refine onS e ?_
    refine ifT (b := true) (Q := srcOk src S (dCompL st dYes fe src (xs.map f) acc ρ S k)) rfl ?_
    refine hf _ (hsrc _ (comp_mapB f g hsrc xs _ (fun y hy => hx y (List.mem_cons_of_mem _ hy)) ?_))
    rw [List.append_assoc]
    exact h
/-! the law's own -/
end Pu
namespace Pu
open PySem L2 Rb Gm
theorem below_iff {k : Nat} : ∀ {ds : List D}, belowAll k ds = true ↔ ∀ d ∈ ds, below k d = true
  | [] => ⟨fun _ d h => absurd h List.not_mem_nil, fun _ => rfl⟩
  | d :: ds => by
    show (below k d && belowAll k ds) = true ↔ _
    rw [Bool.and_eq_true, below_iff (ds := ds), List.forall_mem_cons]
end Pu
namespace Pu
open PySem L2 Rb Gm
theorem grp_len {m : Nat} : ∀ p : Nat, (grpM m p).length ≤ 2 ^ p
  | 0 => Nat.le_refl _
  | p + 1 => by
    show (grpM m p ++ ((grpM m p).filter fun g => decide (g.length < m)).map fun g => g ++ [p]).length ≤ _
    rw [List.length_append, List.length_map, Nat.pow_succ]
    have := grp_len (m := m) p
    have := List.length_filter_le (fun g : List Nat => decide (g.length < m)) (grpM m p)
    omega
theorem grp_head {m : Nat} : ∀ p : Nat, ∃ r, grpM m p = [] :: r
  | 0 => ⟨[], rfl⟩
  | p + 1 => by
    obtain ⟨r, e⟩ := grp_head (m := m) p
    refine ⟨r ++ ((grpM m p).filter fun g => decide (g.length < m)).map fun g => g ++ [p], ?_⟩
    show grpM m p ++ _ = _
    rw [e]
    rfl
theorem comp_fltA {α : Type} {st : D → Rho → Option Rho} {t : FT} {fe : FE} {src : Src} {k : List D → Sto → Prop} {S : Sto} {ρ : Rho} (f : α → D) (p : α → Bool) (g : α → D) (hsrc : ∀ P : Prop, P → srcOk src S P) : ∀ (xs : List α) (acc : List D),
    (∀ x ∈ xs, ∃ ρ1, st (f x) ρ = some ρ1 ∧ (∀ Q : Bool → Sto → Prop, Q (p x) S → t ρ1 S Q noE) ∧ (p x = true → ∀ Q : QD, Q (g x) S → fe ρ1 S Q noE)) → k (acc ++ (xs.filter p).map g) S → dCompL st t fe src (xs.map f) acc ρ S k
  | [], acc, _, h => by rw [List.filter_nil, List.map_nil, List.append_nil] at h; exact h
  | x :: xs, acc, hx, h => by
    obtain ⟨ρ1, e, ht, hf⟩ := hx x List.mem_cons_self
    have ih := fun acc' h' => comp_fltA (st := st) (t := t) (fe := fe) (src := src) (k := k) (S := S) (ρ := ρ) f p g hsrc xs acc' (fun y hy => hx y (List.mem_cons_of_mem _ hy)) h'
    refine onS e (ht _ ?_)
    cases hp : p x with
    | true =>
      rw [List.filter_cons, hp] at h
      refine hf hp _ (hsrc _ (ih _ ?_))
      rw [List.append_assoc]
      exact h
    | false =>
      rw [List.filter_cons, hp] at h
      exact hsrc _ (ih _ h)
theorem grp_small {m : Nat} : ∀ {p : Nat} (g : List Nat), g ∈ grpM m p → g.length ≤ p
  | 0, g, h => by
    rw [show grpM m 0 = [[]] from rfl] at h
    rw [List.mem_singleton.mp h]
    exact Nat.le_refl _
  | p + 1, g, h => by
    rcases List.mem_append.mp (show g ∈ grpM m p ++ ((grpM m p).filter fun g => decide (g.length < m)).map fun g => g ++ [p] from h) with h | h
    · have := grp_small g h
      omega
    · obtain ⟨g', h2, rfl⟩ := List.mem_map.mp h
      have := grp_small g' (List.mem_filter.mp h2).1
      rw [List.length_append]
      show g'.length + 1 ≤ p + 1
      omega
theorem riders_ti (g : List Nat) : ridersV g = tupI (nI g) := by
  unfold ridersV tupI
  rw [natsV_eq]
end Pu
namespace Pu
open PySem L2 Rb Gm
/-! ## the law's own groups, in order -/
theorem grp_ok {m : Nat} : ∀ (p : Nat) (g : List Nat), g ∈ grpM m p ↔ GrOk 0 p m g
  | 0, g => by
    rw [show grpM m 0 = [[]] from rfl, List.mem_singleton]
    constructor
    · rintro rfl
      exact .nil
    · intro h
      cases g with
      | nil => rfl
      | cons a x => have := h.hi a List.mem_cons_self; omega
  | p + 1, g => by
    rw [show grpM m (p + 1) = grpM m p ++ ((grpM m p).filter fun g => decide (g.length < m)).map fun g => g ++ [p] from rfl, List.mem_append, List.mem_map]
    constructor
    · rintro (h | ⟨x, hx, rfl⟩)
      · have h := (grp_ok p g).mp h
        exact ⟨h.asc, fun _ _ => Nat.zero_le _, fun q hq => by have := h.hi q hq; omega, h.len⟩
      · obtain ⟨h1, h2⟩ := List.mem_filter.mp hx
        have h := (grp_ok p x).mp h1
        have h2 := of_decide_eq_true h2
        refine ⟨List.pairwise_append.mpr ⟨h.asc, List.pairwise_singleton .., fun a ha b hb => by rw [List.mem_singleton.mp hb]; exact h.hi a ha⟩, fun _ _ => Nat.zero_le _, fun q hq => ?_, by rw [List.length_append]; exact h2⟩
        rcases List.mem_append.mp hq with z | z
        · have := h.hi q z; omega
        · rw [List.mem_singleton.mp z]; omega
    · intro h
      rcases List.eq_nil_or_concat g with rfl | ⟨x, a, rfl⟩
      · exact .inl ((grp_ok p []).mpr .nil)
      · rw [List.concat_eq_append] at h ⊢
        obtain ⟨c1, _, c3⟩ := List.pairwise_append.mp h.asc
        have hl := h.len
        rw [List.length_append] at hl
        have hl : x.length + 1 ≤ m := hl
        have ha := h.hi a (List.mem_append_right _ (List.mem_singleton.mpr rfl))
        have lt : ∀ q ∈ x, q < a := fun q hq => c3 q hq a (List.mem_singleton.mpr rfl)
        by_cases e : a = p
        · subst e
          exact .inr ⟨x, List.mem_filter.mpr ⟨(grp_ok a x).mpr ⟨c1, fun _ _ => Nat.zero_le _, lt, by omega⟩, decide_eq_true (by omega)⟩, rfl⟩
        · refine .inl ((grp_ok p (x ++ [a])).mpr ⟨h.asc, fun _ _ => Nat.zero_le _, fun q hq => ?_, h.len⟩)
          rcases List.mem_append.mp hq with z | z
          · have := lt q z; omega
          · rw [List.mem_singleton.mp z]; omega
theorem grp_nodup {m : Nat} : ∀ p : Nat, (grpM m p).Nodup
  | 0 => by
    rw [show grpM m 0 = [[]] from rfl]
    exact List.nodup_cons.mpr ⟨List.not_mem_nil, List.nodup_nil⟩
  | p + 1 => by
    rw [show grpM m (p + 1) = grpM m p ++ ((grpM m p).filter fun g => decide (g.length < m)).map fun g => g ++ [p] from rfl]
    refine List.nodup_append.mpr ⟨grp_nodup p, ?_, fun a ha b hb e => ?_⟩
    · refine List.pairwise_map.mpr (((grp_nodup p).filter _).imp fun {a b} h e => h ?_)
      exact List.append_cancel_right e
    · obtain ⟨x, hx, rfl⟩ := List.mem_map.mp hb
      have h := (grp_ok p a).mp ha
      rw [e] at h
      have := h.hi p (List.mem_append_right _ (List.mem_singleton.mpr rfl))
      omega
theorem lex_iff : ∀ a b : List Nat, HT.lexLt (nI a) (nI b) = true ↔ ltR a b
  | [], [] => ⟨(fun h => by cases h), fun h => h.elim⟩
  | [], _ :: _ => ⟨fun _ => trivial, fun _ => rfl⟩
  | _ :: _, [] => ⟨(fun h => by cases h), fun h => h.elim⟩
  | a :: x, b :: y => by
    have ih := lex_iff x y
    show HT.lexLt ((a : Int) :: nI x) ((b : Int) :: nI y) = true ↔ (a < b ∨ (a = b ∧ ltR x y))
    rw [HT.lexLt_cons]
    split
    · rename_i e
      have e : a = b := by omega
      rw [ih]
      exact ⟨fun h => .inr ⟨e, h⟩, fun h => h.elim (fun z => by omega) fun z => z.2⟩
    · rename_i e
      rw [decide_eq_true_eq]
      exact ⟨fun h => .inl (by omega), fun h => h.elim (fun z => by omega) fun z => by omega⟩
theorem ltR_tot : ∀ a b : List Nat, a = b ∨ ltR a b ∨ ltR b a
  | [], [] => .inl rfl
  | [], _ :: _ => .inr (.inl trivial)
  | _ :: _, [] => .inr (.inr trivial)
  | a :: x, b :: y => by
    rcases Nat.lt_trichotomy a b with c | c | c
    · exact .inr (.inl (.inl c))
    · subst c
      rcases ltR_tot x y with e | e | e
      · rw [e]; exact .inl rfl
      · exact .inr (.inl (.inr ⟨rfl, e⟩))
      · exact .inr (.inr (.inr ⟨rfl, e⟩))
    · exact .inr (.inr (.inl c))
theorem nI_inj {a b : List Nat} (h : nI a = nI b) : a = b := by
  have := congrArg (List.map Int.toNat) h
  rw [nI_toNat, nI_toNat] at this
  exact this
theorem groups2_ok {n : Nat} {most : Int} {S : Sto} {Q : QD} {E : ED} (n2 : n ≤ 10) (m0 : 0 ≤ most) (q : ∀ gs : List (List Nat), gs.Pairwise ltR → (∀ g, g ∈ gs ↔ GrOk 0 n most.toNat g) → gs.length ≤ 2 ^ n → Q (.lst false (gs.map ridersV)) S) : F_law_groups [.int (n : Int), .int most] S Q E := by
  unfold F_law_groups
  refine ⟨rfl, szr rfl, szr rfl, ⟨by omega, by omega⟩, ?_⟩
  show dLoop _ _ [] (rangeD 0 (n : Int).toNat) _ _ _ _
  rw [Int.toNat_natCast]
  refine for_rng 0 n (fun i ρ S' => S' = S ∧ ∃ (b : Bool) (y3 : Option D), ρ = [some (.int (n : Int)), some (.int most), some (.lst b ((grpM most.toNat i).map ridersV)), y3, none]) ⟨rfl, true, _, rfl⟩ ?_ ?_
  · rintro i ρ S' K hi hK ⟨rfl, b, y3, rfl⟩
    have gl : (grpM most.toNat i).length ≤ 1024 := Nat.le_trans (grp_len i) (show 2 ^ i ≤ 2 ^ 10 from Nat.pow_le_pow_right (by decide) (by omega))
    refine ⟨szd (by show ((grpM most.toNat i).map ridersV).length ≤ 100000; rw [List.length_map]; omega), ?_⟩
    refine comp_fltA (src := []) ridersV (fun g => decide (g.length < most.toNat)) (fun g => ridersV (g ++ [i])) (fun _ z => z) (grpM most.toNat i) [] (fun g hg => ⟨_, rfl, fun Q' q' => ?_, fun _ Q' q' => ⟨szr rfl, ?_⟩⟩) ?_
    · have e : decide (((natsV g).length : Int) < most) = decide (g.length < most.toNat) := by
        rw [natsV_len]
        exact decide_eq_decide.mpr (by omega)
      show Q' (decide (((natsV g).length : Int) < most)) S'
      rw [e]
      exact q'
    · have gm : g.length ≤ 1024 := Nat.le_trans (grp_small g hg) (by omega)
      refine ⟨szd (by show (natsV g).length + 1 ≤ 100000; rw [natsV_len]; omega), ?_⟩
      have e : ridersV (g ++ [i]) = .tup (natsV g ++ [.int (0 + (i : Int))]) := by
        unfold ridersV natsV
        rw [List.map_append, Int.zero_add]
        rfl
      rw [e] at q'
      exact q'
    · rw [List.nil_append]
      refine ⟨szd ?_, hK _ _ ⟨rfl, false, some (.int (0 + (i : Int))), ?_⟩⟩
      · have := List.length_filter_le (fun g : List Nat => decide (g.length < most.toNat)) (grpM most.toNat i)
        rw [List.length_map, List.length_map]
        omega
      · rw [show (grpM most.toNat (i + 1)).map ridersV = (grpM most.toNat i).map ridersV ++ ((grpM most.toNat i).filter fun g => decide (g.length < most.toNat)).map fun g => ridersV (g ++ [i]) by
          show (grpM most.toNat i ++ ((grpM most.toNat i).filter fun g => decide (g.length < most.toNat)).map fun g => g ++ [i]).map ridersV = _
          rw [List.map_append, List.map_map]
          rfl]
  · rintro ρ S' ⟨rfl, b, y3, rfl⟩
    obtain ⟨r, er⟩ := grp_head (m := most.toNat) n
    refine sortT_of (xs := (grpM most.toNat n).map ridersV) (nss := r.map nI) rfl ?_ fun mss pm hs => ?_
    · rw [er, List.map_cons, List.map_cons, List.map_map]
      rw [riders_ti]
      exact congrArg _ (List.map_congr_left fun g _ => riders_ti g)
    · have pm : mss.Perm ((grpM most.toNat n).map nI) := by rw [er]; exact pm
      obtain ⟨gs, eg⟩ : ∃ gs, gs = mss.map (List.map Int.toNat) := ⟨_, rfl⟩
      have em : mss = gs.map nI := by
        rw [eg, List.map_map]
        conv => lhs; rw [← List.map_id mss]
        refine List.map_congr_left fun x hx => ?_
        obtain ⟨g, _, rfl⟩ := List.mem_map.mp (pm.mem_iff.mp hx)
        show nI g = nI ((nI g).map Int.toNat)
        rw [nI_toNat]
      subst em
      have nd : (gs.map nI).Nodup := pm.nodup_iff.mpr (List.pairwise_map.mpr ((grp_nodup n).imp fun {a b} h e => h (nI_inj e)))
      have tt : (gs.map nI).map tupI = gs.map ridersV := by
        rw [List.map_map]
        exact List.map_congr_left fun g _ => (riders_ti g).symm
      rw [tt]
      refine q gs ?_ (fun g => ?_) (by
        have := pm.length_eq
        rw [List.length_map, List.length_map] at this
        rw [this]
        exact grp_len n)
      · have h1 := List.pairwise_map.mp hs
        have h2 := List.pairwise_map.mp nd
        refine (List.pairwise_and_iff.mpr ⟨h1, h2⟩).imp fun {a b} h => ?_
        rcases ltR_tot a b with e | e | e
        · exact absurd (congrArg nI e) h.2
        · exact e
        · have := (lex_iff b a).mpr e
          rw [this] at h
          exact absurd h.1 (by decide)
      · rw [← grp_ok]
        constructor
        · intro hg
          obtain ⟨g', hg', e⟩ := List.mem_map.mp (pm.mem_iff.mp (List.mem_map.mpr ⟨g, hg, rfl⟩))
          rw [← nI_inj e]
          exact hg'
        · intro hg
          obtain ⟨g', hg', e⟩ := List.mem_map.mp (pm.mem_iff.mpr (List.mem_map.mpr ⟨g, hg, rfl⟩))
          rw [← nI_inj e]
          exact hg'
end Pu
namespace Pu
open PySem L2 Rb Gm
theorem cut_init {xs : List D} {b : D} : cutD (xs ++ [b]) none (some (-1)) = xs := by
  unfold cutD
  have h1 : HT.sIx (xs ++ [b]).length 0 none = 0 := HT.sIx_none ..
  have hl : (xs ++ [b]).length = xs.length + 1 := by rw [List.length_append]; rfl
  have h2 : HT.sIx (xs ++ [b]).length (xs ++ [b]).length (some (-1)) = xs.length := by
    rw [hl]
    unfold HT.sIx
    simp
    omega
  rw [h1, h2, List.drop_zero, Nat.sub_zero, List.take_append_of_le_length (Nat.le_refl _), List.take_length]
end Pu
namespace Pu
open PySem L2 Rb Gm
theorem szB {n : Nat} (h : n ≤ 16000000) : n ≤ sizeLine := Nat.le_trans h (by unfold sizeLine; decide)
def pI (b : List (List Int)) : D := .tup (b.map tupI)
def lastI (b : List (List Int)) : Nat := (b.getLast?.getD []).length
theorem shp_ti {g : List Int} : Shp 1 (tupI g) := shp_intsT
theorem nil_eqT {neg : Bool} {ds : List D} {k : Nat} {S : Sto} {Q : QD} (h : ∀ d ∈ ds, Shp k d) (q : Q (.bl (nb neg ds.isEmpty)) S) (hk : k + 1 ≤ 64 := by decide) : iEqB neg (.tup ds) (.tup []) S Q := by
  obtain ⟨l, el, sl, cl⟩ := (Shp.tup h).sh hk
  obtain ⟨ps, es, rfl⟩ := Option.map_eq_some_iff.mp (show (toPyAll ds).map PyData.tuple = some l from el)
  refine eqB_ok (pyC_of el) (pyC_of (show toPy (.tup []) = some (.tuple []) from rfl)) sl (by decide) ?_
  have : PyData.eqv (.tuple ps) (.tuple []) = ds.isEmpty := by
    cases ds with
    | nil => cases es; rfl
    | cons d r =>
      have es : (toPy d).bind (fun z => (toPyAll r).map (z :: ·)) = some ps := es
      obtain ⟨z, ez, e⟩ := Option.bind_eq_some_iff.mp es
      obtain ⟨zs, ezs, rfl⟩ := Option.map_eq_some_iff.mp e
      rfl
  rw [this]
  exact q
theorem before_ok {p : List (List Int)} {a0 a1 a2 a3 a4 a6 a7 : Option D} {S : Sto} {Q : QD} (q : Q (.int (lastI p : Int)) S) :
    (dIf (dTest (dBin iNe (dVar 5) (dTup dNil))) (dB gLen (dCons (dBin gIx (dVar 5) (dUn gNeg (dC (.int 1)))) dNil)) (dC (.int 0))) [a0, a1, a2, a3, a4, some (pI p), a6, a7] S Q noE := by
  refine ⟨by show 0 ≤ sizeLine; exact Nat.zero_le _, ?_⟩
  refine nil_eqT (k := 1) (ds := p.map tupI) (fun d hd => ?_) ?_
  · obtain ⟨g, _, rfl⟩ := List.mem_map.mp hd
    exact shp_ti
  cases hp : p with
  | nil =>
    subst hp
    exact q
  | cons x r =>
    rw [← hp]
    have ne : p ≠ [] := by rw [hp]; exact List.cons_ne_nil _ _
    have ex : atI (p.map tupI) (-1) = some (tupI (p.getLast ne)) := by
      have := atI_last (p.dropLast.map tupI) (tupI (p.getLast ne))
      rw [show p.dropLast.map tupI ++ [tupI (p.getLast ne)] = p.map tupI by
        conv => rhs; rw [← List.dropLast_concat_getLast ne]
        rw [List.map_append]
        rfl] at this
      exact this
    have el : lastI p = (p.getLast ne).length := by
      unfold lastI
      rw [List.getLast?_eq_some_getLast ne]
      rfl
    rw [el] at q
    have e0 : (p.map tupI).isEmpty = false := by rw [hp]; rfl
    rw [e0]
    show onSome (atI (p.map tupI) (-1)) _
    refine onS ex ?_
    show Q (.int (((p.getLast ne).map D.int).length : Int)) S
    rw [List.length_map]
    exact q
end Pu
namespace Pu
open PySem L2 Rb Gm
/-! ## the law's own plans, in order -/
def lastL (p : List (List Nat)) : Nat := (p.getLast?.getD []).length
theorem lastL_snoc {p : List (List Nat)} {g : List Nat} : lastL (p ++ [g]) = g.length := by
  unfold lastL
  rw [List.getLast?_append]
  rfl
/-- the first stages of plans, ascending -/
structure Asc (n : Nat) (bs : List Int) (L : List (List (List Nat))) : Prop where
  asc : L.Pairwise ltP
  mem : ∀ p, p ∈ L ↔ PlG n 0 bs p
theorem asc0 {n : Nat} : Asc n [] [[]] := ⟨List.pairwise_singleton .., fun p => by
  rw [List.mem_singleton]
  constructor
  · rintro rfl
    exact trivial
  · intro h
    cases p with
    | nil => rfl
    | cons r x => exact h.elim⟩
theorem plG_snoc {n : Nat} {b : Int} {g : List Nat} : ∀ (br : Nat) (bs : List Int) (p : List (List Nat)), PlG n br (bs ++ [b]) (p ++ [g]) ↔ (PlG n br bs p ∧ GrOk 0 n (b.toNat + if p = [] then br else lastL p) g)
  | br, [], [] => ⟨fun h => ⟨trivial, h.1⟩, fun h => ⟨h.2, trivial⟩⟩
  | br, [], r :: x => ⟨fun h => by
      have := h.len
      simp at this, fun h => h.1.elim⟩
  | br, c :: bs, [] => ⟨fun h => by
      have := h.len
      simp at this, fun h => h.1.elim⟩
  | br, c :: bs, r :: x => by
    have ih := plG_snoc (n := n) (b := b) (g := g) r.length bs x
    have e : (if x = [] then r.length else lastL x) = lastL (r :: x) := by
      cases x with
      | nil => rfl
      | cons s y =>
        rw [if_neg (by intro z; cases z)]
        unfold lastL
        rw [List.getLast?_cons_cons]
    rw [e] at ih
    constructor
    · rintro ⟨h1, h2⟩
      obtain ⟨h3, h4⟩ := ih.mp h2
      refine ⟨⟨h1, h3⟩, ?_⟩
      rw [if_neg (by intro z; cases z)]
      exact h4
    · rintro ⟨⟨h1, h3⟩, h4⟩
      rw [if_neg (by intro z; cases z)] at h4
      exact ⟨h1, ih.mpr ⟨h3, h4⟩⟩
theorem ltP_snoc {p q : List (List Nat)} {g h : List Nat} : ltP p q → ltP (p ++ [g]) (q ++ [h]) := by
  induction p generalizing q with
  | nil => intro z; cases q <;> exact z.elim
  | cons r x ih =>
    intro z
    cases q with
    | nil => exact z.elim
    | cons s y =>
      rcases z with c | ⟨rfl, c⟩
      · exact .inl c
      · exact .inr ⟨rfl, ih c⟩
theorem ltP_same {g h : List Nat} : ∀ {p : List (List Nat)}, ltR g h → ltP (p ++ [g]) (p ++ [h])
  | [], z => .inl z
  | _ :: _, z => .inr ⟨rfl, ltP_same z⟩
/-- one stage more -/
theorem asc_succ {n : Nat} {bs : List Int} {b : Int} {L : List (List (List Nat))} {G : List (List Nat) → List (List Nat)} (h : Asc n bs L) (hG : ∀ p ∈ L, (G p).Pairwise ltR ∧ ∀ g, g ∈ G p ↔ GrOk 0 n (b.toNat + lastL p) g) : Asc n (bs ++ [b]) (L.flatMap fun p => (G p).map fun g => p ++ [g]) := by
  refine ⟨?_, fun p => ?_⟩
  · have hm := h.mem
    have ha := h.asc
    clear h
    have go : ∀ L : List (List (List Nat)), L.Pairwise ltP → (∀ p ∈ L, (G p).Pairwise ltR) → (L.flatMap fun p => (G p).map fun g => p ++ [g]).Pairwise ltP := by
      intro L
      induction L with
      | nil => intro _ _; exact List.Pairwise.nil
      | cons p L ih =>
        intro h1 h2
        obtain ⟨c1, c2⟩ := List.pairwise_cons.mp h1
        rw [List.flatMap_cons]
        refine List.pairwise_append.mpr ⟨List.pairwise_map.mpr ((h2 p List.mem_cons_self).imp fun z => ltP_same z), ih c2 fun q hq => h2 q (List.mem_cons_of_mem _ hq), fun x hx y hy => ?_⟩
        obtain ⟨g, _, rfl⟩ := List.mem_map.mp hx
        obtain ⟨q, hq, hy⟩ := List.mem_flatMap.mp hy
        obtain ⟨g2, _, rfl⟩ := List.mem_map.mp hy
        exact ltP_snoc (c1 q hq)
    exact go L ha fun p hp => (hG p hp).1
  · rw [List.mem_flatMap]
    have z0 : ∀ q : List (List Nat), (if q = [] then 0 else lastL q) = lastL q := fun q => by
      split
      · rename_i e
        rw [e]
        rfl
      · rfl
    constructor
    · rintro ⟨q, hq, hp⟩
      obtain ⟨g, hg, rfl⟩ := List.mem_map.mp hp
      refine (plG_snoc 0 bs q).mpr ⟨(h.mem q).mp hq, ?_⟩
      rw [z0]
      exact ((hG q hq).2 g).mp hg
    · intro hp
      rcases List.eq_nil_or_concat p with rfl | ⟨q, g, rfl⟩
      · have := hp.len
        simp at this
      · rw [List.concat_eq_append] at hp ⊢
        obtain ⟨h1, h2⟩ := (plG_snoc 0 bs q).mp hp
        rw [z0] at h2
        have hq := (h.mem q).mpr h1
        exact ⟨q, hq, List.mem_map.mpr ⟨g, ((hG q hq).2 g).mpr h2, rfl⟩⟩
end Pu
namespace Pu
open PySem L2 Rb Gm
theorem src_inB {k : Nat} {xs : List D} {S S' : Sto} {P : Prop} (h0 : S[k]? = some (.lst xs)) (h : S'[k]? = some (.lst xs)) (p : P) : srcOk (srcOf S (.cell k)) S' P := by
  have e : srcOf S (.cell k) = [(k, xs)] := by
    show src1 k (lstAt S[k]?) = _
    rw [h0]
    rfl
  rw [e]
  exact ⟨h, p⟩
theorem seq_inB {S : Sto} {k : Nat} {xs : List D} (h : S[k]? = some (.lst xs)) : seqOf S (.cell k) = some xs := by
  show lstAt S[k]? = _
  rw [h]
  rfl
theorem below_pIs {k : Nat} {L : List (List (List Int))} : belowAll k (L.map pI) = true := by
  refine below_iff.mpr fun d hd => ?_
  obtain ⟨b, _, rfl⟩ := List.mem_map.mp hd
  show belowAll k (b.map tupI) = true
  refine below_iff.mpr fun d hd => ?_
  obtain ⟨g, _, rfl⟩ := List.mem_map.mp hd
  exact below_ints g
/-! how great a count may be -/
end Pu
namespace Pu
open PySem L2 Rb Gm
theorem planV_pI (p : List (List Nat)) : planV p = pI (p.map nI) := by
  unfold planV pI
  rw [List.map_map]
  exact congrArg _ (List.map_congr_left fun g _ => riders_ti g)
theorem lastL_I (p : List (List Nat)) : lastI (p.map nI) = lastL p := by
  unfold lastI lastL
  rw [List.getLast?_map]
  cases p.getLast? with
  | none => rfl
  | some g => exact nI_len g
theorem before3_ok {p : List (List Nat)} {a0 a1 a2 a3 a4 a6 a7 : Option D} {S : Sto} {Q : QD} (q : Q (.int (lastL p : Int)) S) :
    (dIf (dTest (dBin iNe (dVar 5) (dTup dNil))) (dB gLen (dCons (dBin gIx (dVar 5) (dUn gNeg (dC (.int 1)))) dNil)) (dC (.int 0))) [a0, a1, a2, a3, a4, some (planV p), a6, a7] S Q noE := by
  rw [planV_pI]
  exact before_ok (by rw [lastL_I]; exact q)
theorem extend3_ok {p : List (List Nat)} {acc : List (List (List Nat))} {n : Nat} {before standing : Int} {A : Sto} {a0 a2 a7 : Option D} {Q : QD} (n2 : n ≤ 10) (b0 : 0 ≤ before) (s0 : 0 ≤ standing) (al : acc.length ≤ 2000000)
    (hp : p.length ≤ 20) (q : ∀ gs : List (List Nat), gs.Pairwise ltR → (∀ g, g ∈ gs ↔ GrOk 0 n (before + standing).toNat g) → gs.length ≤ 2 ^ n → Q .non (A ++ [.lst ((acc ++ gs.map fun g => p ++ [g]).map planV)])) :
    (dML gExtend (dVar 4) (dCons (dLc (st1 7) dYes (dBin gAdd (dVar 5) (dTup (dCons (dVar 7) dNil))) (dItS (dCallW F_law_groups (dCons (dVar 1) (dCons (dBin gAdd (dVar 6) (dVar 3)) dNil))))) dNil))
      [a0, some (.int (n : Int)), a2, some (.int standing), some (.cell A.length), some (planV p), some (.int before), a7] (A ++ [.lst (acc.map planV)]) Q noE := by
  have cl : cellOf (A ++ [.lst (acc.map planV)]) (.cell A.length) = some (A.length, acc.map planV) := by
    show (lstAt (A ++ [Cl.lst (acc.map planV)])[A.length]?).map _ = _
    rw [List.getElem?_append_right (Nat.le_refl _), Nat.sub_self]
    rfl
  have pw : 2 ^ n ≤ 1024 := show 2 ^ n ≤ 2 ^ 10 from Nat.pow_le_pow_right (by decide) n2
  refine onS cl (groups2_ok (by omega) (by omega) fun gs ga gm gl => ?_)
  refine ⟨szd (by show (gs.map ridersV).length ≤ 100000; rw [List.length_map]; omega), ?_⟩
  refine comp_mapB (src := []) ridersV (fun g => planV (p ++ [g])) (fun _ z => z) gs [] (fun g hg => ⟨_, rfl, fun Q' q' => ⟨szr rfl, ?_⟩⟩) ?_
  · refine ⟨szd (by show (p.map ridersV).length + 1 ≤ 100000; rw [List.length_map]; omega), ?_⟩
    have e : planV (p ++ [g]) = .tup (p.map ridersV ++ [ridersV g]) := by
      unfold planV
      rw [List.map_append]
      rfl
    rw [e] at q'
    exact q'
  rw [List.nil_append]
  refine onS cl ⟨szB (by rw [List.length_map, List.length_map]; omega), ?_⟩
  show Q .non ((A ++ [Cl.lst (acc.map planV)]).set A.length (Cl.lst (acc.map planV ++ gs.map fun g => planV (p ++ [g]))))
  have := q gs ga gm gl
  rw [List.map_append, List.map_map] at this
  rw [set_last]
  exact this
theorem inner3_ok {n : Nat} {standing : Int} {L : List (List (List Nat))} {A : Sto} {src : Src} {De : DEnds} {a0 a2 a5 a6 a7 : Option D} (n2 : n ≤ 10) (s0 : 0 ≤ standing) (Ll : L.length * 2 ^ n ≤ 2000000) (nd : L.Nodup) (lp : ∀ p ∈ L, p.length ≤ 20)
    (hs : ∀ X P, P → srcOk src (A ++ X) P) (q : ∀ (G : List (List Nat) → List (List Nat)) y5 y6 y7, (∀ p ∈ L, (G p).Pairwise ltR ∧ ∀ g, g ∈ G p ↔ GrOk 0 n (standing.toNat + lastL p) g) → (L.flatMap fun p => (G p).map fun g => p ++ [g]).length ≤ L.length * 2 ^ n →
      De.nx [a0, some (.int (n : Int)), a2, some (.int standing), some (.cell A.length), y5, y6, y7] (A ++ [.lst ((L.flatMap fun p => (G p).map fun g => p ++ [g]).map planV)])) :
    dLoop (gN 5) (dSeq (dAsg (dIf (dTest (dBin iNe (dVar 5) (dTup dNil))) (dB gLen (dCons (dBin gIx (dVar 5) (dUn gNeg (dC (.int 1)))) dNil)) (dC (.int 0))) (gN 6))
      (dDrop (dML gExtend (dVar 4) (dCons (dLc (st1 7) dYes (dBin gAdd (dVar 5) (dTup (dCons (dVar 7) dNil))) (dItS (dCallW F_law_groups (dCons (dVar 1) (dCons (dBin gAdd (dVar 6) (dVar 3)) dNil))))) dNil)))) src (L.map planV)
      [a0, some (.int (n : Int)), a2, some (.int standing), some (.cell A.length), a5, a6, a7] (A ++ [.lst []]) De noE := by
  refine for_inv (L.map planV) (fun j ρ S => ∃ (G : List (List Nat) → List (List Nat)) (y5 y6 y7 : Option D), ρ = [a0, some (.int (n : Int)), a2, some (.int standing), some (.cell A.length), y5, y6, y7] ∧ S = A ++ [.lst (((L.take j).flatMap fun p => (G p).map fun g => p ++ [g]).map planV)] ∧ j ≤ L.length ∧ ((L.take j).flatMap fun p => (G p).map fun g => p ++ [g]).length ≤ j * 2 ^ n ∧
      ∀ p ∈ L.take j, (G p).Pairwise ltR ∧ ∀ g, g ∈ G p ↔ GrOk 0 n (standing.toNat + lastL p) g)
    ⟨fun _ => [], _, _, _, rfl, rfl, Nat.zero_le _, Nat.zero_le _, fun x h => absurd h List.not_mem_nil⟩ ?_ ?_ ?_
  · rintro j x ρ S K hx hK ⟨G, y5, y6, y7, rfl, rfl, hj, hl, hG⟩
    rw [List.getElem?_map] at hx
    obtain ⟨p, hp, rfl⟩ := Option.map_eq_some_iff.mp hx
    have hj2 : j < L.length := (List.getElem?_eq_some_iff.mp hp).1
    have jl : j * 2 ^ n ≤ L.length * 2 ^ n := Nat.mul_le_mul_right _ hj
    have hn : p ∉ L.take j := fun h => by
      obtain ⟨i, hi, e⟩ := List.getElem_of_mem h
      rw [List.length_take] at hi
      rw [List.getElem_take] at e
      have hpj : L[j] = p := (List.getElem?_eq_some_iff.mp hp).2
      have := List.pairwise_iff_getElem.mp (List.nodup_iff_pairwise_ne.mp nd) i j (by omega) hj2 (by omega)
      exact this (e.trans hpj.symm)
    refine before3_ok ?_
    refine extend3_ok n2 (by omega) s0 (by omega) (lp p (List.mem_of_getElem? hp)) fun gs ga gm gl => hK _ _ ⟨fun q => if q = p then gs else G q, _, _, _, rfl, ?_, by omega, ?_, fun q hq => ?_⟩
    · rw [List.take_add_one, hp, List.flatMap_append]
      have e1 : ((L.take j).flatMap fun q => (if q = p then gs else G q).map fun g => q ++ [g]) = (L.take j).flatMap fun q => (G q).map fun g => q ++ [g] := by
        rw [List.flatMap_def, List.flatMap_def]
        congr 1
        refine List.map_congr_left fun q hq => ?_
        rw [if_neg (fun e : q = p => hn (e ▸ hq))]
      rw [e1]
      simp
    · rw [List.take_add_one, hp, List.flatMap_append]
      have e1 : ((L.take j).flatMap fun q => (if q = p then gs else G q).map fun g => q ++ [g]) = (L.take j).flatMap fun q => (G q).map fun g => q ++ [g] := by
        rw [List.flatMap_def, List.flatMap_def]
        congr 1
        refine List.map_congr_left fun q hq => ?_
        rw [if_neg (fun e : q = p => hn (e ▸ hq))]
      rw [e1, List.length_append, Nat.succ_mul]
      have : (Option.toList (some p)).flatMap (fun q => (if q = p then gs else G q).map fun g => q ++ [g]) = gs.map fun g => p ++ [g] := by simp
      rw [this, List.length_map]
      omega
    · rw [List.take_add_one, hp] at hq
      rcases List.mem_append.mp hq with z | z
      · dsimp only
        rw [if_neg (fun e : q = p => hn (e ▸ z))]
        exact hG q z
      · have e : q = p := by simpa using z
        subst e
        dsimp only
        rw [if_pos rfl]
        refine ⟨ga, fun g => ?_⟩
        rw [gm g, show ((lastL q : Int) + standing).toNat = standing.toNat + lastL q by omega]
  · rintro ρ S ⟨G, y5, y6, y7, rfl, rfl, hj, hl, hG⟩
    rw [List.length_map, List.take_length] at hl hG
    rw [List.length_map, List.take_length]
    exact q G _ _ _ hG hl
  · rintro i ρ S ⟨G, y5, y6, y7, rfl, rfl, _⟩ P z
    exact hs _ P z
end Pu
namespace Pu
open PySem L2 Rb Gm
theorem Asc.nodup {n : Nat} {bs : List Int} {L : List (List (List Nat))} (h : Asc n bs L) : L.Nodup := List.nodup_iff_pairwise_ne.mpr (h.asc.imp fun {a b} z (e : a = b) => ltP_irr a (by
  subst e
  exact z))
theorem below_plans3 {k : Nat} {L : List (List (List Nat))} : belowAll k (L.map planV) = true := by
  have e : L.map planV = (L.map (List.map nI)).map pI := by
    rw [List.map_map]
    exact List.map_congr_left fun p _ => planV_pI p
  rw [e]
  exact below_pIs
theorem plans3_ok {wk rd : Int} {bs : List Int} {n : Nat} {Q : QD} {E : ED} (n2 : n ≤ 10) (l2 : bs.length ≤ 5) (hb : ∀ b ∈ bs, 0 ≤ b) (few : (2 ^ n) ^ bs.length ≤ 2000000) (q : ∀ (f : Bool) (L : List (List (List Nat))), Asc n bs L → L.length ≤ (2 ^ n) ^ bs.length → Q (.lst f (L.map planV)) []) : F_law_plans [roadV wk rd bs, .int (n : Int)] [] Q E := by
  unfold F_law_plans
  refine ⟨rfl, szr rfl, szr rfl, ?_⟩
  show dLoop _ _ _ (bs.map D.int) _ _ _ _
  refine for_inv (src := []) (bs.map D.int) (fun i ρ S' => ∃ (T : Sto) (v2 : D) (L : List (List (List Nat))) (b : Bool) (y3 y4 y5 y6 y7 : Option D), ρ = [some (roadV wk rd bs), some (.int (n : Int)), some v2, y3, y4, y5, y6, y7] ∧ (v2 = .lst b (L.map planV) ∨ (v2 = .cell T.length ∧ S' = T ++ [.lst (L.map planV)])) ∧ L.length ≤ (2 ^ n) ^ i ∧ Asc n (bs.take i) L)
    ⟨[], _, [[]], _, _, _, _, _, _, rfl, .inl rfl, Nat.le_refl _, asc0⟩ ?_ ?_
  · rintro i x ρ S' K hx hK ⟨T, v2, L, b, y3, y4, y5, y6, y7, rfl, hv, ll, ha⟩
    rw [List.getElem?_map] at hx
    obtain ⟨s, hbi, rfl⟩ := Option.map_eq_some_iff.mp hx
    have hi : i < bs.length := (List.getElem?_eq_some_iff.mp hbi).1
    have s0 : 0 ≤ s := hb s (List.mem_of_getElem? hbi)
    have p1 : 1 ≤ 2 ^ n := Nat.pos_of_ne_zero (by simp)
    have pw : (2 ^ n) ^ i * 2 ^ n ≤ (2 ^ n) ^ bs.length := by
      rw [← Nat.pow_succ]
      exact Nat.pow_le_pow_right p1 hi
    have Ll : L.length * 2 ^ n ≤ 2000000 := Nat.le_trans (Nat.mul_le_mul_right _ ll) (Nat.le_trans pw few)
    have lp : ∀ p ∈ L, p.length ≤ 20 := fun p hp => by
      have := ((ha.mem p).mp hp).len
      rw [List.length_take] at this
      omega
    have fin : ∀ (G : List (List Nat) → List (List Nat)) (y5 y6 y7 : Option D), (∀ p ∈ L, (G p).Pairwise ltR ∧ ∀ g, g ∈ G p ↔ GrOk 0 n (s.toNat + lastL p) g) → (L.flatMap fun p => (G p).map fun g => p ++ [g]).length ≤ L.length * 2 ^ n →
        K [some (roadV wk rd bs), some (.int (n : Int)), some (.cell S'.length), some (.int s), some (.cell S'.length), y5, y6, y7] (S' ++ [.lst ((L.flatMap fun p => (G p).map fun g => p ++ [g]).map planV)]) := fun G y5 y6 y7 hG gl => hK _ _ ⟨S', _, _, true, _, _, _, _, _, rfl, .inr ⟨rfl, rfl⟩, by
          rw [Nat.pow_succ]
          exact Nat.le_trans gl (Nat.mul_le_mul_right _ ll), by
          rw [List.take_add_one, hbi]
          exact asc_succ ha hG⟩
    refine ⟨szr rfl, ?_⟩
    rcases hv with rfl | ⟨rfl, rfl⟩
    · exact inner3_ok n2 s0 Ll ha.nodup lp (fun _ _ z => z) fin
    · refine onS (seq_inB (xs := L.map planV) (by rw [List.append_assoc, List.getElem?_append_right (Nat.le_refl _), Nat.sub_self]; rfl)) ?_
      exact inner3_ok n2 s0 Ll ha.nodup lp (fun X P z => src_inB (xs := L.map planV) (by rw [List.append_assoc, List.getElem?_append_right (Nat.le_refl _), Nat.sub_self]; rfl) (by rw [List.append_assoc, List.getElem?_append_right (Nat.le_refl _), Nat.sub_self]; rfl) z) fin
  · rintro ρ S' ⟨T, v2, L, b, y3, y4, y5, y6, y7, rfl, hv, ll, ha⟩
    rw [List.length_map] at ll ha
    rw [List.take_length] at ha
    rcases hv with rfl | ⟨rfl, rfl⟩
    · refine ⟨⟨rfl, rfl⟩, onS (a := .lst b (L.map planV)) ?_ (q b _ ha ll)⟩
      show (if belowAll 0 (L.map planV) = true then some (D.lst b (L.map planV)) else none) = _
      rw [below_plans3]
      rfl
    · refine ⟨⟨rfl, rfl⟩, onS (a := .lst false (L.map planV)) ?_ (q false _ ha ll)⟩
      show (match (T ++ [Cl.lst (L.map planV)])[T.length]? with
        | some (.lst xs) => if belowAll 0 xs = true then some (D.lst false xs) else none
        | some (.ins x fs) => if belowFs 0 fs = true then some (D.ins x fs) else none
        | none => none) = _
      rw [List.getElem?_append_right (Nat.le_refl _), Nat.sub_self]
      show (if belowAll 0 (L.map planV) = true then some (D.lst false (L.map planV)) else none) = _
      rw [below_plans3]
      rfl
end Pu
namespace Pu
open PySem L2 Rb Gm
/-! ## how many plans -/
theorem asc_any (n : Nat) (bs : List Int) : ∃ L, Asc n bs L := by
  obtain ⟨ds, c, hd⟩ := plans_any (n := n) (bs := bs)
  exact ⟨ds, (ch_asc c (plG_min 0 bs).1).1, hd⟩
theorem asc_uniq {n : Nat} {bs : List Int} {L M : List (List (List Nat))} (h1 : Asc n bs L) (h2 : Asc n bs M) : L = M := asc_same h1.asc h2.asc fun x => (h1.mem x).trans (h2.mem x).symm
/-- the groups, ascending -/
theorem grp_any (n m : Nat) : ∃ gs : List (List Nat), gs.Pairwise ltR ∧ ∀ g, g ∈ gs ↔ GrOk 0 n m g := by
  obtain ⟨L, h⟩ := asc_any n [(m : Int)]
  have one : ∀ p, p ∈ L → ∃ g, p = [g] ∧ GrOk 0 n m g := fun p hp => by
    have := (h.mem p).mp hp
    cases p with
    | nil => exact this.elim
    | cons g x =>
      cases x with
      | nil => exact ⟨g, rfl, this.1⟩
      | cons _ _ => exact this.2.elim
  refine ⟨L.map fun p => p.headD [], ?_, fun g => ?_⟩
  · refine List.pairwise_map.mpr ?_
    have ha := h.asc
    have : ∀ {l : List (List (List Nat))}, (∀ p ∈ l, ∃ g, p = [g] ∧ GrOk 0 n m g) → l.Pairwise ltP → l.Pairwise fun a b => ltR (a.headD []) (b.headD []) := by
      intro l
      induction l with
      | nil => intro _ _; exact List.Pairwise.nil
      | cons p l ih =>
        intro h1 h2
        obtain ⟨c1, c2⟩ := List.pairwise_cons.mp h2
        refine List.pairwise_cons.mpr ⟨fun q hq => ?_, ih (fun q hq => h1 q (List.mem_cons_of_mem _ hq)) c2⟩
        obtain ⟨g, rfl, _⟩ := h1 p List.mem_cons_self
        obtain ⟨g2, rfl, _⟩ := h1 q (List.mem_cons_of_mem _ hq)
        rcases c1 _ hq with z | ⟨_, z⟩
        · exact z
        · exact z.elim
    exact this one ha
  · constructor
    · intro hg
      obtain ⟨p, hp, e⟩ := List.mem_map.mp hg
      obtain ⟨g', rfl, ok⟩ := one p hp
      have e : g' = g := e
      exact e ▸ ok
    · intro ok
      exact List.mem_map.mpr ⟨[g], (h.mem _).mpr ⟨ok, trivial⟩, rfl⟩
theorem ltR_nodup {gs : List (List Nat)} (h : gs.Pairwise ltR) : gs.Nodup := List.nodup_iff_pairwise_ne.mpr (h.imp fun {a b} z (e : a = b) => ltR_irr a (by
  subst e
  exact z))
def grN (n m : Nat) : Nat := (grpM m n).length
theorem grN_eq {n m : Nat} {gs : List (List Nat)} (h : gs.Nodup) (hm : ∀ g, g ∈ gs ↔ GrOk 0 n m g) : gs.length = grN n m :=
  ((List.perm_ext_iff_of_nodup h (grp_nodup n)).mpr fun g => (hm g).trans (grp_ok n g).symm).length_eq
theorem grOk_len {lo n m : Nat} {g : List Nat} (h : GrOk lo n m g) : g.length ≤ n := by
  have := len_le_of (n := n) (l := g) (m := List.range n) (h.asc.imp fun h => Nat.ne_of_lt h) List.nodup_range (fun q hq => List.mem_range.mp hq) fun q hq => List.mem_range.mpr (h.hi q hq)
  rw [List.length_range] at this
  exact this
theorem grN_count {n m : Nat} : grN n m = (grpM n n).countP fun g => decide (g.length ≤ m) := by
  rw [List.countP_eq_length_filter]
  refine ((List.perm_ext_iff_of_nodup (grp_nodup n) ((grp_nodup n).filter _)).mpr fun g => ?_).length_eq
  rw [List.mem_filter, grp_ok, grp_ok]
  constructor
  · intro h
    exact ⟨⟨h.asc, h.lo, h.hi, grOk_len h⟩, decide_eq_true h.len⟩
  · rintro ⟨h, e⟩
    exact ⟨h.asc, h.lo, h.hi, of_decide_eq_true e⟩
theorem grN_mono {n m m' : Nat} (h : m ≤ m') : grN n m ≤ grN n m' := by
  rw [grN_count, grN_count]
  refine List.countP_mono_left fun g _ e => decide_eq_true ?_
  have := of_decide_eq_true e
  omega
theorem grN_cap {n m : Nat} : grN n m = grN n (min n m) := by
  rw [grN_count, grN_count]
  refine List.countP_congr fun g hg => ?_
  have := grOk_len ((grp_ok n g).mp hg)
  simp only [decide_eq_true_eq]
  omega
theorem flat_le {α β : Type} {f : α → List β} {k : Nat} : ∀ {l : List α}, (∀ x ∈ l, (f x).length ≤ k) → (l.flatMap f).length ≤ l.length * k
  | [], _ => Nat.zero_le _
  | x :: l, h => by
    rw [List.flatMap_cons, List.length_append, List.length_cons, Nat.succ_mul]
    have := flat_le (l := l) fun y hy => h y (List.mem_cons_of_mem _ hy)
    have := h x List.mem_cons_self
    omega
/-- one stage more: so many plans at the most -/
theorem asc_bound {n v c : Nat} {bs : List Int} {b : Int} (h : ∀ L, Asc n bs L → L.length ≤ v ∧ ∀ p ∈ L, lastL p ≤ c) : ∀ L, Asc n (bs ++ [b]) L → L.length ≤ v * grN n (min n (b.toNat + c)) ∧ ∀ p ∈ L, lastL p ≤ min n (b.toNat + c) := by
  intro M hM
  obtain ⟨L, hL⟩ := asc_any n bs
  obtain ⟨h1, h2⟩ := h L hL
  have ex := fun p : List (List Nat) => grp_any n (b.toNat + lastL p)
  have hs := asc_succ (b := b) (G := fun p => Classical.choose (ex p)) hL fun p _ => Classical.choose_spec (ex p)
  have e := asc_uniq hM hs
  subst e
  refine ⟨Nat.le_trans (flat_le (k := grN n (min n (b.toNat + c))) fun p hp => ?_) (Nat.mul_le_mul_right _ h1), fun p hp => ?_⟩
  · obtain ⟨s1, s2⟩ := Classical.choose_spec (ex p)
    rw [List.length_map, grN_eq (ltR_nodup s1) s2, ← grN_cap]
    exact grN_mono (by have := h2 p hp; omega)
  · obtain ⟨q, hq, hp⟩ := List.mem_flatMap.mp hp
    obtain ⟨g, hg, rfl⟩ := List.mem_map.mp hp
    obtain ⟨_, s2⟩ := Classical.choose_spec (ex q)
    have ok := (s2 g).mp hg
    rw [lastL_snoc]
    have := h2 q hq
    have := ok.len
    have := grOk_len ok
    omega
end Pu
namespace Pu
open PySem L2 Rb Gm
theorem bound3_ok {wk rd : Int} {bs : List Int} {n : Nat} {S : Sto} {Q : QD} {E : ED} (n2 : n ≤ 10) (hb : ∀ b ∈ bs, 0 ≤ b) (q : ∀ v : Nat, (∀ L, Asc n bs L → L.length ≤ v) → (bs.length ≤ 1 → v ≤ 2 ^ n) → Q (.int (v : Int)) S) : F_law_bound [roadV wk rd bs, .int (n : Int)] S Q E := by
  unfold F_law_bound
  refine ⟨rfl, szr rfl, rfl, ?_⟩
  show dLoop _ _ [] (bs.map D.int) _ _ _ _
  refine for_inv (src := []) (bs.map D.int) (fun j ρ S' => S' = S ∧ ∃ (v c : Nat) (y4 : Option D), ρ = [some (roadV wk rd bs), some (.int (n : Int)), some (.int (v : Int)), some (.int (c : Int)), y4] ∧ (∀ L, Asc n (bs.take j) L → L.length ≤ v ∧ ∀ p ∈ L, lastL p ≤ c) ∧ (j ≤ 1 → v ≤ 2 ^ n) ∧ (j = 0 → v = 1)) ⟨rfl, 1, 0, _, rfl, fun L hL => ?_, fun _ => Nat.pos_of_ne_zero (by simp), fun _ => rfl⟩ ?_ ?_
  · rw [asc_uniq hL (show Asc n (bs.take 0) [[]] from asc0)]
    exact ⟨Nat.le_refl _, fun p hp => by rw [List.mem_singleton.mp hp]; exact Nat.le_refl _⟩
  · rintro j x ρ S' K hx hK ⟨rfl, v, c, y4, rfl, hL, h1, h0⟩
    rw [List.getElem?_map] at hx
    obtain ⟨s, hs, rfl⟩ := Option.map_eq_some_iff.mp hx
    have s0 := hb s (List.mem_of_getElem? hs)
    have ec : (if (c : Int) + s < (n : Int) then (c : Int) + s else (n : Int)) = ((min n (s.toNat + c) : Nat) : Int) := by split <;> omega
    show F_law_groups [.int (n : Int), .int (if (c : Int) + s < (n : Int) then (c : Int) + s else (n : Int))] S' _ _
    rw [ec]
    refine groups2_ok n2 (by omega) fun gs ga gm gl => ?_
    rw [Int.toNat_natCast] at gm
    have pw : 2 ^ n ≤ 1024 := show 2 ^ n ≤ 2 ^ 10 from Nat.pow_le_pow_right (by decide) n2
    have ge := grN_eq (ltR_nodup ga) gm
    have el : (gs.map ridersV).length = gs.length := List.length_map ..
    have em : (v : Int) * ((gs.map ridersV).length : Int) = ((v * gs.length : Nat) : Int) := by rw [el]; exact (Int.natCast_mul v gs.length).symm
    refine ⟨.inl (.inr ⟨by show (-(2 ^ 64) : Int) < ((gs.map ridersV).length : Int); omega, by show ((gs.map ridersV).length : Int) < 2 ^ 64; omega⟩), hK _ _ ⟨rfl, v * gs.length, min n (s.toNat + c), _, by rw [← em], ?_, fun z => ?_, fun z => by omega⟩⟩
    · rw [List.take_add_one, hs, ge]
      exact asc_bound hL
    · have : j = 0 := by omega
      rw [h0 this, Nat.one_mul]
      exact gl
  · rintro ρ S' ⟨rfl, v, c, y4, rfl, hL, h1, h0⟩
    rw [List.length_map, List.take_length] at hL
    rw [List.length_map] at h1
    exact q v (fun L h => (hL L h).1) h1
theorem small3_ok {S T : Sto} {N : Int} {Q : QD} {E : ED} (h : Nk S N T) (hN : N ≤ 800000)
    (q : ∀ wk rd (bs : List Int) (n : Nat) (b : Bool) S', RoadOk wk rd bs → bs.length ≤ 5 → 1 ≤ n → n ≤ 4 → (∀ L, Asc n bs L → L.length ≤ 500) → Nk S' (N + 50) T → Q (.lst b [roadV wk rd bs, .int (n : Int)]) S') : F_law_small [.cell 1, .int 500] S Q E := by
  unfold F_law_small
  refine ⟨rfl, road3_ok (st := 5) (mo := 2) h (by omega) (by decide) (by decide) (by decide) (by decide) fun wk rd bs S1 R bl _ d1 => ?_⟩
  refine next_ok d1 (by omega) (by decide) (by decide) fun r S2 r0 r1 d2 => ?_
  obtain ⟨n, en⟩ : ∃ n : Nat, 1 + r = (n : Int) := ⟨(1 + r).toNat, by omega⟩
  refine ⟨fun m ρ S' => ∃ bs' : List Int, ρ = [some (.cell 1), some (.int 500), some (roadV wk rd bs'), some (.int (n : Int))] ∧ S' = S2 ∧ RoadOk wk rd bs' ∧ bs'.length ≤ 5 ∧ bs'.length = m, ⟨bs.length, bs, by rw [← en]; rfl, rfl, R, by omega, rfl⟩, ?_⟩
  rintro m ρ S' ⟨bs', rfl, rfl, R', l5, rfl⟩
  have l1 := R'.l1
  refine bound3_ok (by omega) (fun x hx => (R'.hb x hx).1) fun v hv h1 => ?_
  refine ifB (b := decide (500 < (v : Int))) (fun hd => ?_) fun hd => ?_
  · have hd := of_decide_eq_true hd
    have p16 : 2 ^ n ≤ 16 := show 2 ^ n ≤ 2 ^ 4 from Nat.pow_le_pow_right (by decide) (by omega)
    have l2 : 2 ≤ bs'.length := by
      rcases Nat.lt_or_ge bs'.length 2 with z | z
      · have := h1 (by omega)
        omega
      · exact z
    have ne : bs' ≠ [] := fun z => by rw [z] at l2; simp at l2
    have ed : cutD (bs'.map D.int) none (some (-1)) = bs'.dropLast.map D.int := by
      have e := List.dropLast_concat_getLast ne
      conv => lhs; rw [← e]
      rw [List.map_append]
      exact cut_init
    have R2 : RoadOk wk rd bs'.dropLast := ⟨R'.rd1, R'.lt, R'.w2, by rw [List.length_dropLast]; omega, by rw [List.length_dropLast]; omega, fun x hx => R'.hb x (List.dropLast_subset _ hx)⟩
    refine ⟨szr rfl, bs'.length - 1, by omega, bs'.dropLast, ?_, rfl, R2, by rw [List.length_dropLast]; omega, by rw [List.length_dropLast]⟩
    show [some (D.cell 1), some (D.int 500), some (D.tup [.int wk, .int rd, .tup (cutD (bs'.map D.int) none (some (-1)))]), some (D.int (n : Int))] = _
    rw [ed]
    rfl
  · have hd := of_decide_eq_false hd
    exact ⟨szr rfl, q wk rd bs' n _ _ R' l5 (by omega) (by omega) (fun L hL => by have := hv L hL; omega) (d2.le (by omega))⟩
end Pu
namespace Pu
open PySem L2 Rb Gm
/-! ## the draws of k18 to k23: cells of any sign -/
def Mk (S : Sto) (N : Int) (T : Sto) : Prop := ∃ cs rs n, S = stateS cs rs n ++ T ∧ 1 ≤ cs.length ∧ cs.length ≤ 64 ∧ rs.length = cs.length ∧ (∀ x ∈ rs, 0 ≤ x) ∧ 0 ≤ n ∧ n ≤ N
theorem Mk.le {S : Sto} {N M : Int} {T : Sto} (h : Mk S N T) (e : N ≤ M) : Mk S M T := by
  obtain ⟨cs, rs, n, h1, h2, h3, h4, h6, h7, h8⟩ := h
  exact ⟨cs, rs, n, h1, h2, h3, h4, h6, h7, by omega⟩
theorem Mk.len {S : Sto} {N : Int} {T : Sto} (h : Mk S N T) : S.length = 2 + T.length := by
  obtain ⟨cs, rs, n, rfl, _⟩ := h
  rw [List.length_append]
  rfl
theorem Mk.take2 {S : Sto} {N : Int} {T : Sto} (h : Mk S N T) : Mk (S.take 2) N [] ∧ S.drop 2 = T ∧ (S.take 2).all (Cl.below 2) = true ∧ (S.take 2).length = 2 := by
  obtain ⟨cs, rs, n, rfl, h⟩ := h
  refine ⟨⟨cs, rs, n, rfl, h⟩, rfl, ?_, rfl⟩
  show (belowAll 2 (rs.map D.int) && ((belowAll 2 (cs.map D.int) && (true && (true && true))) && true)) = true
  rw [below_ints, below_ints]
  rfl
theorem Mk.app {S T : Sto} {N : Int} (h : Mk S N []) : Mk (S ++ T) N T := by
  obtain ⟨cs, rs, n, rfl, h⟩ := h
  exact ⟨cs, rs, n, by rw [List.append_nil], h⟩
theorem Mk.l2 {S T S1 : Sto} {N : Int} (h : Mk S N T) (l : S1.length = 2) : S1.length = (S.take 2).length := l.trans h.take2.2.2.2.symm
theorem Mk.back {S T S1 : Sto} {N M : Int} (h : Mk S N T) (d : Mk S1 M []) : Mk (S1 ++ S.drop 2) M T := by
  rw [h.take2.2.1]
  exact d.app
end Pu
namespace Pu
open PySem L2 Rb Gm
/-! ## the laws' own finish -/
/-! ## more bicycles at a station -/
/-! ## the least number -/
structure FewOk (f : Nat → Int) (e : Int) (n : Nat) (d : D) : Prop where
  w : (d = .non ∧ ∀ m : Nat, m ≤ n → e < f m) ∨ ∃ m : Nat, m ≤ n ∧ d = .int (m : Int) ∧ f m ≤ e ∧ ∀ k : Nat, k < m → e < f k
theorem FewOk.rep {f : Nat → Int} {e : Int} {n : Nat} {d : D} (h : FewOk f e n d) (hn : n ≤ 100) : Rep 0 0 d := by
  rcases h.w with ⟨rfl, a⟩ | ⟨m, m1, rfl, m2, m3⟩
  · exact Rep.non
  · exact Rep.int (by omega) (by omega)
end Pu
namespace Pu
open PySem L2 Rb Gm
/-! ## one person more or less, bicycles at a station -/
/-! ## how late one more person may begin -/
structure LateOk (g : Int → Int) (e : Int) (d : D) : Prop where
  w : (d = .non ∧ ∀ s : Int, 0 ≤ s → e < g s) ∨ ∃ s : Int, d = .int s ∧ 0 ≤ s ∧ s ≤ e ∧ g s ≤ e ∧ ∀ s' : Int, s < s' → e < g s'
theorem LateOk.rep {g : Int → Int} {e : Int} {d : D} (h : LateOk g e d) (he : e ≤ 100000000) : Rep 0 0 d := by
  rcases h.w with ⟨rfl, a⟩ | ⟨s, rfl, s0, se, s1, s2⟩
  · exact Rep.non
  · exact Rep.int (by omega) (by omega)
end Pu
namespace Pu
open PySem L2 Rb Gm
/-! ## who walks -/
def lf (p i : Nat) : Nat := if i < p then i else i + 1
end Pu
namespace Pu
open PySem L2 Rb Gm
/-! ## the group that follows, by its last -/
section
variable {n : Nat}
theorem nxR_app : ∀ (pre : List Nat) (lo m a : Nat), GrOk lo n m (pre ++ [a]) → a + 1 < n → pre.length + 1 < m → nxR n lo m (pre ++ [a]) = some (pre ++ [a] ++ [a + 1])
  | [], lo, m, a, _, h1, h2 => by
    have h2 : 0 + 1 < m := h2
    show nxR n lo m [a] = _
    unfold nxR
    have : nxR n (a + 1) (m - 1) [] = some [a + 1] := by
      unfold nxR
      rw [if_pos ⟨h1, by omega⟩]
    rw [this]
    rfl
  | c :: pre, lo, m, a, ok, h1, h2 => by
    have h2 : pre.length + 1 + 1 < m := h2
    show nxR n lo m (c :: (pre ++ [a])) = _
    unfold nxR
    rw [nxR_app pre (c + 1) (m - 1) a ok.tail.2.2.2 h1 (by omega)]
    rfl
theorem nxR_full : ∀ (pre : List Nat) (lo m a : Nat), GrOk lo n m (pre ++ [a]) → a + 1 < n → pre.length + 1 = m → nxR n lo m (pre ++ [a]) = some (pre ++ [a + 1])
  | [], lo, m, a, _, h1, h2 => by
    have h2 : 0 + 1 = m := h2
    show nxR n lo m [a] = _
    unfold nxR
    have : nxR n (a + 1) (m - 1) [] = none := by
      unfold nxR
      rw [if_neg (by omega)]
    rw [this]
    dsimp only
    rw [if_pos h1]
    rfl
  | c :: pre, lo, m, a, ok, h1, h2 => by
    have h2 : pre.length + 1 + 1 = m := h2
    show nxR n lo m (c :: (pre ++ [a])) = _
    unfold nxR
    rw [nxR_full pre (c + 1) (m - 1) a ok.tail.2.2.2 h1 (by omega)]
    rfl
theorem nxR_one {lo m a : Nat} (h : ¬ a + 1 < n) : nxR n lo m [a] = none := by
  unfold nxR
  have : nxR n (a + 1) (m - 1) [] = none := by
    unfold nxR
    rw [if_neg (fun z => h z.1)]
  rw [this]
  dsimp only
  rw [if_neg h]
theorem nxR_back : ∀ (pre : List Nat) (lo m b a : Nat), GrOk lo n m (pre ++ [b] ++ [a]) → ¬ a + 1 < n → nxR n lo m (pre ++ [b] ++ [a]) = some (pre ++ [b + 1])
  | [], lo, m, b, a, ok, h1 => by
    have ok2 : GrOk lo n m (b :: [a]) := ok
    obtain ⟨_, _, _, ok3⟩ := ok2.tail
    obtain ⟨c1, c2, _, _⟩ := ok3.tail
    show nxR n lo m (b :: [a]) = _
    unfold nxR
    rw [nxR_one h1]
    dsimp only
    rw [if_pos (by omega)]
    rfl
  | c :: pre, lo, m, b, a, ok, h1 => by
    have ok2 : GrOk lo n m (c :: (pre ++ [b] ++ [a])) := ok
    show nxR n lo m (c :: (pre ++ [b] ++ [a])) = _
    unfold nxR
    rw [nxR_back pre (c + 1) (m - 1) b a ok2.tail.2.2.2 h1]
    rfl
end
def optP (f : α → D) : Option α → D
  | some x => f x
  | none => .non
theorem natsV_app (a b : List Nat) : natsV (a ++ b) = natsV a ++ natsV b := by unfold natsV; rw [List.map_append]
section
variable {S : Sto} {Q : QD} {E : ED} {n m : Nat}
theorem ridersV_app (pre : List Nat) (a : Nat) : ridersV (pre ++ [a]) = .tup (natsV pre ++ [.int (a : Int)]) := by
  unfold ridersV
  rw [natsV_app]
  rfl
def foll2 : FS := (dSeq (dAsg (dIf (dTest (dBin gLt (dVar 3) (dVar 0))) (dVar 1) (dSl (dVar 1) dNoP (dPart (dUn gNeg (dC (.int 1)))))) (gN 4))
 (dSeq (dIfS (dNot (dTestU (dVar 4)))
 (dRet (dC .non))
 dSkip)
 (dRet (dBin gAdd (dSl (dVar 4) dNoP (dPart (dUn gNeg (dC (.int 1))))) (dTup (dCons (dBin gAdd (dBin gIx (dVar 4) (dUn gNeg (dC (.int 1)))) (dC (.int 1))) dNil))))))
def foll3 : FS := (dSeq (dIfS (dNot (dTestU (dVar 4)))
 (dRet (dC .non))
 dSkip)
 (dRet (dBin gAdd (dSl (dVar 4) dNoP (dPart (dUn gNeg (dC (.int 1))))) (dTup (dCons (dBin gAdd (dBin gIx (dVar 4) (dUn gNeg (dC (.int 1)))) (dC (.int 1))) dNil)))))
theorem foll3_ok {pre : List Nat} {b : Nat} {De : DEnds} {y0 y1 y2 y3 : Option D} (hl : pre.length ≤ 1000) (q : De.rt (ridersV (pre ++ [b + 1])) S) : foll3 [y0, y1, y2, y3, some (ridersV (pre ++ [b]))] S De noE := by
  have nl : (natsV pre).length = pre.length := natsV_len pre
  rw [ridersV_app] at q ⊢
  unfold foll3
  refine ifF (b := !(!(natsV pre ++ [D.int (b : Int)]).isEmpty)) (by cases natsV pre <;> rfl) ?_
  refine onS (atI_last _ _) ⟨szr rfl, ?_⟩
  rw [cut_init]
  exact ⟨szd (by show (natsV pre).length + 1 ≤ 100000; omega), q⟩
theorem foll3_nil {De : DEnds} {y0 y1 y2 y3 : Option D} (q : De.rt .non S) : foll3 [y0, y1, y2, y3, some (.tup [])] S De noE := by
  exact q
theorem foll_ok {r : List Nat} (ok : GrOk 0 n m r) (hm : m ≤ 1000) (hn : n ≤ 1000) (q : Q (optP ridersV (nxR n 0 m r)) S) : F_following_riders [.int (n : Int), ridersV r, .int (m : Int)] S Q E := by
  have rl := ok.len
  unfold F_following_riders
  refine ⟨rfl, ?_⟩
  rcases List.eq_nil_or_concat r with rfl | ⟨pre, a, er⟩
  · have e : nxR n 0 m [] = if 0 < n ∧ 0 < m then some [0] else none := rfl
    rw [e] at q
    by_cases h : 0 < n ∧ 0 < m
    · rw [if_pos h] at q
      refine ifT (b := decide ((0 : Int) < (n : Int))) (decide_eq_true (by omega)) ?_
      refine ifT (b := decide ((([] : List D).length : Int) < (m : Int))) (decide_eq_true (by show ((0 : Nat) : Int) < m; omega)) ?_
      exact ⟨szr rfl, szr rfl, q⟩
    · rw [if_neg h] at q
      have go : foll2 [some (.int (n : Int)), some (ridersV []), some (.int (m : Int)), some (.int 0), none] S ⟨fun _ S' => Q .non S', Q, fun _ _ => False, fun _ _ => False⟩ noE := by
        unfold foll2
        refine ifB (fun hc => ?_) fun hc => ?_
        · show foll3 [some (.int (n : Int)), some (ridersV []), some (.int (m : Int)), some (.int 0), some (.tup [])] S _ noE
          exact foll3_nil q
        · show foll3 [some (.int (n : Int)), some (ridersV []), some (.int (m : Int)), some (.int 0), some (.tup [])] S _ noE
          exact foll3_nil q
      by_cases h1 : 0 < n
      · refine ifT (b := decide ((0 : Int) < (n : Int))) (decide_eq_true (by omega)) ?_
        exact ifF (b := decide ((([] : List D).length : Int) < (m : Int))) (decide_eq_false (by show ¬ ((0 : Nat) : Int) < m; omega)) go
      · exact ifF (b := decide ((0 : Int) < (n : Int))) (decide_eq_false (by omega)) go
  · rw [List.concat_eq_append] at er
    subst er
    have nl : (natsV pre).length = pre.length := natsV_len pre
    rw [List.length_append] at rl
    have rl : pre.length + 1 ≤ m := rl
    have al : a < n := ok.hi a (List.mem_append_right _ (List.mem_singleton.mpr rfl))
    rw [ridersV_app]
    refine ifT (b := !(natsV pre ++ [D.int (a : Int)]).isEmpty) (by cases natsV pre <;> rfl) ?_
    refine onS (atI_last _ _) ?_
    by_cases h1 : a + 1 < n
    · refine ifT (b := decide ((a : Int) + 1 < (n : Int))) (decide_eq_true (by omega)) ?_
      by_cases h2 : pre.length + 1 < m
      · refine ifT (b := decide (((natsV pre ++ [D.int (a : Int)]).length : Int) < (m : Int))) (decide_eq_true (by rw [List.length_append, nl]; show ((pre.length + 1 : Nat) : Int) < m; omega)) ?_
        rw [nxR_app pre 0 m a ok h1 h2] at q
        refine ⟨szr rfl, szd (by show (natsV pre ++ [D.int (a : Int)]).length + 1 ≤ 100000; rw [List.length_append, nl]; show pre.length + 1 + 1 ≤ _; omega), ?_⟩
        have e : ridersV (pre ++ [a] ++ [a + 1]) = .tup ((natsV pre ++ [D.int (a : Int)]) ++ [.int ((a : Int) + 1)]) := by
          rw [ridersV_app, natsV_app]
          rfl
        show Q (D.tup ((natsV pre ++ [D.int (a : Int)]) ++ [.int ((a : Int) + 1)])) S
        rw [← e]
        exact q
      · refine ifF (b := decide (((natsV pre ++ [D.int (a : Int)]).length : Int) < (m : Int))) (decide_eq_false (by rw [List.length_append, nl]; show ¬ ((pre.length + 1 : Nat) : Int) < m; omega)) ?_
        rw [nxR_full pre 0 m a ok h1 (by omega)] at q
        refine ifT (b := decide ((a : Int) + 1 < (n : Int))) (decide_eq_true (by omega)) ?_
        show foll3 [some (.int (n : Int)), some (.tup (natsV pre ++ [D.int (a : Int)])), some (.int (m : Int)), some (.int ((a : Int) + 1)), some (.tup (natsV pre ++ [D.int (a : Int)]))] S _ noE
        rw [← ridersV_app]
        exact foll3_ok (by omega) q
    · refine ifF (b := decide ((a : Int) + 1 < (n : Int))) (decide_eq_false (by omega)) ?_
      refine ifF (b := decide ((a : Int) + 1 < (n : Int))) (decide_eq_false (by omega)) ?_
      show foll3 [some (.int (n : Int)), some (.tup (natsV pre ++ [D.int (a : Int)])), some (.int (m : Int)), some (.int ((a : Int) + 1)), some (.tup (cutD (natsV pre ++ [D.int (a : Int)]) none (some (-1))))] S _ noE
      rw [cut_init]
      rcases List.eq_nil_or_concat pre with rfl | ⟨pre2, b, ep⟩
      · rw [show ([] : List Nat) ++ [a] = [a] from rfl, nxR_one h1] at q
        exact foll3_nil q
      · rw [List.concat_eq_append] at ep
        subst ep
        rw [nxR_back pre2 0 m b a ok h1] at q
        rw [List.length_append] at rl
        have rl : pre2.length + 1 + 1 ≤ m := rl
        exact foll3_ok (by omega) q
end
end Pu
namespace Pu
open PySem L2 Rb Gm
/-! ## the plan that follows, from the last stage on -/
def brA (p : List (List Nat)) (k : Nat) : Nat := if k = 0 then 0 else (p.getD (k - 1) []).length
section
variable {n : Nat} {bs : List Int} {p : List (List Nat)}
theorem nxP_at {k : Nat} {b : Int} {r : List Nat} (hb : bs[k]? = some b) (hr : p[k]? = some r) : nxP n (brA p k) (bs.drop k) (p.drop k) = match nxP n (brA p (k + 1)) (bs.drop (k + 1)) (p.drop (k + 1)) with
    | some y => some (r :: y)
    | none => match nxR n 0 (b.toNat + brA p k) r with
      | some r' => some (r' :: List.replicate (p.drop (k + 1)).length [])
      | none => none := by
  have e : brA p (k + 1) = r.length := by
    unfold brA
    rw [if_neg (by omega), show k + 1 - 1 = k by omega, List.getD_eq_getElem?_getD, hr]
    rfl
  rw [drop_cons hb, drop_cons hr, nxP, e]
  all_goals rfl
theorem nxP_lift : ∀ (k : Nat) (y : List (List Nat)), k ≤ p.length → p.length = bs.length → nxP n (brA p k) (bs.drop k) (p.drop k) = some y → nxP n 0 bs p = some (p.take k ++ y)
  | 0, y, _, _, h => h
  | k + 1, y, hk, hl, h => by
    have hr := List.getElem?_eq_getElem (l := p) (show k < p.length by omega)
    have hb := List.getElem?_eq_getElem (l := bs) (show k < bs.length by omega)
    have := nxP_at (n := n) hb hr
    rw [h] at this
    have := nxP_lift k _ (by omega) hl this
    rw [this, List.take_add_one, hr, List.append_assoc]
    rfl
theorem grAt {k : Nat} {b : Int} {r : List Nat} (ok : PlG n 0 bs p) (hb : bs[k]? = some b) (hr : p[k]? = some r) : GrOk 0 n (b.toNat + brA p k) r := by
  obtain ⟨a1, a2, a3, a4⟩ := (plG_iff 0 bs p).mp ok
  have hm := List.mem_of_getElem? hr
  refine ⟨a2 r hm, fun _ _ => Nat.zero_le _, a3 r hm, ?_⟩
  have := a4 k
  rw [List.getD_eq_getElem?_getD, hr, List.getD_eq_getElem?_getD, hb] at this
  exact this
end
def fpBody : FS := (dSeq (dAsg (dIf (dTest (dBin gGt (dVar 4) (dC (.int 0)))) (dB gLen (dCons (dBin gIx (dVar 2) (dBin gSub (dVar 4) (dC (.int 1)))) dNil)) (dC (.int 0))) (gN 5))
 (dSeq (dAsg (dCallW F_following_riders (dCons (dVar 1) (dCons (dBin gIx (dVar 2) (dVar 4)) (dCons (dBin gAdd (dVar 5) (dBin gIx (dVar 3) (dVar 4))) dNil)))) (gN 6))
 (dIfS (dTest (dBin (gIs true) (dVar 6) (dC .non)))
 (dRet (dBin gAdd (dBin gAdd (dSl (dVar 2) dNoP (dPart (dVar 4))) (dTup (dCons (dVar 6) dNil))) (dBin gMul0 (dTup (dCons (dTup dNil) dNil)) (dBin gSub (dBin gSub (dB gLen (dCons (dVar 3) dNil)) (dVar 4)) (dC (.int 1))))))
 dSkip)))
theorem planV_app (a b : List (List Nat)) : planV (a ++ b) = .tup (a.map ridersV ++ b.map ridersV) := by unfold planV; rw [List.map_append]
theorem rep_nil (m : Nat) : (List.replicate m [D.tup []]).flatten = (List.replicate m ([] : List Nat)).map ridersV := by
  induction m with
  | zero => rfl
  | succ m ih =>
    rw [List.replicate_succ, List.replicate_succ, List.flatten_cons, List.map_cons, ih]
    rfl
section
variable {wk rd : Int} {bs : List Int} {n : Nat} {p : List (List Nat)} {S : Sto} {Q : QD} {E : ED} {De : DEnds}
theorem fpBody_ok {k : Nat} {y5 y6 : Option D} (hb : ∀ b ∈ bs, 0 ≤ b ∧ b ≤ 100) (l2 : bs.length ≤ 12) (hn : n ≤ 10) (ok : PlG n 0 bs p) (hk : k < bs.length) (hx : nxP n (brA p (k + 1)) (bs.drop (k + 1)) (p.drop (k + 1)) = none)
    (q1 : ∀ y, nxP n 0 bs p = some y → De.rt (planV y) S) (q2 : ∀ y5 y6, nxP n (brA p k) (bs.drop k) (p.drop k) = none → De.nx [some (roadV wk rd bs), some (.int (n : Int)), some (planV p), some (.tup (bs.map D.int)), some (.int (k : Int)), y5, y6] S) :
    fpBody [some (roadV wk rd bs), some (.int (n : Int)), some (planV p), some (.tup (bs.map D.int)), some (.int (k : Int)), y5, y6] S De noE := by
  have pl : p.length = bs.length := ok.len
  have hbk := List.getElem?_eq_getElem hk
  have hr := List.getElem?_eq_getElem (l := p) (show k < p.length by omega)
  have gr := grAt ok hbk hr
  have bk := hb _ (List.mem_of_getElem? hbk)
  have bml : (bs.map D.int).length = bs.length := List.length_map ..
  have brl : brA p k ≤ 10 := by
    unfold brA
    split
    · omega
    · have hr2 := List.getElem?_eq_getElem (l := p) (show k - 1 < p.length by omega)
      have g2 := grAt ok (List.getElem?_eq_getElem (l := bs) (show k - 1 < bs.length by omega)) hr2
      rw [List.getD_eq_getElem?_getD, hr2]
      have := len_le_of (n := n) (l := p[k - 1]'(by omega)) (m := List.range n) (g2.asc.imp fun h => Nat.ne_of_lt h) List.nodup_range (fun q hq => List.mem_range.mp hq) fun q hq => List.mem_range.mpr (g2.hi q hq)
      rw [List.length_range] at this
      show (p[k - 1]'(by omega)).length ≤ 10
      omega
  have at_ := nxP_at (n := n) hbk hr
  rw [hx] at at_
  dsimp only at at_
  have tail : (dSeq (dAsg (dCallW F_following_riders (dCons (dVar 1) (dCons (dBin gIx (dVar 2) (dVar 4)) (dCons (dBin gAdd (dVar 5) (dBin gIx (dVar 3) (dVar 4))) dNil)))) (gN 6))
 (dIfS (dTest (dBin (gIs true) (dVar 6) (dC .non)))
 (dRet (dBin gAdd (dBin gAdd (dSl (dVar 2) dNoP (dPart (dVar 4))) (dTup (dCons (dVar 6) dNil))) (dBin gMul0 (dTup (dCons (dTup dNil) dNil)) (dBin gSub (dBin gSub (dB gLen (dCons (dVar 3) dNil)) (dVar 4)) (dC (.int 1))))))
 dSkip)) [some (roadV wk rd bs), some (.int (n : Int)), some (planV p), some (.tup (bs.map D.int)), some (.int (k : Int)), some (.int (brA p k : Int)), y6] S De noE := by
    refine onS (a := ridersV p[k]) (atI_nat (by rw [List.getElem?_map, hr]; rfl)) ?_
    refine onS (a := D.int bs[k]) (atI_nat (by rw [List.getElem?_map, hbk]; rfl)) ?_
    have e : ((brA p k : Int) + bs[k]) = ((bs[k].toNat + brA p k : Nat) : Int) := by omega
    show F_following_riders [.int (n : Int), ridersV p[k], .int ((brA p k : Int) + bs[k])] S _ noE
    rw [e]
    refine foll_ok gr (by omega) (by omega) ?_
    cases ex : nxR n 0 (bs[k].toNat + brA p k) p[k] with
    | none =>
      rw [ex] at at_
      exact ⟨rfl, q2 _ _ at_⟩
    | some r' =>
      rw [ex] at at_
      dsimp only at at_
      have fin := nxP_lift k _ (by omega) pl at_
      have dl : (p.drop (k + 1)).length = bs.length - k - 1 := by rw [List.length_drop]; omega
      rw [dl] at fin
      have pml : (p.map ridersV).length = bs.length := by rw [List.length_map]; exact pl
      refine ⟨rfl, ?_⟩
      have q3 := q1 _ fin
      have ev : planV (p.take k ++ (r' :: List.replicate (bs.length - k - 1) [])) = .tup ((cutD (p.map ridersV) none (some (k : Int)) ++ [ridersV r']) ++ (List.replicate (((bs.map D.int).length : Int) - (k : Int) - 1).toNat [D.tup []]).flatten) := by
        rw [planV_app, cut_to, rep_nil, bml, show (((bs.length : Nat) : Int) - (k : Int) - 1).toNat = bs.length - k - 1 by omega, List.map_cons, List.map_take, List.append_assoc]
        rfl
      rw [ev] at q3
      have cl : (cutD (p.map ridersV) none (some (k : Int))).length ≤ 12 := by
        rw [cut_to, List.length_take]
        omega
      refine ⟨szr rfl, szd (by show (cutD (p.map ridersV) none (some (k : Int))).length + 1 ≤ 100000; omega), ?_⟩
      refine ⟨szr rfl, szr rfl, ⟨(by intro z; cases z), by omega, by omega, by decide⟩, ?_⟩
      refine ⟨szd ?_, q3⟩
      rw [List.length_append, rep_nil, List.length_map, List.length_replicate]
      show (cutD (p.map ridersV) none (some (k : Int))).length + 1 + _ ≤ 100000
      omega
  by_cases hk0 : k = 0
  · subst hk0
    exact tail
  · refine ifT (b := decide ((0 : Int) < (k : Int))) (decide_eq_true (by omega)) ?_
    have hr2 := List.getElem?_eq_getElem (l := p) (show k - 1 < p.length by omega)
    have ek : (k : Int) - 1 = ((k - 1 : Nat) : Int) := by omega
    refine onS (a := ridersV (p[k - 1]'(by omega))) (by
      show atI (p.map ridersV) ((k : Int) - 1) = _
      rw [ek]
      exact atI_nat (by rw [List.getElem?_map, hr2]; rfl)) ?_
    have eb : (((natsV (p[k - 1]'(by omega))).length : Nat) : Int) = (brA p k : Int) := by
      unfold brA
      rw [if_neg hk0, List.getD_eq_getElem?_getD, hr2, natsV_len]
      rfl
    rw [← eb] at tail
    exact tail
theorem fplan_ok (hb : ∀ b ∈ bs, 0 ≤ b ∧ b ≤ 100) (l2 : bs.length ≤ 12) (hn : n ≤ 10) (ok : PlG n 0 bs p) (q : Q (optP planV (nxP n 0 bs p)) S) : F_following_plan [roadV wk rd bs, .int (n : Int), planV p] S Q E := by
  have pl : p.length = bs.length := ok.len
  have bml : (bs.map D.int).length = bs.length := List.length_map ..
  unfold F_following_plan
  refine ⟨rfl, ⟨by omega, by omega⟩, ?_⟩
  have dl : (downD (((bs.map D.int).length : Int) - 1) ((bs.map D.int).length : Int).toNat).length = bs.length := by
    unfold downD
    rw [List.length_map, List.length_range]
    omega
  refine for_inv (src := []) (downD (((bs.map D.int).length : Int) - 1) ((bs.map D.int).length : Int).toNat) (fun i ρ S' => S' = S ∧ (∃ y4 y5 y6, ρ = [some (roadV wk rd bs), some (.int (n : Int)), some (planV p), some (.tup (bs.map D.int)), y4, y5, y6]) ∧ nxP n (brA p (bs.length - i)) (bs.drop (bs.length - i)) (p.drop (bs.length - i)) = none) ⟨rfl, ⟨_, _, _, rfl⟩, ?_⟩ ?_ ?_
  · rw [List.drop_of_length_le (show bs.length ≤ bs.length - 0 by omega)]
    cases p.drop (bs.length - 0) <;> rfl
  · rintro i x ρ S' K hx hK ⟨rfl, ⟨y4, y5, y6, rfl⟩, hz⟩
    obtain ⟨hi, rfl⟩ := downD_get hx
    have hi' : i < bs.length := by omega
    have ek : ((bs.map D.int).length : Int) - 1 - (i : Int) = ((bs.length - 1 - i : Nat) : Int) := by omega
    rw [ek]
    refine fpBody_ok hb l2 hn ok (k := bs.length - 1 - i) (by omega) (by rw [show bs.length - 1 - i + 1 = bs.length - i by omega]; exact hz) (fun y hy => ?_) fun z5 z6 hy => ?_
    · rw [hy] at q
      exact q
    · exact hK _ _ ⟨rfl, ⟨_, _, _, rfl⟩, by rw [show bs.length - (i + 1) = bs.length - 1 - i by omega]; exact hy⟩
  · rintro ρ S' ⟨rfl, ⟨y4, y5, y6, rfl⟩, hz⟩
    rw [dl, Nat.sub_self] at hz
    have hz : nxP n 0 bs p = none := hz
    rw [hz] at q
    exact q
end
end Pu
namespace Pu
open PySem L2 Rb Gm
theorem Ch.head {α : Type} {f : α → Option α} {p : α} {l : List α} (h : Ch f p l) : ∃ r, l = p :: r := by
  cases h with
  | last _ => exact ⟨_, rfl⟩
  | more _ _ => exact ⟨_, rfl⟩
section
variable {wk rd : Int} {bs : List Int} {n : Nat} {S : Sto} {Q : List D → Sto → Prop} {ds : List (List (List Nat))}
def WE (wk rd : Int) (bs : List Int) (n : Nat) (ds : List (List (List Nat))) : Nat → Nat → Sto → Rho → Sto → Prop := fun m i S₀ ρ S => S = S₀ ∧
  ((∃ p rest, ρ = [some (roadV wk rd bs), some (.int (n : Int)), some (planV p)] ∧ PlG n 0 bs p ∧ Ch (nxP n 0 bs) p (p :: rest) ∧ ds.drop i = p :: rest ∧ m = rest.length + 1) ∨ (ρ = [some (roadV wk rd bs), some (.int (n : Int)), some .non] ∧ i = ds.length ∧ m = 0))
theorem z_each (hb : ∀ b ∈ bs, 0 ≤ b ∧ b ≤ 100) (l1 : 1 ≤ bs.length) (l2 : bs.length ≤ 12) (hn : n ≤ 10) (ch : Ch (nxP n 0 bs) (List.replicate bs.length []) ds) (q : Q (ds.map planV) S) : Z_each_plan [roadV wk rd bs, .int (n : Int)] S Q := by
  have bml : (bs.map D.int).length = bs.length := List.length_map ..
  unfold Z_each_plan
  refine ⟨rfl, ds.map planV, ?_, q⟩
  unfold den_z_each_plan
  refine ⟨szr rfl, szr rfl, ⟨(by intro z; cases z), by omega, by omega, by decide⟩, ?_⟩
  have e0 : D.tup (List.replicate (((bs.map D.int).length : Int)).toNat [D.tup []]).flatten = planV (List.replicate bs.length []) := by
    rw [bml, Int.toNat_natCast, rep_nil]
    rfl
  show zSeq (zWhile _ _) zEnd (ds.map planV) 0 S [some (roadV wk rd bs), some (.int (n : Int)), some (D.tup (List.replicate (((bs.map D.int).length : Int)).toNat [D.tup []]).flatten)] S (kEnd (ds.map planV))
  rw [e0]
  refine ⟨WE wk rd bs n ds, ?_, ?_⟩
  · obtain ⟨r, rfl⟩ := ch.head
    exact ⟨_, rfl, .inl ⟨_, r, rfl, (plG_min 0 bs).1, ch, rfl, rfl⟩⟩
  · rintro m i S₀ ρ S' ⟨rfl, h⟩
    rcases h with ⟨p, rest, rfl, ok, c, hd, rfl⟩ | ⟨rfl, rfl, rfl⟩
    · refine ⟨rfl, ?_⟩
      have hi : i < ds.length := by
        rcases Nat.lt_or_ge i ds.length with z | z
        · exact z
        · rw [List.drop_of_length_le z] at hd
          cases hd
      have hp : ds[i]? = some p := by
        have := List.getElem?_drop (xs := ds) (i := i) (j := 0)
        rw [hd] at this
        exact this.symm
      have hd2 : ds.drop (i + 1) = rest := by
        have : (ds.drop i).drop 1 = rest := by rw [hd]; rfl
        rw [List.drop_drop] at this
        exact this
      refine ⟨by rw [List.length_map]; exact hi, ⟨rfl, by rw [List.getElem?_map, hp]; rfl⟩, fun S2 => ?_⟩
      refine fplan_ok hb l2 hn ok ?_
      have sp := nxP_spec 0 bs p ok
      cases c with
      | last e =>
        rw [e]
        refine ⟨0, Nat.zero_lt_succ _, rfl, .inr ⟨rfl, ?_, rfl⟩⟩
        have : (ds.drop (i + 1)).length = 0 := by rw [hd2]; rfl
        rw [List.length_drop] at this
        omega
      | more e c2 =>
        rename_i p2
        rw [e] at sp ⊢
        obtain ⟨r2, rfl⟩ := c2.head
        exact ⟨_, Nat.lt_succ_self _, rfl, .inl ⟨p2, r2, rfl, sp.1, c2, hd2, rfl⟩⟩
    · exact ⟨rfl, ⟨by rw [List.length_map], rfl⟩⟩
end
end Pu
namespace Pu
open PySem L2 Rb Gm
section
variable {wk rd : Int} {bs : List Int} {n : Nat} {ds : List (List (List Nat))}
def WY (wk rd : Int) (bs : List Int) (n : Nat) (ds : List (List (List Nat))) (S : Sto) : Nat → List D → Rho → Sto → Prop := fun m os ρ S' => S' = S ∧ ∃ i, os = (ds.take i).map planV ∧ i ≤ ds.length ∧
  ((∃ p rest, ρ = [some (roadV wk rd bs), some (.int (n : Int)), some (planV p)] ∧ PlG n 0 bs p ∧ Ch (nxP n 0 bs) p (p :: rest) ∧ ds.drop i = p :: rest ∧ m = rest.length + 1) ∨ (ρ = [some (roadV wk rd bs), some (.int (n : Int)), some .non] ∧ i = ds.length ∧ m = 0))
/-- list(each_plan(..)) -/
theorem y_each {S : Sto} {Q : QD} {E : ED} (hb : ∀ b ∈ bs, 0 ≤ b ∧ b ≤ 100) (l1 : 1 ≤ bs.length) (l2 : bs.length ≤ 12) (hn : n ≤ 10) (dl : ds.length ≤ 100000) (ch : Ch (nxP n 0 bs) (List.replicate bs.length []) ds) (q : Q (.lst false (ds.map planV)) S) : F_each_plan [roadV wk rd bs, .int (n : Int)] S Q E := by
  have bml : (bs.map D.int).length = bs.length := List.length_map ..
  unfold F_each_plan
  refine ⟨rfl, ?_⟩
  unfold den_each_plan
  refine ⟨szr rfl, szr rfl, ⟨(by intro z; cases z), by omega, by omega, by decide⟩, ?_⟩
  have e0 : D.tup (List.replicate (((bs.map D.int).length : Int)).toNat [D.tup []]).flatten = planV (List.replicate bs.length []) := by
    rw [bml, Int.toNat_natCast, rep_nil]
    rfl
  show ySeq (yWhile _ _) yEnd [] [some (roadV wk rd bs), some (.int (n : Int)), some (D.tup (List.replicate (((bs.map D.int).length : Int)).toNat [D.tup []]).flatten)] S _ _
  rw [e0]
  refine ⟨WY wk rd bs n ds S, ?_, ?_⟩
  · obtain ⟨r, rfl⟩ := ch.head
    exact ⟨_, rfl, 0, rfl, Nat.zero_le _, .inl ⟨_, r, rfl, (plG_min 0 bs).1, ch, rfl, rfl⟩⟩
  · rintro m os ρ S' ⟨rfl, i, rfl, hi, h⟩
    rcases h with ⟨p, rest, rfl, ok, c, hd, rfl⟩ | ⟨rfl, rfl, rfl⟩
    · refine ⟨rfl, ?_⟩
      have hi : i < ds.length := by
        rcases Nat.lt_or_ge i ds.length with z | z
        · exact z
        · rw [List.drop_of_length_le z] at hd
          cases hd
      have hp : ds[i]? = some p := by
        have := List.getElem?_drop (xs := ds) (i := i) (j := 0)
        rw [hd] at this
        exact this.symm
      have hd2 : ds.drop (i + 1) = rest := by
        have : (ds.drop i).drop 1 = rest := by rw [hd]; rfl
        rw [List.drop_drop] at this
        exact this
      have et : (ds.take i).map planV ++ [planV p] = (ds.take (i + 1)).map planV := by
        rw [List.take_add_one, hp, List.map_append]
        rfl
      refine ⟨?_, ?_⟩
      · rw [List.length_map, List.length_take]
        have : (100001 : Nat) ≤ sizeLine := by decide
        omega
      refine fplan_ok hb l2 hn ok ?_
      have sp := nxP_spec 0 bs p ok
      cases c with
      | last e =>
        rw [e]
        refine ⟨0, Nat.zero_lt_succ _, rfl, i + 1, et, by omega, .inr ⟨rfl, ?_, rfl⟩⟩
        have : (ds.drop (i + 1)).length = 0 := by rw [hd2]; rfl
        rw [List.length_drop] at this
        omega
      | more e c2 =>
        rename_i p2
        rw [e] at sp ⊢
        obtain ⟨r2, rfl⟩ := c2.head
        exact ⟨_, Nat.lt_succ_self _, rfl, i + 1, et, by omega, .inl ⟨p2, r2, rfl, sp.1, c2, hd2, rfl⟩⟩
    · have : (ds.take ds.length).map planV = ds.map planV := by rw [List.take_length]
      refine ⟨rfl, ?_⟩
      show Q (.lst false ((ds.take ds.length).map planV)) S'
      rw [this]
      exact q
end
end Pu
namespace Pu
open PySem L2 Rb Gm
theorem frz0 {L : List (List (List Nat))} : frz [Cl.lst (L.map planV)] 0 (.cell 0) = some (.lst false (L.map planV)) := by
  show (if belowAll 0 (L.map planV) = true then some (D.lst false (L.map planV)) else none) = _
  rw [below_plans3]
  rfl
section
variable {wk rd : Int} {bs : List Int} {n many : Nat} {ds : List (List (List Nat))} {Q : QD} {E : ED}
theorem first3_ok (hb : ∀ b ∈ bs, 0 ≤ b ∧ b ≤ 100) (l1 : 1 ≤ bs.length) (l2 : bs.length ≤ 12) (hn : n ≤ 10) (ch : Ch (nxP n 0 bs) (List.replicate bs.length []) ds) (m1 : 1 ≤ many) (m2 : many ≤ 1000) (q : Q (.lst false ((ds.take many).map planV)) []) : F_law_first [roadV wk rd bs, .int (n : Int), .int (many : Int)] [] Q E := by
  unfold F_law_first
  refine ⟨rfl, szr rfl, ?_⟩
  refine z_each hb l1 l2 hn ch ?_
  refine for_inv (src := []) (ds.map planV) (fun i ρ S' => i < many ∧ S' = [Cl.lst ((ds.take i).map planV)] ∧ ∃ y4, ρ = [some (roadV wk rd bs), some (.int (n : Int)), some (.int (many : Int)), some (.cell 0), y4]) ⟨by omega, rfl, _, rfl⟩ ?_ ?_
  · rintro i x ρ S' K hx hK ⟨hi, rfl, y4, rfl⟩
    rw [List.getElem?_map] at hx
    obtain ⟨p, hp, rfl⟩ := Option.map_eq_some_iff.mp hx
    have tl : ((ds.take i).map planV).length = i := by
      have := (List.getElem?_eq_some_iff.mp hp).1
      rw [List.length_map, List.length_take]
      omega
    have et : (ds.take i).map planV ++ [planV p] = (ds.take (i + 1)).map planV := by
      rw [List.take_add_one, hp, List.map_append]
      rfl
    refine ⟨szd (by show ((ds.take i).map planV).length + 1 ≤ 100000; omega), ?_⟩
    show (dIfS (dTest (dBin iEq (dB gLen (dCons (dVar 3) dNil)) (dVar 2))) (dRet (dVar 3)) dSkip) [some (roadV wk rd bs), some (.int (n : Int)), some (.int (many : Int)), some (.cell 0), some (planV p)] [Cl.lst ((ds.take i).map planV ++ [planV p])] _ _
    rw [et]
    have tl2 : ((ds.take (i + 1)).map planV).length = i + 1 := by
      rw [← et, List.length_append, tl]
      rfl
    refine eq_int ?_
    by_cases e : i + 1 = many
    · rw [decide_eq_true (show (((ds.take (i + 1)).map planV).length : Int) = (many : Int) by omega)]
      subst e
      exact ⟨⟨rfl, rfl⟩, onS frz0 q⟩
    · rw [decide_eq_false (show ¬ (((ds.take (i + 1)).map planV).length : Int) = (many : Int) by omega)]
      exact hK _ _ ⟨by omega, rfl, _, rfl⟩
  · rintro ρ S' ⟨hi, rfl, y4, rfl⟩
    rw [List.length_map] at hi ⊢
    have e : ds.take ds.length = ds.take many := by rw [List.take_length, List.take_of_length_le (by omega)]
    rw [e]
    exact ⟨⟨rfl, rfl⟩, onS frz0 q⟩
end
end Pu
namespace Pu
open PySem L2 Rb Gm
section
variable {wk rd : Int} {bs : List Int} {n : Nat} {S : Sto} {Q : List D → Sto → Prop} {ds : List (List (List Nat))}
theorem y_eachT (hb : ∀ b ∈ bs, 0 ≤ b ∧ b ≤ 100) (l1 : 1 ≤ bs.length) (l2 : bs.length ≤ 12) (hn : n ≤ 10) (ch : Ch (nxP n 0 bs) (List.replicate bs.length []) ds) (q : Q (ds.map planV) S) : Y_each_plan [roadV wk rd bs, .int (n : Int)] S Q := by
  have bml : (bs.map D.int).length = bs.length := List.length_map ..
  unfold Y_each_plan
  refine ⟨rfl, ds.map planV, ?_, q⟩
  unfold den_y_each_plan
  refine ⟨szr rfl, szr rfl, ⟨(by intro z; cases z), by omega, by omega, by decide⟩, ?_⟩
  have e0 : D.tup (List.replicate (((bs.map D.int).length : Int)).toNat [D.tup []]).flatten = planV (List.replicate bs.length []) := by
    rw [bml, Int.toNat_natCast, rep_nil]
    rfl
  show zSeq (zWhile _ _) zEnd (ds.map planV) 0 S [some (roadV wk rd bs), some (.int (n : Int)), some (D.tup (List.replicate (((bs.map D.int).length : Int)).toNat [D.tup []]).flatten)] S (kEnd (ds.map planV))
  rw [e0]
  refine ⟨WE wk rd bs n ds, ?_, ?_⟩
  · obtain ⟨r, rfl⟩ := ch.head
    exact ⟨_, rfl, .inl ⟨_, r, rfl, (plG_min 0 bs).1, ch, rfl, rfl⟩⟩
  · rintro m i S₀ ρ S' ⟨rfl, h⟩
    rcases h with ⟨p, rest, rfl, ok, c, hd, rfl⟩ | ⟨rfl, rfl, rfl⟩
    · refine ⟨rfl, ?_⟩
      have hi : i < ds.length := by
        rcases Nat.lt_or_ge i ds.length with z | z
        · exact z
        · rw [List.drop_of_length_le z] at hd
          cases hd
      have hp : ds[i]? = some p := by
        have := List.getElem?_drop (xs := ds) (i := i) (j := 0)
        rw [hd] at this
        exact this.symm
      have hd2 : ds.drop (i + 1) = rest := by
        have : (ds.drop i).drop 1 = rest := by rw [hd]; rfl
        rw [List.drop_drop] at this
        exact this
      refine ⟨by rw [List.length_map]; exact hi, ⟨rfl, by rw [List.getElem?_map, hp]; rfl⟩, fun S2 => ?_⟩
      refine fplan_ok hb l2 hn ok ?_
      have sp := nxP_spec 0 bs p ok
      cases c with
      | last e =>
        rw [e]
        refine ⟨0, Nat.zero_lt_succ _, rfl, .inr ⟨rfl, ?_, rfl⟩⟩
        have : (ds.drop (i + 1)).length = 0 := by rw [hd2]; rfl
        rw [List.length_drop] at this
        omega
      | more e c2 =>
        rename_i p2
        rw [e] at sp ⊢
        obtain ⟨r2, rfl⟩ := c2.head
        exact ⟨_, Nat.lt_succ_self _, rfl, .inl ⟨p2, r2, rfl, sp.1, c2, hd2, rfl⟩⟩
    · exact ⟨rfl, ⟨by rw [List.length_map], rfl⟩⟩
end
end Pu
namespace Pu
open PySem L2 Rb Gm
theorem rep_p3 {bs : List Int} {n : Nat} {p : List (List Nat)} (ok : PlG n 0 bs p) (hn : n ≤ 10) (l2 : bs.length ≤ 12) : Rep 2 132 (planV p) := by
  obtain ⟨a1, a2, a3, a4⟩ := (plG_iff 0 bs p).mp ok
  refine Rep.tup (k := 1) (n := 10) (fun d hd => ?_) (by rw [List.length_map]; omega)
  obtain ⟨r, hr, rfl⟩ := List.mem_map.mp hd
  have gl : r.length ≤ n := grOk_len (lo := 0) (m := r.length) ⟨a2 r hr, fun _ _ => Nat.zero_le _, a3 r hr, Nat.le_refl _⟩
  rw [riders_ti]
  exact Rep.ints (fun i hi => by
    obtain ⟨j, hj, rfl⟩ := List.mem_map.mp hi
    have := a3 r hr j hj
    omega) (by rw [nI_len]; omega)
section
variable {wk rd : Int} {bs : List Int} {n : Nat} {ds : List (List (List Nat))} {S : Sto} {Q : QD} {E : ED}
theorem two3_ok (hb : ∀ b ∈ bs, 0 ≤ b ∧ b ≤ 100) (l1 : 1 ≤ bs.length) (l2 : bs.length ≤ 12) (hn : n ≤ 10) (ch : Ch (nxP n 0 bs) (List.replicate bs.length []) ds) (hd : ∀ p ∈ ds, PlG n 0 bs p) (q : Q (.bl true) S) : F_law_two [roadV wk rd bs, .int (n : Int)] S Q E := by
  unfold F_law_two
  refine ⟨rfl, ?_⟩
  refine y_eachT hb l1 l2 hn ch (y_eachT hb l1 l2 hn ch ⟨⟨rfl, rfl⟩, ?_⟩)
  have ez : ∀ l : List (List (List Nat)), ((l.map planV).zip (l.map planV)).map (fun p => D.tup [p.1, p.2]) = l.map fun p => D.tup [planV p, planV p] := fun l => by
    induction l with
    | nil => rfl
    | cons p l ih =>
      rw [List.map_cons, List.zip_cons_cons, List.map_cons, ih]
      rfl
  rw [ez]
  refine for_inv (src := []) (ds.map fun p => D.tup [planV p, planV p]) (fun i ρ S' => S' = S ∧ ∃ y2 y3, ρ = [some (roadV wk rd bs), some (.int (n : Int)), y2, y3]) ⟨rfl, _, _, rfl⟩ ?_ ?_
  · rintro i x ρ S' K hx hK ⟨rfl, y2, y3, rfl⟩
    rw [List.getElem?_map] at hx
    obtain ⟨p, hp, rfl⟩ := Option.map_eq_some_iff.mp hx
    have rp := rep_p3 (hd p (List.mem_of_getElem? hp)) hn l2
    refine ⟨rfl, repr_ok rp (repr_ok rp (ne_str rfl ?_))⟩
    exact hK _ _ ⟨rfl, _, _, rfl⟩
  · rintro ρ S' ⟨rfl, y2, y3, rfl⟩
    exact q
end
end Pu
namespace Pu
open PySem L2 Rb Gm
/-! ## the first plans of a far road -/
theorem lastL_min : ∀ m : Nat, lastL (List.replicate m []) = 0
  | 0 => rfl
  | m + 1 => by
    rw [List.replicate_succ']
    exact lastL_snoc
theorem far_list {n : Nat} {bs : List Int} {b : Int} {ds : List (List (List Nat))} {gs : List (List Nat)} (hd : Asc n (bs ++ [b]) ds) (ga : gs.Pairwise ltR) (gm : ∀ g, g ∈ gs ↔ GrOk 0 n b.toNat g) : ∃ rest, ds = (gs.map fun g => List.replicate bs.length [] ++ [g]) ++ rest := by
  obtain ⟨L, hL⟩ := asc_any n bs
  have mn := plG_min (n := n) 0 bs
  have mi := (hL.mem _).mpr mn.1
  have ex := fun p : List (List Nat) => grp_any n (b.toNat + lastL p)
  have hs := asc_succ (b := b) (G := fun p => if p = List.replicate bs.length [] then gs else Classical.choose (ex p)) hL fun p _ => by
    by_cases e : p = List.replicate bs.length []
    · subst e
      rw [if_pos rfl, lastL_min]
      exact ⟨ga, gm⟩
    · rw [if_neg e]
      exact Classical.choose_spec (ex p)
  have e := asc_uniq hd hs
  cases hl : L with
  | nil => rw [hl] at mi; cases mi
  | cons h L' =>
    have ha := hL.asc
    rw [hl] at ha mi
    obtain ⟨c1, _⟩ := List.pairwise_cons.mp ha
    have hh : h = List.replicate bs.length [] := by
      rcases List.mem_cons.mp mi with z | z
      · exact z.symm
      · have l1 := c1 _ z
        have hp := (hL.mem h).mp (by rw [hl]; exact List.mem_cons_self)
        rcases mn.2 h hp with y | y
        · exact y
        · exact absurd (ltP_tr l1 y) (ltP_irr h)
    subst hh
    rw [hl, List.flatMap_cons] at e
    rw [if_pos rfl] at e
    exact ⟨_, e⟩
end Pu
namespace Pu
open PySem L2 Rb Gm
def farT2 : FS := (dRet (dBin iEq (dB iRepr (dCons (dCall 0 F_law_first (dCons (dTup (dCons (dBin gIx (dVar 1) (dC (.int 0))) (dCons (dBin gIx (dVar 1) (dC (.int 1))) (dCons (dVar 3) dNil)))) (dCons (dVar 2) (dCons (dB gLen (dCons (dVar 5) dNil)) dNil)))) dNil)) (dB iRepr (dCons (dVar 5) dNil))))
def farT : FS := (dSeq (dAsg (dSl (dLc (st1 6) dYes (dBin gAdd (dBin gMul (dTup (dCons (dTup dNil) dNil)) (dBin gSub (dB gLen (dCons (dVar 3) dNil)) (dC (.int 1)))) (dTup (dCons (dVar 6) dNil))) (dItS (dCallW F_law_groups (dCons (dVar 2) (dCons (dBin gIx (dVar 3) (dUn gNeg (dC (.int 1)))) dNil))))) dNoP (dPart (dVar 4))) (gN 5))
 (dRet (dBin iEq (dB iRepr (dCons (dCall 0 F_law_first (dCons (dTup (dCons (dBin gIx (dVar 1) (dC (.int 0))) (dCons (dBin gIx (dVar 1) (dC (.int 1))) (dCons (dVar 3) dNil)))) (dCons (dVar 2) (dCons (dB gLen (dCons (dVar 5) dNil)) dNil)))) dNil)) (dB iRepr (dCons (dVar 5) dNil)))))
section
variable {wk rd b : Int} {bs0 bs : List Int} {n many : Nat} {S : Sto} {De : DEnds} {y0 y5 y6 : Option D}
theorem farT_ok (hb : ∀ x ∈ bs ++ [b], 0 ≤ x ∧ x ≤ 100) (l1 : 1 ≤ bs.length) (l2 : bs.length ≤ 11) (hn : n ≤ 10) (m1 : 1 ≤ many) (m2 : many ≤ 7) (q : De.rt (.bl true) S) : farT [y0, some (roadV wk rd bs0), some (.int (n : Int)), some (.tup ((bs ++ [b]).map D.int)), some (.int (many : Int)), y5, y6] S De noE := by
  have bl : ((bs ++ [b]).map D.int).length = bs.length + 1 := by rw [List.length_map, List.length_append]; rfl
  have hb1 := hb b (List.mem_append_right _ (List.mem_singleton.mpr rfl))
  obtain ⟨ds, ch, hd⟩ := plans_any (n := n) (bs := bs ++ [b])
  have asc : Asc n (bs ++ [b]) ds := ⟨(ch_asc ch (plG_min 0 _).1).1, hd⟩
  unfold farT
  have ex : atI ((bs ++ [b]).map D.int) (-1) = some (.int b) := by
    rw [List.map_append]
    exact atI_last _ _
  refine onS ex (groups2_ok hn hb1.1 fun gs ga gm gl => ?_)
  have pw : 2 ^ n ≤ 1024 := show 2 ^ n ≤ 2 ^ 10 from Nat.pow_le_pow_right (by decide) hn
  obtain ⟨rest, er⟩ := far_list asc ga gm
  have g1 : 1 ≤ gs.length := List.length_pos_of_mem ((gm []).mpr .nil)
  refine ⟨szd (by show (gs.map ridersV).length ≤ 100000; rw [List.length_map]; omega), ?_⟩
  refine comp_mapB (src := []) ridersV (fun g => planV (List.replicate bs.length [] ++ [g])) (fun _ z => z) gs [] (fun g hg => ⟨_, rfl, fun Q' q' => ⟨szr rfl, szr rfl, ⟨(by intro z; cases z), by omega, by omega, by decide⟩, szr rfl, ?_⟩⟩) ?_
  · have e : planV (List.replicate bs.length [] ++ [g]) = .tup ((List.replicate (((((bs ++ [b]).map D.int).length : Nat) : Int) - 1).toNat [D.tup []]).flatten ++ [ridersV g]) := by
      unfold planV
      rw [List.map_append, rep_nil, bl, show (((bs.length + 1 : Nat) : Int) - 1).toNat = bs.length by omega]
      rfl
    rw [e] at q'
    refine ⟨szd ?_, q'⟩
    rw [rep_nil, List.length_map, List.length_replicate]
    show _ + 1 ≤ 100000
    omega
  rw [List.nil_append]
  obtain ⟨k, hk⟩ : ∃ k, k = min many gs.length := ⟨_, rfl⟩
  have ecut : cutD (gs.map fun g => planV (List.replicate bs.length [] ++ [g])) none (some (many : Int)) = (ds.take k).map planV := by
    have h1 : (gs.map fun g => List.replicate bs.length [] ++ [g]).take k = (gs.take k).map fun g => List.replicate bs.length [] ++ [g] := List.map_take.symm
    have h2 : gs.take many = gs.take k := by
      rw [hk, ← List.take_take, List.take_length]
    rw [cut_to, er, List.take_append_of_le_length (by rw [List.length_map]; omega), h1, List.map_map, ← h2]
    exact List.map_take.symm
  have len : ((ds.take k).map planV).length = k := by
    rw [List.length_map, List.length_take, er, List.length_append, List.length_map]
    omega
  have rr : ∀ f, Rep 3 931 (.lst f ((ds.take k).map planV)) := fun f => Rep.lst (k := 2) (n := 132) (fun d hd' => by
    obtain ⟨p, hp, rfl⟩ := List.mem_map.mp hd'
    exact rep_p3 ((hd p).mp (List.mem_of_mem_take hp)) hn (by rw [List.length_append]; show bs.length + 1 ≤ 12; omega)) (by rw [len]; omega)
  show farT2 [y0, some (roadV wk rd bs0), some (.int (n : Int)), some (.tup ((bs ++ [b]).map D.int)), some (.int (many : Int)), some (D.lst false (cutD (gs.map fun g => planV (List.replicate bs.length [] ++ [g])) none (some (many : Int)))), y6] S De noE
  rw [ecut]
  unfold farT2
  refine ⟨szr rfl, ⟨⟨?_, rfl⟩, ?_⟩⟩
  · show (below 0 (roadV wk rd (bs ++ [b])) && (true && (true && true))) = true
    rw [below_roadV]
    rfl
  refine first3_ok (many := ((ds.take k).map planV).length) hb (by rw [List.length_append]; omega) (by rw [List.length_append]; show bs.length + 1 ≤ 12; omega) hn ch (by omega) (by omega) ⟨rfl, ?_⟩
  have et : (ds.take ((ds.take k).map planV).length).map planV = (ds.take k).map planV := by rw [len]
  rw [et]
  refine repr_ok (rr false) (repr_ok (rr false) (eq_str ?_))
  rw [decide_eq_true rfl]
  exact q
end
end Pu
namespace Pu
open PySem L2 Rb Gm
theorem far3_ok {S T : Sto} {N : Int} {Q : QD} {E : ED} (h : Nk S N T) (hN : N ≤ 800000) (q : ∀ S', Nk S' (N + 60) T → Q (.bl true) S') : F_law_far_right [.cell 1] S Q E := by
  unfold F_law_far_right
  refine ⟨rfl, road3_ok (st := 12) (mo := 12) h (by omega) (by decide) (by decide) (by decide) (by decide) fun wk rd bs S1 R bl _ d1 => ?_⟩
  refine next_ok d1 (by omega) (by decide) (by decide) fun r S2 r0 r1 d2 => ?_
  obtain ⟨n, en⟩ : ∃ n : Nat, 1 + r = (n : Int) := ⟨(1 + r).toNat, by omega⟩
  have bml : (bs.map D.int).length = bs.length := List.length_map ..
  have l1 := R.l1
  have l2 := R.l2
  refine next_ok d2 (by omega) (by decide) (by decide) fun r2 S3 r20 r21 d3 => ⟨szr rfl, szd (by show (bs.map D.int).length + 1 ≤ 100000; omega), ?_⟩
  refine next_ok d3 (by omega) (by decide) (by decide) fun r3 S4 r30 r31 d4 => ⟨szr rfl, rfl, ?_⟩
  obtain ⟨many, em⟩ : ∃ many : Nat, 1 + r3 = (many : Int) := ⟨(1 + r3).toNat, by omega⟩
  have hb : ∀ x ∈ bs ++ [1 + r2], 0 ≤ x ∧ x ≤ 100 := fun x hx => by
    rcases List.mem_append.mp hx with z | z
    · have := R.hb x z
      omega
    · rw [List.mem_singleton.mp z]
      omega
  refine ⟨fun ρ S' => S' = S4 ∧ ∃ bs2 : List Int, ρ = [some (.cell 1), some (roadV wk rd bs), some (.int (1 + r)), some (.tup ((bs2 ++ [1 + r2]).map D.int)), some (.int (1 + r3)), none, none] ∧ 1 ≤ bs2.length ∧ bs2.length ≤ 11 ∧ ∀ x ∈ bs2 ++ [1 + r2], 0 ≤ x ∧ x ≤ 100, ?_, ?_⟩
  · have ml : (bs.map D.int ++ [D.int (1 + r2)]).length = bs.length + 1 := by rw [List.length_append, bml]; rfl
    refine ifB (b := decide ((12 : Int) < ((bs.map D.int ++ [D.int (1 + r2)]).length : Int))) (fun hc => ?_) fun hc => ?_
    · have hc := of_decide_eq_true hc
      have e : cutD (bs.map D.int ++ [D.int (1 + r2)]) (some 1) none = (bs.drop 1 ++ [1 + r2]).map D.int := by
        rw [show (some (1 : Int)) = some ((1 : Nat) : Int) from rfl, cut_from, List.drop_append_of_le_length (by omega), List.map_append, List.map_drop]
        rfl
      refine ⟨rfl, bs.drop 1, ?_, by rw [List.length_drop]; omega, by rw [List.length_drop]; omega, fun x hx => ?_⟩
      · rw [← e]
        rfl
      · rcases List.mem_append.mp hx with z | z
        · exact hb x (List.mem_append_left _ (List.mem_of_mem_drop z))
        · exact hb x (List.mem_append_right _ z)
    · have hc := of_decide_eq_false hc
      refine ⟨rfl, bs, ?_, l1, by omega, hb⟩
      rw [List.map_append]
      rfl
  · rintro ρ S' ⟨rfl, bs2, rfl, b1, b2, hb2⟩
    rw [en, em]
    exact farT_ok hb2 b1 b2 (by omega) (by omega) (by omega) (q _ (d4.le (by omega)))
end Pu
namespace Pu
open PySem L2 Rb Gm
def bod26 : FS := (dSeq (dAsg (dCallW F_law_small (dCons (dVar 1) (dCons (dC (.int 500)) dNil))) (gUn 2 (gsCons (gN 3) (gsCons (gN 4) gsNil))))
 (dSeq (dPar 5 6 (dCons (dB iRepr (dCons (dVar 3) dNil)) (dCons (dCall 0 F_law_plans (dCons (dVar 3) (dCons (dVar 4) dNil))) dNil)))
 (dSeq (dIfS (dOr (dTest (dBin iNe (dB iRepr (dCons (dCallW F_each_plan (dCons (dVar 3) (dCons (dVar 4) dNil))) dNil)) (dB iRepr (dCons (dVar 6) dNil)))) (dTest (dBin iNe (dB iRepr (dCons (dVar 3) dNil)) (dVar 5))))
 (dRet (dC (.bl false)))
 dSkip)
 (dSeq (dIfS (dOr (dTest (dBin iNe (dB iRepr (dCons (dCall 0 F_law_first (dCons (dVar 3) (dCons (dVar 4) (dCons (dC (.int 3)) dNil)))) dNil)) (dB iRepr (dCons (dSl (dVar 6) dNoP (dPart (dC (.int 3)))) dNil)))) (dNot (dTest (dCallW F_law_two (dCons (dVar 3) (dCons (dVar 4) dNil))))))
 (dRet (dC (.bl false)))
 dSkip)
 (dIfS (dNot (dTest (dCallW F_law_far_right (dCons (dVar 1) dNil))))
 (dRet (dC (.bl false)))
 dSkip)))))
theorem bod26_ok {S T : Sto} {N : Int} {De : DEnds} {y0 y2 y3 y4 y5 y6 y7 : Option D} (dk : Nk S N T) (hN : N ≤ 700000) (q : ∀ S' y3 y4 y5 y6, Nk S' (N + 110) T → De.nx [y0, some (.cell 1), y2, y3, y4, y5, y6, y7] S') : bod26 [y0, some (.cell 1), y2, y3, y4, y5, y6, y7] S De noE := by
  unfold bod26
  refine small3_ok dk (by omega) fun wk rd_ bs n fl S1 R l5 n1 n4 few d1 => ?_
  have hb : ∀ b ∈ bs, 0 ≤ b ∧ b ≤ 100 := fun b hm => by have := R.hb b hm; omega
  have l1 := R.l1
  obtain ⟨ds, ch, hd⟩ := plans_any (n := n) (bs := bs)
  have asc : Asc n bs ds := ⟨(ch_asc ch (plG_min 0 _).1).1, hd⟩
  have dl := few ds asc
  have p16 : 2 ^ n ≤ 16 := show 2 ^ n ≤ 2 ^ 4 from Nat.pow_le_pow_right (by decide) n4
  have big : (2 ^ n) ^ bs.length ≤ 2000000 := Nat.le_trans (Nat.pow_le_pow_left p16 _) (Nat.le_trans (Nat.pow_le_pow_right (show 0 < 16 by decide) l5) (by decide))
  have rr : ∀ f (M : List (List (List Nat))), (∀ p ∈ M, p ∈ ds) → M.length ≤ 500 → Rep 3 66500 (.lst f (M.map planV)) := fun f M hM hl => Rep.lst (k := 2) (n := 132) (fun d hd' => by
    obtain ⟨p, hp, rfl⟩ := List.mem_map.mp hd'
    exact rep_p3 ((hd p).mp (hM p hp)) (by omega) (by omega)) (by rw [List.length_map]; omega)
  have rd := fun f => rr f ds (fun _ h => h) dl
  refine ⟨rfl, repr_ok (Rep.road R) ?_⟩
  refine ⟨⟨by
    show (below 0 (roadV wk rd_ bs) && (true && true)) = true
    rw [below_roadV]
    rfl, rfl⟩, plans3_ok (by omega) l5 (fun b hm => (hb b hm).1) big fun f L hL ll => ⟨rfl, ?_⟩⟩
  obtain rfl := asc_uniq asc hL
  refine y_each hb l1 (by omega) (by omega) (by omega) ch ?_
  refine repr_ok (rd false) (repr_ok (rd f) (ne_str rfl ?_))
  refine repr_ok (Rep.road R) (ne_str rfl ?_)
  have r3 := fun f => rr f (ds.take 3) (fun p hp => List.mem_of_mem_take hp) (by rw [List.length_take]; omega)
  refine ⟨⟨by
    show (below 0 (roadV wk rd_ bs) && (true && (true && true))) = true
    rw [below_roadV]
    rfl, rfl⟩, first3_ok (many := 3) hb l1 (by omega) (by omega) ch (by decide) (by decide) ⟨rfl, ?_⟩⟩
  refine repr_ok (r3 false) ?_
  have ec : cutD (ds.map planV) none (some ((3 : Nat) : Int)) = (ds.take 3).map planV := by rw [cut_to, List.map_take]
  show iRepr [D.lst false (cutD (ds.map planV) none (some ((3 : Nat) : Int)))] S1 _
  rw [ec]
  refine repr_ok (r3 false) (ne_str rfl ?_)
  refine two3_ok hb l1 (by omega) (by omega) ch (fun p hp => (hd p).mp hp) ?_
  refine far3_ok d1 (by omega) fun S2 d2 => ?_
  exact q _ _ _ _ _ (d2.le (by omega))
end Pu
namespace Pu
open PySem L2 Rb Gm
theorem rep_p4 {bs : List Int} {n : Nat} {p : List (List Nat)} (ok : PlG n 0 bs p) (hn : n ≤ 10) (l2 : bs.length ≤ 2) : Rep 2 22 (planV p) := by
  obtain ⟨a1, a2, a3, a4⟩ := (plG_iff 0 bs p).mp ok
  refine Rep.tup (k := 1) (n := 10) (fun d hd => ?_) (by rw [List.length_map]; omega)
  obtain ⟨r, hr, rfl⟩ := List.mem_map.mp hd
  have gl : r.length ≤ n := grOk_len (lo := 0) (m := r.length) ⟨a2 r hr, fun _ _ => Nat.zero_le _, a3 r hr, Nat.le_refl _⟩
  rw [riders_ti]
  exact Rep.ints (fun i hi => by
    obtain ⟨j, hj, rfl⟩ := List.mem_map.mp hi
    have := a3 r hr j hj
    omega) (by rw [nI_len]; omega)
theorem wide_few : ∀ L, Asc 6 [2, 1] L → L.length ≤ 924 := by
  have h0 : ∀ L, Asc 6 [] L → L.length ≤ 1 ∧ ∀ p ∈ L, lastL p ≤ 0 := fun L hL => by
    rw [asc_uniq hL asc0]
    exact ⟨Nat.le_refl _, fun p hp => by rw [List.mem_singleton.mp hp]; exact Nat.le_refl _⟩
  have h1 := asc_bound (b := 2) h0
  have h2 := asc_bound (b := 1) h1
  intro L hL
  have := (h2 L hL).1
  have e : 1 * grN 6 (min 6 ((2 : Int).toNat + 0)) * grN 6 (min 6 ((1 : Int).toNat + min 6 ((2 : Int).toNat + 0))) = 924 := by decide +kernel
  omega
theorem flat_asc : Asc 3 [0, 0] [[[], []]] := ⟨List.pairwise_singleton .., fun p => by
  rw [List.mem_singleton]
  constructor
  · rintro rfl
    exact ⟨.nil, .nil, trivial⟩
  · intro h
    match p, h with
    | [a, b], h =>
      have h1 : a.length ≤ 0 := h.1.len
      have h2 : b.length ≤ 0 + a.length := h.2.1.len
      have ea : a = [] := List.eq_nil_of_length_eq_zero (by omega)
      have eb : b = [] := List.eq_nil_of_length_eq_zero (by omega)
      rw [ea, eb]
    | [], h => exact h.elim
    | [_], h => exact h.2.elim
    | _ :: _ :: _ :: _, h => exact h.2.2.elim⟩
theorem law_ok : ∀ ns : List Int, ns.length ≤ 63 → F_law_k26 [.kls (ns.map D.int)] [] (fun d _ => d = .bl true) noE := by
  intro ns _
  unfold F_law_k26
  refine ⟨rfl, state_ok fun S dk => ?_⟩
  refine ⟨⟨by decide, by decide⟩, ?_⟩
  refine for_rng 0 6 (fun i ρ S' => (∃ y2 y3 y4 y5 y6, ρ = [some (.kls (ns.map D.int)), some (.cell 1), y2, y3, y4, y5, y6, none]) ∧ Nk S' (1000 * i) []) ⟨⟨_, _, _, _, _, rfl⟩, dk.le (by omega)⟩ ?_ ?_
  · rintro i ρ S' K hi hK ⟨⟨y2, y3, y4, y5, y6, rfl⟩, dk⟩
    have go := fun bk : Rho → Sto → Prop => bod26_ok (y0 := some (.kls (ns.map D.int))) (y2 := some (.int (0 + (i : Int)))) (y3 := y3) (y4 := y4) (y5 := y5) (y6 := y6) (y7 := none) (De := ⟨K, fun d _ => d = .bl true, bk, K⟩) dk (by omega) fun S2 z3 z4 z5 z6 d2 => hK _ _ ⟨⟨_, _, _, _, _, rfl⟩, d2.le (by omega)⟩
    exact go _
  · rintro ρ S' ⟨⟨y2, y3, y4, y5, y6, rfl⟩, dk⟩
    obtain ⟨ds, ch, hd⟩ := plans_any (n := 6) (bs := [2, 1])
    have asc : Asc 6 [2, 1] ds := ⟨(ch_asc ch (plG_min 0 _).1).1, hd⟩
    have dl := wide_few ds asc
    have rr : ∀ f, Rep 3 25000 (.lst f (ds.map planV)) := fun f => Rep.lst (k := 2) (n := 22) (fun d hd' => by
      obtain ⟨p, hp, rfl⟩ := List.mem_map.mp hd'
      exact rep_p4 ((hd p).mp hp) (by decide) (by decide)) (by rw [List.length_map]; omega)
    obtain ⟨ds2, ch2, hd2⟩ := plans_any (n := 3) (bs := [0, 0])
    have asc2 : Asc 3 [0, 0] ds2 := ⟨(ch_asc ch2 (plG_min 0 _).1).1, hd2⟩
    obtain rfl := asc_uniq asc2 flat_asc
    refine ⟨szr rfl, szr rfl, ?_⟩
    refine y_each (bs := [2, 1]) (n := 6) (wk := 3) (rd := 1) (by decide) (by decide) (by decide) (by decide) (by omega) ch ?_
    refine repr_ok (rr false) ?_
    refine ⟨⟨rfl, rfl⟩, plans3_ok (bs := [2, 1]) (n := 6) (wk := 3) (rd := 1) (by decide) (by decide) (by decide) (by decide) fun f L hL ll => ⟨rfl, ?_⟩⟩
    obtain rfl := asc_uniq asc hL
    refine repr_ok (rr f) (ne_str rfl ?_)
    refine ⟨szr rfl, szr rfl, ?_⟩
    refine y_each (bs := [0, 0]) (n := 3) (wk := 2) (rd := 1) (by decide) (by decide) (by decide) (by decide) (by decide) ch2 ?_
    refine ⟨szr rfl, szr rfl, szr rfl, szr rfl, ?_⟩
    refine eqB_ok (pyC_of (p := .list [.tuple [.tuple [], .tuple []]]) rfl) (pyC_of (p := .list [.tuple [.tuple [], .tuple []]]) rfl) (by decide) (by decide) ?_
    rfl
end Pu
namespace Pu
open PySem PySem.Spec PyProof.Rows L2
theorem all_mk {l : PySem.W.OpenLaw} {w : World} {K : PySem.W.Frag} {h : Heap} {mg : Str → Option Value} {fa : Addr} (X : K.In h) (G : h.Ns mainGlobals mg) (hfa : mg "law" = some (.ref fa))
    {f_each_plan : Addr} {od_each_plan an_each_plan : Option Addr} {sl_each_plan : Array (Option Value)} {oc_each_plan kV_each_plan dc_each_plan pm_each_plan cd_each_plan ct_each_plan : Value}
    (a_each_plan : PySem.W.nsIn K mainGlobals "each_plan" = some (some (.ref f_each_plan)))
    (l_each_plan : K.lookup f_each_plan = some ⟨oc_each_plan, od_each_plan, .func (PySem.W.fnOf "each_plan" "each_plan" (defArgs s_each_plan) (defBody s_each_plan) (defScope s_each_plan) .none kV_each_plan dc_each_plan pm_each_plan an_each_plan cd_each_plan ct_each_plan), sl_each_plan⟩)
    (c_each_plan : PySem.W.codeIn K cd_each_plan "each_plan" = true)
    (k_each_plan : PySem.W.keepIn K (.ref f_each_plan) = true)
    {f_following_plan : Addr} {od_following_plan an_following_plan : Option Addr} {sl_following_plan : Array (Option Value)} {oc_following_plan kV_following_plan dc_following_plan pm_following_plan cd_following_plan ct_following_plan : Value}
    (a_following_plan : PySem.W.nsIn K mainGlobals "following_plan" = some (some (.ref f_following_plan)))
    (l_following_plan : K.lookup f_following_plan = some ⟨oc_following_plan, od_following_plan, .func (PySem.W.fnOf "following_plan" "following_plan" (defArgs s_following_plan) (defBody s_following_plan) (defScope s_following_plan) .none kV_following_plan dc_following_plan pm_following_plan an_following_plan cd_following_plan ct_following_plan), sl_following_plan⟩)
    (c_following_plan : PySem.W.codeIn K cd_following_plan "following_plan" = true)
    (k_following_plan : PySem.W.keepIn K (.ref f_following_plan) = true)
    {f_following_riders : Addr} {od_following_riders an_following_riders : Option Addr} {sl_following_riders : Array (Option Value)} {oc_following_riders kV_following_riders dc_following_riders pm_following_riders cd_following_riders ct_following_riders : Value}
    (a_following_riders : PySem.W.nsIn K mainGlobals "following_riders" = some (some (.ref f_following_riders)))
    (l_following_riders : K.lookup f_following_riders = some ⟨oc_following_riders, od_following_riders, .func (PySem.W.fnOf "following_riders" "following_riders" (defArgs s_following_riders) (defBody s_following_riders) (defScope s_following_riders) .none kV_following_riders dc_following_riders pm_following_riders an_following_riders cd_following_riders ct_following_riders), sl_following_riders⟩)
    (c_following_riders : PySem.W.codeIn K cd_following_riders "following_riders" = true)
    (k_following_riders : PySem.W.keepIn K (.ref f_following_riders) = true)
    {f__law_draws : Addr} {od__law_draws an__law_draws : Option Addr} {sl__law_draws : Array (Option Value)} {oc__law_draws kV__law_draws dc__law_draws pm__law_draws cd__law_draws ct__law_draws : Value}
    (a__law_draws : PySem.W.nsIn K mainGlobals "_law_draws" = some (some (.ref f__law_draws)))
    (l__law_draws : K.lookup f__law_draws = some ⟨oc__law_draws, od__law_draws, .func (PySem.W.fnOf "_law_draws" "_law_draws" (defArgs s__law_draws) (defBody s__law_draws) (defScope s__law_draws) .none kV__law_draws dc__law_draws pm__law_draws an__law_draws cd__law_draws ct__law_draws), sl__law_draws⟩)
    (c__law_draws : PySem.W.codeIn K cd__law_draws "_law_draws" = true)
    (k__law_draws : PySem.W.keepIn K (.ref f__law_draws) = true)
    {f__law_next : Addr} {od__law_next an__law_next : Option Addr} {sl__law_next : Array (Option Value)} {oc__law_next kV__law_next dc__law_next pm__law_next cd__law_next ct__law_next : Value}
    (a__law_next : PySem.W.nsIn K mainGlobals "_law_next" = some (some (.ref f__law_next)))
    (l__law_next : K.lookup f__law_next = some ⟨oc__law_next, od__law_next, .func (PySem.W.fnOf "_law_next" "_law_next" (defArgs s__law_next) (defBody s__law_next) (defScope s__law_next) .none kV__law_next dc__law_next pm__law_next an__law_next cd__law_next ct__law_next), sl__law_next⟩)
    (c__law_next : PySem.W.codeIn K cd__law_next "_law_next" = true)
    (k__law_next : PySem.W.keepIn K (.ref f__law_next) = true)
    {f__law_road : Addr} {od__law_road an__law_road : Option Addr} {sl__law_road : Array (Option Value)} {oc__law_road kV__law_road dc__law_road pm__law_road cd__law_road ct__law_road : Value}
    (a__law_road : PySem.W.nsIn K mainGlobals "_law_road" = some (some (.ref f__law_road)))
    (l__law_road : K.lookup f__law_road = some ⟨oc__law_road, od__law_road, .func (PySem.W.fnOf "_law_road" "_law_road" (defArgs s__law_road) (defBody s__law_road) (defScope s__law_road) .none kV__law_road dc__law_road pm__law_road an__law_road cd__law_road ct__law_road), sl__law_road⟩)
    (c__law_road : PySem.W.codeIn K cd__law_road "_law_road" = true)
    (k__law_road : PySem.W.keepIn K (.ref f__law_road) = true)
    {f__law_groups : Addr} {od__law_groups an__law_groups : Option Addr} {sl__law_groups : Array (Option Value)} {oc__law_groups kV__law_groups dc__law_groups pm__law_groups cd__law_groups ct__law_groups : Value}
    (a__law_groups : PySem.W.nsIn K mainGlobals "_law_groups" = some (some (.ref f__law_groups)))
    (l__law_groups : K.lookup f__law_groups = some ⟨oc__law_groups, od__law_groups, .func (PySem.W.fnOf "_law_groups" "_law_groups" (defArgs s__law_groups) (defBody s__law_groups) (defScope s__law_groups) .none kV__law_groups dc__law_groups pm__law_groups an__law_groups cd__law_groups ct__law_groups), sl__law_groups⟩)
    (c__law_groups : PySem.W.codeIn K cd__law_groups "_law_groups" = true)
    (k__law_groups : PySem.W.keepIn K (.ref f__law_groups) = true)
    {f__law_plans : Addr} {od__law_plans an__law_plans : Option Addr} {sl__law_plans : Array (Option Value)} {oc__law_plans kV__law_plans dc__law_plans pm__law_plans cd__law_plans ct__law_plans : Value}
    (a__law_plans : PySem.W.nsIn K mainGlobals "_law_plans" = some (some (.ref f__law_plans)))
    (l__law_plans : K.lookup f__law_plans = some ⟨oc__law_plans, od__law_plans, .func (PySem.W.fnOf "_law_plans" "_law_plans" (defArgs s__law_plans) (defBody s__law_plans) (defScope s__law_plans) .none kV__law_plans dc__law_plans pm__law_plans an__law_plans cd__law_plans ct__law_plans), sl__law_plans⟩)
    (c__law_plans : PySem.W.codeIn K cd__law_plans "_law_plans" = true)
    (k__law_plans : PySem.W.keepIn K (.ref f__law_plans) = true)
    {f__law_small : Addr} {od__law_small an__law_small : Option Addr} {sl__law_small : Array (Option Value)} {oc__law_small kV__law_small dc__law_small pm__law_small cd__law_small ct__law_small : Value}
    (a__law_small : PySem.W.nsIn K mainGlobals "_law_small" = some (some (.ref f__law_small)))
    (l__law_small : K.lookup f__law_small = some ⟨oc__law_small, od__law_small, .func (PySem.W.fnOf "_law_small" "_law_small" (defArgs s__law_small) (defBody s__law_small) (defScope s__law_small) .none kV__law_small dc__law_small pm__law_small an__law_small cd__law_small ct__law_small), sl__law_small⟩)
    (c__law_small : PySem.W.codeIn K cd__law_small "_law_small" = true)
    (k__law_small : PySem.W.keepIn K (.ref f__law_small) = true)
    {f__law_bound : Addr} {od__law_bound an__law_bound : Option Addr} {sl__law_bound : Array (Option Value)} {oc__law_bound kV__law_bound dc__law_bound pm__law_bound cd__law_bound ct__law_bound : Value}
    (a__law_bound : PySem.W.nsIn K mainGlobals "_law_bound" = some (some (.ref f__law_bound)))
    (l__law_bound : K.lookup f__law_bound = some ⟨oc__law_bound, od__law_bound, .func (PySem.W.fnOf "_law_bound" "_law_bound" (defArgs s__law_bound) (defBody s__law_bound) (defScope s__law_bound) .none kV__law_bound dc__law_bound pm__law_bound an__law_bound cd__law_bound ct__law_bound), sl__law_bound⟩)
    (c__law_bound : PySem.W.codeIn K cd__law_bound "_law_bound" = true)
    (k__law_bound : PySem.W.keepIn K (.ref f__law_bound) = true)
    {f__law_first : Addr} {od__law_first an__law_first : Option Addr} {sl__law_first : Array (Option Value)} {oc__law_first kV__law_first dc__law_first pm__law_first cd__law_first ct__law_first : Value}
    (a__law_first : PySem.W.nsIn K mainGlobals "_law_first" = some (some (.ref f__law_first)))
    (l__law_first : K.lookup f__law_first = some ⟨oc__law_first, od__law_first, .func (PySem.W.fnOf "_law_first" "_law_first" (defArgs s__law_first) (defBody s__law_first) (defScope s__law_first) .none kV__law_first dc__law_first pm__law_first an__law_first cd__law_first ct__law_first), sl__law_first⟩)
    (c__law_first : PySem.W.codeIn K cd__law_first "_law_first" = true)
    (k__law_first : PySem.W.keepIn K (.ref f__law_first) = true)
    {f__law_two : Addr} {od__law_two an__law_two : Option Addr} {sl__law_two : Array (Option Value)} {oc__law_two kV__law_two dc__law_two pm__law_two cd__law_two ct__law_two : Value}
    (a__law_two : PySem.W.nsIn K mainGlobals "_law_two" = some (some (.ref f__law_two)))
    (l__law_two : K.lookup f__law_two = some ⟨oc__law_two, od__law_two, .func (PySem.W.fnOf "_law_two" "_law_two" (defArgs s__law_two) (defBody s__law_two) (defScope s__law_two) .none kV__law_two dc__law_two pm__law_two an__law_two cd__law_two ct__law_two), sl__law_two⟩)
    (c__law_two : PySem.W.codeIn K cd__law_two "_law_two" = true)
    (k__law_two : PySem.W.keepIn K (.ref f__law_two) = true)
    {f__law_far_right : Addr} {od__law_far_right an__law_far_right : Option Addr} {sl__law_far_right : Array (Option Value)} {oc__law_far_right kV__law_far_right dc__law_far_right pm__law_far_right cd__law_far_right ct__law_far_right : Value}
    (a__law_far_right : PySem.W.nsIn K mainGlobals "_law_far_right" = some (some (.ref f__law_far_right)))
    (l__law_far_right : K.lookup f__law_far_right = some ⟨oc__law_far_right, od__law_far_right, .func (PySem.W.fnOf "_law_far_right" "_law_far_right" (defArgs s__law_far_right) (defBody s__law_far_right) (defScope s__law_far_right) .none kV__law_far_right dc__law_far_right pm__law_far_right an__law_far_right cd__law_far_right ct__law_far_right), sl__law_far_right⟩)
    (c__law_far_right : PySem.W.codeIn K cd__law_far_right "_law_far_right" = true)
    (k__law_far_right : PySem.W.keepIn K (.ref f__law_far_right) = true)
    {f_law : Addr} {od_law an_law : Option Addr} {sl_law : Array (Option Value)} {oc_law kV_law dc_law pm_law cd_law ct_law : Value}
    (a_law : PySem.W.nsIn K mainGlobals "law" = some (some (.ref f_law)))
    (l_law : K.lookup f_law = some ⟨oc_law, od_law, .func (PySem.W.fnOf "law" "law" (defArgs s_law) (defBody s_law) (defScope s_law) .none kV_law dc_law pm_law an_law cd_law ct_law), sl_law⟩)
    (c_law : PySem.W.codeIn K cd_law "law" = true)
    (k_law : PySem.W.keepIn K (.ref f_law) = true)
    (z_abs : PySem.W.nsIn K mainGlobals "abs" = some none)
    (z_int : PySem.W.nsIn K mainGlobals "int" = some none)
    (z_len : PySem.W.nsIn K mainGlobals "len" = some none)
    (z_list : PySem.W.nsIn K mainGlobals "list" = some none)
    (z_min : PySem.W.nsIn K mainGlobals "min" = some none)
    (z_range : PySem.W.nsIn K mainGlobals "range" = some none)
    (z_repr : PySem.W.nsIn K mainGlobals "repr" = some none)
    (z_reversed : PySem.W.nsIn K mainGlobals "reversed" = some none)
    (z_sorted : PySem.W.nsIn K mainGlobals "sorted" = some none)
    (z_zip : PySem.W.nsIn K mainGlobals "zip" = some none)
    : ∃ fd : FuncData, (∀ (s : Shared) (v : Value), BindsTo s fd ⟨[v], []⟩ [("_law_script", v)]) ∧ ∀ base : Heap, K.In base → base.Ns mainGlobals mg → BmB base mg → Rb.FnG l.prog w K mg base CX0 9 fa fd ["_law_script"] (spF (Pu.ct0 K mg) F_law_k26) := by
  cases hfa.symm.trans (PySem.W.mg_of X G a_law)
  have F_each_plan := fun_mk (st := s_each_plan) l_each_plan c_each_plan k_each_plan
  have b_each_plan := F_each_plan.binds (ps := ["road", "people"]) fun _ _ _ _ _ _ us hl => match us, hl with | [_, _], _ => rfl
  have F_following_plan := fun_mk (st := s_following_plan) l_following_plan c_following_plan k_following_plan
  have b_following_plan := F_following_plan.binds (ps := ["road", "people", "plan"]) fun _ _ _ _ _ _ us hl => match us, hl with | [_, _, _], _ => rfl
  have F_following_riders := fun_mk (st := s_following_riders) l_following_riders c_following_riders k_following_riders
  have b_following_riders := F_following_riders.binds (ps := ["people", "riders", "most"]) fun _ _ _ _ _ _ us hl => match us, hl with | [_, _, _], _ => rfl
  have F__law_draws := fun_mk (st := s__law_draws) l__law_draws c__law_draws k__law_draws
  have b__law_draws := F__law_draws.binds (ps := ["_law_script"]) fun _ _ _ _ _ _ us hl => match us, hl with | [_], _ => rfl
  have F__law_next := fun_mk (st := s__law_next) l__law_next c__law_next k__law_next
  have b__law_next := F__law_next.binds (ps := ["_law_state", "_law_many"]) fun _ _ _ _ _ _ us hl => match us, hl with | [_, _], _ => rfl
  have F__law_road := fun_mk (st := s__law_road) l__law_road c__law_road k__law_road
  have b__law_road := F__law_road.binds (ps := ["_law_state", "_law_stages", "_law_most"]) fun _ _ _ _ _ _ us hl => match us, hl with | [_, _, _], _ => rfl
  have F__law_groups := fun_mk (st := s__law_groups) l__law_groups c__law_groups k__law_groups
  have b__law_groups := F__law_groups.binds (ps := ["_law_people", "_law_most"]) fun _ _ _ _ _ _ us hl => match us, hl with | [_, _], _ => rfl
  have F__law_plans := fun_mk (st := s__law_plans) l__law_plans c__law_plans k__law_plans
  have b__law_plans := F__law_plans.binds (ps := ["_law_road_here", "_law_people"]) fun _ _ _ _ _ _ us hl => match us, hl with | [_, _], _ => rfl
  have F__law_small := fun_mk (st := s__law_small) l__law_small c__law_small k__law_small
  have b__law_small := F__law_small.binds (ps := ["_law_state", "_law_plans_here"]) fun _ _ _ _ _ _ us hl => match us, hl with | [_, _], _ => rfl
  have F__law_bound := fun_mk (st := s__law_bound) l__law_bound c__law_bound k__law_bound
  have b__law_bound := F__law_bound.binds (ps := ["_law_road_here", "_law_people"]) fun _ _ _ _ _ _ us hl => match us, hl with | [_, _], _ => rfl
  have F__law_first := fun_mk (st := s__law_first) l__law_first c__law_first k__law_first
  have b__law_first := F__law_first.binds (ps := ["_law_road_here", "_law_people", "_law_many"]) fun _ _ _ _ _ _ us hl => match us, hl with | [_, _, _], _ => rfl
  have F__law_two := fun_mk (st := s__law_two) l__law_two c__law_two k__law_two
  have b__law_two := F__law_two.binds (ps := ["_law_road_here", "_law_people"]) fun _ _ _ _ _ _ us hl => match us, hl with | [_, _], _ => rfl
  have F__law_far_right := fun_mk (st := s__law_far_right) l__law_far_right c__law_far_right k__law_far_right
  have b__law_far_right := F__law_far_right.binds (ps := ["_law_state"]) fun _ _ _ _ _ _ us hl => match us, hl with | [_], _ => rfl
  have F_law := fun_mk (st := s_law) l_law c_law k_law
  have b_law := F_law.binds (ps := ["_law_script"]) fun _ _ _ _ _ _ us hl => match us, hl with | [_], _ => rfl
  exact ⟨_, fun s v => .of_eq rfl, fun base _ _ hB => G_law (⟨_, _, F_each_plan, PySem.W.mg_of X G a_each_plan, b_each_plan, _, _, F_following_plan, PySem.W.mg_of X G a_following_plan, b_following_plan, _, _, F_following_riders, PySem.W.mg_of X G a_following_riders, b_following_riders, _, _, F__law_draws, PySem.W.mg_of X G a__law_draws, b__law_draws, _, _, F__law_next, PySem.W.mg_of X G a__law_next, b__law_next, _, _, F__law_road, PySem.W.mg_of X G a__law_road, b__law_road, _, _, F__law_groups, PySem.W.mg_of X G a__law_groups, b__law_groups, _, _, F__law_plans, PySem.W.mg_of X G a__law_plans, b__law_plans, _, _, F__law_small, PySem.W.mg_of X G a__law_small, b__law_small, _, _, F__law_bound, PySem.W.mg_of X G a__law_bound, b__law_bound, _, _, F__law_first, PySem.W.mg_of X G a__law_first, b__law_first, _, _, F__law_two, PySem.W.mg_of X G a__law_two, b__law_two, _, _, F__law_far_right, PySem.W.mg_of X G a__law_far_right, b__law_far_right, _, _, F_law, PySem.W.mg_of X G a_law, b_law, PySem.W.mg_none_of X G z_abs, PySem.W.mg_none_of X G z_int, PySem.W.mg_none_of X G z_len, PySem.W.mg_none_of X G z_list, PySem.W.mg_none_of X G z_min, PySem.W.mg_none_of X G z_range, PySem.W.mg_none_of X G z_repr, PySem.W.mg_none_of X G z_reversed, PySem.W.mg_none_of X G z_sorted, PySem.W.mg_none_of X G z_zip⟩ : Tx K mg)⟩
end Pu
open PySem PySem.W PyProof.Rows
set_option maxHeartbeats 0 in
theorem PySem.Challenge.cw_roadbikes_k26_plans_yielded_holds : PySem.Challenge.rw_roadbikes_k26_plans_yielded.Holds := by
  w_on; o_law; k_head; (case hw => w_witness2)
  k_fill
  refine' Pu.endPT1 (l := PySem.Challenge.rw_roadbikes_k26_plans_yielded) (n := 63) (lv := 9) (x := "_law_script") (FL := Pu.F_law_k26) "law" rfl (by decide) rfl ⟨rfl, by decide, by decide⟩ (fun w h Y => PySem.W.kIn_of Y) ?tab ?F Pu.law_ok ?hTb
  case tab =>
    intro pr
    refine' Pu.tab_is ?e1 ?e2 ?e3 ?e4 ?e5 ?e6 ?e7 ?e8; (case e3 => k_is); (case e4 => k_is); (case e5 => exact rfl); (case e6 => exact rfl); (case e7 => k_is); (case e8 => exact rfl); (case e1 => kernel_rfl); (case e2 => kernel_rfl)
  case hTb => exact fun pr => by kernel_rfl
  case F =>
    intro w mg fa h KX G hmg
    refine' Pu.all_mk KX G hmg ?a_each_plan ?l_each_plan ?c_each_plan ?k_each_plan ?a_following_plan ?l_following_plan ?c_following_plan ?k_following_plan ?a_following_riders ?l_following_riders ?c_following_riders ?k_following_riders ?a__law_draws ?l__law_draws ?c__law_draws ?k__law_draws ?a__law_next ?l__law_next ?c__law_next ?k__law_next ?a__law_road ?l__law_road ?c__law_road ?k__law_road ?a__law_groups ?l__law_groups ?c__law_groups ?k__law_groups ?a__law_plans ?l__law_plans ?c__law_plans ?k__law_plans ?a__law_small ?l__law_small ?c__law_small ?k__law_small ?a__law_bound ?l__law_bound ?c__law_bound ?k__law_bound ?a__law_first ?l__law_first ?c__law_first ?k__law_first ?a__law_two ?l__law_two ?c__law_two ?k__law_two ?a__law_far_right ?l__law_far_right ?c__law_far_right ?k__law_far_right ?a_law ?l_law ?c_law ?k_law ?z_abs ?z_int ?z_len ?z_list ?z_min ?z_range ?z_repr ?z_reversed ?z_sorted ?z_zip
    (case a_each_plan => k_is); (case l_each_plan => k_is); (case c_each_plan => k_is); (case k_each_plan => k_is); (case a_following_plan => k_is); (case l_following_plan => k_is); (case c_following_plan => k_is); (case k_following_plan => k_is); (case a_following_riders => k_is); (case l_following_riders => k_is); (case c_following_riders => k_is); (case k_following_riders => k_is); (case a__law_draws => k_is); (case l__law_draws => k_is); (case c__law_draws => k_is); (case k__law_draws => k_is); (case a__law_next => k_is); (case l__law_next => k_is); (case c__law_next => k_is); (case k__law_next => k_is); (case a__law_road => k_is); (case l__law_road => k_is); (case c__law_road => k_is); (case k__law_road => k_is); (case a__law_groups => k_is); (case l__law_groups => k_is); (case c__law_groups => k_is); (case k__law_groups => k_is); (case a__law_plans => k_is); (case l__law_plans => k_is); (case c__law_plans => k_is); (case k__law_plans => k_is); (case a__law_small => k_is); (case l__law_small => k_is); (case c__law_small => k_is); (case k__law_small => k_is); (case a__law_bound => k_is); (case l__law_bound => k_is); (case c__law_bound => k_is); (case k__law_bound => k_is); (case a__law_first => k_is); (case l__law_first => k_is); (case c__law_first => k_is); (case k__law_first => k_is); (case a__law_two => k_is); (case l__law_two => k_is); (case c__law_two => k_is); (case k__law_two => k_is); (case a__law_far_right => k_is); (case l__law_far_right => k_is); (case c__law_far_right => k_is); (case k__law_far_right => k_is); (case a_law => k_is); (case l_law => k_is); (case c_law => k_is); (case k_law => k_is); (case z_abs => k_is); (case z_int => k_is); (case z_len => k_is); (case z_list => k_is); (case z_min => k_is); (case z_range => k_is); (case z_repr => k_is); (case z_reversed => k_is); (case z_sorted => k_is); (case z_zip => k_is)
