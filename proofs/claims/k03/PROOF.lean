import PyProof.Rows.All
import Wide.All
import OpenK.AllK
import Wide.FinOn
import PyProof.EqAt
import PyProof.StrBlock
import PyProof.StrLawsIn
import PyProof.EqKinds
import PyProof.TupleCall
import HandS.ForMost
import HandS.Walk
import HandS.Style
import HandS.Exc
import HandS.HotCalls
import HandS.ExcField
import KE.KTryMore
import HandS.Wide
import HandS.IsInst
import HandS.Lambda
import HandS.EndTab
import HandS.ExcInit
import HandS.Flow
import HandS.StrMore
import HandS.Codes
import HandS.WordsExc
import KE.KStateDown
import HandS.More
import HandS.Defaults
import HandS.Head0
import HandS.Head1
import HandS.Head2
import HandS.HeadEnd
import HandS.HeadHook1
import HandS.HeadHook2
import HandS.HeadHook3
import HandS.HeadHook4
import HandS.HeadWalk
import HandS.Comp
import PyProof.GenQ
import HandS.GenList
import PySem.Challenge.RW_roundswap_k03_words_listed
set_option Elab.async false
set_option linter.all false
set_option maxRecDepth 100000
set_option maxHeartbeats 1000000
/-! what sleeps is not woken by code that goes on without waking it -/
namespace Gw
open PySem
open Sem (wp)
def dead : Resume → Sem PySem.Fin := fun _ => .unsupported "asleep"
def sleepy : GenState → Bool
  | .suspended .. => true
  | _ => false
def poison : GenState → GenState
  | .suspended _ l c p fs cl => .suspended dead l c p fs cl
  | x => x
theorem poison_seen (x : GenState) : (poison x).seen = x.seen := by cases x <;> rfl
theorem poison_bare (x : GenState) : (poison x).bare = x.bare := by cases x <;> rfl
def Tame : GenState → Prop
  | .suspended _ _ _ _ fs _ => splitAtGen fs = none
  | _ => True
def EndTame : End → Prop
  | .susp _ _ _ _ _ _ fs => splitAtGen fs = none
  | _ => True
theorem EndTame.gs {e : End} (h : EndTame e) : Tame e.genState := by
  cases e with
  | ret r => trivial
  | susp => exact h
/-- B: what sleeps; a: veiled; b: as it is -/
structure Vl (B a b : Array GenState) : Prop where
  size : a.size = b.size
  hid : ∀ (i : Nat) (gs : GenState), B[i]? = some gs → sleepy gs = true → a[i]? = some (poison gs) ∧ b[i]? = some gs
  eq : ∀ (i : Nat), (∀ gs, B[i]? = some gs → sleepy gs = false) → a[i]? = b[i]? ∧ ∀ x, a[i]? = some x → Tame x
def veil (B : Array GenState) : Array GenState := B.map poison
theorem Vl.start (B : Array GenState) : Vl B (veil B) B := by
  refine ⟨by simp [veil], fun i gs h _ => ?_, fun i h => ?_⟩
  · simp [veil, h]
  · cases e : B[i]? with
    | none => simp [veil, e]
    | some gs =>
      have := h gs e
      cases gs with
      | suspended => cases this
      | _ => simp [veil, e, poison, Tame]
theorem Vl.of {B a b : Array GenState} (v : Vl B a b) {i : Nat} {x : GenState} (h : a[i]? = some x) : (∃ gs, B[i]? = some gs ∧ sleepy gs = true ∧ x = poison gs ∧ b[i]? = some gs) ∨ ((∀ gs, B[i]? = some gs → sleepy gs = false) ∧ b[i]? = some x ∧ Tame x) := by
  cases e : B[i]? with
  | none =>
    obtain ⟨h1, h2⟩ := v.eq i (fun gs z => by rw [e] at z; cases z)
    refine .inr ⟨fun gs z => (by cases z), by rw [← h1]; exact h, h2 x h⟩
  | some gs =>
    cases hs : sleepy gs with
    | true =>
      obtain ⟨h1, h2⟩ := v.hid i gs e hs
      rw [h] at h1
      injection h1 with h1
      exact .inl ⟨gs, rfl, hs, h1, h2⟩
    | false =>
      obtain ⟨h1, h2⟩ := v.eq i (fun gs' z => by rw [e] at z; cases z; exact hs)
      exact .inr ⟨fun gs' z => by cases z; exact hs, by rw [← h1]; exact h, h2 x h⟩
theorem Vl.set {B a b : Array GenState} (v : Vl B a b) {g : Nat} (hg : ∀ gs, B[g]? = some gs → sleepy gs = false) {x : GenState} (hx : Tame x) : Vl B (a.setIfInBounds g x) (b.setIfInBounds g x) := by
  refine ⟨by simp [v.size], fun i gs h hs => ?_, fun i h => ?_⟩
  · have hne : g ≠ i := fun z => by
      rw [← z] at h
      have := hg gs h
      rw [hs] at this
      cases this
    rw [Array.getElem?_setIfInBounds_ne hne, Array.getElem?_setIfInBounds_ne hne]
    exact v.hid i gs h hs
  · by_cases e : g = i
    · subst e
      have sz := v.size
      refine ⟨?_, fun y hy => ?_⟩
      · rw [Array.getElem?_setIfInBounds, Array.getElem?_setIfInBounds, if_pos rfl, if_pos rfl, sz]
      · rw [Array.getElem?_setIfInBounds, if_pos rfl] at hy
        split at hy
        · injection hy with hy
          rw [← hy]
          exact hx
        · cases hy
    · rw [Array.getElem?_setIfInBounds_ne e, Array.getElem?_setIfInBounds_ne e]
      exact v.eq i h
theorem Vl.push {B a b : Array GenState} (v : Vl B a b) {x : GenState} (hx : Tame x) : Vl B (a.push x) (b.push x) := by
  refine ⟨by simp [v.size], fun i gs h hs => ?_, fun i h => ?_⟩
  · obtain ⟨h1, h2⟩ := v.hid i gs h hs
    obtain ⟨l1, _⟩ := Array.getElem?_eq_some_iff.mp h1
    obtain ⟨l2, _⟩ := Array.getElem?_eq_some_iff.mp h2
    rw [Array.getElem?_push, Array.getElem?_push, if_neg (by omega), if_neg (by omega)]
    exact ⟨h1, h2⟩
  · obtain ⟨h1, h2⟩ := v.eq i h
    rw [Array.getElem?_push, Array.getElem?_push, v.size]
    by_cases e : i = b.size
    · rw [if_pos e, if_pos e]
      refine ⟨rfl, fun y hy => ?_⟩
      injection hy with hy
      rw [← hy]
      exact hx
    · rw [if_neg e, if_neg e]
      exact ⟨h1, h2⟩
theorem no_run {M : Model} {Γ : Ctx} {p : Pos} {w : String} {fs : List Frame} {s s' : Shared} {e : End} (h : Runs M Γ p (.unsupported w) fs s e s') : False := by
  cases h with
  | segRet h _ => cases h
  | segGen h _ => cases h
  | segSuspOut _ h => cases h
  | segSuspGen _ h _ _ => cases h
theorem split_app : ∀ {f1 f2 : List Frame}, splitAtGen f1 = none → splitAtGen f2 = none → splitAtGen (f1 ++ f2) = none
  | [], _, _, h => h
  | .gen .. :: _, _, h, _ => by cases h
  | .ret .. :: f1, f2, h, h2 => by
    have h' : (splitAtGen f1).map _ = none := h
    rw [Option.map_eq_none_iff] at h'
    show (splitAtGen (f1 ++ f2)).map _ = none
    rw [split_app h' h2]
    rfl
theorem split_tail {k h g l c p kp} {fs : List Frame} (z : splitAtGen (.ret k h g l c p kp :: fs) = none) : splitAtGen fs = none := by
  have h' : (splitAtGen fs).map _ = none := z
  rw [Option.map_eq_none_iff] at h'
  exact h'
theorem runs {M : Model} {Γ : Ctx} {p : Pos} {t : Sem PySem.Fin} {fs : List Frame} {s s' : Shared} {e : End} (h : Runs M Γ p t fs s e s') :
    ∀ (B b : Array GenState), Vl B s.gens b → splitAtGen fs = none → ∃ b', Vl B s'.gens b' ∧ Runs M Γ p t fs { s with gens := b } e { s' with gens := b' } ∧ EndTame e := by
  induction h with
  | done => intro B b v _; exact ⟨b, v, .done, trivial⟩
  | raise => intro B b v _; exact ⟨b, v, .raise, trivial⟩
  | again hq _ ih => intro B b v hf; obtain ⟨b', v', r, he⟩ := ih B b v hf; exact ⟨b', v', .again hq r, he⟩
  | rule _ ih => intro B b v hf; obtain ⟨b', v', r, he⟩ := ih B b v hf; exact ⟨b', v', .rule r, he⟩
  | «at» _ ih => intro B b v hf; obtain ⟨b', v', r, he⟩ := ih B b v hf; exact ⟨b', v', .at r, he⟩
  | load ho _ ih => intro B b v hf; obtain ⟨b', v', r, he⟩ := ih B b v hf; exact ⟨b', v', .load ho r, he⟩
  | update ho _ ih => intro B b v hf; obtain ⟨b', v', r, he⟩ := ih B b v hf; exact ⟨b', v', .update ho r, he⟩
  | loadIfAlive _ ih => intro B b v hf; obtain ⟨b', v', r, he⟩ := ih B b v hf; exact ⟨b', v', .loadIfAlive r, he⟩
  | point _ ih => intro B b v hf; obtain ⟨b', v', r, he⟩ := ih B b v hf; exact ⟨b', v', .point r, he⟩
  | alloc _ ih => intro B b v hf; obtain ⟨b', v', r, he⟩ := ih B b v hf; exact ⟨b', v', .alloc r, he⟩
  | fresh _ ih => intro B b v hf; obtain ⟨b', v', r, he⟩ := ih B b v hf; exact ⟨b', v', .fresh r, he⟩
  | ask _ ih => intro B b v hf; obtain ⟨b', v', r, he⟩ := ih B b v hf; exact ⟨b', v', .ask r, he⟩
  | choose hn _ ih => intro B b v hf; obtain ⟨b', v', r, he⟩ := ih B b v hf; exact ⟨b', v', .choose hn r, he⟩
  | os _ ih => intro B b v hf; obtain ⟨b', v', r, he⟩ := ih B b v hf; exact ⟨b', v', .os r, he⟩
  | handled _ ih => intro B b v hf; obtain ⟨b', v', r, he⟩ := ih B b v hf; exact ⟨b', v', .handled r, he⟩
  | @genState s g st k e s' Γ p hg _ ih =>
    intro B b v hf
    obtain ⟨b', v', r, he⟩ := ih B b v hf
    rcases v.of hg with ⟨gs, _, _, rfl, hb⟩ | ⟨_, hb, _⟩
    · rw [poison_seen] at r
      exact ⟨b', v', .genState (st := gs) hb r, he⟩
    · exact ⟨b', v', .genState hb r, he⟩
  | stack _ ih => intro B b v hf; obtain ⟨b', v', r, he⟩ := ih B b v hf; exact ⟨b', v', .stack r, he⟩
  | thread _ ih => intro B b v hf; obtain ⟨b', v', r, he⟩ := ih B b v hf; exact ⟨b', v', .thread r, he⟩
  | newGen _ ih =>
    intro B b v hf
    obtain ⟨b', v', r, he⟩ := ih B (b.push _) (v.push trivial) hf
    rw [v.size] at r
    exact ⟨b', v', .newGen r, he⟩
  | call _ _ ih1 ih2 =>
    intro B b v hf
    obtain ⟨b1, v1, r1, _⟩ := ih1 B b v rfl
    obtain ⟨b', v', r, he⟩ := ih2 B b1 v1 hf
    exact ⟨b', v', .call r1 r, he⟩
  | callSusp _ ih =>
    intro B b v hf
    obtain ⟨b1, v1, r1, he⟩ := ih B b v rfl
    exact ⟨b1, v1, .callSusp r1, split_app he rfl⟩
  | yield => intro B b v _; exact ⟨b, v, .yield, rfl⟩
  | resumeFresh hg _ hq _ ih1 ih2 =>
    intro B b v hf
    rcases v.of hg with ⟨gs, _, hs, e, hb⟩ | ⟨hn, hb, _⟩
    · cases gs with
      | suspended => cases e
      | _ => cases hs
    · obtain ⟨b1, v1, r1, he1⟩ := ih1 B _ (v.set hn (x := .running) trivial) rfl
      obtain ⟨b', v', r, he⟩ := ih2 B _ (v1.set hn he1.gs) hf
      exact ⟨b', v', .resumeFresh hb r1 hq r, he⟩
  | resumeSuspended hg h1 hq _ ih1 ih2 =>
    intro B b v hf
    rcases v.of hg with ⟨gs, _, hs, e, hb⟩ | ⟨hn, hb, ht⟩
    · cases gs with
      | suspended =>
        injection e with e1 e2 e3 e4 e5 e6
        subst e1
        exact (no_run h1).elim
      | _ => cases hs
    · obtain ⟨b1, v1, r1, he1⟩ := ih1 B _ (v.set hn (x := .running) trivial) ht
      obtain ⟨b', v', r, he⟩ := ih2 B _ (v1.set hn he1.gs) hf
      exact ⟨b', v', .resumeSuspended hb r1 hq r, he⟩
  | resumeJustStarted hg hv _ ih =>
    intro B b v hf
    obtain ⟨b', v', r, he⟩ := ih B b v hf
    rcases v.of hg with ⟨gs, _, hs, e, hb⟩ | ⟨hn, hb, _⟩
    · cases gs with
      | suspended => cases e
      | _ => cases hs
    · exact ⟨b', v', .resumeJustStarted hb hv r, he⟩
  | resumeThrowFresh hg _ ih =>
    intro B b v hf
    rcases v.of hg with ⟨gs, _, hs, e, hb⟩ | ⟨hn, hb, _⟩
    · cases gs with
      | suspended => cases e
      | _ => cases hs
    · obtain ⟨b', v', r, he⟩ := ih B _ (v.set hn (x := .finished) trivial) hf
      exact ⟨b', v', .resumeThrowFresh hb r, he⟩
  | resumeRunning hg _ ih =>
    intro B b v hf
    obtain ⟨b', v', r, he⟩ := ih B b v hf
    rcases v.of hg with ⟨gs, _, hs, e, hb⟩ | ⟨hn, hb, _⟩
    · cases gs with
      | suspended => cases e
      | _ => cases hs
    · exact ⟨b', v', .resumeRunning hb r, he⟩
  | resumeFinished hg _ ih =>
    intro B b v hf
    obtain ⟨b', v', r, he⟩ := ih B b v hf
    rcases v.of hg with ⟨gs, _, hs, e, hb⟩ | ⟨hn, hb, _⟩
    · cases gs with
      | suspended => cases e
      | _ => cases hs
    · exact ⟨b', v', .resumeFinished hb r, he⟩
  | segRet _ _ ih1 ih2 =>
    intro B b v hf
    obtain ⟨b1, v1, r1, _⟩ := ih1 B b v rfl
    obtain ⟨b', v', r, he⟩ := ih2 B b1 v1 (split_tail hf)
    exact ⟨b', v', .segRet r1 r, he⟩
  | segGen => intro B b v hf; cases hf
  | segSuspOut hs _ ih =>
    intro B b v hf
    obtain ⟨b1, v1, r1, he⟩ := ih B b v rfl
    exact ⟨b1, v1, .segSuspOut hs r1, split_app he hf⟩
  | segSuspGen hs => intro B b v hf; rw [hs] at hf; cases hf
/-! the same for what is wanted behind a code -/
theorem wakes {M : Model} {Γ : Ctx} {p : Pos} {g : Nat} {r : Resume} {s s' : Shared} {res : GenResult} (h : Wakes M Γ p g r s res s') {B b : Array GenState} (v : Vl B s.gens b) :
    ∃ b', Vl B s'.gens b' ∧ Wakes M Γ p g r { s with gens := b } res { s' with gens := b' } := by
  unfold Wakes at h
  cases e : s.gens[g]? with
  | none => rw [e] at h; exact h.elim
  | some st =>
    rw [e] at h
    rcases v.of e with ⟨gs, _, hs, rfl, hb⟩ | ⟨hn, hb, ht⟩
    · cases gs with
      | suspended =>
        obtain ⟨e₁, s₁, hr, _⟩ := h
        exact (no_run hr).elim
      | _ => cases hs
    · unfold Wakes
      simp only [hb]
      cases st with
      | fresh c =>
        cases r with
        | send x =>
          cases x with
          | none =>
            obtain ⟨e₁, s₁, hr, hq, rfl, rfl⟩ := h
            obtain ⟨b1, v1, r1, he1⟩ := runs hr B _ (v.set hn (x := .running) trivial) rfl
            exact ⟨_, v1.set hn he1.gs, e₁, _, r1, hq, rfl, rfl⟩
          | _ =>
            obtain ⟨h1, rfl⟩ := h
            exact ⟨b, v, h1, rfl⟩
        | throw x =>
          obtain ⟨h1, rfl⟩ := h
          exact ⟨_, v.set hn (x := .finished) trivial, h1, rfl⟩
      | suspended k₀ l₀ c₀ p₀ fs cl =>
        obtain ⟨e₁, s₁, hr, hq, rfl, rfl⟩ := h
        obtain ⟨b1, v1, r1, he1⟩ := runs hr B _ (v.set hn (x := .running) trivial) ht
        exact ⟨_, v1.set hn he1.gs, e₁, _, r1, hq, rfl, rfl⟩
      | running =>
        obtain ⟨h1, rfl⟩ := h
        exact ⟨b, v, h1, rfl⟩
      | finished =>
        obtain ⟨h1, rfl⟩ := h
        exact ⟨b, v, h1, rfl⟩
/-- lifted: behind the veil P holds -/
def Lift {α : Type} (B : Array GenState) (P : α → Shared → Prop) : α → Shared → Prop := fun a s' => ∃ s1 : Shared, Vl B s1.gens s'.gens ∧ s' = { s1 with gens := s'.gens } ∧ P a s1
theorem wp_veil {α : Type} (M : Model) (Γ : Ctx) (B : Array GenState) (t : Sem α) : ∀ (Q : α → Pos → Shared → Prop) (E : Value → Pos → Shared → Prop) (p : Pos) (s : Shared) (b : Array GenState), Vl B s.gens b → wp M Γ t Q E p s →
    wp M Γ t (fun a p' => Lift B (fun (a : α) s1 => Q a p' s1) a) (fun e p' => Lift B (fun (e : Value) s1 => E e p' s1) e) p { s with gens := b } := by
  induction t with
  | pure a => intro Q E p s b v h; exact ⟨s, v, rfl, h⟩
  | raise e => intro Q E p s b v h; exact ⟨s, v, rfl, h⟩
  | unsupported _ => intro Q E p s b _ h; exact h
  | finish _ => intro Q E p s b _ h; exact h
  | rule _ k ih => intro Q E p s b v h; exact ih () Q E p s b v h
  | «at» p' k ih => intro Q E p s b v h; exact ih () Q E p' s b v h
  | load a _ k ih => intro Q E p s b v h; obtain ⟨o, ho, h⟩ := h; exact ⟨o, ho, ih o Q E p s b v h⟩
  | update a _ f k ih => intro Q E p s b v h; exact ⟨h.1, ih () Q E p { s with heap := s.heap.update a f } b v h.2⟩
  | loadIfAlive a k ih => intro Q E p s b v h; exact ih _ Q E p s b v h
  | point _ k ih => intro Q E p s b v h; exact ih () Q E p s b v h
  | register _ _ => intro Q E p s b _ h; exact h
  | alloc o k ih => intro Q E p s b v h; exact ih s.heap.objs.size Q E p { s with heap := s.heap.push o } b v h
  | fresh k ih => intro Q E p s b v h; exact ih s.toks Q E p { s with toks := s.toks + 1 } b v h
  | ask k ih => intro Q E p s b v h; exact ih _ Q E p s b v h
  | choose src m k ih => intro Q E p s b v h; exact ⟨h.1, ih _ Q E p { s with drawn := s.drawn.bump src } b v h.2⟩
  | os q _ k ih => intro Q E p s b v h; exact ih _ Q E p { s with os := (Os.step s.os q).1 } b v h
  | call c hd _ _ k ih =>
    intro Q E p s b v h
    obtain ⟨r, s', hr, h⟩ := h
    obtain ⟨b', v', r', _⟩ := runs hr B b v rfl
    exact ⟨r, _, r', ih r Q E p s' b' v' h⟩
  | handled own k ih => intro Q E p s b v h; exact ih _ Q E p s b v h
  | genState g k ih =>
    intro Q E p s b v h
    obtain ⟨st, hs, h⟩ := h
    rcases v.of hs with ⟨gs, _, _, rfl, hb⟩ | ⟨_, hb, _⟩
    · rw [poison_seen] at h
      exact ⟨gs, hb, ih _ Q E p s b v h⟩
    · exact ⟨st, hb, ih _ Q E p s b v h⟩
  | newGen c k ih =>
    intro Q E p s b v h
    have z := ih _ Q E p { s with gens := s.gens.push (.fresh c) } (b.push (.fresh c)) (v.push (x := .fresh c) trivial) h
    rw [v.size] at z
    exact z
  | resume g r _ k ih =>
    intro Q E p s b v h
    obtain ⟨res, s', hw, h⟩ := h
    obtain ⟨b', v', hw'⟩ := wakes hw v
    exact ⟨res, _, hw', ih res Q E p s' b' v' h⟩
  | yield _ _ _ _ => intro Q E p s b _ h; exact h
  | stack k ih => intro Q E p s b v h; exact ih _ Q E p s b v h
  | fork _ _ => intro Q E p s b _ h; exact h
  | thread k ih => intro Q E p s b v h; exact ih _ Q E p s b v h
  | await _ _ _ _ _ => intro Q E p s b _ h; exact h
/-- behind a code that goes on though all that sleeps is dead, all that sleeps is as it was -/
theorem any_veil {α : Type} {M : Model} {A : Around} {t : Sem α} {Q : α → Shared → Prop} {E : Value → Shared → Prop} {s : Shared} (h : wpAny M A t Q E { s with gens := veil s.gens }) : wpAny M A t (Lift s.gens Q) (Lift s.gens E) s := fun Γ p hΓ => by
  have z := wp_veil M Γ s.gens t _ _ p { s with gens := veil s.gens } s.gens (Vl.start _) (h Γ p hΓ)
  exact z
theorem Lift.kept {α : Type} {B : Array GenState} {P : α → Shared → Prop} {a : α} {s' : Shared} (h : Lift B P a s') {i : Nat} {gs : GenState} (e : B[i]? = some gs) (hs : sleepy gs = true) : s'.gens[i]? = some gs := by
  obtain ⟨s1, v, _, _⟩ := h
  exact (v.hid i gs e hs).2
theorem Vl.bare {B a b : Array GenState} (v : Vl B a b) (h : ∀ x ∈ a, x.bare = true) : ∀ x ∈ b, x.bare = true := by
  intro x hx
  obtain ⟨i, hi, e⟩ := Array.mem_iff_getElem.mp hx
  have hi' : i < a.size := by rw [v.size]; exact hi
  have ea : a[i]? = some a[i] := Array.getElem?_eq_getElem hi'
  have hb := h a[i] (Array.getElem_mem hi')
  have eb : b[i]? = some x := by rw [Array.getElem?_eq_getElem hi, e]
  rcases v.of ea with ⟨gs, _, _, z, hb2⟩ | ⟨_, hb2, _⟩
  · rw [eb] at hb2
    injection hb2 with hb2
    rw [z, poison_bare] at hb
    rw [hb2]
    exact hb
  · rw [eb] at hb2
    injection hb2 with hb2
    rw [hb2]
    exact hb
theorem veil_bare {B : Array GenState} (h : ∀ x ∈ B, x.bare = true) : ∀ x ∈ veil B, x.bare = true := by
  intro x hx
  unfold veil at hx
  obtain ⟨y, hy, rfl⟩ := Array.mem_map.mp hx
  rw [poison_bare]
  exact h y hy
end Gw
set_option Elab.async false
set_option linter.all false
set_option maxRecDepth 100000
set_option maxHeartbeats 1000000
/-! a stretch of a generator's run, from its waking to its next rest -/
namespace Gw
open PySem PySem.Spec PyProof.Rows L2 GenW
open Sem (wp)
def Strt (M : Model) (A : Around) (c : Code) (t : Sem PySem.Fin) (fs : List Frame) (s : Shared) (Q : End → Shared → Prop) : Prop :=
  ∀ Γ p, Γ.code = c → Γ.Woken A → ∃ e s', Runs M Γ p t fs s e s' ∧ Q e s'
section
variable {M : Model} {A : Around} {c : Code} {fs : List Frame} {s : Shared} {Q : End → Shared → Prop}
theorem st_wrap {α : Type} {m : Sem α} {K : α → Sem PySem.Fin} {J : Value → Sem PySem.Fin} {gd : Bool → Bool} {lv : List Value → List Value} (h : wpAny M (A.over c fs) m (fun a s' => Strt M A c (K a) fs s' Q) (fun x s' => Strt M A c (J x) fs s' Q) s) : Strt M A c (m.wrap K J gd lv) fs s Q := by
  intro Γ p hc hΓ
  subst hc
  exact runs_wrap_of_wp K J gd lv m (h _ p (hΓ.over fs)) (fun a p' s' h' => h' Γ p' rfl hΓ) (fun x p' s' h' => h' Γ p' rfl hΓ)
theorem st_bind {α : Type} {m : Sem α} {K : α → Sem PySem.Fin} (h : wpAny M (A.over c fs) m (fun a s' => Strt M A c (K a) fs s' Q) (fun x s' => Strt M A c (.raise x) fs s' Q) s) : Strt M A c (m >>= K) fs s Q := by
  rw [Sem.bind_eq_wrap']
  exact st_wrap h
theorem st_bindw {α β : Type} {m : Sem α} {K : α → Sem β} {K' : β → Sem PySem.Fin} {J : Value → Sem PySem.Fin} {gd : Bool → Bool} {lv : List Value → List Value} (h : wpAny M (A.over c fs) m (fun a s' => Strt M A c ((K a).wrap K' J gd lv) fs s' Q) (fun x s' => Strt M A c (J x) fs s' Q) s) : Strt M A c ((m >>= K).wrap K' J gd lv) fs s Q := by
  rw [Sem.bind_eq_wrap', Sem.wrap_wrap]
  exact st_wrap h
theorem st_at {p' : Pos} {k : Unit → Sem PySem.Fin} (h : Strt M A c (k ()) fs s Q) : Strt M A c (.at p' k) fs s Q :=
  st_wrap (m := standAt p') (K := k) (J := .raise) (gd := id) (lv := id) (wpAny_standAt h)
theorem st_point {l : List Value} {k : Unit → Sem PySem.Fin} (h : Strt M A c (k ()) fs s Q) : Strt M A c (.point l k) fs s Q :=
  st_wrap (m := point) (K := k) (J := .raise) (gd := id) (lv := fun _ => l) (wpAny_point h)
theorem st_call {c' : Code} {h g l} {k : Result → Sem PySem.Fin} (hc : ∀ p, Strt M A c' (M.den c') (.ret k h g l c p [] :: fs) s Q) : Strt M A c (.call c' h g l k) fs s Q := by
  intro Γ p e hΓ
  subst e
  obtain ⟨e, s', hr, he⟩ := hc p (Γ.goto c') p rfl (hΓ.goto c')
  exact ⟨e, s', runs_call_seg hr, he⟩
theorem st_leaf {k h g l c₁ p₁ kp} (r : Result) (hk : Strt M A c₁ (k r) fs s Q) : Strt M A c (leafOf r) (.ret k h g l c₁ p₁ kp :: fs) s Q := by
  intro Γ p e hΓ
  subst e
  obtain ⟨e, s', hr, he⟩ := hk (Γ.goto c₁) p₁ rfl (hΓ.goto c₁)
  exact ⟨e, s', Runs.pop r hr, he⟩
theorem st_again {c' : Code} (hq : c'.quiet = true) (hc : Strt M A c' (M.den c') fs s Q) : Strt M A c (.pure (.again c')) fs s Q := by
  intro Γ p e hΓ
  subst e
  obtain ⟨e, s', hr, he⟩ := hc (Γ.goto c') p rfl (hΓ.goto c')
  exact ⟨e, s', Runs.head (c₁ := c') (fun _ _ x => .again hq x) hr, he⟩
theorem st_end (r : Result) (h : Q (.ret r) s) : Strt M A c (leafOf r) [] s Q := fun Γ p e _ => ⟨.ret r, s, Runs.leaf r, h⟩
theorem st_yield {v g l} {k : Resume → Sem PySem.Fin} (hfs : splitAtGen fs = none) (h : ∀ p, Q (.susp v g l k c p fs) s) : Strt M A c (.yield v g l k) fs s Q := by
  intro Γ p e _
  subst e
  exact ⟨_, s, Runs.yield' fs hfs, h p⟩
end
/-! the heap does not become smaller, and what is gone stays so -/
structure Grow (h h' : Heap) : Prop where
  sz : h.objs.size ≤ h'.objs.size
  gone : ∀ b, b < h.objs.size → h.get? b = none → h'.get? b = none
theorem Grow.refl (h : Heap) : Grow h h := ⟨Nat.le_refl _, fun _ _ e => e⟩
theorem Grow.trans {h h1 h2 : Heap} (a : Grow h h1) (b : Grow h1 h2) : Grow h h2 := ⟨Nat.le_trans a.sz b.sz, fun x hx e => b.gone x (Nat.lt_of_lt_of_le hx a.sz) (a.gone x hx e)⟩
theorem grow_push (h : Heap) (o : Obj) : Grow h (h.push o) := ⟨by rw [Heap.size_push]; exact Nat.le_succ _, fun b hb e => by rw [Heap.get?_push_ne h b o (Nat.ne_of_lt hb)]; exact e⟩
theorem grow_update {h : Heap} {a : Addr} {f : Obj → Obj} (ha : (h.get? a).isSome) : Grow h (h.update a f) := ⟨by rw [Heap.size_update]; exact Nat.le_refl _, fun b hb e => by
  have hne : a ≠ b := fun z => by rw [z, e] at ha; cases ha
  rw [Heap.get?_update_other h f hne]
  exact e⟩
theorem runs_grow {M : Model} {Γ : PySem.Ctx} {p : Pos} {t : Sem PySem.Fin} {fs : List Frame} {s s' : Shared} {e : End} (h : Runs M Γ p t fs s e s') : Grow s.heap s'.heap := by
  induction h with
  | done => exact .refl _
  | raise => exact .refl _
  | again _ _ ih => exact ih
  | rule _ ih => exact ih
  | «at» _ ih => exact ih
  | load _ _ ih => exact ih
  | update ha _ ih => exact (grow_update ha).trans ih
  | loadIfAlive _ ih => exact ih
  | point _ ih => exact ih
  | alloc _ ih => exact (grow_push _ _).trans ih
  | fresh _ ih => exact ih
  | ask _ ih => exact ih
  | choose _ _ ih => exact ih
  | os _ ih => exact ih
  | handled _ ih => exact ih
  | genState _ _ ih => exact ih
  | stack _ ih => exact ih
  | thread _ ih => exact ih
  | newGen _ ih => exact ih
  | call _ _ ih1 ih2 => exact ih1.trans ih2
  | callSusp _ ih => exact ih
  | yield => exact .refl _
  | resumeFresh _ _ _ _ ih1 ih2 => exact ih1.trans ih2
  | resumeSuspended _ _ _ _ ih1 ih2 => exact ih1.trans ih2
  | resumeJustStarted _ _ _ ih => exact ih
  | resumeThrowFresh _ _ ih => exact ih
  | resumeRunning _ _ ih => exact ih
  | resumeFinished _ _ ih => exact ih
  | segRet _ _ ih1 ih2 => exact ih1.trans ih2
  | segGen _ _ ih1 ih2 => exact ih1.trans ih2
  | segSuspOut _ _ ih => exact ih
  | segSuspGen _ _ _ _ ih1 ih2 => exact ih1.trans ih2
theorem wakes_grow {M : Model} {Γ : PySem.Ctx} {p : Pos} {g : Nat} {r : Resume} {s s' : Shared} {res : GenResult} (h : Wakes M Γ p g r s res s') : Grow s.heap s'.heap := by
  unfold Wakes at h
  split at h
  · exact h.elim
  · split at h
    · obtain ⟨e₁, s₁, hr, _, _, rfl⟩ := h
      have z := runs_grow hr
      exact z
    · rw [h.2]; exact .refl _
    · rw [h.2]; exact .refl _
  · obtain ⟨e₁, s₁, hr, _, _, rfl⟩ := h
    have z := runs_grow hr
    exact z
  · rw [h.2]; exact .refl _
  · rw [h.2]; exact .refl _
theorem wp_grow {α : Type} (M : Model) (Γ : PySem.Ctx) (h0 : Heap) (t : Sem α) : ∀ (Q : α → Pos → Shared → Prop) (E : Value → Pos → Shared → Prop) (p : Pos) (s : Shared), Grow h0 s.heap → wp M Γ t Q E p s →
    wp M Γ t (fun a p' s' => Grow h0 s'.heap ∧ Q a p' s') (fun e p' s' => Grow h0 s'.heap ∧ E e p' s') p s := by
  induction t with
  | pure a => intro Q E p s hn h; exact ⟨hn, h⟩
  | raise e => intro Q E p s hn h; exact ⟨hn, h⟩
  | unsupported _ => intro Q E p s _ h; exact h
  | finish _ => intro Q E p s _ h; exact h
  | rule _ k ih => intro Q E p s hn h; exact ih () Q E p s hn h
  | «at» p' k ih => intro Q E p s hn h; exact ih () Q E p' s hn h
  | load a _ k ih => intro Q E p s hn h; obtain ⟨o, ho, h⟩ := h; exact ⟨o, ho, ih o Q E p s hn h⟩
  | update a _ f k ih => intro Q E p s hn h; exact ⟨h.1, ih () Q E p { s with heap := s.heap.update a f } (hn.trans (grow_update h.1)) h.2⟩
  | loadIfAlive a k ih => intro Q E p s hn h; exact ih _ Q E p s hn h
  | point _ k ih => intro Q E p s hn h; exact ih () Q E p s hn h
  | register _ _ => intro Q E p s _ h; exact h
  | alloc o k ih => intro Q E p s hn h; exact ih s.heap.objs.size Q E p { s with heap := s.heap.push o } (hn.trans (grow_push _ _)) h
  | fresh k ih => intro Q E p s hn h; exact ih s.toks Q E p { s with toks := s.toks + 1 } hn h
  | ask k ih => intro Q E p s hn h; exact ih _ Q E p s hn h
  | choose src m k ih => intro Q E p s hn h; exact ⟨h.1, ih _ Q E p { s with drawn := s.drawn.bump src } hn h.2⟩
  | os q _ k ih => intro Q E p s hn h; exact ih _ Q E p { s with os := (Os.step s.os q).1 } hn h
  | call c hd _ _ k ih => intro Q E p s hn h; obtain ⟨r, s', hr, h⟩ := h; exact ⟨r, s', hr, ih r Q E p s' (hn.trans (runs_grow hr)) h⟩
  | handled own k ih => intro Q E p s hn h; exact ih _ Q E p s hn h
  | genState g k ih => intro Q E p s hn h; obtain ⟨st, hs, h⟩ := h; exact ⟨st, hs, ih _ Q E p s hn h⟩
  | newGen c k ih => intro Q E p s hn h; exact ih s.gens.size Q E p { s with gens := s.gens.push (.fresh c) } hn h
  | resume g r _ k ih => intro Q E p s hn h; obtain ⟨res, s', hw, h⟩ := h; exact ⟨res, s', hw, ih res Q E p s' (hn.trans (wakes_grow hw)) h⟩
  | yield _ _ _ _ => intro Q E p s _ h; exact h
  | stack k ih => intro Q E p s hn h; exact ih _ Q E p s hn h
  | fork _ _ => intro Q E p s _ h; exact h
  | thread k ih => intro Q E p s hn h; exact ih _ Q E p s hn h
  | await _ _ _ _ _ => intro Q E p s _ h; exact h
/-- what a code leaves: nothing of the heap, nothing of the sleepers is gone -/
structure Left (s s' : Shared) : Prop where
  hsz : Grow s.heap s'.heap
  gsz : s.gens.size ≤ s'.gens.size
  zz : ∀ (i : Nat) (gs : GenState), s.gens[i]? = some gs → sleepy gs = true → s'.gens[i]? = some gs
theorem Left.refl (s : Shared) : Left s s := ⟨.refl _, Nat.le_refl _, fun _ _ h _ => h⟩
theorem Left.trans {s s1 s2 : Shared} (a : Left s s1) (b : Left s1 s2) : Left s s2 := ⟨a.hsz.trans b.hsz, Nat.le_trans a.gsz b.gsz, fun i gs h z => b.zz i gs (a.zz i gs h z) z⟩
/-- THE VEIL: what is shown of a code while all sleepers are dead holds of it, and they sleep on -/
theorem any_left {α : Type} {M : Model} {A : Around} {t : Sem α} {Q : α → Shared → Prop} {E : Value → Shared → Prop} {s : Shared} (h : wpAny M A t Q E { s with gens := veil s.gens }) :
    wpAny M A t (fun a s' => Left s s' ∧ ∃ s1 : Shared, Q a s1 ∧ s' = { s1 with gens := s'.gens } ∧ (AllBare s1.gens → AllBare s'.gens) ∧ ∀ i : Nat, s.gens.size ≤ i → s'.gens[i]? = s1.gens[i]?) (fun a s' => Left s s' ∧ ∃ s1 : Shared, E a s1 ∧ s' = { s1 with gens := s'.gens } ∧ (AllBare s1.gens → AllBare s'.gens) ∧ ∀ i : Nat, s.gens.size ≤ i → s'.gens[i]? = s1.gens[i]?) s := by
  have z := any_veil h
  intro Γ p hΓ
  have y := wp_grow M Γ s.heap t _ _ p s (.refl _) (wp_gsz M Γ s.gens.size t _ _ p s (Nat.le_refl _) (z Γ p hΓ))
  refine Sem.wp_mono M Γ t (fun a p' s' x => ?_) (fun a p' s' x => ?_) p s y
  · obtain ⟨x1, x2, x3⟩ := x
    refine ⟨⟨x1, x2, fun i gs e hs => x3.kept e hs⟩, ?_⟩
    obtain ⟨s1, v, e, q⟩ := x3
    exact ⟨s1, q, e, fun hb => v.bare hb, fun i hi => (v.eq i fun gs h => by rw [Array.getElem?_eq_none hi] at h; cases h).1.symm⟩
  · obtain ⟨x1, x2, x3⟩ := x
    refine ⟨⟨x1, x2, fun i gs e hs => x3.kept e hs⟩, ?_⟩
    obtain ⟨s1, v, e, q⟩ := x3
    exact ⟨s1, q, e, fun hb => v.bare hb, fun i hi => (v.eq i fun gs h => by rw [Array.getElem?_eq_none hi] at h; cases h).1.symm⟩
end Gw
set_option Elab.async false
set_option linter.all false
set_option maxRecDepth 100000
set_option maxHeartbeats 1000000
namespace Gw
open PySem PySem.Spec PyProof.Rows L2 GenW
/-! the heap up to an address; all that is younger, as it is -/
def cut (h : Heap) (n : Nat) : Heap := ⟨h.objs.extract 0 n, h.life⟩
theorem cut_size (h : Heap) (n : Nat) : (cut h n).objs.size = min n h.objs.size := by simp [cut]
theorem cut_lt {h : Heap} {n b : Nat} (hb : b < n) : (cut h n).get? b = h.get? b := by
  have e : (h.objs.extract 0 n)[b]? = h.objs[b]? := by
    rw [Array.getElem?_extract]
    simp
    intro h1
    omega
  unfold Heap.get? cut
  simp only [e]
theorem cut_get {h : Heap} {n b : Nat} {o : Obj} (e : (cut h n).get? b = some o) : b < n ∧ h.get? b = some o := by
  have h1 : b < (cut h n).objs.size := Heap.lt_size e
  rw [cut_size] at h1
  have h2 : b < n := Nat.lt_of_lt_of_le h1 (Nat.min_le_left _ _)
  rw [cut_lt h2] at e
  exact ⟨h2, e⟩
open Classical in
noncomputable def ledger (h : Heap) (L : Addr) (own : List Addr) : Hp := fun b => if L ≤ b ∧ b ∉ own then (h.get? b).map fun o => HO.ext fun h' => h'.get? b = some o else none
theorem led_own {h : Heap} {L b : Addr} {own : List Addr} (hb : b ∈ own) : ledger h L own b = none := if_neg fun z => z.2 hb
theorem led_old {h : Heap} {L b : Addr} {own : List Addr} (hb : b < L) : ledger h L own b = none := if_neg fun z => Nat.lt_irrefl _ (Nat.lt_of_lt_of_le hb z.1)
theorem led_new {h : Heap} {L b : Addr} {own : List Addr} {o : Obj} (h1 : L ≤ b) (h2 : b ∉ own) (e : h.get? b = some o) : ledger h L own b = some (HO.ext fun h' => h'.get? b = some o) := by
  unfold ledger
  rw [if_pos ⟨h1, h2⟩, e]
  rfl
theorem led_some {h : Heap} {L b : Addr} {own : List Addr} {u : HO} (e : ledger h L own b = some u) : ∃ o, h.get? b = some o ∧ u = HO.ext fun h' => h'.get? b = some o := by
  unfold ledger at e
  split at e
  · cases q : h.get? b with
    | none => rw [q] at e; cases e
    | some o =>
      rw [q] at e
      injection e with e
      exact ⟨o, rfl, e.symm⟩
  · cases e
theorem led_ok {P : Program} {w : World} {h : Heap} {L : Addr} {own : List Addr} : HOk P w (ledger h L own) h := by
  intro a u e
  obtain ⟨o, ho, rfl⟩ := led_some e
  exact ⟨ho, ⟨o, ho⟩, fun h1 h2 p k => k o p⟩
/-! where a generator lives: its frame, around it those that wake it -/
structure Site where
  P : Program
  w : World
  K : PySem.W.Frag
  mg : Str → Option Value
  base : Heap
  N : List Str
  env : Env
  A : Around
  outer : List Env
structure Site.Ok (S : Site) : Prop where
  mod : Mod S.K S.mg S.base
  kind : S.env.scope.kind = .function
  glob : S.env.globals = mainGlobals
  blt : S.env.builtins = builtinsNs
  fr : S.env.frame = some S.env.locals
  nocell : ∀ x, S.env.cells.lookup x = none
  nokind : ∀ x, S.env.kindOf x ≠ some .cell ∧ S.env.kindOf x ≠ some .free
  bsz : S.base.objs.size ≤ S.env.locals
  frames : S.A.frames = some S.outer
  hd : S.A.handled = none
  frlt : ∀ b ∈ frs S.outer, b < S.env.locals
/-- the context of a stretch: it began at s0, the generator owned own -/
noncomputable def Site.cx (S : Site) (s0 : Shared) (own : List Addr) : Cx where
  prog := S.P
  w := S.w
  K := S.K
  mg := S.mg
  base := S.base
  A := S.A.deeper S.env
  N := S.N
  s_0 := { s0 with heap := cut s0.heap S.env.locals }
  H_0 := ledger s0.heap S.env.locals own
  env := S.env
  outer := S.outer
  stack := S.env :: S.outer
  ex := []
  fn := fun _ => true
  calm := true
  pn := []
  xe := fun _ _ => False
/-- the slots stand in the frame's own object -/
def LocAt (S : Site) (σ : L2.St) (oL : Obj) : Prop := ∃ (es : Array DictEntry) (ep : Nat) (m : Str → Option Value), oL.data = .dict es ep ∧ StrKeys es ∧ (∀ name, nsFind es name = m name) ∧
  ∀ (i : Nat) (x : Str) (v : V), S.N[i]? = some x → σ[i]? = some (some v) → Vis S.env.scope x → ∃ u, RelV v u ∧ S.env.kindOf x = some .local ∧ m x = some u
/-- it may be woken here -/
structure Ready (S : Site) (fp : List (Addr × Obj)) (gv : List (Nat × GenState)) (s : Shared) : Prop where
  fp : ∀ p ∈ fp, s.heap.get? p.1 = some p.2
  gv : ∀ q ∈ gv, s.gens[q.1]? = some q.2
  bs : ∀ b o, S.base.get? b = some o → s.heap.get? b = some o
  funs : s.heap.FunFrames S.base S.outer
  bare : AllBare s.gens
theorem funs_cut {h base : Heap} {n : Nat} : ∀ {l : List Env}, (∀ b ∈ frs l, b < n) → h.FunFrames base l → (cut h n).FunFrames base l
  | [], _, _ => trivial
  | env :: r, hl, hf => by
    obtain ⟨hk, ⟨L, o, hfr, hn, ho, hd⟩, hr⟩ := hf
    have hL : L < n := hl L (by unfold frs; rw [List.filterMap_cons, hfr]; exact List.mem_cons_self)
    refine ⟨hk, ⟨L, o, hfr, hn, by rw [cut_lt hL]; exact ho, hd⟩, funs_cut (fun b hb => hl b ?_) hr⟩
    unfold frs
    rw [List.filterMap_cons, hfr]
    exact List.mem_cons_of_mem _ hb
theorem inv_of {S : Site} (So : S.Ok) {s : Shared} {own : List Addr} {ip : List (Addr × Obj)} {σ : L2.St} {oL : Obj} (hL : s.heap.get? S.env.locals = some oL) (hl : LocAt S σ oL) (hlen : σ.length = S.N.length) (hown : S.env.locals ∈ own)
    (hip : ∀ p ∈ ip, s.heap.get? p.1 = some p.2 ∧ p.1 ∈ own ∧ S.env.locals < p.1 ∧ ∀ v, p.2.data ≠ .cell v)
    (bs : ∀ b o, S.base.get? b = some o → s.heap.get? b = some o) (funs : s.heap.FunFrames S.base S.outer) (bare : AllBare s.gens) : Inv (S.cx s own) ip σ (ledger s.heap S.env.locals own) s := by
  have old : ∀ b o, S.base.get? b = some o → b < S.env.locals := fun b o e => Nat.lt_of_lt_of_le (Heap.lt_size e) So.bsz
  obtain ⟨es, ep, m, d1, d2, d3, d4⟩ := hl
  refine ⟨⟨So.mod, So.kind, So.glob, So.blt, ?_, fun x y c h1 _ => ?_, fun x hx => ?_, fun x c _ h1 => ?_, fun _ => So.hd, Around.frames_deeper So.frames, .inr ⟨rfl, So.fr⟩, (fun b hb => nomatch hb), fun b o e => ⟨?_, led_old (old b o e)⟩, ?_, fun b o _ hb => (nomatch hb), (fun b hb => nomatch hb), funs_cut So.frlt funs, fun b hb => led_old (So.frlt b hb)⟩,
    rfl, bare, Un.kept fun b u e => (cut_get e).2, ⟨m, ⟨oL, es, ep, hL, d1, d2, d3⟩, fun i x v h1 h2 h3 => ?_⟩, fun x c h1 => ?_, led_own hown, fun x c h1 => ?_, fun p hp => ?_, led_ok, hlen⟩
  · show (cut s.heap S.env.locals).objs.size ≤ S.env.locals
    rw [cut_size]
    exact Nat.min_le_left _ _
  · have z := So.nocell x
    have h1' : S.env.cells.lookup x = some c := h1
    rw [z] at h1'
    cases h1'
  · rcases hx with z | z
    · exact absurd z (So.nokind x).1
    · exact absurd z (So.nokind x).2
  · have z := So.nocell x
    have h1' : S.env.cells.lookup x = some c := h1
    rw [z] at h1'
    cases h1'
  · show (cut s.heap S.env.locals).get? b = some o
    rw [cut_lt (old b o e)]
    exact bs b o e
  · show S.base.objs.size ≤ (cut s.heap S.env.locals).objs.size
    rw [cut_size]
    exact Nat.le_min.mpr ⟨So.bsz, Nat.le_trans So.bsz (Nat.le_of_lt (Heap.lt_size hL))⟩
  · obtain ⟨u, r, k, e⟩ := d4 i x v h1 h2 h3
    exact ⟨u, r, .inl ⟨k, e⟩⟩
  · have z := So.nocell x
    have h1' : S.env.cells.lookup x = some c := h1
    rw [z] at h1'
    cases h1'
  · have z := So.nocell x
    have h1' : S.env.cells.lookup x = some c := h1
    rw [z] at h1'
    cases h1'
  · obtain ⟨q1, q2, q3, q4⟩ := hip p hp
    exact ⟨q1, led_own q2, Nat.ne_of_gt q3, fun z => Nat.lt_irrefl _ (Nat.lt_trans (So.frlt p.1 z) q3), q4⟩
theorem Inv.locAt {S : Site} (So : S.Ok) {s0 s : Shared} {own : List Addr} {ip : List (Addr × Obj)} {σ : L2.St} {H : Hp} (I : Inv (S.cx s0 own) ip σ H s) : ∃ oL, s.heap.get? S.env.locals = some oL ∧ LocAt S σ oL := by
  obtain ⟨m, ⟨o, es, ep, ho, d1, d2, d3⟩, hl⟩ := I.loc
  refine ⟨o, ho, es, ep, m, d1, d2, d3, fun i x v h1 h2 h3 => ?_⟩
  obtain ⟨u, r, l⟩ := hl i x v h1 h2 h3
  rcases l with ⟨k, e⟩ | ⟨k, _⟩
  · exact ⟨u, r, k, e⟩
  · rcases k with k | k
    · exact absurd k (So.nokind x).1
    · exact absurd k (So.nokind x).2
/-- all is kept but what the generator owns (the callers' frames up to slots) -/
def Kept (fr own : List Addr) (h h' : Heap) : Prop := ∀ b o, h.get? b = some o → b ∉ own → (b ∉ fr → h'.get? b = some o) ∧ (b ∈ fr → ∃ sl, h'.get? b = some { o with slots := sl })
/-- while a stretch runs: ip, gv are the generator's own iterators and sleepers -/
structure GI (S : Site) (s0 : Shared) (own : List Addr) (gown : List Nat) (ip : List (Addr × Obj)) (gv : List (Nat × GenState)) (σ : L2.St) (H : Hp) (s : Shared) : Prop where
  inv : Inv (S.cx s0 own) ip σ H s
  same : ∀ b u, ledger s0.heap S.env.locals own b = some u → H b = some u
  ip : ∀ p ∈ ip, S.env.locals < p.1 ∧ (p.1 ∈ own ∨ s0.heap.objs.size ≤ p.1)
  gv : ∀ q ∈ gv, s.gens[q.1]? = some q.2 ∧ sleepy q.2 = true ∧ (q.1 ∈ gown ∨ s0.gens.size ≤ q.1)
  hsz : Grow s0.heap s.heap
  gsz : s0.gens.size ≤ s.gens.size
  zz : ∀ (i : Nat) (gs : GenState), i ∉ gown → s0.gens[i]? = some gs → sleepy gs = true → s.gens[i]? = some gs
  mine : S.env.locals ∈ own
  up : ∀ b ∈ own, S.env.locals ≤ b
  live : S.env.locals < s0.heap.objs.size
/-- what a stretch leaves -/
structure Aft (S : Site) (own : List Addr) (gown : List Nat) (s0 s : Shared) : Prop where
  heap : Kept (frs S.outer) own s0.heap s.heap
  hsz : Grow s0.heap s.heap
  gsz : s0.gens.size ≤ s.gens.size
  zz : ∀ (i : Nat) (gs : GenState), i ∉ gown → s0.gens[i]? = some gs → sleepy gs = true → s.gens[i]? = some gs
  os : s.os = s0.os
  bare : AllBare s.gens
theorem GI.aft {S : Site} {s0 s : Shared} {own : List Addr} {gown : List Nat} {ip : List (Addr × Obj)} {gv : List (Nat × GenState)} {σ : L2.St} {H : Hp} (I : GI S s0 own gown ip gv σ H s) : Aft S own gown s0 s := by
  refine ⟨fun b o e hb => ?_, I.hsz, I.gsz, I.zz, I.inv.os, I.inv.bare⟩
  by_cases hL : b < S.env.locals
  · have e' : (S.cx s0 own).s_0.heap.get? b = some o := by
      show (cut s0.heap S.env.locals).get? b = some o
      rw [cut_lt hL]
      exact e
    exact ⟨fun hf => I.inv.base.keep b o e' (led_old hL) hf (fun z => nomatch z), fun hf => I.inv.base.slot b o e' (led_old hL) hf (fun z => nomatch z)⟩
  · have h1 := I.same b _ (led_new (Nat.le_of_not_lt hL) hb e)
    obtain ⟨h2, _⟩ := I.inv.hok b _ h1
    refine ⟨fun _ => h2, fun hf => ⟨o.slots, h2⟩⟩
/-- the generator rests: rem is still to come -/
structure Hold (S : Site) (own : List Addr) (gown : List Nat) (fp : List (Addr × Obj)) (gv : List (Nat × GenState)) (s0 s : Shared) : Prop where
  fp : ∀ p ∈ fp, s.heap.get? p.1 = some p.2 ∧ S.env.locals ≤ p.1 ∧ (p.1 ∈ own ∨ s0.heap.objs.size ≤ p.1) ∧ ∀ v, p.2.data ≠ .cell v
  gv : ∀ q ∈ gv, s.gens[q.1]? = some q.2 ∧ sleepy q.2 = true ∧ (q.1 ∈ gown ∨ s0.gens.size ≤ q.1)
def Out (S : Site) (R : List V → List (Addr × Obj) → List (Nat × GenState) → GenState → Prop) (own : List Addr) (gown : List Nat) (s0 : Shared) (rem : List V) (e : End) (s : Shared) : Prop := Aft S own gown s0 s ∧ match rem with
  | [] => e = .ret (.ok (.ret .none))
  | x :: rem => ∃ v l k c p fs fp gv, e = .susp v false l k c p fs ∧ fs.any Frame.guarded = false ∧ RelV x v ∧ Hold S own gown fp gv s0 s ∧ R rem fp gv (.suspended k l c p fs false)
/-- at rest -/
def Rest (S : Site) : List V → List (Addr × Obj) → List (Nat × GenState) → GenState → Prop
  | [], fp, gv, .suspended k _ c _ fs _ => ∀ s, Ready S fp gv s → Strt (model S.P S.w) S.A c (k (.send .none)) fs s (fun e s' => Aft S (fp.map (·.1)) (gv.map (·.1)) s s' ∧ e = .ret (.ok (.ret .none)))
  | x :: rem, fp, gv, .suspended k _ c _ fs _ => ∀ s, Ready S fp gv s → Strt (model S.P S.w) S.A c (k (.send .none)) fs s (fun e s' => Aft S (fp.map (·.1)) (gv.map (·.1)) s s' ∧
      ∃ v l k c p fs fp' gv', e = .susp v false l k c p fs ∧ fs.any Frame.guarded = false ∧ RelV x v ∧ Hold S (fp.map (·.1)) (gv.map (·.1)) fp' gv' s s' ∧ Rest S rem fp' gv' (.suspended k l c p fs false))
  | _, _, _, _ => False
theorem rest_of {S : Site} {rem : List V} {fp : List (Addr × Obj)} {gv : List (Nat × GenState)} {k : Resume → Sem PySem.Fin} {l : List Value} {c : Code} {p : Pos} {fs : List Frame} {cl : Bool}
    (h : ∀ s, Ready S fp gv s → Strt (model S.P S.w) S.A c (k (.send .none)) fs s (Out S (Rest S) (fp.map (·.1)) (gv.map (·.1)) s rem)) : Rest S rem fp gv (.suspended k l c p fs cl) := by
  cases rem with
  | nil => exact h
  | cons x rem => exact h
theorem rest_go {S : Site} {rem : List V} {fp : List (Addr × Obj)} {gv : List (Nat × GenState)} {gs : GenState} (h : Rest S rem fp gv gs) :
    ∃ k l c p fs cl, gs = .suspended k l c p fs cl ∧ ∀ s, Ready S fp gv s → Strt (model S.P S.w) S.A c (k (.send .none)) fs s (Out S (Rest S) (fp.map (·.1)) (gv.map (·.1)) s rem) := by
  cases gs with
  | suspended k l c p fs cl =>
    refine ⟨k, l, c, p, fs, cl, rfl, ?_⟩
    cases rem with
    | nil => exact h
    | cons x rem => exact h
  | fresh c => cases rem <;> exact h.elim
  | running => cases rem <;> exact h.elim
  | finished => cases rem <;> exact h.elim
end Gw
set_option Elab.async false
set_option linter.all false
set_option maxRecDepth 100000
set_option maxHeartbeats 1000000
namespace Gw
open PySem PySem.Spec PyProof.Rows L2 GenW
def Ex (H H' : Hp) : Prop := ∀ b u, H b = some u → H' b = some u
theorem Ex.refl (H : Hp) : Ex H H := fun _ _ h => h
theorem Ex.trans {H H1 H2 : Hp} (a : Ex H H1) (b : Ex H1 H2) : Ex H H2 := fun x u h => b x u (a x u h)
theorem Ex.new {H : Hp} {p : Addr} {o : HO} (h : H p = none) : Ex H (upd H p o) := fun b u e => by
  rw [upd_ne (ne_of_none e h)]
  exact e
theorem inv_gens {X : Cx} {pins : List (Addr × Obj)} {σ : L2.St} {H : Hp} {s : Shared} (I : Inv X pins σ H s) {g : Array GenState} (hb : AllBare g) : Inv X pins σ H { s with gens := g } :=
  ⟨I.ok, I.os, hb, I.base, I.loc, I.cell, I.free, I.freeC, I.pin, I.hok, I.len⟩
section
variable {S : Site} {s0 s : Shared} {own : List Addr} {gown : List Nat} {ip : List (Addr × Obj)} {gv : List (Nat × GenState)} {σ : L2.St} {H : Hp}
/-- a code that wakes none of the sleepers -/
theorem GI.plain {α : Type} {m : Sem α} {Qa : α → L2.St → Hp → Prop} (I : GI S s0 own gown ip gv σ H s)
    (h : ∀ s1, Inv (S.cx s0 own) ip σ H s1 → s1.heap = s.heap → wpAny (model S.P S.w) (S.A.deeper S.env) m (fun a s2 => ∃ σ' H', Inv (S.cx s0 own) ip σ' H' s2 ∧ Ex H H' ∧ Qa a σ' H') (fun _ _ => False) s1) :
    wpAny (model S.P S.w) (S.A.deeper S.env) m (fun a s' => ∃ σ' H', GI S s0 own gown ip gv σ' H' s' ∧ Qa a σ' H') (fun _ _ => False) s := by
  have z := any_left (h { s with gens := veil s.gens } (inv_gens I.inv (veil_bare I.inv.bare)) rfl)
  refine wpAny_mono z (fun a s' ⟨l, s1, ⟨σ', H', I1, ex, q⟩, e, hb, _⟩ => ⟨σ', H', ?_, q⟩) (fun _ _ ⟨_, _, x, _⟩ => x)
  have I2 : Inv (S.cx s0 own) ip σ' H' s' := by
    rw [e]
    exact inv_gens I1 (hb I1.bare)
  exact ⟨I2, fun b u hb => ex b u (I.same b u hb), I.ip, fun q hq => ⟨l.zz _ _ (I.gv q hq).1 (I.gv q hq).2.1, (I.gv q hq).2⟩, I.hsz.trans l.hsz, Nat.le_trans I.gsz l.gsz, fun i gs h1 h2 h3 => l.zz i gs (I.zz i gs h1 h2 h3) h3, I.mine, I.up, I.live⟩
end
/-- what is wanted behind a statement of a generator: rem is still to come -/
structure GEnds where
  nx : List V → L2.St → Hp → Prop
  rt : List V → Prop
  bk : List V → L2.St → Hp → Prop := fun _ _ _ => False
  ct : List V → L2.St → Hp → Prop := fun _ _ _ => False
abbrev TGn := GEnds → List V → L2.St → Hp → Prop
def GPost (D : GEnds) (f : Flow) (rem : List V) (σ : L2.St) (H : Hp) : Prop := match f with
  | .next => D.nx rem σ H
  | .brk => D.bk rem σ H
  | .cont => D.ct rem σ H
  | .ret u => u = Value.none ∧ D.rt rem
structure Place (S : Site) (c : Code) (fs : List Frame) (gd : Bool → Bool) : Prop where
  over : S.A.over c fs = S.A.deeper S.env
  split : splitAtGen fs = none
  guard : fs.any Frame.guarded = false
  gd : gd false = false
abbrev Sg (S : Site) (c : Code) (t : Sem PySem.Fin) (fs : List Frame) (s : Shared) (rem : List V) (s0 : Shared) (own : List Addr) (gown : List Nat) : Prop := Strt (model S.P S.w) S.A c t fs s (Out S (Rest S) own gown s0 rem)
/-- what comes behind, wherever the stretch began -/
abbrev Kont (S : Site) (c : Code) (fs : List Frame) (ip : List (Addr × Obj)) (gv : List (Nat × GenState)) (K : Flow → Sem PySem.Fin) (D : GEnds) : Prop :=
  ∀ (s0 : Shared) (own : List Addr) (gown : List Nat) (σ : L2.St) (H : Hp) (rem : List V) (s : Shared) (f : Flow), GI S s0 own gown ip gv σ H s → GPost D f rem σ H → Sg S c (K f) fs s rem s0 own gown
structure GS (S : Site) (st : Stmt) (t : TGn) : Prop where
  run : ∀ (s0 : Shared) (own : List Addr) (gown : List Nat) (ip : List (Addr × Obj)) (gv : List (Nat × GenState)) (c : Code) (fs : List Frame) (K : Flow → Sem PySem.Fin) (J : Value → Sem PySem.Fin) (gd : Bool → Bool) (lv : List Value → List Value) (s : Shared) (σ : L2.St) (H : Hp) (D : GEnds) (rem : List V),
    Place S c fs gd → GI S s0 own gown ip gv σ H s → t D rem σ H → Kont S c fs ip gv K D → Sg S c ((exec st S.env).wrap K J gd lv) fs s rem s0 own gown
structure GSs (S : Site) (st : List Stmt) (t : TGn) : Prop where
  run : ∀ (s0 : Shared) (own : List Addr) (gown : List Nat) (ip : List (Addr × Obj)) (gv : List (Nat × GenState)) (c : Code) (fs : List Frame) (K : Flow → Sem PySem.Fin) (J : Value → Sem PySem.Fin) (gd : Bool → Bool) (lv : List Value → List Value) (s : Shared) (σ : L2.St) (H : Hp) (D : GEnds) (rem : List V),
    Place S c fs gd → GI S s0 own gown ip gv σ H s → t D rem σ H → Kont S c fs ip gv K D → Sg S c ((execs st S.env).wrap K J gd lv) fs s rem s0 own gown
section
variable {S : Site} {st : Stmt} {rest : List Stmt}
/-- a statement that hands out nothing -/
def tPl (t : TS) : TGn := fun D rem σ H => t ⟨fun σ' H' => Ex H H' ∧ D.nx rem σ' H', fun v H' => v = .non ∧ Ex H H' ∧ D.rt rem, fun σ' H' => Ex H H' ∧ D.bk rem σ' H', fun σ' H' => Ex H H' ∧ D.ct rem σ' H'⟩ σ H
theorem gs_ps {t : TS} (h : ∀ s0 own, PS (S.cx s0 own) st t) : GS S st (tPl t) := by
  refine ⟨fun s0 own gown ip gv c fs K J gd lv s σ H D rem pl I ht k => st_wrap ?_⟩
  rw [pl.over]
  refine wpAny_mono (I.plain (Qa := fun f σ' H' => GPost D f rem σ' H') fun s1 I1 _ => wpAny_mono ((h s0 own).run ip s1 σ H _ I1 ht) (fun f s2 hs => ?_) (fun _ _ x => x)) (fun f s' ⟨σ', H', G, q⟩ => k s0 own gown σ' H' rem s' f G q) (fun _ _ x => x.elim)
  cases f with
  | next => obtain ⟨σ', H', I2, ex, q⟩ := hs; exact ⟨σ', H', I2, ex, q⟩
  | brk => obtain ⟨σ', H', I2, ex, q⟩ := hs; exact ⟨σ', H', I2, ex, q⟩
  | cont => obtain ⟨σ', H', I2, ex, q⟩ := hs; exact ⟨σ', H', I2, ex, q⟩
  | ret u =>
    obtain ⟨v, σ', H', I2, r, e, ex, q⟩ := hs
    subst e
    exact ⟨σ', H', I2, ex, r, q⟩
def tG0 : TGn := fun D rem σ H => D.nx rem σ H
theorem gss_nil : GSs S [] tG0 := ⟨fun s0 own gown ip gv c fs K J gd lv s σ H D rem pl I ht k => k s0 own gown σ H rem s .next I ht⟩
def tGThen (t u : TGn) : TGn := fun D rem σ H => t { D with nx := u D } rem σ H
theorem gss_cons {t u : TGn} (a : GS S st t) (b : GSs S rest u) : GSs S (st :: rest) (tGThen t u) := by
  refine ⟨fun s0 own gown ip gv c fs K J gd lv s σ H D rem pl I ht k => ?_⟩
  rw [execs_cons_wrap]
  refine a.run s0 own gown ip gv c fs _ J gd lv s σ H { D with nx := u D } rem pl I ht fun s0' own' gown' σ' H' rem' s' f G q => ?_
  cases f with
  | next => exact b.run s0' own' gown' ip gv c fs K J gd lv s' σ' H' D rem' pl G q k
  | brk => exact k s0' own' gown' σ' H' rem' s' .brk G q
  | cont => exact k s0' own' gown' σ' H' rem' s' .cont G q
  | ret u => exact k s0' own' gown' σ' H' rem' s' (.ret u) G q
theorem gss_one {t : TGn} (a : GS S st t) : GSs S [st] (tGThen t tG0) := gss_cons a gss_nil
/-! if -/
def tGIf (c : TT) (t u : TGn) : TGn := fun D rem σ H => c σ H fun b H1 => Ex H H1 ∧ if b = true then t D rem σ H1 else u D rem σ H1
theorem gs_if {test : Expr} {a b : List Stmt} {pos : Pos} {tc : TT} {t u : TGn} (hc : ∀ s0 own, PT (S.cx s0 own) test tc) (ha : GSs S a t) (hb : GSs S b u) : GS S (.If test a b pos) (tGIf tc t u) := by
  refine ⟨fun s0 own gown ip gv c fs K J gd lv s σ H D rem pl I ht k => ?_⟩
  rw [exec_If]
  refine st_bindw (wpAny_standAt ?_)
  refine st_bindw ?_
  rw [pl.over]
  refine wpAny_mono (I.plain (Qa := fun d σ' H1 => σ' = σ ∧ if d = true then t D rem σ H1 else u D rem σ H1) fun s1 I1 _ => wpAny_mono ((hc s0 own).run ip s1 σ H _ I1 ht) (fun d s2 ⟨H1, I2, ex, q⟩ => ⟨σ, H1, I2, ex, rfl, q⟩) (fun _ _ x => x)) (fun d s' ⟨σ', H', G, e, q⟩ => ?_) (fun _ _ x => x.elim)
  subst e
  cases d with
  | true => exact ha.run s0 own gown ip gv c fs K J gd lv s' σ' H' D rem pl G q k
  | false => exact hb.run s0 own gown ip gv c fs K J gd lv s' σ' H' D rem pl G q k
/-! yield: behind it nothing is known of the heap -/
def tGYield (te : TE) : TGn := fun D rem σ H => te σ H fun x H1 => Ex H H1 ∧ ∃ r, rem = x :: r ∧ ∀ H', D.nx r σ H'
/-- resting here, the generator can go on -/
theorem GI.sleep (So : S.Ok) {s0 s : Shared} {own : List Addr} {gown : List Nat} {ip : List (Addr × Obj)} {gv : List (Nat × GenState)} {σ : L2.St} {H : Hp} (I : GI S s0 own gown ip gv σ H s) {oL : Obj} (hL : s.heap.get? S.env.locals = some oL) (hl : LocAt S σ oL) {c : Code} {fs : List Frame} {k : Resume → Sem PySem.Fin} {l : List Value} {p : Pos} {rem : List V}
    (h : ∀ (s1 : Shared) (H1 : Hp), GI S s1 (((S.env.locals, oL) :: ip).map (·.1)) (gv.map (·.1)) ip gv σ H1 s1 → Sg S c (k (.send .none)) fs s1 rem s1 (((S.env.locals, oL) :: ip).map (·.1)) (gv.map (·.1))) :
    Hold S own gown ((S.env.locals, oL) :: ip) gv s0 s ∧ Rest S rem ((S.env.locals, oL) :: ip) gv (.suspended k l c p fs false) := by
  refine ⟨⟨fun q hq => ?_, I.gv⟩, rest_of fun s1 r => ?_⟩
  · rcases List.mem_cons.mp hq with rfl | hq
    · obtain ⟨es, ep, m, d, _⟩ := hl
      exact ⟨hL, Nat.le_refl _, .inl I.mine, fun v z => by rw [d] at z; cases z⟩
    · obtain ⟨h1, h2, h3, h4, h5⟩ := I.inv.pin q (List.mem_append_right _ hq)
      exact ⟨h1, Nat.le_of_lt (I.ip q hq).1, (I.ip q hq).2, h5⟩
  · refine h s1 _ ⟨inv_of So (r.fp _ List.mem_cons_self) hl I.inv.len (List.mem_map.mpr ⟨_, List.mem_cons_self, rfl⟩) (fun q hq => ?_) r.bs r.funs r.bare, fun _ _ z => z, fun q hq => ⟨(I.ip q hq).1, .inl (List.mem_map.mpr ⟨q, List.mem_cons_of_mem _ hq, rfl⟩)⟩, fun q hq => ⟨r.gv q hq, (I.gv q hq).2.1, .inl (List.mem_map.mpr ⟨q, hq, rfl⟩)⟩, Grow.refl _, Nat.le_refl _, fun _ _ _ z _ => z, List.mem_map.mpr ⟨_, List.mem_cons_self, rfl⟩, fun b hb => ?_, Heap.lt_size (r.fp _ List.mem_cons_self)⟩
    · obtain ⟨h1, h2, h3, h4, h5⟩ := I.inv.pin q (List.mem_append_right _ hq)
      exact ⟨r.fp q (List.mem_cons_of_mem _ hq), List.mem_map.mpr ⟨q, List.mem_cons_of_mem _ hq, rfl⟩, (I.ip q hq).1, h5⟩
    · obtain ⟨q, hq, rfl⟩ := List.mem_map.mp hb
      rcases List.mem_cons.mp hq with rfl | hq
      · exact Nat.le_refl _
      · exact Nat.le_of_lt (I.ip q hq).1
theorem gs_yield (So : S.Ok) {e : Expr} {yp pos : Pos} {te : TE} (he : ∀ s0 own, PE (S.cx s0 own) e te) (hco : S.env.scope.isCoroutine = false := by rfl) (hi : interactive S.env = false := by rfl) : GS S (.Expr (.Yield (some e) yp) pos) (tGYield te) := by
  refine ⟨fun s0 own gown ip gv c fs K J gd lv s σ H D rem pl I ht k => ?_⟩
  rw [exec_Expr S.env _ pos hi rfl]
  have hy : ∀ v, yieldOut S.env v = yieldValue v := fun v => by simp only [yieldOut, hco, Bool.false_eq_true, if_false]
  refine st_bindw (wpAny_standAt ?_)
  show Sg S c (((eval e S.env >>= fun v => (standAt yp >>= fun _ => yieldOut S.env v)) >>= fun x => dropValue (.Yield (some e) yp) pos x).wrap K J gd lv) fs s rem s0 own gown
  simp only [hy]
  rw [Sem.bind_eq_wrap', Sem.bind_eq_wrap', Sem.wrap_wrap, Sem.wrap_wrap]
  refine st_wrap ?_
  rw [pl.over]
  refine wpAny_mono (I.plain (Qa := fun v σ' H1 => ∃ x r, RelV x v ∧ rem = x :: r ∧ σ' = σ ∧ ∀ H', D.nx r σ H') fun s1 I1 _ => wpAny_mono ((he s0 own).run ip s1 σ H _ I1 ht) (fun v s2 ⟨x, H1, I2, rv, ex, r, er, q⟩ => ⟨σ, H1, I2, ex, x, r, rv, er, rfl, q⟩) (fun _ _ x => x)) (fun v s' ⟨σ', H', G, x, r, rv, er, e, q⟩ => ?_) (fun _ _ x => x.elim)
  subst e er
  refine st_at ?_
  refine st_yield pl.split fun p => ?_
  obtain ⟨oL, hL, hl⟩ := Inv.locAt So G.inv
  refine ⟨G.aft, ?_⟩
  refine ⟨v, _, _, c, p, fs, (S.env.locals, oL) :: ip, gv, congrArg (fun b => End.susp v b _ _ c p fs) pl.gd, pl.guard, rv, ?_⟩
  exact G.sleep So hL hl fun s1 H1 G1 => k s1 _ _ σ' H1 r s1 .next G1 (q H1)
end
end Gw
set_option Elab.async false
set_option linter.all false
set_option maxRecDepth 100000
set_option maxHeartbeats 1000000
namespace Gw
open PySem PySem.Spec PyProof.Rows L2 GenW
open Sem (wp)
/-- it can be woken: it has not begun, or it rests -/
def Can (S : Site) (rem : List V) (fp : List (Addr × Obj)) (gv : List (Nat × GenState)) (gs : GenState) : Prop :=
  (∃ c, gs = .fresh c ∧ ∀ s, Ready S fp gv s → Strt (model S.P S.w) S.A c ((model S.P S.w).den c) [] s (Out S (Rest S) (fp.map (·.1)) (gv.map (·.1)) s rem)) ∨ Rest S rem fp gv gs
section
variable {S : Site} {rem : List V} {fp : List (Addr × Obj)} {gv : List (Nat × GenState)} {gs : GenState} {s : Shared} {g : Nat}
theorem can_resume {α : Type} {k : GenResult → Sem α} {l : List Value} {Q : α → Shared → Prop} {E : Value → Shared → Prop} (hg : s.gens[g]? = some gs) (hc : Can S rem fp gv gs) (r : Ready S fp gv (s.setGen g .running))
    (h0 : rem = [] → ∀ s1, Aft S (fp.map (·.1)) (gv.map (·.1)) (s.setGen g .running) s1 → wpAny (model S.P S.w) S.A (k (.returned .none)) Q E (s1.setGen g .finished))
    (h1 : ∀ x rm, rem = x :: rm → ∀ s1 v fp' gv' gs', Aft S (fp.map (·.1)) (gv.map (·.1)) (s.setGen g .running) s1 → RelV x v → Hold S (fp.map (·.1)) (gv.map (·.1)) fp' gv' (s.setGen g .running) s1 → Rest S rm fp' gv' gs' → gs'.bare = true → sleepy gs' = true →
      wpAny (model S.P S.w) S.A (k (.yielded v)) Q E (s1.setGen g gs')) :
    wpAny (model S.P S.w) S.A (.resume g (.send .none) l k) Q E s := by
  intro Γ p hΓ
  rw [Sem.wp_resume]
  have fin : ∀ e₁ s₁, Out S (Rest S) (fp.map (·.1)) (gv.map (·.1)) (s.setGen g .running) rem e₁ s₁ → e₁.quiet = true ∧ wp (model S.P S.w) Γ (k e₁.result) (fun a _ s' => Q a s') (fun e _ s' => E e s') p (s₁.setGen g e₁.genState) := by
    intro e₁ s₁ ⟨ha, he⟩
    cases rem with
    | nil =>
      have he' : e₁ = .ret (.ok (.ret .none)) := he
      subst he'
      exact ⟨rfl, h0 rfl s₁ ha Γ p hΓ⟩
    | cons x rm =>
      obtain ⟨v, l0, k0, c0, p0, fs0, fp', gv', e, hgd, rv, hh, hrest⟩ := he
      subst e
      refine ⟨by simp [End.quiet, hgd], ?_⟩
      have e2 : (End.susp v false l0 k0 c0 p0 fs0).genState = .suspended k0 l0 c0 p0 fs0 false := by simp [End.genState, hgd]
      rw [e2]
      exact h1 x rm rfl s₁ v fp' gv' _ ha rv hh hrest rfl rfl Γ p hΓ
  rcases hc with ⟨c, rfl, h⟩ | h
  · obtain ⟨e₁, s₁, hr, ho⟩ := h _ r (Γ.wake c p) p rfl (hΓ.wake c p)
    obtain ⟨q1, q2⟩ := fin e₁ s₁ ho
    exact ⟨_, _, by unfold Wakes; rw [hg]; exact ⟨e₁, s₁, hr, q1, rfl, rfl⟩, q2⟩
  · obtain ⟨k0, l0, c0, p0, fs0, cl, rfl, hq⟩ := rest_go h
    obtain ⟨e₁, s₁, hr, ho⟩ := hq _ r (Γ.wake c0 p) p0 rfl (hΓ.wake c0 p)
    obtain ⟨q1, q2⟩ := fin e₁ s₁ ho
    exact ⟨_, _, by unfold Wakes; rw [hg]; exact ⟨e₁, s₁, hr, q1, rfl, rfl⟩, q2⟩
theorem can_next {A : Around} {a : Addr} {Q : Option Value → Shared → Prop} {E : Value → Shared → Prop} (hA : S.A = A.in1) (hh : A.handled = none) (hl : s.heap.NoLimit) (hroom : A.depth < recursionLimit) (ha : s.heap.IsGen a g) (hg : s.gens[g]? = some gs) (hc : Can S rem fp gv gs) (r : Ready S fp gv (s.setGen g .running))
    (h0 : rem = [] → ∀ s1 h', Aft S (fp.map (·.1)) (gv.map (·.1)) (s.setGen g .running) s1 → (∀ b o, s1.heap.get? b = some o → h'.get? b = some o) → Grow s1.heap h' → Q none { s1.setGen g .finished with heap := h' })
    (h1 : ∀ x rm, rem = x :: rm → ∀ s1 v fp' gv' gs', Aft S (fp.map (·.1)) (gv.map (·.1)) (s.setGen g .running) s1 → RelV x v → Hold S (fp.map (·.1)) (gv.map (·.1)) fp' gv' (s.setGen g .running) s1 → Rest S rm fp' gv' gs' → gs'.bare = true → sleepy gs' = true → Q (some v) (s1.setGen g gs')) :
    wpAny (model S.P S.w) A (pyNext (.ref a)) Q E s := by
  unfold pyNext
  refine wpAny_bind (wpAny_attempt (wpAny_callSpecial?_slot (name := Str.ofString "__next__") ha.typeIs slot_gen_next (wpAny_call_entry slot_gen_next ha.typeIs entry_gen_next ?_ (args_gen_next _))))
  show wpAny _ A.in1 (Builtin.Generator.genWake (.ref a) (.send .none)) _ _ s
  unfold Builtin.Generator.genWake
  refine wpAny_bind (wpAny_holding (wpAny_genNumber ha (wpAny_bind (wpAny_genState hg ?_))))
  have nr : (∃ c, gs = .fresh c) ∨ ∃ k l c p fs cl, gs = .suspended k l c p fs cl := by
    rcases hc with ⟨c, e, _⟩ | h
    · exact .inl ⟨c, e⟩
    · obtain ⟨k0, l0, c0, p0, fs0, cl, e, _⟩ := rest_go h
      exact .inr ⟨k0, l0, c0, p0, fs0, cl, e⟩
  have main : ∀ {α : Type} {Q1 : α → Shared → Prop} {E1 : Value → Shared → Prop} {k : GenResult → Sem α}, (∀ s1, (rem = [] → Aft S (fp.map (·.1)) (gv.map (·.1)) (s.setGen g .running) s1 → wpAny (model S.P S.w) A.in1 (k (.returned .none)) Q1 E1 (s1.setGen g .finished))) →
      (∀ x rm, rem = x :: rm → ∀ s1 v fp' gv' gs', Aft S (fp.map (·.1)) (gv.map (·.1)) (s.setGen g .running) s1 → RelV x v → Hold S (fp.map (·.1)) (gv.map (·.1)) fp' gv' (s.setGen g .running) s1 → Rest S rm fp' gv' gs' → gs'.bare = true → sleepy gs' = true → wpAny (model S.P S.w) A.in1 (k (.yielded v)) Q1 E1 (s1.setGen g gs')) →
      wpAny (model S.P S.w) A.in1 (.resume g (.send .none) [] k) Q1 E1 s := fun {α Q1 E1 k} a0 a1 => by
    rw [← hA] at a0 a1 ⊢
    exact can_resume hg hc r (fun e s1 => a0 s1 e) a1
  rcases nr with ⟨c, e⟩ | ⟨k0, l0, c0, p0, fs0, cl, e⟩
  all_goals
    subst e
    refine wpAny_bind (wpAny_roomToWake hl hroom ?_)
    show wpAny _ A.in1 (.resume g (.send .none) [] _) _ _ s
    refine main (fun s1 e ha1 => ?_) (fun x rm e s1 v fp' gv' gs' ha1 rv hh1 hr1 hb hz => ?_)
    · show wpAny _ A.in1 (newExc (.type "StopIteration") [] >>= _) _ _ _
      refine wpAny_bind ?_
      simp only [newExc, newTuple]
      refine wpAny_bind (wpAny_newObj_type ?_ (by size_fits))
      refine wpAny_bind (m := firstArgMember _ _) (wpAny_of_eq (a := Value.none) (by first | rfl | (simp only [firstArgMember]; rfl)) ?_)
      refine wpAny_newObj_type ?_ (by size_fits)
      simp only [raiseNew]
      refine wpAny_bind (wpAny_bind (wpAny_handled ?_))
      rw [show A.in1.handled = none from hh]
      refine wpAny_throw ?_
      refine wpAny_bind (wpAny_isInstance (T := "StopIteration") (b := true) ⟨_, Heap.get?_push_size _ rfl, rfl⟩ isSubtype_stop ?_)
      refine wpAny_pure (h0 e s1 _ ha1 (fun b o hb => Heap.get?_push_of_some _ (Heap.get?_push_of_some _ hb)) ?_)
      exact (grow_push _ _).trans (grow_push _ _)
    · exact wpAny_pure ⟨v, rfl, wpAny_pure (h1 x rm e s1 v fp' gv' gs' ha1 rv hh1 hr1 hb hz)⟩
end
end Gw
set_option Elab.async false
set_option linter.all false
set_option maxRecDepth 100000
set_option maxHeartbeats 1000000
namespace Gw
open PySem PySem.Spec PyProof.Rows L2 GenW
/-- the code in the context X wakes the generator that lives at S -/
structure Stat (X : Cx) (S : Site) : Prop where
  P : S.P = X.prog
  w : S.w = X.w
  base : S.base = X.base
  outer : S.outer = X.stack
def GObj (go : Obj) (g : Nat) : Prop := ∃ nm qn, go.cls = .type "generator" ∧ go.data = .fields #[.int g 0, nm, qn] ∧ go.slots = #[]
theorem GObj.at {go : Obj} {g : Nat} (h : GObj go g) {hp : Heap} {a : Addr} (e : hp.get? a = some go) : hp.IsGen a g := by
  obtain ⟨nm, qn, h1, h2, h3⟩ := h
  exact ⟨go, nm, qn, e, h1, h2, h3⟩
theorem GObj.nocell {go : Obj} {g : Nat} (h : GObj go g) : ∀ v, go.data ≠ .cell v := fun v z => by
  obtain ⟨nm, qn, h1, h2, h3⟩ := h
  rw [h2] at z
  cases z
section
variable {X : Cx} {S : Site} {pins fp fp' : List (Addr × Obj)} {gv gv' : List (Nat × GenState)} {σ : L2.St} {H : Hp} {s s0 s1 s2 : Shared} {gown : List Nat}
/-- behind a stretch, for those who woke the generator -/
theorem inv_aft (T : Stat X S) (I : Inv X (fp ++ pins) σ H s) (dis : ∀ p ∈ fp, ∀ q ∈ X.pn ++ pins, q.1 ≠ p.1) (yo : ∀ p ∈ fp, p.1 ∈ X.ex ∨ X.s_0.heap.objs.size ≤ p.1) (e1 : s0.heap = s.heap) (e2 : s0.os = s.os) (A : Aft S (fp.map (·.1)) gown s0 s1)
    (ho : s2.os = s1.os) (k : ∀ b o, s1.heap.get? b = some o → s2.heap.get? b = some o) (hb : AllBare s2.gens) : Inv X pins σ H s2 := by
  have I0 : Inv X pins σ H s := I.pins_of fun p hp => I.pin p (List.mem_append_right _ (List.mem_append_right _ hp))
  have fpin : ∀ p ∈ fp, s.heap.get? p.1 = some p.2 ∧ H p.1 = none ∧ p.1 ≠ X.env.locals ∧ p.1 ∉ X.fs ∧ ∀ v, p.2.data ≠ .cell v := fun p hp => I.pin p (List.mem_append_right _ (List.mem_append_left _ hp))
  have kp : ∀ b o, s.heap.get? b = some o → b ∉ fp.map (·.1) → (b ∉ frs X.stack → s2.heap.get? b = some o) ∧ (b ∈ frs X.stack → ∃ sl, s2.heap.get? b = some { o with slots := sl }) := fun b o e hb => by
    rw [← e1] at e
    obtain ⟨q1, q2⟩ := A.heap b o e hb
    rw [T.outer] at q1 q2
    refine ⟨fun z => k b o (q1 z), fun z => ?_⟩
    obtain ⟨sl, q⟩ := q2 z
    exact ⟨sl, k b _ q⟩
  have tr : ∀ b u, H b = some u → b ∉ fp.map (·.1) ∧ b ∉ frs X.stack := fun b u e => by
    refine ⟨fun z => ?_, fun z => ?_⟩
    · obtain ⟨p, hp, rfl⟩ := List.mem_map.mp z
      rw [(fpin p hp).2.1] at e
      cases e
    · rw [I.stkFree b z] at e
      cases e
  refine I0.call' (ch := fp.map (·.1)) (ho.trans (A.os.trans e2)) ⟨fun b o e n hf hc => (kp b o e hc).1 hf, fun b o e n hf hc => (kp b o e hc).2 hf, fun b o e n _ => n, fun b o e hc => ?_, fun _ _ z => z, fun _ _ _ z => z, fun b ps z => ⟨#[], by rw [z]; simp⟩⟩ (fun b u e => ?_) hb (fun b hb => ?_)
  · by_cases hf : b ∈ frs X.stack
    · obtain ⟨sl, q⟩ := (kp b o e hc).2 hf
      exact ⟨_, q⟩
    · exact ⟨o, (kp b o e hc).1 hf⟩
  · refine (I.hok b u e).stay (fun c v hc q => ?_) (fun _ z => z) fun _ _ z => z
    have hH : ∃ u', H c = some u' := by
      rcases hc with rfl | z
      · exact ⟨u, e⟩
      · exact ⟨_, z⟩
    obtain ⟨u', hu⟩ := hH
    obtain ⟨t1, t2⟩ := tr c u' hu
    exact (kp c v q t1).1 t2
  · obtain ⟨p, hp, rfl⟩ := List.mem_map.mp hb
    obtain ⟨q1, q2, q3, q4, q5⟩ := fpin p hp
    refine ⟨yo p hp, q3, fun x c hx hc => ?_, fun q hq => dis p hp q hq⟩
    obtain ⟨v, o, ho, hd⟩ := I.cell x c hx
    rw [hc, q1] at ho
    injection ho with ho
    rw [← ho] at hd
    exact q5 v hd
/-- .. which rests again -/
theorem inv_rest (T : Stat X S) (I : Inv X (fp ++ pins) σ H s) (dis : ∀ p ∈ fp, ∀ q ∈ X.pn ++ pins, q.1 ≠ p.1) (yo : ∀ p ∈ fp, p.1 ∈ X.ex ∨ X.s_0.heap.objs.size ≤ p.1) (e1 : s0.heap = s.heap) (e2 : s0.os = s.os) (A : Aft S (fp.map (·.1)) gown s0 s1) (hd : Hold S (fp.map (·.1)) gown fp' gv' s0 s1)
    (ho : s2.os = s1.os) (k : s2.heap = s1.heap) (hb : AllBare s2.gens) : Inv X (fp' ++ pins) σ H s2 ∧ (∀ p ∈ fp', ∀ q ∈ X.pn ++ pins, q.1 ≠ p.1) ∧ (∀ p ∈ fp', p.1 ∈ X.ex ∨ X.s_0.heap.objs.size ≤ p.1) := by
  have J := inv_aft T I dis yo e1 e2 A ho (fun b o e => by rw [k]; exact e) hb
  have fpin : ∀ p ∈ fp, s.heap.get? p.1 = some p.2 ∧ H p.1 = none ∧ p.1 ≠ X.env.locals ∧ p.1 ∉ X.fs ∧ ∀ v, p.2.data ≠ .cell v := fun p hp => I.pin p (List.mem_append_right _ (List.mem_append_left _ hp))
  have sz : s0.heap.objs.size = s.heap.objs.size := by rw [e1]
  refine ⟨J.pins_of fun p hp => ?_, fun p hp q hq => ?_, fun p hp => ?_⟩
  · rcases List.mem_append.mp hp with z | z
    · obtain ⟨q1, q2, q3, q4⟩ := hd.fp p z
      refine ⟨by rw [k]; exact q1, ?_⟩
      rcases q3 with q3 | q3
      · obtain ⟨p', hp', e⟩ := List.mem_map.mp q3
        obtain ⟨r1, r2, r3, r4, r5⟩ := fpin p' hp'
        rw [e] at r2 r3 r4
        exact ⟨r2, r3, r4, q4⟩
      · rw [sz] at q3
        exact ⟨I.hok.fresh q3, Nat.ne_of_gt (Nat.lt_of_lt_of_le I.lt q3), I.nofs q3, q4⟩
    · exact J.pin p (List.mem_append_right _ z)
  · obtain ⟨q1, q2, q3, q4⟩ := hd.fp p hp
    rcases q3 with q3 | q3
    · obtain ⟨p', hp', e⟩ := List.mem_map.mp q3
      have := dis p' hp' q hq
      rw [e] at this
      exact this
    · rw [sz] at q3
      have h1 : s.heap.get? q.1 = some q.2 := (I.pin q (by
        rcases List.mem_append.mp hq with z | z
        · exact List.mem_append_left _ z
        · exact List.mem_append_right _ (List.mem_append_right _ z))).1
      exact Nat.ne_of_lt (Nat.lt_of_lt_of_le (Heap.lt_size h1) q3)
  · obtain ⟨q1, q2, q3, q4⟩ := hd.fp p hp
    rcases q3 with q3 | q3
    · obtain ⟨p', hp', e⟩ := List.mem_map.mp q3
      rw [← e]
      exact yo p' hp'
    · rw [sz] at q3
      exact .inr (Nat.le_trans I.sz q3)
end
/-- a generator of ours that can be woken: its object at a, its number g -/
structure Has (X : Cx) (pins : List (Addr × Obj)) (S : Site) (a : Addr) (go : Obj) (g : Nat) (rem : List V) (fp : List (Addr × Obj)) (gv : List (Nat × GenState)) (gs : GenState) (s : Shared) : Prop where
  st : Stat X S
  obj : GObj go g
  lt : S.env.locals < a
  dis : ∀ p ∈ fp, ∀ q ∈ X.pn ++ (a, go) :: pins, q.1 ≠ p.1
  ge : ∀ p ∈ fp, S.env.locals ≤ p.1
  yo : ∀ p ∈ fp, p.1 ∈ X.ex ∨ X.s_0.heap.objs.size ≤ p.1
  gat : s.gens[g]? = some gs
  gne : ∀ q ∈ gv, q.1 ≠ g ∧ s.gens[q.1]? = some q.2 ∧ sleepy q.2 = true
  can : Can S rem fp gv gs
theorem setGen_ne {s : Shared} {g i : Nat} {x : GenState} (h : i ≠ g) : (s.setGen g x).gens[i]? = s.gens[i]? := by
  show (s.gens.setIfInBounds g x)[i]? = _
  rw [Array.getElem?_setIfInBounds_ne (Ne.symm h)]
section
variable {X : Cx} {S : Site} {pins fp : List (Addr × Obj)} {gv : List (Nat × GenState)} {σ : L2.St} {H : Hp} {s : Shared} {a : Addr} {go : Obj} {g : Nat} {rem : List V} {gs : GenState}
/-- other numbers than these -/
def Mine (g : Nat) (gv : List (Nat × GenState)) (i : Nat) : Prop := i = g ∨ ∃ q ∈ gv, q.1 = i
/-- WAKING IT -/
theorem next_has {A : Around} {Q : Option Value → Shared → Prop} {E : Value → Shared → Prop} (hs : Has X pins S a go g rem fp gv gs s) (I : Inv X (fp ++ (a, go) :: pins) σ H s) (hA : S.A = A.in1) (hh : A.handled = none) (hroom : A.depth < recursionLimit)
    (h0 : rem = [] → ∀ s2, Inv X ((a, go) :: pins) σ H s2 → Grow s.heap s2.heap → s.gens.size ≤ s2.gens.size → (∀ i gs, ¬ Mine g gv i → s.gens[i]? = some gs → sleepy gs = true → s2.gens[i]? = some gs) → Q none s2)
    (h1 : ∀ x rm, rem = x :: rm → ∀ s2 v fp' gv' gs', Inv X (fp' ++ (a, go) :: pins) σ H s2 → Has X pins S a go g rm fp' gv' gs' s2 → RelV x v → sleepy gs' = true → Grow s.heap s2.heap → s.gens.size ≤ s2.gens.size →
      (∀ i gs, ¬ Mine g gv i → s.gens[i]? = some gs → sleepy gs = true → s2.gens[i]? = some gs) → (∀ p ∈ fp', p.1 ∈ fp.map (·.1) ∨ s.heap.objs.size ≤ p.1) → (∀ q ∈ gv', q.1 ∈ gv.map (·.1) ∨ s.gens.size ≤ q.1) → Q (some v) s2) :
    wpAny (model X.prog X.w) A (pyNext (.ref a)) Q E s := by
  have ha := (I.pin (a, go) (List.mem_append_right _ (List.mem_append_right _ List.mem_cons_self))).1
  have glt : g < s.gens.size := (Array.getElem?_eq_some_iff.mp hs.gat).1
  have hrun : (s.setGen g .running).gens.size = s.gens.size := setGen_size s g .running
  have r : Ready S fp gv (s.setGen g .running) := by
    refine ⟨fun p hp => (I.pin p (List.mem_append_right _ (List.mem_append_left _ hp))).1, fun q hq => ?_, fun b o e => ?_, ?_, allBare_setGen I.bare rfl⟩
    · obtain ⟨q1, q2, q3⟩ := hs.gne q hq
      rw [setGen_ne q1]
      exact q2
    · rw [hs.st.base] at e
      exact I.bk b o e
    · rw [hs.st.base, hs.st.outer]
      exact I.stack
  have zz : ∀ {s1 : Shared} {x : GenState}, Aft S (fp.map (·.1)) (gv.map (·.1)) (s.setGen g .running) s1 → ∀ i gs, ¬ Mine g gv i → s.gens[i]? = some gs → sleepy gs = true → (s1.setGen g x).gens[i]? = some gs := fun {s1 x} A1 i gs hm e hz => by
    have h1 : i ≠ g := fun z => hm (.inl z)
    have h2 : i ∉ gv.map (·.1) := fun z => by
      obtain ⟨q, hq, e⟩ := List.mem_map.mp z
      exact hm (.inr ⟨q, hq, e⟩)
    rw [setGen_ne h1]
    exact A1.zz i gs h2 (by rw [setGen_ne h1]; exact e) hz
  have dis' : ∀ p ∈ fp, ∀ q ∈ X.pn ++ (a, go) :: pins, q.1 ≠ p.1 := hs.dis
  rw [← hs.st.P, ← hs.st.w]
  refine can_next hA hh I.nolimit hroom (hs.obj.at ha) hs.gat hs.can r (fun e s1 h' A1 kp ksz => ?_) (fun x rm e s1 v fp' gv' gs' A1 rv hd hr hb hz => ?_)
  · refine h0 e _ (inv_aft (s0 := s.setGen g .running) (s1 := s1) hs.st I dis' hs.yo rfl rfl A1 rfl kp (allBare_setGen A1.bare rfl)) ?_ ?_ (fun i gs hm e2 hz => zz A1 i gs hm e2 hz)
    · have z := A1.hsz
      exact z.trans ksz
    · show s.gens.size ≤ (s1.setGen g .finished).gens.size
      rw [setGen_size]
      have := A1.gsz
      rw [hrun] at this
      exact this
  · obtain ⟨J, d2, g2⟩ := inv_rest (s0 := s.setGen g .running) (s1 := s1) hs.st I dis' hs.yo (s2 := s1.setGen g gs') rfl rfl A1 hd rfl rfl (allBare_setGen A1.bare hb)
    have gsz : s.gens.size ≤ s1.gens.size := by
      have := A1.gsz
      rw [hrun] at this
      exact this
    refine h1 x rm e _ v fp' gv' gs' J ⟨hs.st, hs.obj, hs.lt, d2, fun p hp => (hd.fp p hp).2.1, g2, setGen_at (Nat.lt_of_lt_of_le glt gsz), fun q hq => ?_, .inr hr⟩ rv hz A1.hsz (by rw [setGen_size]; exact gsz) (fun i gs hm e2 hz => zz A1 i gs hm e2 hz) (fun p hp => (hd.fp p hp).2.2.1) (fun q hq => ?_)
    · obtain ⟨q1, q2, q3⟩ := hd.gv q hq
      have qg : q.1 ≠ g := by
        rcases q3 with z | z
        · obtain ⟨q', hq', e⟩ := List.mem_map.mp z
          rw [← e]
          exact (hs.gne q' hq').1
        · rw [hrun] at z
          exact Nat.ne_of_gt (Nat.lt_of_lt_of_le glt z)
      exact ⟨qg, by rw [setGen_ne qg]; exact q1, q2⟩
    · obtain ⟨q1, q2, q3⟩ := hd.gv q hq
      rw [hrun] at q3
      exact q3
end
end Gw
set_option Elab.async false
set_option linter.all false
set_option maxRecDepth 100000
set_option maxHeartbeats 1000000
namespace Gw
open PySem PySem.Spec PyProof.Rows L2 GenW
theorem st_func {prog : Program} {w : World} {A : Around} {body : List Stmt} {env : Env} {fs : List Frame} {s : Shared} {Q : End → Shared → Prop}
    (h : Strt (model prog w) A (.func body env) ((execs body env).wrap (fun f => .pure (.done (.ret (match f with | .ret v => v | _ => .none)))) (fun e => (leaving env e).wrap (fun _ => .raise e) .raise id id) id id) fs s Q) :
    Strt (model prog w) A (.func body env) ((model prog w).den (.func body env)) fs s Q := by
  show Strt _ A _ (.point [] fun _ => ((execs body env).onRaise (leaving env)) >>= _) fs s Q
  refine st_point ?_
  rw [Sem.onRaise_eq_wrap, Sem.bind_eq_wrap', Sem.wrap_wrap]
  rw [Sem.wrap_congr (execs body env) _ _ (K' := fun f => .pure (.done (.ret (match f with | .ret v => v | _ => .none)))) (H' := fun e => (leaving env e).wrap (fun _ => .raise e) .raise id id) (fun f => by cases f <;> rfl) (fun e => by rw [Sem.bind_eq_wrap, Sem.wrap_wrap]; rfl)]
  exact h
/-- what a call of a generator def makes: it will hand out rem -/
def Made (P : Program) (w : World) (base : Heap) (outer : List Env) (Aw : Around) (s : Shared) (rem : List V) (u : Value) (s' : Shared) : Prop :=
  ∃ (S : Site) (a : Addr) (go : Obj) (fp : List (Addr × Obj)) (c : Code), u = .ref a ∧ S.A = Aw ∧ S.P = P ∧ S.w = w ∧ S.outer = outer ∧ S.base = base ∧ s.heap.objs.size ≤ S.env.locals ∧ S.env.locals < a ∧ GObj go s.gens.size ∧ s'.heap.get? a = some go ∧
    (∀ p ∈ fp, s'.heap.get? p.1 = some p.2 ∧ S.env.locals ≤ p.1 ∧ p.1 < a ∧ ∀ v, p.2.data ≠ .cell v) ∧ s'.gens = s.gens.push (.fresh c) ∧ s'.os = s.os ∧ (∀ b o, s.heap.get? b = some o → s'.heap.get? b = some o) ∧ s.heap.objs.size ≤ s'.heap.objs.size ∧ Can S rem fp [] (.fresh c)
abbrev SpN := List V → List V → Prop
structure GFun (P : Program) (w : World) (K : PySem.W.Frag) (mg : Str → Option Value) (base : Heap) (k : Nat) (f : Addr) (fd : FuncData) (ps : List Str) (sp : SpN) : Prop where
  len : ∀ vs rem, sp vs rem → vs.length = ps.length
  run : ∀ (A Aw : Around) (outer : List Env) (s : Shared) (H : Hp) (args : Args) (us : List Value) (vs rem : List V), A.depth < recursionLimit → Room k Aw → Aw.frames = some outer → Env0 P w K mg base A outer s H → BindsTo s fd args (ps.zip us) → Vals vs us → sp vs rem →
    codeAny (model P w) A (.call (.ref f) args) (fun r s' => match r with | .ok (.ret u) => Made P w base outer Aw s rem u s' | _ => False) s
/-- THE RULE: a generator def by its body -/
theorem gfun_of {P : Program} {w : World} {K : PySem.W.Frag} {mg : Str → Option Value} {base : Heap} {k : Nat} {f : Addr} {name qual : Str} {params : Arguments} {body : List Stmt} {scope : Scope} {dV kV doc pm cdv ct oc : Value} {an od : Option Addr} {osl : Array (Option Value)} {N ps : List Str} {sp : SpN}
    (lk : K.lookup f = some ⟨oc, od, .func (PySem.W.fnOf name qual params body scope dV kV doc pm an cdv ct), osl⟩) (hcd : PySem.W.codeIn K cdv qual = true) (Sc : GScope N ps scope) (hcl : ∀ n, cellsFrom n scope.names [] = []) (hnk : ∀ x, scope.names.lookup x ≠ some .cell ∧ scope.names.lookup x ≠ some .free) (len : ∀ vs rem, sp vs rem → vs.length = ps.length)
    (hbody : ∀ (S : Site) (L : Addr) (vs rem : List V), S.Ok → S.P = P → S.w = w → S.K = K → S.mg = mg → S.base = base → S.N = N → S.env = envOfC qual scope L f cdv → Room k (S.A.deeper S.env) → sp vs rem →
      ∃ t, GSs S body t ∧ ∀ H, t { nx := fun r _ _ => r = [], rt := fun r => r = [] } rem (start N vs) H) : GFun P w K mg base (k + 1) f (PySem.W.fnOf name qual params body scope dV kV doc pm an cdv ct) ps sp := by
  refine ⟨len, fun A Aw outer s H args us vs rem hdp hrw hfr e0 hb r hsp => ?_⟩
  have hl := len _ _ hsp
  have KX : K.In s.heap := e0.mod.kin.keeps fun b o e => (e0.bs b o e).1
  have lim : s.heap.NoLimit := e0.mod.nolimit.keeps fun b o e => (e0.bs b o e).1
  have hkind : ∀ y ∈ ps.zip us, scope.names.lookup y.1 = some .local ∨ (scope.names.lookup y.1 = some .cell ∧ ((cellsFrom (s.heap.objs.size + 1) scope.names []).lookup y.1).isSome = true) := fun ⟨n, v⟩ hy => by
    rcases Sc.par n (List.of_mem_zip hy).1 with q | q
    · exact .inl q
    · exact absurd q (hnk n).1
  refine codeAny_call_generator hdp (KX _ _ lk) rfl Sc.co Sc.gen rfl (PySem.W.codeRec_of KX hcd) (hb _ _ _ _ ?_)
  refine wpAny_newFunctionEnv_cells Sc.kind hkind fun env he s1 x => ?_
  subst he
  refine ⟨lim.keeps x.toInCall.keep, ?_⟩
  obtain ⟨h1, tk, es1, hk1⟩ := x.done
  have os1 : s1.os = s.os := by rw [es1]
  have gen1 : s1.gens = s.gens := by rw [es1]
  have lt1 : s.heap.objs.size < s1.heap.objs.size := x.toInCall.ns.lt
  have kp1 : ∀ b o, s.heap.get? b = some o → s1.heap.get? b = some o := x.toInCall.keep
  have e0w : Env0 P w K mg base Aw outer s H := ⟨hfr, e0.mod, e0.bs, e0.bsz, e0.funs, e0.frf, e0.hok, e0.bare⟩
  have I1 : Inv (gcxOf P w K mg base N qual scope f cdv Aw outer s H (fun _ _ _ => False) []) [] (start N vs) H s1 := inv_startG Sc hrw.hd e0w hl r x
  obtain ⟨m, ⟨oL, es, ep, hoL, d1, d2, d3⟩, hlo⟩ := id I1.loc
  let S : Site := ⟨P, w, K, mg, base, N, envOfC qual scope s.heap.objs.size f cdv, Aw, outer⟩
  have So : S.Ok := by
    refine ⟨e0.mod, Sc.kind, rfl, rfl, rfl, fun y => ?_, fun y => hnk y, e0.bsz, hfr, hrw.hd, fun b hb => ?_⟩
    · show (cellsFrom (s.heap.objs.size + 1) scope.names []).lookup y = none
      rw [hcl]
      rfl
    · obtain ⟨_, o, ho, _⟩ := e0.funs.mem hb
      exact Heap.lt_size ho
  have hloc : LocAt S (start N vs) oL := by
    refine ⟨es, ep, m, d1, d2, d3, fun i y v q1 q2 q3 => ?_⟩
    obtain ⟨u, ru, l⟩ := hlo i y v q1 q2 q3
    rcases l with ⟨kk, e⟩ | ⟨kk, _⟩
    · exact ⟨u, ru, kk, e⟩
    · rcases kk with kk | kk
      · exact absurd kk (hnk y).1
      · exact absurd kk (hnk y).2
  obtain ⟨t, ht, hq⟩ := hbody S s.heap.objs.size vs rem So rfl rfl rfl rfl rfl rfl rfl (hrw.deeper _) hsp
  have can : Can S rem [(s.heap.objs.size, oL)] [] (.fresh (.func body (envOfC qual scope s.heap.objs.size f cdv))) := by
    refine .inl ⟨_, rfl, fun s2 rd => st_func ?_⟩
    have I2 : Inv (S.cx s2 [s.heap.objs.size]) [] (start N vs) (ledger s2.heap S.env.locals [s.heap.objs.size]) s2 := inv_of So (rd.fp _ List.mem_cons_self) hloc I1.len (List.mem_cons_self) (fun p hp => nomatch hp) rd.bs rd.funs rd.bare
    refine ht.run s2 [s.heap.objs.size] [] [] [] _ [] _ _ id id s2 (start N vs) _ _ rem ⟨over_func, rfl, rfl, rfl⟩ ⟨I2, fun _ _ z => z, (fun p hp => nomatch hp), (fun p hp => nomatch hp), Grow.refl _, Nat.le_refl _, fun _ _ _ z _ => z, List.mem_cons_self, fun b hb => by rw [List.mem_singleton.mp hb]; exact Nat.le_refl _, Heap.lt_size (rd.fp _ List.mem_cons_self)⟩ (hq _) fun s0' own' gown' σ' H' rem' s' fl G q => ?_
    cases fl with
    | next =>
      have e : rem' = [] := q
      subst e
      exact st_end (.ok (.ret .none)) ⟨G.aft, rfl⟩
    | brk => exact False.elim q
    | cont => exact False.elim q
    | ret u =>
      obtain ⟨eu, q⟩ := q
      have e : rem' = [] := q
      subst e eu
      exact st_end (.ok (.ret .none)) ⟨G.aft, rfl⟩
  refine ⟨S, s1.heap.objs.size, _, [(s.heap.objs.size, oL)], _, rfl, rfl, rfl, rfl, rfl, rfl, Nat.le_refl _, lt1, ⟨.str name s1.toks, .str qual (s1.toks + 1), rfl, ?_, rfl⟩, Heap.get?_push_size _ rfl, fun p hp => ?_, ?_, os1, fun b o e => Heap.get?_push_of_some _ (kp1 b o e), ?_, can⟩
  · rw [← gen1]
  · rw [List.mem_singleton.mp hp]
    exact ⟨Heap.get?_push_of_some _ hoL, Nat.le_refl _, lt1, fun v z => by rw [d1] at z; cases z⟩
  · show s1.gens.push _ = s.gens.push _
    rw [gen1]
    rfl
  · show s.heap.objs.size ≤ (s1.heap.push _).objs.size
    rw [Heap.size_push]
    omega
/-! an expression that makes a generator -/
abbrev TGN := L2.St → Hp → (List V → Hp → Prop) → Prop
structure PGn (X : Cx) (k : Nat) (e : Expr) (tg : TGN) : Prop where
  run : ∀ (Aw : Around) (pins : List (Addr × Obj)) (s : Shared) (σ : L2.St) (H : Hp) (cont : List V → Hp → Prop), Room k Aw → Aw.frames = some X.stack → Inv X pins σ H s → tg σ H cont → wpAny (model X.prog X.w) X.A (eval e X.env)
    (fun u s' => ∃ S a go g rem fp c H', u = .ref a ∧ S.A = Aw ∧ Inv X (fp ++ (a, go) :: pins) σ H' s' ∧ Has X pins S a go g rem fp [] (.fresh c) s' ∧ s.gens.size ≤ g ∧ s.heap.objs.size ≤ S.env.locals ∧ cont rem H') X.xe s
section
variable {X : Cx} {k : Nat} {f : Addr} {fd : FuncData} {ps : List Str} {sp : SpN} {dvs : List V} {ds : List Value} {x : Str} {p pos : Pos}
theorem made_inv {pins : List (Addr × Obj)} {σ : L2.St} {H : Hp} {s s' : Shared} {Aw : Around} {rem : List V} {u : Value} (I : Inv X pins σ H s) (h : Made X.prog X.w X.base X.stack Aw s rem u s') :
    ∃ S a go g fp c, u = .ref a ∧ S.A = Aw ∧ Inv X (fp ++ (a, go) :: pins) σ H s' ∧ Has X pins S a go g rem fp [] (.fresh c) s' ∧ s.gens.size ≤ g ∧ s.heap.objs.size ≤ S.env.locals := by
  obtain ⟨S, a, go, fp, c, hu, hA, hP, hw, ho, hb, h1, h2, h3, h4, h5, h6, h7, h8, h9, h10⟩ := h
  have bare' : AllBare s'.gens := by
    rw [h6]
    exact AllBare.push I.bare rfl
  have J : Inv X pins σ H s' := I.call' (ch := []) h7 (Un.kept h8) (I.hok.kept h8) bare' fun b z => by simp at z
  have yo : ∀ b : Addr, s.heap.objs.size ≤ b → H b = none ∧ b ≠ X.env.locals ∧ b ∉ X.fs := fun b hb => ⟨I.hok.fresh hb, Nat.ne_of_gt (Nat.lt_of_lt_of_le I.lt hb), I.nofs hb⟩
  refine ⟨S, a, go, s.gens.size, fp, c, hu, hA, J.pins_of fun q hq => ?_, ⟨⟨hP, hw, hb, ho⟩, h3, h2, fun p hp q hq => ?_, fun p hp => (h5 p hp).2.1, fun p hp => .inr (Nat.le_trans I.sz (Nat.le_trans h1 (h5 p hp).2.1)), by rw [h6]; exact Array.getElem?_push_size .., (fun q hq => nomatch hq), h10⟩, Nat.le_refl _, h1⟩
  · rcases List.mem_append.mp hq with z | z
    · obtain ⟨q1, q2, q3, q4⟩ := h5 q z
      obtain ⟨y1, y2, y3⟩ := yo q.1 (Nat.le_trans h1 q2)
      exact ⟨q1, y1, y2, y3, q4⟩
    · rcases List.mem_cons.mp z with rfl | z
      · obtain ⟨y1, y2, y3⟩ := yo a (Nat.le_trans h1 (Nat.le_of_lt h2))
        exact ⟨h4, y1, y2, y3, h3.nocell⟩
      · exact J.pin q (List.mem_append_right _ z)
  · obtain ⟨q1, q2, q3, q4⟩ := h5 p hp
    have old : ∀ q : Addr × Obj, q ∈ X.pn ++ pins → q.1 ≠ p.1 := fun q hq => Nat.ne_of_lt (Nat.lt_of_lt_of_le (Heap.lt_size (I.pin q hq).1) (Nat.le_trans h1 q2))
    rcases List.mem_append.mp hq with z | z
    · exact old q (List.mem_append_left _ z)
    · rcases List.mem_cons.mp z with rfl | z
      · exact Nat.ne_of_gt q3
      · exact old q (List.mem_append_right _ z)
def tCallN (sp : SpN) (dvs : List V) (t : TA) : TGN := fun σ H cont => t σ H fun vs H1 => ∃ rem, sp (vs ++ dvs) rem ∧ cont rem H1
theorem run_gfun {pins : List (Addr × Obj)} {σ : L2.St} {H : Hp} {s : Shared} {us : List Value} {vs rem : List V} {cont : List V → Hp → Prop} {E1 : Value → Shared → Prop} {Aw : Around} (F : GFun X.prog X.w X.K X.mg X.base k f fd ps sp) (hdp : X.A.depth < recursionLimit) (hrw : Room k Aw) (hfr : Aw.frames = some X.stack) (hb : L2.Binds X.K fd ps ds) (hd : Vals dvs ds)
    (I : Inv X pins σ H s) (r : Vals vs us) (h : sp (vs ++ dvs) rem) (hc : cont rem H) (sz : Nat) (hsz : sz ≤ s.heap.objs.size) (gz : Nat) (hgz : gz ≤ s.gens.size) :
    wpAny (model X.prog X.w) X.A (call (.ref f) us) (fun u s' => ∃ S a go g rem fp c H', u = .ref a ∧ S.A = Aw ∧ Inv X (fp ++ (a, go) :: pins) σ H' s' ∧ Has X pins S a go g rem fp [] (.fresh c) s' ∧ gz ≤ g ∧ sz ≤ S.env.locals ∧ cont rem H') E1 s := by
  have r2 : Vals (vs ++ dvs) (us ++ ds) := r.append hd
  have hl2 : (us ++ ds).length = ps.length := by rw [← r2.length]; exact F.len _ _ h
  refine wpAny_call (codeAny_mono (F.run X.A Aw X.stack s H ⟨us, []⟩ (us ++ ds) (vs ++ dvs) rem hdp hrw hfr I.env0 (hb s us I.kIn hl2) r2 h) fun rr s' hq => ?_)
  cases rr with
  | error e => exact False.elim hq
  | ok fl =>
    cases fl with
    | ret u =>
      obtain ⟨S, a, go, g, fp, c, q1, q2, q3, q4, q5, q6⟩ := made_inv I hq
      exact ⟨S, a, go, g, rem, fp, c, H, q1, q2, q3, q4, Nat.le_trans hgz q5, Nat.le_trans hsz q6, hc⟩
    | next => exact False.elim hq
    | brk => exact False.elim hq
    | cont => exact False.elim hq
end
end Gw
set_option Elab.async false
set_option linter.all false
set_option maxRecDepth 100000
set_option maxHeartbeats 1000000
namespace Gw
open PySem PySem.Spec PyProof.Rows L2 GenW
theorem any_sz {α : Type} {M : Model} {A : Around} {t : Sem α} {Q : α → Shared → Prop} {E : Value → Shared → Prop} {s : Shared} (h : wpAny M A t Q E s) : wpAny M A t (fun a s' => s.heap.objs.size ≤ s'.heap.objs.size ∧ s.gens.size ≤ s'.gens.size ∧ Q a s') E s := fun Γ p hΓ => by
  have y := wp_grow M Γ s.heap t _ _ p s (.refl _) (wp_gsz M Γ s.gens.size t _ _ p s (Nat.le_refl _) (h Γ p hΓ))
  exact Sem.wp_mono M Γ t (fun a p' s' x => ⟨x.1.sz, x.2⟩) (fun a p' s' x => x.2.2) p s y
section
variable {X : Cx} {k : Nat} {f : Addr} {fd : FuncData} {ps : List Str} {sp : SpN} {dvs : List V} {ds : List Value} {x : Str} {p pos : Pos}
/-- f(e, ..) of a generator def -/
theorem pgn_call {e : Expr} {es : List Expr} {t : TA} (F : GFun X.prog X.w X.K X.mg X.base k f fd ps sp) (hdp : X.A.depth < recursionLimit) (hg : Gl X x) (hm : X.mg x = some (.ref f)) (hk : PySem.W.keepIn X.K (.ref f) = true) (hb : L2.Binds X.K fd ps ds) (hd : Vals dvs ds) (ha : PA X (e :: es) t)
    (hdb : (x == ("__debug__" : Str)) = false := by decide) (he : starEach (e :: es) X.env = (false, eval e X.env) :: starEach es X.env := by rfl) (hpl : (backTo pos (starEach es X.env)).any (·.1) = false := by rfl) :
    PGn X k (.Call (.Name x p) (e :: es) [] pos) (tCallN sp dvs t) := by
  refine ⟨fun Aw pins s σ H cont hrw hfr I h => ?_⟩
  refine wpAny_Call_Name_kw (ld_glob I hg hm ?_ hdb)
  refine PySem.W.callWith_K (h₀ := X.base) I.ok.mod.kin hk (thn (any_sz (ha.run pos pins s σ H _ I h)) ?_) he hpl
  rintro us s1 ⟨z1, z2, vs, H1, I1, r, rem, q1, q2⟩
  exact ⟨I1.kIn, run_gfun F hdp hrw hfr hb hd I1 r q1 q2 _ z1 _ z2⟩
/-- f(k = v, ..) -/
def tCallNK (sp : SpN) (gV : List V → List V → List V) (tk : TA) : TGN := fun σ H cont => tk σ H fun zs H1 => ∃ rem, sp (gV [] zs) rem ∧ cont rem H1
theorem pgn_kw {ks : List Str} {kws : List Keyword} {tk : TA} {g : List Value → List Value → List Value} {gV : List V → List V → List V} (F : GFun X.prog X.w X.K X.mg X.base k f fd ps sp) (hdp : X.A.depth < recursionLimit) (hg : Gl X x) (hm : X.mg x = some (.ref f)) (hk : PySem.W.keepIn X.K (.ref f) = true) (hb : KBinds X.K fd ps ks g gV) (hkw : PK X kws tk)
    (hall : (backToKw pos (keywordEach kws X.env)).all (·.1.isSome) = true := by rfl)
    (hks : (backToKw pos (keywordEach kws X.env)).filterMap (·.1) = ks := by rfl) (hdb : (x == ("__debug__" : Str)) = false := by decide)
    (hpl : ((backTo pos (starEach [] X.env)).any (·.1) || (backToKw pos (keywordEach kws X.env)).any (·.1.isNone)) = false := by rfl) : PGn X k (.Call (.Name x p) [] kws pos) (tCallNK sp gV tk) := by
  refine ⟨fun Aw pins s σ H cont hrw hfr I h => ?_⟩
  refine wpAny_Call_Name_kw (ld_glob I hg hm (PySem.W.callWith_KW0 (h₀ := X.base) I.ok.mod.kin hk hall (thn (any_sz (hkw.run pos pins s σ H _ I h)) ?_) hpl) hdb)
  rintro ws s1 ⟨z1, z2, zs, H1, I1, rz, rem, q1, q2⟩
  refine ⟨I1.kIn, ?_⟩
  rw [hks]
  have r2 : Vals (gV [] zs) (g [] ws) := hb.rel .nil rz
  have hl2 : (g [] ws).length = ps.length := by rw [← r2.length]; exact F.len _ _ q1
  refine wpAny_call (codeAny_mono (F.run X.A Aw X.stack s1 H1 ⟨[], ks.zip ws⟩ (g [] ws) (gV [] zs) rem hdp hrw hfr I1.env0 (hb.to s1 [] ws I1.kIn hl2) r2 q1) fun rr s' hq => ?_)
  cases rr with
  | error e => exact False.elim hq
  | ok fl =>
    cases fl with
    | ret u =>
      obtain ⟨S, a, go, g, fp, c, y1, y2, y3, y4, y5, y6⟩ := made_inv I1 hq
      exact ⟨S, a, go, g, rem, fp, c, H1, y1, y2, y3, y4, Nat.le_trans z2 y5, Nat.le_trans z1 y6, q2⟩
    | next => exact False.elim hq
    | brk => exact False.elim hq
    | cont => exact False.elim hq
end
/-! a for over a generator, in a def that hands out nothing -/
theorem sp_gens {X : Cx} {pins : List (Addr × Obj)} {D : Ends} {f : Flow} {s : Shared} {g : Array GenState} (h : SP X pins D f s) (hb : AllBare s.gens → AllBare g) : SP X pins D f { s with gens := g } := by
  cases f with
  | next => obtain ⟨σ', H', I, q⟩ := h; exact ⟨σ', H', inv_gens I (hb I.bare), q⟩
  | brk => obtain ⟨σ', H', I, q⟩ := h; exact ⟨σ', H', inv_gens I (hb I.bare), q⟩
  | cont => obtain ⟨σ', H', I, q⟩ := h; exact ⟨σ', H', inv_gens I (hb I.bare), q⟩
  | ret u => obtain ⟨v, σ', H', I, r, q⟩ := h; exact ⟨v, σ', H', inv_gens I (hb I.bare), r, q⟩
theorem Has.left {X : Cx} {pins : List (Addr × Obj)} {S : Site} {a : Addr} {go : Obj} {g : Nat} {rem : List V} {fp : List (Addr × Obj)} {gv : List (Nat × GenState)} {gs : GenState} {s s' : Shared} (h : Has X pins S a go g rem fp gv gs s) (hz : sleepy gs = true) (l : Left s s') : Has X pins S a go g rem fp gv gs s' :=
  ⟨h.st, h.obj, h.lt, h.dis, h.ge, h.yo, l.zz g gs h.gat hz, fun q hq => ⟨(h.gne q hq).1, l.zz _ _ (h.gne q hq).2.1 (h.gne q hq).2.2, (h.gne q hq).2.2⟩, h.can⟩
def tForN (tg : TGN) (g : TG) (tb : TS) : TS := fun D σ H => tg σ H fun rem H1 => ∃ Pv : Nat → L2.St → Hp → Prop, Pv 0 σ H1 ∧ (∀ i x σ H, rem[i]? = some x → Pv i σ H → g x σ H fun σ2 H2 => tb { D with nx := Pv (i + 1), ct := Pv (i + 1), bk := D.nx } σ2 H2) ∧ ∀ σ H, Pv rem.length σ H → D.nx σ H
theorem ps_forN {X : Cx} {k : Nat} {x : Str} {px pos : Pos} {iter : Expr} {body : List Stmt} {tg : TGN} {g : TG} {tb : TS} (hxe : X.xe = fun _ _ => False) (hc : X.calm = true) (hr : Room (k + 1) X.A) (hi : PGn X k iter tg) (hg : PG X (.Name x px) g) (hb : PSs X body tb)
    (hs : ∀ y, foldedSetIterable iter X.env y = pure y := by intro _; rfl) : PS X (.For (.Name x px) iter body [] pos) (tForN tg g tb) := by
  refine ⟨fun pins s σ H D I h => ?_⟩
  rw [hxe]
  have hi1 := hi.run X.A.in1 pins s σ H _ hr.in1 I.ok.frames I h
  rw [hxe] at hi1
  refine wpAny_For (thn hi1 ?_) hs
  rintro u s1 ⟨S, a, go, gn, rem, fp, c, H1, rfl, hA, I1, hs1, _, _, Pv, p0, pst, pend⟩
  refine wpAny_pyIter_gen (hs1.obj.at (I1.pin (a, go) (List.mem_append_right _ (List.mem_append_right _ List.mem_cons_self))).1) ?_
  refine codeAny_forLoop_any (fun n s' => ∃ i fp gv gs σ' H', i ≤ rem.length ∧ n = rem.length - i ∧ Inv X (fp ++ (a, go) :: pins) σ' H' s' ∧ Has X pins S a go gn (rem.drop i) fp gv gs s' ∧ Pv i σ' H') ?_ rem.length ⟨0, fp, [], _, σ, H1, Nat.zero_le _, rfl, I1, by rw [List.drop_zero]; exact hs1, p0⟩
  rintro n s2 ⟨i, fp2, gv2, gs2, σ2, H2, hi2, rfl, I2, hs2, p2⟩
  refine next_has hs2 I2 hA (I2.ok.hd hc) hr.depth (fun e s3 I3 _ _ _ => ?_) (fun y rm e s3 v fp3 gv3 gs3 I3 hs3 rv hz _ _ _ _ _ => ?_)
  · refine wpAny_execs_nil ?_
    have hlen : i = rem.length := by
      have := congrArg List.length e
      rw [List.length_drop] at this
      simp at this
      omega
    rw [hlen] at p2
    exact ⟨σ2, H2, I3.pins_of fun p hp => I3.pin p (List.mem_append_right _ (List.mem_cons_of_mem _ hp)), pend σ2 H2 p2⟩
  · have hx : rem[i]? = some y := by
      have := congrArg (fun l : List V => l[0]?) e
      simp at this
      exact this
    have hlt : i < rem.length := (List.getElem?_eq_some_iff.mp hx).1
    have hrm : rm = rem.drop (i + 1) := by
      have := congrArg List.tail e
      simp at this
      exact this.symm
    subst hrm
    refine wpAny_pure ?_
    have h4 := any_left (hg.run _ { s3 with gens := veil s3.gens } σ2 H2 y v _ (inv_gens I3 (veil_bare I3.bare)) rv (pst i y σ2 H2 hx p2))
    rw [hxe] at h4
    refine wpAny_mono h4 ?_ (fun _ _ ⟨_, _, z, _⟩ => z.elim)
    rintro _ s4 ⟨l4, s4', ⟨σ4, H4, I4, q4⟩, e4, b4, _⟩
    have J4 : Inv X (fp3 ++ (a, go) :: pins) σ4 H4 s4 := by
      rw [e4]
      exact inv_gens I4 (b4 I4.bare)
    have hs4 := hs3.left hz l4
    have h5 := any_left (hb.run _ { s4 with gens := veil s4.gens } σ4 H4 _ (inv_gens J4 (veil_bare J4.bare)) q4)
    rw [hxe] at h5
    refine wpAny_mono h5 ?_ (fun _ _ ⟨_, _, z, _⟩ => z.elim)
    rintro fl s5 ⟨l5, s5', q5, e5, b5, _⟩
    have hs5 := hs4.left hz l5
    have q6 : SP X (fp3 ++ (a, go) :: pins) { D with nx := Pv (i + 1), ct := Pv (i + 1), bk := D.nx } fl s5 := by
      rw [e5]
      exact sp_gens q5 b5
    have out : ∀ {σ' : L2.St} {H' : Hp}, Inv X (fp3 ++ (a, go) :: pins) σ' H' s5 → Inv X pins σ' H' s5 := fun J => J.pins_of fun p hp => J.pin p (List.mem_append_right _ (List.mem_append_right _ (List.mem_cons_of_mem _ hp)))
    cases fl with
    | next => obtain ⟨σ5, H5, I5, p5⟩ := q6; exact ⟨_, by omega, i + 1, fp3, gv3, gs3, σ5, H5, hlt, rfl, I5, hs5, p5⟩
    | cont => obtain ⟨σ5, H5, I5, p5⟩ := q6; exact ⟨_, by omega, i + 1, fp3, gv3, gs3, σ5, H5, hlt, rfl, I5, hs5, p5⟩
    | brk => obtain ⟨σ5, H5, I5, p5⟩ := q6; exact ⟨σ5, H5, out I5, p5⟩
    | ret v => obtain ⟨v5, σ5, H5, I5, r5, p5⟩ := q6; exact ⟨v5, σ5, H5, out I5, r5, p5⟩
end Gw
set_option Elab.async false
set_option linter.all false
set_option maxRecDepth 100000
set_option maxHeartbeats 1000000
namespace Gw
open PySem PySem.Spec PyProof.Rows L2 GenW
/-- a code that wakes no sleeper, in any context -/
theorem run_left {Y : Cx} {α : Type} {m : Sem α} {pins : List (Addr × Obj)} {σ : L2.St} {H : Hp} {s : Shared} {R : α → Shared → Prop} {E : Value → Shared → Prop} (I : Inv Y pins σ H s) (h : ∀ s1, Inv Y pins σ H s1 → wpAny (model Y.prog Y.w) Y.A m R (fun _ _ => False) s1)
    (st : ∀ a s1 (g : Array GenState), (AllBare s1.gens → AllBare g) → R a s1 → R a { s1 with gens := g }) : wpAny (model Y.prog Y.w) Y.A m (fun a s' => Left s s' ∧ R a s') E s := by
  refine wpAny_mono (any_left (h { s with gens := veil s.gens } (inv_gens I (veil_bare I.bare)))) ?_ (fun _ _ ⟨_, _, z, _⟩ => z.elim)
  rintro a s' ⟨l, s1, q, e, b, _⟩
  refine ⟨l, ?_⟩
  rw [e]
  exact st a s1 _ b q
section
variable {X : Cx}
/-- [elt for target in g] of a generator: Pv by the turn and the heap, the new list at D within -/
def tLcN (tg : TGN) (g : TG) (te : TE) (vs : List Nat) : TE := fun σ H Q => tg σ H fun rem H1 => ∀ D, H1 D = none → ∃ Pv : Nat → Hp → Prop, Pv 0 (upd H1 D (.lst [])) ∧
  (∀ i x H2, rem[i]? = some x → Pv i H2 → g x (wipe σ vs) H2 fun σ3 H3 => wipe σ3 vs = wipe σ vs ∧ te σ3 H3 fun y H4 => ∃ ac, H4 D = some (.lst ac) ∧ ac.length < sizeLine ∧ Pv (i + 1) (upd H4 D (.lst (ac ++ [y])))) ∧ ∀ H2, Pv rem.length H2 → Q (.ref D) H2
theorem lcN_core {pins : List (Addr × Obj)} {s : Shared} {σ : L2.St} {H : Hp} {Q : VK} {k : Nat} {elt iter : Expr} {x : Str} {px : Pos} {scope : Scope} {own : List (Str × Nat)} {pos pos' : Pos} {tg : TGN} {g : TG} {te : TE} {use : Option (Value → Sem Unit)} {Qf : Value → Shared → Prop}
    (hxe : X.xe = fun _ _ => False) (hc : X.calm = true) (hr : Room (k + 1) X.A) (hN : X.N.Nodup) (I : Inv X pins σ H s) (hi : PGn X k iter tg) (ok : BlkOk X.N X.env.scope scope own)
    (hg : ∀ (s : Shared) (H : Hp) (C : Addr) (cl : List (Str × Addr)) (fp : List Addr), PG (X.blk s H scope (compEnvC scope cl C X.env) fp) (.Name x px) g) (he : ∀ (s : Shared) (H : Hp) (C : Addr) (cl : List (Str × Addr)) (fp : List Addr), PE (X.blk s H scope (compEnvC scope cl C X.env) fp) elt te)
    (hs : ∀ y, foldedSetIterable iter X.env y = pure y) (h : tLcN tg g te (own.map (·.2)) σ H Q)
    (hRR : ∀ D C s' m H', Inv X pins σ H' s' → Q (.ref D) H' → s'.heap.Ns C m → FpOk X pins H' C → compPost (model X.prog X.w) X.A (fun _ _ => False) use Qf (.ref D) C (.ok .next) s') :
    wpAny (model X.prog X.w) X.A (comprehension (.ListComp elt [⟨.Name x px, iter, [], 0⟩] scope pos) scope X.env pos' (newList []) false (eval iter X.env) use) Qf (fun _ _ => False) s := by
  have hfree : ∀ y ∈ scope.names, y.2 = .free → ∃ c, X.env.cells.lookup y.1 = some c := fun y hy e => (ok.free y hy e).elim (fun z => I.ok.has _ (.inl z)) fun z => I.ok.has _ (.inr z)
  have hi1 := hi.run X.A.in1 pins s σ H _ hr.in1 I.ok.frames I h
  rw [hxe] at hi1
  refine wpAny_comprehension_free (use := use) rfl hs (closure_ok hfree) ok.kind (fun y hy e => by rw [ok.uniq y hy, e]) (thn hi1 ?_)
  rintro u s1 ⟨S, a, go, gn, rem, fp, c, H1, rfl, hA, I1, hs1, _, hsz, q⟩
  have pa := I1.pin (a, go) (List.mem_append_right _ (List.mem_append_right _ List.mem_cons_self))
  refine wpAny_pyIter_gen (hs1.obj.at pa.1) ?_
  refine wpAny_newObj_type (newEnv_comp ?_) (by show 0 ≤ sizeLine; decide)
  generalize hD : s1.heap.objs.size = D
  obtain ⟨Pv, p0, pst, pend⟩ := q D (I1.hok.fresh (Nat.le_of_eq hD))
  generalize hs3 : ({ s1 with heap := s1.heap.push { cls := .type "list", data := .seq ([] : List Value).toArray } } : Shared) = s3
  have h3 : s3.heap = s1.heap.push { cls := .type "list", data := .seq ([] : List Value).toArray } := by rw [← hs3]
  have g3 : s3.gens = s1.gens := by rw [← hs3]
  have I3 : Inv X (fp ++ (a, go) :: pins) σ (upd H1 D (.lst [])) s3 := by
    rw [← hs3]
    refine I1.laid (t' := s1.toks) (fun b o e => Heap.get?_push_of_some _ e) (Nat.le_of_eq hD) ⟨Nat.zero_le _, [], 0, .nil, ?_⟩
    rw [← hD]
    exact Heap.get?_push_size _ rfl
  have I3' : Inv X pins σ (upd H1 D (.lst [])) s3 := I3.pins_of fun p hp => I3.pin p (List.mem_append_right _ (List.mem_append_right _ (List.mem_cons_of_mem _ hp)))
  -- the generator's own objects, seen from the def
  have cellNo : ∀ p : Addr × Obj, s3.heap.get? p.1 = some p.2 → (∀ v, p.2.data ≠ .cell v) → ∀ y d, X.env.cells.lookup y = some d → d ≠ p.1 := fun p h1 h2 y d hy e => by
    obtain ⟨v, o, ho, hd⟩ := I3.cell y d hy
    rw [e, h1] at ho
    injection ho with ho
    rw [← ho] at hd
    exact h2 v hd
  have fok : ∀ b ∈ a :: fp.map (·.1), FpOk X pins (upd H1 D (.lst [])) b ∧ b < s3.heap.objs.size := fun b hb => by
    rcases List.mem_cons.mp hb with rfl | hb
    · obtain ⟨q1, q2, q3, q4, q5⟩ := I3.pin (b, go) (List.mem_append_right _ (List.mem_append_right _ List.mem_cons_self))
      refine ⟨⟨q2, q3, q4, .inr (Nat.le_trans I.sz (Nat.le_trans hsz (Nat.le_of_lt hs1.lt))), cellNo (b, go) q1 q5, fun q hq => ?_⟩, Heap.lt_size q1⟩
      exact Nat.ne_of_lt (Nat.lt_of_lt_of_le (Heap.lt_size (I.pin q hq).1) (Nat.le_trans hsz (Nat.le_of_lt hs1.lt)))
    · obtain ⟨p, hp, rfl⟩ := List.mem_map.mp hb
      obtain ⟨q1, q2, q3, q4, q5⟩ := I3.pin p (List.mem_append_right _ (List.mem_append_left _ hp))
      refine ⟨⟨q2, q3, q4, hs1.yo p hp, cellNo p q1 q5, fun q hq => hs1.dis p hp q ?_⟩, Heap.lt_size q1⟩
      rcases List.mem_append.mp hq with z | z
      · exact List.mem_append_left _ z
      · exact List.mem_append_right _ (List.mem_cons_of_mem _ z)
  have I4 := block_start I3' ok hN fok
  have pg := hg s3 (upd H1 D (.lst [])) s3.heap.objs.size (cellsFrom (s3.heap.objs.size + 1) scope.names (cloFrom X.env.cells scope.names [])) (a :: fp.map (·.1))
  have pe := he s3 (upd H1 D (.lst [])) s3.heap.objs.size (cellsFrom (s3.heap.objs.size + 1) scope.names (cloFrom X.env.cells scope.names [])) (a :: fp.map (·.1))
  show codeAny _ _ (.compStart _ 0 (.ref a) (.ref D) (compEnvC scope (cellsFrom (s3.heap.objs.size + 1) scope.names (cloFrom X.env.cells scope.names [])) s3.heap.objs.size X.env)) (compPost (model X.prog X.w) X.A (fun _ _ => False) use Qf (.ref D) s3.heap.objs.size) { s3 with heap := pushCells (s3.heap.push { cls := .type "dict", data := .dict #[] }) scope.names }
  generalize hce : compEnvC scope (cellsFrom (s3.heap.objs.size + 1) scope.names (cloFrom X.env.cells scope.names [])) s3.heap.objs.size X.env = ce at I4 pg pe ⊢
  have cL : ce.locals = s3.heap.objs.size := by subst hce; rfl
  generalize hs4 : ({ s3 with heap := pushCells (s3.heap.push { cls := .type "dict", data := .dict #[] }) scope.names } : Shared) = s4 at I4 ⊢
  have kp4 : ∀ b o, s3.heap.get? b = some o → s4.heap.get? b = some o := fun b o e => by
    rw [← hs4]
    exact pushCells_keeps _ _ _ _ (Heap.get?_push_of_some _ e)
  have g4 : s4.gens = s1.gens := by rw [← hs4]; exact g3
  have pin4 : ∀ p : Addr × Obj, (s3.heap.get? p.1 = some p.2 ∧ upd H1 D (.lst []) p.1 = none ∧ p.1 ≠ X.env.locals ∧ p.1 ∉ X.fs ∧ ∀ v, p.2.data ≠ .cell v) → s4.heap.get? p.1 = some p.2 ∧ upd H1 D (.lst []) p.1 = none ∧ p.1 ≠ ce.locals ∧ p.1 ∉ frs X.stack ∧ ∀ v, p.2.data ≠ .cell v := fun p ⟨q1, q2, q3, q4, q5⟩ => by
    refine ⟨kp4 _ _ q1, q2, ?_, fun z => ?_, q5⟩
    · rw [cL]
      exact Nat.ne_of_lt (Heap.lt_size q1)
    · rcases List.mem_cons.mp (I3.stkSub p.1 z) with e | e
      · exact q3 e
      · exact q4 e
  generalize hXb : X.blk s3 (upd H1 D (.lst [])) scope ce (a :: fp.map (·.1)) = Xb at I4 pg pe
  have eP : Xb.prog = X.prog := by rw [← hXb]
  have ew : Xb.w = X.w := by rw [← hXb]
  have eA : Xb.A = X.A := by rw [← hXb]
  have eb : Xb.base = X.base := by rw [← hXb]
  have est : Xb.stack = X.stack := by rw [← hXb]
  have epn : Xb.pn = [] := by rw [← hXb]
  have eex : Xb.ex = a :: fp.map (·.1) := by rw [← hXb]
  have ecal : Xb.calm = true := by rw [← hXb]; exact hc
  have exe : Xb.xe = fun _ _ => False := by rw [← hXb]
  have eenv : Xb.env = ce := by rw [← hXb]
  have efs : Xb.fs = frs X.stack := by rw [← hXb]
  have I5 : Inv Xb (fp ++ [(a, go)]) (wipe σ (own.map (·.2))) (upd H1 D (.lst [])) s4 := by
    refine I4.pins_of fun p hp => ?_
    rw [eenv, efs]
    rcases List.mem_append.mp hp with z | z
    · exact pin4 p (I3.pin p (List.mem_append_right _ (List.mem_append_left _ z)))
    · rw [List.mem_singleton.mp z]
      exact pin4 (a, go) (I3.pin (a, go) (List.mem_append_right _ (List.mem_append_right _ List.mem_cons_self)))
  have hs5 : Has Xb [] S a go gn rem fp [] (.fresh c) s4 := by
    refine ⟨⟨by rw [eP]; exact hs1.st.P, by rw [ew]; exact hs1.st.w, by rw [eb]; exact hs1.st.base, by rw [est]; exact hs1.st.outer⟩, hs1.obj, hs1.lt, fun p hp q hq => ?_, hs1.ge, fun p hp => ?_, by rw [g4]; exact hs1.gat, (fun q hq => nomatch hq), hs1.can⟩
    · rw [epn] at hq
      have e : q = (a, go) := by simpa using hq
      rw [e]
      exact hs1.dis p hp (a, go) (List.mem_append_right _ List.mem_cons_self)
    · rw [eex]
      exact .inl (List.mem_cons_of_mem _ (List.mem_map.mpr ⟨p, hp, rfl⟩))
  have loop : codeAny (model X.prog X.w) X.A (.compLoop (.ListComp elt [⟨.Name x px, iter, [], 0⟩] scope pos) 0 (.ref a) (.ref D) ce) (compPost (model X.prog X.w) X.A (fun _ _ => False) use Qf (.ref D) s3.heap.objs.size) s4 := by
    refine compLoop_any (fun n s' => ∃ i fp2 gv2 gs2 H2, i ≤ rem.length ∧ n = rem.length - i ∧ Inv Xb (fp2 ++ [(a, go)]) (wipe σ (own.map (·.2))) H2 s' ∧ Has Xb [] S a go gn (rem.drop i) fp2 gv2 gs2 s' ∧ Pv i H2) ?_ rem.length ⟨0, fp, [], _, _, Nat.zero_le _, rfl, I5, by rw [List.drop_zero]; exact hs5, p0⟩
    rintro n s6 ⟨i, fp6, gv6, gs6, H6, hi6, rfl, I6, hs6, p6⟩
    rw [← eP, ← ew, ← eA]
    refine next_has hs6 I6 (by rw [eA]; exact hA) (I6.ok.hd ecal) (by rw [eA]; exact hr.depth) (fun e s7 I7 _ _ _ => ?_) (fun y rm e s7 v fp7 gv7 gs7 I7 hs7 rv hz _ _ _ _ _ => ?_)
    · have hlen : i = rem.length := by
        have := congrArg List.length e
        rw [List.length_drop] at this
        simp at this
        omega
      rw [hlen] at p6
      have I8 : Inv X pins σ H6 s7 := I3'.call' (ch := a :: fp.map (·.1)) (by have z := I7.os; rw [← hXb] at z; exact z) (by have z := I7.base; rw [← hXb] at z; exact z) (by have z := I7.hok; rw [eP, ew] at z; exact z) I7.bare fun b hb => ⟨(fok b hb).1.2.2.2.1, (fok b hb).1.2.1, (fok b hb).1.2.2.2.2.1, (fok b hb).1.2.2.2.2.2⟩
      have nC : H6 s3.heap.objs.size = none := by
        have z := I7.free
        rw [eenv, cL] at z
        exact z
      obtain ⟨m, hn, _⟩ := I7.loc
      rw [eenv, cL] at hn
      show compPost (model Xb.prog Xb.w) Xb.A (fun _ _ => False) use Qf (.ref D) s3.heap.objs.size (.ok .next) s7
      rw [eP, ew, eA]
      exact hRR D s3.heap.objs.size s7 m H6 I8 (pend H6 p6) hn (I3'.fpOk (Nat.le_refl _) nC)
    · have hx : rem[i]? = some y := by
        have := congrArg (fun l : List V => l[0]?) e
        simp at this
        exact this
      have hlt : i < rem.length := (List.getElem?_eq_some_iff.mp hx).1
      have hrm : rm = rem.drop (i + 1) := by
        have := congrArg List.tail e
        simp at this
        exact this.symm
      subst hrm
      refine wpAny_pure ?_
      rw [← eenv]
      have r8 := fun s1 I1 => pg.run (fp7 ++ [(a, go)]) s1 _ H6 y v _ I1 rv (pst i y H6 hx p6)
      rw [exe] at r8
      refine wpAny_mono (run_left I7 r8 fun _ s1 g hb ⟨σ', H', J, q⟩ => ⟨σ', H', inv_gens J (hb J.bare), q⟩) ?_ (fun _ _ z => z)
      rintro _ s8 ⟨l8, σ8, H8, I8, hw8, q8⟩
      have hs8 := hs7.left hz l8
      refine wpAny_tests_nil ?_
      rw [if_pos rfl]
      have r9 := fun s1 I1 => pe.run (fp7 ++ [(a, go)]) s1 σ8 H8 _ I1 q8
      rw [exe] at r9
      refine wpAny_mono (run_left I8 r9 fun _ s1 g hb ⟨z, H', J, rr, q⟩ => ⟨z, H', inv_gens J (hb J.bare), rr, q⟩) ?_ (fun _ _ z => z)
      rintro w9 s9 ⟨l9, z9, H9, I9, rv9, ac, hD9, hac, p9⟩
      have hs9 := hs8.left hz l9
      refine wpAny_mono (run_left (R := fun _ s' => Inv Xb (fp7 ++ [(a, go)]) σ8 (upd H9 D (.lst (ac ++ [z9]))) s') I9 (fun s1 I1 => app_ok I1 hD9 hac rv9 fun s' J => J) fun _ s1 g hb J => inv_gens J (hb J.bare)) ?_ (fun _ _ z => z)
      rintro _ s10 ⟨l10, I10⟩
      have hs10 := hs9.left hz l10
      have hl : (wipe σ (own.map (·.2))).length = σ8.length := by rw [← hw8, wipe_length]
      refine ⟨_, by omega, i + 1, fp7, gv7, gs7, _, hlt, rfl, I10.weak hl (fun j vv ee => ?_), hs10, p9⟩
      rw [← hw8] at ee
      exact (wipe_some ee).1
  exact codeAny_compStart_list loop (wpAny_pyIter_gen (hs5.obj.at (I5.pin (a, go) (List.mem_append_right _ (List.mem_append_right _ List.mem_cons_self))).1) loop)
/-- name = [..] on one line, the name a local -/
theorem ps_setLcN {i k : Nat} {y x : Str} {py px : Pos} {elt iter : Expr} {scope : Scope} {own : List (Str × Nat)} {pos spos : Pos} {tg : TGN} {g : TG} {te : TE} (hxe : X.xe = fun _ _ => False) (hc : X.calm = true) (hr : Room (k + 1) X.A) (hN : X.N.Nodup) (hy : X.N[i]? = some y) (hyl : X.env.scope.names.lookup y = some .local)
    (hsw : swapsWith (.ListComp elt [⟨.Name x px, iter, [], 0⟩] scope pos) (some (.Name y py)) spos.line X.env = pure true) (hi : PGn X k iter tg) (ok : BlkOk X.N X.env.scope scope own)
    (hg : ∀ (s : Shared) (H : Hp) (C : Addr) (cl : List (Str × Addr)) (fp : List Addr), PG (X.blk s H scope (compEnvC scope cl C X.env) fp) (.Name x px) g) (he : ∀ (s : Shared) (H : Hp) (C : Addr) (cl : List (Str × Addr)) (fp : List Addr), PE (X.blk s H scope (compEnvC scope cl C X.env) fp) elt te)
    (hs : ∀ z, foldedSetIterable iter X.env z = pure z := by intro _; rfl) :
    PS X (.Assign [.Name y py] (.ListComp elt [⟨.Name x px, iter, [], 0⟩] scope pos) spos) (tAsg (tLcN tg g te (own.map (·.2))) (gName i)) := by
  refine ⟨fun pins s σ H D I h => ?_⟩
  rw [hxe, exec_Assign_Name_used _ _ _ _ hsw]
  refine wpAny_bind (wpAny_standAt (wpAny_bind ?_))
  show wpAny _ X.A (do let _ ← comprehension (.ListComp elt [⟨.Name x px, iter, [], 0⟩] scope pos) scope X.env (firstIterPos [⟨.Name x px, iter, [], 0⟩] pos) (newList []) false (eval iter X.env) (some (assign (.Name y py) X.env))) _ _ s
  have h : tLcN tg g te (own.map (·.2)) σ H (fun v H1 => gName i v σ H1 D.nx) := h
  refine wpAny_bind (thn (lcN_core (Qf := fun _ s' => SP X pins D .next s') hxe hc hr hN I hi ok hg he hs h fun L C s' m H' J q hn f => ?_) fun _ s' hq => wpAny_pure (wpAny_pure hq))
  show wpAny _ _ (assign (.Name y py) X.env (.ref L)) _ _ _
  obtain ⟨f0, f1, f2, f3, f4, f5⟩ := f
  refine wpAny_assign_Name (store_ok2 (v := V.ref L) J hN hy (.inl hyl) rfl (fun s2 I2 ⟨d, sb, hd⟩ => ?_) (.inr hyl))
  have hne : C ≠ d := hd.elim (fun z => by rw [z]; exact f1) fun z e => f4 y d z e.symm
  exact ⟨m, hn.sameBut sb hne, fun h3 sb3 => ⟨_, H', I2.turned (t' := s2.toks) (fun b o hb e => (sb3.2 b hb).trans e) f0 f1 f3 f4 f5, q⟩⟩
end
end Gw
set_option Elab.async false
set_option linter.all false
set_option maxRecDepth 100000
set_option maxHeartbeats 1000000
namespace Gw
open PySem PySem.Spec PyProof.Rows L2 GenW
/-- a thing of ours is tracked from now on -/
theorem inv_track {X : Cx} {pins : List (Addr × Obj)} {σ : L2.St} {H : Hp} {s : Shared} {D : Addr} {o : HO} (I : Inv X pins σ H s) (hn : H D = none) (h1 : D ≠ X.env.locals) (h2 : ∀ x c, X.env.cells.lookup x = some c → c ≠ D) (h3 : ∀ p ∈ X.pn ++ pins, p.1 ≠ D) (h4 : X.s_0.heap.objs.size ≤ D)
    (new : ObjOk X.prog X.w (upd H D o) s.heap D o) : Inv X pins σ (upd H D o) s := by
  have ne : ∀ b u, H b = some u → b ≠ D := fun b u e => ne_of_none e hn
  refine ⟨I.ok, I.os, I.bare, ⟨I.base.keep, I.base.slot, fun b ob e n hx => ?_, I.base.there, fun b xs e => ?_, fun b ob u e => ?_, fun b ps e => ?_⟩, I.loc, I.cell, ?_, fun x c e => ?_, fun p hp => ?_, fun b u e => ?_, I.len⟩
  · rw [upd_ne (Nat.ne_of_lt (Nat.lt_of_lt_of_le (Heap.lt_size e) h4))]
    exact I.base.free b ob e n hx
  · have q := I.base.tups b xs e
    rw [upd_ne (ne b _ q)]
    exact q
  · have q := I.base.frzs b ob u e
    rw [upd_ne (ne b _ q)]
    exact q
  · obtain ⟨m, q⟩ := I.base.tbls b ps e
    exact ⟨m, by rw [upd_ne (ne b _ q)]; exact q⟩
  · rw [upd_ne (Ne.symm h1)]
    exact I.free
  · rw [upd_ne (h2 x c e)]
    exact I.freeC x c e
  · obtain ⟨q1, q2, q3⟩ := I.pin p hp
    exact ⟨q1, by rw [upd_ne (h3 p hp)]; exact q2, q3⟩
  · by_cases hb : b = D
    · subst hb
      rw [upd_same] at e
      injection e with e
      rw [← e]
      exact new
    · rw [upd_ne hb] at e
      exact (I.hok b u e).stay (fun _ _ _ q => q) (fun d q => by rw [upd_ne (ne d _ q)]; exact q) fun d xs q => by rw [upd_ne (ne d _ q)]; exact q
section
variable {X : Cx} {pins : List (Addr × Obj)} {σ : L2.St} {H : Hp} {S : Site} {a D : Addr} {go : Obj} {gn : Nat} {rem : List V}
/-- another object stands at D -/
theorem Has.at {fp : List (Addr × Obj)} {gv : List (Nat × GenState)} {gs : GenState} {s s' : Shared} {o o' : Obj} {rm : List V} (h : Has X ((D, o) :: pins) S a go gn rm fp gv gs s) (e : s'.gens = s.gens) : Has X ((D, o') :: pins) S a go gn rm fp gv gs s' := by
  refine ⟨h.st, h.obj, h.lt, fun p hp q hq => ?_, h.ge, h.yo, by rw [e]; exact h.gat, fun q hq => by rw [e]; exact h.gne q hq, h.can⟩
  rcases List.mem_append.mp hq with z | z
  · exact h.dis p hp q (List.mem_append_left _ z)
  · rcases List.mem_cons.mp z with z | z
    · exact h.dis p hp q (List.mem_append_right _ (by rw [z]; exact List.mem_cons_self))
    · rcases List.mem_cons.mp z with z | z
      · rw [z]
        exact h.dis p hp (D, o) (List.mem_append_right _ (List.mem_cons_of_mem _ List.mem_cons_self))
      · exact h.dis p hp q (List.mem_append_right _ (List.mem_cons_of_mem _ (List.mem_cons_of_mem _ z)))
/-- the list at D is filled -/
theorem drainN {A : Around} {R : Result → Shared → Prop} {res : Value} (hA : S.A = A.in1.in1) (hh : A.handled = none) (hroom : A.depth < recursionLimit) (hDa : D ≠ a) (hrem : rem.length ≤ sizeLine)
    (hD : D ≠ X.env.locals ∧ (∀ x c, X.env.cells.lookup x = some c → c ≠ D) ∧ (∀ p ∈ X.pn ++ pins, p.1 ≠ D) ∧ X.s_0.heap.objs.size ≤ D)
    (hend : ∀ s' acc c, Inv X ((D, lstObj acc c) :: pins) σ H s' → Vals rem acc.toList → R (.ok (.ret res)) s') : ∀ (m i : Nat) (s : Shared) (acc : Array Value) (c : Nat) (fp : List (Addr × Obj)) (gv : List (Nat × GenState)) (gs : GenState), i + m = rem.length → Inv X (fp ++ (a, go) :: (D, lstObj acc c) :: pins) σ H s →
      Has X ((D, lstObj acc c) :: pins) S a go gn (rem.drop i) fp gv gs s → Vals (rem.take i) acc.toList → codeAny (model X.prog X.w) A (.builtin "list.extend.loop" ⟨[.ref D, .ref a, res], []⟩) R s := by
  intro m
  induction m with
  | zero =>
    intro i s acc c fp gv gs hi I hs r
    refine codeAny_builtin F.entry_extend_loop ?_
    rw [Around.under_plainId F.plain_extend_loop _]
    show wpAny _ A.in1 (pyNext (.ref a) >>= _) _ _ s
    have ei : i = rem.length := by omega
    refine wpAny_bind (next_has hs I hA hh hroom (fun e s2 I2 _ _ _ => ?_) (fun x rm e => ?_))
    · refine wpAny_pure (hend s2 acc c (I2.pins_of fun p hp => I2.pin p (List.mem_append_right _ (List.mem_cons_of_mem _ hp))) ?_)
      rw [ei, List.take_length] at r
      exact r
    · rw [ei, List.drop_length] at e
      cases e
  | succ m ih =>
    intro i s acc c fp gv gs hi I hs r
    refine codeAny_builtin F.entry_extend_loop ?_
    rw [Around.under_plainId F.plain_extend_loop _]
    show wpAny _ A.in1 (pyNext (.ref a) >>= _) _ _ s
    have hlt : i < rem.length := by omega
    refine wpAny_bind (next_has hs I hA hh hroom (fun e => ?_) (fun x rm e s2 v fp2 gv2 gs2 I2 hs2 rv hz _ _ _ _ _ => ?_))
    · have := congrArg List.length e
      rw [List.length_drop] at this
      simp at this
      omega
    · have hx : rem[i]? = some x := by
        have := congrArg (fun l : List V => l[0]?) e
        simp at this
        exact this
      have hrm : rm = rem.drop (i + 1) := by
        have := congrArg List.tail e
        simp at this
        exact this.symm
      subst hrm
      have pD := I2.pin (D, lstObj acc c) (List.mem_append_right _ (List.mem_append_right _ (List.mem_cons_of_mem _ List.mem_cons_self)))
      have hal : acc.size = i := by
        have e1 := r.length
        rw [List.length_take] at e1
        simp at e1
        omega
      show wpAny _ A.in1 (updateSeq D (·.push v) >>= _) _ _ _
      refine wpAny_bind (wpAny_updateSeq pD.1 rfl (wpAny_pure ⟨plainId_quiet F.plain_extend_loop _, ?_⟩) (by omega) (by show (acc.push v).size ≤ sizeLine + 1; rw [Array.size_push]; omega))
      have oth : ∀ b o, b ≠ D → s2.heap.get? b = some o → (s2.heap.update D (Obj.mapSeq (·.push v))).get? b = some o := fun b o hb e => (Heap.get?_update_other _ _ (Ne.symm hb)).trans e
      have I2' : Inv X (fp2 ++ (a, go) :: pins) σ H s2 := I2.pins_of fun p hp => I2.pin p (by
        refine List.mem_append_right _ ?_
        rcases List.mem_append.mp hp with z | z
        · exact List.mem_append_left _ z
        · rcases List.mem_cons.mp z with z | z
          · exact List.mem_append_right _ (by rw [z]; exact List.mem_cons_self)
          · exact List.mem_append_right _ (List.mem_cons_of_mem _ (List.mem_cons_of_mem _ z)))
      have I3 : Inv X (fp2 ++ (a, go) :: pins) σ H { s2 with heap := s2.heap.update D (Obj.mapSeq (·.push v)) } := by
        refine I2'.turned (t' := s2.toks) (it := D) oth pD.2.1 hD.1 (.inr hD.2.2.2) hD.2.1 fun p hp => ?_
        rcases List.mem_append.mp hp with z | z
        · exact hD.2.2.1 p (List.mem_append_left _ z)
        · rcases List.mem_append.mp z with z | z
          · exact fun e => hs2.dis p z (D, lstObj acc c) (List.mem_append_right _ (List.mem_cons_of_mem _ List.mem_cons_self)) e.symm
          · rcases List.mem_cons.mp z with z | z
            · rw [z]
              exact Ne.symm hDa
            · exact hD.2.2.1 p (List.mem_append_right _ z)
      obtain ⟨c2, new⟩ : ∃ c2, (s2.heap.update D (Obj.mapSeq (·.push v))).get? D = some (lstObj (acc.push v) c2) := ⟨_, Heap.get?_update_self _ pD.1 rfl⟩
      have I4 : Inv X (fp2 ++ (a, go) :: (D, lstObj (acc.push v) c2) :: pins) σ H { s2 with heap := s2.heap.update D (Obj.mapSeq (·.push v)) } := by
        refine I3.pins_of fun p hp => ?_
        rcases List.mem_append.mp hp with z | z
        · exact I3.pin p (List.mem_append_right _ (List.mem_append_left _ z))
        · rcases List.mem_cons.mp z with z | z
          · exact I3.pin p (List.mem_append_right _ (List.mem_append_right _ (by rw [z]; exact List.mem_cons_self)))
          · rcases List.mem_cons.mp z with z | z
            · rw [z]
              exact ⟨new, pD.2.1, pD.2.2.1, pD.2.2.2.1, fun v z => by cases z⟩
            · exact I3.pin p (List.mem_append_right _ (List.mem_append_right _ (List.mem_cons_of_mem _ z)))
      refine ih (i + 1) _ (acc.push v) _ fp2 gv2 gs2 (by omega) I4 (hs2.at rfl) ?_
      rw [List.take_add_one, hx, Array.toList_push]
      exact r.append (.cons rv .nil)
/-- list(g) of a generator that has not begun -/
theorem call_listN {fp : List (Addr × Obj)} {gs : GenState} {s : Shared} {Q' : Value → Shared → Prop} {E : Value → Shared → Prop} {k : Nat} (hr : Room (k + 3) X.A) (hc : X.calm = true) (hA : S.A = X.A.in1.in1.in1) (I : Inv X (fp ++ (a, go) :: pins) σ H s) (hs : Has X pins S a go gn rem fp [] gs s) (hrem : rem.length ≤ sizeLine)
    (hQ : ∀ D s', H D = none → Inv X pins σ (upd H D (.lst rem)) s' → Q' (.ref D) s') : wpAny (model X.prog X.w) X.A (call (.type "list") [.ref a]) Q' E s := by
  have pa := I.pin (a, go) (List.mem_append_right _ (List.mem_append_right _ List.mem_cons_self))
  have hg : s.heap.IsGen a gn := hs.obj.at pa.1
  have ha2 : a < s.heap.objs.size := Heap.lt_size pa.1
  generalize hD : s.heap.objs.size = D at ha2
  have hDa : D ≠ a := Nat.ne_of_gt ha2
  refine callType_codes (Q₁ := fun obj s₁ => obj = .ref D ∧ s₁ = { s with heap := s.heap.push { cls := .type "list", data := .seq #[] } }) F.called_list (F.typeCall_list_1 _) F.entry_list_init (code_list_new _ ⟨by rw [hD], rfl⟩) fun obj s₁ h₁ => ?_
  obtain ⟨rfl, rfl⟩ := h₁
  have hS : (s.heap.push { cls := .type "list", data := .seq #[] }).get? D = some { cls := .type "list", data := .seq #[] } := by rw [← hD]; exact Heap.get?_push_size _ rfl
  refine ⟨⟨_, hS, rfl⟩, F.args_list_init_2 _ _, ?_⟩
  show wpAny _ X.A.in1.in1 (do let old ← Builtin.List.listItems (.ref D); Builtin.List.listUpdate (.ref D) (fun _ => #[]); letGo old.toList.reverse; Builtin.List.listExtendWith (.ref D) (.ref a) .none) _ _ _
  refine wpAny_bind ?_
  unfold Builtin.List.listItems
  refine wpAny_bind (wpAny_seqItems hS rfl (wpAny_pure ?_))
  show wpAny _ X.A.in1.in1 (updateSeq D (fun _ => #[]) >>= fun _ => letGo (#[] : Array Value).toList.reverse >>= fun _ => Builtin.List.listExtendWith (.ref D) (.ref a) .none) _ _ _
  refine wpAny_bind (wpAny_updateSeq hS rfl ?_)
  have hS2 := Heap.get?_update_self (Obj.mapSeq (fun _ => (#[] : Array Value))) hS rfl
  refine wpAny_bind (wpAny_letGo ?_)
  unfold Builtin.List.listExtendWith
  have up : ∀ (h : Heap) (f : Obj → Obj), (∀ b o, s.heap.get? b = some o → h.get? b = some o) → ∀ b o, s.heap.get? b = some o → (h.update D f).get? b = some o := fun h f q b o e => (Heap.get?_update_other _ _ (by rw [← hD]; exact Ne.symm (Nat.ne_of_lt (Heap.lt_size e)))).trans (q b o e)
  have k1 : ∀ b o, s.heap.get? b = some o → (s.heap.push { cls := .type "list", data := .seq #[] }).get? b = some o := fun b o e => Heap.get?_push_of_some _ e
  have k2 := up _ (Obj.mapSeq (fun _ => (#[] : Array Value))) k1
  have gty : ∀ {h : Heap}, (∀ b o, s.heap.get? b = some o → h.get? b = some o) → h.IsGen a gn := fun {h} q => hg.keeps q
  refine wpAny_bind (wpAny_typeOf (Heap.IsGen.typeIs (s := { s with heap := _ }) (gty k2)) ?_)
  have h1 : Builtin.List.listSameRef (.ref D) (.ref a) = false := by simp [Builtin.List.listSameRef, hDa]
  have h2 : (Value.type "generator" == Value.type "list") = false := by decide
  have h3 : (Value.type "generator" == Value.type "tuple") = false := by decide
  simp only [h1, h2, h3, Bool.or_false, Bool.false_eq_true, if_false]
  refine wpAny_bind (wpAny_pyIter_gen (s := { s with heap := _ }) (gty k2) ?_)
  refine wpAny_bind (wpAny_holding ?_)
  unfold Builtin.List.listLengthHint
  refine wpAny_bind (wpAny_specialOf (Heap.IsGen.typeIs (s := { s with heap := _ }) (gty k2)) F.gen_no_len ?_)
  show wpAny _ X.A.in1.in1 (specialOf (Value.ref a) (Str.ofString "__length_hint__") >>= _) _ _ _
  refine wpAny_bind (wpAny_specialOf (Heap.IsGen.typeIs (s := { s with heap := _ }) (gty k2)) F.gen_no_hint ?_)
  refine wpAny_pure ?_
  show wpAny _ X.A.in1.in1 (rule "list.extend.makes-room" >>= fun _ => Builtin.List.listTouch (.ref D) >>= fun _ => again (.builtin "list.extend.loop" ⟨[.ref D, .ref a, .none], []⟩)) _ _ _
  refine wpAny_bind (wpAny_rule (wpAny_bind ?_))
  show wpAny _ X.A.in1.in1 (updateSeq D (·.push .none) >>= fun _ => updateSeq D (·.pop)) _ _ _
  refine wpAny_bind (wpAny_updateSeq hS2 rfl ?_)
  have hS3 := Heap.get?_update_self (Obj.mapSeq (·.push Value.none)) hS2 rfl
  refine wpAny_updateSeq (hz := by seq_fits) hS3 rfl ?_
  obtain ⟨c4, hS4⟩ : ∃ c4, ((((s.heap.push { cls := .type "list", data := .seq #[] }).update D (Obj.mapSeq (fun _ => (#[] : Array Value)))).update D (Obj.mapSeq (·.push Value.none))).update D (Obj.mapSeq (·.pop))).get? D = some (lstObj #[] c4) := ⟨_, Heap.get?_update_self (Obj.mapSeq (·.pop)) hS3 rfl⟩
  have k4 := up _ (Obj.mapSeq (·.pop)) (up _ (Obj.mapSeq (·.push Value.none)) k2)
  refine wpAny_pure ⟨plainId_quiet F.plain_extend_loop _, ?_⟩
  generalize (((s.heap.push { cls := .type "list", data := .seq #[] }).update D (Obj.mapSeq (fun _ => (#[] : Array Value)))).update D (Obj.mapSeq (·.push Value.none))).update D (Obj.mapSeq (·.pop)) = h4 at hS4 k4 ⊢
  have nD : H D = none := I.hok.fresh (Nat.le_of_eq hD)
  have J : Inv X (fp ++ (a, go) :: pins) σ H { s with heap := h4 } := I.kept (t' := s.toks) k4
  have lD : D ≠ X.env.locals := by rw [← hD]; exact Nat.ne_of_gt I.lt
  have fD : D ∉ X.fs := I.nofs (Nat.le_of_eq hD)
  have old : ∀ p ∈ X.pn ++ (fp ++ (a, go) :: pins), p.1 ≠ D := fun p hp => by rw [← hD]; exact Nat.ne_of_lt (Heap.lt_size (I.pin p hp).1)
  have J1 : Inv X (fp ++ (a, go) :: (D, lstObj #[] c4) :: pins) σ H { s with heap := h4 } := by
    refine J.pins_of fun p hp => ?_
    rcases List.mem_append.mp hp with z | z
    · exact J.pin p (List.mem_append_right _ (List.mem_append_left _ z))
    · rcases List.mem_cons.mp z with z | z
      · exact J.pin p (List.mem_append_right _ (List.mem_append_right _ (by rw [z]; exact List.mem_cons_self)))
      · rcases List.mem_cons.mp z with z | z
        · rw [z]
          exact ⟨hS4, nD, lD, fD, fun v z => by cases z⟩
        · exact J.pin p (List.mem_append_right _ (List.mem_append_right _ (List.mem_cons_of_mem _ z)))
  have hs1 : Has X ((D, lstObj #[] c4) :: pins) S a go gn rem fp [] gs { s with heap := h4 } := by
    refine ⟨hs.st, hs.obj, hs.lt, fun p hp q hq => ?_, hs.ge, hs.yo, hs.gat, (fun q hq => nomatch hq), hs.can⟩
    rcases List.mem_append.mp hq with z | z
    · exact hs.dis p hp q (List.mem_append_left _ z)
    · rcases List.mem_cons.mp z with z | z
      · exact hs.dis p hp q (List.mem_append_right _ (by rw [z]; exact List.mem_cons_self))
      · rcases List.mem_cons.mp z with z | z
        · rw [z]
          exact Ne.symm (old p (List.mem_append_right _ (List.mem_append_left _ hp)))
        · exact hs.dis p hp q (List.mem_append_right _ (List.mem_cons_of_mem _ z))
  refine drainN (X := X) (S := S) (A := X.A.in1) (rem := rem) (pins := pins) (σ := σ) (H := H) hA (I.ok.hd hc) (by have := hr.dp; show X.A.depth < _; omega) hDa hrem ⟨lD, fun x d hx e => ?_, fun p hp => ?_, by rw [← hD]; exact I.sz⟩ (fun s' acc c I' r => ⟨rfl, hQ D s' nD ?_⟩) rem.length 0 _ #[] c4 fp [] gs (Nat.zero_add _) J1 (by rw [List.drop_zero]; exact hs1) .nil
  · obtain ⟨v, o, ho, _⟩ := I.cell x d hx
    have := Heap.lt_size ho
    rw [e, ← hD] at this
    exact Nat.lt_irrefl _ this
  · refine old p ?_
    rcases List.mem_append.mp hp with z | z
    · exact List.mem_append_left _ z
    · exact List.mem_append_right _ (List.mem_append_right _ (List.mem_cons_of_mem _ z))
  · have pD := I'.pin (D, lstObj acc c) (List.mem_append_right _ List.mem_cons_self)
    have I0 : Inv X pins σ H s' := I'.pins_of fun p hp => I'.pin p (List.mem_append_right _ (List.mem_cons_of_mem _ hp))
    refine inv_track I0 nD lD (fun x d hx e => ?_) (fun p hp => ?_) (by rw [← hD]; exact I.sz) ⟨hrem, acc.toList, c, r, ?_⟩
    · obtain ⟨v, o, ho, hd⟩ := I'.cell x d hx
      rw [e, pD.1] at ho
      injection ho with ho
      rw [← ho] at hd
      cases hd
    · refine old p ?_
      rcases List.mem_append.mp hp with z | z
      · exact List.mem_append_left _ z
      · exact List.mem_append_right _ (List.mem_append_right _ (List.mem_cons_of_mem _ z))
    · rw [pD.1]
/-- list(g), as a value -/
def tListN (tg : TGN) : TE := fun σ H Q => tg σ H fun rem H1 => rem.length ≤ sizeLine ∧ ∀ D, H1 D = none → Q (.ref D) (upd H1 D (.lst rem))
theorem pe_listN {e : Expr} {tg : TGN} {k : Nat} {p pos : Pos} (hxe : X.xe = fun _ _ => False) (hc : X.calm = true) (h : PGn X k e tg) (hr : Room (k + 3) X.A) (hg : Gl X "list") (hmg : X.mg "list" = none) (he : starEach [e] X.env = (false, eval e X.env) :: starEach [] X.env := by rfl) :
    PE X (.Call (.Name "list" p) [e] [] pos) (tListN tg) := by
  refine ⟨fun pins s σ H Q I hq => ?_⟩
  rw [hxe]
  refine wpAny_Call_Name_kw (ld_blt I hg hmg boot_list ?_ (by decide) (by decide))
  refine PyProof.Rows.callWith_type1 ?_ he rfl
  rw [he]
  show wpAny _ _ (spliced ((false, eval e X.env) :: backTo pos (starEach [] X.env))) _ _ s
  have h1 := h.run X.A.in1.in1.in1 pins s σ H _ ⟨hr.hd, by have := hr.dp; show X.A.depth + 3 * k + 5 < _; omega, by have := hr.un; show X.A.units + 1 + 1 + 1 + 16 * k + 200 < _; omega⟩ I.ok.frames I hq
  rw [hxe] at h1
  refine Calls.spliced_cons (thn h1 ?_)
  rintro u s1 ⟨S, a, go, gn, rem, fp, c, H1, rfl, hA, I1, hs1, _, _, hrem, q⟩
  refine Calls.spliced_nil ?_
  exact call_listN hr hc hA I1 hs1 hrem fun D s' nD J => ⟨.ref D, _, J, rfl, q D nD⟩
end
end Gw
set_option Elab.async false
set_option linter.all false
set_option maxRecDepth 100000
set_option maxHeartbeats 1000000
namespace Gw
open PySem PySem.Spec PyProof.Rows L2 GenW
section
variable {M : Model} {A : Around} {c : Code} {fs : List Frame} {s : Shared} {Q : End → Shared → Prop}
theorem st_runOwn {c' : Code} {env : Env} {K : Flow → Sem PySem.Fin} {J : Value → Sem PySem.Fin} {gd : Bool → Bool} {lv : List Value → List Value}
    (h : ∀ p, Strt M A c' (M.den c') (.ret (fun r => ((match r with | .ok f => (.pure f : Sem Flow) | .error e => .raise e).onRaise (cameBack env)).wrap K J gd lv) none (gd false) (lv []) c p [] :: fs) s Q) : Strt M A c ((runOwn c' env).wrap K J gd lv) fs s Q := st_call h
end
/-- how a turn of a for goes on -/
def turnK (cd : Code) : Flow → Sem PySem.Fin
  | .next | .cont => .pure (.again cd)
  | .brk => .pure (.done .next)
  | .ret v => .pure (.done (.ret v))
section
variable {prog : Program} {w : World} {A : Around} {fs : List Frame} {s : Shared} {Q : End → Shared → Prop} {x : Str} {px : Pos} {it : Value} {body : List Stmt} {env : Env}
theorem st_forLoop (h : wpAny (model prog w) (A.over (.forLoop (.Name x px) it body [] env) fs) (pyNext it) (fun r s1 => match r with
      | none => Strt (model prog w) A (.block [] env) (.pure (.done .next)) fs s1 Q
      | some v => wpAny (model prog w) (A.over (.forLoop (.Name x px) it body [] env) fs) (assign (.Name x px) env v) (fun _ s2 => ∀ J, Strt (model prog w) A (.forLoop (.Name x px) it body [] env) ((execs body env).wrap (turnK (.forLoop (.Name x px) it body [] env)) J id id) fs s2 Q) (fun _ _ => False) s1) (fun _ _ => False) s) :
    Strt (model prog w) A (.forLoop (.Name x px) it body [] env) ((model prog w).den (.forLoop (.Name x px) it body [] env)) fs s Q := by
  show Strt _ A _ ((forTurn (.Name x px) it body [] env).onRaise (fun y => do noteFrame y env; theTreesLotGoes y)) fs s Q
  rw [Sem.onRaise_eq_wrap]
  unfold forTurn
  refine st_bindw (wpAny_standAt ?_)
  refine st_bindw (wpAny_onRaise (wpAny_mono h (fun r s1 h1 => ?_) fun _ _ z => z.elim))
  cases r with
  | none => exact st_again rfl h1
  | some v =>
    refine st_bindw (wpAny_pure ?_)
    refine st_bindw (wpAny_mono h1 (fun _ s2 h2 => ?_) fun _ _ z => z.elim)
    rw [Sem.bind_eq_wrap', Sem.wrap_wrap]
    refine cast ?_ (h2 (fun e => ((do noteFrame e env; theTreesLotGoes e : Sem Unit).bind fun _ => .raise e)))
    congr 1
    exact Sem.wrap_congr _ _ _ (fun f => by cases f <;> rfl) (fun e => rfl)
end
section
variable {S : Site}
theorem place_loop {c c' : Code} {fs : List Frame} {gd : Bool → Bool} {k : Result → Sem PySem.Fin} {l : List Value} {p : Pos} (pl : Place S c fs gd) (hw : c'.weight = 0) (hu : c'.cUnits = 0) : Place S c' (.ret k none (gd false) l c p [] :: fs) id := by
  refine ⟨(over_loop hw hu).trans pl.over, ?_, ?_, rfl⟩
  · show (splitAtGen fs).map _ = none
    rw [pl.split]
    rfl
  · show (gd false || fs.any Frame.guarded) = false
    rw [pl.gd, pl.guard]
    rfl
end
/-- what is tracked stands there -/
theorem ok_there {P : Program} {w : World} {H : Hp} {h : Heap} {a : Addr} {xs : List V} (x : ObjOk P w H h a (.lst xs)) : ∃ its n, Vals xs its ∧ h.get? a = some (lstObj its.toArray n) := by
  obtain ⟨_, its, n, r, e⟩ := x
  exact ⟨its, n, r, e⟩
def drp (H : Hp) (p : Addr) : Hp := fun b => if b = p then none else H b
theorem drp_ne {H : Hp} {p b : Addr} (h : b ≠ p) : drp H p b = H b := if_neg h
theorem drp_at {H : Hp} {p : Addr} : drp H p p = none := if_pos rfl
/-- a list is no longer tracked, but pinned -/
theorem inv_drop {X : Cx} {pins : List (Addr × Obj)} {σ : L2.St} {H : Hp} {s : Shared} {p : Addr} {xs : List V} {o : Obj} (I : Inv X pins σ H s) (hp : H p = some (.lst xs)) (ho : s.heap.get? p = some o) (hc : ∀ v, o.data ≠ .cell v) : Inv X ((p, o) :: pins) σ (drp H p) s := by
  have ne : ∀ b u, H b = some u → (∀ ys, u ≠ .lst ys) → b ≠ p := fun b u e h z => by
    rw [z, hp] at e
    injection e with e
    exact h xs e.symm
  have nn : ∀ b, H b = none → drp H p b = none := fun b e => by
    unfold drp
    split
    · rfl
    · exact e
  have lp : p ≠ X.env.locals := fun z => by
    rw [z, I.free] at hp
    cases hp
  refine ⟨I.ok, I.os, I.bare, ⟨I.base.keep, I.base.slot, fun b ob e n hx => nn b (I.base.free b ob e n hx), I.base.there, fun b ys e => ?_, fun b ob u e => ?_, fun b ps e => ?_⟩, I.loc, I.cell, nn _ I.free, fun x c e => nn _ (I.freeC x c e), fun q hq => ?_, fun b u e => ?_, I.len⟩
  · have q := I.base.tups b ys e
    rw [drp_ne (ne b _ q (fun _ z => nomatch z))]
    exact q
  · have q := I.base.frzs b ob u e
    rw [drp_ne (ne b _ q (fun _ z => nomatch z))]
    exact q
  · obtain ⟨m, q⟩ := I.base.tbls b ps e
    exact ⟨m, by rw [drp_ne (ne b _ q (fun _ z => nomatch z))]; exact q⟩
  · have old : q ∈ X.pn ++ pins → s.heap.get? q.1 = some q.2 ∧ drp H p q.1 = none ∧ q.1 ≠ X.env.locals ∧ q.1 ∉ X.fs ∧ ∀ v, q.2.data ≠ .cell v := fun hq => by
      obtain ⟨q1, q2, q3⟩ := I.pin q hq
      exact ⟨q1, nn _ q2, q3⟩
    rcases List.mem_append.mp hq with z | z
    · exact old (List.mem_append_left _ z)
    · rcases List.mem_cons.mp z with z | z
      · rw [z]
        refine ⟨ho, drp_at, lp, fun hf => ?_, hc⟩
        obtain ⟨_, of, hof, _⟩ := I.ok.funs.mem hf
        have := I.base.free p of hof (I.ok.frf p hf) fun z => I.ok.exfs p z hf
        rw [hp] at this
        cases this
      · exact old (List.mem_append_right _ z)
  · have hb : b ≠ p := fun z => by
      rw [z, drp_at] at e
      cases e
    rw [drp_ne hb] at e
    exact (I.hok b u e).stay (fun _ _ _ q => q) (fun d q => by rw [drp_ne (ne d _ q (fun _ z => nomatch z))]; exact q) fun d ys q => by rw [drp_ne (ne d _ q (fun _ z => nomatch z))]; exact q
section
variable {S : Site} {s0 s : Shared} {own : List Addr} {gown : List Nat} {ip : List (Addr × Obj)} {gv : List (Nat × GenState)} {σ : L2.St} {H : Hp}
/-- what the body has tracked itself is its own -/
theorem GI.newer {H1 : Hp} {s1 : Shared} {p : Addr} {u : HO} (G : GI S s0 own gown ip gv σ H1 s1) (hn : ledger s0.heap S.env.locals own p = none) (h1 : H1 p = some u) (ho : ∃ o, s1.heap.get? p = some o) : S.env.locals < p ∧ (p ∈ own ∨ s0.heap.objs.size ≤ p) := by
  have lp : p ≠ S.env.locals := fun z => by
    have f : H1 S.env.locals = none := G.inv.free
    rw [z, f] at h1
    cases h1
  by_cases hown : p ∈ own
  · exact ⟨Nat.lt_of_le_of_ne (G.up p hown) (Ne.symm lp), .inl hown⟩
  · by_cases hsz : s0.heap.objs.size ≤ p
    · refine ⟨?_, .inr hsz⟩
      exact Nat.lt_of_lt_of_le G.live hsz
    · have hlt : p < s0.heap.objs.size := Nat.lt_of_not_le hsz
      cases e : s0.heap.get? p with
      | none =>
        obtain ⟨o, ho⟩ := ho
        rw [G.hsz.gone p hlt e] at ho
        cases ho
      | some o =>
        by_cases hL : p < S.env.locals
        · have e' : (S.cx s0 own).s_0.heap.get? p = some o := by
            show (cut s0.heap S.env.locals).get? p = some o
            rw [cut_lt hL]
            exact e
          have := G.inv.base.free p o e' (led_old hL) (fun z => nomatch z)
          rw [h1] at this
          cases this
        · rw [led_new (Nat.le_of_not_lt hL) hown e] at hn
          cases hn
end
end Gw
set_option Elab.async false
set_option linter.all false
set_option maxRecDepth 100000
set_option maxHeartbeats 1000000
namespace Gw
open PySem PySem.Spec PyProof.Rows L2 GenW
theorem any_grow {α : Type} {M : Model} {A : Around} {t : Sem α} {Q : α → Shared → Prop} {E : Value → Shared → Prop} {s : Shared} (h : wpAny M A t (fun a s' => Grow s.heap s'.heap → Q a s') E s) : wpAny M A t Q E s := fun Γ p hΓ => by
  have y := wp_grow M Γ s.heap t _ _ p s (.refl _) (h Γ p hΓ)
  exact Sem.wp_mono M Γ t (fun a p' s' x => x.2 x.1) (fun a p' s' x => x.2) p s y
section
variable {S : Site} {s0 s : Shared} {own : List Addr} {gown : List Nat} {ip ip' : List (Addr × Obj)} {gv : List (Nat × GenState)} {σ : L2.St} {H : Hp}
theorem GI.fewer (G : GI S s0 own gown ip' gv σ H s) (h : ∀ p ∈ ip, p ∈ ip') : GI S s0 own gown ip gv σ H s :=
  ⟨G.inv.pins_of fun p hp => G.inv.pin p (List.mem_append_right _ (h p hp)), G.same, fun p hp => G.ip p (h p hp), G.gv, G.hsz, G.gsz, G.zz, G.mine, G.up, G.live⟩
/-- an iterator of the generator has turned -/
theorem GI.turned {it : Addr} {h' : Heap} {t' : Nat} (G : GI S s0 own gown ip gv σ H s) (k : ∀ b o, b ≠ it → s.heap.get? b = some o → h'.get? b = some o) (gr : Grow s.heap h') (hn : H it = none) (hL : S.env.locals < it) (h3 : ∀ p ∈ ip, p.1 ≠ it) (So : S.Ok) : GI S s0 own gown ip gv σ H { s with heap := h', toks := t' } := by
  refine ⟨G.inv.turned k hn (Nat.ne_of_gt hL) (.inr ?_) (fun x c e => ?_) fun p hp => ?_, G.same, G.ip, G.gv, G.hsz.trans gr, G.gsz, G.zz, G.mine, G.up, G.live⟩
  · show (cut s0.heap S.env.locals).objs.size ≤ it
    rw [cut_size]
    exact Nat.le_trans (Nat.min_le_left _ _) (Nat.le_of_lt hL)
  · have z := So.nocell x
    have e' : S.env.cells.lookup x = some c := e
    rw [z] at e'
    cases e'
  · rcases List.mem_append.mp hp with z | z
    · exact absurd (show p ∈ ([] : List (Addr × Obj)) from z) (by simp)
    · exact h3 p z
/-- one more of the generator's things is pinned -/
theorem GI.pin {p : Addr × Obj} (G : GI S s0 own gown ip gv σ H s) (e : s.heap.get? p.1 = some p.2) (hn : H p.1 = none) (hL : S.env.locals < p.1) (hf : p.1 ∉ frs S.outer) (hc : ∀ v, p.2.data ≠ .cell v) (ho : p.1 ∈ own ∨ s0.heap.objs.size ≤ p.1) : GI S s0 own gown (p :: ip) gv σ H s := by
  refine ⟨G.inv.pins_of fun q hq => ?_, G.same, fun q hq => ?_, G.gv, G.hsz, G.gsz, G.zz, G.mine, G.up, G.live⟩
  · rcases List.mem_cons.mp hq with rfl | hq
    · exact ⟨e, hn, Nat.ne_of_gt hL, hf, hc⟩
    · exact G.inv.pin q (List.mem_append_right _ hq)
  · rcases List.mem_cons.mp hq with rfl | hq
    · exact ⟨hL, ho⟩
    · exact G.ip q hq
theorem GI.nofr (So : S.Ok) {b : Addr} (hL : S.env.locals < b) : b ∉ frs S.outer := fun z => Nat.lt_irrefl _ (Nat.lt_trans (So.frlt b z) hL)
end
section
variable {S : Site}
/-- for x in a new list, in the body of a generator -/
def tGForL (te : TE) (g : TG) (tb : TGn) : TGn := fun D rem σ H => te σ H fun v H1 => Ex H H1 ∧ ∃ p xs, v = .ref p ∧ H p = none ∧ H1 p = some (.lst xs) ∧ ∃ Pv : Nat → List V → L2.St → Prop, Pv 0 rem σ ∧
  (∀ i x rem σ H, xs[i]? = some x → Pv i rem σ → g x σ H fun σ2 H2 => Ex H H2 ∧ tb { nx := fun r z _ => Pv (i + 1) r z, ct := fun r z _ => Pv (i + 1) r z, rt := D.rt } rem σ2 H2) ∧ ∀ rem σ H, Pv xs.length rem σ → D.nx rem σ H
theorem gs_forL (So : S.Ok) {x : Str} {px pos : Pos} {iter : Expr} {body : List Stmt} {te : TE} {g : TG} {tb : TGn} (he : ∀ s0 own, PE (S.cx s0 own) iter te) (hg : ∀ s0 own, PG (S.cx s0 own) (.Name x px) g) (hb : GSs S body tb)
    (hs : ∀ y, foldedSetIterable iter S.env y = pure y := by intro _; rfl) : GS S (.For (.Name x px) iter body [] pos) (tGForL te g tb) := by
  refine ⟨fun s0 own gown ip gv c fs K J gd lv s σ H D rem pl I ht k => ?_⟩
  rw [exec_For]
  refine st_bindw (wpAny_standAt ?_)
  refine st_bindw ?_
  rw [pl.over]
  refine wpAny_mono (I.plain (Qa := fun v σ' H1 => σ' = σ ∧ ∃ p xs, v = .ref p ∧ H p = none ∧ H1 p = some (.lst xs) ∧ ∃ Pv : Nat → List V → L2.St → Prop, Pv 0 rem σ ∧
      (∀ i x rem σ H, xs[i]? = some x → Pv i rem σ → g x σ H fun σ2 H2 => Ex H H2 ∧ tb { nx := fun r z _ => Pv (i + 1) r z, ct := fun r z _ => Pv (i + 1) r z, rt := D.rt } rem σ2 H2) ∧ ∀ rem σ H, Pv xs.length rem σ → D.nx rem σ H)
    fun s1 I1 _ => wpAny_mono ((he s0 own).run ip s1 σ H _ I1 ht) ?_ (fun _ _ z => z)) ?_ (fun _ _ z => z.elim)
  · rintro v s2 ⟨y, H1, I2, rv, ex, p, xs, rfl, np, hp, q⟩
    have ev : v = .ref p := rv
    exact ⟨σ, H1, I2, ex, rfl, p, xs, ev, np, hp, q⟩
  rintro v s1 ⟨σ', H1, G, rfl, p, xs, rfl, np, hp, Pv, p0, pst, pend⟩
  refine st_bindw (wpAny_of_eq (hs _) ?_)
  refine st_bindw (wpAny_standAt ?_)
  obtain ⟨its, n, rv, eo⟩ := ok_there (G.inv.hok p _ hp)
  have hil : s1.heap.IsList p its.toArray := ⟨_, eo, rfl, n, rfl⟩
  refine st_bindw (wpAny_holding ?_)
  rw [pl.over]
  refine wpAny_pyIter_list hil ?_
  -- the list is pinned, then its iterator
  have ledp : ledger s0.heap S.env.locals own p = none := by
    cases e : ledger s0.heap S.env.locals own p with
    | none => rfl
    | some u =>
      have := I.same p u e
      rw [np] at this
      cases this
  obtain ⟨pL, po⟩ := G.newer ledp hp ⟨_, eo⟩
  have G1 : GI S s0 own gown ((p, lstObj its.toArray n) :: ip) gv σ' (drp H1 p) s1 := by
    refine ⟨inv_drop G.inv hp eo (fun v z => by cases z), fun b u e => ?_, fun q hq => ?_, G.gv, G.hsz, G.gsz, G.zz, G.mine, G.up, G.live⟩
    · have hb : b ≠ p := fun z => by rw [z, ledp] at e; cases e
      rw [drp_ne hb]
      exact G.same b u e
    · rcases List.mem_cons.mp hq with rfl | hq
      · exact ⟨pL, po⟩
      · exact G.ip q hq
  generalize hit : s1.heap.objs.size = it
  have lL : S.env.locals < it := by rw [← hit]; exact G.inv.lt
  have G2 : GI S s0 own gown ((it, { cls := .type "list_iterator", data := .fields #[.ref p, .int 0 0] }) :: (p, lstObj its.toArray n) :: ip) gv σ' (drp H1 p) { s1 with heap := s1.heap.push { cls := .type "list_iterator", data := .fields #[.ref p, .int 0 0] } } := by
    have z : GI S s0 own gown ((p, lstObj its.toArray n) :: ip) gv σ' (drp H1 p) { s1 with heap := s1.heap.push { cls := .type "list_iterator", data := .fields #[.ref p, .int 0 0] } } :=
      ⟨G1.inv.kept (t' := s1.toks) fun b o e => Heap.get?_push_of_some _ e, G1.same, G1.ip, G1.gv, G1.hsz.trans (grow_push _ _), G1.gsz, G1.zz, G1.mine, G1.up, G1.live⟩
    refine z.pin (p := (it, _)) (by rw [← hit]; exact Heap.get?_push_size _ rfl) ?_ lL (GI.nofr So lL) (fun v z => by cases z) (.inr ?_)
    · rw [← hit]
      exact G1.inv.hok.fresh (Nat.le_refl _)
    · rw [← hit]
      exact G.hsz.sz
  clear hil
  have hip : ∀ q ∈ ip, q.1 ≠ it := fun q hq => by rw [← hit]; exact Nat.ne_of_lt (Heap.lt_size (G.inv.pin q (List.mem_append_right _ hq)).1)
  have hpit : p ≠ it := by rw [← hit]; exact Nat.ne_of_lt (Heap.lt_size eo)
  refine st_runOwn fun pp => ?_
  have pl2 := place_loop (k := fun r => ((match r with | .ok f => (.pure f : Sem Flow) | .error e => .raise e).onRaise (cameBack S.env)).wrap K J gd lv) (l := lv []) (p := pp) (c' := .forLoop (.Name x px) (.ref it) body [] S.env) pl rfl rfl
  have loop : ∀ (m i : Nat) (s0 : Shared) (own : List Addr) (gown : List Nat) (σ : L2.St) (H : Hp) (rem : List V) (s : Shared) (o : Obj), i + m = xs.length → o.cls = .type "list_iterator" → o.data = .fields #[.ref p, .int i 0] → GI S s0 own gown ((it, o) :: (p, lstObj its.toArray n) :: ip) gv σ H s → Pv i rem σ →
      Sg S (.forLoop (.Name x px) (.ref it) body [] S.env) ((model S.P S.w).den (.forLoop (.Name x px) (.ref it) body [] S.env)) (.ret (fun r => ((match r with | .ok f => (.pure f : Sem Flow) | .error e => .raise e).onRaise (cameBack S.env)).wrap K J gd lv) none (gd false) (lv []) c pp [] :: fs) s rem s0 own gown := by
    intro m
    induction m with
    | zero =>
      intro i s0 own gown σ H rem s o hi hoc hod GG hP
      refine st_forLoop ?_
      rw [pl2.over]
      have pit := GG.inv.pin (it, o) (List.mem_append_right _ List.mem_cons_self)
      have plst := GG.inv.pin (p, lstObj its.toArray n) (List.mem_append_right _ (List.mem_cons_of_mem _ List.mem_cons_self))
      have ei : i = xs.length := by omega
      have hx : its.toArray[i]? = none := by
        have e := rv.length
        simp
        omega
      refine any_grow (wpAny_pyNext_list_end So.hd ⟨o, pit.1, hoc, hod⟩ ⟨_, plst.1, rfl, n, rfl⟩ hx fun h' eb gr => ?_)
      refine st_leaf (.ok .next) ?_
      have G0 : GI S s0 own gown ip gv σ H s := GG.fewer fun q hq => List.mem_cons_of_mem _ (List.mem_cons_of_mem _ hq)
      rw [ei] at hP
      exact k s0 own gown σ H rem _ .next (G0.turned (t' := s.toks) (fun b ob hb e => eb b ob hb e) gr pit.2.1 lL hip So) (pend rem σ H hP)
    | succ m ih =>
      intro i s0 own gown σ H rem s o hi hoc hod GG hP
      refine st_forLoop ?_
      rw [pl2.over]
      have pit := GG.inv.pin (it, o) (List.mem_append_right _ List.mem_cons_self)
      have plst := GG.inv.pin (p, lstObj its.toArray n) (List.mem_append_right _ (List.mem_cons_of_mem _ List.mem_cons_self))
      obtain ⟨y, hy⟩ : ∃ y, xs[i]? = some y := ⟨_, List.getElem?_eq_getElem (by omega)⟩
      obtain ⟨u, hu, ru⟩ := rv.get hy
      refine any_grow (wpAny_pyNext_list_item ⟨o, pit.1, hoc, hod⟩ ⟨_, plst.1, rfl, n, rfl⟩ (x := u) (by simpa using hu) fun h' st' sb gr => ?_)
      obtain ⟨o', ho', hoc', hod'⟩ := st'
      have G0 : GI S s0 own gown ((p, lstObj its.toArray n) :: ip) gv σ H s := GG.fewer fun q hq => List.mem_cons_of_mem _ hq
      have G3 : GI S s0 own gown ((p, lstObj its.toArray n) :: ip) gv σ H { s with heap := h' } := G0.turned (t' := s.toks) (fun b ob hb e => (sb.2 b hb).trans e) gr pit.2.1 lL (fun q hq => by
        rcases List.mem_cons.mp hq with rfl | hq
        · exact hpit
        · exact hip q hq) So
      have G4 : GI S s0 own gown ((it, o') :: (p, lstObj its.toArray n) :: ip) gv σ H { s with heap := h' } := G3.pin (p := (it, o')) ho' pit.2.1 lL (GI.nofr So lL) (fun v z => by rw [hod'] at z; cases z) (GG.ip (it, o) List.mem_cons_self).2
      refine wpAny_mono (G4.plain (Qa := fun _ σ2 H2 => tb { nx := fun r z _ => Pv (i + 1) r z, ct := fun r z _ => Pv (i + 1) r z, rt := D.rt } rem σ2 H2) fun s2 I2 _ => wpAny_mono ((hg s0 own).run _ s2 σ H y u _ I2 ru (pst i y rem σ H hy hP)) ?_ (fun _ _ z => z)) ?_ (fun _ _ z => z.elim)
      · rintro _ s3 ⟨σ3, H3, I3, ex, q⟩
        exact ⟨σ3, H3, I3, ex, q⟩
      rintro _ s3 ⟨σ3, H3, G5, q5⟩ J'
      refine hb.run s0 own gown _ gv _ _ _ J' id id s3 σ3 H3 _ rem pl2 G5 q5 fun s0' own' gown' σ' H' rem' s' f G6 q6 => ?_
      cases f with
      | next => exact st_again rfl (ih (i + 1) s0' own' gown' σ' H' rem' s' o' (by omega) hoc' hod' G6 q6)
      | cont => exact st_again rfl (ih (i + 1) s0' own' gown' σ' H' rem' s' o' (by omega) hoc' hod' G6 q6)
      | brk => exact q6.elim
      | ret u => exact st_leaf (.ok (.ret u)) (k s0' own' gown' σ' H' rem' s' (.ret u) (G6.fewer fun q hq => List.mem_cons_of_mem _ (List.mem_cons_of_mem _ hq)) q6)
  exact loop xs.length 0 s0 own gown σ' _ rem _ _ (Nat.zero_add _) rfl rfl G2 p0
end
end Gw
set_option Elab.async false
set_option linter.all false
set_option maxRecDepth 100000
set_option maxHeartbeats 1000000
namespace Gw
open PySem PySem.Spec PyProof.Rows L2 GenW
/-- a generator within the generator at S: its object at a, its number gn -/
structure Sub (S S2 : Site) (ip : List (Addr × Obj)) (gv : List (Nat × GenState)) (a : Addr) (go : Obj) (gn : Nat) (rm : List V) (fp : List (Addr × Obj)) (gv2 : List (Nat × GenState)) (gs : GenState) : Prop where
  P : S2.P = S.P
  w : S2.w = S.w
  base : S2.base = S.base
  outer : S2.outer = S.env :: S.outer
  A : S2.A = (S.A.deeper S.env).in1
  low : S.env.locals < S2.env.locals
  obj : GObj go gn
  lt : S2.env.locals < a
  dis : ∀ p ∈ fp, ∀ q ∈ (a, go) :: ip, q.1 ≠ p.1
  ge : ∀ p ∈ fp, S2.env.locals ≤ p.1
  gne : ∀ q ∈ gv2, q.1 ≠ gn
  far : ∀ q ∈ gv, ¬ Mine gn gv2 q.1
  can : Can S2 rm fp gv2 gs
theorem Sub.has {S S2 : Site} {ip : List (Addr × Obj)} {gv : List (Nat × GenState)} {a : Addr} {go : Obj} {gn : Nat} {rm : List V} {fp : List (Addr × Obj)} {gv2 : List (Nat × GenState)} {gs : GenState} {s0 s : Shared} {own : List Addr} (h : Sub S S2 ip gv a go gn rm fp gv2 gs) (h1 : s.gens[gn]? = some gs) (h2 : ∀ q ∈ gv2, s.gens[q.1]? = some q.2 ∧ sleepy q.2 = true) :
    Has (S.cx s0 own) ip S2 a go gn rm fp gv2 gs s := by
  refine ⟨⟨h.P, h.w, h.base, h.outer⟩, h.obj, h.lt, fun p hp q hq => ?_, h.ge, fun p hp => .inr ?_, h1, fun q hq => ⟨h.gne q hq, h2 q hq⟩, h.can⟩
  · rcases List.mem_append.mp hq with z | z
    · exact absurd (show q ∈ ([] : List (Addr × Obj)) from z) (by simp)
    · exact h.dis p hp q z
  · show (cut s0.heap S.env.locals).objs.size ≤ p.1
    rw [cut_size]
    exact Nat.le_trans (Nat.min_le_left _ _) (Nat.le_trans (Nat.le_of_lt h.low) (h.ge p hp))
section
variable {S : Site}
/-- for x in a generator, in the body of a generator -/
def tGForN (tg : TGN) (g : TG) (tb : TGn) : TGn := fun D rem σ H => tg σ H fun xs H1 => Ex H H1 ∧ ∃ Pv : Nat → List V → L2.St → Prop, Pv 0 rem σ ∧
  (∀ i x rem σ H, xs[i]? = some x → Pv i rem σ → g x σ H fun σ2 H2 => Ex H H2 ∧ tb { nx := fun r z _ => Pv (i + 1) r z, ct := fun r z _ => Pv (i + 1) r z, rt := D.rt } rem σ2 H2) ∧ ∀ rem σ H, Pv xs.length rem σ → D.nx rem σ H
theorem gs_forN (So : S.Ok) {k : Nat} {x : Str} {px pos : Pos} {iter : Expr} {body : List Stmt} {tg : TGN} {g : TG} {tb : TGn} (hr : Room (k + 1) (S.A.deeper S.env)) (hi : ∀ s0 own, PGn (S.cx s0 own) k iter tg) (hg : ∀ s0 own, PG (S.cx s0 own) (.Name x px) g) (hb : GSs S body tb)
    (hs : ∀ y, foldedSetIterable iter S.env y = pure y := by intro _; rfl) : GS S (.For (.Name x px) iter body [] pos) (tGForN tg g tb) := by
  refine ⟨fun s0 own gown ip gv c fs K J gd lv s σ H D rem pl I ht k => ?_⟩
  rw [exec_For]
  refine st_bindw (wpAny_standAt ?_)
  refine st_bindw ?_
  rw [pl.over]
  have hfr : ((S.A.deeper S.env).in1).frames = some (S.cx s0 own).stack := Around.frames_deeper So.frames
  have z := any_left ((hi s0 own).run (S.A.deeper S.env).in1 ip { s with gens := veil s.gens } σ H _ hr.in1 hfr (inv_gens I.inv (veil_bare I.inv.bare)) ht)
  refine wpAny_mono z ?_ (fun _ _ ⟨_, _, z, _⟩ => z.elim)
  rintro u s1 ⟨l, s1', ⟨S2, a, go, gn, xs, fp, cc, H1, rfl, hA, I1', hs1', hgn, hloc, ex, Pv, p0, pst, pend⟩, e1, b1, new1⟩
  have vsz : (veil s.gens).size = s.gens.size := by simp [veil]
  have hgn' : s.gens.size ≤ gn := by
    have h : (veil s.gens).size ≤ gn := hgn
    rw [vsz] at h
    exact h
  have hloc' : s.heap.objs.size ≤ S2.env.locals := hloc
  have I1 : Inv (S.cx s0 own) (fp ++ (a, go) :: ip) σ H1 s1 := by
    rw [e1]
    exact inv_gens I1' (b1 I1'.bare)
  have hgat : s1.gens[gn]? = some (.fresh cc) := by
    rw [new1 gn hgn']
    exact hs1'.gat
  have low : S.env.locals < S2.env.locals := Nat.lt_of_lt_of_le I.inv.lt hloc'
  have sub0 : Sub S S2 ip gv a go gn xs fp [] (.fresh cc) := by
    refine ⟨hs1'.st.P, hs1'.st.w, hs1'.st.base, hs1'.st.outer, hA, low, hs1'.obj, hs1'.lt, fun p hp q hq => hs1'.dis p hp q (List.mem_append_right _ hq), hs1'.ge, (fun q hq => nomatch hq), fun q hq hm => ?_, hs1'.can⟩
    rcases hm with hm | ⟨q', hq', _⟩
    · have := (Array.getElem?_eq_some_iff.mp (I.gv q hq).1).1
      rw [hm] at this
      exact Nat.lt_irrefl _ (Nat.lt_of_lt_of_le this hgn')
    · cases hq'
  have aL : S.env.locals < a := Nat.lt_trans low hs1'.lt
  have G1 : GI S s0 own gown (fp ++ (a, go) :: ip) gv σ H1 s1 := by
    refine ⟨I1, fun b u e => ex b u (I.same b u e), fun q hq => ?_, fun q hq => ⟨l.zz _ _ (I.gv q hq).1 (I.gv q hq).2.1, (I.gv q hq).2⟩, I.hsz.trans l.hsz, Nat.le_trans I.gsz l.gsz, fun i gs h1 h2 h3 => l.zz i gs (I.zz i gs h1 h2 h3) h3, I.mine, I.up, I.live⟩
    rcases List.mem_append.mp hq with z | z
    · exact ⟨Nat.lt_of_lt_of_le low (hs1'.ge q z), .inr (Nat.le_trans I.hsz.sz (Nat.le_trans hloc' (hs1'.ge q z)))⟩
    · rcases List.mem_cons.mp z with rfl | z
      · exact ⟨aL, .inr (Nat.le_trans I.hsz.sz (Nat.le_trans hloc' (Nat.le_of_lt hs1'.lt)))⟩
      · exact I.ip q z
  refine st_bindw (wpAny_of_eq (hs _) ?_)
  refine st_bindw (wpAny_standAt ?_)
  refine st_bindw (wpAny_holding ?_)
  rw [pl.over]
  refine wpAny_pyIter_gen (hs1'.obj.at (I1.pin (a, go) (List.mem_append_right _ (List.mem_append_right _ List.mem_cons_self))).1) ?_
  refine st_runOwn fun pp => ?_
  have pl2 := place_loop (k := fun r => ((match r with | .ok f => (.pure f : Sem Flow) | .error e => .raise e).onRaise (cameBack S.env)).wrap K J gd lv) (l := lv []) (p := pp) (c' := .forLoop (.Name x px) (.ref a) body [] S.env) pl rfl rfl
  have loop : ∀ (m i : Nat) (s0 : Shared) (own : List Addr) (gown : List Nat) (σ : L2.St) (H : Hp) (rem : List V) (s : Shared) (fp : List (Addr × Obj)) (gv2 : List (Nat × GenState)) (gs : GenState), i + m = xs.length → GI S s0 own gown (fp ++ (a, go) :: ip) gv σ H s → Sub S S2 ip gv a go gn (xs.drop i) fp gv2 gs →
      s.gens[gn]? = some gs → (∀ q ∈ gv2, s.gens[q.1]? = some q.2 ∧ sleepy q.2 = true) → (∀ i, Mine gn gv2 i → i ∈ gown ∨ s0.gens.size ≤ i) → Pv i rem σ →
      Sg S (.forLoop (.Name x px) (.ref a) body [] S.env) ((model S.P S.w).den (.forLoop (.Name x px) (.ref a) body [] S.env)) (.ret (fun r => ((match r with | .ok f => (.pure f : Sem Flow) | .error e => .raise e).onRaise (cameBack S.env)).wrap K J gd lv) none (gd false) (lv []) c pp [] :: fs) s rem s0 own gown := by
    intro m
    induction m with
    | zero =>
      intro i s0 own gown σ H rem s fp gv2 gs hi G sb hg1 hg2 hmine hP
      refine st_forLoop ?_
      rw [pl2.over]
      have ei : i = xs.length := by omega
      refine next_has (X := S.cx s0 own) (sb.has hg1 hg2) G.inv sb.A So.hd hr.depth (fun e s2 I2 gr gz zz => ?_) (fun y rm e => ?_)
      · refine st_leaf (.ok .next) ?_
        rw [ei] at hP
        have mn : ∀ i gs, i ∉ gown → s0.gens[i]? = some gs → ¬ Mine gn gv2 i := fun i gs h1 h2 hm => by
          rcases hmine i hm with z | z
          · exact h1 z
          · exact Nat.lt_irrefl _ (Nat.lt_of_lt_of_le (Array.getElem?_eq_some_iff.mp h2).1 z)
        refine k s0 own gown σ H rem s2 .next ⟨I2.pins_of fun p hp => I2.pin p (List.mem_append_right _ (List.mem_cons_of_mem _ hp)), G.same, fun p hp => G.ip p (List.mem_append_right _ (List.mem_cons_of_mem _ hp)), fun q hq => ⟨zz _ _ (sb.far q hq) (G.gv q hq).1 (G.gv q hq).2.1, (G.gv q hq).2⟩, G.hsz.trans gr, Nat.le_trans G.gsz gz, fun i gs h1 h2 h3 => zz i gs (mn i gs h1 h2) (G.zz i gs h1 h2 h3) h3, G.mine, G.up, G.live⟩ (pend rem σ H hP)
      · rw [ei, List.drop_length] at e
        cases e
    | succ m ih =>
      intro i s0 own gown σ H rem s fp gv2 gs hi G sb hg1 hg2 hmine hP
      refine st_forLoop ?_
      rw [pl2.over]
      have hlt : i < xs.length := by omega
      refine next_has (X := S.cx s0 own) (sb.has hg1 hg2) G.inv sb.A So.hd hr.depth (fun e => ?_) (fun y rm e s2 v fp3 gv3 gs3 I3 hs3 rv hz gr gz zz nfp ngv => ?_)
      · have := congrArg List.length e
        rw [List.length_drop] at this
        simp at this
        omega
      · have hy : xs[i]? = some y := by
          have := congrArg (fun l : List V => l[0]?) e
          simp at this
          exact this
        have hrm : rm = xs.drop (i + 1) := by
          have := congrArg List.tail e
          simp at this
          exact this.symm
        subst hrm
        have mn : ∀ i gs, i ∉ gown → s0.gens[i]? = some gs → ¬ Mine gn gv2 i := fun i gs h1 h2 hm => by
          rcases hmine i hm with z | z
          · exact h1 z
          · exact Nat.lt_irrefl _ (Nat.lt_of_lt_of_le (Array.getElem?_eq_some_iff.mp h2).1 z)
        have mine3 : ∀ i, Mine gn gv3 i → i ∈ gown ∨ s0.gens.size ≤ i := fun i hm => by
          rcases hm with hm | ⟨q, hq, hm⟩
          · exact hmine i (.inl hm)
          · rcases ngv q hq with z | z
            · obtain ⟨q', hq', e'⟩ := List.mem_map.mp z
              exact hmine i (.inr ⟨q', hq', e'.trans hm⟩)
            · rw [← hm]
              exact .inr (Nat.le_trans G.gsz z)
        have sb3 : Sub S S2 ip gv a go gn (xs.drop (i + 1)) fp3 gv3 gs3 := by
          refine ⟨sb.P, sb.w, sb.base, sb.outer, sb.A, sb.low, sb.obj, sb.lt, fun p hp q hq => hs3.dis p hp q (List.mem_append_right _ hq), hs3.ge, fun q hq => (hs3.gne q hq).1, fun q hq hm => ?_, hs3.can⟩
          rcases hm with hm | ⟨q', hq', hm⟩
          · exact sb.far q hq (.inl hm)
          · rcases ngv q' hq' with z | z
            · obtain ⟨q'', hq'', e'⟩ := List.mem_map.mp z
              exact sb.far q hq (.inr ⟨q'', hq'', e'.trans hm⟩)
            · have := (Array.getElem?_eq_some_iff.mp (G.gv q hq).1).1
              rw [hm] at z
              exact Nat.lt_irrefl _ (Nat.lt_of_lt_of_le this z)
        have G3 : GI S s0 own gown (fp3 ++ (a, go) :: ip) ((gn, gs3) :: gv3 ++ gv) σ H s2 := by
          refine ⟨I3, G.same, fun p hp => ?_, fun q hq => ?_, G.hsz.trans gr, Nat.le_trans G.gsz gz, fun i gs h1 h2 h3 => zz i gs (mn i gs h1 h2) (G.zz i gs h1 h2 h3) h3, G.mine, G.up, G.live⟩
          · rcases List.mem_append.mp hp with z | z
            · refine ⟨Nat.lt_of_lt_of_le sb.low (hs3.ge p z), ?_⟩
              rcases nfp p z with y | y
              · obtain ⟨p', hp', e'⟩ := List.mem_map.mp y
                rw [← e']
                exact (G.ip p' (List.mem_append_left _ hp')).2
              · exact .inr (Nat.le_trans G.hsz.sz y)
            · exact G.ip p (List.mem_append_right _ z)
          · rcases List.mem_cons.mp hq with rfl | hq
            · exact ⟨hs3.gat, hz, mine3 gn (.inl rfl)⟩
            · rcases List.mem_append.mp hq with z | z
              · exact ⟨(hs3.gne q z).2.1, (hs3.gne q z).2.2, mine3 q.1 (.inr ⟨q, z, rfl⟩)⟩
              · exact ⟨zz _ _ (sb.far q z) (G.gv q z).1 (G.gv q z).2.1, (G.gv q z).2⟩
        refine wpAny_mono (G3.plain (Qa := fun _ σ2 H2 => tb { nx := fun r z _ => Pv (i + 1) r z, ct := fun r z _ => Pv (i + 1) r z, rt := D.rt } rem σ2 H2) fun s4 I4 _ => wpAny_mono ((hg s0 own).run _ s4 σ H y v _ I4 rv (pst i y rem σ H hy hP)) ?_ (fun _ _ z => z)) ?_ (fun _ _ z => z.elim)
        · rintro _ s5 ⟨σ5, H5, I5, ex5, q5⟩
          exact ⟨σ5, H5, I5, ex5, q5⟩
        rintro _ s5 ⟨σ5, H5, G5, q5⟩ J'
        refine hb.run s0 own gown _ _ _ _ _ J' id id s5 σ5 H5 _ rem pl2 G5 q5 fun s0' own' gown' σ' H' rem' s' f G6 q6 => ?_
        have back : GI S s0' own' gown' (fp3 ++ (a, go) :: ip) gv σ' H' s' := ⟨G6.inv, G6.same, G6.ip, fun q hq => G6.gv q (List.mem_cons_of_mem _ (List.mem_append_right _ hq)), G6.hsz, G6.gsz, G6.zz, G6.mine, G6.up, G6.live⟩
        have again : Pv (i + 1) rem' σ' → Sg S (.forLoop (.Name x px) (.ref a) body [] S.env) ((model S.P S.w).den (.forLoop (.Name x px) (.ref a) body [] S.env)) (.ret (fun r => ((match r with | .ok f => (.pure f : Sem Flow) | .error e => .raise e).onRaise (cameBack S.env)).wrap K J gd lv) none (gd false) (lv []) c pp [] :: fs) s' rem' s0' own' gown' := fun q => by
          refine ih (i + 1) s0' own' gown' σ' H' rem' s' fp3 gv3 gs3 (by omega) back sb3 (G6.gv (gn, gs3) List.mem_cons_self).1 (fun q hq => ?_) (fun j hm => ?_) q
          · obtain ⟨y1, y2, _⟩ := G6.gv q (List.mem_cons_of_mem _ (List.mem_append_left _ hq))
            exact ⟨y1, y2⟩
          · rcases hm with hm | ⟨q, hq, hm⟩
            · rw [hm]
              exact (G6.gv (gn, gs3) List.mem_cons_self).2.2
            · rw [← hm]
              exact (G6.gv q (List.mem_cons_of_mem _ (List.mem_append_left _ hq))).2.2
        cases f with
        | next => exact st_again rfl (again q6)
        | cont => exact st_again rfl (again q6)
        | brk => exact q6.elim
        | ret u => exact st_leaf (.ok (.ret u)) (k s0' own' gown' σ' H' rem' s' (.ret u) (back.fewer fun q hq => List.mem_append_right _ (List.mem_cons_of_mem _ hq)) q6)
  refine loop xs.length 0 s0 own gown σ H1 rem s1 fp [] _ (Nat.zero_add _) G1 (by rw [List.drop_zero]; exact sub0) hgat (fun q hq => nomatch hq) (fun i hm => ?_) p0
  rcases hm with hm | ⟨q, hq, _⟩
  · rw [hm]
    exact .inr (Nat.le_trans I.gsz hgn')
  · cases hq
end
end Gw
set_option Elab.async false
set_option linter.all false
set_option maxRecDepth 100000
set_option maxHeartbeats 2000000
namespace Rs
open PySem PySem.Spec PyProof.Rows L2
section
variable {X : Cx}
/-! texts: swapcase, and [::-1] -/
theorem m_swapcase : MtR X "str.swapcase" (fun x xs H Q => ∃ a, x = .str a ∧ xs = [] ∧ a.length ≤ 5592405 ∧ Q (.str (Txt.swapcase a)) H) :=
  mt0 (C := fun a => a.length ≤ 5592405) (g := fun a => .str (Txt.swapcase a)) fun a _ s _ hc h => PySem.SC.swapcase (fit_swapcase hc) (h _ (s.toks + 1) ⟨_, rfl⟩)
def rv (z : Str) : Str := ⟨z.cps.reverse⟩
theorem rv_is (z : Str) (u : Tok) : Txt.sliceBy z none none (-1, u) = rv z := by
  have e := step_rev_list z u
  unfold rv
  have e2 : (Txt.sliceBy z none none (-1, u)).cps = z.cps.reverse := by
    apply Array.toList_inj.mp
    rw [e, Array.toList_reverse]
    apply List.ext_getElem?
    intro i
    rw [List.getElem?_map]
    by_cases h : i < z.cps.size
    · have hl : i < z.length := h
      rw [List.getElem?_range hl, List.getElem?_reverse (by simpa using h)]
      have h2 : z.length - 1 - i < z.cps.size := by show z.cps.size - 1 - i < _; omega
      show some _ = z.cps.toList[z.cps.size - 1 - i]?
      rw [Array.getElem?_toList]
      have h3 : z.cps.size - 1 - i < z.cps.size := h2
      rw [Array.getElem?_eq_getElem h3]
      congr 1
      show z.cps.getD (z.cps.size - 1 - i) 0 = _
      simp [Array.getD, h3]
    · have h1 : (List.range z.length)[i]? = none := by
        rw [List.getElem?_eq_none_iff, List.length_range]; exact Nat.not_lt.mp h
      rw [h1, List.getElem?_eq_none (by simpa using Nat.not_lt.mp h)]
      rfl
  cases hz : Txt.sliceBy z none none (-1, u)
  rw [hz] at e2
  dsimp only at e2
  rw [e2]
def tRevS (te : TE) : TE := fun σ H Q => te σ H fun x H1 => ∃ z, x = .str z ∧ z.length ≤ sizeLine ∧ Q (.str (rv z)) H1
theorem e_revS {e : Expr} {te : TE} {k : Nat} {p1 p2 p3 pos : Pos} (he : PE X e te) :
    PE X (.Subscript e (.Slice none none (some (.UnaryOp .USub (.Constant (.int 1) k p1) p2)) p3) pos) (tRevS te) := by
  constructor
  intro pins s σ H Q I h
  refine Subscript_ (thn (he.run pins s σ H _ I h) fun v s1 hh => ?_)
  obtain ⟨x, H1, I1, r1, z, ez, hz, q⟩ := hh
  subst ez
  obtain ⟨t, rfl⟩ := r1
  have hst : PO X (some (.UnaryOp .USub (.Constant (.int 1) k p1) p2)) (tPart (tUn (rU fun i => .int (-i)) (tC (.int 1)))) :=
    po_some (pe_un un_neg pe_int)
  refine wpAny_Slice (thn (po_none.run pins s1 σ H1 (fun o H2 => o = none ∧ H2 = H1) I1 ⟨rfl, rfl⟩) ?_)
  rintro vl s2 ⟨l, H2, I2, pl, rfl, rfl⟩
  refine thn (po_none.run pins s2 σ H2 (fun o H3 => o = none ∧ H3 = H2) I2 ⟨rfl, rfl⟩) ?_
  rintro vu s3 ⟨u, H3, I3, pu, rfl, rfl⟩
  refine thn (hst.run pins s3 σ H3 (fun o H4 => o = some (-1) ∧ H4 = H3) I3 ⟨1, rfl, -1, rfl, rfl, rfl⟩) ?_
  rintro vs s4 ⟨o, H4, I4, ps, rfl, rfl⟩
  obtain ⟨l', rfl, hl'⟩ := IsPart.raw pl
  obtain ⟨u', rfl, hu'⟩ := IsPart.raw pu
  obtain ⟨k', rfl, hk'⟩ := IsPart.raw ps
  cases l' with
  | some l' => cases hl'
  | none =>
  cases u' with
  | some u' => cases hu'
  | none =>
  cases k' with
  | none => cases hk'
  | some k' =>
  obtain ⟨kk, tk⟩ := k'
  have ek : kk = -1 := by simpa using hk'
  subst ek
  refine tail_any (ops := [.str z t, .ref s4.heap.objs.size]) (typeIs_str _ _ _) (F.slot_str_getitem.lookup) ?_ (by with_unfolding_all rfl)
  refine wpAny_getItem_str_slice (l := none) (u := none) (st := some (-1, tk)) ⟨_, Heap.get?_push_size _ rfl, rfl, rfl⟩ rfl ?_
  refine post_val_or_str ⟨Nat.le_trans (Txt.sliceBy_le z _ _ (-1, tk) (by show (-1 : Int) ≠ 0; decide)) hz, fun t' c => ?_⟩
  show EP X pins σ Q (.str (Txt.sliceBy z none none (-1, tk)) t') _
  rw [rv_is]
  exact ⟨.str (rv z), _, I4.kept fun b ob q => Heap.get?_push_of_some _ q, ⟨_, rfl⟩, q⟩
end
end Rs
namespace K3
open PySem PySem.Spec PyProof.Rows L2
def top (i : Nat) : Stmt := PySem.Challenge.pw_roundswap_k03_words_listed.main.body.getD i (.Pass ⟨0, 0, 0, 0⟩)
abbrev sSignsOf : Stmt := top 1
abbrev sOpp : Stmt := top 2
abbrev sWords : Stmt := top 3
abbrev sBegin : Stmt := top 5
abbrev sDraw : Stmt := top 6
abbrev sAny : Stmt := top 7
abbrev sSame : Stmt := top 8
abbrev sLetters : Stmt := top 9
abbrev sSigns : Stmt := top 10
abbrev sBack : Stmt := top 11
abbrev sTimes : Stmt := top 12
abbrev sLaw : Stmt := top 13
theorem scSignsOf : FnScope ["letters", "letter", "sign"] ["letters"] (defScope sSignsOf) := ⟨rfl, rfl, rfl, by decide +kernel, rfl, by decide +kernel, by decide +kernel⟩
theorem scOpp : FnScope ["word"] ["word"] (defScope sOpp) := ⟨rfl, rfl, rfl, by decide +kernel, rfl, by decide +kernel, by decide +kernel⟩
theorem scBegin : FnScope ["_law_script", "_law_cell", "_law_marks", "_law_seed"] ["_law_script"] (defScope sBegin) := ⟨rfl, rfl, rfl, by decide +kernel, rfl, by decide +kernel, by decide +kernel⟩
theorem scDraw : FnScope ["_law_box", "_law_many", "_law_cell", "_law_digit", "_law_seed"] ["_law_box", "_law_many"] (defScope sDraw) := ⟨rfl, rfl, rfl, by decide +kernel, rfl, by decide +kernel, by decide +kernel⟩
theorem scAny : FnScope ["_law_box", "_law_some"] ["_law_box", "_law_some"] (defScope sAny) := ⟨rfl, rfl, rfl, by decide +kernel, rfl, by decide +kernel, by decide +kernel⟩
theorem scSame : FnScope ["_law_found", "_law_due", "_law_k"] ["_law_found", "_law_due"] (defScope sSame) := ⟨rfl, rfl, rfl, by decide +kernel, rfl, by decide +kernel, by decide +kernel⟩
theorem scLetters : FnScope ["_law_box", "_law_many", "_law_found", "_law_k", "_law_left", "_law_letter"] ["_law_box", "_law_many"] (defScope sLetters) := ⟨rfl, rfl, rfl, by decide +kernel, rfl, by decide +kernel, by decide +kernel⟩
theorem scSigns : FnScope ["_law_letters_z", "_law_letter"] ["_law_letters_z"] (defScope sSigns) := ⟨rfl, rfl, rfl, by decide +kernel, rfl, by decide +kernel, by decide +kernel⟩
theorem scBack : FnScope ["_law_sign"] ["_law_sign"] (defScope sBack) := ⟨rfl, rfl, rfl, by decide +kernel, rfl, by decide +kernel, by decide +kernel⟩
theorem scTimes : FnScope ["_law_first", "_law_factor", "_law_times_here", "_law_k"] ["_law_first", "_law_factor", "_law_times_here"] (defScope sTimes) := ⟨rfl, rfl, rfl, by decide +kernel, rfl, by decide +kernel, by decide +kernel⟩
theorem scLaw : FnScope ["_law_script", "_law_box", "_law_many", "_law_letters_z", "_law_signs_here", "_law_found", "_law_length_z", "_law_each", "_law_told", "_law_due", "_law_more", "_law_last", "_law_pairs", "_law_one", "_law_other", "_law_sign"] ["_law_script"] (defScope sLaw) := ⟨rfl, rfl, rfl, by decide +kernel, rfl, by decide +kernel, by decide +kernel⟩
abbrev NL : List Str := ["_law_script", "_law_box", "_law_many", "_law_letters_z", "_law_signs_here", "_law_found", "_law_length_z", "_law_each", "_law_told", "_law_due", "_law_more", "_law_last", "_law_pairs", "_law_one", "_law_other", "_law_sign"]
theorem gcWords : GScope ["letters", "length", "shorter", "word", "sign"] ["letters", "length"] (defScope sWords) := ⟨rfl, rfl, rfl, by decide +kernel, rfl, by decide +kernel, by decide +kernel⟩
structure Bn (mg : Str → Option Value) : Prop where
  len : mg "len" = none
  int : mg "int" = none
  isinst : mg "isinstance" = none
  list : mg "list" = none
  tuple : mg "tuple" = none
  all : mg "all" = none
  range : mg "range" = none
  bool : mg "bool" = none
  str : mg "str" = none
  enum : mg "enumerate" = none
def Bx (H : Hp) (b m : Addr) : Prop := ∃ (ms : List Int) (i r s : Int), H b = some (.lst [.ref m, .int i, .int r, .int s]) ∧ H m = some (.lst (ms.map V.int)) ∧ 0 ≤ i ∧ 0 ≤ r ∧ 0 ≤ s ∧ s < 2147483647
def BxTo (H H' : Hp) (b m : Addr) : Prop := Bx H' b m ∧ ∀ x, x ≠ b → H' x = H x
theorem Bx.put {H : Hp} {b m : Addr} {ms : List Int} {i r s i' r' s' : Int} (h : H b = some (.lst [.ref m, .int i, .int r, .int s])) (hm : H m = some (.lst (ms.map V.int))) (h1 : 0 ≤ i') (h2 : 0 ≤ r') (h3 : 0 ≤ s') (h4 : s' < 2147483647) :
    BxTo H (upd H b (.lst [.ref m, .int i', .int r', .int s'])) b m := by
  have nm : m ≠ b := fun e => by
    subst e
    rw [h] at hm
    cases ms with
    | nil => cases hm
    | cons x r => cases hm
  exact ⟨⟨ms, i', r', s', upd_same, by rw [upd_ne nm]; exact hm, h1, h2, h3, h4⟩, fun x hx => upd_ne hx⟩
theorem BxTo.trans {H H1 H2 : Hp} {b m : Addr} (x : BxTo H H1 b m) (y : BxTo H1 H2 b m) : BxTo H H2 b m := ⟨y.1, fun z hz => (y.2 z hz).trans (x.2 z hz)⟩
theorem BxTo.refl {H : Hp} {b m : Addr} (x : Bx H b m) : BxTo H H b m := ⟨x, fun _ _ => rfl⟩
section
variable {P : Program} {w : World} {K : PySem.W.Frag} {mg : Str → Option Value} {base : Heap}
def spDraw : Sp := fun vs H Q _ => ∃ (b m : Addr) (many : Int), vs = [.ref b, .int many] ∧ Bx H b m ∧ 0 < many ∧ many < 1000000 ∧ ∀ d H', 0 ≤ d → d < many → BxTo H H' b m → Q (.int d) H'
theorem ok_draw {f : Addr} {fd : FuncData} {k : Nat} (F : Fun K "_law_draw" "_law_draw" sDraw f fd) (B : Bn mg) : FnOk P w K mg base CX0 (k + 1) f fd ["_law_box", "_law_many"] spDraw := by
  refine F.ok scDraw (fun vs H Q E h => ?_) (fun cdv A outer s H vs Q E hr h => ?_)
  · obtain ⟨b, m, n, rfl, _⟩ := h
    rfl
  · obtain ⟨b, m, n, rfl, hB, h1, h2, q⟩ := h
    obtain ⟨t2, P2, R2⟩ : ∃ t2, PSs (cxOf CX0 P w K mg base ["_law_box", "_law_many", "_law_cell", "_law_digit", "_law_seed"] "_law_draw" (defScope sDraw) f cdv A outer s H E).nox ((defBody sDraw).drop 1) t2 ∧
        ∀ (y : Option V) (H' : Hp), BxTo H H' b m → t2 { nx := fun _ H' => Q .non H', rt := Q } [some (.ref b), some (.int n), y, none, none] H' := by
      refine ⟨_, pss_cons (ps_if (pt_cmpR op_gt (pe_ix ix_list (pv 0) pe_int (fun _ _ => rfl)) pe_int (nomark _))
          (pss_cons (ps_set (i := 3) scDraw.nd rfl (.inl rfl) (pe_op op_mod (pe_callTy call_int1 (by rfl) B.int boot_int (pa_cons (pe_ix ix_list (pv 0) pe_int (fun _ _ => rfl)) pa_nil)) (pv 1)))
          (pss_cons (ps_asg (pe_op op_fdivW (pe_ix ix_list (pv 0) pe_int (fun _ _ => rfl)) (pv 1)) (pg_sub (pv 0) pe_int set_list))
          (pss_one (ps_ret (pv 3))))) pss_nil)
        (pss_cons (ps_set (i := 4) scDraw.nd rfl (.inl rfl) (pe_ix ix_list (pv 0) pe_int (fun _ _ => rfl)))
        (pss_cons (ps_asg (pe_op op_mod (pe_op op_add (pe_op op_add (pe_op op_mul (pv 4) (pv 4)) (pe_op op_mul (pv 4) pe_int)) pe_int) pe_int) (pg_sub (pv 0) pe_int set_list))
        (pss_one (ps_ret (pe_op op_mod (pe_op op_add (pe_op op_fdiv (pe_ix ix_list (pv 0) pe_int (fun _ _ => rfl)) pe_int)
          (pe_op op_mul (pe_op op_mod (pe_callTy call_int1 (by rfl) B.int boot_int (pa_cons (pe_ix ix_list (pv 0) pe_int (fun _ _ => rfl)) pa_nil)) pe_int) pe_int)) (pv 1)))))), fun y H' hT => ?_⟩
      obtain ⟨⟨ms, i, r, s, hb, hm, k1, k2, k3, k4⟩, kp⟩ := id hT
      refine ⟨.ref b, rfl, b, _, 2, _, rfl, rfl, SqL.of hb, rfl, _, _, rfl, rfl, _, rfl, ite2 (fun e => ?_) (fun e => ?_)⟩
      · have hr0 : 0 < r := of_decide_eq_true e
        refine ⟨.ref b, rfl, b, _, 2, _, rfl, rfl, SqL.of hb, rfl, .inl ⟨_, rfl, _, rfl, _, _, rfl, rfl, h1, ?_⟩⟩
        refine ⟨.ref b, rfl, b, _, 2, _, rfl, rfl, SqL.of hb, rfl, _, rfl, _, _, rfl, rfl, wide_div (b := 20) h1 (by omega) (by decide) (by decide), ?_⟩
        refine ⟨.ref b, rfl, b, _, 2, 2, rfl, rfl, hb, rfl, _, rfl, ?_⟩
        refine q _ _ (Int.emod_nonneg _ (by omega)) (Int.emod_lt_of_pos _ h1) (hT.trans ?_)
        exact Bx.put hb hm k1 (Int.ediv_nonneg k2 (by omega)) k3 k4
      · refine ⟨.ref b, rfl, b, _, 3, _, rfl, rfl, SqL.of hb, rfl, ?_⟩
        refine ⟨_, rfl, _, rfl, _, _, rfl, rfl, .inl ⟨by omega, by omega⟩, _, rfl, _, _, rfl, rfl, .inl ⟨by omega, by omega⟩, _, _, rfl, rfl, _, _, rfl, rfl, _, _, rfl, rfl, (by show (0 : Int) < _; decide), ?_⟩
        refine ⟨.ref b, rfl, b, _, 3, 3, rfl, rfl, hb, rfl, ?_⟩
        have g1 : 0 ≤ (s * s + s * 61001 + 911) % 2147483647 := Int.emod_nonneg _ (by decide)
        have g2 : (s * s + s * 61001 + 911) % 2147483647 < 2147483647 := Int.emod_lt_of_pos _ (by decide)
        have bx := Bx.put (i' := i) (r' := r) (s' := (s * s + s * 61001 + 911) % 2147483647) hb hm k1 k2 g1 g2
        refine ⟨.ref b, rfl, b, _, 3, _, rfl, rfl, SqL.of upd_same, rfl, _, _, rfl, rfl, ⟨by decide, by decide⟩, ?_⟩
        refine ⟨.ref b, rfl, b, _, 3, _, rfl, rfl, SqL.of upd_same, rfl, .inl ⟨_, rfl, _, _, rfl, rfl, (by show (0 : Int) < _; decide), _, _, rfl, rfl, .inl ⟨by omega, by omega⟩, _, _, rfl, rfl, _, rfl, _, _, rfl, rfl, h1, ?_⟩⟩
        exact q _ _ (Int.emod_nonneg _ (by omega)) (Int.emod_lt_of_pos _ h1) (hT.trans bx)
    obtain ⟨ms, i, r, s, hb, hm, k1, k2, k3, k4⟩ := id hB
    refine ⟨_, pss_cons (ps_if (PW.pt (pw_and (pt_cmpR op_eq (pe_ix ix_list (pv 0) pe_int (fun _ _ => rfl)) pe_int (nomark _))
          (pw_and1 (pt_cmpR op_lt (pe_ix ix_list (pv 0) pe_int (fun _ _ => rfl)) (pe_callB call_len_seq (by rfl) B.len PySem.boot_len (pa_cons (pe_ix ix_list (pv 0) pe_int (fun _ _ => rfl)) pa_nil)) (nomark _)))))
        (pss_cons (ps_set (i := 2) scDraw.nd rfl (.inl rfl) (pe_ix ix_list (pe_ix ix_list (pv 0) pe_int (fun _ _ => rfl)) (pe_ix ix_list (pv 0) pe_int (fun _ _ => rfl)) (fun _ _ => rfl)))
        (pss_cons (ps_asg (pe_op op_add (pe_ix ix_list (pv 0) pe_int (fun _ _ => rfl)) pe_int) (pg_sub (pv 0) pe_int set_list))
        (pss_one (ps_if (pt_cmpR op_ge (pv 2) (pe_op op_pow pe_int pe_int) (nomark _))
          (pss_one (ps_asg (pv 2) (pg_sub (pv 0) pe_int set_list)))
          (pss_one (ps_asg (pe_op op_mod (pe_op op_add (pe_op op_add (pe_op op_mul (pe_ix ix_list (pv 0) pe_int (fun _ _ => rfl)) pe_int)
            (pe_op op_mul (pe_op op_mod (pe_callTy call_int1 (by rfl) B.int boot_int (pa_cons (pv 2) pa_nil)) pe_int) pe_int)) pe_int) pe_int) (pg_sub (pv 0) pe_int set_list)))))))
        pss_nil) P2, ?_⟩
    refine ⟨.ref b, rfl, b, _, 2, _, rfl, rfl, SqL.of hb, rfl, rfl, _, rfl, ite2 (fun e => ?_) (fun e => ?_)⟩
    · refine ⟨.ref b, rfl, b, _, 1, _, rfl, rfl, SqL.of hb, rfl, .ref b, rfl, b, _, 0, _, rfl, rfl, SqL.of hb, rfl, m, _, rfl, .inl (SqL.of hm), _, _, rfl, rfl, _, rfl, ite2 (fun e2 => ?_) (fun e2 => ?_)⟩
      · have hl : i < (ms.map V.int).length := of_decide_eq_true e2
        have hl2 : i.toNat < ms.length := by
          rw [List.length_map] at hl
          omega
        have ei : ((i.toNat : Nat) : Int) = i := by omega
        have hat : atI (ms.map V.int) i = some (.int ms[i.toNat]) := by
          have z : (ms.map V.int)[i.toNat]? = some (.int ms[i.toNat]) := by
            rw [List.getElem?_map, List.getElem?_eq_getElem hl2]
            rfl
          have z2 := atI_nat z
          rw [ei] at z2
          exact z2
        refine ⟨.ref b, rfl, b, _, 0, _, rfl, rfl, SqL.of hb, rfl, .ref b, rfl, b, _, 1, _, rfl, rfl, SqL.of hb, rfl, m, _, i, _, rfl, rfl, SqL.of hm, hat, ?_⟩
        generalize ms[i.toNat] = cell
        refine ⟨.ref b, rfl, b, _, 1, _, rfl, rfl, SqL.of hb, rfl, _, _, rfl, rfl, .ref b, rfl, b, _, 1, 1, rfl, rfl, hb, rfl, ?_⟩
        have bx1 := Bx.put (i' := i + 1) (r' := r) (s' := s) hb hm (by omega) k2 k3 k4
        have hb1 : upd H b (.lst [.ref m, .int (i + 1), .int r, .int s]) b = _ := upd_same
        have hm1 : upd H b (.lst [.ref m, .int (i + 1), .int r, .int s]) m = some (.lst (ms.map V.int)) := by
          obtain ⟨_, z⟩ := Bx.put (i' := i + 1) (r' := r) (s' := s) hb hm (by omega) k2 k3 k4
          rw [z m (fun e => by subst e; rw [hb] at hm; cases ms <;> cases hm)]
          exact hm
        refine ⟨_, rfl, _, _, rfl, rfl, ⟨by decide, by decide, by decide⟩, _, _, rfl, rfl, _, rfl, ite2 (fun e3 => ?_) (fun e3 => ?_)⟩
        · have hc : (10 : Int) ^ (18 : Int).toNat ≤ cell := of_decide_eq_true e3
          have hc0 : (0 : Int) ≤ (10 : Int) ^ (18 : Int).toNat := by decide
          refine ⟨_, rfl, .ref b, rfl, b, _, 2, 2, rfl, rfl, hb1, rfl, ?_⟩
          exact R2 _ _ (bx1.trans (Bx.put hb1 hm1 (by omega) (by omega) k3 k4))
        · refine ⟨.ref b, rfl, b, _, 3, _, rfl, rfl, SqL.of hb1, rfl, _, _, rfl, rfl, .inl ⟨by omega, by omega⟩, _, rfl, .inl ⟨_, rfl, _, _, rfl, rfl, (by show (0 : Int) < _; decide), _, _, rfl, rfl, .inl ⟨by omega, by omega⟩, _, _, rfl, rfl, _, _, rfl, rfl, _, _, rfl, rfl, (by show (0 : Int) < _; decide), ?_⟩⟩
          refine ⟨.ref b, rfl, b, _, 3, 3, rfl, rfl, hb1, rfl, ?_⟩
          exact R2 _ _ (bx1.trans (Bx.put hb1 hm1 (by omega) k2 (by omega) (by omega)))
      · exact R2 _ _ (.refl hB)
    · exact R2 _ _ (.refl hB)
end
abbrev tx (l : List Nat) : V := .str (SX.S l)
theorem tx_len (l : List Nat) : (SX.S l).length = l.length := SX.S_len l
theorem joinNil : ∀ ys : List (List Nat), TL.joinL [] ys = ys.flatten
  | [] => rfl
  | [p] => by simp [TL.joinL]
  | p :: q :: r => by
    show p ++ ([] ++ TL.joinL [] (q :: r)) = _
    rw [joinNil (q :: r)]
    rfl
theorem walk_txt (l : List Nat) : Walk (Its (SX.S l)) (l.map fun c => tx [c]).length (fun _ => True) (YAt (l.map fun c => tx [c])) := by
  have e : (SX.S l).cps.size = (l.map fun c => tx [c]).length := by simp
  have w := walk_str (z := SX.S l)
  rw [e] at w
  refine w.mono (fun _ h => h) (fun i H x H' hi _ y => ?_)
  obtain ⟨y1, c, y2, y3⟩ := y
  refine ⟨y1, ?_⟩
  rw [List.getElem?_map]
  have y4 : l[i]? = some c := by simpa using y2
  rw [y4, y3]
  rfl
theorem same_new {H : Hp} {p : Addr} {o : HO} (h : H p = none) : Same H (upd H p o) := fun b x e => by
  rw [upd_ne (ne_of_none e h)]
  exact e
theorem sqT_same {K : PySem.W.Frag} {H H' : Hp} {a : Addr} {xs : List V} (e : Same H H') (h : SqT K H a xs) : SqT K H' a xs := by
  rcases h with (h | ⟨o, h⟩) | h
  · exact .inl (.inl (e _ _ h))
  · exact .inl (.inr ⟨o, e _ _ h⟩)
  · exact .inr h
theorem take_more {α : Type} {l : List α} {i : Nat} {x : α} (h : l[i]? = some x) : l.take (i + 1) = l.take i ++ [x] := by
  rw [List.take_add_one, h]
  rfl
theorem lc_pure {J : It} {G : Hp → Prop} {xs : List V} (w : Walk J xs.length G (YAt xs)) {tt : TT} {te : TE} {σ : L2.St} {i : Nat} {H1 : Hp} {D : Addr} {Qd : Hp → Prop} (f : V → V) (keep : V → Bool) (hlen : xs.length < sizeLine) (hD : H1 D = none)
    (hG : ∀ H2, Same H1 H2 → G H2)
    (ht : ∀ x H2 Q, x ∈ xs → Same H1 H2 → Q (keep x) H2 → tt ((σ.set i none).set i (some x)) H2 Q)
    (he : ∀ x H2 Q, x ∈ xs → keep x = true → Same H1 H2 → (∀ H3, Same H2 H3 → Q (f x) H3) → te ((σ.set i none).set i (some x)) H2 Q)
    (hd : ∀ H2, Same H1 H2 → H2 D = some (.lst ((xs.filter keep).map f)) → Qd H2) :
    ∃ W : Nat → Nat → Hp → Prop, (∃ m, W 0 m (upd H1 D (.lst []))) ∧ ∀ j m H, W j m H →
      (J.stop j H ∧ Qd H) ∨ (J.go j H ∧ ∃ Nx : Hp → Prop, (∀ H', Nx H' → ∃ m', m' < m ∧ W (j + 1) m' H') ∧ ∀ x H', J.yld j H x H' → gName i x (wipe σ [i]) H' fun σ2 H2 => wipe σ2 [i] = wipe σ [i] ∧ tt σ2 H2 fun b H3 =>
        if b = true then te σ2 H3 fun v H4 => ∃ ac, H4 D = some (.lst ac) ∧ ac.length < sizeLine ∧ Nx (upd H4 D (.lst (ac ++ [v]))) else Nx H3) := by
  refine lc_it w (fun j H2 => Same H1 H2 ∧ H2 D = some (.lst (((xs.take j).filter keep).map f))) ⟨same_new hD, upd_same⟩ (fun j H2 _ h => hG H2 h.1) ?_ (fun H2 h => hd H2 h.1 (by have z := h.2; rw [List.take_length] at z; exact z))
  rintro j x H2 H2' hj ⟨sm, hd2⟩ ⟨rfl, hx⟩
  have hm : x ∈ xs := List.mem_of_getElem? hx
  refine ⟨?_, ?_⟩
  · show (((σ.set i none).set i (some x)).set i none) = σ.set i none
    rw [List.set_set, List.set_set]
  · refine ht x _ _ hm sm ?_
    have tk := take_more hx
    cases hk : keep x with
    | true =>
      refine iteT (he x _ _ hm hk sm fun H3 s3 => ⟨_, s3 _ _ hd2, ?_, ?_, ?_⟩)
      · rw [List.length_map]
        exact Nat.lt_of_le_of_lt (Nat.le_trans (List.length_filter_le _ _) (by rw [List.length_take]; omega)) hlen
      · intro b o e
        rw [upd_ne (ne_of_none e hD)]
        exact s3 _ _ (sm _ _ e)
      · rw [upd_same, tk, List.filter_append, List.map_append]
        simp [hk]
    | false =>
      refine iteF ⟨sm, ?_⟩
      rw [hd2, tk, List.filter_append]
      simp [hk]
section
variable {P : Program} {w : World} {K : PySem.W.Frag} {mg : Str → Option Value} {base : Heap}
def spAny : Sp := fun vs H Q _ => ∃ (b m p : Addr) (xs : List V), vs = [.ref b, .ref p] ∧ Bx H b m ∧ H p = some (.lst xs) ∧ p ≠ b ∧ xs ≠ [] ∧ xs.length < 1000000 ∧ ∀ x H', x ∈ xs → BxTo H H' b m → Q x H'
theorem ok_any {f fD : Addr} {fd fdD : FuncData} {k : Nat} (F : Fun K "_law_any" "_law_any" sAny f fd) (B : Bn mg) (FD : Fun K "_law_draw" "_law_draw" sDraw fD fdD) (bD : Binds K fdD ["_law_box", "_law_many"] []) (gD : mg "_law_draw" = some (.ref fD)) :
    FnOk P w K mg base CX0 (k + 2) f fd ["_law_box", "_law_some"] spAny := by
  have GD : FnOk P w K mg base CX0 (k + 1) fD fdD ["_law_box", "_law_many"] spDraw := ok_draw FD B
  refine F.ok scAny (fun vs H Q E h => ?_) (fun cdv A outer s H vs Q E hr h => ?_)
  · obtain ⟨b, m, p, xs, rfl, _⟩ := h
    rfl
  · obtain ⟨b, m, p, xs, rfl, hB, hp, hpb, hne, hl, q⟩ := h
    refine ⟨_, pss_one (ps_ret (pe_ix ix_list (pv 1) (pe_call GD hr (by rfl) gD FD.kp bD .nil pass0 (pa_cons (pv 0) (pa_cons (pe_callB call_len_seq (by rfl) B.len PySem.boot_len (pa_cons (pv 1) pa_nil)) pa_nil))) (fun _ _ => rfl))), ?_⟩
    have h0 : 0 < xs.length := List.length_pos_iff.mpr hne
    refine ⟨.ref p, rfl, .ref b, rfl, .ref p, rfl, p, xs, rfl, .inl (SqL.of hp), b, m, (xs.length : Int), rfl, hB, by omega, by omega, fun d H' d0 d1 hT => ?_⟩
    have hd : d.toNat < xs.length := by omega
    have hat : atI xs d = some xs[d.toNat] := by
      have z := atI_nat (List.getElem?_eq_getElem hd)
      rw [show ((d.toNat : Nat) : Int) = d by omega] at z
      exact z
    exact ⟨p, xs, d, _, rfl, rfl, SqL.of ((hT.2 p hpb).trans hp), hat, q _ _ (List.getElem_mem hd) hT⟩
def spBegin (K : PySem.W.Frag) : Sp := fun vs H Q _ => ∃ (a : Addr) (ns : List Int), vs = [.ref a] ∧ SqL K H a (ns.map V.int) ∧ ns.length ≤ 63 ∧ ∀ H' b m, Same H H' → H b = none → Bx H' b m → Q (.ref b) H'
theorem ok_begin {f : Addr} {fd : FuncData} {k : Nat} (F : Fun K "_law_begin" "_law_begin" sBegin f fd) (B : Bn mg) : FnOk P w K mg base CX0 (k + 1) f fd ["_law_script"] (spBegin K) := by
  refine F.ok scBegin (fun vs H Q E h => ?_) (fun cdv A outer s H vs Q E hr h => ?_)
  · obtain ⟨a, ns, rfl, _⟩ := h
    rfl
  · obtain ⟨a, ns, rfl, hS, hl, q⟩ := h
    refine ⟨_, pss_cons (ps_setLc (i := 2) (own := [("_law_cell", 1)]) (g := gName 1) (tt := tYes) rfl scBegin.nd rfl rfl (sw_true rfl rfl rfl (by decide +kernel)) (pi_list (pe_slice sl_list (pv 0) po_none (po_some pe_int)))
        (blkOk_by (N := ["_law_script", "_law_cell", "_law_marks", "_law_seed"]) (sc := defScope sBegin) (by decide +kernel)) (fun _ _ _ _ _ => pg_name (i := 1) scBegin.nd rfl (Or.inl rfl)) (fun _ _ _ _ _ => pts_nil)
        (fun _ _ _ _ _ => pe_callTy call_int1 (by rfl) B.int boot_int (pa_cons (pv 1) pa_nil)))
      (pss_cons (ps_set (i := 3) scBegin.nd rfl (.inl rfl) (pe_op op_add pe_int (pe_op op_mul pe_int (pe_callB call_len_seq (by rfl) B.len PySem.boot_len (pa_cons (pv 2) pa_nil)))))
      (pss_cons (ps_for PassesOwn.never rfl (pi_list (pv 2)) (pg_name (i := 1) scBegin.nd rfl (Or.inl rfl))
        (pss_one (ps_set (i := 3) scBegin.nd rfl (.inl rfl) (pe_op op_mod (pe_op op_add (pe_op op_add (pe_op op_mul (pv 3) pe_int) (pe_op op_mod (pe_callTy call_int1 (by rfl) B.int boot_int (pa_cons (pv 1) pa_nil)) pe_int)) pe_int) pe_int))))
      (pss_one (ps_ret (pe_lst (pa_cons (pv 2) (pa_cons pe_int (pa_cons pe_int (pa_cons (pv 3) pa_nil))))))))), ?_⟩
    obtain ⟨ms, hms, hcut⟩ : ∃ ms : List Int, ms.length ≤ 63 ∧ cutV (ns.map V.int) none (some 63) = ms.map V.int := by
      refine ⟨ns.take (HT.sIx (ns.map V.int).length (ns.map V.int).length (some 63) - HT.sIx (ns.map V.int).length 0 none), ?_, ?_⟩
      · rw [List.length_take]
        omega
      · unfold cutV
        rw [HT.sIx_none, List.drop_zero, List.map_take]
    refine ⟨.ref a, rfl, 63, rfl, a, _, rfl, hS, fun c nc => ?_⟩
    rw [hcut]
    refine ⟨c, rfl, ⟨_, SqL.of upd_same⟩, fun D nD => ?_⟩
    have s1 : Same H (upd H c (.lst (ms.map V.int))) := same_new nc
    refine lc_pure (walk_list (K := K) (a := c) (xs := ms.map V.int)) (σ := [some (.ref a), none, none, none]) (i := 1) id (fun _ => true) (by rw [List.length_map]; exact small1000 (by omega)) nD (fun H2 e => SqL.of (e _ _ upd_same)) (fun x H2 Q _ _ h => h) ?_ ?_
    · intro x H2 Q hx _ _ h
      obtain ⟨z, _, rfl⟩ := List.mem_map.mp hx
      exact ⟨_, rfl, .inl ⟨z, rfl, h H2 (Same.refl _)⟩⟩
    · intro H2 s2 hD
      have hf : ((ms.map V.int).filter fun _ => true).map id = ms.map V.int := by simp
      rw [hf] at hD
      have sm : Same H H2 := s1.trans s2
      refine ⟨.ref D, rfl, D, _, rfl, .inl (SqL.of hD), _, _, rfl, rfl, .inl ⟨by decide, by decide⟩, _, _, rfl, rfl, ?_⟩
      refine ⟨.ref D, rfl, D, rfl, ⟨_, SqL.of hD⟩, ?_⟩
      refine for_it (walk_list (K := K) (a := D) (xs := ms.map V.int)) (fun i σ H3 => ∃ (y : Option V) (sd : Int), σ = [some (.ref a), y, some (.ref D), some (.int sd)] ∧ H3 = H2 ∧ 0 ≤ sd ∧ sd < 2147483647) ⟨none, _, rfl, rfl, ?_, ?_⟩ (fun i σ H3 _ h => ?_) ?_ ?_
      · simp only [List.length_map]
        omega
      · simp only [List.length_map]
        omega
      · obtain ⟨_, _, _, rfl, _⟩ := h
        exact SqL.of hD
      · rintro i x σ H3 H3' hi ⟨y, sd, rfl, rfl, g1, g2⟩ ⟨rfl, hx⟩
        obtain ⟨z, _, rfl⟩ := List.mem_map.mp (List.mem_of_getElem? hx)
        refine ⟨_, rfl, _, _, rfl, rfl, .inl ⟨by omega, by omega⟩, _, rfl, .inl ⟨z, rfl, _, _, rfl, rfl, (by show (0 : Int) < _; decide), _, _, rfl, rfl, _, _, rfl, rfl, _, _, rfl, rfl, (by show (0 : Int) < _; decide), ?_⟩⟩
        exact ⟨_, _, rfl, rfl, Int.emod_nonneg _ (by decide), Int.emod_lt_of_pos _ (by decide)⟩
      · rintro σ H3 ⟨y, sd, rfl, rfl, g1, g2⟩
        refine ⟨_, rfl, _, rfl, (by show 4 ≤ sizeLine; decide), fun b nb => ?_⟩
        refine q _ b D (sm.trans (same_new nb)) (sm.free nb) ⟨ms, 0, 0, sd, upd_same, ?_, by omega, by omega, g1, g2⟩
        rw [upd_ne (ne_of_none hD nb)]
        exact hD
end
def menu : List Nat := [97, 98, 99, 100, 101, 102, 103, 104, 105, 106, 107, 108, 109, 110, 111, 112, 113, 114, 115, 116, 117, 118, 119, 120, 121, 122]
def mnu : List Nat := [97, 98, 109, 116, 120, 121, 122]
theorem mnu_sub : ∀ c ∈ mnu, c ∈ menu := by decide
def sw (c : Nat) : Nat := if 65 ≤ c ∧ c ≤ 90 then c + 32 else if 97 ≤ c ∧ c ≤ 122 then c - 32 else c
def opp (w : List Nat) : List Nat := w.reverse.map sw
def sg (L : List Nat) : List Nat := L.flatMap fun c => [c, c - 32]
def Asc (w : List Nat) : Prop := ∀ c ∈ w, c < 128
def Lt (L : List Nat) : Prop := (L.length ≤ 100 ∧ L.Nodup) ∧ ∀ c ∈ L, c ∈ menu
theorem menu_asc : ∀ c ∈ menu, c < 128 := by decide
theorem menu_up : ∀ c ∈ menu, up1 c = c - 32 := by decide
theorem sg_len (L : List Nat) : (sg L).length = 2 * L.length := by
  induction L with
  | nil => rfl
  | cons c r ih =>
    show ([c, c - 32] ++ sg r).length = 2 * (r.length + 1)
    rw [List.length_append, ih]
    simp only [List.length_cons, List.length_nil]
    omega
theorem upper1 {c : Nat} (h : c < 128) : Txt.upper (SX.S [c]) = SX.S [up1 c] := by
  have e := upper_ascii (x := SX.S [c]) (fun d hd => by
    have : d = c := by simpa using hd
    omega)
  rw [e]
  simp
theorem lower1 {c : Nat} (h : c < 128) : Txt.lower (SX.S [c]) = SX.S [lo1 c] := by
  have e := lower_ascii (x := SX.S [c]) (fun d hd => by
    have : d = c := by simpa using hd
    omega)
  rw [e]
  simp
theorem upperM {c : Nat} (h : c ∈ menu) : Txt.upper (SX.S [c]) = SX.S [c - 32] := by
  rw [upper1 (menu_asc c h), menu_up c h]
theorem isUpper_ascii : ∀ c, c < 128 → Unicode.isUpper c = decide (65 ≤ c ∧ c ≤ 90) := by decide +kernel
theorem isLower_ascii : ∀ c, c < 128 → Unicode.isLower c = decide (97 ≤ c ∧ c ≤ 122) := by decide +kernel
theorem swapS {w : List Nat} (hA : Asc w) : Txt.swapcase (SX.S w) = SX.S (w.map sw) := by
  unfold Txt.swapcase
  rw [placed_single (SX.S w) _ sw fun i c hc => ?_]
  · simp
  · have hc0 : w[i]? = some c := by simpa using hc
    have hlt := hA c (List.mem_of_getElem? hc0)
    have hc' : (SX.S w).cps[i]? = some c := by simpa using hc
    rw [isUpper_ascii c hlt, isLower_ascii c hlt]
    unfold sw
    by_cases h1 : 65 ≤ c ∧ c ≤ 90
    · rw [decide_eq_true h1, if_pos rfl, if_pos h1]
      unfold Unicode.lowerAt
      rw [hc']
      have hne : (c == 0x3A3) = false := by rw [beq_eq_false_iff_ne]; omega
      simp only [hne, Bool.false_and, Bool.false_eq_true, if_false]
      rw [lowerOf_ascii c hlt]
      unfold lo1
      rw [if_pos h1]
    · rw [decide_eq_false h1, if_neg Bool.false_ne_true, if_neg h1]
      by_cases h2 : 97 ≤ c ∧ c ≤ 122
      · rw [decide_eq_true h2, if_pos rfl, if_pos h2, upperOf_ascii c hlt]
        unfold up1
        rw [if_pos h2]
      · rw [decide_eq_false h2, if_neg Bool.false_ne_true, if_neg h2]
theorem rvS (w : List Nat) : Rs.rv (SX.S w) = SX.S w.reverse := by
  unfold Rs.rv
  simp
theorem oppS {w : List Nat} (hA : Asc w) : Txt.swapcase (Rs.rv (SX.S w)) = SX.S (opp w) := by
  rw [rvS, swapS (fun c hc => hA c (List.mem_reverse.mp hc))]
  rfl
theorem sw_sw (c : Nat) : sw (sw c) = c := by
  unfold sw
  repeat' split
  all_goals omega
theorem sw_lt {c : Nat} (h : c < 128) : sw c < 128 := by
  unfold sw
  repeat' split
  all_goals omega
theorem mem_in {w : List Nat} {c : Nat} {L : List Nat} : inV (tx [c]) (L.map fun d => tx [d]) = decide (c ∈ L) := by
  unfold inV
  induction L with
  | nil => rfl
  | cons d r ih =>
    rw [List.map_cons, List.any_cons, ih]
    show ((SX.S [d] == SX.S [c]) || _) = _
    rw [SX.S_beq_eq]
    by_cases h : d = c
    · subst h
      simp
    · have h2 : c ≠ d := fun e => h e.symm
      simp [h, h2]
theorem cut_last (l : List Nat) : cutS (SX.S l) none (some (-1)) = SX.S l.dropLast := by
  unfold cutS
  rw [HT.sIx_none, List.drop_zero, Nat.sub_zero]
  have e : HT.sIx (SX.S l).length (SX.S l).length (some (-1)) = l.length - 1 := by
    rw [tx_len]
    show (if (-1 : Int) < 0 then ((-1 : Int) + (l.length : Int)).toNat else min (-1 : Int).toNat l.length) = l.length - 1
    rw [if_pos (by decide)]
    omega
  rw [e, List.dropLast_eq_take]
theorem at_last {α : Type} {l : List α} {x : α} (h : l.getLast? = some x) : atI l (-1) = some x := by
  have hne : l ≠ [] := fun z => by subst z; cases h
  have hl : 0 < l.length := List.length_pos_iff.mpr hne
  unfold atI ixN
  rw [if_neg (by decide), if_pos (by omega)]
  show l[_]? = some x
  rw [List.getLast?_eq_getElem?] at h
  rw [← h]
  congr 1
  omega
theorem asc_le {w : List Nat} (h : w.length ≤ 1000) : (SX.S w).length ≤ sizeLine := by
  rw [tx_len]
  exact Nat.le_of_lt (small1000 h)
theorem asc_le2 {w : List Nat} (h : w.length ≤ 1000) : (SX.S w).length ≤ 5592405 := by
  rw [tx_len]
  omega
theorem asc1 {c : Nat} : (SX.S [c]).length ≤ 5592405 := asc_le2 (w := [c]) (by show 1 ≤ 1000; decide)
section
variable {P : Program} {w : World} {K : PySem.W.Frag} {mg : Str → Option Value} {base : Heap}
def spOpp : Sp := fun vs H Q _ => ∃ l : List Nat, vs = [tx l] ∧ l.length ≤ 1000 ∧ Asc l ∧ Q (tx (opp l)) H
theorem ok_opp {f : Addr} {fd : FuncData} {k : Nat} (F : Fun K "opposite" "opposite" sOpp f fd) : FnOk P w K mg base CX0 (k + 1) f fd ["word"] spOpp := by
  refine F.ok scOpp (fun vs H Q E h => ?_) (fun cdv A outer s H vs Q E hr h => ?_)
  · obtain ⟨l, rfl, _⟩ := h
    rfl
  · obtain ⟨l, rfl, hl, hA, q⟩ := h
    refine ⟨_, pss_one (ps_ret (pe_m0 PySem.F.slot_str_swapcase PySem.F.type_str_swapcase Rs.m_swapcase (Rs.e_revS (pv 0)))), ?_⟩
    refine ⟨_, rfl, _, rfl, asc_le hl, ⟨_, rfl⟩, _, rfl, rfl, ?_, ?_⟩
    · rw [rvS]
      exact asc_le2 (by rw [List.length_reverse]; exact hl)
    · rw [oppS hA]
      exact q
def spBack : Sp := fun vs H Q _ => ∃ c : Nat, vs = [tx [c]] ∧ c < 128 ∧ Q (tx [sw c]) H
theorem ok_back {f : Addr} {fd : FuncData} {k : Nat} (F : Fun K "_law_back" "_law_back" sBack f fd) : FnOk P w K mg base CX0 (k + 1) f fd ["_law_sign"] spBack := by
  refine F.ok scBack (fun vs H Q E h => ?_) (fun cdv A outer s H vs Q E hr h => ?_)
  · obtain ⟨l, rfl, _⟩ := h
    rfl
  · obtain ⟨c, rfl, hc, q⟩ := h
    refine ⟨_, pss_one (ps_ret (pe_ifExp (pt_cmpR op_eq (pv 0) (pe_lower (pv 0)) (nomark _)) (pe_upper (pv 0)) (pe_lower (pv 0)))), ?_⟩
    refine ⟨_, rfl, _, rfl, ⟨_, rfl⟩, _, rfl, rfl, asc1, rfl, _, rfl, ?_⟩
    rw [lower1 hc]
    refine ite2 (fun e => ?_) (fun e => ?_)
    · have e1 : c = lo1 c := by
        have z : tx [c] = tx [lo1 c] := of_decide_eq_true e
        have z2 := SX.S_inj (V.str.inj z)
        simpa using z2
      refine ⟨_, rfl, ⟨_, rfl⟩, _, rfl, rfl, asc1, ?_⟩
      rw [upper1 hc]
      have e2 : sw c = up1 c := by
        unfold sw up1
        unfold lo1 at e1
        repeat' split
        all_goals split at e1
        all_goals omega
      rw [← e2]
      exact q
    · have e1 : c ≠ lo1 c := fun z => e (by rw [← z]; exact decide_eq_true rfl)
      refine ⟨_, rfl, ⟨_, rfl⟩, _, rfl, rfl, asc1, ?_⟩
      rw [lower1 hc]
      have e2 : sw c = lo1 c := by
        unfold sw lo1
        unfold lo1 at e1
        split
        · rfl
        · split at e1
          · contradiction
          · exact absurd rfl e1
      rw [← e2]
      exact q
def spSigns : Sp := fun vs H Q _ => ∃ L : List Nat, vs = [tx L] ∧ Lt L ∧ ∀ H', Same H H' → Q (tx (sg L)) H'
theorem ok_signs {f : Addr} {fd : FuncData} {k : Nat} (F : Fun K "_law_signs" "_law_signs" sSigns f fd) : FnOk P w K mg base CX0 (k + 1) f fd ["_law_letters_z"] spSigns := by
  refine F.ok scSigns (fun vs H Q E h => ?_) (fun cdv A outer s H vs Q E hr h => ?_)
  · obtain ⟨l, rfl, _⟩ := h
    rfl
  · obtain ⟨L, rfl, hL, q⟩ := h
    refine ⟨_, pss_one (ps_ret (pe_join pe_str (pe_lc (own := [("_law_letter", 1)]) (g := gName 1) (tt := tYes) rfl scSigns.nd (pi_str (pv 0))
      (blkOk_by (N := ["_law_letters_z", "_law_letter"]) (sc := defScope sSigns) (by decide +kernel)) (fun _ _ _ _ _ => pg_name (i := 1) scSigns.nd rfl (Or.inl rfl)) (fun _ _ _ _ _ => pts_nil)
      (fun _ _ _ _ _ => pe_op op_add_str (pv 1) (pe_upper (pv 1)))))), ?_⟩
    refine ⟨⟨_, rfl⟩, _, rfl, _, rfl, fun D nD => ?_⟩
    refine lc_pure (walk_txt L) (σ := [some (tx L), none]) (i := 1) (fun v => match v with | .str z => .str (z ++ Txt.upper z) | v => v) (fun _ => true) (by rw [List.length_map]; exact small1000 (by have := hL.1; omega)) nD (fun _ _ => trivial) (fun x H2 Q _ _ h => h) ?_ ?_
    · intro x H2 Q hx _ _ h
      obtain ⟨c, hc, rfl⟩ := List.mem_map.mp hx
      refine ⟨_, rfl, _, rfl, ⟨_, rfl⟩, _, rfl, rfl, asc1, _, _, rfl, rfl, ?_, h H2 (Same.refl _)⟩
      rw [upperM (hL.2 c hc), tx_len, tx_len]
      show 2 ≤ sizeLine
      decide
    · intro H2 s2 hD
      refine ⟨_, D, (L.map fun c => [c, c - 32]).map SX.S, rfl, rfl, .inl (SqL.of ?_), ?_, ?_⟩
      · rw [hD]
        congr 2
        rw [List.filter_eq_self.mpr (by simp), List.map_map, List.map_map, List.map_map]
        refine List.map_congr_left fun c hc => ?_
        show V.str (SX.S [c] ++ Txt.upper (SX.S [c])) = V.str (SX.S [c, c - 32])
        rw [upperM (hL.2 c hc), SX.S_cat]
        rfl
      · rw [SX.lens, List.map_map]
        have e : ((List.length ∘ fun c => [c, c - 32]) : Nat → Nat) = fun _ => 2 := rfl
        have e3 : ∀ l : List Nat, (l.map fun _ => 2).sum = l.length * 2 := by
          intro l
          induction l with
          | nil => rfl
          | cons a r ih => rw [List.map_cons, List.sum_cons, ih, List.length_cons]; omega
        rw [e, e3]
        have h0 : (Str.ofString "").length = 0 := by decide
        rw [h0]
        have := hL.1
        simp only [Nat.mul_zero, Nat.add_zero]
        omega
      · have e := SX.join_S [] (L.map fun c => [c, c - 32])
        have e0 : (Str.ofString "") = SX.S [] := by decide
        rw [e0, e, joinNil]
        exact q H2 s2
end
theorem e0S : (Str.ofString "") = SX.S [] := by decide
theorem joinS (ys : List (List Nat)) : Txt.join (Str.ofString "") (ys.map SX.S) = SX.S ys.flatten := by
  rw [e0S, SX.join_S, joinNil]
theorem single_flat (w : List Nat) : (w.map fun c => [c]).flatten = w := by
  induction w with
  | nil => rfl
  | cons c r ih =>
    show [c] ++ (r.map fun c => [c]).flatten = c :: r
    rw [ih]
    rfl
theorem single_sum (w : List Nat) : (((w.map fun c => [c]).map SX.S).map (·.length)).sum = w.length := by
  rw [SX.lens, List.map_map]
  induction w with
  | nil => rfl
  | cons c r ih =>
    rw [List.map_cons, List.sum_cons, ih, List.length_cons]
    show 1 + r.length = _
    omega
def one (c : Nat) : V := tx [c]
theorem sg_nodup : ∀ {L : List Nat}, L.Nodup → (∀ c ∈ L, c ∈ menu) → (sg L).Nodup
  | [], _, _ => List.nodup_nil
  | c :: L, hn, hm => by
    have hr : ∀ d ∈ c :: L, 97 ≤ d ∧ d ≤ 122 := fun d hd => by
      have z : ∀ d ∈ menu, 97 ≤ d ∧ d ≤ 122 := by decide
      exact z d (hm d hd)
    have ih := sg_nodup (List.nodup_cons.mp hn).2 fun d hd => hm d (List.mem_cons_of_mem _ hd)
    have hc := hr c List.mem_cons_self
    have e : sg (c :: L) = c :: (c - 32) :: sg L := rfl
    have mem : ∀ x, x ∈ sg L → ∃ d ∈ L, x = d ∨ x = d - 32 := fun x hx => by
      unfold sg at hx
      obtain ⟨d, hd, h⟩ := List.mem_flatMap.mp hx
      exact ⟨d, hd, by simpa using h⟩
    rw [e, List.nodup_cons, List.nodup_cons]
    refine ⟨fun h => ?_, fun h => ?_, ih⟩
    · rcases List.mem_cons.mp h with z | z
      · omega
      · obtain ⟨d, hd, y⟩ := mem c z
        have := hr d (List.mem_cons_of_mem _ hd)
        rcases y with y | y
        · rw [y] at hn
          exact (List.nodup_cons.mp hn).1 hd
        · omega
    · obtain ⟨d, hd, y⟩ := mem _ h
      have := hr d (List.mem_cons_of_mem _ hd)
      rcases y with y | y
      · omega
      · have : c = d := by omega
        rw [this] at hn
        exact (List.nodup_cons.mp hn).1 hd
theorem sg_more {L : List Nat} {i c : Nat} (h : L[i]? = some c) : sg (L.take (i + 1)) = sg (L.take i) ++ [c, c - 32] := by
  unfold sg
  rw [take_more h, List.flatMap_append]
  simp
section
variable {P : Program} {w : World} {K : PySem.W.Frag} {mg : Str → Option Value} {base : Heap}
def spSof : Sp := fun vs H Q _ => ∃ L : List Nat, vs = [tx L] ∧ Lt L ∧ ∀ H' p, Same H H' → H p = none → H' p = some (.lst ((sg L).map one)) → Q (.ref p) H'
theorem ok_sof {f : Addr} {fd : FuncData} {k : Nat} (F : Fun K "signs_of" "signs_of" sSignsOf f fd) : FnOk P w K mg base CX0 (k + 1) f fd ["letters"] spSof := by
  refine F.ok scSignsOf (fun vs H Q E h => ?_) (fun cdv A outer s H vs Q E hr h => ?_)
  · obtain ⟨L, rfl, _⟩ := h
    rfl
  · obtain ⟨L, rfl, hL, q⟩ := h
    refine ⟨_, pss_one (ps_ret (pe_lc2 (own := [("letter", 1), ("sign", 2)]) (vs1 := [2]) (g := gName 1) (tt := tYes) (wi1 := iTup K (tTup (tCons (tVar 1) (tCons (tM0 (fun x xs H Q => ∃ a, x = .str a ∧ xs = [] ∧ a.length ≤ 5592405 ∧ Q (.str (Txt.upper a)) H) (tVar 1)) tNil)))) (g1 := gName 2) (tt1 := tYes) (te := tVar 2) rfl scSignsOf.nd (pi_str (pv 0))
      (blkOk_by (N := ["letters", "letter", "sign"]) (sc := defScope sSignsOf) (by decide +kernel)) (by decide) (fun _ _ _ _ _ => pg_name (i := 1) scSignsOf.nd rfl (Or.inl rfl)) (fun _ _ _ _ _ => pts_nil)
      (fun _ _ _ _ _ => pi_tup (pe_tup (pa_cons (pv 1) (pa_cons (pe_upper (pv 1)) pa_nil))))
      (fun _ _ _ _ _ => pg_name (i := 2) scSignsOf.nd rfl (Or.inl rfl)) (fun _ _ _ _ _ => pts_nil) (fun _ _ _ _ _ => pv 2))), ?_⟩
    refine ⟨_, rfl, _, rfl, fun D nD => ?_⟩
    refine ⟨fun i m H2 => m = L.length - i ∧ i ≤ L.length ∧ Same H H2 ∧ H2 D = some (.lst ((sg (L.take i)).map one)), ⟨_, rfl, Nat.zero_le _, same_new nD, upd_same⟩, ?_⟩
    rintro i m H2 ⟨rfl, hi, sm, hD⟩
    have w0 := walk_txt L
    by_cases hlt : i < L.length
    · have hlt' : i < (L.map fun c => tx [c]).length := by rw [List.length_map]; exact hlt
      refine .inr ⟨w0.goes i H2 hlt' trivial, fun H' => Same H H' ∧ H' D = some (.lst ((sg (L.take (i + 1))).map one)), fun H' h' => ⟨_, by omega, rfl, hlt, h'⟩, fun x H' y => ?_⟩
      obtain ⟨rfl, hx⟩ := w0.yields i H2 x H' hlt' trivial y
      rw [List.getElem?_map] at hx
      obtain ⟨c, hc⟩ : ∃ c, L[i]? = some c := ⟨_, List.getElem?_eq_getElem hlt⟩
      rw [hc] at hx
      obtain rfl : tx [c] = x := Option.some.inj hx
      have hcm := hL.2 c (List.mem_of_getElem? hc)
      refine ⟨rfl, ?_⟩
      dsimp only [tYes]
      rw [if_pos rfl]
      refine ⟨_, rfl, _, rfl, ⟨_, rfl⟩, _, rfl, rfl, asc1, (by show 2 ≤ sizeLine; decide), fun T nT => ?_⟩
      rw [upperM hcm]
      have hT : upd H' T (.tup [tx [c], tx [c - 32]]) T = some (.tup [one c, one (c - 32)]) := upd_same
      have sT : Same H' (upd H' T (.tup [tx [c], tx [c - 32]])) := same_new nT
      refine ⟨T, rfl, ⟨_, SqT.of hT⟩, ?_⟩
      have hll : (sg (L.take i)).length ≤ 200 := by
        rw [sg_len, List.length_take]
        have := hL.1
        omega
      refine ⟨fun j k H3 => k = 2 - j ∧ j ≤ 2 ∧ Same H H3 ∧ H3 T = some (.tup [one c, one (c - 32)]) ∧ H3 D = some (.lst ((sg (L.take i) ++ [c, c - 32].take j).map one)), ⟨_, rfl, by decide, sm.trans sT, hT, ?_⟩, ?_⟩
      · rw [sT _ _ hD]
        simp
      · rintro j k3 H3 ⟨rfl, hj, sm3, hT3, hD3⟩
        have w1 := walk_tup (K := K) (a := T) (xs := [one c, one (c - 32)])
        by_cases hj2 : j < 2
        · refine .inr ⟨w1.goes j H3 hj2 (SqT.of hT3), fun H' => Same H H' ∧ H' T = some (.tup [one c, one (c - 32)]) ∧ H' D = some (.lst ((sg (L.take i) ++ [c, c - 32].take (j + 1)).map one)), fun H' h' => ⟨_, by omega, rfl, hj2, h'⟩, fun x H4 y => ?_⟩
          obtain ⟨rfl, hx2⟩ := w1.yields j H3 x H4 hj2 (SqT.of hT3) y
          refine ⟨rfl, ?_⟩
          dsimp only
          rw [if_pos rfl]
          refine ⟨_, rfl, _, hD3, ?_, ?_, ?_, ?_⟩
          · rw [List.length_map, List.length_append]
            refine small1000 ?_
            have := List.length_take_le j [c, c - 32]
            have e2 : ([c, c - 32] : List Nat).length = 2 := rfl
            omega
          · intro b o e
            rw [upd_ne (ne_of_none e nD)]
            exact sm3 _ _ e
          · rw [upd_ne (ne_of hT3 hD3 (by intro z; cases z))]
            exact hT3
          · rw [upd_same]
            congr 2
            have hz : j = 0 ∨ j = 1 := by omega
            rcases hz with rfl | rfl
            · obtain rfl : one c = x := Option.some.inj hx2
              simp [one]
            · obtain rfl : one (c - 32) = x := Option.some.inj hx2
              simp [one]
        · have ej : j = 2 := by omega
          subst ej
          refine .inl ⟨w1.stops H3 (SqT.of hT3), sm3, ?_⟩
          rw [hD3, sg_more hc]
          rfl
    · have ei : i = L.length := by omega
      subst ei
      rw [List.take_length] at hD
      refine .inl ⟨?_, q H2 D sm nD hD⟩
      have z := w0.stops H2 trivial
      rw [List.length_map] at z
      exact z
end
def BxGo (H H' : Hp) (b m : Addr) : Prop := Bx H' b m ∧ ∀ x o, x ≠ b → H x = some o → H' x = some o
theorem BxTo.go {H H' : Hp} {b m : Addr} (h : BxTo H H' b m) : BxGo H H' b m := ⟨h.1, fun x o hx e => (h.2 x hx).trans e⟩
theorem BxGo.trans {H H1 H2 : Hp} {b m : Addr} (x : BxGo H H1 b m) (y : BxGo H1 H2 b m) : BxGo H H2 b m := ⟨y.1, fun z o hz e => y.2 z o hz (x.2 z o hz e)⟩
theorem BxGo.refl {H : Hp} {b m : Addr} (x : Bx H b m) : BxGo H H b m := ⟨x, fun _ _ _ e => e⟩
theorem Bx.same {H H' : Hp} {b m : Addr} (x : Bx H b m) (s : Same H H') : Bx H' b m := by
  obtain ⟨ms, i, r, t, h1, h2, h3⟩ := x
  exact ⟨ms, i, r, t, s _ _ h1, s _ _ h2, h3⟩
theorem BxGo.of {H H' : Hp} {b m : Addr} (x : Bx H b m) (s : Same H H') : BxGo H H' b m := ⟨x.same s, fun z o _ e => s _ _ e⟩
theorem Bx.some {H : Hp} {b m : Addr} (x : Bx H b m) : ∃ o, H b = some o := by
  obtain ⟨ms, i, r, t, h1, _⟩ := x
  exact ⟨_, h1⟩
theorem Bx.ne {H : Hp} {b m p : Addr} (x : Bx H b m) (h : H p = none) : p ≠ b := fun e => by
  obtain ⟨o, z⟩ := x.some
  rw [← e, h] at z
  cases z
theorem Bx.neM {H : Hp} {b m p : Addr} (x : Bx H b m) (h : H p = none) : p ≠ m := fun e => by
  obtain ⟨ms, i, r, t, _, h1, _⟩ := x
  rw [← e, h] at h1
  cases h1
theorem Bx.upd {H : Hp} {b m p : Addr} {o : HO} (x : Bx H b m) (h1 : p ≠ b) (h2 : p ≠ m) : Bx (upd H p o) b m := by
  obtain ⟨ms, i, r, t, e1, e2, e3⟩ := x
  exact ⟨ms, i, r, t, by rw [upd_ne (Ne.symm h1)]; exact e1, by rw [upd_ne (Ne.symm h2)]; exact e2, e3⟩
theorem BxGo.at {H H' : Hp} {b m p : Addr} {o : HO} (x : BxGo H H' b m) (hp : p ≠ b) (h : H p = some o) : H' p = some o := x.2 p o hp h
theorem BxGo.free {H H' : Hp} {b m p : Addr} (x : BxGo H H' b m) (h : H' p = none) : H p = none := by
  have hne := x.1.ne h
  cases e : H p with
  | none => rfl
  | some o => rw [x.2 p o hne e] at h; cases h
theorem menuS : Str.ofString "abmtxyz" = SX.S mnu := by decide
theorem left_ne {F : List Nat} (h : F.length ≤ 2) : mnu.filter (fun c => !decide (c ∈ F)) ≠ [] := by
  intro e
  have k : ∀ c ∈ mnu, c ∈ F := fun c hc => by
    have z := List.filter_eq_nil_iff.mp e c hc
    simpa using z
  have k1 := k 97 (by decide)
  have k2 := k 98 (by decide)
  have k3 := k 109 (by decide)
  match F, h with
  | [], _ => cases k1
  | [a], _ =>
    have e1 : 97 = a := by simpa using k1
    have e2 : 98 = a := by simpa using k2
    omega
  | [a, c], _ =>
    have e1 : 97 = a ∨ 97 = c := by simpa using k1
    have e2 : 98 = a ∨ 98 = c := by simpa using k2
    have e3 : 109 = a ∨ 109 = c := by simpa using k3
    omega
section
variable {P : Program} {w : World} {K : PySem.W.Frag} {mg : Str → Option Value} {base : Heap}
def spLet : Sp := fun vs H Q _ => ∃ (b m : Addr) (n : Nat), vs = [.ref b, .int n] ∧ Bx H b m ∧ 1 ≤ n ∧ n ≤ 3 ∧ ∀ L H', (L.length = n ∧ L.Nodup) → (∀ c ∈ L, c ∈ mnu) → BxGo H H' b m → Q (tx L) H'
theorem ok_let {f fA : Addr} {fd fdA : FuncData} {k : Nat} (F : Fun K "_law_letters" "_law_letters" sLetters f fd) (B : Bn mg) (GA : FnOk P w K mg base CX0 (k + 2) fA fdA ["_law_box", "_law_some"] spAny) (kA : PySem.W.keepIn K (.ref fA) = true) (bA : Binds K fdA ["_law_box", "_law_some"] []) (gA : mg "_law_any" = some (.ref fA)) :
    FnOk P w K mg base CX0 (k + 3) f fd ["_law_box", "_law_many"] spLet := by
  refine F.ok scLetters (fun vs H Q E h => ?_) (fun cdv A outer s H vs Q E hr h => ?_)
  · obtain ⟨b, m, n, rfl, _⟩ := h
    rfl
  · obtain ⟨b, m, n, rfl, hB, h1, h3, q⟩ := h
    refine ⟨_, pss_cons (ps_set (i := 2) scLetters.nd rfl (.inr rfl) pe_str)
      (pss_cons (ps_for PassesOwn.never rfl (pi_range1 (by rfl) B.range (pa_cons (pv 1) pa_nil)) (pg_name (i := 3) scLetters.nd rfl (Or.inl rfl))
        (pss_cons (ps_setLc (i := 4) (own := [("_law_letter", 5)]) (g := gName 5) (tt := tTest (tOp (fun x y H Q => ∃ (c : Nat) (z : Str), x = .str ⟨#[c]⟩ ∧ y = .str z ∧ Q (.bl (!decide (c ∈ z.cps.toList))) H) (tVar 5) (tVar 2))) (te := tVar 5) rfl scLetters.nd rfl rfl (sw_true rfl rfl rfl (by decide +kernel)) (pi_str pe_str)
          (blkOk_by (N := ["_law_box", "_law_many", "_law_found", "_law_k", "_law_left", "_law_letter"]) (sc := defScope sLetters) (by decide +kernel)) (fun _ _ _ _ _ => pg_name (i := 5) scLetters.nd rfl (Or.inl rfl)) (fun _ _ _ _ _ => pts_one (pt_cmpR op_notIn_sign (pv 5) (pv 2) (by rfl)))
          (fun _ _ _ _ _ => pv 5))
        (pss_one (ps_set (i := 2) scLetters.nd rfl (.inr rfl) (pe_op op_add_str (pv 2) (pe_call GA hr (by rfl) gA kA bA .nil pass0 (pa_cons (pv 0) (pa_cons (pv 4) pa_nil))))))))
      (pss_one (ps_ret (pv 2)))), ?_⟩
    refine ⟨_, rfl, (n : Int), rfl, by omega, by omega, ?_⟩
    refine for_it (walk_range (lo := 0) (n := (n : Int).toNat)) (fun i σ H2 => ∃ (Fd : List Nat) (y3 y4 : Option V), σ = [some (.ref b), some (.int n), some (tx Fd), y3, y4, none] ∧ (Fd.length = i ∧ Fd.Nodup) ∧ (∀ c ∈ Fd, c ∈ mnu) ∧ BxGo H H2 b m)
      ⟨[], none, none, ?_, ⟨rfl, List.nodup_nil⟩, (fun c hc => nomatch hc), .refl hB⟩ (fun _ _ _ _ _ => trivial) ?_ ?_
    · show [some (V.ref b), some (.int n), some (.str (Str.ofString "")), none, none, none] = _
      rw [e0S]
    · rintro i x σ H2 H2' hi ⟨Fd, y3, y4, rfl, ⟨hlen, hnd⟩, hmn, hgo⟩ ⟨rfl, rfl⟩
      refine ⟨_, rfl, fun D nD => ?_⟩
      rw [menuS]
      refine lc_pure (walk_txt mnu) (σ := [some (.ref b), some (.int n), some (tx Fd), some (.int (0 + i)), y4, none]) (i := 5) id (fun v => match v with | .str z => !decide (z.cps.toList.headD 0 ∈ Fd) | _ => true) (by decide) nD (fun _ _ => trivial) ?_ ?_ ?_
      · intro x H3 Q hx _ h
        obtain ⟨c, hc, rfl⟩ := List.mem_map.mp hx
        exact ⟨_, rfl, _, rfl, c, _, rfl, rfl, _, rfl, by simpa using h⟩
      · intro x H3 Q hx _ _ h
        exact ⟨_, rfl, h H3 (Same.refl _)⟩
      · intro H3 s3 hD
        have bx3 : Bx H3 b m := hgo.1.same s3
        have hDb : D ≠ b := hgo.1.ne nD
        have eL : (((mnu.map fun c => tx [c]).filter (fun v => match v with | .str z => !decide (z.cps.toList.headD 0 ∈ Fd) | _ => true)).map id) = (mnu.filter (fun c => !decide (c ∈ Fd))).map one := by
          rw [List.map_id, List.filter_map]
          rfl
        rw [eL] at hD
        have hne := left_ne (F := Fd) (by rw [hlen]; omega)
        refine ⟨_, rfl, _, rfl, _, rfl, b, m, D, _, rfl, bx3, hD, hDb, (by simpa using hne), ?_, fun x H4 hx hT => ?_⟩
        · rw [List.length_map]
          have := List.length_filter_le (fun c => !decide (c ∈ Fd)) mnu
          have e7 : mnu.length = 7 := rfl
          omega
        · obtain ⟨c, hc, rfl⟩ := List.mem_map.mp hx
          have hcm : c ∈ mnu := (List.mem_filter.mp hc).1
          refine ⟨_, _, rfl, rfl, ?_, Fd ++ [c], some (.int (0 + i)), some (.ref D), ?_, ?_, ?_, ?_⟩
          · rw [tx_len, tx_len]
            exact Nat.le_of_lt (small1000 (by simp; omega))
          · rw [SX.S_cat]
            rfl
          · refine ⟨by rw [List.length_append, hlen]; rfl, ?_⟩
            rw [List.nodup_append]
            refine ⟨hnd, List.nodup_cons.mpr ⟨by simp, List.nodup_nil⟩, fun a ha b hb e => ?_⟩
            have eb : b = c := by simpa using hb
            have hcF := (List.mem_filter.mp hc).2
            rw [e, eb] at ha
            simp [ha] at hcF
          · intro d hd
            rcases List.mem_append.mp hd with z | z
            · exact hmn d z
            · have e : d = c := by simpa using z
              rw [e]
              exact hcm
          · exact (hgo.trans (.of hgo.1 s3)).trans hT.go
    · rintro σ H2 ⟨Fd, y3, y4, rfl, ⟨hlen, hnd⟩, hmn, hgo⟩
      refine ⟨_, rfl, q Fd H2 ⟨?_, hnd⟩ hmn hgo⟩
      rw [hlen]
      omega
end
def Flat (x : V) : Prop := (∃ i, x = .int i) ∨ (∃ z, x = .str z) ∨ (∃ b, x = .bl b)
def Eqd : Nat → Hp → V → V → Prop
  | 0, _, x, y => x = y ∧ Flat x
  | n + 1, H, x, y => (x = y ∧ Flat x) ∨ ∃ (p q : Addr) (xs ys : List V), x = .ref p ∧ y = .ref q ∧ xs.length = ys.length ∧ xs.length ≤ 1000 ∧
      ((H p = some (.lst xs) ∧ H q = some (.lst ys)) ∨ (H p = some (.tup xs) ∧ H q = some (.tup ys))) ∧ ∀ (i : Nat) (u v : V), xs[i]? = some u → ys[i]? = some v → Eqd n H u v
theorem Eqd.same {H H' : Hp} (s : Same H H') : ∀ {n : Nat} {x y : V}, Eqd n H x y → Eqd n H' x y := by
  intro n
  induction n with
  | zero => exact fun h => h
  | succ n ih =>
    rintro x y (h | ⟨p, q, xs, ys, e1, e2, e3, e4, e5, e6⟩)
    · exact .inl h
    · refine .inr ⟨p, q, xs, ys, e1, e2, e3, e4, ?_, fun i u v h1 h2 => ih (e6 i u v h1 h2)⟩
      rcases e5 with ⟨a, b⟩ | ⟨a, b⟩
      · exact .inl ⟨s _ _ a, s _ _ b⟩
      · exact .inr ⟨s _ _ a, s _ _ b⟩
theorem Eqd.flat {H : Hp} {x : V} {n : Nat} (h : Flat x) : Eqd n H x x := by
  cases n with
  | zero => exact ⟨rfl, h⟩
  | succ n => exact .inl ⟨rfl, h⟩
section
variable {P : Program} {w : World} {K : PySem.W.Frag} {mg : Str → Option Value} {base : Heap}
def spSame (n : Nat) : Sp := fun vs H Q _ => ∃ x y : V, vs = [x, y] ∧ Eqd n H x y ∧ ∀ H', Same H H' → Q (.bl true) H'
abbrev N3 : List Str := ["_law_found", "_law_due", "_law_k"]
theorem same_flat {f : Addr} {k : Nat} (B : Bn mg) {cdv : Value} {A : Around} {outer : List Env} {s : Shared} {H : Hp} {Q : VK} {E : XK} :
    ∃ t2, PSs (cxOf CX0 P w K mg base N3 "_law_same" (defScope sSame) f cdv A outer s H E).nox ((defBody sSame).drop 1) t2 ∧
      ∀ (x : V) (H' : Hp), Flat x → Q (.bl true) H' → t2 { nx := fun _ H' => Q .non H', rt := Q } [some x, some x, none] H' := by
  refine ⟨_, pss_cons (ps_if (PW.pt (pw_or (pt_cmpR op_isN (pv 1) pe_non (nomark _)) (pw_or1 (pt_cmpR op_isN (pv 0) pe_non (nomark _))))) pss_never pss_nil)
    (pss_cons (ps_if (PW.pt (pw_or
        (pt_cmpR op_ne (pe_callB call_isi (by rfl) B.isinst boot_isinstance (pa_cons (pv 1) (pa_cons (pe_bltn (v := .ty "bool") (by rfl) B.bool PyProof.Rows.boot_bool rfl) pa_nil))) (pe_callB call_isi (by rfl) B.isinst boot_isinstance (pa_cons (pv 0) (pa_cons (pe_bltn (v := .ty "bool") (by rfl) B.bool PyProof.Rows.boot_bool rfl) pa_nil))) (nomark _))
        (pw_or1 (pt_cmpR op_ne (pe_callB call_isi (by rfl) B.isinst boot_isinstance (pa_cons (pv 1) (pa_cons (pe_bltn (v := .ty "int") (by rfl) B.int PyProof.Rows.boot_int rfl) pa_nil))) (pe_callB call_isi (by rfl) B.isinst boot_isinstance (pa_cons (pv 0) (pa_cons (pe_bltn (v := .ty "int") (by rfl) B.int PyProof.Rows.boot_int rfl) pa_nil))) (nomark _))))) pss_never pss_nil)
    (pss_one (ps_ret (pe_and (pe_cmpR op_eq (pe_callB call_isi (by rfl) B.isinst boot_isinstance (pa_cons (pv 1) (pa_cons (pe_bltn (v := .ty "str") (by rfl) B.str PyProof.Rows.boot_str rfl) pa_nil))) (pe_callB call_isi (by rfl) B.isinst boot_isinstance (pa_cons (pv 0) (pa_cons (pe_bltn (v := .ty "str") (by rfl) B.str PyProof.Rows.boot_str rfl) pa_nil))) (nomark _))
      (pe_one (pe_cmpR op_eq (pv 0) (pv 1) (nomark _))))))), fun x H' hx q => ?_⟩
  rcases hx with ⟨i, rfl⟩ | ⟨z, rfl⟩ | ⟨b, rfl⟩
  · refine ⟨_, rfl, rfl, false, rfl, iteF ⟨_, rfl, rfl, false, rfl, iteF ?_⟩⟩
    refine ⟨_, rfl, _, _, _, _, false, rfl, .ty _, .base (.int i), kit_ty (by decide +kernel), _, rfl, _, _, _, _, false, rfl, .ty _, .base (.int i), kit_ty (by decide +kernel), rfl, false, rfl, iteF ?_⟩
    refine ⟨_, rfl, _, _, _, _, true, rfl, .ty _, .base (.int i), kit_ty (by decide +kernel), _, rfl, _, _, _, _, true, rfl, .ty _, .base (.int i), kit_ty (by decide +kernel), rfl, false, rfl, iteF ?_⟩
    refine ⟨_, rfl, _, _, _, _, false, rfl, .ty _, .base (.int i), kit_ty (by decide +kernel), _, rfl, _, _, _, _, false, rfl, .ty _, .base (.int i), kit_ty (by decide +kernel), rfl, true, rfl, iteT ?_⟩
    refine ⟨_, rfl, _, rfl, rfl, ?_⟩
    rw [decide_eq_true rfl]
    exact q
  · refine ⟨_, rfl, rfl, false, rfl, iteF ⟨_, rfl, rfl, false, rfl, iteF ?_⟩⟩
    refine ⟨_, rfl, _, _, _, _, false, rfl, .ty _, .base (.str z), kit_ty (by decide +kernel), _, rfl, _, _, _, _, false, rfl, .ty _, .base (.str z), kit_ty (by decide +kernel), rfl, false, rfl, iteF ?_⟩
    refine ⟨_, rfl, _, _, _, _, false, rfl, .ty _, .base (.str z), kit_ty (by decide +kernel), _, rfl, _, _, _, _, false, rfl, .ty _, .base (.str z), kit_ty (by decide +kernel), rfl, false, rfl, iteF ?_⟩
    refine ⟨_, rfl, _, _, _, _, true, rfl, .ty _, .base (.str z), kit_ty (by decide +kernel), _, rfl, _, _, _, _, true, rfl, .ty _, .base (.str z), kit_ty (by decide +kernel), rfl, true, rfl, iteT ?_⟩
    refine ⟨_, rfl, _, rfl, rfl, ?_⟩
    rw [decide_eq_true rfl]
    exact q
  · refine ⟨_, rfl, rfl, false, rfl, iteF ⟨_, rfl, rfl, false, rfl, iteF ?_⟩⟩
    refine ⟨_, rfl, _, _, _, _, true, rfl, .ty _, .base (.bl b), kit_ty (by decide +kernel), _, rfl, _, _, _, _, true, rfl, .ty _, .base (.bl b), kit_ty (by decide +kernel), rfl, false, rfl, iteF ?_⟩
    refine ⟨_, rfl, _, _, _, _, true, rfl, .ty _, .base (.bl b), kit_ty (by decide +kernel), _, rfl, _, _, _, _, true, rfl, .ty _, .base (.bl b), kit_ty (by decide +kernel), rfl, false, rfl, iteF ?_⟩
    refine ⟨_, rfl, _, _, _, _, false, rfl, .ty _, .base (.bl b), kit_ty (by decide +kernel), _, rfl, _, _, _, _, false, rfl, .ty _, .base (.bl b), kit_ty (by decide +kernel), rfl, true, rfl, iteT ?_⟩
    refine ⟨_, rfl, _, rfl, rfl, ?_⟩
    rw [decide_eq_true rfl]
    exact q
theorem ty2 {t : Value} {b1 b2 b : Bool} (h1 : PySem.W.kitOne K t (.type "list") = some b1) (h2 : PySem.W.kitOne K t (.type "tuple") = some b2) (hb : b = (b1 || b2)) : PySem.W.kitAny K t [.type "list", .type "tuple"] = some b := by
  subst hb
  refine kitAny_cons h1 (fun e => ?_) (fun e => by rw [e]; rfl)
  subst e
  show PySem.W.kitAny K t [.type "tuple"] = some b2
  exact kitAny_cons h2 (fun e2 => by rw [e2]; rfl) (fun e2 => e2)
theorem ok_same {f : Addr} {fd : FuncData} (F : Fun K "_law_same" "_law_same" sSame f fd) (B : Bn mg) (b0 : Binds K fd ["_law_found", "_law_due"] []) (g0 : mg "_law_same" = some (.ref f)) :
    ∀ n : Nat, FnOk P w K mg base CX0 (n + 1) f fd ["_law_found", "_law_due"] (spSame n) := by
  intro n
  induction n with
  | zero =>
    refine F.ok scSame (fun vs H Q E h => ?_) (fun cdv A outer s H vs Q E hr h => ?_)
    · obtain ⟨x, y, rfl, _⟩ := h
      rfl
    · obtain ⟨x, y, rfl, ⟨rfl, hx⟩, q⟩ := h
      obtain ⟨t2, P2, R2⟩ := same_flat (P := P) (w := w) (K := K) (base := base) (f := f) (k := 0) B (cdv := cdv) (A := A) (outer := outer) (s := s) (H := H) (Q := Q) (E := E)
      refine ⟨_, pss_cons (ps_if (pt_val (pe_callB call_isiT (by rfl) B.isinst boot_isinstance (pa_cons (pv 1) (pa_cons (pe_tup (pa_cons (pe_bltn (v := .ty "list") (by rfl) B.list PyProof.Rows.boot_list rfl) (pa_cons (pe_bltn (v := .ty "tuple") (by rfl) B.tuple PyProof.Rows.boot_tuple rfl) pa_nil))) pa_nil)))) pss_never pss_nil) P2, ?_⟩
      refine ⟨_, rfl, (by show 2 ≤ sizeLine; decide), fun T nT => ?_⟩
      have cl : Paired ClsV [V.ty "list", V.ty "tuple"] [.type "list", .type "tuple"] := .cons (.ty _) (.cons (.ty _) .nil)
      have fin := R2 x (upd H T (.tup [.ty "list", .ty "tuple"])) hx (q _ (same_new nT))
      rcases hx with ⟨i, rfl⟩ | ⟨z, rfl⟩ | ⟨b, rfl⟩
      · exact ⟨_, T, _, _, _, false, rfl, upd_same, cl, .base (.int i), ty2 (kit_ty (r := false) (by decide +kernel)) (kit_ty (r := false) (by decide +kernel)) rfl, _, rfl, iteF fin⟩
      · exact ⟨_, T, _, _, _, false, rfl, upd_same, cl, .base (.str z), ty2 (kit_ty (r := false) (by decide +kernel)) (kit_ty (r := false) (by decide +kernel)) rfl, _, rfl, iteF fin⟩
      · exact ⟨_, T, _, _, _, false, rfl, upd_same, cl, .base (.bl b), ty2 (kit_ty (r := false) (by decide +kernel)) (kit_ty (r := false) (by decide +kernel)) rfl, _, rfl, iteF fin⟩
  | succ n ih =>
    refine F.ok scSame (fun vs H Q E h => ?_) (fun cdv A outer s H vs Q E hr h => ?_)
    · obtain ⟨x, y, rfl, _⟩ := h
      rfl
    · obtain ⟨x, y, rfl, hE, q⟩ := h
      obtain ⟨t2, P2, R2⟩ := same_flat (P := P) (w := w) (K := K) (base := base) (f := f) (k := 0) B (cdv := cdv) (A := A) (outer := outer) (s := s) (H := H) (Q := Q) (E := E)
      refine ⟨_, pss_cons (ps_if (pt_val (pe_callB call_isiT (by rfl) B.isinst boot_isinstance (pa_cons (pv 1) (pa_cons (pe_tup (pa_cons (pe_bltn (v := .ty "list") (by rfl) B.list PyProof.Rows.boot_list rfl) (pa_cons (pe_bltn (v := .ty "tuple") (by rfl) B.tuple PyProof.Rows.boot_tuple rfl) pa_nil))) pa_nil))))
        (pss_cons (ps_if (PW.pt (pw_or
          (pt_cmpR op_ne (pe_callB call_isi (by rfl) B.isinst boot_isinstance (pa_cons (pv 0) (pa_cons (pe_bltn (v := .ty "list") (by rfl) B.list PyProof.Rows.boot_list rfl) pa_nil))) (pe_callB call_isi (by rfl) B.isinst boot_isinstance (pa_cons (pv 1) (pa_cons (pe_bltn (v := .ty "list") (by rfl) B.list PyProof.Rows.boot_list rfl) pa_nil))) (nomark _))
          (pw_or1 (pt_cmpR op_ne (pe_callB call_isi (by rfl) B.isinst boot_isinstance (pa_cons (pv 0) (pa_cons (pe_bltn (v := .ty "tuple") (by rfl) B.tuple PyProof.Rows.boot_tuple rfl) pa_nil))) (pe_callB call_isi (by rfl) B.isinst boot_isinstance (pa_cons (pv 1) (pa_cons (pe_bltn (v := .ty "tuple") (by rfl) B.tuple PyProof.Rows.boot_tuple rfl) pa_nil))) (nomark _))))) pss_never pss_nil)
        (pss_one (ps_ret (pe_and (pe_cmpR op_eq (pe_callB call_len_seq (by rfl) B.len PySem.boot_len (pa_cons (pv 0) pa_nil)) (pe_callB call_len_seq (by rfl) B.len PySem.boot_len (pa_cons (pv 1) pa_nil)) (nomark _))
          (pe_one (pe_callB (cr_all rfl) (by rfl) B.all boot_all (pa_cons (pe_lc (own := [("_law_k", 2)]) (g := gName 2) (tt := tYes)
            (te := tCall (spSame n) [] E0 (tCons (tOp (rIx K) (tVar 0) (tVar 2)) (tCons (tOp (rIx K) (tVar 1) (tVar 2)) tNil)))
            rfl scSame.nd (pi_range1 (by rfl) B.range (pa_cons (pe_callB call_len_seq (by rfl) B.len PySem.boot_len (pa_cons (pv 1) pa_nil)) pa_nil))
            (blkOk_by (N := N3) (sc := defScope sSame) (by decide +kernel)) (fun _ _ _ _ _ => pg_name (i := 2) scSame.nd rfl (Or.inl rfl)) (fun _ _ _ _ _ => pts_nil)
            (fun _ _ _ _ _ => pe_call ih hr (by rfl) g0 F.kp b0 .nil pass0 (pa_cons (pe_ix ix_seq (pv 0) (pv 2) (fun _ _ => rfl)) (pa_cons (pe_ix ix_seq (pv 1) (pv 2) (fun _ _ => rfl)) pa_nil)))) pa_nil))))))) pss_nil) P2, ?_⟩
      refine ⟨_, rfl, (by show 2 ≤ sizeLine; decide), fun T nT => ?_⟩
      have cl : Paired ClsV [V.ty "list", V.ty "tuple"] [.type "list", .type "tuple"] := .cons (.ty _) (.cons (.ty _) .nil)
      have sT : Same H (upd H T (.tup [.ty "list", .ty "tuple"])) := same_new nT
      rcases hE with ⟨rfl, hx⟩ | ⟨p, p2, xs, ys, rfl, rfl, hl, hl2, hp, hi⟩
      · have fin := R2 x (upd H T (.tup [.ty "list", .ty "tuple"])) hx (q _ sT)
        rcases hx with ⟨i, rfl⟩ | ⟨z, rfl⟩ | ⟨b, rfl⟩
        · exact ⟨_, T, _, _, _, false, rfl, upd_same, cl, .base (.int i), ty2 (kit_ty (r := false) (by decide +kernel)) (kit_ty (r := false) (by decide +kernel)) rfl, _, rfl, iteF fin⟩
        · exact ⟨_, T, _, _, _, false, rfl, upd_same, cl, .base (.str z), ty2 (kit_ty (r := false) (by decide +kernel)) (kit_ty (r := false) (by decide +kernel)) rfl, _, rfl, iteF fin⟩
        · exact ⟨_, T, _, _, _, false, rfl, upd_same, cl, .base (.bl b), ty2 (kit_ty (r := false) (by decide +kernel)) (kit_ty (r := false) (by decide +kernel)) rfl, _, rfl, iteF fin⟩
      · have hlen : (xs.length : Int) = (ys.length : Int) := by rw [hl]
        -- the list part, for lists and for tuples
        have key : ∀ H1, Same H H1 → (SqL K H1 p xs ∨ SqT K H1 p xs) → (SqL K H1 p2 ys ∨ SqT K H1 p2 ys) → (∀ H2, Same H1 H2 → (SqL K H2 p xs ∧ SqL K H2 p2 ys) ∨ (SqT K H2 p xs ∧ SqT K H2 p2 ys)) →
            tRet (tAndV (tOp rEq (tCB (fun xs H Q => ∃ p ys, xs = [.ref p] ∧ (SqL K H p ys ∨ SqT K H p ys) ∧ Q (.int ys.length) H) (tCons (tVar 0) tNil)) (tCB (fun xs H Q => ∃ p ys, xs = [.ref p] ∧ (SqL K H p ys ∨ SqT K H p ys) ∧ Q (.int ys.length) H) (tCons (tVar 1) tNil)))
              (tCB (rAll K) (tCons (tLc (iRng1 (tCons (tCB (fun xs H Q => ∃ p ys, xs = [.ref p] ∧ (SqL K H p ys ∨ SqT K H p ys) ∧ Q (.int ys.length) H) (tCons (tVar 1) tNil)) tNil)) (gName 2) tYes
                (tCall (spSame n) [] E0 (tCons (tOp (rIx K) (tVar 0) (tVar 2)) (tCons (tOp (rIx K) (tVar 1) (tVar 2)) tNil))) [2]) tNil))) { nx := fun _ H' => Q .non H', rt := Q } [some (.ref p), some (.ref p2), none] H1 := by
          intro H1 s1 hp1 hp2 hall
          refine ⟨_, rfl, p, xs, rfl, hp1, _, rfl, p2, ys, rfl, hp2, rfl, true, ?_, iteT ?_⟩
          · rw [hlen]
            exact congrArg V.bl (decide_eq_true rfl)
          · refine ⟨_, rfl, p2, ys, rfl, hp2, _, rfl, by omega, by omega, fun D nD => ?_⟩
            rw [show ((ys.length : Int)).toNat = ys.length by omega]
            refine lc_it (walk_range (lo := 0) (n := ys.length)) (fun i H2 => Same H1 H2 ∧ H2 D = some (.lst ((List.replicate i true).map V.bl))) ⟨same_new nD, upd_same⟩ (fun _ _ _ _ => trivial) ?_ ?_
            · rintro i x H2 H2' hi2 ⟨s2, hD⟩ ⟨rfl, rfl⟩
              refine ⟨rfl, ?_⟩
              dsimp only [tYes]
              rw [if_pos rfl]
              have hx : i < xs.length := by omega
              have gx : xs[i]? = some xs[i] := List.getElem?_eq_getElem hx
              have gy : ys[i]? = some ys[i] := List.getElem?_eq_getElem hi2
              have ei : (0 : Int) + (i : Int) = ((i : Nat) : Int) := by omega
              have ax : atI xs (0 + (i : Int)) = some xs[i] := by rw [ei]; exact atI_nat gx
              have ay : atI ys (0 + (i : Int)) = some ys[i] := by rw [ei]; exact atI_nat gy
              have eq := (hi i _ _ gx gy).same (s1.trans s2)
              have fin : ∀ H3, Same H2' H3 → ∃ acc, H3 D = some (.lst acc) ∧ acc.length < sizeLine ∧ (Same H1 (upd H3 D (.lst (acc ++ [.bl true]))) ∧ upd H3 D (.lst (acc ++ [.bl true])) D = some (.lst ((List.replicate (i + 1) true).map V.bl))) := by
                intro H3 s3
                refine ⟨_, s3 _ _ hD, ?_, ?_, ?_⟩
                · rw [List.length_map, List.length_replicate]
                  exact small1000 (by omega)
                · intro b o e
                  rw [upd_ne (ne_of_none e nD)]
                  exact s3 _ _ (s2 _ _ e)
                · rw [upd_same, List.replicate_succ', List.map_append]
                  rfl
              rcases hall H2' s2 with ⟨z1, z2⟩ | ⟨z1, z2⟩
              · exact ⟨_, rfl, _, rfl, .inl ⟨p, xs, _, _, rfl, rfl, z1, ax, _, rfl, _, rfl, .inl ⟨p2, ys, _, _, rfl, rfl, z2, ay, _, _, rfl, eq, fin⟩⟩⟩
              · exact ⟨_, rfl, _, rfl, .inr (.inl ⟨p, xs, _, _, rfl, rfl, z1, ax, _, rfl, _, rfl, .inr (.inl ⟨p2, ys, _, _, rfl, rfl, z2, ay, _, _, rfl, eq, fin⟩)⟩)⟩
            · rintro H2 ⟨s2, hD⟩
              refine ⟨D, List.replicate ys.length true, rfl, SqL.of hD, ?_⟩
              have e : (List.replicate ys.length true).all id = true := by
                rw [List.all_eq_true]
                intro b hb
                exact List.eq_of_mem_replicate hb
              rw [e]
              exact q H2 (s1.trans s2)
        rcases hp with ⟨h1, h2⟩ | ⟨h1, h2⟩
        · refine ⟨_, T, _, _, _, true, rfl, upd_same, cl, .base (.lst (sT _ _ h2)), ty2 (kit_ty (r := true) (by decide +kernel)) (kit_ty (r := false) (by decide +kernel)) rfl, _, rfl, iteT ?_⟩
          refine ⟨_, rfl, _, _, _, _, true, rfl, .ty _, .base (.lst (sT _ _ h1)), kit_ty (by decide +kernel), _, rfl, _, _, _, _, true, rfl, .ty _, .base (.lst (sT _ _ h2)), kit_ty (by decide +kernel), rfl, false, rfl, iteF ?_⟩
          refine ⟨_, rfl, _, _, _, _, false, rfl, .ty _, .base (.lst (sT _ _ h1)), kit_ty (by decide +kernel), _, rfl, _, _, _, _, false, rfl, .ty _, .base (.lst (sT _ _ h2)), kit_ty (by decide +kernel), rfl, false, rfl, iteF ?_⟩
          exact key _ sT (.inl (SqL.of (sT _ _ h1))) (.inl (SqL.of (sT _ _ h2))) fun H2 s2 => .inl ⟨SqL.of (s2 _ _ (sT _ _ h1)), SqL.of (s2 _ _ (sT _ _ h2))⟩
        · refine ⟨_, T, _, _, _, true, rfl, upd_same, cl, .base (.tup (sT _ _ h2)), ty2 (kit_ty (r := false) (by decide +kernel)) (kit_ty (r := true) (by decide +kernel)) rfl, _, rfl, iteT ?_⟩
          refine ⟨_, rfl, _, _, _, _, false, rfl, .ty _, .base (.tup (sT _ _ h1)), kit_ty (by decide +kernel), _, rfl, _, _, _, _, false, rfl, .ty _, .base (.tup (sT _ _ h2)), kit_ty (by decide +kernel), rfl, false, rfl, iteF ?_⟩
          refine ⟨_, rfl, _, _, _, _, true, rfl, .ty _, .base (.tup (sT _ _ h1)), kit_ty (by decide +kernel), _, rfl, _, _, _, _, true, rfl, .ty _, .base (.tup (sT _ _ h2)), kit_ty (by decide +kernel), rfl, false, rfl, iteF ?_⟩
          exact key _ sT (.inr (SqT.of (sT _ _ h1))) (.inr (SqT.of (sT _ _ h2))) fun H2 s2 => .inr ⟨SqT.of (s2 _ _ (sT _ _ h1)), SqT.of (s2 _ _ (sT _ _ h2))⟩
end
structure Cb (P : Program) (w : World) (K : PySem.W.Frag) (mg : Str → Option Value) (base : Heap) (CX : CXT) (k : Nat) (x : Str) (ps : List Str) (sp : Sp) (f : Addr) (fd : FuncData) : Prop where
  ok : FnOk P w K mg base CX k f fd ps sp
  kp : PySem.W.keepIn K (.ref f) = true
  b : Binds K fd ps []
  g : mg x = some (.ref f)
theorem passN {P : Program} {w : World} {X : Cx} (hp : X.prog = P) (hw : X.w = w) : Passes (L2.CX P w) X E0 := by
  intro pins σ H s e s' I h
  obtain ⟨_, _, _, _, _, _, _, _, _, _, _, _, hE⟩ := h
  exact hE.elim
end K3
set_option Elab.async false
set_option linter.all false
set_option maxRecDepth 100000
set_option maxHeartbeats 2000000
namespace K3
open PySem PySem.Spec PyProof.Rows L2
/-! the words of a length, as lists of codes -/
def nxt (L w : List Nat) : List (List Nat) := ((sg L).filter fun c => decide (w.getLast? ≠ some (sw c))).map fun c => w ++ [c]
def wds (L : List Nat) : Nat → List (List Nat)
  | 0 => [[]]
  | n + 1 => (wds L n).flatMap (nxt L)
theorem sg_mem {L : List Nat} {x : Nat} (h : x ∈ sg L) : ∃ c ∈ L, x = c ∨ x = c - 32 := by
  unfold sg at h
  obtain ⟨c, hc, h⟩ := List.mem_flatMap.mp h
  exact ⟨c, hc, by simpa using h⟩
theorem menu_r : ∀ c ∈ menu, 97 ≤ c ∧ c ≤ 122 := by decide
theorem sg_asc {L : List Nat} (h : ∀ c ∈ L, c ∈ menu) {x : Nat} (hx : x ∈ sg L) : x < 128 := by
  obtain ⟨c, hc, e⟩ := sg_mem hx
  have := menu_r c (h c hc)
  omega
theorem sg_sw {L : List Nat} (h : ∀ c ∈ L, c ∈ menu) {x : Nat} (hx : x ∈ sg L) : sw x ∈ sg L := by
  obtain ⟨c, hc, e⟩ := sg_mem hx
  have r := menu_r c (h c hc)
  have m1 : c ∈ sg L := List.mem_flatMap.mpr ⟨c, hc, by simp⟩
  have m2 : c - 32 ∈ sg L := List.mem_flatMap.mpr ⟨c, hc, by simp⟩
  rcases e with e | e
  · rw [e]
    have : sw c = c - 32 := by
      unfold sw
      rw [if_neg (by omega), if_pos (by omega)]
    rw [this]
    exact m2
  · rw [e]
    have : sw (c - 32) = c := by
      unfold sw
      rw [if_pos (by omega)]
      omega
    rw [this]
    exact m1
theorem wds_all {L : List Nat} : ∀ {n : Nat} {w : List Nat}, w ∈ wds L n → w.length = n ∧ ∀ c ∈ w, c ∈ sg L
  | 0, w, h => by
    have e : w = [] := by simpa [wds] using h
    rw [e]
    exact ⟨rfl, fun c hc => nomatch hc⟩
  | n + 1, w, h => by
    obtain ⟨v, hv, h⟩ := List.mem_flatMap.mp (show w ∈ (wds L n).flatMap (nxt L) from h)
    obtain ⟨c, hc, rfl⟩ := List.mem_map.mp (show w ∈ nxt L v from h)
    obtain ⟨l1, l2⟩ := wds_all hv
    refine ⟨by rw [List.length_append, l1]; rfl, fun d hd => ?_⟩
    rcases List.mem_append.mp hd with z | z
    · exact l2 d z
    · have e : d = c := by simpa using z
      rw [e]
      exact (List.mem_filter.mp hc).1
/-- all but one -/
theorem filter_ne {M : List Nat} (hM : M.Nodup) {x : Nat} (hx : x ∈ M) : (M.filter fun c => decide (c ≠ x)).length + 1 = M.length := by
  induction M with
  | nil => cases hx
  | cons a M ih =>
    obtain ⟨h1, h2⟩ := List.nodup_cons.mp hM
    by_cases e : a = x
    · subst e
      have : (M.filter fun c => decide (c ≠ a)) = M := List.filter_eq_self.mpr fun c hc => decide_eq_true fun z => h1 (z ▸ hc)
      rw [List.filter_cons, if_neg (by simp), this]
      rfl
    · have hx' : x ∈ M := by
        rcases List.mem_cons.mp hx with z | z
        · exact absurd z.symm e
        · exact z
      have := ih h2 hx'
      rw [List.filter_cons, if_pos (by simp [e]), List.length_cons, List.length_cons]
      omega
theorem nxt_len {L w : List Nat} (hL : Lt L) (hw : ∀ c ∈ w, c ∈ sg L) (hn : w ≠ []) : (nxt L w).length + 1 = 2 * L.length := by
  unfold nxt
  rw [List.length_map]
  obtain ⟨x, hx⟩ : ∃ x, w.getLast? = some x := ⟨_, List.getLast?_eq_some_getLast hn⟩
  have hxm : x ∈ sg L := hw x (List.mem_of_getLast? hx)
  have e : ((sg L).filter fun c => decide (w.getLast? ≠ some (sw c))) = (sg L).filter fun c => decide (c ≠ sw x) := by
    refine List.filter_congr fun c _ => ?_
    rw [hx]
    have : (some x ≠ some (sw c)) ↔ c ≠ sw x := by
      constructor
      · intro h z
        exact h (by rw [z, sw_sw])
      · intro h z
        injection z with z
        exact h (by rw [z, sw_sw])
    simp only [this]
  rw [e, filter_ne (sg_nodup hL.1.2 hL.2) (sg_sw hL.2 hxm), sg_len]
theorem flat_len {f : List Nat → List (List Nat)} {k : Nat} : ∀ {M : List (List Nat)}, (∀ w ∈ M, (f w).length = k) → (M.flatMap f).length = M.length * k
  | [], _ => by simp
  | w :: M, h => by
    rw [List.flatMap_cons, List.length_append, h w List.mem_cons_self, flat_len fun v hv => h v (List.mem_cons_of_mem _ hv), List.length_cons, Nat.add_mul, Nat.one_mul, Nat.add_comm]
/-- how many there are -/
theorem wds_len {L : List Nat} (hL : Lt L) (h1 : 1 ≤ L.length) : ∀ n, (wds L (n + 1)).length = 2 * L.length * (2 * L.length - 1) ^ n
  | 0 => by
    show ((wds L 0).flatMap (nxt L)).length = _
    have e : (wds L 0).flatMap (nxt L) = nxt L [] := by simp [wds]
    have e2 : ((sg L).filter fun c => decide (([] : List Nat).getLast? ≠ some (sw c))) = sg L := List.filter_eq_self.mpr fun c _ => by simp
    rw [e]
    unfold nxt
    rw [e2, List.length_map, sg_len]
    simp
  | n + 1 => by
    show ((wds L (n + 1)).flatMap (nxt L)).length = _
    rw [flat_len (k := 2 * L.length - 1) fun w hw => ?_, wds_len hL h1 n, Nat.pow_succ, Nat.mul_assoc]
    obtain ⟨l1, l2⟩ := wds_all hw
    have := nxt_len hL l2 (fun z => by rw [z] at l1; cases l1)
    omega
theorem wds_small {L : List Nat} (hL : Lt L) (h3 : L.length ≤ 3) {n : Nat} (hn : n ≤ 5) : (wds L n).length ≤ 20000 := by
  by_cases h0 : L.length = 0
  · have e : L = [] := List.length_eq_zero_iff.mp h0
    subst e
    have : ∀ n, (wds [] n).length ≤ 1 := by
      intro n
      cases n with
      | zero => exact Nat.le_refl _
      | succ n =>
        have : (wds [] (n + 1)) = [] := by
          show (wds [] n).flatMap (nxt []) = []
          rw [List.flatMap_eq_nil_iff]
          intro w _
          rfl
        rw [this]
        exact Nat.zero_le _
    exact Nat.le_trans (this n) (by decide)
  · cases n with
    | zero => exact (show 1 ≤ 20000 by decide)
    | succ n =>
      rw [wds_len hL (by omega) n]
      have h5 : 2 * L.length - 1 ≤ 5 := by omega
      have h6 : (2 * L.length - 1) ^ n ≤ 5 ^ 4 := Nat.le_trans (Nat.pow_le_pow_left h5 n) (Nat.pow_le_pow_right (by decide) (by omega))
      have h7 : 2 * L.length ≤ 6 := by omega
      exact Nat.le_trans (Nat.mul_le_mul h7 h6) (by decide)
/-- the suffix of one sign -/
theorem ends1 (w : List Nat) (c : Nat) : Txt.endswith (SX.S w) (SX.S [c]) = decide (w.getLast? = some c) := by
  have hl : (SX.S w).length = w.length := tx_len w
  have hc : (SX.S w).cps.toList = w := rfl
  have h1 : (SX.S [c] : Str) = ⟨#[c]⟩ := rfl
  have k1 : (⟨#[c]⟩ : Str).length = 1 := rfl
  unfold Txt.endswith
  rw [h1, k1, hl, Bool.eq_iff_iff, Bool.and_eq_true, decide_eq_true_eq, decide_eq_true_eq]
  have key := StrLaws.subAt_one (SX.S w) c (w.length - 1)
  rw [k1, hl, hc] at key
  rw [List.getLast?_eq_getElem?]
  constructor
  · rintro ⟨a, b⟩
    exact key.mp ⟨by omega, b⟩
  · intro h
    obtain ⟨a, b⟩ := key.mpr h
    exact ⟨by omega, b⟩
end K3
set_option Elab.async false
set_option linter.all false
set_option maxRecDepth 100000
set_option maxHeartbeats 2000000
namespace K3
open PySem PySem.Spec PyProof.Rows L2 Gw
theorem gs_never {S : Site} {st : Stmt} : GS S st (fun _ _ _ _ => False) := ⟨fun _ _ _ _ _ _ _ _ _ _ _ _ _ _ _ _ _ _ h => h.elim⟩
abbrev NW : List Str := ["letters", "length", "shorter", "word", "sign"]
section
variable {P : Program} {w : World} {K : PySem.W.Frag} {mg : Str → Option Value} {base : Heap}
def spW (n : Nat) : SpN := fun vs rem => ∃ L : List Nat, vs = [tx L, .int (n : Nat)] ∧ Lt L ∧ L.length ≤ 3 ∧ rem = (wds L n).map tx
theorem nkW0 : ∀ y ∈ (defScope sWords).names, y.2 ≠ .cell ∧ y.2 ≠ .free := by decide +kernel
theorem nkW (x : Str) : (defScope sWords).names.lookup x ≠ some .cell ∧ (defScope sWords).names.lookup x ≠ some .free := ⟨fun e => (nkW0 _ (PySem.mem_of_lookup e)).1 rfl, fun e => (nkW0 _ (PySem.mem_of_lookup e)).2 rfl⟩
theorem ndW : NW.Nodup := by decide
theorem words0 {f : Addr} {fd : FuncData} (F : Fun K "words_of" "words_of" sWords f fd) : GFun P w K mg base 2 f fd ["letters", "length"] (spW 0) := by
  obtain ⟨oc, od, kV, doc, pm, an, cdv, ct, osl, rfl, lk, hcd⟩ := F.ex
  refine gfun_of lk hcd gcWords (fun n => rfl) nkW (fun vs rem h => ?_) (fun S L0 vs rem So e1 e2 e3 e4 e5 e6 e7 hr h => ?_)
  · obtain ⟨L, rfl, _⟩ := h
    rfl
  · obtain ⟨P', w', K', mg', base', N', env', A', outer'⟩ := S
    dsimp only at e1 e2 e3 e4 e5 e6 e7
    subst e1 e2 e3 e4 e5 e6 e7
    obtain ⟨L, rfl, hL, h3, rfl⟩ := h
    refine ⟨_, Gw.gss_cons (Gw.gs_if (fun s0 own => pt_cmpR op_eq (pv 1) pe_int (nomark _)) (Gw.gss_one (Gw.gs_yield So (fun _ _ => pe_str))) Gw.gss_nil)
      (Gw.gss_cons (Gw.gs_if (fun s0 own => pt_cmpR op_lt (pv 1) pe_int (nomark _)) (Gw.gss_one (Gw.gs_ps (fun _ _ => ps_retN))) Gw.gss_nil)
      (Gw.gss_cons (t := fun _ _ _ _ => False) gs_never (Gw.gss_one (t := fun _ _ _ _ => False) gs_never))), fun H => ?_⟩
    refine ⟨_, rfl, rfl, true, congrArg V.bl (by decide), Ex.refl _, ?_⟩
    rw [if_pos rfl]
    refine ⟨Ex.refl _, [], ?_, fun H1 => ?_⟩
    · show [tx []] = _
      rw [e0S]
    refine ⟨_, rfl, _, _, rfl, rfl, true, congrArg V.bl (by decide), Ex.refl _, ?_⟩
    rw [if_pos rfl]
    exact ⟨rfl, Ex.refl _, rfl⟩
theorem wordsS {f fS fO : Addr} {fd fdS fdO : FuncData} {n k : Nat} (F : Fun K "words_of" "words_of" sWords f fd) (bW : L2.Binds K fd ["letters", "length"] []) (gW : mg "words_of" = some (.ref f)) (G : GFun P w K mg base (k + 2) f fd ["letters", "length"] (spW n)) (hn : n < 5)
    (GS : FnOk P w K mg base CX0 1 fS fdS ["letters"] spSof) (kS : PySem.W.keepIn K (.ref fS) = true) (bS : L2.Binds K fdS ["letters"] []) (gS : mg "signs_of" = some (.ref fS))
    (GO : FnOk P w K mg base CX0 1 fO fdO ["word"] spOpp) (kO : PySem.W.keepIn K (.ref fO) = true) (bO : L2.Binds K fdO ["word"] []) (gO : mg "opposite" = some (.ref fO)) : GFun P w K mg base (k + 4) f fd ["letters", "length"] (spW (n + 1)) := by
  have kp := F.kp
  obtain ⟨oc, od, kV, doc, pm, an, cdv, ct, osl, rfl, lk, hcd⟩ := F.ex
  refine gfun_of lk hcd gcWords (fun n => rfl) nkW (fun vs rem h => ?_) (fun S L0 vs rem So e1 e2 e3 e4 e5 e6 e7 hr h => ?_)
  · obtain ⟨L, rfl, _⟩ := h
    rfl
  · obtain ⟨P', w', K', mg', base', N', env', A', outer'⟩ := S
    dsimp only at e1 e2 e3 e4 e5 e6 e7
    subst e1 e2 e3 e4 e5 e6 e7
    obtain ⟨L, rfl, hL, h3, rfl⟩ := h
    have r1 : Room 1 (A'.deeper (envOfC "words_of" (defScope sWords) L0 f cdv)) := Room.mono hr (by omega)
    refine ⟨_, Gw.gss_cons (Gw.gs_if (fun s0 own => pt_cmpR op_eq (pv 1) pe_int (nomark _)) (Gw.gss_one (Gw.gs_yield So (fun _ _ => pe_str))) Gw.gss_nil)
      (Gw.gss_cons (Gw.gs_if (fun s0 own => pt_cmpR op_lt (pv 1) pe_int (nomark _)) (Gw.gss_one (Gw.gs_ps (fun _ _ => ps_retN))) Gw.gss_nil)
      (Gw.gss_cons (Gw.gs_ps (fun _ _ => ps_set (i := 2) ndW rfl (.inl rfl) (pe_op op_sub (pv 1) pe_int)))
      (Gw.gss_one (Gw.gs_forN So (hr.mono (by omega)) (fun s0 own => pgn_call G hr.depth (by rfl) gW kp bW .nil (pa_cons (pv 0) (pa_cons (pv 2) pa_nil))) (fun _ _ => pg_name (i := 3) ndW rfl (Or.inl rfl))
        (Gw.gss_one (Gw.gs_forL So (fun s0 own => pe_call GS r1 (by rfl) gS kS bS .nil pass0 (pa_cons (pv 0) pa_nil)) (fun _ _ => pg_name (i := 4) ndW rfl (Or.inl rfl))
          (Gw.gss_one (Gw.gs_if (fun s0 own => pt_not (pt_val (pe_m1 PySem.F.slot_str_endswith PySem.F.type_str_endswith mt_endswith (pv 3) (pe_call GO r1 (by rfl) gO kO bO .nil pass0 (pa_cons (pv 4) pa_nil)))))
            (Gw.gss_one (Gw.gs_yield So (fun _ _ => pe_op op_add_str (pv 3) (pv 4)))) Gw.gss_nil)))))))), fun H => ?_⟩
    have hne : ((n + 1 : Nat) : Int) ≠ 0 := by omega
    refine ⟨_, rfl, rfl, false, ?_, Ex.refl _, ?_⟩
    · refine congrArg V.bl (decide_eq_false fun z => ?_)
      injection z with z
      exact hne z
    rw [if_neg Bool.false_ne_true]
    refine ⟨_, rfl, _, _, rfl, rfl, false, ?_, Ex.refl _, ?_⟩
    · refine congrArg V.bl (decide_eq_false fun z => ?_)
      have z' : ((n + 1 : Nat) : Int) < 1 := z
      omega
    rw [if_neg Bool.false_ne_true]
    refine ⟨_, rfl, _, _, rfl, rfl, Ex.refl _, ?_⟩
    have en : ((n + 1 : Nat) : Int) - 1 = (n : Nat) := by omega
    have eV : (fun i j : Int => V.int (i - j)) ((n + 1 : Nat) : Int) 1 = V.int (n : Nat) := by
      show V.int (((n + 1 : Nat) : Int) - 1) = _
      rw [en]
    rw [eV]
    refine ⟨_, rfl, _, rfl, (wds L n).map tx, ⟨L, rfl, hL, h3, rfl⟩, Ex.refl _, ?_⟩
    refine ⟨fun i rem σ => ∃ y3 y4 : Option V, σ = [some (tx L), some (.int ((n + 1 : Nat) : Int)), some (.int (n : Nat)), y3, y4] ∧ rem = (((wds L n).drop i).flatMap (nxt L)).map tx, ⟨none, none, rfl, rfl⟩, ?_, ?_⟩
    · rintro i x rem σ H1 hx ⟨y3, y4, rfl, rfl⟩
      rw [List.getElem?_map] at hx
      obtain ⟨v, hv⟩ : ∃ v, (wds L n)[i]? = some v := by
        cases e : (wds L n)[i]? with
        | none => rw [e] at hx; cases hx
        | some v => exact ⟨v, rfl⟩
      rw [hv] at hx
      obtain rfl : tx v = x := Option.some.inj hx
      obtain ⟨vl, vm⟩ := wds_all (List.mem_of_getElem? hv)
      have vA : Asc v := fun c hc => sg_asc hL.2 (vm c hc)
      obtain ⟨hlt, hve⟩ := List.getElem?_eq_some_iff.mp hv
      refine ⟨Ex.refl _, ?_⟩
      refine ⟨_, rfl, L, rfl, hL, fun H2 p s2 np hp => ⟨fun b u e => s2 b u e, p, (sg L).map one, rfl, np, hp, ?_⟩⟩
      refine ⟨fun j rem σ => ∃ y4 : Option V, σ = [some (tx L), some (.int ((n + 1 : Nat) : Int)), some (.int (n : Nat)), some (tx v), y4] ∧ rem = ((((sg L).drop j).filter fun c => decide (v.getLast? ≠ some (sw c))).map fun c => v ++ [c]).map tx ++ (((wds L n).drop (i + 1)).flatMap (nxt L)).map tx, ⟨y4, rfl, ?_⟩, ?_, ?_⟩
      · rw [List.drop_eq_getElem_cons hlt, hve, List.flatMap_cons, List.map_append]
        rfl
      · rintro j x rem σ H3 hx ⟨y5, rfl, rfl⟩
        rw [List.getElem?_map] at hx
        obtain ⟨c, hc⟩ : ∃ c, (sg L)[j]? = some c := by
          cases e : (sg L)[j]? with
          | none => rw [e] at hx; cases hx
          | some c => exact ⟨c, rfl⟩
        rw [hc] at hx
        obtain rfl : one c = x := Option.some.inj hx
        obtain ⟨clt, cve⟩ := List.getElem?_eq_some_iff.mp hc
        have cm : c ∈ sg L := List.mem_of_getElem? hc
        have cA := sg_asc hL.2 cm
        refine ⟨Ex.refl _, ?_⟩
        refine ⟨_, rfl, ⟨_, rfl⟩, _, rfl, [c], rfl, (by show 1 ≤ 1000; decide), (fun d hd => by rw [List.mem_singleton.mp hd]; exact cA), _, _, rfl, rfl, _, rfl, Ex.refl _, ?_⟩
        have eo : opp [c] = [sw c] := rfl
        rw [eo, ends1]
        by_cases hq : v.getLast? = some (sw c)
        · rw [decide_eq_true hq, if_neg (by decide)]
          refine ⟨_, rfl, ?_⟩
          rw [List.drop_eq_getElem_cons clt, cve, List.filter_cons, if_neg (by simp [hq])]
        · rw [decide_eq_false hq, if_pos (by decide)]
          refine ⟨_, rfl, _, rfl, _, _, rfl, rfl, ?_, Ex.refl _, ?_⟩
          · rw [tx_len, tx_len, vl]
            exact Nat.le_trans (by show n + 1 ≤ 100; omega) (by decide)
          · refine ⟨((((sg L).drop (j + 1)).filter fun c => decide (v.getLast? ≠ some (sw c))).map fun c => v ++ [c]).map tx ++ (((wds L n).drop (i + 1)).flatMap (nxt L)).map tx, ?_, fun H4 => ⟨_, rfl, rfl⟩⟩
            rw [List.drop_eq_getElem_cons clt, cve, List.filter_cons, if_pos (by simp [hq]), SX.S_cat]
            rfl
      · rintro rem σ H3 ⟨y5, rfl, rfl⟩
        refine ⟨_, _, rfl, ?_⟩
        rw [List.length_map, List.drop_length]
        rfl
    · rintro rem σ H1 ⟨y3, y4, rfl, rfl⟩
      show _ = []
      rw [List.length_map, List.drop_length]
      rfl
end
end K3
set_option Elab.async false
set_option linter.all false
set_option maxRecDepth 100000
set_option maxHeartbeats 2000000
namespace K3
open PySem PySem.Spec PyProof.Rows L2 Gw
section
variable {P : Program} {w : World} {K : PySem.W.Frag} {mg : Str → Option Value} {base : Heap}
theorem gfun_mono {j k : Nat} {f : Addr} {fd : FuncData} {ps : List Str} {sp : SpN} (F : GFun P w K mg base j f fd ps sp) (h : j ≤ k) : GFun P w K mg base k f fd ps sp := ⟨F.len, fun A Aw outer s H args us vs rem h1 h2 => F.run A Aw outer s H args us vs rem h1 (h2.mono h)⟩
def spA : SpN := fun vs rem => ∃ n : Nat, n ≤ 5 ∧ spW n vs rem
theorem gfun_all {k : Nat} {f : Addr} {fd : FuncData} (h : ∀ n, n ≤ 5 → GFun P w K mg base k f fd ["letters", "length"] (spW n)) : GFun P w K mg base k f fd ["letters", "length"] spA :=
  ⟨fun vs rem ⟨n, hn, z⟩ => (h n hn).len vs rem z, fun A Aw outer s H args us vs rem h1 h2 h3 h4 h5 h6 ⟨n, hn, z⟩ => (h n hn).run A Aw outer s H args us vs rem h1 h2 h3 h4 h5 h6 z⟩
theorem words_all {f fS fO : Addr} {fd fdS fdO : FuncData} (F : Fun K "words_of" "words_of" sWords f fd) (bW : L2.Binds K fd ["letters", "length"] []) (gW : mg "words_of" = some (.ref f))
    (GS : FnOk P w K mg base CX0 1 fS fdS ["letters"] spSof) (kS : PySem.W.keepIn K (.ref fS) = true) (bS : L2.Binds K fdS ["letters"] []) (gS : mg "signs_of" = some (.ref fS))
    (GO : FnOk P w K mg base CX0 1 fO fdO ["word"] spOpp) (kO : PySem.W.keepIn K (.ref fO) = true) (bO : L2.Binds K fdO ["word"] []) (gO : mg "opposite" = some (.ref fO)) : GFun P w K mg base 12 f fd ["letters", "length"] spA := by
  have lev : ∀ n, n ≤ 5 → GFun P w K mg base (2 * n + 2) f fd ["letters", "length"] (spW n) := by
    intro n
    induction n with
    | zero => intro _; exact words0 F
    | succ n ih =>
      intro hn
      have z := wordsS (k := 2 * n) F bW gW (ih (by omega)) (by omega) GS kS bS gS GO kO bO gO
      exact z
  exact gfun_all fun n hn => gfun_mono (lev n hn) (by omega)
/-! _law_times -/
def spTimes : Sp := fun vs H Q _ => ∃ (a b : Int) (n : Nat), vs = [.int a, .int b, .int (n : Nat)] ∧ n ≤ 10 ∧ 0 ≤ a ∧ a ≤ 100 ∧ 0 ≤ b ∧ b ≤ 10 ∧ Q (.int (a * b ^ n)) H
theorem ok_times {f : Addr} {fd : FuncData} {k : Nat} (F : Fun K "_law_times" "_law_times" sTimes f fd) (B : Bn mg) : FnOk P w K mg base CX0 (k + 1) f fd ["_law_first", "_law_factor", "_law_times_here"] spTimes := by
  refine F.ok scTimes (fun vs H Q E h => ?_) (fun cdv A outer s H vs Q E hr h => ?_)
  · obtain ⟨a, b, n, rfl, _⟩ := h
    rfl
  · obtain ⟨a, b, n, rfl, hn, ha, ha2, hb, hb2, q⟩ := h
    refine ⟨_, pss_cons (ps_for PassesOwn.never rfl (pi_range1 (by rfl) B.range (pa_cons (pv 2) pa_nil)) (pg_name (i := 3) scTimes.nd rfl (Or.inl rfl)) (pss_one (ps_set (i := 0) scTimes.nd rfl (.inl rfl) (pe_op op_mul (pv 0) (pv 1)))))
      (pss_one (ps_ret (pv 0))), ?_⟩
    refine ⟨_, rfl, (n : Nat), rfl, by omega, by omega, ?_⟩
    refine for_it (walk_range (lo := 0) (n := ((n : Nat) : Int).toNat)) (fun i σ H2 => ∃ y : Option V, H2 = H ∧ σ = [some (.int (a * b ^ i)), some (.int b), some (.int (n : Nat)), y]) ⟨none, rfl, ?_⟩ (fun _ _ _ _ _ => trivial) ?_ ?_
    · rw [Int.pow_zero, Int.mul_one]
      rfl
    · rintro i x σ H2 H2' hi ⟨y, rfl, rfl⟩ ⟨rfl, rfl⟩
      refine ⟨_, rfl, _, rfl, _, _, rfl, rfl, .inr ⟨by omega, by omega⟩, some (.int (0 + i)), rfl, ?_⟩
      rw [Int.pow_succ, ← Int.mul_assoc]
      rfl
    · rintro σ H2 ⟨y, rfl, rfl⟩
      refine ⟨_, rfl, ?_⟩
      rw [Int.toNat_natCast]
      exact q
end
end K3
set_option Elab.async false
set_option linter.all false
set_option maxRecDepth 100000
set_option maxHeartbeats 2000000
namespace K3
open PySem PySem.Spec PyProof.Rows L2 Gw
def forBody : Stmt → List Stmt
  | .For _ _ b _ _ => b
  | _ => []
abbrev lst (i : Nat) : Stmt := (defBody sLaw).getD i (.Pass ⟨0, 0, 0, 0⟩)
def lb : List Stmt := forBody (lst 4)
abbrev lbs (i : Nat) : Stmt := lb.getD i (.Pass ⟨0, 0, 0, 0⟩)
theorem lb_is : lb = [lbs 0, lbs 1, lbs 2, lbs 3, lbs 4, lbs 5] := by rfl
theorem law_is : defBody sLaw = [lst 0, lst 1, lst 2, lst 3, lst 4, lst 5, lst 6, lst 7, lst 8] := by rfl
def Lg (L : List Nat) : Prop := (1 ≤ L.length ∧ L.Nodup) ∧ L.length ≤ 3 ∧ ∀ c ∈ L, c ∈ mnu
theorem Lg.lt {L : List Nat} (h : Lg L) : Lt L := ⟨⟨by have := h.2.1; omega, h.1.2⟩, fun c hc => mnu_sub c (h.2.2 c hc)⟩
/-- the slots: script, box, many, letters, signs, then what changes -/
abbrev S16 (a b : Addr) (L : List Nat) (y5 y6 y7 y8 y9 y10 y11 y12 y13 y14 : Option V) : L2.St :=
  [some (.ref a), some (.ref b), some (.int (L.length : Nat)), some (tx L), some (tx (sg L)), y5, y6, y7, y8, y9, y10, y11, y12, y13, y14, none]
def spLaw (K : PySem.W.Frag) : Sp := fun vs H Q _ => ∃ (a : Addr) (ns : List Int), vs = [.ref a] ∧ SqL K H a (ns.map V.int) ∧ ns.length ≤ 63 ∧ ∀ H', Q (.bl true) H'
section
variable {P : Program} {w : World} {K : PySem.W.Frag} {mg : Str → Option Value} {base : Heap}
variable {f fBeg fD fLe fSg fBk fTm fSa fW : Addr} {fdBeg fdD fdLe fdSg fdBk fdTm fdSa fdW : FuncData} {cdv : Value} {A : Around} {outer : List Env} {s : Shared} {H : Hp} {E : XK}
abbrev XL (P : Program) (w : World) (K : PySem.W.Frag) (mg : Str → Option Value) (base : Heap) (f : Addr) (cdv : Value) (A : Around) (outer : List Env) (s : Shared) (H : Hp) (E : XK) : Cx := (cxOf CX0 P w K mg base NL "law" (defScope sLaw) f cdv A outer s H E).nox
theorem xl_xe : (XL P w K mg base f cdv A outer s H E).xe = fun _ _ => False := rfl
/-- a generator def that is called by its name -/
structure Gb (P : Program) (w : World) (K : PySem.W.Frag) (mg : Str → Option Value) (base : Heap) (f : Addr) (fd : FuncData) : Prop where
  ok : GFun P w K mg base 12 f fd ["letters", "length"] spA
  kp : PySem.W.keepIn K (.ref f) = true
  b : L2.Binds K fd ["letters", "length"] []
  g : mg "words_of" = some (.ref f)
theorem b0 (cW : Gb P w K mg base fW fdW) (hr : Room 15 (A.deeper (envOfC "law" (defScope sLaw) s.heap.objs.size f cdv))) :
    ∃ t, PS (XL P w K mg base f cdv A outer s H E) (lbs 0) t ∧ ∀ (a b : Addr) (L : List Nat) (n : Nat) (y5 y7 y8 y9 y10 y11 y12 y13 y14 : Option V) (D : Ends) (H0 : Hp), Lg L → n ≤ 5 → (wds L n).length ≤ 1000 →
      (∀ p H', Same H0 H' → H0 p = none → H' p = some (.lst ((wds L n).map tx)) → D.nx (S16 a b L y5 (some (.int (n : Nat))) y7 (some (.ref p)) y9 y10 y11 y12 y13 y14) H') → t D (S16 a b L y5 (some (.int (n : Nat))) y7 y8 y9 y10 y11 y12 y13 y14) H0 := by
  have r13 : Room 13 (A.deeper (envOfC "law" (defScope sLaw) s.heap.objs.size f cdv)) := hr.mono (by decide)
  refine ⟨_, ps_setLcN (i := 8) (own := [("_law_each", 7)]) (g := gName 7) (te := tVar 7) xl_xe rfl r13 scLaw.nd rfl rfl (sw_true rfl rfl rfl (by decide +kernel)) (pgn_call cW.ok hr.depth (by rfl) cW.g cW.kp cW.b .nil (pa_cons (pv 3) (pa_cons (pv 6) pa_nil)))
    (blkOk_by (N := NL) (sc := defScope sLaw) (by decide +kernel)) (fun _ _ _ _ _ => pg_name (i := 7) scLaw.nd rfl (Or.inl rfl)) (fun _ _ _ _ _ => pv 7), ?_⟩
  intro a b L n y5 y7 y8 y9 y10 y11 y12 y13 y14 D H0 hL hn hs nx
  refine ⟨_, rfl, _, rfl, (wds L n).map tx, ⟨n, hn, L, rfl, hL.lt, hL.2.1, rfl⟩, fun Dd nD => ?_⟩
  refine ⟨fun i H2 => Same H0 H2 ∧ H2 Dd = some (.lst (((wds L n).take i).map tx)), ⟨same_new nD, upd_same⟩, ?_, ?_⟩
  · rintro i x H2 hx ⟨sm, hd⟩
    rw [List.getElem?_map] at hx
    obtain ⟨v, hv⟩ : ∃ v, (wds L n)[i]? = some v := by
      cases e : (wds L n)[i]? with
      | none => rw [e] at hx; cases hx
      | some v => exact ⟨v, rfl⟩
    rw [hv] at hx
    obtain rfl : tx v = x := Option.some.inj hx
    refine ⟨rfl, _, rfl, _, hd, ?_, ?_, ?_⟩
    · rw [List.length_map, List.length_take]
      exact small1000 (Nat.le_trans (Nat.min_le_right _ _) hs)
    · intro c o e
      rw [upd_ne (ne_of_none e nD)]
      exact sm _ _ e
    · rw [upd_same, take_more hv, List.map_append]
      rfl
  · rintro H2 ⟨sm, hd⟩
    rw [List.length_map, List.take_length] at hd
    exact nx Dd H2 sm nD hd
theorem b1 (cT : Cb P w K mg base CX0 1 "_law_times" ["_law_first", "_law_factor", "_law_times_here"] spTimes fTm fdTm) (hr : Room 15 (A.deeper (envOfC "law" (defScope sLaw) s.heap.objs.size f cdv))) :
    ∃ t, PS (XL P w K mg base f cdv A outer s H E) (lbs 1) t ∧ ∀ (a b : Addr) (L : List Nat) (n : Nat) (y5 y7 y8 y9 y10 y11 y12 y13 y14 : Option V) (D : Ends) (H0 : Hp), Lg L → n ≤ 5 →
      D.nx (S16 a b L y5 (some (.int (n : Nat))) y7 y8 (some (.int ((wds L n).length : Nat))) y10 y11 y12 y13 y14) H0 → t D (S16 a b L y5 (some (.int (n : Nat))) y7 y8 y9 y10 y11 y12 y13 y14) H0 := by
  have r1 : Room 1 (A.deeper (envOfC "law" (defScope sLaw) s.heap.objs.size f cdv)) := hr.mono (by decide)
  refine ⟨_, ps_set (i := 9) scLaw.nd rfl (.inl rfl) (pe_ifExp (pt_cmpR op_eq (pv 6) pe_int (nomark _)) pe_int (pe_call cT.ok r1 (by rfl) cT.g cT.kp cT.b .nil pass0 (pa_cons (pe_op op_mul pe_int (pv 2)) (pa_cons (pe_op op_sub (pe_op op_mul pe_int (pv 2)) pe_int) (pa_cons (pe_op op_sub (pv 6) pe_int) pa_nil))))), ?_⟩
  intro a b L n y5 y7 y8 y9 y10 y11 y12 y13 y14 D H0 hL hn nx
  have h1 := hL.1.1
  have h3 := hL.2.1
  refine ⟨_, rfl, rfl, _, rfl, ?_⟩
  cases n with
  | zero =>
    rw [if_pos (by decide)]
    exact nx
  | succ n =>
    rw [if_neg (by
      intro z
      have z' := of_decide_eq_true z
      injection z' with z'
      omega)]
    refine ⟨_, rfl, _, _, rfl, rfl, .inl ⟨by decide, by decide⟩, _, rfl, _, _, rfl, rfl, .inl ⟨by decide, by decide⟩, _, _, rfl, rfl, _, rfl, _, _, rfl, rfl, ?_⟩
    refine ⟨2 * (L.length : Nat), 2 * (L.length : Nat) - 1, n, ?_, by omega, by omega, by omega, by omega, by omega, ?_⟩
    · have : ((n + 1 : Nat) : Int) - 1 = (n : Nat) := by omega
      show [V.int _, V.int _, V.int (((n + 1 : Nat) : Int) - 1)] = _
      rw [this]
    · have e : (2 * ((L.length : Nat) : Int)) * (2 * ((L.length : Nat) : Int) - 1) ^ n = (((wds L (n + 1)).length : Nat) : Int) := by
        rw [wds_len hL.lt h1 n]
        have : (2 * ((L.length : Nat) : Int) - 1) = ((2 * L.length - 1 : Nat) : Int) := by omega
        rw [this, Int.natCast_mul, Int.natCast_pow, Int.natCast_mul]
        rfl
      rw [e]
      exact nx
theorem b2 (B : Bn mg) (cS : Cb P w K mg base CX0 2 "_law_same" ["_law_found", "_law_due"] (spSame 1) fSa fdSa) (hr : Room 15 (A.deeper (envOfC "law" (defScope sLaw) s.heap.objs.size f cdv))) :
    ∃ t, PS (XL P w K mg base f cdv A outer s H E) (lbs 2) t ∧ ∀ (a b pf pt : Addr) (L : List Nat) (n : Nat) (y7 y10 y11 y12 y13 y14 : Option V) (D : Ends) (H0 : Hp), (wds L n).length ≤ 1000 → H0 pf = some (.lst ((wds L n).map tx)) → H0 pt = some (.lst ((wds L n).map tx)) →
      (∀ H', Same H0 H' → D.nx (S16 a b L (some (.ref pf)) (some (.int (n : Nat))) y7 (some (.ref pt)) (some (.int ((wds L n).length : Nat))) y10 y11 y12 y13 y14) H') → t D (S16 a b L (some (.ref pf)) (some (.int (n : Nat))) y7 (some (.ref pt)) (some (.int ((wds L n).length : Nat))) y10 y11 y12 y13 y14) H0 := by
  have r2 : Room 2 (A.deeper (envOfC "law" (defScope sLaw) s.heap.objs.size f cdv)) := hr.mono (by decide)
  refine ⟨_, ps_if (PW.pt (pw_or (pt_not (pt_val (pe_call cS.ok r2 (by rfl) cS.g cS.kp cS.b .nil pass0 (pa_cons (pv 8) (pa_cons (pv 5) pa_nil))))) (pw_or1 (pt_cmpR op_ne (pe_callB call_len_seq (by rfl) B.len PySem.boot_len (pa_cons (pv 8) pa_nil)) (pv 9) (nomark _))))) pss_never pss_nil, ?_⟩
  intro a b pf pt L n y7 y10 y11 y12 y13 y14 D H0 hs hf ht nx
  refine ⟨_, rfl, _, rfl, .ref pt, .ref pf, rfl, ?_, fun H1 s1 => ⟨true, rfl, ?_⟩⟩
  · refine .inr ⟨pt, pf, (wds L n).map tx, (wds L n).map tx, rfl, rfl, rfl, by rw [List.length_map]; exact hs, .inl ⟨ht, hf⟩, fun i u v h1 h2 => ?_⟩
    rw [h1] at h2
    obtain rfl := Option.some.inj h2
    refine ⟨rfl, ?_⟩
    obtain ⟨v, _, rfl⟩ := List.mem_map.mp (List.mem_of_getElem? h1)
    exact .inr (.inl ⟨_, rfl⟩)
  · refine iteF ⟨_, rfl, pt, _, rfl, .inl (SqL.of (s1 _ _ ht)), _, rfl, rfl, false, ?_, iteF (nx H1 s1)⟩
    rw [List.length_map]
    refine congrArg V.bl ?_
    simp
theorem b3 : ∃ t, PS (XL P w K mg base f cdv A outer s H E) (lbs 3) t ∧ ∀ (a b : Addr) (L : List Nat) (y5 y6 y7 y8 y9 y10 y11 y12 y13 y14 : Option V) (D : Ends) (H0 : Hp), (∀ p, H0 p = none → D.nx (S16 a b L y5 y6 y7 y8 y9 (some (.ref p)) y11 y12 y13 y14) (upd H0 p (.lst []))) → t D (S16 a b L y5 y6 y7 y8 y9 y10 y11 y12 y13 y14) H0 := by
  refine ⟨_, ps_set (i := 10) scLaw.nd rfl (.inl rfl) (pe_lst pa_nil), ?_⟩
  intro a b L y5 y6 y7 y8 y9 y10 y11 y12 y13 y14 D H0 nx
  exact ⟨(by show 0 ≤ sizeLine; decide), fun p np => nx p np⟩
def lastOf (v : List Nat) : List Nat := match v.getLast? with
  | none => []
  | some x => [sw x]
theorem fl_one {v : List Nat} (c : Nat) : (!decide (tx [c] = tx (lastOf v))) = decide (v.getLast? ≠ some (sw c)) := by
  rw [Bool.eq_iff_iff]
  unfold lastOf
  cases e : v.getLast? with
  | none => simp
  | some x =>
    simp
    constructor
    · intro h z
      exact h (by rw [z, sw_sw])
    · intro h z
      exact h (by rw [z, sw_sw])
end
end K3
set_option Elab.async false
set_option linter.all false
set_option maxRecDepth 100000
set_option maxHeartbeats 2000000
namespace K3
open PySem PySem.Spec PyProof.Rows L2 Gw
def cb : List Stmt := forBody (lbs 4)
abbrev cbs (i : Nat) : Stmt := cb.getD i (.Pass ⟨0, 0, 0, 0⟩)
theorem cb_is : cb = [cbs 0, cbs 1] := by rfl
section
variable {P : Program} {w : World} {K : PySem.W.Frag} {mg : Str → Option Value} {base : Heap}
variable {f fBeg fD fLe fSg fBk fTm fSa fW : Addr} {fdBeg fdD fdLe fdSg fdBk fdTm fdSa fdW : FuncData} {cdv : Value} {A : Around} {outer : List Env} {s : Shared} {H : Hp} {E : XK}
theorem c0 (cB : Cb P w K mg base CX0 1 "_law_back" ["_law_sign"] spBack fBk fdBk) (hr : Room 15 (A.deeper (envOfC "law" (defScope sLaw) s.heap.objs.size f cdv))) :
    ∃ t, PS (XL P w K mg base f cdv A outer s H E) (cbs 0) t ∧ ∀ (a b : Addr) (L v : List Nat) (y5 y6 y8 y9 y10 y11 y12 y13 y14 : Option V) (D : Ends) (H0 : Hp), v.length ≤ 10 → Asc v →
      D.nx (S16 a b L y5 y6 (some (tx v)) y8 y9 y10 (some (tx (lastOf v))) y12 y13 y14) H0 → t D (S16 a b L y5 y6 (some (tx v)) y8 y9 y10 y11 y12 y13 y14) H0 := by
  have r1 : Room 1 (A.deeper (envOfC "law" (defScope sLaw) s.heap.objs.size f cdv)) := hr.mono (by decide)
  refine ⟨_, ps_set (i := 11) scLaw.nd rfl (.inr rfl) (pe_ifExp (pt_cmpR op_ne (pv 7) pe_str (nomark _)) (pe_call cB.ok r1 (by rfl) cB.g cB.kp cB.b .nil pass0 (pa_cons (pe_ix ix_str (pv 7) (pe_un un_neg pe_int) (fun _ _ => rfl)) pa_nil)) pe_str), ?_⟩
  intro a b L v y5 y6 y8 y9 y10 y11 y12 y13 y14 D H0 hv hA nx
  refine ⟨_, rfl, rfl, ?_⟩
  rw [e0S]
  by_cases hn : v = []
  · subst hn
    exact ⟨false, congrArg V.bl (by simp), iteF nx⟩
  · obtain ⟨x, hx⟩ : ∃ x, v.getLast? = some x := ⟨_, List.getLast?_eq_some_getLast hn⟩
    have hne : ¬ (tx v = tx []) := fun z => hn (by
      have := congrArg (fun q => match q with | V.str y => y.cps.toList | _ => []) z
      exact this)
    refine ⟨true, congrArg V.bl (by simp [hne]), iteT ?_⟩
    refine ⟨_, rfl, _, rfl, _, -1, x, rfl, rfl, asc_le (by omega), at_last hx, x, rfl, hA x (List.mem_of_getLast? hx), ?_⟩
    have e : lastOf v = [sw x] := by unfold lastOf; rw [hx]
    rw [e] at nx
    exact nx
theorem c1 (hr : Room 15 (A.deeper (envOfC "law" (defScope sLaw) s.heap.objs.size f cdv))) :
    ∃ t, PS (XL P w K mg base f cdv A outer s H E) (cbs 1) t ∧ ∀ (a b pm : Addr) (L v : List Nat) (xs : List V) (y5 y6 y8 y9 y12 y13 y14 : Option V) (D : Ends) (H0 : Hp), Lg L → v.length ≤ 10 → H0 pm = some (.lst xs) → xs.length + 6 ≤ 1000 →
      (∀ p H', Same H0 H' → H' p = some (.lst (xs ++ (nxt L v).map tx)) → D.nx (S16 a b L y5 y6 (some (tx v)) y8 y9 (some (.ref p)) (some (tx (lastOf v))) y12 y13 y14) H') →
      t D (S16 a b L y5 y6 (some (tx v)) y8 y9 (some (.ref pm)) (some (tx (lastOf v))) y12 y13 y14) H0 := by
  refine ⟨_, ps_set (i := 10) scLaw.nd rfl (.inl rfl) (pe_op op_cat (pv 10) (pe_lc (own := [("_law_sign", 15)]) (g := gName 15) (tt := tTest (tOp rNe (tVar 15) (tVar 11))) (te := tOp (fun x y H Q => ∃ i j, x = .str i ∧ y = .str j ∧ i.length + j.length ≤ sizeLine ∧ Q (.str (i ++ j)) H) (tVar 7) (tVar 15)) rfl scLaw.nd (pi_str (pv 4))
    (blkOk_by (N := NL) (sc := defScope sLaw) (by decide +kernel)) (fun _ _ _ _ _ => pg_name (i := 15) scLaw.nd rfl (Or.inl rfl)) (fun _ _ _ _ _ => pts_one (pt_cmpR op_ne (pv 15) (pv 11) (nomark _))) (fun _ _ _ _ _ => pe_op op_add_str (pv 7) (pv 15)))), ?_⟩
  intro a b pm L v xs y5 y6 y8 y9 y12 y13 y14 D H0 hL hv hm hx nx
  have hsl : (sg L).length ≤ 6 := by
    rw [sg_len]
    have := hL.2.1
    omega
  refine ⟨_, rfl, _, rfl, _, rfl, fun Dd nD => ?_⟩
  refine lc_pure (walk_txt (sg L)) (σ := S16 a b L y5 y6 (some (tx v)) y8 y9 (some (.ref pm)) (some (tx (lastOf v))) y12 y13 y14) (i := 15) (fun z => match z with | .str q => .str (SX.S v ++ q) | z => z) (fun z => !decide (z = tx (lastOf v))) (by rw [List.length_map]; exact small1000 (by omega)) nD (fun _ _ => trivial) ?_ ?_ ?_
  · intro x H2 Q hx _ h
    obtain ⟨c, hc, rfl⟩ := List.mem_map.mp hx
    exact ⟨_, rfl, _, rfl, rfl, _, rfl, h⟩
  · intro x H2 Q hx _ _ h
    obtain ⟨c, hc, rfl⟩ := List.mem_map.mp hx
    refine ⟨_, rfl, _, rfl, _, _, rfl, rfl, ?_, h H2 (Same.refl _)⟩
    rw [tx_len, tx_len]
    exact Nat.le_of_lt (small1000 (by show v.length + 1 ≤ 1000; omega))
  · intro H2 s2 hD
    have eL : (((sg L).map fun c => tx [c]).filter (fun z => !decide (z = tx (lastOf v)))).map (fun z => match z with | .str q => .str (SX.S v ++ q) | z => z) = (nxt L v).map tx := by
      unfold nxt
      rw [List.filter_map, List.map_map, List.map_map]
      have e1 : ((sg L).filter ((fun z => !decide (z = tx (lastOf v))) ∘ fun c => tx [c])) = (sg L).filter fun c => decide (v.getLast? ≠ some (sw c)) := List.filter_congr fun c _ => fl_one c
      rw [e1]
      refine List.map_congr_left fun c _ => ?_
      show V.str (SX.S v ++ SX.S [c]) = tx (v ++ [c])
      rw [SX.S_cat]
    rw [eL] at hD
    have hnl : (nxt L v).length ≤ 6 := by
      unfold nxt
      rw [List.length_map]
      exact Nat.le_trans (List.length_filter_le _ _) hsl
    refine ⟨pm, Dd, xs, (nxt L v).map tx, rfl, rfl, s2 _ _ hm, hD, ?_, fun p np => nx p _ (s2.trans (same_new np)) upd_same⟩
    rw [List.length_map]
    exact Nat.le_of_lt (small1000 (by omega))
theorem b4 (cB : Cb P w K mg base CX0 1 "_law_back" ["_law_sign"] spBack fBk fdBk) (hr : Room 15 (A.deeper (envOfC "law" (defScope sLaw) s.heap.objs.size f cdv))) :
    ∃ t, PS (XL P w K mg base f cdv A outer s H E) (lbs 4) t ∧ ∀ (a b pf pm : Addr) (L : List Nat) (n : Nat) (y6 y7 y8 y9 y11 y12 y13 y14 : Option V) (D : Ends) (H0 : Hp), Lg L → n ≤ 5 → (wds L n).length ≤ 150 → H0 pf = some (.lst ((wds L n).map tx)) → H0 pm = some (.lst []) →
      (∀ p y7 y11 H', Same H0 H' → H' p = some (.lst ((wds L (n + 1)).map tx)) → D.nx (S16 a b L (some (.ref pf)) y6 y7 y8 y9 (some (.ref p)) y11 y12 y13 y14) H') →
      t D (S16 a b L (some (.ref pf)) y6 y7 y8 y9 (some (.ref pm)) y11 y12 y13 y14) H0 := by
  obtain ⟨t0, p0, q0⟩ := c0 (base := base) (outer := outer) (H := H) (E := E) cB hr
  obtain ⟨t1, p1, q1⟩ := c1 (P := P) (w := w) (K := K) (mg := mg) (base := base) (outer := outer) (H := H) (E := E) hr
  obtain ⟨tb, pb, hb⟩ : ∃ tb, PSs (XL P w K mg base f cdv A outer s H E) cb tb ∧ ∀ D σ H, t0 { D with nx := fun σ' H' => t1 D σ' H' } σ H → tb D σ H := by
    rw [cb_is]
    exact ⟨_, pss_cons p0 (pss_one p1), fun D σ H h => h⟩
  refine ⟨_, ps_for PassesOwn.never rfl (pi_list (pv 5)) (pg_name (i := 7) scLaw.nd rfl (Or.inr rfl)) pb, ?_⟩
  intro a b pf pm L n y6 y7 y8 y9 y11 y12 y13 y14 D H0 hL hn hs hf hm nx
  refine ⟨_, rfl, pf, rfl, ⟨_, SqL.of hf⟩, ?_⟩
  have small : ∀ i, ((((wds L n).take i).flatMap (nxt L)).map tx).length + 6 ≤ 1000 := fun i => by
    have h6 : ∀ v, (nxt L v).length ≤ 6 := fun v => by
      unfold nxt
      rw [List.length_map]
      refine Nat.le_trans (List.length_filter_le _ _) ?_
      rw [sg_len]
      have := hL.2.1
      omega
    have hM : ∀ M : List (List Nat), (M.flatMap (nxt L)).length ≤ 6 * M.length := by
      intro M
      induction M with
      | nil => exact Nat.le_refl _
      | cons v M ih =>
        rw [List.flatMap_cons, List.length_append, List.length_cons]
        have := h6 v
        omega
    rw [List.length_map]
    have h7 := hM ((wds L n).take i)
    have h8 : ((wds L n).take i).length ≤ 150 := by
      rw [List.length_take]
      omega
    omega
  refine for_it (walk_list (K := K) (a := pf) (xs := (wds L n).map tx)) (fun i σ H2 => ∃ (p : Addr) (y7 y11 : Option V), σ = S16 a b L (some (.ref pf)) y6 y7 y8 y9 (some (.ref p)) y11 y12 y13 y14 ∧ Same H0 H2 ∧ H2 p = some (.lst ((((wds L n).take i).flatMap (nxt L)).map tx))) ⟨pm, y7, y11, rfl, Same.refl _, hm⟩ ?_ ?_ ?_
  · rintro i σ H2 _ ⟨p, y7, y11, rfl, sm, _⟩
    exact SqL.of (sm _ _ hf)
  · rintro i x σ H2 H2' hi ⟨p, y7', y11', rfl, sm, hp⟩ ⟨rfl, hx⟩
    rw [List.getElem?_map] at hx
    obtain ⟨v, hv⟩ : ∃ v, (wds L n)[i]? = some v := by
      cases e : (wds L n)[i]? with
      | none => rw [e] at hx; cases hx
      | some v => exact ⟨v, rfl⟩
    rw [hv] at hx
    obtain rfl : tx v = x := Option.some.inj hx
    obtain ⟨vl, vm⟩ := wds_all (List.mem_of_getElem? hv)
    refine hb _ _ _ (q0 a b L v _ _ _ _ _ _ _ _ _ _ H2' (by omega) (fun c hc => sg_asc hL.lt.2 (vm c hc)) ?_)
    refine q1 a b p L v _ _ _ _ _ _ _ _ _ H2' hL (by omega) hp (small i) fun p' H3 s3 hp3 => ⟨p', _, _, rfl, sm.trans s3, ?_⟩
    rw [hp3, take_more hv, List.flatMap_append, List.map_append]
    simp
  · rintro σ H2 ⟨p, y7', y11', rfl, sm, hp⟩
    rw [List.length_map, List.take_length] at hp
    exact nx p _ _ H2 sm hp
theorem b5 : ∃ t, PS (XL P w K mg base f cdv A outer s H E) (lbs 5) t ∧ ∀ (a b : Addr) (L : List Nat) (v : V) (y5 y6 y7 y8 y9 y11 y12 y13 y14 : Option V) (D : Ends) (H0 : Hp), D.nx (S16 a b L (some v) y6 y7 y8 y9 (some v) y11 y12 y13 y14) H0 → t D (S16 a b L y5 y6 y7 y8 y9 (some v) y11 y12 y13 y14) H0 := by
  refine ⟨_, ps_set (i := 5) scLaw.nd rfl (.inl rfl) (pv 10), ?_⟩
  intro a b L v y5 y6 y7 y8 y9 y11 y12 y13 y14 D H0 nx
  exact ⟨_, rfl, nx⟩
end
end K3
set_option Elab.async false
set_option linter.all false
set_option maxRecDepth 100000
set_option maxHeartbeats 2000000
namespace K3
open PySem PySem.Spec PyProof.Rows L2 Gw
section
variable {P : Program} {w : World} {K : PySem.W.Frag} {mg : Str → Option Value} {base : Heap}
variable {f fBeg fD fLe fSg fBk fTm fSa fW : Addr} {fdBeg fdD fdLe fdSg fdBk fdTm fdSa fdW : FuncData} {cdv : Value} {A : Around} {outer : List Env} {s : Shared} {H : Hp} {E : XK}
theorem wds_150 {L : List Nat} (hL : Lg L) {n : Nat} (hn : n + L.length ≤ 6) : (wds L n).length ≤ 150 := by
  have h1 := hL.1.1
  have h3 := hL.2.1
  cases n with
  | zero => exact (show 1 ≤ 150 by decide)
  | succ n =>
    rw [wds_len hL.lt h1 n]
    have hc : L.length = 1 ∨ L.length = 2 ∨ L.length = 3 := by omega
    rcases hc with e | e | e
    · rw [e]
      show 2 * 1 ^ n ≤ 150
      rw [Nat.one_pow]
      decide
    · rw [e]
      have : (3 : Nat) ^ n ≤ 3 ^ 3 := Nat.pow_le_pow_right (by decide) (by omega)
      show 4 * 3 ^ n ≤ 150
      have e27 : (3 : Nat) ^ 3 = 27 := by decide
      omega
    · rw [e]
      have : (5 : Nat) ^ n ≤ 5 ^ 2 := Nat.pow_le_pow_right (by decide) (by omega)
      show 6 * 5 ^ n ≤ 150
      have e25 : (5 : Nat) ^ 2 = 25 := by decide
      omega
theorem s4 (B : Bn mg) (cW : Gb P w K mg base fW fdW) (cT : Cb P w K mg base CX0 1 "_law_times" ["_law_first", "_law_factor", "_law_times_here"] spTimes fTm fdTm) (cS : Cb P w K mg base CX0 2 "_law_same" ["_law_found", "_law_due"] (spSame 1) fSa fdSa) (cB : Cb P w K mg base CX0 1 "_law_back" ["_law_sign"] spBack fBk fdBk)
    (hr : Room 15 (A.deeper (envOfC "law" (defScope sLaw) s.heap.objs.size f cdv))) :
    ∃ t, PS (XL P w K mg base f cdv A outer s H E) (lst 4) t ∧ ∀ (a b pf : Addr) (L : List Nat) (D : Ends) (H0 : Hp), Lg L → H0 pf = some (.lst [tx []]) →
      (∀ y5 y6 y7 y8 y9 y10 y11 H', D.nx (S16 a b L y5 y6 y7 y8 y9 y10 y11 none none none) H') → t D (S16 a b L (some (.ref pf)) none none none none none none none none none) H0 := by
  obtain ⟨t0, p0, q0⟩ := b0 (base := base) (outer := outer) (H := H) (E := E) cW hr
  obtain ⟨t1, p1, q1⟩ := b1 (base := base) (outer := outer) (H := H) (E := E) cT hr
  obtain ⟨t2, p2, q2⟩ := b2 (base := base) (outer := outer) (H := H) (E := E) B cS hr
  obtain ⟨t3, p3, q3⟩ := b3 (P := P) (w := w) (K := K) (mg := mg) (f := f) (cdv := cdv) (A := A) (s := s) (base := base) (outer := outer) (H := H) (E := E)
  obtain ⟨t4, p4, q4⟩ := b4 (base := base) (outer := outer) (H := H) (E := E) cB hr
  obtain ⟨t5, p5, q5⟩ := b5 (P := P) (w := w) (K := K) (mg := mg) (f := f) (cdv := cdv) (A := A) (s := s) (base := base) (outer := outer) (H := H) (E := E)
  obtain ⟨tb, pb, hb⟩ : ∃ tb, PSs (XL P w K mg base f cdv A outer s H E) lb tb ∧ ∀ D σ H, t0 { D with nx := fun σ H => t1 { D with nx := fun σ H => t2 { D with nx := fun σ H => t3 { D with nx := fun σ H => t4 { D with nx := fun σ H => t5 D σ H } σ H } σ H } σ H } σ H } σ H → tb D σ H := by
    rw [lb_is]
    exact ⟨_, pss_cons p0 (pss_cons p1 (pss_cons p2 (pss_cons p3 (pss_cons p4 (pss_one p5))))), fun D σ H h => h⟩
  refine ⟨_, ps_for PassesOwn.never rfl (pi_range1 (by rfl) B.range (pa_cons (pe_ix ix_list (pe_lst (pa_cons pe_int (pa_cons pe_int (pa_cons pe_int pa_nil)))) (pe_op op_sub (pv 2) pe_int) (fun _ _ => rfl)) pa_nil)) (pg_name (i := 6) scLaw.nd rfl (Or.inl rfl)) pb, ?_⟩
  intro a b pf L D H0 hL hf nx
  have h1 := hL.1.1
  have h3 := hL.2.1
  have hat : atI [V.int 6, V.int 5, V.int 4] (((L.length : Nat) : Int) - 1) = some (V.int ((7 - L.length : Nat) : Int)) := by
    have hc : L.length = 1 ∨ L.length = 2 ∨ L.length = 3 := by omega
    rcases hc with e | e | e <;> rw [e] <;> rfl
  refine ⟨(by show 3 ≤ sizeLine; decide), fun pl npl => ⟨_, rfl, _, _, rfl, rfl, pl, _, _, _, rfl, rfl, SqL.of upd_same, hat, ((7 - L.length : Nat) : Int), rfl, by omega, by omega, ?_⟩⟩
  have sm0 : Same H0 (upd H0 pl (.lst [V.int 6, V.int 5, V.int 4])) := same_new npl
  refine for_it (walk_range (lo := 0) (n := ((7 - L.length : Nat) : Int).toNat)) (fun i σ H2 => ∃ (p : Addr) (y6 y7 y8 y9 y10 y11 : Option V), σ = S16 a b L (some (.ref p)) y6 y7 y8 y9 y10 y11 none none none ∧ H2 p = some (.lst ((wds L i).map tx))) ⟨pf, none, none, none, none, none, none, rfl, sm0 _ _ hf⟩ (fun _ _ _ _ _ => trivial) ?_ ?_
  · rintro i x σ H2 H2' hi ⟨p, y6, y7, y8, y9, y10, y11, rfl, hp⟩ ⟨rfl, rfl⟩
    have hi' : i + L.length ≤ 6 := by
      rw [Int.toNat_natCast] at hi
      omega
    have hn : i ≤ 5 := by omega
    have hw := wds_150 hL hi'
    have e0 : (0 : Int) + (i : Nat) = (i : Nat) := by omega
    show tb _ (S16 a b L (some (.ref p)) (some (.int (0 + (i : Nat)))) y7 y8 y9 y10 y11 none none none) H2'
    rw [e0]
    refine hb _ _ _ (q0 a b L i _ _ _ _ _ _ _ _ _ _ H2' hL hn (by omega) fun pt H3 s3 _ ht => ?_)
    refine q1 a b L i _ _ _ _ _ _ _ _ _ _ H3 hL hn ?_
    refine q2 a b p pt L i _ _ _ _ _ _ _ H3 (by omega) (s3 _ _ hp) ht fun H4 s4 => ?_
    refine q3 a b L _ _ _ _ _ _ _ _ _ _ _ H4 fun pm npm => ?_
    refine q4 a b p pm L i _ _ _ _ _ _ _ _ _ _ hL hn hw (same_new npm _ _ (s4 _ _ (s3 _ _ hp))) upd_same fun p2 y7 y11 H5 s5 hp2 => ?_
    exact q5 a b L _ _ _ _ _ _ _ _ _ _ _ H5 ⟨p2, _, _, _, _, _, _, rfl, hp2⟩
  · rintro σ H2 ⟨p, y6, y7, y8, y9, y10, y11, rfl, hp⟩
    exact nx _ _ _ _ _ _ _ H2
end
end K3
set_option Elab.async false
set_option linter.all false
set_option maxRecDepth 100000
set_option maxHeartbeats 2000000
namespace K3
open PySem PySem.Spec PyProof.Rows L2 Gw
theorem wab : Str.ofString "ab" = SX.S [97, 98] := by decide
theorem wabc : Str.ofString "abc" = SX.S [97, 98, 99] := by decide
theorem lab : Lt [97, 98] := ⟨⟨by decide, by decide⟩, by decide⟩
theorem labc : Lt [97, 98, 99] := ⟨⟨by decide, by decide⟩, by decide⟩
theorem n324 : (wds [97, 98] 5).length = 324 := by
  rw [wds_len lab (by decide) 4]
  decide
theorem n750 : (wds [97, 98, 99] 4).length = 750 := by
  rw [wds_len labc (by decide) 3]
  decide
theorem fold_rep (c : Nat) : ∀ (n : Nat) (acc : Array Nat), (List.replicate n (SX.S [c]).cps).foldl (· ++ ·) acc = acc ++ (List.replicate n c).toArray
  | 0, acc => by simp
  | n + 1, acc => by
    rw [List.replicate_succ, List.foldl_cons, fold_rep c n]
    apply Array.toList_inj.mp
    simp [List.replicate_succ]
theorem o_mulS {X : Cx} : OpR X (binaryOp .Mult) (fun x y H Q => ∃ (c n : Nat), x = tx [c] ∧ y = .int (n : Int) ∧ 1 ≤ n ∧ n ≤ 100 ∧ Q (tx (List.replicate n c)) H) := by
  intro pins s σ H x y v u Q I rx ry h
  obtain ⟨c, n, rfl, rfl, h1, h2, q⟩ := h
  obtain ⟨t, rfl⟩ := rx
  obtain ⟨t', rfl⟩ := ry
  have hl : (SX.S [c]).length = 1 := tx_len [c]
  refine PySem.P.mul_str ?_ (fun _ _ => ?_) (fun _ _ => ?_) ?_
  · rw [decide_eq_false (by omega), decide_eq_false (by omega)]
    rfl
  · rw [hl]
    have : (1 : Int) ≤ (2 ^ 63 - 1) / (n : Int) := by
      rw [Int.le_ediv_iff_mul_le (by omega)]
      omega
    omega
  · rw [hl]
    exact short24 (by rw [Int.toNat_natCast]; omega)
  · rw [if_neg (by omega)]
    by_cases e : n = 1
    · subst e
      exact ⟨.str (SX.S [c]), H, I, ⟨_, rfl⟩, q⟩
    · have e2 : (((n : Int) == 1) || ((SX.S [c]).length == 0)) = false := by
        rw [hl]
        have : ((n : Int) == 1) = false := by rw [beq_eq_false_iff_ne]; omega
        rw [this]
        rfl
      rw [e2, if_neg Bool.false_ne_true, Int.toNat_natCast, fold_rep]
      have e3 : (#[] ++ (List.replicate n c).toArray : Array Nat) = (List.replicate n c).toArray := by simp
      rw [e3]
      refine ⟨?_, ⟨tx (List.replicate n c), H, I.tok _, ⟨_, rfl⟩, q⟩⟩
      show (SX.S (List.replicate n c)).length ≤ sizeLine
      exact asc_le (by rw [List.length_replicate]; omega)
section
variable {P : Program} {w : World} {K : PySem.W.Frag} {mg : Str → Option Value} {base : Heap}
variable {f fBeg fD fLe fSg fBk fTm fSa fW : Addr} {fdBeg fdD fdLe fdSg fdBk fdTm fdSa fdW : FuncData} {cdv : Value} {A : Around} {outer : List Env} {s : Shared} {H : Hp} {E : XK}
theorem s5 (B : Bn mg) (cW : Gb P w K mg base fW fdW) (hr : Room 15 (A.deeper (envOfC "law" (defScope sLaw) s.heap.objs.size f cdv))) :
    ∃ t, PS (XL P w K mg base f cdv A outer s H E) (lst 5) t ∧ ∀ (σ : L2.St) (D : Ends) (H0 : Hp), (∀ H', D.nx σ H') → t D σ H0 := by
  refine ⟨_, ps_if (pt_cmpR (op_neD hr.units) (pe_lst (pa_cons (pe_callB call_len_seq (by rfl) B.len PySem.boot_len (pa_cons (pe_listN (k := 12) xl_xe rfl (pgn_call cW.ok hr.depth (by rfl) cW.g cW.kp cW.b .nil (pa_cons pe_str (pa_cons pe_int pa_nil))) hr (by rfl) B.list) pa_nil))
    (pa_cons (pe_callB call_len_seq (by rfl) B.len PySem.boot_len (pa_cons (pe_listN (k := 12) xl_xe rfl (pgn_call cW.ok hr.depth (by rfl) cW.g cW.kp cW.b .nil (pa_cons pe_str (pa_cons pe_int pa_nil))) hr (by rfl) B.list) pa_nil)) pa_nil))) (pe_lst (pa_cons pe_int (pa_cons pe_int pa_nil))) (nomark _)) pss_never pss_nil, ?_⟩
  intro σ D H0 nx
  refine ⟨_, ⟨5, by decide, [97, 98], by rw [wab]; rfl, lab, by decide, rfl⟩, ?_, fun p1 np1 => ⟨p1, _, rfl, .inl (SqL.of upd_same), ?_⟩⟩
  · rw [List.length_map, n324]
    exact Nat.le_of_lt (small1000 (by decide))
  rw [List.length_map, n324]
  refine ⟨_, ⟨4, by decide, [97, 98, 99], by rw [wabc]; rfl, labc, by decide, rfl⟩, ?_, fun p2 np2 => ⟨p2, _, rfl, .inl (SqL.of upd_same), ?_⟩⟩
  · rw [List.length_map, n750]
    exact Nat.le_of_lt (small1000 (by decide))
  rw [List.length_map, n750]
  refine ⟨(by show 2 ≤ sizeLine; decide), fun p3 np3 => ⟨(by show 2 ≤ sizeLine; decide), fun p4 np4 => ?_⟩⟩
  refine ⟨.list [.int 324, .int 750], .list [.int 324, .int 750], ?_, ?_, by decide +kernel, by decide +kernel, false, congrArg V.bl (by decide +kernel), iteF (nx _)⟩
  · exact .lst (SqL.of (same_new np4 _ _ upd_same)) (.cons (.int _) (.cons (.int _) .nil))
  · exact .lst (SqL.of upd_same) (.cons (.int _) (.cons (.int _) .nil))
end
end K3
set_option Elab.async false
set_option linter.all false
set_option maxRecDepth 100000
set_option maxHeartbeats 2000000
namespace K3
open PySem PySem.Spec PyProof.Rows L2 Gw
/-- two keywords in the other order -/
def rev2 {α : Type} : List α → List α → List α
  | [], [x, y] => [y, x]
  | _, _ => []
theorem rev2_rel {vs : List V} {us : List Value} {zs : List V} {ws : List Value} (r : Vals vs us) (rz : Vals zs ws) : Vals (rev2 vs zs) (rev2 us ws) := by
  cases r with
  | cons _ _ => exact .nil
  | nil =>
    cases rz with
    | nil => exact .nil
    | cons r1 rz =>
      cases rz with
      | nil => exact .nil
      | cons r2 rz =>
        cases rz with
        | nil => exact .cons r2 (.cons r1 .nil)
        | cons _ _ => exact .nil
def prs (W : List (List Nat)) : List (List Nat) := W.flatMap fun u => W.map fun v => u ++ v
section
variable {P : Program} {w : World} {K : PySem.W.Frag} {mg : Str → Option Value} {base : Heap}
variable {f fBeg fD fLe fSg fBk fTm fSa fW : Addr} {fdBeg fdD fdLe fdSg fdBk fdTm fdSa fdW : FuncData} {cdv : Value} {A : Around} {outer : List Env} {s : Shared} {H : Hp} {E : XK}
theorem s6 : ∃ t, PS (XL P w K mg base f cdv A outer s H E) (lst 6) t ∧ ∀ (a b : Addr) (L : List Nat) (y5 y6 y7 y8 y9 y10 y11 y12 y13 y14 : Option V) (D : Ends) (H0 : Hp), (∀ p, H0 p = none → D.nx (S16 a b L y5 y6 y7 y8 y9 y10 y11 (some (.ref p)) y13 y14) (upd H0 p (.lst []))) → t D (S16 a b L y5 y6 y7 y8 y9 y10 y11 y12 y13 y14) H0 := by
  refine ⟨_, ps_set (i := 12) scLaw.nd rfl (.inl rfl) (pe_lst pa_nil), ?_⟩
  intro a b L y5 y6 y7 y8 y9 y10 y11 y12 y13 y14 D H0 nx
  exact ⟨(by show 0 ≤ sizeLine; decide), fun p np => nx p np⟩
theorem s7 (cW : Gb P w K mg base fW fdW) (kb : KBinds K fdW ["letters", "length"] ["length", "letters"] rev2 rev2) (hr : Room 15 (A.deeper (envOfC "law" (defScope sLaw) s.heap.objs.size f cdv))) :
    ∃ t, PS (XL P w K mg base f cdv A outer s H E) (lst 7) t ∧ ∀ (a b pp : Addr) (L : List Nat) (y5 y6 y7 y8 y9 y10 y11 : Option V) (D : Ends) (H0 : Hp), Lg L → H0 pp = some (.lst []) →
      (∀ y13 y14 H', H' pp = some (.lst ((prs (wds L 1)).map tx)) → D.nx (S16 a b L y5 y6 y7 y8 y9 y10 y11 (some (.ref pp)) y13 y14) H') → t D (S16 a b L y5 y6 y7 y8 y9 y10 y11 (some (.ref pp)) none none) H0 := by
  have r13 : Room 13 (A.deeper (envOfC "law" (defScope sLaw) s.heap.objs.size f cdv)) := hr.mono (by decide)
  refine ⟨_, ps_forN xl_xe rfl r13 (pgn_call cW.ok hr.depth (by rfl) cW.g cW.kp cW.b .nil (pa_cons (pv 3) (pa_cons pe_int pa_nil))) (pg_name (i := 13) scLaw.nd rfl (Or.inl rfl))
    (pss_one (ps_forN xl_xe rfl r13 (pgn_kw cW.ok hr.depth (by rfl) cW.g cW.kp kb (pk_cons pe_int (pk_cons (pv 3) pk_nil))) (pg_name (i := 14) scLaw.nd rfl (Or.inl rfl))
      (pss_one (ps_expr (pe_bm PySem.F.plainAttrs_list PySem.F.slot_list_append PySem.F.type_list_append mt_append (pv 12) (pa_cons (pe_op op_add_str (pv 13) (pv 14)) pa_nil)))))), ?_⟩
  intro a b pp L y5 y6 y7 y8 y9 y10 y11 D H0 hL hp nx
  have wl : (wds L 1).length ≤ 6 := by
    rw [wds_len hL.lt hL.1.1 0, Nat.pow_zero, Nat.mul_one]
    have := hL.2.1
    omega
  refine ⟨_, rfl, (wds L 1).map tx, ⟨1, by decide, L, rfl, hL.lt, hL.2.1, rfl⟩, ?_⟩
  refine ⟨fun i σ H2 => ∃ y13 y14 : Option V, σ = S16 a b L y5 y6 y7 y8 y9 y10 y11 (some (.ref pp)) y13 y14 ∧ H2 pp = some (.lst ((((wds L 1).take i).flatMap fun u => (wds L 1).map fun v => u ++ v).map tx)), ⟨none, none, rfl, hp⟩, ?_, ?_⟩
  · rintro i x σ H2 hx ⟨y13, y14, rfl, hq⟩
    rw [List.getElem?_map] at hx
    obtain ⟨u, hu⟩ : ∃ u, (wds L 1)[i]? = some u := by
      cases e : (wds L 1)[i]? with
      | none => rw [e] at hx; cases hx
      | some u => exact ⟨u, rfl⟩
    rw [hu] at hx
    obtain rfl : tx u = x := Option.some.inj hx
    have ul := (wds_all (List.mem_of_getElem? hu)).1
    refine ⟨_, rfl, (wds L 1).map tx, ⟨1, by decide, L, rfl, hL.lt, hL.2.1, rfl⟩, ?_⟩
    refine ⟨fun j σ H2 => ∃ y14 : Option V, σ = S16 a b L y5 y6 y7 y8 y9 y10 y11 (some (.ref pp)) (some (tx u)) y14 ∧ H2 pp = some (.lst (((((wds L 1).take i).flatMap fun u => (wds L 1).map fun v => u ++ v) ++ ((wds L 1).take j).map fun v => u ++ v).map tx)), ⟨_, rfl, ?_⟩, ?_, ?_⟩
    · rw [hq]
      simp
    · rintro j x σ H3 hx ⟨y14', rfl, hq3⟩
      rw [List.getElem?_map] at hx
      obtain ⟨v, hv⟩ : ∃ v, (wds L 1)[j]? = some v := by
        cases e : (wds L 1)[j]? with
        | none => rw [e] at hx; cases hx
        | some v => exact ⟨v, rfl⟩
      rw [hv] at hx
      obtain rfl : tx v = x := Option.some.inj hx
      have vl := (wds_all (List.mem_of_getElem? hv)).1
      refine ⟨_, rfl, .inl ⟨rfl, _, SqL.of hq3⟩, _, rfl, _, rfl, _, _, rfl, rfl, ?_, pp, _, _, rfl, rfl, hq3, ?_, _, rfl, ?_⟩
      · rw [tx_len, tx_len, ul, vl]
        decide
      · have hM : ∀ M : List (List Nat), (M.flatMap fun u => (wds L 1).map fun v => u ++ v).length ≤ 6 * M.length := by
          intro M
          induction M with
          | nil => exact Nat.le_refl _
          | cons z M ih =>
            rw [List.flatMap_cons, List.length_append, List.length_cons, List.length_map]
            omega
        have h7 := hM ((wds L 1).take i)
        rw [List.length_map, List.length_append, List.length_map]
        have h8 : ((wds L 1).take i).length ≤ 6 := by rw [List.length_take]; omega
        have h9 : ((wds L 1).take j).length ≤ 6 := by rw [List.length_take]; omega
        exact small1000 (by omega)
      · rw [upd_same, take_more hv, List.map_append, List.map_append, List.map_append, List.map_append, List.append_assoc]
        rw [SX.S_cat]
        rfl
    · rintro σ H3 ⟨y14', rfl, hq3⟩
      refine ⟨_, _, rfl, ?_⟩
      rw [hq3, List.length_map, List.take_length, take_more hu, List.flatMap_append]
      simp
  · rintro σ H2 ⟨y13, y14, rfl, hq⟩
    rw [List.length_map, List.take_length] at hq
    exact nx y13 y14 H2 hq
theorem wds_one {L : List Nat} : wds L 1 = (sg L).map fun c => [c] := by
  show (wds L 0).flatMap (nxt L) = _
  have e : (wds L 0).flatMap (nxt L) = nxt L [] := by simp [wds]
  have e2 : ((sg L).filter fun c => decide (([] : List Nat).getLast? ≠ some (sw c))) = sg L := List.filter_eq_self.mpr fun c _ => by simp
  rw [e]
  unfold nxt
  rw [e2]
  rfl
theorem s8 (B : Bn mg) : ∃ t, PS (XL P w K mg base f cdv A outer s H E) (lst 8) t ∧ ∀ (a b pp : Addr) (L : List Nat) (y5 y6 y7 y8 y9 y10 y11 y13 y14 : Option V) (D : Ends) (H0 : Hp), Lg L → H0 pp = some (.lst ((prs (wds L 1)).map tx)) → D.rt (.bl true) H0 → t D (S16 a b L y5 y6 y7 y8 y9 y10 y11 (some (.ref pp)) y13 y14) H0 := by
  refine ⟨_, ps_ret (pe_and (pe_cmpR op_eq (pe_callB call_len_seq (by rfl) B.len PySem.boot_len (pa_cons (pv 12) pa_nil)) (pe_op op_mul (pe_op op_mul pe_int (pv 2)) (pv 2)) (nomark _))
    (pe_one (pe_cmpR op_eq (pe_ix ix_list (pv 12) pe_int (fun _ _ => rfl)) (pe_op o_mulS (pe_ix ix_str (pv 4) pe_int (fun _ _ => rfl)) pe_int) (nomark _)))), ?_⟩
  intro a b pp L y5 y6 y7 y8 y9 y10 y11 y13 y14 D H0 hL hp q
  have h1 := hL.1.1
  have h3 := hL.2.1
  have plen : (prs (wds L 1)).length = 4 * L.length * L.length := by
    have e : (prs (wds L 1)).length = (wds L 1).length * (wds L 1).length := by
      unfold prs
      exact flat_len (k := (wds L 1).length) fun u _ => by rw [List.length_map]
    rw [e, wds_len hL.lt h1 0, Nat.pow_zero, Nat.mul_one]
    have : 2 * L.length * (2 * L.length) = 4 * L.length * L.length := by
      rw [Nat.mul_mul_mul_comm, ← Nat.mul_assoc]
    exact this
  obtain ⟨c, r, hc⟩ : ∃ c r, sg L = c :: r := by
    cases e : sg L with
    | nil =>
      have := sg_len L
      rw [e] at this
      simp at this
      omega
    | cons c r => exact ⟨c, r, rfl⟩
  have hd0 : ∃ r', prs (wds L 1) = [c, c] :: r' := by
    rw [wds_one, hc]
    exact ⟨_, rfl⟩
  obtain ⟨r', hr'⟩ := hd0
  refine ⟨_, rfl, pp, _, rfl, .inl (SqL.of hp), _, rfl, _, _, rfl, rfl, .inl ⟨by decide, by decide⟩, _, rfl, _, _, rfl, rfl, .inl ⟨by omega, by omega⟩, rfl, true, ?_, iteT ?_⟩
  · rw [List.length_map, plen]
    refine congrArg V.bl (decide_eq_true ?_)
    show V.int _ = V.int _
    congr 1
  · refine ⟨.ref pp, rfl, pp, _, 0, tx [c, c], rfl, rfl, SqL.of hp, by rw [hr']; exact atI_nat (j := 0) rfl, _, rfl, _, 0, c, rfl, rfl, ?_, ?_, c, 2, rfl, rfl, by decide, by decide, rfl, ?_⟩
    · exact asc_le (by rw [sg_len]; omega)
    · show atI (sg L) 0 = some c
      rw [hc]
      exact atI_nat (j := 0) rfl
    · have e : decide (tx [c, c] = tx (List.replicate 2 c)) = true := decide_eq_true rfl
      rw [e]
      exact q
end
end K3
set_option Elab.async false
set_option linter.all false
set_option maxRecDepth 100000
set_option maxHeartbeats 2000000
namespace K3
open PySem PySem.Spec PyProof.Rows L2 Gw
section
variable {P : Program} {w : World} {K : PySem.W.Frag} {mg : Str → Option Value} {base : Heap}
variable {f fBeg fD fLe fSg fBk fTm fSa fW : Addr} {fdBeg fdD fdLe fdSg fdBk fdTm fdSa fdW : FuncData} {cdv : Value} {A : Around} {outer : List Env} {s : Shared} {H : Hp} {E : XK}
theorem s03 (cBeg : Cb P w K mg base CX0 1 "_law_begin" ["_law_script"] (spBegin K) fBeg fdBeg) (cD : Cb P w K mg base CX0 1 "_law_draw" ["_law_box", "_law_many"] spDraw fD fdD) (cLe : Cb P w K mg base CX0 3 "_law_letters" ["_law_box", "_law_many"] spLet fLe fdLe) (cSg : Cb P w K mg base CX0 1 "_law_signs" ["_law_letters_z"] spSigns fSg fdSg)
    (hr : Room 15 (A.deeper (envOfC "law" (defScope sLaw) s.heap.objs.size f cdv))) :
    ∃ t0 t1 t2 t3, PS (XL P w K mg base f cdv A outer s H E) (lst 0) t0 ∧ PS (XL P w K mg base f cdv A outer s H E) (lst 1) t1 ∧ PS (XL P w K mg base f cdv A outer s H E) (lst 2) t2 ∧ PS (XL P w K mg base f cdv A outer s H E) (lst 3) t3 ∧
    (∀ (a : Addr) (ns : List Int) (D : Ends) (H0 : Hp), SqL K H0 a (ns.map V.int) → ns.length ≤ 63 → (∀ H1 b m, Bx H1 b m → D.nx (([some (.ref a), some (.ref b)] : L2.St) ++ List.replicate 14 none) H1) → t0 D ([some (.ref a)] ++ List.replicate 15 none) H0) ∧
    (∀ (a b m : Addr) (D : Ends) (H0 : Hp), Bx H0 b m → (∀ (n : Nat) H1, 1 ≤ n → n ≤ 3 → Bx H1 b m → D.nx (([some (.ref a), some (.ref b), some (.int n)] : L2.St) ++ List.replicate 13 none) H1) → t1 D (([some (.ref a), some (.ref b)] : L2.St) ++ List.replicate 14 none) H0) ∧
    (∀ (a b m : Addr) (n : Nat) (D : Ends) (H0 : Hp), Bx H0 b m → 1 ≤ n → n ≤ 3 → (∀ L H1, Lg L → L.length = n → D.nx (([some (.ref a), some (.ref b), some (.int (L.length : Nat)), some (tx L)] : L2.St) ++ List.replicate 12 none) H1) → t2 D (([some (.ref a), some (.ref b), some (.int n)] : L2.St) ++ List.replicate 13 none) H0) ∧
    (∀ (a b : Addr) (L : List Nat) (D : Ends) (H0 : Hp), Lg L → (∀ pf H1, H1 pf = some (.lst [tx []]) → D.nx (S16 a b L (some (.ref pf)) none none none none none none none none none) H1) → t3 D (([some (.ref a), some (.ref b), some (.int (L.length : Nat)), some (tx L)] : L2.St) ++ List.replicate 12 none) H0) := by
  have r1 : Room 1 (A.deeper (envOfC "law" (defScope sLaw) s.heap.objs.size f cdv)) := hr.mono (by decide)
  have r3 : Room 3 (A.deeper (envOfC "law" (defScope sLaw) s.heap.objs.size f cdv)) := hr.mono (by decide)
  refine ⟨_, _, _, _, ps_set (i := 1) scLaw.nd rfl (.inl rfl) (pe_call cBeg.ok r1 (by rfl) cBeg.g cBeg.kp cBeg.b .nil pass0 (pa_cons (pv 0) pa_nil)),
    ps_set (i := 2) scLaw.nd rfl (.inl rfl) (pe_op op_add pe_int (pe_call cD.ok r1 (by rfl) cD.g cD.kp cD.b .nil pass0 (pa_cons (pv 1) (pa_cons pe_int pa_nil)))),
    ps_set (i := 3) scLaw.nd rfl (.inl rfl) (pe_call cLe.ok r3 (by rfl) cLe.g cLe.kp cLe.b .nil pass0 (pa_cons (pv 1) (pa_cons (pv 2) pa_nil))),
    ps_par (i := 4) (j := 5) (by rfl) scLaw.nd rfl rfl (by decide) rfl rfl (pa_cons (pe_call cSg.ok r1 (by rfl) cSg.g cSg.kp cSg.b .nil pass0 (pa_cons (pv 3) pa_nil)) (pa_cons (pe_lst (pa_cons pe_str pa_nil)) pa_nil)) (by rfl), ?_, ?_, ?_, ?_⟩
  · intro a ns D H0 hS hl nx
    exact ⟨_, rfl, a, ns, rfl, hS, hl, fun H1 b m s1 nb bx => nx H1 b m bx⟩
  · intro a b m D H0 bx nx
    refine ⟨_, rfl, b, m, 3, rfl, bx, by decide, by decide, fun d H1 d0 d1 hT1 => ⟨_, _, rfl, rfl, ?_⟩⟩
    have z := nx (1 + d).toNat H1 (by omega) (by omega) hT1.1
    rw [Int.toNat_of_nonneg (by omega)] at z
    exact z
  · intro a b m n D H0 bx h1 h3 nx
    refine ⟨_, rfl, _, rfl, b, m, n, rfl, bx, h1, h3, fun L H1 hl hm hG => ?_⟩
    have z := nx L H1 ⟨⟨by omega, hl.2⟩, by omega, hm⟩ hl.1
    rw [hl.1] at z
    exact z
  · intro a b L D H0 hL nx
    refine ⟨_, rfl, L, rfl, hL.lt, fun H1 s1 => ⟨(by show 1 ≤ sizeLine; decide), fun p np => ⟨_, _, rfl, nx p _ ?_⟩⟩⟩
    rw [upd_same, e0S]
theorem ok_law {fd : FuncData} (F : Fun K "law" "law" sLaw f fd) (B : Bn mg) (cBeg : Cb P w K mg base CX0 1 "_law_begin" ["_law_script"] (spBegin K) fBeg fdBeg) (cD : Cb P w K mg base CX0 1 "_law_draw" ["_law_box", "_law_many"] spDraw fD fdD) (cLe : Cb P w K mg base CX0 3 "_law_letters" ["_law_box", "_law_many"] spLet fLe fdLe) (cSg : Cb P w K mg base CX0 1 "_law_signs" ["_law_letters_z"] spSigns fSg fdSg)
    (cT : Cb P w K mg base CX0 1 "_law_times" ["_law_first", "_law_factor", "_law_times_here"] spTimes fTm fdTm) (cS : Cb P w K mg base CX0 2 "_law_same" ["_law_found", "_law_due"] (spSame 1) fSa fdSa) (cB : Cb P w K mg base CX0 1 "_law_back" ["_law_sign"] spBack fBk fdBk)
    (cW : Gb P w K mg base fW fdW) (kb : KBinds K fdW ["letters", "length"] ["length", "letters"] rev2 rev2) : FnOk P w K mg base CX0 16 f fd ["_law_script"] (spLaw K) := by
  refine F.ok scLaw (fun vs H Q E h => ?_) (fun cdv A outer s H vs Q E hr h => ?_)
  · obtain ⟨a, ns, rfl, _⟩ := h
    rfl
  · obtain ⟨a, ns, rfl, hS, hl, q⟩ := h
    obtain ⟨t0, t1, t2, t3, p0, p1, p2, p3, q0, q1, q2, q3⟩ := s03 (base := base) (outer := outer) (H := H) (E := E) cBeg cD cLe cSg hr
    obtain ⟨t4, p4, q4⟩ := s4 (base := base) (outer := outer) (H := H) (E := E) B cW cT cS cB hr
    obtain ⟨t5, p5, q5⟩ := s5 (base := base) (outer := outer) (H := H) (E := E) B cW hr
    obtain ⟨t6, p6, q6⟩ := s6 (P := P) (w := w) (K := K) (mg := mg) (f := f) (cdv := cdv) (A := A) (s := s) (base := base) (outer := outer) (H := H) (E := E)
    obtain ⟨t7, p7, q7⟩ := s7 (base := base) (outer := outer) (H := H) (E := E) cW kb hr
    obtain ⟨t8, p8, q8⟩ := s8 (P := P) (w := w) (K := K) (f := f) (cdv := cdv) (A := A) (s := s) (base := base) (outer := outer) (H := H) (E := E) B
    rw [law_is]
    refine ⟨_, pss_cons p0 (pss_cons p1 (pss_cons p2 (pss_cons p3 (pss_cons p4 (pss_cons p5 (pss_cons p6 (pss_cons p7 (pss_one p8)))))))), ?_⟩
    refine q0 a ns _ _ hS hl fun H1 b m bx => ?_
    refine q1 a b m _ H1 bx fun n H2 n1 n3 bx2 => ?_
    refine q2 a b m n _ H2 bx2 n1 n3 fun L H3 hL _ => ?_
    refine q3 a b L _ H3 hL fun pf H4 hpf => ?_
    refine q4 a b pf L _ H4 hL hpf fun y5 y6 y7 y8 y9 y10 y11 H5 => ?_
    refine q5 _ _ H5 fun H6 => ?_
    refine q6 a b L y5 y6 y7 y8 y9 y10 y11 _ _ _ _ H6 fun pp npp => ?_
    refine q7 a b pp L y5 y6 y7 y8 y9 y10 y11 _ _ hL upd_same fun y13 y14 H7 h7 => ?_
    exact q8 a b pp L y5 y6 y7 y8 y9 y10 y11 y13 y14 _ H7 hL h7 (q H7)
end
theorem kb_of {K : PySem.W.Frag} {f : Addr} {fd : FuncData} (F : Fun K "words_of" "words_of" sWords f fd) : KBinds K fd ["letters", "length"] ["length", "letters"] rev2 rev2 := by
  obtain ⟨oc, od, kV, doc, pm, an, cdv, ct, osl, rfl, lk, hcd⟩ := F.ex
  refine ⟨fun s us ws _ hl => ?_, fun {vs us zs ws} r rz => rev2_rel r rz⟩
  match us, ws, hl with
  | [], [v, u], _ => exact .of_eq rfl
end K3
set_option Elab.async false
set_option linter.all false
set_option maxRecDepth 100000
set_option maxHeartbeats 0
namespace K3
open PySem PySem.Spec PyProof.Rows L2
def dD (x : Str) (st : Stmt) : He.DefD := ⟨(x, none), x, x, defArgs st, defBody st, defScope st, [], []⟩
def fn : List He.DefD := [dD "signs_of" sSignsOf, dD "opposite" sOpp, dD "words_of" sWords, dD "_law_begin" sBegin, dD "_law_draw" sDraw, dD "_law_any" sAny, dD "_law_same" sSame, dD "_law_letters" sLetters, dD "_law_signs" sSigns, dD "_law_back" sBack, dD "_law_times" sTimes, dD "law" sLaw]
def gl : List Str := ["signs_of", "opposite", "words_of", "_law_begin", "_law_draw", "_law_any", "_law_same", "_law_letters", "_law_signs", "_law_back", "_law_times", "law"]
def fr : List Str := ["len", "int", "isinstance", "list", "tuple", "all", "range", "bool", "str", "enumerate"]
def fa : List He.Fa := gl.map He.Fa.glo ++ fr.map He.Fa.free
abbrev R : PySem.W.OpenRow := PySem.W.OpenLaw.row PySem.Challenge.rw_roundswap_k03_words_listed
abbrev hk : PySem.W.Hook := He.hookX 5 fa fn [] [] (fun _ => true)
def ob (s : PySem.W.SharedT) : He.AlX := He.obsX 5 fa fn [] [] (fun _ => true) (HandSHeadRun.getT s)
theorem ob_eq (s : PySem.W.SharedT) : ob s = hk.obs s.abs := He.obsX_eq (HandSHeadRun.getT_eq s)
def loose : List Str := ["signs_of", "opposite", "words_of", "_law_begin", "_law_draw", "_law_any", "_law_same", "_law_letters", "_law_signs", "_law_back", "_law_times"]
theorem run (w : World) : HandSHeadRun.RunEq R (PySem.W.view R.prog [13]) hk ob 4000 loose w := by
  intro os
  kernel_rfl
theorem fun_ofD {K : PySem.W.Frag} {x q : Str} {st : Stmt} {f : Addr} {fd : FuncData} (F : FunD K x q (defArgs st) (defBody st) (defScope st) [] [] f fd) : Fun K x q st f fd := by
  obtain ⟨⟨oc, od, dV, kV, doc, pm, an, cdv, ct, osl, e, lk, hcd, hd, _⟩, kp⟩ := F
  obtain rfl : dV = .none := hd.elim (fun z => z.2) (fun z => absurd rfl z.1)
  exact ⟨⟨oc, od, kV, doc, pm, an, cdv, ct, osl, e, lk, hcd⟩, kp⟩
theorem facts {w : World} {K : PySem.W.Frag} {h : Heap} {mg : Str → Option Value} {fl : Addr} (X : K.In h) (G : h.Ns mainGlobals mg) (hfa : mg ("law" : Str) = some (.ref fl)) (c : He.SaysX fa fn [] [] (fun _ => true) w h K) :
    LamX.LawAtS PySem.Challenge.rw_roundswap_k03_words_listed w K CX0 16 63 "_law_script" mg fl h := by
  have cD := c.t.d
  have g : ∀ x ∈ gl, mg x = some (.ref (He.ga K x)) := fun x hx => He.glo_ok X G (cD.facts (List.mem_append_left _ (List.mem_map.mpr ⟨x, hx, rfl⟩)))
  have fz : ∀ x ∈ fr, mg x = none := fun x hx => He.free_ok X G (cD.facts (List.mem_append_right _ (List.mem_map.mpr ⟨x, hx, rfl⟩)))
  have B : Bn mg := ⟨fz _ (by decide), fz _ (by decide), fz _ (by decide), fz _ (by decide), fz _ (by decide), fz _ (by decide), fz _ (by decide), fz _ (by decide), fz _ (by decide), fz _ (by decide)⟩
  obtain ⟨d0, F0'⟩ := cD.def_ 0 (d := dD "signs_of" sSignsOf) rfl
  have F0 : Fun K "signs_of" "signs_of" sSignsOf (He.ga K "signs_of") d0 := fun_ofD F0'
  have b0 : Binds K d0 ["letters"] [] := F0.binds fun _ _ _ _ _ _ us hl => match us, hl with | [_], _ => rfl
  have g0 : mg "signs_of" = some (.ref (He.ga K "signs_of")) := g _ (by decide)
  obtain ⟨d1, F1'⟩ := cD.def_ 1 (d := dD "opposite" sOpp) rfl
  have F1 : Fun K "opposite" "opposite" sOpp (He.ga K "opposite") d1 := fun_ofD F1'
  have b1 : Binds K d1 ["word"] [] := F1.binds fun _ _ _ _ _ _ us hl => match us, hl with | [_], _ => rfl
  have g1 : mg "opposite" = some (.ref (He.ga K "opposite")) := g _ (by decide)
  obtain ⟨d2, F2'⟩ := cD.def_ 2 (d := dD "words_of" sWords) rfl
  have F2 : Fun K "words_of" "words_of" sWords (He.ga K "words_of") d2 := fun_ofD F2'
  have b2 : Binds K d2 ["letters", "length"] [] := F2.binds fun _ _ _ _ _ _ us hl => match us, hl with | [_, _], _ => rfl
  have g2 : mg "words_of" = some (.ref (He.ga K "words_of")) := g _ (by decide)
  obtain ⟨d3, F3'⟩ := cD.def_ 3 (d := dD "_law_begin" sBegin) rfl
  have F3 : Fun K "_law_begin" "_law_begin" sBegin (He.ga K "_law_begin") d3 := fun_ofD F3'
  have b3 : Binds K d3 ["_law_script"] [] := F3.binds fun _ _ _ _ _ _ us hl => match us, hl with | [_], _ => rfl
  have g3 : mg "_law_begin" = some (.ref (He.ga K "_law_begin")) := g _ (by decide)
  obtain ⟨d4, F4'⟩ := cD.def_ 4 (d := dD "_law_draw" sDraw) rfl
  have F4 : Fun K "_law_draw" "_law_draw" sDraw (He.ga K "_law_draw") d4 := fun_ofD F4'
  have b4 : Binds K d4 ["_law_box", "_law_many"] [] := F4.binds fun _ _ _ _ _ _ us hl => match us, hl with | [_, _], _ => rfl
  have g4 : mg "_law_draw" = some (.ref (He.ga K "_law_draw")) := g _ (by decide)
  obtain ⟨d5, F5'⟩ := cD.def_ 5 (d := dD "_law_any" sAny) rfl
  have F5 : Fun K "_law_any" "_law_any" sAny (He.ga K "_law_any") d5 := fun_ofD F5'
  have b5 : Binds K d5 ["_law_box", "_law_some"] [] := F5.binds fun _ _ _ _ _ _ us hl => match us, hl with | [_, _], _ => rfl
  have g5 : mg "_law_any" = some (.ref (He.ga K "_law_any")) := g _ (by decide)
  obtain ⟨d6, F6'⟩ := cD.def_ 6 (d := dD "_law_same" sSame) rfl
  have F6 : Fun K "_law_same" "_law_same" sSame (He.ga K "_law_same") d6 := fun_ofD F6'
  have b6 : Binds K d6 ["_law_found", "_law_due"] [] := F6.binds fun _ _ _ _ _ _ us hl => match us, hl with | [_, _], _ => rfl
  have g6 : mg "_law_same" = some (.ref (He.ga K "_law_same")) := g _ (by decide)
  obtain ⟨d7, F7'⟩ := cD.def_ 7 (d := dD "_law_letters" sLetters) rfl
  have F7 : Fun K "_law_letters" "_law_letters" sLetters (He.ga K "_law_letters") d7 := fun_ofD F7'
  have b7 : Binds K d7 ["_law_box", "_law_many"] [] := F7.binds fun _ _ _ _ _ _ us hl => match us, hl with | [_, _], _ => rfl
  have g7 : mg "_law_letters" = some (.ref (He.ga K "_law_letters")) := g _ (by decide)
  obtain ⟨d8, F8'⟩ := cD.def_ 8 (d := dD "_law_signs" sSigns) rfl
  have F8 : Fun K "_law_signs" "_law_signs" sSigns (He.ga K "_law_signs") d8 := fun_ofD F8'
  have b8 : Binds K d8 ["_law_letters_z"] [] := F8.binds fun _ _ _ _ _ _ us hl => match us, hl with | [_], _ => rfl
  have g8 : mg "_law_signs" = some (.ref (He.ga K "_law_signs")) := g _ (by decide)
  obtain ⟨d9, F9'⟩ := cD.def_ 9 (d := dD "_law_back" sBack) rfl
  have F9 : Fun K "_law_back" "_law_back" sBack (He.ga K "_law_back") d9 := fun_ofD F9'
  have b9 : Binds K d9 ["_law_sign"] [] := F9.binds fun _ _ _ _ _ _ us hl => match us, hl with | [_], _ => rfl
  have g9 : mg "_law_back" = some (.ref (He.ga K "_law_back")) := g _ (by decide)
  obtain ⟨d10, F10'⟩ := cD.def_ 10 (d := dD "_law_times" sTimes) rfl
  have F10 : Fun K "_law_times" "_law_times" sTimes (He.ga K "_law_times") d10 := fun_ofD F10'
  have b10 : Binds K d10 ["_law_first", "_law_factor", "_law_times_here"] [] := F10.binds fun _ _ _ _ _ _ us hl => match us, hl with | [_, _, _], _ => rfl
  have g10 : mg "_law_times" = some (.ref (He.ga K "_law_times")) := g _ (by decide)
  obtain ⟨d11, F11'⟩ := cD.def_ 11 (d := dD "law" sLaw) rfl
  have F11 : Fun K "law" "law" sLaw (He.ga K "law") d11 := fun_ofD F11'
  have b11 : Binds K d11 ["_law_script"] [] := F11.binds fun _ _ _ _ _ _ us hl => match us, hl with | [_], _ => rfl
  have g11 : mg "law" = some (.ref (He.ga K "law")) := g _ (by decide)
  obtain rfl : fl = He.ga K "law" := by
    have e := hfa.symm.trans g11
    injection e with e
    injection e
  obtain ⟨oc, od, kV, doc, pm, an, cdv, ct, osl, rfl, lk, hcd⟩ := id F11.ex
  refine ⟨PySem.W.fnOf "law" "law" (defArgs sLaw) (defBody sLaw) (defScope sLaw) .none kV doc pm an cdv ct, [], spLaw K, (fun p hp => nomatch hp), (fun p hp => nomatch hp), (fun p hp => nomatch hp), (fun s u => .of_eq rfl), ?_, ?_⟩
  · intro H a ns hl _ hT hS
    exact ⟨a, ns, rfl, hS, hl, fun _ => rfl⟩
  · intro base KB NB TBs
    have GDr : FnOk PySem.Challenge.rw_roundswap_k03_words_listed.prog w K mg base CX0 1 _ d4 _ spDraw := ok_draw F4 B
    have GAn : FnOk PySem.Challenge.rw_roundswap_k03_words_listed.prog w K mg base CX0 2 _ d5 _ spAny := ok_any (k := 0) F5 B F4 b4 g4
    exact ok_law F11 B ⟨ok_begin F3 B, F3.kp, b3, g3⟩ ⟨GDr, F4.kp, b4, g4⟩ ⟨ok_let (k := 0) F7 B GAn F5.kp b5 g5, F7.kp, b7, g7⟩ ⟨ok_signs F8, F8.kp, b8, g8⟩ ⟨ok_times F10 B, F10.kp, b10, g10⟩ ⟨ok_same F6 B b6 g6 1, F6.kp, b6, g6⟩ ⟨ok_back F9, F9.kp, b9, g9⟩
      ⟨words_all F2 b2 g2 (ok_sof F0) F0.kp b0 g0 (ok_opp F1) F1.kp b1 g1, F2.kp, b2, g2⟩ (kb_of F2)
end K3
open PySem PySem.W PySem.Calls PyProof.Rows
set_option maxRecDepth 100000 in
set_option maxHeartbeats 0 in
theorem PySem.Challenge.cw_roundswap_k03_words_listed_holds : PySem.Challenge.rw_roundswap_k03_words_listed.Holds := by
  w_on; o_law
  refine HandSHeadRun.head_any (r := OpenLaw.row PySem.Challenge.rw_roundswap_k03_words_listed) (q := view (OpenLaw.row PySem.Challenge.rw_roundswap_k03_words_listed).prog [13]) (H := K3.hk) (ob := K3.ob) (M := 4000) (loose := K3.loose) (d := HandSHeadRun.topDef (OpenLaw.row PySem.Challenge.rw_roundswap_k03_words_listed).prog 13) (kwd := []) K3.ob_eq
    (by kernel_rfl) (fun s => by kernel_rfl) K3.run (by kernel_rfl) (by kernel_rfl) (by kernel_rfl) (by rfl) (by first | assumption | decide +kernel) (by decide +kernel) ⟨rfl, rfl, rfl, rfl, rfl, by decide +kernel⟩ ?hw ?hc
  case hw => w_witness2
  case hc =>
    refine LamX.walk_ofTsE (l := PySem.Challenge.rw_roundswap_k03_words_listed) (n := 63) (k := 16) (x := "_law_script") (CX := fun _ => L2.CX0) rfl (by decide) (by kernel_rfl) ⟨rfl, by decide, by decide⟩ ?F (fun _ _ _ _ _ z => z)
    intro w mg fa h Y G hmg0
    obtain ⟨K, KX, c⟩ := Y
    have hmg : mg ("law" : PySem.Str) = some (.ref fa) := by
      have e : (HandSHeadRun.topDef (OpenLaw.row PySem.Challenge.rw_roundswap_k03_words_listed).prog 13).name = ("law" : PySem.Str) := by kernel_rfl
      rw [← e]
      exact hmg0
    exact ⟨K, KX, K3.facts KX G hmg c⟩
