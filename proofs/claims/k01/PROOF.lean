import PyProof.Rows.All
import Wide.All
import OpenK.AllK
import Wide.FinOn
import PyProof.EqAt
import PyProof.StrBlock
import PyProof.StrLawsIn
import PyProof.EqKinds
import PyProof.TupleCall
import HandS.ForMost
import HandS.Walk
import HandS.Style
import HandS.Exc
import HandS.HotCalls
import HandS.ExcField
import KE.KTryMore
import HandS.Wide
import HandS.IsInst
import HandS.Lambda
import HandS.EndTab
import HandS.ExcInit
import HandS.Flow
import HandS.StrMore
import HandS.Codes
import HandS.WordsExc
import KE.KStateDown
import HandS.More
import HandS.Defaults
import HandS.Head0
import HandS.Head1
import HandS.Head2
import HandS.HeadEnd
import HandS.HeadHook1
import HandS.HeadHook2
import HandS.HeadHook3
import HandS.HeadHook4
import HandS.HeadWalk
import PySem.Challenge.RW_roundswap_k01_opposites_and_counts
set_option Elab.async false
set_option linter.all false
set_option maxRecDepth 100000
set_option maxHeartbeats 2000000
/-! how often a sign stands in a text -/
namespace Cnt
open PySem PySem.StrLaws Builtin.Str
theorem loop (x : Str) (c : Nat) : ∀ (n lo : Nat) (acc : Array Nat) (free : Nat), free ≤ lo → lo + n = x.length + 1 → acc.size + n ≤ x.length + 1 →
    (forIn (List.range' lo n) (acc, free) (occBody x ⟨#[c]⟩ x.length (x.length + 1))).run.fst.size = acc.size + (x.cps.toList.drop lo).count c
  | 0, lo, acc, free, _, h2, _ => by
    have e : x.cps.toList.drop lo = [] := List.drop_eq_nil_of_le (by simp [Str.length] at h2 ⊢; omega)
    rw [e]
    rfl
  | n + 1, lo, acc, free, h1, h2, h3 => by
    rw [List.range'_succ, List.forIn_cons]
    unfold occBody
    by_cases hc : x.cps.toList[lo]? = some c
    · obtain ⟨z1, z2⟩ := (subAt_one x c lo).mpr hc
      have hp : ((acc.size < x.length + 1 ∧ free ≤ lo) ∧ lo + (⟨#[c]⟩ : Str).length ≤ x.length) ∧ subAt x ⟨#[c]⟩ lo = true := ⟨⟨⟨by omega, h1⟩, z1⟩, z2⟩
      rw [if_pos hp]
      have ih := loop x c n (lo + 1) (acc.push lo) (lo + 1) (Nat.le_refl _) (by omega) (by rw [Array.size_push]; omega)
      obtain ⟨hl, hv⟩ := List.getElem?_eq_some_iff.mp hc
      rw [List.drop_eq_getElem_cons hl, hv, List.count_cons_self]
      rw [Array.size_push] at ih
      refine Eq.trans ?_ (ih.trans (by omega))
      rfl
    · have hn : ¬ (((acc.size < x.length + 1 ∧ free ≤ lo) ∧ lo + (⟨#[c]⟩ : Str).length ≤ x.length) ∧ subAt x ⟨#[c]⟩ lo = true) := fun h => hc ((subAt_one x c lo).mp ⟨h.1.2, h.2⟩)
      rw [if_neg hn]
      have ih := loop x c n (lo + 1) acc free (by omega) (by omega) (by omega)
      have e : (x.cps.toList.drop lo).count c = (x.cps.toList.drop (lo + 1)).count c := by
        by_cases hl : lo < x.cps.toList.length
        · rw [List.drop_eq_getElem_cons hl, List.count_cons_of_ne]
          intro z
          exact hc (by rw [List.getElem?_eq_getElem hl, z])
        · rw [List.drop_eq_nil_of_le (by omega), List.drop_eq_nil_of_le (by omega)]
      rw [e]
      exact ih
theorem one (x : Str) (c : Nat) : Txt.count x ⟨#[c]⟩ = (x.cps.toList.count c : Nat) := by
  unfold Txt.count
  rw [occ_eq]
  have z := loop x c (x.length + 1) 0 #[] 0 (Nat.le_refl _) (by omega) (by simp)
  rw [Array.length_toList]
  rw [Nat.sub_zero]
  rw [z]
  simp
theorem more (x : Nat) (l : List Nat) : ∀ M : List Nat, (M.map fun c => (x :: l).count c).sum = (M.map fun c => l.count c).sum + M.count x
  | [] => rfl
  | c :: M => by
    have ih := more x l M
    simp only [List.map_cons, List.sum_cons]
    rw [ih]
    by_cases h : x = c
    · subst h
      rw [List.count_cons_self, List.count_cons_self]
      omega
    · rw [List.count_cons_of_ne h, List.count_cons_of_ne (Ne.symm h)]
      omega
theorem atmost {M : List Nat} (hM : M.Nodup) (x : Nat) : M.count x = if x ∈ M then 1 else 0 := by
  by_cases h : x ∈ M
  · rw [if_pos h]
    have h1 := List.nodup_iff_count.mp hM x
    have h2 := List.count_pos_iff.mpr h
    omega
  · rw [if_neg h]
    exact List.count_eq_zero.mpr h
theorem le {M : List Nat} (hM : M.Nodup) : ∀ l : List Nat, (M.map fun c => l.count c).sum ≤ l.length
  | [] => by
    have : ∀ M : List Nat, (M.map fun c => ([] : List Nat).count c).sum = 0 := fun M => by
      induction M with
      | nil => rfl
      | cons c M ih => simpa using ih
    rw [this]
    exact Nat.zero_le _
  | x :: l => by
    have ih := le hM l
    rw [more, atmost hM]
    simp only [List.length_cons]
    split <;> omega
/-- all signs of a text are among different ones exactly if these stand there as often as it is long -/
theorem all {M : List Nat} (hM : M.Nodup) : ∀ l : List Nat, ((M.map fun c => l.count c).sum = l.length) ↔ l.all (fun c => decide (c ∈ M)) = true
  | [] => by
    have h := le hM []
    simp at h ⊢
    omega
  | x :: l => by
    have ih := all hM l
    have h := le hM l
    rw [more, atmost hM, List.all_cons]
    simp only [List.length_cons]
    by_cases hx : x ∈ M
    · rw [if_pos hx, decide_eq_true hx, Bool.true_and, ← ih]
      omega
    · rw [if_neg hx, decide_eq_false hx, Bool.false_and]
      constructor
      · intro z; omega
      · intro z; cases z
theorem sumInt (f : Nat → Nat) : ∀ M : List Nat, (M.map fun c => ((f c : Nat) : Int)).sum = ((M.map f).sum : Nat)
  | [] => rfl
  | c :: M => by
    have ih := sumInt f M
    simp only [List.map_cons, List.sum_cons]
    rw [ih]
    omega
end Cnt
namespace Rs
open PySem PySem.Spec PyProof.Rows L2
section
variable {X : Cx}
/-! texts: swapcase, and [::-1] -/
theorem m_swapcase : MtR X "str.swapcase" (fun x xs H Q => ∃ a, x = .str a ∧ xs = [] ∧ a.length ≤ 5592405 ∧ Q (.str (Txt.swapcase a)) H) :=
  mt0 (C := fun a => a.length ≤ 5592405) (g := fun a => .str (Txt.swapcase a)) fun a _ s _ hc h => PySem.SC.swapcase (fit_swapcase hc) (h _ (s.toks + 1) ⟨_, rfl⟩)
def rv (z : Str) : Str := ⟨z.cps.reverse⟩
theorem rv_is (z : Str) (u : Tok) : Txt.sliceBy z none none (-1, u) = rv z := by
  have e := step_rev_list z u
  unfold rv
  have e2 : (Txt.sliceBy z none none (-1, u)).cps = z.cps.reverse := by
    apply Array.toList_inj.mp
    rw [e, Array.toList_reverse]
    apply List.ext_getElem?
    intro i
    rw [List.getElem?_map]
    by_cases h : i < z.cps.size
    · have hl : i < z.length := h
      rw [List.getElem?_range hl, List.getElem?_reverse (by simpa using h)]
      have h2 : z.length - 1 - i < z.cps.size := by show z.cps.size - 1 - i < _; omega
      show some _ = z.cps.toList[z.cps.size - 1 - i]?
      rw [Array.getElem?_toList]
      have h3 : z.cps.size - 1 - i < z.cps.size := h2
      rw [Array.getElem?_eq_getElem h3]
      congr 1
      show z.cps.getD (z.cps.size - 1 - i) 0 = _
      simp [Array.getD, h3]
    · have h1 : (List.range z.length)[i]? = none := by
        rw [List.getElem?_eq_none_iff, List.length_range]; exact Nat.not_lt.mp h
      rw [h1, List.getElem?_eq_none (by simpa using Nat.not_lt.mp h)]
      rfl
  cases hz : Txt.sliceBy z none none (-1, u)
  rw [hz] at e2
  dsimp only at e2
  rw [e2]
def tRevS (te : TE) : TE := fun σ H Q => te σ H fun x H1 => ∃ z, x = .str z ∧ z.length ≤ sizeLine ∧ Q (.str (rv z)) H1
theorem e_revS {e : Expr} {te : TE} {k : Nat} {p1 p2 p3 pos : Pos} (he : PE X e te) :
    PE X (.Subscript e (.Slice none none (some (.UnaryOp .USub (.Constant (.int 1) k p1) p2)) p3) pos) (tRevS te) := by
  constructor
  intro pins s σ H Q I h
  refine Subscript_ (thn (he.run pins s σ H _ I h) fun v s1 hh => ?_)
  obtain ⟨x, H1, I1, r1, z, ez, hz, q⟩ := hh
  subst ez
  obtain ⟨t, rfl⟩ := r1
  have hst : PO X (some (.UnaryOp .USub (.Constant (.int 1) k p1) p2)) (tPart (tUn (rU fun i => .int (-i)) (tC (.int 1)))) :=
    po_some (pe_un un_neg pe_int)
  refine wpAny_Slice (thn (po_none.run pins s1 σ H1 (fun o H2 => o = none ∧ H2 = H1) I1 ⟨rfl, rfl⟩) ?_)
  rintro vl s2 ⟨l, H2, I2, pl, rfl, rfl⟩
  refine thn (po_none.run pins s2 σ H2 (fun o H3 => o = none ∧ H3 = H2) I2 ⟨rfl, rfl⟩) ?_
  rintro vu s3 ⟨u, H3, I3, pu, rfl, rfl⟩
  refine thn (hst.run pins s3 σ H3 (fun o H4 => o = some (-1) ∧ H4 = H3) I3 ⟨1, rfl, -1, rfl, rfl, rfl⟩) ?_
  rintro vs s4 ⟨o, H4, I4, ps, rfl, rfl⟩
  obtain ⟨l', rfl, hl'⟩ := IsPart.raw pl
  obtain ⟨u', rfl, hu'⟩ := IsPart.raw pu
  obtain ⟨k', rfl, hk'⟩ := IsPart.raw ps
  cases l' with
  | some l' => cases hl'
  | none =>
  cases u' with
  | some u' => cases hu'
  | none =>
  cases k' with
  | none => cases hk'
  | some k' =>
  obtain ⟨kk, tk⟩ := k'
  have ek : kk = -1 := by simpa using hk'
  subst ek
  refine tail_any (ops := [.str z t, .ref s4.heap.objs.size]) (typeIs_str _ _ _) (F.slot_str_getitem.lookup) ?_ (by with_unfolding_all rfl)
  refine wpAny_getItem_str_slice (l := none) (u := none) (st := some (-1, tk)) ⟨_, Heap.get?_push_size _ rfl, rfl, rfl⟩ rfl ?_
  refine post_val_or_str ⟨Nat.le_trans (Txt.sliceBy_le z _ _ (-1, tk) (by show (-1 : Int) ≠ 0; decide)) hz, fun t' c => ?_⟩
  show EP X pins σ Q (.str (Txt.sliceBy z none none (-1, tk)) t') _
  rw [rv_is]
  exact ⟨.str (rv z), _, I4.kept fun b ob q => Heap.get?_push_of_some _ q, ⟨_, rfl⟩, q⟩
end
end Rs
set_option maxRecDepth 100000
set_option maxHeartbeats 2000000
namespace Rs
open PySem PySem.Spec PyProof.Rows L2
theorem fly_keeps {h h' Bh : Heap} {l : List Env} {a : Addr} {Z : Obj → Prop} (x : HandSPX.FlyingZ Bh l a Z h) (k : ∀ b o, h.get? b = some o → h'.get? b = some o) : HandSPX.FlyingZ Bh l a Z h' := by
  obtain ⟨x1, x2, x3, oe, vs, T, oT, ts, y1, y2, y3, y4, y5, y6, y7, y8, y9⟩ := x
  exact ⟨fun b o e => k b o (x1 b o e), x2, x3.of_keeps (fun b o e _ => ⟨o, k b o e, rfl⟩), oe, vs, T, oT, ts, k _ _ y1, y2, y3, y4, y5, y6, k _ _ y7, y8, y9⟩
/-- what «except (x1, x2, x3) as n» asks of an error of the body, where it is always one of the three -/
def wT (K : PySem.W.Frag) (cs : List Value) (i : Nat) (ts : Addr → Value → Option Addr → TS) (D : Ends) : WX := fun cls d σ H =>
  PySem.W.exmAny K cls cs = some true ∧ ∀ a, H a = none →
    ts a cls d { nx := fun σ' H' => D.nx (σ'.set i none) H', rt := D.rt, bk := fun σ' H' => D.bk (σ'.set i none) H', ct := fun σ' H' => D.ct (σ'.set i none) H' } (σ.set i (some (.ref a))) H
section
variable {X : Cx}
theorem s_try3 {x1 x2 x3 n : Str} {c1 c2 c3 : Value} {i k : Nat} {body suite : List Stmt} {b₀ : Stmt} {n1 n2 n3 tp pos pos' : Pos} {tb : WX → TS} {ts : Addr → Value → Option Addr → TS}
    (hs : X.stack = X.env :: X.outer) (hf : X.env.frame = some X.env.locals) (hN : X.N.Nodup) (hi : X.N[i]? = some n) (hln : X.env.kindOf n = some .local)
    (g1 : Gl X x1) (m1 : X.mg x1 = some c1) (g2 : Gl X x2) (m2 : X.mg x2 = some c2) (g3 : Gl X x3) (m3 : X.mg x3 = some c3)
    (hb : ∀ (W : WX) (pn : List (Addr × Obj)) (xe : Value → Shared → Prop), Takes (X.tr pn xe) W → PSs (X.tr pn xe) body (tb W))
    (hsu : ∀ (a : Addr) (oe : Obj) (cls : Value) (d : Option Addr) (pn : List (Addr × Obj)), Zc cls d oe → (∃ vs, oe.data = .fields vs) → PSs (X.suite a ((a, oe) :: pn)) (b₀ :: suite) (ts a cls d))
    (d1 : (x1 == ("__debug__" : Str)) = false := by decide) (d2 : (x2 == ("__debug__" : Str)) = false := by decide) (d3 : (x3 == ("__debug__" : Str)) = false := by decide) :
    PS X (.Try body [.ExceptHandler (some (.Tuple [.Name x1 n1, .Name x2 n2, .Name x3 n3] k tp)) (some n) (b₀ :: suite) pos'] [] [] pos) (fun D σ H => tb (wT X.K [c1, c2, c3] i ts D) D σ H) := by
  constructor
  intro pins s σ H D I h
  have ok := I.ok
  have hfra : X.A.frames = some (X.env :: X.outer) := by rw [ok.frames, hs]
  have hlc : Loc X.env.scope n := .inl hln
  refine wpAny_Try_except ?_
  refine wpAny_mono ((hb (wT X.K [c1, c2, c3] i ts D) (X.pn ++ pins)
    (fun e s₁ => wpAny (model X.prog X.w) X.A (noteFrame e X.env) (fun _ s₂ => wpAny (model X.prog X.w) X.A (setFlight e none)
      (fun _ s₃ => wpAny (model X.prog X.w) X.A (handleBy e X.env [.ExceptHandler (some (.Tuple [.Name x1 n1, .Name x2 n2, .Name x3 n3] k tp)) (some n) (b₀ :: suite) pos']) (SP X pins D) X.xe s₃) X.xe s₂) X.xe s₁)
    (fun u s' xx => ?_)).run [] s σ H D (I.toTry _) h) (fun f s1 hsp => ?_) (fun e s1 he => he)
  · obtain ⟨a, Bh, sIn, pins', σ', H', cls, d, rfl, Jt, nbk, up, sky, na, os, agn, hx, hyes⟩ := xx
    have J : Inv X pins σ' H' sIn := Jt.ofTry ok
    have skyB : Sky Bh (X.env :: X.outer) a (Zc cls d) X.env.locals s'.heap := hs ▸ sky
    show wpAny _ X.A (noteFrame (.ref a) X.env) _ _ _
    refine Sky.land Zc.steady hfra hf skyB fun hp3 fly3 ups3 => ?_
    have Jl : Inv X pins σ' H' { s' with heap := hp3 } := J.landed nbk fly3.1 (up.trans ups3) os agn
    obtain ⟨ob3, vb3, ge3, gz3, gd3⟩ := fly3.there
    have noFr : a ∉ frs (X.env :: X.outer) := fun hm => by
      obtain ⟨_, o', e', hnf⟩ := fly3.2.2.1.mem hm
      rw [ge3] at e'
      cases e'
      exact hnf _ gd3
    have noL : a ≠ X.env.locals := fun z => noFr (List.mem_filterMap.mpr ⟨X.env, List.mem_cons_self, by rw [hf, z]⟩)
    have noF : a ∉ X.fs := fun hm => by
      obtain ⟨en, hen, q⟩ := List.mem_filterMap.mp hm
      exact noFr (List.mem_filterMap.mpr ⟨en, List.mem_cons_of_mem _ hen, q⟩)
    have Su3 := Jl.suite ge3 gd3 na noL noF
    refine wpAny_handleBy_cons (codeAny_handlers_test ?_) (fun z => nomatch z)
    refine wpAny_Tuple_spliced ?_
    show wpAny _ _ (spliced [(false, eval (.Name x1 n1) X.env), (false, eval (.Name x2 n2) X.env), (false, eval (.Name x3 n3) X.env)]) _ _ _
    refine Calls.spliced_cons (ld_glob (X := X.suite a ((a, ob3) :: (X.pn ++ pins))) Su3 g1 m1 ?_ d1)
    refine Calls.spliced_cons (ld_glob (X := X.suite a ((a, ob3) :: (X.pn ++ pins))) Su3 g2 m2 ?_ d2)
    refine Calls.spliced_cons (ld_glob (X := X.suite a ((a, ob3) :: (X.pn ++ pins))) Su3 g3 m3 (Calls.spliced_nil ⟨by show 3 ≤ sizeLine; decide, ?_⟩) d3)
    have kp : ∀ b o, hp3.get? b = some o → (hp3.push { cls := .type "tuple", data := .seq [c1, c2, c3].toArray }).get? b = some o := fun b o e => Heap.get?_push_of_some _ e
    have fl4 := fly_keeps fly3 kp
    have he4 := kp _ _ ge3
    have LT : PySem.W.Looks (model X.prog X.w) (hp3.push { cls := .type "tuple", data := .seq [c1, c2, c3].toArray }) (typeOf (.ref a)) cls := fun A Q E s k q => wpAny_typeOf_ref (k _ _ he4) (by rw [gz3.1]; exact q)
    have LM := PySem.W.exm_tup3 (M := model X.prog X.w) (Jl.kIn.keeps kp) LT (Heap.get?_push_size _ rfl) hx
    refine LM.here ?_
    refine codeAny_handlers_suite_as (HandSPX.lands_againZ (s := { s' with heap := hp3.push { cls := .type "tuple", data := .seq [c1, c2, c3].toArray } }) fl4 fun h5 fl5 up5 => ?_)
    have J5 : Inv X pins σ' H' { s' with heap := h5 } := J.landed nbk fl5.1 (((up.trans ups3).trans (.of_keeps kp)).trans up5) os agn
    obtain ⟨oe5, vs5, he5, hz5, hd5⟩ := fl5.there
    have S5 := J5.suite he5 hd5 na noL noF
    refine store_ok (X := X.suite a ((a, oe5) :: (X.pn ++ pins))) (v := .ref a) S5 hN hi hlc rfl (fun s6 S6 => ?_) (.inr hln)
    refine wpAny_mono ((hsu a oe5 cls d (X.pn ++ pins) hz5 ⟨_, hd5⟩).run [] s6 _ H' _ S6 (hyes a na)) (fun f s7 hsp => ?_) (fun _ _ z => False.elim z)
    have fin : ∀ {σ7 : L2.St} {H7 : Hp} {Q : Shared → Prop}, Inv (X.suite a ((a, oe5) :: (X.pn ++ pins))) [] σ7 H7 s7 → (∀ s8, Inv X pins (σ7.set i none) H7 s8 → Q s8) →
        wpAny (model X.prog X.w) X.A (do bindName X.env n .none; unbindBehindTheSuite X.env n pos') (fun _ s8 => Q s8) X.xe s7 := fun S7 hq => gone_ok (S7.unsuite ok) hN hi hln hq
    cases f with
    | next =>
      obtain ⟨σ7, H7, S7, q7⟩ := hsp
      exact fin S7 fun s8 J8 => ⟨_, _, J8, q7⟩
    | brk =>
      obtain ⟨σ7, H7, S7, q7⟩ := hsp
      exact fin S7 fun s8 J8 => ⟨_, _, J8, q7⟩
    | cont =>
      obtain ⟨σ7, H7, S7, q7⟩ := hsp
      exact fin S7 fun s8 J8 => ⟨_, _, J8, q7⟩
    | ret u =>
      obtain ⟨v7, σ7, H7, S7, r7, q7⟩ := hsp
      exact fin S7 fun s8 J8 => ⟨_, _, _, J8, r7, q7⟩
  · cases f with
    | next =>
      obtain ⟨σ', H', Jt, q⟩ := hsp
      exact wpAny_execs_nil ⟨σ', H', Jt.ofTry ok, q⟩
    | brk =>
      obtain ⟨σ', H', Jt, q⟩ := hsp
      exact ⟨σ', H', Jt.ofTry ok, q⟩
    | cont =>
      obtain ⟨σ', H', Jt, q⟩ := hsp
      exact ⟨σ', H', Jt.ofTry ok, q⟩
    | ret u =>
      obtain ⟨v, σ', H', Jt, r, q⟩ := hsp
      exact ⟨v, σ', H', Jt.ofTry ok, r, q⟩
/-- err.f, err an error that the context holds by a pin -/
theorem e_xf {a C : Addr} {oe : Obj} {cls : Value} {d : Option Addr} {e : Expr} {te : TE} {pos : Pos} {n : Str} (T : XfC X.K C) (hno : PySem.W.findIn X.K (.ref C) n = some none)
    (hz : Zc cls d oe) (hf : ∃ vs, oe.data = .fields vs) (hp : (a, oe) ∈ X.pn) (he : PE X e te) (hb : attributeBase e n X.env (eval e X.env) = eval e X.env := by rfl) :
    PE X (.Attribute e n pos) (tXf a cls d C n te) := by
  constructor
  intro pins s σ H Q I h
  refine attr_of hb (thn (he.run pins s σ H _ I h) ?_)
  rintro u s1 ⟨x, H1, I1, rx, rfl, rfl, dd, fs, v, rfl, ea, l, q⟩
  obtain rfl : u = .ref a := rx
  obtain ⟨ha, _⟩ := I1.pin (a, oe) (List.mem_append_left _ hp)
  obtain ⟨vs, hd⟩ := hf
  obtain ⟨mAt, hnsp, hr⟩ := (show ObjOk X.prog X.w H1 s1.heap dd (.xd fs) from I1.hok dd _ ea)
  obtain ⟨odo, hod, hl⟩ := lookIn_ns hnsp
  obtain ⟨u, hu, ruv⟩ := RelO.some_of (v := v) (o := mAt n) (by rw [← l]; exact hr n)
  have J : PySem.W.InstAt s1.heap a oe C (some odo) := ⟨ha, hz.1, by unfold PySem.W.notCls; rw [hd] <;> rfl, by rw [hz.2]; exact hod⟩
  exact HandSPX.exc_get I1.kIn J T.ga T.gg T.exC (PySem.W.findObj_own T.hdC hno rfl (by rw [hl, hu])) (handed_of ruv) ⟨v, H1, I1.tok _, ruv, q⟩
end
/-- a def's promise where an error p is handled and handed on -/
structure FnPin (P : Program) (w : World) (K : PySem.W.Frag) (mg : Str → Option Value) (base : Heap) (k : Nat) (f : Addr) (fd : FuncData) (ps : List Str) (sp : Addr × Obj → Sp) : Prop where
  len : ∀ p vs H Q E, sp p vs H Q E → vs.length = ps.length
  run : ∀ (A : Around) (outer : List Env) (s : Shared) (H : Hp) (us : List Value) (vs : List V) (Q : VK) (p : Addr × Obj), L2H.RoomH k A → L2H.PinOk outer H s p → Env0 P w K mg base A outer s H →
    BindsTo s fd ⟨us, []⟩ (ps.zip us) → Vals vs us → sp p vs H Q E0 → codeAny (model P w) A (.call (.ref f) ⟨us, []⟩) (CR CX0 outer P w H s Q E0) s
theorem fn_pin {P : Program} {w : World} {K : PySem.W.Frag} {mg : Str → Option Value} {base : Heap} {k : Nat} {f : Addr} {fd : FuncData} {name : Str} {st : Stmt} {N ps : List Str} {sp : Addr × Obj → Sp} (F : Fun K name name st f fd) (S : FnScope N ps (defScope st))
    (len : ∀ p vs H Q E, sp p vs H Q E → vs.length = ps.length)
    (hbody : ∀ (cdv : Value) (A : Around) (outer : List Env) (s : Shared) (H : Hp) (vs : List V) (Q : VK) (p : Addr × Obj), L2H.RoomH k (A.deeper (envOfC name (defScope st) s.heap.objs.size f cdv)) → sp p vs H Q E0 →
      ∃ t, PSs (L2H.cxH CX0 P w K mg base N name (defScope st) f cdv A outer s H E0 p).nox (defBody st) t ∧ t { nx := fun _ H' => Q .non H', rt := Q } (L2.start N vs) H) :
    FnPin P w K mg base (k + 1) f fd ps sp := by
  obtain ⟨oc, odo, kV, doc, pm, an, cdv, ct, osl, rfl, lk, hcd⟩ := F.ex
  refine ⟨len, fun A outer s H us vs Q p hr hpin e0 hb r hsp => ?_⟩
  have hl := len _ _ _ _ _ hsp
  have Kin : K.In s.heap := e0.mod.kin.keeps fun b o e => (e0.bs b o e).1
  have lmt : s.heap.NoLimit := e0.mod.nolimit.keeps fun b o e => (e0.bs b o e).1
  have hkd : ∀ y ∈ ps.zip us, (defScope st).names.lookup y.1 = some .local ∨ ((defScope st).names.lookup y.1 = some .cell ∧ ((cellsFrom (s.heap.objs.size + 1) (defScope st).names []).lookup y.1).isSome = true) := by
    rintro ⟨n, v⟩ hy
    exact (S.par n (List.of_mem_zip hy).1).elim (fun q => .inl q) (fun q => .inr ⟨q, PySem.W.cellsFrom_some _ _ _ (.inl q)⟩)
  refine codeAny_call_function hr.depth (Kin _ _ lk) rfl S.co S.gen rfl (PySem.W.codeRec_of Kin hcd) (hb _ _ _ _ ?_)
  refine wpAny_newFunctionEnv_cells S.kind hkd fun env he s1 x => ?_
  subst he
  refine ⟨lmt.keeps x.toInCall.keep, codeAny_func ?_⟩
  obtain ⟨t, ht, hq⟩ := hbody cdv A outer s H vs Q p (hr.deeper _) hsp
  have I : Inv (L2H.cxH CX0 P w K mg base N name (defScope st) f cdv A outer s H E0 p) [] (L2.start N vs) H s1 := L2H.inv_startH S hpin e0 hl r x
  refine wpAny_mono (ht.nox.run [] s1 (L2.start N vs) H _ I hq) (fun fl s' hs => ?_) fun e s' hs => hs
  cases fl with
  | ret u =>
    obtain ⟨v, σ', H', Jn, rv, q⟩ := hs
    exact ⟨v, H', Jn.os, Jn.bare, Jn.base, Jn.hok, rv, q⟩
  | next =>
    obtain ⟨σ', H', J, q⟩ := hs
    exact ⟨.non, H', J.os, J.bare, J.base, J.hok, rfl, q⟩
  | brk =>
    obtain ⟨_, _, _, q⟩ := hs
    exact False.elim q
  | cont =>
    obtain ⟨_, _, _, q⟩ := hs
    exact False.elim q
theorem e_callP {X : Cx} {k : Nat} {f : Addr} {fd : FuncData} {ps : List Str} {sp : Addr × Obj → Sp} {p : Addr × Obj} {x : Str} {e : Expr} {es : List Expr} {t : TA} {q pos : Pos} (F : FnPin X.prog X.w X.K X.mg X.base k f fd ps sp) (hr : L2H.RoomH k X.A) (hp : p ∈ X.pn) (hg : Gl X x) (hm : X.mg x = some (.ref f))
    (hk : PySem.W.keepIn X.K (.ref f) = true) (hb : Binds X.K fd ps []) (ha : PA X (e :: es) t) (hdb : (x == ("__debug__" : Str)) = false := by decide)
    (he : starEach (e :: es) X.env = (false, eval e X.env) :: starEach es X.env := by rfl) (hpl : (backTo pos (starEach es X.env)).any (·.1) = false := by rfl) : PE X (.Call (.Name x q) (e :: es) [] pos) (tCall (sp p) [] E0 t) := by
  constructor
  intro pins s σ H Q I h
  refine wpAny_Call_Name_kw (ld_glob I hg hm (PySem.W.callWith_K (h₀ := X.base) I.ok.mod.kin hk (thn (ha.run pos pins s σ H _ I h) ?_) he hpl) hdb)
  rintro us s1 ⟨vs, H1, I1, r, q⟩
  refine ⟨I1.kIn, ?_⟩
  rw [List.append_nil] at q
  have hl : us.length = ps.length := by rw [← r.length]; exact F.len _ _ _ _ _ q
  have b := hb s1 us I1.kIn (by rw [List.append_nil]; exact hl)
  rw [List.append_nil] at b
  have P1 := I1.pin p (List.mem_append_left _ hp)
  have hpin : L2H.PinOk X.stack H1 s1 p := ⟨P1.1, P1.2.1, fun hm => (List.mem_cons.mp (I1.stkSub p.1 hm)).elim P1.2.2.1 P1.2.2.2.1, P1.2.2.2.2⟩
  refine wpAny_call (codeAny_mono (F.run X.A X.stack s1 H1 us vs Q p hr hpin I1.env0 b r q) fun r s' hq => ?_)
  cases r with
  | error er => exact False.elim hq
  | ok fl =>
    cases fl with
    | ret u => exact I1.after hq
    | next => exact False.elim hq
    | brk => exact False.elim hq
    | cont => exact False.elim hq
end Rs
set_option maxRecDepth 100000
set_option maxHeartbeats 2000000
namespace K1
open PySem PySem.Spec PyProof.Rows L2
def top (i : Nat) : Stmt := PySem.Challenge.pw_roundswap_k01_opposites_and_counts.main.body.getD i (.Pass ⟨0, 0, 0, 0⟩)
abbrev sSignsOf : Stmt := top 6
abbrev sIsWord : Stmt := top 7
abbrev sCheck : Stmt := top 8
abbrev sOpp : Stmt := top 9
abbrev sShortened : Stmt := top 10
abbrev sCounts : Stmt := top 11
abbrev sCountsOf : Stmt := top 12
abbrev sBegin : Stmt := top 14
abbrev sDraw : Stmt := top 15
abbrev sAny : Stmt := top 16
abbrev sSame : Stmt := top 17
abbrev sField : Stmt := top 18
abbrev sWhy : Stmt := top 19
abbrev sLetters : Stmt := top 20
abbrev sSigns : Stmt := top 21
abbrev sBack : Stmt := top 22
abbrev sSome : Stmt := top 23
abbrev sGone : Stmt := top 24
abbrev sShort : Stmt := top 25
abbrev sNumber : Stmt := top 26
abbrev sLaw : Stmt := top 27
theorem scSignsOf : FnScope ["letters", "letter", "sign"] ["letters"] (defScope sSignsOf) := ⟨rfl, rfl, rfl, by decide +kernel, rfl, by decide +kernel, by decide +kernel⟩
theorem scIsWord : FnScope ["word", "letters", "sign"] ["word", "letters"] (defScope sIsWord) := ⟨rfl, rfl, rfl, by decide +kernel, rfl, by decide +kernel, by decide +kernel⟩
theorem scCheck : FnScope ["words", "letters", "at", "word"] ["words", "letters"] (defScope sCheck) := ⟨rfl, rfl, rfl, by decide +kernel, rfl, by decide +kernel, by decide +kernel⟩
theorem scOpp : FnScope ["word"] ["word"] (defScope sOpp) := ⟨rfl, rfl, rfl, by decide +kernel, rfl, by decide +kernel, by decide +kernel⟩
theorem scShortened : FnScope ["word", "kept", "sign"] ["word"] (defScope sShortened) := ⟨rfl, rfl, rfl, by decide +kernel, rfl, by decide +kernel, by decide +kernel⟩
theorem scCounts : FnScope ["word", "letters"] ["word", "letters"] (defScope sCounts) := ⟨rfl, rfl, rfl, by decide +kernel, rfl, by decide +kernel, by decide +kernel⟩
theorem scCountsOf : FnScope ["word", "letters", "letter"] ["word", "letters"] (defScope sCountsOf) := ⟨rfl, rfl, rfl, by decide +kernel, rfl, by decide +kernel, by decide +kernel⟩
theorem scBegin : FnScope ["_law_script", "_law_cell", "_law_marks", "_law_seed"] ["_law_script"] (defScope sBegin) := ⟨rfl, rfl, rfl, by decide +kernel, rfl, by decide +kernel, by decide +kernel⟩
theorem scDraw : FnScope ["_law_box", "_law_many", "_law_cell", "_law_digit", "_law_seed"] ["_law_box", "_law_many"] (defScope sDraw) := ⟨rfl, rfl, rfl, by decide +kernel, rfl, by decide +kernel, by decide +kernel⟩
theorem scAny : FnScope ["_law_box", "_law_some"] ["_law_box", "_law_some"] (defScope sAny) := ⟨rfl, rfl, rfl, by decide +kernel, rfl, by decide +kernel, by decide +kernel⟩
theorem scSame : FnScope ["_law_found", "_law_due", "_law_k"] ["_law_found", "_law_due"] (defScope sSame) := ⟨rfl, rfl, rfl, by decide +kernel, rfl, by decide +kernel, by decide +kernel⟩
theorem scField : FnScope ["_law_e"] ["_law_e"] (defScope sField) := ⟨rfl, rfl, rfl, by decide +kernel, rfl, by decide +kernel, by decide +kernel⟩
theorem scWhy : FnScope ["_law_ask", "_law_e"] ["_law_ask"] (defScope sWhy) := ⟨rfl, rfl, rfl, by decide +kernel, rfl, by decide +kernel, by decide +kernel⟩
theorem scLetters : FnScope ["_law_box", "_law_many", "_law_found", "_law_k", "_law_left", "_law_letter"] ["_law_box", "_law_many"] (defScope sLetters) := ⟨rfl, rfl, rfl, by decide +kernel, rfl, by decide +kernel, by decide +kernel⟩
theorem scSigns : FnScope ["_law_letters_here", "_law_letter"] ["_law_letters_here"] (defScope sSigns) := ⟨rfl, rfl, rfl, by decide +kernel, rfl, by decide +kernel, by decide +kernel⟩
theorem scBack : FnScope ["_law_sign"] ["_law_sign"] (defScope sBack) := ⟨rfl, rfl, rfl, by decide +kernel, rfl, by decide +kernel, by decide +kernel⟩
theorem scSome : FnScope ["_law_box", "_law_letters_here", "_law_most", "_law_signs_here", "_law_k"] ["_law_box", "_law_letters_here", "_law_most"] (defScope sSome) := ⟨rfl, rfl, rfl, by decide +kernel, rfl, by decide +kernel, by decide +kernel⟩
theorem scGone : FnScope ["_law_one", "_law_sign"] ["_law_one"] (defScope sGone) := ⟨rfl, rfl, rfl, by decide +kernel, rfl, by decide +kernel, by decide +kernel⟩
theorem scShort : FnScope ["_law_one", "_law_found", "_law_sign"] ["_law_one"] (defScope sShort) := ⟨rfl, rfl, rfl, by decide +kernel, rfl, by decide +kernel, by decide +kernel⟩
theorem scNumber : FnScope ["_law_one", "_law_letters_here", "_law_letter"] ["_law_one", "_law_letters_here"] (defScope sNumber) := ⟨rfl, rfl, rfl, by decide +kernel, rfl, by decide +kernel, by decide +kernel⟩
theorem scLaw : FnScope ["_law_script", "_law_box", "_law_turn", "_law_one", "_law_found", "_law_due", "_law_at", "_law_letters_here", "_law_odd"] ["_law_script"] (defScope sLaw) := ⟨rfl, rfl, rfl, by decide +kernel, rfl, by decide +kernel, by decide +kernel⟩
/-! the built-in names that the top leaves as they are -/
structure Bn (mg : Str → Option Value) : Prop where
  len : mg "len" = none
  int : mg "int" = none
  isinst : mg "isinstance" = none
  list : mg "list" = none
  tuple : mg "tuple" = none
  all : mg "all" = none
  range : mg "range" = none
  bool : mg "bool" = none
  str : mg "str" = none
  enum : mg "enumerate" = none
  sum : mg "sum" = none
/-! the box of draws: at m the marks -/
def Bx (H : Hp) (b m : Addr) : Prop := ∃ (ms : List Int) (i r s : Int), H b = some (.lst [.ref m, .int i, .int r, .int s]) ∧ H m = some (.lst (ms.map V.int)) ∧ 0 ≤ i ∧ 0 ≤ r ∧ 0 ≤ s ∧ s < 2147483647
def BxTo (H H' : Hp) (b m : Addr) : Prop := Bx H' b m ∧ ∀ x, x ≠ b → H' x = H x
theorem Bx.put {H : Hp} {b m : Addr} {ms : List Int} {i r s i' r' s' : Int} (h : H b = some (.lst [.ref m, .int i, .int r, .int s])) (hm : H m = some (.lst (ms.map V.int))) (h1 : 0 ≤ i') (h2 : 0 ≤ r') (h3 : 0 ≤ s') (h4 : s' < 2147483647) :
    BxTo H (upd H b (.lst [.ref m, .int i', .int r', .int s'])) b m := by
  have nm : m ≠ b := fun e => by
    subst e
    rw [h] at hm
    cases ms with
    | nil => cases hm
    | cons x r => cases hm
  exact ⟨⟨ms, i', r', s', upd_same, by rw [upd_ne nm]; exact hm, h1, h2, h3, h4⟩, fun x hx => upd_ne hx⟩
theorem BxTo.trans {H H1 H2 : Hp} {b m : Addr} (x : BxTo H H1 b m) (y : BxTo H1 H2 b m) : BxTo H H2 b m := ⟨y.1, fun z hz => (y.2 z hz).trans (x.2 z hz)⟩
theorem BxTo.refl {H : Hp} {b m : Addr} (x : Bx H b m) : BxTo H H b m := ⟨x, fun _ _ => rfl⟩
end K1
set_option maxRecDepth 100000
set_option maxHeartbeats 2000000
namespace K1
open PySem PySem.Spec PyProof.Rows L2
section
variable {P : Program} {w : World} {K : PySem.W.Frag} {mg : Str → Option Value} {base : Heap}
def spDraw : Sp := fun vs H Q _ => ∃ (b m : Addr) (many : Int), vs = [.ref b, .int many] ∧ Bx H b m ∧ 0 < many ∧ many < 1000000 ∧ ∀ d H', 0 ≤ d → d < many → BxTo H H' b m → Q (.int d) H'
theorem ok_draw {f : Addr} {fd : FuncData} {k : Nat} (F : Fun K "_law_draw" "_law_draw" sDraw f fd) (B : Bn mg) : FnOk P w K mg base CX0 (k + 1) f fd ["_law_box", "_law_many"] spDraw := by
  refine F.ok scDraw (fun vs H Q E h => ?_) (fun cdv A outer s H vs Q E hr h => ?_)
  · obtain ⟨b, m, n, rfl, _⟩ := h
    rfl
  · obtain ⟨b, m, n, rfl, hB, h1, h2, q⟩ := h
    obtain ⟨t2, P2, R2⟩ : ∃ t2, PSs (cxOf CX0 P w K mg base ["_law_box", "_law_many", "_law_cell", "_law_digit", "_law_seed"] "_law_draw" (defScope sDraw) f cdv A outer s H E).nox ((defBody sDraw).drop 1) t2 ∧
        ∀ (y : Option V) (H' : Hp), BxTo H H' b m → t2 { nx := fun _ H' => Q .non H', rt := Q } [some (.ref b), some (.int n), y, none, none] H' := by
      refine ⟨_, pss_cons (ps_if (pt_cmpR op_gt (pe_ix ix_list (pv 0) pe_int (fun _ _ => rfl)) pe_int (nomark _))
          (pss_cons (ps_set (i := 3) scDraw.nd rfl (.inl rfl) (pe_op op_mod (pe_callTy call_int1 (by rfl) B.int boot_int (pa_cons (pe_ix ix_list (pv 0) pe_int (fun _ _ => rfl)) pa_nil)) (pv 1)))
          (pss_cons (ps_asg (pe_op op_fdivW (pe_ix ix_list (pv 0) pe_int (fun _ _ => rfl)) (pv 1)) (pg_sub (pv 0) pe_int set_list))
          (pss_one (ps_ret (pv 3))))) pss_nil)
        (pss_cons (ps_set (i := 4) scDraw.nd rfl (.inl rfl) (pe_ix ix_list (pv 0) pe_int (fun _ _ => rfl)))
        (pss_cons (ps_asg (pe_op op_mod (pe_op op_add (pe_op op_add (pe_op op_mul (pv 4) (pv 4)) (pe_op op_mul (pv 4) pe_int)) pe_int) pe_int) (pg_sub (pv 0) pe_int set_list))
        (pss_one (ps_ret (pe_op op_mod (pe_op op_add (pe_op op_fdiv (pe_ix ix_list (pv 0) pe_int (fun _ _ => rfl)) pe_int)
          (pe_op op_mul (pe_op op_mod (pe_callTy call_int1 (by rfl) B.int boot_int (pa_cons (pe_ix ix_list (pv 0) pe_int (fun _ _ => rfl)) pa_nil)) pe_int) pe_int)) (pv 1)))))), fun y H' hT => ?_⟩
      obtain ⟨⟨ms, i, r, s, hb, hm, k1, k2, k3, k4⟩, kp⟩ := id hT
      refine ⟨.ref b, rfl, b, _, 2, _, rfl, rfl, SqL.of hb, rfl, _, _, rfl, rfl, _, rfl, ite2 (fun e => ?_) (fun e => ?_)⟩
      · have hr0 : 0 < r := of_decide_eq_true e
        refine ⟨.ref b, rfl, b, _, 2, _, rfl, rfl, SqL.of hb, rfl, .inl ⟨_, rfl, _, rfl, _, _, rfl, rfl, h1, ?_⟩⟩
        refine ⟨.ref b, rfl, b, _, 2, _, rfl, rfl, SqL.of hb, rfl, _, rfl, _, _, rfl, rfl, wide_div (b := 20) h1 (by omega) (by decide) (by decide), ?_⟩
        refine ⟨.ref b, rfl, b, _, 2, 2, rfl, rfl, hb, rfl, _, rfl, ?_⟩
        refine q _ _ (Int.emod_nonneg _ (by omega)) (Int.emod_lt_of_pos _ h1) (hT.trans ?_)
        exact Bx.put hb hm k1 (Int.ediv_nonneg k2 (by omega)) k3 k4
      · refine ⟨.ref b, rfl, b, _, 3, _, rfl, rfl, SqL.of hb, rfl, ?_⟩
        refine ⟨_, rfl, _, rfl, _, _, rfl, rfl, .inl ⟨by omega, by omega⟩, _, rfl, _, _, rfl, rfl, .inl ⟨by omega, by omega⟩, _, _, rfl, rfl, _, _, rfl, rfl, _, _, rfl, rfl, (by show (0 : Int) < _; decide), ?_⟩
        refine ⟨.ref b, rfl, b, _, 3, 3, rfl, rfl, hb, rfl, ?_⟩
        have g1 : 0 ≤ (s * s + s * 61001 + 911) % 2147483647 := Int.emod_nonneg _ (by decide)
        have g2 : (s * s + s * 61001 + 911) % 2147483647 < 2147483647 := Int.emod_lt_of_pos _ (by decide)
        have bx := Bx.put (i' := i) (r' := r) (s' := (s * s + s * 61001 + 911) % 2147483647) hb hm k1 k2 g1 g2
        refine ⟨.ref b, rfl, b, _, 3, _, rfl, rfl, SqL.of upd_same, rfl, _, _, rfl, rfl, ⟨by decide, by decide⟩, ?_⟩
        refine ⟨.ref b, rfl, b, _, 3, _, rfl, rfl, SqL.of upd_same, rfl, .inl ⟨_, rfl, _, _, rfl, rfl, (by show (0 : Int) < _; decide), _, _, rfl, rfl, .inl ⟨by omega, by omega⟩, _, _, rfl, rfl, _, rfl, _, _, rfl, rfl, h1, ?_⟩⟩
        exact q _ _ (Int.emod_nonneg _ (by omega)) (Int.emod_lt_of_pos _ h1) (hT.trans bx)
    obtain ⟨ms, i, r, s, hb, hm, k1, k2, k3, k4⟩ := id hB
    refine ⟨_, pss_cons (ps_if (PW.pt (pw_and (pt_cmpR op_eq (pe_ix ix_list (pv 0) pe_int (fun _ _ => rfl)) pe_int (nomark _))
          (pw_and1 (pt_cmpR op_lt (pe_ix ix_list (pv 0) pe_int (fun _ _ => rfl)) (pe_callB call_len_seq (by rfl) B.len PySem.boot_len (pa_cons (pe_ix ix_list (pv 0) pe_int (fun _ _ => rfl)) pa_nil)) (nomark _)))))
        (pss_cons (ps_set (i := 2) scDraw.nd rfl (.inl rfl) (pe_ix ix_list (pe_ix ix_list (pv 0) pe_int (fun _ _ => rfl)) (pe_ix ix_list (pv 0) pe_int (fun _ _ => rfl)) (fun _ _ => rfl)))
        (pss_cons (ps_asg (pe_op op_add (pe_ix ix_list (pv 0) pe_int (fun _ _ => rfl)) pe_int) (pg_sub (pv 0) pe_int set_list))
        (pss_one (ps_if (pt_cmpR op_ge (pv 2) (pe_op op_pow pe_int pe_int) (nomark _))
          (pss_one (ps_asg (pv 2) (pg_sub (pv 0) pe_int set_list)))
          (pss_one (ps_asg (pe_op op_mod (pe_op op_add (pe_op op_add (pe_op op_mul (pe_ix ix_list (pv 0) pe_int (fun _ _ => rfl)) pe_int)
            (pe_op op_mul (pe_op op_mod (pe_callTy call_int1 (by rfl) B.int boot_int (pa_cons (pv 2) pa_nil)) pe_int) pe_int)) pe_int) pe_int) (pg_sub (pv 0) pe_int set_list)))))))
        pss_nil) P2, ?_⟩
    refine ⟨.ref b, rfl, b, _, 2, _, rfl, rfl, SqL.of hb, rfl, rfl, _, rfl, ite2 (fun e => ?_) (fun e => ?_)⟩
    · refine ⟨.ref b, rfl, b, _, 1, _, rfl, rfl, SqL.of hb, rfl, .ref b, rfl, b, _, 0, _, rfl, rfl, SqL.of hb, rfl, m, _, rfl, .inl (SqL.of hm), _, _, rfl, rfl, _, rfl, ite2 (fun e2 => ?_) (fun e2 => ?_)⟩
      · have hl : i < (ms.map V.int).length := of_decide_eq_true e2
        have hl2 : i.toNat < ms.length := by
          rw [List.length_map] at hl
          omega
        have ei : ((i.toNat : Nat) : Int) = i := by omega
        have hat : atI (ms.map V.int) i = some (.int ms[i.toNat]) := by
          have z : (ms.map V.int)[i.toNat]? = some (.int ms[i.toNat]) := by
            rw [List.getElem?_map, List.getElem?_eq_getElem hl2]
            rfl
          have z2 := atI_nat z
          rw [ei] at z2
          exact z2
        refine ⟨.ref b, rfl, b, _, 0, _, rfl, rfl, SqL.of hb, rfl, .ref b, rfl, b, _, 1, _, rfl, rfl, SqL.of hb, rfl, m, _, i, _, rfl, rfl, SqL.of hm, hat, ?_⟩
        generalize ms[i.toNat] = cell
        refine ⟨.ref b, rfl, b, _, 1, _, rfl, rfl, SqL.of hb, rfl, _, _, rfl, rfl, .ref b, rfl, b, _, 1, 1, rfl, rfl, hb, rfl, ?_⟩
        have bx1 := Bx.put (i' := i + 1) (r' := r) (s' := s) hb hm (by omega) k2 k3 k4
        have hb1 : upd H b (.lst [.ref m, .int (i + 1), .int r, .int s]) b = _ := upd_same
        have hm1 : upd H b (.lst [.ref m, .int (i + 1), .int r, .int s]) m = some (.lst (ms.map V.int)) := by
          obtain ⟨_, z⟩ := Bx.put (i' := i + 1) (r' := r) (s' := s) hb hm (by omega) k2 k3 k4
          rw [z m (fun e => by subst e; rw [hb] at hm; cases ms <;> cases hm)]
          exact hm
        refine ⟨_, rfl, _, _, rfl, rfl, ⟨by decide, by decide, by decide⟩, _, _, rfl, rfl, _, rfl, ite2 (fun e3 => ?_) (fun e3 => ?_)⟩
        · have hc : (10 : Int) ^ (18 : Int).toNat ≤ cell := of_decide_eq_true e3
          have hc0 : (0 : Int) ≤ (10 : Int) ^ (18 : Int).toNat := by decide
          refine ⟨_, rfl, .ref b, rfl, b, _, 2, 2, rfl, rfl, hb1, rfl, ?_⟩
          exact R2 _ _ (bx1.trans (Bx.put hb1 hm1 (by omega) (by omega) k3 k4))
        · refine ⟨.ref b, rfl, b, _, 3, _, rfl, rfl, SqL.of hb1, rfl, _, _, rfl, rfl, .inl ⟨by omega, by omega⟩, _, rfl, .inl ⟨_, rfl, _, _, rfl, rfl, (by show (0 : Int) < _; decide), _, _, rfl, rfl, .inl ⟨by omega, by omega⟩, _, _, rfl, rfl, _, _, rfl, rfl, _, _, rfl, rfl, (by show (0 : Int) < _; decide), ?_⟩⟩
          refine ⟨.ref b, rfl, b, _, 3, 3, rfl, rfl, hb1, rfl, ?_⟩
          exact R2 _ _ (bx1.trans (Bx.put hb1 hm1 (by omega) k2 (by omega) (by omega)))
      · exact R2 _ _ (.refl hB)
    · exact R2 _ _ (.refl hB)
end
end K1
set_option maxRecDepth 100000
set_option maxHeartbeats 2000000
namespace K1
open PySem PySem.Spec PyProof.Rows L2
/-! texts as lists of codes -/
abbrev tx (l : List Nat) : V := .str (SX.S l)
theorem tx_len (l : List Nat) : (SX.S l).length = l.length := SX.S_len l
theorem joinNil : ∀ ys : List (List Nat), TL.joinL [] ys = ys.flatten
  | [] => rfl
  | [p] => by simp [TL.joinL]
  | p :: q :: r => by
    show p ++ ([] ++ TL.joinL [] (q :: r)) = _
    rw [joinNil (q :: r)]
    rfl
theorem walk_txt (l : List Nat) : Walk (Its (SX.S l)) (l.map fun c => tx [c]).length (fun _ => True) (YAt (l.map fun c => tx [c])) := by
  have e : (SX.S l).cps.size = (l.map fun c => tx [c]).length := by simp
  have w := walk_str (z := SX.S l)
  rw [e] at w
  refine w.mono (fun _ h => h) (fun i H x H' hi _ y => ?_)
  obtain ⟨y1, c, y2, y3⟩ := y
  refine ⟨y1, ?_⟩
  rw [List.getElem?_map]
  have y4 : l[i]? = some c := by simpa using y2
  rw [y4, y3]
  rfl
/-! heaps -/
theorem same_new {H : Hp} {p : Addr} {o : HO} (h : H p = none) : Same H (upd H p o) := fun b x e => by
  rw [upd_ne (ne_of_none e h)]
  exact e
theorem sqT_same {K : PySem.W.Frag} {H H' : Hp} {a : Addr} {xs : List V} (e : Same H H') (h : SqT K H a xs) : SqT K H' a xs := by
  rcases h with (h | ⟨o, h⟩) | h
  · exact .inl (.inl (e _ _ h))
  · exact .inl (.inr ⟨o, e _ _ h⟩)
  · exact .inr h
theorem take_more {α : Type} {l : List α} {i : Nat} {x : α} (h : l[i]? = some x) : l.take (i + 1) = l.take i ++ [x] := by
  rw [List.take_add_one, h]
  rfl
/-- a comprehension over xs whose test and element change nothing that stands -/
theorem lc_pure {J : It} {G : Hp → Prop} {xs : List V} (w : Walk J xs.length G (YAt xs)) {tt : TT} {te : TE} {σ : L2.St} {i : Nat} {H1 : Hp} {D : Addr} {Qd : Hp → Prop} (f : V → V) (keep : V → Bool) (hlen : xs.length < sizeLine) (hD : H1 D = none)
    (hG : ∀ H2, Same H1 H2 → G H2)
    (ht : ∀ x H2 Q, x ∈ xs → Same H1 H2 → Q (keep x) H2 → tt ((σ.set i none).set i (some x)) H2 Q)
    (he : ∀ x H2 Q, x ∈ xs → keep x = true → Same H1 H2 → (∀ H3, Same H2 H3 → Q (f x) H3) → te ((σ.set i none).set i (some x)) H2 Q)
    (hd : ∀ H2, Same H1 H2 → H2 D = some (.lst ((xs.filter keep).map f)) → Qd H2) :
    ∃ W : Nat → Nat → Hp → Prop, (∃ m, W 0 m (upd H1 D (.lst []))) ∧ ∀ j m H, W j m H →
      (J.stop j H ∧ Qd H) ∨ (J.go j H ∧ ∃ Nx : Hp → Prop, (∀ H', Nx H' → ∃ m', m' < m ∧ W (j + 1) m' H') ∧ ∀ x H', J.yld j H x H' → gName i x (wipe σ [i]) H' fun σ2 H2 => wipe σ2 [i] = wipe σ [i] ∧ tt σ2 H2 fun b H3 =>
        if b = true then te σ2 H3 fun v H4 => ∃ ac, H4 D = some (.lst ac) ∧ ac.length < sizeLine ∧ Nx (upd H4 D (.lst (ac ++ [v]))) else Nx H3) := by
  refine lc_it w (fun j H2 => Same H1 H2 ∧ H2 D = some (.lst (((xs.take j).filter keep).map f))) ⟨same_new hD, upd_same⟩ (fun j H2 _ h => hG H2 h.1) ?_ (fun H2 h => hd H2 h.1 (by have z := h.2; rw [List.take_length] at z; exact z))
  rintro j x H2 H2' hj ⟨sm, hd2⟩ ⟨rfl, hx⟩
  have hm : x ∈ xs := List.mem_of_getElem? hx
  refine ⟨?_, ?_⟩
  · show (((σ.set i none).set i (some x)).set i none) = σ.set i none
    rw [List.set_set, List.set_set]
  · refine ht x _ _ hm sm ?_
    have tk := take_more hx
    cases hk : keep x with
    | true =>
      refine iteT (he x _ _ hm hk sm fun H3 s3 => ⟨_, s3 _ _ hd2, ?_, ?_, ?_⟩)
      · rw [List.length_map]
        exact Nat.lt_of_le_of_lt (Nat.le_trans (List.length_filter_le _ _) (by rw [List.length_take]; omega)) hlen
      · intro b o e
        rw [upd_ne (ne_of_none e hD)]
        exact s3 _ _ (sm _ _ e)
      · rw [upd_same, tk, List.filter_append, List.map_append]
        simp [hk]
    | false =>
      refine iteF ⟨sm, ?_⟩
      rw [hd2, tk, List.filter_append]
      simp [hk]
section
variable {P : Program} {w : World} {K : PySem.W.Frag} {mg : Str → Option Value} {base : Heap}
/-! _law_any -/
def spAny : Sp := fun vs H Q _ => ∃ (b m p : Addr) (xs : List V), vs = [.ref b, .ref p] ∧ Bx H b m ∧ H p = some (.lst xs) ∧ p ≠ b ∧ xs ≠ [] ∧ xs.length < 1000000 ∧ ∀ x H', x ∈ xs → BxTo H H' b m → Q x H'
theorem ok_any {f fD : Addr} {fd fdD : FuncData} {k : Nat} (F : Fun K "_law_any" "_law_any" sAny f fd) (B : Bn mg) (FD : Fun K "_law_draw" "_law_draw" sDraw fD fdD) (bD : Binds K fdD ["_law_box", "_law_many"] []) (gD : mg "_law_draw" = some (.ref fD)) :
    FnOk P w K mg base CX0 (k + 2) f fd ["_law_box", "_law_some"] spAny := by
  have GD : FnOk P w K mg base CX0 (k + 1) fD fdD ["_law_box", "_law_many"] spDraw := ok_draw FD B
  refine F.ok scAny (fun vs H Q E h => ?_) (fun cdv A outer s H vs Q E hr h => ?_)
  · obtain ⟨b, m, p, xs, rfl, _⟩ := h
    rfl
  · obtain ⟨b, m, p, xs, rfl, hB, hp, hpb, hne, hl, q⟩ := h
    refine ⟨_, pss_one (ps_ret (pe_ix ix_list (pv 1) (pe_call GD hr (by rfl) gD FD.kp bD .nil pass0 (pa_cons (pv 0) (pa_cons (pe_callB call_len_seq (by rfl) B.len PySem.boot_len (pa_cons (pv 1) pa_nil)) pa_nil))) (fun _ _ => rfl))), ?_⟩
    have h0 : 0 < xs.length := List.length_pos_iff.mpr hne
    refine ⟨.ref p, rfl, .ref b, rfl, .ref p, rfl, p, xs, rfl, .inl (SqL.of hp), b, m, (xs.length : Int), rfl, hB, by omega, by omega, fun d H' d0 d1 hT => ?_⟩
    have hd : d.toNat < xs.length := by omega
    have hat : atI xs d = some xs[d.toNat] := by
      have z := atI_nat (List.getElem?_eq_getElem hd)
      rw [show ((d.toNat : Nat) : Int) = d by omega] at z
      exact z
    exact ⟨p, xs, d, _, rfl, rfl, SqL.of ((hT.2 p hpb).trans hp), hat, q _ _ (List.getElem_mem hd) hT⟩
/-! _law_begin -/
def spBegin (K : PySem.W.Frag) : Sp := fun vs H Q _ => ∃ (a : Addr) (ns : List Int), vs = [.ref a] ∧ SqL K H a (ns.map V.int) ∧ ns.length ≤ 63 ∧ ∀ H' b m, Same H H' → H b = none → Bx H' b m → Q (.ref b) H'
theorem ok_begin {f : Addr} {fd : FuncData} {k : Nat} (F : Fun K "_law_begin" "_law_begin" sBegin f fd) (B : Bn mg) : FnOk P w K mg base CX0 (k + 1) f fd ["_law_script"] (spBegin K) := by
  refine F.ok scBegin (fun vs H Q E h => ?_) (fun cdv A outer s H vs Q E hr h => ?_)
  · obtain ⟨a, ns, rfl, _⟩ := h
    rfl
  · obtain ⟨a, ns, rfl, hS, hl, q⟩ := h
    refine ⟨_, pss_cons (ps_setLc (i := 2) (own := [("_law_cell", 1)]) (g := gName 1) (tt := tYes) rfl scBegin.nd rfl rfl (sw_true rfl rfl rfl (by decide +kernel)) (pi_list (pe_slice sl_list (pv 0) po_none (po_some pe_int)))
        (blkOk_by (N := ["_law_script", "_law_cell", "_law_marks", "_law_seed"]) (sc := defScope sBegin) (by decide +kernel)) (fun _ _ _ _ _ => pg_name (i := 1) scBegin.nd rfl (Or.inl rfl)) (fun _ _ _ _ _ => pts_nil)
        (fun _ _ _ _ _ => pe_callTy call_int1 (by rfl) B.int boot_int (pa_cons (pv 1) pa_nil)))
      (pss_cons (ps_set (i := 3) scBegin.nd rfl (.inl rfl) (pe_op op_add pe_int (pe_op op_mul pe_int (pe_callB call_len_seq (by rfl) B.len PySem.boot_len (pa_cons (pv 2) pa_nil)))))
      (pss_cons (ps_for PassesOwn.never rfl (pi_list (pv 2)) (pg_name (i := 1) scBegin.nd rfl (Or.inl rfl))
        (pss_one (ps_set (i := 3) scBegin.nd rfl (.inl rfl) (pe_op op_mod (pe_op op_add (pe_op op_add (pe_op op_mul (pv 3) pe_int) (pe_op op_mod (pe_callTy call_int1 (by rfl) B.int boot_int (pa_cons (pv 1) pa_nil)) pe_int)) pe_int) pe_int))))
      (pss_one (ps_ret (pe_lst (pa_cons (pv 2) (pa_cons pe_int (pa_cons pe_int (pa_cons (pv 3) pa_nil))))))))), ?_⟩
    obtain ⟨ms, hms, hcut⟩ : ∃ ms : List Int, ms.length ≤ 63 ∧ cutV (ns.map V.int) none (some 63) = ms.map V.int := by
      refine ⟨ns.take (HT.sIx (ns.map V.int).length (ns.map V.int).length (some 63) - HT.sIx (ns.map V.int).length 0 none), ?_, ?_⟩
      · rw [List.length_take]
        omega
      · unfold cutV
        rw [HT.sIx_none, List.drop_zero, List.map_take]
    refine ⟨.ref a, rfl, 63, rfl, a, _, rfl, hS, fun c nc => ?_⟩
    rw [hcut]
    refine ⟨c, rfl, ⟨_, SqL.of upd_same⟩, fun D nD => ?_⟩
    have s1 : Same H (upd H c (.lst (ms.map V.int))) := same_new nc
    refine lc_pure (walk_list (K := K) (a := c) (xs := ms.map V.int)) (σ := [some (.ref a), none, none, none]) (i := 1) id (fun _ => true) (by rw [List.length_map]; exact small1000 (by omega)) nD (fun H2 e => SqL.of (e _ _ upd_same)) (fun x H2 Q _ _ h => h) ?_ ?_
    · intro x H2 Q hx _ _ h
      obtain ⟨z, _, rfl⟩ := List.mem_map.mp hx
      exact ⟨_, rfl, .inl ⟨z, rfl, h H2 (Same.refl _)⟩⟩
    · intro H2 s2 hD
      have hf : ((ms.map V.int).filter fun _ => true).map id = ms.map V.int := by simp
      rw [hf] at hD
      have sm : Same H H2 := s1.trans s2
      refine ⟨.ref D, rfl, D, _, rfl, .inl (SqL.of hD), _, _, rfl, rfl, .inl ⟨by decide, by decide⟩, _, _, rfl, rfl, ?_⟩
      refine ⟨.ref D, rfl, D, rfl, ⟨_, SqL.of hD⟩, ?_⟩
      refine for_it (walk_list (K := K) (a := D) (xs := ms.map V.int)) (fun i σ H3 => ∃ (y : Option V) (sd : Int), σ = [some (.ref a), y, some (.ref D), some (.int sd)] ∧ H3 = H2 ∧ 0 ≤ sd ∧ sd < 2147483647) ⟨none, _, rfl, rfl, ?_, ?_⟩ (fun i σ H3 _ h => ?_) ?_ ?_
      · simp only [List.length_map]
        omega
      · simp only [List.length_map]
        omega
      · obtain ⟨_, _, _, rfl, _⟩ := h
        exact SqL.of hD
      · rintro i x σ H3 H3' hi ⟨y, sd, rfl, rfl, g1, g2⟩ ⟨rfl, hx⟩
        obtain ⟨z, _, rfl⟩ := List.mem_map.mp (List.mem_of_getElem? hx)
        refine ⟨_, rfl, _, _, rfl, rfl, .inl ⟨by omega, by omega⟩, _, rfl, .inl ⟨z, rfl, _, _, rfl, rfl, (by show (0 : Int) < _; decide), _, _, rfl, rfl, _, _, rfl, rfl, _, _, rfl, rfl, (by show (0 : Int) < _; decide), ?_⟩⟩
        exact ⟨_, _, rfl, rfl, Int.emod_nonneg _ (by decide), Int.emod_lt_of_pos _ (by decide)⟩
      · rintro σ H3 ⟨y, sd, rfl, rfl, g1, g2⟩
        refine ⟨_, rfl, _, rfl, (by show 4 ≤ sizeLine; decide), fun b nb => ?_⟩
        refine q _ b D (sm.trans (same_new nb)) (sm.free nb) ⟨ms, 0, 0, sd, upd_same, ?_, by omega, by omega, g1, g2⟩
        rw [upd_ne (ne_of_none hD nb)]
        exact hD
end
end K1
set_option maxRecDepth 100000
set_option maxHeartbeats 2000000
namespace K1
open PySem PySem.Spec PyProof.Rows L2
/-! ### the mirror -/
def menu : List Nat := [97, 98, 109, 116, 120, 121, 122]
def sw (c : Nat) : Nat := if 65 ≤ c ∧ c ≤ 90 then c + 32 else if 97 ≤ c ∧ c ≤ 122 then c - 32 else c
def opp (w : List Nat) : List Nat := w.reverse.map sw
def sg (L : List Nat) : List Nat := L.flatMap fun c => [c, c - 32]
def stp (f : List Nat) (c : Nat) : List Nat := if f.getLast? = some (sw c) then f.dropLast else f ++ [c]
def sh (w : List Nat) : List Nat := w.foldl stp []
def Asc (w : List Nat) : Prop := ∀ c ∈ w, c < 128
def Lt (L : List Nat) : Prop := (L.length ≤ 100 ∧ L.Nodup) ∧ ∀ c ∈ L, c ∈ menu
theorem menu_asc : ∀ c ∈ menu, c < 128 := by decide
theorem menu_up : ∀ c ∈ menu, up1 c = c - 32 := by decide
theorem sg_len (L : List Nat) : (sg L).length = 2 * L.length := by
  induction L with
  | nil => rfl
  | cons c r ih =>
    show ([c, c - 32] ++ sg r).length = 2 * (r.length + 1)
    rw [List.length_append, ih]
    simp only [List.length_cons, List.length_nil]
    omega
theorem upper1 {c : Nat} (h : c < 128) : Txt.upper (SX.S [c]) = SX.S [up1 c] := by
  have e := upper_ascii (x := SX.S [c]) (fun d hd => by
    have : d = c := by simpa using hd
    omega)
  rw [e]
  simp
theorem lower1 {c : Nat} (h : c < 128) : Txt.lower (SX.S [c]) = SX.S [lo1 c] := by
  have e := lower_ascii (x := SX.S [c]) (fun d hd => by
    have : d = c := by simpa using hd
    omega)
  rw [e]
  simp
theorem upperM {c : Nat} (h : c ∈ menu) : Txt.upper (SX.S [c]) = SX.S [c - 32] := by
  rw [upper1 (menu_asc c h), menu_up c h]
theorem isUpper_ascii : ∀ c, c < 128 → Unicode.isUpper c = decide (65 ≤ c ∧ c ≤ 90) := by decide +kernel
theorem isLower_ascii : ∀ c, c < 128 → Unicode.isLower c = decide (97 ≤ c ∧ c ≤ 122) := by decide +kernel
theorem swapS {w : List Nat} (hA : Asc w) : Txt.swapcase (SX.S w) = SX.S (w.map sw) := by
  unfold Txt.swapcase
  rw [placed_single (SX.S w) _ sw fun i c hc => ?_]
  · simp
  · have hc0 : w[i]? = some c := by simpa using hc
    have hlt := hA c (List.mem_of_getElem? hc0)
    have hc' : (SX.S w).cps[i]? = some c := by simpa using hc
    rw [isUpper_ascii c hlt, isLower_ascii c hlt]
    unfold sw
    by_cases h1 : 65 ≤ c ∧ c ≤ 90
    · rw [decide_eq_true h1, if_pos rfl, if_pos h1]
      unfold Unicode.lowerAt
      rw [hc']
      have hne : (c == 0x3A3) = false := by rw [beq_eq_false_iff_ne]; omega
      simp only [hne, Bool.false_and, Bool.false_eq_true, if_false]
      rw [lowerOf_ascii c hlt]
      unfold lo1
      rw [if_pos h1]
    · rw [decide_eq_false h1, if_neg Bool.false_ne_true, if_neg h1]
      by_cases h2 : 97 ≤ c ∧ c ≤ 122
      · rw [decide_eq_true h2, if_pos rfl, if_pos h2, upperOf_ascii c hlt]
        unfold up1
        rw [if_pos h2]
      · rw [decide_eq_false h2, if_neg Bool.false_ne_true, if_neg h2]
theorem rvS (w : List Nat) : Rs.rv (SX.S w) = SX.S w.reverse := by
  unfold Rs.rv
  simp
theorem oppS {w : List Nat} (hA : Asc w) : Txt.swapcase (Rs.rv (SX.S w)) = SX.S (opp w) := by
  rw [rvS, swapS (fun c hc => hA c (List.mem_reverse.mp hc))]
  rfl
theorem sw_sw (c : Nat) : sw (sw c) = c := by
  unfold sw
  repeat' split
  all_goals omega
theorem sw_lt {c : Nat} (h : c < 128) : sw c < 128 := by
  unfold sw
  repeat' split
  all_goals omega
def Red (f : List Nat) : Prop := ∀ (a b : List Nat) (x y : Nat), f = a ++ x :: y :: b → x ≠ sw y
theorem red_nil : Red [] := fun a b x y e => by cases a <;> cases e
theorem red_stp {f : List Nat} (h : Red f) (c : Nat) : Red (stp f c) := by
  unfold stp
  split
  · intro a b x y e
    rcases List.eq_nil_or_concat f with rfl | ⟨g, z, rfl⟩
    · cases a <;> cases e
    · have e' : (g ++ [z]).dropLast = a ++ x :: y :: b := by simpa using e
      rw [List.dropLast_concat] at e'
      exact h a (b ++ [z]) x y (by rw [e']; simp)
  · rename_i hl
    intro a b x y e
    rcases List.eq_nil_or_concat b with rfl | ⟨b', z, rfl⟩
    · have e3 : f ++ [c] = (a ++ [x]) ++ [y] := by rw [e]; simp
      have e4 := List.append_inj' e3 rfl
      have e5 : c = y := by simpa using e4.2
      intro hxy
      apply hl
      rw [e4.1, List.getLast?_append]
      rw [e5, hxy]
      rfl
    · have e3 : f ++ [c] = (a ++ x :: y :: b') ++ [z] := by rw [e]; simp
      have e4 := List.append_inj' e3 rfl
      exact h a b' x y e4.1
theorem stp_stp {f : List Nat} (h : Red f) (c : Nat) : stp (stp f c) (sw c) = f := by
  unfold stp
  rw [sw_sw]
  by_cases hl : f.getLast? = some (sw c)
  · rw [if_pos hl]
    obtain ⟨g, rfl⟩ := List.getLast?_eq_some_iff.mp hl
    rw [List.dropLast_concat]
    have hn : ¬ (g.getLast? = some c) := by
      intro hg
      obtain ⟨g', rfl⟩ := List.getLast?_eq_some_iff.mp hg
      exact h g' [] c (sw c) (by simp) (sw_sw c).symm
    rw [if_neg hn]
  · rw [if_neg hl, if_pos (by simp)]
    simp
theorem foldl_red {f : List Nat} (h : Red f) : ∀ w : List Nat, Red (w.foldl stp f) := by
  intro w
  induction w generalizing f with
  | nil => exact h
  | cons c r ih => exact ih (red_stp h c)
theorem fold_opp {f : List Nat} (h : Red f) (w : List Nat) : (w ++ opp w).foldl stp f = f := by
  induction w generalizing f with
  | nil => rfl
  | cons c r ih =>
    have e : (c :: r) ++ opp (c :: r) = c :: ((r ++ opp r) ++ [sw c]) := by
      unfold opp
      simp
    rw [e, List.foldl_cons, List.foldl_append, ih (red_stp h c)]
    exact stp_stp h c
theorem sh_opp (w : List Nat) : sh (w ++ opp w) = [] := fold_opp red_nil w
theorem sh_more {w : List Nat} {i : Nat} {c : Nat} (h : w[i]? = some c) : sh (w.take (i + 1)) = stp (sh (w.take i)) c := by
  unfold sh
  rw [take_more h, List.foldl_append]
  rfl
theorem stp_mem {f : List Nat} {c x : Nat} (h : x ∈ stp f c) : x ∈ f ∨ x = c := by
  unfold stp at h
  split at h
  · exact .inl (List.dropLast_subset _ h)
  · rcases List.mem_append.mp h with z | z
    · exact .inl z
    · exact .inr (by simpa using z)
theorem sh_mem {w : List Nat} {x : Nat} (h : x ∈ sh w) : x ∈ w := by
  have key : ∀ (w f : List Nat), x ∈ w.foldl stp f → x ∈ f ∨ x ∈ w := by
    intro w
    induction w with
    | nil => exact fun f h => .inl h
    | cons c r ih =>
      intro f h
      rcases ih _ h with z | z
      · rcases stp_mem z with z | z
        · exact .inl z
        · exact .inr (by rw [z]; exact List.mem_cons_self ..)
      · exact .inr (List.mem_cons_of_mem _ z)
  rcases key w [] h with z | z
  · cases z
  · exact z
theorem stp_len (f : List Nat) (c : Nat) : (stp f c).length ≤ f.length + 1 := by
  unfold stp
  split
  · rw [List.length_dropLast]; omega
  · rw [List.length_append]; simp
theorem sh_len (w : List Nat) : (sh w).length ≤ w.length := by
  have key : ∀ (w f : List Nat), (w.foldl stp f).length ≤ f.length + w.length := by
    intro w
    induction w with
    | nil => exact fun f => Nat.le_refl _
    | cons c r ih =>
      intro f
      have := ih (stp f c)
      have := stp_len f c
      simp only [List.foldl_cons, List.length_cons]
      omega
  have z := key w []
  unfold sh
  simpa using z
theorem mem_in {w : List Nat} {c : Nat} {L : List Nat} : inV (tx [c]) (L.map fun d => tx [d]) = decide (c ∈ L) := by
  unfold inV
  induction L with
  | nil => rfl
  | cons d r ih =>
    rw [List.map_cons, List.any_cons, ih]
    show ((SX.S [d] == SX.S [c]) || _) = _
    rw [SX.S_beq_eq]
    by_cases h : d = c
    · subst h
      simp
    · have h2 : c ≠ d := fun e => h e.symm
      simp [h, h2]
theorem cut_last (l : List Nat) : cutS (SX.S l) none (some (-1)) = SX.S l.dropLast := by
  unfold cutS
  rw [HT.sIx_none, List.drop_zero, Nat.sub_zero]
  have e : HT.sIx (SX.S l).length (SX.S l).length (some (-1)) = l.length - 1 := by
    rw [tx_len]
    show (if (-1 : Int) < 0 then ((-1 : Int) + (l.length : Int)).toNat else min (-1 : Int).toNat l.length) = l.length - 1
    rw [if_pos (by decide)]
    omega
  rw [e, List.dropLast_eq_take]
theorem at_last {α : Type} {l : List α} {x : α} (h : l.getLast? = some x) : atI l (-1) = some x := by
  have hne : l ≠ [] := fun z => by subst z; cases h
  have hl : 0 < l.length := List.length_pos_iff.mpr hne
  unfold atI ixN
  rw [if_neg (by decide), if_pos (by omega)]
  show l[_]? = some x
  rw [List.getLast?_eq_getElem?] at h
  rw [← h]
  congr 1
  omega
end K1
set_option maxRecDepth 100000
set_option maxHeartbeats 2000000
namespace K1
open PySem PySem.Spec PyProof.Rows L2
theorem asc_le {w : List Nat} (h : w.length ≤ 1000) : (SX.S w).length ≤ sizeLine := by
  rw [tx_len]
  exact Nat.le_of_lt (small1000 h)
theorem asc_le2 {w : List Nat} (h : w.length ≤ 1000) : (SX.S w).length ≤ 5592405 := by
  rw [tx_len]
  omega
theorem asc1 {c : Nat} : (SX.S [c]).length ≤ 5592405 := asc_le2 (w := [c]) (by show 1 ≤ 1000; decide)
section
variable {P : Program} {w : World} {K : PySem.W.Frag} {mg : Str → Option Value} {base : Heap}
/-! opposite -/
def spOpp : Sp := fun vs H Q _ => ∃ l : List Nat, vs = [tx l] ∧ l.length ≤ 1000 ∧ Asc l ∧ Q (tx (opp l)) H
theorem ok_opp {f : Addr} {fd : FuncData} {k : Nat} (F : Fun K "opposite" "opposite" sOpp f fd) : FnOk P w K mg base CX0 (k + 1) f fd ["word"] spOpp := by
  refine F.ok scOpp (fun vs H Q E h => ?_) (fun cdv A outer s H vs Q E hr h => ?_)
  · obtain ⟨l, rfl, _⟩ := h
    rfl
  · obtain ⟨l, rfl, hl, hA, q⟩ := h
    refine ⟨_, pss_one (ps_ret (pe_m0 PySem.F.slot_str_swapcase PySem.F.type_str_swapcase Rs.m_swapcase (Rs.e_revS (pv 0)))), ?_⟩
    refine ⟨_, rfl, _, rfl, asc_le hl, ⟨_, rfl⟩, _, rfl, rfl, ?_, ?_⟩
    · rw [rvS]
      exact asc_le2 (by rw [List.length_reverse]; exact hl)
    · rw [oppS hA]
      exact q
/-! _law_back -/
def spBack : Sp := fun vs H Q _ => ∃ c : Nat, vs = [tx [c]] ∧ c < 128 ∧ Q (tx [sw c]) H
theorem ok_back {f : Addr} {fd : FuncData} {k : Nat} (F : Fun K "_law_back" "_law_back" sBack f fd) : FnOk P w K mg base CX0 (k + 1) f fd ["_law_sign"] spBack := by
  refine F.ok scBack (fun vs H Q E h => ?_) (fun cdv A outer s H vs Q E hr h => ?_)
  · obtain ⟨l, rfl, _⟩ := h
    rfl
  · obtain ⟨c, rfl, hc, q⟩ := h
    refine ⟨_, pss_one (ps_ret (pe_ifExp (pt_cmpR op_eq (pv 0) (pe_lower (pv 0)) (nomark _)) (pe_upper (pv 0)) (pe_lower (pv 0)))), ?_⟩
    refine ⟨_, rfl, _, rfl, ⟨_, rfl⟩, _, rfl, rfl, asc1, rfl, _, rfl, ?_⟩
    rw [lower1 hc]
    refine ite2 (fun e => ?_) (fun e => ?_)
    · have e1 : c = lo1 c := by
        have z : tx [c] = tx [lo1 c] := of_decide_eq_true e
        have z2 := SX.S_inj (V.str.inj z)
        simpa using z2
      refine ⟨_, rfl, ⟨_, rfl⟩, _, rfl, rfl, asc1, ?_⟩
      rw [upper1 hc]
      have e2 : sw c = up1 c := by
        unfold sw up1
        unfold lo1 at e1
        repeat' split
        all_goals split at e1
        all_goals omega
      rw [← e2]
      exact q
    · have e1 : c ≠ lo1 c := fun z => e (by rw [← z]; exact decide_eq_true rfl)
      refine ⟨_, rfl, ⟨_, rfl⟩, _, rfl, rfl, asc1, ?_⟩
      rw [lower1 hc]
      have e2 : sw c = lo1 c := by
        unfold sw lo1
        unfold lo1 at e1
        split
        · rfl
        · split at e1
          · contradiction
          · exact absurd rfl e1
      rw [← e2]
      exact q
/-! _law_signs -/
def spSigns : Sp := fun vs H Q _ => ∃ L : List Nat, vs = [tx L] ∧ Lt L ∧ ∀ H', Same H H' → Q (tx (sg L)) H'
theorem ok_signs {f : Addr} {fd : FuncData} {k : Nat} (F : Fun K "_law_signs" "_law_signs" sSigns f fd) : FnOk P w K mg base CX0 (k + 1) f fd ["_law_letters_here"] spSigns := by
  refine F.ok scSigns (fun vs H Q E h => ?_) (fun cdv A outer s H vs Q E hr h => ?_)
  · obtain ⟨l, rfl, _⟩ := h
    rfl
  · obtain ⟨L, rfl, hL, q⟩ := h
    refine ⟨_, pss_one (ps_ret (pe_join pe_str (pe_lc (own := [("_law_letter", 1)]) (g := gName 1) (tt := tYes) rfl scSigns.nd (pi_str (pv 0))
      (blkOk_by (N := ["_law_letters_here", "_law_letter"]) (sc := defScope sSigns) (by decide +kernel)) (fun _ _ _ _ _ => pg_name (i := 1) scSigns.nd rfl (Or.inl rfl)) (fun _ _ _ _ _ => pts_nil)
      (fun _ _ _ _ _ => pe_op op_add_str (pv 1) (pe_upper (pv 1)))))), ?_⟩
    refine ⟨⟨_, rfl⟩, _, rfl, _, rfl, fun D nD => ?_⟩
    refine lc_pure (walk_txt L) (σ := [some (tx L), none]) (i := 1) (fun v => match v with | .str z => .str (z ++ Txt.upper z) | v => v) (fun _ => true) (by rw [List.length_map]; exact small1000 (by have := hL.1; omega)) nD (fun _ _ => trivial) (fun x H2 Q _ _ h => h) ?_ ?_
    · intro x H2 Q hx _ _ h
      obtain ⟨c, hc, rfl⟩ := List.mem_map.mp hx
      refine ⟨_, rfl, _, rfl, ⟨_, rfl⟩, _, rfl, rfl, asc1, _, _, rfl, rfl, ?_, h H2 (Same.refl _)⟩
      rw [upperM (hL.2 c hc), tx_len, tx_len]
      show 2 ≤ sizeLine
      decide
    · intro H2 s2 hD
      refine ⟨_, D, (L.map fun c => [c, c - 32]).map SX.S, rfl, rfl, .inl (SqL.of ?_), ?_, ?_⟩
      · rw [hD]
        congr 2
        rw [List.filter_eq_self.mpr (by simp), List.map_map, List.map_map, List.map_map]
        refine List.map_congr_left fun c hc => ?_
        show V.str (SX.S [c] ++ Txt.upper (SX.S [c])) = V.str (SX.S [c, c - 32])
        rw [upperM (hL.2 c hc), SX.S_cat]
        rfl
      · rw [SX.lens, List.map_map]
        have e : ((List.length ∘ fun c => [c, c - 32]) : Nat → Nat) = fun _ => 2 := rfl
        have e3 : ∀ l : List Nat, (l.map fun _ => 2).sum = l.length * 2 := by
          intro l
          induction l with
          | nil => rfl
          | cons a r ih => rw [List.map_cons, List.sum_cons, ih, List.length_cons]; omega
        rw [e, e3]
        have h0 : (Str.ofString "").length = 0 := by decide
        rw [h0]
        have := hL.1
        simp only [Nat.mul_zero, Nat.add_zero]
        omega
      · have e := SX.join_S [] (L.map fun c => [c, c - 32])
        have e0 : (Str.ofString "") = SX.S [] := by decide
        rw [e0, e, joinNil]
        exact q H2 s2
end
end K1
set_option maxRecDepth 100000
set_option maxHeartbeats 2000000
namespace K1
open PySem PySem.Spec PyProof.Rows L2
theorem e0S : (Str.ofString "") = SX.S [] := by decide
theorem joinS (ys : List (List Nat)) : Txt.join (Str.ofString "") (ys.map SX.S) = SX.S ys.flatten := by
  rw [e0S, SX.join_S, joinNil]
theorem single_flat (w : List Nat) : (w.map fun c => [c]).flatten = w := by
  induction w with
  | nil => rfl
  | cons c r ih =>
    show [c] ++ (r.map fun c => [c]).flatten = c :: r
    rw [ih]
    rfl
theorem single_sum (w : List Nat) : (((w.map fun c => [c]).map SX.S).map (·.length)).sum = w.length := by
  rw [SX.lens, List.map_map]
  induction w with
  | nil => rfl
  | cons c r ih =>
    rw [List.map_cons, List.sum_cons, ih, List.length_cons]
    show 1 + r.length = _
    omega
theorem len0 : (Str.ofString "").length = 0 := by decide
section
variable {P : Program} {w : World} {K : PySem.W.Frag} {mg : Str → Option Value} {base : Heap}
/-- ''.join of single signs -/
theorem join_signs {X : Cx} {H : Hp} {D : Addr} {l : List Nat} {Q : VK} (hl : l.length ≤ 1000) (hD : H D = some (.lst (l.map fun c => tx [c]))) (q : Q (tx l) H) :
    ∃ a p, ∃ ys : List Str, V.str (Str.ofString "") = .str a ∧ [V.ref D] = [.ref p] ∧ (SqL K H p (ys.map V.str) ∨ SqT K H p (ys.map V.str)) ∧ (ys.map (·.length)).sum + ys.length * a.length ≤ 16777216 ∧ Q (.str (Txt.join a ys)) H := by
  refine ⟨_, D, (l.map fun c => [c]).map SX.S, rfl, rfl, .inl (SqL.of ?_), ?_, ?_⟩
  · rw [hD, List.map_map, List.map_map]
    rfl
  · rw [single_sum, len0]
    omega
  · rw [joinS, single_flat]
    exact q
/-! _law_gone_back -/
def spGone : Sp := fun vs H Q _ => ∃ l : List Nat, vs = [tx l] ∧ l.length ≤ 1000 ∧ Asc l ∧ ∀ H', Same H H' → Q (tx (opp l)) H'
theorem ok_gone {f fB : Addr} {fd fdB : FuncData} {k : Nat} (F : Fun K "_law_gone_back" "_law_gone_back" sGone f fd) (FB : Fun K "_law_back" "_law_back" sBack fB fdB) (bB : Binds K fdB ["_law_sign"] []) (gB : mg "_law_back" = some (.ref fB)) :
    FnOk P w K mg base CX0 (k + 2) f fd ["_law_one"] spGone := by
  have GB : FnOk P w K mg base CX0 (k + 1) fB fdB ["_law_sign"] spBack := ok_back FB
  refine F.ok scGone (fun vs H Q E h => ?_) (fun cdv A outer s H vs Q E hr h => ?_)
  · obtain ⟨l, rfl, _⟩ := h
    rfl
  · obtain ⟨l, rfl, hl, hA, q⟩ := h
    refine ⟨_, pss_one (ps_ret (pe_join pe_str (pe_lc (own := [("_law_sign", 1)]) (g := gName 1) (tt := tYes) rfl scGone.nd (pi_str (Rs.e_revS (pv 0)))
      (blkOk_by (N := ["_law_one", "_law_sign"]) (sc := defScope sGone) (by decide +kernel)) (fun _ _ _ _ _ => pg_name (i := 1) scGone.nd rfl (Or.inl rfl)) (fun _ _ _ _ _ => pts_nil)
      (fun _ _ _ _ _ => pe_call GB hr (by rfl) gB FB.kp bB .nil pass0 (pa_cons (pv 1) pa_nil))))), ?_⟩
    refine ⟨⟨_, rfl⟩, _, rfl, _, rfl, asc_le hl, _, rfl, fun D nD => ?_⟩
    rw [rvS]
    refine lc_pure (walk_txt l.reverse) (σ := [some (tx l), none]) (i := 1) (fun v => match v with | .str z => tx (z.cps.toList.map sw) | v => v) (fun _ => true) (by rw [List.length_map, List.length_reverse]; exact small1000 hl) nD (fun _ _ => trivial) (fun x H2 Q _ _ h => h) ?_ ?_
    · intro x H2 Q hx _ _ h
      obtain ⟨c, hc, rfl⟩ := List.mem_map.mp hx
      exact ⟨_, rfl, c, rfl, hA c (List.mem_reverse.mp hc), h H2 (Same.refl _)⟩
    · intro H2 s2 hD
      refine join_signs (X := (cxOf CX0 P w K mg base ["_law_one", "_law_sign"] "_law_gone_back" (defScope sGone) f cdv A outer s H E).nox) (l := opp l) (by unfold opp; rw [List.length_map, List.length_reverse]; exact hl) ?_ (q H2 s2)
      rw [hD]
      congr 2
      rw [List.filter_eq_self.mpr (by simp), List.map_map]
      unfold opp
      rw [List.map_map]
      rfl
/-! _law_short -/
def spShort : Sp := fun vs H Q _ => ∃ l : List Nat, vs = [tx l] ∧ l.length ≤ 1000 ∧ Asc l ∧ Q (tx (sh l)) H
theorem ok_short {f fB : Addr} {fd fdB : FuncData} {k : Nat} (F : Fun K "_law_short" "_law_short" sShort f fd) (FB : Fun K "_law_back" "_law_back" sBack fB fdB) (bB : Binds K fdB ["_law_sign"] []) (gB : mg "_law_back" = some (.ref fB)) :
    FnOk P w K mg base CX0 (k + 2) f fd ["_law_one"] spShort := by
  have GB : FnOk P w K mg base CX0 (k + 1) fB fdB ["_law_sign"] spBack := ok_back FB
  refine F.ok scShort (fun vs H Q E h => ?_) (fun cdv A outer s H vs Q E hr h => ?_)
  · obtain ⟨l, rfl, _⟩ := h
    rfl
  · obtain ⟨l, rfl, hl, hA, q⟩ := h
    refine ⟨_, pss_cons (ps_set (i := 1) scShort.nd rfl (.inl rfl) pe_str)
      (pss_cons (ps_for PassesOwn.never rfl (pi_str (pv 0)) (pg_name (i := 2) scShort.nd rfl (Or.inl rfl))
        (pss_one (ps_if (PW.pt (pw_and (pt_cmpR op_ne (pv 1) pe_str (nomark _)) (pw_and1 (pt_cmpR op_eq (pe_ix ix_str (pv 1) (pe_un un_neg pe_int) (fun _ _ => rfl)) (pe_call GB hr (by rfl) gB FB.kp bB .nil pass0 (pa_cons (pv 2) pa_nil)) (nomark _)))))
          (pss_one (ps_set (i := 1) scShort.nd rfl (.inl rfl) (pe_slice sl_str (pv 1) po_none (po_some (pe_un un_neg pe_int)))))
          (pss_one (ps_set (i := 1) scShort.nd rfl (.inl rfl) (pe_op op_add_str (pv 1) (pv 2)))))))
      (pss_one (ps_ret (pv 1)))), ?_⟩
    refine ⟨_, rfl, _, rfl, ?_⟩
    refine for_it (walk_txt l) (fun i σ H3 => ∃ (y : Option V), σ = [some (tx l), some (tx (sh (l.take i))), y] ∧ H3 = H) ⟨none, ?_, rfl⟩ (fun _ _ _ _ _ => trivial) ?_ ?_
    · show [some (tx l), some (.str (Str.ofString "")), none] = _
      rw [e0S]
      rfl
    · rintro i x σ H3 H3' hi ⟨y, rfl, rfl⟩ ⟨rfl, hx⟩
      rw [List.getElem?_map] at hx
      cases hc : l[i]? with
      | none =>
        rw [hc] at hx
        cases hx
      | some c =>
        rw [hc] at hx
        obtain rfl : tx [c] = x := Option.some.inj hx
        have hc128 := hA c (List.mem_of_getElem? hc)
        have step := sh_more hc
        have hle : (sh (l.take i)).length ≤ 1000 := Nat.le_trans (sh_len _) (by rw [List.length_take]; omega)
        generalize hF : sh (l.take i) = F at step hle
        refine ⟨_, rfl, rfl, _, rfl, ite2 (fun e => ?_) (fun e => ?_)⟩
        · have hne : F ≠ [] := fun z => by
            subst z
            rw [e0S] at e
            simp at e
          obtain ⟨z, hz⟩ : ∃ z, F.getLast? = some z := by
            cases hq : F.getLast? with
            | none => exact absurd (List.getLast?_eq_none_iff.mp hq) hne
            | some z => exact ⟨z, rfl⟩
          refine ⟨_, rfl, _, rfl, _, _, z, rfl, rfl, asc_le hle, at_last (by simpa using hz), _, rfl, c, rfl, hc128, rfl, _, rfl, ite2 (fun e2 => ?_) (fun e2 => ?_)⟩
          · have e3 : z = sw c := by
              have z1 : tx [z] = tx [sw c] := of_decide_eq_true e2
              have z2 := SX.S_inj (V.str.inj z1)
              simpa using z2
            refine ⟨_, rfl, _, rfl, _, rfl, _, rfl, asc_le hle, ?_⟩
            refine ⟨some (tx [c]), ?_, rfl⟩
            rw [step]
            unfold stp
            rw [if_pos (by rw [hz, e3]), cut_last]
            rfl
          · have e3 : ¬ (F.getLast? = some (sw c)) := fun zz => by
              rw [hz] at zz
              cases zz
              exact e2 (decide_eq_true rfl)
            refine ⟨_, rfl, _, rfl, _, _, rfl, rfl, ?_, ?_⟩
            · rw [tx_len, tx_len]
              exact Nat.le_trans (Nat.add_le_add_right hle 1) (by decide)
            · refine ⟨some (tx [c]), ?_, rfl⟩
              rw [step]
              unfold stp
              rw [if_neg e3, SX.S_cat]
              rfl
        · have hne : F = [] := by
            rw [e0S] at e
            have z : ¬ (tx F ≠ tx []) := by
              intro hn
              apply e
              simpa using hn
            have z2 : tx F = tx [] := Classical.not_not.mp z
            exact SX.S_inj (V.str.inj z2)
          subst hne
          refine ⟨_, rfl, _, rfl, _, _, rfl, rfl, by rw [tx_len, tx_len]; show 1 ≤ sizeLine; decide, ?_⟩
          refine ⟨some (tx [c]), ?_, rfl⟩
          rw [step]
          unfold stp
          rw [if_neg (by simp), SX.S_cat]
          rfl
    · rintro σ H3 ⟨y, rfl, rfl⟩
      have e : l.take (l.map fun c => tx [c]).length = l := by rw [List.length_map, List.take_length]
      rw [e]
      exact ⟨_, rfl, q⟩
end
end K1
set_option maxRecDepth 100000
set_option maxHeartbeats 2000000
namespace K1
open PySem PySem.Spec PyProof.Rows L2
def one (c : Nat) : V := tx [c]
def cn (l L : List Nat) : List V := L.map fun c => .int (Txt.count (SX.S l) (SX.S [c]) - Txt.count (SX.S l) (SX.S [c - 32]))
section
variable {P : Program} {w : World} {K : PySem.W.Frag} {mg : Str → Option Value} {base : Heap}
/-! shortened -/
def spShd : Sp := fun vs H Q _ => ∃ l : List Nat, vs = [tx l] ∧ l.length ≤ 1000 ∧ Asc l ∧ ∀ H', Same H H' → Q (tx (sh l)) H'
theorem ok_shd {f fB : Addr} {fd fdB : FuncData} {k : Nat} (F : Fun K "shortened" "shortened" sShortened f fd) (FB : Fun K "opposite" "opposite" sOpp fB fdB) (bB : Binds K fdB ["word"] []) (gB : mg "opposite" = some (.ref fB)) :
    FnOk P w K mg base CX0 (k + 2) f fd ["word"] spShd := by
  have GB : FnOk P w K mg base CX0 (k + 1) fB fdB ["word"] spOpp := ok_opp FB
  refine F.ok scShortened (fun vs H Q E h => ?_) (fun cdv A outer s H vs Q E hr h => ?_)
  · obtain ⟨l, rfl, _⟩ := h
    rfl
  · obtain ⟨l, rfl, hl, hA, q⟩ := h
    refine ⟨_, pss_cons (ps_set (i := 1) scShortened.nd rfl (.inl rfl) (pe_lst pa_nil))
      (pss_cons (ps_for PassesOwn.never rfl (pi_str (pv 0)) (pg_name (i := 2) scShortened.nd rfl (Or.inl rfl))
        (pss_one (ps_if (PW.pt (pw_and (pt_truth (pv 1) (by intro _; rfl)) (pw_and1 (pt_cmpR op_eq (pe_ix ix_list (pv 1) (pe_un un_neg pe_int) (fun _ _ => rfl)) (pe_call GB hr (by rfl) gB FB.kp bB .nil pass0 (pa_cons (pv 2) pa_nil)) (nomark _)))))
          (pss_one (ps_expr (pe_bm0 PySem.F.plainAttrs_list PySem.F.slot_list_pop PySem.F.type_list_pop mt_pop (pv 1))))
          (pss_one (ps_expr (pe_bm PySem.F.plainAttrs_list PySem.F.slot_list_append PySem.F.type_list_append mt_append (pv 1) (pa_cons (pv 2) pa_nil)))))))
      (pss_one (ps_ret (pe_join pe_str (pv 1))))), ?_⟩
    refine ⟨Nat.zero_le _, fun D nD => ?_⟩
    refine ⟨_, rfl, _, rfl, ?_⟩
    have s1 : Same H (upd H D (.lst [])) := same_new nD
    refine for_it (walk_txt l) (fun i σ H3 => ∃ (y : Option V), σ = [some (tx l), some (.ref D), y] ∧ Same H H3 ∧ H3 D = some (.lst ((sh (l.take i)).map one))) ⟨none, rfl, s1, upd_same⟩ (fun _ _ _ _ _ => trivial) ?_ ?_
    · rintro i x σ H3 H3' hi ⟨y, rfl, sm, hD⟩ ⟨rfl, hx⟩
      rw [List.getElem?_map] at hx
      cases hc : l[i]? with
      | none =>
        rw [hc] at hx
        cases hx
      | some c =>
        rw [hc] at hx
        obtain rfl : tx [c] = x := Option.some.inj hx
        have hc128 := hA c (List.mem_of_getElem? hc)
        have step := sh_more hc
        have hle : (sh (l.take i)).length ≤ 1000 := Nat.le_trans (sh_len _) (by rw [List.length_take]; omega)
        generalize hF : sh (l.take i) = F at step hle hD
        have oc : opp [c] = [sw c] := rfl
        have ascc : Asc [c] := fun d hd => by
          have e : d = c := by simpa using hd
          omega
        have app : ∀ (hn : ¬ (F.getLast? = some (sw c))), ∃ (y : Option V), [some (tx l), some (V.ref D), some (tx [c])] = [some (tx l), some (.ref D), y] ∧ Same H (upd H3' D (.lst (F.map one ++ [tx [c]]))) ∧ upd H3' D (.lst (F.map one ++ [tx [c]])) D = some (.lst ((sh (l.take (i + 1))).map one)) := by
          intro hn
          refine ⟨_, rfl, fun b o e => ?_, ?_⟩
          · rw [upd_ne (ne_of_none e nD)]
            exact sm _ _ e
          · rw [upd_same, step]
            unfold stp
            rw [if_neg hn, List.map_append]
            rfl
        refine ⟨_, rfl, _, .inl ⟨_, SqL.of hD, rfl⟩, ?_⟩
        cases hF2 : F with
        | nil =>
          subst hF2
          refine iteF ?_
          refine iteF ⟨_, rfl, .inl ⟨rfl, _, SqL.of hD⟩, _, rfl, D, _, _, rfl, rfl, hD, (by show 0 < sizeLine; decide), ?_⟩
          exact app (by simp)
        | cons f0 fr =>
          rw [← hF2]
          have ht : (!(F.map one).isEmpty) = true := by rw [hF2]; rfl
          rw [ht]
          refine iteT ?_
          obtain ⟨z, hz⟩ : ∃ z, F.getLast? = some z := by
            cases hq : F.getLast? with
            | none => rw [hF2] at hq; simp at hq
            | some z => exact ⟨z, rfl⟩
          have hz1 : (F.map one).getLast? = some (one z) := by rw [List.getLast?_map, hz]; rfl
          refine ⟨_, rfl, _, rfl, D, _, _, one z, rfl, rfl, SqL.of hD, at_last hz1, _, rfl, [c], rfl, (by show 1 ≤ 1000; decide), ascc, rfl, _, rfl, ite2 (fun e2 => ?_) (fun e2 => ?_)⟩
          · have e3 : z = sw c := by
              have z1 : tx [z] = tx [sw c] := of_decide_eq_true e2
              have z2 := SX.S_inj (V.str.inj z1)
              simpa using z2
            refine ⟨_, rfl, .inl ⟨rfl, _, SqL.of hD⟩, D, _, one z, rfl, rfl, hD, ?_, ?_⟩
            · rw [← List.getLast?_eq_getElem?]
              exact hz1
            · refine ⟨some (tx [c]), rfl, fun b o e => ?_, ?_⟩
              · rw [upd_ne (ne_of_none e nD)]
                exact sm _ _ e
              · rw [upd_same, step]
                unfold stp
                rw [if_pos (by rw [hz, e3]), List.map_dropLast]
          · have e3 : ¬ (F.getLast? = some (sw c)) := fun zz => by
              rw [hz] at zz
              cases zz
              exact e2 (decide_eq_true rfl)
            refine ⟨_, rfl, .inl ⟨rfl, _, SqL.of hD⟩, _, rfl, D, _, _, rfl, rfl, hD, (by rw [List.length_map]; exact small1000 hle), ?_⟩
            exact app e3
    · rintro σ H3 ⟨y, rfl, sm, hD⟩
      have e : l.take (l.map fun c => tx [c]).length = l := by rw [List.length_map, List.take_length]
      rw [e] at hD
      refine ⟨⟨_, rfl⟩, _, rfl, ?_⟩
      exact join_signs (X := (cxOf CX0 P w K mg base ["word", "kept", "sign"] "shortened" (defScope sShortened) f cdv A outer s H E).nox) (l := sh l) (Nat.le_trans (sh_len l) hl) hD (q H3 sm)
/-! _law_number_of -/
def spNum : Sp := fun vs H Q _ => ∃ l L : List Nat, vs = [tx l, tx L] ∧ Lt L ∧ ∀ H' p, Same H H' → H p = none → H' p = some (.tup (cn l L)) → Q (.ref p) H'
theorem ok_num {f : Addr} {fd : FuncData} {k : Nat} (F : Fun K "_law_number_of" "_law_number_of" sNumber f fd) (B : Bn mg) : FnOk P w K mg base CX0 (k + 1) f fd ["_law_one", "_law_letters_here"] spNum := by
  refine F.ok scNumber (fun vs H Q E h => ?_) (fun cdv A outer s H vs Q E hr h => ?_)
  · obtain ⟨l, L, rfl, _⟩ := h
    rfl
  · obtain ⟨l, L, rfl, hL, q⟩ := h
    refine ⟨_, pss_one (ps_ret (pe_callTy call_tuple_of (by rfl) B.tuple boot_tuple (pa_cons (pe_lc (own := [("_law_letter", 2)]) (g := gName 2) (tt := tYes) rfl scNumber.nd (pi_str (pv 1))
      (blkOk_by (N := ["_law_one", "_law_letters_here", "_law_letter"]) (sc := defScope sNumber) (by decide +kernel)) (fun _ _ _ _ _ => pg_name (i := 2) scNumber.nd rfl (Or.inl rfl)) (fun _ _ _ _ _ => pts_nil)
      (fun _ _ _ _ _ => pe_op op_sub (pe_m1 PySem.F.slot_str_count PySem.F.type_str_count mt_count (pv 0) (pv 2)) (pe_m1 PySem.F.slot_str_count PySem.F.type_str_count mt_count (pv 0) (pe_upper (pv 2))))) pa_nil))), ?_⟩
    refine ⟨_, rfl, _, rfl, fun D nD => ?_⟩
    refine lc_pure (walk_txt L) (σ := [some (tx l), some (tx L), none]) (i := 2) (fun v => match v with | .str z => .int (Txt.count (SX.S l) z - Txt.count (SX.S l) (Txt.upper z)) | v => v) (fun _ => true) (by rw [List.length_map]; exact small1000 (by have := hL.1; omega)) nD (fun _ _ => trivial) (fun x H2 Q _ _ h => h) ?_ ?_
    · intro x H2 Q hx _ _ h
      obtain ⟨c, hc, rfl⟩ := List.mem_map.mp hx
      exact ⟨_, rfl, ⟨_, rfl⟩, _, rfl, _, _, rfl, rfl, _, rfl, ⟨_, rfl⟩, _, rfl, ⟨_, rfl⟩, _, rfl, rfl, asc1, _, _, rfl, rfl, _, _, rfl, rfl, h H2 (Same.refl _)⟩
    · intro H2 s2 hD
      refine ⟨D, _, rfl, .inl ⟨SqL.of hD, fun p np => ?_⟩⟩
      have e : ((L.map fun c => tx [c]).filter fun _ => true).map (fun v => match v with | .str z => .int (Txt.count (SX.S l) z - Txt.count (SX.S l) (Txt.upper z)) | v => v) = cn l L := by
        rw [List.filter_eq_self.mpr (by simp), List.map_map]
        refine List.map_congr_left fun c hc => ?_
        show V.int (Txt.count (SX.S l) (SX.S [c]) - Txt.count (SX.S l) (Txt.upper (SX.S [c]))) = _
        rw [upperM (hL.2 c hc)]
      rw [e]
      exact q _ p (s2.trans (same_new np)) (s2.free np) upd_same
end
end K1
set_option maxRecDepth 100000
set_option maxHeartbeats 2000000
namespace K1
open PySem PySem.Spec PyProof.Rows L2
theorem sg_nodup : ∀ {L : List Nat}, L.Nodup → (∀ c ∈ L, c ∈ menu) → (sg L).Nodup
  | [], _, _ => List.nodup_nil
  | c :: L, hn, hm => by
    have hr : ∀ d ∈ c :: L, 97 ≤ d ∧ d ≤ 122 := fun d hd => by
      have z : ∀ d ∈ menu, 97 ≤ d ∧ d ≤ 122 := by decide
      exact z d (hm d hd)
    have ih := sg_nodup (List.nodup_cons.mp hn).2 fun d hd => hm d (List.mem_cons_of_mem _ hd)
    have hc := hr c List.mem_cons_self
    have e : sg (c :: L) = c :: (c - 32) :: sg L := rfl
    have mem : ∀ x, x ∈ sg L → ∃ d ∈ L, x = d ∨ x = d - 32 := fun x hx => by
      unfold sg at hx
      obtain ⟨d, hd, h⟩ := List.mem_flatMap.mp hx
      exact ⟨d, hd, by simpa using h⟩
    rw [e, List.nodup_cons, List.nodup_cons]
    refine ⟨fun h => ?_, fun h => ?_, ih⟩
    · rcases List.mem_cons.mp h with z | z
      · omega
      · obtain ⟨d, hd, y⟩ := mem c z
        have := hr d (List.mem_cons_of_mem _ hd)
        rcases y with y | y
        · rw [y] at hn
          exact (List.nodup_cons.mp hn).1 hd
        · omega
    · obtain ⟨d, hd, y⟩ := mem _ h
      have := hr d (List.mem_cons_of_mem _ hd)
      rcases y with y | y
      · omega
      · have : c = d := by omega
        rw [this] at hn
        exact (List.nodup_cons.mp hn).1 hd
theorem sg_more {L : List Nat} {i c : Nat} (h : L[i]? = some c) : sg (L.take (i + 1)) = sg (L.take i) ++ [c, c - 32] := by
  unfold sg
  rw [take_more h, List.flatMap_append]
  simp
section
variable {P : Program} {w : World} {K : PySem.W.Frag} {mg : Str → Option Value} {base : Heap}
/-! signs_of -/
def spSof : Sp := fun vs H Q _ => ∃ L : List Nat, vs = [tx L] ∧ Lt L ∧ ∀ H' p, Same H H' → H p = none → H' p = some (.lst ((sg L).map one)) → Q (.ref p) H'
theorem ok_sof {f : Addr} {fd : FuncData} {k : Nat} (F : Fun K "signs_of" "signs_of" sSignsOf f fd) : FnOk P w K mg base CX0 (k + 1) f fd ["letters"] spSof := by
  refine F.ok scSignsOf (fun vs H Q E h => ?_) (fun cdv A outer s H vs Q E hr h => ?_)
  · obtain ⟨L, rfl, _⟩ := h
    rfl
  · obtain ⟨L, rfl, hL, q⟩ := h
    refine ⟨_, pss_one (ps_ret (pe_lc2 (own := [("letter", 1), ("sign", 2)]) (vs1 := [2]) (g := gName 1) (tt := tYes) (wi1 := iTup K (tTup (tCons (tVar 1) (tCons (tM0 (fun x xs H Q => ∃ a, x = .str a ∧ xs = [] ∧ a.length ≤ 5592405 ∧ Q (.str (Txt.upper a)) H) (tVar 1)) tNil)))) (g1 := gName 2) (tt1 := tYes) (te := tVar 2) rfl scSignsOf.nd (pi_str (pv 0))
      (blkOk_by (N := ["letters", "letter", "sign"]) (sc := defScope sSignsOf) (by decide +kernel)) (by decide) (fun _ _ _ _ _ => pg_name (i := 1) scSignsOf.nd rfl (Or.inl rfl)) (fun _ _ _ _ _ => pts_nil)
      (fun _ _ _ _ _ => pi_tup (pe_tup (pa_cons (pv 1) (pa_cons (pe_upper (pv 1)) pa_nil))))
      (fun _ _ _ _ _ => pg_name (i := 2) scSignsOf.nd rfl (Or.inl rfl)) (fun _ _ _ _ _ => pts_nil) (fun _ _ _ _ _ => pv 2))), ?_⟩
    refine ⟨_, rfl, _, rfl, fun D nD => ?_⟩
    refine ⟨fun i m H2 => m = L.length - i ∧ i ≤ L.length ∧ Same H H2 ∧ H2 D = some (.lst ((sg (L.take i)).map one)), ⟨_, rfl, Nat.zero_le _, same_new nD, upd_same⟩, ?_⟩
    rintro i m H2 ⟨rfl, hi, sm, hD⟩
    have w0 := walk_txt L
    by_cases hlt : i < L.length
    · have hlt' : i < (L.map fun c => tx [c]).length := by rw [List.length_map]; exact hlt
      refine .inr ⟨w0.goes i H2 hlt' trivial, fun H' => Same H H' ∧ H' D = some (.lst ((sg (L.take (i + 1))).map one)), fun H' h' => ⟨_, by omega, rfl, hlt, h'⟩, fun x H' y => ?_⟩
      obtain ⟨rfl, hx⟩ := w0.yields i H2 x H' hlt' trivial y
      rw [List.getElem?_map] at hx
      obtain ⟨c, hc⟩ : ∃ c, L[i]? = some c := ⟨_, List.getElem?_eq_getElem hlt⟩
      rw [hc] at hx
      obtain rfl : tx [c] = x := Option.some.inj hx
      have hcm := hL.2 c (List.mem_of_getElem? hc)
      refine ⟨rfl, ?_⟩
      dsimp only [tYes]
      rw [if_pos rfl]
      refine ⟨_, rfl, _, rfl, ⟨_, rfl⟩, _, rfl, rfl, asc1, (by show 2 ≤ sizeLine; decide), fun T nT => ?_⟩
      rw [upperM hcm]
      have hT : upd H' T (.tup [tx [c], tx [c - 32]]) T = some (.tup [one c, one (c - 32)]) := upd_same
      have sT : Same H' (upd H' T (.tup [tx [c], tx [c - 32]])) := same_new nT
      refine ⟨T, rfl, ⟨_, SqT.of hT⟩, ?_⟩
      have hll : (sg (L.take i)).length ≤ 200 := by
        rw [sg_len, List.length_take]
        have := hL.1
        omega
      refine ⟨fun j k H3 => k = 2 - j ∧ j ≤ 2 ∧ Same H H3 ∧ H3 T = some (.tup [one c, one (c - 32)]) ∧ H3 D = some (.lst ((sg (L.take i) ++ [c, c - 32].take j).map one)), ⟨_, rfl, by decide, sm.trans sT, hT, ?_⟩, ?_⟩
      · rw [sT _ _ hD]
        simp
      · rintro j k3 H3 ⟨rfl, hj, sm3, hT3, hD3⟩
        have w1 := walk_tup (K := K) (a := T) (xs := [one c, one (c - 32)])
        by_cases hj2 : j < 2
        · refine .inr ⟨w1.goes j H3 hj2 (SqT.of hT3), fun H' => Same H H' ∧ H' T = some (.tup [one c, one (c - 32)]) ∧ H' D = some (.lst ((sg (L.take i) ++ [c, c - 32].take (j + 1)).map one)), fun H' h' => ⟨_, by omega, rfl, hj2, h'⟩, fun x H4 y => ?_⟩
          obtain ⟨rfl, hx2⟩ := w1.yields j H3 x H4 hj2 (SqT.of hT3) y
          refine ⟨rfl, ?_⟩
          dsimp only
          rw [if_pos rfl]
          refine ⟨_, rfl, _, hD3, ?_, ?_, ?_, ?_⟩
          · rw [List.length_map, List.length_append]
            refine small1000 ?_
            have := List.length_take_le j [c, c - 32]
            have e2 : ([c, c - 32] : List Nat).length = 2 := rfl
            omega
          · intro b o e
            rw [upd_ne (ne_of_none e nD)]
            exact sm3 _ _ e
          · rw [upd_ne (ne_of hT3 hD3 (by intro z; cases z))]
            exact hT3
          · rw [upd_same]
            congr 2
            have hz : j = 0 ∨ j = 1 := by omega
            rcases hz with rfl | rfl
            · obtain rfl : one c = x := Option.some.inj hx2
              simp [one]
            · obtain rfl : one (c - 32) = x := Option.some.inj hx2
              simp [one]
        · have ej : j = 2 := by omega
          subst ej
          refine .inl ⟨w1.stops H3 (SqT.of hT3), sm3, ?_⟩
          rw [hD3, sg_more hc]
          rfl
    · have ei : i = L.length := by omega
      subst ei
      rw [List.take_length] at hD
      refine .inl ⟨?_, q H2 D sm nD hD⟩
      have z := w0.stops H2 trivial
      rw [List.length_map] at z
      exact z
/-! is_word -/
def isW (l L : List Nat) : Bool := l.all fun c => decide (c ∈ sg L)
def spIsW : Sp := fun vs H Q _ => ∃ l L : List Nat, vs = [tx l, tx L] ∧ l.length ≤ 1000 ∧ Lt L ∧ ∀ H', Same H H' → Q (.bl (isW l L)) H'
def nIn (l : List Nat) (v : V) : Int := match v with | .str z => Txt.count (SX.S l) z | _ => 0
theorem isW_sum {l L : List Nat} (hL : Lt L) : decide ((((sg L).map one).map (nIn l)).sum = (l.length : Nat)) = isW l L := by
  have e : ((sg L).map one).map (nIn l) = (sg L).map fun c => ((l.count c : Nat) : Int) := by
    rw [List.map_map]
    refine List.map_congr_left fun c _ => ?_
    show Txt.count (SX.S l) ⟨#[c]⟩ = _
    rw [Cnt.one]
  rw [e, Cnt.sumInt]
  have z := Cnt.all (sg_nodup hL.1.2 hL.2) l
  unfold isW
  rw [Bool.eq_iff_iff, decide_eq_true_eq, ← z]
  omega
theorem ok_isw {f fS : Addr} {fd fdS : FuncData} {k : Nat} (F : Fun K "is_word" "is_word" sIsWord f fd) (B : Bn mg) (FS : Fun K "signs_of" "signs_of" sSignsOf fS fdS) (bS : Binds K fdS ["letters"] []) (gS : mg "signs_of" = some (.ref fS)) :
    FnOk P w K mg base CX0 (k + 2) f fd ["word", "letters"] spIsW := by
  have GS : FnOk P w K mg base CX0 (k + 1) fS fdS ["letters"] spSof := ok_sof FS
  refine F.ok scIsWord (fun vs H Q E h => ?_) (fun cdv A outer s H vs Q E hr h => ?_)
  · obtain ⟨l, L, rfl, _⟩ := h
    rfl
  · obtain ⟨l, L, rfl, hl, hL, q⟩ := h
    refine ⟨_, pss_one (ps_ret (pe_cmpR op_eq (pe_callB (cr_sum rfl) (by rfl) B.sum boot_sum (pa_cons (pe_lc (own := [("sign", 2)]) (g := gName 2) (tt := tYes) rfl scIsWord.nd (pi_list (pe_call GS hr (by rfl) gS FS.kp bS .nil pass0 (pa_cons (pv 1) pa_nil)))
        (blkOk_by (N := ["word", "letters", "sign"]) (sc := defScope sIsWord) (by decide +kernel)) (fun _ _ _ _ _ => pg_name (i := 2) scIsWord.nd rfl (Or.inl rfl)) (fun _ _ _ _ _ => pts_nil)
        (fun _ _ _ _ _ => pe_m1 PySem.F.slot_str_count PySem.F.type_str_count mt_count (pv 0) (pv 2))) pa_nil)) (pe_callB call_len_str (by rfl) B.len PySem.boot_len (pa_cons (pv 0) pa_nil)) (nomark _))), ?_⟩
    refine ⟨_, rfl, L, rfl, hL, fun H1 p s1 np hp => ?_⟩
    refine ⟨p, rfl, ⟨_, SqL.of hp⟩, fun D nD => ?_⟩
    refine lc_pure (walk_list (K := K) (a := p) (xs := (sg L).map one)) (σ := [some (tx l), some (tx L), none]) (i := 2) (fun v => .int (nIn l v)) (fun _ => true) (by rw [List.length_map, sg_len]; exact small1000 (by have := hL.1.1; omega)) nD (fun H2 s2 => SqL.of (s2 _ _ hp)) (fun x H2 Q _ _ h => h) ?_ ?_
    · intro x H2 Q hx _ sm h
      obtain ⟨c, hc, rfl⟩ := List.mem_map.mp hx
      exact ⟨_, rfl, ⟨_, rfl⟩, _, rfl, _, _, rfl, rfl, h H2 (Same.refl _)⟩
    · intro H2 s2 hD
      refine ⟨D, ((sg L).map one).map (nIn l), rfl, SqL.of ?_, _, rfl, _, rfl, ?_, rfl, ?_⟩
      · rw [hD]
        congr 2
        rw [List.filter_eq_self.mpr (by simp), List.map_map, List.map_map, List.map_map]
        rfl
      · rw [tx_len]
        exact Nat.le_of_lt (small1000 hl)
      · have z := q H2 (s1.trans s2)
        rw [← isW_sum hL] at z
        have e : ∀ i j : Int, decide (V.int i = V.int j) = decide (i = j) := fun i j => by simp
        rw [tx_len, e]
        exact z
end
end K1
set_option maxRecDepth 100000
set_option maxHeartbeats 2000000
namespace K1
open PySem PySem.Spec PyProof.Rows L2
/-! list(text) -/
theorem vals_signs : ∀ (cs : List Nat) (us : List Value), cs.length = us.length → (∀ (j : Nat) (c : Nat) (v : Value), cs[j]? = some c → us[j]? = some v → ∃ t, v = .str ⟨#[c]⟩ t) → Vals (cs.map one) us
  | [], [], _, _ => .nil
  | c :: cs, v :: us, hl, h => by
    refine .cons ?_ (vals_signs cs us (by simpa using hl) fun j c' v' h1 h2 => h (j + 1) c' v' h1 h2)
    obtain ⟨t, e⟩ := h 0 c v rfl rfl
    rw [e]
    exact ⟨t, rfl⟩
theorem c_listS {X : Cx} (hc : X.calm = true) : CallR X (.type "list") (fun xs H Q => ∃ l : List Nat, xs = [tx l] ∧ l.length ≤ 1000 ∧ ∀ p, H p = none → Q (.ref p) (upd H p (.lst (l.map one)))) := by
  intro pins s σ H xs us Q I r h
  obtain ⟨l, rfl, hl, q⟩ := h
  obtain ⟨u, rfl, rx⟩ := vals1 r
  obtain ⟨t, rfl⟩ := rx
  have hsz : (SX.S l).cps.size ≤ sizeLine := asc_le hl
  refine PySem.call_list_str (I.ok.hd hc) (SX.S l) t (fun h' tk acc c' kp e it => ?_) hsz
  have hv : Vals (l.map one) acc.toList := by
    refine vals_signs l acc.toList ?_ fun j c v h1 h2 => ?_
    · have z := it.1
      simp only [List.size_toArray] at z
      have z2 : acc.toList.length = l.length := by simpa using z
      exact z2.symm
    · obtain ⟨c2, u, e1, e2⟩ := it.2 j v (by simpa using h2)
      have e3 : l[j]? = some c2 := by simpa using e1
      rw [h1] at e3
      cases e3
      exact ⟨u, e2⟩
  refine ⟨.ref s.heap.objs.size, _, I.laid (t' := tk) kp (Nat.le_refl _) (show ObjOk X.prog X.w _ h' _ (.lst (l.map one)) from ⟨by rw [List.length_map]; exact Nat.le_of_lt (small1000 hl), acc.toList, c', hv, by simpa using e⟩), rfl, q _ (I.hok.fresh (Nat.le_refl _))⟩
/-! the box goes on, all else stays, new things come -/
def BxGo (H H' : Hp) (b m : Addr) : Prop := Bx H' b m ∧ ∀ x o, x ≠ b → H x = some o → H' x = some o
theorem BxTo.go {H H' : Hp} {b m : Addr} (h : BxTo H H' b m) : BxGo H H' b m := ⟨h.1, fun x o hx e => (h.2 x hx).trans e⟩
theorem BxGo.trans {H H1 H2 : Hp} {b m : Addr} (x : BxGo H H1 b m) (y : BxGo H1 H2 b m) : BxGo H H2 b m := ⟨y.1, fun z o hz e => y.2 z o hz (x.2 z o hz e)⟩
theorem BxGo.refl {H : Hp} {b m : Addr} (x : Bx H b m) : BxGo H H b m := ⟨x, fun _ _ _ e => e⟩
theorem Bx.same {H H' : Hp} {b m : Addr} (x : Bx H b m) (s : Same H H') : Bx H' b m := by
  obtain ⟨ms, i, r, t, h1, h2, h3⟩ := x
  exact ⟨ms, i, r, t, s _ _ h1, s _ _ h2, h3⟩
theorem BxGo.of {H H' : Hp} {b m : Addr} (x : Bx H b m) (s : Same H H') : BxGo H H' b m := ⟨x.same s, fun z o _ e => s _ _ e⟩
theorem Bx.some {H : Hp} {b m : Addr} (x : Bx H b m) : ∃ o, H b = some o := by
  obtain ⟨ms, i, r, t, h1, _⟩ := x
  exact ⟨_, h1⟩
theorem Bx.ne {H : Hp} {b m p : Addr} (x : Bx H b m) (h : H p = none) : p ≠ b := fun e => by
  obtain ⟨o, z⟩ := x.some
  rw [← e, h] at z
  cases z
theorem Bx.neM {H : Hp} {b m p : Addr} (x : Bx H b m) (h : H p = none) : p ≠ m := fun e => by
  obtain ⟨ms, i, r, t, _, h1, _⟩ := x
  rw [← e, h] at h1
  cases h1
theorem Bx.upd {H : Hp} {b m p : Addr} {o : HO} (x : Bx H b m) (h1 : p ≠ b) (h2 : p ≠ m) : Bx (upd H p o) b m := by
  obtain ⟨ms, i, r, t, e1, e2, e3⟩ := x
  exact ⟨ms, i, r, t, by rw [upd_ne (Ne.symm h1)]; exact e1, by rw [upd_ne (Ne.symm h2)]; exact e2, e3⟩
/-- behind a step of the box a new thing stands -/
theorem BxGo.at {H H' : Hp} {b m p : Addr} {o : HO} (x : BxGo H H' b m) (hp : p ≠ b) (h : H p = some o) : H' p = some o := x.2 p o hp h
/-- an address that is new behind was new ahead -/
theorem BxGo.free {H H' : Hp} {b m p : Addr} (x : BxGo H H' b m) (h : H' p = none) : H p = none := by
  have hne := x.1.ne h
  cases e : H p with
  | none => rfl
  | some o => rw [x.2 p o hne e] at h; cases h
theorem menuS : Str.ofString "abmtxyz" = SX.S menu := by decide
theorem left_ne {F : List Nat} (h : F.length ≤ 2) : menu.filter (fun c => !decide (c ∈ F)) ≠ [] := by
  intro e
  have k : ∀ c ∈ menu, c ∈ F := fun c hc => by
    have z := List.filter_eq_nil_iff.mp e c hc
    simpa using z
  have k1 := k 97 (by decide)
  have k2 := k 98 (by decide)
  have k3 := k 109 (by decide)
  match F, h with
  | [], _ => cases k1
  | [a], _ =>
    have e1 : 97 = a := by simpa using k1
    have e2 : 98 = a := by simpa using k2
    omega
  | [a, c], _ =>
    have e1 : 97 = a ∨ 97 = c := by simpa using k1
    have e2 : 98 = a ∨ 98 = c := by simpa using k2
    have e3 : 109 = a ∨ 109 = c := by simpa using k3
    omega
section
variable {P : Program} {w : World} {K : PySem.W.Frag} {mg : Str → Option Value} {base : Heap}
/-! _law_letters -/
def spLet : Sp := fun vs H Q _ => ∃ (b m : Addr) (n : Nat), vs = [.ref b, .int n] ∧ Bx H b m ∧ 1 ≤ n ∧ n ≤ 3 ∧ ∀ L H', (L.length = n ∧ L.Nodup) → (∀ c ∈ L, c ∈ menu) → BxGo H H' b m → Q (tx L) H'
theorem ok_let {f fA : Addr} {fd fdA : FuncData} {k : Nat} (F : Fun K "_law_letters" "_law_letters" sLetters f fd) (B : Bn mg) (GA : FnOk P w K mg base CX0 (k + 2) fA fdA ["_law_box", "_law_some"] spAny) (kA : PySem.W.keepIn K (.ref fA) = true) (bA : Binds K fdA ["_law_box", "_law_some"] []) (gA : mg "_law_any" = some (.ref fA)) :
    FnOk P w K mg base CX0 (k + 3) f fd ["_law_box", "_law_many"] spLet := by
  refine F.ok scLetters (fun vs H Q E h => ?_) (fun cdv A outer s H vs Q E hr h => ?_)
  · obtain ⟨b, m, n, rfl, _⟩ := h
    rfl
  · obtain ⟨b, m, n, rfl, hB, h1, h3, q⟩ := h
    refine ⟨_, pss_cons (ps_set (i := 2) scLetters.nd rfl (.inr rfl) pe_str)
      (pss_cons (ps_for PassesOwn.never rfl (pi_range1 (by rfl) B.range (pa_cons (pv 1) pa_nil)) (pg_name (i := 3) scLetters.nd rfl (Or.inl rfl))
        (pss_cons (ps_setLc (i := 4) (own := [("_law_letter", 5)]) (g := gName 5) (tt := tTest (tOp (fun x y H Q => ∃ (c : Nat) (z : Str), x = .str ⟨#[c]⟩ ∧ y = .str z ∧ Q (.bl (!decide (c ∈ z.cps.toList))) H) (tVar 5) (tVar 2))) (te := tVar 5) rfl scLetters.nd rfl rfl (sw_true rfl rfl rfl (by decide +kernel)) (pi_str pe_str)
          (blkOk_by (N := ["_law_box", "_law_many", "_law_found", "_law_k", "_law_left", "_law_letter"]) (sc := defScope sLetters) (by decide +kernel)) (fun _ _ _ _ _ => pg_name (i := 5) scLetters.nd rfl (Or.inl rfl)) (fun _ _ _ _ _ => pts_one (pt_cmpR op_notIn_sign (pv 5) (pv 2) (by rfl)))
          (fun _ _ _ _ _ => pv 5))
        (pss_one (ps_set (i := 2) scLetters.nd rfl (.inr rfl) (pe_op op_add_str (pv 2) (pe_call GA hr (by rfl) gA kA bA .nil pass0 (pa_cons (pv 0) (pa_cons (pv 4) pa_nil))))))))
      (pss_one (ps_ret (pv 2)))), ?_⟩
    refine ⟨_, rfl, (n : Int), rfl, by omega, by omega, ?_⟩
    refine for_it (walk_range (lo := 0) (n := (n : Int).toNat)) (fun i σ H2 => ∃ (Fd : List Nat) (y3 y4 : Option V), σ = [some (.ref b), some (.int n), some (tx Fd), y3, y4, none] ∧ (Fd.length = i ∧ Fd.Nodup) ∧ (∀ c ∈ Fd, c ∈ menu) ∧ BxGo H H2 b m)
      ⟨[], none, none, ?_, ⟨rfl, List.nodup_nil⟩, (fun c hc => nomatch hc), .refl hB⟩ (fun _ _ _ _ _ => trivial) ?_ ?_
    · show [some (V.ref b), some (.int n), some (.str (Str.ofString "")), none, none, none] = _
      rw [e0S]
    · rintro i x σ H2 H2' hi ⟨Fd, y3, y4, rfl, ⟨hlen, hnd⟩, hmn, hgo⟩ ⟨rfl, rfl⟩
      refine ⟨_, rfl, fun D nD => ?_⟩
      rw [menuS]
      refine lc_pure (walk_txt menu) (σ := [some (.ref b), some (.int n), some (tx Fd), some (.int (0 + i)), y4, none]) (i := 5) id (fun v => match v with | .str z => !decide (z.cps.toList.headD 0 ∈ Fd) | _ => true) (by decide) nD (fun _ _ => trivial) ?_ ?_ ?_
      · intro x H3 Q hx _ h
        obtain ⟨c, hc, rfl⟩ := List.mem_map.mp hx
        exact ⟨_, rfl, _, rfl, c, _, rfl, rfl, _, rfl, by simpa using h⟩
      · intro x H3 Q hx _ _ h
        exact ⟨_, rfl, h H3 (Same.refl _)⟩
      · intro H3 s3 hD
        have bx3 : Bx H3 b m := hgo.1.same s3
        have hDb : D ≠ b := hgo.1.ne nD
        have eL : (((menu.map fun c => tx [c]).filter (fun v => match v with | .str z => !decide (z.cps.toList.headD 0 ∈ Fd) | _ => true)).map id) = (menu.filter (fun c => !decide (c ∈ Fd))).map one := by
          rw [List.map_id, List.filter_map]
          rfl
        rw [eL] at hD
        have hne := left_ne (F := Fd) (by rw [hlen]; omega)
        refine ⟨_, rfl, _, rfl, _, rfl, b, m, D, _, rfl, bx3, hD, hDb, (by simpa using hne), ?_, fun x H4 hx hT => ?_⟩
        · rw [List.length_map]
          have := List.length_filter_le (fun c => !decide (c ∈ Fd)) menu
          have e7 : menu.length = 7 := rfl
          omega
        · obtain ⟨c, hc, rfl⟩ := List.mem_map.mp hx
          have hcm : c ∈ menu := (List.mem_filter.mp hc).1
          refine ⟨_, _, rfl, rfl, ?_, Fd ++ [c], some (.int (0 + i)), some (.ref D), ?_, ?_, ?_, ?_⟩
          · rw [tx_len, tx_len]
            exact Nat.le_of_lt (small1000 (by simp; omega))
          · rw [SX.S_cat]
            rfl
          · refine ⟨by rw [List.length_append, hlen]; rfl, ?_⟩
            rw [List.nodup_append]
            refine ⟨hnd, List.nodup_cons.mpr ⟨by simp, List.nodup_nil⟩, fun a ha b hb e => ?_⟩
            have eb : b = c := by simpa using hb
            have hcF := (List.mem_filter.mp hc).2
            rw [e, eb] at ha
            simp [ha] at hcF
          · intro d hd
            rcases List.mem_append.mp hd with z | z
            · exact hmn d z
            · have e : d = c := by simpa using z
              rw [e]
              exact hcm
          · exact (hgo.trans (.of hgo.1 s3)).trans hT.go
    · rintro σ H2 ⟨Fd, y3, y4, rfl, ⟨hlen, hnd⟩, hmn, hgo⟩
      refine ⟨_, rfl, q Fd H2 ⟨?_, hnd⟩ hmn hgo⟩
      rw [hlen]
      omega
/-! _law_some_word -/
def spSome : Sp := fun vs H Q _ => ∃ (b m : Addr) (L : List Nat) (most : Nat), vs = [.ref b, tx L, .int most] ∧ Bx H b m ∧ Lt L ∧ L ≠ [] ∧ most ≤ 100 ∧ ∀ wd H', wd.length ≤ most → (∀ c ∈ wd, c ∈ sg L) → BxGo H H' b m → Q (tx wd) H'
theorem ok_some {f fA fD fS : Addr} {fd fdA fdD fdS : FuncData} {k : Nat} (F : Fun K "_law_some_word" "_law_some_word" sSome f fd) (B : Bn mg) (GA : FnOk P w K mg base CX0 (k + 2) fA fdA ["_law_box", "_law_some"] spAny) (kA : PySem.W.keepIn K (.ref fA) = true) (bA : Binds K fdA ["_law_box", "_law_some"] []) (gA : mg "_law_any" = some (.ref fA))
    (GD : FnOk P w K mg base CX0 (k + 1) fD fdD ["_law_box", "_law_many"] spDraw) (kD : PySem.W.keepIn K (.ref fD) = true) (bD : Binds K fdD ["_law_box", "_law_many"] []) (gD : mg "_law_draw" = some (.ref fD))
    (GS : FnOk P w K mg base CX0 (k + 1) fS fdS ["_law_letters_here"] spSigns) (kS : PySem.W.keepIn K (.ref fS) = true) (bS : Binds K fdS ["_law_letters_here"] []) (gS : mg "_law_signs" = some (.ref fS)) :
    FnOk P w K mg base CX0 (k + 3) f fd ["_law_box", "_law_letters_here", "_law_most"] spSome := by
  refine F.ok scSome (fun vs H Q E h => ?_) (fun cdv A outer s H vs Q E hr h => ?_)
  · obtain ⟨b, m, L, n, rfl, _⟩ := h
    rfl
  · obtain ⟨b, m, L, n, rfl, hB, hL, hne, hn, q⟩ := h
    have hr1 : Room (k + 1) (A.deeper (envOfC "_law_some_word" (defScope sSome) s.heap.objs.size f cdv)) := hr.mono (by omega)
    refine ⟨_, pss_cons (ps_set (i := 3) scSome.nd rfl (.inr rfl) (pe_call GS hr1 (by rfl) gS kS bS .nil pass0 (pa_cons (pv 1) pa_nil)))
      (pss_one (ps_ret (pe_join pe_str (pe_lc (own := [("_law_k", 4)]) (g := gName 4) (tt := tYes)
        (te := tCall spAny [] E0 (tCons (tVar 0) (tCons (tCB (fun xs H Q => ∃ l : List Nat, xs = [tx l] ∧ l.length ≤ 1000 ∧ ∀ p, H p = none → Q (.ref p) (upd H p (.lst (l.map one)))) (tCons (tVar 3) tNil)) tNil)))
        rfl scSome.nd (pi_range1 (by rfl) B.range (pa_cons (pe_call GD hr1 (by rfl) gD kD bD .nil pass0 (pa_cons (pv 0) (pa_cons (pe_op op_add (pv 2) pe_int) pa_nil))) pa_nil))
        (blkOk_by (N := ["_law_box", "_law_letters_here", "_law_most", "_law_signs_here", "_law_k"]) (sc := defScope sSome) (by decide +kernel)) (fun _ _ _ _ _ => pg_name (i := 4) scSome.nd rfl (Or.inl rfl)) (fun _ _ _ _ _ => pts_nil)
        (fun _ _ _ _ _ => pe_call GA hr (by rfl) gA kA bA .nil pass0 (pa_cons (pv 0) (pa_cons (pe_callTy (c_listS rfl) (by rfl) B.list boot_list (pa_cons (pv 3) pa_nil)) pa_nil))))))), ?_⟩
    refine ⟨_, rfl, L, rfl, hL, fun H1 s1 => ?_⟩
    refine ⟨⟨_, rfl⟩, _, rfl, _, rfl, _, _, rfl, rfl, b, m, _, rfl, hB.same s1, by omega, by omega, fun d H2 d0 d1 hT => ?_⟩
    refine ⟨d, rfl, by omega, by omega, fun D nD => ?_⟩
    have hDb : D ≠ b := hT.1.ne nD
    have hDm : D ≠ m := hT.1.neM nD
    have hgo : BxGo H H2 b m := (BxGo.of hB s1).trans hT.go
    have hn1 : H1 D = none := by rw [← hT.2 D hDb]; exact nD
    have hn0 : H D = none := s1.free hn1
    have hsl : (sg L).length ≤ 1000 := by rw [sg_len]; have := hL.1; omega
    refine lc_it (walk_range (lo := 0) (n := d.toNat)) (fun i H3 => ∃ wd : List Nat, wd.length = i ∧ (∀ c ∈ wd, c ∈ sg L) ∧ Bx H3 b m ∧ (∀ x o, x ≠ b → H x = some o → H3 x = some o) ∧ H3 D = some (.lst (wd.map one)))
      ⟨[], rfl, (fun c hc => nomatch hc), hgo.1.same (same_new nD), fun x o hx e => same_new nD _ _ (hgo.2 x o hx e), upd_same⟩ (fun _ _ _ _ => trivial) ?_ ?_
    · rintro i x H3 H3' hi ⟨wd, hl, hw, bx, kp, hD⟩ ⟨rfl, rfl⟩
      refine ⟨rfl, ?_⟩
      dsimp only [tYes]
      rw [if_pos rfl]
      refine ⟨_, rfl, _, rfl, sg L, rfl, hsl, fun p np => ?_⟩
      have sp : Same H3' (upd H3' p (.lst ((sg L).map one))) := same_new np
      refine ⟨b, m, p, _, rfl, bx.same sp, upd_same, bx.ne np, ?_, ?_, fun x H4 hx hT4 => ?_⟩
      · intro e
        have e2 := congrArg List.length e
        rw [List.length_map, sg_len] at e2
        have e3 : 0 < L.length := List.length_pos_iff.mpr hne
        have e4 : ([] : List V).length = 0 := rfl
        omega
      · rw [List.length_map]
        omega
      · obtain ⟨c, hc, rfl⟩ := List.mem_map.mp hx
        have hD4 : H4 D = some (.lst (wd.map one)) := (hT4.2 D hDb).trans (sp _ _ hD)
        have nDb : b ≠ D := fun e => hDb e.symm
        refine ⟨_, hD4, ?_, wd ++ [c], ?_, ?_, ?_, ?_, ?_⟩
        · rw [List.length_map, hl]
          exact small1000 (by omega)
        · rw [List.length_append, hl]
          rfl
        · intro e he
          rcases List.mem_append.mp he with z | z
          · exact hw e z
          · have z2 : e = c := by simpa using z
            rw [z2]
            exact hc
        · exact hT4.1.upd hDb hDm
        · intro x o hx e
          rw [upd_ne (ne_of_none e hn0)]
          rw [hT4.2 x hx]
          exact sp _ _ (kp x o hx e)
        · rw [upd_same, List.map_append]
          rfl
    · rintro H3 ⟨wd, hl, hw, bx, kp, hD⟩
      refine join_signs (X := (cxOf CX0 P w K mg base ["_law_box", "_law_letters_here", "_law_most", "_law_signs_here", "_law_k"] "_law_some_word" (defScope sSome) f cdv A outer s H E).nox) (l := wd) (by omega) hD (q wd H3 (by omega) hw ⟨bx, kp⟩)
end
end K1
set_option maxRecDepth 100000
set_option maxHeartbeats 2000000
namespace K1
open PySem PySem.Spec PyProof.Rows L2
def Flat (x : V) : Prop := (∃ i, x = .int i) ∨ (∃ z, x = .str z) ∨ (∃ b, x = .bl b)
/-- two values that bear the same data, at most n deep -/
def Eqd : Nat → Hp → V → V → Prop
  | 0, _, x, y => x = y ∧ Flat x
  | n + 1, H, x, y => (x = y ∧ Flat x) ∨ ∃ (p q : Addr) (xs ys : List V), x = .ref p ∧ y = .ref q ∧ xs.length = ys.length ∧ xs.length ≤ 1000 ∧
      ((H p = some (.lst xs) ∧ H q = some (.lst ys)) ∨ (H p = some (.tup xs) ∧ H q = some (.tup ys))) ∧ ∀ (i : Nat) (u v : V), xs[i]? = some u → ys[i]? = some v → Eqd n H u v
theorem Eqd.same {H H' : Hp} (s : Same H H') : ∀ {n : Nat} {x y : V}, Eqd n H x y → Eqd n H' x y := by
  intro n
  induction n with
  | zero => exact fun h => h
  | succ n ih =>
    rintro x y (h | ⟨p, q, xs, ys, e1, e2, e3, e4, e5, e6⟩)
    · exact .inl h
    · refine .inr ⟨p, q, xs, ys, e1, e2, e3, e4, ?_, fun i u v h1 h2 => ih (e6 i u v h1 h2)⟩
      rcases e5 with ⟨a, b⟩ | ⟨a, b⟩
      · exact .inl ⟨s _ _ a, s _ _ b⟩
      · exact .inr ⟨s _ _ a, s _ _ b⟩
theorem Eqd.flat {H : Hp} {x : V} {n : Nat} (h : Flat x) : Eqd n H x x := by
  cases n with
  | zero => exact ⟨rfl, h⟩
  | succ n => exact .inl ⟨rfl, h⟩
section
variable {P : Program} {w : World} {K : PySem.W.Frag} {mg : Str → Option Value} {base : Heap}
def spSame (n : Nat) : Sp := fun vs H Q _ => ∃ x y : V, vs = [x, y] ∧ Eqd n H x y ∧ ∀ H', Same H H' → Q (.bl true) H'
abbrev N3 : List Str := ["_law_found", "_law_due", "_law_k"]
theorem same_flat {f : Addr} {k : Nat} (B : Bn mg) {cdv : Value} {A : Around} {outer : List Env} {s : Shared} {H : Hp} {Q : VK} {E : XK} :
    ∃ t2, PSs (cxOf CX0 P w K mg base N3 "_law_same" (defScope sSame) f cdv A outer s H E).nox ((defBody sSame).drop 1) t2 ∧
      ∀ (x : V) (H' : Hp), Flat x → Q (.bl true) H' → t2 { nx := fun _ H' => Q .non H', rt := Q } [some x, some x, none] H' := by
  refine ⟨_, pss_cons (ps_if (PW.pt (pw_or (pt_cmpR op_isN (pv 1) pe_non (nomark _)) (pw_or1 (pt_cmpR op_isN (pv 0) pe_non (nomark _))))) pss_never pss_nil)
    (pss_cons (ps_if (PW.pt (pw_or
        (pt_cmpR op_ne (pe_callB call_isi (by rfl) B.isinst boot_isinstance (pa_cons (pv 1) (pa_cons (pe_bltn (v := .ty "bool") (by rfl) B.bool PyProof.Rows.boot_bool rfl) pa_nil))) (pe_callB call_isi (by rfl) B.isinst boot_isinstance (pa_cons (pv 0) (pa_cons (pe_bltn (v := .ty "bool") (by rfl) B.bool PyProof.Rows.boot_bool rfl) pa_nil))) (nomark _))
        (pw_or1 (pt_cmpR op_ne (pe_callB call_isi (by rfl) B.isinst boot_isinstance (pa_cons (pv 1) (pa_cons (pe_bltn (v := .ty "int") (by rfl) B.int PyProof.Rows.boot_int rfl) pa_nil))) (pe_callB call_isi (by rfl) B.isinst boot_isinstance (pa_cons (pv 0) (pa_cons (pe_bltn (v := .ty "int") (by rfl) B.int PyProof.Rows.boot_int rfl) pa_nil))) (nomark _))))) pss_never pss_nil)
    (pss_one (ps_ret (pe_and (pe_cmpR op_eq (pe_callB call_isi (by rfl) B.isinst boot_isinstance (pa_cons (pv 1) (pa_cons (pe_bltn (v := .ty "str") (by rfl) B.str PyProof.Rows.boot_str rfl) pa_nil))) (pe_callB call_isi (by rfl) B.isinst boot_isinstance (pa_cons (pv 0) (pa_cons (pe_bltn (v := .ty "str") (by rfl) B.str PyProof.Rows.boot_str rfl) pa_nil))) (nomark _))
      (pe_one (pe_cmpR op_eq (pv 0) (pv 1) (nomark _))))))), fun x H' hx q => ?_⟩
  rcases hx with ⟨i, rfl⟩ | ⟨z, rfl⟩ | ⟨b, rfl⟩
  · refine ⟨_, rfl, rfl, false, rfl, iteF ⟨_, rfl, rfl, false, rfl, iteF ?_⟩⟩
    refine ⟨_, rfl, _, _, _, _, false, rfl, .ty _, .base (.int i), kit_ty (by decide +kernel), _, rfl, _, _, _, _, false, rfl, .ty _, .base (.int i), kit_ty (by decide +kernel), rfl, false, rfl, iteF ?_⟩
    refine ⟨_, rfl, _, _, _, _, true, rfl, .ty _, .base (.int i), kit_ty (by decide +kernel), _, rfl, _, _, _, _, true, rfl, .ty _, .base (.int i), kit_ty (by decide +kernel), rfl, false, rfl, iteF ?_⟩
    refine ⟨_, rfl, _, _, _, _, false, rfl, .ty _, .base (.int i), kit_ty (by decide +kernel), _, rfl, _, _, _, _, false, rfl, .ty _, .base (.int i), kit_ty (by decide +kernel), rfl, true, rfl, iteT ?_⟩
    refine ⟨_, rfl, _, rfl, rfl, ?_⟩
    rw [decide_eq_true rfl]
    exact q
  · refine ⟨_, rfl, rfl, false, rfl, iteF ⟨_, rfl, rfl, false, rfl, iteF ?_⟩⟩
    refine ⟨_, rfl, _, _, _, _, false, rfl, .ty _, .base (.str z), kit_ty (by decide +kernel), _, rfl, _, _, _, _, false, rfl, .ty _, .base (.str z), kit_ty (by decide +kernel), rfl, false, rfl, iteF ?_⟩
    refine ⟨_, rfl, _, _, _, _, false, rfl, .ty _, .base (.str z), kit_ty (by decide +kernel), _, rfl, _, _, _, _, false, rfl, .ty _, .base (.str z), kit_ty (by decide +kernel), rfl, false, rfl, iteF ?_⟩
    refine ⟨_, rfl, _, _, _, _, true, rfl, .ty _, .base (.str z), kit_ty (by decide +kernel), _, rfl, _, _, _, _, true, rfl, .ty _, .base (.str z), kit_ty (by decide +kernel), rfl, true, rfl, iteT ?_⟩
    refine ⟨_, rfl, _, rfl, rfl, ?_⟩
    rw [decide_eq_true rfl]
    exact q
  · refine ⟨_, rfl, rfl, false, rfl, iteF ⟨_, rfl, rfl, false, rfl, iteF ?_⟩⟩
    refine ⟨_, rfl, _, _, _, _, true, rfl, .ty _, .base (.bl b), kit_ty (by decide +kernel), _, rfl, _, _, _, _, true, rfl, .ty _, .base (.bl b), kit_ty (by decide +kernel), rfl, false, rfl, iteF ?_⟩
    refine ⟨_, rfl, _, _, _, _, true, rfl, .ty _, .base (.bl b), kit_ty (by decide +kernel), _, rfl, _, _, _, _, true, rfl, .ty _, .base (.bl b), kit_ty (by decide +kernel), rfl, false, rfl, iteF ?_⟩
    refine ⟨_, rfl, _, _, _, _, false, rfl, .ty _, .base (.bl b), kit_ty (by decide +kernel), _, rfl, _, _, _, _, false, rfl, .ty _, .base (.bl b), kit_ty (by decide +kernel), rfl, true, rfl, iteT ?_⟩
    refine ⟨_, rfl, _, rfl, rfl, ?_⟩
    rw [decide_eq_true rfl]
    exact q
theorem ty2 {t : Value} {b1 b2 b : Bool} (h1 : PySem.W.kitOne K t (.type "list") = some b1) (h2 : PySem.W.kitOne K t (.type "tuple") = some b2) (hb : b = (b1 || b2)) : PySem.W.kitAny K t [.type "list", .type "tuple"] = some b := by
  subst hb
  refine kitAny_cons h1 (fun e => ?_) (fun e => by rw [e]; rfl)
  subst e
  show PySem.W.kitAny K t [.type "tuple"] = some b2
  exact kitAny_cons h2 (fun e2 => by rw [e2]; rfl) (fun e2 => e2)
theorem ok_same {f : Addr} {fd : FuncData} (F : Fun K "_law_same" "_law_same" sSame f fd) (B : Bn mg) (b0 : Binds K fd ["_law_found", "_law_due"] []) (g0 : mg "_law_same" = some (.ref f)) :
    ∀ n : Nat, FnOk P w K mg base CX0 (n + 1) f fd ["_law_found", "_law_due"] (spSame n) := by
  intro n
  induction n with
  | zero =>
    refine F.ok scSame (fun vs H Q E h => ?_) (fun cdv A outer s H vs Q E hr h => ?_)
    · obtain ⟨x, y, rfl, _⟩ := h
      rfl
    · obtain ⟨x, y, rfl, ⟨rfl, hx⟩, q⟩ := h
      obtain ⟨t2, P2, R2⟩ := same_flat (P := P) (w := w) (K := K) (base := base) (f := f) (k := 0) B (cdv := cdv) (A := A) (outer := outer) (s := s) (H := H) (Q := Q) (E := E)
      refine ⟨_, pss_cons (ps_if (pt_val (pe_callB call_isiT (by rfl) B.isinst boot_isinstance (pa_cons (pv 1) (pa_cons (pe_tup (pa_cons (pe_bltn (v := .ty "list") (by rfl) B.list PyProof.Rows.boot_list rfl) (pa_cons (pe_bltn (v := .ty "tuple") (by rfl) B.tuple PyProof.Rows.boot_tuple rfl) pa_nil))) pa_nil)))) pss_never pss_nil) P2, ?_⟩
      refine ⟨_, rfl, (by show 2 ≤ sizeLine; decide), fun T nT => ?_⟩
      have cl : Paired ClsV [V.ty "list", V.ty "tuple"] [.type "list", .type "tuple"] := .cons (.ty _) (.cons (.ty _) .nil)
      have fin := R2 x (upd H T (.tup [.ty "list", .ty "tuple"])) hx (q _ (same_new nT))
      rcases hx with ⟨i, rfl⟩ | ⟨z, rfl⟩ | ⟨b, rfl⟩
      · exact ⟨_, T, _, _, _, false, rfl, upd_same, cl, .base (.int i), ty2 (kit_ty (r := false) (by decide +kernel)) (kit_ty (r := false) (by decide +kernel)) rfl, _, rfl, iteF fin⟩
      · exact ⟨_, T, _, _, _, false, rfl, upd_same, cl, .base (.str z), ty2 (kit_ty (r := false) (by decide +kernel)) (kit_ty (r := false) (by decide +kernel)) rfl, _, rfl, iteF fin⟩
      · exact ⟨_, T, _, _, _, false, rfl, upd_same, cl, .base (.bl b), ty2 (kit_ty (r := false) (by decide +kernel)) (kit_ty (r := false) (by decide +kernel)) rfl, _, rfl, iteF fin⟩
  | succ n ih =>
    refine F.ok scSame (fun vs H Q E h => ?_) (fun cdv A outer s H vs Q E hr h => ?_)
    · obtain ⟨x, y, rfl, _⟩ := h
      rfl
    · obtain ⟨x, y, rfl, hE, q⟩ := h
      obtain ⟨t2, P2, R2⟩ := same_flat (P := P) (w := w) (K := K) (base := base) (f := f) (k := 0) B (cdv := cdv) (A := A) (outer := outer) (s := s) (H := H) (Q := Q) (E := E)
      refine ⟨_, pss_cons (ps_if (pt_val (pe_callB call_isiT (by rfl) B.isinst boot_isinstance (pa_cons (pv 1) (pa_cons (pe_tup (pa_cons (pe_bltn (v := .ty "list") (by rfl) B.list PyProof.Rows.boot_list rfl) (pa_cons (pe_bltn (v := .ty "tuple") (by rfl) B.tuple PyProof.Rows.boot_tuple rfl) pa_nil))) pa_nil))))
        (pss_cons (ps_if (PW.pt (pw_or
          (pt_cmpR op_ne (pe_callB call_isi (by rfl) B.isinst boot_isinstance (pa_cons (pv 0) (pa_cons (pe_bltn (v := .ty "list") (by rfl) B.list PyProof.Rows.boot_list rfl) pa_nil))) (pe_callB call_isi (by rfl) B.isinst boot_isinstance (pa_cons (pv 1) (pa_cons (pe_bltn (v := .ty "list") (by rfl) B.list PyProof.Rows.boot_list rfl) pa_nil))) (nomark _))
          (pw_or1 (pt_cmpR op_ne (pe_callB call_isi (by rfl) B.isinst boot_isinstance (pa_cons (pv 0) (pa_cons (pe_bltn (v := .ty "tuple") (by rfl) B.tuple PyProof.Rows.boot_tuple rfl) pa_nil))) (pe_callB call_isi (by rfl) B.isinst boot_isinstance (pa_cons (pv 1) (pa_cons (pe_bltn (v := .ty "tuple") (by rfl) B.tuple PyProof.Rows.boot_tuple rfl) pa_nil))) (nomark _))))) pss_never pss_nil)
        (pss_one (ps_ret (pe_and (pe_cmpR op_eq (pe_callB call_len_seq (by rfl) B.len PySem.boot_len (pa_cons (pv 0) pa_nil)) (pe_callB call_len_seq (by rfl) B.len PySem.boot_len (pa_cons (pv 1) pa_nil)) (nomark _))
          (pe_one (pe_callB (cr_all rfl) (by rfl) B.all boot_all (pa_cons (pe_lc (own := [("_law_k", 2)]) (g := gName 2) (tt := tYes)
            (te := tCall (spSame n) [] E0 (tCons (tOp (rIx K) (tVar 0) (tVar 2)) (tCons (tOp (rIx K) (tVar 1) (tVar 2)) tNil)))
            rfl scSame.nd (pi_range1 (by rfl) B.range (pa_cons (pe_callB call_len_seq (by rfl) B.len PySem.boot_len (pa_cons (pv 1) pa_nil)) pa_nil))
            (blkOk_by (N := N3) (sc := defScope sSame) (by decide +kernel)) (fun _ _ _ _ _ => pg_name (i := 2) scSame.nd rfl (Or.inl rfl)) (fun _ _ _ _ _ => pts_nil)
            (fun _ _ _ _ _ => pe_call ih hr (by rfl) g0 F.kp b0 .nil pass0 (pa_cons (pe_ix ix_seq (pv 0) (pv 2) (fun _ _ => rfl)) (pa_cons (pe_ix ix_seq (pv 1) (pv 2) (fun _ _ => rfl)) pa_nil)))) pa_nil))))))) pss_nil) P2, ?_⟩
      refine ⟨_, rfl, (by show 2 ≤ sizeLine; decide), fun T nT => ?_⟩
      have cl : Paired ClsV [V.ty "list", V.ty "tuple"] [.type "list", .type "tuple"] := .cons (.ty _) (.cons (.ty _) .nil)
      have sT : Same H (upd H T (.tup [.ty "list", .ty "tuple"])) := same_new nT
      rcases hE with ⟨rfl, hx⟩ | ⟨p, p2, xs, ys, rfl, rfl, hl, hl2, hp, hi⟩
      · have fin := R2 x (upd H T (.tup [.ty "list", .ty "tuple"])) hx (q _ sT)
        rcases hx with ⟨i, rfl⟩ | ⟨z, rfl⟩ | ⟨b, rfl⟩
        · exact ⟨_, T, _, _, _, false, rfl, upd_same, cl, .base (.int i), ty2 (kit_ty (r := false) (by decide +kernel)) (kit_ty (r := false) (by decide +kernel)) rfl, _, rfl, iteF fin⟩
        · exact ⟨_, T, _, _, _, false, rfl, upd_same, cl, .base (.str z), ty2 (kit_ty (r := false) (by decide +kernel)) (kit_ty (r := false) (by decide +kernel)) rfl, _, rfl, iteF fin⟩
        · exact ⟨_, T, _, _, _, false, rfl, upd_same, cl, .base (.bl b), ty2 (kit_ty (r := false) (by decide +kernel)) (kit_ty (r := false) (by decide +kernel)) rfl, _, rfl, iteF fin⟩
      · have hlen : (xs.length : Int) = (ys.length : Int) := by rw [hl]
        -- the list part, for lists and for tuples
        have key : ∀ H1, Same H H1 → (SqL K H1 p xs ∨ SqT K H1 p xs) → (SqL K H1 p2 ys ∨ SqT K H1 p2 ys) → (∀ H2, Same H1 H2 → (SqL K H2 p xs ∧ SqL K H2 p2 ys) ∨ (SqT K H2 p xs ∧ SqT K H2 p2 ys)) →
            tRet (tAndV (tOp rEq (tCB (fun xs H Q => ∃ p ys, xs = [.ref p] ∧ (SqL K H p ys ∨ SqT K H p ys) ∧ Q (.int ys.length) H) (tCons (tVar 0) tNil)) (tCB (fun xs H Q => ∃ p ys, xs = [.ref p] ∧ (SqL K H p ys ∨ SqT K H p ys) ∧ Q (.int ys.length) H) (tCons (tVar 1) tNil)))
              (tCB (rAll K) (tCons (tLc (iRng1 (tCons (tCB (fun xs H Q => ∃ p ys, xs = [.ref p] ∧ (SqL K H p ys ∨ SqT K H p ys) ∧ Q (.int ys.length) H) (tCons (tVar 1) tNil)) tNil)) (gName 2) tYes
                (tCall (spSame n) [] E0 (tCons (tOp (rIx K) (tVar 0) (tVar 2)) (tCons (tOp (rIx K) (tVar 1) (tVar 2)) tNil))) [2]) tNil))) { nx := fun _ H' => Q .non H', rt := Q } [some (.ref p), some (.ref p2), none] H1 := by
          intro H1 s1 hp1 hp2 hall
          refine ⟨_, rfl, p, xs, rfl, hp1, _, rfl, p2, ys, rfl, hp2, rfl, true, ?_, iteT ?_⟩
          · rw [hlen]
            exact congrArg V.bl (decide_eq_true rfl)
          · refine ⟨_, rfl, p2, ys, rfl, hp2, _, rfl, by omega, by omega, fun D nD => ?_⟩
            rw [show ((ys.length : Int)).toNat = ys.length by omega]
            refine lc_it (walk_range (lo := 0) (n := ys.length)) (fun i H2 => Same H1 H2 ∧ H2 D = some (.lst ((List.replicate i true).map V.bl))) ⟨same_new nD, upd_same⟩ (fun _ _ _ _ => trivial) ?_ ?_
            · rintro i x H2 H2' hi2 ⟨s2, hD⟩ ⟨rfl, rfl⟩
              refine ⟨rfl, ?_⟩
              dsimp only [tYes]
              rw [if_pos rfl]
              have hx : i < xs.length := by omega
              have gx : xs[i]? = some xs[i] := List.getElem?_eq_getElem hx
              have gy : ys[i]? = some ys[i] := List.getElem?_eq_getElem hi2
              have ei : (0 : Int) + (i : Int) = ((i : Nat) : Int) := by omega
              have ax : atI xs (0 + (i : Int)) = some xs[i] := by rw [ei]; exact atI_nat gx
              have ay : atI ys (0 + (i : Int)) = some ys[i] := by rw [ei]; exact atI_nat gy
              have eq := (hi i _ _ gx gy).same (s1.trans s2)
              have fin : ∀ H3, Same H2' H3 → ∃ acc, H3 D = some (.lst acc) ∧ acc.length < sizeLine ∧ (Same H1 (upd H3 D (.lst (acc ++ [.bl true]))) ∧ upd H3 D (.lst (acc ++ [.bl true])) D = some (.lst ((List.replicate (i + 1) true).map V.bl))) := by
                intro H3 s3
                refine ⟨_, s3 _ _ hD, ?_, ?_, ?_⟩
                · rw [List.length_map, List.length_replicate]
                  exact small1000 (by omega)
                · intro b o e
                  rw [upd_ne (ne_of_none e nD)]
                  exact s3 _ _ (s2 _ _ e)
                · rw [upd_same, List.replicate_succ', List.map_append]
                  rfl
              rcases hall H2' s2 with ⟨z1, z2⟩ | ⟨z1, z2⟩
              · exact ⟨_, rfl, _, rfl, .inl ⟨p, xs, _, _, rfl, rfl, z1, ax, _, rfl, _, rfl, .inl ⟨p2, ys, _, _, rfl, rfl, z2, ay, _, _, rfl, eq, fin⟩⟩⟩
              · exact ⟨_, rfl, _, rfl, .inr (.inl ⟨p, xs, _, _, rfl, rfl, z1, ax, _, rfl, _, rfl, .inr (.inl ⟨p2, ys, _, _, rfl, rfl, z2, ay, _, _, rfl, eq, fin⟩)⟩)⟩
            · rintro H2 ⟨s2, hD⟩
              refine ⟨D, List.replicate ys.length true, rfl, SqL.of hD, ?_⟩
              have e : (List.replicate ys.length true).all id = true := by
                rw [List.all_eq_true]
                intro b hb
                exact List.eq_of_mem_replicate hb
              rw [e]
              exact q H2 (s1.trans s2)
        rcases hp with ⟨h1, h2⟩ | ⟨h1, h2⟩
        · refine ⟨_, T, _, _, _, true, rfl, upd_same, cl, .base (.lst (sT _ _ h2)), ty2 (kit_ty (r := true) (by decide +kernel)) (kit_ty (r := false) (by decide +kernel)) rfl, _, rfl, iteT ?_⟩
          refine ⟨_, rfl, _, _, _, _, true, rfl, .ty _, .base (.lst (sT _ _ h1)), kit_ty (by decide +kernel), _, rfl, _, _, _, _, true, rfl, .ty _, .base (.lst (sT _ _ h2)), kit_ty (by decide +kernel), rfl, false, rfl, iteF ?_⟩
          refine ⟨_, rfl, _, _, _, _, false, rfl, .ty _, .base (.lst (sT _ _ h1)), kit_ty (by decide +kernel), _, rfl, _, _, _, _, false, rfl, .ty _, .base (.lst (sT _ _ h2)), kit_ty (by decide +kernel), rfl, false, rfl, iteF ?_⟩
          exact key _ sT (.inl (SqL.of (sT _ _ h1))) (.inl (SqL.of (sT _ _ h2))) fun H2 s2 => .inl ⟨SqL.of (s2 _ _ (sT _ _ h1)), SqL.of (s2 _ _ (sT _ _ h2))⟩
        · refine ⟨_, T, _, _, _, true, rfl, upd_same, cl, .base (.tup (sT _ _ h2)), ty2 (kit_ty (r := false) (by decide +kernel)) (kit_ty (r := true) (by decide +kernel)) rfl, _, rfl, iteT ?_⟩
          refine ⟨_, rfl, _, _, _, _, false, rfl, .ty _, .base (.tup (sT _ _ h1)), kit_ty (by decide +kernel), _, rfl, _, _, _, _, false, rfl, .ty _, .base (.tup (sT _ _ h2)), kit_ty (by decide +kernel), rfl, false, rfl, iteF ?_⟩
          refine ⟨_, rfl, _, _, _, _, true, rfl, .ty _, .base (.tup (sT _ _ h1)), kit_ty (by decide +kernel), _, rfl, _, _, _, _, true, rfl, .ty _, .base (.tup (sT _ _ h2)), kit_ty (by decide +kernel), rfl, false, rfl, iteF ?_⟩
          exact key _ sT (.inr (SqT.of (sT _ _ h1))) (.inr (SqT.of (sT _ _ h2))) fun H2 s2 => .inr ⟨SqT.of (s2 _ _ (sT _ _ h1)), SqT.of (s2 _ _ (sT _ _ h2))⟩
end
end K1
set_option maxRecDepth 100000
set_option maxHeartbeats 2000000
namespace K1
open PySem PySem.Spec PyProof.Rows L2
def inside (st : Stmt) (i : Nat) : Stmt := match st with
  | .ClassDef _ _ _ b _ _ _ _ _ _ _ => b.getD i (.Pass ⟨0, 0, 0, 0⟩)
  | _ => .Pass ⟨0, 0, 0, 0⟩
abbrev sIni : Stmt := inside (top 3) 0
theorem scIni : FnScope ["self", "at"] ["self", "at"] (defScope sIni) := ⟨rfl, rfl, rfl, by decide +kernel, rfl, by decide +kernel, by decide +kernel⟩
abbrev tagW : V := .str (Str.ofString "InvalidWord")
/-- what the written part says of InvalidWord -/
structure IwC (K : PySem.W.Frag) (mg : Str → Option Value) (C fI : Addr) : Prop where
  ox : OexC K C
  gC : mg "InvalidWord" = some (.ref C)
  nAt : PySem.W.findIn K (.ref C) "at" = some none
  nTag : PySem.W.findIn K (.ref C) "tag" = some none
  iC : PySem.W.findIn K (.ref C) "__init__" = some (some (.ref fI))
  tI : PySem.W.typeIn K (.ref fI) = some (.type "function")
section
variable {P : Program} {w : World} {K : PySem.W.Frag} {mg : Str → Option Value} {base : Heap}
def spIni (C : Addr) : Sp := fun vs H Q _ => ∃ (a : Addr) (v : V), vs = [.ref a, v] ∧ H a = some (exo a C none) ∧
  ∀ dx, H dx = none → dx ≠ a → Q .non (upd (upd (upd H dx (exd dx [("at", v)])) a (exo a C (some dx))) dx (exd dx [("tag", tagW), ("at", v)]))
theorem ok_ini {f C : Addr} {fd : FuncData} {k : Nat} (F : Fun K "__init__" "InvalidWord.__init__" sIni f fd) (T : IwC K mg C f) : FnOk P w K mg base CX0 (k + 1) f fd ["self", "at"] (spIni C) := by
  refine F.ok scIni (fun vs H Q E h => ?_) (fun cdv A outer s H vs Q E hr h => ?_)
  · obtain ⟨a, v, rfl, _⟩ := h
    rfl
  · obtain ⟨a, v, rfl, hx, q⟩ := h
    refine ⟨_, pss_cons (ps_ost (pv 0) (pv 1)) (pss_one (ps_ost (pv 0) pe_str)), ?_⟩
    refine ⟨_, rfl, _, rfl, a, C, rfl, T.ox, T.nAt, .inl ⟨hx, fun dx nd ne => ?_⟩⟩
    refine ⟨_, rfl, a, C, rfl, T.ox, T.nTag, .inr ⟨dx, _, upd_same, ?_, (by show 1 ≤ 900; decide), q dx nd ne⟩⟩
    rw [upd_ne ne]
    exact upd_same
/-! check_words -/
def spChk (C : Addr) : Sp := fun vs H Q E => ∃ (p : Addr) (ws : List (List Nat)) (L : List Nat), vs = [.ref p, tx L] ∧ H p = some (.lst (ws.map tx)) ∧ Lt L ∧ (∀ l ∈ ws, l.length ≤ 1000) ∧
  ((∀ l ∈ ws, isW l L = true) → ∀ H', Same H H' → Q .non H') ∧
  ∀ (i : Nat) (l : List Nat), ws[i]? = some l → isW l L = false → (∀ (j : Nat) (l' : List Nat), j < i → ws[j]? = some l' → isW l' L = true) →
    ∀ (H' : Hp) (d : Addr), Same H H' → H d = none → H' d = some (.xd [("tag", tagW), ("at", .int i)]) → E (.ref C) (some d) H'
theorem ok_chk {f fW fI C : Addr} {fd fdW fdI : FuncData} {k : Nat} (F : Fun K "check_words" "check_words" sCheck f fd) (B : Bn mg) (T : IwC K mg C fI)
    (GW : FnOk P w K mg base CX0 (k + 2) fW fdW ["word", "letters"] spIsW) (kW : PySem.W.keepIn K (.ref fW) = true) (bW : Binds K fdW ["word", "letters"] []) (gW : mg "is_word" = some (.ref fW))
    (GI : FnOk P w K mg base CX0 1 fI fdI ["self", "at"] (spIni C)) (bI : Binds K fdI ["self", "at"] []) :
    FnOk P w K mg base (L2.CX P w) (k + 3) f fd ["words", "letters"] (spChk C) := by
  refine F.okX scCheck (fun vs H Q E h => ?_) (fun cdv A outer s H vs Q E hr h => ?_)
  · obtain ⟨p, ws, L, rfl, _⟩ := h
    rfl
  · obtain ⟨p, ws, L, rfl, hp, hL, hle, q, qe⟩ := h
    have hr2 : Room (1 + 1) (A.deeper (envOfC "check_words" (defScope sCheck) s.heap.objs.size f cdv)) := hr.mono (by omega)
    refine ⟨_, pss_one (ps_for (passes_of rfl) rfl (pi_enum (by rfl) B.enum (pa_cons (pv 0) pa_nil))
        (pg_tup rfl (pgs_cons (pg_name (i := 2) scCheck.nd rfl (.inl rfl)) (pgs_cons (pg_name (i := 3) scCheck.nd rfl (.inl rfl)) pgs_nil)))
        (pss_one (ps_if (pt_not (pt_val (pe_call GW hr (by rfl) gW kW bW .nil pass0 (pa_cons (pv 3) (pa_cons (pv 1) pa_nil)))))
          (pss_one (ps_raise rfl (takes_of rfl rfl rfl rfl) (pmk_oex T.ox T.iC T.tI GI hr2 bI .nil pass0 (by rfl) T.gC (pa_cons (pv 2) pa_nil))))
          pss_nil))), ?_⟩
    refine ⟨_, rfl, p, _, rfl, SqL.of hp, ?_⟩
    refine for_it (walk_enum (K := K) (a := p) (xs := ws.map tx)) (fun i σ H2 => ∃ y2 y3, σ = [some (.ref p), some (tx L), y2, y3] ∧ Same H H2 ∧ ∀ (j : Nat) (l : List Nat), j < i → ws[j]? = some l → isW l L = true)
      ⟨none, none, rfl, Same.refl _, fun j l hj => absurd hj (Nat.not_lt_zero _)⟩ (fun i σ H2 _ h => ?_) ?_ ?_
    · obtain ⟨_, _, _, sm, _⟩ := h
      exact SqL.of (sm _ _ hp)
    · rintro i x σ H2 H2' hi ⟨y2, y3, rfl, sm, hok⟩ ⟨Tp, x1, x2, rfl, nT, rfl, e1, e2⟩
      obtain rfl : V.int (i : Nat) = x1 := Option.some.inj e1
      rw [List.length_map] at hi
      have gl : ws[i]? = some ws[i] := List.getElem?_eq_getElem hi
      obtain rfl : tx ws[i] = x2 := by
        have z : (ws.map tx)[i]? = some x2 := e2
        rw [List.getElem?_map, gl] at z
        exact Option.some.inj z
      have hlw := hle _ (List.getElem_mem hi)
      generalize ws[i] = l at gl hlw
      have sT : Same H2 (upd H2 Tp (.tup [.int (i : Nat), tx l])) := same_new nT
      refine ⟨Tp, _, rfl, SqT.of upd_same, rfl, _, _, rfl, _, _, rfl, rfl, ?_⟩
      refine ⟨_, rfl, _, rfl, l, L, rfl, hlw, hL, fun H3 s3 => ⟨_, rfl, ?_⟩⟩
      have sm3 : Same H H3 := (sm.trans sT).trans s3
      cases hw : isW l L with
      | true =>
        refine iteF ⟨_, _, rfl, sm3, fun j l' hj hg => ?_⟩
        by_cases hj2 : j < i
        · exact hok j l' hj2 hg
        · have ej : j = i := by omega
          subst ej
          rw [gl] at hg
          cases hg
          exact hw
      | false =>
        refine iteT ⟨_, rfl, (by show 1 ≤ 1000; decide), fun a na => ?_⟩
        refine ⟨a, _, rfl, upd_same, fun dx nd ne => ⟨rfl, dx, _, ?_, upd_same, ?_, ?_⟩⟩
        · rw [upd_ne (Ne.symm ne), upd_same]
        · have z : upd H3 a (exo a C none) dx = none := nd
          rw [upd_ne ne] at z
          exact z
        · have nd3 : H3 dx = none := by
            have z : upd H3 a (exo a C none) dx = none := nd
            rw [upd_ne ne] at z
            exact z
          refine qe i l gl hw hok _ dx (fun b o e => ?_) (sm3.free nd3) upd_same
          have e3 := sm3 b o e
          have hb1 : b ≠ dx := ne_of_none e3 nd3
          have hb2 : b ≠ a := ne_of_none e3 na
          rw [upd_ne hb1, del_ne hb2, upd_ne hb1, upd_ne hb2, upd_ne hb1, upd_ne hb2]
          exact e3
    · rintro σ H2 ⟨y2, y3, rfl, sm, hok⟩
      refine q (fun l hl => ?_) H2 sm
      obtain ⟨j, hj⟩ := List.mem_iff_getElem?.mp hl
      refine hok j l ?_ hj
      rw [List.length_map]
      exact (List.getElem?_eq_some_iff.mp hj).1
/-! counts -/
def spCnt (C : Addr) : Sp := fun vs H Q E => ∃ (l L : List Nat), vs = [tx l, tx L] ∧ Lt L ∧ l.length ≤ 1000 ∧
  (isW l L = true → ∀ H' p, Same H H' → H p = none → H' p = some (.tup (cn l L)) → Q (.ref p) H') ∧
  (isW l L = false → ∀ (H' : Hp) (d : Addr), Same H H' → H d = none → H' d = some (.xd [("tag", tagW), ("at", .int 0)]) → E (.ref C) (some d) H')
def spCof : Sp := fun vs H Q _ => ∃ (l L : List Nat), vs = [tx l, tx L] ∧ Lt L ∧ ∀ H' p, Same H H' → H p = none → H' p = some (.tup (cn l L)) → Q (.ref p) H'
theorem ok_cof {f : Addr} {fd : FuncData} {k : Nat} (F : Fun K "counts_of" "counts_of" sCountsOf f fd) (B : Bn mg) : FnOk P w K mg base CX0 (k + 1) f fd ["word", "letters"] spCof := by
  refine F.ok scCountsOf (fun vs H Q E h => ?_) (fun cdv A outer s H vs Q E hr h => ?_)
  · obtain ⟨l, L, rfl, _⟩ := h
    rfl
  · obtain ⟨l, L, rfl, hL, q⟩ := h
    refine ⟨_, pss_one (ps_ret (pe_callTy call_tuple_of (by rfl) B.tuple boot_tuple (pa_cons (pe_lc (own := [("letter", 2)]) (g := gName 2) (tt := tYes) rfl scCountsOf.nd (pi_str (pv 1))
      (blkOk_by (N := ["word", "letters", "letter"]) (sc := defScope sCountsOf) (by decide +kernel)) (fun _ _ _ _ _ => pg_name (i := 2) scCountsOf.nd rfl (Or.inl rfl)) (fun _ _ _ _ _ => pts_nil)
      (fun _ _ _ _ _ => pe_op op_sub (pe_m1 PySem.F.slot_str_count PySem.F.type_str_count mt_count (pv 0) (pv 2)) (pe_m1 PySem.F.slot_str_count PySem.F.type_str_count mt_count (pv 0) (pe_upper (pv 2))))) pa_nil))), ?_⟩
    refine ⟨_, rfl, _, rfl, fun D nD => ?_⟩
    refine lc_pure (walk_txt L) (σ := [some (tx l), some (tx L), none]) (i := 2) (fun v => match v with | .str z => .int (Txt.count (SX.S l) z - Txt.count (SX.S l) (Txt.upper z)) | v => v) (fun _ => true) (by rw [List.length_map]; exact small1000 (by have := hL.1; omega)) nD (fun _ _ => trivial) (fun x H2 Q _ _ h => h) ?_ ?_
    · intro x H2 Q hx _ _ h
      obtain ⟨c, hc, rfl⟩ := List.mem_map.mp hx
      exact ⟨_, rfl, ⟨_, rfl⟩, _, rfl, _, _, rfl, rfl, _, rfl, ⟨_, rfl⟩, _, rfl, ⟨_, rfl⟩, _, rfl, rfl, asc1, _, _, rfl, rfl, _, _, rfl, rfl, h H2 (Same.refl _)⟩
    · intro H2 s2 hD
      refine ⟨D, _, rfl, .inl ⟨SqL.of hD, fun p2 np2 => ?_⟩⟩
      have e : ((L.map fun c => tx [c]).filter fun _ => true).map (fun v => match v with | .str z => .int (Txt.count (SX.S l) z - Txt.count (SX.S l) (Txt.upper z)) | v => v) = cn l L := by
        rw [List.filter_eq_self.mpr (by simp), List.map_map]
        refine List.map_congr_left fun c hc => ?_
        show V.int (Txt.count (SX.S l) (SX.S [c]) - Txt.count (SX.S l) (Txt.upper (SX.S [c]))) = _
        rw [upperM (hL.2 c hc)]
      rw [e]
      exact q _ p2 (s2.trans (same_new np2)) (s2.free np2) upd_same
theorem ok_cnt {f fK fO C : Addr} {fd fdK fdO : FuncData} {k : Nat} (F : Fun K "counts" "counts" sCounts f fd)
    (GK : FnOk P w K mg base (L2.CX P w) (k + 3) fK fdK ["words", "letters"] (spChk C)) (kK : PySem.W.keepIn K (.ref fK) = true) (bK : Binds K fdK ["words", "letters"] []) (gK : mg "check_words" = some (.ref fK))
    (GO : FnOk P w K mg base CX0 (k + 3) fO fdO ["word", "letters"] spCof) (kO : PySem.W.keepIn K (.ref fO) = true) (bO : Binds K fdO ["word", "letters"] []) (gO : mg "counts_of" = some (.ref fO)) :
    FnOk P w K mg base (L2.CX P w) (k + 4) f fd ["word", "letters"] (spCnt C) := by
  refine F.okX scCounts (fun vs H Q E h => ?_) (fun cdv A outer s H vs Q E hr h => ?_)
  · obtain ⟨l, L, rfl, _⟩ := h
    rfl
  · obtain ⟨l, L, rfl, hL, hl, q, qe⟩ := h
    refine ⟨_, pss_cons (ps_expr (pe_call GK hr (by rfl) gK kK bK .nil (passes_call (W := fun cls d _ H => E cls d H) (takes_of rfl rfl rfl rfl) (fun _ _ _ _ h => h)) (pa_cons (pe_lst (pa_cons (pv 0) pa_nil)) (pa_cons (pv 1) pa_nil))))
      (pss_one (ps_ret (pe_call GO hr (by rfl) gO kO bO .nil pass0 (pa_cons (pv 0) (pa_cons (pv 1) pa_nil))))), ?_⟩
    refine ⟨_, rfl, (by show 1 ≤ sizeLine; decide), fun p np => ⟨_, rfl, p, [l], L, rfl, upd_same, hL, (fun l' hl' => ?_), (fun hall H1 s1 => ?_), ?_⟩⟩
    · have e : l' = l := by simpa using hl'
      rw [e]
      exact hl
    · have s0 : Same H H1 := (same_new np).trans s1
      have hw : isW l L = true := hall l (by simp)
      exact ⟨_, rfl, _, rfl, l, L, rfl, hL, fun H2 p2 s2 np2 hp2 => q hw H2 p2 (s0.trans s2) (s0.free np2) hp2⟩
    · intro i l' hi hw _ H1 d s1 nd hd
      cases i with
      | zero =>
        obtain rfl : l = l' := Option.some.inj hi
        exact qe hw H1 d ((same_new np).trans s1) ((same_new np).free nd) hd
      | succ i => cases hi
end
end K1
set_option maxRecDepth 100000
set_option maxHeartbeats 2000000
namespace K1
open PySem PySem.Spec PyProof.Rows L2
theorem e_weak {X : Cx} {e : Expr} {t1 t2 : TE} (h : PE X e t1) (imp : ∀ σ H Q, t2 σ H Q → t1 σ H Q) : PE X e t2 := ⟨fun pins s σ H Q I hq => h.run pins s σ H Q I (imp σ H Q hq)⟩
theorem e_never {X : Cx} {e : Expr} : PE X e (fun _ _ _ => False) := ⟨fun _ _ _ _ _ _ h => h.elim⟩
theorem in_noS {H : Hp} {K : PySem.W.Frag} {xs : List V} {Q : VK} (hl : xs.length ≤ sizeLine) (hf : xs.all flatV = true) (hn : inV tagW xs = false) (q : ∀ H', Same H H' → Q (.bl false) H') : xs.length ≤ sizeLine ∧ ∀ p, H p = none → rIn K false tagW (.ref p) (upd H p (.tup xs)) Q := by
  refine ⟨hl, fun p np => ⟨p, xs, rfl, .inr (SqT.of upd_same), rfl, hf, ?_⟩⟩
  show Q (.bl (inV tagW xs)) _
  rw [hn]
  exact q _ (same_new np)
section
variable {P : Program} {w : World} {K : PySem.W.Frag} {mg : Str → Option Value} {base : Heap}
/-! _law_field of an InvalidWord -/
def spF (C a : Addr) (cls : Value) (d : Option Addr) : Sp := fun vs H Q _ => vs = [.ref a] ∧ cls = .ref C ∧ ∃ (dd : Addr) (v : V), d = some dd ∧ H dd = some (.xd [("tag", tagW), ("at", v)]) ∧ ∀ H', Same H H' → Q v H'
def spFld (C : Addr) : Addr × Obj → Sp := fun p vs H Q E => ∃ (cls : Value) (d : Option Addr), Zc cls d p.2 ∧ (∃ us, p.2.data = .fields us) ∧ spF C p.1 cls d vs H Q E
theorem ok_fld {f C fI : Addr} {fd : FuncData} {k : Nat} (F : Fun K "_law_field" "_law_field" sField f fd) (T : IwC K mg C fI) (XC : XfC K C) : Rs.FnPin P w K mg base (k + 1) f fd ["_law_e"] (spFld C) := by
  refine Rs.fn_pin F scField (fun p vs H Q E h => ?_) (fun cdv A outer s H vs Q p hr h => ?_)
  · obtain ⟨cls, d, _, _, rfl, _⟩ := h
    rfl
  · obtain ⟨a, oe⟩ := p
    obtain ⟨cls, d, hz, hf, rfl, rfl, dd, v, rfl, hd, q⟩ := h
    have hp : (a, oe) ∈ (L2H.cxH CX0 P w K mg base ["_law_e"] "_law_field" (defScope sField) f cdv A outer s H E0 (a, oe)).nox.pn := List.mem_cons_self
    refine ⟨_, pss_cons (ps_if (pt_cmpR op_in_seq (Rs.e_xf XC T.nTag hz hf hp (pv 0)) (pe_tup (pa_cons pe_str (pa_cons pe_str (pa_cons pe_str (pa_cons pe_str (pa_cons pe_str (pa_cons pe_str pa_nil))))))) (by rfl)) pss_never pss_nil)
      (pss_cons (ps_if (pt_cmpR op_in_seq (Rs.e_xf XC T.nTag hz hf hp (pv 0)) (pe_tup (pa_cons pe_str (pa_cons pe_str pa_nil))) (by rfl)) pss_never pss_nil)
      (pss_cons (ps_if (pt_cmpR op_in_seq (Rs.e_xf XC T.nTag hz hf hp (pv 0)) (pe_tup (pa_cons pe_str (pa_cons pe_str (pa_cons pe_str pa_nil)))) (by rfl)) pss_never pss_nil)
      (pss_cons (ps_if (pt_cmpR op_in_seq (Rs.e_xf XC T.nTag hz hf hp (pv 0)) (pe_tup (pa_cons pe_str (pa_cons pe_str (pa_cons pe_str pa_nil)))) (by rfl)) pss_never pss_nil)
      (pss_cons (ps_if (pt_cmpR op_in_seq (Rs.e_xf XC T.nTag hz hf hp (pv 0)) (pe_tup (pa_cons pe_str (pa_cons pe_str pa_nil))) (by rfl)) pss_never pss_nil)
      (pss_cons (ps_if (pt_cmpR op_eq (Rs.e_xf XC T.nTag hz hf hp (pv 0)) pe_str (nomark _)) pss_never pss_nil)
      (pss_one (ps_ret (pe_ifExp (pt_cmpR op_eq (Rs.e_xf XC T.nTag hz hf hp (pv 0)) pe_str (nomark _)) e_never (Rs.e_xf XC T.nAt hz hf hp (pv 0)))))))))), ?_⟩
    refine ⟨_, rfl, rfl, rfl, dd, _, _, rfl, hd, rfl, in_noS (by show 6 ≤ sizeLine; decide) rfl (by decide +kernel) fun H1 s1 => ⟨_, rfl, iteF ?_⟩⟩
    refine ⟨_, rfl, rfl, rfl, dd, _, _, rfl, s1 _ _ hd, rfl, in_noS (by show 2 ≤ sizeLine; decide) rfl (by decide +kernel) fun H2 s2 => ⟨_, rfl, iteF ?_⟩⟩
    have s2 := s1.trans s2
    refine ⟨_, rfl, rfl, rfl, dd, _, _, rfl, s2 _ _ hd, rfl, in_noS (by show 3 ≤ sizeLine; decide) rfl (by decide +kernel) fun H3 s3 => ⟨_, rfl, iteF ?_⟩⟩
    have s3 := s2.trans s3
    refine ⟨_, rfl, rfl, rfl, dd, _, _, rfl, s3 _ _ hd, rfl, in_noS (by show 3 ≤ sizeLine; decide) rfl (by decide +kernel) fun H4 s4 => ⟨_, rfl, iteF ?_⟩⟩
    have s4 := s3.trans s4
    refine ⟨_, rfl, rfl, rfl, dd, _, _, rfl, s4 _ _ hd, rfl, in_noS (by show 2 ≤ sizeLine; decide) rfl (by decide +kernel) fun H5 s5 => ⟨_, rfl, iteF ?_⟩⟩
    have s5 := s4.trans s5
    refine ⟨_, rfl, rfl, rfl, dd, _, _, rfl, s5 _ _ hd, rfl, rfl, false, congrArg V.bl (by decide +kernel), iteF ?_⟩
    refine ⟨_, rfl, rfl, rfl, dd, _, _, rfl, s5 _ _ hd, rfl, rfl, false, congrArg V.bl (by decide +kernel), iteF ?_⟩
    exact ⟨_, rfl, rfl, rfl, dd, _, _, rfl, s5 _ _ hd, rfl, q _ s5⟩
/-! _law_why: what it makes of a lambda that may raise an InvalidWord -/
def TTw (C : Addr) : (XK → Hp → VK → Prop) → Hp → VK → Prop := fun tl H Q =>
  tl (fun cls d H' => cls = .ref C ∧ ∃ (dd : Addr) (v : V), d = some dd ∧ H' dd = some (.xd [("tag", tagW), ("at", v)]) ∧ ∀ H2 T, Same H' H2 → H' T = none → H2 T = some (.tup [tagW, v]) → Q (.ref T) H2) H
    (fun v H1 => [V.str (Str.ofString ""), v].length ≤ sizeLine ∧ ∀ T, H1 T = none → Q (.ref T) (upd H1 T (.tup [.str (Str.ofString ""), v])))
abbrev NW : List Str := ["_law_ask", "_law_e"]
theorem why_gives {X : Cx} {g C fI fF C1 C2 C3 : Addr} {cdg : Value} {fdF : FuncData} {q : Str} {j : Nat} (hX : X.mg = mg ∧ X.K = K) (T : IwC X.K X.mg C fI) (XC : XfC X.K C)
    (GF : Rs.FnPin X.prog X.w X.K X.mg X.base (j + 1) fF fdF ["_law_e"] (spFld C)) (kF : PySem.W.keepIn X.K (.ref fF) = true) (bF : Binds X.K fdF ["_law_e"] []) (gF : X.mg "_law_field" = some (.ref fF))
    (m1 : X.mg "TownError" = some (.ref C1)) (m2 : X.mg "Missing" = some (.ref C2)) (m3 : X.mg "NothingLeft" = some (.ref C3)) (hx : PySem.W.exmAny X.K (.ref C) [.ref C1, .ref C2, .ref C3] = some true) (hr : Room (j + 2) X.A) :
    LamX.GivesTo X NW "_law_why" (defScope sWhy) g cdg (defBody sWhy) "_law_ask" q (TTw C) := by
  intro f c' s H Q tl act hc h
  refine ⟨_, pss_one (Rs.s_try3 (X := (cxOf C8.CX0 X.prog X.w X.K X.mg X.base NW "_law_why" (defScope sWhy) g cdg X.A X.stack s H C8.E0).nox) (i := 1) (c1 := .ref C1) (c2 := .ref C2) (c3 := .ref C3)
      (tb := fun W D σ H => ∃ Ech : XK, (∀ cls d σ' H', σ'.length = 2 → Ech cls d H' → W cls d σ' H') ∧ σ[0]? = some (some (.ref f)) ∧ H c' = some (LamX.CodeO c' q) ∧ tl Ech H (fun v H1 => [V.str (Str.ofString ""), v].length ≤ sizeLine ∧ ∀ T, H1 T = none → D.rt (.ref T) (upd H1 T (.tup [.str (Str.ofString ""), v]))))
      (ts := fun a cls d => tRet (tTup (tCons (tXf a cls d C "tag" (tVar 1)) (tCons (tCall (spF C a cls d) [] E0 (tCons (tVar 1) tNil)) tNil))))
      rfl rfl scWhy.nd rfl rfl (by rfl) m1 (by rfl) m2 (by rfl) m3 (fun W pn xe tk => ?_)
      (fun a oe cls d pn hz hf => pss_one (ps_ret (pe_tup (pa_cons (Rs.e_xf XC T.nTag hz hf List.mem_cons_self (pv 1)) (pa_cons (e_weak (Rs.e_callP (sp := spFld C) (p := (a, oe)) GF (show L2H.RoomH (j + 1) _ from ⟨(hr.deeper (envOfC "_law_why" (defScope sWhy) s.heap.objs.size g cdg)).dp, (hr.deeper (envOfC "_law_why" (defScope sWhy) s.heap.objs.size g cdg)).un⟩) List.mem_cons_self (by rfl) gF kF bF (pa_cons (pv 1) pa_nil)) ?_) pa_nil)))))), ?_⟩
  · refine ⟨fun pins s' σ H' D I h' => ?_⟩
    obtain ⟨Ech, hW, h1, h2, h3⟩ := h'
    have tk2 : Takes ((cxOf C8.CX0 X.prog X.w X.K X.mg X.base NW "_law_why" (defScope sWhy) g cdg X.A X.stack s H C8.E0).tr pn xe) (fun cls d σ H => σ.length = 2 → W cls d σ H) := by
      rintro u s2 ⟨a, B, sI, pins2, σ2, H2, cls, d, e, I2, nb, up, sky, na, os, ag, hw2⟩
      exact tk u s2 ⟨a, B, sI, pins2, σ2, H2, cls, d, e, I2, nb, up, sky, na, os, ag, hw2 I2.len⟩
    exact (pss_one (ps_ret (pe_tup (pa_cons pe_str (pa_cons (act (fun cls d σ H => σ.length = 2 → W cls d σ H) pn xe Ech _ _ tk2 (fun cls d σ' H' hE hl => hW cls d σ' H' hl hE)) pa_nil))))).run pins s' σ H' D I ⟨h1, h2, h3⟩
  · intro σ H' Q' hq
    obtain ⟨v, hv, hva, hcl, dd, v2, hdd, hH, q2⟩ := hq
    exact ⟨v, hv, _, _, hz, hf, hva, hcl, dd, v2, hdd, hH, q2⟩
  · refine ⟨_, fun cls d σ' H' hlen hE => ?_, rfl, hc, h⟩
    obtain ⟨rfl, dd, v, rfl, hd, q2⟩ := hE
    refine ⟨hx, fun a na => ?_⟩
    refine ⟨_, ?_, rfl, rfl, dd, _, _, rfl, hd, rfl, _, ?_, rfl, rfl, dd, v, rfl, hd, fun H2 s2 => ⟨(by show 2 ≤ sizeLine; decide), fun T nT => q2 _ T (s2.trans (same_new nT)) (s2.free nT) upd_same⟩⟩
    · simp [hlen]
    · simp [hlen]
end
end K1
set_option maxRecDepth 100000
set_option maxHeartbeats 4000000
namespace K1
open PySem PySem.Spec PyProof.Rows L2
/-! a def that is called by its name -/
structure Cb (P : Program) (w : World) (K : PySem.W.Frag) (mg : Str → Option Value) (base : Heap) (CX : CXT) (k : Nat) (x : Str) (ps : List Str) (sp : Sp) (f : Addr) (fd : FuncData) : Prop where
  ok : FnOk P w K mg base CX k f fd ps sp
  kp : PySem.W.keepIn K (.ref f) = true
  b : Binds K fd ps []
  g : mg x = some (.ref f)
theorem passN {P : Program} {w : World} {X : Cx} (hp : X.prog = P) (hw : X.w = w) : Passes (L2.CX P w) X E0 := by
  intro pins σ H s e s' I h
  obtain ⟨_, _, _, _, _, _, _, _, _, _, _, _, hE⟩ := h
  exact hE.elim
/-! tables of code beside the box -/
theorem tabs_go {T : List (Addr × Str)} {H H' : Hp} {b m : Addr} (t : LamX.Tabs T H) (hB : Bx H b m) (g : BxGo H H' b m) : LamX.Tabs T H' := by
  intro p hp
  obtain ⟨ms, i, r, s, hb, _⟩ := hB
  obtain ⟨ps, h1, h2, h3⟩ := t p hp
  refine ⟨ps, g.2 _ _ (fun e => ?_) h1, h2, fun pos cv hc => ?_⟩
  · rw [e, hb] at h1
    cases h1
  · obtain ⟨c, e1, e2⟩ := h3 pos cv hc
    refine ⟨c, e1, g.2 _ _ (fun e => ?_) e2⟩
    rw [e, hb] at e2
    cases e2
theorem bx_ext {H H' : Hp} {b m : Addr} (x : Bx H b m) (e : LamX.ExtN H H') : Bx H' b m := by
  obtain ⟨ms, i, r, s, h1, h2, h3⟩ := x
  exact ⟨ms, i, r, s, e _ _ h1 (fun ps z => by cases z), e _ _ h2 (fun ps z => by cases z), h3⟩
/-! the words of the law -/
def oddc : List Nat := [32, 49, 107, 81, 94, 40, 126]
theorem odd_no : ∀ x ∈ oddc, ∀ c ∈ menu, x ≠ c ∧ x ≠ c - 32 := by decide
theorem odd_asc : ∀ x ∈ oddc, x < 128 := by decide
theorem sg_mem {L : List Nat} {x : Nat} (h : x ∈ sg L) : ∃ c ∈ L, x = c ∨ x = c - 32 := by
  obtain ⟨c, hc, hx⟩ := List.mem_flatMap.mp h
  exact ⟨c, hc, by simpa using hx⟩
theorem sg_asc {L : List Nat} (h : ∀ c ∈ L, c ∈ menu) {x : Nat} (hx : x ∈ sg L) : x < 128 := by
  obtain ⟨c, hc, e⟩ := sg_mem hx
  have := menu_asc c (h c hc)
  omega
theorem isW_yes {l L : List Nat} (h : ∀ c ∈ l, c ∈ sg L) : isW l L = true := by
  unfold isW
  rw [List.all_eq_true]
  exact fun c hc => decide_eq_true (h c hc)
theorem isW_no {l L : List Nat} {x : Nat} (hx : x ∈ l) (hn : x ∉ sg L) : isW l L = false := by
  unfold isW
  cases e : l.all fun c => decide (c ∈ sg L) with
  | false => rfl
  | true => exact absurd (of_decide_eq_true (List.all_eq_true.mp e x hx)) hn
theorem opp_len (l : List Nat) : (opp l).length = l.length := by
  unfold opp
  rw [List.length_map, List.length_reverse]
theorem opp_asc {l : List Nat} (h : Asc l) : Asc (opp l) := by
  intro c hc
  unfold opp at hc
  obtain ⟨d, hd, rfl⟩ := List.mem_map.mp hc
  exact sw_lt (h d (List.mem_reverse.mp hd))
theorem cut_to (l : List Nat) (n : Nat) : cutS (SX.S l) none (some (n : Int)) = SX.S (l.take n) := by
  unfold cutS
  rw [HT.sIx_none, List.drop_zero, Nat.sub_zero, HT.sIx_nat, tx_len]
  show SX.S (l.take (min n l.length)) = SX.S (l.take n)
  by_cases h : n ≤ l.length
  · rw [Nat.min_eq_left h]
  · rw [Nat.min_eq_right (by omega), List.take_length, List.take_of_length_le (by omega)]
theorem cut_from (l : List Nat) (n : Nat) : cutS (SX.S l) (some (n : Int)) none = SX.S (l.drop n) := by
  unfold cutS
  rw [HT.sIx_none, HT.sIx_nat, tx_len]
  show SX.S ((l.drop (min n l.length)).take (l.length - min n l.length)) = SX.S (l.drop n)
  by_cases h : n ≤ l.length
  · rw [Nat.min_eq_left h, List.take_of_length_le (by rw [List.length_drop]; omega)]
  · rw [Nat.min_eq_right (by omega), List.drop_length, List.drop_eq_nil_of_le (by omega)]
    simp
theorem oddL : [V.str (Str.ofString " "), V.str (Str.ofString "1"), V.str (Str.ofString "k"), V.str (Str.ofString "Q"), V.str (Str.ofString "^"), V.str (Str.ofString "("), V.str (Str.ofString "~")] = oddc.map one := by rfl
end K1
set_option maxRecDepth 100000
set_option maxHeartbeats 1000000
namespace K1
open PySem PySem.Spec PyProof.Rows L2
abbrev NL : List Str := ["_law_script", "_law_box", "_law_turn", "_law_one", "_law_found", "_law_due", "_law_at", "_law_letters_here", "_law_odd"]
def forBody : Stmt → List Stmt
  | .For _ _ b _ _ => b
  | _ => []
def lb : List Stmt := forBody ((defBody sLaw).getD 1 (.Pass ⟨0, 0, 0, 0⟩))
abbrev lbs (i : Nat) : Stmt := lb.getD i (.Pass ⟨0, 0, 0, 0⟩)
def qL : Str := (envOfC "law" (defScope sLaw) 0 0 .none).qual ++ "<lambda>"
def spLaw (K : PySem.W.Frag) (Pt : Addr) : Sp := fun vs H Q _ => ∃ (a : Addr) (ns : List Int), vs = [.ref a] ∧ SqL K H a (ns.map V.int) ∧ ns.length ≤ 63 ∧ H Pt = some (.tbl #[]) ∧ ∀ H', Q (.bl true) H'
/-- what one turn begins and ends with -/
def Iv (Pt b m a : Addr) : L2.St → Hp → Prop := fun σ H => ∃ y2 y3 y4 y5 y6 y7 y8 : Option V, σ = [some (.ref a), some (.ref b), y2, y3, y4, y5, y6, y7, y8] ∧ Bx H b m ∧ LamX.Tabs [(Pt, qL)] H
section
variable {P : Program} {w : World} {K : PySem.W.Frag} {mg : Str → Option Value} {base : Heap}
variable {f fBeg fD fA fLe fSo fOp fSh fCn fIs fGo fSt fNu fSa fWh fF C fI C1 C2 C3 c Pt : Addr} {fdBeg fdD fdA fdLe fdSo fdOp fdSh fdCn fdIs fdGo fdSt fdNu fdSa fdWh fdF : FuncData} {A : Around} {outer : List Env} {s : Shared} {H : Hp} {E : XK}
/-- the context of the law's body -/
abbrev XL (P : Program) (w : World) (K : PySem.W.Frag) (mg : Str → Option Value) (base : Heap) (f c : Addr) (A : Around) (outer : List Env) (s : Shared) (H : Hp) (E : XK) : Cx := (cxOf CX0 P w K mg base NL "law" (defScope sLaw) f (.ref c) A outer s H E).nox
theorem s9 (cCn : Cb P w K mg base (L2.CX P w) 4 "counts" ["word", "letters"] (spCnt C) fCn fdCn) (FW : Fun K "_law_why" "_law_why" sWhy fWh fdWh) (bW : Binds K fdWh ["_law_ask"] []) (gW : mg "_law_why" = some (.ref fWh))
    (T : IwC K mg C fI) (XC : XfC K C) (GF : Rs.FnPin P w K mg base 1 fF fdF ["_law_e"] (spFld C)) (kF : PySem.W.keepIn K (.ref fF) = true) (bF : Binds K fdF ["_law_e"] []) (gF : mg "_law_field" = some (.ref fF))
    (m1 : mg "TownError" = some (.ref C1)) (m2 : mg "Missing" = some (.ref C2)) (m3 : mg "NothingLeft" = some (.ref C3)) (hx : PySem.W.exmAny K (.ref C) [.ref C1, .ref C2, .ref C3] = some true) (TB : LamX.TabB base mg c Pt)
    (hr : Room 7 (A.deeper (envOfC "law" (defScope sLaw) s.heap.objs.size f (.ref c)))) :
    PS (XL P w K mg base f c A outer s H E) (lbs 8) (tIfS (tTest (tOp (rNeD K) (LamX.tLam [(Pt, qL)] (TTw C) (fun E => tCall (spCnt C) [] E (tCons (tVar 8) (tCons (tVar 7) tNil)))) (tTup (tCons (tC tagW) (tCons (tC (.int 0)) tNil))))) tNever tNext) := by
  obtain ⟨oc2, od2, kV2, doc2, pm2, an2, cdW, ct2, osl2, rfl, lkW, hcW⟩ := FW.ex
  have r2 : Room 2 (A.deeper (envOfC "law" (defScope sLaw) s.heap.objs.size f (.ref c))) := hr.mono (by decide)
  have r6 : Room (4 + 2) (A.deeper (envOfC "law" (defScope sLaw) s.heap.objs.size f (.ref c))) := hr.mono (by decide)
  have hG : ∀ cdg : Value, LamX.GivesTo (XL P w K mg base f c A outer s H E) NW "_law_why" (defScope sWhy) fWh cdg (defBody sWhy) "_law_ask" qL (TTw C) := fun cdg =>
    why_gives (mg := mg) (K := K) (j := 0) (X := XL P w K mg base f c A outer s H E) ⟨rfl, rfl⟩ T XC GF kF bF gF m1 m2 m3 hx r2
  have hu : ∀ p ∈ [(Pt, qL)], p.1 = Pt → p.2 = qL := fun p hp _ => by
    have e : p = (Pt, qL) := by simpa using hp
    rw [e]
  refine ps_if (pt_cmpR (op_neD hr.units) ?_ (pe_tup (pa_cons pe_str (pa_cons pe_int pa_nil))) (nomark _)) pss_never pss_nil
  refine LamX.pe_lamcall (X := XL P w K mg base f c A outer s H E) (T := [(Pt, qL)]) (TT := TTw C) (c := c) (P := Pt) (k := 4) (t := fun E => tCall (spCnt C) [] E (tCons (tVar 8) (tCons (tVar 7) tNil))) (by rfl) gW FW.kp lkW hcW bW scWhy rfl (.inl rfl) (hG _) TB rfl List.mem_cons_self hu r6 (LamX.lamS_by (sc := defScope sLaw) (by decide +kernel)) rfl ?_ ?_
  · intro _ _ _ _ _
    rfl
  · intro A2 outer2 s2 H2 E2 f2 c2 hr2
    exact pe_call cCn.ok hr2 (by rfl) cCn.g cCn.kp cCn.b .nil (passes_call (W := fun cls d _ H => E2 cls d H) (takes_of rfl rfl rfl rfl) (fun _ _ _ _ h => h)) (pa_cons (pv 8) (pa_cons (pv 7) pa_nil))
end
end K1
set_option maxRecDepth 100000
set_option maxHeartbeats 1000000
namespace K1
open PySem PySem.Spec PyProof.Rows L2
section
variable {P : Program} {w : World} {K : PySem.W.Frag} {mg : Str → Option Value} {base : Heap}
variable {f fBeg fD fA fLe fSo fOp fSh fCn fIs fGo fSt fNu fSa fWh fF C fI C1 C2 C3 c Pt : Addr} {fdBeg fdD fdA fdLe fdSo fdOp fdSh fdCn fdIs fdGo fdSt fdNu fdSa fdWh fdF : FuncData} {A : Around} {outer : List Env} {s : Shared} {H : Hp} {E : XK}
/-- a set of letters; a word of them -/
def Lg (L : List Nat) : Prop := (1 ≤ L.length ∧ L.Nodup) ∧ L.length ≤ 3 ∧ ∀ c ∈ L, c ∈ menu
theorem Lg.lt {L : List Nat} (h : Lg L) : Lt L := ⟨⟨by have := h.2.1; omega, h.1.2⟩, h.2.2⟩
def Wg (L l : List Nat) : Prop := l.length ≤ 30 ∧ ∀ c ∈ l, c ∈ sg L
theorem Wg.asc {L l : List Nat} (hL : Lg L) (h : Wg L l) : Asc l := fun c hc => sg_asc hL.2.2 (h.2 c hc)
def Zz (Pt b m : Addr) (H : Hp) : Prop := Bx H b m ∧ LamX.Tabs [(Pt, qL)] H
theorem Zz.same {Pt b m : Addr} {H H' : Hp} (z : Zz Pt b m H) (s : Same H H') : Zz Pt b m H' := ⟨z.1.same s, z.2.ext s⟩
theorem Zz.go {Pt b m : Addr} {H H' : Hp} (z : Zz Pt b m H) (g : BxGo H H' b m) : Zz Pt b m H' := ⟨g.1, tabs_go z.2 z.1 g⟩
theorem s1 (cD : Cb P w K mg base CX0 1 "_law_draw" ["_law_box", "_law_many"] spDraw fD fdD) (cLe : Cb P w K mg base CX0 3 "_law_letters" ["_law_box", "_law_many"] spLet fLe fdLe) (hr : Room 7 (A.deeper (envOfC "law" (defScope sLaw) s.heap.objs.size f (.ref c)))) :
    ∃ t, PS (XL P w K mg base f c A outer s H E) (lbs 0) t ∧ ∀ (b m a : Addr) (y2 y3 y4 y5 y6 y7 y8 : Option V) (D : Ends) (H0 : Hp), Zz Pt b m H0 →
      (∀ L H', Lg L → Zz Pt b m H' → D.nx [some (.ref a), some (.ref b), y2, y3, y4, y5, y6, some (tx L), y8] H') → t D [some (.ref a), some (.ref b), y2, y3, y4, y5, y6, y7, y8] H0 := by
  have r1 : Room 1 (A.deeper (envOfC "law" (defScope sLaw) s.heap.objs.size f (.ref c))) := hr.mono (by decide)
  have r3 : Room 3 (A.deeper (envOfC "law" (defScope sLaw) s.heap.objs.size f (.ref c))) := hr.mono (by decide)
  refine ⟨_, ps_set (i := 7) scLaw.nd rfl (.inr rfl) (pe_call cLe.ok r3 (by rfl) cLe.g cLe.kp cLe.b .nil pass0 (pa_cons (pv 1) (pa_cons (pe_op op_add pe_int (pe_call cD.ok r1 (by rfl) cD.g cD.kp cD.b .nil pass0 (pa_cons (pv 1) (pa_cons pe_int pa_nil)))) pa_nil))), ?_⟩
  intro b m a y2 y3 y4 y5 y6 y7 y8 D H0 z nx
  refine ⟨_, rfl, _, rfl, b, m, 3, rfl, z.1, by decide, by decide, fun d H1 d0 d1 hT1 => ⟨_, _, rfl, rfl, b, m, (1 + d).toNat, ?_, hT1.1, by omega, by omega, fun L H2 hl hm hG => ?_⟩⟩
  · rw [Int.toNat_of_nonneg (by omega)]
    rfl
  · exact nx L H2 ⟨⟨by omega, hl.2⟩, by omega, hm⟩ ((z.go hT1.go).go hG)
theorem s2 (cA : Cb P w K mg base CX0 2 "_law_any" ["_law_box", "_law_some"] spAny fA fdA) (cSo : Cb P w K mg base CX0 3 "_law_some_word" ["_law_box", "_law_letters_here", "_law_most"] spSome fSo fdSo) (hr : Room 7 (A.deeper (envOfC "law" (defScope sLaw) s.heap.objs.size f (.ref c)))) :
    ∃ t, PS (XL P w K mg base f c A outer s H E) (lbs 1) t ∧ ∀ (b m a : Addr) (y2 y3 y4 y5 y6 y8 : Option V) (L : List Nat) (D : Ends) (H0 : Hp), Zz Pt b m H0 → Lg L →
      (∀ l H', Wg L l → Zz Pt b m H' → D.nx [some (.ref a), some (.ref b), y2, some (tx l), y4, y5, y6, some (tx L), y8] H') → t D [some (.ref a), some (.ref b), y2, y3, y4, y5, y6, some (tx L), y8] H0 := by
  have r2 : Room 2 (A.deeper (envOfC "law" (defScope sLaw) s.heap.objs.size f (.ref c))) := hr.mono (by decide)
  have r3 : Room 3 (A.deeper (envOfC "law" (defScope sLaw) s.heap.objs.size f (.ref c))) := hr.mono (by decide)
  refine ⟨_, ps_set (i := 3) scLaw.nd rfl (.inl rfl) (pe_call cSo.ok r3 (by rfl) cSo.g cSo.kp cSo.b .nil pass0 (pa_cons (pv 1) (pa_cons (pv 7) (pa_cons (pe_call cA.ok r2 (by rfl) cA.g cA.kp cA.b .nil pass0 (pa_cons (pv 1) (pa_cons (pe_lst (pa_cons pe_int (pa_cons pe_int pa_nil))) pa_nil))) pa_nil)))), ?_⟩
  intro b m a y2 y3 y4 y5 y6 y8 L D H0 z hL nx
  refine ⟨_, rfl, _, rfl, _, rfl, (by show 2 ≤ sizeLine; decide), fun p np => ⟨b, m, p, _, rfl, z.1.same (same_new np), upd_same, z.1.ne np, (by simp), (by show 2 < 1000000; decide), fun x H2 hx hT => ?_⟩⟩
  obtain ⟨n, rfl, hn⟩ : ∃ n : Nat, x = V.int (n : Int) ∧ n ≤ 30 := by
    have h2 : x = .int 4 ∨ x = .int 30 := by simpa using hx
    rcases h2 with e | e
    · exact ⟨4, e, by decide⟩
    · exact ⟨30, e, by decide⟩
  refine ⟨b, m, L, n, rfl, hT.1, hL.lt, (fun e => by have := hL.1.1; rw [e] at this; cases this), by omega, fun l H3 hl hw hG => ?_⟩
  exact nx l H3 ⟨by omega, hw⟩ (((z.same (same_new np)).go hT.go).go hG)
def FdAt (H : Hp) (p : Addr) (L l : List Nat) : Prop := ∃ pt, H p = some (.lst [tx (opp l), tx (sh l), .ref pt, .bl true]) ∧ H pt = some (.tup (cn l L))
theorem FdAt.same {H H' : Hp} {p : Addr} {L l : List Nat} (h : FdAt H p L l) (s : Same H H') : FdAt H' p L l := by
  obtain ⟨pt, h1, h2⟩ := h
  exact ⟨pt, s _ _ h1, s _ _ h2⟩
theorem s3 (cOp : Cb P w K mg base CX0 1 "opposite" ["word"] spOpp fOp fdOp) (cSh : Cb P w K mg base CX0 2 "shortened" ["word"] spShd fSh fdSh) (cCn : Cb P w K mg base (L2.CX P w) 4 "counts" ["word", "letters"] (spCnt C) fCn fdCn) (cIs : Cb P w K mg base CX0 2 "is_word" ["word", "letters"] spIsW fIs fdIs) (hr : Room 7 (A.deeper (envOfC "law" (defScope sLaw) s.heap.objs.size f (.ref c)))) :
    ∃ t, PS (XL P w K mg base f c A outer s H E) (lbs 2) t ∧ ∀ (b m a : Addr) (y2 y4 y5 y6 y8 : Option V) (L l : List Nat) (D : Ends) (H0 : Hp), Zz Pt b m H0 → Lg L → Wg L l →
      (∀ p H', FdAt H' p L l → Zz Pt b m H' → D.nx [some (.ref a), some (.ref b), y2, some (tx l), some (.ref p), y5, y6, some (tx L), y8] H') → t D [some (.ref a), some (.ref b), y2, some (tx l), y4, y5, y6, some (tx L), y8] H0 := by
  have r1 : Room 1 (A.deeper (envOfC "law" (defScope sLaw) s.heap.objs.size f (.ref c))) := hr.mono (by decide)
  have r2 : Room 2 (A.deeper (envOfC "law" (defScope sLaw) s.heap.objs.size f (.ref c))) := hr.mono (by decide)
  have r4 : Room 4 (A.deeper (envOfC "law" (defScope sLaw) s.heap.objs.size f (.ref c))) := hr.mono (by decide)
  refine ⟨_, ps_set (i := 4) scLaw.nd rfl (.inl rfl) (pe_lst (pa_cons (pe_call cOp.ok r1 (by rfl) cOp.g cOp.kp cOp.b .nil pass0 (pa_cons (pv 3) pa_nil)) (pa_cons (pe_call cSh.ok r2 (by rfl) cSh.g cSh.kp cSh.b .nil pass0 (pa_cons (pv 3) pa_nil))
          (pa_cons (pe_call cCn.ok r4 (by rfl) cCn.g cCn.kp cCn.b .nil (passN rfl rfl) (pa_cons (pv 3) (pa_cons (pv 7) pa_nil))) (pa_cons (pe_call cIs.ok r2 (by rfl) cIs.g cIs.kp cIs.b .nil pass0 (pa_cons (pv 3) (pa_cons (pv 7) pa_nil))) pa_nil))))), ?_⟩
  intro b m a y2 y4 y5 y6 y8 L l D H0 z hL hW nx
  have hl : l.length ≤ 1000 := by have := hW.1; omega
  have hA := hW.asc hL
  have hi := isW_yes hW.2
  refine ⟨_, rfl, l, rfl, hl, hA, _, rfl, l, rfl, hl, hA, fun H1 s1 => ⟨_, rfl, _, rfl, l, L, rfl, hL.lt, hl, fun _ H2 pt s2 npt hpt => ⟨_, rfl, _, rfl, l, L, rfl, hl, hL.lt, fun H3 s3 => ⟨(by show 4 ≤ sizeLine; decide), fun p np => ?_⟩⟩, fun hn => ?_⟩⟩
  · have sA := (s1.trans s2).trans (s3.trans (same_new np (o := .lst [tx (opp l), tx (sh l), .ref pt, .bl (isW l L)])))
    refine nx p _ ⟨pt, ?_, ?_⟩ (z.same sA)
    · rw [upd_same, hi]
    · exact (s3.trans (same_new np)) _ _ hpt
  · rw [hi] at hn
    cases hn
theorem s4 (cGo : Cb P w K mg base CX0 2 "_law_gone_back" ["_law_one"] spGone fGo fdGo) (cSt : Cb P w K mg base CX0 2 "_law_short" ["_law_one"] spShort fSt fdSt) (cNu : Cb P w K mg base CX0 1 "_law_number_of" ["_law_one", "_law_letters_here"] spNum fNu fdNu) (hr : Room 7 (A.deeper (envOfC "law" (defScope sLaw) s.heap.objs.size f (.ref c)))) :
    ∃ t, PS (XL P w K mg base f c A outer s H E) (lbs 3) t ∧ ∀ (b m a pf : Addr) (y2 y5 y6 y8 : Option V) (L l : List Nat) (D : Ends) (H0 : Hp), Zz Pt b m H0 → Lg L → Wg L l → FdAt H0 pf L l →
      (∀ p H', FdAt H' pf L l → FdAt H' p L l → Zz Pt b m H' → D.nx [some (.ref a), some (.ref b), y2, some (tx l), some (.ref pf), some (.ref p), y6, some (tx L), y8] H') → t D [some (.ref a), some (.ref b), y2, some (tx l), some (.ref pf), y5, y6, some (tx L), y8] H0 := by
  have r1 : Room 1 (A.deeper (envOfC "law" (defScope sLaw) s.heap.objs.size f (.ref c))) := hr.mono (by decide)
  have r2 : Room 2 (A.deeper (envOfC "law" (defScope sLaw) s.heap.objs.size f (.ref c))) := hr.mono (by decide)
  refine ⟨_, ps_set (i := 5) scLaw.nd rfl (.inl rfl) (pe_lst (pa_cons (pe_call cGo.ok r2 (by rfl) cGo.g cGo.kp cGo.b .nil pass0 (pa_cons (pv 3) pa_nil)) (pa_cons (pe_call cSt.ok r2 (by rfl) cSt.g cSt.kp cSt.b .nil pass0 (pa_cons (pv 3) pa_nil))
          (pa_cons (pe_call cNu.ok r1 (by rfl) cNu.g cNu.kp cNu.b .nil pass0 (pa_cons (pv 3) (pa_cons (pv 7) pa_nil))) (pa_cons pe_bl pa_nil))))), ?_⟩
  intro b m a pf y2 y5 y6 y8 L l D H0 z hL hW hF nx
  have hl : l.length ≤ 1000 := by have := hW.1; omega
  have hA := hW.asc hL
  refine ⟨_, rfl, l, rfl, hl, hA, fun H1 s1 => ⟨_, rfl, l, rfl, hl, hA, _, rfl, _, rfl, l, L, rfl, hL.lt, fun H2 pn s2 npn hpn => ⟨(by show 4 ≤ sizeLine; decide), fun p np => ?_⟩⟩⟩
  have sA := (s1.trans s2).trans (same_new np (o := .lst [tx (opp l), tx (sh l), .ref pn, .bl true]))
  exact nx p _ (hF.same sA) ⟨pn, upd_same, (same_new np) _ _ hpn⟩ (z.same sA)
theorem s5 (cS2 : Cb P w K mg base CX0 3 "_law_same" ["_law_found", "_law_due"] (spSame 2) fSa fdSa) (cOp : Cb P w K mg base CX0 1 "opposite" ["word"] spOpp fOp fdOp) (cSh : Cb P w K mg base CX0 2 "shortened" ["word"] spShd fSh fdSh) (hr : Room 7 (A.deeper (envOfC "law" (defScope sLaw) s.heap.objs.size f (.ref c)))) :
    ∃ t, PS (XL P w K mg base f c A outer s H E) (lbs 4) t ∧ ∀ (b m a pf pd : Addr) (y2 y6 y8 : Option V) (L l : List Nat) (D : Ends) (H0 : Hp), Zz Pt b m H0 → Lg L → Wg L l → FdAt H0 pf L l → FdAt H0 pd L l →
      (∀ H', Zz Pt b m H' → D.nx [some (.ref a), some (.ref b), y2, some (tx l), some (.ref pf), some (.ref pd), y6, some (tx L), y8] H') → t D [some (.ref a), some (.ref b), y2, some (tx l), some (.ref pf), some (.ref pd), y6, some (tx L), y8] H0 := by
  have r1 : Room 1 (A.deeper (envOfC "law" (defScope sLaw) s.heap.objs.size f (.ref c))) := hr.mono (by decide)
  have r2 : Room 2 (A.deeper (envOfC "law" (defScope sLaw) s.heap.objs.size f (.ref c))) := hr.mono (by decide)
  have r3 : Room 3 (A.deeper (envOfC "law" (defScope sLaw) s.heap.objs.size f (.ref c))) := hr.mono (by decide)
  refine ⟨_, ps_if (PW.pt (pw_or (pt_not (pt_val (pe_call cS2.ok r3 (by rfl) cS2.g cS2.kp cS2.b .nil pass0 (pa_cons (pv 4) (pa_cons (pv 5) pa_nil)))))
          (pw_or1 (pt_cmpR op_ne (pe_call cSh.ok r2 (by rfl) cSh.g cSh.kp cSh.b .nil pass0 (pa_cons (pe_op op_add_str (pv 3) (pe_call cOp.ok r1 (by rfl) cOp.g cOp.kp cOp.b .nil pass0 (pa_cons (pv 3) pa_nil))) pa_nil)) pe_str (nomark _))))) pss_never pss_nil, ?_⟩
  intro b m a pf pd y2 y6 y8 L l D H0 z hL hW hF hG nx
  have hl : l.length ≤ 1000 := by have := hW.1; omega
  have hA := hW.asc hL
  have eq : Eqd 2 H0 (.ref pf) (.ref pd) := by
    obtain ⟨pt, f1, f2⟩ := hF
    obtain ⟨pn, g1, g2⟩ := hG
    refine .inr ⟨pf, pd, [tx (opp l), tx (sh l), .ref pt, .bl true], [tx (opp l), tx (sh l), .ref pn, .bl true], rfl, rfl, rfl, (by show 4 ≤ 1000; decide), .inl ⟨f1, g1⟩, fun i u v h1 h2 => ?_⟩
    have hlen : (cn l L).length ≤ 1000 := by
      unfold cn
      rw [List.length_map]
      have := hL.2.1
      omega
    match i, h1, h2 with
    | 0, h1, h2 =>
      cases h1
      cases h2
      exact Eqd.flat (.inr (.inl ⟨_, rfl⟩))
    | 1, h1, h2 =>
      cases h1
      cases h2
      exact Eqd.flat (.inr (.inl ⟨_, rfl⟩))
    | 2, h1, h2 =>
      cases h1
      cases h2
      refine .inr ⟨pt, pn, _, _, rfl, rfl, rfl, hlen, .inr ⟨f2, g2⟩, fun j u v h1 h2 => ?_⟩
      rw [h1] at h2
      cases h2
      have hm := List.mem_of_getElem? h1
      unfold cn at hm
      obtain ⟨d, _, rfl⟩ := List.mem_map.mp hm
      exact Eqd.flat (.inl ⟨_, rfl⟩)
    | 3, h1, h2 =>
      cases h1
      cases h2
      exact Eqd.flat (.inr (.inr ⟨_, rfl⟩))
    | n + 4, h1, h2 => cases h1
  refine ⟨_, rfl, _, rfl, _, _, rfl, eq, fun H1 s1 => ⟨true, rfl, iteF ?_⟩⟩
  refine ⟨_, rfl, _, rfl, l, rfl, hl, hA, _, _, rfl, rfl, ?_, l ++ opp l, ?_, ?_, ?_, fun H2 s2 => ⟨rfl, false, ?_, iteF ?_⟩⟩
  · rw [tx_len, tx_len, opp_len]
    exact Nat.le_of_lt (small1000 (by have := hW.1; omega))
  · rw [SX.S_cat]
    rfl
  · rw [List.length_append, opp_len]
    have := hW.1
    omega
  · intro d hd
    rcases List.mem_append.mp hd with h1 | h1
    · exact hA d h1
    · exact opp_asc hA d h1
  · rw [sh_opp, e0S]
    rfl
  · exact nx H2 (z.same (s1.trans s2))
end
end K1
set_option maxRecDepth 100000
set_option maxHeartbeats 1000000
namespace K1
open PySem PySem.Spec PyProof.Rows L2
section
variable {P : Program} {w : World} {K : PySem.W.Frag} {mg : Str → Option Value} {base : Heap}
variable {f fBeg fD fA fLe fSo fOp fSh fCn fIs fGo fSt fNu fSa fWh fF C fI C1 C2 C3 c Pt : Addr} {fdBeg fdD fdA fdLe fdSo fdOp fdSh fdCn fdIs fdGo fdSt fdNu fdSa fdWh fdF : FuncData} {A : Around} {outer : List Env} {s : Shared} {H : Hp} {E : XK}
theorem s6 (B : Bn mg) (cD : Cb P w K mg base CX0 1 "_law_draw" ["_law_box", "_law_many"] spDraw fD fdD) (hr : Room 7 (A.deeper (envOfC "law" (defScope sLaw) s.heap.objs.size f (.ref c)))) :
    ∃ t, PS (XL P w K mg base f c A outer s H E) (lbs 5) t ∧ ∀ (b m a : Addr) (y2 y4 y5 y6 y7 y8 : Option V) (l : List Nat) (D : Ends) (H0 : Hp), Zz Pt b m H0 → l.length ≤ 30 →
      (∀ (n : Nat) H', Zz Pt b m H' → D.nx [some (.ref a), some (.ref b), y2, some (tx l), y4, y5, some (.int n), y7, y8] H') → t D [some (.ref a), some (.ref b), y2, some (tx l), y4, y5, y6, y7, y8] H0 := by
  have r1 : Room 1 (A.deeper (envOfC "law" (defScope sLaw) s.heap.objs.size f (.ref c))) := hr.mono (by decide)
  refine ⟨_, ps_set (i := 6) scLaw.nd rfl (.inl rfl) (pe_call cD.ok r1 (by rfl) cD.g cD.kp cD.b .nil pass0 (pa_cons (pv 1) (pa_cons (pe_op op_add (pe_callB call_len (by rfl) B.len PySem.boot_len (pa_cons (pv 3) pa_nil)) pe_int) pa_nil))), ?_⟩
  intro b m a y2 y4 y5 y6 y7 y8 l D H0 z hl nx
  refine ⟨_, rfl, _, rfl, _, _, rfl, ⟨asc_le (by omega), rfl⟩, _, _, rfl, rfl, b, m, _, rfl, z.1, ?_, ?_, fun d H1 d0 d1 hT => ?_⟩
  · rw [tx_len]
    omega
  · rw [tx_len]
    omega
  · have e : (d : Int) = ((d.toNat : Nat) : Int) := by omega
    rw [e]
    exact nx d.toNat H1 (z.go hT.go)
def Og (L o : List Nat) : Prop := o.length ≤ 100 ∧ isW o L = false
theorem s7 (cA : Cb P w K mg base CX0 2 "_law_any" ["_law_box", "_law_some"] spAny fA fdA) (hr : Room 7 (A.deeper (envOfC "law" (defScope sLaw) s.heap.objs.size f (.ref c)))) :
    ∃ t, PS (XL P w K mg base f c A outer s H E) (lbs 6) t ∧ ∀ (b m a : Addr) (y2 y4 y5 y8 : Option V) (L l : List Nat) (n : Nat) (D : Ends) (H0 : Hp), Zz Pt b m H0 → Lg L → Wg L l →
      (∀ o H', Og L o → Zz Pt b m H' → D.nx [some (.ref a), some (.ref b), y2, some (tx l), y4, y5, some (.int n), some (tx L), some (tx o)] H') → t D [some (.ref a), some (.ref b), y2, some (tx l), y4, y5, some (.int n), some (tx L), y8] H0 := by
  have r2 : Room 2 (A.deeper (envOfC "law" (defScope sLaw) s.heap.objs.size f (.ref c))) := hr.mono (by decide)
  refine ⟨_, ps_set (i := 8) scLaw.nd rfl (.inr rfl) (pe_op op_add_str (pe_op op_add_str (pe_slice sl_str (pv 3) po_none (po_some (pv 6))) (pe_call cA.ok r2 (by rfl) cA.g cA.kp cA.b .nil pass0 (pa_cons (pv 1) (pa_cons (pe_lst (pa_cons pe_str (pa_cons pe_str (pa_cons pe_str (pa_cons pe_str (pa_cons pe_str (pa_cons pe_str (pa_cons pe_str pa_nil)))))))) pa_nil)))) (pe_slice sl_str (pv 3) (po_some (pv 6)) po_none)), ?_⟩
  intro b m a y2 y4 y5 y8 L l n D H0 z hL hW nx
  have hl : l.length ≤ 1000 := by have := hW.1; omega
  refine ⟨_, rfl, _, rfl, _, rfl, _, rfl, asc_le hl, _, rfl, (by show 7 ≤ sizeLine; decide), fun p np => ⟨b, m, p, _, rfl, z.1.same (same_new np), upd_same, z.1.ne np, (by simp), (by show 7 < 1000000; decide), fun x H2 hx hT => ?_⟩⟩
  rw [oddL] at hx
  obtain ⟨d, hd, rfl⟩ := List.mem_map.mp hx
  rw [cut_to]
  have h3 : (l.take n).length ≤ 30 := by
    rw [List.length_take]
    have := hW.1
    omega
  have h4 : (l.drop n).length ≤ 30 := by
    rw [List.length_drop]
    have := hW.1
    omega
  refine ⟨_, _, rfl, rfl, ?_, _, rfl, _, rfl, _, rfl, _, rfl, asc_le hl, ?_⟩
  · rw [tx_len, tx_len]
    exact Nat.le_of_lt (small1000 (by simp only [List.length_cons, List.length_nil]; omega))
  · rw [cut_from, SX.S_cat]
    refine ⟨_, _, rfl, rfl, ?_, ?_⟩
    · rw [tx_len, tx_len]
      refine Nat.le_of_lt (small1000 ?_)
      rw [List.length_append]
      simp only [List.length_cons, List.length_nil]
      omega
    · rw [SX.S_cat]
      refine nx ((l.take n ++ [d]) ++ l.drop n) H2 ⟨?_, ?_⟩ ((z.same (same_new np)).go hT.go)
      · rw [List.length_append, List.length_append]
        simp only [List.length_cons, List.length_nil]
        omega
      · refine isW_no (x := d) (by simp) fun hm => ?_
        obtain ⟨c0, hc0, e⟩ := sg_mem hm
        have hn := odd_no d hd c0 (hL.2.2 c0 hc0)
        rcases e with e | e
        · exact hn.1 e
        · exact hn.2 e
theorem s8 (cS1 : Cb P w K mg base CX0 2 "_law_same" ["_law_found", "_law_due"] (spSame 1) fSa fdSa) (cIs : Cb P w K mg base CX0 2 "is_word" ["word", "letters"] spIsW fIs fdIs) (hr : Room 7 (A.deeper (envOfC "law" (defScope sLaw) s.heap.objs.size f (.ref c)))) :
    ∃ t, PS (XL P w K mg base f c A outer s H E) (lbs 7) t ∧ ∀ (b m a : Addr) (y2 y3 y4 y5 y6 : Option V) (L o : List Nat) (D : Ends) (H0 : Hp), Zz Pt b m H0 → Lg L → Og L o →
      (∀ H', Zz Pt b m H' → D.nx [some (.ref a), some (.ref b), y2, y3, y4, y5, y6, some (tx L), some (tx o)] H') → t D [some (.ref a), some (.ref b), y2, y3, y4, y5, y6, some (tx L), some (tx o)] H0 := by
  have r2 : Room 2 (A.deeper (envOfC "law" (defScope sLaw) s.heap.objs.size f (.ref c))) := hr.mono (by decide)
  refine ⟨_, ps_if (pt_not (pt_val (pe_call cS1.ok r2 (by rfl) cS1.g cS1.kp cS1.b .nil pass0 (pa_cons (pe_lst (pa_cons (pe_call cIs.ok r2 (by rfl) cIs.g cIs.kp cIs.b .nil pass0 (pa_cons (pv 8) (pa_cons (pv 7) pa_nil))) (pa_cons (pe_call cIs.ok r2 (by rfl) cIs.g cIs.kp cIs.b .nil pass0 (pa_cons pe_str (pa_cons (pv 7) pa_nil))) pa_nil)))
          (pa_cons (pe_lst (pa_cons pe_bl (pa_cons pe_bl pa_nil))) pa_nil))))) pss_never pss_nil, ?_⟩
  intro b m a y2 y3 y4 y5 y6 L o D H0 z hL hO nx
  refine ⟨_, rfl, _, rfl, o, L, rfl, (by have := hO.1; omega), hL.lt, fun H1 s1 => ⟨_, rfl, [], L, ?_, (by show 0 ≤ 1000; decide), hL.lt, fun H2 s2 => ⟨(by show 2 ≤ sizeLine; decide), fun p np => ⟨(by show 2 ≤ sizeLine; decide), fun p2 np2 => ⟨_, _, rfl, ?_, fun H3 s3 => ⟨true, rfl, iteF ?_⟩⟩⟩⟩⟩⟩
  · rw [e0S]
    rfl
  · rw [hO.2]
    refine .inr ⟨p, p2, [.bl false, .bl true], [.bl false, .bl true], rfl, rfl, rfl, (by show 2 ≤ 1000; decide), .inl ⟨?_, upd_same⟩, fun i u v h1 h2 => ?_⟩
    · rw [upd_ne (fun e => by rw [← e, upd_same] at np2; cases np2), upd_same]
      rfl
    · rw [h1] at h2
      cases h2
      refine ⟨rfl, ?_⟩
      have hm := List.mem_of_getElem? h1
      have h3 : u = .bl false ∨ u = .bl true := by simpa using hm
      rcases h3 with e | e <;> exact .inr (.inr ⟨_, e⟩)
  · exact nx H3 (z.same (((s1.trans s2).trans (same_new np)).trans ((same_new np2).trans s3)))
/-- the last test of a turn -/
theorem r9 {b m a : Addr} {y2 y3 y4 y5 y6 : Option V} {L o : List Nat} {D : Ends} {H0 : Hp} (z : Zz Pt b m H0) (hL : Lg L) (hO : Og L o) (nx : ∀ H', Zz Pt b m H' → D.nx [some (.ref a), some (.ref b), y2, y3, y4, y5, y6, some (tx L), some (tx o)] H') :
    (tIfS (tTest (tOp (rNeD K) (LamX.tLam [(Pt, qL)] (TTw C) (fun E => tCall (spCnt C) [] E (tCons (tVar 8) (tCons (tVar 7) tNil)))) (tTup (tCons (tC tagW) (tCons (tC (.int 0)) tNil))))) tNever tNext) D [some (.ref a), some (.ref b), y2, y3, y4, y5, y6, some (tx L), some (tx o)] H0 := by
  refine ⟨z.2, fun H1 ex tb1 => ?_⟩
  have z1 : Zz Pt b m H1 := ⟨bx_ext z.1 ex, tb1⟩
  refine ⟨_, rfl, _, rfl, o, L, rfl, hL.lt, (by have := hO.1; omega), fun hy => ?_, fun _ H2 d s2 nd hd => ⟨rfl, d, .int 0, rfl, hd, fun H3 T1 s3 nT hT => ?_⟩⟩
  · rw [hO.2] at hy
    cases hy
  · refine ⟨(by show 2 ≤ sizeLine; decide), fun T2 nT2 => ?_⟩
    have hT' : upd H3 T2 (.tup [tagW, .int 0]) T1 = some (.tup [tagW, .int 0]) := (same_new nT2) _ _ hT
    have dp : ∀ Tx, upd H3 T2 (.tup [tagW, .int 0]) Tx = some (.tup [tagW, .int 0]) → Dp K (upd H3 T2 (.tup [tagW, .int 0])) (.ref Tx) (.tuple [.str (Str.ofString "InvalidWord"), .int 0]) := fun Tx h => .tup (SqT.of h) (.cons (.str _) (.cons (.int _) .nil))
    refine ⟨_, _, dp T1 hT', dp T2 upd_same, by decide +kernel, by decide +kernel, false, congrArg V.bl (by decide +kernel), iteF ?_⟩
    exact nx _ (z1.same ((s2.trans s3).trans (same_new nT2)))
end
end K1
set_option maxRecDepth 100000
set_option maxHeartbeats 4000000
namespace K1
open PySem PySem.Spec PyProof.Rows L2
section
variable {P : Program} {w : World} {K : PySem.W.Frag} {mg : Str → Option Value} {base : Heap}
variable {f fBeg fD fA fLe fSo fOp fSh fCn fIs fGo fSt fNu fSa fWh fF C fI C1 C2 C3 c Pt : Addr} {fdBeg fdD fdA fdLe fdSo fdOp fdSh fdCn fdIs fdGo fdSt fdNu fdSa fdWh fdF : FuncData}
theorem lb_is : lb = [lbs 0, lbs 1, lbs 2, lbs 3, lbs 4, lbs 5, lbs 6, lbs 7, lbs 8] := by rfl
theorem wAbA : Str.ofString "abA" = SX.S [97, 98, 65] := by decide
theorem w2 : Str.ofString "aBA" = SX.S [97, 66, 65] := by decide
theorem w3 : Str.ofString "abBA" = SX.S [97, 98, 66, 65] := by decide
theorem w4 : Str.ofString "aabA" = SX.S [97, 97, 98, 65] := by decide
theorem w5 : Str.ofString "ab" = SX.S [97, 98] := by decide
theorem cn_is : cn [97, 97, 98, 65] [97, 98] = [.int 1, .int 1] := by decide +kernel
theorem ok_law {oc kV doc pm ct : Value} {od an : Option Addr} {osl : Array (Option Value)}
    (lk : K.lookup f = some ⟨oc, od, .func (PySem.W.fnOf "law" "law" (defArgs sLaw) (defBody sLaw) (defScope sLaw) .none kV doc pm an (.ref c) ct), osl⟩) (hcd : PySem.W.codeIn K (.ref c) "law" = true) (B : Bn mg)
    (cBeg : Cb P w K mg base CX0 1 "_law_begin" ["_law_script"] (spBegin K) fBeg fdBeg) (cD : Cb P w K mg base CX0 1 "_law_draw" ["_law_box", "_law_many"] spDraw fD fdD) (cA : Cb P w K mg base CX0 2 "_law_any" ["_law_box", "_law_some"] spAny fA fdA)
    (cLe : Cb P w K mg base CX0 3 "_law_letters" ["_law_box", "_law_many"] spLet fLe fdLe) (cSo : Cb P w K mg base CX0 3 "_law_some_word" ["_law_box", "_law_letters_here", "_law_most"] spSome fSo fdSo)
    (cOp : Cb P w K mg base CX0 1 "opposite" ["word"] spOpp fOp fdOp) (cSh : Cb P w K mg base CX0 2 "shortened" ["word"] spShd fSh fdSh) (cCn : Cb P w K mg base (L2.CX P w) 4 "counts" ["word", "letters"] (spCnt C) fCn fdCn) (cIs : Cb P w K mg base CX0 2 "is_word" ["word", "letters"] spIsW fIs fdIs)
    (cGo : Cb P w K mg base CX0 2 "_law_gone_back" ["_law_one"] spGone fGo fdGo) (cSt : Cb P w K mg base CX0 2 "_law_short" ["_law_one"] spShort fSt fdSt) (cNu : Cb P w K mg base CX0 1 "_law_number_of" ["_law_one", "_law_letters_here"] spNum fNu fdNu)
    (cS1 : Cb P w K mg base CX0 2 "_law_same" ["_law_found", "_law_due"] (spSame 1) fSa fdSa) (cS2 : Cb P w K mg base CX0 3 "_law_same" ["_law_found", "_law_due"] (spSame 2) fSa fdSa)
    (FW : Fun K "_law_why" "_law_why" sWhy fWh fdWh) (bW : Binds K fdWh ["_law_ask"] []) (gW : mg "_law_why" = some (.ref fWh))
    (T : IwC K mg C fI) (XC : XfC K C) (GF : Rs.FnPin P w K mg base 1 fF fdF ["_law_e"] (spFld C)) (kF : PySem.W.keepIn K (.ref fF) = true) (bF : Binds K fdF ["_law_e"] []) (gF : mg "_law_field" = some (.ref fF))
    (m1 : mg "TownError" = some (.ref C1)) (m2 : mg "Missing" = some (.ref C2)) (m3 : mg "NothingLeft" = some (.ref C3)) (hx : PySem.W.exmAny K (.ref C) [.ref C1, .ref C2, .ref C3] = some true) (TB : LamX.TabB base mg c Pt) :
    FnOk P w K mg base CX0 8 f (PySem.W.fnOf "law" "law" (defArgs sLaw) (defBody sLaw) (defScope sLaw) .none kV doc pm an (.ref c) ct) ["_law_script"] (spLaw K Pt) := by
  refine fn_of lk hcd scLaw (fun vs H Q E h => ?_) (fun A outer s H vs Q E hr h => ?_)
  · obtain ⟨a, ns, rfl, _⟩ := h
    rfl
  · obtain ⟨a, ns, rfl, hS, hl, hP, q⟩ := h
    have r1 : Room 1 (A.deeper (envOfC "law" (defScope sLaw) s.heap.objs.size f (.ref c))) := hr.mono (by decide)
    have r2 : Room 2 (A.deeper (envOfC "law" (defScope sLaw) s.heap.objs.size f (.ref c))) := hr.mono (by decide)
    have r4 : Room 4 (A.deeper (envOfC "law" (defScope sLaw) s.heap.objs.size f (.ref c))) := hr.mono (by decide)
    obtain ⟨tb, PB, RB⟩ : ∃ tb, PSs (XL P w K mg base f c A outer s H E) lb tb ∧ ∀ (b m : Addr) (D : Ends) (σ : L2.St) (H0 : Hp), Iv Pt b m a σ H0 → (∀ σ' H', Iv Pt b m a σ' H' → D.nx σ' H') → tb D σ H0 := by
      obtain ⟨t0, p0, q0⟩ := s1 (base := base) (Pt := Pt) (outer := outer) (H := H) (E := E) cD cLe hr
      obtain ⟨t1, p1, q1⟩ := s2 (base := base) (Pt := Pt) (outer := outer) (H := H) (E := E) cA cSo hr
      obtain ⟨t2, p2, q2⟩ := s3 (base := base) (Pt := Pt) (outer := outer) (H := H) (E := E) cOp cSh cCn cIs hr
      obtain ⟨t3, p3, q3⟩ := s4 (base := base) (Pt := Pt) (outer := outer) (H := H) (E := E) cGo cSt cNu hr
      obtain ⟨t4, p4, q4⟩ := s5 (base := base) (Pt := Pt) (outer := outer) (H := H) (E := E) cS2 cOp cSh hr
      obtain ⟨t5, p5, q5⟩ := s6 (base := base) (Pt := Pt) (outer := outer) (H := H) (E := E) B cD hr
      obtain ⟨t6, p6, q6⟩ := s7 (base := base) (Pt := Pt) (outer := outer) (H := H) (E := E) cA hr
      obtain ⟨t7, p7, q7⟩ := s8 (base := base) (Pt := Pt) (outer := outer) (H := H) (E := E) cS1 cIs hr
      have p8 := s9 (base := base) (outer := outer) (H := H) (E := E) cCn FW bW gW T XC GF kF bF gF m1 m2 m3 hx TB hr
      rw [lb_is]
      refine ⟨_, pss_cons p0 (pss_cons p1 (pss_cons p2 (pss_cons p3 (pss_cons p4 (pss_cons p5 (pss_cons p6 (pss_cons p7 (pss_one p8)))))))), ?_⟩
      rintro b m D σ H0 ⟨y2, y3, y4, y5, y6, y7, y8, rfl, bx0, tb0⟩ nx
      refine q0 b m a y2 y3 y4 y5 y6 y7 y8 _ H0 ⟨bx0, tb0⟩ fun L H1 hL z1 => ?_
      refine q1 b m a y2 y3 y4 y5 y6 y8 L _ H1 z1 hL fun l H2 hW z2 => ?_
      refine q2 b m a y2 y4 y5 y6 y8 L l _ H2 z2 hL hW fun pf H3 hF z3 => ?_
      refine q3 b m a pf y2 y5 y6 y8 L l _ H3 z3 hL hW hF fun pd H4 hF4 hG4 z4 => ?_
      refine q4 b m a pf pd y2 y6 y8 L l _ H4 z4 hL hW hF4 hG4 fun H5 z5 => ?_
      refine q5 b m a y2 (some (.ref pf)) (some (.ref pd)) y6 (some (tx L)) y8 l _ H5 z5 hW.1 fun n H6 z6 => ?_
      refine q6 b m a y2 (some (.ref pf)) (some (.ref pd)) y8 L l n _ H6 z6 hL hW fun o H7 hO z7 => ?_
      refine q7 b m a y2 (some (tx l)) (some (.ref pf)) (some (.ref pd)) (some (.int n)) L o _ H7 z7 hL hO fun H8 z8 => ?_
      refine r9 z8 hL hO fun H9 z9 => ?_
      exact nx _ H9 ⟨_, _, _, _, _, _, _, rfl, z9.1, z9.2⟩
    refine ⟨_, PSs.nox (pss_cons (ps_set (i := 1) scLaw.nd rfl (.inl rfl) (pe_call cBeg.ok r1 (by rfl) cBeg.g cBeg.kp cBeg.b .nil pass0 (pa_cons (pv 0) pa_nil)))
      (pss_cons (ps_for PassesOwn.never rfl (pi_range1 (by rfl) B.range (pa_cons pe_int pa_nil)) (pg_name (i := 2) scLaw.nd rfl (Or.inl rfl)) PB)
      (pss_one (ps_ret (pe_and (pe_cmpR op_eq (pe_call cOp.ok r1 (by rfl) cOp.g cOp.kp cOp.b .nil pass0 (pa_cons pe_str pa_nil)) pe_str (nomark _))
        (pe_and (pe_cmpR op_eq (pe_call cSh.ok r2 (by rfl) cSh.g cSh.kp cSh.b .nil pass0 (pa_cons pe_str pa_nil)) pe_str (nomark _))
        (pe_one (pe_cmpR (op_eqD hr.units) (pe_call cCn.ok r4 (by rfl) cCn.g cCn.kp cCn.b .nil (passN rfl rfl) (pa_cons pe_str (pa_cons pe_str pa_nil))) (pe_tup (pa_cons pe_int (pa_cons pe_int pa_nil))) (nomark _))))))))), ?_⟩
    refine ⟨_, rfl, a, ns, rfl, hS, hl, fun H1 b m s1 nb bx => ?_⟩
    have tb1 : LamX.Tabs [(Pt, qL)] H1 := by
      intro p hp
      have e : p = (Pt, qL) := by simpa using hp
      rw [e]
      exact LamX.TabS.nil (s1 _ _ hP)
    refine ⟨4, rfl, by decide, by decide, ?_⟩
    refine for_it (walk_range (lo := 0) (n := (4 : Int).toNat)) (fun i σ H2 => Iv Pt b m a σ H2) ⟨none, none, none, none, none, none, none, rfl, bx, tb1⟩ (fun _ _ _ _ _ => trivial) ?_ ?_
    · rintro i x σ H2 H2' hi hI ⟨rfl, rfl⟩
      obtain ⟨y2, y3, y4, y5, y6, y7, y8, rfl, bx2, tb2⟩ := hI
      exact RB b m _ _ H2' ⟨_, _, _, _, _, _, _, rfl, bx2, tb2⟩ fun σ' H' h => h
    · rintro σ H2 ⟨y2, y3, y4, y5, y6, y7, y8, rfl, bx2, tb2⟩
      refine ⟨[97, 98, 65], by rw [wAbA]; rfl, by decide, (by unfold Asc; decide), rfl, true, ?_, iteT ⟨[97, 98, 66, 65], by rw [w3]; rfl, by decide, (by unfold Asc; decide), fun H3 s3 => ⟨rfl, true, ?_, iteT ⟨[97, 97, 98, 65], [97, 98], by rw [w4, w5]; rfl, ⟨by decide, by decide⟩, by decide, fun _ H4 p s4 np hp => ?_, fun hn => ?_⟩⟩⟩⟩
      · rw [w2]
        exact congrArg V.bl (by decide +kernel)
      · rw [e0S]
        exact congrArg V.bl (by decide +kernel)
      · refine ⟨(by show 2 ≤ sizeLine; decide), fun p2 np2 => ?_⟩
        rw [cn_is] at hp
        have dp : ∀ Tx, upd H4 p2 (.tup [.int 1, .int 1]) Tx = some (.tup [.int 1, .int 1]) → Dp K (upd H4 p2 (.tup [.int 1, .int 1])) (.ref Tx) (.tuple [.int 1, .int 1]) := fun Tx h => .tup (SqT.of h) (.cons (.int _) (.cons (.int _) .nil))
        refine ⟨_, _, dp p ((same_new np2) _ _ hp), dp p2 upd_same, by decide +kernel, by decide +kernel, ?_⟩
        have e : PyData.eqv (.tuple [.int 1, .int 1]) (.tuple [.int 1, .int 1]) = true := by decide +kernel
        rw [e]
        exact q _
      · have e : isW [97, 97, 98, 65] [97, 98] = true := by decide +kernel
        rw [e] at hn
        cases hn
end
end K1
set_option maxRecDepth 100000
set_option maxHeartbeats 0
namespace K1
open PySem PySem.Spec PyProof.Rows L2
/-! ### what the head tells of an own error class with an __init__ -/
def oexB (K : PySem.W.Frag) (C : Addr) : Bool := (match K.lookup C with
  | some ⟨.type t, _, .cls cd, sl⟩ => decide (t = "type") && (match cd.mro, sl.toList with
    | .ref C' :: bm, [_, _, _, _, some (.builtin n), _] => decide (C' = C) && (decide (n = "ValueError.__new__") && (!cd.hasDel && (cd.hasDict && PySem.HandSPX.refsVE bm)))
    | _, _ => false)
  | _ => false) && (decide (PySem.W.findIn K (.ref C) "__setattr__" = some (some (.builtin "object.__setattr__"))) && (decide (PySem.W.subIn K (.ref C) (.type "BaseException") = some true) && (decide (PySem.W.typeIn K (.ref C) = some (.type "type")) && PySem.W.keepIn K (.ref C))))
theorem oexB_ok {K : PySem.W.Frag} {C : Addr} (h : oexB K C = true) : OexC K C := by
  obtain ⟨h0, h⟩ := He.ba h
  obtain ⟨h1, h⟩ := He.ba h
  obtain ⟨h2, h⟩ := He.ba h
  obtain ⟨h3, h4⟩ := He.ba h
  refine ⟨?_, of_decide_eq_true h1, of_decide_eq_true h2, of_decide_eq_true h3, h4⟩
  cases q : K.lookup C with
  | none =>
    rw [q] at h0
    cases h0
  | some o =>
    obtain ⟨oc, od, dt, osl⟩ := o
    rw [q] at h0
    cases oc with
    | type t =>
      cases dt with
      | cls cd =>
        obtain ⟨nm, bs, mro, ns, qn, hd, sn, sb, ab, col, del⟩ := cd
        obtain ⟨e1, h5⟩ := He.ba h0
        obtain rfl : t = "type" := of_decide_eq_true e1
        dsimp only at h5
        split at h5
        · rename_i C' bm x0 x1 x2 x3 n x5 es
          obtain ⟨g1, g⟩ := He.ba h5
          obtain ⟨g2, g⟩ := He.ba g
          obtain ⟨g3, g⟩ := He.ba g
          obtain ⟨g4, g5⟩ := He.ba g
          obtain rfl : C' = C := of_decide_eq_true g1
          obtain rfl : n = "ValueError.__new__" := of_decide_eq_true g2
          have g3' : del = false := by simpa using g3
          subst g3'
          subst g4
          have es' : osl = #[x0, x1, x2, x3, some (.builtin "ValueError.__new__"), x5] := by
            apply Array.toList_inj.mp
            rw [es]
          subst es'
          exact ⟨_, _, _, _, _, _, _, _, _, _, _, _, _, _, _, rfl, g5⟩
        · cases h5
      | _ => cases h0
    | _ => cases dt <;> cases h0
def iwB (K : PySem.W.Frag) (C : Addr) : Bool := oexB K C && (xfB K C && (decide (PySem.W.findIn K (.ref C) "at" = some none) && (decide (PySem.W.findIn K (.ref C) "tag" = some none) && (decide (PySem.W.findIn K (.ref C) "__init__" = some (some (.ref (He.ma K C "__init__")))) && decide (PySem.W.typeIn K (.ref (He.ma K C "__init__")) = some (.type "function"))))))
def exK (K : PySem.W.Frag) : Bool := iwB K (He.ga K "InvalidWord") && decide (PySem.W.exmAny K (.ref (He.ga K "InvalidWord")) [.ref (He.ga K "TownError"), .ref (He.ga K "Missing"), .ref (He.ga K "NothingLeft")] = some true)
def dD (x : Str) (st : Stmt) : He.DefD := ⟨(x, none), x, x, defArgs st, defBody st, defScope st, [], []⟩
def dIni : He.DefD := ⟨("InvalidWord", some "__init__"), "__init__", "InvalidWord.__init__", defArgs sIni, defBody sIni, defScope sIni, [], []⟩
def fn : List He.DefD := [dD "signs_of" sSignsOf, dD "is_word" sIsWord, dD "check_words" sCheck, dD "opposite" sOpp, dD "shortened" sShortened, dD "counts" sCounts, dD "_law_begin" sBegin, dD "_law_draw" sDraw, dD "_law_any" sAny, dD "_law_same" sSame,
  dD "_law_field" sField, dD "_law_why" sWhy, dD "_law_letters" sLetters, dD "_law_signs" sSigns, dD "_law_back" sBack, dD "_law_some_word" sSome, dD "_law_gone_back" sGone, dD "_law_short" sShort, dD "_law_number_of" sNumber, dD "law" sLaw, dIni, dD "counts_of" sCountsOf]
def gl : List Str := ["signs_of", "is_word", "check_words", "opposite", "shortened", "counts", "_law_begin", "_law_draw", "_law_any", "_law_same", "_law_field", "_law_why", "_law_letters", "_law_signs", "_law_back", "_law_some_word", "_law_gone_back", "_law_short", "_law_number_of", "law", "InvalidWord", "TownError", "Missing", "NothingLeft", "counts_of"]
def fr : List Str := ["sum", "len", "int", "isinstance", "list", "tuple", "all", "range", "bool", "str", "enumerate"]
def fa : List He.Fa := gl.map He.Fa.glo ++ fr.map He.Fa.free
abbrev R : PySem.W.OpenRow := PySem.W.OpenLaw.row PySem.Challenge.rw_roundswap_k01_opposites_and_counts
abbrev tf : List He.Defn := [("law", none)]
abbrev hk : PySem.W.Hook := He.hookX 5 fa fn [] tf exK
def ob (s : PySem.W.SharedT) : He.AlX := He.obsX 5 fa fn [] tf exK (HandSHeadRun.getT s)
theorem ob_eq (s : PySem.W.SharedT) : ob s = hk.obs s.abs := He.obsX_eq (HandSHeadRun.getT_eq s)
def loose : List Str := ["TownError", "Missing", "InvalidWord", "NothingLeft", "signs_of", "is_word", "check_words", "opposite", "shortened", "counts", "_law_begin", "_law_draw", "_law_any", "_law_same", "_law_field", "_law_why", "_law_letters", "_law_signs", "_law_back", "_law_some_word", "_law_gone_back", "_law_short", "_law_number_of", "counts_of"]
theorem run (w : World) : HandSHeadRun.RunEq R (PySem.W.view R.prog [27]) hk ob 4000 loose w := by
  intro os
  kernel_rfl
end K1
set_option maxRecDepth 100000
set_option maxHeartbeats 4000000
namespace K1
open PySem PySem.Spec PyProof.Rows L2
theorem fun_ofD {K : PySem.W.Frag} {x q : Str} {st : Stmt} {f : Addr} {fd : FuncData} (F : FunD K x q (defArgs st) (defBody st) (defScope st) [] [] f fd) : Fun K x q st f fd := by
  obtain ⟨⟨oc, od, dV, kV, doc, pm, an, cdv, ct, osl, e, lk, hcd, hd, _⟩, kp⟩ := F
  obtain rfl : dV = .none := by
    rcases hd with ⟨_, e2⟩ | ⟨e2, _⟩
    · exact e2
    · exact absurd rfl e2
  exact ⟨⟨oc, od, kV, doc, pm, an, cdv, ct, osl, e, lk, hcd⟩, kp⟩
theorem facts {w : World} {K : PySem.W.Frag} {h : Heap} {mg : Str → Option Value} {fl : Addr} (X : K.In h) (G : h.Ns mainGlobals mg) (hfa : mg ("law" : Str) = some (.ref fl)) (c : He.SaysX fa fn [] tf exK w h K) :
    LamX.LawAtS PySem.Challenge.rw_roundswap_k01_opposites_and_counts w K CX0 8 63 "_law_script" mg fl h := by
  have cD := c.t.d
  have g : ∀ x ∈ gl, mg x = some (.ref (He.ga K x)) := fun x hx => He.glo_ok X G (cD.facts (List.mem_append_left _ (List.mem_map.mpr ⟨x, hx, rfl⟩)))
  have fz : ∀ x ∈ fr, mg x = none := fun x hx => He.free_ok X G (cD.facts (List.mem_append_right _ (List.mem_map.mpr ⟨x, hx, rfl⟩)))
  have B : Bn mg := ⟨fz _ (by decide), fz _ (by decide), fz _ (by decide), fz _ (by decide), fz _ (by decide), fz _ (by decide), fz _ (by decide), fz _ (by decide), fz _ (by decide), fz _ (by decide), fz _ (by decide)⟩
  obtain ⟨e1, e2⟩ := He.ba c.more
  obtain ⟨e3, e4⟩ := He.ba e1
  obtain ⟨e5, e6⟩ := He.ba e4
  obtain ⟨e7, e8⟩ := He.ba e6
  obtain ⟨e9, e10⟩ := He.ba e8
  obtain ⟨e11, e12⟩ := He.ba e10
  have T : IwC K mg (He.ga K "InvalidWord") (He.ma K (He.ga K "InvalidWord") "__init__") := ⟨oexB_ok e3, g _ (by decide), of_decide_eq_true e7, of_decide_eq_true e9, of_decide_eq_true e11, of_decide_eq_true e12⟩
  have XC : XfC K (He.ga K "InvalidWord") := xfB_ok e5
  obtain ⟨d0, F0'⟩ := cD.def_ 0 (d := dD "signs_of" sSignsOf) rfl
  have F0 : Fun K "signs_of" "signs_of" sSignsOf (He.ga K "signs_of") d0 := fun_ofD F0'
  have b0 : Binds K d0 ["letters"] [] := F0.binds fun _ _ _ _ _ _ us hl => match us, hl with | [_], _ => rfl
  have g0 : mg "signs_of" = some (.ref (He.ga K "signs_of")) := g _ (by decide)
  obtain ⟨d1, F1'⟩ := cD.def_ 1 (d := dD "is_word" sIsWord) rfl
  have F1 : Fun K "is_word" "is_word" sIsWord (He.ga K "is_word") d1 := fun_ofD F1'
  have b1 : Binds K d1 ["word", "letters"] [] := F1.binds fun _ _ _ _ _ _ us hl => match us, hl with | [_, _], _ => rfl
  have g1 : mg "is_word" = some (.ref (He.ga K "is_word")) := g _ (by decide)
  obtain ⟨d2, F2'⟩ := cD.def_ 2 (d := dD "check_words" sCheck) rfl
  have F2 : Fun K "check_words" "check_words" sCheck (He.ga K "check_words") d2 := fun_ofD F2'
  have b2 : Binds K d2 ["words", "letters"] [] := F2.binds fun _ _ _ _ _ _ us hl => match us, hl with | [_, _], _ => rfl
  have g2 : mg "check_words" = some (.ref (He.ga K "check_words")) := g _ (by decide)
  obtain ⟨d3, F3'⟩ := cD.def_ 3 (d := dD "opposite" sOpp) rfl
  have F3 : Fun K "opposite" "opposite" sOpp (He.ga K "opposite") d3 := fun_ofD F3'
  have b3 : Binds K d3 ["word"] [] := F3.binds fun _ _ _ _ _ _ us hl => match us, hl with | [_], _ => rfl
  have g3 : mg "opposite" = some (.ref (He.ga K "opposite")) := g _ (by decide)
  obtain ⟨d4, F4'⟩ := cD.def_ 4 (d := dD "shortened" sShortened) rfl
  have F4 : Fun K "shortened" "shortened" sShortened (He.ga K "shortened") d4 := fun_ofD F4'
  have b4 : Binds K d4 ["word"] [] := F4.binds fun _ _ _ _ _ _ us hl => match us, hl with | [_], _ => rfl
  have g4 : mg "shortened" = some (.ref (He.ga K "shortened")) := g _ (by decide)
  obtain ⟨d5, F5'⟩ := cD.def_ 5 (d := dD "counts" sCounts) rfl
  have F5 : Fun K "counts" "counts" sCounts (He.ga K "counts") d5 := fun_ofD F5'
  have b5 : Binds K d5 ["word", "letters"] [] := F5.binds fun _ _ _ _ _ _ us hl => match us, hl with | [_, _], _ => rfl
  have g5 : mg "counts" = some (.ref (He.ga K "counts")) := g _ (by decide)
  obtain ⟨d6, F6'⟩ := cD.def_ 6 (d := dD "_law_begin" sBegin) rfl
  have F6 : Fun K "_law_begin" "_law_begin" sBegin (He.ga K "_law_begin") d6 := fun_ofD F6'
  have b6 : Binds K d6 ["_law_script"] [] := F6.binds fun _ _ _ _ _ _ us hl => match us, hl with | [_], _ => rfl
  have g6 : mg "_law_begin" = some (.ref (He.ga K "_law_begin")) := g _ (by decide)
  obtain ⟨d7, F7'⟩ := cD.def_ 7 (d := dD "_law_draw" sDraw) rfl
  have F7 : Fun K "_law_draw" "_law_draw" sDraw (He.ga K "_law_draw") d7 := fun_ofD F7'
  have b7 : Binds K d7 ["_law_box", "_law_many"] [] := F7.binds fun _ _ _ _ _ _ us hl => match us, hl with | [_, _], _ => rfl
  have g7 : mg "_law_draw" = some (.ref (He.ga K "_law_draw")) := g _ (by decide)
  obtain ⟨d8, F8'⟩ := cD.def_ 8 (d := dD "_law_any" sAny) rfl
  have F8 : Fun K "_law_any" "_law_any" sAny (He.ga K "_law_any") d8 := fun_ofD F8'
  have b8 : Binds K d8 ["_law_box", "_law_some"] [] := F8.binds fun _ _ _ _ _ _ us hl => match us, hl with | [_, _], _ => rfl
  have g8 : mg "_law_any" = some (.ref (He.ga K "_law_any")) := g _ (by decide)
  obtain ⟨d9, F9'⟩ := cD.def_ 9 (d := dD "_law_same" sSame) rfl
  have F9 : Fun K "_law_same" "_law_same" sSame (He.ga K "_law_same") d9 := fun_ofD F9'
  have b9 : Binds K d9 ["_law_found", "_law_due"] [] := F9.binds fun _ _ _ _ _ _ us hl => match us, hl with | [_, _], _ => rfl
  have g9 : mg "_law_same" = some (.ref (He.ga K "_law_same")) := g _ (by decide)
  obtain ⟨d10, F10'⟩ := cD.def_ 10 (d := dD "_law_field" sField) rfl
  have F10 : Fun K "_law_field" "_law_field" sField (He.ga K "_law_field") d10 := fun_ofD F10'
  have b10 : Binds K d10 ["_law_e"] [] := F10.binds fun _ _ _ _ _ _ us hl => match us, hl with | [_], _ => rfl
  have g10 : mg "_law_field" = some (.ref (He.ga K "_law_field")) := g _ (by decide)
  obtain ⟨d11, F11'⟩ := cD.def_ 11 (d := dD "_law_why" sWhy) rfl
  have F11 : Fun K "_law_why" "_law_why" sWhy (He.ga K "_law_why") d11 := fun_ofD F11'
  have b11 : Binds K d11 ["_law_ask"] [] := F11.binds fun _ _ _ _ _ _ us hl => match us, hl with | [_], _ => rfl
  have g11 : mg "_law_why" = some (.ref (He.ga K "_law_why")) := g _ (by decide)
  obtain ⟨d12, F12'⟩ := cD.def_ 12 (d := dD "_law_letters" sLetters) rfl
  have F12 : Fun K "_law_letters" "_law_letters" sLetters (He.ga K "_law_letters") d12 := fun_ofD F12'
  have b12 : Binds K d12 ["_law_box", "_law_many"] [] := F12.binds fun _ _ _ _ _ _ us hl => match us, hl with | [_, _], _ => rfl
  have g12 : mg "_law_letters" = some (.ref (He.ga K "_law_letters")) := g _ (by decide)
  obtain ⟨d13, F13'⟩ := cD.def_ 13 (d := dD "_law_signs" sSigns) rfl
  have F13 : Fun K "_law_signs" "_law_signs" sSigns (He.ga K "_law_signs") d13 := fun_ofD F13'
  have b13 : Binds K d13 ["_law_letters_here"] [] := F13.binds fun _ _ _ _ _ _ us hl => match us, hl with | [_], _ => rfl
  have g13 : mg "_law_signs" = some (.ref (He.ga K "_law_signs")) := g _ (by decide)
  obtain ⟨d14, F14'⟩ := cD.def_ 14 (d := dD "_law_back" sBack) rfl
  have F14 : Fun K "_law_back" "_law_back" sBack (He.ga K "_law_back") d14 := fun_ofD F14'
  have b14 : Binds K d14 ["_law_sign"] [] := F14.binds fun _ _ _ _ _ _ us hl => match us, hl with | [_], _ => rfl
  have g14 : mg "_law_back" = some (.ref (He.ga K "_law_back")) := g _ (by decide)
  obtain ⟨d15, F15'⟩ := cD.def_ 15 (d := dD "_law_some_word" sSome) rfl
  have F15 : Fun K "_law_some_word" "_law_some_word" sSome (He.ga K "_law_some_word") d15 := fun_ofD F15'
  have b15 : Binds K d15 ["_law_box", "_law_letters_here", "_law_most"] [] := F15.binds fun _ _ _ _ _ _ us hl => match us, hl with | [_, _, _], _ => rfl
  have g15 : mg "_law_some_word" = some (.ref (He.ga K "_law_some_word")) := g _ (by decide)
  obtain ⟨d16, F16'⟩ := cD.def_ 16 (d := dD "_law_gone_back" sGone) rfl
  have F16 : Fun K "_law_gone_back" "_law_gone_back" sGone (He.ga K "_law_gone_back") d16 := fun_ofD F16'
  have b16 : Binds K d16 ["_law_one"] [] := F16.binds fun _ _ _ _ _ _ us hl => match us, hl with | [_], _ => rfl
  have g16 : mg "_law_gone_back" = some (.ref (He.ga K "_law_gone_back")) := g _ (by decide)
  obtain ⟨d17, F17'⟩ := cD.def_ 17 (d := dD "_law_short" sShort) rfl
  have F17 : Fun K "_law_short" "_law_short" sShort (He.ga K "_law_short") d17 := fun_ofD F17'
  have b17 : Binds K d17 ["_law_one"] [] := F17.binds fun _ _ _ _ _ _ us hl => match us, hl with | [_], _ => rfl
  have g17 : mg "_law_short" = some (.ref (He.ga K "_law_short")) := g _ (by decide)
  obtain ⟨d18, F18'⟩ := cD.def_ 18 (d := dD "_law_number_of" sNumber) rfl
  have F18 : Fun K "_law_number_of" "_law_number_of" sNumber (He.ga K "_law_number_of") d18 := fun_ofD F18'
  have b18 : Binds K d18 ["_law_one", "_law_letters_here"] [] := F18.binds fun _ _ _ _ _ _ us hl => match us, hl with | [_, _], _ => rfl
  have g18 : mg "_law_number_of" = some (.ref (He.ga K "_law_number_of")) := g _ (by decide)
  obtain ⟨d19, F19'⟩ := cD.def_ 19 (d := dD "law" sLaw) rfl
  have F19 : Fun K "law" "law" sLaw (He.ga K "law") d19 := fun_ofD F19'
  have g19 : mg "law" = some (.ref (He.ga K "law")) := g _ (by decide)
  obtain rfl : fl = He.ga K "law" := by
    have e := hfa.symm.trans g19
    injection e with e
    injection e
  obtain ⟨d20, F20'⟩ := cD.def_ 20 (d := dIni) rfl
  have F20 : Fun K "__init__" "InvalidWord.__init__" sIni (He.ma K (He.ga K "InvalidWord") "__init__") d20 := fun_ofD F20'
  have b20 : Binds K d20 ["self", "at"] [] := F20.binds fun _ _ _ _ _ _ us hl => match us, hl with | [_, _], _ => rfl
  obtain ⟨d21, F21'⟩ := cD.def_ 21 (d := dD "counts_of" sCountsOf) rfl
  have F21 : Fun K "counts_of" "counts_of" sCountsOf (He.ga K "counts_of") d21 := fun_ofD F21'
  have b21 : Binds K d21 ["word", "letters"] [] := F21.binds fun _ _ _ _ _ _ us hl => match us, hl with | [_, _], _ => rfl
  have g21 : mg "counts_of" = some (.ref (He.ga K "counts_of")) := g _ (by decide)
  obtain ⟨oc, od, kV, doc, pm, an, cdv, ct, osl, rfl, lk, hcd⟩ := F19.ex
  obtain ⟨cc, rfl⟩ := He.codeIn_ref hcd
  have ec : He.codeOf K ("law", none) = cc := He.codeOf_eq (p := ("law", none)) lk rfl
  have mt : (("law" : Str), (none : Option Str)) ∈ tf := List.mem_cons_self
  refine ⟨PySem.W.fnOf "law" "law" (defArgs sLaw) (defBody sLaw) (defScope sLaw) .none kV doc pm an (.ref cc) ct, [He.cT K ("law", none)], spLaw K (He.cT K ("law", none)).2, ?_, ?_, ?_, ?_, ?_, ?_⟩
  · intro p hp
    have e : p = He.cT K ("law", none) := by simpa using hp
    rw [e]
    exact c.empty _ mt
  · intro p hp
    have e : p = He.cT K ("law", none) := by simpa using hp
    rw [e]
    exact c.out _ mt
  · intro p hp
    have e : p = He.cT K ("law", none) := by simpa using hp
    rw [e]
    exact PySem.W.codeHd_of_K X (c.hd _ mt)
  · exact fun s u => .of_eq rfl
  · intro H a ns hl _ hT hS
    exact ⟨a, ns, rfl, hS, hl, hT _ List.mem_cons_self, fun _ => rfl⟩
  · intro base KB NB TBs
    have TB := TBs _ List.mem_cons_self
    have TB' : LamX.TabB base mg cc (He.cT K ("law", none)).2 := by
      have e : (He.cT K ("law", none)).1 = cc := ec
      rw [← e]
      exact TB
    have G7 : FnOk PySem.Challenge.rw_roundswap_k01_opposites_and_counts.prog w K mg base CX0 1 _ d7 _ spDraw := ok_draw F7 B
    have G8 : FnOk PySem.Challenge.rw_roundswap_k01_opposites_and_counts.prog w K mg base CX0 2 _ d8 _ spAny := ok_any (k := 0) F8 B F7 b7 g7
    have G13 : FnOk PySem.Challenge.rw_roundswap_k01_opposites_and_counts.prog w K mg base CX0 1 _ d13 _ spSigns := ok_signs F13
    have G1 : FnOk PySem.Challenge.rw_roundswap_k01_opposites_and_counts.prog w K mg base CX0 2 _ d1 _ spIsW := ok_isw (k := 0) F1 B F0 b0 g0
    have G20 : FnOk PySem.Challenge.rw_roundswap_k01_opposites_and_counts.prog w K mg base CX0 1 _ d20 _ (spIni (He.ga K "InvalidWord")) := ok_ini F20 T
    have G2 : FnOk PySem.Challenge.rw_roundswap_k01_opposites_and_counts.prog w K mg base (L2.CX _ w) 3 _ d2 _ (spChk (He.ga K "InvalidWord")) := ok_chk (k := 0) F2 B T G1 F1.kp b1 g1 G20 b20
    have G5 : FnOk PySem.Challenge.rw_roundswap_k01_opposites_and_counts.prog w K mg base (L2.CX _ w) 4 _ d5 _ (spCnt (He.ga K "InvalidWord")) := ok_cnt (k := 0) F5 G2 F2.kp b2 g2 (ok_cof (k := 2) F21 B) F21.kp b21 g21
    exact ok_law lk hcd B ⟨ok_begin F6 B, F6.kp, b6, g6⟩ ⟨G7, F7.kp, b7, g7⟩ ⟨G8, F8.kp, b8, g8⟩
      ⟨ok_let (k := 0) F12 B G8 F8.kp b8 g8, F12.kp, b12, g12⟩ ⟨ok_some (k := 0) F15 B G8 F8.kp b8 g8 G7 F7.kp b7 g7 G13 F13.kp b13 g13, F15.kp, b15, g15⟩
      ⟨ok_opp F3, F3.kp, b3, g3⟩ ⟨ok_shd (k := 0) F4 F3 b3 g3, F4.kp, b4, g4⟩ ⟨G5, F5.kp, b5, g5⟩ ⟨G1, F1.kp, b1, g1⟩
      ⟨ok_gone (k := 0) F16 F14 b14 g14, F16.kp, b16, g16⟩ ⟨ok_short (k := 0) F17 F14 b14 g14, F17.kp, b17, g17⟩ ⟨ok_num F18 B, F18.kp, b18, g18⟩
      ⟨ok_same F9 B b9 g9 1, F9.kp, b9, g9⟩ ⟨ok_same F9 B b9 g9 2, F9.kp, b9, g9⟩
      F11 b11 g11 T XC (ok_fld (k := 0) F10 T XC) F10.kp b10 g10 (g _ (by decide)) (g _ (by decide)) (g _ (by decide)) (of_decide_eq_true e2) TB'
end K1
open PySem PySem.W PySem.Calls PyProof.Rows
set_option maxRecDepth 100000 in
set_option maxHeartbeats 0 in
theorem PySem.Challenge.cw_roundswap_k01_opposites_and_counts_holds : PySem.Challenge.rw_roundswap_k01_opposites_and_counts.Holds := by
  w_on; o_law
  refine HandSHeadRun.head_any (r := OpenLaw.row PySem.Challenge.rw_roundswap_k01_opposites_and_counts) (q := view (OpenLaw.row PySem.Challenge.rw_roundswap_k01_opposites_and_counts).prog [27]) (H := K1.hk) (ob := K1.ob) (M := 4000) (loose := K1.loose) (d := HandSHeadRun.topDef (OpenLaw.row PySem.Challenge.rw_roundswap_k01_opposites_and_counts).prog 27) (kwd := []) K1.ob_eq
    (by kernel_rfl) (fun s => by kernel_rfl) K1.run (by kernel_rfl) (by kernel_rfl) (by kernel_rfl) (by rfl) (by first | assumption | decide +kernel) (by decide +kernel) ⟨rfl, rfl, rfl, rfl, rfl, by decide +kernel⟩ ?hw ?hc
  case hw => w_witness2
  case hc =>
    refine LamX.walk_ofTsE (l := PySem.Challenge.rw_roundswap_k01_opposites_and_counts) (n := 63) (k := 8) (x := "_law_script") (CX := fun _ => L2.CX0) rfl (by decide) (by kernel_rfl) ⟨rfl, by decide, by decide⟩ ?F (fun _ _ _ _ _ z => z)
    intro w mg fa h Y G hmg0
    obtain ⟨K, KX, c⟩ := Y
    have hmg : mg ("law" : PySem.Str) = some (.ref fa) := by
      have e : (HandSHeadRun.topDef (OpenLaw.row PySem.Challenge.rw_roundswap_k01_opposites_and_counts).prog 27).name = ("law" : PySem.Str) := by kernel_rfl
      rw [← e]
      exact hmg0
    exact ⟨K, KX, K1.facts KX G hmg c⟩
