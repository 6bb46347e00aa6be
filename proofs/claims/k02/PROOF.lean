import PyProof.Rows.All
import Wide.All
import OpenK.AllK
import Wide.FinOn
import PyProof.EqAt
import PyProof.StrBlock
import PyProof.StrLawsIn
import PyProof.EqKinds
import PyProof.TupleCall
import HandS.ForMost
import HandS.Walk
import HandS.Style
import HandS.Exc
import HandS.HotCalls
import HandS.ExcField
import KE.KTryMore
import HandS.Lambda
import KE.KDflt
import HandS.Wide
import HandS.IsInst
import HandS.EndTab
import HandS.ExcInit
import HandS.Flow
import HandS.StrMore
import HandS.Codes
import HandS.EndBits
import HandS.WordsExc
import KE.DataCmp
import HandS.Replace
import PyProof.StrLawsFirst
import KE.KStateDown
import HandS.More
import HandS.Defaults
import HandS.Head0
import HandS.Head1
import HandS.Head2
import HandS.HeadEnd
import HandS.HeadHook1
import HandS.HeadHook2
import HandS.HeadHook3
import HandS.HeadHook4
import HandS.HeadWalk
import PySem.Challenge.RW_roundswap_k02_order_of_words
set_option Elab.async false
set_option linter.all false
set_option maxRecDepth 100000
set_option maxHeartbeats 2000000
/-! how often a sign stands in a text -/
namespace Cnt
open PySem PySem.StrLaws Builtin.Str
theorem loop (x : Str) (c : Nat) : ∀ (n lo : Nat) (acc : Array Nat) (free : Nat), free ≤ lo → lo + n = x.length + 1 → acc.size + n ≤ x.length + 1 →
    (forIn (List.range' lo n) (acc, free) (occBody x ⟨#[c]⟩ x.length (x.length + 1))).run.fst.size = acc.size + (x.cps.toList.drop lo).count c
  | 0, lo, acc, free, _, h2, _ => by
    have e : x.cps.toList.drop lo = [] := List.drop_eq_nil_of_le (by simp [Str.length] at h2 ⊢; omega)
    rw [e]
    rfl
  | n + 1, lo, acc, free, h1, h2, h3 => by
    rw [List.range'_succ, List.forIn_cons]
    unfold occBody
    by_cases hc : x.cps.toList[lo]? = some c
    · obtain ⟨z1, z2⟩ := (subAt_one x c lo).mpr hc
      have hp : ((acc.size < x.length + 1 ∧ free ≤ lo) ∧ lo + (⟨#[c]⟩ : Str).length ≤ x.length) ∧ subAt x ⟨#[c]⟩ lo = true := ⟨⟨⟨by omega, h1⟩, z1⟩, z2⟩
      rw [if_pos hp]
      have ih := loop x c n (lo + 1) (acc.push lo) (lo + 1) (Nat.le_refl _) (by omega) (by rw [Array.size_push]; omega)
      obtain ⟨hl, hv⟩ := List.getElem?_eq_some_iff.mp hc
      rw [List.drop_eq_getElem_cons hl, hv, List.count_cons_self]
      rw [Array.size_push] at ih
      refine Eq.trans ?_ (ih.trans (by omega))
      rfl
    · have hn : ¬ (((acc.size < x.length + 1 ∧ free ≤ lo) ∧ lo + (⟨#[c]⟩ : Str).length ≤ x.length) ∧ subAt x ⟨#[c]⟩ lo = true) := fun h => hc ((subAt_one x c lo).mp ⟨h.1.2, h.2⟩)
      rw [if_neg hn]
      have ih := loop x c n (lo + 1) acc free (by omega) (by omega) (by omega)
      have e : (x.cps.toList.drop lo).count c = (x.cps.toList.drop (lo + 1)).count c := by
        by_cases hl : lo < x.cps.toList.length
        · rw [List.drop_eq_getElem_cons hl, List.count_cons_of_ne]
          intro z
          exact hc (by rw [List.getElem?_eq_getElem hl, z])
        · rw [List.drop_eq_nil_of_le (by omega), List.drop_eq_nil_of_le (by omega)]
      rw [e]
      exact ih
theorem one (x : Str) (c : Nat) : Txt.count x ⟨#[c]⟩ = (x.cps.toList.count c : Nat) := by
  unfold Txt.count
  rw [occ_eq]
  have z := loop x c (x.length + 1) 0 #[] 0 (Nat.le_refl _) (by omega) (by simp)
  rw [Array.length_toList]
  rw [Nat.sub_zero]
  rw [z]
  simp
theorem more (x : Nat) (l : List Nat) : ∀ M : List Nat, (M.map fun c => (x :: l).count c).sum = (M.map fun c => l.count c).sum + M.count x
  | [] => rfl
  | c :: M => by
    have ih := more x l M
    simp only [List.map_cons, List.sum_cons]
    rw [ih]
    by_cases h : x = c
    · subst h
      rw [List.count_cons_self, List.count_cons_self]
      omega
    · rw [List.count_cons_of_ne h, List.count_cons_of_ne (Ne.symm h)]
      omega
theorem atmost {M : List Nat} (hM : M.Nodup) (x : Nat) : M.count x = if x ∈ M then 1 else 0 := by
  by_cases h : x ∈ M
  · rw [if_pos h]
    have h1 := List.nodup_iff_count.mp hM x
    have h2 := List.count_pos_iff.mpr h
    omega
  · rw [if_neg h]
    exact List.count_eq_zero.mpr h
theorem le {M : List Nat} (hM : M.Nodup) : ∀ l : List Nat, (M.map fun c => l.count c).sum ≤ l.length
  | [] => by
    have : ∀ M : List Nat, (M.map fun c => ([] : List Nat).count c).sum = 0 := fun M => by
      induction M with
      | nil => rfl
      | cons c M ih => simpa using ih
    rw [this]
    exact Nat.zero_le _
  | x :: l => by
    have ih := le hM l
    rw [more, atmost hM]
    simp only [List.length_cons]
    split <;> omega
/-- all signs of a text are among different ones exactly if these stand there as often as it is long -/
theorem all {M : List Nat} (hM : M.Nodup) : ∀ l : List Nat, ((M.map fun c => l.count c).sum = l.length) ↔ l.all (fun c => decide (c ∈ M)) = true
  | [] => by
    have h := le hM []
    simp at h ⊢
    omega
  | x :: l => by
    have ih := all hM l
    have h := le hM l
    rw [more, atmost hM, List.all_cons]
    simp only [List.length_cons]
    by_cases hx : x ∈ M
    · rw [if_pos hx, decide_eq_true hx, Bool.true_and, ← ih]
      omega
    · rw [if_neg hx, decide_eq_false hx, Bool.false_and]
      constructor
      · intro z; omega
      · intro z; cases z
theorem sumInt (f : Nat → Nat) : ∀ M : List Nat, (M.map fun c => ((f c : Nat) : Int)).sum = ((M.map f).sum : Nat)
  | [] => rfl
  | c :: M => by
    have ih := sumInt f M
    simp only [List.map_cons, List.sum_cons]
    rw [ih]
    omega
end Cnt
namespace Rs
open PySem PySem.Spec PyProof.Rows L2
section
variable {X : Cx}
/-! texts: swapcase, and [::-1] -/
theorem m_swapcase : MtR X "str.swapcase" (fun x xs H Q => ∃ a, x = .str a ∧ xs = [] ∧ a.length ≤ 5592405 ∧ Q (.str (Txt.swapcase a)) H) :=
  mt0 (C := fun a => a.length ≤ 5592405) (g := fun a => .str (Txt.swapcase a)) fun a _ s _ hc h => PySem.SC.swapcase (fit_swapcase hc) (h _ (s.toks + 1) ⟨_, rfl⟩)
def rv (z : Str) : Str := ⟨z.cps.reverse⟩
theorem rv_is (z : Str) (u : Tok) : Txt.sliceBy z none none (-1, u) = rv z := by
  have e := step_rev_list z u
  unfold rv
  have e2 : (Txt.sliceBy z none none (-1, u)).cps = z.cps.reverse := by
    apply Array.toList_inj.mp
    rw [e, Array.toList_reverse]
    apply List.ext_getElem?
    intro i
    rw [List.getElem?_map]
    by_cases h : i < z.cps.size
    · have hl : i < z.length := h
      rw [List.getElem?_range hl, List.getElem?_reverse (by simpa using h)]
      have h2 : z.length - 1 - i < z.cps.size := by show z.cps.size - 1 - i < _; omega
      show some _ = z.cps.toList[z.cps.size - 1 - i]?
      rw [Array.getElem?_toList]
      have h3 : z.cps.size - 1 - i < z.cps.size := h2
      rw [Array.getElem?_eq_getElem h3]
      congr 1
      show z.cps.getD (z.cps.size - 1 - i) 0 = _
      simp [Array.getD, h3]
    · have h1 : (List.range z.length)[i]? = none := by
        rw [List.getElem?_eq_none_iff, List.length_range]; exact Nat.not_lt.mp h
      rw [h1, List.getElem?_eq_none (by simpa using Nat.not_lt.mp h)]
      rfl
  cases hz : Txt.sliceBy z none none (-1, u)
  rw [hz] at e2
  dsimp only at e2
  rw [e2]
def tRevS (te : TE) : TE := fun σ H Q => te σ H fun x H1 => ∃ z, x = .str z ∧ z.length ≤ sizeLine ∧ Q (.str (rv z)) H1
theorem e_revS {e : Expr} {te : TE} {k : Nat} {p1 p2 p3 pos : Pos} (he : PE X e te) :
    PE X (.Subscript e (.Slice none none (some (.UnaryOp .USub (.Constant (.int 1) k p1) p2)) p3) pos) (tRevS te) := by
  constructor
  intro pins s σ H Q I h
  refine Subscript_ (thn (he.run pins s σ H _ I h) fun v s1 hh => ?_)
  obtain ⟨x, H1, I1, r1, z, ez, hz, q⟩ := hh
  subst ez
  obtain ⟨t, rfl⟩ := r1
  have hst : PO X (some (.UnaryOp .USub (.Constant (.int 1) k p1) p2)) (tPart (tUn (rU fun i => .int (-i)) (tC (.int 1)))) :=
    po_some (pe_un un_neg pe_int)
  refine wpAny_Slice (thn (po_none.run pins s1 σ H1 (fun o H2 => o = none ∧ H2 = H1) I1 ⟨rfl, rfl⟩) ?_)
  rintro vl s2 ⟨l, H2, I2, pl, rfl, rfl⟩
  refine thn (po_none.run pins s2 σ H2 (fun o H3 => o = none ∧ H3 = H2) I2 ⟨rfl, rfl⟩) ?_
  rintro vu s3 ⟨u, H3, I3, pu, rfl, rfl⟩
  refine thn (hst.run pins s3 σ H3 (fun o H4 => o = some (-1) ∧ H4 = H3) I3 ⟨1, rfl, -1, rfl, rfl, rfl⟩) ?_
  rintro vs s4 ⟨o, H4, I4, ps, rfl, rfl⟩
  obtain ⟨l', rfl, hl'⟩ := IsPart.raw pl
  obtain ⟨u', rfl, hu'⟩ := IsPart.raw pu
  obtain ⟨k', rfl, hk'⟩ := IsPart.raw ps
  cases l' with
  | some l' => cases hl'
  | none =>
  cases u' with
  | some u' => cases hu'
  | none =>
  cases k' with
  | none => cases hk'
  | some k' =>
  obtain ⟨kk, tk⟩ := k'
  have ek : kk = -1 := by simpa using hk'
  subst ek
  refine tail_any (ops := [.str z t, .ref s4.heap.objs.size]) (typeIs_str _ _ _) (F.slot_str_getitem.lookup) ?_ (by with_unfolding_all rfl)
  refine wpAny_getItem_str_slice (l := none) (u := none) (st := some (-1, tk)) ⟨_, Heap.get?_push_size _ rfl, rfl, rfl⟩ rfl ?_
  refine post_val_or_str ⟨Nat.le_trans (Txt.sliceBy_le z _ _ (-1, tk) (by show (-1 : Int) ≠ 0; decide)) hz, fun t' c => ?_⟩
  show EP X pins σ Q (.str (Txt.sliceBy z none none (-1, tk)) t') _
  rw [rv_is]
  exact ⟨.str (rv z), _, I4.kept fun b ob q => Heap.get?_push_of_some _ q, ⟨_, rfl⟩, q⟩
end
end Rs
set_option maxRecDepth 100000
set_option maxHeartbeats 2000000
namespace Rs
open PySem PySem.Spec PyProof.Rows L2
theorem fly_keeps {h h' Bh : Heap} {l : List Env} {a : Addr} {Z : Obj → Prop} (x : HandSPX.FlyingZ Bh l a Z h) (k : ∀ b o, h.get? b = some o → h'.get? b = some o) : HandSPX.FlyingZ Bh l a Z h' := by
  obtain ⟨x1, x2, x3, oe, vs, T, oT, ts, y1, y2, y3, y4, y5, y6, y7, y8, y9⟩ := x
  exact ⟨fun b o e => k b o (x1 b o e), x2, x3.of_keeps (fun b o e _ => ⟨o, k b o e, rfl⟩), oe, vs, T, oT, ts, k _ _ y1, y2, y3, y4, y5, y6, k _ _ y7, y8, y9⟩
/-- what «except (x1, x2, x3) as n» asks of an error of the body, where it is always one of the three -/
def wT (K : PySem.W.Frag) (cs : List Value) (i : Nat) (ts : Addr → Value → Option Addr → TS) (D : Ends) : WX := fun cls d σ H =>
  PySem.W.exmAny K cls cs = some true ∧ ∀ a, H a = none →
    ts a cls d { nx := fun σ' H' => D.nx (σ'.set i none) H', rt := D.rt, bk := fun σ' H' => D.bk (σ'.set i none) H', ct := fun σ' H' => D.ct (σ'.set i none) H' } (σ.set i (some (.ref a))) H
section
variable {X : Cx}
theorem s_try3 {x1 x2 x3 n : Str} {c1 c2 c3 : Value} {i k : Nat} {body suite : List Stmt} {b₀ : Stmt} {n1 n2 n3 tp pos pos' : Pos} {tb : WX → TS} {ts : Addr → Value → Option Addr → TS}
    (hs : X.stack = X.env :: X.outer) (hf : X.env.frame = some X.env.locals) (hN : X.N.Nodup) (hi : X.N[i]? = some n) (hln : X.env.kindOf n = some .local)
    (g1 : Gl X x1) (m1 : X.mg x1 = some c1) (g2 : Gl X x2) (m2 : X.mg x2 = some c2) (g3 : Gl X x3) (m3 : X.mg x3 = some c3)
    (hb : ∀ (W : WX) (pn : List (Addr × Obj)) (xe : Value → Shared → Prop), Takes (X.tr pn xe) W → PSs (X.tr pn xe) body (tb W))
    (hsu : ∀ (a : Addr) (oe : Obj) (cls : Value) (d : Option Addr) (pn : List (Addr × Obj)), Zc cls d oe → (∃ vs, oe.data = .fields vs) → PSs (X.suite a ((a, oe) :: pn)) (b₀ :: suite) (ts a cls d))
    (d1 : (x1 == ("__debug__" : Str)) = false := by decide) (d2 : (x2 == ("__debug__" : Str)) = false := by decide) (d3 : (x3 == ("__debug__" : Str)) = false := by decide) :
    PS X (.Try body [.ExceptHandler (some (.Tuple [.Name x1 n1, .Name x2 n2, .Name x3 n3] k tp)) (some n) (b₀ :: suite) pos'] [] [] pos) (fun D σ H => tb (wT X.K [c1, c2, c3] i ts D) D σ H) := by
  constructor
  intro pins s σ H D I h
  have ok := I.ok
  have hfra : X.A.frames = some (X.env :: X.outer) := by rw [ok.frames, hs]
  have hlc : Loc X.env.scope n := .inl hln
  refine wpAny_Try_except ?_
  refine wpAny_mono ((hb (wT X.K [c1, c2, c3] i ts D) (X.pn ++ pins)
    (fun e s₁ => wpAny (model X.prog X.w) X.A (noteFrame e X.env) (fun _ s₂ => wpAny (model X.prog X.w) X.A (setFlight e none)
      (fun _ s₃ => wpAny (model X.prog X.w) X.A (handleBy e X.env [.ExceptHandler (some (.Tuple [.Name x1 n1, .Name x2 n2, .Name x3 n3] k tp)) (some n) (b₀ :: suite) pos']) (SP X pins D) X.xe s₃) X.xe s₂) X.xe s₁)
    (fun u s' xx => ?_)).run [] s σ H D (I.toTry _) h) (fun f s1 hsp => ?_) (fun e s1 he => he)
  · obtain ⟨a, Bh, sIn, pins', σ', H', cls, d, rfl, Jt, nbk, up, sky, na, os, agn, hx, hyes⟩ := xx
    have J : Inv X pins σ' H' sIn := Jt.ofTry ok
    have skyB : Sky Bh (X.env :: X.outer) a (Zc cls d) X.env.locals s'.heap := hs ▸ sky
    show wpAny _ X.A (noteFrame (.ref a) X.env) _ _ _
    refine Sky.land Zc.steady hfra hf skyB fun hp3 fly3 ups3 => ?_
    have Jl : Inv X pins σ' H' { s' with heap := hp3 } := J.landed nbk fly3.1 (up.trans ups3) os agn
    obtain ⟨ob3, vb3, ge3, gz3, gd3⟩ := fly3.there
    have noFr : a ∉ frs (X.env :: X.outer) := fun hm => by
      obtain ⟨_, o', e', hnf⟩ := fly3.2.2.1.mem hm
      rw [ge3] at e'
      cases e'
      exact hnf _ gd3
    have noL : a ≠ X.env.locals := fun z => noFr (List.mem_filterMap.mpr ⟨X.env, List.mem_cons_self, by rw [hf, z]⟩)
    have noF : a ∉ X.fs := fun hm => by
      obtain ⟨en, hen, q⟩ := List.mem_filterMap.mp hm
      exact noFr (List.mem_filterMap.mpr ⟨en, List.mem_cons_of_mem _ hen, q⟩)
    have Su3 := Jl.suite ge3 gd3 na noL noF
    refine wpAny_handleBy_cons (codeAny_handlers_test ?_) (fun z => nomatch z)
    refine wpAny_Tuple_spliced ?_
    show wpAny _ _ (spliced [(false, eval (.Name x1 n1) X.env), (false, eval (.Name x2 n2) X.env), (false, eval (.Name x3 n3) X.env)]) _ _ _
    refine Calls.spliced_cons (ld_glob (X := X.suite a ((a, ob3) :: (X.pn ++ pins))) Su3 g1 m1 ?_ d1)
    refine Calls.spliced_cons (ld_glob (X := X.suite a ((a, ob3) :: (X.pn ++ pins))) Su3 g2 m2 ?_ d2)
    refine Calls.spliced_cons (ld_glob (X := X.suite a ((a, ob3) :: (X.pn ++ pins))) Su3 g3 m3 (Calls.spliced_nil ⟨by show 3 ≤ sizeLine; decide, ?_⟩) d3)
    have kp : ∀ b o, hp3.get? b = some o → (hp3.push { cls := .type "tuple", data := .seq [c1, c2, c3].toArray }).get? b = some o := fun b o e => Heap.get?_push_of_some _ e
    have fl4 := fly_keeps fly3 kp
    have he4 := kp _ _ ge3
    have LT : PySem.W.Looks (model X.prog X.w) (hp3.push { cls := .type "tuple", data := .seq [c1, c2, c3].toArray }) (typeOf (.ref a)) cls := fun A Q E s k q => wpAny_typeOf_ref (k _ _ he4) (by rw [gz3.1]; exact q)
    have LM := PySem.W.exm_tup3 (M := model X.prog X.w) (Jl.kIn.keeps kp) LT (Heap.get?_push_size _ rfl) hx
    refine LM.here ?_
    refine codeAny_handlers_suite_as (HandSPX.lands_againZ (s := { s' with heap := hp3.push { cls := .type "tuple", data := .seq [c1, c2, c3].toArray } }) fl4 fun h5 fl5 up5 => ?_)
    have J5 : Inv X pins σ' H' { s' with heap := h5 } := J.landed nbk fl5.1 (((up.trans ups3).trans (.of_keeps kp)).trans up5) os agn
    obtain ⟨oe5, vs5, he5, hz5, hd5⟩ := fl5.there
    have S5 := J5.suite he5 hd5 na noL noF
    refine store_ok (X := X.suite a ((a, oe5) :: (X.pn ++ pins))) (v := .ref a) S5 hN hi hlc rfl (fun s6 S6 => ?_) (.inr hln)
    refine wpAny_mono ((hsu a oe5 cls d (X.pn ++ pins) hz5 ⟨_, hd5⟩).run [] s6 _ H' _ S6 (hyes a na)) (fun f s7 hsp => ?_) (fun _ _ z => False.elim z)
    have fin : ∀ {σ7 : L2.St} {H7 : Hp} {Q : Shared → Prop}, Inv (X.suite a ((a, oe5) :: (X.pn ++ pins))) [] σ7 H7 s7 → (∀ s8, Inv X pins (σ7.set i none) H7 s8 → Q s8) →
        wpAny (model X.prog X.w) X.A (do bindName X.env n .none; unbindBehindTheSuite X.env n pos') (fun _ s8 => Q s8) X.xe s7 := fun S7 hq => gone_ok (S7.unsuite ok) hN hi hln hq
    cases f with
    | next =>
      obtain ⟨σ7, H7, S7, q7⟩ := hsp
      exact fin S7 fun s8 J8 => ⟨_, _, J8, q7⟩
    | brk =>
      obtain ⟨σ7, H7, S7, q7⟩ := hsp
      exact fin S7 fun s8 J8 => ⟨_, _, J8, q7⟩
    | cont =>
      obtain ⟨σ7, H7, S7, q7⟩ := hsp
      exact fin S7 fun s8 J8 => ⟨_, _, J8, q7⟩
    | ret u =>
      obtain ⟨v7, σ7, H7, S7, r7, q7⟩ := hsp
      exact fin S7 fun s8 J8 => ⟨_, _, _, J8, r7, q7⟩
  · cases f with
    | next =>
      obtain ⟨σ', H', Jt, q⟩ := hsp
      exact wpAny_execs_nil ⟨σ', H', Jt.ofTry ok, q⟩
    | brk =>
      obtain ⟨σ', H', Jt, q⟩ := hsp
      exact ⟨σ', H', Jt.ofTry ok, q⟩
    | cont =>
      obtain ⟨σ', H', Jt, q⟩ := hsp
      exact ⟨σ', H', Jt.ofTry ok, q⟩
    | ret u =>
      obtain ⟨v, σ', H', Jt, r, q⟩ := hsp
      exact ⟨v, σ', H', Jt.ofTry ok, r, q⟩
/-- err.f, err an error that the context holds by a pin -/
theorem e_xf {a C : Addr} {oe : Obj} {cls : Value} {d : Option Addr} {e : Expr} {te : TE} {pos : Pos} {n : Str} (T : XfC X.K C) (hno : PySem.W.findIn X.K (.ref C) n = some none)
    (hz : Zc cls d oe) (hf : ∃ vs, oe.data = .fields vs) (hp : (a, oe) ∈ X.pn) (he : PE X e te) (hb : attributeBase e n X.env (eval e X.env) = eval e X.env := by rfl) :
    PE X (.Attribute e n pos) (tXf a cls d C n te) := by
  constructor
  intro pins s σ H Q I h
  refine attr_of hb (thn (he.run pins s σ H _ I h) ?_)
  rintro u s1 ⟨x, H1, I1, rx, rfl, rfl, dd, fs, v, rfl, ea, l, q⟩
  obtain rfl : u = .ref a := rx
  obtain ⟨ha, _⟩ := I1.pin (a, oe) (List.mem_append_left _ hp)
  obtain ⟨vs, hd⟩ := hf
  obtain ⟨mAt, hnsp, hr⟩ := (show ObjOk X.prog X.w H1 s1.heap dd (.xd fs) from I1.hok dd _ ea)
  obtain ⟨odo, hod, hl⟩ := lookIn_ns hnsp
  obtain ⟨u, hu, ruv⟩ := RelO.some_of (v := v) (o := mAt n) (by rw [← l]; exact hr n)
  have J : PySem.W.InstAt s1.heap a oe C (some odo) := ⟨ha, hz.1, by unfold PySem.W.notCls; rw [hd] <;> rfl, by rw [hz.2]; exact hod⟩
  exact HandSPX.exc_get I1.kIn J T.ga T.gg T.exC (PySem.W.findObj_own T.hdC hno rfl (by rw [hl, hu])) (handed_of ruv) ⟨v, H1, I1.tok _, ruv, q⟩
end
/-- a def's promise where an error p is handled and handed on -/
structure FnPin (P : Program) (w : World) (K : PySem.W.Frag) (mg : Str → Option Value) (base : Heap) (k : Nat) (f : Addr) (fd : FuncData) (ps : List Str) (sp : Addr × Obj → Sp) : Prop where
  len : ∀ p vs H Q E, sp p vs H Q E → vs.length = ps.length
  run : ∀ (A : Around) (outer : List Env) (s : Shared) (H : Hp) (us : List Value) (vs : List V) (Q : VK) (p : Addr × Obj), L2H.RoomH k A → L2H.PinOk outer H s p → Env0 P w K mg base A outer s H →
    BindsTo s fd ⟨us, []⟩ (ps.zip us) → Vals vs us → sp p vs H Q E0 → codeAny (model P w) A (.call (.ref f) ⟨us, []⟩) (CR CX0 outer P w H s Q E0) s
theorem fn_pin {P : Program} {w : World} {K : PySem.W.Frag} {mg : Str → Option Value} {base : Heap} {k : Nat} {f : Addr} {fd : FuncData} {name : Str} {st : Stmt} {N ps : List Str} {sp : Addr × Obj → Sp} (F : Fun K name name st f fd) (S : FnScope N ps (defScope st))
    (len : ∀ p vs H Q E, sp p vs H Q E → vs.length = ps.length)
    (hbody : ∀ (cdv : Value) (A : Around) (outer : List Env) (s : Shared) (H : Hp) (vs : List V) (Q : VK) (p : Addr × Obj), L2H.RoomH k (A.deeper (envOfC name (defScope st) s.heap.objs.size f cdv)) → sp p vs H Q E0 →
      ∃ t, PSs (L2H.cxH CX0 P w K mg base N name (defScope st) f cdv A outer s H E0 p).nox (defBody st) t ∧ t { nx := fun _ H' => Q .non H', rt := Q } (L2.start N vs) H) :
    FnPin P w K mg base (k + 1) f fd ps sp := by
  obtain ⟨oc, odo, kV, doc, pm, an, cdv, ct, osl, rfl, lk, hcd⟩ := F.ex
  refine ⟨len, fun A outer s H us vs Q p hr hpin e0 hb r hsp => ?_⟩
  have hl := len _ _ _ _ _ hsp
  have Kin : K.In s.heap := e0.mod.kin.keeps fun b o e => (e0.bs b o e).1
  have lmt : s.heap.NoLimit := e0.mod.nolimit.keeps fun b o e => (e0.bs b o e).1
  have hkd : ∀ y ∈ ps.zip us, (defScope st).names.lookup y.1 = some .local ∨ ((defScope st).names.lookup y.1 = some .cell ∧ ((cellsFrom (s.heap.objs.size + 1) (defScope st).names []).lookup y.1).isSome = true) := by
    rintro ⟨n, v⟩ hy
    exact (S.par n (List.of_mem_zip hy).1).elim (fun q => .inl q) (fun q => .inr ⟨q, PySem.W.cellsFrom_some _ _ _ (.inl q)⟩)
  refine codeAny_call_function hr.depth (Kin _ _ lk) rfl S.co S.gen rfl (PySem.W.codeRec_of Kin hcd) (hb _ _ _ _ ?_)
  refine wpAny_newFunctionEnv_cells S.kind hkd fun env he s1 x => ?_
  subst he
  refine ⟨lmt.keeps x.toInCall.keep, codeAny_func ?_⟩
  obtain ⟨t, ht, hq⟩ := hbody cdv A outer s H vs Q p (hr.deeper _) hsp
  have I : Inv (L2H.cxH CX0 P w K mg base N name (defScope st) f cdv A outer s H E0 p) [] (L2.start N vs) H s1 := L2H.inv_startH S hpin e0 hl r x
  refine wpAny_mono (ht.nox.run [] s1 (L2.start N vs) H _ I hq) (fun fl s' hs => ?_) fun e s' hs => hs
  cases fl with
  | ret u =>
    obtain ⟨v, σ', H', Jn, rv, q⟩ := hs
    exact ⟨v, H', Jn.os, Jn.bare, Jn.base, Jn.hok, rv, q⟩
  | next =>
    obtain ⟨σ', H', J, q⟩ := hs
    exact ⟨.non, H', J.os, J.bare, J.base, J.hok, rfl, q⟩
  | brk =>
    obtain ⟨_, _, _, q⟩ := hs
    exact False.elim q
  | cont =>
    obtain ⟨_, _, _, q⟩ := hs
    exact False.elim q
theorem e_callP {X : Cx} {k : Nat} {f : Addr} {fd : FuncData} {ps : List Str} {sp : Addr × Obj → Sp} {p : Addr × Obj} {x : Str} {e : Expr} {es : List Expr} {t : TA} {q pos : Pos} (F : FnPin X.prog X.w X.K X.mg X.base k f fd ps sp) (hr : L2H.RoomH k X.A) (hp : p ∈ X.pn) (hg : Gl X x) (hm : X.mg x = some (.ref f))
    (hk : PySem.W.keepIn X.K (.ref f) = true) (hb : Binds X.K fd ps []) (ha : PA X (e :: es) t) (hdb : (x == ("__debug__" : Str)) = false := by decide)
    (he : starEach (e :: es) X.env = (false, eval e X.env) :: starEach es X.env := by rfl) (hpl : (backTo pos (starEach es X.env)).any (·.1) = false := by rfl) : PE X (.Call (.Name x q) (e :: es) [] pos) (tCall (sp p) [] E0 t) := by
  constructor
  intro pins s σ H Q I h
  refine wpAny_Call_Name_kw (ld_glob I hg hm (PySem.W.callWith_K (h₀ := X.base) I.ok.mod.kin hk (thn (ha.run pos pins s σ H _ I h) ?_) he hpl) hdb)
  rintro us s1 ⟨vs, H1, I1, r, q⟩
  refine ⟨I1.kIn, ?_⟩
  rw [List.append_nil] at q
  have hl : us.length = ps.length := by rw [← r.length]; exact F.len _ _ _ _ _ q
  have b := hb s1 us I1.kIn (by rw [List.append_nil]; exact hl)
  rw [List.append_nil] at b
  have P1 := I1.pin p (List.mem_append_left _ hp)
  have hpin : L2H.PinOk X.stack H1 s1 p := ⟨P1.1, P1.2.1, fun hm => (List.mem_cons.mp (I1.stkSub p.1 hm)).elim P1.2.2.1 P1.2.2.2.1, P1.2.2.2.2⟩
  refine wpAny_call (codeAny_mono (F.run X.A X.stack s1 H1 us vs Q p hr hpin I1.env0 b r q) fun r s' hq => ?_)
  cases r with
  | error er => exact False.elim hq
  | ok fl =>
    cases fl with
    | ret u => exact I1.after hq
    | next => exact False.elim hq
    | brk => exact False.elim hq
    | cont => exact False.elim hq
end Rs
set_option maxRecDepth 100000
set_option maxHeartbeats 2000000
namespace Rs
open PySem PySem.Spec PyProof.Rows L2
/-! a comprehension whose element knows what holds of the def around it -/
section
variable {X : Cx}
/-- whoever is right within the block is right for the def -/
def Up (X : Cx) (Z : Cx) (pins : List (Addr × Obj)) (σ : L2.St) : Prop := ∀ (pz : List (Addr × Obj)) (τ : L2.St) (G : Hp) (z : Shared), Inv Z pz τ G z → Inv X pins σ G z
theorem up_blk {pins : List (Addr × Obj)} {s : Shared} {σ : L2.St} {H : Hp} {sco : Scope} {ce : Env} {fp : List Addr} (I : Inv X pins σ H s) (ok : ∀ b ∈ fp, FpOk X pins H b ∧ b < s.heap.objs.size) : Up X (X.blk s H sco ce fp) pins σ := by
  intro pz τ G z J
  refine I.call' (ch := fp) J.os J.base J.hok J.bare fun b hb => ?_
  obtain ⟨⟨_, x2, _, x4, x5, x6⟩, _⟩ := ok b hb
  exact ⟨x4, x2, x5, x6⟩
/-- the block's own run: its list stands at D -/
theorem blk_run {pins : List (Addr × Obj)} {s : Shared} {σ : L2.St} {H : Hp} {Q : VK} {elt tg it0 : Expr} {cs : List Expr} {sco : Scope} {own : List (Str × Nat)} {pos : Pos} {J : It} {g : TG} {tt : TT} {te : TE} {it D : Addr} {fp : List Addr} {tn : Nat → Heap → Prop} {W : Nat → Nat → Hp → Prop} {m0 : Nat} {R : Result → Shared → Prop}
    (hc : X.calm = true) (nd : X.N.Nodup) (I : Inv X pins σ H s) (bo : BlkOk X.N X.env.scope sco own) (ok : ∀ b ∈ fp, FpOk X pins H b ∧ b < s.heap.objs.size) (T : Turn X.prog X.w X.K tg J fp it tn) (st : tn 0 s.heap) (w0 : W 0 m0 H)
    (hg : ∀ z G C cl fp, PG (X.blk z G sco (compEnvC sco cl C X.env) fp) tg g) (ht : ∀ z G C cl fp, PTs (X.blk z G sco (compEnvC sco cl C X.env) fp) cs tt)
    (he : ∀ z G C cl fp, Up X (X.blk z G sco (compEnvC sco cl C X.env) fp) pins σ → PE (X.blk z G sco (compEnvC sco cl C X.env) fp) elt te)
    (turn : ∀ i m G, W i m G → (J.stop i G ∧ Q (.ref D) G) ∨ (J.go i G ∧ ∃ Nx : Hp → Prop, (∀ G', Nx G' → ∃ m', m' < m ∧ W (i + 1) m' G') ∧ ∀ x G', J.yld i G x G' → g x (wipe σ (own.map (·.2))) G' fun τ G2 => wipe τ (own.map (·.2)) = wipe σ (own.map (·.2)) ∧ tt τ G2 fun b G3 =>
      if b = true then te τ G3 fun y G4 => ∃ acc, G4 D = some (.lst acc) ∧ acc.length < sizeLine ∧ Nx (upd G4 D (.lst (acc ++ [y]))) else Nx G3))
    (out : ∀ z m G, Inv X pins σ G z → Q (.ref D) G → z.heap.Ns s.heap.objs.size m → FpOk X pins G s.heap.objs.size → R (.ok .next) z) :
    codeAny (model X.prog X.w) X.A (.compStart (.ListComp elt [⟨tg, it0, cs, 0⟩] sco pos) 0 (.ref it) (.ref D) (compEnvC sco (cellsFrom (s.heap.objs.size + 1) sco.names (cloFrom X.env.cells sco.names [])) s.heap.objs.size X.env)) R
      { s with heap := pushCells (s.heap.push { cls := .type "dict", data := .dict #[] }) sco.names } := by
  have B0 := block_start I bo nd ok
  have st' : tn 0 (pushCells (s.heap.push { cls := .type "dict", data := .dict #[] }) sco.names) := T.keep _ _ _ st (by intro b _ o e; exact pushCells_keeps _ _ _ _ (Heap.get?_push_of_some _ e))
  have pg := hg s H s.heap.objs.size (cellsFrom (s.heap.objs.size + 1) sco.names (cloFrom X.env.cells sco.names [])) fp
  have pt := ht s H s.heap.objs.size (cellsFrom (s.heap.objs.size + 1) sco.names (cloFrom X.env.cells sco.names [])) fp
  have pe := he s H s.heap.objs.size (cellsFrom (s.heap.objs.size + 1) sco.names (cloFrom X.env.cells sco.names [])) fp (up_blk I ok)
  have eL : (compEnvC sco (cellsFrom (s.heap.objs.size + 1) sco.names (cloFrom X.env.cells sco.names [])) s.heap.objs.size X.env).locals = s.heap.objs.size := rfl
  generalize compEnvC sco (cellsFrom (s.heap.objs.size + 1) sco.names (cloFrom X.env.cells sco.names [])) s.heap.objs.size X.env = ce at *
  generalize hs4 : ({ s with heap := pushCells (s.heap.push { cls := .type "dict", data := .dict #[] }) sco.names } : Shared) = s4 at B0 ⊢
  have st4 : tn 0 s4.heap := by
    rw [← hs4]
    exact st'
  -- the iterator's objects, seen from the block
  have fit : ∀ {τ : L2.St} {G : Hp} {z : Shared}, Inv (X.blk s H sco ce fp) [] τ G z → (∀ b ∈ fp, G b = none) → ∀ b ∈ fp, FpOk (X.blk s H sco ce fp) [] G b := by
    intro τ G z Iz hn b hb
    have e1 := Iz.ok.exf b hb
    refine ⟨hn b hb, e1.1, Iz.ok.exfs b hb, .inl hb, fun x c => e1.2 x c, ?_⟩
    intro p hp
    cases hp
  have loop : codeAny (model X.prog X.w) X.A (.compLoop (.ListComp elt [⟨tg, it0, cs, 0⟩] sco pos) 0 (.ref it) (.ref D) ce) R s4 := by
    apply compLoop_any (fun n z => ∃ i G, Inv (X.blk s H sco ce fp) [] (wipe σ (own.map (·.2))) G z ∧ tn i z.heap ∧ (∀ b ∈ fp, G b = none) ∧ W i n G) _ m0 ⟨0, H, B0, st4, fun b hb => (ok b hb).1.1, w0⟩
    rintro n s5 ⟨i, G5, I5, st5, n5, w5⟩
    cases turn i n G5 w5 with
    | inl h =>
      have td := T.done (X.blk s H sco ce fp) rfl rfl rfl hc i [] s5 _ G5 (fun _ _ => False) I5 (fit I5 n5) st5 h.1
      refine thnF td ?_
      rintro r s6 ⟨rfl, I6⟩
      have nC : G5 s.heap.objs.size = none := by
        rw [← eL]
        exact I6.free
      obtain ⟨m, hm, _⟩ := I6.loc
      refine out s6 m G5 (up_blk I ok _ _ _ _ I6) h.2 ?_ (I.fpOk (Nat.le_refl _) nC)
      rw [← eL]
      exact hm
    | inr h =>
      obtain ⟨go, Nx, hNx, step⟩ := h
      have ti := T.item (X.blk s H sco ce fp) rfl rfl rfl hc i [] s5 _ G5 (fun _ _ => False) I5 (fit I5 n5) st5 go
      refine thnF ti ?_
      rintro r s6 ⟨u, rfl, h6⟩
      refine thnF h6 ?_
      rintro _ s7 ⟨x, G7, I7, r7, y7, st7, n7⟩
      refine thnF (pg.run _ s7 _ G7 x u _ (I7.pinned (fit I7 n7) (T.obj _ _ st7)) r7 (step x G7 y7)) ?_
      rintro _ s8 ⟨τ, G8, I8, ew, q8⟩
      refine thnF (pt.run _ s8 τ G8 _ I8 q8) ?_
      rintro b s9 ⟨G9, I9, q9⟩
      have fin : ∀ {z : Shared} {G : Hp}, Inv (X.blk s H sco ce fp) ([] ++ pinsAt fp s7.heap) τ G z → Nx G → ∃ m, m < n ∧ ∃ i G, Inv (X.blk s H sco ce fp) [] (wipe σ (own.map (·.2))) G z ∧ tn i z.heap ∧ (∀ b ∈ fp, G b = none) ∧ W i m G := by
        intro z G Iz nx
        obtain ⟨m', hm, w'⟩ := hNx G nx
        have pin : ∀ b ∈ fp, ∀ o, s7.heap.get? b = some o → z.heap.get? b = some o ∧ G b = none := by
          intro b hb o e
          have q := Iz.pin (b, o) (List.mem_append_right _ (List.mem_append_right _ (mem_pinsAt hb e)))
          exact ⟨q.1, q.2.1⟩
        refine ⟨m', hm, i + 1, G, ?_, T.keep _ _ _ st7 (fun b hb o e => (pin b hb o e).1), ?_, w'⟩
        · apply (Iz.unpinned (pins := [])).weak
          · rw [← ew, wipe_length]
          · intro j v e
            rw [← ew] at e
            exact (wipe_some e).1
        · intro b hb
          obtain ⟨o, e, _⟩ := T.obj _ _ st7 b hb
          exact (pin b hb o e).2
      cases b with
      | false =>
        rw [if_neg (by decide)] at q9 ⊢
        exact fin I9 q9
      | true =>
        rw [if_pos rfl] at q9 ⊢
        refine thnF (pe.run _ s9 τ G9 _ I9 q9) ?_
        rintro v s10 ⟨y, G10, I10, r10, acc, hD, hz, nx⟩
        exact app_ok (X := X.blk s H sco ce fp) I10 hD hz r10 fun s11 I11 => fin I11 nx
  exact codeAny_compStart_list loop (T.self X.A 0 _ _ _ st4 loop)
theorem lc_up {pins : List (Addr × Obj)} {s : Shared} {σ : L2.St} {H : Hp} {Q : VK} {elt tg it0 : Expr} {cs : List Expr} {sco : Scope} {own : List (Str × Nat)} {pos p2 : Pos} {wi : TI} {g : TG} {tt : TT} {te : TE} {use : Option (Value → Sem Unit)} {Qf : Value → Shared → Prop}
    (hc : X.calm = true) (nd : X.N.Nodup) (I : Inv X pins σ H s) (hi : PI X tg it0 wi) (bo : BlkOk X.N X.env.scope sco own)
    (hg : ∀ z G C cl fp, PG (X.blk z G sco (compEnvC sco cl C X.env) fp) tg g) (ht : ∀ z G C cl fp, PTs (X.blk z G sco (compEnvC sco cl C X.env) fp) cs tt)
    (he : ∀ z G C cl fp, Up X (X.blk z G sco (compEnvC sco cl C X.env) fp) pins σ → PE (X.blk z G sco (compEnvC sco cl C X.env) fp) elt te)
    (hs : ∀ x, foldedSetIterable it0 X.env x = pure x) (hq : tLc wi g tt te (own.map (·.2)) σ H Q)
    (out : ∀ D C z m G, Inv X pins σ G z → Q (.ref D) G → z.heap.Ns C m → FpOk X pins G C → compPost (model X.prog X.w) X.A X.xe use Qf (.ref D) C (.ok .next) z) :
    wpAny (model X.prog X.w) X.A (comprehension (.ListComp elt [⟨tg, it0, cs, 0⟩] sco pos) sco X.env p2 (newList []) false (eval it0 X.env) use) Qf X.xe s := by
  have fr : ∀ y ∈ sco.names, y.2 = .free → ∃ c, X.env.cells.lookup y.1 = some c := by
    intro y hy e
    exact (bo.free y hy e).elim (fun k => I.ok.has _ (.inl k)) (fun k => I.ok.has _ (.inr k))
  apply wpAny_comprehension_free (use := use) rfl hs (closure_ok fr) bo.kind (by intro y hy e; rw [bo.uniq y hy, e])
  refine thn (hi.run pins s σ H _ I hq) ?_
  intro xv s1 hx
  refine thn hx ?_
  rintro _ s2 ⟨it, fp, tn, J, H2, rfl, I2, T, st2, f2, q⟩
  refine wpAny_newObj_type (newEnv_comp ?_) (by show 0 ≤ sizeLine; decide)
  have nD : H2 s2.heap.objs.size = none := I2.hok.fresh (Nat.le_refl _)
  obtain ⟨W, ⟨m0, w0⟩, turn⟩ := q s2.heap.objs.size nD
  have I3 := I2.laid (t' := s2.toks) (h' := s2.heap.push { cls := .type "list", data := .seq ([] : List Value).toArray }) (a := s2.heap.objs.size) (o := .lst []) (fun b o e => Heap.get?_push_of_some _ e) (Nat.le_refl _) ⟨Nat.zero_le _, [], 0, .nil, Heap.get?_push_size _ rfl⟩
  have f3 : ∀ b ∈ fp, FpOk X pins (upd H2 s2.heap.objs.size (.lst [])) b ∧ b < (s2.heap.push { cls := .type "list", data := .seq ([] : List Value).toArray }).objs.size := by
    intro b hb
    obtain ⟨o, e, _⟩ := T.obj _ _ st2 b hb
    have hlt := Heap.lt_size e
    refine ⟨⟨?_, (f2 b hb).2⟩, by rw [Heap.size_push]; exact Nat.lt_succ_of_lt hlt⟩
    rw [upd_ne (Nat.ne_of_lt hlt)]
    exact (f2 b hb).1
  exact blk_run hc nd I3 bo f3 T (T.keep _ _ _ st2 fun b _ o e => Heap.get?_push_of_some _ e) w0 hg ht he turn (fun z m G Iz qz hm hf => out _ _ z m G Iz qz hm hf)
/-- as a value -/
theorem e_lcUp {elt tg it0 : Expr} {cs : List Expr} {sco : Scope} {own : List (Str × Nat)} {pos : Pos} {wi : TI} {g : TG} {tt : TT} {te : L2.St → TE} (hc : X.calm = true) (nd : X.N.Nodup) (hi : PI X tg it0 wi) (bo : BlkOk X.N X.env.scope sco own)
    (hg : ∀ z G C cl fp, PG (X.blk z G sco (compEnvC sco cl C X.env) fp) tg g) (ht : ∀ z G C cl fp, PTs (X.blk z G sco (compEnvC sco cl C X.env) fp) cs tt)
    (he : ∀ pins σ z G C cl fp, Up X (X.blk z G sco (compEnvC sco cl C X.env) fp) pins σ → PE (X.blk z G sco (compEnvC sco cl C X.env) fp) elt (te σ)) (hs : ∀ x, foldedSetIterable it0 X.env x = pure x := by intro _; rfl) :
    PE X (.ListComp elt [⟨tg, it0, cs, 0⟩] sco pos) (fun σ H Q => tLc wi g tt (te σ) (own.map (·.2)) σ H Q) := by
  constructor
  intro pins s σ H Q I hq
  rw [eval_ListComp]
  apply lc_up hc nd I hi bo hg ht (he pins σ) hs hq
  rintro D C z m G Iz qz hm ⟨f0, f1, _, f3, f4, f5⟩
  refine ⟨m, hm, fun h2 sb => ⟨.ref D, G, ?_, rfl, qz⟩⟩
  exact Iz.turned (t' := z.toks) (fun b o hb e => (sb.2 b hb).trans e) f0 f1 f3 f4 f5
end
end Rs
set_option maxRecDepth 100000
set_option maxHeartbeats 2000000
namespace Rs
open PySem PySem.Spec PyProof.Rows L2
/-! ### lambdas that are kept: their objects are told of the heap -/
/-- a function's object, held as it is -/
def FnO (f : Addr) (o : Obj) : HO := .ext fun h => h.get? f = some o
theorem fnO_tbl {f : Addr} {o : Obj} (ps : Array Value) : FnO f o ≠ .tbl ps := by
  intro z
  unfold FnO at z
  cases z
theorem fnO_ok {P : Program} {w : World} {H : Hp} {h : Heap} {f : Addr} {o : Obj} (e : h.get? f = some o) : ObjOk P w H h f (FnO f o) := ⟨e, ⟨o, e⟩, fun _ _ p st => st _ p⟩
/-- the names of a lambda: parameters that the def around has no slot for, captured ones, globals -/
structure LamQ (N : List Str) (sc scope : Scope) : Prop where
  kind : scope.kind = .function
  co : scope.isCoroutine = false
  gen : scope.isGenerator = false
  cel : ∀ y ∈ scope.names, y.2 ≠ .cell
  loc : ∀ y ∈ scope.names, y.2 = .local → y.1 ∉ N
  free : ∀ n ∈ scope.names, n.2 = .free →
    sc.names.lookup n.1 = some .cell ∨ sc.names.lookup n.1 = some .free
def lamQB (N : List Str) (sc scope : Scope) : Bool := decide (scope.kind = .function) && (!scope.isCoroutine && (!scope.isGenerator && scope.names.all fun y => decide (y.2 ≠ .cell) && (decide (y.2 = .local → y.1 ∉ N) && decide (y.2 = .free → (sc.names.lookup y.1 = some .cell ∨ sc.names.lookup y.1 = some .free)))))
theorem lamQ_by {N : List Str} {sc scope : Scope} (h : lamQB N sc scope = true) : LamQ N sc scope := by
  unfold lamQB at h
  rw [Bool.and_eq_true, Bool.and_eq_true, Bool.and_eq_true, List.all_eq_true] at h
  obtain ⟨h1, h2, h3, h4⟩ := h
  have q : ∀ y ∈ scope.names, y.2 ≠ .cell ∧ (y.2 = .local → y.1 ∉ N) ∧ (y.2 = .free → (sc.names.lookup y.1 = some .cell ∨ sc.names.lookup y.1 = some .free)) := by
    intro y hy
    have z := h4 y hy
    rw [Bool.and_eq_true, Bool.and_eq_true] at z
    exact ⟨of_decide_eq_true z.1, of_decide_eq_true z.2.1, of_decide_eq_true z.2.2⟩
  exact ⟨of_decide_eq_true h1, by simpa using h2, by simpa using h3, fun y hy => (q y hy).1, fun y hy => (q y hy).2.1, fun y hy => (q y hy).2.2⟩
/-- the defaults' tuple, in the heap and in what is told of it -/
def DflAt (params : Arguments) (dV : Value) (h : Heap) : Prop := (params.defaults = [] ∧ dV = .none) ∨ ∃ (t : Addr) (its : List Value), dV = .ref t ∧ IsTup h t its.toArray ∧ its.length = params.defaults.length ∧ params.defaults ≠ []
def DflH (params : Arguments) (dV : Value) (H : Hp) : Prop := (params.defaults = [] ∧ dV = .none) ∨ ∃ (t : Addr) (vs : List V), dV = .ref t ∧ H t = some (.tup vs) ∧ vs.length = params.defaults.length ∧ params.defaults ≠ []
/-- the lambda stands at f, made in the def of X -/
def LamAt (X : Cx) (params : Arguments) (body : Expr) (scope : Scope) (f : Addr) (H : Hp) : Prop := ∃ (c' : Addr) (dV doc pm ctv : Value),
  H f = some (FnO f (PySem.W.kdv_obj "<lambda>" (X.env.qual ++ "<lambda>") params (.expr body) scope (cloFrom X.env.cells scope.names []) dV doc pm c' ctv)) ∧ H c' = some (LamX.CodeO c' (X.env.qual ++ "<lambda>")) ∧ DflH params dV H
/-- all stays that is neither a table of code nor at b -/
def StN (b : Addr) (H H' : Hp) : Prop := ∀ x o, x ≠ b → H x = some o → (∀ ps, o ≠ .tbl ps) → H' x = some o
theorem LamAt.go {X : Cx} {params : Arguments} {body : Expr} {scope : Scope} {f : Addr} {H H' : Hp} (l : LamAt X params body scope f H) (e : ∀ x o, H x = some o → (∀ ps, o ≠ .tbl ps) → (∀ xs, o ≠ .lst xs) → H' x = some o) : LamAt X params body scope f H' := by
  obtain ⟨c', dV, doc, pm, ctv, h1, h2, h3⟩ := l
  refine ⟨c', dV, doc, pm, ctv, e _ _ h1 fnO_tbl (fun xs z => by unfold FnO at z; cases z), e _ _ h2 LamX.codeO_ne (fun xs z => by unfold LamX.CodeO at z; cases z), ?_⟩
  rcases h3 with h3 | ⟨t, vs, e1, e2, e3⟩
  · exact .inl h3
  · exact .inr ⟨t, vs, e1, e _ _ e2 (fun ps z => by cases z) (fun ps z => by cases z), e3⟩
section
variable {X : Cx} {s s1 : Shared} {H HZ : Hp} {σ : L2.St} {pins : List (Addr × Obj)}
/-- the lambda's frame, entered at s1; what the def around knew at s holds of the captured names -/
theorem lam_in {A : Around} {outer : List Env} {E : XK} {scope : Scope} {f c' : Addr} {h₁ : Heap} {tk : Nat} {m : Str → Option Value} (I : Inv X pins σ H s) (L : LamQ X.N X.env.scope scope) (e0 : Env0 X.prog X.w X.K X.mg X.base A outer s1 HZ) (hd : A.handled = none)
    (un : Un (frs X.stack) [] H HZ s.heap s1.heap) (hns : h₁.Ns s1.heap.objs.size m) (kp : ∀ b o, s1.heap.get? b = some o → h₁.get? b = some o) :
    Inv (LamX.lamCx X A outer s1 HZ E scope f c') [] σ HZ { s1 with heap := h₁, toks := tk } := by
  have fr : ∀ y ∈ scope.names, y.2 = .free → ∃ c, X.env.cells.lookup y.1 = some c := by
    intro y hy e
    exact (L.free y hy e).elim (fun k => I.ok.has _ (.inl k)) (fun k => I.ok.has _ (.inr k))
  have got : ∀ {y : Str} {c : Addr}, (cloFrom X.env.cells scope.names []).lookup y = some c → X.env.cells.lookup y = some c := by
    intro y c e
    have cm := cloFrom_mem (PySem.mem_of_lookup e)
    rcases cm with hm | ⟨h1, h2⟩
    · cases hm
    · obtain ⟨c1, hc1⟩ := fr _ h1 rfl
      dsimp only at hc1
      rw [hc1] at h2
      rw [hc1, h2]
      rfl
  have has : ∀ {y : Str}, scope.names.lookup y = some .free → ∃ c, (cloFrom X.env.cells scope.names []).lookup y = some c := by
    intro y hl
    exact mem_lookup (cloFrom_has (acc := []) (PySem.mem_of_lookup hl))
  have cel : ∀ {c : Addr} {v : Option Value}, H c = none → s.heap.IsCell c v → h₁.IsCell c v := by
    rintro c v n ⟨o, ho, hd⟩
    obtain ⟨sl, q⟩ := un.any ho n (by simp)
    exact ⟨_, kp _ _ q, hd⟩
  have none_ex : ∀ b : Addr, b ∉ (LamX.lamCx X A outer s1 HZ E scope f c').ex := by
    intro b hb
    cases hb
  constructor
  case ok =>
    constructor
    case mod => exact e0.mod
    case kind => exact L.kind
    case glob => rfl
    case blt => rfl
    case above => exact Nat.le_refl _
    case inj => exact fun y z c e1 e2 => I.ok.inj y z c (got e1) (got e2)
    case has =>
      intro y hy
      rcases hy with hy | hy
      · exact absurd rfl (L.cel _ (PySem.mem_of_lookup hy))
      · exact has hy
    case cab => exact fun y c z _ => nomatch (show false = true from z)
    case hd => exact fun _ => hd
    case frames => exact Around.frames_deeper e0.frames
    case stk => exact .inr ⟨rfl, rfl⟩
    case exf => exact fun b z => absurd z (none_ex b)
    case bs => exact e0.bs
    case bsz => exact e0.bsz
    case noex => exact fun b _ _ => none_ex b
    case exfs => exact fun b z => absurd z (none_ex b)
    case funs => exact e0.funs
    case frf => exact e0.frf
  case os => rfl
  case bare => exact e0.bare
  case base => exact Un.kept kp
  case loc =>
    refine ⟨m, hns, ?_⟩
    intro i y v e1 e2 e3
    rcases e3 with k | k | k
    · exact absurd (List.mem_of_getElem? e1) (L.loc _ (PySem.mem_of_lookup k) rfl)
    · exact absurd rfl (L.cel _ (PySem.mem_of_lookup k))
    · have kk : scope.names.lookup y = some .free := k
      have src := L.free _ (PySem.mem_of_lookup kk) rfl
      dsimp only at src
      obtain ⟨_, _, hl⟩ := I.loc
      obtain ⟨u, r, q⟩ := hl i y v e1 e2 (src.elim (fun k => .inr (.inl k)) (fun k => .inr (.inr k)))
      obtain ⟨c2, h2⟩ := has kk
      refine ⟨u, r, .inr ⟨.inr kk, c2, h2, ?_⟩⟩
      have c1 := got h2
      rcases q with ⟨k', _⟩ | ⟨_, c3, e', z⟩
      · have k' : X.env.scope.names.lookup y = some .local := k'
        rcases src with k2 | k2 <;> rw [k'] at k2 <;> cases k2
      · rw [c1] at e'
        cases e'
        exact cel (I.freeC y _ c1) z
  case cell =>
    intro y c e
    obtain ⟨u, z⟩ := I.cell y c (got e)
    exact ⟨u, cel (I.freeC y c (got e)) z⟩
  case free => exact e0.hok.fresh (Nat.le_refl _)
  case freeC =>
    intro y c e
    obtain ⟨v, o, ho, _⟩ := I.cell y c (got e)
    exact un.free c o ho (I.freeC y c (got e)) (by simp)
  case pin =>
    intro q hq
    cases hq
  case hok => exact e0.hok.kept kp
  case len => exact I.len
/-- how a lambda that is called without arguments binds its parameters -/
def LamBind (params : Arguments) (body : Expr) (scope : Scope) : Prop := ∀ (z : Shared) (q : Str) (cl : List (Str × Addr)) (dV doc pm cv ctv : Value), DflAt params dV z.heap →
  ∃ bs, BindsTo z (PySem.W.kdv_fn "<lambda>" q params (.expr body) scope cl dV doc pm cv ctv) ⟨[], []⟩ bs ∧ ∀ y ∈ bs, scope.names.lookup y.1 = some .local
/-- a(), in the def of the name qk that got the lambda: entered at s -/
theorem pe_actL {CXk : CXT} {Ek : XK} {Nk : List Str} {qk : Str} {sg : Scope} {g f : Addr} {cdk : Value} {params : Arguments} {body : Expr} {scope : Scope} {k i : Nat} {a : Str} {pn : List (Addr × Obj)} {xe : Value → Shared → Prop} {W : WX} {E : XK} {tb : TE} {p1 p2 : Pos}
    (I : Inv X pins σ H s) (L : LamQ X.N X.env.scope scope) (hb : LamBind params body scope)
    (tk : Takes ((cxOf CXk X.prog X.w X.K X.mg X.base Nk qk sg g cdk X.A X.stack s H Ek).tr pn xe) W) (hW : ∀ cls d τ G, E cls d G → W cls d τ G) (hr : Room (k + 1) (X.A.deeper (envOfC qk sg s.heap.objs.size g cdk)))
    (hbody : ∀ (A : Around) (outer : List Env) (z : Shared) (G : Hp) (c' : Addr), Room k (A.deeper (LamX.lamEnv X scope z.heap.objs.size f c')) → PE (LamX.lamCx X A outer z G E scope f c') body tb)
    (hN : Nk[i]? = some a) (hv : Vis sg a) (hd : (a == ("__debug__" : Str)) = false := by decide) (hcd : (a == ("__classdict__" : Str)) = false := by decide) :
    PE ((cxOf CXk X.prog X.w X.K X.mg X.base Nk qk sg g cdk X.A X.stack s H Ek).tr pn xe) (.Call (.Name a p1) [] [] p2)
      (fun τ G Q => τ[i]? = some (some (.ref f)) ∧ LamAt X params body scope f G ∧ tb σ G Q) := by
  constructor
  rintro pz z τ G Q IZ ⟨hs, ⟨c', dV, doc, pm, ctv, hf, hc, hdf⟩, ht⟩
  apply wpAny_Call_Name_kw
  refine thn ((pe_var (pos := p1) (i := i) hN hv hd hcd).run pz z τ G (fun v G1 => v = .ref f ∧ G1 = G) IZ ⟨.ref f, hs, rfl, rfl⟩) ?_
  rintro u z1 ⟨v, G1, I1, r1, rfl, rfl⟩
  obtain rfl : u = Value.ref f := r1
  have of1 : z1.heap.get? f = some _ := (I1.hok f _ hf).1
  apply PySem.W.callWith_F0 ⟨_, _, _, _, of1⟩
  have un : Un (frs X.stack) [] H G1 s.heap z1.heap := I1.base
  obtain ⟨⟨oc, vs, t, hoc, hdc, hvc⟩, _, _⟩ := I1.hok c' _ hc
  have hdf2 : DflAt params dV z1.heap := by
    rcases hdf with hdf | ⟨tt, vs, e1, e2, e3⟩
    · exact .inl hdf
    · obtain ⟨_, its, r, x⟩ := I1.hok tt _ e2
      exact .inr ⟨tt, its, e1, x, by rw [← e3.1]; exact r.length.symm, e3.2⟩
  obtain ⟨bs, hbs, hloc⟩ := hb z1 (X.env.qual ++ "<lambda>") (cloFrom X.env.cells scope.names []) dV doc pm (.ref c') ctv hdf2
  have rc : codeAny (model X.prog X.w) (X.A.deeper (envOfC qk sg s.heap.objs.size g cdk)) (.call (.ref f) ⟨[], []⟩) (CR (L2.CX X.prog X.w) (envOfC qk sg s.heap.objs.size g cdk :: X.stack) X.prog X.w G1 z1 Q E) z1 := by
    apply PySem.W.kla_callFunE hr.depth of1 rfl L.co L.gen rfl ⟨c', oc, vs, t, rfl, hoc, hdc, hvc⟩
    refine hbs _ _ _ _ (wpAny_newFunctionEnv L.cel hloc (fun h₁ hns hsb => ⟨I1.nolimit.fresh _ hsb, ?_⟩) L.kind)
    show codeAny _ _ (.expr body (LamX.lamEnv X scope z1.heap.objs.size f c')) _ _
    have kp : ∀ b o, z1.heap.get? b = some o → h₁.get? b = some o := by
      intro b o e
      exact hsb.extBut b o (Nat.ne_of_lt (Heap.lt_size e)) (Heap.get?_push_of_some _ e)
    have J := lam_in (E := E) (f := f) (c' := c') (tk := z1.toks + bs.length) I L I1.env0 hr.hd un hns kp
    apply PySem.W.kla_codeExpr
    refine wpAny_mono ((hbody _ _ z1 G1 c' (hr.deeper _)).run [] _ _ G1 Q J ht) ?_ (fun e s' hq => hq)
    rintro v s' ⟨y, H', J', rv, q⟩
    exact ⟨y, H', J'.os, J'.bare, J'.base, J'.hok, rv, q⟩
  have hx : Passes (L2.CX X.prog X.w) ((cxOf CXk X.prog X.w X.K X.mg X.base Nk qk sg g cdk X.A X.stack s H Ek).tr pn xe) E := passes_call tk hW
  refine wpAny_call (codeAny_mono rc ?_)
  intro r s' hq
  match r, hq with
  | .error e, hq => exact hx pz τ G1 z1 e s' I1 hq
  | .ok (.ret u), hq => exact I1.after hq
end
end Rs
set_option maxRecDepth 100000
set_option maxHeartbeats 2000000
namespace Rs
open PySem PySem.Spec PyProof.Rows L2
section
variable {X : Cx} {s : Shared} {H : Hp} {σ : L2.St} {pins : List (Addr × Obj)}
theorem tabs_new {T : List (Addr × Str)} {H : Hp} {p : Addr} {o : HO} (t : LamX.Tabs T H) (h : H p = none) : LamX.Tabs T (upd H p o) := t.ext fun b x e => by
  rw [upd_ne (ne_of_none e h)]
  exact e
theorem extN_new {H : Hp} {p : Addr} {o : HO} (h : H p = none) : LamX.ExtN H (upd H p o) := fun b x e _ => by
  rw [upd_ne (ne_of_none e h)]
  exact e
/-- the lambda's object is made, its defaults laid -/
theorem lam_tail {T : List (Addr × Str)} {c P : Addr} {params : Arguments} {body : Expr} {scope : Scope} {pos : Pos} {line : Nat} {dV : Value} {E : Value → Shared → Prop} {Q : Value → Shared → Prop} (I : Inv X pins σ H s) (TB : LamX.TabB X.base X.mg c P) (hcode : X.env.code = .ref c)
    (hm : (P, X.env.qual ++ "<lambda>") ∈ T) (hu : ∀ p ∈ T, p.1 = P → p.2 = X.env.qual ++ "<lambda>") (hT : LamX.Tabs T H) (L : LamQ X.N X.env.scope scope) (hdf : DflH params dV H)
    (h : ∀ (f : Addr) (H1 : Hp) (s' : Shared), Inv X pins σ H1 s' → LamX.ExtN H H1 → LamX.Tabs T H1 → H f = none → LamAt X params body scope f H1 → Q (.ref f) s') :
    wpAny (model X.prog X.w) X.A (makeTail "<lambda>" (X.env.qual ++ "<lambda>") params (.expr body) scope X.env dV .none none pos line) Q E s := by
  obtain ⟨ps, hP, ht, ha⟩ := hT _ hm
  have fr : ∀ y ∈ scope.names, y.2 = .free → ∃ c, X.env.cells.lookup y.1 = some c := by
    intro y hy e
    exact (L.free y hy e).elim (fun k => I.ok.has _ (.inl k)) (fun k => I.ok.has _ (.inr k))
  have bP : s.heap.BuiltinsAt X.mg P := TB.bm.keeps I.bk
  have oP : s.heap.get? P = some { cls := .none, data := .fields ps } := I.hok P _ hP
  have dfl : ∀ {H1 : Hp}, LamX.ExtN H H1 → DflH params dV H1 := by
    intro H1 e
    rcases hdf with q | ⟨t, vs, e1, e2, e3⟩
    · exact .inl q
    · exact .inr ⟨t, vs, e1, e _ _ e2 (fun ps z => by cases z), e3⟩
  cases hc : codeAmong pos ps.toList with
  | none =>
    apply PySem.W.kdv_makeTail (mg := X.mg) (c := c) (P := P) (ps := ps) (closure_ok fr) I.ok.glob (I.mod.glob.keeps I.bk) hcode (TB.code.keeps I.bk) oP ht hc TB.gP bP
    rintro c' ctv doc h' tk hx hge hlt ⟨c2, oc, vs, t, e2, hoc, hd, hv⟩ htb
    cases e2
    have hsz : s.heap.objs.size ≤ h'.objs.size := Nat.le_trans hge (Nat.le_of_lt hlt)
    have nC : H c' = none := I.hok.fresh hge
    have nF : H h'.objs.size = none := I.hok.fresh hsz
    have I1 := LamX.inv_table (t' := tk) (more := #[rawInt pos.line, rawInt pos.col, .ref c']) (h' := h') I hP (fun b o hb e => hx b o hb e) htb hge ⟨oc, vs, t, hoc, hd, hv⟩
    have e1 : LamX.ExtN H (upd (upd H P (.tbl (ps ++ #[rawInt pos.line, rawInt pos.col, .ref c']))) c' (LamX.CodeO c' (X.env.qual ++ "<lambda>"))) := by
      intro b o e n
      have nbP : b ≠ P := fun z => by
        rw [z, hP] at e
        exact n ps (Option.some.inj e).symm
      rw [upd_ne (ne_of_none e nC), upd_ne nbP]
      exact e
    have n1 : upd (upd H P (.tbl (ps ++ #[rawInt pos.line, rawInt pos.col, .ref c']))) c' (LamX.CodeO c' (X.env.qual ++ "<lambda>")) h'.objs.size = none := by
      rw [upd_ne (Nat.ne_of_gt hlt), upd_ne (fun z => by rw [z, hP] at nF; cases nF)]
      exact nF
    have T1 : LamX.Tabs T (upd (upd H P (.tbl (ps ++ #[rawInt pos.line, rawInt pos.col, .ref c']))) c' (LamX.CodeO c' (X.env.qual ++ "<lambda>"))) := by
      have apn : (ps ++ #[rawInt pos.line, rawInt pos.col, .ref c']).toList = ps.toList ++ [rawInt pos.line, rawInt pos.col, .ref c'] := by simp
      intro p hp
      by_cases hb : p.1 = P
      · rw [hu p hp hb, hb]
        refine ⟨_, by rw [upd_ne (ne_of_none hP nC), upd_same], by rw [apn]; exact PySem.TriplesOk_snoc _ _ _ _ ht, ?_⟩
        intro p' cv hcv
        rw [apn] at hcv
        rcases LamX.among_app _ ht hcv with z | z
        · obtain ⟨c0, g1, g2⟩ := ha p' cv z
          exact ⟨c0, g1, e1 _ _ g2 LamX.codeO_ne⟩
        · exact ⟨c', z, upd_same⟩
      · obtain ⟨ps', a1, a2, a3⟩ := hT p hp
        refine ⟨ps', by rw [upd_ne (ne_of_none a1 nC), upd_ne hb]; exact a1, a2, ?_⟩
        intro p' cv hcv
        obtain ⟨c0, g1, g2⟩ := a3 p' cv hcv
        exact ⟨c0, g1, e1 _ _ g2 LamX.codeO_ne⟩
    have I2 := I1.laid (t' := tk) (a := h'.objs.size) (o := FnO h'.objs.size (PySem.W.kdv_obj "<lambda>" (X.env.qual ++ "<lambda>") params (.expr body) scope (cloFrom X.env.cells scope.names []) dV doc ((X.mg "__name__").getD .none) c' ctv)) (h' := h'.push _) (fun b o e => Heap.get?_push_of_some _ e) (Nat.le_refl _) (fnO_ok (Heap.get?_push_size _ rfl))
    have e2 := e1.trans (extN_new (o := FnO h'.objs.size (PySem.W.kdv_obj "<lambda>" (X.env.qual ++ "<lambda>") params (.expr body) scope (cloFrom X.env.cells scope.names []) dV doc ((X.mg "__name__").getD .none) c' ctv)) n1)
    refine h _ _ _ I2 e2 (tabs_new T1 n1) nF ⟨c', dV, doc, _, ctv, upd_same, ?_, dfl e2⟩
    rw [upd_ne (Nat.ne_of_lt hlt), upd_same]
  | some cv =>
    obtain ⟨c', rfl, hco⟩ := ha pos cv hc
    apply PySem.W.kdv_makeTailHit (mg := X.mg) (c := c) (P := P) (ps := ps) (closure_ok fr) I.ok.glob (I.mod.glob.keeps I.bk) hcode (TB.code.keeps I.bk) oP ht hc bP
    intro ctv doc h' tk hx hsz
    have nF : H h'.objs.size = none := I.hok.fresh hsz
    have I1 := I.kept (t' := tk) hx
    have I2 := I1.laid (t' := tk) (a := h'.objs.size) (o := FnO h'.objs.size (PySem.W.kdv_obj "<lambda>" (X.env.qual ++ "<lambda>") params (.expr body) scope (cloFrom X.env.cells scope.names []) dV doc ((X.mg "__name__").getD .none) c' ctv)) (h' := h'.push _) (fun b o e => Heap.get?_push_of_some _ e) (Nat.le_refl _) (fnO_ok (Heap.get?_push_size _ rfl))
    have e2 := extN_new (o := FnO h'.objs.size (PySem.W.kdv_obj "<lambda>" (X.env.qual ++ "<lambda>") params (.expr body) scope (cloFrom X.env.cells scope.names []) dV doc ((X.mg "__name__").getD .none) c' ctv)) nF
    exact h _ _ _ I2 e2 (tabs_new hT nF) nF ⟨c', dV, doc, _, ctv, upd_same, e2 _ _ hco LamX.codeO_ne, dfl e2⟩
end
/-- a lambda made: it stands at f -/
def tMk (T : List (Addr × Str)) (A : Addr → Hp → Prop) : TE := fun _ H Q => LamX.Tabs T H ∧ ∀ f H1, LamX.ExtN H H1 → LamX.Tabs T H1 → H f = none → A f H1 → Q (.ref f) H1
section
variable {X : Cx}
theorem e_lam0 {T : List (Addr × Str)} {c P : Addr} {params : Arguments} {body : Expr} {scope : Scope} {pos : Pos} (TB : LamX.TabB X.base X.mg c P) (hcode : X.env.code = .ref c)
    (hm : (P, X.env.qual ++ "<lambda>") ∈ T) (hu : ∀ p ∈ T, p.1 = P → p.2 = X.env.qual ++ "<lambda>") (L : LamQ X.N X.env.scope scope) (h0 : params.defaults = []) (hdef : defaultsOf params X.env = ([], [])) :
    PE X (.Lambda params body scope pos) (tMk T (LamAt X params body scope)) := by
  constructor
  rintro pins s σ H Q I ⟨hT, q⟩
  apply PySem.W.kla_eval hdef
  rw [makeFunction_eq]
  simp only [List.zip_nil_right, List.filterMap_nil, List.isEmpty_nil, if_true, pure_bind]
  refine lam_tail I TB hcode hm hu hT L (.inl ⟨h0, rfl⟩) ?_
  intro f H1 s' I1 e T1 nf l
  exact ⟨.ref f, H1, I1, rfl, q f H1 e T1 nf l⟩
/-- one parameter with a default -/
theorem e_lam1 {T : List (Addr × Str)} {c P : Addr} {params : Arguments} {d body : Expr} {td : TE} {scope : Scope} {pos : Pos} (TB : LamX.TabB X.base X.mg c P) (hcode : X.env.code = .ref c)
    (hm : (P, X.env.qual ++ "<lambda>") ∈ T) (hu : ∀ p ∈ T, p.1 = P → p.2 = X.env.qual ++ "<lambda>") (L : LamQ X.N X.env.scope scope) (hd : params.defaults = [d]) (hk : params.kw_defaults = []) (pd : PE X d td) :
    PE X (.Lambda params body scope pos) (fun σ H Q => td σ H fun v H1 => tMk T (LamAt X params body scope) σ H1 Q) := by
  constructor
  intro pins s σ H Q I h
  apply PySem.W.kdv_lam (by rw [hd]; rfl) hk
  rw [hd]
  apply PySem.W.kdv_all1
  refine thn (pd.run pins s σ H _ I h) ?_
  rintro u s1 ⟨v, H1, I1, r1, hT, q⟩
  apply PySem.W.kdv_all0
  rw [makeFunction_eq]
  simp only [List.zip_nil_right, List.filterMap_nil, List.isEmpty_nil, List.isEmpty_cons, if_true, pure_bind, Bool.false_eq_true, if_false]
  refine wpAny_bind (wpAny_newTextTuple ?_)
  have nt : H1 s1.heap.objs.size = none := I1.hok.fresh (Nat.le_refl _)
  have I2 := I1.laid (t' := s1.toks) (a := s1.heap.objs.size) (o := .tup [v]) (h' := s1.heap.push { cls := .type "tuple", data := .seq [u].toArray }) (fun b o e => Heap.get?_push_of_some _ e) (Nat.le_refl _) ⟨by show 1 ≤ sizeLine; decide, [u], .cons r1 .nil, IsTup.new _ _⟩
  refine lam_tail I2 TB hcode hm hu (tabs_new hT nt) L (.inr ⟨_, [v], rfl, upd_same, by rw [hd]; rfl, by rw [hd]; exact List.cons_ne_nil _ _⟩) ?_
  intro f H3 s' I3 e T3 nf l
  refine ⟨.ref f, H3, I3, rfl, q f H3 ((extN_new nt).trans e) T3 ?_ l⟩
  cases hf : H1 f with
  | none => rfl
  | some o =>
    rw [upd_ne (ne_of_none hf nt), hf] at nf
    cases nf
end
/-! ### the def that is handed a lambda -/
/-- a: the lambda's name in the def; TT: what the def makes of the lambda's reading -/
def GivesL (X : Cx) (Nk : List Str) (x : Str) (sg : Scope) (g : Addr) (cdk : Value) (bk : List Stmt) (a : Str) (TT : (XK → Hp → VK → Prop) → Hp → VK → Prop) : Prop :=
  ∀ (f : Addr) (s : Shared) (H : Hp) (Q : VK) (tl : XK → Hp → VK → Prop) (cd : Hp → Prop),
    (∀ (W : WX) (pn : List (Addr × Obj)) (xe : Value → Shared → Prop) (E : XK) (p1 p2 : Pos), Takes ((cxOf C8.CX0 X.prog X.w X.K X.mg X.base Nk x sg g cdk X.A X.stack s H C8.E0).tr pn xe) W → (∀ cls d τ G, E cls d G → W cls d τ G) →
      PE ((cxOf C8.CX0 X.prog X.w X.K X.mg X.base Nk x sg g cdk X.A X.stack s H C8.E0).tr pn xe) (.Call (.Name a p1) [] [] p2) (fun τ G Q => τ[0]? = some (some (.ref f)) ∧ cd G ∧ tl E G Q)) →
    cd H → TT tl H Q →
    ∃ t, PSs (cxOf C8.CX0 X.prog X.w X.K X.mg X.base Nk x sg g cdk X.A X.stack s H C8.E0).nox bk t ∧ t { nx := fun _ H' => Q .non H', rt := Q } (L2.start Nk [.ref f]) H
/-- a lambda's reading in the def of X -/
structure LamB (X : Cx) (k : Nat) (params : Arguments) (body : Expr) (scope : Scope) (t : XK → TE) : Prop where
  L : LamQ X.N X.env.scope scope
  b : LamBind params body scope
  run : ∀ (A : Around) (outer : List Env) (z : Shared) (G : Hp) (E : XK) (f c' : Addr), Room k (A.deeper (LamX.lamEnv X scope z.heap.objs.size f c')) → PE (LamX.lamCx X A outer z G E scope f c') body (t E)
/-- x(e), e a lambda of the def of X; Z stands in X or is X -/
theorem e_giveL {X Z : Cx} {TT : (XK → Hp → VK → Prop) → Hp → VK → Prop} {x a : Str} {g : Addr} {k : Nat} {pk : Arguments} {bk : List Stmt} {sg : Scope} {dV kV doc pm cdv ct oc : Value} {an od : Option Addr} {osl : Array (Option Value)} {Nk : List Str} {pins : List (Addr × Obj)} {σ : L2.St}
    {e : Expr} {te : TE} {p pos : Pos} (up : Up X Z pins σ) (eZ : Z.prog = X.prog ∧ Z.w = X.w ∧ Z.K = X.K ∧ Z.mg = X.mg ∧ Z.base = X.base ∧ Z.A = X.A ∧ Z.stack = X.stack) (hg : Gl Z x) (hm : X.mg x = some (.ref g)) (hk : PySem.W.keepIn X.K (.ref g) = true)
    (lk : X.K.lookup g = some ⟨oc, od, .func (PySem.W.fnOf x x pk bk sg dV kV doc pm an cdv ct), osl⟩) (hcg : PySem.W.codeIn X.K cdv x = true) (hb : L2.Binds X.K (PySem.W.fnOf x x pk bk sg dV kV doc pm an cdv ct) [a] []) (Sg : FnScope Nk [a] sg) (hNg : Nk[0]? = some a) (hva : Vis sg a)
    (hG : GivesL X Nk x sg g cdv bk a TT) (hr : Room (k + 2) X.A) (he : PE Z e te)
    (hdb : (x == ("__debug__" : Str)) = false := by decide) (hd : (a == ("__debug__" : Str)) = false := by decide) (hcd : (a == ("__classdict__" : Str)) = false := by decide)
    (hst : starEach [e] Z.env = (false, eval e Z.env) :: starEach [] Z.env := by rfl) (hpl : (backTo pos (starEach [] Z.env)).any (·.1) = false := by rfl) :
    PE Z (.Call (.Name x p) [e] [] pos) (fun τ G Q => te τ G fun v G1 => ∃ (f : Addr) (params : Arguments) (body : Expr) (scope : Scope) (t : XK → TE), [v] = [V.ref f] ∧ LamB X k params body scope t ∧ LamAt X params body scope f G1 ∧ TT (fun E G' Q' => t E σ G' Q') G1 Q) := by
  constructor
  intro pz z τ G Q IZ h
  obtain ⟨e1, e2, e3, e4, e5, e6, e7⟩ := eZ
  have hm' : Z.mg x = some (.ref g) := by rw [e4]; exact hm
  have hk' : PySem.W.keepIn Z.K (.ref g) = true := by rw [e3]; exact hk
  apply wpAny_Call_Name_kw
  refine ld_glob IZ hg hm' ?_ hdb
  refine PySem.W.callWith_K (h₀ := Z.base) IZ.ok.mod.kin hk' ?_ hst hpl
  refine thn ((pa_cons he pa_nil hst).run pos pz z τ G (fun vs G1 => ∃ (f : Addr) (params : Arguments) (body : Expr) (scope : Scope) (t : XK → TE), vs = [.ref f] ∧ LamB X k params body scope t ∧ LamAt X params body scope f G1 ∧ TT (fun E G' Q' => t E σ G' Q') G1 Q) IZ h) ?_
  rintro us z1 ⟨vs, G1, I1, r1, f, params, body, scope, t, rfl, LB, LA, tt⟩
  obtain ⟨u, rfl, ru⟩ := vals1 r1
  obtain rfl : u = Value.ref f := ru
  refine ⟨I1.kIn, ?_⟩
  have J := up _ _ _ _ I1
  have rc : codeAny (model X.prog X.w) X.A (.call (.ref g) ⟨[.ref f], []⟩) (CR C8.CX0 X.stack X.prog X.w G1 z1 Q C8.E0) z1 := by
    refine LamX.run_ofS (N := Nk) (ps := [a]) (us := [.ref f]) (vs := [.ref f]) lk hcg Sg hr J.env0 (hb z1 [.ref f] J.kIn rfl) (.cons rfl .nil) rfl fun hr' => ?_
    obtain ⟨t', ht', hq'⟩ := hG f z1 G1 Q (fun E G' Q' => t E σ G' Q') (LamAt X params body scope f) (fun W pn xe E p1 p2 tk hW => pe_actL (i := 0) J LB.L LB.b tk hW hr' (fun A outer s H c' hr2 => LB.run A outer s H E f c' hr2) hNg hva hd hcd) LA tt
    exact ⟨t', ht'.nox, hq'⟩
  rw [← e1, ← e2, ← e6, ← e7] at rc
  refine wpAny_call (codeAny_mono rc ?_)
  intro r s2 hq
  match r, hq with
  | .error e, hq => exact (show False from hq).elim
  | .ok (.ret u), hq => exact I1.after hq
end Rs
set_option maxRecDepth 100000
set_option maxHeartbeats 2000000
namespace Rs
open PySem PySem.Spec PyProof.Rows L2
/-- f(k = v): keywords alone -/
theorem e_callK0 {X : Cx} {CX : CXT} {k : Nat} {f : Addr} {fd : FuncData} {ps ks : List Str} {sp : Sp} {E : XK} {x : Str} {p pos : Pos} {kws : List Keyword} {tk : TA} {g : List Value → List Value → List Value} {gV : List V → List V → List V}
    (F : FnOk X.prog X.w X.K X.mg X.base CX k f fd ps sp) (hr : Room k X.A) (hg : Gl X x) (hm : X.mg x = some (.ref f)) (hk : PySem.W.keepIn X.K (.ref f) = true) (hb : KBinds X.K fd ps ks g gV) (hx : Passes CX X E) (hkw : PK X kws tk)
    (hall : (backToKw pos (keywordEach kws X.env)).all (·.1.isSome) = true := by rfl)
    (hks : (backToKw pos (keywordEach kws X.env)).filterMap (·.1) = ks := by rfl) (hdb : (x == ("__debug__" : Str)) = false := by decide)
    (hpl : ((backTo pos (starEach [] X.env)).any (·.1) || (backToKw pos (keywordEach kws X.env)).any (·.1.isNone)) = false := by rfl) : PE X (.Call (.Name x p) [] kws pos) (tCallK sp gV E tNil tk) := by
  constructor
  intro pins s σ H Q I h
  refine wpAny_Call_Name_kw (ld_glob I hg hm (PySem.W.callWith_KW0 (h₀ := X.base) I.ok.mod.kin hk hall (thn (hkw.run pos pins s σ H _ I h) ?_) hpl) hdb)
  rintro ws s2 ⟨zs, H2, I2, rz, q2⟩
  refine ⟨I2.kIn, ?_⟩
  rw [hks]
  exact run_fnk (us := []) (vs := []) F hr hb hx I2 .nil rz q2
/-- three keywords in the reverse order of the parameters -/
def rev3 {α : Type} : List α → List α → List α
  | [], [x, y, z] => [z, y, x]
  | _, _ => []
theorem rev3_rel {vs : List V} {us : List Value} {zs : List V} {ws : List Value} (r : Vals vs us) (rz : Vals zs ws) : Vals (rev3 vs zs) (rev3 us ws) := by
  cases r with
  | cons _ _ => exact .nil
  | nil =>
    cases rz with
    | nil => exact .nil
    | cons r1 rz =>
      cases rz with
      | nil => exact .nil
      | cons r2 rz =>
        cases rz with
        | nil => exact .nil
        | cons r3 rz =>
          cases rz with
          | nil => exact .cons r3 (.cons r2 (.cons r1 .nil))
          | cons _ _ => exact .nil
end Rs
set_option maxRecDepth 100000
set_option maxHeartbeats 2000000
namespace K2
open PySem PySem.Spec PyProof.Rows L2
def top (i : Nat) : Stmt := PySem.Challenge.pw_roundswap_k02_order_of_words.main.body.getD i (.Pass ⟨0, 0, 0, 0⟩)
abbrev sSignsOf : Stmt := top 6
abbrev sIsWord : Stmt := top 7
abbrev sCheck : Stmt := top 8
abbrev sPre : Stmt := top 9
abbrev sRank : Stmt := top 10
abbrev sBegin : Stmt := top 12
abbrev sDraw : Stmt := top 13
abbrev sAny : Stmt := top 14
abbrev sSame : Stmt := top 15
abbrev sField : Stmt := top 16
abbrev sWhy : Stmt := top 17
abbrev sLetters : Stmt := top 18
abbrev sSigns : Stmt := top 19
abbrev sSome : Stmt := top 20
abbrev sLaw : Stmt := top 21
theorem scSignsOf : FnScope ["letters", "letter", "sign"] ["letters"] (defScope sSignsOf) := ⟨rfl, rfl, rfl, by decide +kernel, rfl, by decide +kernel, by decide +kernel⟩
theorem scIsWord : FnScope ["word", "letters", "sign"] ["word", "letters"] (defScope sIsWord) := ⟨rfl, rfl, rfl, by decide +kernel, rfl, by decide +kernel, by decide +kernel⟩
theorem scCheck : FnScope ["words", "letters", "at", "word"] ["words", "letters"] (defScope sCheck) := ⟨rfl, rfl, rfl, by decide +kernel, rfl, by decide +kernel, by decide +kernel⟩
theorem scBegin : FnScope ["_law_script", "_law_cell", "_law_marks", "_law_seed"] ["_law_script"] (defScope sBegin) := ⟨rfl, rfl, rfl, by decide +kernel, rfl, by decide +kernel, by decide +kernel⟩
theorem scDraw : FnScope ["_law_box", "_law_many", "_law_cell", "_law_digit", "_law_seed"] ["_law_box", "_law_many"] (defScope sDraw) := ⟨rfl, rfl, rfl, by decide +kernel, rfl, by decide +kernel, by decide +kernel⟩
theorem scAny : FnScope ["_law_box", "_law_some"] ["_law_box", "_law_some"] (defScope sAny) := ⟨rfl, rfl, rfl, by decide +kernel, rfl, by decide +kernel, by decide +kernel⟩
theorem scSame : FnScope ["_law_found", "_law_due", "_law_k"] ["_law_found", "_law_due"] (defScope sSame) := ⟨rfl, rfl, rfl, by decide +kernel, rfl, by decide +kernel, by decide +kernel⟩
theorem scField : FnScope ["_law_e"] ["_law_e"] (defScope sField) := ⟨rfl, rfl, rfl, by decide +kernel, rfl, by decide +kernel, by decide +kernel⟩
theorem scWhy : FnScope ["_law_ask", "_law_e"] ["_law_ask"] (defScope sWhy) := ⟨rfl, rfl, rfl, by decide +kernel, rfl, by decide +kernel, by decide +kernel⟩
theorem scLetters : FnScope ["_law_box", "_law_many", "_law_found", "_law_k", "_law_left", "_law_letter"] ["_law_box", "_law_many"] (defScope sLetters) := ⟨rfl, rfl, rfl, by decide +kernel, rfl, by decide +kernel, by decide +kernel⟩
theorem scSigns : FnScope ["_law_letters_z", "_law_letter"] ["_law_letters_z"] (defScope sSigns) := ⟨rfl, rfl, rfl, by decide +kernel, rfl, by decide +kernel, by decide +kernel⟩
theorem scSome : FnScope ["_law_box", "_law_letters_z", "_law_most", "_law_signs_here", "_law_k"] ["_law_box", "_law_letters_z", "_law_most"] (defScope sSome) := ⟨rfl, rfl, rfl, by decide +kernel, rfl, by decide +kernel, by decide +kernel⟩
theorem scPre : FnScope ["one", "other", "letters"] ["one", "other", "letters"] (defScope sPre) := ⟨rfl, rfl, rfl, by decide +kernel, rfl, by decide +kernel, by decide +kernel⟩
theorem scRank : FnScope ["word", "letters", "signs", "sign"] ["word", "letters"] (defScope sRank) := ⟨rfl, rfl, rfl, by decide +kernel, rfl, by decide +kernel, by decide +kernel⟩
theorem scLaw : FnScope ["_law_script", "_law_box", "_law_turn", "_law_signs_here", "_law_at", "_law_near", "_law_other_z", "_law_keys", "_law_found", "_law_asks", "_law_letters_z", "_law_one_z", "_law_each", "_law_sign", "_law_ask"] ["_law_script"] (defScope sLaw) := ⟨rfl, rfl, rfl, by decide +kernel, rfl, by decide +kernel, by decide +kernel⟩
/-! the built-in names that the top leaves as they are -/
structure Bn (mg : Str → Option Value) : Prop where
  len : mg "len" = none
  int : mg "int" = none
  isinst : mg "isinstance" = none
  list : mg "list" = none
  tuple : mg "tuple" = none
  all : mg "all" = none
  range : mg "range" = none
  bool : mg "bool" = none
  str : mg "str" = none
  enum : mg "enumerate" = none
  sum : mg "sum" = none
/-! the box of draws: at m the marks -/
def Bx (H : Hp) (b m : Addr) : Prop := ∃ (ms : List Int) (i r s : Int), H b = some (.lst [.ref m, .int i, .int r, .int s]) ∧ H m = some (.lst (ms.map V.int)) ∧ 0 ≤ i ∧ 0 ≤ r ∧ 0 ≤ s ∧ s < 2147483647
def BxTo (H H' : Hp) (b m : Addr) : Prop := Bx H' b m ∧ ∀ x, x ≠ b → H' x = H x
theorem Bx.put {H : Hp} {b m : Addr} {ms : List Int} {i r s i' r' s' : Int} (h : H b = some (.lst [.ref m, .int i, .int r, .int s])) (hm : H m = some (.lst (ms.map V.int))) (h1 : 0 ≤ i') (h2 : 0 ≤ r') (h3 : 0 ≤ s') (h4 : s' < 2147483647) :
    BxTo H (upd H b (.lst [.ref m, .int i', .int r', .int s'])) b m := by
  have nm : m ≠ b := fun e => by
    subst e
    rw [h] at hm
    cases ms with
    | nil => cases hm
    | cons x r => cases hm
  exact ⟨⟨ms, i', r', s', upd_same, by rw [upd_ne nm]; exact hm, h1, h2, h3, h4⟩, fun x hx => upd_ne hx⟩
theorem BxTo.trans {H H1 H2 : Hp} {b m : Addr} (x : BxTo H H1 b m) (y : BxTo H1 H2 b m) : BxTo H H2 b m := ⟨y.1, fun z hz => (y.2 z hz).trans (x.2 z hz)⟩
theorem BxTo.refl {H : Hp} {b m : Addr} (x : Bx H b m) : BxTo H H b m := ⟨x, fun _ _ => rfl⟩
section
variable {P : Program} {w : World} {K : PySem.W.Frag} {mg : Str → Option Value} {base : Heap}
def spDraw : Sp := fun vs H Q _ => ∃ (b m : Addr) (many : Int), vs = [.ref b, .int many] ∧ Bx H b m ∧ 0 < many ∧ many < 1000000 ∧ ∀ d H', 0 ≤ d → d < many → BxTo H H' b m → Q (.int d) H'
theorem ok_draw {f : Addr} {fd : FuncData} {k : Nat} (F : Fun K "_law_draw" "_law_draw" sDraw f fd) (B : Bn mg) : FnOk P w K mg base CX0 (k + 1) f fd ["_law_box", "_law_many"] spDraw := by
  refine F.ok scDraw (fun vs H Q E h => ?_) (fun cdv A outer s H vs Q E hr h => ?_)
  · obtain ⟨b, m, n, rfl, _⟩ := h
    rfl
  · obtain ⟨b, m, n, rfl, hB, h1, h2, q⟩ := h
    obtain ⟨t2, P2, R2⟩ : ∃ t2, PSs (cxOf CX0 P w K mg base ["_law_box", "_law_many", "_law_cell", "_law_digit", "_law_seed"] "_law_draw" (defScope sDraw) f cdv A outer s H E).nox ((defBody sDraw).drop 1) t2 ∧
        ∀ (y : Option V) (H' : Hp), BxTo H H' b m → t2 { nx := fun _ H' => Q .non H', rt := Q } [some (.ref b), some (.int n), y, none, none] H' := by
      refine ⟨_, pss_cons (ps_if (pt_cmpR op_gt (pe_ix ix_list (pv 0) pe_int (fun _ _ => rfl)) pe_int (nomark _))
          (pss_cons (ps_set (i := 3) scDraw.nd rfl (.inl rfl) (pe_op op_mod (pe_callTy call_int1 (by rfl) B.int boot_int (pa_cons (pe_ix ix_list (pv 0) pe_int (fun _ _ => rfl)) pa_nil)) (pv 1)))
          (pss_cons (ps_asg (pe_op op_fdivW (pe_ix ix_list (pv 0) pe_int (fun _ _ => rfl)) (pv 1)) (pg_sub (pv 0) pe_int set_list))
          (pss_one (ps_ret (pv 3))))) pss_nil)
        (pss_cons (ps_set (i := 4) scDraw.nd rfl (.inl rfl) (pe_ix ix_list (pv 0) pe_int (fun _ _ => rfl)))
        (pss_cons (ps_asg (pe_op op_mod (pe_op op_add (pe_op op_add (pe_op op_mul (pv 4) (pv 4)) (pe_op op_mul (pv 4) pe_int)) pe_int) pe_int) (pg_sub (pv 0) pe_int set_list))
        (pss_one (ps_ret (pe_op op_mod (pe_op op_add (pe_op op_fdiv (pe_ix ix_list (pv 0) pe_int (fun _ _ => rfl)) pe_int)
          (pe_op op_mul (pe_op op_mod (pe_callTy call_int1 (by rfl) B.int boot_int (pa_cons (pe_ix ix_list (pv 0) pe_int (fun _ _ => rfl)) pa_nil)) pe_int) pe_int)) (pv 1)))))), fun y H' hT => ?_⟩
      obtain ⟨⟨ms, i, r, s, hb, hm, k1, k2, k3, k4⟩, kp⟩ := id hT
      refine ⟨.ref b, rfl, b, _, 2, _, rfl, rfl, SqL.of hb, rfl, _, _, rfl, rfl, _, rfl, ite2 (fun e => ?_) (fun e => ?_)⟩
      · have hr0 : 0 < r := of_decide_eq_true e
        refine ⟨.ref b, rfl, b, _, 2, _, rfl, rfl, SqL.of hb, rfl, .inl ⟨_, rfl, _, rfl, _, _, rfl, rfl, h1, ?_⟩⟩
        refine ⟨.ref b, rfl, b, _, 2, _, rfl, rfl, SqL.of hb, rfl, _, rfl, _, _, rfl, rfl, wide_div (b := 20) h1 (by omega) (by decide) (by decide), ?_⟩
        refine ⟨.ref b, rfl, b, _, 2, 2, rfl, rfl, hb, rfl, _, rfl, ?_⟩
        refine q _ _ (Int.emod_nonneg _ (by omega)) (Int.emod_lt_of_pos _ h1) (hT.trans ?_)
        exact Bx.put hb hm k1 (Int.ediv_nonneg k2 (by omega)) k3 k4
      · refine ⟨.ref b, rfl, b, _, 3, _, rfl, rfl, SqL.of hb, rfl, ?_⟩
        refine ⟨_, rfl, _, rfl, _, _, rfl, rfl, .inl ⟨by omega, by omega⟩, _, rfl, _, _, rfl, rfl, .inl ⟨by omega, by omega⟩, _, _, rfl, rfl, _, _, rfl, rfl, _, _, rfl, rfl, (by show (0 : Int) < _; decide), ?_⟩
        refine ⟨.ref b, rfl, b, _, 3, 3, rfl, rfl, hb, rfl, ?_⟩
        have g1 : 0 ≤ (s * s + s * 61001 + 911) % 2147483647 := Int.emod_nonneg _ (by decide)
        have g2 : (s * s + s * 61001 + 911) % 2147483647 < 2147483647 := Int.emod_lt_of_pos _ (by decide)
        have bx := Bx.put (i' := i) (r' := r) (s' := (s * s + s * 61001 + 911) % 2147483647) hb hm k1 k2 g1 g2
        refine ⟨.ref b, rfl, b, _, 3, _, rfl, rfl, SqL.of upd_same, rfl, _, _, rfl, rfl, ⟨by decide, by decide⟩, ?_⟩
        refine ⟨.ref b, rfl, b, _, 3, _, rfl, rfl, SqL.of upd_same, rfl, .inl ⟨_, rfl, _, _, rfl, rfl, (by show (0 : Int) < _; decide), _, _, rfl, rfl, .inl ⟨by omega, by omega⟩, _, _, rfl, rfl, _, rfl, _, _, rfl, rfl, h1, ?_⟩⟩
        exact q _ _ (Int.emod_nonneg _ (by omega)) (Int.emod_lt_of_pos _ h1) (hT.trans bx)
    obtain ⟨ms, i, r, s, hb, hm, k1, k2, k3, k4⟩ := id hB
    refine ⟨_, pss_cons (ps_if (PW.pt (pw_and (pt_cmpR op_eq (pe_ix ix_list (pv 0) pe_int (fun _ _ => rfl)) pe_int (nomark _))
          (pw_and1 (pt_cmpR op_lt (pe_ix ix_list (pv 0) pe_int (fun _ _ => rfl)) (pe_callB call_len_seq (by rfl) B.len PySem.boot_len (pa_cons (pe_ix ix_list (pv 0) pe_int (fun _ _ => rfl)) pa_nil)) (nomark _)))))
        (pss_cons (ps_set (i := 2) scDraw.nd rfl (.inl rfl) (pe_ix ix_list (pe_ix ix_list (pv 0) pe_int (fun _ _ => rfl)) (pe_ix ix_list (pv 0) pe_int (fun _ _ => rfl)) (fun _ _ => rfl)))
        (pss_cons (ps_asg (pe_op op_add (pe_ix ix_list (pv 0) pe_int (fun _ _ => rfl)) pe_int) (pg_sub (pv 0) pe_int set_list))
        (pss_one (ps_if (pt_cmpR op_ge (pv 2) (pe_op op_pow pe_int pe_int) (nomark _))
          (pss_one (ps_asg (pv 2) (pg_sub (pv 0) pe_int set_list)))
          (pss_one (ps_asg (pe_op op_mod (pe_op op_add (pe_op op_add (pe_op op_mul (pe_ix ix_list (pv 0) pe_int (fun _ _ => rfl)) pe_int)
            (pe_op op_mul (pe_op op_mod (pe_callTy call_int1 (by rfl) B.int boot_int (pa_cons (pv 2) pa_nil)) pe_int) pe_int)) pe_int) pe_int) (pg_sub (pv 0) pe_int set_list)))))))
        pss_nil) P2, ?_⟩
    refine ⟨.ref b, rfl, b, _, 2, _, rfl, rfl, SqL.of hb, rfl, rfl, _, rfl, ite2 (fun e => ?_) (fun e => ?_)⟩
    · refine ⟨.ref b, rfl, b, _, 1, _, rfl, rfl, SqL.of hb, rfl, .ref b, rfl, b, _, 0, _, rfl, rfl, SqL.of hb, rfl, m, _, rfl, .inl (SqL.of hm), _, _, rfl, rfl, _, rfl, ite2 (fun e2 => ?_) (fun e2 => ?_)⟩
      · have hl : i < (ms.map V.int).length := of_decide_eq_true e2
        have hl2 : i.toNat < ms.length := by
          rw [List.length_map] at hl
          omega
        have ei : ((i.toNat : Nat) : Int) = i := by omega
        have hat : atI (ms.map V.int) i = some (.int ms[i.toNat]) := by
          have z : (ms.map V.int)[i.toNat]? = some (.int ms[i.toNat]) := by
            rw [List.getElem?_map, List.getElem?_eq_getElem hl2]
            rfl
          have z2 := atI_nat z
          rw [ei] at z2
          exact z2
        refine ⟨.ref b, rfl, b, _, 0, _, rfl, rfl, SqL.of hb, rfl, .ref b, rfl, b, _, 1, _, rfl, rfl, SqL.of hb, rfl, m, _, i, _, rfl, rfl, SqL.of hm, hat, ?_⟩
        generalize ms[i.toNat] = cell
        refine ⟨.ref b, rfl, b, _, 1, _, rfl, rfl, SqL.of hb, rfl, _, _, rfl, rfl, .ref b, rfl, b, _, 1, 1, rfl, rfl, hb, rfl, ?_⟩
        have bx1 := Bx.put (i' := i + 1) (r' := r) (s' := s) hb hm (by omega) k2 k3 k4
        have hb1 : upd H b (.lst [.ref m, .int (i + 1), .int r, .int s]) b = _ := upd_same
        have hm1 : upd H b (.lst [.ref m, .int (i + 1), .int r, .int s]) m = some (.lst (ms.map V.int)) := by
          obtain ⟨_, z⟩ := Bx.put (i' := i + 1) (r' := r) (s' := s) hb hm (by omega) k2 k3 k4
          rw [z m (fun e => by subst e; rw [hb] at hm; cases ms <;> cases hm)]
          exact hm
        refine ⟨_, rfl, _, _, rfl, rfl, ⟨by decide, by decide, by decide⟩, _, _, rfl, rfl, _, rfl, ite2 (fun e3 => ?_) (fun e3 => ?_)⟩
        · have hc : (10 : Int) ^ (18 : Int).toNat ≤ cell := of_decide_eq_true e3
          have hc0 : (0 : Int) ≤ (10 : Int) ^ (18 : Int).toNat := by decide
          refine ⟨_, rfl, .ref b, rfl, b, _, 2, 2, rfl, rfl, hb1, rfl, ?_⟩
          exact R2 _ _ (bx1.trans (Bx.put hb1 hm1 (by omega) (by omega) k3 k4))
        · refine ⟨.ref b, rfl, b, _, 3, _, rfl, rfl, SqL.of hb1, rfl, _, _, rfl, rfl, .inl ⟨by omega, by omega⟩, _, rfl, .inl ⟨_, rfl, _, _, rfl, rfl, (by show (0 : Int) < _; decide), _, _, rfl, rfl, .inl ⟨by omega, by omega⟩, _, _, rfl, rfl, _, _, rfl, rfl, _, _, rfl, rfl, (by show (0 : Int) < _; decide), ?_⟩⟩
          refine ⟨.ref b, rfl, b, _, 3, 3, rfl, rfl, hb1, rfl, ?_⟩
          exact R2 _ _ (bx1.trans (Bx.put hb1 hm1 (by omega) k2 (by omega) (by omega)))
      · exact R2 _ _ (.refl hB)
    · exact R2 _ _ (.refl hB)
end
/-! texts as lists of codes -/
abbrev tx (l : List Nat) : V := .str (SX.S l)
theorem tx_len (l : List Nat) : (SX.S l).length = l.length := SX.S_len l
theorem joinNil : ∀ ys : List (List Nat), TL.joinL [] ys = ys.flatten
  | [] => rfl
  | [p] => by simp [TL.joinL]
  | p :: q :: r => by
    show p ++ ([] ++ TL.joinL [] (q :: r)) = _
    rw [joinNil (q :: r)]
    rfl
theorem walk_txt (l : List Nat) : Walk (Its (SX.S l)) (l.map fun c => tx [c]).length (fun _ => True) (YAt (l.map fun c => tx [c])) := by
  have e : (SX.S l).cps.size = (l.map fun c => tx [c]).length := by simp
  have w := walk_str (z := SX.S l)
  rw [e] at w
  refine w.mono (fun _ h => h) (fun i H x H' hi _ y => ?_)
  obtain ⟨y1, c, y2, y3⟩ := y
  refine ⟨y1, ?_⟩
  rw [List.getElem?_map]
  have y4 : l[i]? = some c := by simpa using y2
  rw [y4, y3]
  rfl
/-! heaps -/
theorem same_new {H : Hp} {p : Addr} {o : HO} (h : H p = none) : Same H (upd H p o) := fun b x e => by
  rw [upd_ne (ne_of_none e h)]
  exact e
theorem sqT_same {K : PySem.W.Frag} {H H' : Hp} {a : Addr} {xs : List V} (e : Same H H') (h : SqT K H a xs) : SqT K H' a xs := by
  rcases h with (h | ⟨o, h⟩) | h
  · exact .inl (.inl (e _ _ h))
  · exact .inl (.inr ⟨o, e _ _ h⟩)
  · exact .inr h
theorem take_more {α : Type} {l : List α} {i : Nat} {x : α} (h : l[i]? = some x) : l.take (i + 1) = l.take i ++ [x] := by
  rw [List.take_add_one, h]
  rfl
/-- a comprehension over xs whose test and element change nothing that stands -/
theorem lc_pure {J : It} {G : Hp → Prop} {xs : List V} (w : Walk J xs.length G (YAt xs)) {tt : TT} {te : TE} {σ : L2.St} {i : Nat} {H1 : Hp} {D : Addr} {Qd : Hp → Prop} (f : V → V) (keep : V → Bool) (hlen : xs.length < sizeLine) (hD : H1 D = none)
    (hG : ∀ H2, Same H1 H2 → G H2)
    (ht : ∀ x H2 Q, x ∈ xs → Same H1 H2 → Q (keep x) H2 → tt ((σ.set i none).set i (some x)) H2 Q)
    (he : ∀ x H2 Q, x ∈ xs → keep x = true → Same H1 H2 → (∀ H3, Same H2 H3 → Q (f x) H3) → te ((σ.set i none).set i (some x)) H2 Q)
    (hd : ∀ H2, Same H1 H2 → H2 D = some (.lst ((xs.filter keep).map f)) → Qd H2) :
    ∃ W : Nat → Nat → Hp → Prop, (∃ m, W 0 m (upd H1 D (.lst []))) ∧ ∀ j m H, W j m H →
      (J.stop j H ∧ Qd H) ∨ (J.go j H ∧ ∃ Nx : Hp → Prop, (∀ H', Nx H' → ∃ m', m' < m ∧ W (j + 1) m' H') ∧ ∀ x H', J.yld j H x H' → gName i x (wipe σ [i]) H' fun σ2 H2 => wipe σ2 [i] = wipe σ [i] ∧ tt σ2 H2 fun b H3 =>
        if b = true then te σ2 H3 fun v H4 => ∃ ac, H4 D = some (.lst ac) ∧ ac.length < sizeLine ∧ Nx (upd H4 D (.lst (ac ++ [v]))) else Nx H3) := by
  refine lc_it w (fun j H2 => Same H1 H2 ∧ H2 D = some (.lst (((xs.take j).filter keep).map f))) ⟨same_new hD, upd_same⟩ (fun j H2 _ h => hG H2 h.1) ?_ (fun H2 h => hd H2 h.1 (by have z := h.2; rw [List.take_length] at z; exact z))
  rintro j x H2 H2' hj ⟨sm, hd2⟩ ⟨rfl, hx⟩
  have hm : x ∈ xs := List.mem_of_getElem? hx
  refine ⟨?_, ?_⟩
  · show (((σ.set i none).set i (some x)).set i none) = σ.set i none
    rw [List.set_set, List.set_set]
  · refine ht x _ _ hm sm ?_
    have tk := take_more hx
    cases hk : keep x with
    | true =>
      refine iteT (he x _ _ hm hk sm fun H3 s3 => ⟨_, s3 _ _ hd2, ?_, ?_, ?_⟩)
      · rw [List.length_map]
        exact Nat.lt_of_le_of_lt (Nat.le_trans (List.length_filter_le _ _) (by rw [List.length_take]; omega)) hlen
      · intro b o e
        rw [upd_ne (ne_of_none e hD)]
        exact s3 _ _ (sm _ _ e)
      · rw [upd_same, tk, List.filter_append, List.map_append]
        simp [hk]
    | false =>
      refine iteF ⟨sm, ?_⟩
      rw [hd2, tk, List.filter_append]
      simp [hk]
section
variable {P : Program} {w : World} {K : PySem.W.Frag} {mg : Str → Option Value} {base : Heap}
/-! _law_any -/
def spAny : Sp := fun vs H Q _ => ∃ (b m p : Addr) (xs : List V), vs = [.ref b, .ref p] ∧ Bx H b m ∧ H p = some (.lst xs) ∧ p ≠ b ∧ xs ≠ [] ∧ xs.length < 1000000 ∧ ∀ x H', x ∈ xs → BxTo H H' b m → Q x H'
theorem ok_any {f fD : Addr} {fd fdD : FuncData} {k : Nat} (F : Fun K "_law_any" "_law_any" sAny f fd) (B : Bn mg) (FD : Fun K "_law_draw" "_law_draw" sDraw fD fdD) (bD : Binds K fdD ["_law_box", "_law_many"] []) (gD : mg "_law_draw" = some (.ref fD)) :
    FnOk P w K mg base CX0 (k + 2) f fd ["_law_box", "_law_some"] spAny := by
  have GD : FnOk P w K mg base CX0 (k + 1) fD fdD ["_law_box", "_law_many"] spDraw := ok_draw FD B
  refine F.ok scAny (fun vs H Q E h => ?_) (fun cdv A outer s H vs Q E hr h => ?_)
  · obtain ⟨b, m, p, xs, rfl, _⟩ := h
    rfl
  · obtain ⟨b, m, p, xs, rfl, hB, hp, hpb, hne, hl, q⟩ := h
    refine ⟨_, pss_one (ps_ret (pe_ix ix_list (pv 1) (pe_call GD hr (by rfl) gD FD.kp bD .nil pass0 (pa_cons (pv 0) (pa_cons (pe_callB call_len_seq (by rfl) B.len PySem.boot_len (pa_cons (pv 1) pa_nil)) pa_nil))) (fun _ _ => rfl))), ?_⟩
    have h0 : 0 < xs.length := List.length_pos_iff.mpr hne
    refine ⟨.ref p, rfl, .ref b, rfl, .ref p, rfl, p, xs, rfl, .inl (SqL.of hp), b, m, (xs.length : Int), rfl, hB, by omega, by omega, fun d H' d0 d1 hT => ?_⟩
    have hd : d.toNat < xs.length := by omega
    have hat : atI xs d = some xs[d.toNat] := by
      have z := atI_nat (List.getElem?_eq_getElem hd)
      rw [show ((d.toNat : Nat) : Int) = d by omega] at z
      exact z
    exact ⟨p, xs, d, _, rfl, rfl, SqL.of ((hT.2 p hpb).trans hp), hat, q _ _ (List.getElem_mem hd) hT⟩
/-! _law_begin -/
def spBegin (K : PySem.W.Frag) : Sp := fun vs H Q _ => ∃ (a : Addr) (ns : List Int), vs = [.ref a] ∧ SqL K H a (ns.map V.int) ∧ ns.length ≤ 63 ∧ ∀ H' b m, Same H H' → H b = none → Bx H' b m → Q (.ref b) H'
theorem ok_begin {f : Addr} {fd : FuncData} {k : Nat} (F : Fun K "_law_begin" "_law_begin" sBegin f fd) (B : Bn mg) : FnOk P w K mg base CX0 (k + 1) f fd ["_law_script"] (spBegin K) := by
  refine F.ok scBegin (fun vs H Q E h => ?_) (fun cdv A outer s H vs Q E hr h => ?_)
  · obtain ⟨a, ns, rfl, _⟩ := h
    rfl
  · obtain ⟨a, ns, rfl, hS, hl, q⟩ := h
    refine ⟨_, pss_cons (ps_setLc (i := 2) (own := [("_law_cell", 1)]) (g := gName 1) (tt := tYes) rfl scBegin.nd rfl rfl (sw_true rfl rfl rfl (by decide +kernel)) (pi_list (pe_slice sl_list (pv 0) po_none (po_some pe_int)))
        (blkOk_by (N := ["_law_script", "_law_cell", "_law_marks", "_law_seed"]) (sc := defScope sBegin) (by decide +kernel)) (fun _ _ _ _ _ => pg_name (i := 1) scBegin.nd rfl (Or.inl rfl)) (fun _ _ _ _ _ => pts_nil)
        (fun _ _ _ _ _ => pe_callTy call_int1 (by rfl) B.int boot_int (pa_cons (pv 1) pa_nil)))
      (pss_cons (ps_set (i := 3) scBegin.nd rfl (.inl rfl) (pe_op op_add pe_int (pe_op op_mul pe_int (pe_callB call_len_seq (by rfl) B.len PySem.boot_len (pa_cons (pv 2) pa_nil)))))
      (pss_cons (ps_for PassesOwn.never rfl (pi_list (pv 2)) (pg_name (i := 1) scBegin.nd rfl (Or.inl rfl))
        (pss_one (ps_set (i := 3) scBegin.nd rfl (.inl rfl) (pe_op op_mod (pe_op op_add (pe_op op_add (pe_op op_mul (pv 3) pe_int) (pe_op op_mod (pe_callTy call_int1 (by rfl) B.int boot_int (pa_cons (pv 1) pa_nil)) pe_int)) pe_int) pe_int))))
      (pss_one (ps_ret (pe_lst (pa_cons (pv 2) (pa_cons pe_int (pa_cons pe_int (pa_cons (pv 3) pa_nil))))))))), ?_⟩
    obtain ⟨ms, hms, hcut⟩ : ∃ ms : List Int, ms.length ≤ 63 ∧ cutV (ns.map V.int) none (some 63) = ms.map V.int := by
      refine ⟨ns.take (HT.sIx (ns.map V.int).length (ns.map V.int).length (some 63) - HT.sIx (ns.map V.int).length 0 none), ?_, ?_⟩
      · rw [List.length_take]
        omega
      · unfold cutV
        rw [HT.sIx_none, List.drop_zero, List.map_take]
    refine ⟨.ref a, rfl, 63, rfl, a, _, rfl, hS, fun c nc => ?_⟩
    rw [hcut]
    refine ⟨c, rfl, ⟨_, SqL.of upd_same⟩, fun D nD => ?_⟩
    have s1 : Same H (upd H c (.lst (ms.map V.int))) := same_new nc
    refine lc_pure (walk_list (K := K) (a := c) (xs := ms.map V.int)) (σ := [some (.ref a), none, none, none]) (i := 1) id (fun _ => true) (by rw [List.length_map]; exact small1000 (by omega)) nD (fun H2 e => SqL.of (e _ _ upd_same)) (fun x H2 Q _ _ h => h) ?_ ?_
    · intro x H2 Q hx _ _ h
      obtain ⟨z, _, rfl⟩ := List.mem_map.mp hx
      exact ⟨_, rfl, .inl ⟨z, rfl, h H2 (Same.refl _)⟩⟩
    · intro H2 s2 hD
      have hf : ((ms.map V.int).filter fun _ => true).map id = ms.map V.int := by simp
      rw [hf] at hD
      have sm : Same H H2 := s1.trans s2
      refine ⟨.ref D, rfl, D, _, rfl, .inl (SqL.of hD), _, _, rfl, rfl, .inl ⟨by decide, by decide⟩, _, _, rfl, rfl, ?_⟩
      refine ⟨.ref D, rfl, D, rfl, ⟨_, SqL.of hD⟩, ?_⟩
      refine for_it (walk_list (K := K) (a := D) (xs := ms.map V.int)) (fun i σ H3 => ∃ (y : Option V) (sd : Int), σ = [some (.ref a), y, some (.ref D), some (.int sd)] ∧ H3 = H2 ∧ 0 ≤ sd ∧ sd < 2147483647) ⟨none, _, rfl, rfl, ?_, ?_⟩ (fun i σ H3 _ h => ?_) ?_ ?_
      · simp only [List.length_map]
        omega
      · simp only [List.length_map]
        omega
      · obtain ⟨_, _, _, rfl, _⟩ := h
        exact SqL.of hD
      · rintro i x σ H3 H3' hi ⟨y, sd, rfl, rfl, g1, g2⟩ ⟨rfl, hx⟩
        obtain ⟨z, _, rfl⟩ := List.mem_map.mp (List.mem_of_getElem? hx)
        refine ⟨_, rfl, _, _, rfl, rfl, .inl ⟨by omega, by omega⟩, _, rfl, .inl ⟨z, rfl, _, _, rfl, rfl, (by show (0 : Int) < _; decide), _, _, rfl, rfl, _, _, rfl, rfl, _, _, rfl, rfl, (by show (0 : Int) < _; decide), ?_⟩⟩
        exact ⟨_, _, rfl, rfl, Int.emod_nonneg _ (by decide), Int.emod_lt_of_pos _ (by decide)⟩
      · rintro σ H3 ⟨y, sd, rfl, rfl, g1, g2⟩
        refine ⟨_, rfl, _, rfl, (by show 4 ≤ sizeLine; decide), fun b nb => ?_⟩
        refine q _ b D (sm.trans (same_new nb)) (sm.free nb) ⟨ms, 0, 0, sd, upd_same, ?_, by omega, by omega, g1, g2⟩
        rw [upd_ne (ne_of_none hD nb)]
        exact hD
end
end K2
set_option maxRecDepth 100000
set_option maxHeartbeats 2000000
namespace K2
open PySem PySem.Spec PyProof.Rows L2
/-! ### the mirror -/
def menu : List Nat := [97, 98, 109, 116, 120, 121, 122]
def sw (c : Nat) : Nat := if 65 ≤ c ∧ c ≤ 90 then c + 32 else if 97 ≤ c ∧ c ≤ 122 then c - 32 else c
def opp (w : List Nat) : List Nat := w.reverse.map sw
def sg (L : List Nat) : List Nat := L.flatMap fun c => [c, c - 32]
def stp (f : List Nat) (c : Nat) : List Nat := if f.getLast? = some (sw c) then f.dropLast else f ++ [c]
def sh (w : List Nat) : List Nat := w.foldl stp []
def Asc (w : List Nat) : Prop := ∀ c ∈ w, c < 128
def Lt (L : List Nat) : Prop := (L.length ≤ 100 ∧ L.Nodup) ∧ ∀ c ∈ L, c ∈ menu
theorem menu_asc : ∀ c ∈ menu, c < 128 := by decide
theorem menu_up : ∀ c ∈ menu, up1 c = c - 32 := by decide
theorem sg_len (L : List Nat) : (sg L).length = 2 * L.length := by
  induction L with
  | nil => rfl
  | cons c r ih =>
    show ([c, c - 32] ++ sg r).length = 2 * (r.length + 1)
    rw [List.length_append, ih]
    simp only [List.length_cons, List.length_nil]
    omega
theorem upper1 {c : Nat} (h : c < 128) : Txt.upper (SX.S [c]) = SX.S [up1 c] := by
  have e := upper_ascii (x := SX.S [c]) (fun d hd => by
    have : d = c := by simpa using hd
    omega)
  rw [e]
  simp
theorem lower1 {c : Nat} (h : c < 128) : Txt.lower (SX.S [c]) = SX.S [lo1 c] := by
  have e := lower_ascii (x := SX.S [c]) (fun d hd => by
    have : d = c := by simpa using hd
    omega)
  rw [e]
  simp
theorem upperM {c : Nat} (h : c ∈ menu) : Txt.upper (SX.S [c]) = SX.S [c - 32] := by
  rw [upper1 (menu_asc c h), menu_up c h]
theorem isUpper_ascii : ∀ c, c < 128 → Unicode.isUpper c = decide (65 ≤ c ∧ c ≤ 90) := by decide +kernel
theorem isLower_ascii : ∀ c, c < 128 → Unicode.isLower c = decide (97 ≤ c ∧ c ≤ 122) := by decide +kernel
theorem swapS {w : List Nat} (hA : Asc w) : Txt.swapcase (SX.S w) = SX.S (w.map sw) := by
  unfold Txt.swapcase
  rw [placed_single (SX.S w) _ sw fun i c hc => ?_]
  · simp
  · have hc0 : w[i]? = some c := by simpa using hc
    have hlt := hA c (List.mem_of_getElem? hc0)
    have hc' : (SX.S w).cps[i]? = some c := by simpa using hc
    rw [isUpper_ascii c hlt, isLower_ascii c hlt]
    unfold sw
    by_cases h1 : 65 ≤ c ∧ c ≤ 90
    · rw [decide_eq_true h1, if_pos rfl, if_pos h1]
      unfold Unicode.lowerAt
      rw [hc']
      have hne : (c == 0x3A3) = false := by rw [beq_eq_false_iff_ne]; omega
      simp only [hne, Bool.false_and, Bool.false_eq_true, if_false]
      rw [lowerOf_ascii c hlt]
      unfold lo1
      rw [if_pos h1]
    · rw [decide_eq_false h1, if_neg Bool.false_ne_true, if_neg h1]
      by_cases h2 : 97 ≤ c ∧ c ≤ 122
      · rw [decide_eq_true h2, if_pos rfl, if_pos h2, upperOf_ascii c hlt]
        unfold up1
        rw [if_pos h2]
      · rw [decide_eq_false h2, if_neg Bool.false_ne_true, if_neg h2]
theorem rvS (w : List Nat) : Rs.rv (SX.S w) = SX.S w.reverse := by
  unfold Rs.rv
  simp
theorem oppS {w : List Nat} (hA : Asc w) : Txt.swapcase (Rs.rv (SX.S w)) = SX.S (opp w) := by
  rw [rvS, swapS (fun c hc => hA c (List.mem_reverse.mp hc))]
  rfl
theorem sw_sw (c : Nat) : sw (sw c) = c := by
  unfold sw
  repeat' split
  all_goals omega
theorem sw_lt {c : Nat} (h : c < 128) : sw c < 128 := by
  unfold sw
  repeat' split
  all_goals omega
def Red (f : List Nat) : Prop := ∀ (a b : List Nat) (x y : Nat), f = a ++ x :: y :: b → x ≠ sw y
theorem red_nil : Red [] := fun a b x y e => by cases a <;> cases e
theorem red_stp {f : List Nat} (h : Red f) (c : Nat) : Red (stp f c) := by
  unfold stp
  split
  · intro a b x y e
    rcases List.eq_nil_or_concat f with rfl | ⟨g, z, rfl⟩
    · cases a <;> cases e
    · have e' : (g ++ [z]).dropLast = a ++ x :: y :: b := by simpa using e
      rw [List.dropLast_concat] at e'
      exact h a (b ++ [z]) x y (by rw [e']; simp)
  · rename_i hl
    intro a b x y e
    rcases List.eq_nil_or_concat b with rfl | ⟨b', z, rfl⟩
    · have e3 : f ++ [c] = (a ++ [x]) ++ [y] := by rw [e]; simp
      have e4 := List.append_inj' e3 rfl
      have e5 : c = y := by simpa using e4.2
      intro hxy
      apply hl
      rw [e4.1, List.getLast?_append]
      rw [e5, hxy]
      rfl
    · have e3 : f ++ [c] = (a ++ x :: y :: b') ++ [z] := by rw [e]; simp
      have e4 := List.append_inj' e3 rfl
      exact h a b' x y e4.1
theorem stp_stp {f : List Nat} (h : Red f) (c : Nat) : stp (stp f c) (sw c) = f := by
  unfold stp
  rw [sw_sw]
  by_cases hl : f.getLast? = some (sw c)
  · rw [if_pos hl]
    obtain ⟨g, rfl⟩ := List.getLast?_eq_some_iff.mp hl
    rw [List.dropLast_concat]
    have hn : ¬ (g.getLast? = some c) := by
      intro hg
      obtain ⟨g', rfl⟩ := List.getLast?_eq_some_iff.mp hg
      exact h g' [] c (sw c) (by simp) (sw_sw c).symm
    rw [if_neg hn]
  · rw [if_neg hl, if_pos (by simp)]
    simp
theorem foldl_red {f : List Nat} (h : Red f) : ∀ w : List Nat, Red (w.foldl stp f) := by
  intro w
  induction w generalizing f with
  | nil => exact h
  | cons c r ih => exact ih (red_stp h c)
theorem fold_opp {f : List Nat} (h : Red f) (w : List Nat) : (w ++ opp w).foldl stp f = f := by
  induction w generalizing f with
  | nil => rfl
  | cons c r ih =>
    have e : (c :: r) ++ opp (c :: r) = c :: ((r ++ opp r) ++ [sw c]) := by
      unfold opp
      simp
    rw [e, List.foldl_cons, List.foldl_append, ih (red_stp h c)]
    exact stp_stp h c
theorem sh_opp (w : List Nat) : sh (w ++ opp w) = [] := fold_opp red_nil w
theorem sh_more {w : List Nat} {i : Nat} {c : Nat} (h : w[i]? = some c) : sh (w.take (i + 1)) = stp (sh (w.take i)) c := by
  unfold sh
  rw [take_more h, List.foldl_append]
  rfl
theorem stp_mem {f : List Nat} {c x : Nat} (h : x ∈ stp f c) : x ∈ f ∨ x = c := by
  unfold stp at h
  split at h
  · exact .inl (List.dropLast_subset _ h)
  · rcases List.mem_append.mp h with z | z
    · exact .inl z
    · exact .inr (by simpa using z)
theorem sh_mem {w : List Nat} {x : Nat} (h : x ∈ sh w) : x ∈ w := by
  have key : ∀ (w f : List Nat), x ∈ w.foldl stp f → x ∈ f ∨ x ∈ w := by
    intro w
    induction w with
    | nil => exact fun f h => .inl h
    | cons c r ih =>
      intro f h
      rcases ih _ h with z | z
      · rcases stp_mem z with z | z
        · exact .inl z
        · exact .inr (by rw [z]; exact List.mem_cons_self ..)
      · exact .inr (List.mem_cons_of_mem _ z)
  rcases key w [] h with z | z
  · cases z
  · exact z
theorem stp_len (f : List Nat) (c : Nat) : (stp f c).length ≤ f.length + 1 := by
  unfold stp
  split
  · rw [List.length_dropLast]; omega
  · rw [List.length_append]; simp
theorem sh_len (w : List Nat) : (sh w).length ≤ w.length := by
  have key : ∀ (w f : List Nat), (w.foldl stp f).length ≤ f.length + w.length := by
    intro w
    induction w with
    | nil => exact fun f => Nat.le_refl _
    | cons c r ih =>
      intro f
      have := ih (stp f c)
      have := stp_len f c
      simp only [List.foldl_cons, List.length_cons]
      omega
  have z := key w []
  unfold sh
  simpa using z
theorem mem_in {w : List Nat} {c : Nat} {L : List Nat} : inV (tx [c]) (L.map fun d => tx [d]) = decide (c ∈ L) := by
  unfold inV
  induction L with
  | nil => rfl
  | cons d r ih =>
    rw [List.map_cons, List.any_cons, ih]
    show ((SX.S [d] == SX.S [c]) || _) = _
    rw [SX.S_beq_eq]
    by_cases h : d = c
    · subst h
      simp
    · have h2 : c ≠ d := fun e => h e.symm
      simp [h, h2]
theorem cut_last (l : List Nat) : cutS (SX.S l) none (some (-1)) = SX.S l.dropLast := by
  unfold cutS
  rw [HT.sIx_none, List.drop_zero, Nat.sub_zero]
  have e : HT.sIx (SX.S l).length (SX.S l).length (some (-1)) = l.length - 1 := by
    rw [tx_len]
    show (if (-1 : Int) < 0 then ((-1 : Int) + (l.length : Int)).toNat else min (-1 : Int).toNat l.length) = l.length - 1
    rw [if_pos (by decide)]
    omega
  rw [e, List.dropLast_eq_take]
theorem at_last {α : Type} {l : List α} {x : α} (h : l.getLast? = some x) : atI l (-1) = some x := by
  have hne : l ≠ [] := fun z => by subst z; cases h
  have hl : 0 < l.length := List.length_pos_iff.mpr hne
  unfold atI ixN
  rw [if_neg (by decide), if_pos (by omega)]
  show l[_]? = some x
  rw [List.getLast?_eq_getElem?] at h
  rw [← h]
  congr 1
  omega
theorem asc_le {w : List Nat} (h : w.length ≤ 1000) : (SX.S w).length ≤ sizeLine := by
  rw [tx_len]
  exact Nat.le_of_lt (small1000 h)
theorem asc_le2 {w : List Nat} (h : w.length ≤ 1000) : (SX.S w).length ≤ 5592405 := by
  rw [tx_len]
  omega
theorem asc1 {c : Nat} : (SX.S [c]).length ≤ 5592405 := asc_le2 (w := [c]) (by show 1 ≤ 1000; decide)
section
variable {P : Program} {w : World} {K : PySem.W.Frag} {mg : Str → Option Value} {base : Heap}
/-! _law_signs -/
def spSigns : Sp := fun vs H Q _ => ∃ L : List Nat, vs = [tx L] ∧ Lt L ∧ ∀ H', Same H H' → Q (tx (sg L)) H'
theorem ok_signs {f : Addr} {fd : FuncData} {k : Nat} (F : Fun K "_law_signs" "_law_signs" sSigns f fd) : FnOk P w K mg base CX0 (k + 1) f fd ["_law_letters_z"] spSigns := by
  refine F.ok scSigns (fun vs H Q E h => ?_) (fun cdv A outer s H vs Q E hr h => ?_)
  · obtain ⟨l, rfl, _⟩ := h
    rfl
  · obtain ⟨L, rfl, hL, q⟩ := h
    refine ⟨_, pss_one (ps_ret (pe_join pe_str (pe_lc (own := [("_law_letter", 1)]) (g := gName 1) (tt := tYes) rfl scSigns.nd (pi_str (pv 0))
      (blkOk_by (N := ["_law_letters_z", "_law_letter"]) (sc := defScope sSigns) (by decide +kernel)) (fun _ _ _ _ _ => pg_name (i := 1) scSigns.nd rfl (Or.inl rfl)) (fun _ _ _ _ _ => pts_nil)
      (fun _ _ _ _ _ => pe_op op_add_str (pv 1) (pe_upper (pv 1)))))), ?_⟩
    refine ⟨⟨_, rfl⟩, _, rfl, _, rfl, fun D nD => ?_⟩
    refine lc_pure (walk_txt L) (σ := [some (tx L), none]) (i := 1) (fun v => match v with | .str z => .str (z ++ Txt.upper z) | v => v) (fun _ => true) (by rw [List.length_map]; exact small1000 (by have := hL.1; omega)) nD (fun _ _ => trivial) (fun x H2 Q _ _ h => h) ?_ ?_
    · intro x H2 Q hx _ _ h
      obtain ⟨c, hc, rfl⟩ := List.mem_map.mp hx
      refine ⟨_, rfl, _, rfl, ⟨_, rfl⟩, _, rfl, rfl, asc1, _, _, rfl, rfl, ?_, h H2 (Same.refl _)⟩
      rw [upperM (hL.2 c hc), tx_len, tx_len]
      show 2 ≤ sizeLine
      decide
    · intro H2 s2 hD
      refine ⟨_, D, (L.map fun c => [c, c - 32]).map SX.S, rfl, rfl, .inl (SqL.of ?_), ?_, ?_⟩
      · rw [hD]
        congr 2
        rw [List.filter_eq_self.mpr (by simp), List.map_map, List.map_map, List.map_map]
        refine List.map_congr_left fun c hc => ?_
        show V.str (SX.S [c] ++ Txt.upper (SX.S [c])) = V.str (SX.S [c, c - 32])
        rw [upperM (hL.2 c hc), SX.S_cat]
        rfl
      · rw [SX.lens, List.map_map]
        have e : ((List.length ∘ fun c => [c, c - 32]) : Nat → Nat) = fun _ => 2 := rfl
        have e3 : ∀ l : List Nat, (l.map fun _ => 2).sum = l.length * 2 := by
          intro l
          induction l with
          | nil => rfl
          | cons a r ih => rw [List.map_cons, List.sum_cons, ih, List.length_cons]; omega
        rw [e, e3]
        have h0 : (Str.ofString "").length = 0 := by decide
        rw [h0]
        have := hL.1
        simp only [Nat.mul_zero, Nat.add_zero]
        omega
      · have e := SX.join_S [] (L.map fun c => [c, c - 32])
        have e0 : (Str.ofString "") = SX.S [] := by decide
        rw [e0, e, joinNil]
        exact q H2 s2
end
theorem e0S : (Str.ofString "") = SX.S [] := by decide
theorem joinS (ys : List (List Nat)) : Txt.join (Str.ofString "") (ys.map SX.S) = SX.S ys.flatten := by
  rw [e0S, SX.join_S, joinNil]
theorem single_flat (w : List Nat) : (w.map fun c => [c]).flatten = w := by
  induction w with
  | nil => rfl
  | cons c r ih =>
    show [c] ++ (r.map fun c => [c]).flatten = c :: r
    rw [ih]
    rfl
theorem single_sum (w : List Nat) : (((w.map fun c => [c]).map SX.S).map (·.length)).sum = w.length := by
  rw [SX.lens, List.map_map]
  induction w with
  | nil => rfl
  | cons c r ih =>
    rw [List.map_cons, List.sum_cons, ih, List.length_cons]
    show 1 + r.length = _
    omega
theorem len0 : (Str.ofString "").length = 0 := by decide
section
variable {P : Program} {w : World} {K : PySem.W.Frag} {mg : Str → Option Value} {base : Heap}
/-- ''.join of single signs -/
theorem join_signs {X : Cx} {H : Hp} {D : Addr} {l : List Nat} {Q : VK} (hl : l.length ≤ 1000) (hD : H D = some (.lst (l.map fun c => tx [c]))) (q : Q (tx l) H) :
    ∃ a p, ∃ ys : List Str, V.str (Str.ofString "") = .str a ∧ [V.ref D] = [.ref p] ∧ (SqL K H p (ys.map V.str) ∨ SqT K H p (ys.map V.str)) ∧ (ys.map (·.length)).sum + ys.length * a.length ≤ 16777216 ∧ Q (.str (Txt.join a ys)) H := by
  refine ⟨_, D, (l.map fun c => [c]).map SX.S, rfl, rfl, .inl (SqL.of ?_), ?_, ?_⟩
  · rw [hD, List.map_map, List.map_map]
    rfl
  · rw [single_sum, len0]
    omega
  · rw [joinS, single_flat]
    exact q
end
def one (c : Nat) : V := tx [c]
theorem sg_nodup : ∀ {L : List Nat}, L.Nodup → (∀ c ∈ L, c ∈ menu) → (sg L).Nodup
  | [], _, _ => List.nodup_nil
  | c :: L, hn, hm => by
    have hr : ∀ d ∈ c :: L, 97 ≤ d ∧ d ≤ 122 := fun d hd => by
      have z : ∀ d ∈ menu, 97 ≤ d ∧ d ≤ 122 := by decide
      exact z d (hm d hd)
    have ih := sg_nodup (List.nodup_cons.mp hn).2 fun d hd => hm d (List.mem_cons_of_mem _ hd)
    have hc := hr c List.mem_cons_self
    have e : sg (c :: L) = c :: (c - 32) :: sg L := rfl
    have mem : ∀ x, x ∈ sg L → ∃ d ∈ L, x = d ∨ x = d - 32 := fun x hx => by
      unfold sg at hx
      obtain ⟨d, hd, h⟩ := List.mem_flatMap.mp hx
      exact ⟨d, hd, by simpa using h⟩
    rw [e, List.nodup_cons, List.nodup_cons]
    refine ⟨fun h => ?_, fun h => ?_, ih⟩
    · rcases List.mem_cons.mp h with z | z
      · omega
      · obtain ⟨d, hd, y⟩ := mem c z
        have := hr d (List.mem_cons_of_mem _ hd)
        rcases y with y | y
        · rw [y] at hn
          exact (List.nodup_cons.mp hn).1 hd
        · omega
    · obtain ⟨d, hd, y⟩ := mem _ h
      have := hr d (List.mem_cons_of_mem _ hd)
      rcases y with y | y
      · omega
      · have : c = d := by omega
        rw [this] at hn
        exact (List.nodup_cons.mp hn).1 hd
theorem sg_more {L : List Nat} {i c : Nat} (h : L[i]? = some c) : sg (L.take (i + 1)) = sg (L.take i) ++ [c, c - 32] := by
  unfold sg
  rw [take_more h, List.flatMap_append]
  simp
section
variable {P : Program} {w : World} {K : PySem.W.Frag} {mg : Str → Option Value} {base : Heap}
/-! signs_of -/
def spSof : Sp := fun vs H Q _ => ∃ L : List Nat, vs = [tx L] ∧ Lt L ∧ ∀ H' p, Same H H' → H p = none → H' p = some (.lst ((sg L).map one)) → Q (.ref p) H'
theorem ok_sof {f : Addr} {fd : FuncData} {k : Nat} (F : Fun K "signs_of" "signs_of" sSignsOf f fd) : FnOk P w K mg base CX0 (k + 1) f fd ["letters"] spSof := by
  refine F.ok scSignsOf (fun vs H Q E h => ?_) (fun cdv A outer s H vs Q E hr h => ?_)
  · obtain ⟨L, rfl, _⟩ := h
    rfl
  · obtain ⟨L, rfl, hL, q⟩ := h
    refine ⟨_, pss_one (ps_ret (pe_lc2 (own := [("letter", 1), ("sign", 2)]) (vs1 := [2]) (g := gName 1) (tt := tYes) (wi1 := iTup K (tTup (tCons (tVar 1) (tCons (tM0 (fun x xs H Q => ∃ a, x = .str a ∧ xs = [] ∧ a.length ≤ 5592405 ∧ Q (.str (Txt.upper a)) H) (tVar 1)) tNil)))) (g1 := gName 2) (tt1 := tYes) (te := tVar 2) rfl scSignsOf.nd (pi_str (pv 0))
      (blkOk_by (N := ["letters", "letter", "sign"]) (sc := defScope sSignsOf) (by decide +kernel)) (by decide) (fun _ _ _ _ _ => pg_name (i := 1) scSignsOf.nd rfl (Or.inl rfl)) (fun _ _ _ _ _ => pts_nil)
      (fun _ _ _ _ _ => pi_tup (pe_tup (pa_cons (pv 1) (pa_cons (pe_upper (pv 1)) pa_nil))))
      (fun _ _ _ _ _ => pg_name (i := 2) scSignsOf.nd rfl (Or.inl rfl)) (fun _ _ _ _ _ => pts_nil) (fun _ _ _ _ _ => pv 2))), ?_⟩
    refine ⟨_, rfl, _, rfl, fun D nD => ?_⟩
    refine ⟨fun i m H2 => m = L.length - i ∧ i ≤ L.length ∧ Same H H2 ∧ H2 D = some (.lst ((sg (L.take i)).map one)), ⟨_, rfl, Nat.zero_le _, same_new nD, upd_same⟩, ?_⟩
    rintro i m H2 ⟨rfl, hi, sm, hD⟩
    have w0 := walk_txt L
    by_cases hlt : i < L.length
    · have hlt' : i < (L.map fun c => tx [c]).length := by rw [List.length_map]; exact hlt
      refine .inr ⟨w0.goes i H2 hlt' trivial, fun H' => Same H H' ∧ H' D = some (.lst ((sg (L.take (i + 1))).map one)), fun H' h' => ⟨_, by omega, rfl, hlt, h'⟩, fun x H' y => ?_⟩
      obtain ⟨rfl, hx⟩ := w0.yields i H2 x H' hlt' trivial y
      rw [List.getElem?_map] at hx
      obtain ⟨c, hc⟩ : ∃ c, L[i]? = some c := ⟨_, List.getElem?_eq_getElem hlt⟩
      rw [hc] at hx
      obtain rfl : tx [c] = x := Option.some.inj hx
      have hcm := hL.2 c (List.mem_of_getElem? hc)
      refine ⟨rfl, ?_⟩
      dsimp only [tYes]
      rw [if_pos rfl]
      refine ⟨_, rfl, _, rfl, ⟨_, rfl⟩, _, rfl, rfl, asc1, (by show 2 ≤ sizeLine; decide), fun T nT => ?_⟩
      rw [upperM hcm]
      have hT : upd H' T (.tup [tx [c], tx [c - 32]]) T = some (.tup [one c, one (c - 32)]) := upd_same
      have sT : Same H' (upd H' T (.tup [tx [c], tx [c - 32]])) := same_new nT
      refine ⟨T, rfl, ⟨_, SqT.of hT⟩, ?_⟩
      have hll : (sg (L.take i)).length ≤ 200 := by
        rw [sg_len, List.length_take]
        have := hL.1
        omega
      refine ⟨fun j k H3 => k = 2 - j ∧ j ≤ 2 ∧ Same H H3 ∧ H3 T = some (.tup [one c, one (c - 32)]) ∧ H3 D = some (.lst ((sg (L.take i) ++ [c, c - 32].take j).map one)), ⟨_, rfl, by decide, sm.trans sT, hT, ?_⟩, ?_⟩
      · rw [sT _ _ hD]
        simp
      · rintro j k3 H3 ⟨rfl, hj, sm3, hT3, hD3⟩
        have w1 := walk_tup (K := K) (a := T) (xs := [one c, one (c - 32)])
        by_cases hj2 : j < 2
        · refine .inr ⟨w1.goes j H3 hj2 (SqT.of hT3), fun H' => Same H H' ∧ H' T = some (.tup [one c, one (c - 32)]) ∧ H' D = some (.lst ((sg (L.take i) ++ [c, c - 32].take (j + 1)).map one)), fun H' h' => ⟨_, by omega, rfl, hj2, h'⟩, fun x H4 y => ?_⟩
          obtain ⟨rfl, hx2⟩ := w1.yields j H3 x H4 hj2 (SqT.of hT3) y
          refine ⟨rfl, ?_⟩
          dsimp only
          rw [if_pos rfl]
          refine ⟨_, rfl, _, hD3, ?_, ?_, ?_, ?_⟩
          · rw [List.length_map, List.length_append]
            refine small1000 ?_
            have := List.length_take_le j [c, c - 32]
            have e2 : ([c, c - 32] : List Nat).length = 2 := rfl
            omega
          · intro b o e
            rw [upd_ne (ne_of_none e nD)]
            exact sm3 _ _ e
          · rw [upd_ne (ne_of hT3 hD3 (by intro z; cases z))]
            exact hT3
          · rw [upd_same]
            congr 2
            have hz : j = 0 ∨ j = 1 := by omega
            rcases hz with rfl | rfl
            · obtain rfl : one c = x := Option.some.inj hx2
              simp [one]
            · obtain rfl : one (c - 32) = x := Option.some.inj hx2
              simp [one]
        · have ej : j = 2 := by omega
          subst ej
          refine .inl ⟨w1.stops H3 (SqT.of hT3), sm3, ?_⟩
          rw [hD3, sg_more hc]
          rfl
    · have ei : i = L.length := by omega
      subst ei
      rw [List.take_length] at hD
      refine .inl ⟨?_, q H2 D sm nD hD⟩
      have z := w0.stops H2 trivial
      rw [List.length_map] at z
      exact z
/-! is_word -/
def isW (l L : List Nat) : Bool := l.all fun c => decide (c ∈ sg L)
def spIsW : Sp := fun vs H Q _ => ∃ l L : List Nat, vs = [tx l, tx L] ∧ l.length ≤ 1000 ∧ Lt L ∧ ∀ H', Same H H' → Q (.bl (isW l L)) H'
def nIn (l : List Nat) (v : V) : Int := match v with | .str z => Txt.count (SX.S l) z | _ => 0
theorem isW_sum {l L : List Nat} (hL : Lt L) : decide ((((sg L).map one).map (nIn l)).sum = (l.length : Nat)) = isW l L := by
  have e : ((sg L).map one).map (nIn l) = (sg L).map fun c => ((l.count c : Nat) : Int) := by
    rw [List.map_map]
    refine List.map_congr_left fun c _ => ?_
    show Txt.count (SX.S l) ⟨#[c]⟩ = _
    rw [Cnt.one]
  rw [e, Cnt.sumInt]
  have z := Cnt.all (sg_nodup hL.1.2 hL.2) l
  unfold isW
  rw [Bool.eq_iff_iff, decide_eq_true_eq, ← z]
  omega
theorem ok_isw {f fS : Addr} {fd fdS : FuncData} {k : Nat} (F : Fun K "is_word" "is_word" sIsWord f fd) (B : Bn mg) (FS : Fun K "signs_of" "signs_of" sSignsOf fS fdS) (bS : Binds K fdS ["letters"] []) (gS : mg "signs_of" = some (.ref fS)) :
    FnOk P w K mg base CX0 (k + 2) f fd ["word", "letters"] spIsW := by
  have GS : FnOk P w K mg base CX0 (k + 1) fS fdS ["letters"] spSof := ok_sof FS
  refine F.ok scIsWord (fun vs H Q E h => ?_) (fun cdv A outer s H vs Q E hr h => ?_)
  · obtain ⟨l, L, rfl, _⟩ := h
    rfl
  · obtain ⟨l, L, rfl, hl, hL, q⟩ := h
    refine ⟨_, pss_one (ps_ret (pe_cmpR op_eq (pe_callB (cr_sum rfl) (by rfl) B.sum boot_sum (pa_cons (pe_lc (own := [("sign", 2)]) (g := gName 2) (tt := tYes) rfl scIsWord.nd (pi_list (pe_call GS hr (by rfl) gS FS.kp bS .nil pass0 (pa_cons (pv 1) pa_nil)))
        (blkOk_by (N := ["word", "letters", "sign"]) (sc := defScope sIsWord) (by decide +kernel)) (fun _ _ _ _ _ => pg_name (i := 2) scIsWord.nd rfl (Or.inl rfl)) (fun _ _ _ _ _ => pts_nil)
        (fun _ _ _ _ _ => pe_m1 PySem.F.slot_str_count PySem.F.type_str_count mt_count (pv 0) (pv 2))) pa_nil)) (pe_callB call_len_str (by rfl) B.len PySem.boot_len (pa_cons (pv 0) pa_nil)) (nomark _))), ?_⟩
    refine ⟨_, rfl, L, rfl, hL, fun H1 p s1 np hp => ?_⟩
    refine ⟨p, rfl, ⟨_, SqL.of hp⟩, fun D nD => ?_⟩
    refine lc_pure (walk_list (K := K) (a := p) (xs := (sg L).map one)) (σ := [some (tx l), some (tx L), none]) (i := 2) (fun v => .int (nIn l v)) (fun _ => true) (by rw [List.length_map, sg_len]; exact small1000 (by have := hL.1.1; omega)) nD (fun H2 s2 => SqL.of (s2 _ _ hp)) (fun x H2 Q _ _ h => h) ?_ ?_
    · intro x H2 Q hx _ sm h
      obtain ⟨c, hc, rfl⟩ := List.mem_map.mp hx
      exact ⟨_, rfl, ⟨_, rfl⟩, _, rfl, _, _, rfl, rfl, h H2 (Same.refl _)⟩
    · intro H2 s2 hD
      refine ⟨D, ((sg L).map one).map (nIn l), rfl, SqL.of ?_, _, rfl, _, rfl, ?_, rfl, ?_⟩
      · rw [hD]
        congr 2
        rw [List.filter_eq_self.mpr (by simp), List.map_map, List.map_map, List.map_map]
        rfl
      · rw [tx_len]
        exact Nat.le_of_lt (small1000 hl)
      · have z := q H2 (s1.trans s2)
        rw [← isW_sum hL] at z
        have e : ∀ i j : Int, decide (V.int i = V.int j) = decide (i = j) := fun i j => by simp
        rw [tx_len, e]
        exact z
end
end K2
set_option maxRecDepth 100000
set_option maxHeartbeats 2000000
namespace K2
open PySem PySem.Spec PyProof.Rows L2
/-! list(text) -/
theorem vals_signs : ∀ (cs : List Nat) (us : List Value), cs.length = us.length → (∀ (j : Nat) (c : Nat) (v : Value), cs[j]? = some c → us[j]? = some v → ∃ t, v = .str ⟨#[c]⟩ t) → Vals (cs.map one) us
  | [], [], _, _ => .nil
  | c :: cs, v :: us, hl, h => by
    refine .cons ?_ (vals_signs cs us (by simpa using hl) fun j c' v' h1 h2 => h (j + 1) c' v' h1 h2)
    obtain ⟨t, e⟩ := h 0 c v rfl rfl
    rw [e]
    exact ⟨t, rfl⟩
theorem c_listS {X : Cx} (hc : X.calm = true) : CallR X (.type "list") (fun xs H Q => ∃ l : List Nat, xs = [tx l] ∧ l.length ≤ 1000 ∧ ∀ p, H p = none → Q (.ref p) (upd H p (.lst (l.map one)))) := by
  intro pins s σ H xs us Q I r h
  obtain ⟨l, rfl, hl, q⟩ := h
  obtain ⟨u, rfl, rx⟩ := vals1 r
  obtain ⟨t, rfl⟩ := rx
  have hsz : (SX.S l).cps.size ≤ sizeLine := asc_le hl
  refine PySem.call_list_str (I.ok.hd hc) (SX.S l) t (fun h' tk acc c' kp e it => ?_) hsz
  have hv : Vals (l.map one) acc.toList := by
    refine vals_signs l acc.toList ?_ fun j c v h1 h2 => ?_
    · have z := it.1
      simp only [List.size_toArray] at z
      have z2 : acc.toList.length = l.length := by simpa using z
      exact z2.symm
    · obtain ⟨c2, u, e1, e2⟩ := it.2 j v (by simpa using h2)
      have e3 : l[j]? = some c2 := by simpa using e1
      rw [h1] at e3
      cases e3
      exact ⟨u, e2⟩
  refine ⟨.ref s.heap.objs.size, _, I.laid (t' := tk) kp (Nat.le_refl _) (show ObjOk X.prog X.w _ h' _ (.lst (l.map one)) from ⟨by rw [List.length_map]; exact Nat.le_of_lt (small1000 hl), acc.toList, c', hv, by simpa using e⟩), rfl, q _ (I.hok.fresh (Nat.le_refl _))⟩
/-! the box goes on, all else stays, new things come -/
def BxGo (H H' : Hp) (b m : Addr) : Prop := Bx H' b m ∧ ∀ x o, x ≠ b → H x = some o → H' x = some o
theorem BxTo.go {H H' : Hp} {b m : Addr} (h : BxTo H H' b m) : BxGo H H' b m := ⟨h.1, fun x o hx e => (h.2 x hx).trans e⟩
theorem BxGo.trans {H H1 H2 : Hp} {b m : Addr} (x : BxGo H H1 b m) (y : BxGo H1 H2 b m) : BxGo H H2 b m := ⟨y.1, fun z o hz e => y.2 z o hz (x.2 z o hz e)⟩
theorem BxGo.refl {H : Hp} {b m : Addr} (x : Bx H b m) : BxGo H H b m := ⟨x, fun _ _ _ e => e⟩
theorem Bx.same {H H' : Hp} {b m : Addr} (x : Bx H b m) (s : Same H H') : Bx H' b m := by
  obtain ⟨ms, i, r, t, h1, h2, h3⟩ := x
  exact ⟨ms, i, r, t, s _ _ h1, s _ _ h2, h3⟩
theorem BxGo.of {H H' : Hp} {b m : Addr} (x : Bx H b m) (s : Same H H') : BxGo H H' b m := ⟨x.same s, fun z o _ e => s _ _ e⟩
theorem Bx.some {H : Hp} {b m : Addr} (x : Bx H b m) : ∃ o, H b = some o := by
  obtain ⟨ms, i, r, t, h1, _⟩ := x
  exact ⟨_, h1⟩
theorem Bx.ne {H : Hp} {b m p : Addr} (x : Bx H b m) (h : H p = none) : p ≠ b := fun e => by
  obtain ⟨o, z⟩ := x.some
  rw [← e, h] at z
  cases z
theorem Bx.neM {H : Hp} {b m p : Addr} (x : Bx H b m) (h : H p = none) : p ≠ m := fun e => by
  obtain ⟨ms, i, r, t, _, h1, _⟩ := x
  rw [← e, h] at h1
  cases h1
theorem Bx.upd {H : Hp} {b m p : Addr} {o : HO} (x : Bx H b m) (h1 : p ≠ b) (h2 : p ≠ m) : Bx (upd H p o) b m := by
  obtain ⟨ms, i, r, t, e1, e2, e3⟩ := x
  exact ⟨ms, i, r, t, by rw [upd_ne (Ne.symm h1)]; exact e1, by rw [upd_ne (Ne.symm h2)]; exact e2, e3⟩
/-- behind a step of the box a new thing stands -/
theorem BxGo.at {H H' : Hp} {b m p : Addr} {o : HO} (x : BxGo H H' b m) (hp : p ≠ b) (h : H p = some o) : H' p = some o := x.2 p o hp h
/-- an address that is new behind was new ahead -/
theorem BxGo.free {H H' : Hp} {b m p : Addr} (x : BxGo H H' b m) (h : H' p = none) : H p = none := by
  have hne := x.1.ne h
  cases e : H p with
  | none => rfl
  | some o => rw [x.2 p o hne e] at h; cases h
theorem menuS : Str.ofString "abmtxyz" = SX.S menu := by decide
theorem left_ne {F : List Nat} (h : F.length ≤ 2) : menu.filter (fun c => !decide (c ∈ F)) ≠ [] := by
  intro e
  have k : ∀ c ∈ menu, c ∈ F := fun c hc => by
    have z := List.filter_eq_nil_iff.mp e c hc
    simpa using z
  have k1 := k 97 (by decide)
  have k2 := k 98 (by decide)
  have k3 := k 109 (by decide)
  match F, h with
  | [], _ => cases k1
  | [a], _ =>
    have e1 : 97 = a := by simpa using k1
    have e2 : 98 = a := by simpa using k2
    omega
  | [a, c], _ =>
    have e1 : 97 = a ∨ 97 = c := by simpa using k1
    have e2 : 98 = a ∨ 98 = c := by simpa using k2
    have e3 : 109 = a ∨ 109 = c := by simpa using k3
    omega
section
variable {P : Program} {w : World} {K : PySem.W.Frag} {mg : Str → Option Value} {base : Heap}
/-! _law_letters -/
def spLet : Sp := fun vs H Q _ => ∃ (b m : Addr) (n : Nat), vs = [.ref b, .int n] ∧ Bx H b m ∧ 1 ≤ n ∧ n ≤ 3 ∧ ∀ L H', (L.length = n ∧ L.Nodup) → (∀ c ∈ L, c ∈ menu) → BxGo H H' b m → Q (tx L) H'
theorem ok_let {f fA : Addr} {fd fdA : FuncData} {k : Nat} (F : Fun K "_law_letters" "_law_letters" sLetters f fd) (B : Bn mg) (GA : FnOk P w K mg base CX0 (k + 2) fA fdA ["_law_box", "_law_some"] spAny) (kA : PySem.W.keepIn K (.ref fA) = true) (bA : Binds K fdA ["_law_box", "_law_some"] []) (gA : mg "_law_any" = some (.ref fA)) :
    FnOk P w K mg base CX0 (k + 3) f fd ["_law_box", "_law_many"] spLet := by
  refine F.ok scLetters (fun vs H Q E h => ?_) (fun cdv A outer s H vs Q E hr h => ?_)
  · obtain ⟨b, m, n, rfl, _⟩ := h
    rfl
  · obtain ⟨b, m, n, rfl, hB, h1, h3, q⟩ := h
    refine ⟨_, pss_cons (ps_set (i := 2) scLetters.nd rfl (.inr rfl) pe_str)
      (pss_cons (ps_for PassesOwn.never rfl (pi_range1 (by rfl) B.range (pa_cons (pv 1) pa_nil)) (pg_name (i := 3) scLetters.nd rfl (Or.inl rfl))
        (pss_cons (ps_setLc (i := 4) (own := [("_law_letter", 5)]) (g := gName 5) (tt := tTest (tOp (fun x y H Q => ∃ (c : Nat) (z : Str), x = .str ⟨#[c]⟩ ∧ y = .str z ∧ Q (.bl (!decide (c ∈ z.cps.toList))) H) (tVar 5) (tVar 2))) (te := tVar 5) rfl scLetters.nd rfl rfl (sw_true rfl rfl rfl (by decide +kernel)) (pi_str pe_str)
          (blkOk_by (N := ["_law_box", "_law_many", "_law_found", "_law_k", "_law_left", "_law_letter"]) (sc := defScope sLetters) (by decide +kernel)) (fun _ _ _ _ _ => pg_name (i := 5) scLetters.nd rfl (Or.inl rfl)) (fun _ _ _ _ _ => pts_one (pt_cmpR op_notIn_sign (pv 5) (pv 2) (by rfl)))
          (fun _ _ _ _ _ => pv 5))
        (pss_one (ps_set (i := 2) scLetters.nd rfl (.inr rfl) (pe_op op_add_str (pv 2) (pe_call GA hr (by rfl) gA kA bA .nil pass0 (pa_cons (pv 0) (pa_cons (pv 4) pa_nil))))))))
      (pss_one (ps_ret (pv 2)))), ?_⟩
    refine ⟨_, rfl, (n : Int), rfl, by omega, by omega, ?_⟩
    refine for_it (walk_range (lo := 0) (n := (n : Int).toNat)) (fun i σ H2 => ∃ (Fd : List Nat) (y3 y4 : Option V), σ = [some (.ref b), some (.int n), some (tx Fd), y3, y4, none] ∧ (Fd.length = i ∧ Fd.Nodup) ∧ (∀ c ∈ Fd, c ∈ menu) ∧ BxGo H H2 b m)
      ⟨[], none, none, ?_, ⟨rfl, List.nodup_nil⟩, (fun c hc => nomatch hc), .refl hB⟩ (fun _ _ _ _ _ => trivial) ?_ ?_
    · show [some (V.ref b), some (.int n), some (.str (Str.ofString "")), none, none, none] = _
      rw [e0S]
    · rintro i x σ H2 H2' hi ⟨Fd, y3, y4, rfl, ⟨hlen, hnd⟩, hmn, hgo⟩ ⟨rfl, rfl⟩
      refine ⟨_, rfl, fun D nD => ?_⟩
      rw [menuS]
      refine lc_pure (walk_txt menu) (σ := [some (.ref b), some (.int n), some (tx Fd), some (.int (0 + i)), y4, none]) (i := 5) id (fun v => match v with | .str z => !decide (z.cps.toList.headD 0 ∈ Fd) | _ => true) (by decide) nD (fun _ _ => trivial) ?_ ?_ ?_
      · intro x H3 Q hx _ h
        obtain ⟨c, hc, rfl⟩ := List.mem_map.mp hx
        exact ⟨_, rfl, _, rfl, c, _, rfl, rfl, _, rfl, by simpa using h⟩
      · intro x H3 Q hx _ _ h
        exact ⟨_, rfl, h H3 (Same.refl _)⟩
      · intro H3 s3 hD
        have bx3 : Bx H3 b m := hgo.1.same s3
        have hDb : D ≠ b := hgo.1.ne nD
        have eL : (((menu.map fun c => tx [c]).filter (fun v => match v with | .str z => !decide (z.cps.toList.headD 0 ∈ Fd) | _ => true)).map id) = (menu.filter (fun c => !decide (c ∈ Fd))).map one := by
          rw [List.map_id, List.filter_map]
          rfl
        rw [eL] at hD
        have hne := left_ne (F := Fd) (by rw [hlen]; omega)
        refine ⟨_, rfl, _, rfl, _, rfl, b, m, D, _, rfl, bx3, hD, hDb, (by simpa using hne), ?_, fun x H4 hx hT => ?_⟩
        · rw [List.length_map]
          have := List.length_filter_le (fun c => !decide (c ∈ Fd)) menu
          have e7 : menu.length = 7 := rfl
          omega
        · obtain ⟨c, hc, rfl⟩ := List.mem_map.mp hx
          have hcm : c ∈ menu := (List.mem_filter.mp hc).1
          refine ⟨_, _, rfl, rfl, ?_, Fd ++ [c], some (.int (0 + i)), some (.ref D), ?_, ?_, ?_, ?_⟩
          · rw [tx_len, tx_len]
            exact Nat.le_of_lt (small1000 (by simp; omega))
          · rw [SX.S_cat]
            rfl
          · refine ⟨by rw [List.length_append, hlen]; rfl, ?_⟩
            rw [List.nodup_append]
            refine ⟨hnd, List.nodup_cons.mpr ⟨by simp, List.nodup_nil⟩, fun a ha b hb e => ?_⟩
            have eb : b = c := by simpa using hb
            have hcF := (List.mem_filter.mp hc).2
            rw [e, eb] at ha
            simp [ha] at hcF
          · intro d hd
            rcases List.mem_append.mp hd with z | z
            · exact hmn d z
            · have e : d = c := by simpa using z
              rw [e]
              exact hcm
          · exact (hgo.trans (.of hgo.1 s3)).trans hT.go
    · rintro σ H2 ⟨Fd, y3, y4, rfl, ⟨hlen, hnd⟩, hmn, hgo⟩
      refine ⟨_, rfl, q Fd H2 ⟨?_, hnd⟩ hmn hgo⟩
      rw [hlen]
      omega
/-! _law_some_word -/
def spSome : Sp := fun vs H Q _ => ∃ (b m : Addr) (L : List Nat) (most : Nat), vs = [.ref b, tx L, .int most] ∧ Bx H b m ∧ Lt L ∧ L ≠ [] ∧ most ≤ 100 ∧ ∀ wd H', wd.length ≤ most → (∀ c ∈ wd, c ∈ sg L) → BxGo H H' b m → Q (tx wd) H'
theorem ok_some {f fA fD fS : Addr} {fd fdA fdD fdS : FuncData} {k : Nat} (F : Fun K "_law_some_word" "_law_some_word" sSome f fd) (B : Bn mg) (GA : FnOk P w K mg base CX0 (k + 2) fA fdA ["_law_box", "_law_some"] spAny) (kA : PySem.W.keepIn K (.ref fA) = true) (bA : Binds K fdA ["_law_box", "_law_some"] []) (gA : mg "_law_any" = some (.ref fA))
    (GD : FnOk P w K mg base CX0 (k + 1) fD fdD ["_law_box", "_law_many"] spDraw) (kD : PySem.W.keepIn K (.ref fD) = true) (bD : Binds K fdD ["_law_box", "_law_many"] []) (gD : mg "_law_draw" = some (.ref fD))
    (GS : FnOk P w K mg base CX0 (k + 1) fS fdS ["_law_letters_z"] spSigns) (kS : PySem.W.keepIn K (.ref fS) = true) (bS : Binds K fdS ["_law_letters_z"] []) (gS : mg "_law_signs" = some (.ref fS)) :
    FnOk P w K mg base CX0 (k + 3) f fd ["_law_box", "_law_letters_z", "_law_most"] spSome := by
  refine F.ok scSome (fun vs H Q E h => ?_) (fun cdv A outer s H vs Q E hr h => ?_)
  · obtain ⟨b, m, L, n, rfl, _⟩ := h
    rfl
  · obtain ⟨b, m, L, n, rfl, hB, hL, hne, hn, q⟩ := h
    have hr1 : Room (k + 1) (A.deeper (envOfC "_law_some_word" (defScope sSome) s.heap.objs.size f cdv)) := hr.mono (by omega)
    refine ⟨_, pss_cons (ps_set (i := 3) scSome.nd rfl (.inr rfl) (pe_call GS hr1 (by rfl) gS kS bS .nil pass0 (pa_cons (pv 1) pa_nil)))
      (pss_one (ps_ret (pe_join pe_str (pe_lc (own := [("_law_k", 4)]) (g := gName 4) (tt := tYes)
        (te := tCall spAny [] E0 (tCons (tVar 0) (tCons (tCB (fun xs H Q => ∃ l : List Nat, xs = [tx l] ∧ l.length ≤ 1000 ∧ ∀ p, H p = none → Q (.ref p) (upd H p (.lst (l.map one)))) (tCons (tVar 3) tNil)) tNil)))
        rfl scSome.nd (pi_range1 (by rfl) B.range (pa_cons (pe_call GD hr1 (by rfl) gD kD bD .nil pass0 (pa_cons (pv 0) (pa_cons (pe_op op_add (pv 2) pe_int) pa_nil))) pa_nil))
        (blkOk_by (N := ["_law_box", "_law_letters_z", "_law_most", "_law_signs_here", "_law_k"]) (sc := defScope sSome) (by decide +kernel)) (fun _ _ _ _ _ => pg_name (i := 4) scSome.nd rfl (Or.inl rfl)) (fun _ _ _ _ _ => pts_nil)
        (fun _ _ _ _ _ => pe_call GA hr (by rfl) gA kA bA .nil pass0 (pa_cons (pv 0) (pa_cons (pe_callTy (c_listS rfl) (by rfl) B.list boot_list (pa_cons (pv 3) pa_nil)) pa_nil))))))), ?_⟩
    refine ⟨_, rfl, L, rfl, hL, fun H1 s1 => ?_⟩
    refine ⟨⟨_, rfl⟩, _, rfl, _, rfl, _, _, rfl, rfl, b, m, _, rfl, hB.same s1, by omega, by omega, fun d H2 d0 d1 hT => ?_⟩
    refine ⟨d, rfl, by omega, by omega, fun D nD => ?_⟩
    have hDb : D ≠ b := hT.1.ne nD
    have hDm : D ≠ m := hT.1.neM nD
    have hgo : BxGo H H2 b m := (BxGo.of hB s1).trans hT.go
    have hn1 : H1 D = none := by rw [← hT.2 D hDb]; exact nD
    have hn0 : H D = none := s1.free hn1
    have hsl : (sg L).length ≤ 1000 := by rw [sg_len]; have := hL.1; omega
    refine lc_it (walk_range (lo := 0) (n := d.toNat)) (fun i H3 => ∃ wd : List Nat, wd.length = i ∧ (∀ c ∈ wd, c ∈ sg L) ∧ Bx H3 b m ∧ (∀ x o, x ≠ b → H x = some o → H3 x = some o) ∧ H3 D = some (.lst (wd.map one)))
      ⟨[], rfl, (fun c hc => nomatch hc), hgo.1.same (same_new nD), fun x o hx e => same_new nD _ _ (hgo.2 x o hx e), upd_same⟩ (fun _ _ _ _ => trivial) ?_ ?_
    · rintro i x H3 H3' hi ⟨wd, hl, hw, bx, kp, hD⟩ ⟨rfl, rfl⟩
      refine ⟨rfl, ?_⟩
      dsimp only [tYes]
      rw [if_pos rfl]
      refine ⟨_, rfl, _, rfl, sg L, rfl, hsl, fun p np => ?_⟩
      have sp : Same H3' (upd H3' p (.lst ((sg L).map one))) := same_new np
      refine ⟨b, m, p, _, rfl, bx.same sp, upd_same, bx.ne np, ?_, ?_, fun x H4 hx hT4 => ?_⟩
      · intro e
        have e2 := congrArg List.length e
        rw [List.length_map, sg_len] at e2
        have e3 : 0 < L.length := List.length_pos_iff.mpr hne
        have e4 : ([] : List V).length = 0 := rfl
        omega
      · rw [List.length_map]
        omega
      · obtain ⟨c, hc, rfl⟩ := List.mem_map.mp hx
        have hD4 : H4 D = some (.lst (wd.map one)) := (hT4.2 D hDb).trans (sp _ _ hD)
        have nDb : b ≠ D := fun e => hDb e.symm
        refine ⟨_, hD4, ?_, wd ++ [c], ?_, ?_, ?_, ?_, ?_⟩
        · rw [List.length_map, hl]
          exact small1000 (by omega)
        · rw [List.length_append, hl]
          rfl
        · intro e he
          rcases List.mem_append.mp he with z | z
          · exact hw e z
          · have z2 : e = c := by simpa using z
            rw [z2]
            exact hc
        · exact hT4.1.upd hDb hDm
        · intro x o hx e
          rw [upd_ne (ne_of_none e hn0)]
          rw [hT4.2 x hx]
          exact sp _ _ (kp x o hx e)
        · rw [upd_same, List.map_append]
          rfl
    · rintro H3 ⟨wd, hl, hw, bx, kp, hD⟩
      refine join_signs (X := (cxOf CX0 P w K mg base ["_law_box", "_law_letters_z", "_law_most", "_law_signs_here", "_law_k"] "_law_some_word" (defScope sSome) f cdv A outer s H E).nox) (l := wd) (by omega) hD (q wd H3 (by omega) hw ⟨bx, kp⟩)
end
def Flat (x : V) : Prop := (∃ i, x = .int i) ∨ (∃ z, x = .str z) ∨ (∃ b, x = .bl b)
/-- two values that bear the same data, at most n deep -/
def Eqd : Nat → Hp → V → V → Prop
  | 0, _, x, y => x = y ∧ Flat x
  | n + 1, H, x, y => (x = y ∧ Flat x) ∨ ∃ (p q : Addr) (xs ys : List V), x = .ref p ∧ y = .ref q ∧ xs.length = ys.length ∧ xs.length ≤ 1000 ∧
      ((H p = some (.lst xs) ∧ H q = some (.lst ys)) ∨ (H p = some (.tup xs) ∧ H q = some (.tup ys))) ∧ ∀ (i : Nat) (u v : V), xs[i]? = some u → ys[i]? = some v → Eqd n H u v
theorem Eqd.same {H H' : Hp} (s : Same H H') : ∀ {n : Nat} {x y : V}, Eqd n H x y → Eqd n H' x y := by
  intro n
  induction n with
  | zero => exact fun h => h
  | succ n ih =>
    rintro x y (h | ⟨p, q, xs, ys, e1, e2, e3, e4, e5, e6⟩)
    · exact .inl h
    · refine .inr ⟨p, q, xs, ys, e1, e2, e3, e4, ?_, fun i u v h1 h2 => ih (e6 i u v h1 h2)⟩
      rcases e5 with ⟨a, b⟩ | ⟨a, b⟩
      · exact .inl ⟨s _ _ a, s _ _ b⟩
      · exact .inr ⟨s _ _ a, s _ _ b⟩
theorem Eqd.flat {H : Hp} {x : V} {n : Nat} (h : Flat x) : Eqd n H x x := by
  cases n with
  | zero => exact ⟨rfl, h⟩
  | succ n => exact .inl ⟨rfl, h⟩
section
variable {P : Program} {w : World} {K : PySem.W.Frag} {mg : Str → Option Value} {base : Heap}
def spSame (n : Nat) : Sp := fun vs H Q _ => ∃ x y : V, vs = [x, y] ∧ Eqd n H x y ∧ ∀ H', Same H H' → Q (.bl true) H'
abbrev N3 : List Str := ["_law_found", "_law_due", "_law_k"]
theorem same_flat {f : Addr} {k : Nat} (B : Bn mg) {cdv : Value} {A : Around} {outer : List Env} {s : Shared} {H : Hp} {Q : VK} {E : XK} :
    ∃ t2, PSs (cxOf CX0 P w K mg base N3 "_law_same" (defScope sSame) f cdv A outer s H E).nox ((defBody sSame).drop 1) t2 ∧
      ∀ (x : V) (H' : Hp), Flat x → Q (.bl true) H' → t2 { nx := fun _ H' => Q .non H', rt := Q } [some x, some x, none] H' := by
  refine ⟨_, pss_cons (ps_if (PW.pt (pw_or (pt_cmpR op_isN (pv 1) pe_non (nomark _)) (pw_or1 (pt_cmpR op_isN (pv 0) pe_non (nomark _))))) pss_never pss_nil)
    (pss_cons (ps_if (PW.pt (pw_or
        (pt_cmpR op_ne (pe_callB call_isi (by rfl) B.isinst boot_isinstance (pa_cons (pv 1) (pa_cons (pe_bltn (v := .ty "bool") (by rfl) B.bool PyProof.Rows.boot_bool rfl) pa_nil))) (pe_callB call_isi (by rfl) B.isinst boot_isinstance (pa_cons (pv 0) (pa_cons (pe_bltn (v := .ty "bool") (by rfl) B.bool PyProof.Rows.boot_bool rfl) pa_nil))) (nomark _))
        (pw_or1 (pt_cmpR op_ne (pe_callB call_isi (by rfl) B.isinst boot_isinstance (pa_cons (pv 1) (pa_cons (pe_bltn (v := .ty "int") (by rfl) B.int PyProof.Rows.boot_int rfl) pa_nil))) (pe_callB call_isi (by rfl) B.isinst boot_isinstance (pa_cons (pv 0) (pa_cons (pe_bltn (v := .ty "int") (by rfl) B.int PyProof.Rows.boot_int rfl) pa_nil))) (nomark _))))) pss_never pss_nil)
    (pss_one (ps_ret (pe_and (pe_cmpR op_eq (pe_callB call_isi (by rfl) B.isinst boot_isinstance (pa_cons (pv 1) (pa_cons (pe_bltn (v := .ty "str") (by rfl) B.str PyProof.Rows.boot_str rfl) pa_nil))) (pe_callB call_isi (by rfl) B.isinst boot_isinstance (pa_cons (pv 0) (pa_cons (pe_bltn (v := .ty "str") (by rfl) B.str PyProof.Rows.boot_str rfl) pa_nil))) (nomark _))
      (pe_one (pe_cmpR op_eq (pv 0) (pv 1) (nomark _))))))), fun x H' hx q => ?_⟩
  rcases hx with ⟨i, rfl⟩ | ⟨z, rfl⟩ | ⟨b, rfl⟩
  · refine ⟨_, rfl, rfl, false, rfl, iteF ⟨_, rfl, rfl, false, rfl, iteF ?_⟩⟩
    refine ⟨_, rfl, _, _, _, _, false, rfl, .ty _, .base (.int i), kit_ty (by decide +kernel), _, rfl, _, _, _, _, false, rfl, .ty _, .base (.int i), kit_ty (by decide +kernel), rfl, false, rfl, iteF ?_⟩
    refine ⟨_, rfl, _, _, _, _, true, rfl, .ty _, .base (.int i), kit_ty (by decide +kernel), _, rfl, _, _, _, _, true, rfl, .ty _, .base (.int i), kit_ty (by decide +kernel), rfl, false, rfl, iteF ?_⟩
    refine ⟨_, rfl, _, _, _, _, false, rfl, .ty _, .base (.int i), kit_ty (by decide +kernel), _, rfl, _, _, _, _, false, rfl, .ty _, .base (.int i), kit_ty (by decide +kernel), rfl, true, rfl, iteT ?_⟩
    refine ⟨_, rfl, _, rfl, rfl, ?_⟩
    rw [decide_eq_true rfl]
    exact q
  · refine ⟨_, rfl, rfl, false, rfl, iteF ⟨_, rfl, rfl, false, rfl, iteF ?_⟩⟩
    refine ⟨_, rfl, _, _, _, _, false, rfl, .ty _, .base (.str z), kit_ty (by decide +kernel), _, rfl, _, _, _, _, false, rfl, .ty _, .base (.str z), kit_ty (by decide +kernel), rfl, false, rfl, iteF ?_⟩
    refine ⟨_, rfl, _, _, _, _, false, rfl, .ty _, .base (.str z), kit_ty (by decide +kernel), _, rfl, _, _, _, _, false, rfl, .ty _, .base (.str z), kit_ty (by decide +kernel), rfl, false, rfl, iteF ?_⟩
    refine ⟨_, rfl, _, _, _, _, true, rfl, .ty _, .base (.str z), kit_ty (by decide +kernel), _, rfl, _, _, _, _, true, rfl, .ty _, .base (.str z), kit_ty (by decide +kernel), rfl, true, rfl, iteT ?_⟩
    refine ⟨_, rfl, _, rfl, rfl, ?_⟩
    rw [decide_eq_true rfl]
    exact q
  · refine ⟨_, rfl, rfl, false, rfl, iteF ⟨_, rfl, rfl, false, rfl, iteF ?_⟩⟩
    refine ⟨_, rfl, _, _, _, _, true, rfl, .ty _, .base (.bl b), kit_ty (by decide +kernel), _, rfl, _, _, _, _, true, rfl, .ty _, .base (.bl b), kit_ty (by decide +kernel), rfl, false, rfl, iteF ?_⟩
    refine ⟨_, rfl, _, _, _, _, true, rfl, .ty _, .base (.bl b), kit_ty (by decide +kernel), _, rfl, _, _, _, _, true, rfl, .ty _, .base (.bl b), kit_ty (by decide +kernel), rfl, false, rfl, iteF ?_⟩
    refine ⟨_, rfl, _, _, _, _, false, rfl, .ty _, .base (.bl b), kit_ty (by decide +kernel), _, rfl, _, _, _, _, false, rfl, .ty _, .base (.bl b), kit_ty (by decide +kernel), rfl, true, rfl, iteT ?_⟩
    refine ⟨_, rfl, _, rfl, rfl, ?_⟩
    rw [decide_eq_true rfl]
    exact q
theorem ty2 {t : Value} {b1 b2 b : Bool} (h1 : PySem.W.kitOne K t (.type "list") = some b1) (h2 : PySem.W.kitOne K t (.type "tuple") = some b2) (hb : b = (b1 || b2)) : PySem.W.kitAny K t [.type "list", .type "tuple"] = some b := by
  subst hb
  refine kitAny_cons h1 (fun e => ?_) (fun e => by rw [e]; rfl)
  subst e
  show PySem.W.kitAny K t [.type "tuple"] = some b2
  exact kitAny_cons h2 (fun e2 => by rw [e2]; rfl) (fun e2 => e2)
theorem ok_same {f : Addr} {fd : FuncData} (F : Fun K "_law_same" "_law_same" sSame f fd) (B : Bn mg) (b0 : Binds K fd ["_law_found", "_law_due"] []) (g0 : mg "_law_same" = some (.ref f)) :
    ∀ n : Nat, FnOk P w K mg base CX0 (n + 1) f fd ["_law_found", "_law_due"] (spSame n) := by
  intro n
  induction n with
  | zero =>
    refine F.ok scSame (fun vs H Q E h => ?_) (fun cdv A outer s H vs Q E hr h => ?_)
    · obtain ⟨x, y, rfl, _⟩ := h
      rfl
    · obtain ⟨x, y, rfl, ⟨rfl, hx⟩, q⟩ := h
      obtain ⟨t2, P2, R2⟩ := same_flat (P := P) (w := w) (K := K) (base := base) (f := f) (k := 0) B (cdv := cdv) (A := A) (outer := outer) (s := s) (H := H) (Q := Q) (E := E)
      refine ⟨_, pss_cons (ps_if (pt_val (pe_callB call_isiT (by rfl) B.isinst boot_isinstance (pa_cons (pv 1) (pa_cons (pe_tup (pa_cons (pe_bltn (v := .ty "list") (by rfl) B.list PyProof.Rows.boot_list rfl) (pa_cons (pe_bltn (v := .ty "tuple") (by rfl) B.tuple PyProof.Rows.boot_tuple rfl) pa_nil))) pa_nil)))) pss_never pss_nil) P2, ?_⟩
      refine ⟨_, rfl, (by show 2 ≤ sizeLine; decide), fun T nT => ?_⟩
      have cl : Paired ClsV [V.ty "list", V.ty "tuple"] [.type "list", .type "tuple"] := .cons (.ty _) (.cons (.ty _) .nil)
      have fin := R2 x (upd H T (.tup [.ty "list", .ty "tuple"])) hx (q _ (same_new nT))
      rcases hx with ⟨i, rfl⟩ | ⟨z, rfl⟩ | ⟨b, rfl⟩
      · exact ⟨_, T, _, _, _, false, rfl, upd_same, cl, .base (.int i), ty2 (kit_ty (r := false) (by decide +kernel)) (kit_ty (r := false) (by decide +kernel)) rfl, _, rfl, iteF fin⟩
      · exact ⟨_, T, _, _, _, false, rfl, upd_same, cl, .base (.str z), ty2 (kit_ty (r := false) (by decide +kernel)) (kit_ty (r := false) (by decide +kernel)) rfl, _, rfl, iteF fin⟩
      · exact ⟨_, T, _, _, _, false, rfl, upd_same, cl, .base (.bl b), ty2 (kit_ty (r := false) (by decide +kernel)) (kit_ty (r := false) (by decide +kernel)) rfl, _, rfl, iteF fin⟩
  | succ n ih =>
    refine F.ok scSame (fun vs H Q E h => ?_) (fun cdv A outer s H vs Q E hr h => ?_)
    · obtain ⟨x, y, rfl, _⟩ := h
      rfl
    · obtain ⟨x, y, rfl, hE, q⟩ := h
      obtain ⟨t2, P2, R2⟩ := same_flat (P := P) (w := w) (K := K) (base := base) (f := f) (k := 0) B (cdv := cdv) (A := A) (outer := outer) (s := s) (H := H) (Q := Q) (E := E)
      refine ⟨_, pss_cons (ps_if (pt_val (pe_callB call_isiT (by rfl) B.isinst boot_isinstance (pa_cons (pv 1) (pa_cons (pe_tup (pa_cons (pe_bltn (v := .ty "list") (by rfl) B.list PyProof.Rows.boot_list rfl) (pa_cons (pe_bltn (v := .ty "tuple") (by rfl) B.tuple PyProof.Rows.boot_tuple rfl) pa_nil))) pa_nil))))
        (pss_cons (ps_if (PW.pt (pw_or
          (pt_cmpR op_ne (pe_callB call_isi (by rfl) B.isinst boot_isinstance (pa_cons (pv 0) (pa_cons (pe_bltn (v := .ty "list") (by rfl) B.list PyProof.Rows.boot_list rfl) pa_nil))) (pe_callB call_isi (by rfl) B.isinst boot_isinstance (pa_cons (pv 1) (pa_cons (pe_bltn (v := .ty "list") (by rfl) B.list PyProof.Rows.boot_list rfl) pa_nil))) (nomark _))
          (pw_or1 (pt_cmpR op_ne (pe_callB call_isi (by rfl) B.isinst boot_isinstance (pa_cons (pv 0) (pa_cons (pe_bltn (v := .ty "tuple") (by rfl) B.tuple PyProof.Rows.boot_tuple rfl) pa_nil))) (pe_callB call_isi (by rfl) B.isinst boot_isinstance (pa_cons (pv 1) (pa_cons (pe_bltn (v := .ty "tuple") (by rfl) B.tuple PyProof.Rows.boot_tuple rfl) pa_nil))) (nomark _))))) pss_never pss_nil)
        (pss_one (ps_ret (pe_and (pe_cmpR op_eq (pe_callB call_len_seq (by rfl) B.len PySem.boot_len (pa_cons (pv 0) pa_nil)) (pe_callB call_len_seq (by rfl) B.len PySem.boot_len (pa_cons (pv 1) pa_nil)) (nomark _))
          (pe_one (pe_callB (cr_all rfl) (by rfl) B.all boot_all (pa_cons (pe_lc (own := [("_law_k", 2)]) (g := gName 2) (tt := tYes)
            (te := tCall (spSame n) [] E0 (tCons (tOp (rIx K) (tVar 0) (tVar 2)) (tCons (tOp (rIx K) (tVar 1) (tVar 2)) tNil)))
            rfl scSame.nd (pi_range1 (by rfl) B.range (pa_cons (pe_callB call_len_seq (by rfl) B.len PySem.boot_len (pa_cons (pv 1) pa_nil)) pa_nil))
            (blkOk_by (N := N3) (sc := defScope sSame) (by decide +kernel)) (fun _ _ _ _ _ => pg_name (i := 2) scSame.nd rfl (Or.inl rfl)) (fun _ _ _ _ _ => pts_nil)
            (fun _ _ _ _ _ => pe_call ih hr (by rfl) g0 F.kp b0 .nil pass0 (pa_cons (pe_ix ix_seq (pv 0) (pv 2) (fun _ _ => rfl)) (pa_cons (pe_ix ix_seq (pv 1) (pv 2) (fun _ _ => rfl)) pa_nil)))) pa_nil))))))) pss_nil) P2, ?_⟩
      refine ⟨_, rfl, (by show 2 ≤ sizeLine; decide), fun T nT => ?_⟩
      have cl : Paired ClsV [V.ty "list", V.ty "tuple"] [.type "list", .type "tuple"] := .cons (.ty _) (.cons (.ty _) .nil)
      have sT : Same H (upd H T (.tup [.ty "list", .ty "tuple"])) := same_new nT
      rcases hE with ⟨rfl, hx⟩ | ⟨p, p2, xs, ys, rfl, rfl, hl, hl2, hp, hi⟩
      · have fin := R2 x (upd H T (.tup [.ty "list", .ty "tuple"])) hx (q _ sT)
        rcases hx with ⟨i, rfl⟩ | ⟨z, rfl⟩ | ⟨b, rfl⟩
        · exact ⟨_, T, _, _, _, false, rfl, upd_same, cl, .base (.int i), ty2 (kit_ty (r := false) (by decide +kernel)) (kit_ty (r := false) (by decide +kernel)) rfl, _, rfl, iteF fin⟩
        · exact ⟨_, T, _, _, _, false, rfl, upd_same, cl, .base (.str z), ty2 (kit_ty (r := false) (by decide +kernel)) (kit_ty (r := false) (by decide +kernel)) rfl, _, rfl, iteF fin⟩
        · exact ⟨_, T, _, _, _, false, rfl, upd_same, cl, .base (.bl b), ty2 (kit_ty (r := false) (by decide +kernel)) (kit_ty (r := false) (by decide +kernel)) rfl, _, rfl, iteF fin⟩
      · have hlen : (xs.length : Int) = (ys.length : Int) := by rw [hl]
        -- the list part, for lists and for tuples
        have key : ∀ H1, Same H H1 → (SqL K H1 p xs ∨ SqT K H1 p xs) → (SqL K H1 p2 ys ∨ SqT K H1 p2 ys) → (∀ H2, Same H1 H2 → (SqL K H2 p xs ∧ SqL K H2 p2 ys) ∨ (SqT K H2 p xs ∧ SqT K H2 p2 ys)) →
            tRet (tAndV (tOp rEq (tCB (fun xs H Q => ∃ p ys, xs = [.ref p] ∧ (SqL K H p ys ∨ SqT K H p ys) ∧ Q (.int ys.length) H) (tCons (tVar 0) tNil)) (tCB (fun xs H Q => ∃ p ys, xs = [.ref p] ∧ (SqL K H p ys ∨ SqT K H p ys) ∧ Q (.int ys.length) H) (tCons (tVar 1) tNil)))
              (tCB (rAll K) (tCons (tLc (iRng1 (tCons (tCB (fun xs H Q => ∃ p ys, xs = [.ref p] ∧ (SqL K H p ys ∨ SqT K H p ys) ∧ Q (.int ys.length) H) (tCons (tVar 1) tNil)) tNil)) (gName 2) tYes
                (tCall (spSame n) [] E0 (tCons (tOp (rIx K) (tVar 0) (tVar 2)) (tCons (tOp (rIx K) (tVar 1) (tVar 2)) tNil))) [2]) tNil))) { nx := fun _ H' => Q .non H', rt := Q } [some (.ref p), some (.ref p2), none] H1 := by
          intro H1 s1 hp1 hp2 hall
          refine ⟨_, rfl, p, xs, rfl, hp1, _, rfl, p2, ys, rfl, hp2, rfl, true, ?_, iteT ?_⟩
          · rw [hlen]
            exact congrArg V.bl (decide_eq_true rfl)
          · refine ⟨_, rfl, p2, ys, rfl, hp2, _, rfl, by omega, by omega, fun D nD => ?_⟩
            rw [show ((ys.length : Int)).toNat = ys.length by omega]
            refine lc_it (walk_range (lo := 0) (n := ys.length)) (fun i H2 => Same H1 H2 ∧ H2 D = some (.lst ((List.replicate i true).map V.bl))) ⟨same_new nD, upd_same⟩ (fun _ _ _ _ => trivial) ?_ ?_
            · rintro i x H2 H2' hi2 ⟨s2, hD⟩ ⟨rfl, rfl⟩
              refine ⟨rfl, ?_⟩
              dsimp only [tYes]
              rw [if_pos rfl]
              have hx : i < xs.length := by omega
              have gx : xs[i]? = some xs[i] := List.getElem?_eq_getElem hx
              have gy : ys[i]? = some ys[i] := List.getElem?_eq_getElem hi2
              have ei : (0 : Int) + (i : Int) = ((i : Nat) : Int) := by omega
              have ax : atI xs (0 + (i : Int)) = some xs[i] := by rw [ei]; exact atI_nat gx
              have ay : atI ys (0 + (i : Int)) = some ys[i] := by rw [ei]; exact atI_nat gy
              have eq := (hi i _ _ gx gy).same (s1.trans s2)
              have fin : ∀ H3, Same H2' H3 → ∃ acc, H3 D = some (.lst acc) ∧ acc.length < sizeLine ∧ (Same H1 (upd H3 D (.lst (acc ++ [.bl true]))) ∧ upd H3 D (.lst (acc ++ [.bl true])) D = some (.lst ((List.replicate (i + 1) true).map V.bl))) := by
                intro H3 s3
                refine ⟨_, s3 _ _ hD, ?_, ?_, ?_⟩
                · rw [List.length_map, List.length_replicate]
                  exact small1000 (by omega)
                · intro b o e
                  rw [upd_ne (ne_of_none e nD)]
                  exact s3 _ _ (s2 _ _ e)
                · rw [upd_same, List.replicate_succ', List.map_append]
                  rfl
              rcases hall H2' s2 with ⟨z1, z2⟩ | ⟨z1, z2⟩
              · exact ⟨_, rfl, _, rfl, .inl ⟨p, xs, _, _, rfl, rfl, z1, ax, _, rfl, _, rfl, .inl ⟨p2, ys, _, _, rfl, rfl, z2, ay, _, _, rfl, eq, fin⟩⟩⟩
              · exact ⟨_, rfl, _, rfl, .inr (.inl ⟨p, xs, _, _, rfl, rfl, z1, ax, _, rfl, _, rfl, .inr (.inl ⟨p2, ys, _, _, rfl, rfl, z2, ay, _, _, rfl, eq, fin⟩)⟩)⟩
            · rintro H2 ⟨s2, hD⟩
              refine ⟨D, List.replicate ys.length true, rfl, SqL.of hD, ?_⟩
              have e : (List.replicate ys.length true).all id = true := by
                rw [List.all_eq_true]
                intro b hb
                exact List.eq_of_mem_replicate hb
              rw [e]
              exact q H2 (s1.trans s2)
        rcases hp with ⟨h1, h2⟩ | ⟨h1, h2⟩
        · refine ⟨_, T, _, _, _, true, rfl, upd_same, cl, .base (.lst (sT _ _ h2)), ty2 (kit_ty (r := true) (by decide +kernel)) (kit_ty (r := false) (by decide +kernel)) rfl, _, rfl, iteT ?_⟩
          refine ⟨_, rfl, _, _, _, _, true, rfl, .ty _, .base (.lst (sT _ _ h1)), kit_ty (by decide +kernel), _, rfl, _, _, _, _, true, rfl, .ty _, .base (.lst (sT _ _ h2)), kit_ty (by decide +kernel), rfl, false, rfl, iteF ?_⟩
          refine ⟨_, rfl, _, _, _, _, false, rfl, .ty _, .base (.lst (sT _ _ h1)), kit_ty (by decide +kernel), _, rfl, _, _, _, _, false, rfl, .ty _, .base (.lst (sT _ _ h2)), kit_ty (by decide +kernel), rfl, false, rfl, iteF ?_⟩
          exact key _ sT (.inl (SqL.of (sT _ _ h1))) (.inl (SqL.of (sT _ _ h2))) fun H2 s2 => .inl ⟨SqL.of (s2 _ _ (sT _ _ h1)), SqL.of (s2 _ _ (sT _ _ h2))⟩
        · refine ⟨_, T, _, _, _, true, rfl, upd_same, cl, .base (.tup (sT _ _ h2)), ty2 (kit_ty (r := false) (by decide +kernel)) (kit_ty (r := true) (by decide +kernel)) rfl, _, rfl, iteT ?_⟩
          refine ⟨_, rfl, _, _, _, _, false, rfl, .ty _, .base (.tup (sT _ _ h1)), kit_ty (by decide +kernel), _, rfl, _, _, _, _, false, rfl, .ty _, .base (.tup (sT _ _ h2)), kit_ty (by decide +kernel), rfl, false, rfl, iteF ?_⟩
          refine ⟨_, rfl, _, _, _, _, true, rfl, .ty _, .base (.tup (sT _ _ h1)), kit_ty (by decide +kernel), _, rfl, _, _, _, _, true, rfl, .ty _, .base (.tup (sT _ _ h2)), kit_ty (by decide +kernel), rfl, false, rfl, iteF ?_⟩
          exact key _ sT (.inr (SqT.of (sT _ _ h1))) (.inr (SqT.of (sT _ _ h2))) fun H2 s2 => .inr ⟨SqT.of (s2 _ _ (sT _ _ h1)), SqT.of (s2 _ _ (sT _ _ h2))⟩
end
end K2
set_option maxRecDepth 100000
set_option maxHeartbeats 2000000
namespace K2
open PySem PySem.Spec PyProof.Rows L2
def inside (st : Stmt) (i : Nat) : Stmt := match st with
  | .ClassDef _ _ _ b _ _ _ _ _ _ _ => b.getD i (.Pass ⟨0, 0, 0, 0⟩)
  | _ => .Pass ⟨0, 0, 0, 0⟩
abbrev sIni : Stmt := inside (top 3) 0
theorem scIni : FnScope ["self", "at"] ["self", "at"] (defScope sIni) := ⟨rfl, rfl, rfl, by decide +kernel, rfl, by decide +kernel, by decide +kernel⟩
abbrev tagW : V := .str (Str.ofString "InvalidWord")
/-- what the written part says of InvalidWord -/
structure IwC (K : PySem.W.Frag) (mg : Str → Option Value) (C fI : Addr) : Prop where
  ox : OexC K C
  gC : mg "InvalidWord" = some (.ref C)
  nAt : PySem.W.findIn K (.ref C) "at" = some none
  nTag : PySem.W.findIn K (.ref C) "tag" = some none
  iC : PySem.W.findIn K (.ref C) "__init__" = some (some (.ref fI))
  tI : PySem.W.typeIn K (.ref fI) = some (.type "function")
section
variable {P : Program} {w : World} {K : PySem.W.Frag} {mg : Str → Option Value} {base : Heap}
def spIni (C : Addr) : Sp := fun vs H Q _ => ∃ (a : Addr) (v : V), vs = [.ref a, v] ∧ H a = some (exo a C none) ∧
  ∀ dx, H dx = none → dx ≠ a → Q .non (upd (upd (upd H dx (exd dx [("at", v)])) a (exo a C (some dx))) dx (exd dx [("tag", tagW), ("at", v)]))
theorem ok_ini {f C : Addr} {fd : FuncData} {k : Nat} (F : Fun K "__init__" "InvalidWord.__init__" sIni f fd) (T : IwC K mg C f) : FnOk P w K mg base CX0 (k + 1) f fd ["self", "at"] (spIni C) := by
  refine F.ok scIni (fun vs H Q E h => ?_) (fun cdv A outer s H vs Q E hr h => ?_)
  · obtain ⟨a, v, rfl, _⟩ := h
    rfl
  · obtain ⟨a, v, rfl, hx, q⟩ := h
    refine ⟨_, pss_cons (ps_ost (pv 0) (pv 1)) (pss_one (ps_ost (pv 0) pe_str)), ?_⟩
    refine ⟨_, rfl, _, rfl, a, C, rfl, T.ox, T.nAt, .inl ⟨hx, fun dx nd ne => ?_⟩⟩
    refine ⟨_, rfl, a, C, rfl, T.ox, T.nTag, .inr ⟨dx, _, upd_same, ?_, (by show 1 ≤ 900; decide), q dx nd ne⟩⟩
    rw [upd_ne ne]
    exact upd_same
/-! check_words -/
def spChk (C : Addr) : Sp := fun vs H Q E => ∃ (p : Addr) (ws : List (List Nat)) (L : List Nat), vs = [.ref p, tx L] ∧ H p = some (.lst (ws.map tx)) ∧ Lt L ∧ (∀ l ∈ ws, l.length ≤ 1000) ∧
  ((∀ l ∈ ws, isW l L = true) → ∀ H', Same H H' → Q .non H') ∧
  ∀ (i : Nat) (l : List Nat), ws[i]? = some l → isW l L = false → (∀ (j : Nat) (l' : List Nat), j < i → ws[j]? = some l' → isW l' L = true) →
    ∀ (H' : Hp) (d : Addr), Same H H' → H d = none → H' d = some (.xd [("tag", tagW), ("at", .int i)]) → E (.ref C) (some d) H'
theorem ok_chk {f fW fI C : Addr} {fd fdW fdI : FuncData} {k : Nat} (F : Fun K "check_words" "check_words" sCheck f fd) (B : Bn mg) (T : IwC K mg C fI)
    (GW : FnOk P w K mg base CX0 (k + 2) fW fdW ["word", "letters"] spIsW) (kW : PySem.W.keepIn K (.ref fW) = true) (bW : Binds K fdW ["word", "letters"] []) (gW : mg "is_word" = some (.ref fW))
    (GI : FnOk P w K mg base CX0 1 fI fdI ["self", "at"] (spIni C)) (bI : Binds K fdI ["self", "at"] []) :
    FnOk P w K mg base (L2.CX P w) (k + 3) f fd ["words", "letters"] (spChk C) := by
  refine F.okX scCheck (fun vs H Q E h => ?_) (fun cdv A outer s H vs Q E hr h => ?_)
  · obtain ⟨p, ws, L, rfl, _⟩ := h
    rfl
  · obtain ⟨p, ws, L, rfl, hp, hL, hle, q, qe⟩ := h
    have hr2 : Room (1 + 1) (A.deeper (envOfC "check_words" (defScope sCheck) s.heap.objs.size f cdv)) := hr.mono (by omega)
    refine ⟨_, pss_one (ps_for (passes_of rfl) rfl (pi_enum (by rfl) B.enum (pa_cons (pv 0) pa_nil))
        (pg_tup rfl (pgs_cons (pg_name (i := 2) scCheck.nd rfl (.inl rfl)) (pgs_cons (pg_name (i := 3) scCheck.nd rfl (.inl rfl)) pgs_nil)))
        (pss_one (ps_if (pt_not (pt_val (pe_call GW hr (by rfl) gW kW bW .nil pass0 (pa_cons (pv 3) (pa_cons (pv 1) pa_nil)))))
          (pss_one (ps_raise rfl (takes_of rfl rfl rfl rfl) (pmk_oex T.ox T.iC T.tI GI hr2 bI .nil pass0 (by rfl) T.gC (pa_cons (pv 2) pa_nil))))
          pss_nil))), ?_⟩
    refine ⟨_, rfl, p, _, rfl, SqL.of hp, ?_⟩
    refine for_it (walk_enum (K := K) (a := p) (xs := ws.map tx)) (fun i σ H2 => ∃ y2 y3, σ = [some (.ref p), some (tx L), y2, y3] ∧ Same H H2 ∧ ∀ (j : Nat) (l : List Nat), j < i → ws[j]? = some l → isW l L = true)
      ⟨none, none, rfl, Same.refl _, fun j l hj => absurd hj (Nat.not_lt_zero _)⟩ (fun i σ H2 _ h => ?_) ?_ ?_
    · obtain ⟨_, _, _, sm, _⟩ := h
      exact SqL.of (sm _ _ hp)
    · rintro i x σ H2 H2' hi ⟨y2, y3, rfl, sm, hok⟩ ⟨Tp, x1, x2, rfl, nT, rfl, e1, e2⟩
      obtain rfl : V.int (i : Nat) = x1 := Option.some.inj e1
      rw [List.length_map] at hi
      have gl : ws[i]? = some ws[i] := List.getElem?_eq_getElem hi
      obtain rfl : tx ws[i] = x2 := by
        have z : (ws.map tx)[i]? = some x2 := e2
        rw [List.getElem?_map, gl] at z
        exact Option.some.inj z
      have hlw := hle _ (List.getElem_mem hi)
      generalize ws[i] = l at gl hlw
      have sT : Same H2 (upd H2 Tp (.tup [.int (i : Nat), tx l])) := same_new nT
      refine ⟨Tp, _, rfl, SqT.of upd_same, rfl, _, _, rfl, _, _, rfl, rfl, ?_⟩
      refine ⟨_, rfl, _, rfl, l, L, rfl, hlw, hL, fun H3 s3 => ⟨_, rfl, ?_⟩⟩
      have sm3 : Same H H3 := (sm.trans sT).trans s3
      cases hw : isW l L with
      | true =>
        refine iteF ⟨_, _, rfl, sm3, fun j l' hj hg => ?_⟩
        by_cases hj2 : j < i
        · exact hok j l' hj2 hg
        · have ej : j = i := by omega
          subst ej
          rw [gl] at hg
          cases hg
          exact hw
      | false =>
        refine iteT ⟨_, rfl, (by show 1 ≤ 1000; decide), fun a na => ?_⟩
        refine ⟨a, _, rfl, upd_same, fun dx nd ne => ⟨rfl, dx, _, ?_, upd_same, ?_, ?_⟩⟩
        · rw [upd_ne (Ne.symm ne), upd_same]
        · have z : upd H3 a (exo a C none) dx = none := nd
          rw [upd_ne ne] at z
          exact z
        · have nd3 : H3 dx = none := by
            have z : upd H3 a (exo a C none) dx = none := nd
            rw [upd_ne ne] at z
            exact z
          refine qe i l gl hw hok _ dx (fun b o e => ?_) (sm3.free nd3) upd_same
          have e3 := sm3 b o e
          have hb1 : b ≠ dx := ne_of_none e3 nd3
          have hb2 : b ≠ a := ne_of_none e3 na
          rw [upd_ne hb1, del_ne hb2, upd_ne hb1, upd_ne hb2, upd_ne hb1, upd_ne hb2]
          exact e3
    · rintro σ H2 ⟨y2, y3, rfl, sm, hok⟩
      refine q (fun l hl => ?_) H2 sm
      obtain ⟨j, hj⟩ := List.mem_iff_getElem?.mp hl
      refine hok j l ?_ hj
      rw [List.length_map]
      exact (List.getElem?_eq_some_iff.mp hj).1
end
end K2
set_option maxRecDepth 100000
set_option maxHeartbeats 2000000
namespace K2
open PySem PySem.Spec PyProof.Rows L2
theorem e_weak {X : Cx} {e : Expr} {t1 t2 : TE} (h : PE X e t1) (imp : ∀ σ H Q, t2 σ H Q → t1 σ H Q) : PE X e t2 := ⟨fun pins s σ H Q I hq => h.run pins s σ H Q I (imp σ H Q hq)⟩
theorem e_never {X : Cx} {e : Expr} : PE X e (fun _ _ _ => False) := ⟨fun _ _ _ _ _ _ h => h.elim⟩
theorem in_noS {H : Hp} {K : PySem.W.Frag} {xs : List V} {Q : VK} (hl : xs.length ≤ sizeLine) (hf : xs.all flatV = true) (hn : inV tagW xs = false) (q : ∀ H', Same H H' → Q (.bl false) H') : xs.length ≤ sizeLine ∧ ∀ p, H p = none → rIn K false tagW (.ref p) (upd H p (.tup xs)) Q := by
  refine ⟨hl, fun p np => ⟨p, xs, rfl, .inr (SqT.of upd_same), rfl, hf, ?_⟩⟩
  show Q (.bl (inV tagW xs)) _
  rw [hn]
  exact q _ (same_new np)
section
variable {P : Program} {w : World} {K : PySem.W.Frag} {mg : Str → Option Value} {base : Heap}
/-! _law_field of an InvalidWord -/
def spF (C a : Addr) (cls : Value) (d : Option Addr) : Sp := fun vs H Q _ => vs = [.ref a] ∧ cls = .ref C ∧ ∃ (dd : Addr) (v : V), d = some dd ∧ H dd = some (.xd [("tag", tagW), ("at", v)]) ∧ ∀ H', Same H H' → Q v H'
def spFld (C : Addr) : Addr × Obj → Sp := fun p vs H Q E => ∃ (cls : Value) (d : Option Addr), Zc cls d p.2 ∧ (∃ us, p.2.data = .fields us) ∧ spF C p.1 cls d vs H Q E
theorem ok_fld {f C fI : Addr} {fd : FuncData} {k : Nat} (F : Fun K "_law_field" "_law_field" sField f fd) (T : IwC K mg C fI) (XC : XfC K C) : Rs.FnPin P w K mg base (k + 1) f fd ["_law_e"] (spFld C) := by
  refine Rs.fn_pin F scField (fun p vs H Q E h => ?_) (fun cdv A outer s H vs Q p hr h => ?_)
  · obtain ⟨cls, d, _, _, rfl, _⟩ := h
    rfl
  · obtain ⟨a, oe⟩ := p
    obtain ⟨cls, d, hz, hf, rfl, rfl, dd, v, rfl, hd, q⟩ := h
    have hp : (a, oe) ∈ (L2H.cxH CX0 P w K mg base ["_law_e"] "_law_field" (defScope sField) f cdv A outer s H E0 (a, oe)).nox.pn := List.mem_cons_self
    refine ⟨_, pss_cons (ps_if (pt_cmpR op_in_seq (Rs.e_xf XC T.nTag hz hf hp (pv 0)) (pe_tup (pa_cons pe_str (pa_cons pe_str (pa_cons pe_str (pa_cons pe_str (pa_cons pe_str (pa_cons pe_str pa_nil))))))) (by rfl)) pss_never pss_nil)
      (pss_cons (ps_if (pt_cmpR op_in_seq (Rs.e_xf XC T.nTag hz hf hp (pv 0)) (pe_tup (pa_cons pe_str (pa_cons pe_str pa_nil))) (by rfl)) pss_never pss_nil)
      (pss_cons (ps_if (pt_cmpR op_in_seq (Rs.e_xf XC T.nTag hz hf hp (pv 0)) (pe_tup (pa_cons pe_str (pa_cons pe_str (pa_cons pe_str pa_nil)))) (by rfl)) pss_never pss_nil)
      (pss_cons (ps_if (pt_cmpR op_in_seq (Rs.e_xf XC T.nTag hz hf hp (pv 0)) (pe_tup (pa_cons pe_str (pa_cons pe_str (pa_cons pe_str pa_nil)))) (by rfl)) pss_never pss_nil)
      (pss_cons (ps_if (pt_cmpR op_in_seq (Rs.e_xf XC T.nTag hz hf hp (pv 0)) (pe_tup (pa_cons pe_str (pa_cons pe_str pa_nil))) (by rfl)) pss_never pss_nil)
      (pss_cons (ps_if (pt_cmpR op_eq (Rs.e_xf XC T.nTag hz hf hp (pv 0)) pe_str (nomark _)) pss_never pss_nil)
      (pss_one (ps_ret (pe_ifExp (pt_cmpR op_eq (Rs.e_xf XC T.nTag hz hf hp (pv 0)) pe_str (nomark _)) e_never (Rs.e_xf XC T.nAt hz hf hp (pv 0)))))))))), ?_⟩
    refine ⟨_, rfl, rfl, rfl, dd, _, _, rfl, hd, rfl, in_noS (by show 6 ≤ sizeLine; decide) rfl (by decide +kernel) fun H1 s1 => ⟨_, rfl, iteF ?_⟩⟩
    refine ⟨_, rfl, rfl, rfl, dd, _, _, rfl, s1 _ _ hd, rfl, in_noS (by show 2 ≤ sizeLine; decide) rfl (by decide +kernel) fun H2 s2 => ⟨_, rfl, iteF ?_⟩⟩
    have s2 := s1.trans s2
    refine ⟨_, rfl, rfl, rfl, dd, _, _, rfl, s2 _ _ hd, rfl, in_noS (by show 3 ≤ sizeLine; decide) rfl (by decide +kernel) fun H3 s3 => ⟨_, rfl, iteF ?_⟩⟩
    have s3 := s2.trans s3
    refine ⟨_, rfl, rfl, rfl, dd, _, _, rfl, s3 _ _ hd, rfl, in_noS (by show 3 ≤ sizeLine; decide) rfl (by decide +kernel) fun H4 s4 => ⟨_, rfl, iteF ?_⟩⟩
    have s4 := s3.trans s4
    refine ⟨_, rfl, rfl, rfl, dd, _, _, rfl, s4 _ _ hd, rfl, in_noS (by show 2 ≤ sizeLine; decide) rfl (by decide +kernel) fun H5 s5 => ⟨_, rfl, iteF ?_⟩⟩
    have s5 := s4.trans s5
    refine ⟨_, rfl, rfl, rfl, dd, _, _, rfl, s5 _ _ hd, rfl, rfl, false, congrArg V.bl (by decide +kernel), iteF ?_⟩
    refine ⟨_, rfl, rfl, rfl, dd, _, _, rfl, s5 _ _ hd, rfl, rfl, false, congrArg V.bl (by decide +kernel), iteF ?_⟩
    exact ⟨_, rfl, rfl, rfl, dd, _, _, rfl, s5 _ _ hd, rfl, q _ s5⟩
/-! _law_why: what it makes of a lambda that may raise an InvalidWord -/
def TTw (C : Addr) : (XK → Hp → VK → Prop) → Hp → VK → Prop := fun tl H Q =>
  tl (fun cls d H' => cls = .ref C ∧ ∃ (dd : Addr) (v : V), d = some dd ∧ H' dd = some (.xd [("tag", tagW), ("at", v)]) ∧ ∀ H2 T, Same H' H2 → H' T = none → H2 T = some (.tup [tagW, v]) → Q (.ref T) H2) H
    (fun v H1 => [V.str (Str.ofString ""), v].length ≤ sizeLine ∧ ∀ T, H1 T = none → Q (.ref T) (upd H1 T (.tup [.str (Str.ofString ""), v])))
abbrev NW : List Str := ["_law_ask", "_law_e"]
theorem why_gives {X : Cx} {g C fI fF C1 C2 C3 : Addr} {cdg : Value} {fdF : FuncData} {j : Nat} (hX : X.mg = mg ∧ X.K = K) (T : IwC X.K X.mg C fI) (XC : XfC X.K C)
    (GF : Rs.FnPin X.prog X.w X.K X.mg X.base (j + 1) fF fdF ["_law_e"] (spFld C)) (kF : PySem.W.keepIn X.K (.ref fF) = true) (bF : Binds X.K fdF ["_law_e"] []) (gF : X.mg "_law_field" = some (.ref fF))
    (m1 : X.mg "TownError" = some (.ref C1)) (m2 : X.mg "Missing" = some (.ref C2)) (m3 : X.mg "NothingLeft" = some (.ref C3)) (hx : PySem.W.exmAny X.K (.ref C) [.ref C1, .ref C2, .ref C3] = some true) (hr : Room (j + 2) X.A) :
    Rs.GivesL X NW "_law_why" (defScope sWhy) g cdg (defBody sWhy) "_law_ask" (TTw C) := by
  intro f s H Q tl cd act hc h
  refine ⟨_, pss_one (Rs.s_try3 (X := (cxOf C8.CX0 X.prog X.w X.K X.mg X.base NW "_law_why" (defScope sWhy) g cdg X.A X.stack s H C8.E0).nox) (i := 1) (c1 := .ref C1) (c2 := .ref C2) (c3 := .ref C3)
      (tb := fun W D σ H => ∃ Ech : XK, (∀ cls d σ' H', σ'.length = 2 → Ech cls d H' → W cls d σ' H') ∧ σ[0]? = some (some (.ref f)) ∧ cd H ∧ tl Ech H (fun v H1 => [V.str (Str.ofString ""), v].length ≤ sizeLine ∧ ∀ T, H1 T = none → D.rt (.ref T) (upd H1 T (.tup [.str (Str.ofString ""), v]))))
      (ts := fun a cls d => tRet (tTup (tCons (tXf a cls d C "tag" (tVar 1)) (tCons (tCall (spF C a cls d) [] E0 (tCons (tVar 1) tNil)) tNil))))
      rfl rfl scWhy.nd rfl rfl (by rfl) m1 (by rfl) m2 (by rfl) m3 (fun W pn xe tk => ?_)
      (fun a oe cls d pn hz hf => pss_one (ps_ret (pe_tup (pa_cons (Rs.e_xf XC T.nTag hz hf List.mem_cons_self (pv 1)) (pa_cons (e_weak (Rs.e_callP (sp := spFld C) (p := (a, oe)) GF (show L2H.RoomH (j + 1) _ from ⟨(hr.deeper (envOfC "_law_why" (defScope sWhy) s.heap.objs.size g cdg)).dp, (hr.deeper (envOfC "_law_why" (defScope sWhy) s.heap.objs.size g cdg)).un⟩) List.mem_cons_self (by rfl) gF kF bF (pa_cons (pv 1) pa_nil)) ?_) pa_nil)))))), ?_⟩
  · refine ⟨fun pins s' σ H' D I h' => ?_⟩
    obtain ⟨Ech, hW, h1, h2, h3⟩ := h'
    have tk2 : Takes ((cxOf C8.CX0 X.prog X.w X.K X.mg X.base NW "_law_why" (defScope sWhy) g cdg X.A X.stack s H C8.E0).tr pn xe) (fun cls d σ H => σ.length = 2 → W cls d σ H) := by
      rintro u s2 ⟨a, B, sI, pins2, σ2, H2, cls, d, e, I2, nb, up, sky, na, os, ag, hw2⟩
      exact tk u s2 ⟨a, B, sI, pins2, σ2, H2, cls, d, e, I2, nb, up, sky, na, os, ag, hw2 I2.len⟩
    exact (pss_one (ps_ret (pe_tup (pa_cons pe_str (pa_cons (act (fun cls d σ H => σ.length = 2 → W cls d σ H) pn xe Ech _ _ tk2 (fun cls d σ' H' hE hl => hW cls d σ' H' hl hE)) pa_nil))))).run pins s' σ H' D I ⟨h1, h2, h3⟩
  · intro σ H' Q' hq
    obtain ⟨v, hv, hva, hcl, dd, v2, hdd, hH, q2⟩ := hq
    exact ⟨v, hv, _, _, hz, hf, hva, hcl, dd, v2, hdd, hH, q2⟩
  · refine ⟨_, fun cls d σ' H' hlen hE => ?_, rfl, hc, h⟩
    obtain ⟨rfl, dd, v, rfl, hd, q2⟩ := hE
    refine ⟨hx, fun a na => ?_⟩
    refine ⟨_, ?_, rfl, rfl, dd, _, _, rfl, hd, rfl, _, ?_, rfl, rfl, dd, v, rfl, hd, fun H2 s2 => ⟨(by show 2 ≤ sizeLine; decide), fun T nT => q2 _ T (s2.trans (same_new nT)) (s2.free nT) upd_same⟩⟩
    · simp [hlen]
    · simp [hlen]
end
/-! a def that is called by its name -/
structure Cb (P : Program) (w : World) (K : PySem.W.Frag) (mg : Str → Option Value) (base : Heap) (CX : CXT) (k : Nat) (x : Str) (ps : List Str) (sp : Sp) (f : Addr) (fd : FuncData) : Prop where
  ok : FnOk P w K mg base CX k f fd ps sp
  kp : PySem.W.keepIn K (.ref f) = true
  b : Binds K fd ps []
  g : mg x = some (.ref f)
theorem passN {P : Program} {w : World} {X : Cx} (hp : X.prog = P) (hw : X.w = w) : Passes (L2.CX P w) X E0 := by
  intro pins σ H s e s' I h
  obtain ⟨_, _, _, _, _, _, _, _, _, _, _, _, hE⟩ := h
  exact hE.elim
/-! tables of code beside the box -/
theorem tabs_go {T : List (Addr × Str)} {H H' : Hp} {b m : Addr} (t : LamX.Tabs T H) (hB : Bx H b m) (g : BxGo H H' b m) : LamX.Tabs T H' := by
  intro p hp
  obtain ⟨ms, i, r, s, hb, _⟩ := hB
  obtain ⟨ps, h1, h2, h3⟩ := t p hp
  refine ⟨ps, g.2 _ _ (fun e => ?_) h1, h2, fun pos cv hc => ?_⟩
  · rw [e, hb] at h1
    cases h1
  · obtain ⟨c, e1, e2⟩ := h3 pos cv hc
    refine ⟨c, e1, g.2 _ _ (fun e => ?_) e2⟩
    rw [e, hb] at e2
    cases e2
theorem bx_ext {H H' : Hp} {b m : Addr} (x : Bx H b m) (e : LamX.ExtN H H') : Bx H' b m := by
  obtain ⟨ms, i, r, s, h1, h2, h3⟩ := x
  exact ⟨ms, i, r, s, e _ _ h1 (fun ps z => by cases z), e _ _ h2 (fun ps z => by cases z), h3⟩
theorem sg_mem {L : List Nat} {x : Nat} (h : x ∈ sg L) : ∃ c ∈ L, x = c ∨ x = c - 32 := by
  obtain ⟨c, hc, hx⟩ := List.mem_flatMap.mp h
  exact ⟨c, hc, by simpa using hx⟩
theorem sg_asc {L : List Nat} (h : ∀ c ∈ L, c ∈ menu) {x : Nat} (hx : x ∈ sg L) : x < 128 := by
  obtain ⟨c, hc, e⟩ := sg_mem hx
  have := menu_asc c (h c hc)
  omega
theorem isW_yes {l L : List Nat} (h : ∀ c ∈ l, c ∈ sg L) : isW l L = true := by
  unfold isW
  rw [List.all_eq_true]
  exact fun c hc => decide_eq_true (h c hc)
theorem isW_no {l L : List Nat} {x : Nat} (hx : x ∈ l) (hn : x ∉ sg L) : isW l L = false := by
  unfold isW
  cases e : l.all fun c => decide (c ∈ sg L) with
  | false => rfl
  | true => exact absurd (of_decide_eq_true (List.all_eq_true.mp e x hx)) hn
theorem cut_to (l : List Nat) (n : Nat) : cutS (SX.S l) none (some (n : Int)) = SX.S (l.take n) := by
  unfold cutS
  rw [HT.sIx_none, List.drop_zero, Nat.sub_zero, HT.sIx_nat, tx_len]
  show SX.S (l.take (min n l.length)) = SX.S (l.take n)
  by_cases h : n ≤ l.length
  · rw [Nat.min_eq_left h]
  · rw [Nat.min_eq_right (by omega), List.take_length, List.take_of_length_le (by omega)]
theorem cut_from (l : List Nat) (n : Nat) : cutS (SX.S l) (some (n : Int)) none = SX.S (l.drop n) := by
  unfold cutS
  rw [HT.sIx_none, HT.sIx_nat, tx_len]
  show SX.S ((l.drop (min n l.length)).take (l.length - min n l.length)) = SX.S (l.drop n)
  by_cases h : n ≤ l.length
  · rw [Nat.min_eq_left h, List.take_of_length_le (by rw [List.length_drop]; omega)]
  · rw [Nat.min_eq_right (by omega), List.drop_length, List.drop_eq_nil_of_le (by omega)]
    simp
end K2
set_option maxRecDepth 100000
set_option maxHeartbeats 2000000
namespace Rs
open PySem PySem.Spec PyProof.Rows L2
/-- < of data that are alike -/
theorem op_ltD {X : Cx} (hu : X.A.units + 64 < cLine) : OpR X (compareOp .Lt) (fun x y H Q => ∃ d e, Dp X.K H x d ∧ Dp X.K H y e ∧ PySem.W.alike d e = true ∧ d ≠ .none ∧ d.depth ≤ 64 ∧ Q (.bl (PySem.W.dataLt d e)) H) := by
  intro pins s σ H x y v u Q I rx ry h
  obtain ⟨d, e, hd, he, ha, hn, hp, q⟩ := h
  obtain ⟨as, r1⟩ := Dp.reads I d x v hd rx
  obtain ⟨bs, r2⟩ := Dp.reads I e y u he ry
  exact PySem.W.lt_data r1 r2 ha hn (by have := Nat.min_le_left d.depth e.depth; omega) ⟨.bl _, H, I, rfl, q⟩
end Rs
namespace K2
open PySem PySem.Spec PyProof.Rows L2
def ix (c : Nat) (l : List Nat) : Nat := l.idxOf c
theorem ix_at {c : Nat} {l : List Nat} (h : c ∈ l) : l[ix c l]? = some c := by
  unfold ix
  rw [List.getElem?_eq_getElem (List.idxOf_lt_length_iff.mpr h), List.getElem_idxOf]
theorem ix_first {c : Nat} {l : List Nat} {m d : Nat} (hm : m < ix c l) (h : l[m]? = some d) : d ≠ c := by
  intro e
  subst e
  unfold ix at hm
  induction l generalizing m with
  | nil => cases h
  | cons a r ih =>
    rw [List.idxOf_cons] at hm
    by_cases ha : a = d
    · subst ha
      simp at hm
    · have hb : (a == d) = false := by simpa using ha
      rw [hb] at hm
      cases m with
      | zero =>
        simp at h
        exact ha h
      | succ m =>
        have hm' : m + 1 < List.idxOf d r + 1 := by
          rw [cond_false] at hm
          exact hm
        exact ih (m := m) (by simpa using h) (by omega)
theorem eq_one (a c : Nat) : eqV (one a) (tx [c]) = decide (a = c) := by
  show (SX.S [a] == SX.S [c]) = _
  rw [SX.S_beq_eq]
  simp
theorem ix_str {c : Nat} {l : List Nat} (h : c ∈ l) : ∃ rest, Builtin.Str.occurrences (SX.S l) (SX.S [c]) 0 (SX.S l).length 1 = ix c l :: rest := by
  have one : ∀ i, StrLaws.At (SX.S l) (SX.S [c]) (SX.S l).length i ↔ l[i]? = some c := fun i => by
    have z := StrLaws.subAt_one (SX.S l) c i
    have e : (SX.S l).cps.toList = l := by simp
    rw [e] at z
    exact z
  rcases StrLaws.occ_head (SX.S l) (SX.S [c]) 1 (Nat.le_refl _) with ⟨_, hn⟩ | ⟨i, r, e, hi, hk⟩
  · exact absurd ((one _).mpr (ix_at h)) (hn _)
  · refine ⟨r, ?_⟩
    rw [e]
    congr 1
    have e1 := (one i).mp hi
    by_cases h1 : i < ix c l
    · exact absurd rfl (ix_first h1 e1)
    · by_cases h2 : ix c l < i
      · exact absurd ((one _).mpr (ix_at h)) (hk _ h2)
      · omega
section
variable {P : Program} {w : World} {K : PySem.W.Frag} {mg : Str → Option Value} {base : Heap}
/-! rank -/
def keyI (l L : List Nat) : List V := l.map fun c => .int (ix c (sg L) : Nat)
/-- a tuple with the length and the list of numbers stands at p -/
def KeyAt (H : Hp) (p : Addr) (l L : List Nat) : Prop := ∃ q, H p = some (.tup [.int (l.length : Nat), .ref q]) ∧ H q = some (.lst (keyI l L))
theorem KeyAt.same {H H' : Hp} {p : Addr} {l L : List Nat} (k : KeyAt H p l L) (s : Same H H') : KeyAt H' p l L := by
  obtain ⟨q, h1, h2⟩ := k
  exact ⟨q, s _ _ h1, s _ _ h2⟩
def spRank : Sp := fun vs H Q _ => ∃ l L : List Nat, vs = [tx l, tx L] ∧ l.length ≤ 1000 ∧ Lt L ∧ isW l L = true ∧ ∀ H' p, Same H H' → KeyAt H' p l L → Q (.ref p) H'
theorem isW_mem {l L : List Nat} (h : isW l L = true) {c : Nat} (hc : c ∈ l) : c ∈ sg L := of_decide_eq_true (List.all_eq_true.mp h c hc)
theorem ok_rank {f fS : Addr} {fd fdS : FuncData} {k : Nat} (F : Fun K "rank" "rank" sRank f fd) (B : Bn mg) (FS : Fun K "signs_of" "signs_of" sSignsOf fS fdS) (bS : Binds K fdS ["letters"] []) (gS : mg "signs_of" = some (.ref fS)) :
    FnOk P w K mg base CX0 (k + 2) f fd ["word", "letters"] spRank := by
  have GS : FnOk P w K mg base CX0 (k + 1) fS fdS ["letters"] spSof := ok_sof FS
  refine F.ok scRank (fun vs H Q E h => ?_) (fun cdv A outer s H vs Q E hr h => ?_)
  · obtain ⟨l, L, rfl, _⟩ := h
    rfl
  · obtain ⟨l, L, rfl, hl, hL, hw, q⟩ := h
    refine ⟨_, pss_cons (ps_set (i := 2) scRank.nd rfl (.inr rfl) (pe_call GS hr (by rfl) gS FS.kp bS .nil pass0 (pa_cons (pv 1) pa_nil)))
      (pss_one (ps_ret (pe_tup (pa_cons (pe_callB call_len_str (by rfl) B.len PySem.boot_len (pa_cons (pv 0) pa_nil)) (pa_cons (pe_lc (own := [("sign", 3)]) (g := gName 3) (tt := tYes) (te := tBM K "list" (rIndex K) (tVar 2) (tCons (tVar 3) tNil)) rfl scRank.nd (pi_str (pv 0))
        (blkOk_by (N := ["word", "letters", "signs", "sign"]) (sc := defScope sRank) (by decide +kernel)) (fun _ _ _ _ _ => pg_name (i := 3) scRank.nd rfl (Or.inl rfl)) (fun _ _ _ _ _ => pts_nil)
        (fun _ _ _ _ _ => pe_bm PySem.F.plainAttrs_list PySem.F.slot_list_index PySem.F.type_list_index mt_index (pv 2) (pa_cons (pv 3) pa_nil))) pa_nil))))), ?_⟩
    refine ⟨_, rfl, L, rfl, hL, fun H1 p s1 np hp => ?_⟩
    refine ⟨_, rfl, _, rfl, asc_le hl, _, rfl, _, rfl, fun D nD => ?_⟩
    refine lc_pure (walk_txt l) (σ := [some (tx l), some (tx L), some (.ref p), none]) (i := 3) (fun v => match v with | .str z => .int (ix (z.cps.toList.headD 0) (sg L) : Nat) | v => v) (fun _ => true) (by rw [List.length_map]; exact small1000 hl) nD (fun _ _ => trivial) (fun x H2 Q _ _ h => h) ?_ ?_
    · intro x H2 Q hx _ sm h
      obtain ⟨c, hc, rfl⟩ := List.mem_map.mp hx
      have hm := isW_mem hw hc
      refine ⟨_, rfl, .inl ⟨rfl, _, SqL.of (sm _ _ hp)⟩, _, rfl, p, _, _, ix c (sg L), one c, rfl, rfl, SqL.of (sm _ _ hp), rfl, ?_, ?_, ?_, ?_, h H2 (Same.refl _)⟩
      · rw [List.all_eq_true]
        intro v hv
        obtain ⟨d, _, rfl⟩ := List.mem_map.mp hv
        rfl
      · rw [List.getElem?_map, ix_at hm]
        rfl
      · rw [eq_one]
        exact decide_eq_true rfl
      · intro m z' hlt hz
        rw [List.getElem?_map] at hz
        cases hd : (sg L)[m]? with
        | none =>
          rw [hd] at hz
          cases hz
        | some d =>
          rw [hd] at hz
          obtain rfl : one d = z' := Option.some.inj hz
          rw [eq_one]
          exact decide_eq_false (ix_first hlt hd)
    · intro H2 s2 hD
      refine ⟨(by show 2 ≤ sizeLine; decide), fun T nT => q _ T ((s1.trans s2).trans (same_new nT)) ⟨D, ?_, ?_⟩⟩
      · rw [upd_same, tx_len]
      · rw [upd_ne (ne_of_none hD nT), hD]
        congr 2
        unfold keyI
        rw [List.filter_eq_self.mpr (by simp), List.map_map]
        rfl
end
end K2
set_option maxRecDepth 100000
set_option maxHeartbeats 2000000
namespace K2
open PySem PySem.Spec PyProof.Rows L2
/-! precedes -/
def keyD (l L : List Nat) : PyData := .tuple [.int (l.length : Nat), .list (l.map fun c => .int (ix c (sg L) : Nat))]
theorem dp_ints {K : PySem.W.Frag} {H : Hp} (g : Nat → Int) : ∀ l : List Nat, DpAll K H (l.map fun c => V.int (g c)) (l.map fun c => PyData.int (g c))
  | [] => .nil
  | c :: r => .cons (.int _) (dp_ints g r)
theorem KeyAt.dp {K : PySem.W.Frag} {H : Hp} {p : Addr} {l L : List Nat} (k : KeyAt H p l L) : Dp K H (.ref p) (keyD l L) := by
  obtain ⟨q, h1, h2⟩ := k
  exact .tup (SqT.of h1) (.cons (.int _) (.cons (.lst (SqL.of h2) (dp_ints _ l)) .nil))
theorem alike_ints (g : Nat → Int) : ∀ a b : List Nat, PySem.W.alikeAll (a.map fun c => PyData.int (g c)) (b.map fun c => PyData.int (g c)) = true
  | [], _ => by simp [PySem.W.alikeAll]
  | _ :: _, [] => by simp [PySem.W.alikeAll]
  | x :: a, y :: b => by
    have h := alike_ints g a b
    simp only [List.map_cons, PySem.W.alikeAll, PySem.W.alike, Bool.true_and]
    exact h
theorem key_alike (a b L : List Nat) : PySem.W.alike (keyD a L) (keyD b L) = true := by
  have h := alike_ints (fun c => (ix c (sg L) : Nat)) a b
  unfold keyD
  simp only [PySem.W.alike, PySem.W.alikeAll, Bool.true_and, Bool.and_true]
  exact h
theorem depth_ints (g : Nat → Int) : ∀ a : List Nat, PyData.depthAll (a.map fun c => PyData.int (g c)) = 0
  | [] => rfl
  | x :: a => by
    show max 0 (PyData.depthAll (a.map fun c => PyData.int (g c))) = 0
    rw [depth_ints g a]
    rfl
theorem key_depth (a L : List Nat) : (keyD a L).depth ≤ 64 := by
  show max 0 (max (PyData.depthAll (a.map fun c => PyData.int (ix c (sg L) : Nat)) + 1) 0) + 1 ≤ 64
  rw [depth_ints (fun c => (ix c (sg L) : Nat))]
  decide
section
variable {P : Program} {w : World} {K : PySem.W.Frag} {mg : Str → Option Value} {base : Heap}
def spPre (C : Addr) : Sp := fun vs H Q E => ∃ (a b L : List Nat), vs = [tx a, tx b, tx L] ∧ Lt L ∧ a.length ≤ 1000 ∧ b.length ≤ 1000 ∧
  (isW a L = true → isW b L = true → ∀ H', Same H H' → Q (.bl (PySem.W.dataLt (keyD a L) (keyD b L))) H') ∧
  (isW a L = false → ∀ (H' : Hp) (d : Addr), Same H H' → H d = none → H' d = some (.xd [("tag", tagW), ("at", .int 0)]) → E (.ref C) (some d) H') ∧
  (isW a L = true → isW b L = false → ∀ (H' : Hp) (d : Addr), Same H H' → H d = none → H' d = some (.xd [("tag", tagW), ("at", .int 1)]) → E (.ref C) (some d) H')
theorem ok_pre {f fK fR C : Addr} {fd fdK fdR : FuncData} {k : Nat} (F : Fun K "precedes" "precedes" sPre f fd)
    (GK : FnOk P w K mg base (L2.CX P w) (k + 3) fK fdK ["words", "letters"] (spChk C)) (kK : PySem.W.keepIn K (.ref fK) = true) (bK : Binds K fdK ["words", "letters"] []) (gK : mg "check_words" = some (.ref fK))
    (GR : FnOk P w K mg base CX0 (k + 2) fR fdR ["word", "letters"] spRank) (kR : PySem.W.keepIn K (.ref fR) = true) (bR : Binds K fdR ["word", "letters"] []) (gR : mg "rank" = some (.ref fR)) :
    FnOk P w K mg base (L2.CX P w) (k + 4) f fd ["one", "other", "letters"] (spPre C) := by
  refine F.okX scPre (fun vs H Q E h => ?_) (fun cdv A outer s H vs Q E hr h => ?_)
  · obtain ⟨a, b, L, rfl, _⟩ := h
    rfl
  · obtain ⟨a, b, L, rfl, hL, ha, hb, q, qa, qb⟩ := h
    have hr2 : Room (k + 2) (A.deeper (envOfC "precedes" (defScope sPre) s.heap.objs.size f cdv)) := hr.mono (by omega)
    have hu : (A.deeper (envOfC "precedes" (defScope sPre) s.heap.objs.size f cdv)).units + 64 < cLine := by
      have := hr.un
      omega
    refine ⟨_, pss_cons (ps_expr (pe_call GK hr (by rfl) gK kK bK .nil (passes_call (W := fun cls d _ H => E cls d H) (takes_of rfl rfl rfl rfl) (fun _ _ _ _ h => h)) (pa_cons (pe_lst (pa_cons (pv 0) (pa_cons (pv 1) pa_nil))) (pa_cons (pv 2) pa_nil))))
      (pss_one (ps_ret (pe_cmpR (Rs.op_ltD hu) (pe_call GR hr2 (by rfl) gR kR bR .nil pass0 (pa_cons (pv 0) (pa_cons (pv 2) pa_nil))) (pe_call GR hr2 (by rfl) gR kR bR .nil pass0 (pa_cons (pv 1) (pa_cons (pv 2) pa_nil))) (nomark _)))), ?_⟩
    refine ⟨_, rfl, _, rfl, (by show 2 ≤ sizeLine; decide), fun p np => ⟨_, rfl, p, [a, b], L, rfl, upd_same, hL, ?_, fun hall H1 s1 => ?_, ?_⟩⟩
    · intro l' hl'
      rcases List.mem_cons.mp hl' with e | hl'
      · rw [e]
        exact ha
      · rw [List.mem_singleton.mp hl']
        exact hb
    · have s0 : Same H H1 := (same_new np).trans s1
      have hwa : isW a L = true := hall a (by simp)
      have hwb : isW b L = true := hall b (by simp)
      refine ⟨_, rfl, _, rfl, a, L, rfl, ha, hL, hwa, fun H2 p1 s2 k1 => ⟨_, rfl, _, rfl, b, L, rfl, hb, hL, hwb, fun H3 p2 s3 k2 => ?_⟩⟩
      exact ⟨keyD a L, keyD b L, (k1.same s3).dp, k2.dp, key_alike a b L, (fun z => by cases z), key_depth a L, q hwa hwb H3 ((s0.trans s2).trans s3)⟩
    · intro i l' hi hw hb4 H1 d s1 nd hd
      match i, hi with
      | 0, hi =>
        obtain rfl : a = l' := Option.some.inj hi
        exact qa hw H1 d ((same_new np).trans s1) ((same_new np).free nd) hd
      | 1, hi =>
        obtain rfl : b = l' := Option.some.inj hi
        exact qb (hb4 0 a (by decide) rfl) hw H1 d ((same_new np).trans s1) ((same_new np).free nd) hd
end
end K2
set_option maxRecDepth 100000
set_option maxHeartbeats 1000000
namespace K2
open PySem PySem.Spec PyProof.Rows L2
abbrev NL : List Str := ["_law_script","_law_box","_law_turn","_law_signs_here","_law_at","_law_near","_law_other_z","_law_keys","_law_found","_law_asks","_law_letters_z","_law_one_z","_law_each","_law_sign","_law_ask"]
def forBody : Stmt → List Stmt
  | .For _ _ b _ _ => b
  | _ => []
def lb : List Stmt := forBody ((defBody sLaw).getD 1 (.Pass ⟨0, 0, 0, 0⟩))
abbrev lbs (i : Nat) : Stmt := lb.getD i (.Pass ⟨0, 0, 0, 0⟩)
theorem lb_is : lb = [lbs 0, lbs 1, lbs 2, lbs 3, lbs 4, lbs 5, lbs 6, lbs 7, lbs 8, lbs 9, lbs 10] := by rfl
def qL : Str := (envOfC "law" (defScope sLaw) 0 0 .none).qual ++ "<lambda>"
abbrev S2 (a b : Addr) (y2 y3 y4 y5 y6 y7 y8 y9 y10 y11 : Option V) : L2.St := [some (.ref a), some (.ref b), y2, y3, y4, y5, y6, y7, y8, y9, y10, y11, none, none, none]
def Lg (L : List Nat) : Prop := (1 ≤ L.length ∧ L.Nodup) ∧ L.length ≤ 3 ∧ ∀ c ∈ L, c ∈ menu
theorem Lg.lt {L : List Nat} (h : Lg L) : Lt L := ⟨⟨by have := h.2.1; omega, h.1.2⟩, h.2.2⟩
def Wg (L l : List Nat) : Prop := l.length ≤ 30 ∧ ∀ c ∈ l, c ∈ sg L
def Zz (Pt b m : Addr) (H : Hp) : Prop := Bx H b m ∧ LamX.Tabs [(Pt, qL)] H
theorem Zz.same {Pt b m : Addr} {H H' : Hp} (z : Zz Pt b m H) (s : Same H H') : Zz Pt b m H' := ⟨z.1.same s, z.2.ext s⟩
theorem Zz.go {Pt b m : Addr} {H H' : Hp} (z : Zz Pt b m H) (g : BxGo H H' b m) : Zz Pt b m H' := ⟨g.1, tabs_go z.2 z.1 g⟩
theorem sg_ne {L : List Nat} (h : Lg L) : sg L ≠ [] := by
  intro e
  have := sg_len L
  rw [e] at this
  have := h.1.1
  simp at *
  omega
section
variable {P : Program} {w : World} {K : PySem.W.Frag} {mg : Str → Option Value} {base : Heap}
variable {f fBeg fD fA fLe fSg fSo fPr fSa fWh fF C fI C1 C2 C3 c Pt : Addr} {fdBeg fdD fdA fdLe fdSg fdSo fdPr fdSa fdWh fdF : FuncData} {A : Around} {outer : List Env} {s : Shared} {H : Hp} {E : XK}
/-- the context of the law's body -/
abbrev XL (P : Program) (w : World) (K : PySem.W.Frag) (mg : Str → Option Value) (base : Heap) (f c : Addr) (A : Around) (outer : List Env) (s : Shared) (H : Hp) (E : XK) : Cx := (cxOf CX0 P w K mg base NL "law" (defScope sLaw) f (.ref c) A outer s H E).nox
theorem s0 (cD : Cb P w K mg base CX0 1 "_law_draw" ["_law_box", "_law_many"] spDraw fD fdD) (cLe : Cb P w K mg base CX0 3 "_law_letters" ["_law_box", "_law_many"] spLet fLe fdLe) (hr : Room 7 (A.deeper (envOfC "law" (defScope sLaw) s.heap.objs.size f (.ref c)))) :
    ∃ t, PS (XL P w K mg base f c A outer s H E) (lbs 0) t ∧ ∀ (b m a : Addr) (y2 y3 y4 y5 y6 y7 y8 y9 y10 y11 : Option V) (D : Ends) (H0 : Hp), Zz Pt b m H0 →
      (∀ L H', Lg L → Zz Pt b m H' → D.nx (S2 a b y2 y3 y4 y5 y6 y7 y8 y9 (some (tx L)) y11) H') → t D (S2 a b y2 y3 y4 y5 y6 y7 y8 y9 y10 y11) H0 := by
  have r1 : Room 1 (A.deeper (envOfC "law" (defScope sLaw) s.heap.objs.size f (.ref c))) := hr.mono (by decide)
  have r3 : Room 3 (A.deeper (envOfC "law" (defScope sLaw) s.heap.objs.size f (.ref c))) := hr.mono (by decide)
  refine ⟨_, ps_set (i := 10) scLaw.nd rfl (.inr rfl) (pe_call cLe.ok r3 (by rfl) cLe.g cLe.kp cLe.b .nil pass0 (pa_cons (pv 1) (pa_cons (pe_op op_add pe_int (pe_call cD.ok r1 (by rfl) cD.g cD.kp cD.b .nil pass0 (pa_cons (pv 1) (pa_cons pe_int pa_nil)))) pa_nil))), ?_⟩
  intro b m a y2 y3 y4 y5 y6 y7 y8 y9 y10 y11 D H0 z nx
  refine ⟨_, rfl, _, rfl, b, m, 3, rfl, z.1, by decide, by decide, fun d H1 d0 d1 hT1 => ⟨_, _, rfl, rfl, b, m, (1 + d).toNat, ?_, hT1.1, by omega, by omega, fun L H2 hl hm hG => ?_⟩⟩
  · rw [Int.toNat_of_nonneg (by omega)]
    rfl
  · exact nx L H2 ⟨⟨by omega, hl.2⟩, by omega, hm⟩ ((z.go hT1.go).go hG)
theorem s1 (cSg : Cb P w K mg base CX0 1 "_law_signs" ["_law_letters_z"] spSigns fSg fdSg) (hr : Room 7 (A.deeper (envOfC "law" (defScope sLaw) s.heap.objs.size f (.ref c)))) :
    ∃ t, PS (XL P w K mg base f c A outer s H E) (lbs 1) t ∧ ∀ (b m a : Addr) (y2 y3 y4 y5 y6 y7 y8 y9 y11 : Option V) (L : List Nat) (D : Ends) (H0 : Hp), Zz Pt b m H0 → Lg L →
      (∀ H', Zz Pt b m H' → D.nx (S2 a b y2 (some (tx (sg L))) y4 y5 y6 y7 y8 y9 (some (tx L)) y11) H') → t D (S2 a b y2 y3 y4 y5 y6 y7 y8 y9 (some (tx L)) y11) H0 := by
  have r1 : Room 1 (A.deeper (envOfC "law" (defScope sLaw) s.heap.objs.size f (.ref c))) := hr.mono (by decide)
  refine ⟨_, ps_set (i := 3) scLaw.nd rfl (.inr rfl) (pe_call cSg.ok r1 (by rfl) cSg.g cSg.kp cSg.b .nil pass0 (pa_cons (pv 10) pa_nil)), ?_⟩
  intro b m a y2 y3 y4 y5 y6 y7 y8 y9 y11 L D H0 z hL nx
  exact ⟨_, rfl, L, rfl, hL.lt, fun H1 sm => nx H1 (z.same sm)⟩
theorem s2 (cSo : Cb P w K mg base CX0 3 "_law_some_word" ["_law_box", "_law_letters_z", "_law_most"] spSome fSo fdSo) (hr : Room 7 (A.deeper (envOfC "law" (defScope sLaw) s.heap.objs.size f (.ref c)))) :
    ∃ t, PS (XL P w K mg base f c A outer s H E) (lbs 2) t ∧ ∀ (b m a : Addr) (y2 y3 y4 y5 y6 y7 y8 y9 y11 : Option V) (L : List Nat) (D : Ends) (H0 : Hp), Zz Pt b m H0 → Lg L →
      (∀ l H', l.length ≤ 6 → Wg L l → Zz Pt b m H' → D.nx (S2 a b y2 y3 y4 y5 y6 y7 y8 y9 (some (tx L)) (some (tx l))) H') → t D (S2 a b y2 y3 y4 y5 y6 y7 y8 y9 (some (tx L)) y11) H0 := by
  have r3 : Room 3 (A.deeper (envOfC "law" (defScope sLaw) s.heap.objs.size f (.ref c))) := hr.mono (by decide)
  refine ⟨_, ps_set (i := 11) scLaw.nd rfl (.inr rfl) (pe_call cSo.ok r3 (by rfl) cSo.g cSo.kp cSo.b .nil pass0 (pa_cons (pv 1) (pa_cons (pv 10) (pa_cons pe_int pa_nil)))), ?_⟩
  intro b m a y2 y3 y4 y5 y6 y7 y8 y9 y11 L D H0 z hL nx
  refine ⟨_, rfl, _, rfl, b, m, L, 6, rfl, z.1, hL.lt, (fun e => by have := hL.1.1; rw [e] at this; cases this), by decide, fun l H3 hl hw hG => ?_⟩
  exact nx l H3 hl ⟨by omega, hw⟩ (z.go hG)
theorem s3 (B : Bn mg) (cD : Cb P w K mg base CX0 1 "_law_draw" ["_law_box", "_law_many"] spDraw fD fdD) (hr : Room 7 (A.deeper (envOfC "law" (defScope sLaw) s.heap.objs.size f (.ref c)))) :
    ∃ t, PS (XL P w K mg base f c A outer s H E) (lbs 3) t ∧ ∀ (b m a : Addr) (y2 y3 y4 y5 y6 y7 y8 y9 y10 : Option V) (l : List Nat) (D : Ends) (H0 : Hp), Zz Pt b m H0 → l.length ≤ 6 →
      (∀ (n : Nat) H', n ≤ 6 → Zz Pt b m H' → D.nx (S2 a b y2 y3 (some (.int n)) y5 y6 y7 y8 y9 y10 (some (tx l))) H') → t D (S2 a b y2 y3 y4 y5 y6 y7 y8 y9 y10 (some (tx l))) H0 := by
  have r1 : Room 1 (A.deeper (envOfC "law" (defScope sLaw) s.heap.objs.size f (.ref c))) := hr.mono (by decide)
  refine ⟨_, ps_set (i := 4) scLaw.nd rfl (.inl rfl) (pe_call cD.ok r1 (by rfl) cD.g cD.kp cD.b .nil pass0 (pa_cons (pv 1) (pa_cons (pe_op op_add (pe_callB call_len (by rfl) B.len PySem.boot_len (pa_cons (pv 11) pa_nil)) pe_int) pa_nil))), ?_⟩
  intro b m a y2 y3 y4 y5 y6 y7 y8 y9 y10 l D H0 z hl nx
  refine ⟨_, rfl, _, rfl, _, _, rfl, ⟨asc_le (by omega), rfl⟩, _, _, rfl, rfl, b, m, _, rfl, z.1, ?_, ?_, fun d H1 d0 d1 hT => ?_⟩
  · rw [tx_len]
    omega
  · rw [tx_len]
    omega
  · have e : (d : Int) = ((d.toNat : Nat) : Int) := by omega
    rw [tx_len] at d1
    rw [e]
    exact nx d.toNat H1 (by omega) (z.go hT.go)
theorem s4 (B : Bn mg) (cD : Cb P w K mg base CX0 1 "_law_draw" ["_law_box", "_law_many"] spDraw fD fdD) (cA : Cb P w K mg base CX0 2 "_law_any" ["_law_box", "_law_some"] spAny fA fdA) (hr : Room 7 (A.deeper (envOfC "law" (defScope sLaw) s.heap.objs.size f (.ref c)))) :
    ∃ t, PS (XL P w K mg base f c A outer s H E) (lbs 4) t ∧ ∀ (b m a : Addr) (y2 y5 y6 y7 y8 y9 y10 : Option V) (L l : List Nat) (n : Nat) (D : Ends) (H0 : Hp), Zz Pt b m H0 → Lg L → Wg L l → l.length ≤ 6 →
      (∀ l' H', Wg L l' → Zz Pt b m H' → D.nx (S2 a b y2 (some (tx (sg L))) (some (.int n)) (some (tx l')) y6 y7 y8 y9 y10 (some (tx l))) H') → t D (S2 a b y2 (some (tx (sg L))) (some (.int n)) y5 y6 y7 y8 y9 y10 (some (tx l))) H0 := by
  have r1 : Room 1 (A.deeper (envOfC "law" (defScope sLaw) s.heap.objs.size f (.ref c))) := hr.mono (by decide)
  have r2 : Room 2 (A.deeper (envOfC "law" (defScope sLaw) s.heap.objs.size f (.ref c))) := hr.mono (by decide)
  refine ⟨_, ps_set (i := 5) scLaw.nd rfl (.inl rfl) (pe_op op_add_str (pe_op op_add_str (pe_slice sl_str (pv 11) po_none (po_some (pv 4))) (pe_call cA.ok r2 (by rfl) cA.g cA.kp cA.b .nil pass0 (pa_cons (pv 1) (pa_cons (pe_callTy (c_listS rfl) (by rfl) B.list PyProof.Rows.boot_list (pa_cons (pv 3) pa_nil)) pa_nil))))
    (pe_slice sl_str (pv 11) (po_some (pe_op op_add (pv 4) (pe_call cD.ok r1 (by rfl) cD.g cD.kp cD.b .nil pass0 (pa_cons (pv 1) (pa_cons pe_int pa_nil))))) po_none)), ?_⟩
  intro b m a y2 y5 y6 y7 y8 y9 y10 L l n D H0 z hL hW hl6 nx
  have hl : l.length ≤ 1000 := by have := hW.1; omega
  have hs : (sg L).length ≤ 6 := by
    rw [sg_len]
    have := hL.2.1
    omega
  refine ⟨_, rfl, _, rfl, _, rfl, _, rfl, asc_le hl, _, rfl, _, rfl, sg L, rfl, by omega, fun p np => ⟨b, m, p, _, rfl, z.1.same (same_new np), upd_same, z.1.ne np, ?_, ?_, fun x H2 hx hT => ?_⟩⟩
  · intro e
    exact sg_ne hL (List.map_eq_nil_iff.mp e)
  · rw [List.length_map]
    omega
  obtain ⟨d, hd, rfl⟩ := List.mem_map.mp hx
  rw [cut_to]
  have h3 : (l.take n).length ≤ 6 := by
    rw [List.length_take]
    omega
  have z2 : Zz Pt b m H2 := (z.same (same_new np)).go hT.go
  refine ⟨_, _, rfl, rfl, ?_, _, rfl, _, rfl, _, rfl, b, m, 2, rfl, z2.1, by decide, by decide, fun e H3 e0 e1 hT3 => ?_⟩
  · rw [tx_len, tx_len]
    exact Nat.le_of_lt (small1000 (by simp only [List.length_cons, List.length_nil]; omega))
  have z3 : Zz Pt b m H3 := z2.go hT3.go
  have ee : (n : Int) + e = ((n + e.toNat : Nat) : Int) := by omega
  refine ⟨_, _, rfl, rfl, _, rfl, _, rfl, asc_le hl, ?_⟩
  rw [ee, cut_from, SX.S_cat]
  have h4 : (l.drop (n + e.toNat)).length ≤ 6 := by
    rw [List.length_drop]
    omega
  refine ⟨_, _, rfl, rfl, ?_, ?_⟩
  · rw [tx_len, tx_len]
    refine Nat.le_of_lt (small1000 ?_)
    rw [List.length_append]
    simp only [List.length_cons, List.length_nil]
    omega
  · rw [SX.S_cat]
    refine nx ((l.take n ++ [d]) ++ l.drop (n + e.toNat)) H3 ⟨?_, ?_⟩ z3
    · rw [List.length_append, List.length_append]
      simp only [List.length_cons, List.length_nil]
      omega
    · intro x hx
      rcases List.mem_append.mp hx with hx | hx
      · rcases List.mem_append.mp hx with hx | hx
        · exact hW.2 x (List.mem_of_mem_take hx)
        · rw [List.mem_singleton.mp hx]
          exact hd
      · exact hW.2 x (List.mem_of_mem_drop hx)
theorem s5 (cA : Cb P w K mg base CX0 2 "_law_any" ["_law_box", "_law_some"] spAny fA fdA) (cSo : Cb P w K mg base CX0 3 "_law_some_word" ["_law_box", "_law_letters_z", "_law_most"] spSome fSo fdSo) (hr : Room 7 (A.deeper (envOfC "law" (defScope sLaw) s.heap.objs.size f (.ref c)))) :
    ∃ t, PS (XL P w K mg base f c A outer s H E) (lbs 5) t ∧ ∀ (b m a : Addr) (y2 y3 y4 y6 y7 y8 y9 : Option V) (L l l1 : List Nat) (D : Ends) (H0 : Hp), Zz Pt b m H0 → Lg L → Wg L l → Wg L l1 →
      (∀ l2 H', Wg L l2 → Zz Pt b m H' → D.nx (S2 a b y2 y3 y4 (some (tx l1)) (some (tx l2)) y7 y8 y9 (some (tx L)) (some (tx l))) H') → t D (S2 a b y2 y3 y4 (some (tx l1)) y6 y7 y8 y9 (some (tx L)) (some (tx l))) H0 := by
  have r2 : Room 2 (A.deeper (envOfC "law" (defScope sLaw) s.heap.objs.size f (.ref c))) := hr.mono (by decide)
  have r3 : Room 3 (A.deeper (envOfC "law" (defScope sLaw) s.heap.objs.size f (.ref c))) := hr.mono (by decide)
  refine ⟨_, ps_set (i := 6) scLaw.nd rfl (.inl rfl) (pe_call cA.ok r2 (by rfl) cA.g cA.kp cA.b .nil pass0 (pa_cons (pv 1) (pa_cons (pe_lst (pa_cons (pv 5) (pa_cons (pv 5) (pa_cons (pe_call cSo.ok r3 (by rfl) cSo.g cSo.kp cSo.b .nil pass0 (pa_cons (pv 1) (pa_cons (pv 10) (pa_cons pe_int pa_nil)))) (pa_cons (pv 11) pa_nil))))) pa_nil))), ?_⟩
  intro b m a y2 y3 y4 y6 y7 y8 y9 L l l1 D H0 z hL hW hW1 nx
  refine ⟨_, rfl, _, rfl, _, rfl, _, rfl, _, rfl, b, m, L, 6, rfl, z.1, hL.lt, (fun e => by have := hL.1.1; rw [e] at this; cases this), by decide, fun l3 H3 hl3 hw3 hG => ?_⟩
  have z3 := z.go hG
  refine ⟨_, rfl, (by show 4 ≤ sizeLine; decide), fun p np => ⟨b, m, p, _, rfl, z3.1.same (same_new np), upd_same, z3.1.ne np, (by simp), (by show 4 < 1000000; decide), fun x H4 hx hT => ?_⟩⟩
  have z4 : Zz Pt b m H4 := (z3.same (same_new np)).go hT.go
  have hx2 : x = tx l1 ∨ x = tx l3 ∨ x = tx l := by simpa using hx
  rcases hx2 with rfl | rfl | rfl
  · exact nx l1 H4 hW1 z4
  · exact nx l3 H4 ⟨by omega, hw3⟩ z4
  · exact nx l H4 hW z4
end
end K2
set_option maxRecDepth 100000
set_option maxHeartbeats 1000000
namespace K2
open PySem PySem.Spec PyProof.Rows L2
section
variable {P : Program} {w : World} {K : PySem.W.Frag} {mg : Str → Option Value} {base : Heap}
variable {f fBeg fD fA fLe fSg fSo fPr fSa fWh fF C fI C1 C2 C3 c Pt : Addr} {fdBeg fdD fdA fdLe fdSg fdSo fdPr fdSa fdWh fdF : FuncData} {A : Around} {outer : List Env} {s : Shared} {H : Hp} {E : XK}
/-- the two keys stand in the list at p -/
def KsAt (H : Hp) (p : Addr) (l l2 L : List Nat) : Prop := ∃ p1 p2, H p = some (.lst [.ref p1, .ref p2]) ∧ KeyAt H p1 l L ∧ KeyAt H p2 l2 L
theorem KsAt.same {H H' : Hp} {p : Addr} {l l2 L : List Nat} (k : KsAt H p l l2 L) (s : Same H H') : KsAt H' p l l2 L := by
  obtain ⟨p1, p2, h1, h2, h3⟩ := k
  exact ⟨p1, p2, s _ _ h1, h2.same s, h3.same s⟩
def scO : Scope := { kind := .function, names := [(".0", .local), ("_law_each", .local), ("len", .globalImplicit), ("_law_signs_here", .free)], isGenerator := false, isCoroutine := false }
theorem s6 (B : Bn mg) (hr : Room 7 (A.deeper (envOfC "law" (defScope sLaw) s.heap.objs.size f (.ref c)))) :
    ∃ t, PS (XL P w K mg base f c A outer s H E) (lbs 6) t ∧ ∀ (b m a : Addr) (y2 y4 y5 y7 y8 y9 y10 : Option V) (L l l2 : List Nat) (D : Ends) (H0 : Hp), Zz Pt b m H0 → Lg L → Wg L l → Wg L l2 →
      (∀ p H', Zz Pt b m H' → KsAt H' p l l2 L → D.nx (S2 a b y2 (some (tx (sg L))) y4 y5 (some (tx l2)) (some (.ref p)) y8 y9 y10 (some (tx l))) H') → t D (S2 a b y2 (some (tx (sg L))) y4 y5 (some (tx l2)) y7 y8 y9 y10 (some (tx l))) H0 := by
  refine ⟨_, ps_setLc (i := 7) (own := [("_law_each", 12)]) (g := gName 12) (tt := tYes) rfl scLaw.nd rfl rfl (sw_true rfl rfl rfl (by decide +kernel)) (pi_list (pe_lst (pa_cons (pv 11) (pa_cons (pv 6) pa_nil))))
        (blkOk_by (N := NL) (sc := defScope sLaw) (by decide +kernel)) (fun _ _ _ _ _ => pg_name (i := 12) scLaw.nd rfl (Or.inl rfl)) (fun _ _ _ _ _ => pts_nil)
        (fun _ _ _ _ _ => pe_tup (pa_cons (pe_callB call_len_str (by rfl) B.len PySem.boot_len (pa_cons (pv 12) pa_nil)) (pa_cons (pe_lc (own := [("_law_sign", 13)]) (g := gName 13) (tt := tYes) rfl scLaw.nd (pi_str (pv 12))
          (blkOk_by (N := NL) (sc := relS scO (defScope sLaw)) (by decide +kernel)) (fun _ _ _ _ _ => pg_name (i := 13) scLaw.nd rfl (Or.inl rfl)) (fun _ _ _ _ _ => pts_nil)
          (fun _ _ _ _ _ => pe_m1 PySem.F.slot_str_index PySem.F.type_str_index mt_sindex (pv 3) (pv 13))) pa_nil))), ?_⟩
  intro b m a y2 y4 y5 y7 y8 y9 y10 L l l2 D H0 z hL hW hW2 nx
  have hlen : ∀ wd : List Nat, Wg L wd → wd.length ≤ 1000 := fun wd h => by have := h.1; omega
  refine ⟨_, rfl, _, rfl, (by show 2 ≤ sizeLine; decide), fun q nq => ⟨q, rfl, ⟨_, SqL.of upd_same⟩, fun D1 nD => ?_⟩⟩
  have sq : Same H0 (upd H0 q (.lst [tx l, tx l2])) := same_new nq
  generalize hH1 : upd H0 q (.lst [tx l, tx l2]) = H1 at *
  have hq : H1 q = some (.lst [tx l, tx l2]) := by
    rw [← hH1]
    exact upd_same
  refine lc_it (walk_list (K := K) (a := q) (xs := [tx l, tx l2])) (fun j H2 => Same H1 H2 ∧ ∃ ps : List Addr, H2 D1 = some (.lst (ps.map V.ref)) ∧ ps.length = j ∧ ∀ (i : Nat) (p : Addr) (wd : List Nat), ps[i]? = some p → [l, l2][i]? = some wd → ∃ q, q ≠ D1 ∧ H2 p = some (.tup [.int (wd.length : Nat), .ref q]) ∧ H2 q = some (.lst (keyI wd L)))
    ⟨same_new nD, [], upd_same, rfl, fun i p wd h => by cases h⟩ (fun j H2 _ h => SqL.of (h.1 _ _ hq)) ?_ ?_
  · rintro j x H2 H2' hj ⟨sm, ps, hD1, hpl, hk⟩ ⟨rfl, hx⟩
    obtain ⟨wd, hwd, rfl, hWd⟩ : ∃ wd, [l, l2][j]? = some wd ∧ x = tx wd ∧ Wg L wd := by
      match j, hx with
      | 0, hx => exact ⟨l, rfl, (Option.some.inj hx).symm, hW⟩
      | 1, hx => exact ⟨l2, rfl, (Option.some.inj hx).symm, hW2⟩
    refine ⟨rfl, ?_⟩
    dsimp only [tYes]
    rw [if_pos rfl]
    refine ⟨_, rfl, _, rfl, asc_le (hlen wd hWd), _, rfl, _, rfl, fun D2 nD2 => ?_⟩
    refine lc_pure (walk_txt wd) (σ := [some (.ref a), some (.ref b), y2, some (tx (sg L)), y4, y5, some (tx l2), y7, y8, y9, y10, some (tx l), some (tx wd), none, none]) (i := 13) (fun v => match v with | .str z => .int (ix (z.cps.toList.headD 0) (sg L) : Nat) | v => v) (fun _ => true) (by rw [List.length_map]; exact small1000 (hlen wd hWd)) nD2 (fun _ _ => trivial) (fun x H2 Q _ _ h => h) ?_ ?_
    · intro x H3 Q hx3 _ sm3 h
      obtain ⟨e, he, rfl⟩ := List.mem_map.mp hx3
      obtain ⟨rest, hr2⟩ := ix_str (hWd.2 e he)
      exact ⟨_, rfl, ⟨_, rfl⟩, _, rfl, _, _, _, rest, rfl, rfl, hr2, h H3 (Same.refl _)⟩
    · intro H3 s3 hD2
      refine ⟨(by show 2 ≤ sizeLine; decide), fun T nT => ⟨_, (s3.trans (same_new nT)) _ _ hD1, ?_, ?_, ps ++ [T], ?_, ?_, ?_⟩⟩
      · rw [List.length_map, hpl]
        exact small1000 (by simp only [List.length_cons, List.length_nil] at hj; omega)
      · intro x o e
        rw [upd_ne (ne_of_none e nD)]
        exact (s3.trans (same_new nT)) _ _ (sm _ _ e)
      · rw [upd_same, List.map_append]
        rfl
      · rw [List.length_append, hpl]
        rfl
      · have hne : D2 ≠ D1 := fun e => by
          rw [e, hD1] at nD2
          cases nD2
        have hTD : T ≠ D1 := fun e => by
          rw [e, s3 _ _ hD1] at nT
          cases nT
        have st : ∀ x o, x ≠ D1 → H3 x = some o → upd (upd H3 T (.tup [.int ((SX.S wd).length : Nat), .ref D2])) D1 (.lst (ps.map V.ref ++ [.ref T])) x = some o := by
          intro x o hx e
          rw [upd_ne hx]
          exact (same_new nT) _ _ e
        intro i p wd' hi hw'
        by_cases hi2 : i < ps.length
        · rw [List.getElem?_append_left hi2] at hi
          obtain ⟨q1, g0, g1, g2⟩ := hk i p wd' hi hw'
          exact ⟨q1, g0, st _ _ (ne_of g1 hD1 (by intro z; cases z)) (s3 _ _ g1), st _ _ g0 (s3 _ _ g2)⟩
        · have ei : i = ps.length := by
            have := (List.getElem?_eq_some_iff.mp hi).1
            rw [List.length_append] at this
            simp only [List.length_cons, List.length_nil] at this
            omega
          rw [ei, List.getElem?_append_right (Nat.le_refl _), Nat.sub_self] at hi
          obtain rfl : T = p := Option.some.inj hi
          rw [ei, hpl, hwd] at hw'
          obtain rfl : wd = wd' := Option.some.inj hw'
          refine ⟨D2, hne, ?_, st _ _ hne ?_⟩
          · rw [upd_ne hTD, upd_same, tx_len]
          · rw [hD2]
            congr 2
            unfold keyI
            rw [List.filter_eq_self.mpr (by simp), List.map_map]
            rfl
  · rintro H2 ⟨sm, ps, hD1, hpl, hk⟩
    match ps, hpl with
    | [p1, p2], _ =>
      obtain ⟨q1, _, g1, g2⟩ := hk 0 p1 l rfl rfl
      obtain ⟨q2, _, g3, g4⟩ := hk 1 p2 l2 rfl rfl
      exact nx D1 H2 ((z.same sq).same sm) ⟨p1, p2, hD1, ⟨q1, g1, g2⟩, ⟨q2, g3, g4⟩⟩
end
end K2
set_option maxRecDepth 100000
set_option maxHeartbeats 1000000
namespace K2
open PySem PySem.Spec PyProof.Rows L2
theorem kb_pre {K : PySem.W.Frag} {f : Addr} {fd : FuncData} (F : Fun K "precedes" "precedes" sPre f fd) : KBinds K fd ["one", "other", "letters"] ["letters", "other", "one"] Rs.rev3 Rs.rev3 := by
  obtain ⟨oc, od, kV, doc, pm, an, cdv, ct, osl, rfl, lk, hcd⟩ := F.ex
  refine ⟨fun s us ws _ hl => ?_, Rs.rev3_rel⟩
  match us, ws, hl with
  | [], [x, y, z], _ => exact .of_eq rfl
section
variable {P : Program} {w : World} {K : PySem.W.Frag} {mg : Str → Option Value} {base : Heap}
variable {f fBeg fD fA fLe fSg fSo fPr fSa fWh fF C fI C1 C2 C3 c Pt : Addr} {fdBeg fdD fdA fdLe fdSg fdSo fdPr fdSa fdWh fdF : FuncData} {A : Around} {outer : List Env} {s : Shared} {H : Hp} {E : XK}
abbrev rl (l l2 L : List Nat) : Bool := PySem.W.dataLt (keyD l L) (keyD l2 L)
theorem s7 (cPr : Cb P w K mg base (L2.CX P w) 4 "precedes" ["one", "other", "letters"] (spPre C) fPr fdPr) (kb : KBinds K fdPr ["one", "other", "letters"] ["letters", "other", "one"] Rs.rev3 Rs.rev3) (hr : Room 7 (A.deeper (envOfC "law" (defScope sLaw) s.heap.objs.size f (.ref c)))) :
    ∃ t, PS (XL P w K mg base f c A outer s H E) (lbs 7) t ∧ ∀ (b m a k : Addr) (y2 y3 y4 y5 y8 y9 : Option V) (L l l2 : List Nat) (D : Ends) (H0 : Hp), Zz Pt b m H0 → Lg L → Wg L l → Wg L l2 → KsAt H0 k l l2 L →
      (∀ p H', Zz Pt b m H' → KsAt H' k l l2 L → H' p = some (.lst [.bl (rl l l2 L), .bl (rl l2 l L)]) → D.nx (S2 a b y2 y3 y4 y5 (some (tx l2)) (some (.ref k)) (some (.ref p)) y9 (some (tx L)) (some (tx l))) H') → t D (S2 a b y2 y3 y4 y5 (some (tx l2)) (some (.ref k)) y8 y9 (some (tx L)) (some (tx l))) H0 := by
  have r4 : Room 4 (A.deeper (envOfC "law" (defScope sLaw) s.heap.objs.size f (.ref c))) := hr.mono (by decide)
  refine ⟨_, ps_set (i := 8) scLaw.nd rfl (.inl rfl) (pe_lst (pa_cons (pe_call cPr.ok r4 (by rfl) cPr.g cPr.kp cPr.b .nil (passN rfl rfl) (pa_cons (pv 11) (pa_cons (pv 6) (pa_cons (pv 10) pa_nil))))
    (pa_cons (Rs.e_callK0 cPr.ok r4 (by rfl) cPr.g cPr.kp kb (passN rfl rfl) (pk_cons (pv 10) (pk_cons (pv 11) (pk_cons (pv 6) pk_nil)))) pa_nil))), ?_⟩
  intro b m a k y2 y3 y4 y5 y8 y9 L l l2 D H0 z hL hW hW2 hk nx
  have hl : l.length ≤ 1000 := by have := hW.1; omega
  have hl2 : l2.length ≤ 1000 := by have := hW2.1; omega
  have w1 := isW_yes hW.2
  have w2 := isW_yes hW2.2
  refine ⟨_, rfl, _, rfl, _, rfl, l, l2, L, rfl, hL.lt, hl, hl2, fun _ _ H1 s1 => ?_, ?_, ?_⟩
  · refine ⟨_, rfl, _, rfl, _, rfl, l2, l, L, rfl, hL.lt, hl2, hl, fun _ _ H2 s2 => ⟨(by show 2 ≤ sizeLine; decide), fun p np => ?_⟩, ?_, ?_⟩
    · have sA := (s1.trans s2).trans (same_new np (o := .lst [.bl (rl l l2 L), .bl (rl l2 l L)]))
      exact nx p _ (z.same sA) (hk.same sA) upd_same
    · intro e
      rw [w2] at e
      cases e
    · intro _ e
      rw [w1] at e
      cases e
  · intro e
    rw [w1] at e
    cases e
  · intro _ e
    rw [w2] at e
    cases e
theorem s8 (cS1 : Cb P w K mg base CX0 2 "_law_same" ["_law_found", "_law_due"] (spSame 1) fSa fdSa) (hr : Room 7 (A.deeper (envOfC "law" (defScope sLaw) s.heap.objs.size f (.ref c)))) :
    ∃ t, PS (XL P w K mg base f c A outer s H E) (lbs 8) t ∧ ∀ (b m a k p : Addr) (y2 y3 y4 y5 y6 y9 y10 y11 : Option V) (L l l2 : List Nat) (D : Ends) (H0 : Hp), Zz Pt b m H0 → KsAt H0 k l l2 L → H0 p = some (.lst [.bl (rl l l2 L), .bl (rl l2 l L)]) →
      (∀ H', Zz Pt b m H' → D.nx (S2 a b y2 y3 y4 y5 y6 (some (.ref k)) (some (.ref p)) y9 y10 y11) H') → t D (S2 a b y2 y3 y4 y5 y6 (some (.ref k)) (some (.ref p)) y9 y10 y11) H0 := by
  have r2 : Room 2 (A.deeper (envOfC "law" (defScope sLaw) s.heap.objs.size f (.ref c))) := hr.mono (by decide)
  have hu : (A.deeper (envOfC "law" (defScope sLaw) s.heap.objs.size f (.ref c))).units + 64 < cLine := by
    have := hr.un
    omega
  refine ⟨_, ps_if (pt_not (pt_val (pe_call cS1.ok r2 (by rfl) cS1.g cS1.kp cS1.b .nil pass0 (pa_cons (pv 8) (pa_cons (pe_lst (pa_cons (pe_cmpR (Rs.op_ltD hu) (pe_ix ix_list (pv 7) pe_int (fun _ _ => rfl)) (pe_ix ix_list (pv 7) pe_int (fun _ _ => rfl)) (nomark _))
      (pa_cons (pe_cmpR (Rs.op_ltD hu) (pe_ix ix_list (pv 7) pe_int (fun _ _ => rfl)) (pe_ix ix_list (pv 7) pe_int (fun _ _ => rfl)) (nomark _)) pa_nil))) pa_nil))))) pss_never pss_nil, ?_⟩
  intro b m a k p y2 y3 y4 y5 y6 y9 y10 y11 L l l2 D H0 z hk hp nx
  obtain ⟨p1, p2, h1, h2, h3⟩ := id hk
  refine ⟨_, rfl, _, rfl, k, _, 0, _, rfl, rfl, SqL.of h1, rfl, _, rfl, k, _, 1, _, rfl, rfl, SqL.of h1, rfl, keyD l L, keyD l2 L, h2.dp, h3.dp, key_alike l l2 L, (fun e => by cases e), key_depth l L, ?_⟩
  refine ⟨_, rfl, k, _, 1, _, rfl, rfl, SqL.of h1, rfl, _, rfl, k, _, 0, _, rfl, rfl, SqL.of h1, rfl, keyD l2 L, keyD l L, h3.dp, h2.dp, key_alike l2 l L, (fun e => by cases e), key_depth l2 L, ?_⟩
  refine ⟨(by show 2 ≤ sizeLine; decide), fun q nq => ⟨_, _, rfl, ?_, fun H3 s3 => ⟨true, rfl, iteF ?_⟩⟩⟩
  · refine .inr ⟨p, q, [.bl (rl l l2 L), .bl (rl l2 l L)], [.bl (rl l l2 L), .bl (rl l2 l L)], rfl, rfl, rfl, (by show 2 ≤ 1000; decide), .inl ⟨?_, upd_same⟩, fun i u v g1 g2 => ?_⟩
    · rw [upd_ne (ne_of_none hp nq)]
      exact hp
    · rw [g1] at g2
      cases g2
      refine ⟨rfl, ?_⟩
      have hm := List.mem_of_getElem? g1
      have h4 : u = .bl (rl l l2 L) ∨ u = .bl (rl l2 l L) := by simpa using hm
      rcases h4 with e | e <;> exact .inr (.inr ⟨_, e⟩)
  · exact nx H3 (z.same ((same_new nq).trans s3))
end
end K2
set_option maxRecDepth 100000
set_option maxHeartbeats 1000000
namespace K2
open PySem PySem.Spec PyProof.Rows L2
def lamP : Expr → Arguments
  | .Lambda p _ _ _ => p
  | _ => ⟨[], [], none, [], [], none, []⟩
def lamE : Expr → Expr
  | .Lambda _ e _ _ => e
  | e => e
def lamS : Expr → Scope
  | .Lambda _ _ s _ => s
  | _ => scO
def itemsE : Stmt → List Expr
  | .Assign _ (.List es _) _ => es
  | _ => []
def ask (i : Nat) : Expr := (itemsE (lbs 9)).getD i (.Name "" ⟨0, 0, 0, 0⟩)
theorem bind0 : Rs.LamBind (lamP (ask 0)) (lamE (ask 0)) (lamS (ask 0)) := by
  intro z q cl dV doc pm cv ctv h
  rcases h with ⟨_, rfl⟩ | ⟨t, its, _, _, _, hn⟩
  · exact ⟨[], .of_eq rfl, fun y hy => nomatch hy⟩
  · exact absurd rfl hn
theorem bind1 : Rs.LamBind (lamP (ask 1)) (lamE (ask 1)) (lamS (ask 1)) := by
  intro z q cl dV doc pm cv ctv h
  rcases h with ⟨h0, _⟩ | ⟨t, its, rfl, ⟨o, ho, _, n, hs⟩, hl, _⟩
  · cases h0
  · match its, hl with
    | [v], _ =>
      refine ⟨[("_law_a", v)], BindsTo.of_defaults (T := t) rfl ho hs rfl rfl, ?_⟩
      intro y hy
      rw [List.mem_singleton.mp hy]
      rfl
theorem odd63 {L : List Nat} (h : ∀ c ∈ L, c ∈ menu) : 63 ∉ sg L := by
  intro hm
  obtain ⟨c, hc, e⟩ := sg_mem hm
  have k : ∀ c ∈ menu, 63 ≠ c ∧ 63 ≠ c - 32 := by decide
  rcases e with e | e
  · exact (k c (h c hc)).1 e
  · exact (k c (h c hc)).2 e
theorem q63 : Str.ofString "?" = SX.S [63] := by decide
section
variable {P : Program} {w : World} {K : PySem.W.Frag} {mg : Str → Option Value} {base : Heap}
variable {f fBeg fD fA fLe fSg fSo fPr fSa fWh fF C fI C1 C2 C3 c Pt : Addr} {fdBeg fdD fdA fdLe fdSg fdSo fdPr fdSa fdWh fdF : FuncData} {A : Around} {outer : List Env} {s : Shared} {H : Hp} {E : XK}
/-- the lambda i of the law stands at g -/
abbrev AskAt (P : Program) (w : World) (K : PySem.W.Frag) (mg : Str → Option Value) (base : Heap) (f c : Addr) (A : Around) (outer : List Env) (s : Shared) (H : Hp) (E : XK) (i : Nat) (g : Addr) (G : Hp) : Prop := Rs.LamAt (XL P w K mg base f c A outer s H E) (lamP (ask i)) (lamE (ask i)) (lamS (ask i)) g G
theorem s9 (TB : LamX.TabB base mg c Pt) :
    ∃ t, PS (XL P w K mg base f c A outer s H E) (lbs 9) t ∧ ∀ (b m a : Addr) (y2 y3 y4 y5 y6 y7 y8 y9 y10 y11 : Option V) (D : Ends) (H0 : Hp), Zz Pt b m H0 →
      (∀ p f1 f2 H', Zz Pt b m H' → H' p = some (.lst [.ref f1, .ref f2]) → AskAt P w K mg base f c A outer s H E 0 f1 H' → AskAt P w K mg base f c A outer s H E 1 f2 H' → D.nx (S2 a b y2 y3 y4 y5 y6 y7 y8 (some (.ref p)) y10 y11) H') → t D (S2 a b y2 y3 y4 y5 y6 y7 y8 y9 y10 y11) H0 := by
  have hu : ∀ p ∈ [(Pt, qL)], p.1 = Pt → p.2 = qL := fun p hp _ => by
    have e : p = (Pt, qL) := by simpa using hp
    rw [e]
  refine ⟨_, ps_set (i := 9) scLaw.nd rfl (.inl rfl) (pe_lst (pa_cons (Rs.e_lam0 (T := [(Pt, qL)]) TB rfl List.mem_cons_self hu (Rs.lamQ_by (N := NL) (sc := defScope sLaw) (by decide +kernel)) rfl rfl)
    (pa_cons (Rs.e_lam1 (T := [(Pt, qL)]) TB rfl List.mem_cons_self hu (Rs.lamQ_by (N := NL) (sc := defScope sLaw) (by decide +kernel)) rfl rfl pe_int) pa_nil))), ?_⟩
  intro b m a y2 y3 y4 y5 y6 y7 y8 y9 y10 y11 D H0 z nx
  refine ⟨z.2, fun f1 H1 e1 t1 n1 l1 => ⟨t1, fun f2 H2 e2 t2 n2 l2 => ⟨(by show 2 ≤ sizeLine; decide), fun p np => ?_⟩⟩⟩
  have z2 : Zz Pt b m H2 := ⟨bx_ext (bx_ext z.1 e1) e2, t2⟩
  have k : Same H2 (upd H2 p (.lst [.ref f1, .ref f2])) := same_new np
  exact nx p f1 f2 _ (z2.same k) upd_same ((l1.go fun x o h n _ => e2 _ _ h n).go fun x o h _ _ => k _ _ h) (l2.go fun x o h _ _ => k _ _ h)
theorem b0 (cPr : Cb P w K mg base (L2.CX P w) 4 "precedes" ["one", "other", "letters"] (spPre C) fPr fdPr) :
    ∃ t, Rs.LamB (XL P w K mg base f c A outer s H E) 4 (lamP (ask 0)) (lamE (ask 0)) (lamS (ask 0)) t ∧ ∀ (E2 : XK) (a b : Addr) (y2 y3 y4 y5 y6 y7 y8 y9 : Option V) (L l : List Nat) (G : Hp) (Q : VK), Lg L → Wg L l →
      (∀ (H' : Hp) (d : Addr), Same G H' → G d = none → H' d = some (.xd [("tag", tagW), ("at", .int 1)]) → E2 (.ref C) (some d) H') → t E2 (S2 a b y2 y3 y4 y5 y6 y7 y8 y9 (some (tx L)) (some (tx l))) G Q := by
  refine ⟨_, ⟨Rs.lamQ_by (N := NL) (sc := defScope sLaw) (by decide +kernel), bind0, fun A2 outer2 s2 H2 E2 f2 c2 hr2 => 
    pe_call cPr.ok hr2 (by rfl) cPr.g cPr.kp cPr.b .nil (passes_call (W := fun cls d _ H => E2 cls d H) (takes_of rfl rfl rfl rfl) (fun _ _ _ _ h => h)) (pa_cons (pv 11) (pa_cons (pe_op op_add_str (pv 11) pe_str) (pa_cons (pv 10) pa_nil)))⟩, ?_⟩
  intro E2 a b y2 y3 y4 y5 y6 y7 y8 y9 L l G Q hL hW qe
  have hl : l.length ≤ 1000 := by have := hW.1; omega
  refine ⟨_, rfl, _, rfl, _, _, rfl, rfl, ?_, _, rfl, l, l ++ [63], L, ?_, hL.lt, hl, ?_, ?_, ?_, ?_⟩
  · rw [q63, tx_len, tx_len]
    exact Nat.le_of_lt (small1000 (by have := hW.1; simp only [List.length_cons, List.length_nil]; omega))
  · rw [q63, SX.S_cat]
    rfl
  · rw [List.length_append]
    have := hW.1
    simp only [List.length_cons, List.length_nil]
    omega
  · intro _ e
    rw [isW_no (x := 63) (by simp) (odd63 hL.2.2)] at e
    cases e
  · intro e
    rw [isW_yes hW.2] at e
    cases e
  · intro _ _ H' d sm nd hd
    exact qe H' d sm nd hd
theorem b1 (cPr : Cb P w K mg base (L2.CX P w) 4 "precedes" ["one", "other", "letters"] (spPre C) fPr fdPr) :
    ∃ t, Rs.LamB (XL P w K mg base f c A outer s H E) 4 (lamP (ask 1)) (lamE (ask 1)) (lamS (ask 1)) t ∧ ∀ (E2 : XK) (a b : Addr) (y2 y3 y4 y5 y6 y7 y8 y9 y11 : Option V) (L : List Nat) (G : Hp) (Q : VK), Lg L →
      (∀ (H' : Hp) (d : Addr), Same G H' → G d = none → H' d = some (.xd [("tag", tagW), ("at", .int 0)]) → E2 (.ref C) (some d) H') → t E2 (S2 a b y2 y3 y4 y5 y6 y7 y8 y9 (some (tx L)) y11) G Q := by
  refine ⟨_, ⟨Rs.lamQ_by (N := NL) (sc := defScope sLaw) (by decide +kernel), bind1, fun A2 outer2 s2 H2 E2 f2 c2 hr2 => 
    pe_call cPr.ok hr2 (by rfl) cPr.g cPr.kp cPr.b .nil (passes_call (W := fun cls d _ H => E2 cls d H) (takes_of rfl rfl rfl rfl) (fun _ _ _ _ h => h)) (pa_cons pe_str (pa_cons pe_str (pa_cons (pv 10) pa_nil)))⟩, ?_⟩
  intro E2 a b y2 y3 y4 y5 y6 y7 y8 y9 y11 L G Q hL qe
  have hn : isW [63] L = false := isW_no (x := 63) (by simp) (odd63 hL.2.2)
  refine ⟨_, rfl, [63], [63], L, ?_, hL.lt, (by decide), (by decide), ?_, ?_, ?_⟩
  · rw [q63]
    rfl
  · intro e
    rw [hn] at e
    cases e
  · intro _ H' d sm nd hd
    exact qe H' d sm nd hd
  · intro e
    rw [hn] at e
    cases e
end
end K2
set_option maxRecDepth 100000
set_option maxHeartbeats 2000000
namespace K2
open PySem PySem.Spec PyProof.Rows L2
section
variable {P : Program} {w : World} {K : PySem.W.Frag} {mg : Str → Option Value} {base : Heap}
variable {f fBeg fD fA fLe fSg fSo fPr fSa fWh fF C fI C1 C2 C3 c Pt : Addr} {fdBeg fdD fdA fdLe fdSg fdSo fdPr fdSa fdWh fdF : FuncData} {A : Around} {outer : List Env} {s : Shared} {H : Hp} {E : XK}
/-- what _law_why makes of the lambda in slot 14 -/
def teA (X : Cx) (C : Addr) (σ : L2.St) : TE := fun τ G Q => tVar 14 τ G fun v G1 => ∃ (h : Addr) (params : Arguments) (body : Expr) (scope : Scope) (t : XK → TE), [v] = [V.ref h] ∧ Rs.LamB X 4 params body scope t ∧ Rs.LamAt X params body scope h G1 ∧ TTw C (fun E G' Q' => t E σ G' Q') G1 Q
theorem s10 (cPr : Cb P w K mg base (L2.CX P w) 4 "precedes" ["one", "other", "letters"] (spPre C) fPr fdPr) (FW : Fun K "_law_why" "_law_why" sWhy fWh fdWh) (bW : Binds K fdWh ["_law_ask"] []) (gW : mg "_law_why" = some (.ref fWh))
    (T : IwC K mg C fI) (XC : XfC K C) (GF : Rs.FnPin P w K mg base 1 fF fdF ["_law_e"] (spFld C)) (kF : PySem.W.keepIn K (.ref fF) = true) (bF : Binds K fdF ["_law_e"] []) (gF : mg "_law_field" = some (.ref fF))
    (m1 : mg "TownError" = some (.ref C1)) (m2 : mg "Missing" = some (.ref C2)) (m3 : mg "NothingLeft" = some (.ref C3)) (hx : PySem.W.exmAny K (.ref C) [.ref C1, .ref C2, .ref C3] = some true)
    (hr : Room 7 (A.deeper (envOfC "law" (defScope sLaw) s.heap.objs.size f (.ref c)))) :
    ∃ t, PS (XL P w K mg base f c A outer s H E) (lbs 10) t ∧ ∀ (b m a p f1 f2 : Addr) (y2 y3 y4 y5 y6 y7 y8 : Option V) (L l : List Nat) (D : Ends) (H0 : Hp), Zz Pt b m H0 → Lg L → Wg L l → H0 p = some (.lst [.ref f1, .ref f2]) →
      AskAt P w K mg base f c A outer s H E 0 f1 H0 → AskAt P w K mg base f c A outer s H E 1 f2 H0 →
      (∀ H', Zz Pt b m H' → D.nx (S2 a b y2 y3 y4 y5 y6 y7 y8 (some (.ref p)) (some (tx L)) (some (tx l))) H') → t D (S2 a b y2 y3 y4 y5 y6 y7 y8 (some (.ref p)) (some (tx L)) (some (tx l))) H0 := by
  obtain ⟨oc2, od2, kV2, doc2, pm2, an2, cdW, ct2, osl2, rfl, lkW, hcW⟩ := FW.ex
  have r2 : Room 2 (A.deeper (envOfC "law" (defScope sLaw) s.heap.objs.size f (.ref c))) := hr.mono (by decide)
  have r6 : Room (4 + 2) (A.deeper (envOfC "law" (defScope sLaw) s.heap.objs.size f (.ref c))) := hr.mono (by decide)
  have hG : ∀ cdg : Value, Rs.GivesL (XL P w K mg base f c A outer s H E) NW "_law_why" (defScope sWhy) fWh cdg (defBody sWhy) "_law_ask" (TTw C) := fun cdg =>
    why_gives (mg := mg) (K := K) (j := 0) (X := XL P w K mg base f c A outer s H E) ⟨rfl, rfl⟩ T XC GF kF bF gF m1 m2 m3 hx r2
  obtain ⟨t0, LB0, R0⟩ := b0 (A := A) (outer := outer) (s := s) (H := H) (E := E) (f := f) (c := c) cPr
  obtain ⟨t1, LB1, R1⟩ := b1 (A := A) (outer := outer) (s := s) (H := H) (E := E) (f := f) (c := c) cPr
  refine ⟨_, ps_if (pt_cmpR (op_neD hr.units) (Rs.e_lcUp (X := XL P w K mg base f c A outer s H E) (own := [("_law_ask", 14)]) (g := gName 14) (tt := tYes)
      (te := teA (XL P w K mg base f c A outer s H E) C)
      rfl scLaw.nd (pi_list (pv 9)) (blkOk_by (N := NL) (sc := defScope sLaw) (by decide +kernel)) (fun _ _ _ _ _ => pg_name (i := 14) scLaw.nd rfl (Or.inl rfl)) (fun _ _ _ _ _ => pts_nil)
      (fun pins σ z G Ca cl fp up => Rs.e_giveL (k := 4) up ⟨rfl, rfl, rfl, rfl, rfl, rfl, rfl⟩ (by rfl) gW FW.kp lkW hcW bW scWhy rfl (.inl rfl) (hG _) r6 (pv 14)))
    (pe_lst (pa_cons (pe_tup (pa_cons pe_str (pa_cons pe_int pa_nil))) (pa_cons (pe_tup (pa_cons pe_str (pa_cons pe_int pa_nil))) pa_nil))) (nomark _)) pss_never pss_nil, ?_⟩
  intro b m a p f1 f2 y2 y3 y4 y5 y6 y7 y8 L l D H0 z hL hW hp ha0 ha1 nx
  refine ⟨_, rfl, p, rfl, ⟨_, SqL.of hp⟩, fun D1 nD => ?_⟩
  refine lc_it (walk_list (K := K) (a := p) (xs := [.ref f1, .ref f2])) (fun j H2 => Same H0 H2 ∧ ∃ ps : List Addr, H2 D1 = some (.lst (ps.map V.ref)) ∧ ps.length = j ∧ ∀ (i : Nat) (q : Addr), ps[i]? = some q → H2 q = some (.tup [tagW, .int (1 - (i : Int))]))
    ⟨same_new nD, [], upd_same, rfl, fun i q h => by cases h⟩ (fun j H2 _ h => SqL.of (h.1 _ _ hp)) ?_ ?_
  · rintro j x H2 H2' hj ⟨sm, ps, hD1, hpl, hk⟩ ⟨rfl, hxx⟩
    refine ⟨rfl, ?_⟩
    dsimp only [tYes]
    rw [if_pos rfl]
    have fin : ∀ (H' H3 : Hp) (Tn : Addr), Same H2' H' → Same H' H3 → H' Tn = none → H3 Tn = some (.tup [tagW, .int (1 - (j : Int))]) →
        ∃ acc, H3 D1 = some (.lst acc) ∧ acc.length < sizeLine ∧ Same H0 (upd H3 D1 (.lst (acc ++ [.ref Tn]))) ∧ ∃ ps : List Addr, upd H3 D1 (.lst (acc ++ [.ref Tn])) D1 = some (.lst (ps.map V.ref)) ∧ ps.length = j + 1 ∧ ∀ (i : Nat) (q : Addr), ps[i]? = some q → upd H3 D1 (.lst (acc ++ [.ref Tn])) q = some (.tup [tagW, .int (1 - (i : Int))]) := by
      intro H' H3 Tn sa sb nT hT
      have s3 : Same H2' H3 := sa.trans sb
      refine ⟨_, s3 _ _ hD1, ?_, ?_, ps ++ [Tn], ?_, ?_, ?_⟩
      · rw [List.length_map, hpl]
        exact small1000 (by simp only [List.length_cons, List.length_nil] at hj; omega)
      · intro x o e
        rw [upd_ne (ne_of_none e nD)]
        exact s3 _ _ (sm _ _ e)
      · rw [upd_same, List.map_append]
        rfl
      · rw [List.length_append, hpl]
        rfl
      · intro i q hi
        by_cases hi2 : i < ps.length
        · rw [List.getElem?_append_left hi2] at hi
          have g := hk i q hi
          rw [upd_ne (ne_of g hD1 (by intro z; cases z))]
          exact s3 _ _ g
        · have ei : i = ps.length := by
            have := (List.getElem?_eq_some_iff.mp hi).1
            rw [List.length_append] at this
            simp only [List.length_cons, List.length_nil] at this
            omega
          rw [ei, List.getElem?_append_right (Nat.le_refl _), Nat.sub_self] at hi
          obtain rfl : Tn = q := Option.some.inj hi
          rw [upd_ne (ne_of hT (s3 _ _ hD1) (by intro z; cases z)), hT, ei, hpl]
    match j, hxx, fin with
    | 0, hxx, fin =>
      obtain rfl : V.ref f1 = x := Option.some.inj hxx
      refine ⟨_, rfl, f1, _, _, _, t0, rfl, LB0, ha0.go (fun x o h _ _ => sm _ _ h), ?_⟩
      refine R0 _ a b y2 y3 y4 y5 y6 y7 y8 (some (.ref p)) L l _ _ hL hW fun H' d sa nd hd => ⟨rfl, d, .int 1, rfl, hd, fun H3 Tn sb nT hT => ?_⟩
      exact fin H' H3 Tn sa sb nT hT
    | 1, hxx, fin =>
      obtain rfl : V.ref f2 = x := Option.some.inj hxx
      refine ⟨_, rfl, f2, _, _, _, t1, rfl, LB1, ha1.go (fun x o h _ _ => sm _ _ h), ?_⟩
      refine R1 _ a b y2 y3 y4 y5 y6 y7 y8 (some (.ref p)) (some (tx l)) L _ _ hL fun H' d sa nd hd => ⟨rfl, d, .int 0, rfl, hd, fun H3 Tn sb nT hT => ?_⟩
      exact fin H' H3 Tn sa sb nT hT
  · rintro H2 ⟨sm, ps, hD1, hpl, hk⟩
    match ps, hpl, hD1, hk with
    | [p1, p2], _, hD1, hk =>
      have g1 : H2 p1 = some (.tup [tagW, .int 1]) := hk 0 p1 rfl
      have g2 : H2 p2 = some (.tup [tagW, .int 0]) := hk 1 p2 rfl
      refine ⟨(by show 2 ≤ sizeLine; decide), fun q1 n1 => ⟨(by show 2 ≤ sizeLine; decide), fun q2 n2 => ⟨(by show 2 ≤ sizeLine; decide), fun q n => ?_⟩⟩⟩
      have k1 : Same H2 (upd H2 q1 (.tup [tagW, .int 1])) := same_new n1
      have k2 := same_new n2 (o := .tup [tagW, .int 0])
      have k3 := same_new n (o := .lst [.ref q1, .ref q2])
      have kk := (k1.trans k2).trans k3
      have u1 : upd H2 q1 (.tup [tagW, .int 1]) q1 = some (.tup [tagW, .int 1]) := upd_same
      refine ⟨.list [.tuple [.str (Str.ofString "InvalidWord"), .int 1], .tuple [.str (Str.ofString "InvalidWord"), .int 0]], .list [.tuple [.str (Str.ofString "InvalidWord"), .int 1], .tuple [.str (Str.ofString "InvalidWord"), .int 0]], ?_, ?_, by decide +kernel, by decide +kernel, false, congrArg V.bl (by decide +kernel), iteF ?_⟩
      · exact .lst (SqL.of (kk _ _ hD1)) (.cons (.tup (SqT.of (kk _ _ g1)) (.cons (.str _) (.cons (.int _) .nil))) (.cons (.tup (SqT.of (kk _ _ g2)) (.cons (.str _) (.cons (.int _) .nil))) .nil))
      · refine .lst (SqL.of upd_same) (.cons (.tup (SqT.of (k3 _ _ (k2 _ _ u1))) (.cons (.str _) (.cons (.int _) .nil))) (.cons (.tup (SqT.of (k3 _ _ upd_same)) (.cons (.str _) (.cons (.int _) .nil))) .nil))
      · exact nx _ (z.same (sm.trans kk))
end
end K2
set_option maxRecDepth 100000
set_option maxHeartbeats 4000000
namespace K2
open PySem PySem.Spec PyProof.Rows L2
def spLaw (K : PySem.W.Frag) (Pt : Addr) : Sp := fun vs H Q _ => ∃ (a : Addr) (ns : List Int), vs = [.ref a] ∧ SqL K H a (ns.map V.int) ∧ ns.length ≤ 63 ∧ H Pt = some (.tbl #[]) ∧ ∀ H', Q (.bl true) H'
def Iv (Pt b m a : Addr) : L2.St → Hp → Prop := fun σ H => ∃ y2 y3 y4 y5 y6 y7 y8 y9 y10 y11 : Option V, σ = S2 a b y2 y3 y4 y5 y6 y7 y8 y9 y10 y11 ∧ Zz Pt b m H
theorem wT : Str.ofString "T" = SX.S [84] := by decide
theorem wt : Str.ofString "t" = SX.S [116] := by decide
theorem wa : Str.ofString "a" = SX.S [97] := by decide
theorem wta : Str.ofString "ta" = SX.S [116, 97] := by decide
theorem lta : Lt [116, 97] := ⟨⟨by decide, by decide⟩, by decide⟩
section
variable {P : Program} {w : World} {K : PySem.W.Frag} {mg : Str → Option Value} {base : Heap}
variable {f fBeg fD fA fLe fSg fSo fPr fSa fWh fF C fI C1 C2 C3 c Pt : Addr} {fdBeg fdD fdA fdLe fdSg fdSo fdPr fdSa fdWh fdF : FuncData}
theorem ok_law {oc kV doc pm ct : Value} {od an : Option Addr} {osl : Array (Option Value)}
    (lk : K.lookup f = some ⟨oc, od, .func (PySem.W.fnOf "law" "law" (defArgs sLaw) (defBody sLaw) (defScope sLaw) .none kV doc pm an (.ref c) ct), osl⟩) (hcd : PySem.W.codeIn K (.ref c) "law" = true) (B : Bn mg)
    (cBeg : Cb P w K mg base CX0 1 "_law_begin" ["_law_script"] (spBegin K) fBeg fdBeg) (cD : Cb P w K mg base CX0 1 "_law_draw" ["_law_box", "_law_many"] spDraw fD fdD) (cA : Cb P w K mg base CX0 2 "_law_any" ["_law_box", "_law_some"] spAny fA fdA)
    (cLe : Cb P w K mg base CX0 3 "_law_letters" ["_law_box", "_law_many"] spLet fLe fdLe) (cSg : Cb P w K mg base CX0 1 "_law_signs" ["_law_letters_z"] spSigns fSg fdSg) (cSo : Cb P w K mg base CX0 3 "_law_some_word" ["_law_box", "_law_letters_z", "_law_most"] spSome fSo fdSo)
    (cPr : Cb P w K mg base (L2.CX P w) 4 "precedes" ["one", "other", "letters"] (spPre C) fPr fdPr) (kb : KBinds K fdPr ["one", "other", "letters"] ["letters", "other", "one"] Rs.rev3 Rs.rev3)
    (cS1 : Cb P w K mg base CX0 2 "_law_same" ["_law_found", "_law_due"] (spSame 1) fSa fdSa)
    (FW : Fun K "_law_why" "_law_why" sWhy fWh fdWh) (bW : Binds K fdWh ["_law_ask"] []) (gW : mg "_law_why" = some (.ref fWh))
    (T : IwC K mg C fI) (XC : XfC K C) (GF : Rs.FnPin P w K mg base 1 fF fdF ["_law_e"] (spFld C)) (kF : PySem.W.keepIn K (.ref fF) = true) (bF : Binds K fdF ["_law_e"] []) (gF : mg "_law_field" = some (.ref fF))
    (m1 : mg "TownError" = some (.ref C1)) (m2 : mg "Missing" = some (.ref C2)) (m3 : mg "NothingLeft" = some (.ref C3)) (hx : PySem.W.exmAny K (.ref C) [.ref C1, .ref C2, .ref C3] = some true) (TB : LamX.TabB base mg c Pt) :
    FnOk P w K mg base CX0 8 f (PySem.W.fnOf "law" "law" (defArgs sLaw) (defBody sLaw) (defScope sLaw) .none kV doc pm an (.ref c) ct) ["_law_script"] (spLaw K Pt) := by
  refine fn_of lk hcd scLaw (fun vs H Q E h => ?_) (fun A outer s H vs Q E hr h => ?_)
  · obtain ⟨a, ns, rfl, _⟩ := h
    rfl
  · obtain ⟨a, ns, rfl, hS, hl, hP, q⟩ := h
    have r1 : Room 1 (A.deeper (envOfC "law" (defScope sLaw) s.heap.objs.size f (.ref c))) := hr.mono (by decide)
    have r4 : Room 4 (A.deeper (envOfC "law" (defScope sLaw) s.heap.objs.size f (.ref c))) := hr.mono (by decide)
    obtain ⟨tb, PB, RB⟩ : ∃ tb, PSs (XL P w K mg base f c A outer s H E) lb tb ∧ ∀ (b m : Addr) (D : Ends) (σ : L2.St) (H0 : Hp), Iv Pt b m a σ H0 → (∀ σ' H', Iv Pt b m a σ' H' → D.nx σ' H') → tb D σ H0 := by
      obtain ⟨t0, p0, q0⟩ := s0 (base := base) (Pt := Pt) (outer := outer) (H := H) (E := E) cD cLe hr
      obtain ⟨t1, p1, q1⟩ := s1 (base := base) (Pt := Pt) (outer := outer) (H := H) (E := E) cSg hr
      obtain ⟨t2, p2, q2⟩ := s2 (base := base) (Pt := Pt) (outer := outer) (H := H) (E := E) cSo hr
      obtain ⟨t3, p3, q3⟩ := s3 (base := base) (Pt := Pt) (outer := outer) (H := H) (E := E) B cD hr
      obtain ⟨t4, p4, q4⟩ := s4 (base := base) (Pt := Pt) (outer := outer) (H := H) (E := E) B cD cA hr
      obtain ⟨t5, p5, q5⟩ := s5 (base := base) (Pt := Pt) (outer := outer) (H := H) (E := E) cA cSo hr
      obtain ⟨t6, p6, q6⟩ := s6 (base := base) (Pt := Pt) (outer := outer) (H := H) (E := E) (P := P) (w := w) (K := K) B hr
      obtain ⟨t7, p7, q7⟩ := s7 (base := base) (Pt := Pt) (outer := outer) (H := H) (E := E) cPr kb hr
      obtain ⟨t8, p8, q8⟩ := s8 (base := base) (Pt := Pt) (outer := outer) (H := H) (E := E) cS1 hr
      obtain ⟨t9, p9, q9⟩ := s9 (P := P) (w := w) (K := K) (base := base) (mg := mg) (f := f) (A := A) (s := s) (outer := outer) (H := H) (E := E) TB
      obtain ⟨t10, p10, q10⟩ := s10 (base := base) (Pt := Pt) (outer := outer) (H := H) (E := E) cPr FW bW gW T XC GF kF bF gF m1 m2 m3 hx hr
      rw [lb_is]
      refine ⟨_, pss_cons p0 (pss_cons p1 (pss_cons p2 (pss_cons p3 (pss_cons p4 (pss_cons p5 (pss_cons p6 (pss_cons p7 (pss_cons p8 (pss_cons p9 (pss_one p10)))))))))), ?_⟩
      rintro b m D σ H0 ⟨y2, y3, y4, y5, y6, y7, y8, y9, y10, y11, rfl, zz⟩ nx
      refine q0 b m a y2 y3 y4 y5 y6 y7 y8 y9 y10 y11 _ H0 zz fun L H1 hL z1 => ?_
      refine q1 b m a y2 y3 y4 y5 y6 y7 y8 y9 y11 L _ H1 z1 hL fun H2 z2 => ?_
      refine q2 b m a y2 (some (tx (sg L))) y4 y5 y6 y7 y8 y9 y11 L _ H2 z2 hL fun l H3 hl6 hW z3 => ?_
      refine q3 b m a y2 (some (tx (sg L))) y4 y5 y6 y7 y8 y9 (some (tx L)) l _ H3 z3 hl6 fun n H4 hn z4 => ?_
      refine q4 b m a y2 y5 y6 y7 y8 y9 (some (tx L)) L l n _ H4 z4 hL hW hl6 fun l1 H5 hW1 z5 => ?_
      refine q5 b m a y2 (some (tx (sg L))) (some (.int n)) y6 y7 y8 y9 L l l1 _ H5 z5 hL hW hW1 fun l2 H6 hW2 z6 => ?_
      refine q6 b m a y2 (some (.int n)) (some (tx l1)) y7 y8 y9 (some (tx L)) L l l2 _ H6 z6 hL hW hW2 fun k H7 z7 hk => ?_
      refine q7 b m a k y2 (some (tx (sg L))) (some (.int n)) (some (tx l1)) y8 y9 L l l2 _ H7 z7 hL hW hW2 hk fun p H8 z8 hk8 hp8 => ?_
      refine q8 b m a k p y2 (some (tx (sg L))) (some (.int n)) (some (tx l1)) (some (tx l2)) y9 (some (tx L)) (some (tx l)) L l l2 _ H8 z8 hk8 hp8 fun H9 z9 => ?_
      refine q9 b m a y2 (some (tx (sg L))) (some (.int n)) (some (tx l1)) (some (tx l2)) (some (.ref k)) (some (.ref p)) y9 (some (tx L)) (some (tx l)) _ H9 z9 fun pa f1 f2 HA zA hpA a1 a2 => ?_
      refine q10 b m a pa f1 f2 y2 (some (tx (sg L))) (some (.int n)) (some (tx l1)) (some (tx l2)) (some (.ref k)) (some (.ref p)) L l _ HA zA hL hW hpA a1 a2 fun HB zB => ?_
      exact nx _ HB ⟨_, _, _, _, _, _, _, _, _, _, rfl, zB⟩
    refine ⟨_, PSs.nox (pss_cons (ps_set (i := 1) scLaw.nd rfl (.inl rfl) (pe_call cBeg.ok r1 (by rfl) cBeg.g cBeg.kp cBeg.b .nil pass0 (pa_cons (pv 0) pa_nil)))
      (pss_cons (ps_for PassesOwn.never rfl (pi_range1 (by rfl) B.range (pa_cons pe_int pa_nil)) (pg_name (i := 2) scLaw.nd rfl (Or.inl rfl)) PB)
      (pss_one (ps_ret (pe_and (pe_call cPr.ok r4 (by rfl) cPr.g cPr.kp cPr.b .nil (passN rfl rfl) (pa_cons pe_str (pa_cons pe_str (pa_cons pe_str pa_nil))))
        (pe_and (pe_call cPr.ok r4 (by rfl) cPr.g cPr.kp cPr.b .nil (passN rfl rfl) (pa_cons pe_str (pa_cons pe_str (pa_cons pe_str pa_nil))))
        (pe_one (pe_not (pe_call cPr.ok r4 (by rfl) cPr.g cPr.kp cPr.b .nil (passN rfl rfl) (pa_cons pe_str (pa_cons pe_str (pa_cons pe_str pa_nil)))))))))))), ?_⟩
    refine ⟨_, rfl, a, ns, rfl, hS, hl, fun H1 b m s1 nb bx => ?_⟩
    have tb1 : LamX.Tabs [(Pt, qL)] H1 := by
      intro p hp
      have e : p = (Pt, qL) := by simpa using hp
      rw [e]
      exact LamX.TabS.nil (s1 _ _ hP)
    refine ⟨5, rfl, by decide, by decide, ?_⟩
    refine for_it (walk_range (lo := 0) (n := (5 : Int).toNat)) (fun i σ H2 => Iv Pt b m a σ H2) ⟨none, none, none, none, none, none, none, none, none, none, rfl, bx, tb1⟩ (fun _ _ _ _ _ => trivial) ?_ ?_
    · rintro i x σ H2 H2' hi hI ⟨rfl, rfl⟩
      obtain ⟨y2, y3, y4, y5, y6, y7, y8, y9, y10, y11, rfl, zz⟩ := hI
      exact RB b m _ _ H2' ⟨_, _, _, _, _, _, _, _, _, _, rfl, zz⟩ fun σ' H' h => h
    · rintro σ H2 ⟨y2, y3, y4, y5, y6, y7, y8, y9, y10, y11, rfl, zz⟩
      have no : ∀ {p : Prop}, isW [84] [116, 97] = false → p := fun e => absurd e (by decide)
      refine ⟨[84], [97], [116, 97], by rw [wT, wa, wta]; rfl, lta, by decide, by decide, fun _ _ H3 s3 => ⟨true, congrArg V.bl (by decide +kernel), iteT ?_⟩, fun e => absurd e (by decide), fun _ e => absurd e (by decide)⟩
      refine ⟨[116], [84], [116, 97], by rw [wT, wt, wta]; rfl, lta, by decide, by decide, fun _ _ H4 s4 => ⟨true, congrArg V.bl (by decide +kernel), iteT ?_⟩, fun e => absurd e (by decide), fun _ e => absurd e (by decide)⟩
      refine ⟨[116, 97], [97], [116, 97], by rw [wa, wta]; rfl, lta, by decide, by decide, fun _ _ H5 s5 => ⟨false, congrArg V.bl (by decide +kernel), q _⟩, fun e => absurd e (by decide), fun _ e => absurd e (by decide)⟩
end
end K2
set_option maxRecDepth 100000
set_option maxHeartbeats 0
namespace K2
open PySem PySem.Spec PyProof.Rows L2
/-! ### what the head tells of an own error class with an __init__ -/
def oexB (K : PySem.W.Frag) (C : Addr) : Bool := (match K.lookup C with
  | some ⟨.type t, _, .cls cd, sl⟩ => decide (t = "type") && (match cd.mro, sl.toList with
    | .ref C' :: bm, [_, _, _, _, some (.builtin n), _] => decide (C' = C) && (decide (n = "ValueError.__new__") && (!cd.hasDel && (cd.hasDict && PySem.HandSPX.refsVE bm)))
    | _, _ => false)
  | _ => false) && (decide (PySem.W.findIn K (.ref C) "__setattr__" = some (some (.builtin "object.__setattr__"))) && (decide (PySem.W.subIn K (.ref C) (.type "BaseException") = some true) && (decide (PySem.W.typeIn K (.ref C) = some (.type "type")) && PySem.W.keepIn K (.ref C))))
theorem oexB_ok {K : PySem.W.Frag} {C : Addr} (h : oexB K C = true) : OexC K C := by
  obtain ⟨h0, h⟩ := He.ba h
  obtain ⟨h1, h⟩ := He.ba h
  obtain ⟨h2, h⟩ := He.ba h
  obtain ⟨h3, h4⟩ := He.ba h
  refine ⟨?_, of_decide_eq_true h1, of_decide_eq_true h2, of_decide_eq_true h3, h4⟩
  cases q : K.lookup C with
  | none =>
    rw [q] at h0
    cases h0
  | some o =>
    obtain ⟨oc, od, dt, osl⟩ := o
    rw [q] at h0
    cases oc with
    | type t =>
      cases dt with
      | cls cd =>
        obtain ⟨nm, bs, mro, ns, qn, hd, sn, sb, ab, col, del⟩ := cd
        obtain ⟨e1, h5⟩ := He.ba h0
        obtain rfl : t = "type" := of_decide_eq_true e1
        dsimp only at h5
        split at h5
        · rename_i C' bm x0 x1 x2 x3 n x5 es
          obtain ⟨g1, g⟩ := He.ba h5
          obtain ⟨g2, g⟩ := He.ba g
          obtain ⟨g3, g⟩ := He.ba g
          obtain ⟨g4, g5⟩ := He.ba g
          obtain rfl : C' = C := of_decide_eq_true g1
          obtain rfl : n = "ValueError.__new__" := of_decide_eq_true g2
          have g3' : del = false := by simpa using g3
          subst g3'
          subst g4
          have es' : osl = #[x0, x1, x2, x3, some (.builtin "ValueError.__new__"), x5] := by
            apply Array.toList_inj.mp
            rw [es]
          subst es'
          exact ⟨_, _, _, _, _, _, _, _, _, _, _, _, _, _, _, rfl, g5⟩
        · cases h5
      | _ => cases h0
    | _ => cases dt <;> cases h0
def iwB (K : PySem.W.Frag) (C : Addr) : Bool := oexB K C && (xfB K C && (decide (PySem.W.findIn K (.ref C) "at" = some none) && (decide (PySem.W.findIn K (.ref C) "tag" = some none) && (decide (PySem.W.findIn K (.ref C) "__init__" = some (some (.ref (He.ma K C "__init__")))) && decide (PySem.W.typeIn K (.ref (He.ma K C "__init__")) = some (.type "function"))))))
def exK (K : PySem.W.Frag) : Bool := iwB K (He.ga K "InvalidWord") && decide (PySem.W.exmAny K (.ref (He.ga K "InvalidWord")) [.ref (He.ga K "TownError"), .ref (He.ga K "Missing"), .ref (He.ga K "NothingLeft")] = some true)
def dD (x : Str) (st : Stmt) : He.DefD := ⟨(x, none), x, x, defArgs st, defBody st, defScope st, [], []⟩
def dIni : He.DefD := ⟨("InvalidWord", some "__init__"), "__init__", "InvalidWord.__init__", defArgs sIni, defBody sIni, defScope sIni, [], []⟩
def fn : List He.DefD := [dD "signs_of" sSignsOf, dD "is_word" sIsWord, dD "check_words" sCheck, dD "precedes" sPre, dD "rank" sRank, dD "_law_begin" sBegin, dD "_law_draw" sDraw, dD "_law_any" sAny, dD "_law_same" sSame, dD "_law_field" sField, dD "_law_why" sWhy, dD "_law_letters" sLetters, dD "_law_signs" sSigns, dD "_law_some_word" sSome, dD "law" sLaw, dIni]
def gl : List Str := ["signs_of", "is_word", "check_words", "precedes", "rank", "_law_begin", "_law_draw", "_law_any", "_law_same", "_law_field", "_law_why", "_law_letters", "_law_signs", "_law_some_word", "law", "InvalidWord", "TownError", "Missing", "NothingLeft"]
def fr : List Str := ["sum", "len", "int", "isinstance", "list", "tuple", "all", "range", "bool", "str", "enumerate"]
def fa : List He.Fa := gl.map He.Fa.glo ++ fr.map He.Fa.free
abbrev R : PySem.W.OpenRow := PySem.W.OpenLaw.row PySem.Challenge.rw_roundswap_k02_order_of_words
abbrev tf : List He.Defn := [("law", none)]
abbrev hk : PySem.W.Hook := He.hookX 5 fa fn [] tf exK
def ob (s : PySem.W.SharedT) : He.AlX := He.obsX 5 fa fn [] tf exK (HandSHeadRun.getT s)
theorem ob_eq (s : PySem.W.SharedT) : ob s = hk.obs s.abs := He.obsX_eq (HandSHeadRun.getT_eq s)
def loose : List Str := ["TownError", "Missing", "InvalidWord", "NothingLeft", "signs_of", "is_word", "check_words", "precedes", "rank", "_law_begin", "_law_draw", "_law_any", "_law_same", "_law_field", "_law_why", "_law_letters", "_law_signs", "_law_some_word"]
theorem run (w : World) : HandSHeadRun.RunEq R (PySem.W.view R.prog [21]) hk ob 4000 loose w := by
  intro os
  kernel_rfl
end K2
set_option maxRecDepth 100000
set_option maxHeartbeats 4000000
namespace K2
open PySem PySem.Spec PyProof.Rows L2
theorem fun_ofD {K : PySem.W.Frag} {x q : Str} {st : Stmt} {f : Addr} {fd : FuncData} (F : FunD K x q (defArgs st) (defBody st) (defScope st) [] [] f fd) : Fun K x q st f fd := by
  obtain ⟨⟨oc, od, dV, kV, doc, pm, an, cdv, ct, osl, e, lk, hcd, hd, _⟩, kp⟩ := F
  obtain rfl : dV = .none := by
    rcases hd with ⟨_, e2⟩ | ⟨e2, _⟩
    · exact e2
    · exact absurd rfl e2
  exact ⟨⟨oc, od, kV, doc, pm, an, cdv, ct, osl, e, lk, hcd⟩, kp⟩
theorem facts {w : World} {K : PySem.W.Frag} {h : Heap} {mg : Str → Option Value} {fl : Addr} (X : K.In h) (G : h.Ns mainGlobals mg) (hfa : mg ("law" : Str) = some (.ref fl)) (c : He.SaysX fa fn [] tf exK w h K) :
    LamX.LawAtS PySem.Challenge.rw_roundswap_k02_order_of_words w K CX0 8 63 "_law_script" mg fl h := by
  have cD := c.t.d
  have g : ∀ x ∈ gl, mg x = some (.ref (He.ga K x)) := fun x hx => He.glo_ok X G (cD.facts (List.mem_append_left _ (List.mem_map.mpr ⟨x, hx, rfl⟩)))
  have fz : ∀ x ∈ fr, mg x = none := fun x hx => He.free_ok X G (cD.facts (List.mem_append_right _ (List.mem_map.mpr ⟨x, hx, rfl⟩)))
  have B : Bn mg := ⟨fz _ (by decide), fz _ (by decide), fz _ (by decide), fz _ (by decide), fz _ (by decide), fz _ (by decide), fz _ (by decide), fz _ (by decide), fz _ (by decide), fz _ (by decide), fz _ (by decide)⟩
  obtain ⟨e1, e2⟩ := He.ba c.more
  obtain ⟨e3, e4⟩ := He.ba e1
  obtain ⟨e5, e6⟩ := He.ba e4
  obtain ⟨e7, e8⟩ := He.ba e6
  obtain ⟨e9, e10⟩ := He.ba e8
  obtain ⟨e11, e12⟩ := He.ba e10
  have T : IwC K mg (He.ga K "InvalidWord") (He.ma K (He.ga K "InvalidWord") "__init__") := ⟨oexB_ok e3, g _ (by decide), of_decide_eq_true e7, of_decide_eq_true e9, of_decide_eq_true e11, of_decide_eq_true e12⟩
  have XC : XfC K (He.ga K "InvalidWord") := xfB_ok e5
  obtain ⟨d0, F0'⟩ := cD.def_ 0 (d := dD "signs_of" sSignsOf) rfl
  have F0 : Fun K "signs_of" "signs_of" sSignsOf (He.ga K "signs_of") d0 := fun_ofD F0'
  have b0 : Binds K d0 ["letters"] [] := F0.binds fun _ _ _ _ _ _ us hl => match us, hl with | [_], _ => rfl
  have g0 : mg "signs_of" = some (.ref (He.ga K "signs_of")) := g _ (by decide)
  obtain ⟨d1, F1'⟩ := cD.def_ 1 (d := dD "is_word" sIsWord) rfl
  have F1 : Fun K "is_word" "is_word" sIsWord (He.ga K "is_word") d1 := fun_ofD F1'
  have b1 : Binds K d1 ["word", "letters"] [] := F1.binds fun _ _ _ _ _ _ us hl => match us, hl with | [_, _], _ => rfl
  have g1 : mg "is_word" = some (.ref (He.ga K "is_word")) := g _ (by decide)
  obtain ⟨d2, F2'⟩ := cD.def_ 2 (d := dD "check_words" sCheck) rfl
  have F2 : Fun K "check_words" "check_words" sCheck (He.ga K "check_words") d2 := fun_ofD F2'
  have b2 : Binds K d2 ["words", "letters"] [] := F2.binds fun _ _ _ _ _ _ us hl => match us, hl with | [_, _], _ => rfl
  have g2 : mg "check_words" = some (.ref (He.ga K "check_words")) := g _ (by decide)
  obtain ⟨d3, F3'⟩ := cD.def_ 3 (d := dD "precedes" sPre) rfl
  have F3 : Fun K "precedes" "precedes" sPre (He.ga K "precedes") d3 := fun_ofD F3'
  have b3 : Binds K d3 ["one", "other", "letters"] [] := F3.binds fun _ _ _ _ _ _ us hl => match us, hl with | [_, _, _], _ => rfl
  have g3 : mg "precedes" = some (.ref (He.ga K "precedes")) := g _ (by decide)
  obtain ⟨d4, F4'⟩ := cD.def_ 4 (d := dD "rank" sRank) rfl
  have F4 : Fun K "rank" "rank" sRank (He.ga K "rank") d4 := fun_ofD F4'
  have b4 : Binds K d4 ["word", "letters"] [] := F4.binds fun _ _ _ _ _ _ us hl => match us, hl with | [_, _], _ => rfl
  have g4 : mg "rank" = some (.ref (He.ga K "rank")) := g _ (by decide)
  obtain ⟨d5, F5'⟩ := cD.def_ 5 (d := dD "_law_begin" sBegin) rfl
  have F5 : Fun K "_law_begin" "_law_begin" sBegin (He.ga K "_law_begin") d5 := fun_ofD F5'
  have b5 : Binds K d5 ["_law_script"] [] := F5.binds fun _ _ _ _ _ _ us hl => match us, hl with | [_], _ => rfl
  have g5 : mg "_law_begin" = some (.ref (He.ga K "_law_begin")) := g _ (by decide)
  obtain ⟨d6, F6'⟩ := cD.def_ 6 (d := dD "_law_draw" sDraw) rfl
  have F6 : Fun K "_law_draw" "_law_draw" sDraw (He.ga K "_law_draw") d6 := fun_ofD F6'
  have b6 : Binds K d6 ["_law_box", "_law_many"] [] := F6.binds fun _ _ _ _ _ _ us hl => match us, hl with | [_, _], _ => rfl
  have g6 : mg "_law_draw" = some (.ref (He.ga K "_law_draw")) := g _ (by decide)
  obtain ⟨d7, F7'⟩ := cD.def_ 7 (d := dD "_law_any" sAny) rfl
  have F7 : Fun K "_law_any" "_law_any" sAny (He.ga K "_law_any") d7 := fun_ofD F7'
  have b7 : Binds K d7 ["_law_box", "_law_some"] [] := F7.binds fun _ _ _ _ _ _ us hl => match us, hl with | [_, _], _ => rfl
  have g7 : mg "_law_any" = some (.ref (He.ga K "_law_any")) := g _ (by decide)
  obtain ⟨d8, F8'⟩ := cD.def_ 8 (d := dD "_law_same" sSame) rfl
  have F8 : Fun K "_law_same" "_law_same" sSame (He.ga K "_law_same") d8 := fun_ofD F8'
  have b8 : Binds K d8 ["_law_found", "_law_due"] [] := F8.binds fun _ _ _ _ _ _ us hl => match us, hl with | [_, _], _ => rfl
  have g8 : mg "_law_same" = some (.ref (He.ga K "_law_same")) := g _ (by decide)
  obtain ⟨d9, F9'⟩ := cD.def_ 9 (d := dD "_law_field" sField) rfl
  have F9 : Fun K "_law_field" "_law_field" sField (He.ga K "_law_field") d9 := fun_ofD F9'
  have b9 : Binds K d9 ["_law_e"] [] := F9.binds fun _ _ _ _ _ _ us hl => match us, hl with | [_], _ => rfl
  have g9 : mg "_law_field" = some (.ref (He.ga K "_law_field")) := g _ (by decide)
  obtain ⟨d10, F10'⟩ := cD.def_ 10 (d := dD "_law_why" sWhy) rfl
  have F10 : Fun K "_law_why" "_law_why" sWhy (He.ga K "_law_why") d10 := fun_ofD F10'
  have b10 : Binds K d10 ["_law_ask"] [] := F10.binds fun _ _ _ _ _ _ us hl => match us, hl with | [_], _ => rfl
  have g10 : mg "_law_why" = some (.ref (He.ga K "_law_why")) := g _ (by decide)
  obtain ⟨d11, F11'⟩ := cD.def_ 11 (d := dD "_law_letters" sLetters) rfl
  have F11 : Fun K "_law_letters" "_law_letters" sLetters (He.ga K "_law_letters") d11 := fun_ofD F11'
  have b11 : Binds K d11 ["_law_box", "_law_many"] [] := F11.binds fun _ _ _ _ _ _ us hl => match us, hl with | [_, _], _ => rfl
  have g11 : mg "_law_letters" = some (.ref (He.ga K "_law_letters")) := g _ (by decide)
  obtain ⟨d12, F12'⟩ := cD.def_ 12 (d := dD "_law_signs" sSigns) rfl
  have F12 : Fun K "_law_signs" "_law_signs" sSigns (He.ga K "_law_signs") d12 := fun_ofD F12'
  have b12 : Binds K d12 ["_law_letters_z"] [] := F12.binds fun _ _ _ _ _ _ us hl => match us, hl with | [_], _ => rfl
  have g12 : mg "_law_signs" = some (.ref (He.ga K "_law_signs")) := g _ (by decide)
  obtain ⟨d13, F13'⟩ := cD.def_ 13 (d := dD "_law_some_word" sSome) rfl
  have F13 : Fun K "_law_some_word" "_law_some_word" sSome (He.ga K "_law_some_word") d13 := fun_ofD F13'
  have b13 : Binds K d13 ["_law_box", "_law_letters_z", "_law_most"] [] := F13.binds fun _ _ _ _ _ _ us hl => match us, hl with | [_, _, _], _ => rfl
  have g13 : mg "_law_some_word" = some (.ref (He.ga K "_law_some_word")) := g _ (by decide)
  obtain ⟨d14, F14'⟩ := cD.def_ 14 (d := dD "law" sLaw) rfl
  have F14 : Fun K "law" "law" sLaw (He.ga K "law") d14 := fun_ofD F14'
  have g14 : mg "law" = some (.ref (He.ga K "law")) := g _ (by decide)
  obtain rfl : fl = He.ga K "law" := by
    have e := hfa.symm.trans g14
    injection e with e
    injection e
  obtain ⟨d15, F15'⟩ := cD.def_ 15 (d := dIni) rfl
  have F15 : Fun K "__init__" "InvalidWord.__init__" sIni (He.ma K (He.ga K "InvalidWord") "__init__") d15 := fun_ofD F15'
  have b15 : Binds K d15 ["self", "at"] [] := F15.binds fun _ _ _ _ _ _ us hl => match us, hl with | [_, _], _ => rfl
  obtain ⟨oc, od, kV, doc, pm, an, cdv, ct, osl, rfl, lk, hcd⟩ := F14.ex
  obtain ⟨cc, rfl⟩ := He.codeIn_ref hcd
  have ec : He.codeOf K ("law", none) = cc := He.codeOf_eq (p := ("law", none)) lk rfl
  have mt : (("law" : Str), (none : Option Str)) ∈ tf := List.mem_cons_self
  refine ⟨PySem.W.fnOf "law" "law" (defArgs sLaw) (defBody sLaw) (defScope sLaw) .none kV doc pm an (.ref cc) ct, [He.cT K ("law", none)], spLaw K (He.cT K ("law", none)).2, ?_, ?_, ?_, ?_, ?_, ?_⟩
  · intro p hp
    have e : p = He.cT K ("law", none) := by simpa using hp
    rw [e]
    exact c.empty _ mt
  · intro p hp
    have e : p = He.cT K ("law", none) := by simpa using hp
    rw [e]
    exact c.out _ mt
  · intro p hp
    have e : p = He.cT K ("law", none) := by simpa using hp
    rw [e]
    exact PySem.W.codeHd_of_K X (c.hd _ mt)
  · exact fun s u => .of_eq rfl
  · intro H a ns hl _ hT hS
    exact ⟨a, ns, rfl, hS, hl, hT _ List.mem_cons_self, fun _ => rfl⟩
  · intro base KB NB TBs
    have TB := TBs _ List.mem_cons_self
    have TB' : LamX.TabB base mg cc (He.cT K ("law", none)).2 := by
      have e : (He.cT K ("law", none)).1 = cc := ec
      rw [← e]
      exact TB
    have GD : FnOk PySem.Challenge.rw_roundswap_k02_order_of_words.prog w K mg base CX0 1 _ d6 _ spDraw := ok_draw F6 B
    have GA : FnOk PySem.Challenge.rw_roundswap_k02_order_of_words.prog w K mg base CX0 2 _ d7 _ spAny := ok_any (k := 0) F7 B F6 b6 g6
    have GS : FnOk PySem.Challenge.rw_roundswap_k02_order_of_words.prog w K mg base CX0 1 _ d12 _ spSigns := ok_signs F12
    have GW : FnOk PySem.Challenge.rw_roundswap_k02_order_of_words.prog w K mg base CX0 2 _ d1 _ spIsW := ok_isw (k := 0) F1 B F0 b0 g0
    have GI : FnOk PySem.Challenge.rw_roundswap_k02_order_of_words.prog w K mg base CX0 1 _ d15 _ (spIni (He.ga K "InvalidWord")) := ok_ini F15 T
    have GC : FnOk PySem.Challenge.rw_roundswap_k02_order_of_words.prog w K mg base (L2.CX _ w) 3 _ d2 _ (spChk (He.ga K "InvalidWord")) := ok_chk (k := 0) F2 B T GW F1.kp b1 g1 GI b15
    have GR : FnOk PySem.Challenge.rw_roundswap_k02_order_of_words.prog w K mg base CX0 2 _ d4 _ spRank := ok_rank (k := 0) F4 B F0 b0 g0
    have GP : FnOk PySem.Challenge.rw_roundswap_k02_order_of_words.prog w K mg base (L2.CX _ w) 4 _ d3 _ (spPre (He.ga K "InvalidWord")) := ok_pre (k := 0) F3 GC F2.kp b2 g2 GR F4.kp b4 g4
    exact ok_law lk hcd B ⟨ok_begin F5 B, F5.kp, b5, g5⟩ ⟨GD, F6.kp, b6, g6⟩ ⟨GA, F7.kp, b7, g7⟩
      ⟨ok_let (k := 0) F11 B GA F7.kp b7 g7, F11.kp, b11, g11⟩ ⟨GS, F12.kp, b12, g12⟩ ⟨ok_some (k := 0) F13 B GA F7.kp b7 g7 GD F6.kp b6 g6 GS F12.kp b12 g12, F13.kp, b13, g13⟩
      ⟨GP, F3.kp, b3, g3⟩ (kb_pre F3) ⟨ok_same F8 B b8 g8 1, F8.kp, b8, g8⟩
      F10 b10 g10 T XC (ok_fld (k := 0) F9 T XC) F9.kp b9 g9 (g _ (by decide)) (g _ (by decide)) (g _ (by decide)) (of_decide_eq_true e2) TB'
end K2
open PySem PySem.W PySem.Calls PyProof.Rows
set_option maxRecDepth 100000 in
set_option maxHeartbeats 0 in
theorem PySem.Challenge.cw_roundswap_k02_order_of_words_holds : PySem.Challenge.rw_roundswap_k02_order_of_words.Holds := by
  w_on; o_law
  refine HandSHeadRun.head_any (r := OpenLaw.row PySem.Challenge.rw_roundswap_k02_order_of_words) (q := view (OpenLaw.row PySem.Challenge.rw_roundswap_k02_order_of_words).prog [21]) (H := K2.hk) (ob := K2.ob) (M := 4000) (loose := K2.loose) (d := HandSHeadRun.topDef (OpenLaw.row PySem.Challenge.rw_roundswap_k02_order_of_words).prog 21) (kwd := []) K2.ob_eq
    (by kernel_rfl) (fun s => by kernel_rfl) K2.run (by kernel_rfl) (by kernel_rfl) (by kernel_rfl) (by rfl) (by first | assumption | decide +kernel) (by decide +kernel) ⟨rfl, rfl, rfl, rfl, rfl, by decide +kernel⟩ ?hw ?hc
  case hw => w_witness2
  case hc =>
    refine LamX.walk_ofTsE (l := PySem.Challenge.rw_roundswap_k02_order_of_words) (n := 63) (k := 8) (x := "_law_script") (CX := fun _ => L2.CX0) rfl (by decide) (by kernel_rfl) ⟨rfl, by decide, by decide⟩ ?F (fun _ _ _ _ _ z => z)
    intro w mg fa h Y G hmg0
    obtain ⟨K, KX, c⟩ := Y
    have hmg : mg ("law" : PySem.Str) = some (.ref fa) := by
      have e : (HandSHeadRun.topDef (OpenLaw.row PySem.Challenge.rw_roundswap_k02_order_of_words).prog 21).name = ("law" : PySem.Str) := by kernel_rfl
      rw [← e]
      exact hmg0
    exact ⟨K, KX, K2.facts KX G hmg c⟩
