import PyProof.Rows.All
import Wide.All
import OpenK.AllK
import Wide.FinOn
import PyProof.EqAt
import PyProof.EqKinds
import PyProof.TupleCall
import HandS.ForMost
import HandS.Walk
import HandS.Style
import HandS.Exc
import HandS.HotCalls
import HandS.ExcField
import KE.KTryMore
import HandS.Lambda
import KE.KDflt
import KE.KSortKeySt
import HandS.Keys
import HandS.SortKw
import HandS.Wide
import HandS.Zip
import HandS.Words
import HandS.OwnEq
import HandS.More
import HandS.MakeKw
import HandS.Property
import HandS.HeadHook4
import HandS.HeadWalk
import HandS.HeadNt
import HandS.Head0
import HandS.Head1
import HandS.Head2
import HandS.HeadEnd
import HandS.HeadHook1
import HandS.HeadHook2
import HandS.HeadHook3
import HandS.Defaults
import KE.KStateDown
import PyProof.StrBlock
import PyProof.StrLawsIn
import HandS.IsInst
import HandS.EndTab
import HandS.ExcInit
import HandS.Flow
import HandS.StrMore
import HandS.Codes
import HandS.WordsExc
import HandS.Comp
import KE.GoesMore
import PyProof.EnumMake
import PyProof.Draws
import HandS.Star
import HandS.ClsMeth
import HandS.FStr
import HandS.TryOnly
import HandS.TupMul
import KE.KUnpackStar
import PyProof.Rows.TupIter
import HandS.NoneIn
import HandS.TupLen
import KE.KeyNested
import HandS.RevTup
import HandS.TupAny
import PySem.Challenge.RW_roundswap_k31_steps_that_are_applied
set_option Elab.async false
set_option linter.all false
set_option maxRecDepth 100000
set_option maxHeartbeats 2000000
namespace Rs
open PySem PySem.Spec PyProof.Rows L2
section
variable {X : Cx}
/-! texts: swapcase, and [::-1] -/
theorem m_swapcase : MtR X "str.swapcase" (fun x xs H Q => ∃ a, x = .str a ∧ xs = [] ∧ a.length ≤ 5592405 ∧ Q (.str (Txt.swapcase a)) H) :=
  mt0 (C := fun a => a.length ≤ 5592405) (g := fun a => .str (Txt.swapcase a)) fun a _ s _ hc h => PySem.SC.swapcase (fit_swapcase hc) (h _ (s.toks + 1) ⟨_, rfl⟩)
def rv (z : Str) : Str := ⟨z.cps.reverse⟩
theorem rv_is (z : Str) (u : Tok) : Txt.sliceBy z none none (-1, u) = rv z := by
  have e := step_rev_list z u
  unfold rv
  have e2 : (Txt.sliceBy z none none (-1, u)).cps = z.cps.reverse := by
    apply Array.toList_inj.mp
    rw [e, Array.toList_reverse]
    apply List.ext_getElem?
    intro i
    rw [List.getElem?_map]
    by_cases h : i < z.cps.size
    · have hl : i < z.length := h
      rw [List.getElem?_range hl, List.getElem?_reverse (by simpa using h)]
      have h2 : z.length - 1 - i < z.cps.size := by show z.cps.size - 1 - i < _; omega
      show some _ = z.cps.toList[z.cps.size - 1 - i]?
      rw [Array.getElem?_toList]
      have h3 : z.cps.size - 1 - i < z.cps.size := h2
      rw [Array.getElem?_eq_getElem h3]
      congr 1
      show z.cps.getD (z.cps.size - 1 - i) 0 = _
      simp [Array.getD, h3]
    · have h1 : (List.range z.length)[i]? = none := by
        rw [List.getElem?_eq_none_iff, List.length_range]; exact Nat.not_lt.mp h
      rw [h1, List.getElem?_eq_none (by simpa using Nat.not_lt.mp h)]
      rfl
  cases hz : Txt.sliceBy z none none (-1, u)
  rw [hz] at e2
  dsimp only at e2
  rw [e2]
def tRevS (te : TE) : TE := fun σ H Q => te σ H fun x H1 => ∃ z, x = .str z ∧ z.length ≤ sizeLine ∧ Q (.str (rv z)) H1
theorem e_revS {e : Expr} {te : TE} {k : Nat} {p1 p2 p3 pos : Pos} (he : PE X e te) :
    PE X (.Subscript e (.Slice none none (some (.UnaryOp .USub (.Constant (.int 1) k p1) p2)) p3) pos) (tRevS te) := by
  constructor
  intro pins s σ H Q I h
  refine Subscript_ (thn (he.run pins s σ H _ I h) fun v s1 hh => ?_)
  obtain ⟨x, H1, I1, r1, z, ez, hz, q⟩ := hh
  subst ez
  obtain ⟨t, rfl⟩ := r1
  have hst : PO X (some (.UnaryOp .USub (.Constant (.int 1) k p1) p2)) (tPart (tUn (rU fun i => .int (-i)) (tC (.int 1)))) :=
    po_some (pe_un un_neg pe_int)
  refine wpAny_Slice (thn (po_none.run pins s1 σ H1 (fun o H2 => o = none ∧ H2 = H1) I1 ⟨rfl, rfl⟩) ?_)
  rintro vl s2 ⟨l, H2, I2, pl, rfl, rfl⟩
  refine thn (po_none.run pins s2 σ H2 (fun o H3 => o = none ∧ H3 = H2) I2 ⟨rfl, rfl⟩) ?_
  rintro vu s3 ⟨u, H3, I3, pu, rfl, rfl⟩
  refine thn (hst.run pins s3 σ H3 (fun o H4 => o = some (-1) ∧ H4 = H3) I3 ⟨1, rfl, -1, rfl, rfl, rfl⟩) ?_
  rintro vs s4 ⟨o, H4, I4, ps, rfl, rfl⟩
  obtain ⟨l', rfl, hl'⟩ := IsPart.raw pl
  obtain ⟨u', rfl, hu'⟩ := IsPart.raw pu
  obtain ⟨k', rfl, hk'⟩ := IsPart.raw ps
  cases l' with
  | some l' => cases hl'
  | none =>
  cases u' with
  | some u' => cases hu'
  | none =>
  cases k' with
  | none => cases hk'
  | some k' =>
  obtain ⟨kk, tk⟩ := k'
  have ek : kk = -1 := by simpa using hk'
  subst ek
  refine tail_any (ops := [.str z t, .ref s4.heap.objs.size]) (typeIs_str _ _ _) (F.slot_str_getitem.lookup) ?_ (by with_unfolding_all rfl)
  refine wpAny_getItem_str_slice (l := none) (u := none) (st := some (-1, tk)) ⟨_, Heap.get?_push_size _ rfl, rfl, rfl⟩ rfl ?_
  refine post_val_or_str ⟨Nat.le_trans (Txt.sliceBy_le z _ _ (-1, tk) (by show (-1 : Int) ≠ 0; decide)) hz, fun t' c => ?_⟩
  show EP X pins σ Q (.str (Txt.sliceBy z none none (-1, tk)) t') _
  rw [rv_is]
  exact ⟨.str (rv z), _, I4.kept fun b ob q => Heap.get?_push_of_some _ q, ⟨_, rfl⟩, q⟩
end
end Rs
set_option maxRecDepth 100000
set_option maxHeartbeats 2000000
namespace Rs
open PySem PySem.Spec PyProof.Rows L2
theorem fly_keeps {h h' Bh : Heap} {l : List Env} {a : Addr} {Z : Obj → Prop} (x : HandSPX.FlyingZ Bh l a Z h) (k : ∀ b o, h.get? b = some o → h'.get? b = some o) : HandSPX.FlyingZ Bh l a Z h' := by
  obtain ⟨x1, x2, x3, oe, vs, T, oT, ts, y1, y2, y3, y4, y5, y6, y7, y8, y9⟩ := x
  exact ⟨fun b o e => k b o (x1 b o e), x2, x3.of_keeps (fun b o e _ => ⟨o, k b o e, rfl⟩), oe, vs, T, oT, ts, k _ _ y1, y2, y3, y4, y5, y6, k _ _ y7, y8, y9⟩
/-- what «except (x1, x2, x3) as n» asks of an error of the body, where it is always one of the three -/
def wT (K : PySem.W.Frag) (cs : List Value) (i : Nat) (ts : Addr → Value → Option Addr → TS) (D : Ends) : WX := fun cls d σ H =>
  PySem.W.exmAny K cls cs = some true ∧ ∀ a, H a = none →
    ts a cls d { nx := fun σ' H' => D.nx (σ'.set i none) H', rt := D.rt, bk := fun σ' H' => D.bk (σ'.set i none) H', ct := fun σ' H' => D.ct (σ'.set i none) H' } (σ.set i (some (.ref a))) H
section
variable {X : Cx}
theorem s_try3 {x1 x2 x3 n : Str} {c1 c2 c3 : Value} {i k : Nat} {body suite : List Stmt} {b₀ : Stmt} {n1 n2 n3 tp pos pos' : Pos} {tb : WX → TS} {ts : Addr → Value → Option Addr → TS}
    (hs : X.stack = X.env :: X.outer) (hf : X.env.frame = some X.env.locals) (hN : X.N.Nodup) (hi : X.N[i]? = some n) (hln : X.env.kindOf n = some .local)
    (g1 : Gl X x1) (m1 : X.mg x1 = some c1) (g2 : Gl X x2) (m2 : X.mg x2 = some c2) (g3 : Gl X x3) (m3 : X.mg x3 = some c3)
    (hb : ∀ (W : WX) (pn : List (Addr × Obj)) (xe : Value → Shared → Prop), Takes (X.tr pn xe) W → PSs (X.tr pn xe) body (tb W))
    (hsu : ∀ (a : Addr) (oe : Obj) (cls : Value) (d : Option Addr) (pn : List (Addr × Obj)), Zc cls d oe → (∃ vs, oe.data = .fields vs) → PSs (X.suite a ((a, oe) :: pn)) (b₀ :: suite) (ts a cls d))
    (d1 : (x1 == ("__debug__" : Str)) = false := by decide) (d2 : (x2 == ("__debug__" : Str)) = false := by decide) (d3 : (x3 == ("__debug__" : Str)) = false := by decide) :
    PS X (.Try body [.ExceptHandler (some (.Tuple [.Name x1 n1, .Name x2 n2, .Name x3 n3] k tp)) (some n) (b₀ :: suite) pos'] [] [] pos) (fun D σ H => tb (wT X.K [c1, c2, c3] i ts D) D σ H) := by
  constructor
  intro pins s σ H D I h
  have ok := I.ok
  have hfra : X.A.frames = some (X.env :: X.outer) := by rw [ok.frames, hs]
  have hlc : Loc X.env.scope n := .inl hln
  refine wpAny_Try_except ?_
  refine wpAny_mono ((hb (wT X.K [c1, c2, c3] i ts D) (X.pn ++ pins)
    (fun e s₁ => wpAny (model X.prog X.w) X.A (noteFrame e X.env) (fun _ s₂ => wpAny (model X.prog X.w) X.A (setFlight e none)
      (fun _ s₃ => wpAny (model X.prog X.w) X.A (handleBy e X.env [.ExceptHandler (some (.Tuple [.Name x1 n1, .Name x2 n2, .Name x3 n3] k tp)) (some n) (b₀ :: suite) pos']) (SP X pins D) X.xe s₃) X.xe s₂) X.xe s₁)
    (fun u s' xx => ?_)).run [] s σ H D (I.toTry _) h) (fun f s1 hsp => ?_) (fun e s1 he => he)
  · obtain ⟨a, Bh, sIn, pins', σ', H', cls, d, rfl, Jt, nbk, up, sky, na, os, agn, hx, hyes⟩ := xx
    have J : Inv X pins σ' H' sIn := Jt.ofTry ok
    have skyB : Sky Bh (X.env :: X.outer) a (Zc cls d) X.env.locals s'.heap := hs ▸ sky
    show wpAny _ X.A (noteFrame (.ref a) X.env) _ _ _
    refine Sky.land Zc.steady hfra hf skyB fun hp3 fly3 ups3 => ?_
    have Jl : Inv X pins σ' H' { s' with heap := hp3 } := J.landed nbk fly3.1 (up.trans ups3) os agn
    obtain ⟨ob3, vb3, ge3, gz3, gd3⟩ := fly3.there
    have noFr : a ∉ frs (X.env :: X.outer) := fun hm => by
      obtain ⟨_, o', e', hnf⟩ := fly3.2.2.1.mem hm
      rw [ge3] at e'
      cases e'
      exact hnf _ gd3
    have noL : a ≠ X.env.locals := fun z => noFr (List.mem_filterMap.mpr ⟨X.env, List.mem_cons_self, by rw [hf, z]⟩)
    have noF : a ∉ X.fs := fun hm => by
      obtain ⟨en, hen, q⟩ := List.mem_filterMap.mp hm
      exact noFr (List.mem_filterMap.mpr ⟨en, List.mem_cons_of_mem _ hen, q⟩)
    have Su3 := Jl.suite ge3 gd3 na noL noF
    refine wpAny_handleBy_cons (codeAny_handlers_test ?_) (fun z => nomatch z)
    refine wpAny_Tuple_spliced ?_
    show wpAny _ _ (spliced [(false, eval (.Name x1 n1) X.env), (false, eval (.Name x2 n2) X.env), (false, eval (.Name x3 n3) X.env)]) _ _ _
    refine Calls.spliced_cons (ld_glob (X := X.suite a ((a, ob3) :: (X.pn ++ pins))) Su3 g1 m1 ?_ d1)
    refine Calls.spliced_cons (ld_glob (X := X.suite a ((a, ob3) :: (X.pn ++ pins))) Su3 g2 m2 ?_ d2)
    refine Calls.spliced_cons (ld_glob (X := X.suite a ((a, ob3) :: (X.pn ++ pins))) Su3 g3 m3 (Calls.spliced_nil ⟨by show 3 ≤ sizeLine; decide, ?_⟩) d3)
    have kp : ∀ b o, hp3.get? b = some o → (hp3.push { cls := .type "tuple", data := .seq [c1, c2, c3].toArray }).get? b = some o := fun b o e => Heap.get?_push_of_some _ e
    have fl4 := fly_keeps fly3 kp
    have he4 := kp _ _ ge3
    have LT : PySem.W.Looks (model X.prog X.w) (hp3.push { cls := .type "tuple", data := .seq [c1, c2, c3].toArray }) (typeOf (.ref a)) cls := fun A Q E s k q => wpAny_typeOf_ref (k _ _ he4) (by rw [gz3.1]; exact q)
    have LM := PySem.W.exm_tup3 (M := model X.prog X.w) (Jl.kIn.keeps kp) LT (Heap.get?_push_size _ rfl) hx
    refine LM.here ?_
    refine codeAny_handlers_suite_as (HandSPX.lands_againZ (s := { s' with heap := hp3.push { cls := .type "tuple", data := .seq [c1, c2, c3].toArray } }) fl4 fun h5 fl5 up5 => ?_)
    have J5 : Inv X pins σ' H' { s' with heap := h5 } := J.landed nbk fl5.1 (((up.trans ups3).trans (.of_keeps kp)).trans up5) os agn
    obtain ⟨oe5, vs5, he5, hz5, hd5⟩ := fl5.there
    have S5 := J5.suite he5 hd5 na noL noF
    refine store_ok (X := X.suite a ((a, oe5) :: (X.pn ++ pins))) (v := .ref a) S5 hN hi hlc rfl (fun s6 S6 => ?_) (.inr hln)
    refine wpAny_mono ((hsu a oe5 cls d (X.pn ++ pins) hz5 ⟨_, hd5⟩).run [] s6 _ H' _ S6 (hyes a na)) (fun f s7 hsp => ?_) (fun _ _ z => False.elim z)
    have fin : ∀ {σ7 : L2.St} {H7 : Hp} {Q : Shared → Prop}, Inv (X.suite a ((a, oe5) :: (X.pn ++ pins))) [] σ7 H7 s7 → (∀ s8, Inv X pins (σ7.set i none) H7 s8 → Q s8) →
        wpAny (model X.prog X.w) X.A (do bindName X.env n .none; unbindBehindTheSuite X.env n pos') (fun _ s8 => Q s8) X.xe s7 := fun S7 hq => gone_ok (S7.unsuite ok) hN hi hln hq
    cases f with
    | next =>
      obtain ⟨σ7, H7, S7, q7⟩ := hsp
      exact fin S7 fun s8 J8 => ⟨_, _, J8, q7⟩
    | brk =>
      obtain ⟨σ7, H7, S7, q7⟩ := hsp
      exact fin S7 fun s8 J8 => ⟨_, _, J8, q7⟩
    | cont =>
      obtain ⟨σ7, H7, S7, q7⟩ := hsp
      exact fin S7 fun s8 J8 => ⟨_, _, J8, q7⟩
    | ret u =>
      obtain ⟨v7, σ7, H7, S7, r7, q7⟩ := hsp
      exact fin S7 fun s8 J8 => ⟨_, _, _, J8, r7, q7⟩
  · cases f with
    | next =>
      obtain ⟨σ', H', Jt, q⟩ := hsp
      exact wpAny_execs_nil ⟨σ', H', Jt.ofTry ok, q⟩
    | brk =>
      obtain ⟨σ', H', Jt, q⟩ := hsp
      exact ⟨σ', H', Jt.ofTry ok, q⟩
    | cont =>
      obtain ⟨σ', H', Jt, q⟩ := hsp
      exact ⟨σ', H', Jt.ofTry ok, q⟩
    | ret u =>
      obtain ⟨v, σ', H', Jt, r, q⟩ := hsp
      exact ⟨v, σ', H', Jt.ofTry ok, r, q⟩
/-- err.f, err an error that the context holds by a pin -/
theorem e_xf {a C : Addr} {oe : Obj} {cls : Value} {d : Option Addr} {e : Expr} {te : TE} {pos : Pos} {n : Str} (T : XfC X.K C) (hno : PySem.W.findIn X.K (.ref C) n = some none)
    (hz : Zc cls d oe) (hf : ∃ vs, oe.data = .fields vs) (hp : (a, oe) ∈ X.pn) (he : PE X e te) (hb : attributeBase e n X.env (eval e X.env) = eval e X.env := by rfl) :
    PE X (.Attribute e n pos) (tXf a cls d C n te) := by
  constructor
  intro pins s σ H Q I h
  refine attr_of hb (thn (he.run pins s σ H _ I h) ?_)
  rintro u s1 ⟨x, H1, I1, rx, rfl, rfl, dd, fs, v, rfl, ea, l, q⟩
  obtain rfl : u = .ref a := rx
  obtain ⟨ha, _⟩ := I1.pin (a, oe) (List.mem_append_left _ hp)
  obtain ⟨vs, hd⟩ := hf
  obtain ⟨mAt, hnsp, hr⟩ := (show ObjOk X.prog X.w H1 s1.heap dd (.xd fs) from I1.hok dd _ ea)
  obtain ⟨odo, hod, hl⟩ := lookIn_ns hnsp
  obtain ⟨u, hu, ruv⟩ := RelO.some_of (v := v) (o := mAt n) (by rw [← l]; exact hr n)
  have J : PySem.W.InstAt s1.heap a oe C (some odo) := ⟨ha, hz.1, by unfold PySem.W.notCls; rw [hd] <;> rfl, by rw [hz.2]; exact hod⟩
  exact HandSPX.exc_get I1.kIn J T.ga T.gg T.exC (PySem.W.findObj_own T.hdC hno rfl (by rw [hl, hu])) (handed_of ruv) ⟨v, H1, I1.tok _, ruv, q⟩
end
/-- a def's promise where an error p is handled and handed on -/
structure FnPin (P : Program) (w : World) (K : PySem.W.Frag) (mg : Str → Option Value) (base : Heap) (k : Nat) (f : Addr) (fd : FuncData) (ps : List Str) (sp : Addr × Obj → Sp) : Prop where
  len : ∀ p vs H Q E, sp p vs H Q E → vs.length = ps.length
  run : ∀ (A : Around) (outer : List Env) (s : Shared) (H : Hp) (us : List Value) (vs : List V) (Q : VK) (p : Addr × Obj), L2H.RoomH k A → L2H.PinOk outer H s p → Env0 P w K mg base A outer s H →
    BindsTo s fd ⟨us, []⟩ (ps.zip us) → Vals vs us → sp p vs H Q E0 → codeAny (model P w) A (.call (.ref f) ⟨us, []⟩) (CR CX0 outer P w H s Q E0) s
theorem fn_pin {P : Program} {w : World} {K : PySem.W.Frag} {mg : Str → Option Value} {base : Heap} {k : Nat} {f : Addr} {fd : FuncData} {name : Str} {st : Stmt} {N ps : List Str} {sp : Addr × Obj → Sp} (F : Fun K name name st f fd) (S : FnScope N ps (defScope st))
    (len : ∀ p vs H Q E, sp p vs H Q E → vs.length = ps.length)
    (hbody : ∀ (cdv : Value) (A : Around) (outer : List Env) (s : Shared) (H : Hp) (vs : List V) (Q : VK) (p : Addr × Obj), L2H.RoomH k (A.deeper (envOfC name (defScope st) s.heap.objs.size f cdv)) → sp p vs H Q E0 →
      ∃ t, PSs (L2H.cxH CX0 P w K mg base N name (defScope st) f cdv A outer s H E0 p).nox (defBody st) t ∧ t { nx := fun _ H' => Q .non H', rt := Q } (L2.start N vs) H) :
    FnPin P w K mg base (k + 1) f fd ps sp := by
  obtain ⟨oc, odo, kV, doc, pm, an, cdv, ct, osl, rfl, lk, hcd⟩ := F.ex
  refine ⟨len, fun A outer s H us vs Q p hr hpin e0 hb r hsp => ?_⟩
  have hl := len _ _ _ _ _ hsp
  have Kin : K.In s.heap := e0.mod.kin.keeps fun b o e => (e0.bs b o e).1
  have lmt : s.heap.NoLimit := e0.mod.nolimit.keeps fun b o e => (e0.bs b o e).1
  have hkd : ∀ y ∈ ps.zip us, (defScope st).names.lookup y.1 = some .local ∨ ((defScope st).names.lookup y.1 = some .cell ∧ ((cellsFrom (s.heap.objs.size + 1) (defScope st).names []).lookup y.1).isSome = true) := by
    rintro ⟨n, v⟩ hy
    exact (S.par n (List.of_mem_zip hy).1).elim (fun q => .inl q) (fun q => .inr ⟨q, PySem.W.cellsFrom_some _ _ _ (.inl q)⟩)
  refine codeAny_call_function hr.depth (Kin _ _ lk) rfl S.co S.gen rfl (PySem.W.codeRec_of Kin hcd) (hb _ _ _ _ ?_)
  refine wpAny_newFunctionEnv_cells S.kind hkd fun env he s1 x => ?_
  subst he
  refine ⟨lmt.keeps x.toInCall.keep, codeAny_func ?_⟩
  obtain ⟨t, ht, hq⟩ := hbody cdv A outer s H vs Q p (hr.deeper _) hsp
  have I : Inv (L2H.cxH CX0 P w K mg base N name (defScope st) f cdv A outer s H E0 p) [] (L2.start N vs) H s1 := L2H.inv_startH S hpin e0 hl r x
  refine wpAny_mono (ht.nox.run [] s1 (L2.start N vs) H _ I hq) (fun fl s' hs => ?_) fun e s' hs => hs
  cases fl with
  | ret u =>
    obtain ⟨v, σ', H', Jn, rv, q⟩ := hs
    exact ⟨v, H', Jn.os, Jn.bare, Jn.base, Jn.hok, rv, q⟩
  | next =>
    obtain ⟨σ', H', J, q⟩ := hs
    exact ⟨.non, H', J.os, J.bare, J.base, J.hok, rfl, q⟩
  | brk =>
    obtain ⟨_, _, _, q⟩ := hs
    exact False.elim q
  | cont =>
    obtain ⟨_, _, _, q⟩ := hs
    exact False.elim q
theorem e_callP {X : Cx} {k : Nat} {f : Addr} {fd : FuncData} {ps : List Str} {sp : Addr × Obj → Sp} {p : Addr × Obj} {x : Str} {e : Expr} {es : List Expr} {t : TA} {q pos : Pos} (F : FnPin X.prog X.w X.K X.mg X.base k f fd ps sp) (hr : L2H.RoomH k X.A) (hp : p ∈ X.pn) (hg : Gl X x) (hm : X.mg x = some (.ref f))
    (hk : PySem.W.keepIn X.K (.ref f) = true) (hb : Binds X.K fd ps []) (ha : PA X (e :: es) t) (hdb : (x == ("__debug__" : Str)) = false := by decide)
    (he : starEach (e :: es) X.env = (false, eval e X.env) :: starEach es X.env := by rfl) (hpl : (backTo pos (starEach es X.env)).any (·.1) = false := by rfl) : PE X (.Call (.Name x q) (e :: es) [] pos) (tCall (sp p) [] E0 t) := by
  constructor
  intro pins s σ H Q I h
  refine wpAny_Call_Name_kw (ld_glob I hg hm (PySem.W.callWith_K (h₀ := X.base) I.ok.mod.kin hk (thn (ha.run pos pins s σ H _ I h) ?_) he hpl) hdb)
  rintro us s1 ⟨vs, H1, I1, r, q⟩
  refine ⟨I1.kIn, ?_⟩
  rw [List.append_nil] at q
  have hl : us.length = ps.length := by rw [← r.length]; exact F.len _ _ _ _ _ q
  have b := hb s1 us I1.kIn (by rw [List.append_nil]; exact hl)
  rw [List.append_nil] at b
  have P1 := I1.pin p (List.mem_append_left _ hp)
  have hpin : L2H.PinOk X.stack H1 s1 p := ⟨P1.1, P1.2.1, fun hm => (List.mem_cons.mp (I1.stkSub p.1 hm)).elim P1.2.2.1 P1.2.2.2.1, P1.2.2.2.2⟩
  refine wpAny_call (codeAny_mono (F.run X.A X.stack s1 H1 us vs Q p hr hpin I1.env0 b r q) fun r s' hq => ?_)
  cases r with
  | error er => exact False.elim hq
  | ok fl =>
    cases fl with
    | ret u => exact I1.after hq
    | next => exact False.elim hq
    | brk => exact False.elim hq
    | cont => exact False.elim hq
end Rs
set_option maxRecDepth 100000
set_option maxHeartbeats 2000000
namespace Rs
open PySem PySem.Spec PyProof.Rows L2
/-! a comprehension whose element knows what holds of the def around it -/
section
variable {X : Cx}
/-- whoever is right within the block is right for the def -/
def Up (X : Cx) (Z : Cx) (pins : List (Addr × Obj)) (σ : L2.St) : Prop := ∀ (pz : List (Addr × Obj)) (τ : L2.St) (G : Hp) (z : Shared), Inv Z pz τ G z → Inv X pins σ G z
theorem up_blk {pins : List (Addr × Obj)} {s : Shared} {σ : L2.St} {H : Hp} {sco : Scope} {ce : Env} {fp : List Addr} (I : Inv X pins σ H s) (ok : ∀ b ∈ fp, FpOk X pins H b ∧ b < s.heap.objs.size) : Up X (X.blk s H sco ce fp) pins σ := by
  intro pz τ G z J
  refine I.call' (ch := fp) J.os J.base J.hok J.bare fun b hb => ?_
  obtain ⟨⟨_, x2, _, x4, x5, x6⟩, _⟩ := ok b hb
  exact ⟨x4, x2, x5, x6⟩
/-- the block's own run: its list stands at D -/
theorem blk_run {pins : List (Addr × Obj)} {s : Shared} {σ : L2.St} {H : Hp} {Q : VK} {elt tg it0 : Expr} {cs : List Expr} {sco : Scope} {own : List (Str × Nat)} {pos : Pos} {J : It} {g : TG} {tt : TT} {te : TE} {it D : Addr} {fp : List Addr} {tn : Nat → Heap → Prop} {W : Nat → Nat → Hp → Prop} {m0 : Nat} {R : Result → Shared → Prop}
    (hc : X.calm = true) (nd : X.N.Nodup) (I : Inv X pins σ H s) (bo : BlkOk X.N X.env.scope sco own) (ok : ∀ b ∈ fp, FpOk X pins H b ∧ b < s.heap.objs.size) (T : Turn X.prog X.w X.K tg J fp it tn) (st : tn 0 s.heap) (w0 : W 0 m0 H)
    (hg : ∀ z G C cl fp, PG (X.blk z G sco (compEnvC sco cl C X.env) fp) tg g) (ht : ∀ z G C cl fp, PTs (X.blk z G sco (compEnvC sco cl C X.env) fp) cs tt)
    (he : ∀ z G C cl fp, Up X (X.blk z G sco (compEnvC sco cl C X.env) fp) pins σ → PE (X.blk z G sco (compEnvC sco cl C X.env) fp) elt te)
    (turn : ∀ i m G, W i m G → (J.stop i G ∧ Q (.ref D) G) ∨ (J.go i G ∧ ∃ Nx : Hp → Prop, (∀ G', Nx G' → ∃ m', m' < m ∧ W (i + 1) m' G') ∧ ∀ x G', J.yld i G x G' → g x (wipe σ (own.map (·.2))) G' fun τ G2 => wipe τ (own.map (·.2)) = wipe σ (own.map (·.2)) ∧ tt τ G2 fun b G3 =>
      if b = true then te τ G3 fun y G4 => ∃ acc, G4 D = some (.lst acc) ∧ acc.length < sizeLine ∧ Nx (upd G4 D (.lst (acc ++ [y]))) else Nx G3))
    (out : ∀ z m G, Inv X pins σ G z → Q (.ref D) G → z.heap.Ns s.heap.objs.size m → FpOk X pins G s.heap.objs.size → R (.ok .next) z) :
    codeAny (model X.prog X.w) X.A (.compStart (.ListComp elt [⟨tg, it0, cs, 0⟩] sco pos) 0 (.ref it) (.ref D) (compEnvC sco (cellsFrom (s.heap.objs.size + 1) sco.names (cloFrom X.env.cells sco.names [])) s.heap.objs.size X.env)) R
      { s with heap := pushCells (s.heap.push { cls := .type "dict", data := .dict #[] }) sco.names } := by
  have B0 := block_start I bo nd ok
  have st' : tn 0 (pushCells (s.heap.push { cls := .type "dict", data := .dict #[] }) sco.names) := T.keep _ _ _ st (by intro b _ o e; exact pushCells_keeps _ _ _ _ (Heap.get?_push_of_some _ e))
  have pg := hg s H s.heap.objs.size (cellsFrom (s.heap.objs.size + 1) sco.names (cloFrom X.env.cells sco.names [])) fp
  have pt := ht s H s.heap.objs.size (cellsFrom (s.heap.objs.size + 1) sco.names (cloFrom X.env.cells sco.names [])) fp
  have pe := he s H s.heap.objs.size (cellsFrom (s.heap.objs.size + 1) sco.names (cloFrom X.env.cells sco.names [])) fp (up_blk I ok)
  have eL : (compEnvC sco (cellsFrom (s.heap.objs.size + 1) sco.names (cloFrom X.env.cells sco.names [])) s.heap.objs.size X.env).locals = s.heap.objs.size := rfl
  generalize compEnvC sco (cellsFrom (s.heap.objs.size + 1) sco.names (cloFrom X.env.cells sco.names [])) s.heap.objs.size X.env = ce at *
  generalize hs4 : ({ s with heap := pushCells (s.heap.push { cls := .type "dict", data := .dict #[] }) sco.names } : Shared) = s4 at B0 ⊢
  have st4 : tn 0 s4.heap := by
    rw [← hs4]
    exact st'
  -- the iterator's objects, seen from the block
  have fit : ∀ {τ : L2.St} {G : Hp} {z : Shared}, Inv (X.blk s H sco ce fp) [] τ G z → (∀ b ∈ fp, G b = none) → ∀ b ∈ fp, FpOk (X.blk s H sco ce fp) [] G b := by
    intro τ G z Iz hn b hb
    have e1 := Iz.ok.exf b hb
    refine ⟨hn b hb, e1.1, Iz.ok.exfs b hb, .inl hb, fun x c => e1.2 x c, ?_⟩
    intro p hp
    cases hp
  have loop : codeAny (model X.prog X.w) X.A (.compLoop (.ListComp elt [⟨tg, it0, cs, 0⟩] sco pos) 0 (.ref it) (.ref D) ce) R s4 := by
    apply compLoop_any (fun n z => ∃ i G, Inv (X.blk s H sco ce fp) [] (wipe σ (own.map (·.2))) G z ∧ tn i z.heap ∧ (∀ b ∈ fp, G b = none) ∧ W i n G) _ m0 ⟨0, H, B0, st4, fun b hb => (ok b hb).1.1, w0⟩
    rintro n s5 ⟨i, G5, I5, st5, n5, w5⟩
    cases turn i n G5 w5 with
    | inl h =>
      have td := T.done (X.blk s H sco ce fp) rfl rfl rfl hc i [] s5 _ G5 (fun _ _ => False) I5 (fit I5 n5) st5 h.1
      refine thnF td ?_
      rintro r s6 ⟨rfl, I6⟩
      have nC : G5 s.heap.objs.size = none := by
        rw [← eL]
        exact I6.free
      obtain ⟨m, hm, _⟩ := I6.loc
      refine out s6 m G5 (up_blk I ok _ _ _ _ I6) h.2 ?_ (I.fpOk (Nat.le_refl _) nC)
      rw [← eL]
      exact hm
    | inr h =>
      obtain ⟨go, Nx, hNx, step⟩ := h
      have ti := T.item (X.blk s H sco ce fp) rfl rfl rfl hc i [] s5 _ G5 (fun _ _ => False) I5 (fit I5 n5) st5 go
      refine thnF ti ?_
      rintro r s6 ⟨u, rfl, h6⟩
      refine thnF h6 ?_
      rintro _ s7 ⟨x, G7, I7, r7, y7, st7, n7⟩
      refine thnF (pg.run _ s7 _ G7 x u _ (I7.pinned (fit I7 n7) (T.obj _ _ st7)) r7 (step x G7 y7)) ?_
      rintro _ s8 ⟨τ, G8, I8, ew, q8⟩
      refine thnF (pt.run _ s8 τ G8 _ I8 q8) ?_
      rintro b s9 ⟨G9, I9, q9⟩
      have fin : ∀ {z : Shared} {G : Hp}, Inv (X.blk s H sco ce fp) ([] ++ pinsAt fp s7.heap) τ G z → Nx G → ∃ m, m < n ∧ ∃ i G, Inv (X.blk s H sco ce fp) [] (wipe σ (own.map (·.2))) G z ∧ tn i z.heap ∧ (∀ b ∈ fp, G b = none) ∧ W i m G := by
        intro z G Iz nx
        obtain ⟨m', hm, w'⟩ := hNx G nx
        have pin : ∀ b ∈ fp, ∀ o, s7.heap.get? b = some o → z.heap.get? b = some o ∧ G b = none := by
          intro b hb o e
          have q := Iz.pin (b, o) (List.mem_append_right _ (List.mem_append_right _ (mem_pinsAt hb e)))
          exact ⟨q.1, q.2.1⟩
        refine ⟨m', hm, i + 1, G, ?_, T.keep _ _ _ st7 (fun b hb o e => (pin b hb o e).1), ?_, w'⟩
        · apply (Iz.unpinned (pins := [])).weak
          · rw [← ew, wipe_length]
          · intro j v e
            rw [← ew] at e
            exact (wipe_some e).1
        · intro b hb
          obtain ⟨o, e, _⟩ := T.obj _ _ st7 b hb
          exact (pin b hb o e).2
      cases b with
      | false =>
        rw [if_neg (by decide)] at q9 ⊢
        exact fin I9 q9
      | true =>
        rw [if_pos rfl] at q9 ⊢
        refine thnF (pe.run _ s9 τ G9 _ I9 q9) ?_
        rintro v s10 ⟨y, G10, I10, r10, acc, hD, hz, nx⟩
        exact app_ok (X := X.blk s H sco ce fp) I10 hD hz r10 fun s11 I11 => fin I11 nx
  exact codeAny_compStart_list loop (T.self X.A 0 _ _ _ st4 loop)
theorem lc_up {pins : List (Addr × Obj)} {s : Shared} {σ : L2.St} {H : Hp} {Q : VK} {elt tg it0 : Expr} {cs : List Expr} {sco : Scope} {own : List (Str × Nat)} {pos p2 : Pos} {wi : TI} {g : TG} {tt : TT} {te : TE} {use : Option (Value → Sem Unit)} {Qf : Value → Shared → Prop}
    (hc : X.calm = true) (nd : X.N.Nodup) (I : Inv X pins σ H s) (hi : PI X tg it0 wi) (bo : BlkOk X.N X.env.scope sco own)
    (hg : ∀ z G C cl fp, PG (X.blk z G sco (compEnvC sco cl C X.env) fp) tg g) (ht : ∀ z G C cl fp, PTs (X.blk z G sco (compEnvC sco cl C X.env) fp) cs tt)
    (he : ∀ z G C cl fp, Up X (X.blk z G sco (compEnvC sco cl C X.env) fp) pins σ → PE (X.blk z G sco (compEnvC sco cl C X.env) fp) elt te)
    (hs : ∀ x, foldedSetIterable it0 X.env x = pure x) (hq : tLc wi g tt te (own.map (·.2)) σ H Q)
    (out : ∀ D C z m G, Inv X pins σ G z → Q (.ref D) G → z.heap.Ns C m → FpOk X pins G C → compPost (model X.prog X.w) X.A X.xe use Qf (.ref D) C (.ok .next) z) :
    wpAny (model X.prog X.w) X.A (comprehension (.ListComp elt [⟨tg, it0, cs, 0⟩] sco pos) sco X.env p2 (newList []) false (eval it0 X.env) use) Qf X.xe s := by
  have fr : ∀ y ∈ sco.names, y.2 = .free → ∃ c, X.env.cells.lookup y.1 = some c := by
    intro y hy e
    exact (bo.free y hy e).elim (fun k => I.ok.has _ (.inl k)) (fun k => I.ok.has _ (.inr k))
  apply wpAny_comprehension_free (use := use) rfl hs (closure_ok fr) bo.kind (by intro y hy e; rw [bo.uniq y hy, e])
  refine thn (hi.run pins s σ H _ I hq) ?_
  intro xv s1 hx
  refine thn hx ?_
  rintro _ s2 ⟨it, fp, tn, J, H2, rfl, I2, T, st2, f2, q⟩
  refine wpAny_newObj_type (newEnv_comp ?_) (by show 0 ≤ sizeLine; decide)
  have nD : H2 s2.heap.objs.size = none := I2.hok.fresh (Nat.le_refl _)
  obtain ⟨W, ⟨m0, w0⟩, turn⟩ := q s2.heap.objs.size nD
  have I3 := I2.laid (t' := s2.toks) (h' := s2.heap.push { cls := .type "list", data := .seq ([] : List Value).toArray }) (a := s2.heap.objs.size) (o := .lst []) (fun b o e => Heap.get?_push_of_some _ e) (Nat.le_refl _) ⟨Nat.zero_le _, [], 0, .nil, Heap.get?_push_size _ rfl⟩
  have f3 : ∀ b ∈ fp, FpOk X pins (upd H2 s2.heap.objs.size (.lst [])) b ∧ b < (s2.heap.push { cls := .type "list", data := .seq ([] : List Value).toArray }).objs.size := by
    intro b hb
    obtain ⟨o, e, _⟩ := T.obj _ _ st2 b hb
    have hlt := Heap.lt_size e
    refine ⟨⟨?_, (f2 b hb).2⟩, by rw [Heap.size_push]; exact Nat.lt_succ_of_lt hlt⟩
    rw [upd_ne (Nat.ne_of_lt hlt)]
    exact (f2 b hb).1
  exact blk_run hc nd I3 bo f3 T (T.keep _ _ _ st2 fun b _ o e => Heap.get?_push_of_some _ e) w0 hg ht he turn (fun z m G Iz qz hm hf => out _ _ z m G Iz qz hm hf)
/-- as a value -/
theorem e_lcUp {elt tg it0 : Expr} {cs : List Expr} {sco : Scope} {own : List (Str × Nat)} {pos : Pos} {wi : TI} {g : TG} {tt : TT} {te : L2.St → TE} (hc : X.calm = true) (nd : X.N.Nodup) (hi : PI X tg it0 wi) (bo : BlkOk X.N X.env.scope sco own)
    (hg : ∀ z G C cl fp, PG (X.blk z G sco (compEnvC sco cl C X.env) fp) tg g) (ht : ∀ z G C cl fp, PTs (X.blk z G sco (compEnvC sco cl C X.env) fp) cs tt)
    (he : ∀ pins σ z G C cl fp, Up X (X.blk z G sco (compEnvC sco cl C X.env) fp) pins σ → PE (X.blk z G sco (compEnvC sco cl C X.env) fp) elt (te σ)) (hs : ∀ x, foldedSetIterable it0 X.env x = pure x := by intro _; rfl) :
    PE X (.ListComp elt [⟨tg, it0, cs, 0⟩] sco pos) (fun σ H Q => tLc wi g tt (te σ) (own.map (·.2)) σ H Q) := by
  constructor
  intro pins s σ H Q I hq
  rw [eval_ListComp]
  apply lc_up hc nd I hi bo hg ht (he pins σ) hs hq
  rintro D C z m G Iz qz hm ⟨f0, f1, _, f3, f4, f5⟩
  refine ⟨m, hm, fun h2 sb => ⟨.ref D, G, ?_, rfl, qz⟩⟩
  exact Iz.turned (t' := z.toks) (fun b o hb e => (sb.2 b hb).trans e) f0 f1 f3 f4 f5
end
end Rs
set_option maxRecDepth 100000
set_option maxHeartbeats 2000000
namespace Rs
open PySem PySem.Spec PyProof.Rows L2
/-! ### lambdas that are kept: their objects are told of the heap -/
/-- a function's object, held as it is -/
def FnO (f : Addr) (o : Obj) : HO := .ext fun h => h.get? f = some o
theorem fnO_tbl {f : Addr} {o : Obj} (ps : Array Value) : FnO f o ≠ .tbl ps := by
  intro z
  unfold FnO at z
  cases z
theorem fnO_ok {P : Program} {w : World} {H : Hp} {h : Heap} {f : Addr} {o : Obj} (e : h.get? f = some o) : ObjOk P w H h f (FnO f o) := ⟨e, ⟨o, e⟩, fun _ _ p st => st _ p⟩
/-- the names of a lambda: parameters that the def around has no slot for, captured ones, globals -/
structure LamQ (N : List Str) (sc scope : Scope) : Prop where
  kind : scope.kind = .function
  co : scope.isCoroutine = false
  gen : scope.isGenerator = false
  cel : ∀ y ∈ scope.names, y.2 ≠ .cell
  loc : ∀ y ∈ scope.names, y.2 = .local → y.1 ∉ N
  free : ∀ n ∈ scope.names, n.2 = .free →
    sc.names.lookup n.1 = some .cell ∨ sc.names.lookup n.1 = some .free
def lamQB (N : List Str) (sc scope : Scope) : Bool := decide (scope.kind = .function) && (!scope.isCoroutine && (!scope.isGenerator && scope.names.all fun y => decide (y.2 ≠ .cell) && (decide (y.2 = .local → y.1 ∉ N) && decide (y.2 = .free → (sc.names.lookup y.1 = some .cell ∨ sc.names.lookup y.1 = some .free)))))
theorem lamQ_by {N : List Str} {sc scope : Scope} (h : lamQB N sc scope = true) : LamQ N sc scope := by
  unfold lamQB at h
  rw [Bool.and_eq_true, Bool.and_eq_true, Bool.and_eq_true, List.all_eq_true] at h
  obtain ⟨h1, h2, h3, h4⟩ := h
  have q : ∀ y ∈ scope.names, y.2 ≠ .cell ∧ (y.2 = .local → y.1 ∉ N) ∧ (y.2 = .free → (sc.names.lookup y.1 = some .cell ∨ sc.names.lookup y.1 = some .free)) := by
    intro y hy
    have z := h4 y hy
    rw [Bool.and_eq_true, Bool.and_eq_true] at z
    exact ⟨of_decide_eq_true z.1, of_decide_eq_true z.2.1, of_decide_eq_true z.2.2⟩
  exact ⟨of_decide_eq_true h1, by simpa using h2, by simpa using h3, fun y hy => (q y hy).1, fun y hy => (q y hy).2.1, fun y hy => (q y hy).2.2⟩
/-- the defaults' tuple, in the heap and in what is told of it -/
def DflAt (params : Arguments) (dV : Value) (h : Heap) : Prop := (params.defaults = [] ∧ dV = .none) ∨ ∃ (t : Addr) (its : List Value), dV = .ref t ∧ IsTup h t its.toArray ∧ its.length = params.defaults.length ∧ params.defaults ≠ []
def DflH (params : Arguments) (dV : Value) (H : Hp) : Prop := (params.defaults = [] ∧ dV = .none) ∨ ∃ (t : Addr) (vs : List V), dV = .ref t ∧ H t = some (.tup vs) ∧ vs.length = params.defaults.length ∧ params.defaults ≠ []
/-- the lambda stands at f, made in the def of X -/
def LamAt (X : Cx) (params : Arguments) (body : Expr) (scope : Scope) (f : Addr) (H : Hp) : Prop := ∃ (c' : Addr) (dV doc pm ctv : Value),
  H f = some (FnO f (PySem.W.kdv_obj "<lambda>" (X.env.qual ++ "<lambda>") params (.expr body) scope (cloFrom X.env.cells scope.names []) dV doc pm c' ctv)) ∧ H c' = some (LamX.CodeO c' (X.env.qual ++ "<lambda>")) ∧ DflH params dV H
/-- all stays that is neither a table of code nor at b -/
def StN (b : Addr) (H H' : Hp) : Prop := ∀ x o, x ≠ b → H x = some o → (∀ ps, o ≠ .tbl ps) → H' x = some o
theorem LamAt.go {X : Cx} {params : Arguments} {body : Expr} {scope : Scope} {f : Addr} {H H' : Hp} (l : LamAt X params body scope f H) (e : ∀ x o, H x = some o → (∀ ps, o ≠ .tbl ps) → (∀ xs, o ≠ .lst xs) → H' x = some o) : LamAt X params body scope f H' := by
  obtain ⟨c', dV, doc, pm, ctv, h1, h2, h3⟩ := l
  refine ⟨c', dV, doc, pm, ctv, e _ _ h1 fnO_tbl (fun xs z => by unfold FnO at z; cases z), e _ _ h2 LamX.codeO_ne (fun xs z => by unfold LamX.CodeO at z; cases z), ?_⟩
  rcases h3 with h3 | ⟨t, vs, e1, e2, e3⟩
  · exact .inl h3
  · exact .inr ⟨t, vs, e1, e _ _ e2 (fun ps z => by cases z) (fun ps z => by cases z), e3⟩
section
variable {X : Cx} {s s1 : Shared} {H HZ : Hp} {σ : L2.St} {pins : List (Addr × Obj)}
/-- the lambda's frame, entered at s1; what the def around knew at s holds of the captured names -/
theorem lam_in {A : Around} {outer : List Env} {E : XK} {scope : Scope} {f c' : Addr} {h₁ : Heap} {tk : Nat} {m : Str → Option Value} (I : Inv X pins σ H s) (L : LamQ X.N X.env.scope scope) (e0 : Env0 X.prog X.w X.K X.mg X.base A outer s1 HZ) (hd : A.handled = none)
    (un : Un (frs X.stack) [] H HZ s.heap s1.heap) (hns : h₁.Ns s1.heap.objs.size m) (kp : ∀ b o, s1.heap.get? b = some o → h₁.get? b = some o) :
    Inv (LamX.lamCx X A outer s1 HZ E scope f c') [] σ HZ { s1 with heap := h₁, toks := tk } := by
  have fr : ∀ y ∈ scope.names, y.2 = .free → ∃ c, X.env.cells.lookup y.1 = some c := by
    intro y hy e
    exact (L.free y hy e).elim (fun k => I.ok.has _ (.inl k)) (fun k => I.ok.has _ (.inr k))
  have got : ∀ {y : Str} {c : Addr}, (cloFrom X.env.cells scope.names []).lookup y = some c → X.env.cells.lookup y = some c := by
    intro y c e
    have cm := cloFrom_mem (PySem.mem_of_lookup e)
    rcases cm with hm | ⟨h1, h2⟩
    · cases hm
    · obtain ⟨c1, hc1⟩ := fr _ h1 rfl
      dsimp only at hc1
      rw [hc1] at h2
      rw [hc1, h2]
      rfl
  have has : ∀ {y : Str}, scope.names.lookup y = some .free → ∃ c, (cloFrom X.env.cells scope.names []).lookup y = some c := by
    intro y hl
    exact mem_lookup (cloFrom_has (acc := []) (PySem.mem_of_lookup hl))
  have cel : ∀ {c : Addr} {v : Option Value}, H c = none → s.heap.IsCell c v → h₁.IsCell c v := by
    rintro c v n ⟨o, ho, hd⟩
    obtain ⟨sl, q⟩ := un.any ho n (by simp)
    exact ⟨_, kp _ _ q, hd⟩
  have none_ex : ∀ b : Addr, b ∉ (LamX.lamCx X A outer s1 HZ E scope f c').ex := by
    intro b hb
    cases hb
  constructor
  case ok =>
    constructor
    case mod => exact e0.mod
    case kind => exact L.kind
    case glob => rfl
    case blt => rfl
    case above => exact Nat.le_refl _
    case inj => exact fun y z c e1 e2 => I.ok.inj y z c (got e1) (got e2)
    case has =>
      intro y hy
      rcases hy with hy | hy
      · exact absurd rfl (L.cel _ (PySem.mem_of_lookup hy))
      · exact has hy
    case cab => exact fun y c z _ => nomatch (show false = true from z)
    case hd => exact fun _ => hd
    case frames => exact Around.frames_deeper e0.frames
    case stk => exact .inr ⟨rfl, rfl⟩
    case exf => exact fun b z => absurd z (none_ex b)
    case bs => exact e0.bs
    case bsz => exact e0.bsz
    case noex => exact fun b _ _ => none_ex b
    case exfs => exact fun b z => absurd z (none_ex b)
    case funs => exact e0.funs
    case frf => exact e0.frf
  case os => rfl
  case bare => exact e0.bare
  case base => exact Un.kept kp
  case loc =>
    refine ⟨m, hns, ?_⟩
    intro i y v e1 e2 e3
    rcases e3 with k | k | k
    · exact absurd (List.mem_of_getElem? e1) (L.loc _ (PySem.mem_of_lookup k) rfl)
    · exact absurd rfl (L.cel _ (PySem.mem_of_lookup k))
    · have kk : scope.names.lookup y = some .free := k
      have src := L.free _ (PySem.mem_of_lookup kk) rfl
      dsimp only at src
      obtain ⟨_, _, hl⟩ := I.loc
      obtain ⟨u, r, q⟩ := hl i y v e1 e2 (src.elim (fun k => .inr (.inl k)) (fun k => .inr (.inr k)))
      obtain ⟨c2, h2⟩ := has kk
      refine ⟨u, r, .inr ⟨.inr kk, c2, h2, ?_⟩⟩
      have c1 := got h2
      rcases q with ⟨k', _⟩ | ⟨_, c3, e', z⟩
      · have k' : X.env.scope.names.lookup y = some .local := k'
        rcases src with k2 | k2 <;> rw [k'] at k2 <;> cases k2
      · rw [c1] at e'
        cases e'
        exact cel (I.freeC y _ c1) z
  case cell =>
    intro y c e
    obtain ⟨u, z⟩ := I.cell y c (got e)
    exact ⟨u, cel (I.freeC y c (got e)) z⟩
  case free => exact e0.hok.fresh (Nat.le_refl _)
  case freeC =>
    intro y c e
    obtain ⟨v, o, ho, _⟩ := I.cell y c (got e)
    exact un.free c o ho (I.freeC y c (got e)) (by simp)
  case pin =>
    intro q hq
    cases hq
  case hok => exact e0.hok.kept kp
  case len => exact I.len
/-- how a lambda that is called without arguments binds its parameters -/
def LamBind (params : Arguments) (body : Expr) (scope : Scope) : Prop := ∀ (z : Shared) (q : Str) (cl : List (Str × Addr)) (dV doc pm cv ctv : Value), DflAt params dV z.heap →
  ∃ bs, BindsTo z (PySem.W.kdv_fn "<lambda>" q params (.expr body) scope cl dV doc pm cv ctv) ⟨[], []⟩ bs ∧ ∀ y ∈ bs, scope.names.lookup y.1 = some .local
/-- a(), in the def of the name qk that got the lambda: entered at s -/
theorem pe_actL {CXk : CXT} {Ek : XK} {Nk : List Str} {qk : Str} {sg : Scope} {g f : Addr} {cdk : Value} {params : Arguments} {body : Expr} {scope : Scope} {k i : Nat} {a : Str} {pn : List (Addr × Obj)} {xe : Value → Shared → Prop} {W : WX} {E : XK} {tb : TE} {p1 p2 : Pos}
    (I : Inv X pins σ H s) (L : LamQ X.N X.env.scope scope) (hb : LamBind params body scope)
    (tk : Takes ((cxOf CXk X.prog X.w X.K X.mg X.base Nk qk sg g cdk X.A X.stack s H Ek).tr pn xe) W) (hW : ∀ cls d τ G, E cls d G → W cls d τ G) (hr : Room (k + 1) (X.A.deeper (envOfC qk sg s.heap.objs.size g cdk)))
    (hbody : ∀ (A : Around) (outer : List Env) (z : Shared) (G : Hp) (c' : Addr), Room k (A.deeper (LamX.lamEnv X scope z.heap.objs.size f c')) → PE (LamX.lamCx X A outer z G E scope f c') body tb)
    (hN : Nk[i]? = some a) (hv : Vis sg a) (hd : (a == ("__debug__" : Str)) = false := by decide) (hcd : (a == ("__classdict__" : Str)) = false := by decide) :
    PE ((cxOf CXk X.prog X.w X.K X.mg X.base Nk qk sg g cdk X.A X.stack s H Ek).tr pn xe) (.Call (.Name a p1) [] [] p2)
      (fun τ G Q => τ[i]? = some (some (.ref f)) ∧ LamAt X params body scope f G ∧ tb σ G Q) := by
  constructor
  rintro pz z τ G Q IZ ⟨hs, ⟨c', dV, doc, pm, ctv, hf, hc, hdf⟩, ht⟩
  apply wpAny_Call_Name_kw
  refine thn ((pe_var (pos := p1) (i := i) hN hv hd hcd).run pz z τ G (fun v G1 => v = .ref f ∧ G1 = G) IZ ⟨.ref f, hs, rfl, rfl⟩) ?_
  rintro u z1 ⟨v, G1, I1, r1, rfl, rfl⟩
  obtain rfl : u = Value.ref f := r1
  have of1 : z1.heap.get? f = some _ := (I1.hok f _ hf).1
  apply PySem.W.callWith_F0 ⟨_, _, _, _, of1⟩
  have un : Un (frs X.stack) [] H G1 s.heap z1.heap := I1.base
  obtain ⟨⟨oc, vs, t, hoc, hdc, hvc⟩, _, _⟩ := I1.hok c' _ hc
  have hdf2 : DflAt params dV z1.heap := by
    rcases hdf with hdf | ⟨tt, vs, e1, e2, e3⟩
    · exact .inl hdf
    · obtain ⟨_, its, r, x⟩ := I1.hok tt _ e2
      exact .inr ⟨tt, its, e1, x, by rw [← e3.1]; exact r.length.symm, e3.2⟩
  obtain ⟨bs, hbs, hloc⟩ := hb z1 (X.env.qual ++ "<lambda>") (cloFrom X.env.cells scope.names []) dV doc pm (.ref c') ctv hdf2
  have rc : codeAny (model X.prog X.w) (X.A.deeper (envOfC qk sg s.heap.objs.size g cdk)) (.call (.ref f) ⟨[], []⟩) (CR (L2.CX X.prog X.w) (envOfC qk sg s.heap.objs.size g cdk :: X.stack) X.prog X.w G1 z1 Q E) z1 := by
    apply PySem.W.kla_callFunE hr.depth of1 rfl L.co L.gen rfl ⟨c', oc, vs, t, rfl, hoc, hdc, hvc⟩
    refine hbs _ _ _ _ (wpAny_newFunctionEnv L.cel hloc (fun h₁ hns hsb => ⟨I1.nolimit.fresh _ hsb, ?_⟩) L.kind)
    show codeAny _ _ (.expr body (LamX.lamEnv X scope z1.heap.objs.size f c')) _ _
    have kp : ∀ b o, z1.heap.get? b = some o → h₁.get? b = some o := by
      intro b o e
      exact hsb.extBut b o (Nat.ne_of_lt (Heap.lt_size e)) (Heap.get?_push_of_some _ e)
    have J := lam_in (E := E) (f := f) (c' := c') (tk := z1.toks + bs.length) I L I1.env0 hr.hd un hns kp
    apply PySem.W.kla_codeExpr
    refine wpAny_mono ((hbody _ _ z1 G1 c' (hr.deeper _)).run [] _ _ G1 Q J ht) ?_ (fun e s' hq => hq)
    rintro v s' ⟨y, H', J', rv, q⟩
    exact ⟨y, H', J'.os, J'.bare, J'.base, J'.hok, rv, q⟩
  have hx : Passes (L2.CX X.prog X.w) ((cxOf CXk X.prog X.w X.K X.mg X.base Nk qk sg g cdk X.A X.stack s H Ek).tr pn xe) E := passes_call tk hW
  refine wpAny_call (codeAny_mono rc ?_)
  intro r s' hq
  match r, hq with
  | .error e, hq => exact hx pz τ G1 z1 e s' I1 hq
  | .ok (.ret u), hq => exact I1.after hq
end
end Rs
set_option maxRecDepth 100000
set_option maxHeartbeats 2000000
namespace Rs
open PySem PySem.Spec PyProof.Rows L2
section
variable {X : Cx} {s : Shared} {H : Hp} {σ : L2.St} {pins : List (Addr × Obj)}
theorem tabs_new {T : List (Addr × Str)} {H : Hp} {p : Addr} {o : HO} (t : LamX.Tabs T H) (h : H p = none) : LamX.Tabs T (upd H p o) := t.ext fun b x e => by
  rw [upd_ne (ne_of_none e h)]
  exact e
theorem extN_new {H : Hp} {p : Addr} {o : HO} (h : H p = none) : LamX.ExtN H (upd H p o) := fun b x e _ => by
  rw [upd_ne (ne_of_none e h)]
  exact e
/-- the lambda's object is made, its defaults laid -/
theorem lam_tail {T : List (Addr × Str)} {c P : Addr} {params : Arguments} {body : Expr} {scope : Scope} {pos : Pos} {line : Nat} {dV : Value} {E : Value → Shared → Prop} {Q : Value → Shared → Prop} (I : Inv X pins σ H s) (TB : LamX.TabB X.base X.mg c P) (hcode : X.env.code = .ref c)
    (hm : (P, X.env.qual ++ "<lambda>") ∈ T) (hu : ∀ p ∈ T, p.1 = P → p.2 = X.env.qual ++ "<lambda>") (hT : LamX.Tabs T H) (L : LamQ X.N X.env.scope scope) (hdf : DflH params dV H)
    (h : ∀ (f : Addr) (H1 : Hp) (s' : Shared), Inv X pins σ H1 s' → LamX.ExtN H H1 → LamX.Tabs T H1 → H f = none → LamAt X params body scope f H1 → Q (.ref f) s') :
    wpAny (model X.prog X.w) X.A (makeTail "<lambda>" (X.env.qual ++ "<lambda>") params (.expr body) scope X.env dV .none none pos line) Q E s := by
  obtain ⟨ps, hP, ht, ha⟩ := hT _ hm
  have fr : ∀ y ∈ scope.names, y.2 = .free → ∃ c, X.env.cells.lookup y.1 = some c := by
    intro y hy e
    exact (L.free y hy e).elim (fun k => I.ok.has _ (.inl k)) (fun k => I.ok.has _ (.inr k))
  have bP : s.heap.BuiltinsAt X.mg P := TB.bm.keeps I.bk
  have oP : s.heap.get? P = some { cls := .none, data := .fields ps } := I.hok P _ hP
  have dfl : ∀ {H1 : Hp}, LamX.ExtN H H1 → DflH params dV H1 := by
    intro H1 e
    rcases hdf with q | ⟨t, vs, e1, e2, e3⟩
    · exact .inl q
    · exact .inr ⟨t, vs, e1, e _ _ e2 (fun ps z => by cases z), e3⟩
  cases hc : codeAmong pos ps.toList with
  | none =>
    apply PySem.W.kdv_makeTail (mg := X.mg) (c := c) (P := P) (ps := ps) (closure_ok fr) I.ok.glob (I.mod.glob.keeps I.bk) hcode (TB.code.keeps I.bk) oP ht hc TB.gP bP
    rintro c' ctv doc h' tk hx hge hlt ⟨c2, oc, vs, t, e2, hoc, hd, hv⟩ htb
    cases e2
    have hsz : s.heap.objs.size ≤ h'.objs.size := Nat.le_trans hge (Nat.le_of_lt hlt)
    have nC : H c' = none := I.hok.fresh hge
    have nF : H h'.objs.size = none := I.hok.fresh hsz
    have I1 := LamX.inv_table (t' := tk) (more := #[rawInt pos.line, rawInt pos.col, .ref c']) (h' := h') I hP (fun b o hb e => hx b o hb e) htb hge ⟨oc, vs, t, hoc, hd, hv⟩
    have e1 : LamX.ExtN H (upd (upd H P (.tbl (ps ++ #[rawInt pos.line, rawInt pos.col, .ref c']))) c' (LamX.CodeO c' (X.env.qual ++ "<lambda>"))) := by
      intro b o e n
      have nbP : b ≠ P := fun z => by
        rw [z, hP] at e
        exact n ps (Option.some.inj e).symm
      rw [upd_ne (ne_of_none e nC), upd_ne nbP]
      exact e
    have n1 : upd (upd H P (.tbl (ps ++ #[rawInt pos.line, rawInt pos.col, .ref c']))) c' (LamX.CodeO c' (X.env.qual ++ "<lambda>")) h'.objs.size = none := by
      rw [upd_ne (Nat.ne_of_gt hlt), upd_ne (fun z => by rw [z, hP] at nF; cases nF)]
      exact nF
    have T1 : LamX.Tabs T (upd (upd H P (.tbl (ps ++ #[rawInt pos.line, rawInt pos.col, .ref c']))) c' (LamX.CodeO c' (X.env.qual ++ "<lambda>"))) := by
      have apn : (ps ++ #[rawInt pos.line, rawInt pos.col, .ref c']).toList = ps.toList ++ [rawInt pos.line, rawInt pos.col, .ref c'] := by simp
      intro p hp
      by_cases hb : p.1 = P
      · rw [hu p hp hb, hb]
        refine ⟨_, by rw [upd_ne (ne_of_none hP nC), upd_same], by rw [apn]; exact PySem.TriplesOk_snoc _ _ _ _ ht, ?_⟩
        intro p' cv hcv
        rw [apn] at hcv
        rcases LamX.among_app _ ht hcv with z | z
        · obtain ⟨c0, g1, g2⟩ := ha p' cv z
          exact ⟨c0, g1, e1 _ _ g2 LamX.codeO_ne⟩
        · exact ⟨c', z, upd_same⟩
      · obtain ⟨ps', a1, a2, a3⟩ := hT p hp
        refine ⟨ps', by rw [upd_ne (ne_of_none a1 nC), upd_ne hb]; exact a1, a2, ?_⟩
        intro p' cv hcv
        obtain ⟨c0, g1, g2⟩ := a3 p' cv hcv
        exact ⟨c0, g1, e1 _ _ g2 LamX.codeO_ne⟩
    have I2 := I1.laid (t' := tk) (a := h'.objs.size) (o := FnO h'.objs.size (PySem.W.kdv_obj "<lambda>" (X.env.qual ++ "<lambda>") params (.expr body) scope (cloFrom X.env.cells scope.names []) dV doc ((X.mg "__name__").getD .none) c' ctv)) (h' := h'.push _) (fun b o e => Heap.get?_push_of_some _ e) (Nat.le_refl _) (fnO_ok (Heap.get?_push_size _ rfl))
    have e2 := e1.trans (extN_new (o := FnO h'.objs.size (PySem.W.kdv_obj "<lambda>" (X.env.qual ++ "<lambda>") params (.expr body) scope (cloFrom X.env.cells scope.names []) dV doc ((X.mg "__name__").getD .none) c' ctv)) n1)
    refine h _ _ _ I2 e2 (tabs_new T1 n1) nF ⟨c', dV, doc, _, ctv, upd_same, ?_, dfl e2⟩
    rw [upd_ne (Nat.ne_of_lt hlt), upd_same]
  | some cv =>
    obtain ⟨c', rfl, hco⟩ := ha pos cv hc
    apply PySem.W.kdv_makeTailHit (mg := X.mg) (c := c) (P := P) (ps := ps) (closure_ok fr) I.ok.glob (I.mod.glob.keeps I.bk) hcode (TB.code.keeps I.bk) oP ht hc bP
    intro ctv doc h' tk hx hsz
    have nF : H h'.objs.size = none := I.hok.fresh hsz
    have I1 := I.kept (t' := tk) hx
    have I2 := I1.laid (t' := tk) (a := h'.objs.size) (o := FnO h'.objs.size (PySem.W.kdv_obj "<lambda>" (X.env.qual ++ "<lambda>") params (.expr body) scope (cloFrom X.env.cells scope.names []) dV doc ((X.mg "__name__").getD .none) c' ctv)) (h' := h'.push _) (fun b o e => Heap.get?_push_of_some _ e) (Nat.le_refl _) (fnO_ok (Heap.get?_push_size _ rfl))
    have e2 := extN_new (o := FnO h'.objs.size (PySem.W.kdv_obj "<lambda>" (X.env.qual ++ "<lambda>") params (.expr body) scope (cloFrom X.env.cells scope.names []) dV doc ((X.mg "__name__").getD .none) c' ctv)) nF
    exact h _ _ _ I2 e2 (tabs_new hT nF) nF ⟨c', dV, doc, _, ctv, upd_same, e2 _ _ hco LamX.codeO_ne, dfl e2⟩
end
/-- a lambda made: it stands at f -/
def tMk (T : List (Addr × Str)) (A : Addr → Hp → Prop) : TE := fun _ H Q => LamX.Tabs T H ∧ ∀ f H1, LamX.ExtN H H1 → LamX.Tabs T H1 → H f = none → A f H1 → Q (.ref f) H1
section
variable {X : Cx}
theorem e_lam0 {T : List (Addr × Str)} {c P : Addr} {params : Arguments} {body : Expr} {scope : Scope} {pos : Pos} (TB : LamX.TabB X.base X.mg c P) (hcode : X.env.code = .ref c)
    (hm : (P, X.env.qual ++ "<lambda>") ∈ T) (hu : ∀ p ∈ T, p.1 = P → p.2 = X.env.qual ++ "<lambda>") (L : LamQ X.N X.env.scope scope) (h0 : params.defaults = []) (hdef : defaultsOf params X.env = ([], [])) :
    PE X (.Lambda params body scope pos) (tMk T (LamAt X params body scope)) := by
  constructor
  rintro pins s σ H Q I ⟨hT, q⟩
  apply PySem.W.kla_eval hdef
  rw [makeFunction_eq]
  simp only [List.zip_nil_right, List.filterMap_nil, List.isEmpty_nil, if_true, pure_bind]
  refine lam_tail I TB hcode hm hu hT L (.inl ⟨h0, rfl⟩) ?_
  intro f H1 s' I1 e T1 nf l
  exact ⟨.ref f, H1, I1, rfl, q f H1 e T1 nf l⟩
/-- one parameter with a default -/
theorem e_lam1 {T : List (Addr × Str)} {c P : Addr} {params : Arguments} {d body : Expr} {td : TE} {scope : Scope} {pos : Pos} (TB : LamX.TabB X.base X.mg c P) (hcode : X.env.code = .ref c)
    (hm : (P, X.env.qual ++ "<lambda>") ∈ T) (hu : ∀ p ∈ T, p.1 = P → p.2 = X.env.qual ++ "<lambda>") (L : LamQ X.N X.env.scope scope) (hd : params.defaults = [d]) (hk : params.kw_defaults = []) (pd : PE X d td) :
    PE X (.Lambda params body scope pos) (fun σ H Q => td σ H fun v H1 => tMk T (LamAt X params body scope) σ H1 Q) := by
  constructor
  intro pins s σ H Q I h
  apply PySem.W.kdv_lam (by rw [hd]; rfl) hk
  rw [hd]
  apply PySem.W.kdv_all1
  refine thn (pd.run pins s σ H _ I h) ?_
  rintro u s1 ⟨v, H1, I1, r1, hT, q⟩
  apply PySem.W.kdv_all0
  rw [makeFunction_eq]
  simp only [List.zip_nil_right, List.filterMap_nil, List.isEmpty_nil, List.isEmpty_cons, if_true, pure_bind, Bool.false_eq_true, if_false]
  refine wpAny_bind (wpAny_newTextTuple ?_)
  have nt : H1 s1.heap.objs.size = none := I1.hok.fresh (Nat.le_refl _)
  have I2 := I1.laid (t' := s1.toks) (a := s1.heap.objs.size) (o := .tup [v]) (h' := s1.heap.push { cls := .type "tuple", data := .seq [u].toArray }) (fun b o e => Heap.get?_push_of_some _ e) (Nat.le_refl _) ⟨by show 1 ≤ sizeLine; decide, [u], .cons r1 .nil, IsTup.new _ _⟩
  refine lam_tail I2 TB hcode hm hu (tabs_new hT nt) L (.inr ⟨_, [v], rfl, upd_same, by rw [hd]; rfl, by rw [hd]; exact List.cons_ne_nil _ _⟩) ?_
  intro f H3 s' I3 e T3 nf l
  refine ⟨.ref f, H3, I3, rfl, q f H3 ((extN_new nt).trans e) T3 ?_ l⟩
  cases hf : H1 f with
  | none => rfl
  | some o =>
    rw [upd_ne (ne_of_none hf nt), hf] at nf
    cases nf
end
/-! ### the def that is handed a lambda -/
/-- a: the lambda's name in the def; TT: what the def makes of the lambda's reading -/
def GivesL (X : Cx) (Nk : List Str) (x : Str) (sg : Scope) (g : Addr) (cdk : Value) (bk : List Stmt) (a : Str) (TT : (XK → Hp → VK → Prop) → Hp → VK → Prop) : Prop :=
  ∀ (f : Addr) (s : Shared) (H : Hp) (Q : VK) (tl : XK → Hp → VK → Prop) (cd : Hp → Prop),
    (∀ (W : WX) (pn : List (Addr × Obj)) (xe : Value → Shared → Prop) (E : XK) (p1 p2 : Pos), Takes ((cxOf C8.CX0 X.prog X.w X.K X.mg X.base Nk x sg g cdk X.A X.stack s H C8.E0).tr pn xe) W → (∀ cls d τ G, E cls d G → W cls d τ G) →
      PE ((cxOf C8.CX0 X.prog X.w X.K X.mg X.base Nk x sg g cdk X.A X.stack s H C8.E0).tr pn xe) (.Call (.Name a p1) [] [] p2) (fun τ G Q => τ[0]? = some (some (.ref f)) ∧ cd G ∧ tl E G Q)) →
    cd H → TT tl H Q →
    ∃ t, PSs (cxOf C8.CX0 X.prog X.w X.K X.mg X.base Nk x sg g cdk X.A X.stack s H C8.E0).nox bk t ∧ t { nx := fun _ H' => Q .non H', rt := Q } (L2.start Nk [.ref f]) H
/-- a lambda's reading in the def of X -/
structure LamB (X : Cx) (k : Nat) (params : Arguments) (body : Expr) (scope : Scope) (t : XK → TE) : Prop where
  L : LamQ X.N X.env.scope scope
  b : LamBind params body scope
  run : ∀ (A : Around) (outer : List Env) (z : Shared) (G : Hp) (E : XK) (f c' : Addr), Room k (A.deeper (LamX.lamEnv X scope z.heap.objs.size f c')) → PE (LamX.lamCx X A outer z G E scope f c') body (t E)
/-- x(e), e a lambda of the def of X; Z stands in X or is X -/
theorem e_giveL {X Z : Cx} {TT : (XK → Hp → VK → Prop) → Hp → VK → Prop} {x a : Str} {g : Addr} {k : Nat} {pk : Arguments} {bk : List Stmt} {sg : Scope} {dV kV doc pm cdv ct oc : Value} {an od : Option Addr} {osl : Array (Option Value)} {Nk : List Str} {pins : List (Addr × Obj)} {σ : L2.St}
    {e : Expr} {te : TE} {p pos : Pos} (up : Up X Z pins σ) (eZ : Z.prog = X.prog ∧ Z.w = X.w ∧ Z.K = X.K ∧ Z.mg = X.mg ∧ Z.base = X.base ∧ Z.A = X.A ∧ Z.stack = X.stack) (hg : Gl Z x) (hm : X.mg x = some (.ref g)) (hk : PySem.W.keepIn X.K (.ref g) = true)
    (lk : X.K.lookup g = some ⟨oc, od, .func (PySem.W.fnOf x x pk bk sg dV kV doc pm an cdv ct), osl⟩) (hcg : PySem.W.codeIn X.K cdv x = true) (hb : L2.Binds X.K (PySem.W.fnOf x x pk bk sg dV kV doc pm an cdv ct) [a] []) (Sg : FnScope Nk [a] sg) (hNg : Nk[0]? = some a) (hva : Vis sg a)
    (hG : GivesL X Nk x sg g cdv bk a TT) (hr : Room (k + 2) X.A) (he : PE Z e te)
    (hdb : (x == ("__debug__" : Str)) = false := by decide) (hd : (a == ("__debug__" : Str)) = false := by decide) (hcd : (a == ("__classdict__" : Str)) = false := by decide)
    (hst : starEach [e] Z.env = (false, eval e Z.env) :: starEach [] Z.env := by rfl) (hpl : (backTo pos (starEach [] Z.env)).any (·.1) = false := by rfl) :
    PE Z (.Call (.Name x p) [e] [] pos) (fun τ G Q => te τ G fun v G1 => ∃ (f : Addr) (params : Arguments) (body : Expr) (scope : Scope) (t : XK → TE), [v] = [V.ref f] ∧ LamB X k params body scope t ∧ LamAt X params body scope f G1 ∧ TT (fun E G' Q' => t E σ G' Q') G1 Q) := by
  constructor
  intro pz z τ G Q IZ h
  obtain ⟨e1, e2, e3, e4, e5, e6, e7⟩ := eZ
  have hm' : Z.mg x = some (.ref g) := by rw [e4]; exact hm
  have hk' : PySem.W.keepIn Z.K (.ref g) = true := by rw [e3]; exact hk
  apply wpAny_Call_Name_kw
  refine ld_glob IZ hg hm' ?_ hdb
  refine PySem.W.callWith_K (h₀ := Z.base) IZ.ok.mod.kin hk' ?_ hst hpl
  refine thn ((pa_cons he pa_nil hst).run pos pz z τ G (fun vs G1 => ∃ (f : Addr) (params : Arguments) (body : Expr) (scope : Scope) (t : XK → TE), vs = [.ref f] ∧ LamB X k params body scope t ∧ LamAt X params body scope f G1 ∧ TT (fun E G' Q' => t E σ G' Q') G1 Q) IZ h) ?_
  rintro us z1 ⟨vs, G1, I1, r1, f, params, body, scope, t, rfl, LB, LA, tt⟩
  obtain ⟨u, rfl, ru⟩ := vals1 r1
  obtain rfl : u = Value.ref f := ru
  refine ⟨I1.kIn, ?_⟩
  have J := up _ _ _ _ I1
  have rc : codeAny (model X.prog X.w) X.A (.call (.ref g) ⟨[.ref f], []⟩) (CR C8.CX0 X.stack X.prog X.w G1 z1 Q C8.E0) z1 := by
    refine LamX.run_ofS (N := Nk) (ps := [a]) (us := [.ref f]) (vs := [.ref f]) lk hcg Sg hr J.env0 (hb z1 [.ref f] J.kIn rfl) (.cons rfl .nil) rfl fun hr' => ?_
    obtain ⟨t', ht', hq'⟩ := hG f z1 G1 Q (fun E G' Q' => t E σ G' Q') (LamAt X params body scope f) (fun W pn xe E p1 p2 tk hW => pe_actL (i := 0) J LB.L LB.b tk hW hr' (fun A outer s H c' hr2 => LB.run A outer s H E f c' hr2) hNg hva hd hcd) LA tt
    exact ⟨t', ht'.nox, hq'⟩
  rw [← e1, ← e2, ← e6, ← e7] at rc
  refine wpAny_call (codeAny_mono rc ?_)
  intro r s2 hq
  match r, hq with
  | .error e, hq => exact (show False from hq).elim
  | .ok (.ret u), hq => exact I1.after hq
end Rs
set_option maxRecDepth 100000
set_option maxHeartbeats 2000000
namespace Rs
open PySem PySem.Spec PyProof.Rows L2
/-- f(k = v): keywords alone -/
theorem e_callK0 {X : Cx} {CX : CXT} {k : Nat} {f : Addr} {fd : FuncData} {ps ks : List Str} {sp : Sp} {E : XK} {x : Str} {p pos : Pos} {kws : List Keyword} {tk : TA} {g : List Value → List Value → List Value} {gV : List V → List V → List V}
    (F : FnOk X.prog X.w X.K X.mg X.base CX k f fd ps sp) (hr : Room k X.A) (hg : Gl X x) (hm : X.mg x = some (.ref f)) (hk : PySem.W.keepIn X.K (.ref f) = true) (hb : KBinds X.K fd ps ks g gV) (hx : Passes CX X E) (hkw : PK X kws tk)
    (hall : (backToKw pos (keywordEach kws X.env)).all (·.1.isSome) = true := by rfl)
    (hks : (backToKw pos (keywordEach kws X.env)).filterMap (·.1) = ks := by rfl) (hdb : (x == ("__debug__" : Str)) = false := by decide)
    (hpl : ((backTo pos (starEach [] X.env)).any (·.1) || (backToKw pos (keywordEach kws X.env)).any (·.1.isNone)) = false := by rfl) : PE X (.Call (.Name x p) [] kws pos) (tCallK sp gV E tNil tk) := by
  constructor
  intro pins s σ H Q I h
  refine wpAny_Call_Name_kw (ld_glob I hg hm (PySem.W.callWith_KW0 (h₀ := X.base) I.ok.mod.kin hk hall (thn (hkw.run pos pins s σ H _ I h) ?_) hpl) hdb)
  rintro ws s2 ⟨zs, H2, I2, rz, q2⟩
  refine ⟨I2.kIn, ?_⟩
  rw [hks]
  exact run_fnk (us := []) (vs := []) F hr hb hx I2 .nil rz q2
/-- three keywords in the reverse order of the parameters -/
def rev3 {α : Type} : List α → List α → List α
  | [], [x, y, z] => [z, y, x]
  | _, _ => []
theorem rev3_rel {vs : List V} {us : List Value} {zs : List V} {ws : List Value} (r : Vals vs us) (rz : Vals zs ws) : Vals (rev3 vs zs) (rev3 us ws) := by
  cases r with
  | cons _ _ => exact .nil
  | nil =>
    cases rz with
    | nil => exact .nil
    | cons r1 rz =>
      cases rz with
      | nil => exact .nil
      | cons r2 rz =>
        cases rz with
        | nil => exact .nil
        | cons r3 rz =>
          cases rz with
          | nil => exact .cons r3 (.cons r2 (.cons r1 .nil))
          | cons _ _ => exact .nil
end Rs
set_option maxRecDepth 100000
set_option maxHeartbeats 2000000
namespace Rs
open PySem PySem.Spec PyProof.Rows L2
theorem ss_or {X : Cx} {b : List Stmt} {t1 t2 : TS} (h1 : PSs X b t1) (h2 : PSs X b t2) : PSs X b (fun D σ H => t1 D σ H ∨ t2 D σ H) := ⟨fun pins s σ H D I h => h.elim (h1.run pins s σ H D I) (h2.run pins s σ H D I)⟩
theorem up_self {X : Cx} : ∀ (pz : List (Addr × Obj)) (τ : L2.St) (G : Hp) (z : Shared), Inv X pz τ G z → ∃ pins, Inv X pins (id τ) G z := fun pz _ _ _ I => ⟨pz, I⟩
/-- x(e), e a lambda of the def of X; Z stands in X, or is X: sl tells X's slots by Z's -/
theorem e_giveG {X Z : Cx} {TT : (XK → Hp → VK → Prop) → Hp → VK → Prop} {x a : Str} {g : Addr} {k : Nat} {pk : Arguments} {bk : List Stmt} {sg : Scope} {dV kV doc pm cdv ct oc : Value} {an od : Option Addr} {osl : Array (Option Value)} {Nk : List Str} {sl : L2.St → L2.St}
    {e : Expr} {te : TE} {p pos : Pos} (up : ∀ (pz : List (Addr × Obj)) (τ : L2.St) (G : Hp) (z : Shared), Inv Z pz τ G z → ∃ pins, Inv X pins (sl τ) G z) (eZ : Z.prog = X.prog ∧ Z.w = X.w ∧ Z.K = X.K ∧ Z.mg = X.mg ∧ Z.base = X.base ∧ Z.A = X.A ∧ Z.stack = X.stack) (hg : Gl Z x) (hm : X.mg x = some (.ref g)) (hk : PySem.W.keepIn X.K (.ref g) = true)
    (lk : X.K.lookup g = some ⟨oc, od, .func (PySem.W.fnOf x x pk bk sg dV kV doc pm an cdv ct), osl⟩) (hcg : PySem.W.codeIn X.K cdv x = true) (hb : L2.Binds X.K (PySem.W.fnOf x x pk bk sg dV kV doc pm an cdv ct) [a] []) (Sg : FnScope Nk [a] sg) (hNg : Nk[0]? = some a) (hva : Vis sg a)
    (hG : GivesL X Nk x sg g cdv bk a TT) (hr : Room (k + 2) X.A) (he : PE Z e te)
    (hdb : (x == ("__debug__" : Str)) = false := by decide) (hd : (a == ("__debug__" : Str)) = false := by decide) (hcd : (a == ("__classdict__" : Str)) = false := by decide)
    (hst : starEach [e] Z.env = (false, eval e Z.env) :: starEach [] Z.env := by rfl) (hpl : (backTo pos (starEach [] Z.env)).any (·.1) = false := by rfl) :
    PE Z (.Call (.Name x p) [e] [] pos) (fun τ G Q => te τ G fun v G1 => ∃ (f : Addr) (params : Arguments) (body : Expr) (scope : Scope) (t : XK → TE), [v] = [V.ref f] ∧ LamB X k params body scope t ∧ LamAt X params body scope f G1 ∧ TT (fun E G' Q' => t E (sl τ) G' Q') G1 Q) := by
  constructor
  intro pz z τ G Q IZ h
  obtain ⟨e1, e2, e3, e4, e5, e6, e7⟩ := eZ
  have hm' : Z.mg x = some (.ref g) := by rw [e4]; exact hm
  have hk' : PySem.W.keepIn Z.K (.ref g) = true := by rw [e3]; exact hk
  apply wpAny_Call_Name_kw
  refine ld_glob IZ hg hm' ?_ hdb
  refine PySem.W.callWith_K (h₀ := Z.base) IZ.ok.mod.kin hk' ?_ hst hpl
  refine thn ((pa_cons he pa_nil hst).run pos pz z τ G (fun vs G1 => ∃ (f : Addr) (params : Arguments) (body : Expr) (scope : Scope) (t : XK → TE), vs = [.ref f] ∧ LamB X k params body scope t ∧ LamAt X params body scope f G1 ∧ TT (fun E G' Q' => t E (sl τ) G' Q') G1 Q) IZ h) ?_
  rintro us z1 ⟨vs, G1, I1, r1, f, params, body, scope, t, rfl, LB, LA, tt⟩
  obtain ⟨u, rfl, ru⟩ := vals1 r1
  obtain rfl : u = Value.ref f := ru
  refine ⟨I1.kIn, ?_⟩
  obtain ⟨pins, J⟩ := up _ _ _ _ I1
  have rc : codeAny (model X.prog X.w) X.A (.call (.ref g) ⟨[.ref f], []⟩) (CR C8.CX0 X.stack X.prog X.w G1 z1 Q C8.E0) z1 := by
    refine LamX.run_ofS (N := Nk) (ps := [a]) (us := [.ref f]) (vs := [.ref f]) lk hcg Sg hr J.env0 (hb z1 [.ref f] J.kIn rfl) (.cons rfl .nil) rfl fun hr' => ?_
    obtain ⟨t', ht', hq'⟩ := hG f z1 G1 Q (fun E G' Q' => t E (sl τ) G' Q') (LamAt X params body scope f) (fun W pn xe E p1 p2 tk hW => pe_actL (i := 0) J LB.L LB.b tk hW hr' (fun A outer s H c' hr2 => LB.run A outer s H E f c' hr2) hNg hva hd hcd) LA tt
    exact ⟨t', ht'.nox, hq'⟩
  rw [← e1, ← e2, ← e6, ← e7] at rc
  refine wpAny_call (codeAny_mono rc ?_)
  intro r s2 hq
  match r, hq with
  | .error e, hq => exact (show False from hq).elim
  | .ok (.ret u), hq => exact I1.after hq
end Rs
set_option maxRecDepth 100000
set_option maxHeartbeats 1000000
/-! a lambda of one parameter, called by a built-in -/
namespace Rs
open PySem PySem.Spec PyProof.Rows L2
def lamCx1 (X : Cx) (y : Str) (A : Around) (outer : List Env) (s : Shared) (H : Hp) (E : XK) (scope : Scope) (f c' : Addr) : Cx := { LamX.lamCx X A outer s H E scope f c' with N := X.N ++ [y] }
section
variable {X : Cx} {s s1 : Shared} {H HZ : Hp} {σ : L2.St} {pins : List (Addr × Obj)}
theorem lam_in1 {A : Around} {outer : List Env} {E : XK} {scope : Scope} {f c' : Addr} {h₁ : Heap} {tk : Nat} {m : Str → Option Value} {y : Str} {v : V} {u : Value} (hy : scope.names.lookup y = some .local) (hm : m y = some u) (ru : RelV v u)
    (I : Inv X pins σ H s) (L : LamQ X.N X.env.scope scope) (e0 : Env0 X.prog X.w X.K X.mg X.base A outer s1 HZ) (hd : A.handled = none)
    (un : Un (frs X.stack) [] H HZ s.heap s1.heap) (hns : h₁.Ns s1.heap.objs.size m) (kp : ∀ b o, s1.heap.get? b = some o → h₁.get? b = some o) :
    Inv (lamCx1 X y A outer s1 HZ E scope f c') [] (σ ++ [some v]) HZ { s1 with heap := h₁, toks := tk } := by
  have J := lam_in (E := E) (f := f) (c' := c') (tk := tk) I L e0 hd un hns kp
  have o := J.ok
  refine ⟨⟨o.mod, o.kind, o.glob, o.blt, o.above, o.inj, o.has, o.cab, o.hd, o.frames, o.stk, o.exf, o.bs, o.bsz, o.noex, o.exfs, o.funs, o.frf⟩, J.os, J.bare, J.base, ?_, J.cell, J.free, J.freeC, J.pin, J.hok, ?_⟩
  · obtain ⟨m', _, hl⟩ := J.loc
    refine ⟨m, hns, fun i z v' e1 e2 e3 => ?_⟩
    have e1 : (X.N ++ [y])[i]? = some z := e1
    have ln : σ.length = X.N.length := I.len
    by_cases hi : i < X.N.length
    · rw [List.getElem?_append_left hi] at e1
      rw [List.getElem?_append_left (by omega)] at e2
      obtain ⟨u', r', q⟩ := hl i z v' e1 e2 e3
      rcases q with ⟨k, _⟩ | q
      · exact absurd (List.mem_of_getElem? e1) (L.loc _ (PySem.mem_of_lookup k) rfl)
      · exact ⟨u', r', .inr q⟩
    · have hi2 : i = X.N.length := by
        have := (List.getElem?_eq_some_iff.mp e1).1
        rw [List.length_append, List.length_singleton] at this
        omega
      subst hi2
      rw [List.getElem?_append_right (Nat.le_refl _), Nat.sub_self] at e1
      rw [List.getElem?_append_right (by omega), ln, Nat.sub_self] at e2
      injection e1 with e1
      injection e2 with e2
      injection e2 with e2
      rw [← e1, ← e2]
      exact ⟨u, ru, .inl ⟨hy, hm⟩⟩
  · show (σ ++ [some v]).length = (X.N ++ [y]).length
    rw [List.length_append, List.length_append, I.len]
    rfl
def LamBind1 (y : Str) (params : Arguments) (body : Expr) (scope : Scope) : Prop := params.defaults = [] ∧ ∀ (z : Shared) (q : Str) (cl : List (Str × Addr)) (doc pm cv ctv u : Value),
  BindsTo z (PySem.W.kdv_fn "<lambda>" q params (.expr body) scope cl .none doc pm cv ctv) ⟨[u], []⟩ [(y, u)]
/-- what the lambda needs to be called with one value -/
structure Lam1 (X : Cx) (k : Nat) (y : Str) (params : Arguments) (body : Expr) (scope : Scope) (t : TE) : Prop where
  L : LamQ X.N X.env.scope scope
  b : LamBind1 y params body scope
  hy : scope.names.lookup y = some .local
  run : ∀ (A : Around) (outer : List Env) (z : Shared) (G : Hp) (f c' : Addr), Room k (A.deeper (LamX.lamEnv X scope z.heap.objs.size f c')) → PE (lamCx1 X y A outer z G (fun _ _ _ => False) scope f c') body t
theorem call_lam1 {k : Nat} {y : Str} {params : Arguments} {body : Expr} {scope : Scope} {t : TE} {f : Addr} {v : V} {u : Value} {Q : VK} (I : Inv X pins σ H s) (LB : Lam1 X k y params body scope t) (LA : LamAt X params body scope f H) (hr : Room (k + 1) X.A.in1.in1) (ru : RelV v u) (ht : t (σ ++ [some v]) H Q) :
    wpAny (model X.prog X.w) X.A.in1.in1 (call (.ref f) [u]) (EP X pins σ Q) (fun _ _ => False) s := by
  obtain ⟨c', dV, doc, pm, ctv, hf, hc, hdf⟩ := LA
  have of1 : s.heap.get? f = some _ := (I.hok f _ hf).1
  obtain ⟨⟨oc, vs, tt, hoc, hdc, hvc⟩, _, _⟩ := I.hok c' _ hc
  obtain rfl : dV = .none := by
    rcases hdf with ⟨_, e⟩ | ⟨_, _, _, _, _, e⟩
    · exact e
    · exact absurd LB.b.1 e
  have hbs := LB.b.2 s (X.env.qual ++ "<lambda>") (cloFrom X.env.cells scope.names []) doc pm (.ref c') ctv u
  have e0 : Env0 X.prog X.w X.K X.mg X.base X.A.in1.in1 X.stack s H := ⟨I.env0.frames, I.env0.mod, I.env0.bs, I.env0.bsz, I.env0.funs, I.env0.frf, I.env0.hok, I.env0.bare⟩
  have rc : codeAny (model X.prog X.w) X.A.in1.in1 (.call (.ref f) ⟨[u], []⟩) (CR (L2.CX X.prog X.w) X.stack X.prog X.w H s Q (fun _ _ _ => False)) s := by
    apply PySem.W.kla_callFunE hr.depth of1 rfl LB.L.co LB.L.gen rfl ⟨c', oc, vs, tt, rfl, hoc, hdc, hvc⟩
    refine hbs _ _ _ _ (wpAny_newFunctionEnv LB.L.cel (fun x hx => ?_) (fun h₁ hns hsb => ⟨I.nolimit.fresh _ hsb, ?_⟩) LB.L.kind)
    · obtain rfl : x = (y, u) := by simpa using hx
      exact LB.hy
    show codeAny _ _ (.expr body (LamX.lamEnv X scope s.heap.objs.size f c')) _ _
    have kp : ∀ b o, s.heap.get? b = some o → h₁.get? b = some o := by
      intro b o e
      exact hsb.extBut b o (Nat.ne_of_lt (Heap.lt_size e)) (Heap.get?_push_of_some _ e)
    have J := lam_in1 (E := fun _ _ _ => False) (f := f) (c' := c') (tk := s.toks + 1) LB.hy (u := u) (by simp) ru I LB.L e0 hr.hd (Un.kept fun _ _ e => e) hns kp
    apply PySem.W.kla_codeExpr
    refine wpAny_mono ((LB.run _ _ s H f c' (hr.deeper _)).run [] _ _ H Q J ht) ?_ (fun e s' hq => hq)
    rintro w' s' ⟨z, H', J', rv, q⟩
    exact ⟨z, H', J'.os, J'.bare, J'.base, J'.hok, rv, q⟩
  refine wpAny_call (codeAny_mono rc ?_)
  intro r s' hq
  match r, hq with
  | .error e, hq =>
    obtain ⟨_, _, _, _, _, _, _, _, _, _, _, _, hE⟩ := hq
    exact hE.elim
  | .ok (.ret w'), hq => exact I.after hq
end
end Rs
set_option maxRecDepth 100000
set_option maxHeartbeats 1000000
/-! sorted by a key that a lambda tells -/
namespace Rs
open PySem PySem.Spec PyProof.Rows L2
section
variable {prog : Program} {w : World} {A : Around} {E : Value → Shared → Prop} {s : Shared} {a kS : Addr} {vs : List Value} {kz : List Int} {keys : Array Value} {e1 : Nat} {P : PySem.Fin → Shared → Prop}
/-- the keys are known: what is left is the order, and the end -/
theorem srt_end (hk : IntsAre keys.toList kz) (hlen : kz.length = vs.length) (hZ : vs.length ≤ sizeLine)
    (fin : ∀ st : SortSt, (arrOf st).Perm (keys.zip vs.toArray) → SortedTo (arrOf st) (arrOf st).size → failedOf st = none → wpAny (model prog w) A (ksk_tail a false e1 (.ref kS) st) P E s) :
    wpAny (model prog w) A (ksk_end a false vs.toArray e1 (.ref kS) keys) P E s := by
  have big := hZ
  rw [sizeLine_eq] at big
  have many : keys.size = vs.length := by
    have h1 := hk.length
    rw [Array.length_toList] at h1
    omega
  have both : (keys.zip vs.toArray).size = vs.length := by rw [Array.size_zip, many, List.size_toArray, Nat.min_self]
  unfold ksk_end
  simp only [Bool.false_eq_true, if_false]
  by_cases h2 : vs.toArray.size < 2
  · rw [if_pos h2, if_pos h2]
    refine wpAny_bind (wpAny_pure ?_)
    rw [StateT.run_pure]
    refine wpAny_bind (wpAny_pure ?_)
    refine fin (SortSt.mk' general' (keys.zip vs.toArray) #[] 7 none) (Array.Perm.refl _) ?_ rfl
    intro i j hij hj
    have hj2 : j < (keys.zip vs.toArray).size := hj
    rw [both] at hj2
    rw [List.size_toArray] at h2
    obtain rfl : i = j := by omega
    exact Int.le_refl _
  · rw [if_neg h2, if_neg h2]
    rw [List.size_toArray] at h2
    rw [ksk_kind hk (by rw [many]; omega)]
    refine wpAny_bind (wpAny_pure ?_)
    refine wpAny_bind (wpAny_mono (wpS_sortRunsSt (κ := intKind) (a₀ := keys.zip vs.toArray) (st := SortSt.mk' oneType' (keys.zip vs.toArray) #[] 7 none)
      (Q := fun _ st' => (arrOf st').Perm (keys.zip vs.toArray) ∧ failedOf st' = none ∧ SortedTo (arrOf st') (arrOf st').size)
      intKind_oneLt (ksk_keysOfInt (ksk_intKeys hk)) ⟨Array.Perm.refl _, rfl, rfl⟩ rfl (Stable.refl _) (by rw [both]; omega)
      fun st' a1 a2 a3 a4 => ⟨a1, a2, by rw [a1.size_eq]; exact sortedTo_of_int a3⟩) ?_ fun _ _ z => z)
    rintro ⟨⟨⟩, st'⟩ s' ⟨rfl, hp, hf, hs⟩
    exact fin st' hp hs hf
end
end Rs
set_option maxRecDepth 100000
set_option maxHeartbeats 2000000
namespace Rs
open PySem PySem.Spec PyProof.Rows L2
section
variable {X : Cx} {s : Shared} {H : Hp} {σ : L2.St} {pins : List (Addr × Obj)}
/-- ints told in the order of the keys -/
theorem keyed {xs : List V} {ks its : List Value} {ps : Array Keyed} {g : V → Int} (rv : Vals xs its) (rk : Vals (xs.map fun x => V.int (g x)) ks) (hp : ps.Perm (ks.toArray.zip its.toArray)) (hs : SortedTo ps ps.size) :
    ∃ ys : List V, Vals ys (ps.map (·.2)).toList ∧ ys.Perm xs ∧ ys.Pairwise (fun x y => g x ≤ g y) := by
  have hl : ps.toList.Perm (ks.zip its) := by
    have z := Array.perm_iff_toList_perm.mp hp
    rw [ksk_zip] at z
    exact z
  have hk : ks.length = its.length := by
    have h1 := rk.length
    have h2 := rv.length
    rw [List.length_map] at h1
    omega
  have pw : ps.toList.Pairwise (fun p q => numOf p.1 ≤ numOf q.1) := by
    rw [List.pairwise_iff_getElem]
    intro i j hi hj hij
    have hi' : i < ps.size := by simpa using hi
    have hj' : j < ps.size := by simpa using hj
    have h0 := hs i j (Nat.le_of_lt hij) hj'
    simpa [K, hi', hj'] using h0
  obtain ⟨ys, h1, h2, h3⟩ := sorted_liftR (r := numOf) (f := g) rv hk (fun j x kv hx hkv => by
    obtain ⟨u, hu, r⟩ := rk.get (show (xs.map fun x => V.int (g x))[j]? = some (V.int (g x)) by rw [List.getElem?_map, hx]; rfl)
    have e : u = kv := Option.some.inj (hu.symm.trans hkv)
    obtain ⟨t, rfl⟩ := r
    rw [← e]
    rfl) hl pw
  refine ⟨ys, ?_, h2, h3⟩
  rw [Array.toList_map]
  exact h1
theorem sorted_lam {k : Nat} {y : Str} {params : Arguments} {body : Expr} {scope : Scope} {t : TE} {f a : Addr} {xs : List V} {g : V → Int} {Q : VK} (I : Inv X pins σ H s) (hs : SqL X.K H a xs) (LB : Lam1 X k y params body scope t) (LA : LamAt X params body scope f H) (hr : Room (k + 3) X.A)
    (ht : ∀ x ∈ xs, ∀ G : Hp, (∀ b o, H b = some o → G b = some o) → t (σ ++ [some x]) G fun v G' => v = .int (g x) ∧ G' = G)
    (q : ∀ (ys : List V) (p : Addr) (H3 : Hp), ys.Perm xs → ys.Pairwise (fun x y => g x ≤ g y) → H p = none → (∀ b o, H b = some o → H3 b = some o) → H3 p = some (.lst ys) → Q (.ref p) H3) :
    wpAny (model X.prog X.w) X.A (call (.builtin "sorted") [.ref a] [(Str.ofString "key", .ref f)]) (EP X pins σ Q) X.xe s := by
  obtain ⟨its, rv, hl, hz⟩ := I.list hs
  have lv : xs.length = its.length := rv.length
  have hz2 : its.length ≤ sizeLine := by omega
  have hr2 : Room (k + 1) X.A.in1.in1 := hr.in1.in1
  refine call_function_entry_kw kind_sorted plain_sorted entry_sorted (ksk_s1 _ _) ?_
  unfold Builtin.«sorted»
  refine wpAny_bind (m := checkCount "sorted" 1 1 _) (wpAny_pure ?_)
  refine wpAny_bind (collect_list hl.isList ?_ hz2)
  refine wpAny_bind (wpAny_newList ?_ hz2)
  obtain ⟨h1, eh1⟩ : ∃ h1 : Heap, h1 = (s.heap.push (seqObj "list" #[] 0)).update s.heap.objs.size (Obj.mapSeq (· ++ its.toArray)) := ⟨_, rfl⟩
  have z1 : h1.objs.size = s.heap.objs.size + 1 := by rw [eh1, Heap.size_update, size_push']
  have k1 : ∀ b o, s.heap.get? b = some o → h1.get? b = some o := fun b o e => by
    rw [eh1, Heap.get?_update_ne _ _ _ _ (Nat.ne_of_lt (Heap.lt_size e))]
    exact Heap.get?_push_of_some _ e
  show wpAny _ _ _ _ _ { s with heap := ((s.heap.push (seqObj "list" #[] 0)).update s.heap.objs.size (Obj.mapSeq (· ++ its.toArray))).push (seqObj "list" its.toArray 0) }
  rw [← eh1]
  have ho : (h1.push (seqObj "list" its.toArray 0)).get? h1.objs.size = some (seqObj "list" its.toArray 0) := Heap.get?_push_size _ rfl
  obtain ⟨A1, eA⟩ : ∃ A1 : Addr, A1 = h1.objs.size := ⟨_, rfl⟩
  rw [← eA] at ho
  show wpAny _ _ (holding [.ref h1.objs.size] _ >>= _) _ _ _
  rw [← eA]
  refine wpAny_bind (wpAny_holding (wpAny_call_entry_kw slot_list_sort ⟨_, ho, rfl⟩ entry_list_sort ?_ (ksk_l1 _ _)))
  show wpAny (model X.prog X.w) X.A.in1.in1 (Builtin.«list.sort» ⟨[.ref A1], [(Str.ofString "key", .ref f)]⟩) _ _ _
  rw [ksk_t1]
  unfold ksk_tree
  refine wpAny_bind (listItems_at ho rfl ?_)
  refine wpAny_bind (listUpdate_at ho rfl ?_ (by rw [List.size_toArray]; exact hz2) (Nat.zero_le _))
  obtain ⟨h2, eh2⟩ : ∃ h2 : Heap, h2 = (h1.push (seqObj "list" its.toArray 0)).update A1 (Obj.mapSeq fun _ => (#[] : Array Value)) := ⟨_, rfl⟩
  obtain ⟨e1, ho1⟩ : ∃ e1, h2.get? A1 = some (seqObj "list" #[] e1) := by
    rw [eh2]
    exact ⟨_, get?_update_seq ho fun _ => #[]⟩
  have nA : s.heap.objs.size ≤ A1 := by rw [eA, z1]; exact Nat.le_succ _
  have k2 : ∀ b o, s.heap.get? b = some o → h2.get? b = some o := fun b o e => by
    have hb := Heap.lt_size (k1 b o e)
    rw [eh2, Heap.get?_update_ne _ _ _ _ (by rw [eA]; exact Nat.ne_of_lt hb)]
    exact Heap.get?_push_of_some _ (k1 b o e)
  show wpAny _ _ _ _ _ { s with heap := (h1.push (seqObj "list" its.toArray 0)).update A1 (Obj.mapSeq fun _ => (#[] : Array Value)) }
  rw [← eh2]
  refine wpAny_bind (seqEpoch_at ho1 rfl ?_)
  refine wpAny_bind (wpAny_newTuple ?_ hz2)
  refine wpAny_bind (wpAny_newList ?_ (Nat.zero_le _))
  refine wpAny_holding ?_
  have J1 := I.laid (t' := s.toks) (a := A1) (o := FnO A1 (seqObj "list" #[] e1)) (h' := h2) k2 nA (fnO_ok ho1)
  have J2 := J1.laid (t' := s.toks) (a := h2.objs.size) (o := .tup xs) (h' := h2.push { cls := .type "tuple", data := .seq its.toArray }) (fun b o e => Heap.get?_push_of_some _ e) (Nat.le_refl _) ⟨hz, its, rv, IsTup.new _ _⟩
  obtain ⟨h3, eh3⟩ : ∃ h3 : Heap, h3 = h2.push { cls := .type "tuple", data := .seq its.toArray } := ⟨_, rfl⟩
  rw [← eh3] at J2
  have J3 := J2.laid (t' := s.toks) (a := h3.objs.size) (o := .lst []) (h' := h3.push { cls := .type "list", data := .seq [].toArray }) (fun b o e => Heap.get?_push_of_some _ e) (Nat.le_refl _) ⟨Nat.zero_le _, [], 0, .nil, Heap.get?_push_size _ rfl⟩
  have nT : s.heap.objs.size ≤ h2.objs.size := by
    have := Heap.lt_size ho1
    exact Nat.le_trans nA (Nat.le_of_lt this)
  have nS : h2.objs.size < h3.objs.size := by rw [eh3, size_push']; exact Nat.lt_succ_self _
  have AT : A1 < h2.objs.size := Heap.lt_size ho1
  show wpAny _ _ (ksk_rest A1 (.ref f) false its.toArray e1 (.ref (h2.push { cls := .type "tuple", data := .seq its.toArray }).objs.size)) _ _ { s with heap := (h2.push { cls := .type "tuple", data := .seq its.toArray }).push { cls := .type "list", data := .seq [].toArray } }
  rw [← eh3]
  generalize h3.push { cls := .type "list", data := .seq [].toArray } = h4 at J3
  generalize h3.objs.size = kS at J3 nS
  generalize h2.objs.size = tA at J3 nT nS AT
  have n1 : H A1 = none := I.hok.fresh nA
  have n2 : H tA = none := I.hok.fresh nT
  have n3 : H kS = none := I.hok.fresh (Nat.le_trans nT (Nat.le_of_lt nS))
  obtain ⟨HB, eB⟩ : ∃ HB : Hp, HB = upd (upd H A1 (FnO A1 (seqObj "list" #[] e1))) tA (.tup xs) := ⟨_, rfl⟩
  rw [← eB] at J3
  have kA : A1 ≠ kS := Nat.ne_of_lt (Nat.lt_trans AT nS)
  have bA : HB A1 = some (FnO A1 (seqObj "list" #[] e1)) := by
    rw [eB, upd_ne (Nat.ne_of_lt AT)]
    exact upd_same
  have bE : ∀ b o, H b = some o → HB b = some o := fun b o e => by
    rw [eB, upd_ne (ne_of_none e n2), upd_ne (ne_of_none e n1)]
    exact e
  have bS : ∀ (u : HO) b o, H b = some o → upd HB kS u b = some o := fun u b o e => by
    rw [upd_ne (ne_of_none e n3)]
    exact bE b o e
  unfold ksk_rest
  refine wpAny_bind (wpAny_rule ?_)
  rw [List.forIn_toArray]
  refine wpAny_bind (ksk_fold (fun i s' => Inv X pins σ (upd HB kS (.lst ((xs.take i).map fun x => V.int (g x)))) s') its 0 _ J3 ?_ ?_)
  · intro j u s' hu J
    rw [Nat.zero_add] at J ⊢
    have hj : j < xs.length := by
      have := (List.getElem?_eq_some_iff.mp hu).1
      omega
    obtain ⟨u', hu', ru⟩ := rv.get (List.getElem?_eq_getElem hj)
    have eu : u' = u := Option.some.inj (hu'.symm.trans hu)
    subst eu
    have hx : xs[j] ∈ xs := List.getElem_mem hj
    have LA2 : LamAt X params body scope f (upd HB kS (.lst ((xs.take j).map fun x => V.int (g x)))) := LA.go fun b o e _ _ => bS _ b o e
    refine wpAny_bind (wpAny_attempt (wpAny_mono (call_lam1 J LB LA2 hr2 ru (ht _ hx _ (bS _))) (fun kv s2 he => ?_) fun _ _ hF => hF.elim))
    obtain ⟨kv', H', J', rk, rfl, rfl⟩ := he
    obtain ⟨hz3, kz, n, rz, eo⟩ := J'.hok kS _ upd_same
    obtain ⟨t2, rfl⟩ := rk
    have lz : kz.length ≤ j := by
      have h1 := rz.length
      rw [List.length_map, List.length_take] at h1
      omega
    have tk : xs.take (j + 1) = xs.take j ++ [xs[j]] := by rw [List.take_add_one, List.getElem?_eq_getElem hj]; rfl
    refine wpAny_bind (listUpdate_at eo rfl ?_ (by rw [List.size_toArray]; omega) (by rw [Array.size_push, List.size_toArray]; omega))
    refine wpAny_pure ⟨rfl, ?_⟩
    have J4 := J'.lset (t' := s2.toks) (its' := kz ++ [Value.int (g xs[j]) t2]) (f := (·.push (Value.int (g xs[j]) t2))) (ys := ((xs.take (j + 1)).map fun x => V.int (g x))) upd_same eo (by simp) (by
      rw [tk, List.map_append]
      exact rz.append (.cons ⟨t2, rfl⟩ .nil)) (by rw [List.length_map, List.length_take]; omega)
    rw [upd_upd] at J4
    exact J4
  · intro s' J
    rw [Nat.zero_add, List.take_of_length_le (by omega)] at J
    obtain ⟨hz3, kz, n, rz, eo⟩ := J.hok kS _ upd_same
    refine wpAny_bind (listItems_at eo rfl ?_)
    have ik : IntsAre kz (xs.map g) := by
      have e : (xs.map fun x => V.int (g x)) = (xs.map g).map V.int := by rw [List.map_map]; rfl
      rw [e] at rz
      exact rz.ints
    refine srt_end (kz := xs.map g) (by simpa using ik) (by rw [List.length_map]; exact lv) hz2 fun st hp hso hf => ?_
    have lk : kz.length = its.length := by
      have h1 := rz.length
      rw [List.length_map] at h1
      omega
    obtain ⟨ys, ry, py, oy⟩ := keyed rv rz hp hso
    have J4 := J.lset (t' := s'.toks) (its' := []) (f := fun _ => (#[] : Array Value)) (ys := []) upd_same eo rfl .nil (Nat.zero_le _)
    rw [upd_upd] at J4
    have fA : upd HB kS (.lst []) A1 = some (FnO A1 (seqObj "list" #[] e1)) := by
      rw [upd_ne kA]
      exact bA
    have oA := (J4.hok A1 _ fA).1
    unfold ksk_tail
    simp only [Bool.false_eq_true, if_false]
    refine wpAny_bind (listUpdate_at eo rfl ?_ (by rw [List.size_toArray]; omega) (Nat.zero_le _))
    refine wpAny_bind (wpAny_letGo ?_)
    refine wpAny_bind (seqEpoch_at oA rfl ?_)
    have mo : ((arrOf st).map (·.2)).size ≤ sizeLine := by
      have h1 : ys.length = ((arrOf st).map (·.2)).size := by rw [ry.length, Array.length_toList]
      have h2 := py.length_eq
      omega
    refine wpAny_bind (listUpdate_at oA rfl ?_ (Nat.zero_le _) (Nat.le_succ_of_le mo))
    rw [hf]
    simp only [bne_self_eq_false, Bool.false_eq_true, if_false]
    refine wpAny_pure ⟨_, rfl, wpAny_pure ⟨_, rfl, ?_⟩⟩
    obtain ⟨c2, hc2⟩ : ∃ c2, ((s'.heap.update kS (Obj.mapSeq fun _ => (#[] : Array Value))).update A1 (Obj.mapSeq fun _ => (arrOf st).map (·.2))).get? A1 = some (seqObj "list" ((arrOf st).map (·.2)) c2) := ⟨_, get?_update_seq oA fun _ => (arrOf st).map (·.2)⟩
    have J5 := J4.write (x := A1) (e := A1) (o := .lst ys) (t' := s'.toks) (h' := (s'.heap.update kS (Obj.mapSeq fun _ => (#[] : Array Value))).update A1 (Obj.mapSeq fun _ => (arrOf st).map (·.2))) (by rw [fA]; exact trivial) (.inl rfl)
      (fun b o hb e => (Heap.get?_update_ne _ _ _ _ hb).trans e) ⟨_, hc2⟩ ⟨by rw [py.length_eq]; exact hz, ((arrOf st).map (·.2)).toList, c2, ry, by rw [Array.toArray_toList]; exact hc2⟩
    refine ⟨.ref A1, _, J5, rfl, q ys A1 _ py oy n1 (fun b o e => ?_) upd_same⟩
    rw [upd_ne (ne_of_none e n1)]
    exact bS _ b o e
end
end Rs
set_option maxRecDepth 100000
set_option maxHeartbeats 1000000
namespace Rs
open PySem PySem.Spec PyProof.Rows L2
/-- sorted(e, key=lambda y: body): te tells e, t the lambda's body, with y behind the slots -/
def tSortL (X : Cx) (T : List (Addr × Str)) (params : Arguments) (body : Expr) (scope : Scope) (te t : TE) : TE := fun σ H Q => te σ H fun v H1 => ∃ (a : Addr) (xs : List V) (g : V → Int), [v] = [V.ref a] ∧ LamX.Tabs T H1 ∧ SqL X.K H1 a xs ∧
  (∀ x ∈ xs, ∀ G : Hp, LamX.ExtN H1 G → t (σ ++ [some x]) G fun v G' => v = .int (g x) ∧ G' = G) ∧
  ∀ (ys : List V) (p : Addr) (H3 : Hp), ys.Perm xs → ys.Pairwise (fun x y => g x ≤ g y) → (∀ o, H1 p = some o → ∃ ps, o = .tbl ps) → LamX.ExtN H1 H3 → LamX.Tabs T H3 → H3 p = some (.lst ys) → Q (.ref p) H3
theorem e_sortL {X : Cx} {T : List (Addr × Str)} {c P : Addr} {k : Nat} {y x : Str} {params : Arguments} {body e : Expr} {scope : Scope} {lpos p pos kpos : Pos} {nm : Option Str} {te t : TE} (hx : x = "sorted") (hg : Gl X x) (hm0 : X.mg x = none) (hv : bootBuiltins x = some (.builtin "sorted")) (he0 : PE X e te)
    (TB : LamX.TabB X.base X.mg c P) (hcode : X.env.code = .ref c) (hm : (P, X.env.qual ++ "<lambda>") ∈ T) (hu : ∀ p ∈ T, p.1 = P → p.2 = X.env.qual ++ "<lambda>") (hdef : defaultsOf params X.env = ([], []))
    (LB : Lam1 X k y params body scope t) (hr : Room (k + 3) X.A)
    (hst : starEach [e] X.env = (false, eval e X.env) :: starEach [] X.env := by rfl) (he : backTo pos (starEach [e] X.env) = (false, eval e X.env) :: backTo pos (starEach [] X.env) := by rfl) (hpl : (backTo pos (starEach [e] X.env)).any (·.1) = false := by rfl)
    (hall : (backToKw pos (keywordEach [⟨nm, .Lambda params body scope lpos, kpos⟩] X.env)).all (·.1.isSome) = true := by rfl) (hnone : (backToKw pos (keywordEach [⟨nm, .Lambda params body scope lpos, kpos⟩] X.env)).any (·.1.isNone) = false := by rfl) (hks : (backToKw pos (keywordEach [⟨nm, .Lambda params body scope lpos, kpos⟩] X.env)).filterMap (·.1) = [Str.ofString "key"] := by rfl) :
    PE X (.Call (.Name x p) [e] [⟨nm, .Lambda params body scope lpos, kpos⟩] pos) (tSortL X T params body scope te t) := by
  subst hx
  constructor
  intro pins s σ H Q I h
  refine wpAny_Call_Name_kw (ld_blt I hg hm0 hv ?_ (by decide) (by decide))
  have pk := pk_cons (nm := nm) (kpos := kpos) (e_lam0 (body := body) (pos := lpos) TB hcode hm hu LB.L LB.b.1 hdef) pk_nil
  refine PyProof.Rows.callWith_kw (thn ((pa_cons he0 pa_nil hst).run pos pins s σ H (fun vs H1 => ∃ (a : Addr) (xs : List V) (g : V → Int), vs = [V.ref a] ∧ LamX.Tabs T H1 ∧ SqL X.K H1 a xs ∧
    (∀ x ∈ xs, ∀ G : Hp, LamX.ExtN H1 G → t (σ ++ [some x]) G fun v G' => v = .int (g x) ∧ G' = G) ∧
    ∀ (ys : List V) (p : Addr) (H3 : Hp), ys.Perm xs → ys.Pairwise (fun x y => g x ≤ g y) → (∀ o, H1 p = some o → ∃ ps, o = .tbl ps) → LamX.ExtN H1 H3 → LamX.Tabs T H3 → H3 p = some (.lst ys) → Q (.ref p) H3) I ?_) fun us s1 h1 => ?_) he hpl hall hnone
  · exact h
  · obtain ⟨vs, H1, I1, r1, a, xs, g, rfl, hT, hs, ht, q⟩ := h1
    obtain ⟨u, rfl, ru⟩ := r1.one
    obtain rfl : u = Value.ref a := ru
    refine thn (pk.run pos pins s1 σ H1 (fun zs H2 => ∃ f, zs = [.ref f] ∧ LamX.ExtN H1 H2 ∧ LamX.Tabs T H2 ∧ H1 f = none ∧ LamAt X params body scope f H2) I1 ⟨hT, fun f H2 e2 T2 nf LA => ⟨f, rfl, e2, T2, nf, LA⟩⟩) fun ws s2 h2 => ?_
    obtain ⟨zs, H2, I2, r2, f, rfl, e2, T2, nf, LA⟩ := h2
    obtain ⟨w1, rfl, rw1⟩ := r2.one
    obtain rfl : w1 = Value.ref f := rw1
    rw [hks]
    have hs2 : SqL X.K H2 a xs := by
      rcases hs with hs | hs
      · refine .inl ?_
        rcases hs with hs | ⟨o, hs⟩
        · exact .inl (e2 _ _ hs (fun ps z => (nomatch z)))
        · exact .inr ⟨o, e2 _ _ hs (fun ps z => (nomatch z))⟩
      · exact .inr hs
    refine sorted_lam (g := g) I2 hs2 LB LA hr (fun x hx G eG => ht x hx G (e2.trans (.of eG))) fun ys p H3 py oy np e3 h3 => ?_
    refine q ys p H3 py oy (fun o ho => ?_) (e2.trans (.of e3)) (T2.ext e3) h3
    cases o with
    | tbl ps => exact ⟨ps, rfl⟩
    | _ =>
      exfalso
      have z := e2 _ _ ho (fun ps z => nomatch z)
      rw [np] at z
      cases z
end Rs
namespace Rs
open PySem PySem.Spec PyProof.Rows L2
/-- // by any divisor but zero, below 2 ^ 9000 -/
theorem op_fdivF {X : Cx} : OpR X (binaryOp .FloorDiv) (rI (fun _ j => j ≠ 0 ∧ j.natAbs.log2 < 9000) fun i j => .int (i.fdiv j)) := opI fun i j _ _ _ _ _ hc q => floordiv_int hc.1 q (.inl (PyProof.noPylong_of_log2 hc.2))
end Rs
namespace Rs
open PySem PySem.Spec PyProof.Rows L2
theorem sqT_ext {K : PySem.W.Frag} {H H' : Hp} {a : Addr} {xs : List V} (e : ∀ b o, H b = some o → H' b = some o) (h : SqT K H a xs) : SqT K H' a xs := by
  rcases h with (h | ⟨o, h⟩) | h
  · exact .inl (.inl (e _ _ h))
  · exact .inl (.inr ⟨o, e _ _ h⟩)
  · exact .inr h
theorem wipe2 {σ : L2.St} {i j : Nat} {x y : Option V} : wipe (((wipe σ [i, j]).set i x).set j y) [i, j] = wipe σ [i, j] := by
  refine List.ext_getElem? fun k => ?_
  simp only [wipe, List.getElem?_set, List.length_set]
  by_cases h1 : i = k
  · subst h1
    simp
  · by_cases h2 : j = k
    · subst h2
      simp [h1]
    · simp [h1, h2]
/-- [e for x, y in zip(t, u)], two tuples of one length, e pure -/
theorem lc_zipT {K : PySem.W.Frag} {a b : Addr} {xs ys : List V} (hl : xs.length = ys.length) {te : TE} {σ : L2.St} {i j : Nat} {H1 : Hp} {D : Addr} {Qd : Hp → Prop} (f : V → V → V) (hlen : xs.length < sizeLine) (hD : H1 D = none) (ha : SqT K H1 a xs) (hb : SqT K H1 b ys)
    (he : ∀ (n : Nat) (x y : V) (H2 : Hp) (Q : VK), xs[n]? = some x → ys[n]? = some y → (∀ b o, H1 b = some o → H2 b = some o) → (∀ H3 : Hp, (∀ b o, H2 b = some o → H3 b = some o) → Q (f x y) H3) → te (((wipe σ [i, j]).set i (some x)).set j (some y)) H2 Q)
    (hd : ∀ H2 : Hp, (∀ b o, H1 b = some o → H2 b = some o) → H2 D = some (.lst (List.zipWith f xs ys)) → Qd H2) :
    ∃ W : Nat → Nat → Hp → Prop, (∃ m, W 0 m (upd H1 D (.lst []))) ∧ ∀ n m H, W n m H →
      ((RZ.ItzT K a b).stop n H ∧ Qd H) ∨ ((RZ.ItzT K a b).go n H ∧ ∃ Nx : Hp → Prop, (∀ H', Nx H' → ∃ m', m' < m ∧ W (n + 1) m' H') ∧ ∀ x H', (RZ.ItzT K a b).yld n H x H' → gTup K 2 (gCons (gName i) (gCons (gName j) gNil)) x (wipe σ [i, j]) H' fun σ2 H2 => wipe σ2 [i, j] = wipe σ [i, j] ∧ tYes σ2 H2 fun b H3 =>
        if b = true then te σ2 H3 fun v H4 => ∃ ac, H4 D = some (.lst ac) ∧ ac.length < sizeLine ∧ Nx (upd H4 D (.lst (ac ++ [v]))) else Nx H3) := by
  refine ⟨fun n m H => m = xs.length - n ∧ n ≤ xs.length ∧ (∀ b o, H1 b = some o → H b = some o) ∧ H D = some (.lst (List.zipWith f (xs.take n) (ys.take n))), ⟨_, rfl, Nat.zero_le _, fun b o e => ?_, ?_⟩, ?_⟩
  · rw [upd_ne (ne_of_none e hD)]
    exact e
  · rw [upd_same]
    rfl
  · rintro n m H ⟨rfl, hn, sm, hq⟩
    have qa := sqT_ext sm ha
    have qb := sqT_ext sm hb
    by_cases hlt : n < xs.length
    · have hx : xs[n]? = some xs[n] := List.getElem?_eq_getElem hlt
      have hlt2 : n < ys.length := by omega
      have hy : ys[n]? = some ys[n] := List.getElem?_eq_getElem hlt2
      refine .inr ⟨⟨xs, ys, _, _, qa, qb, hx, hy⟩, fun H' => (∀ b o, H1 b = some o → H' b = some o) ∧ H' D = some (.lst (List.zipWith f (xs.take (n + 1)) (ys.take (n + 1)))), fun H' p => ⟨_, by omega, rfl, hlt, p.1, p.2⟩, ?_⟩
      rintro v H' ⟨T, x, y, rfl, hT, rfl, f1, f2⟩
      have ex := f1 xs qa
      have ey := f2 ys qb
      have sT : ∀ b o, H b = some o → upd H T (.tup [x, y]) b = some o := fun b o e => by
        rw [upd_ne (ne_of_none e hT)]
        exact e
      refine ⟨T, [x, y], rfl, SqT.of upd_same, rfl, x, [y], rfl, y, [], rfl, rfl, wipe2, ?_⟩
      dsimp only [tYes]
      rw [if_pos rfl]
      refine he n x y _ _ ex ey (fun b o e => sT b o (sm b o e)) fun H3 s3 => ⟨_, s3 _ _ (sT _ _ hq), ?_, ?_, ?_⟩
      · rw [List.length_zipWith, List.length_take, List.length_take]
        omega
      · intro b o e
        rw [upd_ne (ne_of_none e hD)]
        exact s3 _ _ (sT _ _ (sm _ _ e))
      · have e1 : xs.take (n + 1) = xs.take n ++ [x] := by rw [List.take_add_one, ex]; rfl
        have e2 : ys.take (n + 1) = ys.take n ++ [y] := by rw [List.take_add_one, ey]; rfl
        rw [upd_same, e1, e2, List.zipWith_append (by rw [List.length_take, List.length_take]; omega)]
        rfl
    · have e : n = xs.length := by omega
      subst e
      rw [List.take_length, hl, List.take_length] at hq
      exact .inl ⟨⟨xs, ys, qa, qb, .inl (Nat.le_refl _)⟩, hd H sm hq⟩
end Rs
set_option maxRecDepth 100000
set_option maxHeartbeats 1000000
namespace Rs
open PySem PySem.Spec PyProof.Rows L2
/-! the same def under other names of its slots: where the names differ, nothing is stored -/
def Cx.ren (X : Cx) (N' : List Str) : Cx := { X with N := N' }
def Ren (N N' : List Str) (σ : L2.St) : Prop := N'.length = N.length ∧ ∀ i : Nat, N'[i]? ≠ N[i]? → σ[i]? = some none
theorem inv_ren {X : Cx} {N' : List Str} {pins : List (Addr × Obj)} {σ : L2.St} {H : Hp} {s : Shared} (I : Inv X pins σ H s) (r : Ren X.N N' σ) : Inv (Cx.ren X N') pins σ H s := by
  have o := I.ok
  refine ⟨⟨o.mod, o.kind, o.glob, o.blt, o.above, o.inj, o.has, o.cab, o.hd, o.frames, o.stk, o.exf, o.bs, o.bsz, o.noex, o.exfs, o.funs, o.frf⟩, I.os, I.bare, I.base, ?_, I.cell, I.free, I.freeC, I.pin, I.hok, I.len.trans r.1.symm⟩
  obtain ⟨m, h1, h2⟩ := I.loc
  refine ⟨m, h1, fun i x v e1 e2 e3 => h2 i x v ?_ e2 e3⟩
  by_cases h : N'[i]? = X.N[i]?
  · rw [← h]
    exact e1
  · rw [r.2 i h] at e2
    cases e2
theorem inv_back {X : Cx} {N' : List Str} {pins : List (Addr × Obj)} {σ : L2.St} {H : Hp} {s : Shared} (I : Inv (Cx.ren X N') pins σ H s) (r : Ren X.N N' σ) : Inv X pins σ H s := by
  have z := inv_ren (N' := X.N) I ⟨r.1.symm, fun i h => r.2 i (fun e => h e.symm)⟩
  exact z
theorem pe_ren {X : Cx} (N' : List Str) {e : Expr} {t : TE} (h : PE (Cx.ren X N') e t) : PE X e (fun σ H Q => Ren X.N N' σ ∧ t σ H Q) := by
  refine ⟨fun pins s σ H Q I hq => ?_⟩
  refine wpAny_mono (h.run pins s σ H Q (inv_ren I hq.1) hq.2) ?_ (fun _ _ z => z)
  rintro u s' ⟨v, H', J, rv, q⟩
  exact ⟨v, H', inv_back J hq.1, rv, q⟩
end Rs
set_option maxRecDepth 100000
set_option maxHeartbeats 1000000
/-! == and != of instances by an own __eq__ that answers True or False; in a list of other things -/
namespace Rs
open PySem PySem.Spec PyProof.Rows L2
/-- what an own __eq__ promises: the answer k -/
def spEqB (R : Addr → V → Hp → Bool → Prop) : Sp := fun vs H Q _ => ∃ a y k, vs = [.ref a, y] ∧ R a y H k ∧ ∀ H', Ext H H' → Q (.bl k) H'
/-- the class C, its own __eq__ at f -/
structure EqCls (K : PySem.W.Frag) (C f : Addr) : Prop where
  eq : PySem.W.findIn K (.ref C) "__eq__" = some (some (.ref f))
  fn : PySem.W.isFn K (.ref f) = true
  ne : PySem.W.findIn K (.ref C) "__ne__" = some (some (.builtin "object.__ne__"))
  mro : PySem.W.mroIn K C (.type "object") = some true
  no : PySem.W.subIn K (.ref C) (.type "list") = some false
  nt : PySem.W.subIn K (.ref C) (.type "tuple") = some false
  nn : PySem.W.subIn K (.ref C) (.type "NoneType") = some false
  ni : PySem.W.subIn K (.ref C) (.type "int") = some false
  ns : PySem.W.subIn K (.ref C) (.type "str") = some false
section
variable {X : Cx} {n : Nat} {CX : CXT} {C f : Addr} {fd : FuncData} {ps : List Str} {R : Addr → V → Hp → Bool → Prop} {E : XK} {A : Around} {pins : List (Addr × Obj)} {s : Shared} {σ : L2.St} {H : Hp} {a : Addr} {y : V} {v : Value} {k : Bool}
theorem run_eqB (F : FnOk X.prog X.w X.K X.mg X.base CX n f fd ps (spEqB R)) (hb : Binds X.K fd ps []) (hx : Passes CX X E) (sb : Sub X n A) (I : Inv X pins σ H s) (ry : RelV y v) (hr : R a y H k) :
    wpAny (model X.prog X.w) A (call (.ref f) [.ref a, v]) (fun r s' => r = .bool k ∧ ∃ H', Inv X pins σ H' s' ∧ Ext H H') X.xe s := by
  have hsp : spEqB R [.ref a, y] H (fun v H' => v = .bl k ∧ Ext H H') E := ⟨a, y, k, rfl, hr, fun H' e => ⟨rfl, e⟩⟩
  have e0 : Env0 X.prog X.w X.K X.mg X.base A X.stack s H := by
    have e := I.env0
    exact ⟨by rw [sb.fr]; exact e.frames, e.mod, e.bs, e.bsz, e.funs, e.frf, e.hok, e.bare⟩
  have hl := F.len _ _ _ _ hsp
  have r2 : Vals [V.ref a, y] [Value.ref a, v] := .cons rfl (.cons ry .nil)
  refine wpAny_call (codeAny_mono (F.run A X.stack s H ⟨[.ref a, v], []⟩ [.ref a, v] [.ref a, y] _ E sb.room e0 (by
    have := hb s [.ref a, v] I.kIn (by simpa using hl)
    simpa using this) r2 hsp) fun r s' hq => ?_)
  cases r with
  | error e => exact hx pins σ H s e s' I hq
  | ok fl =>
    cases fl with
    | ret w =>
      obtain ⟨z, H', I', rz, ez, ex⟩ := I.after hq
      subst ez
      cases rz
      exact ⟨rfl, H', I', ex⟩
    | next => exact False.elim hq
    | brk => exact False.elim hq
    | cont => exact False.elim hq
def rEqI (C : Addr) (R : Addr → V → Hp → Bool → Prop) (neg : Bool) : R2 := fun x y H Q => ∃ a b dx dy fs gs k, x = .ref a ∧ y = .ref b ∧ H a = some (.ins C dx fs) ∧ H b = some (.ins C dy gs) ∧ R a (.ref b) H k ∧ ∀ H', Ext H H' → Q (.bl (if neg then !k else k)) H'
theorem op_eqI (G : FnOk X.prog X.w X.K X.mg X.base CX n f fd ps (spEqB R)) (T : EqCls X.K C f) (hb : Binds X.K fd ps []) (hx : Passes CX X E) (hr : Room n X.A) : OpR X (compareOp .Eq) (rEqI C R false) := by
  intro pins s σ H x y v u Q I rx ry hq
  obtain ⟨a, b, dx, dy, fs, gs, k, rfl, rfl, ha, hb', hR, q⟩ := hq
  cases rx
  cases ry
  show wpAny (model X.prog X.w) X.A (richCompare .Eq (.ref a) (.ref b)) (EP X pins σ Q) X.xe s
  obtain ⟨mA, J, _⟩ := ins_get I.hok ha
  obtain ⟨mB, J', _⟩ := ins_get I.hok hb'
  obtain ⟨od, J, _⟩ := J.look
  obtain ⟨od', J', _⟩ := J'.look
  obtain ⟨m, hF⟩ := I.fr
  refine PySem.W.cmp_K (op := .Eq) (tb := .ref C) hr.units0 hF I.ok.mod.kin J J'.type (by simp [PySem.W.notFirst]) T.eq T.fn ?_
  refine wpAny_mono (run_eqB G hb hx ⟨hr, rfl⟩ I (y := .ref b) rfl hR) (fun r s' z => ?_) (fun _ _ z => z)
  obtain ⟨rfl, H', I', e⟩ := z
  exact ⟨.bl k, H', I', rfl, q H' e⟩
theorem op_neI (G : FnOk X.prog X.w X.K X.mg X.base CX n f fd ps (spEqB R)) (T : EqCls X.K C f) (hb : Binds X.K fd ps []) (hx : Passes CX X E) (hr : Room (n + 1) X.A) : OpR X (compareOp .NotEq) (rEqI C R true) := by
  intro pins s σ H x y v u Q I rx ry hq
  obtain ⟨a, b, dx, dy, fs, gs, k, rfl, rfl, ha, hb', hR, q⟩ := hq
  cases rx
  cases ry
  show wpAny (model X.prog X.w) X.A (richCompare .NotEq (.ref a) (.ref b)) (EP X pins σ Q) X.xe s
  obtain ⟨mA, J, _⟩ := ins_get I.hok ha
  obtain ⟨mB, J', _⟩ := ins_get I.hok hb'
  obtain ⟨od, J, _⟩ := J.look
  obtain ⟨od', J', _⟩ := J'.look
  have KX := I.kIn
  have sb : Sub X n X.A.in1 := ⟨hr.in1, rfl⟩
  have inner : wpAny (model X.prog X.w) X.A (call (.builtin "object.__ne__") [.ref a, .ref b]) (fun r s' => r = .bool (!k) ∧ ∃ H', Inv X pins σ H' s' ∧ Ext H H') X.xe s := by
    refine wpAny_call (codeAny_call_builtin F.cmp_object.ne.plain F.cmpEntry_ne (PySem.W.check_slot F.cmpKind_ne F.cmpSplit_ne (J.type.andThen (PySem.W.looks_mroIn KX T.mro)) (F.cmpArgs_ne _ _) ?_))
    have hu1 : X.A.in1.units < cLine := sb.room.units0
    unfold Builtin.«object.__ne__»
    refine wpAny_bind (m := slotArgs "__ne__" 1 _) (wpAny_pure ?_)
    refine wpAny_bind (wpAny_cRoomFor hu1 ?_)
    refine wpAny_bind (PySem.W.ifBound_K KX J T.eq T.fn ?_)
    refine wpAny_mono (run_eqB G hb hx sb I (y := .ref b) rfl hR) ?_ (fun _ _ z => z)
    rintro r s' ⟨rfl, H', I', e⟩
    show wpAny _ _ (truthy (.bool k) >>= fun z => ret (.bool !z)) _ _ _
    refine wpAny_bind (wpAny_truthy_bool ?_)
    exact wpAny_pure ⟨rfl, H', I', e⟩
  have one : wpAny (model X.prog X.w) X.A (tryCompare (.ref a) "__ne__" (.ref b)) (fun r s' => r = some (.bool (!k)) ∧ ∃ H', Inv X pins σ H' s' ∧ Ext H H') X.xe s := by
    unfold tryCompare
    simp only [callSpecialIfBound?, bindSpecialIfBound?]
    refine wpAny_bind (wpAny_holding (wpAny_bind (wpAny_bind (wpAny_bind (J.type.here ((PySem.W.looks_findIn KX T.ne).here ?_))))))
    refine wpAny_bind (wpAny_askSetting (wpAny_ite ?_))
    have fin : ∀ {Q : Option Value → Shared → Prop}, (∀ s', (∃ H', Inv X pins σ H' s' ∧ Ext H H') → Q (some (.bool (!k))) s') → wpAny (model X.prog X.w) X.A (call (.builtin "object.__ne__") ([.ref a] ++ [.ref b]) >>= fun v => pure (some v)) Q X.xe s := by
      intro Q hq
      refine wpAny_bind (wpAny_mono inner (fun v s' h' => ?_) fun _ _ h' => h')
      obtain ⟨rfl, h'⟩ := h'
      exact wpAny_pure (hq s' h')
    split
    · exact wpAny_bind (wpAny_of_eq (F.cmp_object.ne.bind _) (wpAny_pure (fin fun s' h' => wpAny_pure ⟨rfl, h'⟩)))
    · exact wpAny_tryCatch (wpAny_bind (wpAny_of_eq (F.cmp_object.ne.bind _) (wpAny_pure (fin fun s' h' => wpAny_pure ⟨rfl, h'⟩))))
  simp only [richCompare, cmpInfo_NotEq, oneThing_ref]
  refine wpAny_holding (wpAny_bind (wpAny_cRoomFor (Nat.lt_of_succ_lt (show X.A.units + 1 < cLine from sb.room.units0)) ?_))
  refine wpAny_bind (J.type.here (wpAny_bind (J'.type.here ?_)))
  simp only [bne_self_eq_false, Bool.false_eq_true, if_false]
  refine wpAny_bind (wpAny_pure ?_)
  simp only [Bool.false_eq_true, if_false]
  refine wpAny_bind (m := tryCompare (.ref a) _ (.ref b)) (wpAny_mono one (fun r s' z => ?_) fun _ _ e => e)
  obtain ⟨rfl, H', I', e⟩ := z
  exact wpAny_pure ⟨.bl (!k), H', I', rfl, q H' e⟩
end
end Rs
set_option maxRecDepth 100000
set_option maxHeartbeats 1000000
namespace Rs
open PySem PySem.Spec PyProof.Rows L2
open PySem.MeetsSeq PySem.MeetsSeq2 PySem.SeqRoads2
open PySem.AutoSeq1 (wpAny_loadPart')
theorem int_declines_inst (b : Int) (u : Tok) (l : Addr) (c : Value) (dd : Option Addr) (sl : Array (Option Value)) :
    Meets (Builtin.«int.__eq__» ⟨[.int b u, .ref l], []⟩) (fun _ R s => s.heap.get? l = some { cls := c, dict := dd, data := .plain, slots := sl } ∧ R (.ok (.ret .notImplemented)) s) :=
  .of_wp fun prog w A R s h => by obtain ⟨hp, g, d, tk, os⟩ := s; obtain ⟨hl, h⟩ := h; wp_walk using wpAny_loadPart' hl, wpAny_load hl; exact ⟨_, rfl, h⟩
theorem str_declines_inst (b : Str) (u : Tok) (l : Addr) (c : Value) (dd : Option Addr) (sl : Array (Option Value)) :
    Meets (Builtin.«str.__eq__» ⟨[.str b u, .ref l], []⟩) (fun _ R s => s.heap.get? l = some { cls := c, dict := dd, data := .plain, slots := sl } ∧ R (.ok (.ret .notImplemented)) s) :=
  .of_wp fun prog w A R s h => by obtain ⟨hp, g, d, tk, os⟩ := s; obtain ⟨hl, h⟩ := h; wp_walk using wpAny_loadPart' hl, wpAny_load hl; exact ⟨_, rfl, h⟩
theorem list_declines_inst {K : PySem.W.Frag} {C : Addr} (l x : Addr) (ox : Obj) (od : Option Obj) (e : PySem.W.subIn K (.ref C) (.type "list") = some false) :
    Meets (Builtin.«list.__eq__» ⟨[.ref l, .ref x], []⟩) (fun _ R s => K.In s.heap ∧ PySem.W.InstAt s.heap x ox C od ∧ R (.ok (.ret .notImplemented)) s) :=
  .of_wp fun prog w A R s h => by
    obtain ⟨X, J, h⟩ := h
    have key : ∀ {Q : Bool → Shared → Prop} {E : Value → Shared → Prop}, Q false s → wpAny (model prog w) A.in1 (isInstance (.ref x) (.type "list")) Q E s := fun {Q E} hq => by
      unfold isInstance
      exact wpAny_bind (J.type.here ((PySem.W.looks_subIn X e).here hq))
    wp_walk using key
    exact ⟨_, rfl, h⟩
section
variable {X : Cx} {n : Nat} {CX : CXT} {C f : Addr} {fd : FuncData} {ps : List Str} {R : Addr → V → Hp → Bool → Prop} {E : XK} {A : Around} {pins : List (Addr × Obj)} {s : Shared} {σ : L2.St} {H : Hp} {a dx : Addr} {fs : List (Str × V)} {y : V} {v : Value} {k : Bool}
/-- the other one declines, so the own __eq__ is asked -/
theorem rc_back {T id : String} {od : Option Obj} {ox : Obj} (G : FnOk X.prog X.w X.K X.mg X.base CX n f fd ps (spEqB R)) (EC : EqCls X.K C f) (hb : Binds X.K fd ps []) (hx : Passes CX X E) (sb : Sub X n A) (I : Inv X pins σ H s)
    (J : PySem.W.InstAt s.heap a ox C od) (ry : RelV y v) (hT : s.TypeIs v T) (slot : Slot T "__eq__" id) (hsub : PySem.W.subIn X.K (.ref C) (.type T) = some false)
    (hd : ∀ Q' : Value → Shared → Prop, Q' .notImplemented s → wpAny (model X.prog X.w) A (call (.builtin id) [v, .ref a]) Q' X.xe s) (hR : R a y H k) :
    wpAny (model X.prog X.w) A (richCompare .Eq v (.ref a)) (fun r s' => r = .bool k ∧ ∃ H', Inv X pins σ H' s' ∧ Ext H H') X.xe s := by
  have KX := I.kIn
  have two : wpAny (model X.prog X.w) A (tryCompare (.ref a) "__eq__" v) (fun r s' => r = some (.bool k) ∧ ∃ H', Inv X pins σ H' s' ∧ Ext H H') X.xe s := by
    unfold tryCompare
    refine wpAny_bind (PySem.W.ifBound_K KX J EC.eq EC.fn (wpAny_mono (run_eqB G hb hx sb I ry hR) (fun r s' z => ?_) fun _ _ e => e))
    obtain ⟨rfl, z⟩ := z
    exact wpAny_pure ⟨rfl, z⟩
  simp only [richCompare, cmpInfo_Eq, hT.oneThing_none]
  refine wpAny_holding (wpAny_bind (wpAny_cRoomFor sb.room.units0 ?_))
  refine wpAny_bind (wpAny_typeOf hT (wpAny_bind (J.type.here ?_)))
  split
  · refine wpAny_bind ((PySem.W.looks_subIn KX hsub).here ?_)
    simp only [Bool.false_eq_true, if_false, Bool.not_false, if_true]
    refine wpAny_bind (m := tryCompare v _ (.ref a)) (wpAny_tryCompare_declines hT slot (hd _ ⟨rfl, ?_⟩))
    refine wpAny_bind (m := tryCompare (.ref a) _ v) (wpAny_mono two (fun r s' z => ?_) fun _ _ e => e)
    obtain ⟨rfl, z⟩ := z
    exact wpAny_pure ⟨rfl, z⟩
  · rename_i q
    exact absurd (by simp) q
/-- what is no instance: None, a number, a text, a list -/
def Fgn (H : Hp) (z : V) : Prop := z = .non ∨ (∃ i, z = .int i) ∨ (∃ t, z = .str t) ∨ ∃ l xs, z = .ref l ∧ H l = some (.lst xs)
theorem Fgn.ext {H H' : Hp} {z : V} (h : Fgn H z) (e : Ext H H') : Fgn H' z := by
  rcases h with h | h | h | ⟨l, xs, h1, h2⟩
  · exact .inl h
  · exact .inr (.inl h)
  · exact .inr (.inr (.inl h))
  · exact .inr (.inr (.inr ⟨l, xs, h1, e _ _ h2⟩))
theorem rc_fgn (G : FnOk X.prog X.w X.K X.mg X.base CX n f fd ps (spEqB R)) (EC : EqCls X.K C f) (hb : Binds X.K fd ps []) (hx : Passes CX X E) (sb : Sub X n A) (I : Inv X pins σ H s)
    (ha : H a = some (.ins C dx fs)) (ry : RelV y v) (hf : Fgn H y) (hR : R a y H k) :
    wpAny (model X.prog X.w) A (richCompare .Eq v (.ref a)) (fun r s' => r = .bool k ∧ ∃ H', Inv X pins σ H' s' ∧ Ext H H') X.xe s := by
  obtain ⟨mA, O, _⟩ := ins_get I.hok ha
  obtain ⟨od, J, _⟩ := O.look
  have at_ : s.heap.get? a = some { cls := .ref C, dict := some dx, data := .plain, slots := #[] } := J.at_
  rcases hf with rfl | ⟨i, rfl⟩ | ⟨t, rfl⟩ | ⟨l, xs, rfl, hl⟩
  · cases ry
    refine rc_back (T := "NoneType") G EC hb hx sb I J (y := .non) rfl rfl F.slot_NoneType_eq_refl EC.nn (fun Q' hq => ?_) hR
    exact call_gives F.slot_NoneType_eq_refl rfl F.entry_NoneType_eq (F.args_NoneType_eq_2 _ _) (PySem.SeqAt.NoneType___eq___none_ref_0 a) hq
  · obtain ⟨t, rfl⟩ := ry
    refine rc_back (T := "int") G EC hb hx sb I J (y := .int i) ⟨t, rfl⟩ rfl F.slot_int_eq EC.ni (fun Q' hq => ?_) hR
    exact call_meets F.slot_int_eq rfl F.entry_int_eq (F.args_int_eq_2 _ _) (int_declines_inst i t a _ _ _) ⟨at_, hq⟩
  · obtain ⟨u, rfl⟩ := ry
    refine rc_back (T := "str") G EC hb hx sb I J (y := .str t) ⟨u, rfl⟩ rfl F.slot_str_eq EC.ns (fun Q' hq => ?_) hR
    exact call_meets F.slot_str_eq rfl F.entry_str_eq (F.args_str_eq_2 _ _) (str_declines_inst t u a _ _ _) ⟨at_, hq⟩
  · cases ry
    obtain ⟨hz, its, m, rz, eo⟩ := I.hok l _ hl
    refine rc_back (T := "list") G EC hb hx sb I J (y := .ref l) rfl ⟨_, eo, rfl⟩ F.slot_list_eq EC.no (fun Q' hq => ?_) hR
    exact call_meets F.slot_list_eq ⟨_, eo, rfl⟩ F.entry_list_eq (F.args_list_eq_2 _ _) (list_declines_inst (K := X.K) l a _ _ EC.no) ⟨I.kIn, J, hq⟩
end
end Rs
set_option maxRecDepth 100000
set_option maxHeartbeats 1000000
namespace Rs
open PySem PySem.Spec PyProof.Rows L2
open PySem.MeetsSeq PySem.MeetsSeq2 PySem.SeqRoads2
open PySem.AutoSeq1 (wpAny_loadPart')
section
variable {prog : Program} {w : World} {A : Around} {R : Result → Shared → Prop}
/-- at each turn the list is read anew: none of its items is equal -/
def NoI (prog : Program) (w : World) (A : Around) (E : Value → Shared → Prop) (l : Addr) (x : Value) (N : Nat) (I : Nat → Shared → Prop) : Prop :=
  ∀ i s, I i s → ∃ (items : Array Value) (n : Nat), s.heap.get? l = some { cls := .type "list", data := .seq items n } ∧ items.size = N ∧
    ∀ (h1 : i < items.size), wpAny (model prog w) A.in1 (eqBool items[i] x) (fun r s' => r = false ∧ I (i + 1) s') E s
theorem in_loopG (l : Addr) (x : Value) (N : Nat) (I : Nat → Shared → Prop) (hl : NoI prog w A (fun e s' => R (.error e) s') l x N I)
    (fin : ∀ s, I N s → R (.ok (.ret (.bool false))) s) (k : Nat) :
    ∀ i : Nat, N - i = k → i ≤ N → ∀ s, I i s →
      wpAny (model prog w) A.in1 (Builtin.«list.__contains__.loop» ⟨[.ref l, x, rawInt i], []⟩) (GQ.FinOf prog w A R) (fun e s' => R (.error e) s') s := by
  induction k with
  | zero =>
    intro i hk hi s h
    obtain ⟨items, n, hl1, hs1, _⟩ := hl _ _ h
    have hi' : i = N := by omega
    have hR : R (.ok (.ret (.bool false))) s := fin s (hi' ▸ h)
    obtain ⟨hp, g, d, tk, os⟩ := s
    wp_walk using wpAny_loadPart' hl1
    have hi1 : items[((i : Nat) : Int).toNat]? = none := by simp; omega
    rw [hi1]
    wp_walk
    exact hR
  | succ k ih =>
    intro i hk hi s h
    obtain ⟨items, n, hl1, hs1, turn⟩ := hl _ _ h
    have hlt : i < items.size := by omega
    have ht := turn hlt
    obtain ⟨hp, g, d, tk, os⟩ := s
    wp_walk using wpAny_loadPart' hl1
    have hi1 : items[((i : Nat) : Int).toNat]? = some items[i] := by simp [hlt]
    have hc : ((i : Int) + 1) = ((i + 1 : Nat) : Int) := by omega
    rw [hi1]
    refine wpAny_bind (wpAny_mono ht (fun r s2 h2 => ?_) fun _ _ x => x)
    obtain ⟨hr, h2⟩ := h2
    subst hr
    have hrec := ih (i + 1) (by omega) (by omega) s2 h2
    obtain ⟨hp2, g2, d2, tk2, os2⟩ := s2
    wp_walk
    rw [hc]
    exact ⟨plainId_quiet plain_contains_loop _, codeAny_builtin entry_contains_loop (by
      rw [Around.under_plainId plain_contains_loop _]
      exact hrec)⟩
theorem list_inG (l : Addr) (x : Value) (N : Nat) (I : Nat → Shared → Prop) (hl : NoI prog w A (fun e s' => R (.error e) s') l x N I)
    (fin : ∀ s, I N s → R (.ok (.ret (.bool false))) s) {s : Shared} (h : I 0 s) :
    wpAny (model prog w) A.in1 (Builtin.«list.__contains__» ⟨[.ref l, x], []⟩) (GQ.FinOf prog w A R) (fun e s' => R (.error e) s') s := by
  obtain ⟨items, n, hl1, hs1, _⟩ := hl _ _ h
  have hrec := in_loopG (A := A) (R := R) l x N I hl fin _ 0 rfl (Nat.zero_le _) s h
  obtain ⟨hp, g, d, tk, os⟩ := s
  wp_walk using wpAny_loadPart' hl1
  exact ⟨plainId_quiet plain_contains_loop _, codeAny_builtin entry_contains_loop (by
    rw [Around.under_plainId plain_contains_loop _]
    exact hrec)⟩
end
section
variable {X : Cx} {n : Nat} {CX : CXT} {C f : Addr} {fd : FuncData} {ps : List Str} {R : Addr → V → Hp → Bool → Prop} {E : XK}
/-- x in l, x an instance, l a list of other things: False -/
def rInF (C : Addr) (R : Addr → V → Hp → Bool → Prop) : R2 := fun x y H Q => ∃ a l dx fs xs, x = .ref a ∧ y = .ref l ∧ H a = some (.ins C dx fs) ∧ H l = some (.lst xs) ∧ (∀ z ∈ xs, Fgn H z ∧ ∀ H', Ext H H' → R a z H' false) ∧ ∀ H', Ext H H' → Q (.bl false) H'
theorem op_inF (G : FnOk X.prog X.w X.K X.mg X.base CX n f fd ps (spEqB R)) (EC : EqCls X.K C f) (hb : Binds X.K fd ps []) (hx : Passes CX X E) (hr : Room (n + 1) X.A) : OpR X (compareOp .In) (rInF C R) := by
  intro pins s σ H x y v u Q I rx ry hq
  obtain ⟨a, l, dx, fs, xs, rfl, rfl, ha, hl, hz, q⟩ := hq
  cases rx
  cases ry
  have sb : Sub X n X.A.in1 := ⟨hr.in1, rfl⟩
  obtain ⟨_, its0, m0, rz0, eo0⟩ := I.hok l _ hl
  have nI : NoI X.prog X.w X.A X.xe l (.ref a) xs.length (fun i s' => ∃ H', Inv X pins σ H' s' ∧ Ext H H') := by
    rintro i s' ⟨H', I', e⟩
    obtain ⟨_, its, m, rz, eo⟩ := I'.hok l _ (e _ _ hl)
    have hlen : its.toArray.size = xs.length := by
      rw [List.size_toArray]
      exact rz.length.symm
    refine ⟨its.toArray, m, eo, hlen, fun h1 => ?_⟩
    have hi : i < xs.length := by omega
    have hi2 : i < its.length := by simpa using h1
    obtain ⟨u, hu, ru⟩ := rz.get (List.getElem?_eq_getElem hi)
    have eu : its.toArray[i] = u := by
      have : its[i]? = some its[i] := List.getElem?_eq_getElem hi2
      rw [this] at hu
      simpa using Option.some.inj hu
    rw [eu]
    obtain ⟨f1, f2⟩ := hz xs[i] (List.getElem_mem hi)
    have rc := rc_fgn G EC hb hx sb I' (e _ _ ha) ru (f1.ext e) (f2 H' e)
    have ne : ¬ ((u == Value.ref a) = true) := by
      intro hab
      have hab := eq_of_beq hab
      rcases f1 with z | ⟨i, z⟩ | ⟨t, z⟩ | ⟨l2, ys, z, h2⟩
      · rw [z] at ru; cases ru; cases hab
      · rw [z] at ru; obtain ⟨t, rfl⟩ := ru; cases hab
      · rw [z] at ru; obtain ⟨t, rfl⟩ := ru; cases hab
      · rw [z] at ru
        cases ru
        injection hab with hab
        rw [hab, ha] at h2
        cases h2
    unfold eqBool
    refine wpAny_holding ?_
    refine wpAny_ite_split (fun hab => absurd hab ne) (fun _ => ?_)
    have fin : wpAny (model X.prog X.w) X.A.in1 (richCompare .Eq u (.ref a) >>= fun r => truthOfDropped r) (fun r s' => r = false ∧ ∃ H', Inv X pins σ H' s' ∧ Ext H H') X.xe s' := by
      refine wpAny_bind (wpAny_mono rc (fun r s2 z => ?_) fun _ _ e => e)
      obtain ⟨rfl, H2, I2, e2⟩ := z
      exact wpAny_truthy_bool ⟨rfl, H2, I2, e.trans e2⟩
    rcases f1 with z | ⟨i, z⟩ | ⟨t, z⟩ | ⟨l2, ys, z, h2⟩
    · rw [z] at ru; cases ru; exact fin
    · rw [z] at ru; obtain ⟨t, rfl⟩ := ru; exact fin
    · rw [z] at ru; obtain ⟨t, rfl⟩ := ru; exact fin
    · rw [z] at ru; cases ru; exact fin
  show wpAny (model X.prog X.w) X.A (do return .bool (← contains (.ref l) (.ref a))) (EP X pins σ Q) X.xe s
  refine wpAny_bind (wpAny_contains_slot ⟨_, eo0, rfl⟩ F.slot_list_contains (GQ.call_here F.slot_list_contains ⟨_, eo0, rfl⟩ F.entry_list_contains (F.args_list_contains_2 _ _) ?_))
  refine list_inG l (.ref a) xs.length _ nI (fun s' z => ?_) ⟨H, I, Ext.rfl'⟩
  obtain ⟨H', I', e⟩ := z
  exact wpAny_truthy_bool (wpAny_pure ⟨.bl false, H', I', rfl, q H' e⟩)
end
end Rs
set_option maxRecDepth 100000
set_option maxHeartbeats 1000000
namespace Rs
open PySem PySem.Spec PyProof.Rows L2
section
variable {X : Cx} {CX : CXT} {k n : Nat} {f C : Addr} {fd : FuncData} {ps ks : List Str} {sp : Sp} {E : XK} {x : Str} {p pos : Pos} {kws : List Keyword} {tk : TA} {g : List Value → List Value → List Value} {gV : List V → List V → List V}
/-- C(k = v, ..): keywords alone -/
theorem e_makeK0 (M : Mk X.K C f) (F : FnOk X.prog X.w X.K X.mg X.base CX k f fd ps sp) (hr : Room (k + 1) X.A) (hg : Gl X x) (hm : X.mg x = some (.ref C)) (hb : KBn X.K fd ps 1 ks g gV) (hx : Passes CX X E)
    (hkw : PK X kws tk) (hall : (backToKw pos (keywordEach kws X.env)).all (·.1.isSome) = true := by rfl) (hks : (backToKw pos (keywordEach kws X.env)).filterMap (·.1) = ks := by rfl)
    (hdb : (x == ("__debug__" : Str)) = false := by decide)
    (hpl : ((backTo pos (starEach [] X.env)).any (·.1) || (backToKw pos (keywordEach kws X.env)).any (·.1.isNone)) = false := by rfl) :
    PE X (.Call (.Name x p) [] kws pos) (tMakeN C 0 ks.length sp gV E tNil tk) := by
  refine ⟨fun pins s σ H Q I h => ?_⟩
  refine wpAny_Call_Name_kw (ld_glob I hg hm (PySem.W.callWith_KW0 (h₀ := X.base) I.ok.mod.kin M.kp hall (thn (hkw.run pos pins s σ H _ I h) ?_) hpl) hdb)
  rintro ws s2 ⟨zs, H2, I2, rz, l1, l2, q2⟩
  refine ⟨I2.kIn, ?_⟩
  rw [hks]
  exact run_makeN (n := 0) (us := []) (vs := []) M F hr hb hx I2 .nil rz l1 l2 q2
/-- repr(o) by an own __repr__ -/
theorem call_reprI (F : FnOk X.prog X.w X.K X.mg X.base CX n f fd ps sp) (hf : PySem.W.findIn X.K (.ref C) "__repr__" = some (some (.ref f))) (fn : PySem.W.isFn X.K (.ref f) = true) (hb : Binds X.K fd ps []) (hx : Passes CX X E) (hr : Room (n + 1) X.A) :
    CallR X (.builtin "repr") (fun xs H Q => ∃ a dx fs, xs = [.ref a] ∧ H a = some (.ins C dx fs) ∧ sp [.ref a] H (fun v H' => ∃ t, v = .str t ∧ Q v H') E) := by
  intro pins s σ H xs us Q I r h
  obtain ⟨a, dx, fs, rfl, ha, hsp⟩ := h
  obtain ⟨u, rfl, ru⟩ := vals1 r
  obtain rfl : u = Value.ref a := ru
  obtain ⟨mA, O, _⟩ := ins_get I.hok ha
  obtain ⟨od, J, _⟩ := O.look
  obtain ⟨m, hF⟩ := I.fr
  refine PySem.W.repr_K hr.in1.units0 hF I.ok.mod.kin J hf fn ?_
  have hl := F.len _ _ _ _ hsp
  refine wpAny_call (codeAny_mono (F.run X.A.in1 X.stack s H ⟨[.ref a], []⟩ [.ref a] [.ref a] _ E hr.in1 I.env0.in1 (by
    have := hb s [.ref a] I.kIn (by simpa using hl)
    simpa using this) (.cons rfl .nil) hsp) fun r s' hq => ?_)
  cases r with
  | error e => exact hx pins σ H s e s' I hq
  | ok fl =>
    cases fl with
    | ret w =>
      obtain ⟨z, H', I', rz, t, rfl, q⟩ := I.after hq
      obtain ⟨tk, rfl⟩ := rz
      exact ⟨.str t, H', I', ⟨tk, rfl⟩, q⟩
    | next => exact False.elim hq
    | brk => exact False.elim hq
    | cont => exact False.elim hq
end
/-! a property that returns a field, by a look -/
def wfP (K : PySem.W.Frag) (C : Addr) (m : Str) : Addr := match PySem.W.recIn K (He.ma K C m) "property" with
  | some (.ref g :: _) => g
  | _ => 0
def gettB (K : PySem.W.Frag) (g : Addr) (q f : Str) : Bool := match K.lookup g with
  | some ⟨_, _, .func ⟨_, qual, ⟨[], [⟨a, none, _⟩], none, [], [], none, []⟩, .stmts [.Return (some (.Attribute (.Name s _) f' _)) _], scope, gl, [], .none, _, _, _, _, cdv, _, bn⟩, _⟩ =>
    decide (qual = q) && (decide (a = "self") && (decide (s = "self") && (decide (f' = f) && (decide (gl = mainGlobals) && (decide (bn = builtinsNs) && (PySem.W.codeIn K cdv q && (decide (scope.kind = .function) && (!scope.isCoroutine && (!scope.isGenerator && (decide (scope.names.lookup ("self" : Str) = some .local) && scope.names.all fun y => decide (y.2 ≠ .free)))))))))))
  | _ => false
def propB (K : PySem.W.Frag) (C : Addr) (q m f : Str) : Bool := He.eqO (PySem.W.findIn K (.ref C) m) (some (some (.ref (He.ma K C m)))) && (He.eqO (PySem.W.specialIn K (.ref (He.ma K C m)) "__get__") (some (some (.builtin "property.__get__"))) && (decide (PySem.W.takesIn K (.ref (He.ma K C m)) = some true) &&
  ((match PySem.W.recIn K (He.ma K C m) "property" with
    | some (.ref g :: _) => decide (g = wfP K C m)
    | _ => false) && gettB K (wfP K C m) q f)))
theorem gett_ok {K : PySem.W.Frag} {C g : Addr} {q f : Str} (h : gettB K g q f = true) (c : Cls K C) (n : NoAttr K C f) : ∃ fd, (∀ (P : Program) (w : World) (mg : Str → Option Value) (base : Heap) (CX : CXT) (k : Nat), FnOk P w K mg base CX (k + 1) g fd ["self"] (getSp C f)) ∧ Binds K fd ["self"] [] := by
  unfold gettB at h
  split at h
  · rename_i oc od nm qual a ap s sp f' fp rp scope gl kV doc pm an cdv ct bn osl lk
    obtain ⟨h1, h⟩ := He.ba h
    obtain ⟨h2, h⟩ := He.ba h
    obtain ⟨h3, h⟩ := He.ba h
    obtain ⟨h4, h⟩ := He.ba h
    obtain ⟨h5, h⟩ := He.ba h
    obtain ⟨h6, h⟩ := He.ba h
    obtain ⟨h7, h⟩ := He.ba h
    obtain ⟨h8, h⟩ := He.ba h
    obtain ⟨h9, h⟩ := He.ba h
    obtain ⟨h10, h⟩ := He.ba h
    obtain ⟨h11, h12⟩ := He.ba h
    obtain rfl := of_decide_eq_true h1
    obtain rfl := of_decide_eq_true h2
    obtain rfl := of_decide_eq_true h3
    obtain rfl := of_decide_eq_true h4
    obtain rfl := of_decide_eq_true h5
    obtain rfl := of_decide_eq_true h6
    have S : FnScope ["self"] ["self"] scope := ⟨of_decide_eq_true h8, by simpa using h9, by simpa using h10, by decide, rfl, fun x hx => by
      obtain rfl := List.mem_singleton.mp hx
      exact .inl (of_decide_eq_true h11), fun y hy => of_decide_eq_true (List.all_eq_true.mp h12 y hy)⟩
    refine ⟨_, fun P w mg base CX k => fn_getter (k := k) lk h7 S rfl rfl c n, ?_⟩
    exact .all fun us hl => match us, hl with | [_], _ => rfl
  · cases h
theorem prop_ok {K : PySem.W.Frag} {C : Addr} {q m f : Str} (h : propB K C q m f = true) (c : Cls K C) (n : NoAttr K C f) :
    PropOf K C m (He.ma K C m) (wfP K C m) ∧ ∃ fd, (∀ (P : Program) (w : World) (mg : Str → Option Value) (base : Heap) (CX : CXT) (k : Nat), FnOk P w K mg base CX (k + 1) (wfP K C m) fd ["self"] (getSp C f)) ∧ Binds K fd ["self"] [] := by
  obtain ⟨h1, h⟩ := He.ba h
  obtain ⟨h2, h⟩ := He.ba h
  obtain ⟨h3, h⟩ := He.ba h
  obtain ⟨h4, h5⟩ := He.ba h
  refine ⟨⟨He.eqO_ok h1, He.eqO_ok h2, of_decide_eq_true h3, ?_⟩, gett_ok h5 c n⟩
  split at h4
  · rename_i g rest e
    exact ⟨rest, by rw [e, of_decide_eq_true h4]⟩
  · cases h4
end Rs
set_option maxRecDepth 100000
set_option maxHeartbeats 0
namespace K31
open PySem PySem.Spec PyProof.Rows L2
def hT (i : Nat) : Stmt := PySem.Challenge.pw_roundswap_k31_steps_that_are_applied.main.body.getD i (.Pass ⟨0, 0, 0, 0⟩)
def hIn (st : Stmt) (i : Nat) : Stmt := match st with
  | .ClassDef _ _ _ b _ _ _ _ _ _ _ => b.getD i (.Pass ⟨0, 0, 0, 0⟩)
  | _ => .Pass ⟨0, 0, 0, 0⟩
def oexB (K : PySem.W.Frag) (C : Addr) : Bool := (match K.lookup C with
  | some ⟨.type t, _, .cls cd, sl⟩ => decide (t = "type") && (match cd.mro, sl.toList with
    | .ref C' :: bm, [_, _, _, _, some (.builtin n), _] => decide (C' = C) && (decide (n = "ValueError.__new__") && (!cd.hasDel && (cd.hasDict && PySem.HandSPX.refsVE bm)))
    | _, _ => false)
  | _ => false) && (decide (PySem.W.findIn K (.ref C) "__setattr__" = some (some (.builtin "object.__setattr__"))) && (decide (PySem.W.subIn K (.ref C) (.type "BaseException") = some true) && (decide (PySem.W.typeIn K (.ref C) = some (.type "type")) && PySem.W.keepIn K (.ref C))))
def erB (K : PySem.W.Frag) (C : Addr) (fl : Str) : Bool := oexB K C && (xfB K C && (decide (PySem.W.findIn K (.ref C) fl = some none) && (decide (PySem.W.findIn K (.ref C) "tag" = some none) && (decide (PySem.W.findIn K (.ref C) "__init__" = some (some (.ref (He.ma K C "__init__")))) && decide (PySem.W.typeIn K (.ref (He.ma K C "__init__")) = some (.type "function"))))))
def cvalB (K : PySem.W.Frag) (C : Addr) : Bool := match PySem.W.findCls K (.ref C) (.type "type") "MOST" with
  | some (.val u) => He.relB (.int 6) u
  | _ => false
def dD (x : Str) (st : Stmt) : He.DefD := ⟨(x, none), x, x, defArgs st, defBody st, defScope st, [], []⟩
def dM (c m q : Str) (st : Stmt) : He.DefD := ⟨(c, some m), m, q, defArgs st, defBody st, defScope st, [], []⟩
def dIni : He.DefD := ⟨("Table", some "__init__"), "__init__", "Table.__init__", defArgs (hIn (hT 35) 0), defBody (hIn (hT 35) 0), defScope (hIn (hT 35) 0), [.adr (He.dflAt ("Table", some "__init__") 0)], []⟩
abbrev tA (K : PySem.W.Frag) : Addr := He.ga K "Town"
abbrev gA (K : PySem.W.Frag) : Addr := He.ga K "InvalidLetters"
abbrev uA (K : PySem.W.Frag) : Addr := He.ga K "InvalidRule"
abbrev pA (K : PySem.W.Frag) : Addr := He.ga K "InvalidWord"
abbrev lA (K : PySem.W.Frag) : Addr := He.ga K "InvalidStep"
abbrev bA (K : PySem.W.Frag) : Addr := He.ga K "Table"
def dRead : He5.DefA := { at_ := fun K => He5.wf K (tA K) "classmethod" "read", name := "read", qual := "Town.read", params := defArgs (hIn (hT 69) 2), body := defBody (hIn (hT 69) 2), scope := defScope (hIn (hT 69) 2) }
abbrev eqA (K : PySem.W.Frag) : Addr := He.ma K (tA K) "__eq__"
def exL (K : PySem.W.Frag) : List Bool := [
  He.eqO (PySem.W.findIn K (.ref (tA K)) "__eq__") (some (some (.ref (eqA K)))),
  PySem.W.isFn K (.ref (eqA K)),
  He.eqO (PySem.W.findIn K (.ref (tA K)) "__ne__") (some (some (.builtin "object.__ne__"))),
  decide (PySem.W.mroIn K (tA K) (.type "object") = some true),
  decide (PySem.W.subIn K (.ref (tA K)) (.type "list") = some false),
  decide (PySem.W.subIn K (.ref (tA K)) (.type "tuple") = some false),
  decide (PySem.W.subIn K (.ref (tA K)) (.type "NoneType") = some false),
  decide (PySem.W.subIn K (.ref (tA K)) (.type "int") = some false),
  decide (PySem.W.subIn K (.ref (tA K)) (.type "str") = some false),
  He.eqO (PySem.W.findIn K (.ref (tA K)) "__class__") (some (some (.builtin "object.__class__"))),
  He.eqO (PySem.W.specialIn K (.builtin "object.__class__") "__get__") (some (some (.builtin "getset_descriptor.__get__"))),
  decide (PySem.W.takesIn K (.builtin "object.__class__") = some true),
  decide (PySem.W.kitOne K (.ref (tA K)) (.ref (tA K)) = some true),
  decide (PySem.W.kitOne K (.type "NoneType") (.ref (tA K)) = some false),
  decide (PySem.W.kitOne K (.type "int") (.ref (tA K)) = some false),
  decide (PySem.W.kitOne K (.type "str") (.ref (tA K)) = some false),
  decide (PySem.W.kitOne K (.type "list") (.ref (tA K)) = some false),
  erB K (gA K) "at",
  erB K (uA K) "at",
  erB K (pA K) "at",
  erB K (lA K) "at",
  decide (PySem.W.exmAny K (.ref (pA K)) [.ref (He.ga K "TownError"), .ref (He.ga K "Missing"), .ref (He.ga K "NothingLeft")] = some true),
  decide (PySem.W.exmAny K (.ref (lA K)) [.ref (He.ga K "TownError"), .ref (He.ga K "Missing"), .ref (He.ga K "NothingLeft")] = some true),
  PySem.W.readsIn K (tA K) (.type "type"),
  He.eqO (PySem.W.specialIn K (.ref (tA K)) "__getattribute__") (some (some (.builtin "type.__getattribute__"))),
  cvalB K (tA K),
  Rs.propB K (tA K) "Town.letters" "letters" "alphabet",
  He.eqO (PySem.W.findIn K (.ref (tA K)) "__len__") (some (some (.ref (He.ma K (tA K) "__len__")))),
  PySem.W.isFn K (.ref (He.ma K (tA K) "__len__")),
  He.eqO (PySem.W.findIn K (.ref (bA K)) "__contains__") (some (some (.ref (He.ma K (bA K) "__contains__")))),
  PySem.W.isFn K (.ref (He.ma K (bA K) "__contains__")),
  decide ((He.cT K ("swept", none)).2 ≠ (He.cT K ("law", none)).2)]
def exK (K : PySem.W.Frag) : Bool := (exL K).all id
/-! the Hook, over a list of addresses that is written out -/
def lit : List Addr := [3, 6, 4, 21, 38, 58, 78, 97, 116, 135, 154, 173, 192, 211, 230, 249, 268, 287, 297, 304, 309, 314, 319, 326, 333, 338, 345, 352, 359, 366, 373, 378, 469, 478, 483, 488, 493, 500, 505, 510, 517, 524, 531, 538, 545, 552, 559, 566, 573, 580, 587, 594, 601, 608, 615, 622, 629, 634, 641, 648, 787, 798, 805, 810, 817, 824, 829, 836, 843, 848, 855, 862, 867, 874, 881, 886, 891, 898, 903, 908, 913, 918, 923, 928, 935, 942, 949, 954, 961, 968, 973, 980, 987, 994, 0, 20, 37, 57, 77, 96, 115, 134, 153, 172, 191, 210, 229, 248, 267, 286, 296, 303, 308, 313, 318, 325, 332, 337, 344, 351, 358, 365, 372, 377, 468, 477, 482, 487, 492, 499, 504, 509, 516, 523, 530, 537, 544, 551, 558, 565, 572, 579, 586, 593, 600, 607, 614, 621, 628, 633, 640, 647, 786, 797, 804, 809, 816, 823, 828, 835, 842, 847, 854, 861, 866, 873, 880, 885, 890, 897, 902, 907, 912, 917, 922, 927, 934, 941, 948, 953, 960, 967, 972, 979, 986, 993, 15, 16, 17, 18, 19, 35, 36, 39, 55, 56, 59, 75, 76, 94, 95, 113, 114, 132, 133, 151, 152, 170, 171, 189, 190, 208, 209, 227, 228, 246, 247, 265, 266, 284, 285, 288, 291, 292, 293, 294, 295, 298, 299, 300, 301, 302, 305, 306, 307, 310, 311, 312, 315, 316, 317, 320, 321, 322, 323, 324, 327, 328, 329, 330, 331, 334, 335, 336, 339, 340, 341, 342, 343, 346, 347, 348, 349, 350, 353, 354, 355, 356, 357, 360, 361, 362, 363, 364, 367, 368, 369, 370, 371, 374, 375, 376, 394, 402, 410, 417, 424, 431, 438, 445, 452, 459, 466, 467, 470, 471, 474, 475, 476, 479, 480, 481, 484, 485, 486, 489, 490, 491, 494, 495, 496, 497, 498, 501, 502, 503, 506, 507, 508, 511, 512, 513, 514, 515, 518, 519, 520, 521, 522, 525, 526, 527, 528, 529, 532, 533, 534, 535, 536, 539, 540, 541, 542, 543, 546, 547, 548, 549, 550, 553, 554, 555, 556, 557, 560, 561, 562, 563, 564, 567, 568, 569, 570, 571, 574, 575, 576, 577, 578, 581, 582, 583, 584, 585, 588, 589, 590, 591, 592, 595, 596, 597, 598, 599, 602, 603, 604, 605, 606, 609, 610, 611, 612, 613, 616, 617, 618, 619, 620, 623, 624, 625, 626, 627, 630, 631, 632, 635, 636, 637, 638, 639, 642, 643, 644, 645, 646, 660, 669, 678, 686, 694, 701, 708, 715, 723, 730, 737, 744, 751, 758, 763, 770, 777, 784, 785, 788, 789, 792, 793, 794, 795, 796, 799, 800, 801, 802, 803, 806, 807, 808, 811, 812, 813, 814, 815, 818, 819, 820, 821, 822, 825, 826, 827, 830, 831, 832, 833, 834, 837, 838, 839, 840, 841, 844, 845, 846, 849, 850, 851, 852, 853, 856, 857, 858, 859, 860, 863, 864, 865, 868, 869, 870, 871, 872, 875, 876, 877, 878, 879, 882, 883, 884, 887, 888, 889, 892, 893, 894, 895, 896, 899, 900, 901, 904, 905, 906, 909, 910, 911, 914, 915, 916, 919, 920, 921, 924, 925, 926, 929, 930, 931, 932, 933, 936, 937, 938, 939, 940, 943, 944, 945, 946, 947, 950, 951, 952, 955, 956, 957, 958, 959, 962, 963, 964, 965, 966, 969, 970, 971, 974, 975, 976, 977, 978, 981, 982, 983, 984, 985, 988, 989, 990, 991, 992, 34, 54, 74, 93, 112, 131, 150, 169, 188, 207, 226, 245, 264, 283, 393, 387, 401, 409, 416, 423, 430, 437, 444, 451, 458, 465, 659, 667, 668, 677, 685, 693, 700, 707, 714, 722, 716, 729, 736, 743, 750, 757, 762, 769, 776, 783, 29, 30, 31, 32, 33, 49, 50, 51, 52, 53, 69, 70, 71, 72, 73, 88, 89, 90, 91, 92, 107, 108, 109, 110, 111, 126, 127, 128, 129, 130, 145, 146, 147, 148, 149, 164, 165, 166, 167, 168, 183, 184, 185, 186, 187, 202, 203, 204, 205, 206, 221, 222, 223, 224, 225, 240, 241, 242, 243, 244, 259, 260, 261, 262, 263, 278, 279, 280, 281, 282, 388, 389, 390, 391, 392, 386, 400, 408, 411, 412, 413, 414, 415, 418, 419, 420, 421, 422, 425, 426, 427, 428, 429, 432, 433, 434, 435, 436, 439, 440, 441, 442, 443, 446, 447, 448, 449, 450, 453, 454, 455, 456, 457, 460, 461, 462, 463, 464, 656, 657, 658, 666, 670, 676, 684, 692, 695, 696, 697, 698, 699, 702, 703, 704, 705, 706, 709, 710, 711, 712, 713, 717, 718, 719, 720, 721, 724, 725, 726, 727, 728, 731, 732, 733, 734, 735, 738, 739, 740, 741, 742, 745, 746, 747, 748, 749, 752, 753, 754, 755, 756, 759, 760, 761, 764, 765, 766, 767, 768, 771, 772, 773, 774, 775, 778, 779, 780, 781, 782, 2]
def obsZ (as : List Addr) (fa : List He.Fa) (fn : List He.DefD) (tf : List He.Defn) (ex : PySem.W.Frag → Bool) (g : Addr → Option Obj) : He.AlX := (He.obsT fa fn [] (He.frT g as), ex (He.frT g as) && He.tabsB g tf (He.frT g as))
theorem saysZ {as : List Addr} {fa : List He.Fa} {fn : List He.DefD} {tf : List He.Defn} {ex : PySem.W.Frag → Bool} {w : World} {h : Heap} (e : obsZ as fa fn tf ex h.get? = He.valX fn [] w) : He.SaysX fa fn [] tf ex w h (He.frT h.get? as) := by
  have e1 := congrArg Prod.fst e
  have e2 := congrArg Prod.snd e
  change (_ && _) = true at e2
  rw [Bool.and_eq_true] at e2
  have at_ : ∀ p ∈ tf, ∃ o, h.get? (He.cT (He.frT h.get? as) p).2 = some o ∧ He.emptyTab o = true ∧ PySem.W.codeHdIn (He.frT h.get? as) (He.cT (He.frT h.get? as) p).1 (He.cT (He.frT h.get? as) p).2 = true := by
    intro p hp
    have z := List.all_eq_true.mp e2.2 p hp
    rw [Bool.and_eq_true] at z
    have z2 := z.2
    split at z2
    · rename_i o ho
      exact ⟨o, ho, z2, z.1⟩
    · cases z2
  exact { t := e1, more := e2.1, hd := fun p hp => let ⟨_, _, _, hh⟩ := at_ p hp; hh,
          out := fun p hp => let ⟨_, ho, ht, _⟩ := at_ p hp; He.frT_none ho ht,
          empty := fun p hp => let ⟨_, ho, ht, _⟩ := at_ p hp; by rw [ho, He.emptyTab_eq ht] }
def obsR (as : List Addr) (fa : List He.Fa) (fn : List He.DefD) (tf : List He.Defn) (ex : PySem.W.Frag → Bool) (g : Addr → Option Obj) : He.AlX × He5.FnW := (obsZ as fa fn tf ex g, He5.fnA (He.frT g as) (dRead.at_ (He.frT g as)))
def hookR (as : List Addr) (fa : List He.Fa) (fn : List He.DefD) (tf : List He.Defn) (ex : PySem.W.Frag → Bool) : PySem.W.Hook where
  α := He.AlX × He5.FnW
  obs s := obsR as fa fn tf ex s.heap.get?
  val w := (He.valX fn [] w, dRead.val)
  says w h := ∃ K : PySem.W.Frag, K.In h ∧ (He.SaysX fa fn [] tf ex w h K ∧ He5.fnA K (dRead.at_ K) = dRead.val)
  of _ _ e := ⟨_, He.frT_in, saysZ (congrArg Prod.fst e), congrArg Prod.snd e⟩
  keeps := fun _ _ _ ⟨K, hK, c, d⟩ k => ⟨K, hK.keeps k, { c with empty := fun p hp => k _ _ (c.empty p hp) }, d⟩
def fn : List He.DefD := [dD "is_number" (hT 17), dD "is_number_from" (hT 18), dD "is_number_tuple" (hT 19), dD "normal_rows" (hT 36), dD "swept" (hT 37), dD "with_positive" (hT 38), dD "less" (hT 39), dD "lead_at" (hT 41), dD "diagonal_of" (hT 42), dD "index_of" (hT 43), dD "signs_of" (hT 21), dD "is_word" (hT 22), dD "counts_of" (hT 25), dD "is_side" (hT 73), dD "is_rule" (hT 72), dD "difference" (hT 74), dD "check_letters" (hT 71), dD "_law_begin" (hT 79), dD "_law_draw" (hT 80), dD "_law_any" (hT 81), dD "_law_same" (hT 82), dD "_law_field" (hT 83), dD "_law_why" (hT 84), dD "_law_letters" (hT 85), dD "_law_signs" (hT 86), dD "_law_some_word" (hT 88), dD "_law_side" (hT 95), dD "_law_some_rules" (hT 96), dD "_law_town" (hT 98), dD "opposite" (hT 24), dD "_law_back" (hT 87), dD "check_words" (hT 23), dD "word_behind" (hT 27), dD "behind_put" (hT 28), dD "is_sign" (hT 29), dD "behind_drop" (hT 30), dD "behind_rule" (hT 31), dD "behind_swap" (hT 32), dD "reduced" (hT 40), dD "applied" (hT 46), dD "_law_number_of" (hT 89), dD "_law_less" (hT 90), dD "_law_by" (hT 91), dD "_law_first_at" (hT 92), dD "_law_normal" (hT 93), dD "_law_named" (hT 94), dD "_law_grid" (hT 97), dD "_law_behind" (hT 99), dD "_law_some_step" (hT 100), dD "_law_small" (hT 101), dD "_law_bent_step" (hT 102), dD "law" (hT 103), dIni, dM "Town" "rules" "Town.rules" (hIn (hT 69) 6), dM "Town" "__len__" "Town.__len__" (hIn (hT 69) 16), dM "Town" "comes_round" "Town.comes_round" (hIn (hT 69) 7), dM "Table" "place" "Table.place" (hIn (hT 35) 4), dM "Table" "__contains__" "Table.__contains__" (hIn (hT 35) 5), dM "InvalidLetters" "__init__" "InvalidLetters.__init__" (hIn (hT 4) 0), dM "InvalidRule" "__init__" "InvalidRule.__init__" (hIn (hT 8) 0), dM "InvalidWord" "__init__" "InvalidWord.__init__" (hIn (hT 5) 0), dM "InvalidStep" "__init__" "InvalidStep.__init__" (hIn (hT 9) 0), dM "Town" "__init__" "Town.__init__" (hIn (hT 69) 1), dM "Town" "with_rules" "Town.with_rules" (hIn (hT 69) 11)]
def gl : List Str := (["is_number", "is_number_from", "is_number_tuple", "normal_rows", "swept", "with_positive", "less", "lead_at", "diagonal_of", "index_of", "signs_of", "is_word", "counts_of", "is_side", "is_rule", "difference", "check_letters", "_law_begin", "_law_draw", "_law_any"] : List Str) ++ (["_law_same", "_law_field", "_law_why", "_law_letters", "_law_signs", "_law_some_word", "_law_side", "_law_some_rules", "_law_town", "opposite", "_law_back", "check_words", "word_behind", "behind_put", "is_sign", "behind_drop", "behind_rule", "behind_swap", "reduced", "applied"] : List Str) ++ (["_law_number_of", "_law_less", "_law_by", "_law_first_at", "_law_normal", "_law_named", "_law_grid", "_law_behind", "_law_some_step", "_law_small", "_law_bent_step", "law", "Table", "Town", "InvalidLetters", "InvalidRule", "InvalidWord", "InvalidStep", "TownError", "Missing"] : List Str) ++ (["NothingLeft"] : List Str)
def fr : List Str := ["sum", "len", "int", "isinstance", "list", "tuple", "all", "range", "bool", "str", "enumerate", "zip", "abs", "sorted", "repr", "max", "any"]
def fo : List He.Fa := [.int "WIDEST" 3, .cls "Table", .noat "Table" "wide", .noat "Table" "normal", .noat "Table" "many", .mkr "Table", .int "LONGEST_SIDE" 16, .cls "Town", .noat "Town" "alphabet", .noat "Town" "pairs", .noat "Town" "ground", .meth "Town" "rules", .meth "Town" "with_rules", .mkr "Town", .meth "Town" "comes_round", .meth "Table" "place"]
def fa : List He.Fa := gl.map He.Fa.glo ++ (fr.map He.Fa.free ++ fo)
abbrev R : PySem.W.OpenRow := PySem.W.OpenLaw.row PySem.Challenge.rw_roundswap_k31_steps_that_are_applied
abbrev tf : List He.Defn := [("swept", none), ("law", none)]
abbrev hk : PySem.W.Hook := hookR lit fa fn tf exK
def ob8 (s : PySem.W.SharedT) : He.AlX × He5.FnW := obsR lit fa fn tf exK (HandSHeadRun.getT s)
theorem ob_eq (s : PySem.W.SharedT) : ob8 s = hk.obs s.abs := congrArg (obsR lit fa fn tf exK) (funext (HandSHeadRun.getT_eq s))
def loose : List Str := (["_wall", "TownError", "Missing", "InvalidLetters", "InvalidWord", "InvalidCounts", "InvalidTable", "InvalidRule", "InvalidStep", "InvalidNumber", "ParseError", "TooLong", "Endless", "UnknownRule", "NothingLeft", "LONGEST", "DEEPEST", "WIDEST", "Table", "tuples_below"] : List Str) ++ (["LONGEST_SIDE", "Town", "read_word", "read_phrase", "read_factor", "read_atom", "read_group", "read_pair", "read_exponent", "begins_atom", "mark_at", "behind_spaces", "check_mark", "check_no_digit", "power", "cut", "format_word", "runs_of", "format_run", "parts_of_text"] : List Str) ++ (["read_rules", "read_rule", "read_side", "is_number", "is_number_from", "is_number_tuple", "normal_rows", "swept", "with_positive", "less", "lead_at", "diagonal_of", "index_of", "signs_of", "is_word", "counts_of", "is_side", "is_rule", "difference", "check_letters"] : List Str) ++ (["_law_begin", "_law_draw", "_law_any", "_law_same", "_law_field", "_law_why", "_law_letters", "_law_signs", "_law_some_word", "_law_side", "_law_some_rules", "_law_town", "opposite", "_law_back", "check_words", "word_behind", "behind_put", "is_sign", "behind_drop", "behind_rule"] : List Str) ++ (["behind_swap", "reduced", "applied", "_law_number_of", "_law_less", "_law_by", "_law_first_at", "_law_normal", "_law_named", "_law_grid", "_law_behind", "_law_some_step", "_law_small", "_law_bent_step"] : List Str)
end K31
set_option maxRecDepth 100000
set_option maxHeartbeats 0
namespace K31
open PySem PySem.Spec PyProof.Rows L2
theorem run (w : World) : HandSHeadRun.RunEq R (PySem.W.view R.prog [103]) hk ob8 20000 loose w := by
  intro os
  kernel_rfl
end K31
/-! rows of numbers, their sums, and that normal rows are told by the sums -/
namespace Hm
abbrev Row := Nat → Int
def ls (r o : Row) (t : Int) : Row := fun j => r j - t * o j
/-- the sums of multiples of the rows R -/
inductive Sm (R : Row → Prop) : Row → Prop
  | zero : Sm R (fun _ => 0)
  | step {v r : Row} (t : Int) : Sm R v → R r → Sm R (ls v r t)
theorem ls_zero (v : Row) (t : Int) : ls v (fun _ => 0) t = v := by
  funext j
  simp [ls]
theorem ls_ls (v u r : Row) (t s : Int) : ls v (ls u r s) t = ls (ls v u t) r (-(t * s)) := by
  funext j
  show v j - t * (u j - s * r j) = v j - t * u j - -(t * s) * r j
  rw [Int.mul_sub, ← Int.mul_assoc, Int.neg_mul]
  omega
theorem Sm.ls {R : Row → Prop} {v u : Row} (hv : Sm R v) (hu : Sm R u) : ∀ t, Sm R (ls v u t) := by
  induction hu with
  | zero => intro t; rw [ls_zero]; exact hv
  | step s hu hr ih =>
    intro t
    rw [ls_ls]
    exact .step _ (ih t) hr
theorem Sm.of {R : Row → Prop} {r : Row} (h : R r) : Sm R r := by
  have z := Sm.step (R := R) (-1) .zero h
  have e : Hm.ls (fun _ => 0) r (-1) = r := by
    funext j
    simp [Hm.ls]
  rw [e] at z
  exact z
theorem Sm.mono {R R' : Row → Prop} (h : ∀ r, R r → Sm R' r) {v : Row} (hv : Sm R v) : Sm R' v := by
  induction hv with
  | zero => exact .zero
  | step t _ hr ih => exact ih.ls (h _ hr) t
/-- the normal rows p of the sums L: one for a column, or none -/
structure Piv (L : Row → Prop) (w : Nat) (p : Nat → Option Row) : Prop where
  yes : ∀ a, a < w → ∀ r, p a = some r → L r ∧ (∀ j, j < a → r j = 0) ∧ 0 < r a ∧ ∀ v, L v → (∀ j, j < a → v j = 0) → r a ∣ v a
  no : ∀ a, a < w → p a = none → ∀ v, L v → (∀ j, j < a → v j = 0) → v a = 0
  red : ∀ a b, a < b → b < w → ∀ r s, p a = some r → p b = some s → 0 ≤ r b ∧ r b < s b
  out : ∀ a r, p a = some r → ∀ j, w ≤ j → r j = 0
theorem dvd_eq {a b : Int} (ha : 0 < a) (hb : 0 < b) (h1 : a ∣ b) (h2 : b ∣ a) : a = b := Int.le_antisymm (Int.le_of_dvd hb h1) (Int.le_of_dvd ha h2)
theorem dvd_small {l x y : Int} (hx : 0 ≤ x) (hx2 : x < l) (hy : 0 ≤ y) (hy2 : y < l) (h : l ∣ x - y) : x - y = 0 := by
  by_cases h0 : x - y = 0
  · exact h0
  · have h1 := Int.natAbs_dvd_natAbs.mpr h
    have h2 := Nat.le_of_dvd (by omega) h1
    omega
section
variable {L : Row → Prop} {w : Nat} {p q : Nat → Option Row}
theorem Piv.lead (P : Piv L w p) (Q : Piv L w q) {a : Nat} (ha : a < w) : (p a = none ∧ q a = none) ∨ ∃ r s, p a = some r ∧ q a = some s ∧ r a = s a := by
  cases hp : p a with
  | none =>
    cases hq : q a with
    | none => exact .inl ⟨rfl, rfl⟩
    | some s =>
      obtain ⟨s1, s2, s3, _⟩ := Q.yes a ha s hq
      have := P.no a ha hp s s1 s2
      omega
  | some r =>
    obtain ⟨r1, r2, r3, r4⟩ := P.yes a ha r hp
    cases hq : q a with
    | none =>
      have := Q.no a ha hq r r1 r2
      omega
    | some s =>
      obtain ⟨s1, s2, s3, s4⟩ := Q.yes a ha s hq
      exact .inr ⟨r, s, rfl, rfl, dvd_eq r3 s3 (r4 s s1 s2) (s4 r r1 r2)⟩
theorem Piv.unique (hL : ∀ v u, L v → L u → L (ls v u 1)) (P : Piv L w p) (Q : Piv L w q) {a : Nat} (ha : a < w) : p a = q a := by
  rcases P.lead Q ha with ⟨h1, h2⟩ | ⟨r, s, h1, h2, e⟩
  · rw [h1, h2]
  · obtain ⟨r1, r2, r3, r4⟩ := P.yes a ha r h1
    obtain ⟨s1, s2, s3, s4⟩ := Q.yes a ha s h2
    have hd := hL r s r1 s1
    have dj : ∀ j, ls r s 1 j = r j - s j := fun j => by simp [ls]
    have key : ∀ n, n ≤ w → ∀ j, j < n → r j - s j = 0 := by
      intro n
      induction n with
      | zero => intro _ j hj; omega
      | succ n ih =>
        intro hn j hj
        have ihn := ih (by omega)
        by_cases hjn : j < n
        · exact ihn j hjn
        · obtain rfl : j = n := by omega
          by_cases h3 : j < a
          · rw [r2 j h3, s2 j h3]
            rfl
          · by_cases h4 : j = a
            · subst h4
              omega
            · have hz : ∀ i, i < j → ls r s 1 i = 0 := fun i hi => by
                rw [dj]
                exact ihn i hi
              rcases P.lead Q (a := j) (by omega) with ⟨g1, _⟩ | ⟨r', s', g1, g2, g3⟩
              · have := P.no j (by omega) g1 _ hd hz
                rw [dj] at this
                exact this
              · have d1 := (P.yes j (by omega) r' g1).2.2.2 _ hd hz
                rw [dj] at d1
                obtain ⟨x1, x2⟩ := P.red a j (by omega) (by omega) r r' h1 g1
                obtain ⟨y1, y2⟩ := Q.red a j (by omega) (by omega) s s' h2 g2
                exact dvd_small x1 x2 y1 (by omega) d1
    rw [h1, h2]
    congr 1
    funext j
    by_cases hj : j < w
    · have := key w (Nat.le_refl _) j hj
      omega
    · rw [P.out a r h1 j (by omega), Q.out a s h2 j (by omega)]
end
/-! rows in steps: the row of a column begins there -/
structure Ech (w : Nat) (E : Nat → Option Row) : Prop where
  z : ∀ a r, E a = some r → (∀ j, j < a → r j = 0) ∧ r a ≠ 0
def Of (w : Nat) (E : Nat → Option Row) (r : Row) : Prop := ∃ a, a < w ∧ E a = some r
def at0 (E : Nat → Option Row) (a : Nat) : Row := (E a).getD (fun _ => 0)
/-- the sum of so many rows with multiples -/
def cmb (E : Nat → Option Row) (k : Nat → Int) : Nat → Row
  | 0 => fun _ => 0
  | n + 1 => fun j => cmb E k n j + k n * at0 E n j
theorem cmb_sub (E : Nat → Option Row) (k l : Nat → Int) (t : Int) : ∀ n j, cmb E (fun i => k i - t * l i) n j = cmb E k n j - t * cmb E l n j
  | 0, j => by simp [cmb]
  | n + 1, j => by
    show cmb E (fun i => k i - t * l i) n j + (k n - t * l n) * at0 E n j = cmb E k n j + k n * at0 E n j - t * (cmb E l n j + l n * at0 E n j)
    rw [cmb_sub E k l t n j, Int.sub_mul, Int.mul_add, Int.mul_assoc]
    omega
theorem cmb_one (E : Nat → Option Row) (a : Nat) (j : Nat) : ∀ n, cmb E (fun i => if i = a then 1 else 0) n j = if a < n then at0 E a j else 0
  | 0 => by simp [cmb]
  | n + 1 => by
    show cmb E (fun i => if i = a then 1 else 0) n j + (if n = a then 1 else 0) * at0 E n j = _
    rw [cmb_one E a j n]
    by_cases h1 : n = a
    · subst h1
      simp
    · by_cases h2 : a < n
      · rw [if_pos h2, if_neg h1, if_pos (by omega)]
        omega
      · rw [if_neg h2, if_neg h1, if_neg (by omega)]
        omega
theorem cmb_of {w : Nat} {E : Nat → Option Row} {v : Row} (h : Sm (Of w E) v) : ∃ k, ∀ j, v j = cmb E k w j := by
  induction h with
  | zero =>
    refine ⟨fun _ => 0, fun j => ?_⟩
    have : ∀ n, cmb E (fun _ => 0) n j = 0 := by
      intro n
      induction n with
      | zero => rfl
      | succ n ih =>
        show cmb E (fun _ => 0) n j + 0 * at0 E n j = 0
        rw [ih]
        omega
    rw [this]
  | @step v r t _ hr ih =>
    obtain ⟨k, hk⟩ := ih
    obtain ⟨a, ha, hE⟩ := hr
    refine ⟨fun i => k i - t * (if i = a then 1 else 0), fun j => ?_⟩
    rw [cmb_sub, cmb_one, if_pos ha, ← hk]
    show v j - t * r j = v j - t * at0 E a j
    rw [at0, hE]
    rfl
/-- what stands in a column that is the first one without a zero -/
theorem cmb_col {w : Nat} {E : Nat → Option Row} (h : Ech w E) (k : Nat → Int) (a : Nat) (hz : ∀ j, j < a → cmb E k w j = 0) (ha : a ≤ w) : (∀ i, i < a → ∀ j, k i * at0 E i j = 0) := by
  have up : ∀ (i j : Nat), j < i → at0 E i j = 0 := by
    intro i j hij
    unfold at0
    cases hE : E i with
    | none => rfl
    | some r => exact (h.z i r hE).1 j hij
  have tail : ∀ n m j, j < m → m ≤ n → cmb E k n j = cmb E k m j := by
    intro n
    induction n with
    | zero => intro m j h1 h2; omega
    | succ n ih =>
      intro m j h1 h2
      by_cases e : m = n + 1
      · rw [e]
      · show cmb E k n j + k n * at0 E n j = _
        rw [ih m j h1 (by omega), up n j (by omega)]
        omega
  intro i
  induction i using Nat.strongRecOn with
  | _ i ih =>
    intro hi
    have low : ∀ m, m ≤ i → ∀ j, cmb E k m j = 0 := by
      intro m
      induction m with
      | zero => intro _ j; rfl
      | succ m im =>
        intro hm j
        show cmb E k m j + k m * at0 E m j = 0
        rw [im (by omega) j, ih m (by omega) (by omega) j]
        rfl
    have e1 := hz i hi
    rw [tail w (i + 1) i (by omega) (by omega)] at e1
    have e2 : cmb E k i i + k i * at0 E i i = 0 := e1
    rw [low i (Nat.le_refl _) i] at e2
    intro j
    cases hE : E i with
    | none =>
      unfold at0
      rw [hE]
      simp
    | some r =>
      have hr := (h.z i r hE).2
      have e3 : at0 E i i = r i := by
        unfold at0
        rw [hE]
        rfl
      rw [e3] at e2
      have : k i = 0 := by
        rcases Int.mul_eq_zero.mp (show k i * r i = 0 by omega) with h | h
        · exact h
        · exact absurd h hr
      rw [this]
      simp
theorem ech_col {w : Nat} {E : Nat → Option Row} (h : Ech w E) {v : Row} (hv : Sm (Of w E) v) {a : Nat} (ha : a < w) (hz : ∀ j, j < a → v j = 0) : ∃ t : Int, v a = t * at0 E a a := by
  obtain ⟨k, hk⟩ := cmb_of hv
  have low := cmb_col h k a (fun j hj => by rw [← hk]; exact hz j hj) (by omega)
  have up : ∀ (i j : Nat), j < i → at0 E i j = 0 := by
    intro i j hij
    unfold at0
    cases hE : E i with
    | none => rfl
    | some r => exact (h.z i r hE).1 j hij
  have lo : ∀ m, m ≤ a → cmb E k m a = 0 := by
    intro m
    induction m with
    | zero => intro _; rfl
    | succ m im =>
      intro hm
      show cmb E k m a + k m * at0 E m a = 0
      rw [im (by omega), low m (by omega) a]
      rfl
  have all : ∀ n, a + 1 ≤ n → cmb E k n a = k a * at0 E a a := by
    intro n
    induction n with
    | zero => intro h; omega
    | succ n ih =>
      intro hn
      show cmb E k n a + k n * at0 E n a = _
      by_cases e : n = a
      · subst e
        rw [lo n (Nat.le_refl _)]
        omega
      · rw [ih (by omega), up n a (by omega)]
        omega
  exact ⟨k a, by rw [hk, all w (by omega)]⟩
/-- rows in steps that are positive at their beginning and reduced are the normal rows of their sums -/
theorem piv_of {w : Nat} {E : Nat → Option Row} (h : Ech w E) (pos : ∀ a r, E a = some r → 0 < r a) (red : ∀ a b, a < b → b < w → ∀ r s, E a = some r → E b = some s → 0 ≤ r b ∧ r b < s b) (out : ∀ a r, E a = some r → ∀ j, w ≤ j → r j = 0) : Piv (Sm (Of w E)) w E := by
  refine ⟨fun a ha r hr => ⟨.of ⟨a, ha, hr⟩, (h.z a r hr).1, pos a r hr, fun v hv hz => ?_⟩, fun a ha hn v hv hz => ?_, red, out⟩
  · obtain ⟨t, ht⟩ := ech_col h hv ha hz
    rw [ht]
    unfold at0
    rw [hr]
    exact ⟨t, Int.mul_comm _ _⟩
  · obtain ⟨t, ht⟩ := ech_col h hv ha hz
    rw [ht]
    unfold at0
    rw [hn]
    simp
end Hm
namespace Hm
def Or' (A B : Row → Prop) : Row → Prop := fun r => A r ∨ B r
/-- one column after the other: E has the rows of the columns before a, R the rest -/
structure Col (w a : Nat) (L : Row → Prop) (E : Nat → Option Row) (R : Row → Prop) : Prop where
  le : a ≤ w
  no : ∀ c, a ≤ c → E c = none
  ech : Ech w E
  pos : ∀ c r, E c = some r → 0 < r c
  red : ∀ b c, b < c → c < w → ∀ r s, E b = some r → E c = some s → 0 ≤ r c ∧ r c < s c
  out : ∀ c r, E c = some r → ∀ j, w ≤ j → r j = 0
  low : ∀ r, R r → ∀ j, j < a → r j = 0
  rout : ∀ r, R r → ∀ j, w ≤ j → r j = 0
  sums : ∀ v, L v ↔ Sm (Or' (Of w E) R) v
theorem sm_low {R : Row → Prop} {j : Nat} (h : ∀ r, R r → r j = 0) {v : Row} (hv : Sm R v) : v j = 0 := by
  induction hv with
  | zero => rfl
  | step t _ hr ih =>
    show _ - t * _ = 0
    rw [ih, h _ hr]
    simp
theorem col_start {w : Nat} {R : Row → Prop} (h : ∀ r, R r → ∀ j, w ≤ j → r j = 0) : Col w 0 (Sm R) (fun _ => none) R := by
  refine ⟨Nat.zero_le _, fun _ _ => rfl, ⟨fun a r h => (nomatch h)⟩, fun c r h => (nomatch h), fun b c _ _ r s h => (nomatch h), fun c r h => (nomatch h), fun r _ j hj => by omega, h, fun v => ⟨?_, ?_⟩⟩
  · exact Sm.mono fun r hr => .of (.inr hr)
  · refine Sm.mono fun r hr => ?_
    rcases hr with ⟨a, _, h⟩ | hr
    · cases h
    · exact .of hr
/-- no row begins in the column -/
theorem Col.none {w a : Nat} {L : Row → Prop} {E : Nat → Option Row} {R C : Row → Prop} (h : Col w a L E R) (ha : a < w) (hC : ∀ r, C r → r a = 0) (h1 : ∀ r, C r → Sm R r) (h2 : ∀ r, R r → Sm C r) : Col w (a + 1) L E C := by
  have lowC : ∀ r, C r → ∀ j, j < a → r j = 0 := fun r hr j hj => sm_low (fun x hx => h.low x hx j hj) (h1 r hr)
  refine ⟨ha, fun c hc => h.no c (by omega), h.ech, h.pos, h.red, h.out, fun r hr j hj => ?_, fun r hr j hj => sm_low (fun x hx => h.rout x hx j hj) (h1 r hr), fun v => (h.sums v).trans ⟨?_, ?_⟩⟩
  · by_cases e : j = a
    · rw [e]
      exact hC r hr
    · exact lowC r hr j (by omega)
  · refine Sm.mono fun r hr => ?_
    rcases hr with hr | hr
    · exact .of (.inl hr)
    · exact (h2 r hr).mono fun x hx => .of (.inr hx)
  · refine Sm.mono fun r hr => ?_
    rcases hr with hr | hr
    · exact .of (.inl hr)
    · exact (h1 r hr).mono fun x hx => .of (.inr hx)
def redE (E : Nat → Option Row) (a : Nat) (l : Row) : Nat → Option Row := fun c => if c = a then some l else (E c).map fun r => ls r l (r a / l a)
theorem ls_back (r l : Row) (t : Int) : ls (ls r l t) l (-t) = r := by
  funext j
  show r j - t * l j - -t * l j = r j
  rw [Int.neg_mul]
  omega
/-- the row l begins in the column -/
theorem Col.some {w a : Nat} {L : Row → Prop} {E : Nat → Option Row} {R C : Row → Prop} {l : Row} (h : Col w a L E R) (ha : a < w) (hl : 0 < l a) (hC : ∀ r, C r → r a = 0) (hlR : Sm R l) (h1 : ∀ r, C r → Sm R r) (h2 : ∀ r, R r → Sm (Or' (fun x => x = l) C) r) : Col w (a + 1) L (redE E a l) C := by
  have lowC : ∀ r, C r → ∀ j, j < a → r j = 0 := fun r hr j hj => sm_low (fun x hx => h.low x hx j hj) (h1 r hr)
  have lowl : ∀ j, j < a → l j = 0 := fun j hj => sm_low (fun x hx => h.low x hx j hj) hlR
  have outl : ∀ j, w ≤ j → l j = 0 := fun j hj => sm_low (fun x hx => h.rout x hx j hj) hlR
  -- what stands in redE
  have ca : ∀ c r, redE E a l c = .some r → (c = a ∧ r = l) ∨ (c < a ∧ ∃ r0, E c = .some r0 ∧ r = ls r0 l (r0 a / l a)) := by
    intro c r hc
    unfold redE at hc
    by_cases e : c = a
    · rw [if_pos e] at hc
      injection hc with hc
      exact .inl ⟨e, hc.symm⟩
    · rw [if_neg e] at hc
      cases hE : E c with
      | none => rw [hE] at hc; cases hc
      | some r0 =>
        rw [hE] at hc
        injection hc with hc
        refine .inr ⟨?_, r0, rfl, hc.symm⟩
        by_cases g : c < a
        · exact g
        · have := h.no c (by omega)
          rw [hE] at this
          cases this
  have same : ∀ (r0 : Row) (q : Int) j, j < a → ls r0 l q j = r0 j := fun r0 q j hj => by
    show r0 j - q * l j = r0 j
    rw [lowl j hj]
    omega
  have rem : ∀ r0 : Row, ls r0 l (r0 a / l a) a = r0 a % l a := fun r0 => by
    show r0 a - r0 a / l a * l a = _
    rw [Int.emod_def, Int.mul_comm]
  refine ⟨ha, fun c hc => ?_, ⟨fun c r hc => ?_⟩, fun c r hc => ?_, fun b c hbc hcw r s hb hc => ?_, fun c r hc j hj => ?_, fun r hr j hj => ?_, fun r hr j hj => sm_low (fun x hx => h.rout x hx j hj) (h1 r hr), fun v => (h.sums v).trans ⟨?_, ?_⟩⟩
  · unfold redE
    rw [if_neg (by omega), h.no c (by omega)]
    rfl
  · rcases ca c r hc with ⟨rfl, rfl⟩ | ⟨hca, r0, h0, rfl⟩
    · exact ⟨lowl, by omega⟩
    · obtain ⟨z1, z2⟩ := h.ech.z c r0 h0
      refine ⟨fun j hj => ?_, ?_⟩
      · rw [same r0 _ j (by omega)]
        exact z1 j hj
      · rw [same r0 _ c hca]
        exact z2
  · rcases ca c r hc with ⟨rfl, rfl⟩ | ⟨hca, r0, h0, rfl⟩
    · exact hl
    · rw [same r0 _ c hca]
      exact h.pos c r0 h0
  · rcases ca c s hc with ⟨rfl, rfl⟩ | ⟨hca, s0, g0, rfl⟩
    · rcases ca b r hb with ⟨rfl, _⟩ | ⟨_, r0, h0, rfl⟩
      · omega
      · rw [rem r0]
        exact ⟨Int.emod_nonneg _ (by omega), Int.emod_lt_of_pos _ hl⟩
    · rcases ca b r hb with ⟨rfl, _⟩ | ⟨_, r0, h0, rfl⟩
      · omega
      · rw [same r0 _ c hca, same s0 _ c hca]
        exact h.red b c hbc hcw r0 s0 h0 g0
  · rcases ca c r hc with ⟨rfl, rfl⟩ | ⟨hca, r0, h0, rfl⟩
    · exact outl j hj
    · show r0 j - _ * l j = 0
      rw [outl j hj, h.out c r0 h0 j hj]
      simp
  · by_cases e : j = a
    · rw [e]
      exact hC r hr
    · exact lowC r hr j (by omega)
  · have inl : Sm (Or' (Of w (redE E a l)) C) l := .of (.inl ⟨a, ha, by unfold redE; rw [if_pos rfl]⟩)
    refine Sm.mono fun r hr => ?_
    rcases hr with ⟨c, hcw, hE⟩ | hr
    · have hca : c < a := by
        by_cases g : c < a
        · exact g
        · have := h.no c (by omega)
          rw [hE] at this
          cases this
      have z : Sm (Or' (Of w (redE E a l)) C) (ls r l (r a / l a)) := .of (.inl ⟨c, hcw, by unfold redE; rw [if_neg (by omega), hE]; rfl⟩)
      have z2 := z.ls inl (-(r a / l a))
      rw [ls_back] at z2
      exact z2
    · refine (h2 r hr).mono fun x hx => ?_
      rcases hx with rfl | hx
      · exact inl
      · exact .of (.inr hx)
  · have inl : Sm (Or' (Of w E) R) l := hlR.mono fun x hx => .of (.inr hx)
    refine Sm.mono fun r hr => ?_
    rcases hr with ⟨c, hcw, hE⟩ | hr
    · rcases ca c r hE with ⟨rfl, rfl⟩ | ⟨hca, r0, h0, rfl⟩
      · exact inl
      · exact (Sm.of (R := Or' (Of w E) R) (.inl ⟨c, hcw, h0⟩)).ls inl _
    · exact (h1 r hr).mono fun x hx => .of (.inr hx)
/-- behind the last column -/
theorem Col.piv {w : Nat} {L : Row → Prop} {E : Nat → Option Row} {R : Row → Prop} (h : Col w w L E R) : Piv L w E := by
  have e : L = Sm (Of w E) := by
    funext v
    refine propext ((h.sums v).trans ⟨?_, ?_⟩)
    · refine Sm.mono fun r hr => ?_
      rcases hr with hr | hr
      · exact .of hr
      · have : r = fun _ => 0 := by
          funext j
          by_cases hj : j < w
          · exact h.low r hr j hj
          · exact h.rout r hr j (by omega)
        rw [this]
        exact .zero
    · exact Sm.mono fun r hr => .of (.inl hr)
  rw [e]
  exact piv_of h.ech h.pos h.red h.out
/-- two ways to the normal rows of the same sums -/
theorem Col.same {w : Nat} {R R0 R' : Row → Prop} {E E' : Nat → Option Row} (h : Col w w (Sm R0) E R) (g : Col w w (Sm R0) E' R') {a : Nat} (ha : a < w) : E a = E' a := h.piv.unique (fun _ _ hv hu => hv.ls hu 1) g.piv ha
end Hm
namespace Hm
/-! the way of putting in one row at a time -/
def put (F : Nat → Option Row) (a : Nat) (r : Row) : Nat → Option Row := fun c => if c = a then some r else F c
theorem put_at (F : Nat → Option Row) (a : Nat) (r : Row) : put F a r a = some r := if_pos rfl
theorem put_ne {F : Nat → Option Row} {a c : Nat} {r : Row} (h : c ≠ a) : put F a r c = F c := if_neg h
/-- a row begins in a column -/
def Beg (r : Row) (a : Nat) : Prop := (∀ j, j < a → r j = 0) ∧ r a ≠ 0
theorem ech_put {w : Nat} {F : Nat → Option Row} (h : Ech w F) {a : Nat} {r : Row} (hr : Beg r a) : Ech w (put F a r) := by
  refine ⟨fun c s hs => ?_⟩
  by_cases e : c = a
  · subst e
    rw [put_at] at hs
    injection hs with hs
    subst hs
    exact hr
  · rw [put_ne e] at hs
    exact h.z c s hs
theorem of_put {w : Nat} {F : Nat → Option Row} {a : Nat} {r x : Row} (ha : a < w) : Of w (put F a r) x ↔ x = r ∨ ∃ c, c < w ∧ c ≠ a ∧ F c = some x := by
  constructor
  · rintro ⟨c, hc, h⟩
    by_cases e : c = a
    · rw [e, put_at] at h
      injection h with h
      exact .inl h.symm
    · rw [put_ne e] at h
      exact .inr ⟨c, hc, e, h⟩
  · rintro (rfl | ⟨c, hc, e, h⟩)
    · exact ⟨a, ha, put_at _ _ _⟩
    · exact ⟨c, hc, by rw [put_ne e]; exact h⟩
/-- the same sums -/
def Eqs (A B : Row → Prop) : Prop := ∀ v, Sm A v ↔ Sm B v
theorem Eqs.by {A B : Row → Prop} (h1 : ∀ r, A r → Sm B r) (h2 : ∀ r, B r → Sm A r) : Eqs A B := fun v => ⟨Sm.mono h1, Sm.mono h2⟩
theorem Eqs.trans {A B C : Row → Prop} (h1 : Eqs A B) (h2 : Eqs B C) : Eqs A C := fun v => (h1 v).trans (h2 v)
def In (ts : List Row) : Row → Prop := fun r => r ∈ ts
/-- a row of zeros is left out -/
theorem drop_zero {A : Row → Prop} {r : Row} {ts : List Row} (h : ∀ j, r j = 0) : Eqs (Or' A (In (r :: ts))) (Or' A (In ts)) := by
  refine .by (fun x hx => ?_) (fun x hx => ?_)
  · rcases hx with hx | hx
    · exact .of (.inl hx)
    · rcases List.mem_cons.mp hx with rfl | hx
      · rw [show x = fun _ => 0 from funext h]
        exact .zero
      · exact .of (.inr hx)
  · rcases hx with hx | hx
    · exact .of (.inl hx)
    · exact .of (.inr (List.mem_cons_of_mem _ hx))
/-- a row is kept in an empty column -/
theorem keep_row {w : Nat} {F : Nat → Option Row} {a : Nat} {r : Row} {ts : List Row} (ha : a < w) (hF : F a = none) : Eqs (Or' (Of w F) (In (r :: ts))) (Or' (Of w (put F a r)) (In ts)) := by
  refine .by (fun x hx => ?_) (fun x hx => ?_)
  · rcases hx with ⟨c, hc, h⟩ | hx
    · refine .of (.inl ((of_put ha).mpr (.inr ⟨c, hc, fun e => ?_, h⟩)))
      rw [e, hF] at h
      cases h
    · rcases List.mem_cons.mp hx with rfl | hx
      · exact .of (.inl ((of_put ha).mpr (.inl rfl)))
      · exact .of (.inr hx)
  · rcases hx with hx | hx
    · rcases (of_put ha).mp hx with rfl | ⟨c, hc, _, h⟩
      · exact .of (.inr List.mem_cons_self)
      · exact .of (.inl ⟨c, hc, h⟩)
    · exact .of (.inr (List.mem_cons_of_mem _ hx))
/-- a row and the one that is kept change places -/
theorem swap_row {w : Nat} {F : Nat → Option Row} {a : Nat} {r s : Row} {ts : List Row} (ha : a < w) (hF : F a = some s) : Eqs (Or' (Of w F) (In (r :: ts))) (Or' (Of w (put F a r)) (In (s :: ts))) := by
  refine .by (fun x hx => ?_) (fun x hx => ?_)
  · rcases hx with ⟨c, hc, h⟩ | hx
    · by_cases e : c = a
      · rw [e, hF] at h
        injection h with h
        rw [← h]
        exact .of (.inr List.mem_cons_self)
      · exact .of (.inl ((of_put ha).mpr (.inr ⟨c, hc, e, h⟩)))
    · rcases List.mem_cons.mp hx with rfl | hx
      · exact .of (.inl ((of_put ha).mpr (.inl rfl)))
      · exact .of (.inr (List.mem_cons_of_mem _ hx))
  · rcases hx with hx | hx
    · rcases (of_put ha).mp hx with rfl | ⟨c, hc, _, h⟩
      · exact .of (.inr List.mem_cons_self)
      · exact .of (.inl ⟨c, hc, h⟩)
    · rcases List.mem_cons.mp hx with rfl | hx
      · exact .of (.inl ⟨a, ha, hF⟩)
      · exact .of (.inr (List.mem_cons_of_mem _ hx))
/-- a row is reduced by one that is kept -/
theorem less_row {w : Nat} {F : Nat → Option Row} {a : Nat} {r s : Row} {ts : List Row} (ha : a < w) (hF : F a = some s) (t : Int) : Eqs (Or' (Of w F) (In (r :: ts))) (Or' (Of w F) (In (ls r s t :: ts))) := by
  refine .by (fun x hx => ?_) (fun x hx => ?_)
  · rcases hx with hx | hx
    · exact .of (.inl hx)
    · rcases List.mem_cons.mp hx with rfl | hx
      · have z := (Sm.of (R := Or' (Of w F) (In (ls x s t :: ts))) (.inr List.mem_cons_self)).ls (.of (.inl ⟨a, ha, hF⟩)) (-t)
        rw [ls_back] at z
        exact z
      · exact .of (.inr (List.mem_cons_of_mem _ hx))
  · rcases hx with hx | hx
    · exact .of (.inl hx)
    · rcases List.mem_cons.mp hx with rfl | hx
      · exact (Sm.of (R := Or' (Of w F) (In (r :: ts))) (.inr List.mem_cons_self)).ls (.of (.inl ⟨a, ha, hF⟩)) t
      · exact .of (.inr (List.mem_cons_of_mem _ hx))
/-! from rows in steps to normal rows -/
def Fro (w : Nat) (F : Nat → Option Row) (a : Nat) : Row → Prop := fun r => ∃ c, a ≤ c ∧ c < w ∧ F c = some r
def neg (r : Row) : Row := fun j => -1 * r j
def sgd (r : Row) (a : Nat) : Row := if 0 < r a then r else neg r
def nxt (F : Nat → Option Row) (a : Nat) (E : Nat → Option Row) : Nat → Option Row := match F a with
  | none => E
  | some r => redE E a (sgd r a)
theorem sm_neg {R : Row → Prop} {r : Row} (h : Sm R r) : Sm R (neg r) := by
  have z := Sm.zero.ls h 1
  have e : ls (fun _ => 0) r 1 = neg r := by
    funext j
    show 0 - 1 * r j = -1 * r j
    omega
  rw [e] at z
  exact z
theorem neg_neg (r : Row) : neg (neg r) = r := by
  funext j
  show -1 * (-1 * r j) = r j
  omega
theorem col_fro {w : Nat} {F : Nat → Option Row} (hF : Ech w F) {a : Nat} {L : Row → Prop} {E : Nat → Option Row} (h : Col w a L E (Fro w F a)) (ha : a < w) : Col w (a + 1) L (nxt F a E) (Fro w F (a + 1)) := by
  have z : ∀ r, Fro w F (a + 1) r → r a = 0 := fun r ⟨c, h1, _, h3⟩ => (hF.z c r h3).1 a (by omega)
  have s1 : ∀ r, Fro w F (a + 1) r → Sm (Fro w F a) r := fun r ⟨c, h1, h2, h3⟩ => .of ⟨c, by omega, h2, h3⟩
  unfold nxt
  cases hE : F a with
  | none =>
    refine h.none ha z s1 fun r ⟨c, h1, h2, h3⟩ => .of ⟨c, ?_, h2, h3⟩
    by_cases e : c = a
    · rw [e, hE] at h3
      cases h3
    · omega
  | some r =>
    have hr := (hF.z a r hE).2
    have inr' : Sm (Fro w F a) r := .of ⟨a, Nat.le_refl _, ha, hE⟩
    have sg : sgd r a = r ∨ sgd r a = neg r := by
      unfold sgd
      split
      · exact .inl rfl
      · exact .inr rfl
    refine h.some ha ?_ z ?_ s1 fun x ⟨c, h1, h2, h3⟩ => ?_
    · unfold sgd
      split
      · assumption
      · show 0 < -1 * r a
        omega
    · rcases sg with e | e
      · rw [e]
        exact inr'
      · rw [e]
        exact sm_neg inr'
    · by_cases e : c = a
      · rw [e, hE] at h3
        injection h3 with h3
        subst h3
        have y : Sm (Or' (fun x => x = sgd r a) (Fro w F (a + 1))) (sgd r a) := .of (.inl rfl)
        rcases sg with e | e
        · rw [e] at y ⊢
          exact y
        · have y2 := sm_neg y
          rw [e, neg_neg] at y2
          rw [e]
          exact y2
      · exact .of (.inr ⟨c, by omega, h2, h3⟩)
def nrm (F : Nat → Option Row) : Nat → Nat → Option Row
  | 0 => fun _ => none
  | a + 1 => nxt F a (nrm F a)
theorem col_nrm {w : Nat} {F : Nat → Option Row} (hF : Ech w F) (out : ∀ c r, F c = some r → ∀ j, w ≤ j → r j = 0) : ∀ a, a ≤ w → Col w a (Sm (Of w F)) (nrm F a) (Fro w F a)
  | 0, _ => by
    have e : Fro w F 0 = Of w F := by
      funext r
      refine propext ⟨fun ⟨c, _, h2, h3⟩ => ⟨c, h2, h3⟩, fun ⟨c, h2, h3⟩ => ⟨c, Nat.zero_le _, h2, h3⟩⟩
    rw [e]
    exact col_start fun r ⟨c, _, h⟩ => out c r h
  | a + 1, h => col_fro hF (col_nrm hF out a (by omega)) h
end Hm
namespace Hm
/-! the way of sweeping a column: all rows are reduced by the least one, round by round -/
def zro (a : Nat) (rs : List Row) : List Row := rs.filter fun r => decide (r a = 0)
def nzr (a : Nat) (rs : List Row) : List Row := rs.filter fun r => decide (r a ≠ 0)
theorem mem_zn {a : Nat} {rs : List Row} {r : Row} : r ∈ rs ↔ r ∈ zro a rs ∨ r ∈ nzr a rs := by
  unfold zro nzr
  rw [List.mem_filter, List.mem_filter]
  by_cases h : r a = 0
  · simp [h]
  · simp [h]
theorem Eqs.refl (A : Row → Prop) : Eqs A A := fun _ => Iff.rfl
theorem Eqs.symm {A B : Row → Prop} (h : Eqs A B) : Eqs B A := fun v => (h v).symm
theorem eqs_in {A B : List Row} (h : ∀ r, r ∈ A ↔ r ∈ B) : Eqs (In A) (In B) := .by (fun r hr => .of ((h r).mp hr)) (fun r hr => .of ((h r).mpr hr))
/-- the beginning: rows without and with a zero -/
theorem sweep0 (a : Nat) (rs : List Row) : Eqs (In rs) (In (zro a rs ++ nzr a rs)) := eqs_in fun r => by
  rw [List.mem_append]
  exact mem_zn
/-- a round -/
theorem sweep1 (a : Nat) (cl os : List Row) (l : Row) (q : Row → Int) : Eqs (In (cl ++ l :: os)) (In ((cl ++ zro a (os.map fun r => ls r l (q r))) ++ l :: nzr a (os.map fun r => ls r l (q r)))) := by
  have mv : ∀ x, x ∈ (os.map fun r => ls r l (q r)) → x ∈ ((cl ++ zro a (os.map fun r => ls r l (q r))) ++ l :: nzr a (os.map fun r => ls r l (q r))) := by
    intro x hx
    rcases (mem_zn (a := a)).mp hx with h | h
    · exact List.mem_append_left _ (List.mem_append_right _ h)
    · exact List.mem_append_right _ (List.mem_cons_of_mem _ h)
  have ml : In ((cl ++ zro a (os.map fun r => ls r l (q r))) ++ l :: nzr a (os.map fun r => ls r l (q r))) l := List.mem_append_right _ List.mem_cons_self
  refine .by (fun x hx => ?_) (fun x hx => ?_)
  · rcases List.mem_append.mp hx with hx | hx
    · exact .of (List.mem_append_left _ (List.mem_append_left _ hx))
    · rcases List.mem_cons.mp hx with rfl | hx
      · exact .of ml
      · have z := (Sm.of (mv _ (List.mem_map.mpr ⟨x, hx, rfl⟩))).ls (.of ml) (-(q x))
        rw [ls_back] at z
        exact z
  · have il : In (cl ++ l :: os) l := List.mem_append_right _ List.mem_cons_self
    have im : ∀ y, y ∈ (os.map fun r => ls r l (q r)) → Sm (In (cl ++ l :: os)) y := by
      intro y hy
      obtain ⟨r, hr, rfl⟩ := List.mem_map.mp hy
      exact (Sm.of (R := In (cl ++ l :: os)) (List.mem_append_right _ (List.mem_cons_of_mem _ hr))).ls (.of il) _
    rcases List.mem_append.mp hx with hx | hx
    · rcases List.mem_append.mp hx with hx | hx
      · exact .of (List.mem_append_left _ hx)
      · exact im x ((mem_zn (a := a)).mpr (.inl hx))
    · rcases List.mem_cons.mp hx with rfl | hx
      · exact .of il
      · exact im x ((mem_zn (a := a)).mpr (.inr hx))
/-- what is left of a column: nothing or one row, and rows with a zero there -/
def Swp (a : Nat) (R : List Row) (l : Option Row) (C : List Row) : Prop := (∀ r ∈ C, r a = 0) ∧ match l with
  | none => Eqs (In R) (In C)
  | some l => 0 < l a ∧ Eqs (In R) (In (l :: C))
theorem swp_none {a : Nat} {R C : List Row} (h : Eqs (In R) (In (C ++ []))) (hC : ∀ r ∈ C, r a = 0) : Swp a R none C := by
  rw [List.append_nil] at h
  exact ⟨hC, h⟩
theorem swp_one {a : Nat} {R C : List Row} {r : Row} (h : Eqs (In R) (In (C ++ [r]))) (hC : ∀ r ∈ C, r a = 0) (hr : r a ≠ 0) : Swp a R (some (sgd r a)) C := by
  refine ⟨hC, ?_, h.trans (.by (fun x hx => ?_) (fun x hx => ?_))⟩
  · unfold sgd
    split
    · assumption
    · show 0 < -1 * r a
      omega
  · rcases List.mem_append.mp hx with hx | hx
    · exact .of (List.mem_cons_of_mem _ hx)
    · obtain rfl := List.mem_singleton.mp hx
      have y : Sm (In (sgd x a :: C)) (sgd x a) := .of List.mem_cons_self
      unfold sgd at y ⊢
      split
      · rename_i h0
        rw [if_pos h0] at y
        exact y
      · rename_i h0
        rw [if_neg h0] at y
        have y2 := sm_neg y
        rw [neg_neg] at y2
        exact y2
  · rcases List.mem_cons.mp hx with rfl | hx
    · have y : Sm (In (C ++ [r])) r := .of (List.mem_append_right _ List.mem_cons_self)
      unfold sgd
      split
      · exact y
      · exact sm_neg y
    · exact .of (List.mem_append_left _ hx)
/-- what stands behind the column -/
def nxs (l : Option Row) (a : Nat) (E : Nat → Option Row) : Nat → Option Row := match l with
  | none => E
  | some l => redE E a l
theorem Col.swp {w a : Nat} {L : Row → Prop} {E : Nat → Option Row} {R C : List Row} {l : Option Row} (h : Col w a L E (In R)) (ha : a < w) (s : Swp a R l C) : Col w (a + 1) L (nxs l a E) (In C) := by
  obtain ⟨hC, hs⟩ := s
  cases l with
  | none => exact h.none ha hC (fun r hr => (hs r).mpr (.of hr)) (fun r hr => (hs r).mp (.of hr))
  | some l =>
    obtain ⟨hl, he⟩ := hs
    refine h.some ha hl hC ((he l).mpr (.of List.mem_cons_self)) (fun r hr => (he r).mpr (.of (List.mem_cons_of_mem _ hr))) (fun r hr => ((he r).mp (.of hr)).mono fun x hx => ?_)
    rcases List.mem_cons.mp hx with rfl | hx
    · exact .of (.inl rfl)
    · exact .of (.inr hx)
/-! lists of numbers as rows -/
def fn (r : List Int) : Row := fun j => r.getD j 0
theorem fn_out {w : Nat} {r : List Int} (h : r.length = w) : ∀ j, w ≤ j → fn r j = 0 := fun j hj => by
  unfold fn
  rw [List.getD_eq_getElem?_getD, List.getElem?_eq_none (by omega)]
  rfl
theorem fn_inj {r s : List Int} (hl : r.length = s.length) (h : fn r = fn s) : r = s := by
  refine List.ext_getElem? fun i => ?_
  have e := congrFun h i
  unfold fn at e
  rw [List.getD_eq_getElem?_getD, List.getD_eq_getElem?_getD] at e
  by_cases hi : i < r.length
  · rw [List.getElem?_eq_getElem hi, List.getElem?_eq_getElem (by omega)] at e ⊢
    exact congrArg some e
  · rw [List.getElem?_eq_none (by omega), List.getElem?_eq_none (by omega)]
/-- a row less a multiple of another one -/
def lsl (r o : List Int) (t : Int) : List Int := List.zipWith (fun x y => x - t * y) r o
theorem lsl_len {r o : List Int} {w : Nat} (hr : r.length = w) (ho : o.length = w) (t : Int) : (lsl r o t).length = w := by
  unfold lsl
  rw [List.length_zipWith]
  omega
theorem fn_lsl {r o : List Int} (h : r.length = o.length) (t : Int) : fn (lsl r o t) = ls (fn r) (fn o) t := by
  funext j
  show (lsl r o t).getD j 0 = r.getD j 0 - t * o.getD j 0
  unfold lsl
  rw [List.getD_eq_getElem?_getD, List.getD_eq_getElem?_getD, List.getD_eq_getElem?_getD, List.getElem?_zipWith]
  by_cases hj : j < r.length
  · rw [List.getElem?_eq_getElem hj, List.getElem?_eq_getElem (by omega)]
    rfl
  · rw [List.getElem?_eq_none (by omega), List.getElem?_eq_none (by omega)]
    simp
end Hm
namespace Hm
/-! the same with lists of numbers -/
def Gok (w : Nat) (G : Nat → Option (List Int)) : Prop := ∀ c r, G c = some r → r.length = w
def ofG (G : Nat → Option (List Int)) : Nat → Option Row := fun c => (G c).map fn
def redL (a : Nat) (l r : List Int) : List Int := lsl r l (r.getD a 0 / l.getD a 0)
def redG (G : Nat → Option (List Int)) (a : Nat) (l : List Int) : Nat → Option (List Int) := fun c => if c = a then some l else (G c).map (redL a l)
def nxG (G : Nat → Option (List Int)) (a : Nat) : Option (List Int) → Nat → Option (List Int)
  | none => G
  | some l => redG G a l
theorem redG_ok {w : Nat} {G : Nat → Option (List Int)} (h : Gok w G) {l : List Int} (hl : l.length = w) (a : Nat) : Gok w (redG G a l) := by
  intro c r hc
  unfold redG at hc
  by_cases e : c = a
  · rw [if_pos e] at hc
    injection hc with hc
    rw [← hc]
    exact hl
  · rw [if_neg e] at hc
    cases hG : G c with
    | none => rw [hG] at hc; cases hc
    | some r0 =>
      rw [hG] at hc
      injection hc with hc
      rw [← hc]
      exact lsl_len (h c r0 hG) hl _
theorem ofG_red {w : Nat} {G : Nat → Option (List Int)} (h : Gok w G) {l : List Int} (hl : l.length = w) (a : Nat) : ofG (redG G a l) = redE (ofG G) a (fn l) := by
  funext c
  unfold ofG redG redE
  by_cases e : c = a
  · rw [if_pos e, if_pos e]
    rfl
  · rw [if_neg e, if_neg e]
    dsimp only
    cases hG : G c with
    | none => rfl
    | some r =>
      show some (fn (redL a l r)) = some (ls (fn r) (fn l) (fn r a / fn l a))
      unfold redL
      rw [fn_lsl (by rw [h c r hG, hl])]
      rfl
theorem nxG_of {w : Nat} {G : Nat → Option (List Int)} (h : Gok w G) {l : Option (List Int)} (hl : ∀ r, l = some r → r.length = w) (a : Nat) : ofG (nxG G a l) = nxs (l.map fn) a (ofG G) ∧ Gok w (nxG G a l) := by
  cases l with
  | none => exact ⟨rfl, h⟩
  | some l => exact ⟨ofG_red h (hl l rfl) a, redG_ok h (hl l rfl) a⟩
theorem fm_congr {α β : Type} {f g : α → Option β} : ∀ {l : List α}, (∀ x ∈ l, f x = g x) → l.filterMap f = l.filterMap g
  | [], _ => rfl
  | x :: r, h => by
    rw [List.filterMap_cons, List.filterMap_cons, h x List.mem_cons_self, fm_congr fun y hy => h y (List.mem_cons_of_mem _ hy)]
/-- the rows of the columns before a, as a list -/
def lis (G : Nat → Option (List Int)) (a : Nat) : List (List Int) := (List.range a).filterMap G
theorem lis_red {G : Nat → Option (List Int)} {a : Nat} {l : List Int} : lis (redG G a l) (a + 1) = (lis G a).map (redL a l) ++ [l] := by
  unfold lis
  rw [List.range_succ, List.filterMap_append]
  have e1 : (List.range a).filterMap (redG G a l) = ((List.range a).filterMap G).map (redL a l) := by
    rw [List.map_filterMap]
    refine fm_congr fun c hc => ?_
    have : c < a := List.mem_range.mp hc
    unfold redG
    rw [if_neg (by omega)]
  rw [e1]
  congr 1
  simp [redG]
theorem lis_none {G : Nat → Option (List Int)} {a : Nat} (h : G a = none) : lis G (a + 1) = lis G a := by
  unfold lis
  rw [List.range_succ, List.filterMap_append]
  simp [h]
theorem lis_same {w : Nat} {G G' : Nat → Option (List Int)} (h : Gok w G) (h' : Gok w G') (e : ∀ a, a < w → ofG G a = ofG G' a) : lis G w = lis G' w := by
  unfold lis
  refine fm_congr fun c hc => ?_
  have e1 := e c (List.mem_range.mp hc)
  unfold ofG at e1
  cases hG : G c with
  | none =>
    rw [hG] at e1
    cases hG' : G' c with
    | none => rfl
    | some s => rw [hG'] at e1; cases e1
  | some r =>
    rw [hG] at e1
    cases hG' : G' c with
    | none => rw [hG'] at e1; cases e1
    | some s =>
      rw [hG'] at e1
      injection e1 with e1
      rw [fn_inj (by rw [h c r hG, h' c s hG']) e1]
/-- the rows of the table, column by column, with the rest rs -/
structure Nrm (w a : Nat) (rows found rest : List (List Int)) : Prop where
  ex : ∃ G, Gok w G ∧ found = lis G a ∧ Col w a (Sm (In (rows.map fn))) (ofG G) (In (rest.map fn))
theorem nrm_start {w : Nat} {rows : List (List Int)} (h : ∀ r ∈ rows, r.length = w) : Nrm w 0 rows [] rows := by
  refine ⟨fun _ => none, (fun c r hc => nomatch hc), rfl, ?_⟩
  refine col_start fun r hr => ?_
  obtain ⟨x, hx, rfl⟩ := List.mem_map.mp hr
  exact fn_out (h x hx)
theorem nrm_none {w a : Nat} {rows found rest cl : List (List Int)} (h : Nrm w a rows found rest) (ha : a < w) (s : Swp a (rest.map fn) none (cl.map fn)) : Nrm w (a + 1) rows found cl := by
  obtain ⟨G, g1, g2, g3⟩ := h.ex
  have hn : G a = none := by
    have := g3.no a (Nat.le_refl _)
    unfold ofG at this
    cases hG : G a with
    | none => rfl
    | some r => rw [hG] at this; cases this
  exact ⟨G, g1, by rw [lis_none hn]; exact g2, g3.swp ha s⟩
theorem nrm_some {w a : Nat} {rows found rest cl : List (List Int)} {l : List Int} (h : Nrm w a rows found rest) (ha : a < w) (hl : l.length = w) (s : Swp a (rest.map fn) (some (fn l)) (cl.map fn)) : Nrm w (a + 1) rows (found.map (redL a l) ++ [l]) cl := by
  obtain ⟨G, g1, g2, g3⟩ := h.ex
  refine ⟨redG G a l, redG_ok g1 hl a, by rw [lis_red, g2], ?_⟩
  rw [ofG_red g1 hl a]
  exact g3.swp ha s
/-- whatever the ways, and for all rows with the same sums: the normal rows are the same -/
theorem nrm_same {w : Nat} {rows rows' f1 f2 r1 r2 : List (List Int)} (h : Nrm w w rows f1 r1) (g : Nrm w w rows' f2 r2) (e : Eqs (In (rows.map fn)) (In (rows'.map fn))) : f1 = f2 := by
  obtain ⟨G, g1, g2, g3⟩ := h.ex
  obtain ⟨G', k1, k2, k3⟩ := g.ex
  have e2 : Sm (In (rows'.map fn)) = Sm (In (rows.map fn)) := funext fun v => propext (e v).symm
  rw [e2] at k3
  rw [g2, k2]
  exact lis_same g1 k1 fun a ha => g3.same k3 ha
end Hm
namespace Hm
/-! the rounds end: how much stands in a column -/
def mas (a : Nat) (rs : List Row) : Nat := (rs.map fun r => (r a).natAbs).sum
theorem fmod_small {x l : Int} (hl : l ≠ 0) : (x - x.fdiv l * l).natAbs < l.natAbs := by
  have h0 := Int.emod_nonneg x hl
  have h1 := Int.emod_lt x hl
  have e : x / l * l = x - x % l := by
    have := Int.emod_def x l
    rw [Int.mul_comm] at this
    omega
  rw [Int.fdiv_eq_ediv]
  by_cases hc : 0 ≤ l ∨ l ∣ x
  · rw [if_pos hc, Int.sub_zero, e]
    omega
  · rw [if_neg hc, Int.sub_mul, e]
    have h2 : x % l ≠ 0 := fun z => hc (.inr (Int.dvd_of_emod_eq_zero z))
    omega
theorem mas_nzr (a : Nat) : ∀ rs : List Row, mas a (nzr a rs) = mas a rs
  | [] => rfl
  | r :: rs => by
    have ih := mas_nzr a rs
    unfold mas nzr at ih ⊢
    rw [List.filter_cons]
    by_cases h : r a = 0
    · simp [h]
      simpa using ih
    · simp [h]
      simpa using ih
theorem mas_less {a : Nat} {l : Row} (hl : l a ≠ 0) : ∀ os : List Row, (∀ r ∈ os, (l a).natAbs ≤ (r a).natAbs) → mas a (os.map fun r => ls r l ((r a).fdiv (l a))) + os.length ≤ mas a os
  | [], _ => Nat.le_refl _
  | r :: os, h => by
    have ih := mas_less hl os fun x hx => h x (List.mem_cons_of_mem _ hx)
    have h1 := h r List.mem_cons_self
    have h2 : (ls r l ((r a).fdiv (l a)) a).natAbs < (l a).natAbs := fmod_small hl
    unfold mas at ih ⊢
    simp only [List.map_cons, List.sum_cons, List.length_cons, List.map_map] at ih ⊢
    omega
/-- a round takes something away -/
theorem mas_round {a : Nat} {l : Row} {os : List Row} (hl : l a ≠ 0) (h : ∀ r ∈ os, (l a).natAbs ≤ (r a).natAbs) (ho : os ≠ []) : mas a (l :: nzr a (os.map fun r => ls r l ((r a).fdiv (l a)))) < mas a (l :: os) := by
  have h1 := mas_less hl os h
  have h2 := mas_nzr a (os.map fun r => ls r l ((r a).fdiv (l a)))
  have h3 : 0 < os.length := List.length_pos_iff.mpr ho
  have e1 : ∀ rs, mas a (l :: rs) = (l a).natAbs + mas a rs := fun rs => by simp [mas]
  rw [e1, e1, h2]
  omega
end Hm
namespace Hm
/-- a way of steps that goes down has a number of steps -/
theorem steps {S : Type} (f : S → Option S) (r : S → S → Prop) (wf : WellFounded r) (h : ∀ s s', f s = some s' → r s' s) : ∃ n : S → Nat, ∀ s s', f s = some s' → n s' < n s := by
  have one : ∀ s, ∃ k : Nat, ∀ m, k ≤ m → ∃ t : List S, t.length ≤ m ∧ ∀ u, (Nat.repeat (fun o => o.bind f) (m + 1) (some s)) = u → u = none := by
    intro s
    induction s using wf.induction with
    | _ s ih =>
      cases hf : f s with
      | none =>
        refine ⟨0, fun m _ => ⟨[], Nat.zero_le _, fun u hu => ?_⟩⟩
        have z : ∀ n, Nat.repeat (fun o => o.bind f) (n + 1) (some s) = (none : Option S) := by
          intro n
          induction n with
          | zero => exact hf
          | succ n ihn =>
            show (Nat.repeat (fun o => o.bind f) (n + 1) (some s)).bind f = none
            rw [ihn]
            rfl
        rw [← hu]
        exact z m
      | some s' =>
        obtain ⟨k, hk⟩ := ih s' (h s s' hf)
        refine ⟨k + 1, fun m hm => ⟨[], Nat.zero_le _, fun u hu => ?_⟩⟩
        obtain ⟨_, _, e⟩ := hk (m - 1) (by omega)
        have sh : ∀ n, Nat.repeat (fun o => o.bind f) (n + 1) (some s) = Nat.repeat (fun o => o.bind f) n (some s') := by
          intro n
          induction n with
          | zero => exact hf
          | succ n ihn =>
            show (Nat.repeat (fun o => o.bind f) (n + 1) (some s)).bind f = (Nat.repeat (fun o => o.bind f) n (some s')).bind f
            rw [ihn]
        rw [← hu, sh m]
        have := e _ rfl
        rw [show m - 1 + 1 = m by omega] at this
        exact this
  -- the least number of steps
  have ex : ∀ s, ∃ k : Nat, Nat.repeat (fun o => o.bind f) k (some s) = (none : Option S) := fun s => by
    obtain ⟨k, hk⟩ := one s
    obtain ⟨_, _, e⟩ := hk k (Nat.le_refl _)
    exact ⟨k + 1, e _ rfl⟩
  refine ⟨fun s => Classical.choose (least (ex s)), fun s s' hs => ?_⟩
  have c1 := Classical.choose_spec (least (ex s))
  have c2 := Classical.choose_spec (least (ex s'))
  show Classical.choose (least (ex s')) < Classical.choose (least (ex s))
  generalize Classical.choose (least (ex s)) = n at c1 ⊢
  generalize Classical.choose (least (ex s')) = n' at c2 ⊢
  have sh : ∀ m, Nat.repeat (fun o => o.bind f) (m + 1) (some s) = Nat.repeat (fun o => o.bind f) m (some s') := by
    intro m
    induction m with
    | zero => exact hs
    | succ m ihm =>
      show (Nat.repeat (fun o => o.bind f) (m + 1) (some s)).bind f = (Nat.repeat (fun o => o.bind f) m (some s')).bind f
      rw [ihm]
  cases n with
  | zero =>
    have := c1.1
    cases this
  | succ n =>
    have := c1.1
    rw [sh] at this
    have := c2.2 n this
    omega
where
  least {p : Nat → Prop} (h : ∃ k, p k) : ∃ k, p k ∧ ∀ j, p j → k ≤ j := by
    obtain ⟨k, hk⟩ := h
    induction k using Nat.strongRecOn with
    | _ k ih =>
      by_cases g : ∃ j, j < k ∧ p j
      · obtain ⟨j, hj, pj⟩ := g
        exact ih j hj pj
      · exact ⟨k, hk, fun j pj => Nat.le_of_not_lt fun hj => g ⟨j, hj, pj⟩⟩
end Hm
namespace Hm
/-! how great the numbers become when a column is swept -/
/-- numbers of one sign: floor division as with what they are without it -/
theorem same_fdiv {x l : Int} (h : 0 < x * l) : x.fdiv l = ((x.natAbs / l.natAbs : Nat) : Int) ∧ (x - x.fdiv l * l).natAbs = x.natAbs % l.natAbs ∧ 0 ≤ (x - x.fdiv l * l) * l := by
  have pos : ∀ a b : Nat, 0 < b → ((a : Int).fdiv (b : Int) = ((a / b : Nat) : Int)) ∧ ((a : Int) - ((a / b : Nat) : Int) * (b : Int) = ((a % b : Nat) : Int)) := by
    intro a b hb
    refine ⟨by rw [Int.fdiv_eq_ediv_of_nonneg _ (by omega)]; rfl, ?_⟩
    have e := Nat.div_add_mod a b
    have e2 : ((b * (a / b) + a % b : Nat) : Int) = (a : Int) := by rw [e]
    rw [Int.natCast_add, Int.natCast_mul, Int.mul_comm] at e2
    omega
  have hl : l ≠ 0 := fun z => by rw [z, Int.mul_zero] at h; omega
  have hx : x ≠ 0 := fun z => by rw [z, Int.zero_mul] at h; omega
  rcases Int.lt_or_gt_of_ne hl with n | n
  · have nx : x < 0 := by
      rcases Int.lt_or_gt_of_ne hx with m | m
      · exact m
      · have := Int.mul_neg_of_pos_of_neg m n
        omega
    obtain ⟨a, rfl⟩ : ∃ a : Nat, x = -(a : Int) := ⟨x.natAbs, by omega⟩
    obtain ⟨b, rfl⟩ : ∃ b : Nat, l = -(b : Int) := ⟨l.natAbs, by omega⟩
    obtain ⟨p1, p2⟩ := pos a b (by omega)
    rw [Int.neg_fdiv_neg, p1, Int.natAbs_neg, Int.natAbs_neg, Int.natAbs_natCast, Int.natAbs_natCast]
    have e : (-(a : Int) - ((a / b : Nat) : Int) * -(b : Int)) = -((a % b : Nat) : Int) := by
      rw [Int.mul_neg]
      omega
    refine ⟨rfl, by rw [e, Int.natAbs_neg, Int.natAbs_natCast], ?_⟩
    rw [e, Int.neg_mul_neg]
    exact Int.mul_nonneg (Int.natCast_nonneg _) (Int.natCast_nonneg _)
  · have px : 0 < x := by
      rcases Int.lt_or_gt_of_ne hx with m | m
      · have := Int.mul_neg_of_neg_of_pos m n
        omega
      · exact m
    obtain ⟨a, rfl⟩ : ∃ a : Nat, x = (a : Int) := ⟨x.natAbs, by omega⟩
    obtain ⟨b, rfl⟩ : ∃ b : Nat, l = (b : Int) := ⟨l.natAbs, by omega⟩
    obtain ⟨p1, p2⟩ := pos a b (by omega)
    rw [p1, Int.natAbs_natCast, Int.natAbs_natCast]
    refine ⟨rfl, by rw [p2, Int.natAbs_natCast], ?_⟩
    rw [p2]
    exact Int.mul_nonneg (Int.natCast_nonneg _) (Int.natCast_nonneg _)
/-- a rest has the sign of what is divided by -/
theorem rest_sign {x l : Int} (hl : l ≠ 0) : 0 ≤ (x - x.fdiv l * l) * l ∧ (x - x.fdiv l * l).natAbs < l.natAbs ∧ (x.fdiv l).natAbs ≤ x.natAbs + 1 := by
  have h2 := fmod_small (x := x) hl
  have e : x - x.fdiv l * l = x.fmod l := by
    have := Int.fmod_def x l
    rw [Int.mul_comm] at this
    omega
  refine ⟨?_, h2, ?_⟩
  · rw [e]
    rcases Int.lt_or_gt_of_ne hl with n | n
    · have h : x.fmod l ≤ 0 := by
        have h0 := Int.emod_nonneg x hl
        have h1 := Int.emod_lt x hl
        have e5 : x / l * l = x - x % l := by
          have := Int.emod_def x l
          rw [Int.mul_comm] at this
          omega
        rw [← e, Int.fdiv_eq_ediv]
        by_cases hc : 0 ≤ l ∨ l ∣ x
        · rw [if_pos hc, Int.sub_zero, e5]
          have : x % l = 0 := Int.emod_eq_zero_of_dvd (hc.resolve_left (by omega))
          omega
        · rw [if_neg hc, Int.sub_mul, e5]
          omega
      exact Int.mul_nonneg_of_nonpos_of_nonpos h (by omega)
    · exact Int.mul_nonneg (Int.fmod_nonneg_of_pos x n) (by omega)
  · have h3 : (x.fdiv l * l).natAbs ≤ x.natAbs + l.natAbs := by omega
    rw [Int.natAbs_mul] at h3
    have h4 : 0 < l.natAbs := by omega
    generalize (x.fdiv l).natAbs = q at h3 ⊢
    generalize l.natAbs = b at h3 h4
    generalize x.natAbs = a at h3 ⊢
    apply Nat.le_of_not_lt
    intro hq
    have : (a + 1 + 1) * b ≤ q * b := Nat.mul_le_mul_right _ hq
    have e2 : (a + 1 + 1) * b = a * b + b + b := by rw [Nat.succ_mul, Nat.succ_mul]
    have e3 : a ≤ a * b := Nat.le_mul_of_pos_right _ h4
    omega
/-- the first row is the least of the round before; the others are its rests -/
structure Pot (a C M : Nat) (l' : Row) (os : List Row) : Prop where
  nz : l' a ≠ 0
  col : ∀ r, r ∈ l' :: os → ∀ j, a < j → (r j).natAbs ≤ M
  sgn : ∀ r ∈ os, 0 < r a * l' a ∧ (r a).natAbs < (l' a).natAbs
  le : M ≤ C
  pot : os ≠ [] → ∃ r ∈ os, M * (l' a).natAbs * (2 ^ os.length * (l' a).natAbs * (r a).natAbs) ≤ C
theorem sgn_trans {x y z : Int} (h1 : 0 < x * z) (h2 : 0 < y * z) : 0 < x * y := by
  have hz : z ≠ 0 := fun e => by rw [e, Int.mul_zero] at h1; omega
  rcases Int.lt_or_gt_of_ne hz with n | n
  · have a : x < 0 := by
      apply Int.lt_of_not_ge
      intro h
      have := Int.mul_nonpos_of_nonneg_of_nonpos h (Int.le_of_lt n)
      omega
    have b : y < 0 := by
      apply Int.lt_of_not_ge
      intro h
      have := Int.mul_nonpos_of_nonneg_of_nonpos h (Int.le_of_lt n)
      omega
    exact Int.mul_pos_of_neg_of_neg a b
  · have a : 0 < x := by
      apply Int.lt_of_not_ge
      intro h
      have := Int.mul_nonpos_of_nonpos_of_nonneg h (Int.le_of_lt n)
      omega
    have b : 0 < y := by
      apply Int.lt_of_not_ge
      intro h
      have := Int.mul_nonpos_of_nonpos_of_nonneg h (Int.le_of_lt n)
      omega
    exact Int.mul_pos a b
end Hm
namespace Hm
theorem abs_ls {r l : Row} {q : Int} {j M Q : Nat} (hr : (r j).natAbs ≤ M) (hl : (l j).natAbs ≤ M) (hq : q.natAbs ≤ Q) : (ls r l q j).natAbs ≤ M + Q * M := by
  show (r j - q * l j).natAbs ≤ _
  have h1 : (q * l j).natAbs ≤ Q * M := by
    rw [Int.natAbs_mul]
    exact Nat.mul_le_mul hq hl
  omega
theorem half {x l : Nat} (hl : 0 < l) (h : l ≤ x) : 2 * (x % l) ≤ x := by
  have h1 := Nat.mod_lt x hl
  have h2 := Nat.div_add_mod x l
  have h3 : 1 ≤ x / l := (Nat.one_le_div_iff hl).mpr h
  have h4 : l ≤ l * (x / l) := Nat.le_mul_of_pos_right _ h3
  omega
theorem nzr_mem {a : Nat} {rs : List Row} {r : Row} : r ∈ nzr a rs ↔ r ∈ rs ∧ r a ≠ 0 := by
  unfold nzr
  rw [List.mem_filter]
  simp
/-- a round: the greatest number grows, but not the potential -/
theorem pot_round {a C M : Nat} {l' l : Row} {os xs : List Row} (h : Pot a C M l' os) (ho : os ≠ []) (pm : (l :: xs).Perm (l' :: os)) (mn : ∀ r ∈ xs, (l a).natAbs ≤ (r a).natAbs) :
    ∃ M', Pot a C M' l (nzr a (xs.map fun r => ls r l ((r a).fdiv (l a)))) ∧ (∀ r ∈ xs, ∀ j, a < j → (ls r l ((r a).fdiv (l a)) j).natAbs ≤ M') ∧ M ≤ M' := by
  obtain ⟨s0, hs0, hp⟩ := h.pot ho
  have sq : 0 < l' a * l' a := by
    rcases Int.lt_or_gt_of_ne h.nz with n | n
    · exact Int.mul_pos_of_neg_of_neg n n
    · exact Int.mul_pos n n
  have all : ∀ r ∈ l' :: os, 0 < r a * l' a ∧ (r a).natAbs ≤ (l' a).natAbs := by
    intro r hr
    rcases List.mem_cons.mp hr with rfl | hr
    · exact ⟨sq, Nat.le_refl _⟩
    · exact ⟨(h.sgn r hr).1, Nat.le_of_lt (h.sgn r hr).2⟩
  have inx : ∀ r ∈ xs, r ∈ l' :: os := fun r hr => pm.mem_iff.mp (List.mem_cons_of_mem _ hr)
  have hl := all l (pm.mem_iff.mp List.mem_cons_self)
  have lz : l a ≠ 0 := fun z => by
    have := hl.1
    rw [z, Int.zero_mul] at this
    omega
  have l0 : 0 < (l a).natAbs := by omega
  have ls0 : (l a).natAbs ≤ (s0 a).natAbs := by
    rcases List.mem_cons.mp (pm.mem_iff.mpr (List.mem_cons_of_mem _ hs0)) with e | e
    · rw [e]
      exact Nat.le_refl _
    · exact mn s0 e
  have ll : (l a).natAbs < (l' a).natAbs := Nat.lt_of_le_of_lt ls0 (h.sgn s0 hs0).2
  have l'x : l' ∈ xs := by
    rcases List.mem_cons.mp (pm.mem_iff.mpr (List.mem_cons_self (a := l') (l := os))) with e | e
    · rw [e] at ll
      omega
    · exact e
  have len : xs.length = os.length := by
    have := pm.length_eq
    simpa using this
  have sd : ∀ r ∈ xs, 0 < r a * l a := fun r hr => sgn_trans (all r (inx r hr)).1 hl.1
  have colN : ∀ r ∈ xs, ∀ j, a < j → (ls r l ((r a).fdiv (l a)) j).natAbs ≤ M + (l' a).natAbs / (l a).natAbs * M := by
    intro r hr j hj
    refine abs_ls (h.col r (inx r hr) j hj) (h.col l (pm.mem_iff.mp List.mem_cons_self) j hj) ?_
    rw [(same_fdiv (sd r hr)).1, Int.natAbs_natCast]
    exact Nat.div_le_div_right (all r (inx r hr)).2
  have k1 : (M + (l' a).natAbs / (l a).natAbs * M) * (l a).natAbs ≤ 2 * (M * (l' a).natAbs) := by
    rw [Nat.add_mul, Nat.mul_right_comm]
    have h1 : M * (l a).natAbs ≤ M * (l' a).natAbs := Nat.mul_le_mul_left _ (Nat.le_of_lt ll)
    have h2 : (l' a).natAbs / (l a).natAbs * (l a).natAbs * M ≤ (l' a).natAbs * M := Nat.mul_le_mul_right _ (Nat.div_mul_le_self _ _)
    rw [Nat.mul_comm (l' a).natAbs M] at h2
    omega
  have rst : ∀ r ∈ xs, (ls r l ((r a).fdiv (l a)) a).natAbs = (r a).natAbs % (l a).natAbs := fun r hr => (same_fdiv (sd r hr)).2.1
  have n1 : 1 ≤ os.length := List.length_pos_iff.mpr ho
  have s1 : 1 ≤ (s0 a).natAbs := Nat.le_trans l0 ls0
  refine ⟨M + (l' a).natAbs / (l a).natAbs * M, ⟨lz, ?_, ?_, ?_, ?_⟩, colN, Nat.le_add_right _ _⟩
  · intro r hr j hj
    rcases List.mem_cons.mp hr with rfl | hr
    · exact Nat.le_trans (h.col r (pm.mem_iff.mp List.mem_cons_self) j hj) (Nat.le_add_right _ _)
    · obtain ⟨hm, _⟩ := nzr_mem.mp hr
      obtain ⟨x, hx, rfl⟩ := List.mem_map.mp hm
      exact colN x hx j hj
  · intro r hr
    obtain ⟨hm, hz⟩ := nzr_mem.mp hr
    obtain ⟨x, hx, rfl⟩ := List.mem_map.mp hm
    refine ⟨?_, by rw [rst x hx]; exact Nat.mod_lt _ l0⟩
    have g := (same_fdiv (sd x hx)).2.2
    have g2 : ls x l ((x a).fdiv (l a)) a * l a ≠ 0 := fun z => (Int.mul_eq_zero.mp z).elim hz lz
    have g3 : 0 ≤ ls x l ((x a).fdiv (l a)) a * l a := g
    omega
  · refine Nat.le_trans ?_ hp
    refine Nat.le_trans (Nat.le_mul_of_pos_right _ l0) (Nat.le_trans k1 ?_)
    rw [Nat.mul_comm]
    refine Nat.mul_le_mul_left _ ?_
    have p2 : 2 ≤ 2 ^ os.length := by
      have := Nat.pow_le_pow_right (n := 2) (by omega) n1
      simpa using this
    have l1 : 1 ≤ (l' a).natAbs := by omega
    calc 2 ≤ 2 ^ os.length := p2
      _ ≤ 2 ^ os.length * (l' a).natAbs := Nat.le_mul_of_pos_right _ l1
      _ ≤ _ := Nat.le_mul_of_pos_right _ s1
  · intro hne
    have grow : ∀ (m r0 : Nat), 2 * (2 ^ m * ((l a).natAbs * r0)) ≤ 2 ^ os.length * ((s0 a).natAbs * (l' a).natAbs) → (M + (l' a).natAbs / (l a).natAbs * M) * (l a).natAbs * (2 ^ m * (l a).natAbs * r0) ≤ C := by
      intro m r0 hm
      refine Nat.le_trans (Nat.mul_le_mul_right _ k1) (Nat.le_trans ?_ hp)
      rw [Nat.mul_comm 2, Nat.mul_assoc (M * (l' a).natAbs) 2]
      refine Nat.mul_le_mul_left _ ?_
      rw [Nat.mul_assoc (2 ^ m), Nat.mul_assoc (2 ^ os.length), Nat.mul_comm (l' a).natAbs]
      exact hm
    by_cases hlt : (nzr a (xs.map fun r => ls r l ((r a).fdiv (l a)))).length < os.length
    · obtain ⟨r0, hr0⟩ := List.exists_mem_of_ne_nil _ hne
      refine ⟨r0, hr0, grow _ _ ?_⟩
      obtain ⟨hm, _⟩ := nzr_mem.mp hr0
      obtain ⟨x, hx, rfl⟩ := List.mem_map.mp hm
      have e1 : (ls x l ((x a).fdiv (l a)) a).natAbs ≤ (l' a).natAbs := by
        rw [rst x hx]
        have := Nat.mod_lt (x a).natAbs l0
        omega
      rw [← Nat.mul_assoc, ← Nat.pow_succ']
      exact Nat.mul_le_mul (Nat.pow_le_pow_right (by omega) hlt) (Nat.mul_le_mul ls0 e1)
    · have full : (nzr a (xs.map fun r => ls r l ((r a).fdiv (l a)))).length = os.length := by
        have h1 : (nzr a (xs.map fun r => ls r l ((r a).fdiv (l a)))).length ≤ (xs.map fun r => ls r l ((r a).fdiv (l a))).length := List.length_filter_le _ _
        rw [List.length_map] at h1
        omega
      have none0 : ∀ r ∈ (xs.map fun r => ls r l ((r a).fdiv (l a))), r a ≠ 0 := by
        have e : (nzr a (xs.map fun r => ls r l ((r a).fdiv (l a)))).length = (xs.map fun r => ls r l ((r a).fdiv (l a))).length := by
          rw [List.length_map]
          omega
        intro r hr
        have := List.length_filter_eq_length_iff.mp e r hr
        simpa using this
      have lin : ls l' l ((l' a).fdiv (l a)) ∈ (xs.map fun r => ls r l ((r a).fdiv (l a))) := List.mem_map.mpr ⟨l', l'x, rfl⟩
      refine ⟨ls l' l ((l' a).fdiv (l a)), nzr_mem.mpr ⟨lin, none0 _ lin⟩, grow _ _ ?_⟩
      rw [full, Nat.mul_left_comm]
      refine Nat.mul_le_mul_left _ ?_
      rw [Nat.mul_left_comm, rst l' l'x]
      exact Nat.mul_le_mul ls0 (half l0 (Nat.le_of_lt ll))
end Hm
namespace Hm
/-- the first round: rows of any sign -/
theorem pot_first {a B M : Nat} {l : Row} {xs : List Row} (lz : l a ≠ 0) (hB : ∀ r ∈ l :: xs, (r a).natAbs ≤ B) (hM : ∀ r ∈ l :: xs, ∀ j, a < j → (r j).natAbs ≤ M) :
    Pot a ((M + (B + 1) * M) * B * (2 ^ xs.length * B * B)) (M + (B + 1) * M) l (nzr a (xs.map fun r => ls r l ((r a).fdiv (l a)))) ∧ ∀ r ∈ xs, ∀ j, a < j → (ls r l ((r a).fdiv (l a)) j).natAbs ≤ M + (B + 1) * M := by
  have colN : ∀ r ∈ xs, ∀ j, a < j → (ls r l ((r a).fdiv (l a)) j).natAbs ≤ M + (B + 1) * M := by
    intro r hr j hj
    refine abs_ls (hM r (List.mem_cons_of_mem _ hr) j hj) (hM l List.mem_cons_self j hj) ?_
    have h1 := (rest_sign (x := r a) lz).2.2
    have h2 := hB r (List.mem_cons_of_mem _ hr)
    omega
  have b1 : 1 ≤ B := by
    have := hB l List.mem_cons_self
    omega
  refine ⟨⟨lz, ?_, ?_, ?_, ?_⟩, colN⟩
  · intro r hr j hj
    rcases List.mem_cons.mp hr with rfl | hr
    · exact Nat.le_trans (hM r List.mem_cons_self j hj) (Nat.le_add_right _ _)
    · obtain ⟨hm, _⟩ := nzr_mem.mp hr
      obtain ⟨x, hx, rfl⟩ := List.mem_map.mp hm
      exact colN x hx j hj
  · intro r hr
    obtain ⟨hm, hz⟩ := nzr_mem.mp hr
    obtain ⟨x, hx, rfl⟩ := List.mem_map.mp hm
    obtain ⟨g, g1, _⟩ := rest_sign (x := x a) lz
    refine ⟨?_, g1⟩
    have g2 : ls x l ((x a).fdiv (l a)) a * l a ≠ 0 := fun z => (Int.mul_eq_zero.mp z).elim hz lz
    have g3 : 0 ≤ ls x l ((x a).fdiv (l a)) a * l a := g
    omega
  · have p : 0 < 2 ^ xs.length * B * B := Nat.mul_pos (Nat.mul_pos (Nat.pow_pos (by omega)) b1) b1
    exact Nat.le_trans (Nat.le_mul_of_pos_right _ b1) (Nat.le_mul_of_pos_right _ p)
  · intro hne
    obtain ⟨r0, hr0⟩ := List.exists_mem_of_ne_nil _ hne
    refine ⟨r0, hr0, ?_⟩
    obtain ⟨hm, _⟩ := nzr_mem.mp hr0
    obtain ⟨x, hx, rfl⟩ := List.mem_map.mp hm
    have e0 : (l a).natAbs ≤ B := hB l List.mem_cons_self
    have e1 : (ls x l ((x a).fdiv (l a)) a).natAbs ≤ B := by
      have := (rest_sign (x := x a) lz).2.1
      show (x a - (x a).fdiv (l a) * l a).natAbs ≤ B
      omega
    have e2 : (nzr a (xs.map fun r => ls r l ((r a).fdiv (l a)))).length ≤ xs.length := by
      have h1 : (nzr a (xs.map fun r => ls r l ((r a).fdiv (l a)))).length ≤ (xs.map fun r => ls r l ((r a).fdiv (l a))).length := List.length_filter_le _ _
      rw [List.length_map] at h1
      exact h1
    exact Nat.mul_le_mul (Nat.mul_le_mul_left _ e0) (Nat.mul_le_mul (Nat.mul_le_mul (Nat.pow_le_pow_right (by omega) e2) e0) e1)
/-! the law's way: one row is reduced by the one that is kept -/
/-- what stands crosswise in two rows -/
def crs (a j : Nat) (h r : Row) : Nat := (h j).natAbs * (r a).natAbs + (r j).natAbs * (h a).natAbs
theorem crs_swap (a j : Nat) (h r : Row) : crs a j h r = crs a j r h := Nat.add_comm _ _
/-- the multiple that is taken away: the row's number by the kept one's without its sign, with the kept one's sign -/
def tms (x h : Int) : Int := if 0 < h then x.fdiv (max 1 (h.natAbs : Int)) else -(x.fdiv (max 1 (h.natAbs : Int)))
theorem tms_abs {x h : Int} (hh : h ≠ 0) : (tms x h).natAbs = (x.fdiv (h.natAbs : Int)).natAbs ∧ x - tms x h * h = x - x.fdiv (h.natAbs : Int) * (h.natAbs : Int) := by
  have e : max 1 (h.natAbs : Int) = (h.natAbs : Int) := by omega
  unfold tms
  rw [e]
  by_cases hp : 0 < h
  · rw [if_pos hp]
    have e2 : (h.natAbs : Int) = h := by omega
    rw [e2]
    exact ⟨rfl, rfl⟩
  · rw [if_neg hp, Int.natAbs_neg]
    refine ⟨rfl, ?_⟩
    have e2 : (h.natAbs : Int) = -h := by omega
    rw [e2, Int.mul_neg, Int.neg_mul]
/-- a step at a row that leads with a positive number: what stands crosswise does not grow -/
theorem crs_pos {a j : Nat} {h r : Row} (hh : h a ≠ 0) (hr : 0 ≤ r a) : crs a j h (ls r h (tms (r a) (h a))) ≤ crs a j h r ∧ 0 ≤ ls r h (tms (r a) (h a)) a ∧ (ls r h (tms (r a) (h a)) a).natAbs < (h a).natAbs := by
  obtain ⟨t1, t2⟩ := tms_abs (x := r a) hh
  have h0 : 0 < (h a).natAbs := by omega
  obtain ⟨x, hx⟩ : ∃ x : Nat, r a = (x : Int) := ⟨(r a).natAbs, by omega⟩
  have fd : (r a).fdiv ((h a).natAbs : Int) = ((x / (h a).natAbs : Nat) : Int) := by
    rw [hx, Int.fdiv_eq_ediv_of_nonneg _ (by omega)]
    rfl
  have la : ls r h (tms (r a) (h a)) a = ((x % (h a).natAbs : Nat) : Int) := by
    show r a - tms (r a) (h a) * h a = _
    rw [t2, fd, hx]
    have e := Nat.div_add_mod x (h a).natAbs
    have e2 : (((h a).natAbs * (x / (h a).natAbs) + x % (h a).natAbs : Nat) : Int) = (x : Int) := by rw [e]
    rw [Int.natCast_add, Int.natCast_mul, Int.mul_comm] at e2
    omega
  refine ⟨?_, by rw [la]; exact Int.natCast_nonneg _, by rw [la, Int.natAbs_natCast]; exact Nat.mod_lt _ h0⟩
  unfold crs
  rw [la, Int.natAbs_natCast]
  have e3 : (ls r h (tms (r a) (h a)) j).natAbs ≤ (r j).natAbs + x / (h a).natAbs * (h j).natAbs := by
    show (r j - tms (r a) (h a) * h j).natAbs ≤ _
    have : (tms (r a) (h a) * h j).natAbs = x / (h a).natAbs * (h j).natAbs := by rw [Int.natAbs_mul, t1, fd, Int.natAbs_natCast]
    omega
  have e4 : (r a).natAbs = (h a).natAbs * (x / (h a).natAbs) + x % (h a).natAbs := by
    rw [hx, Int.natAbs_natCast]
    exact (Nat.div_add_mod _ _).symm
  rw [e4, Nat.mul_add]
  have e5 : (ls r h (tms (r a) (h a)) j).natAbs * (h a).natAbs ≤ ((r j).natAbs + x / (h a).natAbs * (h j).natAbs) * (h a).natAbs := Nat.mul_le_mul_right _ e3
  have e6 : ((r j).natAbs + x / (h a).natAbs * (h j).natAbs) * (h a).natAbs = (r j).natAbs * (h a).natAbs + (h j).natAbs * ((h a).natAbs * (x / (h a).natAbs)) := by
    rw [Nat.add_mul]
    congr 1
    rw [Nat.mul_comm (x / (h a).natAbs), Nat.mul_assoc, Nat.mul_comm (x / (h a).natAbs)]
  omega
end Hm
namespace Hm
/-- a step at a row that leads with a negative number: at most threefold, and it leads with a positive one (or zero) then -/
theorem crs_neg {a j : Nat} {h r : Row} (hh : h a ≠ 0) (hle : (h a).natAbs ≤ (r a).natAbs) (hr : r a < 0) : crs a j h (ls r h (tms (r a) (h a))) ≤ 3 * crs a j h r ∧ 0 ≤ ls r h (tms (r a) (h a)) a ∧ (ls r h (tms (r a) (h a)) a).natAbs < (h a).natAbs := by
  obtain ⟨t1, t2⟩ := tms_abs (x := r a) hh
  have hb : ((h a).natAbs : Int) ≠ 0 := by omega
  obtain ⟨g1, g2, _⟩ := rest_sign (x := r a) hb
  rw [Int.natAbs_natCast] at g2
  have la : ls r h (tms (r a) (h a)) a = r a - (r a).fdiv ((h a).natAbs : Int) * ((h a).natAbs : Int) := t2
  have nn : 0 ≤ r a - (r a).fdiv ((h a).natAbs : Int) * ((h a).natAbs : Int) := by
    apply Int.not_lt.mp
    intro z
    have := Int.mul_neg_of_neg_of_pos z (show (0 : Int) < ((h a).natAbs : Int) by omega)
    omega
  have qa : (tms (r a) (h a)).natAbs * (h a).natAbs ≤ (r a).natAbs + (h a).natAbs := by
    rw [t1]
    have e : ((r a).fdiv ((h a).natAbs : Int) * ((h a).natAbs : Int)).natAbs = ((r a).fdiv ((h a).natAbs : Int)).natAbs * (h a).natAbs := by rw [Int.natAbs_mul, Int.natAbs_natCast]
    rw [← e]
    omega
  refine ⟨?_, by rw [la]; exact nn, by rw [la]; exact g2⟩
  unfold crs
  have e1 : (ls r h (tms (r a) (h a)) a).natAbs ≤ (r a).natAbs := by rw [la]; omega
  have e3 : (ls r h (tms (r a) (h a)) j).natAbs ≤ (r j).natAbs + (tms (r a) (h a)).natAbs * (h j).natAbs := by
    show (r j - tms (r a) (h a) * h j).natAbs ≤ _
    have : (tms (r a) (h a) * h j).natAbs = (tms (r a) (h a)).natAbs * (h j).natAbs := Int.natAbs_mul _ _
    omega
  have e5 : (ls r h (tms (r a) (h a)) j).natAbs * (h a).natAbs ≤ (r j).natAbs * (h a).natAbs + (tms (r a) (h a)).natAbs * (h a).natAbs * (h j).natAbs := by
    have z := Nat.mul_le_mul_right (h a).natAbs e3
    rw [Nat.add_mul, Nat.mul_right_comm] at z
    exact z
  have e6 : (tms (r a) (h a)).natAbs * (h a).natAbs * (h j).natAbs ≤ ((r a).natAbs + (r a).natAbs) * (h j).natAbs := Nat.mul_le_mul_right _ (Nat.le_trans qa (Nat.add_le_add_left hle _))
  have e7 : (h j).natAbs * (ls r h (tms (r a) (h a)) a).natAbs ≤ (h j).natAbs * (r a).natAbs := Nat.mul_le_mul_left _ e1
  rw [Nat.add_mul, Nat.mul_comm (r a).natAbs] at e6
  omega
/-- how many of two numbers are negative -/
def ngs (x y : Int) : Nat := (if x < 0 then 1 else 0) + (if y < 0 then 1 else 0)
/-- the chain of two rows in a column -/
structure Chn (a D : Nat) (h r : Row) : Prop where
  hz : h a ≠ 0
  rz : r a ≠ 0
  cr : ∀ j, a < j → crs a j h r * 3 ^ ngs (h a) (r a) ≤ D
theorem Chn.swap {a D : Nat} {h r : Row} (c : Chn a D h r) : Chn a D r h := ⟨c.rz, c.hz, fun j hj => by
  have z := c.cr j hj
  rw [crs_swap, show ngs (h a) (r a) = ngs (r a) (h a) from Nat.add_comm _ _] at z
  exact z⟩
/-- what a chain's rows hold -/
theorem Chn.le {a D : Nat} {h r : Row} (c : Chn a D h r) {j : Nat} (hj : a < j) : (h j).natAbs ≤ D ∧ (r j).natAbs ≤ D := by
  have z := Nat.le_trans (Nat.le_mul_of_pos_right _ (Nat.pow_pos (n := ngs (h a) (r a)) (show 0 < 3 by omega))) (c.cr j hj)
  have h1 : 0 < (h a).natAbs := by have := c.hz; omega
  have r1 : 0 < (r a).natAbs := by have := c.rz; omega
  unfold crs at z
  have e1 : (h j).natAbs ≤ (h j).natAbs * (r a).natAbs := Nat.le_mul_of_pos_right _ r1
  have e2 : (r j).natAbs ≤ (r j).natAbs * (h a).natAbs := Nat.le_mul_of_pos_right _ h1
  omega
/-- a step of a chain: it goes on, or the row leaves the column -/
theorem Chn.step {a D : Nat} {h r : Row} (c : Chn a D h r) (hle : (h a).natAbs ≤ (r a).natAbs) :
    (∀ j, a < j → (ls r h (tms (r a) (h a)) j).natAbs ≤ D) ∧ (ls r h (tms (r a) (h a)) a).natAbs < (h a).natAbs ∧ (ls r h (tms (r a) (h a)) a ≠ 0 → Chn a D h (ls r h (tms (r a) (h a)))) := by
  have h1 : 0 < (h a).natAbs := by have := c.hz; omega
  have key : ∀ j, a < j → crs a j h (ls r h (tms (r a) (h a))) * 3 ^ ngs (h a) (ls r h (tms (r a) (h a)) a) ≤ D := by
    intro j hj
    refine Nat.le_trans ?_ (c.cr j hj)
    by_cases hr : r a < 0
    · obtain ⟨k1, k2, _⟩ := crs_neg (j := j) c.hz hle hr
      have e1 : ngs (h a) (r a) = (if h a < 0 then 1 else 0) + 1 := by unfold ngs; rw [if_pos hr]
      have n0 : ¬ (ls r h (tms (r a) (h a)) a < 0) := Int.not_lt.mpr k2
      have e2 : ngs (h a) (ls r h (tms (r a) (h a)) a) = (if h a < 0 then 1 else 0) := by unfold ngs; rw [if_neg n0, Nat.add_zero]
      rw [e1, e2, Nat.pow_succ, ← Nat.mul_assoc, Nat.mul_right_comm]
      refine Nat.mul_le_mul_right _ ?_
      omega
    · obtain ⟨k1, k2, _⟩ := crs_pos (j := j) c.hz (by omega : 0 ≤ r a)
      have n0 : ¬ (ls r h (tms (r a) (h a)) a < 0) := Int.not_lt.mpr k2
      have e2 : ngs (h a) (ls r h (tms (r a) (h a)) a) = ngs (h a) (r a) := by unfold ngs; rw [if_neg n0, if_neg hr]
      rw [e2]
      exact Nat.mul_le_mul_right _ k1
  have sm : (ls r h (tms (r a) (h a)) a).natAbs < (h a).natAbs := by
    by_cases hr : r a < 0
    · exact (crs_neg (j := a) c.hz hle hr).2.2
    · exact (crs_pos (j := a) c.hz (by omega)).2.2
  refine ⟨fun j hj => ?_, sm, fun hz => ⟨c.hz, hz, key⟩⟩
  have z := Nat.le_trans (Nat.le_mul_of_pos_right _ (Nat.pow_pos (n := ngs (h a) (ls r h (tms (r a) (h a)) a)) (show 0 < 3 by omega))) (key j hj)
  unfold crs at z
  have e2 : (ls r h (tms (r a) (h a)) j).natAbs ≤ (ls r h (tms (r a) (h a)) j).natAbs * (h a).natAbs := Nat.le_mul_of_pos_right _ h1
  omega
/-- a chain's beginning -/
theorem chn_start {a B M : Nat} {h r : Row} (hz : h a ≠ 0) (rz : r a ≠ 0) (h1 : (h a).natAbs ≤ B) (r1 : (r a).natAbs ≤ B) (hM : ∀ j, a < j → (h j).natAbs ≤ M ∧ (r j).natAbs ≤ M) : Chn a (18 * (B * M)) h r := by
  refine ⟨hz, rz, fun j hj => ?_⟩
  obtain ⟨m1, m2⟩ := hM j hj
  have c1 : crs a j h r ≤ 2 * (B * M) := by
    unfold crs
    have e1 : (h j).natAbs * (r a).natAbs ≤ M * B := Nat.mul_le_mul m1 r1
    have e2 : (r j).natAbs * (h a).natAbs ≤ M * B := Nat.mul_le_mul m2 h1
    rw [Nat.mul_comm M B] at e1 e2
    omega
  have c2 : 3 ^ ngs (h a) (r a) ≤ 9 := by
    have : ngs (h a) (r a) ≤ 2 := by
      unfold ngs
      split <;> split <;> omega
    exact Nat.le_trans (Nat.pow_le_pow_right (by omega) this) (by decide)
  have z := Nat.mul_le_mul c1 c2
  omega
end Hm
set_option maxRecDepth 100000
set_option maxHeartbeats 2000000
namespace KT
open PySem PySem.Spec PyProof.Rows L2
def top (i : Nat) : Stmt := PySem.Challenge.pw_roundswap_k31_steps_that_are_applied.main.body.getD i (.Pass ⟨0, 0, 0, 0⟩)
abbrev sNormal : Stmt := top 36
abbrev sSwept : Stmt := top 37
abbrev sPositive : Stmt := top 38
abbrev sLess : Stmt := top 39
abbrev sLead : Stmt := top 41
abbrev sDiag : Stmt := top 42
abbrev sIndex : Stmt := top 43
theorem scLess : FnScope ["row", "other", "times", "number", "taken"] ["row", "other", "times"] (defScope sLess) := ⟨rfl, rfl, rfl, by decide +kernel, rfl, by decide +kernel, by decide +kernel⟩
theorem scPositive : FnScope ["row", "at", "number"] ["row", "at"] (defScope sPositive) := ⟨rfl, rfl, rfl, by decide +kernel, rfl, by decide +kernel, by decide +kernel⟩
theorem same_new {H : Hp} {p : Addr} {o : HO} (h : H p = none) : Same H (upd H p o) := fun b u e => by
  rw [upd_ne (ne_of_none e h)]
  exact e
structure Bn (mg : Str → Option Value) : Prop where
  tuple : mg "tuple" = none
  zip : mg "zip" = none
  abs : mg "abs" = none
  sorted : mg "sorted" = none
  range : mg "range" = none
  len : mg "len" = none
  list : mg "list" = none
/-- a row: a tuple of ints -/
def RowAt (K : PySem.W.Frag) (H : Hp) (a : Addr) (r : List Int) : Prop := SqT K H a (r.map V.int)
def spLess (K : PySem.W.Frag) : Sp := fun vs H Q _ => ∃ (a b : Addr) (r o : List Int) (t : Int), vs = [.ref a, .ref b, .int t] ∧ RowAt K H a r ∧ RowAt K H b o ∧ r.length = o.length ∧ r.length ≤ 3 ∧ (∀ y ∈ o, CMulW t y) ∧
  ∀ H' p, Same H H' → H p = none → H' p = some (.tup ((Hm.lsl r o t).map V.int)) → Q (.ref p) H'
section
variable {P : Program} {w : World} {K : PySem.W.Frag} {mg : Str → Option Value} {base : Heap}
theorem ok_less {f : Addr} {fd : FuncData} {k : Nat} (F : Fun K "less" "less" sLess f fd) (B : Bn mg) : FnOk P w K mg base CX0 (k + 1) f fd ["row", "other", "times"] (spLess K) := by
  refine F.ok scLess (fun vs H Q E h => ?_) (fun cdv A outer s H vs Q E hr h => ?_)
  · obtain ⟨a, b, r, o, t, rfl, _⟩ := h
    rfl
  · obtain ⟨a, b, r, o, t, rfl, ha, hb, hl, h3, hm, q⟩ := h
    refine ⟨_, pss_one (ps_ret (pe_callTy call_tuple_of (by rfl) B.tuple boot_tuple (pa_cons (pe_lc (own := [("number", 3), ("taken", 4)]) (g := gTup K 2 (gCons (gName 3) (gCons (gName 4) gNil))) (tt := tYes) rfl scLess.nd (RZ.pi_zipA (by rfl) B.zip (pa_cons (pv 0) (pa_cons (pv 1) pa_nil)))
      (blkOk_by (N := ["row", "other", "times", "number", "taken"]) (sc := defScope sLess) (by decide +kernel)) (fun _ _ _ _ _ => pg_tup rfl (pgs_cons (pg_name (i := 3) scLess.nd rfl (Or.inl rfl)) (pgs_cons (pg_name (i := 4) scLess.nd rfl (Or.inl rfl)) pgs_nil))) (fun _ _ _ _ _ => pts_nil)
      (fun _ _ _ _ _ => pe_op op_sub (pv 3) (pe_op op_mulW (pv 2) (pv 4)))) pa_nil))), ?_⟩
    refine ⟨_, rfl, _, rfl, a, b, _, _, rfl, .inr ⟨ha, hb, fun D nD => ?_⟩⟩
    refine Rs.lc_zipT (σ := [some (.ref a), some (.ref b), some (.int t), none, none]) (i := 3) (j := 4) (by rw [List.length_map, List.length_map, hl]) (fun x y => match x, y with | .int x, .int y => .int (x - t * y) | x, _ => x) (by rw [List.length_map]; exact Nat.lt_of_le_of_lt h3 (by decide)) nD ha hb ?_ ?_
    · intro n x y H2 Q2 hx hy _ h
      rw [List.getElem?_map] at hx hy
      obtain ⟨x0, hx0, rfl⟩ := Option.map_eq_some_iff.mp hx
      obtain ⟨y0, hy0, rfl⟩ := Option.map_eq_some_iff.mp hy
      exact ⟨_, rfl, _, rfl, _, rfl, _, _, rfl, rfl, hm y0 (List.mem_of_getElem? hy0), _, _, rfl, rfl, h H2 (fun _ _ e => e)⟩
    · intro H2 s2 hD
      have s2 : Same H H2 := s2
      refine ⟨D, _, rfl, .inl ⟨SqL.of hD, fun p2 np2 => ?_⟩⟩
      have e : ∀ r o : List Int, List.zipWith (fun x y => match x, y with | V.int x, V.int y => V.int (x - t * y) | x, _ => x) (r.map V.int) (o.map V.int) = (Hm.lsl r o t).map V.int := by
        intro r
        induction r with
        | nil => intro o; rfl
        | cons x r ih =>
          intro o
          cases o with
          | nil => rfl
          | cons y o =>
            show V.int (x - t * y) :: _ = V.int (x - t * y) :: _
            congr 1
            exact ih o
      rw [e]
      refine q _ p2 (s2.trans (same_new np2)) ?_ upd_same
      cases hp : H p2 with
      | none => rfl
      | some u =>
        rw [s2 _ _ hp] at np2
        cases np2
end
end KT
set_option maxRecDepth 100000
set_option maxHeartbeats 2000000
namespace KT
open PySem PySem.Spec PyProof.Rows L2
theorem take_more {α : Type} {l : List α} {i : Nat} {x : α} (h : l[i]? = some x) : l.take (i + 1) = l.take i ++ [x] := by
  rw [List.take_add_one, h]
  rfl
theorem lc_pure {J : It} {G : Hp → Prop} {xs : List V} (w : Walk J xs.length G (YAt xs)) {tt : TT} {te : TE} {σ : L2.St} {i : Nat} {H1 : Hp} {D : Addr} {Qd : Hp → Prop} (f : V → V) (keep : V → Bool) (hlen : xs.length < sizeLine) (hD : H1 D = none)
    (hG : ∀ H2, Same H1 H2 → G H2)
    (ht : ∀ x H2 Q, x ∈ xs → Same H1 H2 → Q (keep x) H2 → tt ((σ.set i none).set i (some x)) H2 Q)
    (he : ∀ x H2 Q, x ∈ xs → keep x = true → Same H1 H2 → (∀ H3, Same H2 H3 → Q (f x) H3) → te ((σ.set i none).set i (some x)) H2 Q)
    (hd : ∀ H2, Same H1 H2 → H2 D = some (.lst ((xs.filter keep).map f)) → Qd H2) :
    ∃ W : Nat → Nat → Hp → Prop, (∃ m, W 0 m (upd H1 D (.lst []))) ∧ ∀ j m H, W j m H →
      (J.stop j H ∧ Qd H) ∨ (J.go j H ∧ ∃ Nx : Hp → Prop, (∀ H', Nx H' → ∃ m', m' < m ∧ W (j + 1) m' H') ∧ ∀ x H', J.yld j H x H' → gName i x (wipe σ [i]) H' fun σ2 H2 => wipe σ2 [i] = wipe σ [i] ∧ tt σ2 H2 fun b H3 =>
        if b = true then te σ2 H3 fun v H4 => ∃ ac, H4 D = some (.lst ac) ∧ ac.length < sizeLine ∧ Nx (upd H4 D (.lst (ac ++ [v]))) else Nx H3) := by
  refine lc_it w (fun j H2 => Same H1 H2 ∧ H2 D = some (.lst (((xs.take j).filter keep).map f))) ⟨same_new hD, upd_same⟩ (fun j H2 _ h => hG H2 h.1) ?_ (fun H2 h => hd H2 h.1 (by have z := h.2; rw [List.take_length] at z; exact z))
  rintro j x H2 H2' hj ⟨sm, hd2⟩ ⟨rfl, hx⟩
  have hm : x ∈ xs := List.mem_of_getElem? hx
  refine ⟨?_, ?_⟩
  · show (((σ.set i none).set i (some x)).set i none) = σ.set i none
    rw [List.set_set, List.set_set]
  · refine ht x _ _ hm sm ?_
    have tk := take_more hx
    cases hk : keep x with
    | true =>
      refine iteT (he x _ _ hm hk sm fun H3 s3 => ⟨_, s3 _ _ hd2, ?_, ?_, ?_⟩)
      · rw [List.length_map]
        exact Nat.lt_of_le_of_lt (Nat.le_trans (List.length_filter_le _ _) (by rw [List.length_take]; omega)) hlen
      · intro b o e
        rw [upd_ne (ne_of_none e hD)]
        exact s3 _ _ (sm _ _ e)
      · rw [upd_same, tk, List.filter_append, List.map_append]
        simp [hk]
    | false =>
      refine iteF ⟨sm, ?_⟩
      rw [hd2, tk, List.filter_append]
      simp [hk]
/-- a row with its number at n positive -/
def sgl (r : List Int) (n : Nat) : List Int := if 0 < r.getD n 0 then r else r.map fun x => -x
theorem fn_sgl (r : List Int) (n : Nat) : Hm.fn (sgl r n) = Hm.sgd (Hm.fn r) n := by
  unfold sgl Hm.sgd
  have e : Hm.fn r n = r.getD n 0 := rfl
  rw [e]
  split
  · rfl
  · funext j
    show (r.map fun x => -x).getD j 0 = -1 * r.getD j 0
    rw [List.getD_eq_getElem?_getD, List.getD_eq_getElem?_getD, List.getElem?_map]
    cases r[j]? with
    | none => rfl
    | some x =>
      show -x = -1 * x
      omega
theorem sgl_len (r : List Int) (n : Nat) : (sgl r n).length = r.length := by
  unfold sgl
  split
  · rfl
  · rw [List.length_map]
theorem row_at {r : List Int} {n : Nat} (h : n < r.length) : atI (r.map V.int) (n : Int) = some (.int (r.getD n 0)) := by
  refine atI_nat ?_
  rw [List.getElem?_map, List.getElem?_eq_getElem h, List.getD_eq_getElem?_getD, List.getElem?_eq_getElem h]
  rfl
def spPos (K : PySem.W.Frag) : Sp := fun vs H Q _ => ∃ (a : Addr) (r : List Int) (n : Nat), vs = [.ref a, .int (n : Nat)] ∧ RowAt K H a r ∧ n < r.length ∧ r.length ≤ 3 ∧ ∀ H' p, Same H H' → RowAt K H' p (sgl r n) → Q (.ref p) H'
section
variable {P : Program} {w : World} {K : PySem.W.Frag} {mg : Str → Option Value} {base : Heap}
theorem ok_pos {f : Addr} {fd : FuncData} {k : Nat} (F : Fun K "with_positive" "with_positive" sPositive f fd) (B : Bn mg) : FnOk P w K mg base CX0 (k + 1) f fd ["row", "at"] (spPos K) := by
  refine F.ok scPositive (fun vs H Q E h => ?_) (fun cdv A outer s H vs Q E hr h => ?_)
  · obtain ⟨a, r, n, rfl, _⟩ := h
    rfl
  · obtain ⟨a, r, n, rfl, ha, hn, h3, q⟩ := h
    refine ⟨_, pss_cons (ps_if (pt_cmpR op_gt (pe_ix ix_tup (pv 0) (pv 1) (fun _ _ => rfl)) pe_int (nomark _)) (pss_one (ps_ret (pv 0))) pss_nil)
      (pss_one (ps_ret (pe_callTy call_tuple_of (by rfl) B.tuple boot_tuple (pa_cons (pe_lc (own := [("number", 2)]) (g := gName 2) (tt := tYes) rfl scPositive.nd (pi_tup (pv 0))
        (blkOk_by (N := ["row", "at", "number"]) (sc := defScope sPositive) (by decide +kernel)) (fun _ _ _ _ _ => pg_name (i := 2) scPositive.nd rfl (Or.inl rfl)) (fun _ _ _ _ _ => pts_nil)
        (fun _ _ _ _ _ => pe_un un_neg (pv 2))) pa_nil)))), ?_⟩
    refine ⟨_, rfl, _, rfl, a, _, (n : Int), _, rfl, rfl, ha, row_at hn, _, _, rfl, rfl, _, rfl, ?_⟩
    by_cases hp : 0 < r.getD n 0
    · rw [decide_eq_true hp]
      refine iteT ⟨_, rfl, ?_⟩
      refine q H a (Same.refl _) ?_
      unfold sgl
      rw [if_pos hp]
      exact ha
    · rw [decide_eq_false hp]
      refine iteF ?_
      refine ⟨_, rfl, a, rfl, ⟨_, ha⟩, fun D nD => ?_⟩
      refine lc_pure walk_tup (σ := [some (.ref a), some (.int (n : Nat)), none]) (i := 2) (fun v => match v with | .int x => .int (-x) | v => v) (fun _ => true) (by rw [List.length_map]; exact Nat.lt_of_le_of_lt h3 (by decide)) nD (fun H2 s2 => Rs.sqT_ext s2 ha) (fun x H2 Q _ _ h => h) ?_ ?_
      · intro x H2 Q2 hx _ _ h
        obtain ⟨c, hc, rfl⟩ := List.mem_map.mp hx
        exact ⟨_, rfl, _, rfl, h H2 (Same.refl _)⟩
      · intro H2 s2 hD
        refine ⟨D, _, rfl, .inl ⟨SqL.of hD, fun p2 np2 => ?_⟩⟩
        refine q _ p2 (s2.trans (same_new np2)) (SqT.of ?_)
        rw [upd_same, List.filter_eq_self.mpr (by simp), List.map_map]
        unfold sgl
        rw [if_neg hp, List.map_map]
        rfl
end
end KT
set_option maxRecDepth 100000
set_option maxHeartbeats 2000000
namespace KT
open PySem PySem.Spec PyProof.Rows L2
theorem scLead : FnScope ["row", "number"] ["row"] (defScope sLead) := ⟨rfl, rfl, rfl, by decide +kernel, rfl, by decide +kernel, by decide +kernel⟩
/-- a row begins at n -/
def BegL (r : List Int) (n : Nat) : Prop := n < r.length ∧ r.getD n 0 ≠ 0 ∧ ∀ m, m < n → r.getD m 0 = 0
def spLead (K : PySem.W.Frag) : Sp := fun vs H Q _ => ∃ (a : Addr) (r : List Int) (n : Nat), vs = [.ref a] ∧ RowAt K H a r ∧ BegL r n ∧ r.length ≤ 3 ∧ ∀ H', Same H H' → Q (.int (n : Nat)) H'
section
variable {P : Program} {w : World} {K : PySem.W.Frag} {mg : Str → Option Value} {base : Heap}
theorem ok_lead {f : Addr} {fd : FuncData} {k : Nat} (F : Fun K "lead_at" "lead_at" sLead f fd) : FnOk P w K mg base CX0 (k + 1) f fd ["row"] (spLead K) := by
  refine F.ok scLead (fun vs H Q E h => ?_) (fun cdv A outer s H vs Q E hr h => ?_)
  · obtain ⟨a, r, n, rfl, _⟩ := h
    rfl
  · obtain ⟨a, r, n, rfl, ha, hn, h3, q⟩ := h
    refine ⟨_, pss_one (ps_ret (pe_bm PySem.F.plainAttrs_list PySem.F.slot_list_index PySem.F.type_list_index mt_index (pe_lc (own := [("number", 1)]) (g := gName 1) (tt := tYes) rfl scLead.nd (pi_tup (pv 0))
        (blkOk_by (N := ["row", "number"]) (sc := defScope sLead) (by decide +kernel)) (fun _ _ _ _ _ => pg_name (i := 1) scLead.nd rfl (Or.inl rfl)) (fun _ _ _ _ _ => pts_nil)
        (fun _ _ _ _ _ => pe_cmpR op_ne (pv 1) pe_int (nomark _))) (pa_cons pe_bl pa_nil))), ?_⟩
    refine ⟨_, rfl, a, rfl, ⟨_, ha⟩, fun D nD => ?_⟩
    refine lc_pure walk_tup (σ := [some (.ref a), none]) (i := 1) (fun v => match v with | .int x => .bl (!decide (V.int x = V.int 0)) | v => v) (fun _ => true) (by rw [List.length_map]; exact Nat.lt_of_le_of_lt h3 (by decide)) nD (fun H2 s2 => Rs.sqT_ext s2 ha) (fun x H2 Q _ _ h => h) ?_ ?_
    · intro x H2 Q2 hx _ _ h
      obtain ⟨c, hc, rfl⟩ := List.mem_map.mp hx
      exact ⟨_, rfl, rfl, h H2 (Same.refl _)⟩
    · intro H2 s2 hD
      rw [List.filter_eq_self.mpr (by simp), List.map_map] at hD
      obtain ⟨n1, n2, n3⟩ := hn
      have at_ : ∀ m, m < r.length → (r.map ((fun v => match v with | V.int x => V.bl (!decide (V.int x = V.int 0)) | v => v) ∘ V.int))[m]? = some (V.bl (!decide (V.int (r.getD m 0) = V.int 0))) := by
        intro m hm
        rw [List.getElem?_map, List.getD_eq_getElem?_getD, List.getElem?_eq_getElem hm]
        rfl
      refine ⟨.inl ⟨rfl, _, SqL.of hD⟩, D, _, .bl true, n, _, rfl, rfl, SqL.of hD, rfl, ?_, at_ n n1, ?_, ?_, q H2 s2⟩
      · rw [List.all_eq_true]
        intro x hx
        obtain ⟨c, _, rfl⟩ := List.mem_map.mp hx
        rfl
      · have e : decide (V.int (r.getD n 0) = V.int 0) = false := decide_eq_false fun z => n2 (V.int.inj z)
        rw [e]
        rfl
      · intro m z hm hz
        rw [at_ m (by omega), n3 m hm] at hz
        obtain rfl := Option.some.inj hz
        rfl
end
end KT
set_option maxRecDepth 100000
set_option maxHeartbeats 2000000
namespace KT
open PySem PySem.Spec PyProof.Rows L2
/-- a comprehension whose items are told by their places -/
theorem lc_idx {J : It} {G : Hp → Prop} {xs : List V} (w : Walk J xs.length G (YAt xs)) {te : TE} {σ : L2.St} {i : Nat} {H1 : Hp} {D : Addr} {Qd : Hp → Prop} (ys : List V) (hy : ys.length = xs.length) (hlen : xs.length < sizeLine) (hD : H1 D = none)
    (hG : ∀ H2, Same H1 H2 → G H2)
    (he : ∀ (j : Nat) (x y : V) (H2 : Hp) (Q : VK), xs[j]? = some x → ys[j]? = some y → Same H1 H2 → (∀ H3, Same H2 H3 → Q y H3) → te ((σ.set i none).set i (some x)) H2 Q)
    (hd : ∀ H2, Same H1 H2 → H2 D = some (.lst ys) → Qd H2) :
    ∃ W : Nat → Nat → Hp → Prop, (∃ m, W 0 m (upd H1 D (.lst []))) ∧ ∀ j m H, W j m H →
      (J.stop j H ∧ Qd H) ∨ (J.go j H ∧ ∃ Nx : Hp → Prop, (∀ H', Nx H' → ∃ m', m' < m ∧ W (j + 1) m' H') ∧ ∀ x H', J.yld j H x H' → gName i x (wipe σ [i]) H' fun σ2 H2 => wipe σ2 [i] = wipe σ [i] ∧ tYes σ2 H2 fun b H3 =>
        if b = true then te σ2 H3 fun v H4 => ∃ ac, H4 D = some (.lst ac) ∧ ac.length < sizeLine ∧ Nx (upd H4 D (.lst (ac ++ [v]))) else Nx H3) := by
  refine lc_it w (fun j H2 => Same H1 H2 ∧ H2 D = some (.lst (ys.take j))) ⟨same_new hD, upd_same⟩ (fun j H2 _ h => hG H2 h.1) ?_ (fun H2 h => hd H2 h.1 (by have z := h.2; rw [← hy, List.take_length] at z; exact z))
  rintro j x H2 H2' hj ⟨sm, hd2⟩ ⟨rfl, hx⟩
  have hjy : j < ys.length := by omega
  have hyj : ys[j]? = some ys[j] := List.getElem?_eq_getElem hjy
  refine ⟨?_, ?_⟩
  · show (((σ.set i none).set i (some x)).set i none) = σ.set i none
    rw [List.set_set, List.set_set]
  · dsimp only [tYes]
    rw [if_pos rfl]
    refine he j x _ _ _ hx hyj sm fun H3 s3 => ⟨_, s3 _ _ hd2, ?_, ?_, ?_⟩
    · rw [List.length_take]
      omega
    · intro b o e
      rw [upd_ne (ne_of_none e hD)]
      exact s3 _ _ (sm _ _ e)
    · rw [upd_same, take_more hyj]
theorem scDiag : FnScope ["rows", "row"] ["rows"] (defScope sDiag) := ⟨rfl, rfl, rfl, by decide +kernel, rfl, by decide +kernel, by decide +kernel⟩
/-- rows in a list, each with the column where it begins -/
structure RowsAt (K : PySem.W.Frag) (H : Hp) (l : Addr) (rs : List (Addr × List Int)) : Prop where
  lst : SqL K H l (rs.map fun x => V.ref x.1)
  row : ∀ x ∈ rs, RowAt K H x.1 x.2
theorem sqL_ext {K : PySem.W.Frag} {H H' : Hp} {a : Addr} {xs : List V} (e : Same H H') (h : SqL K H a xs) : SqL K H' a xs := by
  rcases h with (h | ⟨o, h⟩) | h
  · exact .inl (.inl (e _ _ h))
  · exact .inl (.inr ⟨o, e _ _ h⟩)
  · exact .inr h
theorem RowsAt.ext {K : PySem.W.Frag} {H H' : Hp} {l : Addr} {rs : List (Addr × List Int)} (h : RowsAt K H l rs) (e : Same H H') : RowsAt K H' l rs := ⟨sqL_ext e h.lst, fun x hx => Rs.sqT_ext e (h.row x hx)⟩
def spDiag (K : PySem.W.Frag) : Sp := fun vs H Q _ => ∃ (l : Addr) (rs : List (Addr × List Int)) (g : List Int → Nat), vs = [.ref l] ∧ RowsAt K H l rs ∧ rs.length ≤ 3 ∧ (∀ x ∈ rs, BegL x.2 (g x.2) ∧ x.2.length ≤ 3) ∧
  ∀ H' p, Same H H' → H p = none → H' p = some (.tup (rs.map fun x => V.int (x.2.getD (g x.2) 0))) → Q (.ref p) H'
section
variable {P : Program} {w : World} {K : PySem.W.Frag} {mg : Str → Option Value} {base : Heap}
theorem ok_diag {f fL : Addr} {fd fdL : FuncData} {k : Nat} (F : Fun K "diagonal_of" "diagonal_of" sDiag f fd) (B : Bn mg) (GL : FnOk P w K mg base CX0 (k + 1) fL fdL ["row"] (spLead K)) (kL : PySem.W.keepIn K (.ref fL) = true) (bL : L2.Binds K fdL ["row"] []) (gL : mg "lead_at" = some (.ref fL)) :
    FnOk P w K mg base CX0 (k + 2) f fd ["rows"] (spDiag K) := by
  refine F.ok scDiag (fun vs H Q E h => ?_) (fun cdv A outer s H vs Q E hr h => ?_)
  · obtain ⟨l, rs, g, rfl, _⟩ := h
    rfl
  · obtain ⟨l, rs, g, rfl, hR, h3, hb, q⟩ := h
    refine ⟨_, pss_one (ps_ret (pe_callTy call_tuple_of (by rfl) B.tuple boot_tuple (pa_cons (pe_lc (own := [("row", 1)]) (g := gName 1) (tt := tYes) (te := fun σ H Q => tVar 1 σ H fun x H1 => tCall (spLead K) [] E0 (tCons (tVar 1) tNil) σ H1 fun y H2 => rIxT K x y H2 Q) rfl scDiag.nd (pi_list (pv 0))
        (blkOk_by (N := ["rows", "row"]) (sc := defScope sDiag) (by decide +kernel)) (fun _ _ _ _ _ => pg_name (i := 1) scDiag.nd rfl (Or.inl rfl)) (fun _ _ _ _ _ => pts_nil)
        (fun _ _ _ _ _ => pe_ix ix_tup (pv 1) (pe_call GL hr (by rfl) gL kL bL .nil pass0 (pa_cons (pv 1) pa_nil)) (fun _ _ => rfl))) pa_nil))), ?_⟩
    refine ⟨_, rfl, l, rfl, ⟨_, hR.lst⟩, fun D nD => ?_⟩
    refine lc_idx (walk_list (K := K) (a := l)) (te := fun σ H Q => tVar 1 σ H fun x H1 => tCall (spLead K) [] E0 (tCons (tVar 1) tNil) σ H1 fun y H2 => rIxT K x y H2 Q) (σ := [some (.ref l), none]) (i := 1) (rs.map fun x => V.int (x.2.getD (g x.2) 0)) (by rw [List.length_map, List.length_map]) (by rw [List.length_map]; exact Nat.lt_of_le_of_lt h3 (by decide)) nD (fun H2 s2 => sqL_ext s2 hR.lst) ?_ ?_
    · intro j x y H2 Q2 hx hy s2 h
      rw [List.getElem?_map] at hx hy
      obtain ⟨e0, he0, rfl⟩ := Option.map_eq_some_iff.mp hx
      rw [he0] at hy
      obtain rfl := Option.some.inj hy
      have m := List.mem_of_getElem? he0
      obtain ⟨b1, b2⟩ := hb _ m
      have ra : RowAt K H2 e0.1 e0.2 := Rs.sqT_ext s2 (hR.row _ m)
      exact ⟨_, rfl, _, rfl, e0.1, e0.2, g e0.2, rfl, ra, b1, b2, fun H3 s3 => ⟨e0.1, _, (g e0.2 : Nat), _, rfl, rfl, Rs.sqT_ext s3 ra, row_at b1.1, h H3 s3⟩⟩
    · intro H2 s2 hD
      refine ⟨D, _, rfl, .inl ⟨SqL.of hD, fun p2 np2 => ?_⟩⟩
      refine q _ p2 (s2.trans (same_new np2)) ?_ upd_same
      cases hp : H p2 with
      | none => rfl
      | some u =>
        rw [s2 _ _ hp] at np2
        cases np2
end
end KT
set_option maxRecDepth 100000
set_option maxHeartbeats 2000000
namespace KT
open PySem PySem.Spec PyProof.Rows L2
theorem scIndex : FnScope ["rows", "width", "index", "lead"] ["rows", "width"] (defScope sIndex) := ⟨rfl, rfl, rfl, by decide +kernel, rfl, by decide +kernel, by decide +kernel⟩
/-- a product, from the left -/
def prod (xs : List Int) : Int := xs.foldl (· * ·) 1
theorem prod_more {xs : List Int} {i : Nat} {x : Int} (h : xs[i]? = some x) : prod (xs.take (i + 1)) = prod (xs.take i) * x := by
  rw [take_more h]
  unfold prod
  rw [List.foldl_append]
  rfl
theorem prod_lt {xs : List Int} (h : ∀ x ∈ xs, x.natAbs < 2 ^ 9000) : ∀ i, i ≤ xs.length → (prod (xs.take i)).natAbs < 2 ^ (9000 * i + 1) := by
  intro i
  induction i with
  | zero =>
    intro _
    show (1 : Int).natAbs < 2
    decide
  | succ i ih =>
    intro hi
    have hx : xs[i]? = some xs[i] := List.getElem?_eq_getElem hi
    rw [prod_more hx]
    have z := wide_lt (ih (by omega)) (h _ (List.mem_of_getElem? hx))
    rw [show 9000 * i + 1 + 9000 = 9000 * (i + 1) + 1 by omega] at z
    exact z
def spIndex (K : PySem.W.Frag) : Sp := fun vs H Q _ => ∃ (l : Addr) (rs : List (Addr × List Int)) (g : List Int → Nat) (wd : Nat), vs = [.ref l, .int (wd : Nat)] ∧ RowsAt K H l rs ∧ rs.length ≤ 3 ∧ (∀ x ∈ rs, BegL x.2 (g x.2) ∧ x.2.length ≤ 3 ∧ (x.2.getD (g x.2) 0).natAbs < 2 ^ 9000) ∧
  ∀ H', Same H H' → Q (if rs.length < wd then .non else .int (prod (rs.map fun x => x.2.getD (g x.2) 0))) H'
section
variable {P : Program} {w : World} {K : PySem.W.Frag} {mg : Str → Option Value} {base : Heap}
theorem ok_index {f fD : Addr} {fd fdD : FuncData} {k : Nat} (F : Fun K "index_of" "index_of" sIndex f fd) (B : Bn mg) (GD : FnOk P w K mg base CX0 (k + 2) fD fdD ["rows"] (spDiag K)) (kD : PySem.W.keepIn K (.ref fD) = true) (bD : L2.Binds K fdD ["rows"] []) (gD : mg "diagonal_of" = some (.ref fD)) :
    FnOk P w K mg base CX0 (k + 3) f fd ["rows", "width"] (spIndex K) := by
  refine F.ok scIndex (fun vs H Q E h => ?_) (fun cdv A outer s H vs Q E hr h => ?_)
  · obtain ⟨l, rs, g, wd, rfl, _⟩ := h
    rfl
  · obtain ⟨l, rs, g, wd, rfl, hR, h3, hb, q⟩ := h
    refine ⟨_, pss_cons (ps_if (pt_cmpR op_lt (pe_callB call_len_seq (by rfl) B.len PySem.boot_len (pa_cons (pv 0) pa_nil)) (pv 1) (nomark _)) (pss_one (ps_ret pe_non)) pss_nil)
      (pss_cons (ps_set (i := 2) scIndex.nd rfl (.inl rfl) pe_int)
      (pss_cons (ps_for PassesOwn.never rfl (pi_tup (pe_call GD hr (by rfl) gD kD bD .nil pass0 (pa_cons (pv 0) pa_nil))) (pg_name (i := 3) scIndex.nd rfl (Or.inl rfl)) (pss_one (ps_set (i := 2) scIndex.nd rfl (.inl rfl) (pe_op op_mulW (pv 2) (pv 3)))))
      (pss_one (ps_ret (pv 2))))), ?_⟩
    refine ⟨_, rfl, l, _, rfl, .inl hR.lst, _, rfl, _, _, rfl, rfl, _, rfl, ?_⟩
    rw [List.length_map]
    by_cases hw : rs.length < wd
    · rw [decide_eq_true (by omega : (rs.length : Int) < (wd : Int))]
      refine iteT ?_
      have z := q H (Same.refl _)
      rw [if_pos hw] at z
      exact z
    · rw [decide_eq_false (by omega : ¬ (rs.length : Int) < (wd : Int))]
      refine iteF ?_
      have leads : ∀ x ∈ (rs.map fun x => x.2.getD (g x.2) 0), x.natAbs < 2 ^ 9000 := by
        intro x hx
        obtain ⟨y, hy, rfl⟩ := List.mem_map.mp hx
        exact (hb y hy).2.2
      refine ⟨_, rfl, l, rs, g, rfl, hR, h3, fun x hx => ⟨(hb x hx).1, (hb x hx).2.1⟩, fun H1 p s1 np hp => ?_⟩
      refine ⟨p, rfl, ⟨_, SqT.of hp⟩, ?_⟩
      refine for_it (walk_tup (K := K) (a := p)) (fun i σ H3 => ∃ y3 : Option V, σ = [some (.ref l), some (.int (wd : Nat)), some (.int (prod ((rs.map fun x => x.2.getD (g x.2) 0).take i))), y3] ∧ Same H H3 ∧ H3 p = some (.tup (rs.map fun x => V.int (x.2.getD (g x.2) 0)))) ⟨none, rfl, s1, hp⟩ (fun i σ H3 _ h => SqT.of h.choose_spec.2.2) ?_ ?_
      · rintro i x σ H3 H3' hi ⟨y3, rfl, sm, hq⟩ ⟨rfl, hx⟩
        rw [List.getElem?_map] at hx
        obtain ⟨e0, he0, rfl⟩ := Option.map_eq_some_iff.mp hx
        have hl : (rs.map fun x => x.2.getD (g x.2) 0)[i]? = some (e0.2.getD (g e0.2) 0) := by
          rw [List.getElem?_map, he0]
          rfl
        rw [List.length_map] at hi
        refine ⟨_, rfl, _, rfl, _, _, rfl, rfl, ?_, some (.int (e0.2.getD (g e0.2) 0)), ?_, sm, hq⟩
        · exact wide_mul (prod_lt leads i (by rw [List.length_map]; omega)) (leads _ (List.mem_of_getElem? hl)) (by omega) (by omega) (by omega)
        · rw [prod_more hl]
          rfl
      · rintro σ H3 ⟨y3, rfl, sm, hq⟩
        refine ⟨_, rfl, ?_⟩
        have z := q H3 sm
        rw [if_neg hw] at z
        rw [List.length_map, ← List.length_map (f := fun x : Addr × List Int => x.2.getD (g x.2) 0), List.take_length]
        exact z
end
end KT
namespace Hm
/-! the rounds of a sweep, with lists of numbers -/
def zl (a : Nat) (rs : List (List Int)) : List (List Int) := rs.filter fun r => decide (fn r a = 0)
def nl (a : Nat) (rs : List (List Int)) : List (List Int) := rs.filter fun r => decide (fn r a ≠ 0)
theorem zl_fn (a : Nat) (rs : List (List Int)) : (zl a rs).map fn = zro a (rs.map fn) := by
  unfold zl zro
  rw [List.filter_map]
  rfl
theorem nl_fn (a : Nat) (rs : List (List Int)) : (nl a rs).map fn = nzr a (rs.map fn) := by
  unfold nl nzr
  rw [List.filter_map]
  rfl
theorem mem_zl {a : Nat} {rs : List (List Int)} {r : List Int} : r ∈ zl a rs ↔ r ∈ rs ∧ fn r a = 0 := by
  unfold zl
  rw [List.mem_filter]
  simp
theorem mem_nl {a : Nat} {rs : List (List Int)} {r : List Int} : r ∈ nl a rs ↔ r ∈ rs ∧ fn r a ≠ 0 := by
  unfold nl
  rw [List.mem_filter]
  simp
theorem zn_len (a : Nat) : ∀ rs : List (List Int), (zl a rs).length + (nl a rs).length = rs.length
  | [] => rfl
  | r :: rs => by
    have ih := zn_len a rs
    unfold zl nl at ih ⊢
    rw [List.filter_cons, List.filter_cons]
    by_cases h : fn r a = 0
    · simp only [h, decide_true, if_true, ne_eq, not_true_eq_false, decide_false, Bool.false_eq_true, if_false, List.length_cons]
      simp only [ne_eq] at ih
      omega
    · simp only [h, decide_false, Bool.false_eq_true, if_false, ne_eq, not_false_eq_true, decide_true, if_true, List.length_cons]
      simp only [ne_eq] at ih
      omega
theorem Pot.up {a C C' M : Nat} {l : Row} {os : List Row} (h : Pot a C M l os) (hc : C ≤ C') : Pot a C' M l os := ⟨h.nz, h.col, h.sgn, Nat.le_trans h.le hc, fun ho => by
  obtain ⟨r, h1, h2⟩ := h.pot ho
  exact ⟨r, h1, Nat.le_trans h2 hc⟩⟩
structure Swi (w a b n : Nat) (R cl rest : List (List Int)) : Prop where
  eqs : Eqs (In (R.map fn)) (In (cl.map fn ++ rest.map fn))
  len : ∀ r, r ∈ cl ∨ r ∈ rest → r.length = w
  low : ∀ r, r ∈ cl ∨ r ∈ rest → ∀ j, j < a → fn r j = 0
  cz : ∀ r ∈ cl, fn r a = 0
  rz : ∀ r ∈ rest, fn r a ≠ 0
  sz : cl.length + rest.length = R.length
  lead : ∀ r ∈ rest, (fn r a).natAbs ≤ 2 ^ b
  bd : (∀ r, r ∈ cl ∨ r ∈ rest → ∀ j, (fn r j).natAbs ≤ 2 ^ b) ∨ ((∀ r ∈ cl, ∀ j, a < j → (fn r j).natAbs ≤ 2 ^ (5 * b + n + 1)) ∧ ∃ l' os M, rest = l' :: os ∧ Pot a (2 ^ (5 * b + n + 1)) M (fn l') (os.map fn))
theorem swi_start {w a b n : Nat} {R : List (List Int)} (len : ∀ r ∈ R, r.length = w) (low : ∀ r ∈ R, ∀ j, j < a → fn r j = 0) (hb : ∀ r ∈ R, ∀ j, (fn r j).natAbs ≤ 2 ^ b) : Swi w a b n R (zl a R) (nl a R) := by
  have m : ∀ r, r ∈ zl a R ∨ r ∈ nl a R → r ∈ R := fun r h => h.elim (fun h => (mem_zl.mp h).1) (fun h => (mem_nl.mp h).1)
  refine ⟨?_, fun r h => len r (m r h), fun r h => low r (m r h), fun r h => (mem_zl.mp h).2, fun r h => (mem_nl.mp h).2, zn_len a R, fun r h => hb r (m r (.inr h)) a, .inl fun r h => hb r (m r h)⟩
  rw [zl_fn, nl_fn]
  exact sweep0 a _
theorem cap_le {b n k : Nat} (hb : 1 ≤ b) (hk : k ≤ n) : (2 ^ b + (2 ^ b + 1) * 2 ^ b) * 2 ^ b * (2 ^ k * 2 ^ b * 2 ^ b) ≤ 2 ^ (5 * b + n + 1) := by
  have h1 : 2 ^ b + (2 ^ b + 1) * 2 ^ b ≤ 2 ^ (2 * b + 1) := by
    have e : 2 ^ b + (2 ^ b + 1) * 2 ^ b = 2 ^ b * (2 ^ b + 2) := by
      rw [Nat.add_mul, Nat.mul_add]
      omega
    have h2 : 2 ^ b + 2 ≤ 2 ^ (b + 1) := by
      have : 2 ≤ 2 ^ b := by
        have := Nat.pow_le_pow_right (n := 2) (by omega) hb
        simpa using this
      rw [Nat.pow_succ]
      omega
    rw [e, show 2 * b + 1 = b + (b + 1) by omega, Nat.pow_add]
    exact Nat.mul_le_mul_left _ h2
  have h3 : 2 ^ k * 2 ^ b * 2 ^ b ≤ 2 ^ (n + 2 * b) := by
    rw [show n + 2 * b = n + b + b by omega, Nat.pow_add, Nat.pow_add]
    exact Nat.mul_le_mul_right _ (Nat.mul_le_mul_right _ (Nat.pow_le_pow_right (by omega) hk))
  rw [show 5 * b + n + 1 = 2 * b + 1 + b + (n + 2 * b) by omega, Nat.pow_add, Nat.pow_add]
  exact Nat.mul_le_mul (Nat.mul_le_mul_right _ h1) h3
theorem swi_bd {w a b n : Nat} {R cl rest : List (List Int)} (h : Swi w a b n R cl rest) : ∀ r, r ∈ cl ∨ r ∈ rest → ∀ j, (fn r j).natAbs ≤ 2 ^ (5 * b + n + 1) := by
  intro r hr j
  have pw : 2 ^ b ≤ 2 ^ (5 * b + n + 1) := Nat.pow_le_pow_right (by omega) (by omega)
  rcases h.bd with g | ⟨g1, l', os, M, e, g2⟩
  · exact Nat.le_trans (g r hr j) pw
  · rcases Nat.lt_trichotomy j a with hj | hj | hj
    · rw [h.low r hr j hj]
      exact Nat.zero_le _
    · subst hj
      rcases hr with hr | hr
      · rw [h.cz r hr]
        exact Nat.zero_le _
      · exact Nat.le_trans (h.lead r hr) pw
    · rcases hr with hr | hr
      · exact g1 r hr j hj
      · rw [e] at hr
        refine Nat.le_trans (g2.col (fn r) ?_ j hj) g2.le
        rcases List.mem_cons.mp hr with rfl | hr
        · exact List.mem_cons_self
        · exact List.mem_cons_of_mem _ (List.mem_map.mpr ⟨r, hr, rfl⟩)
/-- what the others become -/
def smr (a : Nat) (l : List Int) (xs : List (List Int)) : List (List Int) := xs.map fun r => lsl r l ((fn r a).fdiv (fn l a))
theorem smr_fn {w a : Nat} {l : List Int} {xs : List (List Int)} (hl : l.length = w) (hx : ∀ r ∈ xs, r.length = w) : (smr a l xs).map fn = (xs.map fn).map fun r => ls r (fn l) ((r a).fdiv (fn l a)) := by
  unfold smr
  rw [List.map_map, List.map_map]
  refine List.map_congr_left fun r hr => ?_
  show fn (lsl r l _) = _
  rw [fn_lsl (by rw [hx r hr, hl])]
  rfl
theorem swi_round {w a b n : Nat} {R cl rest xs : List (List Int)} {l : List Int} (hb : 1 ≤ b) (hn : R.length ≤ n) (h : Swi w a b n R cl rest) (pm : (l :: xs).Perm rest) (mn : ∀ r ∈ xs, (fn l a).natAbs ≤ (fn r a).natAbs) (hx : xs ≠ []) :
    Swi w a b n R (cl ++ zl a (smr a l xs)) (l :: nl a (smr a l xs)) ∧ mas a ((l :: nl a (smr a l xs)).map fn) < mas a (rest.map fn) := by
  have inr' : ∀ r, r ∈ l :: xs → r ∈ rest := fun r hr => pm.mem_iff.mp hr
  have ll : l.length = w := h.len l (.inr (inr' l List.mem_cons_self))
  have lx : ∀ r ∈ xs, r.length = w := fun r hr => h.len r (.inr (inr' r (List.mem_cons_of_mem _ hr)))
  have lz : fn l a ≠ 0 := h.rz l (inr' l List.mem_cons_self)
  have sf := smr_fn (a := a) ll lx
  have pmf : (fn l :: xs.map fn).Perm (rest.map fn) := by
    have := pm.map fn
    simpa using this
  have slen : ∀ r ∈ smr a l xs, r.length = w := by
    intro r hr
    obtain ⟨x, hx, rfl⟩ := List.mem_map.mp hr
    exact lsl_len (lx x hx) ll _
  have slow : ∀ r ∈ smr a l xs, ∀ j, j < a → fn r j = 0 := by
    intro r hr j hj
    obtain ⟨x, hx, rfl⟩ := List.mem_map.mp hr
    rw [fn_lsl (by rw [lx x hx, ll])]
    show fn x j - _ * fn l j = 0
    rw [h.low x (.inr (inr' x (List.mem_cons_of_mem _ hx))) j hj, h.low l (.inr (inr' l List.mem_cons_self)) j hj]
    simp
  have mnf : ∀ r ∈ xs.map fn, (fn l a).natAbs ≤ (r a).natAbs := by
    intro r hr
    obtain ⟨x, hx, rfl⟩ := List.mem_map.mp hr
    exact mn x hx
  have slead : ∀ r ∈ smr a l xs, (fn r a).natAbs < (fn l a).natAbs := by
    intro r hr
    obtain ⟨x, hx, rfl⟩ := List.mem_map.mp hr
    rw [fn_lsl (by rw [lx x hx, ll])]
    exact fmod_small lz
  have key : ∃ M, Pot a (2 ^ (5 * b + n + 1)) M (fn l) ((nl a (smr a l xs)).map fn) ∧ ∀ r ∈ smr a l xs, ∀ j, a < j → (fn r j).natAbs ≤ M := by
    rw [nl_fn, sf]
    rcases h.bd with g | ⟨g1, l', os, M, e, g2⟩
    · have q := pot_first (a := a) (B := 2 ^ b) (M := 2 ^ b) (l := fn l) (xs := xs.map fn) lz (fun r hr => by
        rcases List.mem_cons.mp hr with rfl | hr
        · exact g l (.inr (inr' l List.mem_cons_self)) a
        · obtain ⟨x, hx, rfl⟩ := List.mem_map.mp hr
          exact g x (.inr (inr' x (List.mem_cons_of_mem _ hx))) a) (fun r hr j _ => by
        rcases List.mem_cons.mp hr with rfl | hr
        · exact g l (.inr (inr' l List.mem_cons_self)) j
        · obtain ⟨x, hx, rfl⟩ := List.mem_map.mp hr
          exact g x (.inr (inr' x (List.mem_cons_of_mem _ hx))) j)
      refine ⟨_, q.1.up ?_, fun r hr j hj => ?_⟩
      · refine cap_le hb ?_
        rw [List.length_map]
        have h1 := pm.length_eq
        have h2 := h.sz
        rw [List.length_cons] at h1
        omega
      · obtain ⟨x, hx, rfl⟩ := List.mem_map.mp hr
        rw [fn_lsl (by rw [lx x hx, ll])]
        exact q.2 (fn x) (List.mem_map.mpr ⟨x, hx, rfl⟩) j hj
    · rw [e] at pmf
      have ho : os.map fn ≠ [] := by
        intro z
        have h1 := pmf.length_eq
        rw [List.map_cons, z, List.length_cons, List.length_map] at h1
        apply hx
        apply List.eq_nil_of_length_eq_zero
        simpa using h1
      obtain ⟨M', p1, p2, p3⟩ := pot_round g2 ho (by simpa using pmf) mnf
      refine ⟨M', p1, fun r hr j hj => ?_⟩
      obtain ⟨x, hx, rfl⟩ := List.mem_map.mp hr
      rw [fn_lsl (by rw [lx x hx, ll])]
      exact p2 (fn x) (List.mem_map.mpr ⟨x, hx, rfl⟩) j hj
  obtain ⟨M, pM, sM⟩ := key
  have clC : ∀ r ∈ cl, ∀ j, a < j → (fn r j).natAbs ≤ 2 ^ (5 * b + n + 1) := fun r hr j hj => swi_bd h r (.inl hr) j
  refine ⟨⟨?_, ?_, ?_, ?_, ?_, ?_, ?_, .inr ⟨?_, l, _, M, rfl, pM⟩⟩, ?_⟩
  · refine h.eqs.trans ?_
    have e1 : Eqs (In (cl.map fn ++ rest.map fn)) (In (cl.map fn ++ (fn l :: xs.map fn))) := eqs_in fun r => by
      rw [List.mem_append, List.mem_append, pmf.mem_iff]
    refine e1.trans ?_
    have e2 := sweep1 a (cl.map fn) (xs.map fn) (fn l) (fun r => (r a).fdiv (fn l a))
    rw [List.map_append, List.map_cons, zl_fn, nl_fn, sf]
    exact e2
  · rintro r (hr | hr)
    · rcases List.mem_append.mp hr with hr | hr
      · exact h.len r (.inl hr)
      · exact slen r (mem_zl.mp hr).1
    · rcases List.mem_cons.mp hr with rfl | hr
      · exact ll
      · exact slen r (mem_nl.mp hr).1
  · rintro r (hr | hr)
    · rcases List.mem_append.mp hr with hr | hr
      · exact h.low r (.inl hr)
      · exact slow r (mem_zl.mp hr).1
    · rcases List.mem_cons.mp hr with rfl | hr
      · exact h.low r (.inr (inr' r List.mem_cons_self))
      · exact slow r (mem_nl.mp hr).1
  · intro r hr
    rcases List.mem_append.mp hr with hr | hr
    · exact h.cz r hr
    · exact (mem_zl.mp hr).2
  · intro r hr
    rcases List.mem_cons.mp hr with rfl | hr
    · exact lz
    · exact (mem_nl.mp hr).2
  · have h1 := zn_len a (smr a l xs)
    have h2 := h.sz
    have h3 := pm.length_eq
    have h4 : (smr a l xs).length = xs.length := List.length_map _
    rw [List.length_append, List.length_cons]
    rw [List.length_cons] at h3
    omega
  · intro r hr
    rcases List.mem_cons.mp hr with rfl | hr
    · exact h.lead r (inr' r List.mem_cons_self)
    · have h1 := slead r (mem_nl.mp hr).1
      have h2 := h.lead l (inr' l List.mem_cons_self)
      omega
  · intro r hr j hj
    rcases List.mem_append.mp hr with hr | hr
    · exact clC r hr j hj
    · exact Nat.le_trans (sM r (mem_zl.mp hr).1 j hj) pM.le
  · have hx2 : xs.map fn ≠ [] := by simpa using hx
    have z := mas_round (a := a) (l := fn l) (os := xs.map fn) lz mnf hx2
    rw [List.map_cons, nl_fn, sf]
    refine Nat.lt_of_lt_of_le z (Nat.le_of_eq ?_)
    unfold mas
    exact (pmf.map _).sum_nat
theorem swi_none {w a b n : Nat} {R cl : List (List Int)} (h : Swi w a b n R cl []) : Swp a (R.map fn) none (cl.map fn) := swp_none h.eqs fun r hr => by
  obtain ⟨x, hx, rfl⟩ := List.mem_map.mp hr
  exact h.cz x hx
theorem swi_one {w a b n : Nat} {R cl : List (List Int)} {r : List Int} (h : Swi w a b n R cl [r]) : Swp a (R.map fn) (some (sgd (fn r) a)) (cl.map fn) := swp_one h.eqs (fun x hx => by
  obtain ⟨y, hy, rfl⟩ := List.mem_map.mp hx
  exact h.cz y hy) (h.rz r List.mem_cons_self)
end Hm
set_option maxRecDepth 100000
set_option maxHeartbeats 2000000
namespace KT
open PySem PySem.Spec PyProof.Rows L2
/-! rows that are told by their addresses -/
def RT (H : Hp) (x : Addr × List Int) : Prop := H x.1 = some (.tup (x.2.map V.int))
abbrev rf (rs : List (Addr × List Int)) : List V := rs.map fun x => V.ref x.1
abbrev rw_ (rs : List (Addr × List Int)) : List (List Int) := rs.map fun x => x.2
structure RL (H : Hp) (q : Addr) (rs : List (Addr × List Int)) : Prop where
  lst : H q = some (.lst (rf rs))
  row : ∀ x ∈ rs, RT H x
/-- a list or a tuple of rows -/
structure RI (K : PySem.W.Frag) (H : Hp) (q : Addr) (rs : List (Addr × List Int)) : Prop where
  seq : SqL K H q (rf rs) ∨ SqT K H q (rf rs)
  row : ∀ x ∈ rs, RT H x
theorem RL.ri {K : PySem.W.Frag} {H : Hp} {q : Addr} {rs : List (Addr × List Int)} (h : RL H q rs) : RI K H q rs := ⟨.inl (SqL.of h.lst), h.row⟩
theorem map_int_inj : ∀ {r s : List Int}, r.map V.int = s.map V.int → r = s
  | [], [], _ => rfl
  | [], _ :: _, h => nomatch h
  | _ :: _, [], h => nomatch h
  | x :: r, y :: s, h => by
    rw [List.map_cons, List.map_cons] at h
    injection h with h1 h2
    injection h1 with h1
    rw [h1, map_int_inj h2]
theorem RT.uniq {H : Hp} {x y : Addr × List Int} (h : RT H x) (g : RT H y) (e : x.1 = y.1) : x.2 = y.2 := by
  unfold RT at h g
  rw [e, g] at h
  injection h with h
  injection h with h
  exact (map_int_inj h).symm
theorem RT.ext {H H' : Hp} {x : Addr × List Int} (h : RT H x) (e : LamX.ExtN H H') : RT H' x := e _ _ h (fun ps z => nomatch z)
theorem RT.same {H H' : Hp} {x : Addr × List Int} (h : RT H x) (e : Same H H') : RT H' x := e _ _ h
theorem RL.ext {H H' : Hp} {q : Addr} {rs : List (Addr × List Int)} (h : RL H q rs) (e : LamX.ExtN H H') : RL H' q rs := ⟨e _ _ h.lst (fun ps z => nomatch z), fun x hx => (h.row x hx).ext e⟩
theorem RL.same {H H' : Hp} {q : Addr} {rs : List (Addr × List Int)} (h : RL H q rs) (e : Same H H') : RL H' q rs := ⟨e _ _ h.lst, fun x hx => (h.row x hx).same e⟩
theorem extN_of {H H' : Hp} (e : Same H H') : LamX.ExtN H H' := .of e
/-- what is new stays new before -/
theorem ext_free {H H' : Hp} (e : LamX.ExtN H H') {p : Addr} (h : H' p = none) : ∀ o, H p = some o → ∃ ps, o = .tbl ps := by
  intro o ho
  cases o with
  | tbl ps => exact ⟨ps, rfl⟩
  | _ =>
    exfalso
    have z := e _ _ ho (fun ps z => nomatch z)
    rw [h] at z
    cases z
/-- [e for x in xs if t]: both told by what x stands for -/
theorem lc_sel {α : Type} {rs : List α} {e out : α → V} {J : It} {G : Hp → Prop} (w : Walk J (rs.map e).length G (YAt (rs.map e))) {tt : TT} {te : TE} {σ : L2.St} {i : Nat} {H1 : Hp} {D : Addr} {Qd : Hp → Prop} (keep : α → Bool) (hlen : rs.length < sizeLine) (hD : H1 D = none)
    (hG : ∀ H2, Same H1 H2 → G H2)
    (ht : ∀ x H2 Q, x ∈ rs → Same H1 H2 → Q (keep x) H2 → tt ((σ.set i none).set i (some (e x))) H2 Q)
    (he : ∀ x H2 Q, x ∈ rs → keep x = true → Same H1 H2 → (∀ H3, Same H2 H3 → Q (out x) H3) → te ((σ.set i none).set i (some (e x))) H2 Q)
    (hd : ∀ H2, Same H1 H2 → H2 D = some (.lst ((rs.filter keep).map out)) → Qd H2) :
    ∃ W : Nat → Nat → Hp → Prop, (∃ m, W 0 m (upd H1 D (.lst []))) ∧ ∀ j m H, W j m H →
      (J.stop j H ∧ Qd H) ∨ (J.go j H ∧ ∃ Nx : Hp → Prop, (∀ H', Nx H' → ∃ m', m' < m ∧ W (j + 1) m' H') ∧ ∀ x H', J.yld j H x H' → gName i x (wipe σ [i]) H' fun σ2 H2 => wipe σ2 [i] = wipe σ [i] ∧ tt σ2 H2 fun b H3 =>
        if b = true then te σ2 H3 fun v H4 => ∃ ac, H4 D = some (.lst ac) ∧ ac.length < sizeLine ∧ Nx (upd H4 D (.lst (ac ++ [v]))) else Nx H3) := by
  refine lc_it w (fun j H2 => Same H1 H2 ∧ H2 D = some (.lst (((rs.take j).filter keep).map out))) ⟨same_new hD, upd_same⟩ (fun j H2 _ h => hG H2 h.1) ?_ (fun H2 h => hd H2 h.1 (by have z := h.2; rw [List.length_map, List.take_length] at z; exact z))
  rintro j v H2 H2' hj ⟨sm, hd2⟩ ⟨rfl, hx⟩
  rw [List.getElem?_map] at hx
  obtain ⟨x, hx0, rfl⟩ := Option.map_eq_some_iff.mp hx
  have hm : x ∈ rs := List.mem_of_getElem? hx0
  refine ⟨?_, ?_⟩
  · show (((σ.set i none).set i (some (e x))).set i none) = σ.set i none
    rw [List.set_set, List.set_set]
  · refine ht x _ _ hm sm ?_
    have tk := take_more hx0
    cases hk : keep x with
    | true =>
      refine iteT (he x _ _ hm hk sm fun H3 s3 => ⟨_, s3 _ _ hd2, ?_, ?_, ?_⟩)
      · rw [List.length_map]
        exact Nat.lt_of_le_of_lt (Nat.le_trans (List.length_filter_le _ _) (by rw [List.length_take]; omega)) hlen
      · intro b o e
        rw [upd_ne (ne_of_none e hD)]
        exact s3 _ _ (sm _ _ e)
      · rw [upd_same, tk, List.filter_append, List.map_append]
        simp [hk]
    | false =>
      refine iteF ⟨sm, ?_⟩
      rw [hd2, tk, List.filter_append]
      simp [hk]
/-- [e for x in xs], each e a new row -/
theorem lc_rows {α : Type} {rs : List α} {e : α → V} {J : It} {G : Hp → Prop} (w : Walk J (rs.map e).length G (YAt (rs.map e))) {te : TE} {σ : L2.St} {i : Nat} {H1 : Hp} {D : Addr} {Qd : Hp → Prop} (f : α → List Int) (hlen : rs.length < sizeLine) (hD : H1 D = none)
    (hG : ∀ H2, Same H1 H2 → G H2)
    (he : ∀ x H2 Q, x ∈ rs → Same H1 H2 → (∀ H3 p, Same H2 H3 → H3 p = some (.tup ((f x).map V.int)) → Q (.ref p) H3) → te ((σ.set i none).set i (some (e x))) H2 Q)
    (hd : ∀ H2 ys, Same H1 H2 → RL H2 D ys → rw_ ys = rs.map f → Qd H2) :
    ∃ W : Nat → Nat → Hp → Prop, (∃ m, W 0 m (upd H1 D (.lst []))) ∧ ∀ j m H, W j m H →
      (J.stop j H ∧ Qd H) ∨ (J.go j H ∧ ∃ Nx : Hp → Prop, (∀ H', Nx H' → ∃ m', m' < m ∧ W (j + 1) m' H') ∧ ∀ x H', J.yld j H x H' → gName i x (wipe σ [i]) H' fun σ2 H2 => wipe σ2 [i] = wipe σ [i] ∧ tYes σ2 H2 fun b H3 =>
        if b = true then te σ2 H3 fun v H4 => ∃ ac, H4 D = some (.lst ac) ∧ ac.length < sizeLine ∧ Nx (upd H4 D (.lst (ac ++ [v]))) else Nx H3) := by
  refine lc_it w (fun j H2 => Same H1 H2 ∧ ∃ ys, RL H2 D ys ∧ rw_ ys = (rs.take j).map f) ⟨same_new hD, [], ⟨upd_same, fun x hx => nomatch hx⟩, rfl⟩ (fun j H2 _ h => hG H2 h.1) ?_ (fun H2 h => by
    obtain ⟨h1, ys, h2, h3⟩ := h
    rw [List.length_map, List.take_length] at h3
    exact hd H2 ys h1 h2 h3)
  rintro j v H2 H2' hj ⟨sm, ys, hR, hy⟩ ⟨rfl, hx⟩
  rw [List.getElem?_map] at hx
  obtain ⟨x, hx0, rfl⟩ := Option.map_eq_some_iff.mp hx
  have hm : x ∈ rs := List.mem_of_getElem? hx0
  refine ⟨?_, ?_⟩
  · show (((σ.set i none).set i (some (e x))).set i none) = σ.set i none
    rw [List.set_set, List.set_set]
  · dsimp only [tYes]
    rw [if_pos rfl]
    refine he x _ _ hm sm fun H3 p s3 hp => ⟨_, s3 _ _ hR.lst, ?_, ?_, ys ++ [(p, f x)], ⟨?_, ?_⟩, ?_⟩
    · have h1 : (rw_ ys).length = ((rs.take j).map f).length := by rw [hy]
      rw [List.length_map, List.length_map, List.length_take] at h1
      rw [List.length_map]
      omega
    · intro b o e
      rw [upd_ne (ne_of_none e hD)]
      exact s3 _ _ (sm _ _ e)
    · rw [upd_same]
      show some (HO.lst (List.map (fun x => V.ref x.1) ys ++ [V.ref p])) = some (HO.lst (List.map (fun x => V.ref x.1) (ys ++ [(p, f x)])))
      rw [List.map_append]
      rfl
    · intro y hy2
      have at3 : RT H3 y := by
        rcases List.mem_append.mp hy2 with h | h
        · exact (hR.row y h).same s3
        · obtain rfl := List.mem_singleton.mp h
          exact hp
      have nD : y.1 ≠ D := by
        intro z
        have e1 := s3 _ _ hR.lst
        unfold RT at at3
        rw [z, e1] at at3
        cases at3
      unfold RT
      rw [upd_ne nD]
      exact at3
    · show List.map (fun x => x.2) (ys ++ [(p, f x)]) = _
      have hy : List.map (fun x => x.2) ys = (rs.take j).map f := hy
      rw [take_more hx0, List.map_append, List.map_append, hy]
      rfl
/-- a list in another order, as the things that it stands for -/
theorem perm_lift {α β : Type} {e : α → β} : ∀ {ys : List β} {zs : List β}, ys.Perm zs → ∀ rs : List α, zs = rs.map e → ∃ rs' : List α, rs'.Perm rs ∧ ys = rs'.map e := by
  intro ys zs h
  induction h with
  | nil => intro rs h; exact ⟨rs, .refl _, h⟩
  | cons x h ih =>
    intro rs hz
    cases rs with
    | nil => cases hz
    | cons r rs =>
      rw [List.map_cons] at hz
      injection hz with h1 h2
      obtain ⟨rs', p, q⟩ := ih rs h2
      exact ⟨r :: rs', p.cons _, by rw [List.map_cons, h1, q]⟩
  | swap x y l =>
    intro rs hz
    cases rs with
    | nil => cases hz
    | cons r rs =>
      cases rs with
      | nil => rw [List.map_cons] at hz; injection hz with _ h2; cases h2
      | cons s rs =>
        rw [List.map_cons, List.map_cons] at hz
        injection hz with h1 h2
        injection h2 with h2 h3
        exact ⟨s :: r :: rs, .swap _ _ _, by rw [List.map_cons, List.map_cons, h1, h2, h3]⟩
  | trans h1 h2 ih1 ih2 =>
    intro rs hz
    obtain ⟨r1, p1, q1⟩ := ih2 rs hz
    obtain ⟨r2, p2, q2⟩ := ih1 r1 q1
    exact ⟨r2, p2.trans p1, q2⟩
end KT
set_option maxRecDepth 100000
set_option maxHeartbeats 2000000
namespace KT
open PySem PySem.Spec PyProof.Rows L2
/-! a def that is called by its name -/
structure Cb (P : Program) (w : World) (K : PySem.W.Frag) (mg : Str → Option Value) (base : Heap) (CX : CXT) (k : Nat) (x : Str) (ps : List Str) (sp : Sp) (f : Addr) (fd : FuncData) : Prop where
  ok : FnOk P w K mg base CX k f fd ps sp
  kp : PySem.W.keepIn K (.ref f) = true
  b : Binds K fd ps []
  g : mg x = some (.ref f)
abbrev NS : List Str := ["rows", "at", "clear", "rest", "ordered", "least", "smaller", "row"]
abbrev NS' : List Str := ["rows", "at", "clear", "rest", "ordered", "least", "smaller", "-"]
theorem scSwept : FnScope NS ["rows", "at"] (defScope sSwept) := ⟨rfl, rfl, rfl, by decide +kernel, rfl, by decide +kernel, by decide +kernel⟩
def whileBody : Stmt → List Stmt
  | .While _ b _ _ => b
  | _ => []
abbrev sw (i : Nat) : Stmt := (defBody sSwept).getD i (.Pass ⟨0, 0, 0, 0⟩)
def swb : List Stmt := whileBody (sw 2)
abbrev sb (i : Nat) : Stmt := swb.getD i (.Pass ⟨0, 0, 0, 0⟩)
def qS : Str := (envOfC "swept" (defScope sSwept) 0 0 .none).qual ++ "<lambda>"
/-- the context of its body -/
abbrev XS (P : Program) (w : World) (K : PySem.W.Frag) (mg : Str → Option Value) (base : Heap) (f c : Addr) (A : Around) (outer : List Env) (s : Shared) (H : Hp) (E : XK) : Cx := (cxOf CX0 P w K mg base NS "swept" (defScope sSwept) f (.ref c) A outer s H E).nox
section
variable {P : Program} {w : World} {K : PySem.W.Frag} {mg : Str → Option Value} {base : Heap}
variable {f c Pt fL fP : Addr} {fdL fdP : FuncData} {A : Around} {outer : List Env} {s : Shared} {H : Hp} {E : XK} {T : List (Addr × Str)}
theorem w0 (kd : Bool) : ∃ t, PS (XS P w K mg base f c A outer s H E) (sw 0) t ∧ ∀ (D : Ends) (H0 : Hp) (l : Addr) (rs : List (Addr × List Int)) (a : Nat) (y2 y3 y4 y5 y6 : Option V), (if kd then SqL K H0 l (rf rs) else SqT K H0 l (rf rs)) → (∀ x ∈ rs, RT H0 x) → (∀ x ∈ rs, a < x.2.length) → rs.length ≤ 1000 →
    (∀ H' q, Same H0 H' → H0 q = none → RL H' q (rs.filter fun x => decide (Hm.fn x.2 a = 0)) → D.nx [some (.ref l), some (.int (a : Nat)), some (.ref q), y3, y4, y5, y6, none] H') → t D [some (.ref l), some (.int (a : Nat)), y2, y3, y4, y5, y6, none] H0 := by
  cases kd with
  | true =>
    refine ⟨_, ps_setLc (i := 2) (own := [("row", 7)]) (g := gName 7) (tt := tTest (tOp rEq (tOp (rIxT K) (tVar 7) (tVar 1)) (tC (.int 0)))) (te := tVar 7) rfl scSwept.nd rfl rfl (sw_true rfl rfl rfl (by decide +kernel)) (pi_list (pv 0))
      (blkOk_by (N := NS) (sc := defScope sSwept) (by decide +kernel)) (fun _ _ _ _ _ => pg_name (i := 7) scSwept.nd rfl (Or.inl rfl)) (fun _ _ _ _ _ => pts_one (pt_cmpR op_eq (pe_ix ix_tup (pv 7) (pv 1) (fun _ _ => rfl)) pe_int (nomark _)))
      (fun _ _ _ _ _ => pv 7), ?_⟩
    intro D H0 l rs a y2 y3 y4 y5 y6 hq hrow hlen h1000 nx
    have hq : SqL K H0 l (rf rs) := hq
    refine ⟨_, rfl, l, rfl, ⟨_, hq⟩, fun q nq => ?_⟩
    refine lc_sel (e := fun x => V.ref x.1) (out := fun x => V.ref x.1) (walk_list (K := K) (a := l)) (σ := [some (.ref l), some (.int (a : Nat)), y2, y3, y4, y5, y6, none]) (i := 7) (fun x => decide (Hm.fn x.2 a = 0)) (Nat.lt_of_le_of_lt h1000 (by decide)) nq (fun H2 s2 => sqL_ext s2 hq) ?_ ?_ ?_
    · intro x H2 Q hx s2 hQ
      refine ⟨_, rfl, _, rfl, x.1, _, (a : Int), _, rfl, rfl, SqT.of ((hrow x hx).same s2), row_at (hlen x hx), rfl, _, rfl, ?_⟩
      have e : decide (V.int (x.2.getD a 0) = V.int 0) = decide (Hm.fn x.2 a = 0) := by
        rw [dec_int]
        exact (Bool.beq_eq_decide_eq _ _)
      rw [e]
      exact hQ
    · intro x H2 Q hx _ s2 hQ
      exact ⟨_, rfl, hQ H2 (Same.refl _)⟩
    · intro H2 s2 hq2
      exact nx H2 q s2 nq ⟨hq2, fun x hx => (hrow x (List.mem_filter.mp hx).1).same s2⟩
  | false =>
    refine ⟨_, ps_setLc (i := 2) (own := [("row", 7)]) (g := gName 7) (tt := tTest (tOp rEq (tOp (rIxT K) (tVar 7) (tVar 1)) (tC (.int 0)))) (te := tVar 7) rfl scSwept.nd rfl rfl (sw_true rfl rfl rfl (by decide +kernel)) (pi_tup (pv 0))
      (blkOk_by (N := NS) (sc := defScope sSwept) (by decide +kernel)) (fun _ _ _ _ _ => pg_name (i := 7) scSwept.nd rfl (Or.inl rfl)) (fun _ _ _ _ _ => pts_one (pt_cmpR op_eq (pe_ix ix_tup (pv 7) (pv 1) (fun _ _ => rfl)) pe_int (nomark _)))
      (fun _ _ _ _ _ => pv 7), ?_⟩
    intro D H0 l rs a y2 y3 y4 y5 y6 hq hrow hlen h1000 nx
    have hq : SqT K H0 l (rf rs) := hq
    refine ⟨_, rfl, l, rfl, ⟨_, hq⟩, fun q nq => ?_⟩
    refine lc_sel (e := fun x => V.ref x.1) (out := fun x => V.ref x.1) (walk_tup (K := K) (a := l)) (σ := [some (.ref l), some (.int (a : Nat)), y2, y3, y4, y5, y6, none]) (i := 7) (fun x => decide (Hm.fn x.2 a = 0)) (Nat.lt_of_le_of_lt h1000 (by decide)) nq (fun H2 s2 => Rs.sqT_ext s2 hq) ?_ ?_ ?_
    · intro x H2 Q hx s2 hQ
      refine ⟨_, rfl, _, rfl, x.1, _, (a : Int), _, rfl, rfl, SqT.of ((hrow x hx).same s2), row_at (hlen x hx), rfl, _, rfl, ?_⟩
      have e : decide (V.int (x.2.getD a 0) = V.int 0) = decide (Hm.fn x.2 a = 0) := by
        rw [dec_int]
        exact (Bool.beq_eq_decide_eq _ _)
      rw [e]
      exact hQ
    · intro x H2 Q hx _ s2 hQ
      exact ⟨_, rfl, hQ H2 (Same.refl _)⟩
    · intro H2 s2 hq2
      exact nx H2 q s2 nq ⟨hq2, fun x hx => (hrow x (List.mem_filter.mp hx).1).same s2⟩
end
end KT
set_option maxRecDepth 100000
set_option maxHeartbeats 2000000
namespace KT
open PySem PySem.Spec PyProof.Rows L2
section
variable {P : Program} {w : World} {K : PySem.W.Frag} {mg : Str → Option Value} {base : Heap}
variable {f c Pt fL fP : Addr} {fdL fdP : FuncData} {A : Around} {outer : List Env} {s : Shared} {H : Hp} {E : XK} {T : List (Addr × Str)}
theorem w1 (kd : Bool) : ∃ t, PS (XS P w K mg base f c A outer s H E) (sw 1) t ∧ ∀ (D : Ends) (H0 : Hp) (l : Addr) (rs : List (Addr × List Int)) (a : Nat) (y2 y3 y4 y5 y6 : Option V), (if kd then SqL K H0 l (rf rs) else SqT K H0 l (rf rs)) → (∀ x ∈ rs, RT H0 x) → (∀ x ∈ rs, a < x.2.length) → rs.length ≤ 1000 →
    (∀ H' q, Same H0 H' → H0 q = none → RL H' q (rs.filter fun x => decide (Hm.fn x.2 a ≠ 0)) → D.nx [some (.ref l), some (.int (a : Nat)), y2, some (.ref q), y4, y5, y6, none] H') → t D [some (.ref l), some (.int (a : Nat)), y2, y3, y4, y5, y6, none] H0 := by
  cases kd with
  | true =>
    refine ⟨_, ps_setLc (i := 3) (own := [("row", 7)]) (g := gName 7) (tt := tTest (tOp rNe (tOp (rIxT K) (tVar 7) (tVar 1)) (tC (.int 0)))) (te := tVar 7) rfl scSwept.nd rfl rfl (sw_true rfl rfl rfl (by decide +kernel)) (pi_list (pv 0))
      (blkOk_by (N := NS) (sc := defScope sSwept) (by decide +kernel)) (fun _ _ _ _ _ => pg_name (i := 7) scSwept.nd rfl (Or.inl rfl)) (fun _ _ _ _ _ => pts_one (pt_cmpR op_ne (pe_ix ix_tup (pv 7) (pv 1) (fun _ _ => rfl)) pe_int (nomark _)))
      (fun _ _ _ _ _ => pv 7), ?_⟩
    intro D H0 l rs a y2 y3 y4 y5 y6 hq hrow hlen h1000 nx
    have hq : SqL K H0 l (rf rs) := hq
    refine ⟨_, rfl, l, rfl, ⟨_, hq⟩, fun q nq => ?_⟩
    refine lc_sel (e := fun x => V.ref x.1) (out := fun x => V.ref x.1) (walk_list (K := K) (a := l)) (σ := [some (.ref l), some (.int (a : Nat)), y2, y3, y4, y5, y6, none]) (i := 7) (fun x => decide (Hm.fn x.2 a ≠ 0)) (Nat.lt_of_le_of_lt h1000 (by decide)) nq (fun H2 s2 => sqL_ext s2 hq) ?_ ?_ ?_
    · intro x H2 Q hx s2 hQ
      refine ⟨_, rfl, _, rfl, x.1, _, (a : Int), _, rfl, rfl, SqT.of ((hrow x hx).same s2), row_at (hlen x hx), rfl, _, rfl, ?_⟩
      have e : (!decide (V.int (x.2.getD a 0) = V.int 0)) = decide (Hm.fn x.2 a ≠ 0) := by
        rw [dec_int]
        show (!(Hm.fn x.2 a == 0)) = _
        rw [Bool.beq_eq_decide_eq]
        exact (decide_not).symm
      rw [e]
      exact hQ
    · intro x H2 Q hx _ s2 hQ
      exact ⟨_, rfl, hQ H2 (Same.refl _)⟩
    · intro H2 s2 hq2
      exact nx H2 q s2 nq ⟨hq2, fun x hx => (hrow x (List.mem_filter.mp hx).1).same s2⟩
  | false =>
    refine ⟨_, ps_setLc (i := 3) (own := [("row", 7)]) (g := gName 7) (tt := tTest (tOp rNe (tOp (rIxT K) (tVar 7) (tVar 1)) (tC (.int 0)))) (te := tVar 7) rfl scSwept.nd rfl rfl (sw_true rfl rfl rfl (by decide +kernel)) (pi_tup (pv 0))
      (blkOk_by (N := NS) (sc := defScope sSwept) (by decide +kernel)) (fun _ _ _ _ _ => pg_name (i := 7) scSwept.nd rfl (Or.inl rfl)) (fun _ _ _ _ _ => pts_one (pt_cmpR op_ne (pe_ix ix_tup (pv 7) (pv 1) (fun _ _ => rfl)) pe_int (nomark _)))
      (fun _ _ _ _ _ => pv 7), ?_⟩
    intro D H0 l rs a y2 y3 y4 y5 y6 hq hrow hlen h1000 nx
    have hq : SqT K H0 l (rf rs) := hq
    refine ⟨_, rfl, l, rfl, ⟨_, hq⟩, fun q nq => ?_⟩
    refine lc_sel (e := fun x => V.ref x.1) (out := fun x => V.ref x.1) (walk_tup (K := K) (a := l)) (σ := [some (.ref l), some (.int (a : Nat)), y2, y3, y4, y5, y6, none]) (i := 7) (fun x => decide (Hm.fn x.2 a ≠ 0)) (Nat.lt_of_le_of_lt h1000 (by decide)) nq (fun H2 s2 => Rs.sqT_ext s2 hq) ?_ ?_ ?_
    · intro x H2 Q hx s2 hQ
      refine ⟨_, rfl, _, rfl, x.1, _, (a : Int), _, rfl, rfl, SqT.of ((hrow x hx).same s2), row_at (hlen x hx), rfl, _, rfl, ?_⟩
      have e : (!decide (V.int (x.2.getD a 0) = V.int 0)) = decide (Hm.fn x.2 a ≠ 0) := by
        rw [dec_int]
        show (!(Hm.fn x.2 a == 0)) = _
        rw [Bool.beq_eq_decide_eq]
        exact (decide_not).symm
      rw [e]
      exact hQ
    · intro x H2 Q hx _ s2 hQ
      exact ⟨_, rfl, hQ H2 (Same.refl _)⟩
    · intro H2 s2 hq2
      exact nx H2 q s2 nq ⟨hq2, fun x hx => (hrow x (List.mem_filter.mp hx).1).same s2⟩
def lamOf : Stmt → Expr
  | .Assign _ (.Call _ _ [⟨_, e, _⟩] _) _ => e
  | _ => .Name "" ⟨0, 0, 0, 0⟩
def lamP : Expr → Arguments
  | .Lambda p _ _ _ => p
  | _ => ⟨[], [], none, [], [], none, []⟩
def lamE : Expr → Expr
  | .Lambda _ b _ _ => b
  | e => e
def lamS : Expr → Scope
  | .Lambda _ _ s _ => s
  | _ => default
theorem bindR : Rs.LamBind1 "row" (lamP (lamOf (sb 0))) (lamE (lamOf (sb 0))) (lamS (lamOf (sb 0))) := ⟨rfl, fun z q cl doc pm cv ctv u => .of_eq rfl⟩
theorem lam_ok (B : Bn mg) : Rs.Lam1 (Rs.Cx.ren (XS P w K mg base f c A outer s H E) NS') 0 "row" (lamP (lamOf (sb 0))) (lamE (lamOf (sb 0))) (lamS (lamOf (sb 0))) (fun σ H Q => tOp (rIxT K) (tVar 8) (tVar 1) σ H fun v H1 => ∃ i, [v] = [V.int i] ∧ Q (.int (if i < 0 then -i else i)) H1) := by
  refine ⟨Rs.lamQ_by (N := NS') (sc := defScope sSwept) (by decide +kernel), bindR, rfl, fun A2 outer2 z G f2 c2 hr2 => ?_⟩
  exact pe_callB call_abs (by rfl) B.abs boot_abs (pa_cons (pe_ix (show IxR _ (rIxT K) from ix_tup) (pv 8) (pv 1) (fun _ _ => rfl)) pa_nil)
end
end KT
set_option maxRecDepth 100000
set_option maxHeartbeats 2000000
namespace KT
open PySem PySem.Spec PyProof.Rows L2
/-- the key of a row, by its address -/
def keyOf (rs : List (Addr × List Int)) (a : Nat) (v : V) : Int := match rs.find? (fun x => decide (V.ref x.1 = v)) with
  | some x => ((Hm.fn x.2 a).natAbs : Int)
  | none => 0
theorem key_at {H : Hp} {rs : List (Addr × List Int)} {a : Nat} {x : Addr × List Int} (hrow : ∀ x ∈ rs, RT H x) (hx : x ∈ rs) : keyOf rs a (.ref x.1) = ((Hm.fn x.2 a).natAbs : Int) := by
  unfold keyOf
  cases h : rs.find? (fun y => decide (V.ref y.1 = V.ref x.1)) with
  | none =>
    have := List.find?_eq_none.mp h x hx
    simp at this
  | some y =>
    have h1 := List.find?_some h
    have h2 := List.mem_of_find?_eq_some h
    have h3 : y.1 = x.1 := by
      have := of_decide_eq_true h1
      injection this
    dsimp only
    rw [RT.uniq (hrow y h2) (hrow x hx) h3]
theorem abs_nat (i : Int) : (if i < 0 then -i else i) = (i.natAbs : Int) := by
  split <;> omega
section
variable {P : Program} {w : World} {K : PySem.W.Frag} {mg : Str → Option Value} {base : Heap}
variable {f c Pt fL fP : Addr} {fdL fdP : FuncData} {A : Around} {outer : List Env} {s : Shared} {H : Hp} {E : XK} {T : List (Addr × Str)}
theorem b0 (B : Bn mg) (TB : LamX.TabB base mg c Pt) (hm : (Pt, qS) ∈ T) (hu : ∀ p ∈ T, p.1 = Pt → p.2 = qS) (hr : Room 3 (A.deeper (envOfC "swept" (defScope sSwept) s.heap.objs.size f (.ref c)))) :
    ∃ t, PS (XS P w K mg base f c A outer s H E) (sb 0) t ∧ ∀ (D : Ends) (H0 : Hp) (q : Addr) (rs : List (Addr × List Int)) (a : Nat) (y0 y2 y4 y5 y6 : Option V), LamX.Tabs T H0 → RL H0 q rs → (∀ x ∈ rs, a < x.2.length) →
      (∀ H' p rs', LamX.ExtN H0 H' → LamX.Tabs T H' → RL H' p rs' → rs'.Perm rs → rs'.Pairwise (fun x y => (Hm.fn x.2 a).natAbs ≤ (Hm.fn y.2 a).natAbs) → D.nx [y0, some (.int (a : Nat)), y2, some (.ref q), some (.ref p), y5, y6, none] H') →
      t D [y0, some (.int (a : Nat)), y2, some (.ref q), y4, y5, y6, none] H0 := by
  refine ⟨_, ps_set (i := 4) scSwept.nd rfl (.inl rfl) (Rs.pe_ren NS' (Rs.e_sortL (X := Rs.Cx.ren (XS P w K mg base f c A outer s H E) NS') (T := T) (c := c) (P := Pt) (k := 0) rfl (by rfl) B.sorted boot_sorted (pv 3) TB rfl hm hu rfl (lam_ok B) hr)), ?_⟩
  intro D H0 q rs a y0 y2 y4 y5 y6 hT hR hlen nx
  refine ⟨⟨rfl, fun i hi => ?_⟩, _, rfl, q, _, keyOf rs a, rfl, hT, SqL.of hR.lst, ?_, ?_⟩
  · match i, hi with
    | 0, h => exact absurd rfl h
    | 1, h => exact absurd rfl h
    | 2, h => exact absurd rfl h
    | 3, h => exact absurd rfl h
    | 4, h => exact absurd rfl h
    | 5, h => exact absurd rfl h
    | 6, h => exact absurd rfl h
    | 7, h => rfl
    | (n + 8), h => exact absurd rfl h
  · intro v hv G eG
    obtain ⟨x, hx, rfl⟩ := List.mem_map.mp hv
    have hxr := hR.row x hx
    refine ⟨_, rfl, _, rfl, x.1, _, (a : Int), _, rfl, rfl, SqT.of (hxr.ext eG), row_at (hlen x hx), _, rfl, ?_, rfl⟩
    rw [abs_nat, key_at hR.row hx]
    rfl
  · intro ys p H3 pm pw _ e3 t3 hp
    obtain ⟨rs', pm', rfl⟩ := perm_lift (e := fun x : Addr × List Int => V.ref x.1) pm rs rfl
    have row3 : ∀ x ∈ rs', RT H3 x := fun x hx => (hR.row x (pm'.mem_iff.mp hx)).ext e3
    refine nx H3 p rs' e3 t3 ⟨hp, row3⟩ pm' ?_
    rw [List.pairwise_map] at pw
    refine List.Pairwise.imp_of_mem ?_ pw
    intro x y hx hy h
    rw [key_at hR.row (pm'.mem_iff.mp hx), key_at hR.row (pm'.mem_iff.mp hy)] at h
    omega
theorem b1 : ∃ t, PS (XS P w K mg base f c A outer s H E) (sb 1) t ∧ ∀ (D : Ends) (H0 : Hp) (p : Addr) (x : Addr × List Int) (rs : List (Addr × List Int)) (y0 y1 y2 y3 y5 y6 : Option V), RL H0 p (x :: rs) →
      D.nx [y0, y1, y2, y3, some (.ref p), some (.ref x.1), y6, none] H0 → t D [y0, y1, y2, y3, some (.ref p), y5, y6, none] H0 := by
  refine ⟨_, ps_set (i := 5) scSwept.nd rfl (.inr rfl) (pe_ix ix_list (pv 4) pe_int (fun _ _ => rfl)), ?_⟩
  intro D H0 p x rs y0 y1 y2 y3 y5 y6 hR nx
  exact ⟨_, rfl, p, _, 0, _, rfl, rfl, SqL.of hR.lst, atI_nat (j := 0) rfl, nx⟩
theorem cut_tail (xs : List V) (x : V) : cutV (x :: xs) (some 1) none = xs := by
  unfold cutV
  rw [HT.sIx_none, show (1 : Int) = ((1 : Nat) : Int) from rfl, HT.sIx_nat, List.length_cons]
  have e : min 1 (xs.length + 1) = 1 := by omega
  rw [e]
  show (xs.take (xs.length + 1 - 1)) = xs
  rw [Nat.add_sub_cancel, List.take_length]
theorem b2 (cL : Cb P w K mg base CX0 1 "less" ["row", "other", "times"] (spLess K) fL fdL) (hr : Room 3 (A.deeper (envOfC "swept" (defScope sSwept) s.heap.objs.size f (.ref c)))) :
    ∃ t, PS (XS P w K mg base f c A outer s H E) (sb 2) t ∧ ∀ (D : Ends) (H0 : Hp) (p : Addr) (l : Addr × List Int) (rs : List (Addr × List Int)) (n a b : Nat) (y0 y2 y3 y6 : Option V), RL H0 p (l :: rs) → (∀ x ∈ l :: rs, x.2.length = n) → a < n → n ≤ 3 → b ≤ 8000 → (∀ x ∈ l :: rs, ∀ j, (Hm.fn x.2 j).natAbs < 2 ^ (b + 1)) → Hm.fn l.2 a ≠ 0 → rs.length ≤ 1000 →
      (∀ H' q ys, Same H0 H' → RL H' q ys → rw_ ys = Hm.smr a l.2 (rw_ rs) → D.nx [y0, some (.int (a : Nat)), y2, y3, some (.ref p), some (.ref l.1), some (.ref q), none] H') → t D [y0, some (.int (a : Nat)), y2, y3, some (.ref p), some (.ref l.1), y6, none] H0 := by
  have r1 : Room 1 (A.deeper (envOfC "swept" (defScope sSwept) s.heap.objs.size f (.ref c))) := hr.mono (by decide)
  refine ⟨_, ps_setLc (i := 6) (own := [("row", 7)]) (g := gName 7) (tt := tYes) (te := tCall (spLess K) [] E0 (tCons (tVar 7) (tCons (tVar 5) (tCons (tOp (rI (fun _ j => j ≠ 0 ∧ j.natAbs.log2 < 9000) fun i j => .int (i.fdiv j)) (tOp (rIxT K) (tVar 7) (tVar 1)) (tOp (rIxT K) (tVar 5) (tVar 1))) tNil)))) rfl scSwept.nd rfl rfl (sw_true rfl rfl rfl (by decide +kernel)) (pi_list (pe_slice sl_list (pv 4) (po_some pe_int) po_none))
      (blkOk_by (N := NS) (sc := defScope sSwept) (by decide +kernel)) (fun _ _ _ _ _ => pg_name (i := 7) scSwept.nd rfl (Or.inl rfl)) (fun _ _ _ _ _ => pts_nil)
      (fun _ _ _ _ _ => pe_call cL.ok r1 (by rfl) cL.g cL.kp cL.b .nil pass0 (pa_cons (pv 7) (pa_cons (pv 5) (pa_cons (pe_op Rs.op_fdivF (pe_ix ix_tup (pv 7) (pv 1) (fun _ _ => rfl)) (pe_ix ix_tup (pv 5) (pv 1) (fun _ _ => rfl))) pa_nil)))), ?_⟩
  intro D H0 p l rs n a b y0 y2 y3 y6 hR hlen ha hn hb hbd hz h1000 nx
  refine ⟨_, rfl, _, rfl, p, _, rfl, SqL.of hR.lst, fun q0 nq0 => ?_⟩
  have s0 := same_new (o := .lst (cutV (rf (l :: rs)) (some 1) none)) nq0
  have ec : cutV (rf (l :: rs)) (some 1) none = rf rs := cut_tail _ _
  rw [ec] at s0 ⊢
  refine ⟨q0, rfl, ⟨_, SqL.of upd_same⟩, fun D2 nD2 => ?_⟩
  have hl0 : RT H0 l := hR.row l List.mem_cons_self
  refine lc_rows (e := fun x : Addr × List Int => V.ref x.1) (walk_list (K := K) (a := q0)) (te := tCall (spLess K) [] E0 (tCons (tVar 7) (tCons (tVar 5) (tCons (tOp (rI (fun _ j => j ≠ 0 ∧ j.natAbs.log2 < 9000) fun i j => .int (i.fdiv j)) (tOp (rIxT K) (tVar 7) (tVar 1)) (tOp (rIxT K) (tVar 5) (tVar 1))) tNil)))) (σ := [y0, some (.int (a : Nat)), y2, y3, some (.ref p), some (.ref l.1), y6, none]) (i := 7) (fun x => Hm.lsl x.2 l.2 ((Hm.fn x.2 a).fdiv (Hm.fn l.2 a))) (Nat.lt_of_le_of_lt h1000 (by decide)) nD2 (fun H2 s2 => SqL.of (s2 _ _ upd_same)) ?_ ?_
  · intro x H2 Q hx s2 hQ
    have s02 : Same H0 H2 := s0.trans s2
    have hxm : x ∈ l :: rs := List.mem_cons_of_mem _ hx
    have hxr := (hR.row x hxm).same s02
    have hlr := hl0.same s02
    have lb : (Hm.fn l.2 a).natAbs < 2 ^ (b + 1) := hbd l List.mem_cons_self a
    refine ⟨_, rfl, _, rfl, _, rfl, _, rfl, x.1, _, (a : Int), _, rfl, rfl, SqT.of hxr, row_at (by rw [hlen x hxm]; exact ha), _, rfl, _, rfl, l.1, _, (a : Int), _, rfl, rfl, SqT.of hlr, row_at (by rw [hlen l List.mem_cons_self]; exact ha), _, _, rfl, rfl, ⟨hz, ?_⟩, x.1, l.1, x.2, l.2, (Hm.fn x.2 a).fdiv (Hm.fn l.2 a), rfl, SqT.of hxr, SqT.of hlr, ?_, ?_, ?_, fun H3 p3 s3 np3 hp3 => hQ H3 p3 s3 hp3⟩
    · exact Nat.lt_of_lt_of_le (PySem.Flt.log2_lt_of (by omega) lb) (by omega)
    · rw [hlen x hxm, hlen l List.mem_cons_self]
    · rw [hlen x hxm]
      exact hn
    · intro y hy
      have hq : ((Hm.fn x.2 a).fdiv (Hm.fn l.2 a)).natAbs < 2 ^ (b + 2) := by
        have h1 := (Hm.rest_sign (x := Hm.fn x.2 a) hz).2.2
        have h2 := hbd x hxm a
        have h3 : 2 ^ (b + 2) = 2 ^ (b + 1) + 2 ^ (b + 1) := by rw [Nat.pow_succ]; omega
        have h4 : 1 ≤ 2 ^ (b + 1) := Nat.pow_pos (by omega)
        omega
      have hy2 : y.natAbs < 2 ^ (b + 1) := by
        obtain ⟨j, hj⟩ := List.mem_iff_getElem?.mp hy
        have := hbd l List.mem_cons_self j
        unfold Hm.fn at this
        rw [List.getD_eq_getElem?_getD, hj] at this
        exact this
      exact wide_mul hq hy2 (by omega) (by omega) (by omega)
  · intro H2 ys s2 hR2 hy
    refine nx H2 D2 ys (s0.trans s2) hR2 ?_
    rw [hy]
    unfold Hm.smr
    rw [List.map_map]
    rfl
end
end KT
set_option maxRecDepth 100000
set_option maxHeartbeats 2000000
namespace KT
open PySem PySem.Spec PyProof.Rows L2
/-- while, by a word with a number that goes down -/
theorem while_m {c : TT} {tb : TS} {D : Ends} {σ : L2.St} {H : Hp} (Pv : Nat → L2.St → Hp → Prop) {m0 : Nat} (h0 : Pv m0 σ H)
    (hs : ∀ m σ H, Pv m σ H → c σ H fun b H1 => if b = true then tb { D with nx := fun σ' H' => ∃ m', m' < m ∧ Pv m' σ' H', ct := fun σ' H' => ∃ m', m' < m ∧ Pv m' σ' H', bk := D.nx } σ H1 else D.nx σ H1)
    (mono : ∀ σ H Q Q', (∀ b H1, Q b H1 → Q' b H1) → c σ H Q → c σ H Q') : tWhile c tb D σ H := by
  refine ⟨Pv, ⟨m0, h0⟩, ?_⟩
  intro m σ H p
  refine mono σ H _ _ (fun b H1 q => ?_) (hs m σ H p)
  cases b with
  | true => exact ⟨_, fun σ' H' h => h, q⟩
  | false => exact q
section
variable {P : Program} {w : World} {K : PySem.W.Frag} {mg : Str → Option Value} {base : Heap}
variable {f c Pt fL fP : Addr} {fdL fdP : FuncData} {A : Around} {outer : List Env} {s : Shared} {H : Hp} {E : XK} {T : List (Addr × Str)}
theorem b3 : ∃ t, PS (XS P w K mg base f c A outer s H E) (sb 3) t ∧ ∀ (D : Ends) (H0 : Hp) (qc q : Addr) (cl ys : List (Addr × List Int)) (a : Nat) (y0 y3 y4 y5 : Option V), RL H0 qc cl → RL H0 q ys → (∀ x ∈ ys, a < x.2.length) → cl.length ≤ 1000 → ys.length ≤ 1000 →
      (∀ H' p, Same H0 H' → RL H' p (cl ++ ys.filter fun x => decide (Hm.fn x.2 a = 0)) → D.nx [y0, some (.int (a : Nat)), some (.ref p), y3, y4, y5, some (.ref q), none] H') → t D [y0, some (.int (a : Nat)), some (.ref qc), y3, y4, y5, some (.ref q), none] H0 := by
  refine ⟨_, ps_set (i := 2) scSwept.nd rfl (.inl rfl) (pe_op op_cat (pv 2) (pe_lc (own := [("row", 7)]) (g := gName 7) (tt := tTest (tOp rEq (tOp (rIxT K) (tVar 7) (tVar 1)) (tC (.int 0)))) (te := tVar 7) rfl scSwept.nd (pi_list (pv 6))
      (blkOk_by (N := NS) (sc := defScope sSwept) (by decide +kernel)) (fun _ _ _ _ _ => pg_name (i := 7) scSwept.nd rfl (Or.inl rfl)) (fun _ _ _ _ _ => pts_one (pt_cmpR op_eq (pe_ix ix_tup (pv 7) (pv 1) (fun _ _ => rfl)) pe_int (nomark _)))
      (fun _ _ _ _ _ => pv 7))), ?_⟩
  intro D H0 qc q cl ys a y0 y3 y4 y5 hC hY hlen c1000 h1000 nx
  refine ⟨_, rfl, _, rfl, q, rfl, ⟨_, SqL.of hY.lst⟩, fun D2 nD2 => ?_⟩
  refine lc_sel (e := fun x => V.ref x.1) (out := fun x => V.ref x.1) (walk_list (K := K) (a := q)) (σ := [y0, some (.int (a : Nat)), some (.ref qc), y3, y4, y5, some (.ref q), none]) (i := 7) (fun x : Addr × List Int => decide (Hm.fn x.2 a = 0)) (Nat.lt_of_le_of_lt h1000 (by decide)) nD2 (fun H2 s2 => sqL_ext s2 (SqL.of hY.lst)) ?_ ?_ ?_
  · intro x H2 Q hx s2 hQ
    refine ⟨_, rfl, _, rfl, x.1, _, (a : Int), _, rfl, rfl, SqT.of ((hY.row x hx).same s2), row_at (hlen x hx), rfl, _, rfl, ?_⟩
    have e : decide (V.int (x.2.getD a 0) = V.int 0) = decide (Hm.fn x.2 a = 0) := by
      rw [dec_int]
      exact (Bool.beq_eq_decide_eq _ _)
    rw [e]
    exact hQ
  · intro x H2 Q hx _ s2 hQ
    exact ⟨_, rfl, hQ H2 (Same.refl _)⟩
  · intro H2 s2 hD2
    refine ⟨qc, D2, _, _, rfl, rfl, s2 _ _ hC.lst, hD2, ?_, fun p np => ?_⟩
    · have h1 : ((ys.filter fun x => decide (Hm.fn x.2 a = 0)).length) ≤ ys.length := List.length_filter_le _ _
      rw [List.length_map, List.length_map]
      exact Nat.le_trans (show cl.length + _ ≤ 2000 by omega) (by decide)
    · have sp := same_new (o := .lst (rf cl ++ (List.filter (fun x => decide (Hm.fn x.2 a = 0)) ys).map fun x => V.ref x.1)) np
      refine nx _ p (s2.trans sp) ⟨?_, fun x hx => ?_⟩
      · rw [upd_same]
        exact congrArg (fun z => some (HO.lst z)) (List.map_append).symm
      · refine RT.same ?_ (s2.trans sp)
        rcases List.mem_append.mp hx with hx | hx
        · exact hC.row x hx
        · exact hY.row x (List.mem_filter.mp hx).1
theorem b4 : ∃ t, PS (XS P w K mg base f c A outer s H E) (sb 4) t ∧ ∀ (D : Ends) (H0 : Hp) (q : Addr) (l : Addr × List Int) (ys : List (Addr × List Int)) (a : Nat) (y0 y2 y3 y4 : Option V), RT H0 l → RL H0 q ys → (∀ x ∈ ys, a < x.2.length) → ys.length ≤ 1000 →
      (∀ H' p, Same H0 H' → RL H' p (l :: ys.filter fun x => decide (Hm.fn x.2 a ≠ 0)) → D.nx [y0, some (.int (a : Nat)), y2, some (.ref p), y4, some (.ref l.1), some (.ref q), none] H') → t D [y0, some (.int (a : Nat)), y2, y3, y4, some (.ref l.1), some (.ref q), none] H0 := by
  refine ⟨_, ps_set (i := 3) scSwept.nd rfl (.inl rfl) (pe_op op_cat (pe_lst (pa_cons (pv 5) pa_nil)) (pe_lc (own := [("row", 7)]) (g := gName 7) (tt := tTest (tOp rNe (tOp (rIxT K) (tVar 7) (tVar 1)) (tC (.int 0)))) (te := tVar 7) rfl scSwept.nd (pi_list (pv 6))
      (blkOk_by (N := NS) (sc := defScope sSwept) (by decide +kernel)) (fun _ _ _ _ _ => pg_name (i := 7) scSwept.nd rfl (Or.inl rfl)) (fun _ _ _ _ _ => pts_one (pt_cmpR op_ne (pe_ix ix_tup (pv 7) (pv 1) (fun _ _ => rfl)) pe_int (nomark _)))
      (fun _ _ _ _ _ => pv 7))), ?_⟩
  intro D H0 q l ys a y0 y2 y3 y4 hl hY hlen h1000 nx
  refine ⟨_, rfl, (by show 1 ≤ sizeLine; decide), fun p1 np1 => ?_⟩
  have s1 := same_new (o := .lst [.ref l.1]) np1
  refine ⟨_, rfl, q, rfl, ⟨_, SqL.of (s1 _ _ hY.lst)⟩, fun D2 nD2 => ?_⟩
  refine lc_sel (e := fun x => V.ref x.1) (out := fun x => V.ref x.1) (walk_list (K := K) (a := q)) (σ := [y0, some (.int (a : Nat)), y2, y3, y4, some (.ref l.1), some (.ref q), none]) (i := 7) (fun x : Addr × List Int => decide (Hm.fn x.2 a ≠ 0)) (Nat.lt_of_le_of_lt h1000 (by decide)) nD2 (fun H2 s2 => sqL_ext (s1.trans s2) (SqL.of hY.lst)) ?_ ?_ ?_
  · intro x H2 Q hx s2 hQ
    refine ⟨_, rfl, _, rfl, x.1, _, (a : Int), _, rfl, rfl, SqT.of ((hY.row x hx).same (s1.trans s2)), row_at (hlen x hx), rfl, _, rfl, ?_⟩
    have e : (!decide (V.int (x.2.getD a 0) = V.int 0)) = decide (Hm.fn x.2 a ≠ 0) := by
      rw [dec_int]
      show (!(Hm.fn x.2 a == 0)) = _
      rw [Bool.beq_eq_decide_eq]
      exact (decide_not).symm
    rw [e]
    exact hQ
  · intro x H2 Q hx _ s2 hQ
    exact ⟨_, rfl, hQ H2 (Same.refl _)⟩
  · intro H2 s2 hD2
    refine ⟨p1, D2, _, _, rfl, rfl, s2 _ _ upd_same, hD2, ?_, fun p np => ?_⟩
    · have h1 : ((ys.filter fun x => decide (Hm.fn x.2 a ≠ 0)).length) ≤ ys.length := List.length_filter_le _ _
      rw [List.length_map]
      exact Nat.le_trans (show 1 + _ ≤ 2000 by omega) (by decide)
    · have sp := same_new (o := .lst ([.ref l.1] ++ (List.filter (fun x => decide (Hm.fn x.2 a ≠ 0)) ys).map fun x => V.ref x.1)) np
      refine nx _ p ((s1.trans s2).trans sp) ⟨?_, fun x hx => ?_⟩
      · rw [upd_same]
        rfl
      · refine RT.same ?_ ((s1.trans s2).trans sp)
        rcases List.mem_cons.mp hx with rfl | hx
        · exact hl
        · exact hY.row x (List.mem_filter.mp hx).1
end
/-- rows of a width, zero before a, with numbers up to 2 ^ b -/
def Rk (w a b : Nat) (r : List Int) : Prop := r.length = w ∧ (∀ j, j < a → Hm.fn r j = 0) ∧ ∀ j, (Hm.fn r j).natAbs ≤ 2 ^ b
def spSwept (K : PySem.W.Frag) (T : List (Addr × Str)) : Sp := fun vs H Q _ => ∃ (l : Addr) (rs : List (Addr × List Int)) (w a b n : Nat), vs = [.ref l, .int (a : Nat)] ∧ RI K H l rs ∧ LamX.Tabs T H ∧ a < w ∧ w ≤ 3 ∧ 1 ≤ b ∧ b ≤ 1200 ∧ rs.length ≤ n ∧ n ≤ 200 ∧ (∀ r ∈ rw_ rs, Rk w a b r) ∧
  ∀ (H' : Hp) (p q : Addr) (v : V) (cl : List (Addr × List Int)), LamX.ExtN H H' → LamX.Tabs T H' → H' p = some (.tup [v, .ref q]) → RL H' q cl → (∀ r ∈ rw_ cl, Rk w a (5 * b + n + 1) r) → cl.length ≤ rs.length →
    ((v = .non ∧ Hm.Swp a ((rw_ rs).map Hm.fn) none ((rw_ cl).map Hm.fn)) ∨ ∃ x : Addr × List Int, v = .ref x.1 ∧ RT H' x ∧ Rk w a (5 * b + n + 1) x.2 ∧ (Hm.fn x.2 a).natAbs ≤ 2 ^ b ∧ Hm.Swp a ((rw_ rs).map Hm.fn) (some (Hm.fn x.2)) ((rw_ cl).map Hm.fn)) → Q (.ref p) H'
end KT
set_option maxRecDepth 100000
set_option maxHeartbeats 2000000
namespace KT
open PySem PySem.Spec PyProof.Rows L2
theorem rw_zl (a : Nat) (ys : List (Addr × List Int)) : rw_ (ys.filter fun x => decide (Hm.fn x.2 a = 0)) = Hm.zl a (rw_ ys) := by
  unfold Hm.zl
  rw [List.filter_map]
  rfl
theorem rw_nl (a : Nat) (ys : List (Addr × List Int)) : rw_ (ys.filter fun x => decide (Hm.fn x.2 a ≠ 0)) = Hm.nl a (rw_ ys) := by
  unfold Hm.nl
  rw [List.filter_map]
  rfl
theorem rw_mem {rs : List (Addr × List Int)} {x : Addr × List Int} (h : x ∈ rs) : x.2 ∈ rw_ rs := List.mem_map.mpr ⟨x, h, rfl⟩
theorem swb_is : swb = [sb 0, sb 1, sb 2, sb 3, sb 4] := rfl
theorem sw_is : defBody sSwept = [sw 0, sw 1, sw 2, sw 3, sw 4] := rfl
section
variable {P : Program} {w : World} {K : PySem.W.Frag} {mg : Str → Option Value} {base : Heap}
variable {f c Pt fL fP : Addr} {fdL fdP : FuncData} {A : Around} {outer : List Env} {s : Shared} {H : Hp} {E : XK} {T : List (Addr × Str)}
/-- what holds at the while -/
def Wv (T : List (Addr × Str)) (l : Addr) (w a b n : Nat) (R : List (List Int)) (H0 : Hp) (m : Nat) (σ : L2.St) (H : Hp) : Prop := ∃ (qc qr : Addr) (cl rest : List (Addr × List Int)) (y4 y5 y6 : Option V),
  σ = [some (.ref l), some (.int (a : Nat)), some (.ref qc), some (.ref qr), y4, y5, y6, none] ∧ LamX.ExtN H0 H ∧ LamX.Tabs T H ∧ RL H qc cl ∧ RL H qr rest ∧ Hm.Swi w a b n R (rw_ cl) (rw_ rest) ∧ m = Hm.mas a ((rw_ rest).map Hm.fn)
theorem wbody (B : Bn mg) (TB : LamX.TabB base mg c Pt) (hm : (Pt, qS) ∈ T) (hu : ∀ p ∈ T, p.1 = Pt → p.2 = qS) (cL : Cb P w K mg base CX0 1 "less" ["row", "other", "times"] (spLess K) fL fdL) (hr : Room 3 (A.deeper (envOfC "swept" (defScope sSwept) s.heap.objs.size f (.ref c)))) :
    ∃ t, PSs (XS P w K mg base f c A outer s H E) swb t ∧ ∀ (D : Ends) (l : Addr) (wd a b n : Nat) (R : List (List Int)) (H0 H1 : Hp) (qc qr : Addr) (cl rest : List (Addr × List Int)) (y4 y5 y6 : Option V),
      LamX.ExtN H0 H1 → LamX.Tabs T H1 → RL H1 qc cl → RL H1 qr rest → Hm.Swi wd a b n R (rw_ cl) (rw_ rest) → 1 < rest.length → a < wd → wd ≤ 3 → 1 ≤ b → b ≤ 1200 → R.length ≤ n → n ≤ 200 →
      (∀ σ' H' m', m' < Hm.mas a ((rw_ rest).map Hm.fn) → Wv T l wd a b n R H0 m' σ' H' → D.nx σ' H') →
      t D [some (.ref l), some (.int (a : Nat)), some (.ref qc), some (.ref qr), y4, y5, y6, none] H1 := by
  obtain ⟨t0, p0, q0⟩ := b0 (P := P) (w := w) (K := K) (base := base) (outer := outer) (H := H) (E := E) B TB hm hu hr
  obtain ⟨t1, p1, q1⟩ := b1 (P := P) (w := w) (K := K) (mg := mg) (base := base) (f := f) (c := c) (A := A) (outer := outer) (s := s) (H := H) (E := E)
  obtain ⟨t2, p2, q2⟩ := b2 (c := c) (outer := outer) (H := H) (E := E) cL hr
  obtain ⟨t3, p3, q3⟩ := b3 (P := P) (w := w) (K := K) (mg := mg) (base := base) (f := f) (c := c) (A := A) (outer := outer) (s := s) (H := H) (E := E)
  obtain ⟨t4, p4, q4⟩ := b4 (P := P) (w := w) (K := K) (mg := mg) (base := base) (f := f) (c := c) (A := A) (outer := outer) (s := s) (H := H) (E := E)
  rw [swb_is]
  refine ⟨_, pss_cons p0 (pss_cons p1 (pss_cons p2 (pss_cons p3 (pss_one p4)))), ?_⟩
  intro D l wd a b n R H0 H1 qc qr cl rest y4 y5 y6 eX tb hC hR sI hlen ha hw hb hb2 hn hn2 nx
  have lens : ∀ x, x ∈ rest → x.2.length = wd := fun x hx => sI.len x.2 (.inr (rw_mem hx))
  have szs := sI.sz
  rw [List.length_map, List.length_map] at szs
  refine q0 _ H1 qr rest a _ _ y4 y5 y6 tb hR (fun x hx => by rw [lens x hx]; exact ha) fun H2 po rs' e2 tb2 hO pm pw => ?_
  obtain ⟨x0, xs, rfl⟩ : ∃ x0 xs, rs' = x0 :: xs := by
    cases rs' with
    | nil =>
      have := pm.length_eq
      simp at this
      omega
    | cons x0 xs => exact ⟨x0, xs, rfl⟩
  have lx : ∀ x ∈ x0 :: xs, x.2.length = wd := fun x hx => lens x (pm.mem_iff.mp hx)
  have pl := pm.length_eq
  rw [List.length_cons] at pl
  refine q1 _ H2 po x0 xs _ _ _ _ y5 y6 hO ?_
  have z0 : Hm.fn x0.2 a ≠ 0 := sI.rz x0.2 (rw_mem (pm.mem_iff.mp List.mem_cons_self))
  have bds : ∀ x ∈ x0 :: xs, ∀ j, (Hm.fn x.2 j).natAbs < 2 ^ (5 * b + n + 1 + 1) := fun x hx j => by
    have h1 := Hm.swi_bd sI x.2 (.inr (rw_mem (pm.mem_iff.mp hx))) j
    have h2 : 2 ^ (5 * b + n + 1) < 2 ^ (5 * b + n + 1 + 1) := Nat.pow_lt_pow_right (by omega) (by omega)
    omega
  refine q2 _ H2 po x0 xs wd a (5 * b + n + 1) _ _ _ y6 hO lx ha hw (by omega) bds z0 (by omega) fun H3 qm ys s3 hM hy => ?_
  have hC3 : RL H3 qc cl := (hC.ext e2).same s3
  have ly : ∀ x ∈ ys, a < x.2.length := by
    intro x hx
    have hm : x.2 ∈ Hm.smr a x0.2 (rw_ xs) := by
      rw [← hy]
      exact rw_mem hx
    obtain ⟨r, hr1, hr2⟩ := List.mem_map.mp hm
    obtain ⟨x1, hx1, rfl⟩ := List.mem_map.mp hr1
    rw [← hr2, Hm.lsl_len (lx x1 (List.mem_cons_of_mem _ hx1)) (lx x0 List.mem_cons_self)]
    exact ha
  have yl : ys.length = xs.length := by
    have h1 : (rw_ ys).length = (Hm.smr a x0.2 (rw_ xs)).length := by rw [hy]
    unfold Hm.smr at h1
    simpa using h1
  refine q3 _ H3 qc qm cl ys a _ _ _ _ hC3 hM ly (by omega) (by omega) fun H4 pc s4 hC4 => ?_
  refine q4 _ H4 qm x0 ys a _ _ _ _ (((hO.row x0 List.mem_cons_self).same s3).same s4) (hM.same s4) ly (by omega) fun H5 pr s5 hR5 => ?_
  have pm2 : (x0.2 :: rw_ xs).Perm (rw_ rest) := by
    have := pm.map (fun x : Addr × List Int => x.2)
    simpa using this
  have mn : ∀ r ∈ rw_ xs, (Hm.fn x0.2 a).natAbs ≤ (Hm.fn r a).natAbs := by
    intro r hr
    obtain ⟨x1, hx1, rfl⟩ := List.mem_map.mp hr
    exact (List.pairwise_cons.mp pw).1 x1 hx1
  have hne : rw_ xs ≠ [] := by
    intro z
    have h1 : (rw_ xs).length = 0 := by rw [z]; rfl
    rw [List.length_map] at h1
    omega
  obtain ⟨sI', lt⟩ := Hm.swi_round hb hn sI pm2 mn hne
  refine nx _ H5 _ lt ⟨pc, pr, _, _, _, _, _, rfl, ((eX.trans e2).trans (.of s3)).trans ((LamX.ExtN.of s4).trans (.of s5)), ((tb2.ext s3).ext s4).ext s5, hC4.same s5, hR5, ?_, ?_⟩
  · have e1 : rw_ (cl ++ ys.filter fun x => decide (Hm.fn x.2 a = 0)) = rw_ cl ++ Hm.zl a (Hm.smr a x0.2 (rw_ xs)) := by
      rw [← hy, ← rw_zl]
      exact List.map_append
    have e2 : rw_ (x0 :: ys.filter fun x => decide (Hm.fn x.2 a ≠ 0)) = x0.2 :: Hm.nl a (Hm.smr a x0.2 (rw_ xs)) := by
      rw [← hy, ← rw_nl]
      rfl
    rw [e1, e2]
    exact sI'
  · have e2 : rw_ (x0 :: ys.filter fun x => decide (Hm.fn x.2 a ≠ 0)) = x0.2 :: Hm.nl a (Hm.smr a x0.2 (rw_ xs)) := by
      rw [← hy, ← rw_nl]
      rfl
    rw [e2]
end
end KT
set_option maxRecDepth 100000
set_option maxHeartbeats 2000000
namespace KT
open PySem PySem.Spec PyProof.Rows L2
def spPosT (K : PySem.W.Frag) : Sp := fun vs H Q _ => ∃ (a : Addr) (r : List Int) (n : Nat), vs = [.ref a, .int (n : Nat)] ∧ RT H (a, r) ∧ n < r.length ∧ r.length ≤ 3 ∧ ∀ H' p, Same H H' → RT H' (p, sgl r n) → Q (.ref p) H'
section
variable {P : Program} {w : World} {K : PySem.W.Frag} {mg : Str → Option Value} {base : Heap}
theorem ok_posT {f : Addr} {fd : FuncData} {k : Nat} (F : Fun K "with_positive" "with_positive" sPositive f fd) (B : Bn mg) : FnOk P w K mg base CX0 (k + 1) f fd ["row", "at"] (spPosT K) := by
  refine F.ok scPositive (fun vs H Q E h => ?_) (fun cdv A outer s H vs Q E hr h => ?_)
  · obtain ⟨a, r, n, rfl, _⟩ := h
    rfl
  · obtain ⟨a, r, n, rfl, ha, hn, h3, q⟩ := h
    refine ⟨_, pss_cons (ps_if (pt_cmpR op_gt (pe_ix ix_tup (pv 0) (pv 1) (fun _ _ => rfl)) pe_int (nomark _)) (pss_one (ps_ret (pv 0))) pss_nil)
      (pss_one (ps_ret (pe_callTy call_tuple_of (by rfl) B.tuple boot_tuple (pa_cons (pe_lc (own := [("number", 2)]) (g := gName 2) (tt := tYes) rfl scPositive.nd (pi_tup (pv 0))
        (blkOk_by (N := ["row", "at", "number"]) (sc := defScope sPositive) (by decide +kernel)) (fun _ _ _ _ _ => pg_name (i := 2) scPositive.nd rfl (Or.inl rfl)) (fun _ _ _ _ _ => pts_nil)
        (fun _ _ _ _ _ => pe_un un_neg (pv 2))) pa_nil)))), ?_⟩
    refine ⟨_, rfl, _, rfl, a, _, (n : Int), _, rfl, rfl, SqT.of ha, row_at hn, _, _, rfl, rfl, _, rfl, ?_⟩
    by_cases hp : 0 < r.getD n 0
    · rw [decide_eq_true hp]
      refine iteT ⟨_, rfl, ?_⟩
      refine q H a (Same.refl _) ?_
      unfold sgl
      rw [if_pos hp]
      exact ha
    · rw [decide_eq_false hp]
      refine iteF ?_
      refine ⟨_, rfl, a, rfl, ⟨_, SqT.of ha⟩, fun D nD => ?_⟩
      refine lc_pure walk_tup (σ := [some (.ref a), some (.int (n : Nat)), none]) (i := 2) (fun v => match v with | .int x => .int (-x) | v => v) (fun _ => true) (by rw [List.length_map]; exact Nat.lt_of_le_of_lt h3 (by decide)) nD (fun H2 s2 => Rs.sqT_ext s2 (SqT.of ha)) (fun x H2 Q _ _ h => h) ?_ ?_
      · intro x H2 Q2 hx _ _ h
        obtain ⟨c, hc, rfl⟩ := List.mem_map.mp hx
        exact ⟨_, rfl, _, rfl, h H2 (Same.refl _)⟩
      · intro H2 s2 hD
        refine ⟨D, _, rfl, .inl ⟨SqL.of hD, fun p2 np2 => ?_⟩⟩
        refine q _ p2 (s2.trans (same_new np2)) ?_
        show upd _ p2 _ p2 = some (HO.tup (List.map V.int (sgl r n)))
        rw [upd_same, List.filter_eq_self.mpr (by simp), List.map_map]
        unfold sgl
        rw [if_neg hp, List.map_map]
        rfl
end
section
variable {P : Program} {w : World} {K : PySem.W.Frag} {mg : Str → Option Value} {base : Heap}
variable {f c Pt fL fP : Addr} {fdL fdP : FuncData} {A : Around} {outer : List Env} {s : Shared} {H : Hp} {E : XK} {T : List (Addr × Str)}
theorem w2 (B : Bn mg) (TB : LamX.TabB base mg c Pt) (hm : (Pt, qS) ∈ T) (hu : ∀ p ∈ T, p.1 = Pt → p.2 = qS) (cL : Cb P w K mg base CX0 1 "less" ["row", "other", "times"] (spLess K) fL fdL) (hr : Room 3 (A.deeper (envOfC "swept" (defScope sSwept) s.heap.objs.size f (.ref c)))) :
    ∃ t, PS (XS P w K mg base f c A outer s H E) (sw 2) t ∧ ∀ (D : Ends) (l : Addr) (wd a b n : Nat) (R : List (List Int)) (H0 H1 : Hp) (qc qr : Addr) (cl rest : List (Addr × List Int)) (y4 y5 y6 : Option V),
      LamX.ExtN H0 H1 → LamX.Tabs T H1 → RL H1 qc cl → RL H1 qr rest → Hm.Swi wd a b n R (rw_ cl) (rw_ rest) → a < wd → wd ≤ 3 → 1 ≤ b → b ≤ 1200 → R.length ≤ n → n ≤ 200 →
      (∀ (H' : Hp) (qc qr : Addr) (cl rest : List (Addr × List Int)) (y4 y5 y6 : Option V), LamX.ExtN H0 H' → LamX.Tabs T H' → RL H' qc cl → RL H' qr rest → Hm.Swi wd a b n R (rw_ cl) (rw_ rest) → rest.length ≤ 1 → D.nx [some (.ref l), some (.int (a : Nat)), some (.ref qc), some (.ref qr), y4, y5, y6, none] H') →
      t D [some (.ref l), some (.int (a : Nat)), some (.ref qc), some (.ref qr), y4, y5, y6, none] H1 := by
  obtain ⟨tb, pb, qb⟩ := wbody (P := P) (w := w) (K := K) (base := base) (outer := outer) (H := H) (E := E) B TB hm hu cL hr
  refine ⟨_, ps_while PassesOwn.never (pt_cmpR op_gt (pe_callB call_len_seq (by rfl) B.len PySem.boot_len (pa_cons (pv 3) pa_nil)) pe_int (nomark _)) pb, ?_⟩
  intro D l wd a b n R H0 H1 qc qr cl rest y4 y5 y6 eX tb1 hC hR sI ha hw hb hb2 hn hn2 nx
  refine while_m (Wv T l wd a b n R H0) (m0 := _) ⟨qc, qr, cl, rest, y4, y5, y6, rfl, eX, tb1, hC, hR, sI, rfl⟩ ?_ ?_
  · rintro m σ H2 ⟨qc2, qr2, cl2, rest2, z4, z5, z6, rfl, eX2, tb2, hC2, hR2, sI2, rfl⟩
    refine ⟨_, rfl, qr2, _, rfl, .inl (SqL.of hR2.lst), _, _, rfl, rfl, _, rfl, ?_⟩
    rw [List.length_map]
    by_cases h1 : 1 < rest2.length
    · rw [decide_eq_true (by omega : (1 : Int) < (rest2.length : Int))]
      refine iteT ?_
      exact qb _ l wd a b n R H0 H2 qc2 qr2 cl2 rest2 z4 z5 z6 eX2 tb2 hC2 hR2 sI2 h1 ha hw hb hb2 hn hn2 fun σ' H' m' hm' hW => ⟨m', hm', hW⟩
    · rw [decide_eq_false (by omega : ¬ (1 : Int) < (rest2.length : Int))]
      refine iteF ?_
      exact nx H2 qc2 qr2 cl2 rest2 z4 z5 z6 eX2 tb2 hC2 hR2 sI2 (by omega)
  · intro σ H Q Q' hQ h
    obtain ⟨v, hv, p, ys, e, hs, i, j, e1, e2, k, e3, q⟩ := h
    exact ⟨v, hv, p, ys, e, hs, i, j, e1, e2, k, e3, hQ _ _ q⟩
theorem w34 (cP : Cb P w K mg base CX0 1 "with_positive" ["row", "at"] (spPosT K) fP fdP) (hr : Room 3 (A.deeper (envOfC "swept" (defScope sSwept) s.heap.objs.size f (.ref c)))) :
    ∃ t, PSs (XS P w K mg base f c A outer s H E) [sw 3, sw 4] t ∧ ∀ (D : Ends) (l : Addr) (wd a b n : Nat) (R : List (List Int)) (H1 : Hp) (qc qr : Addr) (cl rest : List (Addr × List Int)) (y4 y5 y6 : Option V),
      RL H1 qc cl → RL H1 qr rest → Hm.Swi wd a b n R (rw_ cl) (rw_ rest) → a < wd → wd ≤ 3 → rest.length ≤ 1 →
      (∀ (H' : Hp) (p : Addr) (v : V), Same H1 H' → H' p = some (.tup [v, .ref qc]) → ((v = .non ∧ rest = []) ∨ ∃ (y : Addr × List Int) (x : Addr), rest = [y] ∧ v = .ref x ∧ RT H' (x, sgl y.2 a)) → D.rt (.ref p) H') →
      t D [some (.ref l), some (.int (a : Nat)), some (.ref qc), some (.ref qr), y4, y5, y6, none] H1 := by
  have r1 : Room 1 (A.deeper (envOfC "swept" (defScope sSwept) s.heap.objs.size f (.ref c))) := hr.mono (by decide)
  refine ⟨_, pss_cons (ps_if (pt_not (pt_truth (pv 3) (by intro _; rfl))) (pss_one (ps_ret (pe_tup (pa_cons pe_non (pa_cons (pv 2) pa_nil))))) pss_nil)
    (pss_one (ps_ret (pe_tup (pa_cons (pe_call cP.ok r1 (by rfl) cP.g cP.kp cP.b .nil pass0 (pa_cons (pe_ix ix_list (pv 3) pe_int (fun _ _ => rfl)) (pa_cons (pv 1) pa_nil))) (pa_cons (pv 2) pa_nil))))), ?_⟩
  intro D l wd a b n R H1 qc qr cl rest y4 y5 y6 hC hR sI ha hw h1 nx
  cases rest with
  | nil =>
    refine ⟨_, rfl, false, .inl ⟨_, SqL.of hR.lst, rfl⟩, ?_⟩
    refine iteT ⟨_, rfl, (by show 2 ≤ sizeLine; decide), fun p np => ?_⟩
    exact nx _ p .non (same_new np) upd_same (.inl ⟨rfl, rfl⟩)
  | cons y rest =>
    obtain rfl : rest = [] := by
      rw [List.length_cons] at h1
      exact List.eq_nil_of_length_eq_zero (by omega)
    refine ⟨_, rfl, true, .inl ⟨_, SqL.of hR.lst, rfl⟩, ?_⟩
    refine iteF ?_
    have ylen : y.2.length = wd := sI.len y.2 (.inr List.mem_cons_self)
    refine ⟨_, rfl, qr, _, 0, _, rfl, rfl, SqL.of hR.lst, atI_nat (j := 0) rfl, _, rfl, y.1, y.2, a, rfl, hR.row y List.mem_cons_self, by omega, by omega, fun H2 p2 s2 hp2 => ?_⟩
    refine ⟨_, rfl, (by show 2 ≤ sizeLine; decide), fun p np => ?_⟩
    exact nx _ p (.ref p2) (s2.trans (same_new np)) upd_same (.inr ⟨y, p2, rfl, rfl, hp2.same (same_new np)⟩)
end
end KT
set_option maxRecDepth 100000
set_option maxHeartbeats 2000000
namespace KT
open PySem PySem.Spec PyProof.Rows L2
theorem sgl_bd {r : List Int} {n j : Nat} : (Hm.fn (sgl r n) j).natAbs = (Hm.fn r j).natAbs := by
  rw [fn_sgl]
  unfold Hm.sgd
  split
  · rfl
  · show (-1 * Hm.fn r j).natAbs = _
    omega
section
variable {P : Program} {w : World} {K : PySem.W.Frag} {mg : Str → Option Value} {base : Heap}
variable {f c Pt fL fP : Addr} {fdL fdP : FuncData} {T : List (Addr × Str)}
theorem ok_swept {oc kV doc pm ct : Value} {an od : Option Addr} {osl : Array (Option Value)}
    (lk : K.lookup f = some ⟨oc, od, .func (PySem.W.fnOf "swept" "swept" (defArgs sSwept) (defBody sSwept) (defScope sSwept) .none kV doc pm an (.ref c) ct), osl⟩) (hcd : PySem.W.codeIn K (.ref c) "swept" = true) (B : Bn mg)
    (TB : LamX.TabB base mg c Pt) (hm : (Pt, qS) ∈ T) (hu : ∀ p ∈ T, p.1 = Pt → p.2 = qS) (cL : Cb P w K mg base CX0 1 "less" ["row", "other", "times"] (spLess K) fL fdL) (cP : Cb P w K mg base CX0 1 "with_positive" ["row", "at"] (spPosT K) fP fdP) :
    FnOk P w K mg base CX0 4 f (PySem.W.fnOf "swept" "swept" (defArgs sSwept) (defBody sSwept) (defScope sSwept) .none kV doc pm an (.ref c) ct) ["rows", "at"] (spSwept K T) := by
  refine fn_of lk hcd scSwept (fun vs H Q E h => ?_) (fun A outer s H vs Q E hr h => ?_)
  · obtain ⟨l, rs, wd, a, b, n, rfl, _⟩ := h
    rfl
  · obtain ⟨l, rs, wd, a, b, n, rfl, hI, hT, ha, hw, hb, hb2, hn, hn2, hk, q⟩ := h
    obtain ⟨kd, hq⟩ : ∃ kd : Bool, (if kd then SqL K H l (rf rs) else SqT K H l (rf rs)) := by
      rcases hI.seq with h | h
      · exact ⟨true, h⟩
      · exact ⟨false, h⟩
    obtain ⟨t0, p0, q0⟩ := w0 (P := P) (w := w) (K := K) (mg := mg) (base := base) (f := f) (c := c) (A := A) (outer := outer) (s := s) (H := H) (E := E) kd
    obtain ⟨t1, p1, q1⟩ := w1 (P := P) (w := w) (K := K) (mg := mg) (base := base) (f := f) (c := c) (A := A) (outer := outer) (s := s) (H := H) (E := E) kd
    obtain ⟨t2, p2, q2⟩ := w2 (P := P) (w := w) (K := K) (base := base) (outer := outer) (H := H) (E := E) B TB hm hu cL hr
    obtain ⟨t3, p3, q3⟩ := w34 (P := P) (w := w) (K := K) (base := base) (outer := outer) (H := H) (E := E) cP hr
    rw [sw_is]
    refine ⟨_, PSs.nox (pss_cons p0 (pss_cons p1 (pss_cons p2 p3))), ?_⟩
    have hlen : ∀ x ∈ rs, a < x.2.length := fun x hx => by
      rw [(hk x.2 (rw_mem hx)).1]
      exact ha
    refine q0 _ H l rs a none none none none none hq hI.row hlen (by omega) fun H1 qc s1 nc hC => ?_
    have hq1 : (if kd then SqL K H1 l (rf rs) else SqT K H1 l (rf rs)) := by
      cases kd with
      | true => exact sqL_ext s1 hq
      | false => exact Rs.sqT_ext s1 hq
    refine q1 _ H1 l rs a (some (.ref qc)) none none none none hq1 (fun x hx => (hI.row x hx).same s1) hlen (by omega) fun H2 qr s2 nr hR => ?_
    have sI : Hm.Swi wd a b n (rw_ rs) (rw_ (rs.filter fun x => decide (Hm.fn x.2 a = 0))) (rw_ (rs.filter fun x => decide (Hm.fn x.2 a ≠ 0))) := by
      rw [rw_zl, rw_nl]
      exact Hm.swi_start (fun r hr => (hk r hr).1) (fun r hr => (hk r hr).2.1) (fun r hr => (hk r hr).2.2)
    refine q2 _ l wd a b n (rw_ rs) H H2 qc qr _ _ none none none (.of (s1.trans s2)) ((hT.ext s1).ext s2) (hC.same s2) hR sI ha hw hb hb2 (by rw [List.length_map]; exact hn) hn2 fun H3 qc3 qr3 cl3 rest3 y4 y5 y6 e3 t3 hC3 hR3 sI3 h1 => ?_
    refine q3 _ l wd a b n (rw_ rs) H3 qc3 qr3 cl3 rest3 y4 y5 y6 hC3 hR3 sI3 ha hw h1 fun H4 p v s4 hp hv => ?_
    have sz := sI3.sz
    rw [List.length_map, List.length_map, List.length_map] at sz
    refine q H4 p qc3 v cl3 (e3.trans (.of s4)) (t3.ext s4) hp (hC3.same s4) (fun r hr => ⟨sI3.len r (.inl hr), sI3.low r (.inl hr), Hm.swi_bd sI3 r (.inl hr)⟩) (by omega) ?_
    rcases hv with ⟨rfl, rfl⟩ | ⟨y, x, rfl, rfl, hx⟩
    · exact .inl ⟨rfl, Hm.swi_none sI3⟩
    · have my : y.2 ∈ rw_ [y] := List.mem_cons_self
      refine .inr ⟨(x, sgl y.2 a), rfl, hx, ⟨?_, fun j hj => ?_, fun j => ?_⟩, ?_, ?_⟩
      · rw [sgl_len]
        exact sI3.len y.2 (.inr my)
      · have h2 := sI3.low y.2 (.inr my) j hj
        have h3 := sgl_bd (r := y.2) (n := a) (j := j)
        rw [h2] at h3
        show Hm.fn (sgl y.2 a) j = 0
        omega
      · show (Hm.fn (sgl y.2 a) j).natAbs ≤ _
        rw [sgl_bd]
        exact Hm.swi_bd sI3 y.2 (.inr my) j
      · show (Hm.fn (sgl y.2 a) a).natAbs ≤ _
        rw [sgl_bd]
        exact sI3.lead y.2 my
      · show Hm.Swp a _ (some (Hm.fn (sgl y.2 a))) _
        rw [fn_sgl]
        exact Hm.swi_one sI3
end
end KT
namespace Hm
/-! how great the numbers of the rows become, column by column -/
def bb (b n : Nat) : Nat → Nat
  | 0 => b
  | a + 1 => 5 * bb b n a + n + 1
theorem bb_pos {b n : Nat} (hb : 1 ≤ b) : ∀ a, 1 ≤ bb b n a
  | 0 => hb
  | a + 1 => by
    show 1 ≤ 5 * bb b n a + n + 1
    omega
theorem bb_le {b n a : Nat} (h : 25 * b + 6 * n + 6 ≤ 1200) (ha : a < 3) : bb b n a ≤ 1200 := by
  match a, ha with
  | 0, _ => show b ≤ 1200; omega
  | 1, _ => show 5 * b + n + 1 ≤ 1200; omega
  | 2, _ => show 5 * (5 * b + n + 1) + n + 1 ≤ 1200; omega
/-- a row that was found before column a -/
structure Fd (w b n a : Nat) (r : List Int) : Prop where
  len : r.length = w
  beg : ∃ c, c < a ∧ Beg (fn r) c ∧ 0 < fn r c ∧ (fn r c).natAbs ≤ 2 ^ bb b n c
  bd : ∀ j, (fn r j).natAbs < 2 ^ (7000 * a)
theorem two_pow_lt {x y : Nat} (h : x < y) : 2 ^ x < 2 ^ y := Nat.pow_lt_pow_right (by omega) h
theorem fd_lead {w b n a : Nat} {l : List Int} (hl : l.length = w) (low : ∀ j, j < a → fn l j = 0) (pos : 0 < fn l a) (hb : ∀ j, (fn l j).natAbs ≤ 2 ^ bb b n (a + 1)) (h1 : (fn l a).natAbs ≤ 2 ^ bb b n a) (cap : bb b n (a + 1) ≤ 6201) : Fd w b n (a + 1) l := by
  refine ⟨hl, ⟨a, by omega, ⟨low, by omega⟩, pos, h1⟩, fun j => ?_⟩
  have := two_pow_lt (show bb b n (a + 1) < 7000 * (a + 1) by omega)
  have := hb j
  omega
theorem fd_red {w b n a : Nat} {l r : List Int} (hl : l.length = w) (low : ∀ j, j < a → fn l j = 0) (pos : 0 < fn l a) (hb : ∀ j, (fn l j).natAbs ≤ 2 ^ bb b n (a + 1)) (cap : bb b n (a + 1) ≤ 6201) (h : Fd w b n a r) : Fd w b n (a + 1) (redL a l r) := by
  have ef : fn (redL a l r) = ls (fn r) (fn l) (fn r a / fn l a) := by
    unfold redL
    rw [fn_lsl (by rw [h.len, hl])]
    rfl
  obtain ⟨c, hc, ⟨g1, g2⟩, g3, g4⟩ := h.beg
  have same : ∀ j, j < a → fn (redL a l r) j = fn r j := by
    intro j hj
    rw [ef]
    show fn r j - _ * fn l j = _
    rw [low j hj]
    simp
  refine ⟨lsl_len h.len hl _, ⟨c, by omega, ⟨fun j hj => ?_, ?_⟩, ?_, ?_⟩, fun j => ?_⟩
  · rw [same j (by omega)]
    exact g1 j hj
  · rw [same c hc]
    exact g2
  · rw [same c hc]
    exact g3
  · rw [same c hc]
    exact g4
  · rw [ef]
    have h1 := h.bd j
    have h2 := h.bd a
    have h3 := hb j
    have hq : (fn r a / fn l a).natAbs ≤ (fn r a).natAbs + 1 := by
      have := (rest_sign (x := fn r a) (l := fn l a) (by omega)).2.2
      rw [Int.fdiv_eq_ediv_of_nonneg _ (by omega)] at this
      exact this
    have h4 : (fn r a / fn l a * fn l j).natAbs ≤ 2 ^ (7000 * a) * 2 ^ bb b n (a + 1) := by
      rw [Int.natAbs_mul]
      exact Nat.mul_le_mul (by omega) h3
    have h5 : (fn r j - fn r a / fn l a * fn l j).natAbs ≤ (fn r j).natAbs + (fn r a / fn l a * fn l j).natAbs := by omega
    show (fn r j - fn r a / fn l a * fn l j).natAbs < _
    rw [← Nat.pow_add] at h4
    have h6 := two_pow_lt (show 7000 * a + bb b n (a + 1) < 7000 * a + 6999 by omega)
    have h7 : 2 ^ (7000 * a) ≤ 2 ^ (7000 * a + 6999) := Nat.pow_le_pow_right (by omega) (by omega)
    have h8 : 2 ^ (7000 * (a + 1)) = 2 ^ (7000 * a + 6999) + 2 ^ (7000 * a + 6999) := by
      rw [show 7000 * (a + 1) = 7000 * a + 6999 + 1 by omega, Nat.pow_succ]
      omega
    omega
end Hm
set_option maxRecDepth 100000
set_option maxHeartbeats 2000000
namespace KT
open PySem PySem.Spec PyProof.Rows L2
abbrev NN : List Str := ["rows", "width", "found", "rest", "at", "lead", "row"]
theorem scNormal : FnScope NN ["rows", "width"] (defScope sNormal) := ⟨rfl, rfl, rfl, by decide +kernel, rfl, by decide +kernel, by decide +kernel⟩
abbrev XN (P : Program) (w : World) (K : PySem.W.Frag) (mg : Str → Option Value) (base : Heap) (f : Addr) (cdv : Value) (A : Around) (outer : List Env) (s : Shared) (H : Hp) (E : XK) : Cx := (cxOf CX0 P w K mg base NN "normal_rows" (defScope sNormal) f cdv A outer s H E).nox
def forBody : Stmt → List Stmt
  | .For _ _ b _ _ => b
  | _ => []
def nb : List Stmt := forBody ((defBody sNormal).getD 2 (.Pass ⟨0, 0, 0, 0⟩))
abbrev nbs (i : Nat) : Stmt := nb.getD i (.Pass ⟨0, 0, 0, 0⟩)
def ifBody : Stmt → List Stmt
  | .If _ b _ _ => b
  | _ => []
def nif : Stmt := (ifBody (nbs 1)).getD 0 (.Pass ⟨0, 0, 0, 0⟩)
/-- a number that is no tracked thing before -/
def New (H : Hp) (q : Addr) : Prop := ∀ o, H q = some o → ∃ ps, o = .tbl ps
def spNormal (K : PySem.W.Frag) (T : List (Addr × Str)) : Sp := fun vs H Q _ => ∃ (l : Addr) (rs : List (Addr × List Int)) (w b n : Nat), vs = [.ref l, .int (w : Nat)] ∧ RI K H l rs ∧ LamX.Tabs T H ∧ w ≤ 3 ∧ 1 ≤ b ∧ 25 * b + 6 * n + 6 ≤ 1200 ∧ rs.length ≤ n ∧ (∀ r ∈ rw_ rs, Rk w 0 b r) ∧
  ∀ (H' : Hp) (q : Addr) (fs : List (Addr × List Int)) (rest : List (List Int)), LamX.ExtN H H' → LamX.Tabs T H' → New H q → RL H' q fs → (∀ r ∈ rw_ fs, Hm.Fd w b n w r) → Hm.Nrm w w (rw_ rs) (rw_ fs) rest → fs.length ≤ w → Q (.ref q) H'
section
variable {P : Program} {w : World} {K : PySem.W.Frag} {mg : Str → Option Value} {base : Heap}
variable {f fL fS : Addr} {fdL fdS : FuncData} {A : Around} {outer : List Env} {s : Shared} {H : Hp} {E : XK} {T : List (Addr × Str)} {cdv : Value}
theorem nif1 (cL : Cb P w K mg base CX0 1 "less" ["row", "other", "times"] (spLess K) fL fdL) (hr : Room 4 (A.deeper (envOfC "normal_rows" (defScope sNormal) s.heap.objs.size f cdv))) :
    ∃ t, PS (XN P w K mg base f cdv A outer s H E) nif t ∧ ∀ (D : Ends) (H0 : Hp) (q : Addr) (fs : List (Addr × List Int)) (x : Addr × List Int) (wd b n a : Nat) (y0 y1 y3 : Option V), RL H0 q fs → RT H0 x → (∀ r ∈ rw_ fs, Hm.Fd wd b n a r) → x.2.length = wd → a < wd → wd ≤ 3 → 0 < Hm.fn x.2 a → (∀ j, (Hm.fn x.2 j).natAbs ≤ 2 ^ 6201) → fs.length ≤ 3 →
      (∀ (H' : Hp) (p : Addr) (ys : List (Addr × List Int)), Same H0 H' → H0 p = none → RL H' p (ys ++ [x]) → rw_ ys = (rw_ fs).map (Hm.redL a x.2) → D.nx [y0, y1, some (.ref p), y3, some (.int (a : Nat)), some (.ref x.1), none] H') →
      t D [y0, y1, some (.ref q), y3, some (.int (a : Nat)), some (.ref x.1), none] H0 := by
  have r1 : Room 1 (A.deeper (envOfC "normal_rows" (defScope sNormal) s.heap.objs.size f cdv)) := hr.mono (by decide)
  refine ⟨_, ps_set (i := 2) scNormal.nd rfl (.inl rfl) (pe_op op_cat (pe_lc (own := [("row", 6)]) (g := gName 6) (tt := tYes) (te := tCall (spLess K) [] E0 (tCons (tVar 6) (tCons (tVar 5) (tCons (tOp (rI (fun _ j => j ≠ 0 ∧ j.natAbs.log2 < 9000) fun i j => .int (i.fdiv j)) (tOp (rIxT K) (tVar 6) (tVar 4)) (tOp (rIxT K) (tVar 5) (tVar 4))) tNil)))) rfl scNormal.nd (pi_list (pv 2))
      (blkOk_by (N := NN) (sc := defScope sNormal) (by decide +kernel)) (fun _ _ _ _ _ => pg_name (i := 6) scNormal.nd rfl (Or.inl rfl)) (fun _ _ _ _ _ => pts_nil)
      (fun _ _ _ _ _ => pe_call cL.ok r1 (by rfl) cL.g cL.kp cL.b .nil pass0 (pa_cons (pv 6) (pa_cons (pv 5) (pa_cons (pe_op Rs.op_fdivF (pe_ix ix_tup (pv 6) (pv 4) (fun _ _ => rfl)) (pe_ix ix_tup (pv 5) (pv 4) (fun _ _ => rfl))) pa_nil)))))
    (pe_lst (pa_cons (pv 5) pa_nil))), ?_⟩
  intro D H0 q fs x wd b n a y0 y1 y3 hR hx hF hlen ha hw hpos hbd h3 nx
  refine ⟨_, rfl, q, rfl, ⟨_, SqL.of hR.lst⟩, fun D2 nD2 => ?_⟩
  refine lc_rows (e := fun x : Addr × List Int => V.ref x.1) (walk_list (K := K) (a := q)) (te := tCall (spLess K) [] E0 (tCons (tVar 6) (tCons (tVar 5) (tCons (tOp (rI (fun _ j => j ≠ 0 ∧ j.natAbs.log2 < 9000) fun i j => .int (i.fdiv j)) (tOp (rIxT K) (tVar 6) (tVar 4)) (tOp (rIxT K) (tVar 5) (tVar 4))) tNil)))) (σ := [y0, y1, some (.ref q), y3, some (.int (a : Nat)), some (.ref x.1), none]) (i := 6) (fun r => Hm.redL a x.2 r.2) (Nat.lt_of_le_of_lt h3 (by decide)) nD2 (fun H2 s2 => SqL.of (s2 _ _ hR.lst)) ?_ ?_
  · intro r H2 Q hr2 s2 hQ
    have hF2 := hF r.2 (rw_mem hr2)
    have hrr := (hR.row r hr2).same s2
    have hxr := hx.same s2
    refine ⟨_, rfl, _, rfl, _, rfl, _, rfl, r.1, _, (a : Int), _, rfl, rfl, SqT.of hrr, row_at (by rw [hF2.len]; exact ha), _, rfl, _, rfl, x.1, _, (a : Int), _, rfl, rfl, SqT.of hxr, row_at (by rw [hlen]; exact ha), _, _, rfl, rfl, ⟨?_, ?_⟩, r.1, x.1, r.2, x.2, (Hm.fn r.2 a).fdiv (Hm.fn x.2 a), rfl, SqT.of hrr, SqT.of hxr, ?_, ?_, ?_, fun H3 p3 s3 np3 hp3 => hQ H3 p3 s3 ?_⟩
    · show Hm.fn x.2 a ≠ 0
      omega
    · have h1 : (Hm.fn x.2 a).natAbs < 2 ^ 6202 := Nat.lt_of_le_of_lt (hbd a) (Hm.two_pow_lt (by omega))
      exact Nat.lt_of_lt_of_le (PySem.Flt.log2_lt_of (by omega) h1) (by omega)
    · rw [hF2.len, hlen]
    · rw [hF2.len]
      exact hw
    · intro y hy
      have hq : ((Hm.fn r.2 a).fdiv (Hm.fn x.2 a)).natAbs < 2 ^ (7000 * a + 1) := by
        have h1 := (Hm.rest_sign (x := Hm.fn r.2 a) (l := Hm.fn x.2 a) (by omega)).2.2
        have h2 := hF2.bd a
        have h4 : 2 ^ (7000 * a + 1) = 2 ^ (7000 * a) + 2 ^ (7000 * a) := by rw [Nat.pow_succ]; omega
        have h5 : 1 ≤ 2 ^ (7000 * a) := Nat.pow_pos (by omega)
        omega
      have hy2 : y.natAbs < 2 ^ 6202 := by
        obtain ⟨j, hj⟩ := List.mem_iff_getElem?.mp hy
        have h1 := hbd j
        unfold Hm.fn at h1
        rw [List.getD_eq_getElem?_getD, hj] at h1
        exact Nat.lt_of_le_of_lt h1 (Hm.two_pow_lt (by omega))
      exact wide_mul hq hy2 (by omega) (by omega) (by omega)
    · rw [hp3, Int.fdiv_eq_ediv_of_nonneg _ (by omega)]
      rfl
  · intro H2 ys s2 hR2 hy
    refine ⟨_, rfl, (by show 1 ≤ sizeLine; decide), fun p1 np1 => ?_⟩
    have s3 := same_new (o := .lst [.ref x.1]) np1
    refine ⟨D2, p1, _, _, rfl, rfl, s3 _ _ hR2.lst, upd_same, ?_, fun p np => ?_⟩
    · have h1 : (rw_ ys).length = (fs.map fun r => Hm.redL a x.2 r.2).length := by rw [hy]
      rw [List.length_map, List.length_map] at h1
      rw [List.length_map]
      exact Nat.le_trans (show ys.length + 1 ≤ 4 by omega) (by decide)
    · have s4 := same_new (o := .lst (rf ys ++ [.ref x.1])) np
      refine nx _ p ys ((s2.trans s3).trans s4) ((s2.trans s3).free np) ⟨?_, fun y hy2 => ?_⟩ ?_
      · rw [upd_same]
        exact congrArg (fun z => some (HO.lst z)) (List.map_append (l₁ := ys) (l₂ := [x]) (f := fun x : Addr × List Int => V.ref x.1)).symm
      · rcases List.mem_append.mp hy2 with h | h
        · exact ((hR2.row y h).same s3).same s4
        · obtain rfl := List.mem_singleton.mp h
          exact hx.same ((s2.trans s3).trans s4)
      · rw [hy, List.map_map]
        rfl
end
end KT
set_option maxRecDepth 100000
set_option maxHeartbeats 2000000
namespace KT
open PySem PySem.Spec PyProof.Rows L2
theorem sqL_extN {K : PySem.W.Frag} {H H' : Hp} {a : Addr} {xs : List V} (e : LamX.ExtN H H') (h : SqL K H a xs) : SqL K H' a xs := by
  rcases h with (h | ⟨o, h⟩) | h
  · exact .inl (.inl (e _ _ h (fun ps z => nomatch z)))
  · exact .inl (.inr ⟨o, e _ _ h (fun ps z => nomatch z)⟩)
  · exact .inr h
theorem sqT_extN {K : PySem.W.Frag} {H H' : Hp} {a : Addr} {xs : List V} (e : LamX.ExtN H H') (h : SqT K H a xs) : SqT K H' a xs := by
  rcases h with (h | ⟨o, h⟩) | h
  · exact .inl (.inl (e _ _ h (fun ps z => nomatch z)))
  · exact .inl (.inr ⟨o, e _ _ h (fun ps z => nomatch z)⟩)
  · exact .inr h
theorem RI.ext {K : PySem.W.Frag} {H H' : Hp} {q : Addr} {rs : List (Addr × List Int)} (h : RI K H q rs) (e : LamX.ExtN H H') : RI K H' q rs := ⟨h.seq.elim (fun h => .inl (sqL_extN e h)) (fun h => .inr (sqT_extN e h)), fun x hx => (h.row x hx).ext e⟩
theorem New.of {H : Hp} {q : Addr} (h : H q = none) : New H q := fun o ho => by
  rw [h] at ho
  cases ho
theorem New.ext {H H' : Hp} {q : Addr} (e : LamX.ExtN H H') (h : New H' q) : New H q := fun o ho => by
  by_cases ht : ∃ ps, o = .tbl ps
  · exact ht
  · exact h o (e _ _ ho (fun ps z => ht ⟨ps, z⟩))
theorem New.ne {H : Hp} {q p : Addr} {o : HO} (h : New H q) (hp : H p = some o) (ho : ∀ ps, o ≠ .tbl ps) : p ≠ q := by
  intro z
  rw [z] at hp
  obtain ⟨ps, e⟩ := h o hp
  exact ho ps e
theorem nb_is : nb = [nbs 0, nbs 1] := rfl
section
variable {P : Program} {w : World} {K : PySem.W.Frag} {mg : Str → Option Value} {base : Heap}
variable {f fL fS : Addr} {fdL fdS : FuncData} {A : Around} {outer : List Env} {s : Shared} {H : Hp} {E : XK} {T : List (Addr × Str)} {cdv : Value}
/-- what holds at column i -/
def Nv (K : PySem.W.Frag) (T : List (Addr × Str)) (l : Addr) (w b n : Nat) (R : List (List Int)) (H0 : Hp) (i : Nat) (σ : L2.St) (H : Hp) : Prop := ∃ (qf qr : Addr) (fs rest : List (Addr × List Int)) (y4 y5 : Option V),
  σ = [some (.ref l), some (.int (w : Nat)), some (.ref qf), some (.ref qr), y4, y5, none] ∧ LamX.ExtN H0 H ∧ LamX.Tabs T H ∧ New H0 qf ∧ RL H qf fs ∧ RI K H qr rest ∧ rest.length ≤ n ∧ (∀ r ∈ rw_ fs, Hm.Fd w b n i r) ∧ Hm.Nrm w i R (rw_ fs) (rw_ rest) ∧ (∀ r ∈ rw_ rest, Rk w i (Hm.bb b n i) r) ∧ fs.length ≤ i
theorem nbody (cL : Cb P w K mg base CX0 1 "less" ["row", "other", "times"] (spLess K) fL fdL) (cS : Cb P w K mg base CX0 4 "swept" ["rows", "at"] (spSwept K T) fS fdS) (hr : Room 4 (A.deeper (envOfC "normal_rows" (defScope sNormal) s.heap.objs.size f cdv))) :
    ∃ t, PSs (XN P w K mg base f cdv A outer s H E) nb t ∧ ∀ (D : Ends) (l : Addr) (wd b n i : Nat) (R : List (List Int)) (H0 H1 : Hp) (qf qr : Addr) (fs rest : List (Addr × List Int)) (y5 : Option V),
      wd ≤ 3 → i < wd → 1 ≤ b → 25 * b + 6 * n + 6 ≤ 1200 →
      LamX.ExtN H0 H1 → LamX.Tabs T H1 → New H0 qf → RL H1 qf fs → RI K H1 qr rest → rest.length ≤ n → (∀ r ∈ rw_ fs, Hm.Fd wd b n i r) → Hm.Nrm wd i R (rw_ fs) (rw_ rest) → (∀ r ∈ rw_ rest, Rk wd i (Hm.bb b n i) r) → fs.length ≤ i →
      (∀ σ' H', Nv K T l wd b n R H0 (i + 1) σ' H' → D.nx σ' H') →
      t D [some (.ref l), some (.int (wd : Nat)), some (.ref qf), some (.ref qr), some (.int (i : Nat)), y5, none] H1 := by
  obtain ⟨t1, p1, q1⟩ := nif1 (f := f) (cdv := cdv) (outer := outer) (H := H) (E := E) cL hr
  rw [nb_is]
  refine ⟨_, pss_cons (ps_asg (pe_call cS.ok hr (by rfl) cS.g cS.kp cS.b .nil pass0 (pa_cons (pv 3) (pa_cons (pv 4) pa_nil))) (pg_tup (by rfl) (pgs_cons (pg_name (i := 5) scNormal.nd rfl (.inr rfl)) (pgs_cons (pg_name (i := 3) scNormal.nd rfl (.inl rfl)) pgs_nil))))
    (pss_one (ps_if (pt_cmpR op_notN (pv 5) pe_non (nomark _)) (pss_one p1) pss_nil)), ?_⟩
  intro D l wd b n i R H0 H1 qf qr fs rest y5 hw hi hb cap eX tb hNew hF hR hrn hFd hN hRk hfi nx
  have bi := Hm.bb_le (a := i) cap (by omega)
  refine ⟨_, rfl, _, rfl, qr, rest, wd, i, Hm.bb b n i, n, rfl, hR, tb, hi, hw, Hm.bb_pos hb i, bi, hrn, by omega, hRk, ?_⟩
  intro H2 p q v cl e2 tb2 hp hC hCk hcl hv
  refine ⟨p, _, rfl, SqT.of hp, rfl, v, [.ref q], rfl, .ref q, [], rfl, rfl, ?_⟩
  have nrk : ∀ (lo : Option Hm.Row), Hm.Swp i ((rw_ rest).map Hm.fn) lo ((rw_ cl).map Hm.fn) → ∀ r ∈ rw_ cl, Rk wd (i + 1) (Hm.bb b n (i + 1)) r := by
    intro lo hs r hr
    obtain ⟨h1, h2, h3⟩ := hCk r hr
    refine ⟨h1, fun j hj => ?_, h3⟩
    by_cases e : j = i
    · rw [e]
      exact hs.1 (Hm.fn r) (List.mem_map.mpr ⟨r, hr, rfl⟩)
    · exact h2 j (by omega)
  rcases hv with ⟨rfl, hs⟩ | ⟨x, rfl, hx, hxk, hxl, hs⟩
  · refine ⟨_, rfl, rfl, _, rfl, ?_⟩
    refine iteF ?_
    refine nx _ H2 ⟨qf, q, fs, cl, _, _, rfl, eX.trans e2, tb2, hNew, hF.ext e2, hC.ri, by omega, fun r hr => ?_, Hm.nrm_none hN hi hs, nrk none hs, by omega⟩
    have z := hFd r hr
    refine ⟨z.len, ?_, fun j => ?_⟩
    · obtain ⟨c, hc, h⟩ := z.beg
      exact ⟨c, by omega, h⟩
    · exact Nat.lt_of_lt_of_le (z.bd j) (Nat.pow_le_pow_right (by omega) (by omega))
  · refine ⟨_, rfl, rfl, _, rfl, ?_⟩
    refine iteT ?_
    have hpos : 0 < Hm.fn x.2 i := hs.2.1
    have c6 : Hm.bb b n (i + 1) ≤ 6201 := by
      show 5 * Hm.bb b n i + n + 1 ≤ 6201
      omega
    refine q1 _ H2 qf fs x wd b n i _ _ _ (hF.ext e2) hx hFd hxk.1 hi hw hpos (fun j => Nat.le_trans (hxk.2.2 j) (Nat.pow_le_pow_right (by omega) c6)) (by omega) fun H3 p3 ys s3 np3 hR3 hy => ?_
    refine nx _ H3 ⟨p3, q, ys ++ [x], cl, _, _, rfl, (eX.trans e2).trans (.of s3), tb2.ext s3, New.ext (eX.trans e2) (.of np3), hR3, (hC.same s3).ri, by omega, ?_, ?_, nrk _ hs, ?_⟩
    · intro r hr
      have hr : r ∈ List.map (fun x : Addr × List Int => x.2) (ys ++ [x]) := hr
      rw [List.map_append] at hr
      rcases List.mem_append.mp hr with h | h
      · have h : r ∈ rw_ ys := h
        rw [hy] at h
        obtain ⟨r0, h0, rfl⟩ := List.mem_map.mp h
        exact Hm.fd_red hxk.1 hxk.2.1 hpos hxk.2.2 c6 (hFd r0 h0)
      · obtain rfl := List.mem_singleton.mp h
        exact Hm.fd_lead hxk.1 hxk.2.1 hpos hxk.2.2 hxl c6
    · have e : rw_ (ys ++ [x]) = (rw_ fs).map (Hm.redL i x.2) ++ [x.2] := by
        rw [← hy]
        exact List.map_append
      rw [e]
      exact Hm.nrm_some hN hi hxk.1 hs
    · have h1 : (rw_ ys).length = ((rw_ fs).map (Hm.redL i x.2)).length := by rw [hy]
      rw [List.length_map, List.length_map, List.length_map] at h1
      rw [List.length_append, List.length_singleton]
      omega
theorem ok_normal (F : Fun K "normal_rows" "normal_rows" sNormal f fd) (B : Bn mg) (cL : Cb P w K mg base CX0 1 "less" ["row", "other", "times"] (spLess K) fL fdL) (cS : Cb P w K mg base CX0 4 "swept" ["rows", "at"] (spSwept K T) fS fdS) :
    FnOk P w K mg base CX0 5 f fd ["rows", "width"] (spNormal K T) := by
  refine F.ok scNormal (fun vs H Q E h => ?_) (fun cdv A outer s H vs Q E hr h => ?_)
  · obtain ⟨l, rs, wd, b, n, rfl, _⟩ := h
    rfl
  · obtain ⟨l, rs, wd, b, n, rfl, hI, hT, hw, hb, cap, hn, hk, q⟩ := h
    obtain ⟨t1, p1, q1⟩ := nbody (f := f) (cdv := cdv) (outer := outer) (H := H) (E := E) cL cS hr
    refine ⟨_, pss_cons (ps_set (i := 2) scNormal.nd rfl (.inl rfl) (pe_lst pa_nil)) (pss_cons (ps_set (i := 3) scNormal.nd rfl (.inl rfl) (pv 0))
      (pss_cons (ps_for PassesOwn.never rfl (pi_range1 (by rfl) B.range (pa_cons (pv 1) pa_nil)) (pg_name (i := 4) scNormal.nd rfl (Or.inr rfl)) p1) (pss_one (ps_ret (pv 2))))), ?_⟩
    refine ⟨(by show 0 ≤ sizeLine; decide), fun q0 nq0 => ⟨_, rfl, _, rfl, (wd : Int), rfl, by omega, by omega, ?_⟩⟩
    have s0 := same_new (o := .lst []) nq0
    refine for_it (walk_range (lo := 0) (n := (wd : Int).toNat)) (fun i σ H2 => Nv K T l wd b n (rw_ rs) H i σ H2) ⟨q0, l, [], rs, none, none, rfl, .of s0, hT.ext s0, .of nq0, ⟨upd_same, fun x hx => nomatch hx⟩, hI.ext (.of s0), hn, (fun r hr => nomatch hr), Hm.nrm_start fun r hr => (hk r hr).1, hk, Nat.le_refl _⟩ (fun _ _ _ _ _ => trivial) ?_ ?_
    · rintro i x σ H2 H2' hi ⟨qf, qr, fs, rest, y4, y5, rfl, eX, tb, hNew, hF, hR, hrn, hFd, hN, hRk, hfi⟩ ⟨rfl, rfl⟩
      refine (?_ : gName 4 _ _ _ _)
      have e : (0 : Int) + (i : Nat) = (i : Nat) := by omega
      show t1 _ [some (.ref l), some (.int (wd : Nat)), some (.ref qf), some (.ref qr), some (.int (0 + (i : Nat))), y5, none] H2'
      rw [e]
      refine q1 _ l wd b n i (rw_ rs) H H2' qf qr fs rest y5 hw (by omega) hb cap eX tb hNew hF hR hrn hFd hN hRk hfi fun σ' H' h => h
    · rintro σ H2 ⟨qf, qr, fs, rest, y4, y5, rfl, eX, tb, hNew, hF, hR, hrn, hFd, hN, hRk, hfi⟩
      refine ⟨_, rfl, ?_⟩
      have e : (wd : Int).toNat = wd := rfl
      rw [e] at hFd hN hfi
      exact q H2 qf fs (rw_ rest) eX tb hNew hF hFd hN hfi
end
end KT
set_option maxRecDepth 100000
set_option maxHeartbeats 1000000
/-! enumerate(tuple) -/
namespace Rs
open PySem PySem.Spec PyProof.Rows L2
open PySem.AutoSeq1 (wpAny_loadPart')
theorem meets_enumerate_newT (l : Addr) (items : Array Value) (n : Nat) (dct : Option Addr) (sl : Array (Option Value)) :
    Meets (Builtin.«enumerate.__new__» ⟨[.type "enumerate", .ref l], []⟩) (fun _ R s => s.heap.get? l = some { cls := .type "tuple", dict := dct, data := .seq items n, slots := sl } ∧
      R (.ok (.ret (.ref (s.heap.push { cls := .type "tuple_iterator", data := .fields #[.ref l, .int 0 0] }).objs.size)))
        { s with heap := (s.heap.push { cls := .type "tuple_iterator", data := .fields #[.ref l, .int 0 0] }).push { cls := .type "enumerate", data := .fields #[.none, .bool false, .ref s.heap.objs.size, rawInt 0, .none, .none] } }) :=
  .of_wp fun prog w A R s h => by
    obtain ⟨hp, g, d, tk, os⟩ := s; obtain ⟨hl, h⟩ := h
    have hsub := sub_enumerate
    have hL : Heap.IsTuple (Shared.heap ⟨hp, g, d, tk, os⟩) l items := ⟨_, hl, rfl, n, rfl⟩
    wp_walk using wpAny_loadPart' hl
    refine wpAny_stack_any fun st => wpAny_pure ?_
    split
    · rename_i c _ _ _ _ _
      cases (c == Value.type "enumerate")
      · wp_walk using wpAny_loadPart' hl, wpAny_pyIter_tuple hL
        exact ⟨_, rfl, h⟩
      · wp_walk using wpAny_loadPart' hl, wpAny_pyIter_tuple hL
        exact ⟨_, rfl, h⟩
    · wp_walk using wpAny_loadPart' hl, wpAny_pyIter_tuple hL
      exact ⟨_, rfl, h⟩
section
variable {prog : Program} {w : World} {A : Around} {E : Value → Shared → Prop} {s : Shared}
theorem call_enumerate_tuple {l : Addr} {items : Array Value} {Q : Value → Shared → Prop} (hL : s.heap.IsTuple l items)
    (h : ∀ h', IsEnum h' (s.heap.objs.size + 1) s.heap.objs.size 0 .none → h'.IsTupleIter s.heap.objs.size l 0 → h'.objs.size = s.heap.objs.size + 2 →
      (∀ b o, s.heap.get? b = some o → h'.get? b = some o) → Q (.ref (s.heap.objs.size + 1)) { s with heap := h' }) :
    wpAny (model prog w) A (call (.type "enumerate") [.ref l]) Q E s := by
  obtain ⟨⟨c, dct, dt, sl⟩, hl, hc, n, hd⟩ := hL
  replace hc : c = .type "tuple" := hc
  replace hd : dt = .seq items n := hd
  subst hc hd
  refine callType_new F.called_enumerate (by decide) (F.typeCall_enumerate_1 _) (F.newCall_enumerate_1 _) (fun obj => F.args_object_init_2 obj _) F.entry_enumerate_new
    (meets_enumerate_newT l items n dct sl) ⟨hl, ?_⟩
  have hz : (s.heap.push { cls := .type "tuple_iterator", data := .fields #[.ref l, .int 0 0] }).objs.size = s.heap.objs.size + 1 := Heap.size_push ..
  show _ ∧ _
  rw [hz]
  have he : IsEnum ((s.heap.push { cls := .type "tuple_iterator", data := .fields #[.ref l, .int 0 0] }).push
      { cls := .type "enumerate", data := .fields #[.none, .bool false, .ref s.heap.objs.size, rawInt 0, .none, .none] }) (s.heap.objs.size + 1) s.heap.objs.size 0 .none := by
    have := Heap.get?_push_size (s.heap.push { cls := .type "tuple_iterator", data := .fields #[.ref l, .int 0 0] })
      (o := { cls := .type "enumerate", data := .fields #[.none, .bool false, .ref s.heap.objs.size, rawInt 0, .none, .none] }) rfl
    rw [hz] at this; exact this
  refine ⟨⟨_, he, rfl⟩, h _ he ⟨_, Heap.get?_push_of_some _ (Heap.get?_push_size _ rfl), rfl, rfl⟩ (by rw [Heap.size_push, hz]) fun b o x => Heap.get?_push_of_some _ (Heap.get?_push_of_some _ x)⟩
end
/-- the tuple at a, each item in a new pair -/
def ItetT (K : PySem.W.Frag) (a : Addr) : It :=
  ⟨fun i H => ∃ (xs : List V) (x : V), SqT K H a xs ∧ xs[i]? = some x, fun i H v H' => ∃ T x, v = .ref T ∧ H T = none ∧ H' = upd H T (.tup [.int (i : Nat), x]) ∧ ∀ xs, SqT K H a xs → xs[i]? = some x, fun i H => ∃ xs : List V, SqT K H a xs ∧ xs.length ≤ i⟩
theorem turn_enumT {P : Program} {w : World} {K : PySem.W.Frag} {elts : List Expr} {kk : Nat} {tpos : Pos} (a e it : Addr) :
    Turn P w K (.Tuple elts kk tpos) (ItetT K a) [e, it] e (fun i h => (∃ old, IsEnum h e it ((i : Nat) : Int) old) ∧ h.IsTupleIter it a i ∧ e ≠ it) where
  mem := by simp
  obj := fun i h st b hb => by
    obtain ⟨⟨old, he⟩, ⟨o, ho, hc, hd⟩, _⟩ := st
    have e' : b = e ∨ b = it := by simpa using hb
    rcases e' with z | z
    · rw [z]; exact ⟨_, he, fun v q => nomatch q⟩
    · rw [z]; exact ⟨o, ho, fun v q => by rw [hd] at q; cases q⟩
  keep := fun i h h' st k => let ⟨⟨old, he⟩, hi, hne⟩ := st; ⟨⟨old, k e (by simp) _ he⟩, hi.at fun o q => k it (by simp) o q, hne⟩
  item := by
    intro X hP hw hK hc i pins s σ H E I hf st hg
    subst hP hw hK
    obtain ⟨⟨old, he⟩, hit, hne⟩ := st
    obtain ⟨xs, x, hq, hx⟩ := hg
    obtain ⟨its, rv, p, hz⟩ := I.tuple hq
    obtain ⟨u, hu, ru⟩ := rv.get hx
    have hel : e < s.heap.objs.size := Heap.lt_size he
    have hil : it < s.heap.objs.size := by obtain ⟨_, q, _⟩ := hit; exact Heap.lt_size q
    have ptu : s.heap.IsTuple a its.toArray := p
    have hai : a ≠ it := by
      intro z
      obtain ⟨o1, q1, c1, _⟩ := hit
      obtain ⟨o2, q2, c2, _⟩ := ptu
      rw [z, q1] at q2
      injection q2 with q2
      rw [q2, c2] at c1
      exact absurd (Value.type.inj c1) (by decide)
    have hae : e ≠ a := by
      intro z
      obtain ⟨o2, q2, c2, _⟩ := ptu
      have he2 : s.heap.get? e = _ := he
      rw [z, q2] at he2
      injection he2 with he2
      rw [he2] at c2
      exact absurd (Value.type.inj c2) (by decide)
    have hlt : i < its.toArray.size := by
      have := (List.getElem?_eq_some_iff.mp hu).1
      simpa using this
    refine wpAny_pyNext_enum_itemD (Draws.tuple (show X.A.in1.handled = none from I.ok.hd hc) it a hai its.toArray) he ⟨hit, ptu⟩ hlt hne (by simp [hne, hae]) fun x' h' tk hP ho hst hT hsz hk => ?_
    have ex : x' = u := by
      have hP : its.toArray[i]? = some x' := hP
      have hu2 : its.toArray[i]? = some u := by simpa using hu
      exact Option.some.inj (hP.symm.trans hu2)
    subst ex
    obtain ⟨hit', _⟩ := hst
    refine ⟨_, rfl, wpAny_letOwnedTupleGo_enum (s := { s with heap := h', toks := tk + 1 }) ho fun h'' he' sb => ?_⟩
    have hT2 : h''.get? s.heap.objs.size = some { cls := .type "tuple", data := .seq #[.int i tk, x'] } := (sb.2 _ (Nat.ne_of_gt hel)).trans hT
    have new : ObjOk X.prog X.w (upd H s.heap.objs.size (.tup [.int (i : Nat), x])) h'' s.heap.objs.size (.tup [.int (i : Nat), x]) :=
      ⟨by show 2 ≤ sizeLine; decide, [.int i tk, x'], .cons ⟨_, rfl⟩ (.cons ru .nil), ⟨_, hT2, rfl, _, rfl⟩⟩
    have I1 : Inv X pins σ (upd H s.heap.objs.size (.tup [.int (i : Nat), x])) { s with heap := h'', toks := tk + 1 } :=
      I.turnedNew (ch := [e, it]) (fun b ob hb q => (sb.2 b (fun z => hb (by simp [z]))).trans (hk b ob (fun z => hb (by simp [z])) (fun z => hb (by simp [z])) q)) hf (Nat.le_refl _) new
    refine ⟨.ref s.heap.objs.size, _, I1, rfl, ⟨_, x, rfl, I.hok.fresh (Nat.le_refl _), rfl, fun ys hy => by rw [I.tuple_inj hy hq]; exact hx⟩, ⟨⟨x', ?_⟩, hit'.at fun o q => (sb.2 it (Ne.symm hne)).trans q, hne⟩, fun b hb => ?_⟩
    · have e1 : ((i + 1 : Nat) : Int) = (i : Int) + 1 := by omega
      rw [e1]; exact he'
    · have hb' : b < s.heap.objs.size := by
        have e' : b = e ∨ b = it := by simpa using hb
        rcases e' with z | z
        · rw [z]; exact hel
        · rw [z]; exact hil
      rw [upd_ne (Nat.ne_of_lt hb')]
      exact (hf b hb).1
  done := by
    intro X hP hw hK hc i pins s σ H E I hf st hg
    subst hP hw hK
    obtain ⟨⟨old, he⟩, hit, hne⟩ := st
    obtain ⟨xs, hq, hx⟩ := hg
    obtain ⟨its, rv, p, hz⟩ := I.tuple hq
    obtain ⟨f0, f1, f2, f3, f4, f5⟩ := hf it (by simp)
    have hl := rv.length
    have ptu : s.heap.IsTuple a its.toArray := p
    have hT : s.TypeIs (.ref e) "enumerate" := ⟨_, he, rfl⟩
    unfold pyNext
    refine wpAny_bind (wpAny_attempt (wpAny_callSpecial?_slot (name := Str.ofString "__next__") hT F.slot_enumerate_next
      (wpAny_call_entry F.slot_enumerate_next hT F.entry_enumerate_next ?_ (F.args_enumerate_next_1 _))))
    show wpAny _ _ (field (.ref e) 2 >>= _) _ _ _
    refine wpAny_bind (wpAny_field he rfl (x := .ref it) rfl ?_)
    refine wpAny_bind (wpAny_nextOf_tuple_end (show X.A.in1.handled = none from I.ok.hd hc) hit ptu (by simp; omega) fun h' x he' hx' => ?_)
    obtain ⟨o, ho, hc'⟩ := hx'
    refine wpAny_bind (wpAny_isInstance (T := "StopIteration") (b := true) ⟨o, ho, hc'⟩ isSubtype_stop ?_)
    exact wpAny_pure ⟨rfl, I.turned (t' := s.toks) (fun b o hb q => he' b o hb q) f0 f1 f3 f4 f5⟩
  self := fun A i s Q E st h => let ⟨⟨_, he⟩, _⟩ := st; wpAny_pyIter_enum he h
def iEnumT (K : PySem.W.Frag) (ta : TA) : TI := fun σ H R => ta σ H fun vs H1 => ∃ a xs, vs = [.ref a] ∧ SqT K H1 a xs ∧ R (ItetT K a) H1
theorem pi_enumT {X : Cx} {e : Expr} {ta : TA} {p pos tpos : Pos} {elts : List Expr} {kk : Nat} (hg : Gl X "enumerate") (hm : X.mg "enumerate" = none) (ha : PA X [e] ta) (hs : starEach [e] X.env = [(false, eval e X.env)] := by rfl) :
    PI X (.Tuple elts kk tpos) (.Call (.Name "enumerate" p) [e] [] pos) (iEnumT X.K ta) := by
  refine ⟨fun pins s σ H R I h => ?_⟩
  refine Call_ (ld_blt I hg hm boot_enumerate (PyProof.Rows.callWith_type1 (thn (ha.run pos pins s σ H _ I h) fun us s1 ⟨vs, H1, I1, r1, q1⟩ => ?_) hs rfl))
  obtain ⟨a, xs, ex, hq, q⟩ := q1
  subst ex
  cases r1 with
  | cons r rr =>
    cases rr
    cases r
    obtain ⟨its, rv, p', hz⟩ := I1.tuple hq
    refine call_enumerate_tuple (show s1.heap.IsTuple a its.toArray from p') fun h' he hit hsz hk => wpAny_pyIter_enum he ?_
    have I2 : Inv X pins σ H1 { s1 with heap := h' } := I1.kept (t' := s1.toks) hk
    refine ⟨s1.heap.objs.size + 1, [s1.heap.objs.size + 1, s1.heap.objs.size], _, _, H1, rfl, I2, turn_enumT a (s1.heap.objs.size + 1) s1.heap.objs.size, ⟨⟨.none, he⟩, hit, Nat.succ_ne_self _⟩, fun b hb => ?_, q⟩
    have e' : b = s1.heap.objs.size + 1 ∨ b = s1.heap.objs.size := by simpa using hb
    have hle : s1.heap.objs.size ≤ b := by
      rcases e' with z | z
      · rw [z]; exact Nat.le_add_right _ _
      · rw [z]; exact Nat.le_refl _
    exact I1.fpOk hle (I1.hok.fresh hle)
theorem walk_enumT {K : PySem.W.Frag} {a : Addr} {xs : List V} : Walk (ItetT K a) xs.length (fun H => SqT K H a xs) (YPair (fun i => some (.int (i : Nat))) (fun i => xs[i]?)) := by
  refine ⟨fun i _ hi q => ⟨xs, xs[i], q, by simp [hi]⟩, fun _ q => ⟨xs, q, Nat.le_refl _⟩, fun i H v H' _ q y => ?_⟩
  obtain ⟨T, x, h1, h2, h3, h4⟩ := y
  exact ⟨T, .int (i : Nat), x, h1, h2, h3, rfl, h4 xs q⟩
end Rs
set_option maxRecDepth 100000
set_option maxHeartbeats 2000000
namespace KT
open PySem PySem.Spec PyProof.Rows L2
structure Bz (mg : Str → Option Value) : Prop where
  b : Bn mg
  isinst : mg "isinstance" = none
  int : mg "int" = none
  bool : mg "bool" = none
  str : mg "str" = none
  all : mg "all" = none
  enumerate : mg "enumerate" = none
  repr : mg "repr" = none
  max : mg "max" = none
abbrev sNum : Stmt := top 17
abbrev sNumF : Stmt := top 18
abbrev sNumT : Stmt := top 19
def inside (st : Stmt) (i : Nat) : Stmt := match st with
  | .ClassDef _ _ _ b _ _ _ _ _ _ _ => b.getD i (.Pass ⟨0, 0, 0, 0⟩)
  | s => s
abbrev sInit : Stmt := inside (top 35) 0
abbrev sRows : Stmt := inside (top 35) 3
abbrev sEq : Stmt := inside (top 35) 9
abbrev sRepr : Stmt := inside (top 35) 10
theorem scNum : FnScope ["value"] ["value"] (defScope sNum) := ⟨rfl, rfl, rfl, by decide +kernel, rfl, by decide +kernel, by decide +kernel⟩
theorem scNumF : FnScope ["value", "low", "high"] ["value", "low", "high"] (defScope sNumF) := ⟨rfl, rfl, rfl, by decide +kernel, rfl, by decide +kernel, by decide +kernel⟩
theorem scNumT : FnScope ["value", "width", "item"] ["value", "width"] (defScope sNumT) := ⟨rfl, rfl, rfl, by decide +kernel, rfl, by decide +kernel, by decide +kernel⟩
def spNum : Sp := fun vs H Q _ => ∃ i : Int, vs = [.int i] ∧ Q (.bl true) H
def spNumF : Sp := fun vs H Q _ => ∃ i lo hi : Int, vs = [.int i, .int lo, .int hi] ∧ Q (.bl (decide (lo ≤ i) && decide (i ≤ hi))) H
def spNumT : Sp := fun vs H Q _ => ∃ (x : Addr × List Int), vs = [.ref x.1, .int (x.2.length : Nat)] ∧ RT H x ∧ x.2.length ≤ 1000 ∧ ∀ H', Same H H' → Q (.bl true) H'
section
variable {P : Program} {w : World} {K : PySem.W.Frag} {mg : Str → Option Value} {base : Heap}
theorem ok_num {f : Addr} {fd : FuncData} {k : Nat} (F : Fun K "is_number" "is_number" sNum f fd) (B : Bz mg) : FnOk P w K mg base CX0 (k + 1) f fd ["value"] spNum := by
  refine F.ok scNum (fun vs H Q E h => ?_) (fun cdv A outer s H vs Q E hr h => ?_)
  · obtain ⟨i, rfl, _⟩ := h
    rfl
  · obtain ⟨i, rfl, q⟩ := h
    refine ⟨_, pss_one (ps_ret (pe_and (pe_callB call_isi (by rfl) B.isinst boot_isinstance (pa_cons (pv 0) (pa_cons (pe_bltn (v := .ty "int") (by rfl) B.int PyProof.Rows.boot_int rfl) pa_nil)))
      (pe_one (pe_not (pe_callB call_isi (by rfl) B.isinst boot_isinstance (pa_cons (pv 0) (pa_cons (pe_bltn (v := .ty "bool") (by rfl) B.bool PyProof.Rows.boot_bool rfl) pa_nil))))))), ?_⟩
    exact ⟨_, rfl, _, _, _, _, true, rfl, .ty _, .base (.int i), kit_ty (by decide +kernel), true, rfl, iteT ⟨_, rfl, _, _, _, _, false, rfl, .ty _, .base (.int i), kit_ty (by decide +kernel), false, rfl, q⟩⟩
theorem ok_numF {f fN : Addr} {fd fdN : FuncData} {k : Nat} (F : Fun K "is_number_from" "is_number_from" sNumF f fd) (cN : Cb P w K mg base CX0 (k + 1) "is_number" ["value"] spNum fN fdN) : FnOk P w K mg base CX0 (k + 2) f fd ["value", "low", "high"] spNumF := by
  refine F.ok scNumF (fun vs H Q E h => ?_) (fun cdv A outer s H vs Q E hr h => ?_)
  · obtain ⟨i, lo, hi, rfl, _⟩ := h
    rfl
  · obtain ⟨i, lo, hi, rfl, q⟩ := h
    refine ⟨_, pss_one (ps_ret (pe_and (pe_call cN.ok hr (by rfl) cN.g cN.kp cN.b .nil pass0 (pa_cons (pv 0) pa_nil)) (pe_one (pe_chain op_le op_le (pv 1) (pv 0) (pv 2))))), ?_⟩
    refine ⟨_, rfl, i, rfl, true, rfl, iteT ⟨_, rfl, _, rfl, _, _, rfl, rfl, _, rfl, ?_⟩⟩
    by_cases h1 : lo ≤ i
    · rw [decide_eq_true h1] at q ⊢
      exact iteT ⟨_, rfl, _, _, rfl, rfl, q⟩
    · rw [decide_eq_false h1] at q ⊢
      exact iteF q
theorem ok_numT {f fN : Addr} {fd fdN : FuncData} {k : Nat} (F : Fun K "is_number_tuple" "is_number_tuple" sNumT f fd) (B : Bz mg) (cN : Cb P w K mg base CX0 (k + 1) "is_number" ["value"] spNum fN fdN) : FnOk P w K mg base CX0 (k + 2) f fd ["value", "width"] spNumT := by
  refine F.ok scNumT (fun vs H Q E h => ?_) (fun cdv A outer s H vs Q E hr h => ?_)
  · obtain ⟨x, rfl, _⟩ := h
    rfl
  · obtain ⟨x, rfl, hx, h1000, q⟩ := h
    refine ⟨_, pss_one (ps_ret (pe_and (pe_callB call_isi (by rfl) B.isinst boot_isinstance (pa_cons (pv 0) (pa_cons (pe_bltn (v := .ty "tuple") (by rfl) B.b.tuple PyProof.Rows.boot_tuple rfl) pa_nil)))
      (pe_and (pe_cmpR op_eq (pe_callB call_len_seq (by rfl) B.b.len PySem.boot_len (pa_cons (pv 0) pa_nil)) (pv 1) (nomark _))
      (pe_one (pe_callB (cr_all rfl) (by rfl) B.all boot_all (pa_cons (pe_lc (own := [("item", 2)]) (g := gName 2) (tt := tYes) (te := tCall spNum [] E0 (tCons (tVar 2) tNil)) rfl scNumT.nd (pi_tup (pv 0))
        (blkOk_by (N := ["value", "width", "item"]) (sc := defScope sNumT) (by decide +kernel)) (fun _ _ _ _ _ => pg_name (i := 2) scNumT.nd rfl (Or.inl rfl)) (fun _ _ _ _ _ => pts_nil)
        (fun _ _ _ _ _ => pe_call cN.ok hr (by rfl) cN.g cN.kp cN.b .nil pass0 (pa_cons (pv 2) pa_nil))) pa_nil)))))), ?_⟩
    refine ⟨_, rfl, _, _, _, _, true, rfl, .ty _, .base (.tup hx), kit_ty (by decide +kernel), true, rfl, iteT ⟨_, rfl, x.1, _, rfl, .inr (SqT.of hx), _, rfl, rfl, true, ?_, iteT ?_⟩⟩
    · rw [List.length_map]
      exact congrArg V.bl (decide_eq_true rfl)
    · refine ⟨_, rfl, x.1, rfl, ⟨_, SqT.of hx⟩, fun D nD => ?_⟩
      refine lc_sel (e := V.int) (out := fun _ => V.bl true) (walk_tup (K := K) (a := x.1)) (tt := tYes) (te := tCall spNum [] E0 (tCons (tVar 2) tNil)) (σ := [some (.ref x.1), some (.int (x.2.length : Nat)), none]) (i := 2) (fun _ => true) (Nat.lt_of_le_of_lt h1000 (by decide)) nD (fun H2 s2 => SqT.of (s2 _ _ hx)) (fun x H2 Q _ _ h => h) ?_ ?_
      · intro i H2 Q2 hi _ s2 hQ
        exact ⟨_, rfl, i, rfl, hQ H2 (Same.refl _)⟩
      · intro H2 s2 hD
        rw [List.filter_eq_self.mpr (by simp)] at hD
        refine ⟨D, x.2.map fun _ => true, rfl, SqL.of (by rw [hD, List.map_map]; rfl), ?_⟩
        have e : (x.2.map fun _ => true).all id = true := by
          rw [List.all_eq_true]
          intro b hb
          obtain ⟨_, _, rfl⟩ := List.mem_map.mp hb
          rfl
        rw [e]
        exact q H2 s2
end
end KT
set_option maxRecDepth 100000
set_option maxHeartbeats 2000000
namespace KT
open PySem PySem.Spec PyProof.Rows L2
/-- where a row begins -/
def gI (r : List Int) : Nat := r.findIdx fun x => decide (x ≠ 0)
def ldr (r : List Int) : Int := r.getD (gI r) 0
def mny (w : Nat) (rs : List (List Int)) : V := if rs.length < w then .non else .int (prod (rs.map ldr))
theorem gI_of {r : List Int} {n : Nat} (h : BegL r n) : gI r = n := by
  obtain ⟨h1, h2, h3⟩ := h
  unfold gI
  rw [List.findIdx_eq h1]
  refine ⟨?_, fun j hj => ?_⟩
  · rw [List.getD_eq_getElem?_getD, List.getElem?_eq_getElem h1] at h2
    exact decide_eq_true h2
  · have := h3 j hj
    rw [List.getD_eq_getElem?_getD, List.getElem?_eq_getElem (by omega)] at this
    exact decide_eq_false (fun z => z this)
theorem fd_beg {w b n a : Nat} {r : List Int} (h : Hm.Fd w b n a r) (ha : a ≤ 3) (cap : 25 * b + 6 * n + 6 ≤ 1200) : BegL r (gI r) ∧ (ldr r).natAbs < 2 ^ 9000 ∧ 0 < ldr r := by
  obtain ⟨c, hc, ⟨g1, g2⟩, g3, g4⟩ := h.beg
  have hcl : c < r.length := by
    apply Nat.lt_of_not_le
    intro z
    apply g2
    unfold Hm.fn
    rw [List.getD_eq_getElem?_getD, List.getElem?_eq_none z]
    rfl
  have bg : BegL r c := ⟨hcl, g2, g1⟩
  have e := gI_of bg
  have el : ldr r = Hm.fn r c := by
    unfold ldr
    rw [e]
    rfl
  refine ⟨by rw [e]; exact bg, ?_, by rw [el]; exact g3⟩
  rw [el]
  exact Nat.lt_of_le_of_lt g4 (Hm.two_pow_lt (Nat.lt_of_le_of_lt (Hm.bb_le cap (by omega)) (by omega)))
/-- all stays but tables and the object at x -/
abbrev StN := Rs.StN
theorem StN.trans {x : Addr} {H H1 H2 : Hp} (a : StN x H H1) (b : StN x H1 H2) : StN x H H2 := fun c o hc h n => b c o hc (a c o hc h n) n
theorem StN.of {x : Addr} {H H' : Hp} (e : LamX.ExtN H H') : StN x H H' := fun c o _ h n => e c o h n
theorem StN.upd {x : Addr} {H : Hp} {o : HO} : StN x H (upd H x o) := fun c u hc h _ => by
  rw [upd_ne hc]
  exact h
theorem tabs_ins {T : List (Addr × Str)} {H : Hp} {x C dx : Addr} {fs : List (Str × V)} {o : HO} (t : LamX.Tabs T H) (hx : H x = some (.ins C dx fs)) : LamX.Tabs T (L2.upd H x o) := by
  intro p hp
  obtain ⟨ps, h1, h2, h3⟩ := t p hp
  refine ⟨ps, ?_, h2, fun pos cv hc => ?_⟩
  · rw [upd_ne (fun e => by rw [e, hx] at h1; cases h1)]
    exact h1
  · obtain ⟨c, e1, e2⟩ := h3 pos cv hc
    refine ⟨c, e1, ?_⟩
    rw [upd_ne (fun e => by rw [e, hx] at e2; unfold LamX.CodeO at e2; cases e2)]
    exact e2
theorem RT.st {x : Addr} {H H' : Hp} {y : Addr × List Int} (h : RT H y) (e : StN x H H') (hx : ∃ C dx fs, H x = some (.ins C dx fs)) : RT H' y := by
  refine e _ _ (fun z => ?_) h (fun ps z => nomatch z)
  obtain ⟨C, dx, fs, hx⟩ := hx
  unfold RT at h
  rw [z, hx] at h
  cases h
theorem RL.st {x q : Addr} {H H' : Hp} {rs : List (Addr × List Int)} (h : RL H q rs) (e : StN x H H') (hx : ∃ C dx fs, H x = some (.ins C dx fs)) : RL H' q rs := by
  refine ⟨e _ _ (fun z => ?_) h.lst (fun ps z => nomatch z), fun y hy => (h.row y hy).st e hx⟩
  obtain ⟨C, dx, fs, hx⟩ := hx
  have := h.lst
  rw [z, hx] at this
  cases this
theorem RI.st {K : PySem.W.Frag} {x q : Addr} {H H' : Hp} {rs : List (Addr × List Int)} (h : RI K H q rs) (e : StN x H H') (hx : ∃ C dx fs, H x = some (.ins C dx fs)) : RI K H' q rs := by
  refine ⟨?_, fun y hy => (h.row y hy).st e hx⟩
  obtain ⟨C, dx, fs, hx⟩ := hx
  rcases h.seq with ((h | ⟨o, h⟩) | h) | ((h | ⟨o, h⟩) | h)
  · exact .inl (.inl (.inl (e _ _ (fun z => by rw [z, hx] at h; cases h) h (fun ps z => nomatch z))))
  · exact .inl (.inl (.inr ⟨o, e _ _ (fun z => by rw [z, hx] at h; cases h) h (fun ps z => nomatch z)⟩))
  · exact .inl (.inr h)
  · exact .inr (.inl (.inl (e _ _ (fun z => by rw [z, hx] at h; cases h) h (fun ps z => nomatch z))))
  · exact .inr (.inl (.inr ⟨o, e _ _ (fun z => by rw [z, hx] at h; cases h) h (fun ps z => nomatch z)⟩))
  · exact .inr (.inr h)
abbrev NI : List Str := ["self", "width", "rows", "at", "row"]
theorem scInit : FnScope NI ["self", "width", "rows"] (defScope sInit) := ⟨rfl, rfl, rfl, by decide +kernel, rfl, by decide +kernel, by decide +kernel⟩
/-- the fields of a table -/
def flds (w : Nat) (q : Addr) (rs : List (List Int)) : List (Str × V) := [("wide", .int (w : Nat)), ("normal", .ref q), ("many", mny w rs)]
def spInit (K : PySem.W.Frag) (C : Addr) (T : List (Addr × Str)) : Sp := fun vs H Q _ => ∃ (x dx l : Addr) (rs : List (Addr × List Int)) (w b n : Nat), vs = [.ref x, .int (w : Nat), .ref l] ∧ H x = some (.ins C dx []) ∧ RI K H l rs ∧ LamX.Tabs T H ∧ 1 ≤ w ∧ w ≤ 3 ∧ 1 ≤ b ∧ 25 * b + 6 * n + 6 ≤ 1200 ∧ rs.length ≤ n ∧ (∀ r ∈ rw_ rs, Rk w 0 b r) ∧
  ∀ (H' : Hp) (q : Addr) (fs : List (Addr × List Int)) (rest : List (List Int)), StN x H H' → LamX.Tabs T H' → New H q → H' x = some (.ins C dx (flds w q (rw_ fs))) → RL H' q fs → (∀ r ∈ rw_ fs, Hm.Fd w b n w r) → Hm.Nrm w w (rw_ rs) (rw_ fs) rest → fs.length ≤ w → Q .non H'
structure TCls (K : PySem.W.Frag) (C : Addr) : Prop where
  cl : Cls K C
  wide : NoAttr K C "wide"
  normal : NoAttr K C "normal"
  many : NoAttr K C "many"
section
variable {P : Program} {w : World} {K : PySem.W.Frag} {mg : Str → Option Value} {base : Heap}
theorem ok_init {f C fF fT fN fX : Addr} {params : Arguments} {dvs : List V} {fd fdF fdT fdN fdX : FuncData} {T : List (Addr × Str)} {tk : Tok} (F : FunD K "__init__" "Table.__init__" (defArgs sInit) (defBody sInit) (defScope sInit) dvs [] f fd) (B : Bz mg) (TC : TCls K C) (mW : mg "WIDEST" = some (.int 3 tk))
    (cF : Cb P w K mg base CX0 2 "is_number_from" ["value", "low", "high"] spNumF fF fdF) (cT : Cb P w K mg base CX0 2 "is_number_tuple" ["value", "width"] spNumT fT fdT) (cN : Cb P w K mg base CX0 5 "normal_rows" ["rows", "width"] (spNormal K T) fN fdN) (cX : Cb P w K mg base CX0 3 "index_of" ["rows", "width"] (spIndex K) fX fdX) :
    FnOk P w K mg base CX0 6 f fd ["self", "width", "rows"] (spInit K C T) := by
  refine F.ok scInit (fun vs H Q E h => ?_) (fun cdv A outer s H vs Q E hr h => ?_)
  · obtain ⟨x, dx, l, rs, w, b, n, rfl, _⟩ := h
    rfl
  · obtain ⟨x, dx, l, rs, wd, b, n, rfl, hx, hI, hT, hw1, hw, hb, cap, hn, hk, q⟩ := h
    have r2 : Room 2 (A.deeper (envOfC "Table.__init__" (defScope sInit) s.heap.objs.size f cdv)) := hr.mono (by decide)
    have r3 : Room 3 (A.deeper (envOfC "Table.__init__" (defScope sInit) s.heap.objs.size f cdv)) := hr.mono (by decide)
    have dec1 : (decide ((1 : Int) ≤ (wd : Nat)) && decide (((wd : Nat) : Int) ≤ 3)) = true := by
      rw [decide_eq_true (by omega), decide_eq_true (by omega)]
      rfl
    -- what stands behind the loop
    obtain ⟨t2, p2, q2⟩ : ∃ t2, PSs (cxOf CX0 P w K mg base NI "Table.__init__" (defScope sInit) f cdv A outer s H E).nox ((defBody sInit).drop 2) t2 ∧ ∀ (H1 : Hp) (y3 y4 : Option V), Same H H1 → t2 { nx := fun _ H' => Q .non H', rt := Q } [some (.ref x), some (.int (wd : Nat)), some (.ref l), y3, y4] H1 := by
      refine ⟨_, pss_cons (ps_fld (pv 0) (pv 1) rfl) (pss_cons (ps_fld (pv 0) (pe_call cN.ok hr (by rfl) cN.g cN.kp cN.b .nil pass0 (pa_cons (pv 2) (pa_cons (pv 1) pa_nil))) rfl)
        (pss_one (ps_fld (pv 0) (pe_call cX.ok r3 (by rfl) cX.g cX.kp cX.b .nil pass0 (pa_cons (pe_fld (pv 0) rfl) (pa_cons (pv 1) pa_nil))) rfl))), ?_⟩
      intro H1 y3 y4 s1
      have hx1 := s1 _ _ hx
      refine ⟨_, rfl, _, rfl, x, C, dx, _, rfl, hx1, TC.cl, TC.wide, by decide, ?_⟩
      obtain ⟨H2, e2⟩ : ∃ H2, H2 = upd H1 x (.ins C dx (putF "wide" (.int (wd : Nat)) [])) := ⟨_, rfl⟩
      rw [← e2]
      have st2 : StN x H H2 := by
        rw [e2]
        exact (StN.of (.of s1)).trans StN.upd
      have hx2 : H2 x = some (.ins C dx [("wide", .int (wd : Nat))]) := by
        rw [e2]
        exact upd_same
      have hI2 : RI K H2 l rs := hI.st st2 ⟨C, dx, _, hx⟩
      have tb2 : LamX.Tabs T H2 := by
        rw [e2]
        exact tabs_ins (hT.ext s1) hx1
      refine ⟨_, rfl, _, rfl, l, rs, wd, b, n, rfl, hI2, tb2, hw, hb, cap, hn, hk, ?_⟩
      intro H3 qn fs rest e3 tb3 hNew hF hFd hN hlen
      have hx3 : H3 x = some (.ins C dx [("wide", .int (wd : Nat))]) := e3 _ _ hx2 (fun ps z => nomatch z)
      refine ⟨_, rfl, x, C, dx, _, rfl, hx3, TC.cl, TC.normal, (by show 1 < 1000; decide), ?_⟩
      obtain ⟨H4, e4⟩ : ∃ H4, H4 = upd H3 x (.ins C dx (putF "normal" (.ref qn) [("wide", .int (wd : Nat))])) := ⟨_, rfl⟩
      rw [← e4]
      have hx4 : H4 x = some (.ins C dx [("wide", .int (wd : Nat)), ("normal", .ref qn)]) := by
        rw [e4, upd_same]
        rfl
      have hF4 : RL H4 qn fs := by
        refine hF.st ?_ ⟨C, dx, _, hx3⟩
        rw [e4]
        exact StN.upd
      have tb4 : LamX.Tabs T H4 := by
        rw [e4]
        exact tabs_ins tb3 hx3
      refine ⟨_, rfl, x, C, dx, _, .ref qn, rfl, hx4, TC.cl, TC.normal, rfl, _, rfl, qn, fs, gI, wd, rfl, ⟨SqL.of hF4.lst, fun y hy => SqT.of (hF4.row y hy)⟩, by omega, fun y hy => ?_, ?_⟩
      · have z := fd_beg (hFd y.2 (rw_mem hy)) hw cap
        exact ⟨z.1, by rw [(hFd y.2 (rw_mem hy)).len]; exact hw, z.2.1⟩
      · intro H5 s5
        have hx5 := s5 _ _ hx4
        refine ⟨_, rfl, x, C, dx, _, rfl, hx5, TC.cl, TC.many, (by show 2 < 1000; decide), ?_⟩
        have em : (if fs.length < wd then V.non else V.int (prod (fs.map fun x => x.2.getD (gI x.2) 0))) = mny wd (rw_ fs) := by
          unfold mny
          rw [List.length_map, List.map_map]
          rfl
        rw [em]
        have st4 : StN x H H4 := by
          refine (st2.trans (StN.of e3)).trans ?_
          rw [e4]
          exact StN.upd
        have nw : New H qn := fun o ho => by
          by_cases ht : ∃ ps, o = .tbl ps
          · exact ht
          · by_cases hq : qn = x
            · have h6 := hF4.lst
              rw [hq, hx4] at h6
              cases h6
            · exact hNew o (st2 _ _ hq ho (fun ps z => ht ⟨ps, z⟩))
        refine q _ qn fs rest ((st4.trans (StN.of (.of s5))).trans StN.upd) (tabs_ins (tb4.ext s5) hx5) nw ?_ ((hF4.same s5).st StN.upd ⟨C, dx, _, hx5⟩) hFd hN hlen
        rw [upd_same]
        rfl
    have row_ok : ∀ y ∈ rs, y.2.length = wd := fun y hy => (hk y.2 (rw_mem hy)).1
    have bodyR : ∀ (j : Nat) (v : V) (H1 : Hp), (rf rs)[j]? = some v → Same H H1 → ∃ y : Addr × List Int, v = .ref y.1 ∧ y ∈ rs ∧ RT H1 y := by
      intro j v H1 hv s1
      rw [List.getElem?_map] at hv
      obtain ⟨y, hy, rfl⟩ := Option.map_eq_some_iff.mp hv
      exact ⟨y, rfl, List.mem_of_getElem? hy, (hI.row y (List.mem_of_getElem? hy)).same s1⟩
    rcases hI.seq with hL | hL
    · refine ⟨_, PSs.nox (pss_cons (ps_if (pt_not (pt_val (pe_call cF.ok r2 (by rfl) cF.g cF.kp cF.b .nil pass0 (pa_cons (pv 1) (pa_cons pe_int (pa_cons (pe_glob (v := .int 3) rfl mW ⟨_, rfl⟩) pa_nil)))))) pss_never pss_nil)
        (pss_cons (ps_for PassesOwn.never rfl (pi_enum (by rfl) B.enumerate (pa_cons (pv 2) pa_nil)) (pg_tup rfl (pgs_cons (pg_name (i := 3) scInit.nd rfl (.inl rfl)) (pgs_cons (pg_name (i := 4) scInit.nd rfl (.inl rfl)) pgs_nil)))
          (pss_one (ps_if (pt_not (pt_val (pe_call cT.ok r2 (by rfl) cT.g cT.kp cT.b .nil pass0 (pa_cons (pv 4) (pa_cons (pv 1) pa_nil))))) pss_never pss_nil))) p2)), ?_⟩
      refine ⟨_, rfl, _, _, _, rfl, _, rfl, ?_⟩
      rw [dec1]
      refine iteF ?_
      refine ⟨_, rfl, l, _, rfl, hL, ?_⟩
      refine for_it (walk_enum (K := K) (a := l)) (fun i σ H1 => ∃ y3 y4 : Option V, σ = [some (.ref x), some (.int (wd : Nat)), some (.ref l), y3, y4] ∧ Same H H1) ⟨none, none, rfl, Same.refl _⟩ (fun i σ H1 _ h => by obtain ⟨_, _, _, s1⟩ := h; exact sqL_ext s1 hL) ?_ ?_
      · rintro i v σ H1 H1' hi ⟨y3, y4, rfl, s1⟩ ⟨T1, a1, a2, rfl, nT1, rfl, e1, e2⟩
        obtain rfl : V.int (i : Nat) = a1 := Option.some.inj e1
        have sT := same_new (o := .tup [.int (i : Nat), a2]) nT1
        refine ⟨T1, _, rfl, SqT.of upd_same, rfl, .int (i : Nat), [a2], rfl, a2, [], rfl, rfl, ?_⟩
        obtain ⟨y, rfl, hy, hyr⟩ := bodyR i a2 _ e2 (s1.trans sT)
        refine ⟨_, rfl, _, rfl, y, ?_, hyr, by rw [row_ok y hy]; omega, fun H2 s2 => ⟨true, rfl, iteF ⟨_, _, rfl, (s1.trans sT).trans s2⟩⟩⟩
        rw [row_ok y hy]
        rfl
      · rintro σ H1 ⟨y3, y4, rfl, s1⟩
        exact q2 H1 y3 y4 s1
    · refine ⟨_, PSs.nox (pss_cons (ps_if (pt_not (pt_val (pe_call cF.ok r2 (by rfl) cF.g cF.kp cF.b .nil pass0 (pa_cons (pv 1) (pa_cons pe_int (pa_cons (pe_glob (v := .int 3) rfl mW ⟨_, rfl⟩) pa_nil)))))) pss_never pss_nil)
        (pss_cons (ps_for PassesOwn.never rfl (Rs.pi_enumT (by rfl) B.enumerate (pa_cons (pv 2) pa_nil)) (pg_tup rfl (pgs_cons (pg_name (i := 3) scInit.nd rfl (.inl rfl)) (pgs_cons (pg_name (i := 4) scInit.nd rfl (.inl rfl)) pgs_nil)))
          (pss_one (ps_if (pt_not (pt_val (pe_call cT.ok r2 (by rfl) cT.g cT.kp cT.b .nil pass0 (pa_cons (pv 4) (pa_cons (pv 1) pa_nil))))) pss_never pss_nil))) p2)), ?_⟩
      refine ⟨_, rfl, _, _, _, rfl, _, rfl, ?_⟩
      rw [dec1]
      refine iteF ?_
      refine ⟨_, rfl, l, _, rfl, hL, ?_⟩
      refine for_it (Rs.walk_enumT (K := K) (a := l)) (fun i σ H1 => ∃ y3 y4 : Option V, σ = [some (.ref x), some (.int (wd : Nat)), some (.ref l), y3, y4] ∧ Same H H1) ⟨none, none, rfl, Same.refl _⟩ (fun i σ H1 _ h => by obtain ⟨_, _, _, s1⟩ := h; exact Rs.sqT_ext s1 hL) ?_ ?_
      · rintro i v σ H1 H1' hi ⟨y3, y4, rfl, s1⟩ ⟨T1, a1, a2, rfl, nT1, rfl, e1, e2⟩
        obtain rfl : V.int (i : Nat) = a1 := Option.some.inj e1
        have sT := same_new (o := .tup [.int (i : Nat), a2]) nT1
        refine ⟨T1, _, rfl, SqT.of upd_same, rfl, .int (i : Nat), [a2], rfl, a2, [], rfl, rfl, ?_⟩
        obtain ⟨y, rfl, hy, hyr⟩ := bodyR i a2 _ e2 (s1.trans sT)
        refine ⟨_, rfl, _, rfl, y, ?_, hyr, by rw [row_ok y hy]; omega, fun H2 s2 => ⟨true, rfl, iteF ⟨_, _, rfl, (s1.trans sT).trans s2⟩⟩⟩
        rw [row_ok y hy]
        rfl
      · rintro σ H1 ⟨y3, y4, rfl, s1⟩
        exact q2 H1 y3 y4 s1
end
end KT
namespace Hm
/-! the law's loop: one row at a time, column by column -/
def el (b N : Nat) : Nat → Nat
  | 0 => b
  | c + 1 => el b N c + N * (el b N c + 5)
theorem el_le {b N : Nat} : ∀ {c d : Nat}, c ≤ d → el b N c ≤ el b N d := by
  intro c d h
  induction d with
  | zero =>
    obtain rfl : c = 0 := by omega
    exact Nat.le_refl _
  | succ d ih =>
    by_cases e : c = d + 1
    · rw [e]
      exact Nat.le_refl _
    · exact Nat.le_trans (ih (by omega)) (Nat.le_add_right _ _)
/-- the exponent of the other columns behind k rows -/
def ek (b N c k : Nat) : Nat := el b N c + k * (el b N c + 5)
theorem ek_le {b N c k k' : Nat} (h : k ≤ k') : ek b N c k ≤ ek b N c k' := Nat.add_le_add_left (Nat.mul_le_mul_right _ h) _
theorem ek_top {b N c k : Nat} (h : k ≤ N) : ek b N c k ≤ el b N (c + 1) := ek_le (k' := N) h
theorem pw {x y : Nat} (h : x ≤ y) : 2 ^ x ≤ 2 ^ y := Nat.pow_le_pow_right (by omega) h
structure FB (w b N c k : Nat) (h : List Int) : Prop where
  len : h.length = w
  beg : Beg (fn h) c
  lead : (fn h c).natAbs ≤ 2 ^ el b N c
  bd : ∀ j, c < j → (fn h j).natAbs ≤ 2 ^ ek b N c k
theorem FB.up {w b N c k k' : Nat} {h : List Int} (f : FB w b N c k h) (hk : k ≤ k') : FB w b N c k' h := ⟨f.len, f.beg, f.lead, fun j hj => Nat.le_trans (f.bd j hj) (pw (ek_le hk))⟩
def Ok (w b : Nat) (r : List Int) : Prop := r.length = w ∧ ∀ j, (fn r j).natAbs ≤ 2 ^ b
abbrev Fnd := Nat → Option (List Int)
def putG (F : Fnd) (a : Nat) (r : List Int) : Fnd := fun c => if c = a then some r else F c
theorem putG_at (F : Fnd) (a : Nat) (r : List Int) : putG F a r a = some r := if_pos rfl
theorem putG_ne {F : Fnd} {a c : Nat} {r : List Int} (h : c ≠ a) : putG F a r c = F c := if_neg h
theorem ofG_put (F : Fnd) (a : Nat) (r : List Int) : ofG (putG F a r) = put (ofG F) a (fn r) := by
  funext c
  unfold ofG putG put
  by_cases h : c = a
  · rw [if_pos h, if_pos h]
    rfl
  · rw [if_neg h, if_neg h]
structure Fresh (w b N k a : Nat) (F : Fnd) (r : List Int) : Prop where
  len : r.length = w
  low : ∀ j, j < a → fn r j = 0
  bd : ∀ j, (fn r j).natAbs ≤ 2 ^ el b N a
  lo : ∀ c h, F c = some h → c < a → FB w b N c (k + 1) h
  hi : ∀ c h, F c = some h → a ≤ c → FB w b N c k h
structure Chain (w b N k a : Nat) (F : Fnd) (h r : List Int) : Prop where
  aw : a < w
  len : r.length = w
  hlen : h.length = w
  low : ∀ j, j < a → fn r j = 0
  hlow : ∀ j, j < a → fn h j = 0
  at_ : F a = some h
  ch : Chn a (2 ^ ek b N a (k + 1)) (fn h) (fn r)
  lh : (fn h a).natAbs ≤ 2 ^ el b N a
  lr : (fn r a).natAbs ≤ 2 ^ el b N a
  lo : ∀ c h, F c = some h → c < a → FB w b N c (k + 1) h
  hi : ∀ c h, F c = some h → a < c → FB w b N c k h
def XX (b N : Nat) : Nat := 2 ^ (el b N 3 + 2)
/-- a row in work on top of the others -/
def Wrk (w b N k : Nat) (F : Fnd) (ts : List (List Int)) (r : List Int) (m : Nat) : Prop := ts.length + k + 1 ≤ N ∧ (∀ x ∈ ts, Ok w b x) ∧ ∃ a, a ≤ w ∧
  ((Fresh w b N k a F r ∧ (ts.length + 1) * (5 * XX b N) + (4 - a) * XX b N ≤ m) ∨ ∃ h, Chain w b N k a F h r ∧ (ts.length + 1) * (5 * XX b N) + (3 - a) * XX b N + ((fn r a).natAbs + (fn h a).natAbs) ≤ m)
def J (w b N : Nat) (F : Fnd) (ts : List (List Int)) (m : Nat) : Prop := (∀ c, w ≤ c → F c = none) ∧ ∃ k,
  ((∀ c h, F c = some h → FB w b N c k h) ∧ (∀ x ∈ ts, Ok w b x) ∧ ts.length + k ≤ N ∧ ts.length * (5 * XX b N) + 4 * XX b N ≤ m) ∨ ∃ ts' r, ts = ts' ++ [r] ∧ Wrk w b N k F ts' r m
theorem xx_pos (b N : Nat) : 0 < XX b N := Nat.pow_pos (by omega)
theorem J.wrk {w b N m : Nat} {F : Fnd} {ts : List (List Int)} {r : List Int} (j : J w b N F (ts ++ [r]) m) : ∃ k, Wrk w b N k F ts r m := by
  obtain ⟨_, k, h | ⟨ts', r', e, h⟩⟩ := j
  · obtain ⟨h1, h2, h3, h4⟩ := h
    rw [List.length_append, List.length_singleton] at h3 h4
    have o := h2 r (List.mem_append_right _ List.mem_cons_self)
    refine ⟨k, by omega, fun x hx => h2 x (List.mem_append_left _ hx), 0, Nat.zero_le _, .inl ⟨⟨o.1, fun j hj => by omega, o.2, fun c h _ hc => by omega, fun c h hF _ => h1 c h hF⟩, h4⟩⟩
  · obtain ⟨e1, e2⟩ := List.append_inj' e rfl
    injection e2 with e2
    rw [e1, e2]
    exact ⟨k, h⟩
/-- what is done: the row leaves -/
theorem j_next {w b N k m : Nat} {F : Fnd} {ts : List (List Int)} {r : List Int} (out : ∀ c, w ≤ c → F c = none) (hw : Wrk w b N k F ts r m) (hF : ∀ c h, F c = some h → FB w b N c (k + 1) h) : ∃ m', m' < m ∧ J w b N F ts m' := by
  obtain ⟨h1, h2, a, _, h3⟩ := hw
  refine ⟨_, ?_, out, k + 1, .inl ⟨hF, h2, by omega, Nat.le_refl _⟩⟩
  have x := xx_pos b N
  have e : (ts.length + 1) * (5 * XX b N) = ts.length * (5 * XX b N) + 5 * XX b N := Nat.succ_mul _ _
  rcases h3 with ⟨_, h⟩ | ⟨_, _, h⟩
  · omega
  · omega
theorem Wrk.fb {w b N k m : Nat} {F : Fnd} {ts : List (List Int)} {r : List Int} (hw : Wrk w b N k F ts r m) (nz : ∀ a h, F a = some h → Beg (fn r) a → False) : ∀ c h, F c = some h → FB w b N c (k + 1) h := by
  obtain ⟨h1, h2, a, _, ⟨f, _⟩ | ⟨h, c, _⟩⟩ := hw
  · intro c h hc
    by_cases hca : c < a
    · exact f.lo c h hc hca
    · exact (f.hi c h hc (by omega)).up (by omega)
  · exact (nz a h c.at_ ⟨c.low, c.ch.rz⟩).elim
/-- a row of zeros -/
theorem j_zero {w b N m : Nat} {F : Fnd} {ts : List (List Int)} {r : List Int} (j : J w b N F (ts ++ [r]) m) (hz : ∀ i, fn r i = 0) : ∃ m', m' < m ∧ J w b N F ts m' := by
  obtain ⟨k, hw⟩ := j.wrk
  exact j_next j.1 hw (hw.fb fun a h _ hb => hb.2 (hz a))
theorem beg_uniq {r : Row} {a c : Nat} (h : Beg r a) (g : Beg r c) : a = c := by
  rcases Nat.lt_trichotomy a c with l | l | l
  · exact absurd (g.1 a l) h.2
  · exact l
  · exact absurd (h.1 c l) g.2
/-- the column is empty -/
theorem j_put {w b N m a : Nat} {F : Fnd} {ts : List (List Int)} {r : List Int} (j : J w b N F (ts ++ [r]) m) (hb : Beg (fn r) a) (ha : a < w) (hF : F a = none) : ∃ m', m' < m ∧ J w b N (putG F a r) ts m' := by
  obtain ⟨k, hw⟩ := j.wrk
  have old := hw.fb fun c h hc hb' => by
    have := beg_uniq hb hb'
    rw [← this, hF] at hc
    cases hc
  have fr : FB w b N a (k + 1) r := by
    obtain ⟨h1, h2, a0, _, ⟨f, _⟩ | ⟨h, c, _⟩⟩ := hw
    · have le : a0 ≤ a := by
        apply Nat.le_of_not_lt
        intro z
        exact hb.2 (f.low a z)
      have e := el_le (b := b) (N := N) le
      exact ⟨f.len, hb, Nat.le_trans (f.bd a) (pw e), fun i _ => Nat.le_trans (f.bd i) (pw (Nat.le_trans e (Nat.le_add_right _ _)))⟩
    · have := beg_uniq hb ⟨c.low, c.ch.rz⟩
      rw [this, c.at_] at hF
      cases hF
  have out : ∀ c, w ≤ c → putG F a r c = none := fun c hc => by
    rw [putG_ne (by omega)]
    exact j.1 c hc
  have hF' : ∀ c h, putG F a r c = some h → FB w b N c (k + 1) h := by
    intro c h hc
    by_cases e : c = a
    · rw [e, putG_at] at hc
      injection hc with hc
      rw [← hc, e]
      exact fr
    · rw [putG_ne e] at hc
      exact old c h hc
  obtain ⟨h1, h2, a0, _, h3⟩ := hw
  refine ⟨_, ?_, out, k + 1, .inl ⟨hF', h2, by omega, Nat.le_refl _⟩⟩
  have x := xx_pos b N
  have e : (ts.length + 1) * (5 * XX b N) = ts.length * (5 * XX b N) + 5 * XX b N := Nat.succ_mul _ _
  rcases h3 with ⟨_, h⟩ | ⟨_, _, h⟩
  · omega
  · omega
/-- the chain begins, or goes on -/
theorem to_chain {w b N m a : Nat} {F : Fnd} {ts : List (List Int)} {r s : List Int} (hw3 : w ≤ 3) (j : J w b N F (ts ++ [r]) m) (hb : Beg (fn r) a) (ha : a < w) (hF : F a = some s) :
    ∃ k, ts.length + k + 1 ≤ N ∧ (∀ x ∈ ts, Ok w b x) ∧ Chain w b N k a F s r ∧ (ts.length + 1) * (5 * XX b N) + (3 - a) * XX b N + ((fn r a).natAbs + (fn s a).natAbs) ≤ m := by
  obtain ⟨k, h1, h2, a0, _, ⟨f, hm⟩ | ⟨h, c, hm⟩⟩ := j.wrk
  · refine ⟨k, h1, h2, ?_⟩
    have le : a0 ≤ a := by
      apply Nat.le_of_not_lt
      intro z
      exact hb.2 (f.low a z)
    have e := el_le (b := b) (N := N) le
    have fs := f.hi a s hF le
    have rb : ∀ i, (fn r i).natAbs ≤ 2 ^ el b N a := fun i => Nat.le_trans (f.bd i) (pw e)
    have ch := chn_start (a := a) (B := 2 ^ el b N a) (M := 2 ^ ek b N a k) fs.beg.2 hb.2 fs.lead (rb a) (fun i hi => ⟨fs.bd i hi, Nat.le_trans (rb i) (pw (Nat.le_add_right _ _))⟩)
    have cap : 18 * (2 ^ el b N a * 2 ^ ek b N a k) ≤ 2 ^ ek b N a (k + 1) := by
      have e2 : ek b N a (k + 1) = 5 + (el b N a + ek b N a k) := by
        unfold ek
        rw [Nat.succ_mul]
        omega
      rw [e2, Nat.pow_add, Nat.pow_add]
      exact Nat.mul_le_mul_right _ (by decide)
    refine ⟨⟨ha, f.len, fs.len, hb.1, fs.beg.1, hF, ⟨ch.hz, ch.rz, fun i hi => Nat.le_trans (ch.cr i hi) cap⟩, fs.lead, rb a, fun c h hc hca => ?_, fun c h hc hca => f.hi c h hc (by omega)⟩, ?_⟩
    · by_cases hca0 : c < a0
      · exact f.lo c h hc hca0
      · exact (f.hi c h hc (by omega)).up (by omega)
    · have l1 := rb a
      have l2 := fs.lead
      have l3 : 2 ^ el b N a ≤ 2 ^ el b N 3 := pw (el_le (by omega))
      have l4 : XX b N = 2 ^ el b N 3 * 4 := Nat.pow_add _ _ _
      have l5 : (4 - a0) * XX b N ≥ (3 - a) * XX b N + XX b N := by
        have : (3 - a + 1) * XX b N ≤ (4 - a0) * XX b N := Nat.mul_le_mul_right _ (by omega)
        rw [Nat.succ_mul] at this
        exact this
      omega
  · have ea := beg_uniq hb ⟨c.low, c.ch.rz⟩
    subst ea
    have es : h = s := by
      have := c.at_
      rw [hF] at this
      exact (Option.some.inj this).symm
    subst es
    exact ⟨k, h1, h2, c, hm⟩
/-- the greater row and the lesser one -/
def gtr (a : Nat) (r s : List Int) : List Int × List Int := if (fn r a).natAbs < (fn s a).natAbs then (s, r) else (r, s)
theorem gtr_cases (a : Nat) (r s : List Int) : (gtr a r s = (s, r) ∧ (fn r a).natAbs < (fn s a).natAbs) ∨ (gtr a r s = (r, s) ∧ (fn s a).natAbs ≤ (fn r a).natAbs) := by
  unfold gtr
  by_cases h : (fn r a).natAbs < (fn s a).natAbs
  · rw [if_pos h]
    exact .inl ⟨rfl, h⟩
  · rw [if_neg h]
    exact .inr ⟨rfl, by omega⟩
theorem j_less {w b N m a : Nat} {F : Fnd} {ts : List (List Int)} {r s : List Int} (hw3 : w ≤ 3) (j : J w b N F (ts ++ [r]) m) (hb : Beg (fn r) a) (ha : a < w) (hF : F a = some s) :
    ∃ m', m' < m ∧ J w b N (putG F a (gtr a r s).2) (ts ++ [lsl (gtr a r s).1 (gtr a r s).2 (tms (fn (gtr a r s).1 a) (fn (gtr a r s).2 a))]) m' := by
  obtain ⟨k, h1, h2, c, hm⟩ := to_chain hw3 j hb ha hF
  obtain ⟨row, held, eg, cN, hle, l1, l2, w1, w2, lo1, lo2, sm⟩ : ∃ row held, gtr a r s = (row, held) ∧ Chn a (2 ^ ek b N a (k + 1)) (fn held) (fn row) ∧ (fn held a).natAbs ≤ (fn row a).natAbs ∧ (fn row a).natAbs ≤ 2 ^ el b N a ∧ (fn held a).natAbs ≤ 2 ^ el b N a ∧ row.length = w ∧ held.length = w ∧
      (∀ i, i < a → fn row i = 0) ∧ (∀ i, i < a → fn held i = 0) ∧ (fn row a).natAbs + (fn held a).natAbs = (fn r a).natAbs + (fn s a).natAbs := by
    rcases gtr_cases a r s with ⟨e, h⟩ | ⟨e, h⟩
    · exact ⟨s, r, e, c.ch.swap, by omega, c.lh, c.lr, c.hlen, c.len, c.hlow, c.low, by omega⟩
    · exact ⟨r, s, e, c.ch, h, c.lr, c.lh, c.len, c.hlen, c.low, c.hlow, rfl⟩
  rw [eg]
  show ∃ m', m' < m ∧ J w b N (putG F a held) (ts ++ [lsl row held (tms (fn row a) (fn held a))]) m'
  have ef : fn (lsl row held (tms (fn row a) (fn held a))) = ls (fn row) (fn held) (tms (fn row a) (fn held a)) := fn_lsl (by rw [w1, w2]) _
  obtain ⟨s1, s2, s3⟩ := cN.step hle
  have out : ∀ c, w ≤ c → putG F a held c = none := fun c hc => by
    rw [putG_ne (by omega)]
    exact j.1 c hc
  have low' : ∀ i, i < a → fn (lsl row held (tms (fn row a) (fn held a))) i = 0 := by
    intro i hi
    rw [ef]
    show fn row i - _ * fn held i = 0
    rw [lo1 i hi, lo2 i hi]
    simp
  have lo' : ∀ c' h, putG F a held c' = some h → c' < a → FB w b N c' (k + 1) h := fun c' h hc hca => by
    rw [putG_ne (by omega)] at hc
    exact c.lo c' h hc hca
  have hi' : ∀ c' h, putG F a held c' = some h → a < c' → FB w b N c' k h := fun c' h hc hca => by
    rw [putG_ne (by omega)] at hc
    exact c.hi c' h hc hca
  by_cases z : ls (fn row) (fn held) (tms (fn row a) (fn held a)) a = 0
  · refine ⟨(ts.length + 1) * (5 * XX b N) + (4 - (a + 1)) * XX b N, ?_, out, k, .inr ⟨ts, _, rfl, h1, h2, a + 1, ha, .inl ⟨⟨lsl_len w1 w2 _, fun i hi => ?_, fun i => ?_, fun c' h hc hca => ?_, fun c' h hc hca => hi' c' h hc (by omega)⟩, Nat.le_refl _⟩⟩⟩
    · have : 0 < (fn s a).natAbs := by
        have := c.ch.hz
        omega
      rw [show 4 - (a + 1) = 3 - a by omega]
      omega
    · by_cases e : i = a
      · rw [e, ef]
        exact z
      · exact low' i (by omega)
    · rcases Nat.lt_trichotomy i a with l | l | l
      · rw [low' i l]
        exact Nat.zero_le _
      · rw [l, ef, z]
        exact Nat.zero_le _
      · rw [ef]
        exact Nat.le_trans (s1 i l) (pw (ek_top (by omega)))
    · by_cases e : c' = a
      · rw [e, putG_at] at hc
        injection hc with hc
        rw [← hc, e]
        exact ⟨w2, ⟨lo2, cN.hz⟩, l2, fun i hi => (cN.le hi).1⟩
      · exact lo' c' h hc (by omega)
  · refine ⟨(ts.length + 1) * (5 * XX b N) + (3 - a) * XX b N + ((ls (fn row) (fn held) (tms (fn row a) (fn held a)) a).natAbs + (fn held a).natAbs), ?_, out, k, .inr ⟨ts, _, rfl, h1, h2, a, by omega, .inr ⟨held, ⟨ha, lsl_len w1 w2 _, w2, low', lo2, putG_at _ _ _, ?_, l2, ?_, lo', hi'⟩, ?_⟩⟩⟩
    · omega
    · rw [ef]
      exact s3 z
    · rw [ef]
      omega
    · rw [ef]
      exact Nat.le_refl _
/-- how great the numbers are -/
theorem j_bd {w b N m a : Nat} {F : Fnd} {ts : List (List Int)} {r s : List Int} (hw3 : w ≤ 3) (j : J w b N F (ts ++ [r]) m) (hb : Beg (fn r) a) (ha : a < w) (hF : F a = some s) :
    (r.length = w ∧ s.length = w) ∧ (fn r a).natAbs ≤ 2 ^ el b N 2 ∧ (fn s a).natAbs ≤ 2 ^ el b N 2 ∧ (∀ i, (fn r i).natAbs ≤ 2 ^ el b N 3) ∧ (∀ i, (fn s i).natAbs ≤ 2 ^ el b N 3) ∧ fn s a ≠ 0 := by
  obtain ⟨k, h1, h2, c, hm⟩ := to_chain hw3 j hb ha hF
  have e2 : 2 ^ el b N a ≤ 2 ^ el b N 2 := pw (el_le (by omega))
  have e3 : 2 ^ el b N a ≤ 2 ^ el b N 3 := pw (el_le (by omega))
  have e4 : 2 ^ ek b N a (k + 1) ≤ 2 ^ el b N 3 := pw (Nat.le_trans (ek_top (by omega)) (el_le (by omega)))
  refine ⟨⟨c.len, c.hlen⟩, Nat.le_trans c.lr e2, Nat.le_trans c.lh e2, fun i => ?_, fun i => ?_, c.ch.hz⟩
  · rcases Nat.lt_trichotomy i a with l | l | l
    · rw [c.low i l]
      exact Nat.zero_le _
    · rw [l]
      exact Nat.le_trans c.lr e3
    · exact Nat.le_trans (c.ch.le l).2 e4
  · rcases Nat.lt_trichotomy i a with l | l | l
    · rw [c.hlow i l]
      exact Nat.zero_le _
    · rw [l]
      exact Nat.le_trans c.lh e3
    · exact Nat.le_trans (c.ch.le l).1 e4
theorem j_start {w b N : Nat} {ts : List (List Int)} (h : ∀ x ∈ ts, Ok w b x) (hN : ts.length ≤ N) : J w b N (fun _ => none) ts (ts.length * (5 * XX b N) + 4 * XX b N) := ⟨fun _ _ => rfl, 0, .inl ⟨(fun c h hc => nomatch hc), h, by omega, Nat.le_refl _⟩⟩
theorem j_len {w b N m : Nat} {F : Fnd} {ts : List (List Int)} {r : List Int} (j : J w b N F (ts ++ [r]) m) : r.length = w := by
  obtain ⟨k, h1, h2, a, _, ⟨f, _⟩ | ⟨h, c, _⟩⟩ := j.wrk
  · exact f.len
  · exact c.len
/-- behind the loop -/
theorem j_end {w b N m : Nat} {F : Fnd} (j : J w b N F [] m) : ∀ c h, F c = some h → FB w b N c N h := by
  obtain ⟨_, k, ⟨h1, _, h3, _⟩ | ⟨ts', r, e, _⟩⟩ := j
  · intro c h hc
    exact (h1 c h hc).up (by simpa using h3)
  · have := congrArg List.length e
    rw [List.length_append] at this
    simp at this
end Hm
namespace Hm
/-! the sums in the law's loop, and its end -/
def LE (w : Nat) (R : List (List Int)) (F : Fnd) (ts : List (List Int)) : Prop := Eqs (In (R.map fn)) (Or' (Of w (ofG F)) (In (ts.map fn)))
theorem or_cons {A : Row → Prop} {ts : List (List Int)} {r : List Int} : Eqs (Or' A (In ((ts ++ [r]).map fn))) (Or' A (In (fn r :: ts.map fn))) := by
  have m : ∀ x, x ∈ (ts ++ [r]).map fn ↔ x ∈ fn r :: ts.map fn := by
    intro x
    rw [List.map_append, List.mem_append, List.mem_cons]
    simp
    exact Or.comm
  refine .by (fun x hx => .of ?_) (fun x hx => .of ?_)
  · exact hx.elim .inl fun h => .inr ((m x).mp h)
  · exact hx.elim .inl fun h => .inr ((m x).mpr h)
theorem le_start (w : Nat) (R : List (List Int)) : LE w R (fun _ => none) R := by
  refine .by (fun x hx => .of (.inr hx)) (fun x hx => .of ?_)
  rcases hx with ⟨c, _, h⟩ | h
  · cases h
  · exact h
theorem le_zero {w : Nat} {R : List (List Int)} {F : Fnd} {ts : List (List Int)} {r : List Int} (h : LE w R F (ts ++ [r])) (hz : ∀ i, fn r i = 0) : LE w R F ts := (h.trans or_cons).trans (drop_zero hz)
theorem le_put {w a : Nat} {R : List (List Int)} {F : Fnd} {ts : List (List Int)} {r : List Int} (h : LE w R F (ts ++ [r])) (ha : a < w) (hF : F a = none) : LE w R (putG F a r) ts := by
  have z := (h.trans or_cons).trans (keep_row (w := w) (F := ofG F) (a := a) (r := fn r) (ts := ts.map fn) ha (by unfold ofG; rw [hF]; rfl))
  unfold LE
  rw [ofG_put]
  exact z
theorem le_less {w a : Nat} {R : List (List Int)} {F : Fnd} {ts : List (List Int)} {r s : List Int} (h : LE w R F (ts ++ [r])) (ha : a < w) (hF : F a = some s) (hr : r.length = w) (hs : s.length = w) (t : Int) :
    LE w R (putG F a (gtr a r s).2) (ts ++ [lsl (gtr a r s).1 (gtr a r s).2 t]) := by
  have eF : ofG F a = some (fn s) := by unfold ofG; rw [hF]; rfl
  unfold LE
  refine Eqs.trans ?_ or_cons.symm
  rcases gtr_cases a r s with ⟨e, _⟩ | ⟨e, _⟩
  · rw [e]
    show Eqs _ (Or' (Of w (ofG (putG F a r))) (In (fn (lsl s r t) :: ts.map fn)))
    rw [ofG_put, fn_lsl (by rw [hr, hs])]
    have z1 := (h.trans or_cons).trans (swap_row (w := w) (F := ofG F) (a := a) (r := fn r) (s := fn s) (ts := ts.map fn) ha eF)
    exact z1.trans (less_row (w := w) (F := put (ofG F) a (fn r)) (a := a) (r := fn s) (s := fn r) (ts := ts.map fn) ha (put_at _ _ _) t)
  · rw [e]
    show Eqs _ (Or' (Of w (ofG (putG F a s))) (In (fn (lsl r s t) :: ts.map fn)))
    have same : putG F a s = F := by
      funext c
      unfold putG
      by_cases hc : c = a
      · rw [if_pos hc, hc, hF]
      · rw [if_neg hc]
    rw [same, fn_lsl (by rw [hr, hs])]
    exact (h.trans or_cons).trans (less_row (w := w) (F := ofG F) (a := a) (r := fn r) (s := fn s) (ts := ts.map fn) ha eF t)
/-- the rows of the columns from a on -/
def frw (w : Nat) (F : Fnd) (a : Nat) : List (List Int) := (List.range' a (w - a)).filterMap F
theorem frw_none {w a : Nat} {F : Fnd} (ha : a < w) (hF : F a = none) : frw w F a = frw w F (a + 1) := by
  unfold frw
  rw [show w - a = (w - (a + 1)) + 1 by omega, List.range'_succ, List.filterMap_cons, hF]
theorem frw_some {w a : Nat} {F : Fnd} {h : List Int} (ha : a < w) (hF : F a = some h) : frw w F a = h :: frw w F (a + 1) := by
  unfold frw
  rw [show w - a = (w - (a + 1)) + 1 by omega, List.range'_succ, List.filterMap_cons, hF]
theorem mem_frw {w a : Nat} {F : Fnd} {r : List Int} : r ∈ frw w F a ↔ ∃ c, a ≤ c ∧ c < w ∧ F c = some r := by
  unfold frw
  rw [List.mem_filterMap]
  constructor
  · rintro ⟨c, hc, h⟩
    rw [List.mem_range'_1] at hc
    exact ⟨c, hc.1, by omega, h⟩
  · rintro ⟨c, h1, h2, h⟩
    exact ⟨c, by rw [List.mem_range'_1]; omega, h⟩
theorem le_end {w : Nat} {R : List (List Int)} {F : Fnd} (h : LE w R F []) : Eqs (In (R.map fn)) (In ((frw w F 0).map fn)) := by
  refine h.trans (.by (fun x hx => .of ?_) (fun x hx => .of ?_))
  · rcases hx with ⟨c, hc, hF⟩ | hx
    · unfold ofG at hF
      cases e : F c with
      | none => rw [e] at hF; cases hF
      | some r =>
        rw [e] at hF
        injection hF with hF
        exact List.mem_map.mpr ⟨r, mem_frw.mpr ⟨c, Nat.zero_le _, hc, e⟩, hF⟩
    · cases hx
  · obtain ⟨r, hr, rfl⟩ := List.mem_map.mp hx
    obtain ⟨c, _, hc, e⟩ := mem_frw.mp hr
    exact .inl ⟨c, hc, by unfold ofG; rw [e]; rfl⟩
theorem nrm0 {w b N k : Nat} {F : Fnd} (hF : ∀ c h, F c = some h → FB w b N c k h) : Nrm w 0 (frw w F 0) [] (frw w F 0) := nrm_start fun r hr => by
  obtain ⟨c, _, _, e⟩ := mem_frw.mp hr
  exact (hF c r e).len
theorem low_frw {w b N k a : Nat} {F : Fnd} (hF : ∀ c h, F c = some h → FB w b N c k h) : ∀ x ∈ (frw w F (a + 1)).map fn, x a = 0 := by
  intro x hx
  obtain ⟨r, hr, rfl⟩ := List.mem_map.mp hx
  obtain ⟨c, h1, _, e⟩ := mem_frw.mp hr
  exact (hF c r e).beg.1 a (by omega)
theorem nrm_step0 {w b N k a : Nat} {F : Fnd} {R0 found : List (List Int)} (hF : ∀ c h, F c = some h → FB w b N c k h) (h : Nrm w a R0 found (frw w F a)) (ha : a < w) (e : F a = none) : Nrm w (a + 1) R0 found (frw w F (a + 1)) := by
  rw [frw_none ha e] at h
  exact nrm_none h ha ⟨low_frw hF, Eqs.refl _⟩
theorem nrm_step1 {w b N k a : Nat} {F : Fnd} {R0 found : List (List Int)} {r l : List Int} (hF : ∀ c h, F c = some h → FB w b N c k h) (h : Nrm w a R0 found (frw w F a)) (ha : a < w) (e : F a = some r) (hl : l.length = w) (el : fn l = sgd (fn r) a) : Nrm w (a + 1) R0 (found.map (redL a l) ++ [l]) (frw w F (a + 1)) := by
  refine nrm_some h ha hl ?_
  rw [el]
  refine swp_one ?_ (low_frw hF) (hF a r e).beg.2
  rw [frw_some ha e]
  refine eqs_in fun x => ?_
  rw [List.map_cons, List.mem_append, List.mem_cons, List.mem_singleton]
  exact Or.comm
end Hm
namespace Hm
/-- as many rows as columns: the row with the index c begins in column c -/
theorem fm_full {α : Type} (G : Nat → Option α) : ∀ n, ((List.range n).filterMap G).length = n → ∀ c, c < n → ∃ r, G c = some r ∧ ((List.range n).filterMap G)[c]? = some r := by
  intro n
  induction n with
  | zero => intro _ c hc; omega
  | succ n ih =>
    intro h c hc
    rw [List.range_succ, List.filterMap_append] at h ⊢
    have l1 : ((List.range n).filterMap G).length ≤ n := by
      have := List.length_filterMap_le G (List.range n)
      rw [List.length_range] at this
      exact this
    cases hG : G n with
    | none =>
      rw [List.length_append] at h
      simp [hG] at h
      omega
    | some x =>
      rw [List.length_append] at h
      have e1 : (List.filterMap G [n]) = [x] := by simp [hG]
      rw [e1] at h ⊢
      rw [List.length_singleton] at h
      have l2 : ((List.range n).filterMap G).length = n := by omega
      by_cases e : c = n
      · subst e
        refine ⟨x, hG, ?_⟩
        rw [List.getElem?_append_right (by omega), l2, Nat.sub_self]
        rfl
      · obtain ⟨r, g1, g2⟩ := ih l2 c (by omega)
        refine ⟨r, g1, ?_⟩
        rw [List.getElem?_append_left (by omega)]
        exact g2
theorem nrm_full {w : Nat} {R found rest : List (List Int)} (h : Nrm w w R found rest) (hl : found.length = w) : ∀ c, c < w → ∃ r, found[c]? = some r ∧ Beg (fn r) c ∧ r.length = w := by
  obtain ⟨G, g1, g2, g3⟩ := h.ex
  intro c hc
  rw [g2] at hl ⊢
  obtain ⟨r, e1, e2⟩ := fm_full G w hl c hc
  refine ⟨r, e2, ?_, g1 c r e1⟩
  have := g3.ech.z c (fn r) (by unfold ofG; rw [e1]; rfl)
  exact this
end Hm
set_option maxRecDepth 100000
set_option maxHeartbeats 2000000
namespace KT
open PySem PySem.Spec PyProof.Rows L2
/-- a table at x, its rows at q -/
structure TJ (C : Addr) (H : Hp) (x : Addr) (w : Nat) (q : Addr) (fs : List (Addr × List Int)) : Prop where
  ins : ∃ dx, H x = some (.ins C dx (flds w q (rw_ fs)))
  rl : RL H q fs
theorem TJ.ext {C : Addr} {H H' : Hp} {x : Addr} {w : Nat} {q : Addr} {fs : List (Addr × List Int)} (h : TJ C H x w q fs) (e : LamX.ExtN H H') : TJ C H' x w q fs := by
  obtain ⟨dx, h1⟩ := h.ins
  exact ⟨⟨dx, e _ _ h1 (fun ps z => nomatch z)⟩, h.rl.ext e⟩
/-- what the making of a table is asked for and tells -/
def MkT (K : PySem.W.Frag) (C : Addr) (T : List (Addr × Str)) (H : Hp) (l : Addr) (wd : Nat) (Q : VK) : Prop := ∃ (rs : List (Addr × List Int)) (b n : Nat), RI K H l rs ∧ LamX.Tabs T H ∧ 1 ≤ wd ∧ wd ≤ 3 ∧ 1 ≤ b ∧ 25 * b + 6 * n + 6 ≤ 1200 ∧ rs.length ≤ n ∧ (∀ r ∈ rw_ rs, Rk wd 0 b r) ∧
  ∀ (H' : Hp) (x q : Addr) (fs : List (Addr × List Int)) (rest : List (List Int)), LamX.ExtN H H' → LamX.Tabs T H' → New H q → TJ C H' x wd q fs → (∀ r ∈ rw_ fs, Hm.Fd wd b n wd r) → Hm.Nrm wd wd (rw_ rs) (rw_ fs) rest → fs.length ≤ wd → Q (.ref x) H'
theorem mk_read {K : PySem.W.Frag} {C : Addr} {T : List (Addr × Str)} {H : Hp} {l : Addr} {wd : Nat} {Q : VK} {E : XK} (h : MkT K C T H l wd Q) : ∀ x dx, H x = none → H dx = none → dx ≠ x → spInit K C T [.ref x, .int (wd : Nat), .ref l] (upd (upd H dx (.own x)) x (.ins C dx [])) (fun v H2 => v = .non ∧ Q (.ref x) H2) E := by
  intro x dx nx ndx ne
  obtain ⟨rs, b, n, hI, hT, h1, h3, hb, cap, hn, hk, q⟩ := h
  have s1 : Same H (upd (upd H dx (.own x)) x (.ins C dx [])) := fun a o e => by
    rw [upd_ne (ne_of_none e nx), upd_ne (ne_of_none e ndx)]
    exact e
  refine ⟨x, dx, l, rs, wd, b, n, rfl, upd_same, hI.ext (.of s1), hT.ext s1, h1, h3, hb, cap, hn, hk, ?_⟩
  intro H' qn fs rest st tb nw hx hR hFd hN hl
  have eX : LamX.ExtN H H' := fun a o e ht => st a o (ne_of_none e nx) (s1 _ _ e) ht
  exact ⟨rfl, q H' x qn fs rest eX tb (New.ext (.of s1) nw) ⟨⟨dx, hx⟩, hR⟩ hFd hN hl⟩
theorem mk_read2 {K : PySem.W.Frag} {C : Addr} {T : List (Addr × Str)} {H : Hp} {l : Addr} {wd : Nat} {Q' : Addr → Hp → Prop} {E : XK} (h : MkT K C T H l wd (fun v H2 => ∀ x, v = .ref x → Q' x H2)) : ∀ x dx, H x = none → H dx = none → dx ≠ x → spInit K C T [.ref x, .int (wd : Nat), .ref l] (upd (upd H dx (.own x)) x (.ins C dx [])) (fun v H2 => v = .non ∧ Q' x H2) E := by
  intro x dx nx ndx ne
  obtain ⟨rs, b, n, hI, hT, h1, h3, hb, cap, hn, hk, q⟩ := h
  have s1 : Same H (upd (upd H dx (.own x)) x (.ins C dx [])) := fun a o e => by
    rw [upd_ne (ne_of_none e nx), upd_ne (ne_of_none e ndx)]
    exact e
  refine ⟨x, dx, l, rs, wd, b, n, rfl, upd_same, hI.ext (.of s1), hT.ext s1, h1, h3, hb, cap, hn, hk, ?_⟩
  intro H' qn fs rest st tb nw hx hR hFd hN hl
  have eX : LamX.ExtN H H' := fun a o e ht => st a o (ne_of_none e nx) (s1 _ _ e) ht
  exact ⟨rfl, q H' x qn fs rest eX tb (New.ext (.of s1) nw) ⟨⟨dx, hx⟩, hR⟩ hFd hN hl x rfl⟩
end KT
set_option maxRecDepth 100000
set_option maxHeartbeats 2000000
namespace Cnt
open PySem PySem.StrLaws Builtin.Str
theorem loop (x : Str) (c : Nat) : ∀ (n lo : Nat) (acc : Array Nat) (free : Nat), free ≤ lo → lo + n = x.length + 1 → acc.size + n ≤ x.length + 1 →
    (forIn (List.range' lo n) (acc, free) (occBody x ⟨#[c]⟩ x.length (x.length + 1))).run.fst.size = acc.size + (x.cps.toList.drop lo).count c
  | 0, lo, acc, free, _, h2, _ => by
    have e : x.cps.toList.drop lo = [] := List.drop_eq_nil_of_le (by simp [Str.length] at h2 ⊢; omega)
    rw [e]
    rfl
  | n + 1, lo, acc, free, h1, h2, h3 => by
    rw [List.range'_succ, List.forIn_cons]
    unfold occBody
    by_cases hc : x.cps.toList[lo]? = some c
    · obtain ⟨z1, z2⟩ := (subAt_one x c lo).mpr hc
      have hp : ((acc.size < x.length + 1 ∧ free ≤ lo) ∧ lo + (⟨#[c]⟩ : Str).length ≤ x.length) ∧ subAt x ⟨#[c]⟩ lo = true := ⟨⟨⟨by omega, h1⟩, z1⟩, z2⟩
      rw [if_pos hp]
      have ih := loop x c n (lo + 1) (acc.push lo) (lo + 1) (Nat.le_refl _) (by omega) (by rw [Array.size_push]; omega)
      obtain ⟨hl, hv⟩ := List.getElem?_eq_some_iff.mp hc
      rw [List.drop_eq_getElem_cons hl, hv, List.count_cons_self]
      rw [Array.size_push] at ih
      refine Eq.trans ?_ (ih.trans (by omega))
      rfl
    · have hn : ¬ (((acc.size < x.length + 1 ∧ free ≤ lo) ∧ lo + (⟨#[c]⟩ : Str).length ≤ x.length) ∧ subAt x ⟨#[c]⟩ lo = true) := fun h => hc ((subAt_one x c lo).mp ⟨h.1.2, h.2⟩)
      rw [if_neg hn]
      have ih := loop x c n (lo + 1) acc free (by omega) (by omega) (by omega)
      have e : (x.cps.toList.drop lo).count c = (x.cps.toList.drop (lo + 1)).count c := by
        by_cases hl : lo < x.cps.toList.length
        · rw [List.drop_eq_getElem_cons hl, List.count_cons_of_ne]
          intro z
          exact hc (by rw [List.getElem?_eq_getElem hl, z])
        · rw [List.drop_eq_nil_of_le (by omega), List.drop_eq_nil_of_le (by omega)]
      rw [e]
      exact ih
theorem one (x : Str) (c : Nat) : Txt.count x ⟨#[c]⟩ = (x.cps.toList.count c : Nat) := by
  unfold Txt.count
  rw [occ_eq]
  have z := loop x c (x.length + 1) 0 #[] 0 (Nat.le_refl _) (by omega) (by simp)
  rw [Array.length_toList]
  rw [Nat.sub_zero]
  rw [z]
  simp
theorem more (x : Nat) (l : List Nat) : ∀ M : List Nat, (M.map fun c => (x :: l).count c).sum = (M.map fun c => l.count c).sum + M.count x
  | [] => rfl
  | c :: M => by
    have ih := more x l M
    simp only [List.map_cons, List.sum_cons]
    rw [ih]
    by_cases h : x = c
    · subst h
      rw [List.count_cons_self, List.count_cons_self]
      omega
    · rw [List.count_cons_of_ne h, List.count_cons_of_ne (Ne.symm h)]
      omega
theorem atmost {M : List Nat} (hM : M.Nodup) (x : Nat) : M.count x = if x ∈ M then 1 else 0 := by
  by_cases h : x ∈ M
  · rw [if_pos h]
    have h1 := List.nodup_iff_count.mp hM x
    have h2 := List.count_pos_iff.mpr h
    omega
  · rw [if_neg h]
    exact List.count_eq_zero.mpr h
theorem le {M : List Nat} (hM : M.Nodup) : ∀ l : List Nat, (M.map fun c => l.count c).sum ≤ l.length
  | [] => by
    have : ∀ M : List Nat, (M.map fun c => ([] : List Nat).count c).sum = 0 := fun M => by
      induction M with
      | nil => rfl
      | cons c M ih => simpa using ih
    rw [this]
    exact Nat.zero_le _
  | x :: l => by
    have ih := le hM l
    rw [more, atmost hM]
    simp only [List.length_cons]
    split <;> omega
/-- all signs of a text are among different ones exactly if these stand there as often as it is long -/
theorem all {M : List Nat} (hM : M.Nodup) : ∀ l : List Nat, ((M.map fun c => l.count c).sum = l.length) ↔ l.all (fun c => decide (c ∈ M)) = true
  | [] => by
    have h := le hM []
    simp at h ⊢
    omega
  | x :: l => by
    have ih := all hM l
    have h := le hM l
    rw [more, atmost hM, List.all_cons]
    simp only [List.length_cons]
    by_cases hx : x ∈ M
    · rw [if_pos hx, decide_eq_true hx, Bool.true_and, ← ih]
      omega
    · rw [if_neg hx, decide_eq_false hx, Bool.false_and]
      constructor
      · intro z; omega
      · intro z; cases z
theorem sumInt (f : Nat → Nat) : ∀ M : List Nat, (M.map fun c => ((f c : Nat) : Int)).sum = ((M.map f).sum : Nat)
  | [] => rfl
  | c :: M => by
    have ih := sumInt f M
    simp only [List.map_cons, List.sum_cons]
    rw [ih]
    omega
end Cnt
namespace KA
open PySem PySem.Spec PyProof.Rows L2
def top (i : Nat) : Stmt := PySem.Challenge.pw_roundswap_k31_steps_that_are_applied.main.body.getD i (.Pass ⟨0, 0, 0, 0⟩)
abbrev sSignsOf : Stmt := top 21
abbrev sIsWord : Stmt := top 22
abbrev sOpp : Stmt := top 24
abbrev sCountsOf : Stmt := top 25
abbrev sBegin : Stmt := top 79
abbrev sDraw : Stmt := top 80
abbrev sAny : Stmt := top 81
abbrev sSame : Stmt := top 82
abbrev sField : Stmt := top 83
abbrev sWhy : Stmt := top 84
abbrev sLetters : Stmt := top 85
abbrev sSigns : Stmt := top 86
abbrev sSome : Stmt := top 88
theorem scSignsOf : FnScope ["letters", "letter", "sign"] ["letters"] (defScope sSignsOf) := ⟨rfl, rfl, rfl, by decide +kernel, rfl, by decide +kernel, by decide +kernel⟩
theorem scIsWord : FnScope ["word", "letters", "sign"] ["word", "letters"] (defScope sIsWord) := ⟨rfl, rfl, rfl, by decide +kernel, rfl, by decide +kernel, by decide +kernel⟩
theorem scOpp : FnScope ["word"] ["word"] (defScope sOpp) := ⟨rfl, rfl, rfl, by decide +kernel, rfl, by decide +kernel, by decide +kernel⟩
theorem scCountsOf : FnScope ["word", "letters", "letter"] ["word", "letters"] (defScope sCountsOf) := ⟨rfl, rfl, rfl, by decide +kernel, rfl, by decide +kernel, by decide +kernel⟩
theorem scBegin : FnScope ["_law_script", "_law_cell", "_law_marks", "_law_seed"] ["_law_script"] (defScope sBegin) := ⟨rfl, rfl, rfl, by decide +kernel, rfl, by decide +kernel, by decide +kernel⟩
theorem scDraw : FnScope ["_law_box", "_law_many", "_law_cell", "_law_digit", "_law_seed"] ["_law_box", "_law_many"] (defScope sDraw) := ⟨rfl, rfl, rfl, by decide +kernel, rfl, by decide +kernel, by decide +kernel⟩
theorem scAny : FnScope ["_law_box", "_law_some"] ["_law_box", "_law_some"] (defScope sAny) := ⟨rfl, rfl, rfl, by decide +kernel, rfl, by decide +kernel, by decide +kernel⟩
theorem scSame : FnScope ["_law_found", "_law_due", "_law_k"] ["_law_found", "_law_due"] (defScope sSame) := ⟨rfl, rfl, rfl, by decide +kernel, rfl, by decide +kernel, by decide +kernel⟩
theorem scField : FnScope ["_law_e"] ["_law_e"] (defScope sField) := ⟨rfl, rfl, rfl, by decide +kernel, rfl, by decide +kernel, by decide +kernel⟩
theorem scWhy : FnScope ["_law_ask", "_law_e"] ["_law_ask"] (defScope sWhy) := ⟨rfl, rfl, rfl, by decide +kernel, rfl, by decide +kernel, by decide +kernel⟩
theorem scLetters : FnScope ["_law_box", "_law_many", "_law_found", "_law_k", "_law_left", "_law_letter"] ["_law_box", "_law_many"] (defScope sLetters) := ⟨rfl, rfl, rfl, by decide +kernel, rfl, by decide +kernel, by decide +kernel⟩
theorem scSigns : FnScope ["_law_letters_here", "_law_letter"] ["_law_letters_here"] (defScope sSigns) := ⟨rfl, rfl, rfl, by decide +kernel, rfl, by decide +kernel, by decide +kernel⟩
theorem scSome : FnScope ["_law_box", "_law_letters_here", "_law_most", "_law_signs_here", "_law_k"] ["_law_box", "_law_letters_here", "_law_most"] (defScope sSome) := ⟨rfl, rfl, rfl, by decide +kernel, rfl, by decide +kernel, by decide +kernel⟩
/-! the built-in names that the top leaves as they are -/
structure Bn (mg : Str → Option Value) : Prop where
  len : mg "len" = none
  int : mg "int" = none
  isinst : mg "isinstance" = none
  list : mg "list" = none
  tuple : mg "tuple" = none
  all : mg "all" = none
  range : mg "range" = none
  bool : mg "bool" = none
  str : mg "str" = none
  enum : mg "enumerate" = none
  sum : mg "sum" = none
/-! the box of draws: at m the marks -/
def Bx (H : Hp) (b m : Addr) : Prop := ∃ (ms : List Int) (i r s : Int), H b = some (.lst [.ref m, .int i, .int r, .int s]) ∧ H m = some (.lst (ms.map V.int)) ∧ 0 ≤ i ∧ 0 ≤ r ∧ 0 ≤ s ∧ s < 2147483647
def BxTo (H H' : Hp) (b m : Addr) : Prop := Bx H' b m ∧ ∀ x, x ≠ b → H' x = H x
theorem Bx.put {H : Hp} {b m : Addr} {ms : List Int} {i r s i' r' s' : Int} (h : H b = some (.lst [.ref m, .int i, .int r, .int s])) (hm : H m = some (.lst (ms.map V.int))) (h1 : 0 ≤ i') (h2 : 0 ≤ r') (h3 : 0 ≤ s') (h4 : s' < 2147483647) :
    BxTo H (upd H b (.lst [.ref m, .int i', .int r', .int s'])) b m := by
  have nm : m ≠ b := fun e => by
    subst e
    rw [h] at hm
    cases ms with
    | nil => cases hm
    | cons x r => cases hm
  exact ⟨⟨ms, i', r', s', upd_same, by rw [upd_ne nm]; exact hm, h1, h2, h3, h4⟩, fun x hx => upd_ne hx⟩
theorem BxTo.trans {H H1 H2 : Hp} {b m : Addr} (x : BxTo H H1 b m) (y : BxTo H1 H2 b m) : BxTo H H2 b m := ⟨y.1, fun z hz => (y.2 z hz).trans (x.2 z hz)⟩
theorem BxTo.refl {H : Hp} {b m : Addr} (x : Bx H b m) : BxTo H H b m := ⟨x, fun _ _ => rfl⟩
end KA
set_option maxRecDepth 100000
set_option maxHeartbeats 2000000
namespace KA
open PySem PySem.Spec PyProof.Rows L2
section
variable {P : Program} {w : World} {K : PySem.W.Frag} {mg : Str → Option Value} {base : Heap}
def spDraw : Sp := fun vs H Q _ => ∃ (b m : Addr) (many : Int), vs = [.ref b, .int many] ∧ Bx H b m ∧ 0 < many ∧ many < 1000000 ∧ ∀ d H', 0 ≤ d → d < many → BxTo H H' b m → Q (.int d) H'
theorem ok_draw {f : Addr} {fd : FuncData} {k : Nat} (F : Fun K "_law_draw" "_law_draw" sDraw f fd) (B : Bn mg) : FnOk P w K mg base CX0 (k + 1) f fd ["_law_box", "_law_many"] spDraw := by
  refine F.ok scDraw (fun vs H Q E h => ?_) (fun cdv A outer s H vs Q E hr h => ?_)
  · obtain ⟨b, m, n, rfl, _⟩ := h
    rfl
  · obtain ⟨b, m, n, rfl, hB, h1, h2, q⟩ := h
    obtain ⟨t2, P2, R2⟩ : ∃ t2, PSs (cxOf CX0 P w K mg base ["_law_box", "_law_many", "_law_cell", "_law_digit", "_law_seed"] "_law_draw" (defScope sDraw) f cdv A outer s H E).nox ((defBody sDraw).drop 1) t2 ∧
        ∀ (y : Option V) (H' : Hp), BxTo H H' b m → t2 { nx := fun _ H' => Q .non H', rt := Q } [some (.ref b), some (.int n), y, none, none] H' := by
      refine ⟨_, pss_cons (ps_if (pt_cmpR op_gt (pe_ix ix_list (pv 0) pe_int (fun _ _ => rfl)) pe_int (nomark _))
          (pss_cons (ps_set (i := 3) scDraw.nd rfl (.inl rfl) (pe_op op_mod (pe_callTy call_int1 (by rfl) B.int boot_int (pa_cons (pe_ix ix_list (pv 0) pe_int (fun _ _ => rfl)) pa_nil)) (pv 1)))
          (pss_cons (ps_asg (pe_op op_fdivW (pe_ix ix_list (pv 0) pe_int (fun _ _ => rfl)) (pv 1)) (pg_sub (pv 0) pe_int set_list))
          (pss_one (ps_ret (pv 3))))) pss_nil)
        (pss_cons (ps_set (i := 4) scDraw.nd rfl (.inl rfl) (pe_ix ix_list (pv 0) pe_int (fun _ _ => rfl)))
        (pss_cons (ps_asg (pe_op op_mod (pe_op op_add (pe_op op_add (pe_op op_mul (pv 4) (pv 4)) (pe_op op_mul (pv 4) pe_int)) pe_int) pe_int) (pg_sub (pv 0) pe_int set_list))
        (pss_one (ps_ret (pe_op op_mod (pe_op op_add (pe_op op_fdiv (pe_ix ix_list (pv 0) pe_int (fun _ _ => rfl)) pe_int)
          (pe_op op_mul (pe_op op_mod (pe_callTy call_int1 (by rfl) B.int boot_int (pa_cons (pe_ix ix_list (pv 0) pe_int (fun _ _ => rfl)) pa_nil)) pe_int) pe_int)) (pv 1)))))), fun y H' hT => ?_⟩
      obtain ⟨⟨ms, i, r, s, hb, hm, k1, k2, k3, k4⟩, kp⟩ := id hT
      refine ⟨.ref b, rfl, b, _, 2, _, rfl, rfl, SqL.of hb, rfl, _, _, rfl, rfl, _, rfl, ite2 (fun e => ?_) (fun e => ?_)⟩
      · have hr0 : 0 < r := of_decide_eq_true e
        refine ⟨.ref b, rfl, b, _, 2, _, rfl, rfl, SqL.of hb, rfl, .inl ⟨_, rfl, _, rfl, _, _, rfl, rfl, h1, ?_⟩⟩
        refine ⟨.ref b, rfl, b, _, 2, _, rfl, rfl, SqL.of hb, rfl, _, rfl, _, _, rfl, rfl, wide_div (b := 20) h1 (by omega) (by decide) (by decide), ?_⟩
        refine ⟨.ref b, rfl, b, _, 2, 2, rfl, rfl, hb, rfl, _, rfl, ?_⟩
        refine q _ _ (Int.emod_nonneg _ (by omega)) (Int.emod_lt_of_pos _ h1) (hT.trans ?_)
        exact Bx.put hb hm k1 (Int.ediv_nonneg k2 (by omega)) k3 k4
      · refine ⟨.ref b, rfl, b, _, 3, _, rfl, rfl, SqL.of hb, rfl, ?_⟩
        refine ⟨_, rfl, _, rfl, _, _, rfl, rfl, .inl ⟨by omega, by omega⟩, _, rfl, _, _, rfl, rfl, .inl ⟨by omega, by omega⟩, _, _, rfl, rfl, _, _, rfl, rfl, _, _, rfl, rfl, (by show (0 : Int) < _; decide), ?_⟩
        refine ⟨.ref b, rfl, b, _, 3, 3, rfl, rfl, hb, rfl, ?_⟩
        have g1 : 0 ≤ (s * s + s * 61001 + 911) % 2147483647 := Int.emod_nonneg _ (by decide)
        have g2 : (s * s + s * 61001 + 911) % 2147483647 < 2147483647 := Int.emod_lt_of_pos _ (by decide)
        have bx := Bx.put (i' := i) (r' := r) (s' := (s * s + s * 61001 + 911) % 2147483647) hb hm k1 k2 g1 g2
        refine ⟨.ref b, rfl, b, _, 3, _, rfl, rfl, SqL.of upd_same, rfl, _, _, rfl, rfl, ⟨by decide, by decide⟩, ?_⟩
        refine ⟨.ref b, rfl, b, _, 3, _, rfl, rfl, SqL.of upd_same, rfl, .inl ⟨_, rfl, _, _, rfl, rfl, (by show (0 : Int) < _; decide), _, _, rfl, rfl, .inl ⟨by omega, by omega⟩, _, _, rfl, rfl, _, rfl, _, _, rfl, rfl, h1, ?_⟩⟩
        exact q _ _ (Int.emod_nonneg _ (by omega)) (Int.emod_lt_of_pos _ h1) (hT.trans bx)
    obtain ⟨ms, i, r, s, hb, hm, k1, k2, k3, k4⟩ := id hB
    refine ⟨_, pss_cons (ps_if (PW.pt (pw_and (pt_cmpR op_eq (pe_ix ix_list (pv 0) pe_int (fun _ _ => rfl)) pe_int (nomark _))
          (pw_and1 (pt_cmpR op_lt (pe_ix ix_list (pv 0) pe_int (fun _ _ => rfl)) (pe_callB call_len_seq (by rfl) B.len PySem.boot_len (pa_cons (pe_ix ix_list (pv 0) pe_int (fun _ _ => rfl)) pa_nil)) (nomark _)))))
        (pss_cons (ps_set (i := 2) scDraw.nd rfl (.inl rfl) (pe_ix ix_list (pe_ix ix_list (pv 0) pe_int (fun _ _ => rfl)) (pe_ix ix_list (pv 0) pe_int (fun _ _ => rfl)) (fun _ _ => rfl)))
        (pss_cons (ps_asg (pe_op op_add (pe_ix ix_list (pv 0) pe_int (fun _ _ => rfl)) pe_int) (pg_sub (pv 0) pe_int set_list))
        (pss_one (ps_if (pt_cmpR op_ge (pv 2) (pe_op op_pow pe_int pe_int) (nomark _))
          (pss_one (ps_asg (pv 2) (pg_sub (pv 0) pe_int set_list)))
          (pss_one (ps_asg (pe_op op_mod (pe_op op_add (pe_op op_add (pe_op op_mul (pe_ix ix_list (pv 0) pe_int (fun _ _ => rfl)) pe_int)
            (pe_op op_mul (pe_op op_mod (pe_callTy call_int1 (by rfl) B.int boot_int (pa_cons (pv 2) pa_nil)) pe_int) pe_int)) pe_int) pe_int) (pg_sub (pv 0) pe_int set_list)))))))
        pss_nil) P2, ?_⟩
    refine ⟨.ref b, rfl, b, _, 2, _, rfl, rfl, SqL.of hb, rfl, rfl, _, rfl, ite2 (fun e => ?_) (fun e => ?_)⟩
    · refine ⟨.ref b, rfl, b, _, 1, _, rfl, rfl, SqL.of hb, rfl, .ref b, rfl, b, _, 0, _, rfl, rfl, SqL.of hb, rfl, m, _, rfl, .inl (SqL.of hm), _, _, rfl, rfl, _, rfl, ite2 (fun e2 => ?_) (fun e2 => ?_)⟩
      · have hl : i < (ms.map V.int).length := of_decide_eq_true e2
        have hl2 : i.toNat < ms.length := by
          rw [List.length_map] at hl
          omega
        have ei : ((i.toNat : Nat) : Int) = i := by omega
        have hat : atI (ms.map V.int) i = some (.int ms[i.toNat]) := by
          have z : (ms.map V.int)[i.toNat]? = some (.int ms[i.toNat]) := by
            rw [List.getElem?_map, List.getElem?_eq_getElem hl2]
            rfl
          have z2 := atI_nat z
          rw [ei] at z2
          exact z2
        refine ⟨.ref b, rfl, b, _, 0, _, rfl, rfl, SqL.of hb, rfl, .ref b, rfl, b, _, 1, _, rfl, rfl, SqL.of hb, rfl, m, _, i, _, rfl, rfl, SqL.of hm, hat, ?_⟩
        generalize ms[i.toNat] = cell
        refine ⟨.ref b, rfl, b, _, 1, _, rfl, rfl, SqL.of hb, rfl, _, _, rfl, rfl, .ref b, rfl, b, _, 1, 1, rfl, rfl, hb, rfl, ?_⟩
        have bx1 := Bx.put (i' := i + 1) (r' := r) (s' := s) hb hm (by omega) k2 k3 k4
        have hb1 : upd H b (.lst [.ref m, .int (i + 1), .int r, .int s]) b = _ := upd_same
        have hm1 : upd H b (.lst [.ref m, .int (i + 1), .int r, .int s]) m = some (.lst (ms.map V.int)) := by
          obtain ⟨_, z⟩ := Bx.put (i' := i + 1) (r' := r) (s' := s) hb hm (by omega) k2 k3 k4
          rw [z m (fun e => by subst e; rw [hb] at hm; cases ms <;> cases hm)]
          exact hm
        refine ⟨_, rfl, _, _, rfl, rfl, ⟨by decide, by decide, by decide⟩, _, _, rfl, rfl, _, rfl, ite2 (fun e3 => ?_) (fun e3 => ?_)⟩
        · have hc : (10 : Int) ^ (18 : Int).toNat ≤ cell := of_decide_eq_true e3
          have hc0 : (0 : Int) ≤ (10 : Int) ^ (18 : Int).toNat := by decide
          refine ⟨_, rfl, .ref b, rfl, b, _, 2, 2, rfl, rfl, hb1, rfl, ?_⟩
          exact R2 _ _ (bx1.trans (Bx.put hb1 hm1 (by omega) (by omega) k3 k4))
        · refine ⟨.ref b, rfl, b, _, 3, _, rfl, rfl, SqL.of hb1, rfl, _, _, rfl, rfl, .inl ⟨by omega, by omega⟩, _, rfl, .inl ⟨_, rfl, _, _, rfl, rfl, (by show (0 : Int) < _; decide), _, _, rfl, rfl, .inl ⟨by omega, by omega⟩, _, _, rfl, rfl, _, _, rfl, rfl, _, _, rfl, rfl, (by show (0 : Int) < _; decide), ?_⟩⟩
          refine ⟨.ref b, rfl, b, _, 3, 3, rfl, rfl, hb1, rfl, ?_⟩
          exact R2 _ _ (bx1.trans (Bx.put hb1 hm1 (by omega) k2 (by omega) (by omega)))
      · exact R2 _ _ (.refl hB)
    · exact R2 _ _ (.refl hB)
end
end KA
set_option maxRecDepth 100000
set_option maxHeartbeats 2000000
namespace KA
open PySem PySem.Spec PyProof.Rows L2
/-! texts as lists of codes -/
abbrev tx (l : List Nat) : V := .str (SX.S l)
theorem tx_len (l : List Nat) : (SX.S l).length = l.length := SX.S_len l
theorem joinNil : ∀ ys : List (List Nat), TL.joinL [] ys = ys.flatten
  | [] => rfl
  | [p] => by simp [TL.joinL]
  | p :: q :: r => by
    show p ++ ([] ++ TL.joinL [] (q :: r)) = _
    rw [joinNil (q :: r)]
    rfl
theorem walk_txt (l : List Nat) : Walk (Its (SX.S l)) (l.map fun c => tx [c]).length (fun _ => True) (YAt (l.map fun c => tx [c])) := by
  have e : (SX.S l).cps.size = (l.map fun c => tx [c]).length := by simp
  have w := walk_str (z := SX.S l)
  rw [e] at w
  refine w.mono (fun _ h => h) (fun i H x H' hi _ y => ?_)
  obtain ⟨y1, c, y2, y3⟩ := y
  refine ⟨y1, ?_⟩
  rw [List.getElem?_map]
  have y4 : l[i]? = some c := by simpa using y2
  rw [y4, y3]
  rfl
/-! heaps -/
theorem same_new {H : Hp} {p : Addr} {o : HO} (h : H p = none) : Same H (upd H p o) := fun b x e => by
  rw [upd_ne (ne_of_none e h)]
  exact e
theorem sqT_same {K : PySem.W.Frag} {H H' : Hp} {a : Addr} {xs : List V} (e : Same H H') (h : SqT K H a xs) : SqT K H' a xs := by
  rcases h with (h | ⟨o, h⟩) | h
  · exact .inl (.inl (e _ _ h))
  · exact .inl (.inr ⟨o, e _ _ h⟩)
  · exact .inr h
theorem take_more {α : Type} {l : List α} {i : Nat} {x : α} (h : l[i]? = some x) : l.take (i + 1) = l.take i ++ [x] := by
  rw [List.take_add_one, h]
  rfl
/-- a comprehension over xs whose test and element change nothing that stands -/
theorem lc_pure {J : It} {G : Hp → Prop} {xs : List V} (w : Walk J xs.length G (YAt xs)) {tt : TT} {te : TE} {σ : L2.St} {i : Nat} {H1 : Hp} {D : Addr} {Qd : Hp → Prop} (f : V → V) (keep : V → Bool) (hlen : xs.length < sizeLine) (hD : H1 D = none)
    (hG : ∀ H2, Same H1 H2 → G H2)
    (ht : ∀ x H2 Q, x ∈ xs → Same H1 H2 → Q (keep x) H2 → tt ((σ.set i none).set i (some x)) H2 Q)
    (he : ∀ x H2 Q, x ∈ xs → keep x = true → Same H1 H2 → (∀ H3, Same H2 H3 → Q (f x) H3) → te ((σ.set i none).set i (some x)) H2 Q)
    (hd : ∀ H2, Same H1 H2 → H2 D = some (.lst ((xs.filter keep).map f)) → Qd H2) :
    ∃ W : Nat → Nat → Hp → Prop, (∃ m, W 0 m (upd H1 D (.lst []))) ∧ ∀ j m H, W j m H →
      (J.stop j H ∧ Qd H) ∨ (J.go j H ∧ ∃ Nx : Hp → Prop, (∀ H', Nx H' → ∃ m', m' < m ∧ W (j + 1) m' H') ∧ ∀ x H', J.yld j H x H' → gName i x (wipe σ [i]) H' fun σ2 H2 => wipe σ2 [i] = wipe σ [i] ∧ tt σ2 H2 fun b H3 =>
        if b = true then te σ2 H3 fun v H4 => ∃ ac, H4 D = some (.lst ac) ∧ ac.length < sizeLine ∧ Nx (upd H4 D (.lst (ac ++ [v]))) else Nx H3) := by
  refine lc_it w (fun j H2 => Same H1 H2 ∧ H2 D = some (.lst (((xs.take j).filter keep).map f))) ⟨same_new hD, upd_same⟩ (fun j H2 _ h => hG H2 h.1) ?_ (fun H2 h => hd H2 h.1 (by have z := h.2; rw [List.take_length] at z; exact z))
  rintro j x H2 H2' hj ⟨sm, hd2⟩ ⟨rfl, hx⟩
  have hm : x ∈ xs := List.mem_of_getElem? hx
  refine ⟨?_, ?_⟩
  · show (((σ.set i none).set i (some x)).set i none) = σ.set i none
    rw [List.set_set, List.set_set]
  · refine ht x _ _ hm sm ?_
    have tk := take_more hx
    cases hk : keep x with
    | true =>
      refine iteT (he x _ _ hm hk sm fun H3 s3 => ⟨_, s3 _ _ hd2, ?_, ?_, ?_⟩)
      · rw [List.length_map]
        exact Nat.lt_of_le_of_lt (Nat.le_trans (List.length_filter_le _ _) (by rw [List.length_take]; omega)) hlen
      · intro b o e
        rw [upd_ne (ne_of_none e hD)]
        exact s3 _ _ (sm _ _ e)
      · rw [upd_same, tk, List.filter_append, List.map_append]
        simp [hk]
    | false =>
      refine iteF ⟨sm, ?_⟩
      rw [hd2, tk, List.filter_append]
      simp [hk]
section
variable {P : Program} {w : World} {K : PySem.W.Frag} {mg : Str → Option Value} {base : Heap}
/-! _law_any -/
def spAny : Sp := fun vs H Q _ => ∃ (b m p : Addr) (xs : List V), vs = [.ref b, .ref p] ∧ Bx H b m ∧ H p = some (.lst xs) ∧ p ≠ b ∧ xs ≠ [] ∧ xs.length < 1000000 ∧ ∀ x H', x ∈ xs → BxTo H H' b m → Q x H'
theorem ok_any {f fD : Addr} {fd fdD : FuncData} {k : Nat} (F : Fun K "_law_any" "_law_any" sAny f fd) (B : Bn mg) (FD : Fun K "_law_draw" "_law_draw" sDraw fD fdD) (bD : Binds K fdD ["_law_box", "_law_many"] []) (gD : mg "_law_draw" = some (.ref fD)) :
    FnOk P w K mg base CX0 (k + 2) f fd ["_law_box", "_law_some"] spAny := by
  have GD : FnOk P w K mg base CX0 (k + 1) fD fdD ["_law_box", "_law_many"] spDraw := ok_draw FD B
  refine F.ok scAny (fun vs H Q E h => ?_) (fun cdv A outer s H vs Q E hr h => ?_)
  · obtain ⟨b, m, p, xs, rfl, _⟩ := h
    rfl
  · obtain ⟨b, m, p, xs, rfl, hB, hp, hpb, hne, hl, q⟩ := h
    refine ⟨_, pss_one (ps_ret (pe_ix ix_list (pv 1) (pe_call GD hr (by rfl) gD FD.kp bD .nil pass0 (pa_cons (pv 0) (pa_cons (pe_callB call_len_seq (by rfl) B.len PySem.boot_len (pa_cons (pv 1) pa_nil)) pa_nil))) (fun _ _ => rfl))), ?_⟩
    have h0 : 0 < xs.length := List.length_pos_iff.mpr hne
    refine ⟨.ref p, rfl, .ref b, rfl, .ref p, rfl, p, xs, rfl, .inl (SqL.of hp), b, m, (xs.length : Int), rfl, hB, by omega, by omega, fun d H' d0 d1 hT => ?_⟩
    have hd : d.toNat < xs.length := by omega
    have hat : atI xs d = some xs[d.toNat] := by
      have z := atI_nat (List.getElem?_eq_getElem hd)
      rw [show ((d.toNat : Nat) : Int) = d by omega] at z
      exact z
    exact ⟨p, xs, d, _, rfl, rfl, SqL.of ((hT.2 p hpb).trans hp), hat, q _ _ (List.getElem_mem hd) hT⟩
/-! _law_begin -/
def spBegin (K : PySem.W.Frag) : Sp := fun vs H Q _ => ∃ (a : Addr) (ns : List Int), vs = [.ref a] ∧ SqL K H a (ns.map V.int) ∧ ns.length ≤ 63 ∧ ∀ H' b m, Same H H' → H b = none → Bx H' b m → Q (.ref b) H'
theorem ok_begin {f : Addr} {fd : FuncData} {k : Nat} (F : Fun K "_law_begin" "_law_begin" sBegin f fd) (B : Bn mg) : FnOk P w K mg base CX0 (k + 1) f fd ["_law_script"] (spBegin K) := by
  refine F.ok scBegin (fun vs H Q E h => ?_) (fun cdv A outer s H vs Q E hr h => ?_)
  · obtain ⟨a, ns, rfl, _⟩ := h
    rfl
  · obtain ⟨a, ns, rfl, hS, hl, q⟩ := h
    refine ⟨_, pss_cons (ps_setLc (i := 2) (own := [("_law_cell", 1)]) (g := gName 1) (tt := tYes) rfl scBegin.nd rfl rfl (sw_true rfl rfl rfl (by decide +kernel)) (pi_list (pe_slice sl_list (pv 0) po_none (po_some pe_int)))
        (blkOk_by (N := ["_law_script", "_law_cell", "_law_marks", "_law_seed"]) (sc := defScope sBegin) (by decide +kernel)) (fun _ _ _ _ _ => pg_name (i := 1) scBegin.nd rfl (Or.inl rfl)) (fun _ _ _ _ _ => pts_nil)
        (fun _ _ _ _ _ => pe_callTy call_int1 (by rfl) B.int boot_int (pa_cons (pv 1) pa_nil)))
      (pss_cons (ps_set (i := 3) scBegin.nd rfl (.inl rfl) (pe_op op_add pe_int (pe_op op_mul pe_int (pe_callB call_len_seq (by rfl) B.len PySem.boot_len (pa_cons (pv 2) pa_nil)))))
      (pss_cons (ps_for PassesOwn.never rfl (pi_list (pv 2)) (pg_name (i := 1) scBegin.nd rfl (Or.inl rfl))
        (pss_one (ps_set (i := 3) scBegin.nd rfl (.inl rfl) (pe_op op_mod (pe_op op_add (pe_op op_add (pe_op op_mul (pv 3) pe_int) (pe_op op_mod (pe_callTy call_int1 (by rfl) B.int boot_int (pa_cons (pv 1) pa_nil)) pe_int)) pe_int) pe_int))))
      (pss_one (ps_ret (pe_lst (pa_cons (pv 2) (pa_cons pe_int (pa_cons pe_int (pa_cons (pv 3) pa_nil))))))))), ?_⟩
    obtain ⟨ms, hms, hcut⟩ : ∃ ms : List Int, ms.length ≤ 63 ∧ cutV (ns.map V.int) none (some 63) = ms.map V.int := by
      refine ⟨ns.take (HT.sIx (ns.map V.int).length (ns.map V.int).length (some 63) - HT.sIx (ns.map V.int).length 0 none), ?_, ?_⟩
      · rw [List.length_take]
        omega
      · unfold cutV
        rw [HT.sIx_none, List.drop_zero, List.map_take]
    refine ⟨.ref a, rfl, 63, rfl, a, _, rfl, hS, fun c nc => ?_⟩
    rw [hcut]
    refine ⟨c, rfl, ⟨_, SqL.of upd_same⟩, fun D nD => ?_⟩
    have s1 : Same H (upd H c (.lst (ms.map V.int))) := same_new nc
    refine lc_pure (walk_list (K := K) (a := c) (xs := ms.map V.int)) (σ := [some (.ref a), none, none, none]) (i := 1) id (fun _ => true) (by rw [List.length_map]; exact small1000 (by omega)) nD (fun H2 e => SqL.of (e _ _ upd_same)) (fun x H2 Q _ _ h => h) ?_ ?_
    · intro x H2 Q hx _ _ h
      obtain ⟨z, _, rfl⟩ := List.mem_map.mp hx
      exact ⟨_, rfl, .inl ⟨z, rfl, h H2 (Same.refl _)⟩⟩
    · intro H2 s2 hD
      have hf : ((ms.map V.int).filter fun _ => true).map id = ms.map V.int := by simp
      rw [hf] at hD
      have sm : Same H H2 := s1.trans s2
      refine ⟨.ref D, rfl, D, _, rfl, .inl (SqL.of hD), _, _, rfl, rfl, .inl ⟨by decide, by decide⟩, _, _, rfl, rfl, ?_⟩
      refine ⟨.ref D, rfl, D, rfl, ⟨_, SqL.of hD⟩, ?_⟩
      refine for_it (walk_list (K := K) (a := D) (xs := ms.map V.int)) (fun i σ H3 => ∃ (y : Option V) (sd : Int), σ = [some (.ref a), y, some (.ref D), some (.int sd)] ∧ H3 = H2 ∧ 0 ≤ sd ∧ sd < 2147483647) ⟨none, _, rfl, rfl, ?_, ?_⟩ (fun i σ H3 _ h => ?_) ?_ ?_
      · simp only [List.length_map]
        omega
      · simp only [List.length_map]
        omega
      · obtain ⟨_, _, _, rfl, _⟩ := h
        exact SqL.of hD
      · rintro i x σ H3 H3' hi ⟨y, sd, rfl, rfl, g1, g2⟩ ⟨rfl, hx⟩
        obtain ⟨z, _, rfl⟩ := List.mem_map.mp (List.mem_of_getElem? hx)
        refine ⟨_, rfl, _, _, rfl, rfl, .inl ⟨by omega, by omega⟩, _, rfl, .inl ⟨z, rfl, _, _, rfl, rfl, (by show (0 : Int) < _; decide), _, _, rfl, rfl, _, _, rfl, rfl, _, _, rfl, rfl, (by show (0 : Int) < _; decide), ?_⟩⟩
        exact ⟨_, _, rfl, rfl, Int.emod_nonneg _ (by decide), Int.emod_lt_of_pos _ (by decide)⟩
      · rintro σ H3 ⟨y, sd, rfl, rfl, g1, g2⟩
        refine ⟨_, rfl, _, rfl, (by show 4 ≤ sizeLine; decide), fun b nb => ?_⟩
        refine q _ b D (sm.trans (same_new nb)) (sm.free nb) ⟨ms, 0, 0, sd, upd_same, ?_, by omega, by omega, g1, g2⟩
        rw [upd_ne (ne_of_none hD nb)]
        exact hD
end
end KA
set_option maxRecDepth 100000
set_option maxHeartbeats 2000000
namespace KA
open PySem PySem.Spec PyProof.Rows L2
/-! ### the mirror -/
def menu : List Nat := [97, 98, 109, 116, 120, 121, 122]
def sw (c : Nat) : Nat := if 65 ≤ c ∧ c ≤ 90 then c + 32 else if 97 ≤ c ∧ c ≤ 122 then c - 32 else c
def opp (w : List Nat) : List Nat := w.reverse.map sw
def sg (L : List Nat) : List Nat := L.flatMap fun c => [c, c - 32]
def stp (f : List Nat) (c : Nat) : List Nat := if f.getLast? = some (sw c) then f.dropLast else f ++ [c]
def sh (w : List Nat) : List Nat := w.foldl stp []
def Asc (w : List Nat) : Prop := ∀ c ∈ w, c < 128
def Lt (L : List Nat) : Prop := (L.length ≤ 100 ∧ L.Nodup) ∧ ∀ c ∈ L, 97 ≤ c ∧ c ≤ 122
theorem menu_lo : ∀ c ∈ menu, 97 ≤ c ∧ c ≤ 122 := by decide
theorem menu_asc (c : Nat) (h : 97 ≤ c ∧ c ≤ 122) : c < 128 := by omega
theorem menu_up (c : Nat) (h : 97 ≤ c ∧ c ≤ 122) : up1 c = c - 32 := by
  unfold up1
  rw [if_pos h]
theorem sg_len (L : List Nat) : (sg L).length = 2 * L.length := by
  induction L with
  | nil => rfl
  | cons c r ih =>
    show ([c, c - 32] ++ sg r).length = 2 * (r.length + 1)
    rw [List.length_append, ih]
    simp only [List.length_cons, List.length_nil]
    omega
theorem upper1 {c : Nat} (h : c < 128) : Txt.upper (SX.S [c]) = SX.S [up1 c] := by
  have e := upper_ascii (x := SX.S [c]) (fun d hd => by
    have : d = c := by simpa using hd
    omega)
  rw [e]
  simp
theorem lower1 {c : Nat} (h : c < 128) : Txt.lower (SX.S [c]) = SX.S [lo1 c] := by
  have e := lower_ascii (x := SX.S [c]) (fun d hd => by
    have : d = c := by simpa using hd
    omega)
  rw [e]
  simp
theorem upperM {c : Nat} (h : 97 ≤ c ∧ c ≤ 122) : Txt.upper (SX.S [c]) = SX.S [c - 32] := by
  rw [upper1 (menu_asc c h), menu_up c h]
theorem isUpper_ascii : ∀ c, c < 128 → Unicode.isUpper c = decide (65 ≤ c ∧ c ≤ 90) := by decide +kernel
theorem isLower_ascii : ∀ c, c < 128 → Unicode.isLower c = decide (97 ≤ c ∧ c ≤ 122) := by decide +kernel
theorem swapS {w : List Nat} (hA : Asc w) : Txt.swapcase (SX.S w) = SX.S (w.map sw) := by
  unfold Txt.swapcase
  rw [placed_single (SX.S w) _ sw fun i c hc => ?_]
  · simp
  · have hc0 : w[i]? = some c := by simpa using hc
    have hlt := hA c (List.mem_of_getElem? hc0)
    have hc' : (SX.S w).cps[i]? = some c := by simpa using hc
    rw [isUpper_ascii c hlt, isLower_ascii c hlt]
    unfold sw
    by_cases h1 : 65 ≤ c ∧ c ≤ 90
    · rw [decide_eq_true h1, if_pos rfl, if_pos h1]
      unfold Unicode.lowerAt
      rw [hc']
      have hne : (c == 0x3A3) = false := by rw [beq_eq_false_iff_ne]; omega
      simp only [hne, Bool.false_and, Bool.false_eq_true, if_false]
      rw [lowerOf_ascii c hlt]
      unfold lo1
      rw [if_pos h1]
    · rw [decide_eq_false h1, if_neg Bool.false_ne_true, if_neg h1]
      by_cases h2 : 97 ≤ c ∧ c ≤ 122
      · rw [decide_eq_true h2, if_pos rfl, if_pos h2, upperOf_ascii c hlt]
        unfold up1
        rw [if_pos h2]
      · rw [decide_eq_false h2, if_neg Bool.false_ne_true, if_neg h2]
theorem rvS (w : List Nat) : Rs.rv (SX.S w) = SX.S w.reverse := by
  unfold Rs.rv
  simp
theorem oppS {w : List Nat} (hA : Asc w) : Txt.swapcase (Rs.rv (SX.S w)) = SX.S (opp w) := by
  rw [rvS, swapS (fun c hc => hA c (List.mem_reverse.mp hc))]
  rfl
theorem sw_sw (c : Nat) : sw (sw c) = c := by
  unfold sw
  repeat' split
  all_goals omega
theorem sw_lt {c : Nat} (h : c < 128) : sw c < 128 := by
  unfold sw
  repeat' split
  all_goals omega
def Red (f : List Nat) : Prop := ∀ (a b : List Nat) (x y : Nat), f = a ++ x :: y :: b → x ≠ sw y
theorem red_nil : Red [] := fun a b x y e => by cases a <;> cases e
theorem red_stp {f : List Nat} (h : Red f) (c : Nat) : Red (stp f c) := by
  unfold stp
  split
  · intro a b x y e
    rcases List.eq_nil_or_concat f with rfl | ⟨g, z, rfl⟩
    · cases a <;> cases e
    · have e' : (g ++ [z]).dropLast = a ++ x :: y :: b := by simpa using e
      rw [List.dropLast_concat] at e'
      exact h a (b ++ [z]) x y (by rw [e']; simp)
  · rename_i hl
    intro a b x y e
    rcases List.eq_nil_or_concat b with rfl | ⟨b', z, rfl⟩
    · have e3 : f ++ [c] = (a ++ [x]) ++ [y] := by rw [e]; simp
      have e4 := List.append_inj' e3 rfl
      have e5 : c = y := by simpa using e4.2
      intro hxy
      apply hl
      rw [e4.1, List.getLast?_append]
      rw [e5, hxy]
      rfl
    · have e3 : f ++ [c] = (a ++ x :: y :: b') ++ [z] := by rw [e]; simp
      have e4 := List.append_inj' e3 rfl
      exact h a b' x y e4.1
theorem stp_stp {f : List Nat} (h : Red f) (c : Nat) : stp (stp f c) (sw c) = f := by
  unfold stp
  rw [sw_sw]
  by_cases hl : f.getLast? = some (sw c)
  · rw [if_pos hl]
    obtain ⟨g, rfl⟩ := List.getLast?_eq_some_iff.mp hl
    rw [List.dropLast_concat]
    have hn : ¬ (g.getLast? = some c) := by
      intro hg
      obtain ⟨g', rfl⟩ := List.getLast?_eq_some_iff.mp hg
      exact h g' [] c (sw c) (by simp) (sw_sw c).symm
    rw [if_neg hn]
  · rw [if_neg hl, if_pos (by simp)]
    simp
theorem foldl_red {f : List Nat} (h : Red f) : ∀ w : List Nat, Red (w.foldl stp f) := by
  intro w
  induction w generalizing f with
  | nil => exact h
  | cons c r ih => exact ih (red_stp h c)
theorem fold_opp {f : List Nat} (h : Red f) (w : List Nat) : (w ++ opp w).foldl stp f = f := by
  induction w generalizing f with
  | nil => rfl
  | cons c r ih =>
    have e : (c :: r) ++ opp (c :: r) = c :: ((r ++ opp r) ++ [sw c]) := by
      unfold opp
      simp
    rw [e, List.foldl_cons, List.foldl_append, ih (red_stp h c)]
    exact stp_stp h c
theorem sh_opp (w : List Nat) : sh (w ++ opp w) = [] := fold_opp red_nil w
theorem sh_more {w : List Nat} {i : Nat} {c : Nat} (h : w[i]? = some c) : sh (w.take (i + 1)) = stp (sh (w.take i)) c := by
  unfold sh
  rw [take_more h, List.foldl_append]
  rfl
theorem stp_mem {f : List Nat} {c x : Nat} (h : x ∈ stp f c) : x ∈ f ∨ x = c := by
  unfold stp at h
  split at h
  · exact .inl (List.dropLast_subset _ h)
  · rcases List.mem_append.mp h with z | z
    · exact .inl z
    · exact .inr (by simpa using z)
theorem sh_mem {w : List Nat} {x : Nat} (h : x ∈ sh w) : x ∈ w := by
  have key : ∀ (w f : List Nat), x ∈ w.foldl stp f → x ∈ f ∨ x ∈ w := by
    intro w
    induction w with
    | nil => exact fun f h => .inl h
    | cons c r ih =>
      intro f h
      rcases ih _ h with z | z
      · rcases stp_mem z with z | z
        · exact .inl z
        · exact .inr (by rw [z]; exact List.mem_cons_self ..)
      · exact .inr (List.mem_cons_of_mem _ z)
  rcases key w [] h with z | z
  · cases z
  · exact z
theorem stp_len (f : List Nat) (c : Nat) : (stp f c).length ≤ f.length + 1 := by
  unfold stp
  split
  · rw [List.length_dropLast]; omega
  · rw [List.length_append]; simp
theorem sh_len (w : List Nat) : (sh w).length ≤ w.length := by
  have key : ∀ (w f : List Nat), (w.foldl stp f).length ≤ f.length + w.length := by
    intro w
    induction w with
    | nil => exact fun f => Nat.le_refl _
    | cons c r ih =>
      intro f
      have := ih (stp f c)
      have := stp_len f c
      simp only [List.foldl_cons, List.length_cons]
      omega
  have z := key w []
  unfold sh
  simpa using z
theorem mem_in {w : List Nat} {c : Nat} {L : List Nat} : inV (tx [c]) (L.map fun d => tx [d]) = decide (c ∈ L) := by
  unfold inV
  induction L with
  | nil => rfl
  | cons d r ih =>
    rw [List.map_cons, List.any_cons, ih]
    show ((SX.S [d] == SX.S [c]) || _) = _
    rw [SX.S_beq_eq]
    by_cases h : d = c
    · subst h
      simp
    · have h2 : c ≠ d := fun e => h e.symm
      simp [h, h2]
theorem cut_last (l : List Nat) : cutS (SX.S l) none (some (-1)) = SX.S l.dropLast := by
  unfold cutS
  rw [HT.sIx_none, List.drop_zero, Nat.sub_zero]
  have e : HT.sIx (SX.S l).length (SX.S l).length (some (-1)) = l.length - 1 := by
    rw [tx_len]
    show (if (-1 : Int) < 0 then ((-1 : Int) + (l.length : Int)).toNat else min (-1 : Int).toNat l.length) = l.length - 1
    rw [if_pos (by decide)]
    omega
  rw [e, List.dropLast_eq_take]
theorem at_last {α : Type} {l : List α} {x : α} (h : l.getLast? = some x) : atI l (-1) = some x := by
  have hne : l ≠ [] := fun z => by subst z; cases h
  have hl : 0 < l.length := List.length_pos_iff.mpr hne
  unfold atI ixN
  rw [if_neg (by decide), if_pos (by omega)]
  show l[_]? = some x
  rw [List.getLast?_eq_getElem?] at h
  rw [← h]
  congr 1
  omega
end KA
set_option maxRecDepth 100000
set_option maxHeartbeats 2000000
namespace KA
open PySem PySem.Spec PyProof.Rows L2
theorem asc_le {w : List Nat} (h : w.length ≤ 1000) : (SX.S w).length ≤ sizeLine := by
  rw [tx_len]
  exact Nat.le_of_lt (small1000 h)
theorem asc_le2 {w : List Nat} (h : w.length ≤ 1000) : (SX.S w).length ≤ 5592405 := by
  rw [tx_len]
  omega
theorem asc1 {c : Nat} : (SX.S [c]).length ≤ 5592405 := asc_le2 (w := [c]) (by show 1 ≤ 1000; decide)
section
variable {P : Program} {w : World} {K : PySem.W.Frag} {mg : Str → Option Value} {base : Heap}
/-! opposite -/
def spOpp : Sp := fun vs H Q _ => ∃ l : List Nat, vs = [tx l] ∧ l.length ≤ 1000 ∧ Asc l ∧ Q (tx (opp l)) H
theorem ok_opp {f : Addr} {fd : FuncData} {k : Nat} (F : Fun K "opposite" "opposite" sOpp f fd) : FnOk P w K mg base CX0 (k + 1) f fd ["word"] spOpp := by
  refine F.ok scOpp (fun vs H Q E h => ?_) (fun cdv A outer s H vs Q E hr h => ?_)
  · obtain ⟨l, rfl, _⟩ := h
    rfl
  · obtain ⟨l, rfl, hl, hA, q⟩ := h
    refine ⟨_, pss_one (ps_ret (pe_m0 PySem.F.slot_str_swapcase PySem.F.type_str_swapcase Rs.m_swapcase (Rs.e_revS (pv 0)))), ?_⟩
    refine ⟨_, rfl, _, rfl, asc_le hl, ⟨_, rfl⟩, _, rfl, rfl, ?_, ?_⟩
    · rw [rvS]
      exact asc_le2 (by rw [List.length_reverse]; exact hl)
    · rw [oppS hA]
      exact q
/-! _law_back -/
/-! _law_signs -/
def spSigns : Sp := fun vs H Q _ => ∃ L : List Nat, vs = [tx L] ∧ Lt L ∧ ∀ H', Same H H' → Q (tx (sg L)) H'
theorem ok_signs {f : Addr} {fd : FuncData} {k : Nat} (F : Fun K "_law_signs" "_law_signs" sSigns f fd) : FnOk P w K mg base CX0 (k + 1) f fd ["_law_letters_here"] spSigns := by
  refine F.ok scSigns (fun vs H Q E h => ?_) (fun cdv A outer s H vs Q E hr h => ?_)
  · obtain ⟨l, rfl, _⟩ := h
    rfl
  · obtain ⟨L, rfl, hL, q⟩ := h
    refine ⟨_, pss_one (ps_ret (pe_join pe_str (pe_lc (own := [("_law_letter", 1)]) (g := gName 1) (tt := tYes) rfl scSigns.nd (pi_str (pv 0))
      (blkOk_by (N := ["_law_letters_here", "_law_letter"]) (sc := defScope sSigns) (by decide +kernel)) (fun _ _ _ _ _ => pg_name (i := 1) scSigns.nd rfl (Or.inl rfl)) (fun _ _ _ _ _ => pts_nil)
      (fun _ _ _ _ _ => pe_op op_add_str (pv 1) (pe_upper (pv 1)))))), ?_⟩
    refine ⟨⟨_, rfl⟩, _, rfl, _, rfl, fun D nD => ?_⟩
    refine lc_pure (walk_txt L) (σ := [some (tx L), none]) (i := 1) (fun v => match v with | .str z => .str (z ++ Txt.upper z) | v => v) (fun _ => true) (by rw [List.length_map]; exact small1000 (by have := hL.1; omega)) nD (fun _ _ => trivial) (fun x H2 Q _ _ h => h) ?_ ?_
    · intro x H2 Q hx _ _ h
      obtain ⟨c, hc, rfl⟩ := List.mem_map.mp hx
      refine ⟨_, rfl, _, rfl, ⟨_, rfl⟩, _, rfl, rfl, asc1, _, _, rfl, rfl, ?_, h H2 (Same.refl _)⟩
      rw [upperM (hL.2 c hc), tx_len, tx_len]
      show 2 ≤ sizeLine
      decide
    · intro H2 s2 hD
      refine ⟨_, D, (L.map fun c => [c, c - 32]).map SX.S, rfl, rfl, .inl (SqL.of ?_), ?_, ?_⟩
      · rw [hD]
        congr 2
        rw [List.filter_eq_self.mpr (by simp), List.map_map, List.map_map, List.map_map]
        refine List.map_congr_left fun c hc => ?_
        show V.str (SX.S [c] ++ Txt.upper (SX.S [c])) = V.str (SX.S [c, c - 32])
        rw [upperM (hL.2 c hc), SX.S_cat]
        rfl
      · rw [SX.lens, List.map_map]
        have e : ((List.length ∘ fun c => [c, c - 32]) : Nat → Nat) = fun _ => 2 := rfl
        have e3 : ∀ l : List Nat, (l.map fun _ => 2).sum = l.length * 2 := by
          intro l
          induction l with
          | nil => rfl
          | cons a r ih => rw [List.map_cons, List.sum_cons, ih, List.length_cons]; omega
        rw [e, e3]
        have h0 : (Str.ofString "").length = 0 := by decide
        rw [h0]
        have := hL.1
        simp only [Nat.mul_zero, Nat.add_zero]
        omega
      · have e := SX.join_S [] (L.map fun c => [c, c - 32])
        have e0 : (Str.ofString "") = SX.S [] := by decide
        rw [e0, e, joinNil]
        exact q H2 s2
end
end KA
set_option maxRecDepth 100000
set_option maxHeartbeats 2000000
namespace KA
open PySem PySem.Spec PyProof.Rows L2
theorem e0S : (Str.ofString "") = SX.S [] := by decide
theorem joinS (ys : List (List Nat)) : Txt.join (Str.ofString "") (ys.map SX.S) = SX.S ys.flatten := by
  rw [e0S, SX.join_S, joinNil]
theorem single_flat (w : List Nat) : (w.map fun c => [c]).flatten = w := by
  induction w with
  | nil => rfl
  | cons c r ih =>
    show [c] ++ (r.map fun c => [c]).flatten = c :: r
    rw [ih]
    rfl
theorem single_sum (w : List Nat) : (((w.map fun c => [c]).map SX.S).map (·.length)).sum = w.length := by
  rw [SX.lens, List.map_map]
  induction w with
  | nil => rfl
  | cons c r ih =>
    rw [List.map_cons, List.sum_cons, ih, List.length_cons]
    show 1 + r.length = _
    omega
theorem len0 : (Str.ofString "").length = 0 := by decide
section
variable {P : Program} {w : World} {K : PySem.W.Frag} {mg : Str → Option Value} {base : Heap}
/-- ''.join of single signs -/
theorem join_signs {X : Cx} {H : Hp} {D : Addr} {l : List Nat} {Q : VK} (hl : l.length ≤ 1000) (hD : H D = some (.lst (l.map fun c => tx [c]))) (q : Q (tx l) H) :
    ∃ a p, ∃ ys : List Str, V.str (Str.ofString "") = .str a ∧ [V.ref D] = [.ref p] ∧ (SqL K H p (ys.map V.str) ∨ SqT K H p (ys.map V.str)) ∧ (ys.map (·.length)).sum + ys.length * a.length ≤ 16777216 ∧ Q (.str (Txt.join a ys)) H := by
  refine ⟨_, D, (l.map fun c => [c]).map SX.S, rfl, rfl, .inl (SqL.of ?_), ?_, ?_⟩
  · rw [hD, List.map_map, List.map_map]
    rfl
  · rw [single_sum, len0]
    omega
  · rw [joinS, single_flat]
    exact q
/-! _law_gone_back -/
/-! _law_short -/
end
end KA
set_option maxRecDepth 100000
set_option maxHeartbeats 2000000
namespace KA
open PySem PySem.Spec PyProof.Rows L2
def one (c : Nat) : V := tx [c]
def cn (l L : List Nat) : List V := L.map fun c => .int (Txt.count (SX.S l) (SX.S [c]) - Txt.count (SX.S l) (SX.S [c - 32]))
section
variable {P : Program} {w : World} {K : PySem.W.Frag} {mg : Str → Option Value} {base : Heap}
/-! shortened -/
/-! _law_number_of -/
end
end KA
set_option maxRecDepth 100000
set_option maxHeartbeats 2000000
namespace KA
open PySem PySem.Spec PyProof.Rows L2
theorem sg_nodup : ∀ {L : List Nat}, L.Nodup → (∀ c ∈ L, 97 ≤ c ∧ c ≤ 122) → (sg L).Nodup
  | [], _, _ => List.nodup_nil
  | c :: L, hn, hm => by
    have hr : ∀ d ∈ c :: L, 97 ≤ d ∧ d ≤ 122 := hm
    have ih := sg_nodup (List.nodup_cons.mp hn).2 fun d hd => hm d (List.mem_cons_of_mem _ hd)
    have hc := hr c List.mem_cons_self
    have e : sg (c :: L) = c :: (c - 32) :: sg L := rfl
    have mem : ∀ x, x ∈ sg L → ∃ d ∈ L, x = d ∨ x = d - 32 := fun x hx => by
      unfold sg at hx
      obtain ⟨d, hd, h⟩ := List.mem_flatMap.mp hx
      exact ⟨d, hd, by simpa using h⟩
    rw [e, List.nodup_cons, List.nodup_cons]
    refine ⟨fun h => ?_, fun h => ?_, ih⟩
    · rcases List.mem_cons.mp h with z | z
      · omega
      · obtain ⟨d, hd, y⟩ := mem c z
        have := hr d (List.mem_cons_of_mem _ hd)
        rcases y with y | y
        · rw [y] at hn
          exact (List.nodup_cons.mp hn).1 hd
        · omega
    · obtain ⟨d, hd, y⟩ := mem _ h
      have := hr d (List.mem_cons_of_mem _ hd)
      rcases y with y | y
      · omega
      · have : c = d := by omega
        rw [this] at hn
        exact (List.nodup_cons.mp hn).1 hd
theorem sg_more {L : List Nat} {i c : Nat} (h : L[i]? = some c) : sg (L.take (i + 1)) = sg (L.take i) ++ [c, c - 32] := by
  unfold sg
  rw [take_more h, List.flatMap_append]
  simp
section
variable {P : Program} {w : World} {K : PySem.W.Frag} {mg : Str → Option Value} {base : Heap}
/-! signs_of -/
def spSof : Sp := fun vs H Q _ => ∃ L : List Nat, vs = [tx L] ∧ Lt L ∧ ∀ H' p, Same H H' → H p = none → H' p = some (.lst ((sg L).map one)) → Q (.ref p) H'
theorem ok_sof {f : Addr} {fd : FuncData} {k : Nat} (F : Fun K "signs_of" "signs_of" sSignsOf f fd) : FnOk P w K mg base CX0 (k + 1) f fd ["letters"] spSof := by
  refine F.ok scSignsOf (fun vs H Q E h => ?_) (fun cdv A outer s H vs Q E hr h => ?_)
  · obtain ⟨L, rfl, _⟩ := h
    rfl
  · obtain ⟨L, rfl, hL, q⟩ := h
    refine ⟨_, pss_one (ps_ret (pe_lc2 (own := [("letter", 1), ("sign", 2)]) (vs1 := [2]) (g := gName 1) (tt := tYes) (wi1 := iTup K (tTup (tCons (tVar 1) (tCons (tM0 (fun x xs H Q => ∃ a, x = .str a ∧ xs = [] ∧ a.length ≤ 5592405 ∧ Q (.str (Txt.upper a)) H) (tVar 1)) tNil)))) (g1 := gName 2) (tt1 := tYes) (te := tVar 2) rfl scSignsOf.nd (pi_str (pv 0))
      (blkOk_by (N := ["letters", "letter", "sign"]) (sc := defScope sSignsOf) (by decide +kernel)) (by decide) (fun _ _ _ _ _ => pg_name (i := 1) scSignsOf.nd rfl (Or.inl rfl)) (fun _ _ _ _ _ => pts_nil)
      (fun _ _ _ _ _ => pi_tup (pe_tup (pa_cons (pv 1) (pa_cons (pe_upper (pv 1)) pa_nil))))
      (fun _ _ _ _ _ => pg_name (i := 2) scSignsOf.nd rfl (Or.inl rfl)) (fun _ _ _ _ _ => pts_nil) (fun _ _ _ _ _ => pv 2))), ?_⟩
    refine ⟨_, rfl, _, rfl, fun D nD => ?_⟩
    refine ⟨fun i m H2 => m = L.length - i ∧ i ≤ L.length ∧ Same H H2 ∧ H2 D = some (.lst ((sg (L.take i)).map one)), ⟨_, rfl, Nat.zero_le _, same_new nD, upd_same⟩, ?_⟩
    rintro i m H2 ⟨rfl, hi, sm, hD⟩
    have w0 := walk_txt L
    by_cases hlt : i < L.length
    · have hlt' : i < (L.map fun c => tx [c]).length := by rw [List.length_map]; exact hlt
      refine .inr ⟨w0.goes i H2 hlt' trivial, fun H' => Same H H' ∧ H' D = some (.lst ((sg (L.take (i + 1))).map one)), fun H' h' => ⟨_, by omega, rfl, hlt, h'⟩, fun x H' y => ?_⟩
      obtain ⟨rfl, hx⟩ := w0.yields i H2 x H' hlt' trivial y
      rw [List.getElem?_map] at hx
      obtain ⟨c, hc⟩ : ∃ c, L[i]? = some c := ⟨_, List.getElem?_eq_getElem hlt⟩
      rw [hc] at hx
      obtain rfl : tx [c] = x := Option.some.inj hx
      have hcm := hL.2 c (List.mem_of_getElem? hc)
      refine ⟨rfl, ?_⟩
      dsimp only [tYes]
      rw [if_pos rfl]
      refine ⟨_, rfl, _, rfl, ⟨_, rfl⟩, _, rfl, rfl, asc1, (by show 2 ≤ sizeLine; decide), fun T nT => ?_⟩
      rw [upperM hcm]
      have hT : upd H' T (.tup [tx [c], tx [c - 32]]) T = some (.tup [one c, one (c - 32)]) := upd_same
      have sT : Same H' (upd H' T (.tup [tx [c], tx [c - 32]])) := same_new nT
      refine ⟨T, rfl, ⟨_, SqT.of hT⟩, ?_⟩
      have hll : (sg (L.take i)).length ≤ 200 := by
        rw [sg_len, List.length_take]
        have := hL.1
        omega
      refine ⟨fun j k H3 => k = 2 - j ∧ j ≤ 2 ∧ Same H H3 ∧ H3 T = some (.tup [one c, one (c - 32)]) ∧ H3 D = some (.lst ((sg (L.take i) ++ [c, c - 32].take j).map one)), ⟨_, rfl, by decide, sm.trans sT, hT, ?_⟩, ?_⟩
      · rw [sT _ _ hD]
        simp
      · rintro j k3 H3 ⟨rfl, hj, sm3, hT3, hD3⟩
        have w1 := walk_tup (K := K) (a := T) (xs := [one c, one (c - 32)])
        by_cases hj2 : j < 2
        · refine .inr ⟨w1.goes j H3 hj2 (SqT.of hT3), fun H' => Same H H' ∧ H' T = some (.tup [one c, one (c - 32)]) ∧ H' D = some (.lst ((sg (L.take i) ++ [c, c - 32].take (j + 1)).map one)), fun H' h' => ⟨_, by omega, rfl, hj2, h'⟩, fun x H4 y => ?_⟩
          obtain ⟨rfl, hx2⟩ := w1.yields j H3 x H4 hj2 (SqT.of hT3) y
          refine ⟨rfl, ?_⟩
          dsimp only
          rw [if_pos rfl]
          refine ⟨_, rfl, _, hD3, ?_, ?_, ?_, ?_⟩
          · rw [List.length_map, List.length_append]
            refine small1000 ?_
            have := List.length_take_le j [c, c - 32]
            have e2 : ([c, c - 32] : List Nat).length = 2 := rfl
            omega
          · intro b o e
            rw [upd_ne (ne_of_none e nD)]
            exact sm3 _ _ e
          · rw [upd_ne (ne_of hT3 hD3 (by intro z; cases z))]
            exact hT3
          · rw [upd_same]
            congr 2
            have hz : j = 0 ∨ j = 1 := by omega
            rcases hz with rfl | rfl
            · obtain rfl : one c = x := Option.some.inj hx2
              simp [one]
            · obtain rfl : one (c - 32) = x := Option.some.inj hx2
              simp [one]
        · have ej : j = 2 := by omega
          subst ej
          refine .inl ⟨w1.stops H3 (SqT.of hT3), sm3, ?_⟩
          rw [hD3, sg_more hc]
          rfl
    · have ei : i = L.length := by omega
      subst ei
      rw [List.take_length] at hD
      refine .inl ⟨?_, q H2 D sm nD hD⟩
      have z := w0.stops H2 trivial
      rw [List.length_map] at z
      exact z
/-! is_word -/
def isW (l L : List Nat) : Bool := l.all fun c => decide (c ∈ sg L)
def spIsW : Sp := fun vs H Q _ => ∃ l L : List Nat, vs = [tx l, tx L] ∧ l.length ≤ 1000 ∧ Lt L ∧ ∀ H', Same H H' → Q (.bl (isW l L)) H'
def nIn (l : List Nat) (v : V) : Int := match v with | .str z => Txt.count (SX.S l) z | _ => 0
theorem isW_sum {l L : List Nat} (hL : Lt L) : decide ((((sg L).map one).map (nIn l)).sum = (l.length : Nat)) = isW l L := by
  have e : ((sg L).map one).map (nIn l) = (sg L).map fun c => ((l.count c : Nat) : Int) := by
    rw [List.map_map]
    refine List.map_congr_left fun c _ => ?_
    show Txt.count (SX.S l) ⟨#[c]⟩ = _
    rw [Cnt.one]
  rw [e, Cnt.sumInt]
  have z := Cnt.all (sg_nodup hL.1.2 hL.2) l
  unfold isW
  rw [Bool.eq_iff_iff, decide_eq_true_eq, ← z]
  omega
theorem ok_isw {f fS : Addr} {fd fdS : FuncData} {k : Nat} (F : Fun K "is_word" "is_word" sIsWord f fd) (B : Bn mg) (FS : Fun K "signs_of" "signs_of" sSignsOf fS fdS) (bS : Binds K fdS ["letters"] []) (gS : mg "signs_of" = some (.ref fS)) :
    FnOk P w K mg base CX0 (k + 2) f fd ["word", "letters"] spIsW := by
  have GS : FnOk P w K mg base CX0 (k + 1) fS fdS ["letters"] spSof := ok_sof FS
  refine F.ok scIsWord (fun vs H Q E h => ?_) (fun cdv A outer s H vs Q E hr h => ?_)
  · obtain ⟨l, L, rfl, _⟩ := h
    rfl
  · obtain ⟨l, L, rfl, hl, hL, q⟩ := h
    refine ⟨_, pss_one (ps_ret (pe_cmpR op_eq (pe_callB (cr_sum rfl) (by rfl) B.sum boot_sum (pa_cons (pe_lc (own := [("sign", 2)]) (g := gName 2) (tt := tYes) rfl scIsWord.nd (pi_list (pe_call GS hr (by rfl) gS FS.kp bS .nil pass0 (pa_cons (pv 1) pa_nil)))
        (blkOk_by (N := ["word", "letters", "sign"]) (sc := defScope sIsWord) (by decide +kernel)) (fun _ _ _ _ _ => pg_name (i := 2) scIsWord.nd rfl (Or.inl rfl)) (fun _ _ _ _ _ => pts_nil)
        (fun _ _ _ _ _ => pe_m1 PySem.F.slot_str_count PySem.F.type_str_count mt_count (pv 0) (pv 2))) pa_nil)) (pe_callB call_len_str (by rfl) B.len PySem.boot_len (pa_cons (pv 0) pa_nil)) (nomark _))), ?_⟩
    refine ⟨_, rfl, L, rfl, hL, fun H1 p s1 np hp => ?_⟩
    refine ⟨p, rfl, ⟨_, SqL.of hp⟩, fun D nD => ?_⟩
    refine lc_pure (walk_list (K := K) (a := p) (xs := (sg L).map one)) (σ := [some (tx l), some (tx L), none]) (i := 2) (fun v => .int (nIn l v)) (fun _ => true) (by rw [List.length_map, sg_len]; exact small1000 (by have := hL.1.1; omega)) nD (fun H2 s2 => SqL.of (s2 _ _ hp)) (fun x H2 Q _ _ h => h) ?_ ?_
    · intro x H2 Q hx _ sm h
      obtain ⟨c, hc, rfl⟩ := List.mem_map.mp hx
      exact ⟨_, rfl, ⟨_, rfl⟩, _, rfl, _, _, rfl, rfl, h H2 (Same.refl _)⟩
    · intro H2 s2 hD
      refine ⟨D, ((sg L).map one).map (nIn l), rfl, SqL.of ?_, _, rfl, _, rfl, ?_, rfl, ?_⟩
      · rw [hD]
        congr 2
        rw [List.filter_eq_self.mpr (by simp), List.map_map, List.map_map, List.map_map]
        rfl
      · rw [tx_len]
        exact Nat.le_of_lt (small1000 hl)
      · have z := q H2 (s1.trans s2)
        rw [← isW_sum hL] at z
        have e : ∀ i j : Int, decide (V.int i = V.int j) = decide (i = j) := fun i j => by simp
        rw [tx_len, e]
        exact z
end
end KA
set_option maxRecDepth 100000
set_option maxHeartbeats 2000000
namespace KA
open PySem PySem.Spec PyProof.Rows L2
/-! list(text) -/
theorem vals_signs : ∀ (cs : List Nat) (us : List Value), cs.length = us.length → (∀ (j : Nat) (c : Nat) (v : Value), cs[j]? = some c → us[j]? = some v → ∃ t, v = .str ⟨#[c]⟩ t) → Vals (cs.map one) us
  | [], [], _, _ => .nil
  | c :: cs, v :: us, hl, h => by
    refine .cons ?_ (vals_signs cs us (by simpa using hl) fun j c' v' h1 h2 => h (j + 1) c' v' h1 h2)
    obtain ⟨t, e⟩ := h 0 c v rfl rfl
    rw [e]
    exact ⟨t, rfl⟩
theorem c_listS {X : Cx} (hc : X.calm = true) : CallR X (.type "list") (fun xs H Q => ∃ l : List Nat, xs = [tx l] ∧ l.length ≤ 1000 ∧ ∀ p, H p = none → Q (.ref p) (upd H p (.lst (l.map one)))) := by
  intro pins s σ H xs us Q I r h
  obtain ⟨l, rfl, hl, q⟩ := h
  obtain ⟨u, rfl, rx⟩ := vals1 r
  obtain ⟨t, rfl⟩ := rx
  have hsz : (SX.S l).cps.size ≤ sizeLine := asc_le hl
  refine PySem.call_list_str (I.ok.hd hc) (SX.S l) t (fun h' tk acc c' kp e it => ?_) hsz
  have hv : Vals (l.map one) acc.toList := by
    refine vals_signs l acc.toList ?_ fun j c v h1 h2 => ?_
    · have z := it.1
      simp only [List.size_toArray] at z
      have z2 : acc.toList.length = l.length := by simpa using z
      exact z2.symm
    · obtain ⟨c2, u, e1, e2⟩ := it.2 j v (by simpa using h2)
      have e3 : l[j]? = some c2 := by simpa using e1
      rw [h1] at e3
      cases e3
      exact ⟨u, e2⟩
  refine ⟨.ref s.heap.objs.size, _, I.laid (t' := tk) kp (Nat.le_refl _) (show ObjOk X.prog X.w _ h' _ (.lst (l.map one)) from ⟨by rw [List.length_map]; exact Nat.le_of_lt (small1000 hl), acc.toList, c', hv, by simpa using e⟩), rfl, q _ (I.hok.fresh (Nat.le_refl _))⟩
/-! the box goes on, all else stays, new things come -/
def BxGo (H H' : Hp) (b m : Addr) : Prop := Bx H' b m ∧ ∀ x o, x ≠ b → H x = some o → H' x = some o
theorem BxTo.go {H H' : Hp} {b m : Addr} (h : BxTo H H' b m) : BxGo H H' b m := ⟨h.1, fun x o hx e => (h.2 x hx).trans e⟩
theorem BxGo.trans {H H1 H2 : Hp} {b m : Addr} (x : BxGo H H1 b m) (y : BxGo H1 H2 b m) : BxGo H H2 b m := ⟨y.1, fun z o hz e => y.2 z o hz (x.2 z o hz e)⟩
theorem BxGo.refl {H : Hp} {b m : Addr} (x : Bx H b m) : BxGo H H b m := ⟨x, fun _ _ _ e => e⟩
theorem Bx.same {H H' : Hp} {b m : Addr} (x : Bx H b m) (s : Same H H') : Bx H' b m := by
  obtain ⟨ms, i, r, t, h1, h2, h3⟩ := x
  exact ⟨ms, i, r, t, s _ _ h1, s _ _ h2, h3⟩
theorem BxGo.of {H H' : Hp} {b m : Addr} (x : Bx H b m) (s : Same H H') : BxGo H H' b m := ⟨x.same s, fun z o _ e => s _ _ e⟩
theorem Bx.some {H : Hp} {b m : Addr} (x : Bx H b m) : ∃ o, H b = some o := by
  obtain ⟨ms, i, r, t, h1, _⟩ := x
  exact ⟨_, h1⟩
theorem Bx.ne {H : Hp} {b m p : Addr} (x : Bx H b m) (h : H p = none) : p ≠ b := fun e => by
  obtain ⟨o, z⟩ := x.some
  rw [← e, h] at z
  cases z
theorem Bx.neM {H : Hp} {b m p : Addr} (x : Bx H b m) (h : H p = none) : p ≠ m := fun e => by
  obtain ⟨ms, i, r, t, _, h1, _⟩ := x
  rw [← e, h] at h1
  cases h1
theorem Bx.upd {H : Hp} {b m p : Addr} {o : HO} (x : Bx H b m) (h1 : p ≠ b) (h2 : p ≠ m) : Bx (upd H p o) b m := by
  obtain ⟨ms, i, r, t, e1, e2, e3⟩ := x
  exact ⟨ms, i, r, t, by rw [upd_ne (Ne.symm h1)]; exact e1, by rw [upd_ne (Ne.symm h2)]; exact e2, e3⟩
/-- behind a step of the box a new thing stands -/
theorem BxGo.at {H H' : Hp} {b m p : Addr} {o : HO} (x : BxGo H H' b m) (hp : p ≠ b) (h : H p = some o) : H' p = some o := x.2 p o hp h
/-- an address that is new behind was new ahead -/
theorem BxGo.free {H H' : Hp} {b m p : Addr} (x : BxGo H H' b m) (h : H' p = none) : H p = none := by
  have hne := x.1.ne h
  cases e : H p with
  | none => rfl
  | some o => rw [x.2 p o hne e] at h; cases h
theorem menuS : Str.ofString "abmtxyz" = SX.S menu := by decide
theorem left_ne {F : List Nat} (h : F.length ≤ 2) : menu.filter (fun c => !decide (c ∈ F)) ≠ [] := by
  intro e
  have k : ∀ c ∈ menu, c ∈ F := fun c hc => by
    have z := List.filter_eq_nil_iff.mp e c hc
    simpa using z
  have k1 := k 97 (by decide)
  have k2 := k 98 (by decide)
  have k3 := k 109 (by decide)
  match F, h with
  | [], _ => cases k1
  | [a], _ =>
    have e1 : 97 = a := by simpa using k1
    have e2 : 98 = a := by simpa using k2
    omega
  | [a, c], _ =>
    have e1 : 97 = a ∨ 97 = c := by simpa using k1
    have e2 : 98 = a ∨ 98 = c := by simpa using k2
    have e3 : 109 = a ∨ 109 = c := by simpa using k3
    omega
section
variable {P : Program} {w : World} {K : PySem.W.Frag} {mg : Str → Option Value} {base : Heap}
/-! _law_letters -/
def spLet : Sp := fun vs H Q _ => ∃ (b m : Addr) (n : Nat), vs = [.ref b, .int n] ∧ Bx H b m ∧ 1 ≤ n ∧ n ≤ 3 ∧ ∀ L H', (L.length = n ∧ L.Nodup) → (∀ c ∈ L, c ∈ menu) → BxGo H H' b m → Q (tx L) H'
theorem ok_let {f fA : Addr} {fd fdA : FuncData} {k : Nat} (F : Fun K "_law_letters" "_law_letters" sLetters f fd) (B : Bn mg) (GA : FnOk P w K mg base CX0 (k + 2) fA fdA ["_law_box", "_law_some"] spAny) (kA : PySem.W.keepIn K (.ref fA) = true) (bA : Binds K fdA ["_law_box", "_law_some"] []) (gA : mg "_law_any" = some (.ref fA)) :
    FnOk P w K mg base CX0 (k + 3) f fd ["_law_box", "_law_many"] spLet := by
  refine F.ok scLetters (fun vs H Q E h => ?_) (fun cdv A outer s H vs Q E hr h => ?_)
  · obtain ⟨b, m, n, rfl, _⟩ := h
    rfl
  · obtain ⟨b, m, n, rfl, hB, h1, h3, q⟩ := h
    refine ⟨_, pss_cons (ps_set (i := 2) scLetters.nd rfl (.inr rfl) pe_str)
      (pss_cons (ps_for PassesOwn.never rfl (pi_range1 (by rfl) B.range (pa_cons (pv 1) pa_nil)) (pg_name (i := 3) scLetters.nd rfl (Or.inl rfl))
        (pss_cons (ps_setLc (i := 4) (own := [("_law_letter", 5)]) (g := gName 5) (tt := tTest (tOp (fun x y H Q => ∃ (c : Nat) (z : Str), x = .str ⟨#[c]⟩ ∧ y = .str z ∧ Q (.bl (!decide (c ∈ z.cps.toList))) H) (tVar 5) (tVar 2))) (te := tVar 5) rfl scLetters.nd rfl rfl (sw_true rfl rfl rfl (by decide +kernel)) (pi_str pe_str)
          (blkOk_by (N := ["_law_box", "_law_many", "_law_found", "_law_k", "_law_left", "_law_letter"]) (sc := defScope sLetters) (by decide +kernel)) (fun _ _ _ _ _ => pg_name (i := 5) scLetters.nd rfl (Or.inl rfl)) (fun _ _ _ _ _ => pts_one (pt_cmpR op_notIn_sign (pv 5) (pv 2) (by rfl)))
          (fun _ _ _ _ _ => pv 5))
        (pss_one (ps_set (i := 2) scLetters.nd rfl (.inr rfl) (pe_op op_add_str (pv 2) (pe_call GA hr (by rfl) gA kA bA .nil pass0 (pa_cons (pv 0) (pa_cons (pv 4) pa_nil))))))))
      (pss_one (ps_ret (pv 2)))), ?_⟩
    refine ⟨_, rfl, (n : Int), rfl, by omega, by omega, ?_⟩
    refine for_it (walk_range (lo := 0) (n := (n : Int).toNat)) (fun i σ H2 => ∃ (Fd : List Nat) (y3 y4 : Option V), σ = [some (.ref b), some (.int n), some (tx Fd), y3, y4, none] ∧ (Fd.length = i ∧ Fd.Nodup) ∧ (∀ c ∈ Fd, c ∈ menu) ∧ BxGo H H2 b m)
      ⟨[], none, none, ?_, ⟨rfl, List.nodup_nil⟩, (fun c hc => nomatch hc), .refl hB⟩ (fun _ _ _ _ _ => trivial) ?_ ?_
    · show [some (V.ref b), some (.int n), some (.str (Str.ofString "")), none, none, none] = _
      rw [e0S]
    · rintro i x σ H2 H2' hi ⟨Fd, y3, y4, rfl, ⟨hlen, hnd⟩, hmn, hgo⟩ ⟨rfl, rfl⟩
      refine ⟨_, rfl, fun D nD => ?_⟩
      rw [menuS]
      refine lc_pure (walk_txt menu) (σ := [some (.ref b), some (.int n), some (tx Fd), some (.int (0 + i)), y4, none]) (i := 5) id (fun v => match v with | .str z => !decide (z.cps.toList.headD 0 ∈ Fd) | _ => true) (by decide) nD (fun _ _ => trivial) ?_ ?_ ?_
      · intro x H3 Q hx _ h
        obtain ⟨c, hc, rfl⟩ := List.mem_map.mp hx
        exact ⟨_, rfl, _, rfl, c, _, rfl, rfl, _, rfl, by simpa using h⟩
      · intro x H3 Q hx _ _ h
        exact ⟨_, rfl, h H3 (Same.refl _)⟩
      · intro H3 s3 hD
        have bx3 : Bx H3 b m := hgo.1.same s3
        have hDb : D ≠ b := hgo.1.ne nD
        have eL : (((menu.map fun c => tx [c]).filter (fun v => match v with | .str z => !decide (z.cps.toList.headD 0 ∈ Fd) | _ => true)).map id) = (menu.filter (fun c => !decide (c ∈ Fd))).map one := by
          rw [List.map_id, List.filter_map]
          rfl
        rw [eL] at hD
        have hne := left_ne (F := Fd) (by rw [hlen]; omega)
        refine ⟨_, rfl, _, rfl, _, rfl, b, m, D, _, rfl, bx3, hD, hDb, (by simpa using hne), ?_, fun x H4 hx hT => ?_⟩
        · rw [List.length_map]
          have := List.length_filter_le (fun c => !decide (c ∈ Fd)) menu
          have e7 : menu.length = 7 := rfl
          omega
        · obtain ⟨c, hc, rfl⟩ := List.mem_map.mp hx
          have hcm : c ∈ menu := (List.mem_filter.mp hc).1
          refine ⟨_, _, rfl, rfl, ?_, Fd ++ [c], some (.int (0 + i)), some (.ref D), ?_, ?_, ?_, ?_⟩
          · rw [tx_len, tx_len]
            exact Nat.le_of_lt (small1000 (by simp; omega))
          · rw [SX.S_cat]
            rfl
          · refine ⟨by rw [List.length_append, hlen]; rfl, ?_⟩
            rw [List.nodup_append]
            refine ⟨hnd, List.nodup_cons.mpr ⟨by simp, List.nodup_nil⟩, fun a ha b hb e => ?_⟩
            have eb : b = c := by simpa using hb
            have hcF := (List.mem_filter.mp hc).2
            rw [e, eb] at ha
            simp [ha] at hcF
          · intro d hd
            rcases List.mem_append.mp hd with z | z
            · exact hmn d z
            · have e : d = c := by simpa using z
              rw [e]
              exact hcm
          · exact (hgo.trans (.of hgo.1 s3)).trans hT.go
    · rintro σ H2 ⟨Fd, y3, y4, rfl, ⟨hlen, hnd⟩, hmn, hgo⟩
      refine ⟨_, rfl, q Fd H2 ⟨?_, hnd⟩ hmn hgo⟩
      rw [hlen]
      omega
/-! _law_some_word -/
def spSome : Sp := fun vs H Q _ => ∃ (b m : Addr) (L : List Nat) (most : Nat), vs = [.ref b, tx L, .int most] ∧ Bx H b m ∧ Lt L ∧ L ≠ [] ∧ most ≤ 100 ∧ ∀ wd H', wd.length ≤ most → (∀ c ∈ wd, c ∈ sg L) → BxGo H H' b m → Q (tx wd) H'
theorem ok_some {f fA fD fS : Addr} {fd fdA fdD fdS : FuncData} {k : Nat} (F : Fun K "_law_some_word" "_law_some_word" sSome f fd) (B : Bn mg) (GA : FnOk P w K mg base CX0 (k + 2) fA fdA ["_law_box", "_law_some"] spAny) (kA : PySem.W.keepIn K (.ref fA) = true) (bA : Binds K fdA ["_law_box", "_law_some"] []) (gA : mg "_law_any" = some (.ref fA))
    (GD : FnOk P w K mg base CX0 (k + 1) fD fdD ["_law_box", "_law_many"] spDraw) (kD : PySem.W.keepIn K (.ref fD) = true) (bD : Binds K fdD ["_law_box", "_law_many"] []) (gD : mg "_law_draw" = some (.ref fD))
    (GS : FnOk P w K mg base CX0 (k + 1) fS fdS ["_law_letters_here"] spSigns) (kS : PySem.W.keepIn K (.ref fS) = true) (bS : Binds K fdS ["_law_letters_here"] []) (gS : mg "_law_signs" = some (.ref fS)) :
    FnOk P w K mg base CX0 (k + 3) f fd ["_law_box", "_law_letters_here", "_law_most"] spSome := by
  refine F.ok scSome (fun vs H Q E h => ?_) (fun cdv A outer s H vs Q E hr h => ?_)
  · obtain ⟨b, m, L, n, rfl, _⟩ := h
    rfl
  · obtain ⟨b, m, L, n, rfl, hB, hL, hne, hn, q⟩ := h
    have hr1 : Room (k + 1) (A.deeper (envOfC "_law_some_word" (defScope sSome) s.heap.objs.size f cdv)) := hr.mono (by omega)
    refine ⟨_, pss_cons (ps_set (i := 3) scSome.nd rfl (.inr rfl) (pe_call GS hr1 (by rfl) gS kS bS .nil pass0 (pa_cons (pv 1) pa_nil)))
      (pss_one (ps_ret (pe_join pe_str (pe_lc (own := [("_law_k", 4)]) (g := gName 4) (tt := tYes)
        (te := tCall spAny [] E0 (tCons (tVar 0) (tCons (tCB (fun xs H Q => ∃ l : List Nat, xs = [tx l] ∧ l.length ≤ 1000 ∧ ∀ p, H p = none → Q (.ref p) (upd H p (.lst (l.map one)))) (tCons (tVar 3) tNil)) tNil)))
        rfl scSome.nd (pi_range1 (by rfl) B.range (pa_cons (pe_call GD hr1 (by rfl) gD kD bD .nil pass0 (pa_cons (pv 0) (pa_cons (pe_op op_add (pv 2) pe_int) pa_nil))) pa_nil))
        (blkOk_by (N := ["_law_box", "_law_letters_here", "_law_most", "_law_signs_here", "_law_k"]) (sc := defScope sSome) (by decide +kernel)) (fun _ _ _ _ _ => pg_name (i := 4) scSome.nd rfl (Or.inl rfl)) (fun _ _ _ _ _ => pts_nil)
        (fun _ _ _ _ _ => pe_call GA hr (by rfl) gA kA bA .nil pass0 (pa_cons (pv 0) (pa_cons (pe_callTy (c_listS rfl) (by rfl) B.list boot_list (pa_cons (pv 3) pa_nil)) pa_nil))))))), ?_⟩
    refine ⟨_, rfl, L, rfl, hL, fun H1 s1 => ?_⟩
    refine ⟨⟨_, rfl⟩, _, rfl, _, rfl, _, _, rfl, rfl, b, m, _, rfl, hB.same s1, by omega, by omega, fun d H2 d0 d1 hT => ?_⟩
    refine ⟨d, rfl, by omega, by omega, fun D nD => ?_⟩
    have hDb : D ≠ b := hT.1.ne nD
    have hDm : D ≠ m := hT.1.neM nD
    have hgo : BxGo H H2 b m := (BxGo.of hB s1).trans hT.go
    have hn1 : H1 D = none := by rw [← hT.2 D hDb]; exact nD
    have hn0 : H D = none := s1.free hn1
    have hsl : (sg L).length ≤ 1000 := by rw [sg_len]; have := hL.1; omega
    refine lc_it (walk_range (lo := 0) (n := d.toNat)) (fun i H3 => ∃ wd : List Nat, wd.length = i ∧ (∀ c ∈ wd, c ∈ sg L) ∧ Bx H3 b m ∧ (∀ x o, x ≠ b → H x = some o → H3 x = some o) ∧ H3 D = some (.lst (wd.map one)))
      ⟨[], rfl, (fun c hc => nomatch hc), hgo.1.same (same_new nD), fun x o hx e => same_new nD _ _ (hgo.2 x o hx e), upd_same⟩ (fun _ _ _ _ => trivial) ?_ ?_
    · rintro i x H3 H3' hi ⟨wd, hl, hw, bx, kp, hD⟩ ⟨rfl, rfl⟩
      refine ⟨rfl, ?_⟩
      dsimp only [tYes]
      rw [if_pos rfl]
      refine ⟨_, rfl, _, rfl, sg L, rfl, hsl, fun p np => ?_⟩
      have sp : Same H3' (upd H3' p (.lst ((sg L).map one))) := same_new np
      refine ⟨b, m, p, _, rfl, bx.same sp, upd_same, bx.ne np, ?_, ?_, fun x H4 hx hT4 => ?_⟩
      · intro e
        have e2 := congrArg List.length e
        rw [List.length_map, sg_len] at e2
        have e3 : 0 < L.length := List.length_pos_iff.mpr hne
        have e4 : ([] : List V).length = 0 := rfl
        omega
      · rw [List.length_map]
        omega
      · obtain ⟨c, hc, rfl⟩ := List.mem_map.mp hx
        have hD4 : H4 D = some (.lst (wd.map one)) := (hT4.2 D hDb).trans (sp _ _ hD)
        have nDb : b ≠ D := fun e => hDb e.symm
        refine ⟨_, hD4, ?_, wd ++ [c], ?_, ?_, ?_, ?_, ?_⟩
        · rw [List.length_map, hl]
          exact small1000 (by omega)
        · rw [List.length_append, hl]
          rfl
        · intro e he
          rcases List.mem_append.mp he with z | z
          · exact hw e z
          · have z2 : e = c := by simpa using z
            rw [z2]
            exact hc
        · exact hT4.1.upd hDb hDm
        · intro x o hx e
          rw [upd_ne (ne_of_none e hn0)]
          rw [hT4.2 x hx]
          exact sp _ _ (kp x o hx e)
        · rw [upd_same, List.map_append]
          rfl
    · rintro H3 ⟨wd, hl, hw, bx, kp, hD⟩
      refine join_signs (X := (cxOf CX0 P w K mg base ["_law_box", "_law_letters_here", "_law_most", "_law_signs_here", "_law_k"] "_law_some_word" (defScope sSome) f cdv A outer s H E).nox) (l := wd) (by omega) hD (q wd H3 (by omega) hw ⟨bx, kp⟩)
end
end KA
set_option maxRecDepth 100000
set_option maxHeartbeats 2000000
namespace KA
open PySem PySem.Spec PyProof.Rows L2
def Flat (x : V) : Prop := (∃ i, x = .int i) ∨ (∃ z, x = .str z) ∨ (∃ b, x = .bl b)
/-- two values that bear the same data, at most n deep -/
def Eqd : Nat → Hp → V → V → Prop
  | 0, _, x, y => x = y ∧ Flat x
  | n + 1, H, x, y => (x = y ∧ Flat x) ∨ ∃ (p q : Addr) (xs ys : List V), x = .ref p ∧ y = .ref q ∧ xs.length = ys.length ∧ xs.length ≤ 1000 ∧
      ((H p = some (.lst xs) ∧ H q = some (.lst ys)) ∨ (H p = some (.tup xs) ∧ H q = some (.tup ys))) ∧ ∀ (i : Nat) (u v : V), xs[i]? = some u → ys[i]? = some v → Eqd n H u v
theorem Eqd.same {H H' : Hp} (s : Same H H') : ∀ {n : Nat} {x y : V}, Eqd n H x y → Eqd n H' x y := by
  intro n
  induction n with
  | zero => exact fun h => h
  | succ n ih =>
    rintro x y (h | ⟨p, q, xs, ys, e1, e2, e3, e4, e5, e6⟩)
    · exact .inl h
    · refine .inr ⟨p, q, xs, ys, e1, e2, e3, e4, ?_, fun i u v h1 h2 => ih (e6 i u v h1 h2)⟩
      rcases e5 with ⟨a, b⟩ | ⟨a, b⟩
      · exact .inl ⟨s _ _ a, s _ _ b⟩
      · exact .inr ⟨s _ _ a, s _ _ b⟩
theorem Eqd.flat {H : Hp} {x : V} {n : Nat} (h : Flat x) : Eqd n H x x := by
  cases n with
  | zero => exact ⟨rfl, h⟩
  | succ n => exact .inl ⟨rfl, h⟩
section
variable {P : Program} {w : World} {K : PySem.W.Frag} {mg : Str → Option Value} {base : Heap}
def spSame (n : Nat) : Sp := fun vs H Q _ => ∃ x y : V, vs = [x, y] ∧ Eqd n H x y ∧ ∀ H', Same H H' → Q (.bl true) H'
abbrev N3 : List Str := ["_law_found", "_law_due", "_law_k"]
theorem same_flat {f : Addr} {k : Nat} (B : Bn mg) {cdv : Value} {A : Around} {outer : List Env} {s : Shared} {H : Hp} {Q : VK} {E : XK} :
    ∃ t2, PSs (cxOf CX0 P w K mg base N3 "_law_same" (defScope sSame) f cdv A outer s H E).nox ((defBody sSame).drop 1) t2 ∧
      ∀ (x : V) (H' : Hp), Flat x → Q (.bl true) H' → t2 { nx := fun _ H' => Q .non H', rt := Q } [some x, some x, none] H' := by
  refine ⟨_, pss_cons (ps_if (PW.pt (pw_or (pt_cmpR op_isN (pv 1) pe_non (nomark _)) (pw_or1 (pt_cmpR op_isN (pv 0) pe_non (nomark _))))) pss_never pss_nil)
    (pss_cons (ps_if (PW.pt (pw_or
        (pt_cmpR op_ne (pe_callB call_isi (by rfl) B.isinst boot_isinstance (pa_cons (pv 1) (pa_cons (pe_bltn (v := .ty "bool") (by rfl) B.bool PyProof.Rows.boot_bool rfl) pa_nil))) (pe_callB call_isi (by rfl) B.isinst boot_isinstance (pa_cons (pv 0) (pa_cons (pe_bltn (v := .ty "bool") (by rfl) B.bool PyProof.Rows.boot_bool rfl) pa_nil))) (nomark _))
        (pw_or1 (pt_cmpR op_ne (pe_callB call_isi (by rfl) B.isinst boot_isinstance (pa_cons (pv 1) (pa_cons (pe_bltn (v := .ty "int") (by rfl) B.int PyProof.Rows.boot_int rfl) pa_nil))) (pe_callB call_isi (by rfl) B.isinst boot_isinstance (pa_cons (pv 0) (pa_cons (pe_bltn (v := .ty "int") (by rfl) B.int PyProof.Rows.boot_int rfl) pa_nil))) (nomark _))))) pss_never pss_nil)
    (pss_one (ps_ret (pe_and (pe_cmpR op_eq (pe_callB call_isi (by rfl) B.isinst boot_isinstance (pa_cons (pv 1) (pa_cons (pe_bltn (v := .ty "str") (by rfl) B.str PyProof.Rows.boot_str rfl) pa_nil))) (pe_callB call_isi (by rfl) B.isinst boot_isinstance (pa_cons (pv 0) (pa_cons (pe_bltn (v := .ty "str") (by rfl) B.str PyProof.Rows.boot_str rfl) pa_nil))) (nomark _))
      (pe_one (pe_cmpR op_eq (pv 0) (pv 1) (nomark _))))))), fun x H' hx q => ?_⟩
  rcases hx with ⟨i, rfl⟩ | ⟨z, rfl⟩ | ⟨b, rfl⟩
  · refine ⟨_, rfl, rfl, false, rfl, iteF ⟨_, rfl, rfl, false, rfl, iteF ?_⟩⟩
    refine ⟨_, rfl, _, _, _, _, false, rfl, .ty _, .base (.int i), kit_ty (by decide +kernel), _, rfl, _, _, _, _, false, rfl, .ty _, .base (.int i), kit_ty (by decide +kernel), rfl, false, rfl, iteF ?_⟩
    refine ⟨_, rfl, _, _, _, _, true, rfl, .ty _, .base (.int i), kit_ty (by decide +kernel), _, rfl, _, _, _, _, true, rfl, .ty _, .base (.int i), kit_ty (by decide +kernel), rfl, false, rfl, iteF ?_⟩
    refine ⟨_, rfl, _, _, _, _, false, rfl, .ty _, .base (.int i), kit_ty (by decide +kernel), _, rfl, _, _, _, _, false, rfl, .ty _, .base (.int i), kit_ty (by decide +kernel), rfl, true, rfl, iteT ?_⟩
    refine ⟨_, rfl, _, rfl, rfl, ?_⟩
    rw [decide_eq_true rfl]
    exact q
  · refine ⟨_, rfl, rfl, false, rfl, iteF ⟨_, rfl, rfl, false, rfl, iteF ?_⟩⟩
    refine ⟨_, rfl, _, _, _, _, false, rfl, .ty _, .base (.str z), kit_ty (by decide +kernel), _, rfl, _, _, _, _, false, rfl, .ty _, .base (.str z), kit_ty (by decide +kernel), rfl, false, rfl, iteF ?_⟩
    refine ⟨_, rfl, _, _, _, _, false, rfl, .ty _, .base (.str z), kit_ty (by decide +kernel), _, rfl, _, _, _, _, false, rfl, .ty _, .base (.str z), kit_ty (by decide +kernel), rfl, false, rfl, iteF ?_⟩
    refine ⟨_, rfl, _, _, _, _, true, rfl, .ty _, .base (.str z), kit_ty (by decide +kernel), _, rfl, _, _, _, _, true, rfl, .ty _, .base (.str z), kit_ty (by decide +kernel), rfl, true, rfl, iteT ?_⟩
    refine ⟨_, rfl, _, rfl, rfl, ?_⟩
    rw [decide_eq_true rfl]
    exact q
  · refine ⟨_, rfl, rfl, false, rfl, iteF ⟨_, rfl, rfl, false, rfl, iteF ?_⟩⟩
    refine ⟨_, rfl, _, _, _, _, true, rfl, .ty _, .base (.bl b), kit_ty (by decide +kernel), _, rfl, _, _, _, _, true, rfl, .ty _, .base (.bl b), kit_ty (by decide +kernel), rfl, false, rfl, iteF ?_⟩
    refine ⟨_, rfl, _, _, _, _, true, rfl, .ty _, .base (.bl b), kit_ty (by decide +kernel), _, rfl, _, _, _, _, true, rfl, .ty _, .base (.bl b), kit_ty (by decide +kernel), rfl, false, rfl, iteF ?_⟩
    refine ⟨_, rfl, _, _, _, _, false, rfl, .ty _, .base (.bl b), kit_ty (by decide +kernel), _, rfl, _, _, _, _, false, rfl, .ty _, .base (.bl b), kit_ty (by decide +kernel), rfl, true, rfl, iteT ?_⟩
    refine ⟨_, rfl, _, rfl, rfl, ?_⟩
    rw [decide_eq_true rfl]
    exact q
theorem ty2 {t : Value} {b1 b2 b : Bool} (h1 : PySem.W.kitOne K t (.type "list") = some b1) (h2 : PySem.W.kitOne K t (.type "tuple") = some b2) (hb : b = (b1 || b2)) : PySem.W.kitAny K t [.type "list", .type "tuple"] = some b := by
  subst hb
  refine kitAny_cons h1 (fun e => ?_) (fun e => by rw [e]; rfl)
  subst e
  show PySem.W.kitAny K t [.type "tuple"] = some b2
  exact kitAny_cons h2 (fun e2 => by rw [e2]; rfl) (fun e2 => e2)
theorem ok_same {f : Addr} {fd : FuncData} (F : Fun K "_law_same" "_law_same" sSame f fd) (B : Bn mg) (b0 : Binds K fd ["_law_found", "_law_due"] []) (g0 : mg "_law_same" = some (.ref f)) :
    ∀ n : Nat, FnOk P w K mg base CX0 (n + 1) f fd ["_law_found", "_law_due"] (spSame n) := by
  intro n
  induction n with
  | zero =>
    refine F.ok scSame (fun vs H Q E h => ?_) (fun cdv A outer s H vs Q E hr h => ?_)
    · obtain ⟨x, y, rfl, _⟩ := h
      rfl
    · obtain ⟨x, y, rfl, ⟨rfl, hx⟩, q⟩ := h
      obtain ⟨t2, P2, R2⟩ := same_flat (P := P) (w := w) (K := K) (base := base) (f := f) (k := 0) B (cdv := cdv) (A := A) (outer := outer) (s := s) (H := H) (Q := Q) (E := E)
      refine ⟨_, pss_cons (ps_if (pt_val (pe_callB call_isiT (by rfl) B.isinst boot_isinstance (pa_cons (pv 1) (pa_cons (pe_tup (pa_cons (pe_bltn (v := .ty "list") (by rfl) B.list PyProof.Rows.boot_list rfl) (pa_cons (pe_bltn (v := .ty "tuple") (by rfl) B.tuple PyProof.Rows.boot_tuple rfl) pa_nil))) pa_nil)))) pss_never pss_nil) P2, ?_⟩
      refine ⟨_, rfl, (by show 2 ≤ sizeLine; decide), fun T nT => ?_⟩
      have cl : Paired ClsV [V.ty "list", V.ty "tuple"] [.type "list", .type "tuple"] := .cons (.ty _) (.cons (.ty _) .nil)
      have fin := R2 x (upd H T (.tup [.ty "list", .ty "tuple"])) hx (q _ (same_new nT))
      rcases hx with ⟨i, rfl⟩ | ⟨z, rfl⟩ | ⟨b, rfl⟩
      · exact ⟨_, T, _, _, _, false, rfl, upd_same, cl, .base (.int i), ty2 (kit_ty (r := false) (by decide +kernel)) (kit_ty (r := false) (by decide +kernel)) rfl, _, rfl, iteF fin⟩
      · exact ⟨_, T, _, _, _, false, rfl, upd_same, cl, .base (.str z), ty2 (kit_ty (r := false) (by decide +kernel)) (kit_ty (r := false) (by decide +kernel)) rfl, _, rfl, iteF fin⟩
      · exact ⟨_, T, _, _, _, false, rfl, upd_same, cl, .base (.bl b), ty2 (kit_ty (r := false) (by decide +kernel)) (kit_ty (r := false) (by decide +kernel)) rfl, _, rfl, iteF fin⟩
  | succ n ih =>
    refine F.ok scSame (fun vs H Q E h => ?_) (fun cdv A outer s H vs Q E hr h => ?_)
    · obtain ⟨x, y, rfl, _⟩ := h
      rfl
    · obtain ⟨x, y, rfl, hE, q⟩ := h
      obtain ⟨t2, P2, R2⟩ := same_flat (P := P) (w := w) (K := K) (base := base) (f := f) (k := 0) B (cdv := cdv) (A := A) (outer := outer) (s := s) (H := H) (Q := Q) (E := E)
      refine ⟨_, pss_cons (ps_if (pt_val (pe_callB call_isiT (by rfl) B.isinst boot_isinstance (pa_cons (pv 1) (pa_cons (pe_tup (pa_cons (pe_bltn (v := .ty "list") (by rfl) B.list PyProof.Rows.boot_list rfl) (pa_cons (pe_bltn (v := .ty "tuple") (by rfl) B.tuple PyProof.Rows.boot_tuple rfl) pa_nil))) pa_nil))))
        (pss_cons (ps_if (PW.pt (pw_or
          (pt_cmpR op_ne (pe_callB call_isi (by rfl) B.isinst boot_isinstance (pa_cons (pv 0) (pa_cons (pe_bltn (v := .ty "list") (by rfl) B.list PyProof.Rows.boot_list rfl) pa_nil))) (pe_callB call_isi (by rfl) B.isinst boot_isinstance (pa_cons (pv 1) (pa_cons (pe_bltn (v := .ty "list") (by rfl) B.list PyProof.Rows.boot_list rfl) pa_nil))) (nomark _))
          (pw_or1 (pt_cmpR op_ne (pe_callB call_isi (by rfl) B.isinst boot_isinstance (pa_cons (pv 0) (pa_cons (pe_bltn (v := .ty "tuple") (by rfl) B.tuple PyProof.Rows.boot_tuple rfl) pa_nil))) (pe_callB call_isi (by rfl) B.isinst boot_isinstance (pa_cons (pv 1) (pa_cons (pe_bltn (v := .ty "tuple") (by rfl) B.tuple PyProof.Rows.boot_tuple rfl) pa_nil))) (nomark _))))) pss_never pss_nil)
        (pss_one (ps_ret (pe_and (pe_cmpR op_eq (pe_callB call_len_seq (by rfl) B.len PySem.boot_len (pa_cons (pv 0) pa_nil)) (pe_callB call_len_seq (by rfl) B.len PySem.boot_len (pa_cons (pv 1) pa_nil)) (nomark _))
          (pe_one (pe_callB (cr_all rfl) (by rfl) B.all boot_all (pa_cons (pe_lc (own := [("_law_k", 2)]) (g := gName 2) (tt := tYes)
            (te := tCall (spSame n) [] E0 (tCons (tOp (rIx K) (tVar 0) (tVar 2)) (tCons (tOp (rIx K) (tVar 1) (tVar 2)) tNil)))
            rfl scSame.nd (pi_range1 (by rfl) B.range (pa_cons (pe_callB call_len_seq (by rfl) B.len PySem.boot_len (pa_cons (pv 1) pa_nil)) pa_nil))
            (blkOk_by (N := N3) (sc := defScope sSame) (by decide +kernel)) (fun _ _ _ _ _ => pg_name (i := 2) scSame.nd rfl (Or.inl rfl)) (fun _ _ _ _ _ => pts_nil)
            (fun _ _ _ _ _ => pe_call ih hr (by rfl) g0 F.kp b0 .nil pass0 (pa_cons (pe_ix ix_seq (pv 0) (pv 2) (fun _ _ => rfl)) (pa_cons (pe_ix ix_seq (pv 1) (pv 2) (fun _ _ => rfl)) pa_nil)))) pa_nil))))))) pss_nil) P2, ?_⟩
      refine ⟨_, rfl, (by show 2 ≤ sizeLine; decide), fun T nT => ?_⟩
      have cl : Paired ClsV [V.ty "list", V.ty "tuple"] [.type "list", .type "tuple"] := .cons (.ty _) (.cons (.ty _) .nil)
      have sT : Same H (upd H T (.tup [.ty "list", .ty "tuple"])) := same_new nT
      rcases hE with ⟨rfl, hx⟩ | ⟨p, p2, xs, ys, rfl, rfl, hl, hl2, hp, hi⟩
      · have fin := R2 x (upd H T (.tup [.ty "list", .ty "tuple"])) hx (q _ sT)
        rcases hx with ⟨i, rfl⟩ | ⟨z, rfl⟩ | ⟨b, rfl⟩
        · exact ⟨_, T, _, _, _, false, rfl, upd_same, cl, .base (.int i), ty2 (kit_ty (r := false) (by decide +kernel)) (kit_ty (r := false) (by decide +kernel)) rfl, _, rfl, iteF fin⟩
        · exact ⟨_, T, _, _, _, false, rfl, upd_same, cl, .base (.str z), ty2 (kit_ty (r := false) (by decide +kernel)) (kit_ty (r := false) (by decide +kernel)) rfl, _, rfl, iteF fin⟩
        · exact ⟨_, T, _, _, _, false, rfl, upd_same, cl, .base (.bl b), ty2 (kit_ty (r := false) (by decide +kernel)) (kit_ty (r := false) (by decide +kernel)) rfl, _, rfl, iteF fin⟩
      · have hlen : (xs.length : Int) = (ys.length : Int) := by rw [hl]
        -- the list part, for lists and for tuples
        have key : ∀ H1, Same H H1 → (SqL K H1 p xs ∨ SqT K H1 p xs) → (SqL K H1 p2 ys ∨ SqT K H1 p2 ys) → (∀ H2, Same H1 H2 → (SqL K H2 p xs ∧ SqL K H2 p2 ys) ∨ (SqT K H2 p xs ∧ SqT K H2 p2 ys)) →
            tRet (tAndV (tOp rEq (tCB (fun xs H Q => ∃ p ys, xs = [.ref p] ∧ (SqL K H p ys ∨ SqT K H p ys) ∧ Q (.int ys.length) H) (tCons (tVar 0) tNil)) (tCB (fun xs H Q => ∃ p ys, xs = [.ref p] ∧ (SqL K H p ys ∨ SqT K H p ys) ∧ Q (.int ys.length) H) (tCons (tVar 1) tNil)))
              (tCB (rAll K) (tCons (tLc (iRng1 (tCons (tCB (fun xs H Q => ∃ p ys, xs = [.ref p] ∧ (SqL K H p ys ∨ SqT K H p ys) ∧ Q (.int ys.length) H) (tCons (tVar 1) tNil)) tNil)) (gName 2) tYes
                (tCall (spSame n) [] E0 (tCons (tOp (rIx K) (tVar 0) (tVar 2)) (tCons (tOp (rIx K) (tVar 1) (tVar 2)) tNil))) [2]) tNil))) { nx := fun _ H' => Q .non H', rt := Q } [some (.ref p), some (.ref p2), none] H1 := by
          intro H1 s1 hp1 hp2 hall
          refine ⟨_, rfl, p, xs, rfl, hp1, _, rfl, p2, ys, rfl, hp2, rfl, true, ?_, iteT ?_⟩
          · rw [hlen]
            exact congrArg V.bl (decide_eq_true rfl)
          · refine ⟨_, rfl, p2, ys, rfl, hp2, _, rfl, by omega, by omega, fun D nD => ?_⟩
            rw [show ((ys.length : Int)).toNat = ys.length by omega]
            refine lc_it (walk_range (lo := 0) (n := ys.length)) (fun i H2 => Same H1 H2 ∧ H2 D = some (.lst ((List.replicate i true).map V.bl))) ⟨same_new nD, upd_same⟩ (fun _ _ _ _ => trivial) ?_ ?_
            · rintro i x H2 H2' hi2 ⟨s2, hD⟩ ⟨rfl, rfl⟩
              refine ⟨rfl, ?_⟩
              dsimp only [tYes]
              rw [if_pos rfl]
              have hx : i < xs.length := by omega
              have gx : xs[i]? = some xs[i] := List.getElem?_eq_getElem hx
              have gy : ys[i]? = some ys[i] := List.getElem?_eq_getElem hi2
              have ei : (0 : Int) + (i : Int) = ((i : Nat) : Int) := by omega
              have ax : atI xs (0 + (i : Int)) = some xs[i] := by rw [ei]; exact atI_nat gx
              have ay : atI ys (0 + (i : Int)) = some ys[i] := by rw [ei]; exact atI_nat gy
              have eq := (hi i _ _ gx gy).same (s1.trans s2)
              have fin : ∀ H3, Same H2' H3 → ∃ acc, H3 D = some (.lst acc) ∧ acc.length < sizeLine ∧ (Same H1 (upd H3 D (.lst (acc ++ [.bl true]))) ∧ upd H3 D (.lst (acc ++ [.bl true])) D = some (.lst ((List.replicate (i + 1) true).map V.bl))) := by
                intro H3 s3
                refine ⟨_, s3 _ _ hD, ?_, ?_, ?_⟩
                · rw [List.length_map, List.length_replicate]
                  exact small1000 (by omega)
                · intro b o e
                  rw [upd_ne (ne_of_none e nD)]
                  exact s3 _ _ (s2 _ _ e)
                · rw [upd_same, List.replicate_succ', List.map_append]
                  rfl
              rcases hall H2' s2 with ⟨z1, z2⟩ | ⟨z1, z2⟩
              · exact ⟨_, rfl, _, rfl, .inl ⟨p, xs, _, _, rfl, rfl, z1, ax, _, rfl, _, rfl, .inl ⟨p2, ys, _, _, rfl, rfl, z2, ay, _, _, rfl, eq, fin⟩⟩⟩
              · exact ⟨_, rfl, _, rfl, .inr (.inl ⟨p, xs, _, _, rfl, rfl, z1, ax, _, rfl, _, rfl, .inr (.inl ⟨p2, ys, _, _, rfl, rfl, z2, ay, _, _, rfl, eq, fin⟩)⟩)⟩
            · rintro H2 ⟨s2, hD⟩
              refine ⟨D, List.replicate ys.length true, rfl, SqL.of hD, ?_⟩
              have e : (List.replicate ys.length true).all id = true := by
                rw [List.all_eq_true]
                intro b hb
                exact List.eq_of_mem_replicate hb
              rw [e]
              exact q H2 (s1.trans s2)
        rcases hp with ⟨h1, h2⟩ | ⟨h1, h2⟩
        · refine ⟨_, T, _, _, _, true, rfl, upd_same, cl, .base (.lst (sT _ _ h2)), ty2 (kit_ty (r := true) (by decide +kernel)) (kit_ty (r := false) (by decide +kernel)) rfl, _, rfl, iteT ?_⟩
          refine ⟨_, rfl, _, _, _, _, true, rfl, .ty _, .base (.lst (sT _ _ h1)), kit_ty (by decide +kernel), _, rfl, _, _, _, _, true, rfl, .ty _, .base (.lst (sT _ _ h2)), kit_ty (by decide +kernel), rfl, false, rfl, iteF ?_⟩
          refine ⟨_, rfl, _, _, _, _, false, rfl, .ty _, .base (.lst (sT _ _ h1)), kit_ty (by decide +kernel), _, rfl, _, _, _, _, false, rfl, .ty _, .base (.lst (sT _ _ h2)), kit_ty (by decide +kernel), rfl, false, rfl, iteF ?_⟩
          exact key _ sT (.inl (SqL.of (sT _ _ h1))) (.inl (SqL.of (sT _ _ h2))) fun H2 s2 => .inl ⟨SqL.of (s2 _ _ (sT _ _ h1)), SqL.of (s2 _ _ (sT _ _ h2))⟩
        · refine ⟨_, T, _, _, _, true, rfl, upd_same, cl, .base (.tup (sT _ _ h2)), ty2 (kit_ty (r := false) (by decide +kernel)) (kit_ty (r := true) (by decide +kernel)) rfl, _, rfl, iteT ?_⟩
          refine ⟨_, rfl, _, _, _, _, false, rfl, .ty _, .base (.tup (sT _ _ h1)), kit_ty (by decide +kernel), _, rfl, _, _, _, _, false, rfl, .ty _, .base (.tup (sT _ _ h2)), kit_ty (by decide +kernel), rfl, false, rfl, iteF ?_⟩
          refine ⟨_, rfl, _, _, _, _, true, rfl, .ty _, .base (.tup (sT _ _ h1)), kit_ty (by decide +kernel), _, rfl, _, _, _, _, true, rfl, .ty _, .base (.tup (sT _ _ h2)), kit_ty (by decide +kernel), rfl, false, rfl, iteF ?_⟩
          exact key _ sT (.inr (SqT.of (sT _ _ h1))) (.inr (SqT.of (sT _ _ h2))) fun H2 s2 => .inr ⟨SqT.of (s2 _ _ (sT _ _ h1)), SqT.of (s2 _ _ (sT _ _ h2))⟩
end
end KA
set_option maxRecDepth 100000
set_option maxHeartbeats 2000000
namespace KA
open PySem PySem.Spec PyProof.Rows L2
section
variable {P : Program} {w : World} {K : PySem.W.Frag} {mg : Str → Option Value} {base : Heap}
/-! check_words -/
/-! counts -/
def spCof : Sp := fun vs H Q _ => ∃ (l L : List Nat), vs = [tx l, tx L] ∧ Lt L ∧ ∀ H' p, Same H H' → H p = none → H' p = some (.tup (cn l L)) → Q (.ref p) H'
theorem ok_cof {f : Addr} {fd : FuncData} {k : Nat} (F : Fun K "counts_of" "counts_of" sCountsOf f fd) (B : Bn mg) : FnOk P w K mg base CX0 (k + 1) f fd ["word", "letters"] spCof := by
  refine F.ok scCountsOf (fun vs H Q E h => ?_) (fun cdv A outer s H vs Q E hr h => ?_)
  · obtain ⟨l, L, rfl, _⟩ := h
    rfl
  · obtain ⟨l, L, rfl, hL, q⟩ := h
    refine ⟨_, pss_one (ps_ret (pe_callTy call_tuple_of (by rfl) B.tuple boot_tuple (pa_cons (pe_lc (own := [("letter", 2)]) (g := gName 2) (tt := tYes) rfl scCountsOf.nd (pi_str (pv 1))
      (blkOk_by (N := ["word", "letters", "letter"]) (sc := defScope sCountsOf) (by decide +kernel)) (fun _ _ _ _ _ => pg_name (i := 2) scCountsOf.nd rfl (Or.inl rfl)) (fun _ _ _ _ _ => pts_nil)
      (fun _ _ _ _ _ => pe_op op_sub (pe_m1 PySem.F.slot_str_count PySem.F.type_str_count mt_count (pv 0) (pv 2)) (pe_m1 PySem.F.slot_str_count PySem.F.type_str_count mt_count (pv 0) (pe_upper (pv 2))))) pa_nil))), ?_⟩
    refine ⟨_, rfl, _, rfl, fun D nD => ?_⟩
    refine lc_pure (walk_txt L) (σ := [some (tx l), some (tx L), none]) (i := 2) (fun v => match v with | .str z => .int (Txt.count (SX.S l) z - Txt.count (SX.S l) (Txt.upper z)) | v => v) (fun _ => true) (by rw [List.length_map]; exact small1000 (by have := hL.1; omega)) nD (fun _ _ => trivial) (fun x H2 Q _ _ h => h) ?_ ?_
    · intro x H2 Q hx _ _ h
      obtain ⟨c, hc, rfl⟩ := List.mem_map.mp hx
      exact ⟨_, rfl, ⟨_, rfl⟩, _, rfl, _, _, rfl, rfl, _, rfl, ⟨_, rfl⟩, _, rfl, ⟨_, rfl⟩, _, rfl, rfl, asc1, _, _, rfl, rfl, _, _, rfl, rfl, h H2 (Same.refl _)⟩
    · intro H2 s2 hD
      refine ⟨D, _, rfl, .inl ⟨SqL.of hD, fun p2 np2 => ?_⟩⟩
      have e : ((L.map fun c => tx [c]).filter fun _ => true).map (fun v => match v with | .str z => .int (Txt.count (SX.S l) z - Txt.count (SX.S l) (Txt.upper z)) | v => v) = cn l L := by
        rw [List.filter_eq_self.mpr (by simp), List.map_map]
        refine List.map_congr_left fun c hc => ?_
        show V.int (Txt.count (SX.S l) (SX.S [c]) - Txt.count (SX.S l) (Txt.upper (SX.S [c]))) = _
        rw [upperM (hL.2 c hc)]
      rw [e]
      exact q _ p2 (s2.trans (same_new np2)) (s2.free np2) upd_same
end
end KA
set_option maxRecDepth 100000
set_option maxHeartbeats 1000000
/-! enumerate(text), an ASCII text -/
namespace Rs
open PySem PySem.Spec PyProof.Rows L2
def ItetS (x : Str) : It :=
  ⟨fun i _ => i < x.cps.size, fun i H v H' => ∃ T c, v = .ref T ∧ H T = none ∧ x.cps[i]? = some c ∧ H' = upd H T (.tup [.int (i : Nat), .str ⟨#[c]⟩]), fun i _ => x.cps.size ≤ i⟩
theorem turn_enumS {P : Program} {w : World} {K : PySem.W.Frag} {elts : List Expr} {kk : Nat} {tpos : Pos} (x : Str) (t : Tok) (e it : Addr) :
    Turn P w K (.Tuple elts kk tpos) (ItetS x) [e, it] e (fun i h => (∃ old, IsEnum h e it ((i : Nat) : Int) old) ∧ h.IsStrIter it "str_ascii_iterator" x t i ∧ e ≠ it) where
  mem := by simp
  obj := fun i h st b hb => by
    obtain ⟨⟨old, he⟩, ⟨o, ho, hc, hd⟩, _⟩ := st
    have e' : b = e ∨ b = it := by simpa using hb
    rcases e' with z | z
    · rw [z]; exact ⟨_, he, fun v q => nomatch q⟩
    · rw [z]; exact ⟨o, ho, fun v q => by rw [hd] at q; cases q⟩
  keep := fun i h h' st k => let ⟨⟨old, he⟩, ⟨o, ho, r⟩, hne⟩ := st; ⟨⟨old, k e (by simp) _ he⟩, ⟨o, k it (by simp) _ ho, r⟩, hne⟩
  item := by
    intro X hP hw hK hc i pins s σ H E I hf st hg
    subst hP hw hK
    obtain ⟨⟨old, he⟩, hit, hne⟩ := st
    have hel : e < s.heap.objs.size := Heap.lt_size he
    have hil : it < s.heap.objs.size := by obtain ⟨_, q, _⟩ := hit; exact Heap.lt_size q
    refine wpAny_pyNext_enum_itemD (Draws.strAscii (show X.A.in1.handled = none from I.ok.hd hc) it x t) he hit hg hne (by simp [hne]) fun x' h' tk hP ho hst hT hsz hk => ?_
    obtain ⟨c, u, hcx, rfl⟩ := hP
    refine ⟨_, rfl, wpAny_letOwnedTupleGo_enum (s := { s with heap := h', toks := tk + 1 }) ho fun h'' he' sb => ?_⟩
    have hT2 : h''.get? s.heap.objs.size = some { cls := .type "tuple", data := .seq #[.int i tk, .str ⟨#[c]⟩ u] } := (sb.2 _ (Nat.ne_of_gt hel)).trans hT
    have new : ObjOk X.prog X.w (upd H s.heap.objs.size (.tup [.int (i : Nat), .str ⟨#[c]⟩])) h'' s.heap.objs.size (.tup [.int (i : Nat), .str ⟨#[c]⟩]) :=
      ⟨by show 2 ≤ sizeLine; decide, [.int i tk, .str ⟨#[c]⟩ u], .cons ⟨_, rfl⟩ (.cons ⟨_, rfl⟩ .nil), ⟨_, hT2, rfl, _, rfl⟩⟩
    have I1 : Inv X pins σ (upd H s.heap.objs.size (.tup [.int (i : Nat), .str ⟨#[c]⟩])) { s with heap := h'', toks := tk + 1 } :=
      I.turnedNew (ch := [e, it]) (fun b ob hb q => (sb.2 b (fun z => hb (by simp [z]))).trans (hk b ob (fun z => hb (by simp [z])) (fun z => hb (by simp [z])) q)) hf (Nat.le_refl _) new
    obtain ⟨oi, hoi, ri⟩ := hst
    refine ⟨.ref s.heap.objs.size, _, I1, rfl, ⟨_, c, rfl, I.hok.fresh (Nat.le_refl _), hcx, rfl⟩, ⟨⟨.str ⟨#[c]⟩ u, ?_⟩, ⟨oi, (sb.2 it (Ne.symm hne)).trans hoi, ri⟩, hne⟩, fun b hb => ?_⟩
    · have e1 : ((i + 1 : Nat) : Int) = (i : Int) + 1 := by omega
      rw [e1]; exact he'
    · have hb' : b < s.heap.objs.size := by
        have e' : b = e ∨ b = it := by simpa using hb
        rcases e' with z | z
        · rw [z]; exact hel
        · rw [z]; exact hil
      rw [upd_ne (Nat.ne_of_lt hb')]
      exact (hf b hb).1
  done := by
    intro X hP hw hK hc i pins s σ H E I hf st hg
    subst hP hw hK
    obtain ⟨⟨old, he⟩, hit, hne⟩ := st
    obtain ⟨f0, f1, f2, f3, f4, f5⟩ := hf it (by simp)
    have hT : s.TypeIs (.ref e) "enumerate" := ⟨_, he, rfl⟩
    unfold pyNext
    refine wpAny_bind (wpAny_attempt (wpAny_callSpecial?_slot (name := Str.ofString "__next__") hT F.slot_enumerate_next
      (wpAny_call_entry F.slot_enumerate_next hT F.entry_enumerate_next ?_ (F.args_enumerate_next_1 _))))
    show wpAny _ _ (field (.ref e) 2 >>= _) _ _ _
    refine wpAny_bind (wpAny_field he rfl (x := .ref it) rfl ?_)
    refine wpAny_bind (wpAny_nextOf_ascii_end (show X.A.in1.handled = none from I.ok.hd hc) hit (Array.getElem?_eq_none hg) fun h' x he' hx' => ?_)
    obtain ⟨o, ho, hc'⟩ := hx'
    refine wpAny_bind (wpAny_isInstance (T := "StopIteration") (b := true) ⟨o, ho, hc'⟩ isSubtype_stop ?_)
    exact wpAny_pure ⟨rfl, I.turned (t' := s.toks) (fun b o hb q => he' b o hb q) f0 f1 f3 f4 f5⟩
  self := fun A i s Q E st h => let ⟨⟨_, he⟩, _⟩ := st; wpAny_pyIter_enum he h
def iEnumS (ta : TA) : TI := fun σ H R => ta σ H fun vs H1 => ∃ x, vs = [.str x] ∧ x.cps.all (· < 128) = true ∧ R (ItetS x) H1
theorem pi_enumS {X : Cx} {e : Expr} {ta : TA} {p pos tpos : Pos} {elts : List Expr} {kk : Nat} (hg : Gl X "enumerate") (hm : X.mg "enumerate" = none) (ha : PA X [e] ta) (hs : starEach [e] X.env = [(false, eval e X.env)] := by rfl) :
    PI X (.Tuple elts kk tpos) (.Call (.Name "enumerate" p) [e] [] pos) (iEnumS ta) := by
  refine ⟨fun pins s σ H R I h => ?_⟩
  refine Call_ (ld_blt I hg hm boot_enumerate (PyProof.Rows.callWith_type1 (thn (ha.run pos pins s σ H _ I h) fun us s1 ⟨vs, H1, I1, r1, q1⟩ => ?_) hs rfl))
  obtain ⟨x, ex, hx, q⟩ := q1
  subst ex
  cases r1 with
  | cons r rr =>
    cases rr
    obtain ⟨t, rfl⟩ := r
    refine call_enumerate_str fun h' he hit hsz hk => wpAny_pyIter_enum he ?_
    have hit : h'.IsStrIter s1.heap.objs.size "str_ascii_iterator" x t 0 := by
      have e : strIterType x = "str_ascii_iterator" := by unfold strIterType; rw [if_pos hx]
      rw [e] at hit
      exact hit
    have I2 : Inv X pins σ H1 { s1 with heap := h' } := I1.kept (t' := s1.toks) hk
    refine ⟨s1.heap.objs.size + 1, [s1.heap.objs.size + 1, s1.heap.objs.size], _, _, H1, rfl, I2, turn_enumS x t (s1.heap.objs.size + 1) s1.heap.objs.size, ⟨⟨.none, he⟩, hit, Nat.succ_ne_self _⟩, fun b hb => ?_, q⟩
    have e' : b = s1.heap.objs.size + 1 ∨ b = s1.heap.objs.size := by simpa using hb
    have hle : s1.heap.objs.size ≤ b := by
      rcases e' with z | z
      · rw [z]; exact Nat.le_add_right _ _
      · rw [z]; exact Nat.le_refl _
    exact I1.fpOk hle (I1.hok.fresh hle)
theorem walk_enumS {x : Str} : Walk (ItetS x) x.cps.size (fun _ => True) (YPair (fun i => some (.int (i : Nat))) (fun i => (x.cps[i]?).map fun c => V.str ⟨#[c]⟩)) := by
  refine ⟨fun i _ hi q => hi, fun _ q => Nat.le_refl _, fun i H v H' _ q y => ?_⟩
  obtain ⟨T, c, h1, h2, h3, h4⟩ := y
  exact ⟨T, .int (i : Nat), .str ⟨#[c]⟩, h1, h2, h4, rfl, by show (x.cps[i]?).map _ = _; rw [h3]; rfl⟩
end Rs
set_option maxRecDepth 100000
set_option maxHeartbeats 1000000
namespace Rs
open PySem PySem.Spec PyProof.Rows L2
section
variable {X : Cx} {CX : CXT} {k n : Nat} {f C : Addr} {fd : FuncData} {ps : List Str} {sp : Sp} {E : XK} {x : Str} {e : Expr} {es : List Expr} {t : TA} {p pos : Pos}
/-- C(e, .., *y) -/
theorem pe_makeS (M : Mk X.K C f) (F : FnR X.prog X.w X.K X.mg X.base CX k f sp) (hr : Room (k + 1) X.A) (hg : Gl X x) (hm : X.mg x = some (.ref C)) (hx : Passes CX X E) (ha : PA X (e :: es) t) (hdb : (x == ("__debug__" : Str)) = false := by decide)
    (he : starEach (e :: es) X.env = (false, eval e X.env) :: starEach es X.env := by rfl) (hst : (backTo pos (starEach es X.env)).any (·.1) = true := by rfl) : PE X (.Call (.Name x p) (e :: es) [] pos) (StX.tMakeR C sp E t) := by
  refine ⟨fun pins s σ H Q I h => ?_⟩
  refine wpAny_Call_Name_kw (ld_glob I hg hm ?_ hdb)
  refine PySem.W.callWith_S2 (h₀ := X.base) I.ok.mod.kin M.kp (thn (ha.run pos pins s σ H _ I h) fun us s1 ⟨vs, H1, I1, r, q⟩ => ⟨I1.kIn, ?_⟩) he hst
  exact StX.run_makeR M F hr hx I1 r q
/-- len(o) by an own __len__ -/
theorem call_lenI (F : FnOk X.prog X.w X.K X.mg X.base CX n f fd ps sp) (hf : PySem.W.findIn X.K (.ref C) "__len__" = some (some (.ref f))) (fn : PySem.W.isFn X.K (.ref f) = true) (hb : Binds X.K fd ps []) (hx : Passes CX X E) (hr : Room (n + 1) X.A) :
    CallR X (.builtin "len") (fun xs H Q => ∃ a dx fs, xs = [.ref a] ∧ H a = some (.ins C dx fs) ∧ sp [.ref a] H (fun v H' => ∃ i : Nat, v = .int (i : Nat) ∧ i < 1000000 ∧ Q v H') E) := by
  intro pins s σ H xs us Q I r h
  obtain ⟨a, dx, fs, rfl, ha, hsp⟩ := h
  obtain ⟨u, rfl, ru⟩ := vals1 r
  obtain rfl : u = Value.ref a := ru
  obtain ⟨mA, O, _⟩ := ins_get I.hok ha
  obtain ⟨od, J, _⟩ := O.look
  obtain ⟨m, hF⟩ := I.fr
  refine PySem.W.len_K hF I.ok.mod.kin J hf fn ?_
  have hl := F.len _ _ _ _ hsp
  refine wpAny_call (codeAny_mono (F.run X.A.in1 X.stack s H ⟨[.ref a], []⟩ [.ref a] [.ref a] _ E hr.in1 I.env0.in1 (by
    have := hb s [.ref a] I.kIn (by simpa using hl)
    simpa using this) (.cons rfl .nil) hsp) fun r s' hq => ?_)
  cases r with
  | error e => exact hx pins σ H s e s' I hq
  | ok fl =>
    cases fl with
    | ret w =>
      obtain ⟨z, H', I', rz, i, rfl, hi, q⟩ := I.after hq
      obtain ⟨tk, rfl⟩ := rz
      exact ⟨⟨by omega, by omega⟩, .int (i : Nat), H', I'.tok _, ⟨_, rfl⟩, q⟩
    | next => exact False.elim hq
    | brk => exact False.elim hq
    | cont => exact False.elim hq
end
end Rs
set_option maxRecDepth 100000
set_option maxHeartbeats 2000000
namespace K31
open PySem PySem.Spec PyProof.Rows L2 KA
abbrev sSide : Stmt := top 73
abbrev sRule : Stmt := top 72
abbrev sDiff : Stmt := top 74
abbrev sChkL : Stmt := top 71
theorem scSide : FnScope ["word", "letters"] ["word", "letters"] (defScope sSide) := ⟨rfl, rfl, rfl, by decide +kernel, rfl, by decide +kernel, by decide +kernel⟩
theorem scRule : FnScope ["rule", "letters", "word"] ["rule", "letters"] (defScope sRule) := ⟨rfl, rfl, rfl, by decide +kernel, rfl, by decide +kernel, by decide +kernel⟩
theorem scDiff : FnScope ["rule", "letters", "one", "other"] ["rule", "letters"] (defScope sDiff) := ⟨rfl, rfl, rfl, by decide +kernel, rfl, by decide +kernel, by decide +kernel⟩
theorem scChkL : FnScope ["letters", "at", "letter"] ["letters"] (defScope sChkL) := ⟨rfl, rfl, rfl, by decide +kernel, rfl, by decide +kernel, by decide +kernel⟩
/-- a side that a rule may have -/
def sd (l L : List Nat) : Bool := decide (l.length ≤ 16) && isW l L
/-- a rule that a town may have -/
def okR (L : List Nat) (ws : List (List Nat)) : Bool := decide (ws.length = 2) && ws.all fun l => sd l L
def spSide : Sp := fun vs H Q _ => ∃ l L : List Nat, vs = [tx l, tx L] ∧ l.length ≤ 1000 ∧ Lt L ∧ ∀ H', Same H H' → Q (.bl (sd l L)) H'
/-- a tuple of words -/
def TW (H : Hp) (x : Addr × List (List Nat)) : Prop := H x.1 = some (.tup (x.2.map tx))
theorem TW.same {H H' : Hp} {x : Addr × List (List Nat)} (h : TW H x) (s : Same H H') : TW H' x := s _ _ h
def spRule : Sp := fun vs H Q _ => ∃ (x : Addr × List (List Nat)) (L : List Nat), vs = [.ref x.1, tx L] ∧ TW H x ∧ x.2.length ≤ 1000 ∧ (∀ l ∈ x.2, l.length ≤ 1000) ∧ Lt L ∧ ∀ H', Same H H' → Q (.bl (okR L x.2)) H'
section
variable {P : Program} {w : World} {K : PySem.W.Frag} {mg : Str → Option Value} {base : Heap}
theorem ok_side {f fW : Addr} {fd fdW : FuncData} {tk : Tok} {k : Nat} (F : Fun K "is_side" "is_side" sSide f fd) (B : Bn mg) (m16 : mg "LONGEST_SIDE" = some (.int 16 tk)) (cW : KT.Cb P w K mg base CX0 (k + 2) "is_word" ["word", "letters"] spIsW fW fdW) : FnOk P w K mg base CX0 (k + 3) f fd ["word", "letters"] spSide := by
  refine F.ok scSide (fun vs H Q E h => ?_) (fun cdv A outer s H vs Q E hr h => ?_)
  · obtain ⟨l, L, rfl, _⟩ := h
    rfl
  · obtain ⟨l, L, rfl, hl, hL, q⟩ := h
    refine ⟨_, pss_one (ps_ret (pe_and (pe_cmpR op_le (pe_callB call_len_str (by rfl) B.len PySem.boot_len (pa_cons (pv 0) pa_nil)) (pe_glob (v := .int 16) (by rfl) m16 ⟨_, rfl⟩) (nomark _)) (pe_one (pe_call cW.ok hr (by rfl) cW.g cW.kp cW.b .nil pass0 (pa_cons (pv 0) (pa_cons (pv 1) pa_nil)))))), ?_⟩
    refine ⟨_, rfl, _, rfl, ?_⟩
    refine ⟨asc_le hl, _, _, rfl, rfl, _, rfl, ?_⟩
    rw [tx_len]
    by_cases h16 : l.length ≤ 16
    · rw [decide_eq_true (by omega)]
      refine iteT ⟨_, rfl, _, rfl, l, L, rfl, hl, hL, fun H1 s1 => ?_⟩
      have e : sd l L = isW l L := by
        unfold sd
        rw [decide_eq_true h16]
        rfl
      rw [← e]
      exact q H1 s1
    · rw [decide_eq_false (by omega)]
      refine iteF ?_
      have e : sd l L = false := by
        unfold sd
        rw [decide_eq_false h16]
        rfl
      have z := q H (Same.refl _)
      rw [e] at z
      exact z
theorem ok_rule {f fW : Addr} {fd fdW : FuncData} {k : Nat} (F : Fun K "is_rule" "is_rule" sRule f fd) (B : Bn mg) (cW : KT.Cb P w K mg base CX0 (k + 3) "is_side" ["word", "letters"] spSide fW fdW) : FnOk P w K mg base CX0 (k + 4) f fd ["rule", "letters"] spRule := by
  refine F.ok scRule (fun vs H Q E h => ?_) (fun cdv A outer s H vs Q E hr h => ?_)
  · obtain ⟨x, L, rfl, _⟩ := h
    rfl
  · obtain ⟨x, L, rfl, hx, h1000, hle, hL, q⟩ := h
    have hx' : H x.1 = some (.tup (x.2.map tx)) := hx
    refine ⟨_, pss_one (ps_ret (pe_and (pe_callB call_isi (by rfl) B.isinst boot_isinstance (pa_cons (pv 0) (pa_cons (pe_bltn (v := .ty "tuple") (by rfl) B.tuple PyProof.Rows.boot_tuple rfl) pa_nil)))
      (pe_and (pe_cmpR op_eq (pe_callB call_len_seq (by rfl) B.len PySem.boot_len (pa_cons (pv 0) pa_nil)) pe_int (nomark _))
      (pe_one (pe_callB (cr_all rfl) (by rfl) B.all boot_all (pa_cons (pe_lc (own := [("word", 2)]) (g := gName 2) (tt := tYes) (te := tCall spSide [] E0 (tCons (tVar 2) (tCons (tVar 1) tNil))) rfl scRule.nd (pi_tup (pv 0))
        (blkOk_by (N := ["rule", "letters", "word"]) (sc := defScope sRule) (by decide +kernel)) (fun _ _ _ _ _ => pg_name (i := 2) scRule.nd rfl (Or.inl rfl)) (fun _ _ _ _ _ => pts_nil)
        (fun _ _ _ _ _ => pe_call cW.ok hr (by rfl) cW.g cW.kp cW.b .nil pass0 (pa_cons (pv 2) (pa_cons (pv 1) pa_nil)))) pa_nil)))))), ?_⟩
    refine ⟨_, rfl, _, _, _, _, true, rfl, .ty _, .base (.tup hx'), kit_ty (by decide +kernel), true, rfl, iteT ⟨_, rfl, x.1, _, rfl, .inr (SqT.of hx'), rfl, ?_⟩⟩
    rw [List.length_map]
    by_cases h2 : x.2.length = 2
    · refine ⟨true, congrArg V.bl (decide_eq_true (show V.int (x.2.length : Nat) = V.int 2 by rw [h2]; rfl)), iteT ?_⟩
      refine ⟨_, rfl, x.1, rfl, ⟨_, SqT.of hx'⟩, fun D nD => ?_⟩
      refine KT.lc_sel (e := tx) (out := fun l => V.bl (sd l L)) (walk_tup (K := K) (a := x.1)) (tt := tYes) (te := tCall spSide [] E0 (tCons (tVar 2) (tCons (tVar 1) tNil))) (σ := [some (.ref x.1), some (tx L), none]) (i := 2) (fun _ => true) (Nat.lt_of_le_of_lt h1000 (by decide)) nD (fun H2 s2 => SqT.of (s2 _ _ hx')) (fun x H2 Q _ _ h => h) ?_ ?_
      · intro l H2 Q2 hl _ s2 hQ
        exact ⟨_, rfl, _, rfl, l, L, rfl, hle l hl, hL, fun H3 s3 => hQ H3 s3⟩
      · intro H2 s2 hD
        rw [List.filter_eq_self.mpr (by simp)] at hD
        refine ⟨D, x.2.map fun l => sd l L, rfl, SqL.of (by rw [hD, List.map_map]; rfl), ?_⟩
        have e : (x.2.map fun l => sd l L).all id = okR L x.2 := by
          unfold okR
          rw [decide_eq_true h2, List.all_map]
          rfl
        rw [e]
        exact q H2 s2
    · refine ⟨false, congrArg V.bl (decide_eq_false fun z : V.int (x.2.length : Nat) = V.int 2 => h2 (by injection z with z; omega)), iteF ?_⟩
      have e : okR L x.2 = false := by
        unfold okR
        rw [decide_eq_false h2]
        rfl
      have z := q H (Same.refl _)
      rw [e] at z
      exact z
/-! difference -/
def cnI (l L : List Nat) : List Int := L.map fun c => Txt.count (SX.S l) (SX.S [c]) - Txt.count (SX.S l) (SX.S [c - 32])
theorem cn_I (l L : List Nat) : cn l L = (cnI l L).map V.int := by
  unfold cn cnI
  rw [List.map_map]
  rfl
theorem cnI_len (l L : List Nat) : (cnI l L).length = L.length := by
  unfold cnI
  rw [List.length_map]
theorem cnI_bd {l L : List Nat} : ∀ y ∈ cnI l L, y.natAbs ≤ l.length := by
  intro y hy
  obtain ⟨c, _, rfl⟩ := List.mem_map.mp hy
  have h : ∀ d, Txt.count (SX.S l) (SX.S [d]) = ((l.count d : Nat) : Int) := fun d => by
    have z := Cnt.one (SX.S l) d
    exact z
  rw [h, h]
  have h1 := List.count_le_length (a := c) (l := l)
  have h2 := List.count_le_length (a := c - 32) (l := l)
  omega
/-- what the two sides of a rule differ by -/
def df (L : List Nat) (ws : List (List Nat)) : List Int := Hm.lsl (cnI (ws.getD 0 []) L) (cnI (ws.getD 1 []) L) 1
def spDiff : Sp := fun vs H Q _ => ∃ (x : Addr × List (List Nat)) (L : List Nat), vs = [.ref x.1, tx L] ∧ TW H x ∧ okR L x.2 = true ∧ Lt L ∧ L.length ≤ 3 ∧ ∀ H' p, Same H H' → H p = none → H' p = some (.tup ((df L x.2).map V.int)) → Q (.ref p) H'
theorem okR_two {L : List Nat} {ws : List (List Nat)} (h : okR L ws = true) : ∃ a b, ws = [a, b] ∧ a.length ≤ 16 ∧ b.length ≤ 16 ∧ isW a L = true ∧ isW b L = true := by
  unfold okR at h
  obtain ⟨h1, h2⟩ := He.ba h
  have h1 := of_decide_eq_true h1
  match ws, h1 with
  | [a, b], _ =>
    have ha := List.all_eq_true.mp h2 a List.mem_cons_self
    have hb := List.all_eq_true.mp h2 b (List.mem_cons_of_mem _ List.mem_cons_self)
    obtain ⟨a1, a2⟩ := He.ba ha
    obtain ⟨b1, b2⟩ := He.ba hb
    exact ⟨a, b, rfl, of_decide_eq_true a1, of_decide_eq_true b1, a2, b2⟩
theorem ok_diff {f fC fL : Addr} {fd fdC fdL : FuncData} {k : Nat} (F : Fun K "difference" "difference" sDiff f fd) (cC : KT.Cb P w K mg base CX0 (k + 1) "counts_of" ["word", "letters"] spCof fC fdC) (cL : KT.Cb P w K mg base CX0 (k + 1) "less" ["row", "other", "times"] (KT.spLess K) fL fdL) : FnOk P w K mg base CX0 (k + 2) f fd ["rule", "letters"] spDiff := by
  refine F.ok scDiff (fun vs H Q E h => ?_) (fun cdv A outer s H vs Q E hr h => ?_)
  · obtain ⟨x, L, rfl, _⟩ := h
    rfl
  · obtain ⟨⟨p, ws⟩, L, rfl, hx, hok, hL, h3, q⟩ := h
    obtain ⟨a, b, rfl, ha, hb, wa, wb⟩ := okR_two hok
    have hx' : H p = some (.tup [tx a, tx b]) := hx
    refine ⟨_, pss_cons (ps_asg (pv 0) (pg_tup rfl (pgs_cons (pg_name (i := 2) scDiff.nd rfl (.inl rfl)) (pgs_cons (pg_name (i := 3) scDiff.nd rfl (.inl rfl)) pgs_nil)))) (pss_one (ps_ret (pe_call cL.ok hr (by rfl) cL.g cL.kp cL.b .nil pass0 (pa_cons (pe_call cC.ok hr (by rfl) cC.g cC.kp cC.b .nil pass0 (pa_cons (pv 2) (pa_cons (pv 1) pa_nil))) (pa_cons (pe_call cC.ok hr (by rfl) cC.g cC.kp cC.b .nil pass0 (pa_cons (pv 3) (pa_cons (pv 1) pa_nil))) (pa_cons pe_int pa_nil)))))), ?_⟩
    refine ⟨_, rfl, p, _, rfl, SqT.of hx', rfl, _, _, rfl, _, _, rfl, rfl, ?_⟩
    refine ⟨_, rfl, _, rfl, a, L, rfl, hL, fun H1 pa s1 na ha1 => ⟨_, rfl, _, rfl, b, L, rfl, hL, fun H2 pb s2 nb hb2 => ?_⟩⟩
    refine ⟨pa, pb, cnI a L, cnI b L, 1, rfl, SqT.of ?_, SqT.of ?_, by rw [cnI_len, cnI_len], by rw [cnI_len]; exact h3, fun y hy => ?_, fun H3 pr s3 nr hpr => ?_⟩
    · rw [← cn_I]
      exact s2 _ _ ha1
    · rw [← cn_I]
      exact hb2
    · have hy2 : y.natAbs < 2 ^ 5 := Nat.lt_of_le_of_lt (Nat.le_trans (cnI_bd y hy) hb) (by decide)
      exact wide_mul (a := 1) (show (1 : Int).natAbs < 2 ^ 1 by decide) hy2 (by omega) (by omega) (by omega)
    · exact q H3 pr ((s1.trans s2).trans s3) ((s1.trans s2).free nr) hpr
end
end K31
set_option maxRecDepth 100000
set_option maxHeartbeats 2000000
namespace K31
open PySem PySem.Spec PyProof.Rows L2 KA
/-- what the written part says of an error class with one field -/
structure ErC (K : PySem.W.Frag) (mg : Str → Option Value) (nm fl : Str) (C fI : Addr) : Prop where
  ox : OexC K C
  gC : mg nm = some (.ref C)
  nF : PySem.W.findIn K (.ref C) fl = some none
  nTag : PySem.W.findIn K (.ref C) "tag" = some none
  iC : PySem.W.findIn K (.ref C) "__init__" = some (some (.ref fI))
  tI : PySem.W.typeIn K (.ref fI) = some (.type "function")
theorem s_weak {X : Cx} {st : Stmt} {t1 t2 : TS} (h : PS X st t1) (imp : ∀ D σ H, t2 D σ H → t1 D σ H) : PS X st t2 := ⟨fun pins s σ H D I hq => h.run pins s σ H D I (imp D σ H hq)⟩
section
variable {P : Program} {w : World} {K : PySem.W.Frag} {mg : Str → Option Value} {base : Heap}
def spIni (tg : V) (fl : Str) (C : Addr) : Sp := fun vs H Q _ => ∃ (a : Addr) (v : V), vs = [.ref a, v] ∧ H a = some (exo a C none) ∧
  ∀ dx, H dx = none → dx ≠ a → Q .non (upd (upd (upd H dx (exd dx [(fl, v)])) a (exo a C (some dx))) dx (exd dx [("tag", tg), (fl, v)]))
/-- an error of this class flies, with this field, all else being the same -/
def Fl (C : Addr) (tg : V) (fl : Str) (v : V) (H : Hp) (E : XK) : Prop := ∀ (H' : Hp) (d : Addr), Same H H' → H d = none → H' d = some (.xd [("tag", tg), (fl, v)]) → E (.ref C) (some d) H'
theorem Fl.of {C : Addr} {tg v : V} {fl : Str} {H H1 : Hp} {E : XK} (h : Fl C tg fl v H E) (s : Same H H1) : Fl C tg fl v H1 E := fun H' d s' nd hd => h H' d (s.trans s') (s.free nd) hd
/-- raise nm(e) -/
theorem s_raise {X : Cx} {E : XK} {nm fl : Str} {tg : V} {C fI : Addr} {fdI : FuncData} {ps : List Str} {e : Expr} {te : TE} {p pos pos' : Pos} (T : ErC X.K X.mg nm fl C fI)
    (GI : FnOk X.prog X.w X.K X.mg X.base CX0 1 fI fdI ps (spIni tg fl C)) (bI : Binds X.K fdI ps []) (hr : Room 2 X.A) (hc : X.calm = true) (tk : Takes X (fun cls d _ H => E cls d H)) (hg : Gl X nm) (he : PE X e te) (hp0 : Passes CX0 X (fun _ _ _ => False))
    (mono : ∀ σ H (Q Q' : VK), (∀ v H1, Q v H1 → Q' v H1) → te σ H Q → te σ H Q')
    (hdb : (nm == ("__debug__" : Str)) = false := by decide) (hst : starEach [e] X.env = (false, eval e X.env) :: starEach [] X.env := by rfl) (hpl : (backTo pos (starEach [] X.env)).any (·.1) = false := by rfl) :
    PS X (.Raise (some (.Call (.Name nm p) [e] [] pos)) none pos') (fun _ σ H => te σ H fun v H1 => Fl C tg fl v H1 E) := by
  refine s_weak (ps_raise hc tk (pmk_oex T.ox T.iC T.tI GI hr bI .nil hp0 hg T.gC (pa_cons (hs := hst) he pa_nil) hdb hst hpl)) (fun D σ H h => ?_)
  refine mono σ H _ _ (fun v H1 q => ⟨(by show 1 ≤ 1000; decide), fun a na => ?_⟩) h
  refine ⟨a, _, rfl, upd_same, fun dx nd ne => ⟨rfl, dx, _, ?_, upd_same, ?_, ?_⟩⟩
  · rw [upd_ne (Ne.symm ne), upd_same]
  · have z : upd H1 a (exo a C none) dx = none := nd
    rw [upd_ne ne] at z
    exact z
  · have nd3 : H1 dx = none := by
      have z : upd H1 a (exo a C none) dx = none := nd
      rw [upd_ne ne] at z
      exact z
    refine q _ dx (fun b o e3 => ?_) nd3 upd_same
    have hb1 : b ≠ dx := ne_of_none e3 nd3
    have hb2 : b ≠ a := ne_of_none e3 na
    rw [upd_ne hb1, del_ne hb2, upd_ne hb1, upd_ne hb2, upd_ne hb1, upd_ne hb2]
    exact e3
theorem var_mono {i : Nat} : ∀ (σ : L2.St) (H : Hp) (Q Q' : VK), (∀ v H1, Q v H1 → Q' v H1) → tVar i σ H Q → tVar i σ H Q' := fun _ _ _ _ imp ⟨v, h, q⟩ => ⟨v, h, imp _ _ q⟩
theorem c_mono {v : V} : ∀ (σ : L2.St) (H : Hp) (Q Q' : VK), (∀ v H1, Q v H1 → Q' v H1) → tC v σ H Q → tC v σ H Q' := fun _ _ _ _ imp q => imp _ _ q
abbrev sIniG : Stmt := KT.inside (top 4) 0
abbrev sIniU : Stmt := KT.inside (top 8) 0
abbrev tagG : V := .str (Str.ofString "InvalidLetters")
abbrev tagU : V := .str (Str.ofString "InvalidRule")
theorem scIniG : FnScope ["self", "at"] ["self", "at"] (defScope sIniG) := ⟨rfl, rfl, rfl, by decide +kernel, rfl, by decide +kernel, by decide +kernel⟩
theorem scIniU : FnScope ["self", "at"] ["self", "at"] (defScope sIniU) := ⟨rfl, rfl, rfl, by decide +kernel, rfl, by decide +kernel, by decide +kernel⟩
theorem ok_iniG {f C : Addr} {fd : FuncData} {k : Nat} (F : Fun K "__init__" "InvalidLetters.__init__" sIniG f fd) (T : ErC K mg "InvalidLetters" "at" C f) : FnOk P w K mg base CX0 (k + 1) f fd ["self", "at"] (spIni tagG "at" C) := by
  refine F.ok scIniG (fun vs H Q E h => ?_) (fun cdv A outer s H vs Q E hr h => ?_)
  · obtain ⟨a, v, rfl, _⟩ := h
    rfl
  · obtain ⟨a, v, rfl, hx, q⟩ := h
    refine ⟨_, pss_cons (ps_ost (pv 0) (pv 1)) (pss_one (ps_ost (pv 0) pe_str)), ?_⟩
    refine ⟨_, rfl, _, rfl, a, C, rfl, T.ox, T.nF, .inl ⟨hx, fun dx nd ne => ?_⟩⟩
    refine ⟨_, rfl, a, C, rfl, T.ox, T.nTag, .inr ⟨dx, _, upd_same, ?_, (by show 1 ≤ 900; decide), q dx nd ne⟩⟩
    rw [upd_ne ne]
    exact upd_same
theorem ok_iniU {f C : Addr} {fd : FuncData} {k : Nat} (F : Fun K "__init__" "InvalidRule.__init__" sIniU f fd) (T : ErC K mg "InvalidRule" "at" C f) : FnOk P w K mg base CX0 (k + 1) f fd ["self", "at"] (spIni tagU "at" C) := by
  refine F.ok scIniU (fun vs H Q E h => ?_) (fun cdv A outer s H vs Q E hr h => ?_)
  · obtain ⟨a, v, rfl, _⟩ := h
    rfl
  · obtain ⟨a, v, rfl, hx, q⟩ := h
    refine ⟨_, pss_cons (ps_ost (pv 0) (pv 1)) (pss_one (ps_ost (pv 0) pe_str)), ?_⟩
    refine ⟨_, rfl, _, rfl, a, C, rfl, T.ox, T.nF, .inl ⟨hx, fun dx nd ne => ?_⟩⟩
    refine ⟨_, rfl, a, C, rfl, T.ox, T.nTag, .inr ⟨dx, _, upd_same, ?_, (by show 1 ≤ 900; decide), q dx nd ne⟩⟩
    rw [upd_ne ne]
    exact upd_same
/-- an error class with the field at, and its __init__ -/
structure Er (P : Program) (w : World) (K : PySem.W.Frag) (mg : Str → Option Value) (base : Heap) (nm : Str) (tg : V) (C fI : Addr) (fdI : FuncData) : Prop where
  T : ErC K mg nm "at" C fI
  G : FnOk P w K mg base CX0 1 fI fdI ["self", "at"] (spIni tg "at" C)
  b : Binds K fdI ["self", "at"] []
theorem cut_to (l : List Nat) (n : Nat) : cutS (SX.S l) none (some (n : Int)) = SX.S (l.take n) := by
  unfold cutS
  rw [HT.sIx_none, List.drop_zero, Nat.sub_zero, HT.sIx_nat, tx_len]
  show SX.S (l.take (min n l.length)) = SX.S (l.take n)
  by_cases h : n ≤ l.length
  · rw [Nat.min_eq_left h]
  · rw [Nat.min_eq_right (by omega), List.take_length, List.take_of_length_le (by omega)]
theorem cut_from (l : List Nat) (n : Nat) : cutS (SX.S l) (some (n : Int)) none = SX.S (l.drop n) := by
  unfold cutS
  rw [HT.sIx_none, HT.sIx_nat, tx_len]
  show SX.S ((l.drop (min n l.length)).take (l.length - min n l.length)) = SX.S (l.drop n)
  by_cases h : n ≤ l.length
  · rw [Nat.min_eq_left h, List.take_of_length_le (by rw [List.length_drop]; omega)]
  · rw [Nat.min_eq_right (by omega), List.drop_length, List.drop_eq_nil_of_le (by omega)]
    simp
theorem lexle (c d : Nat) : (!decide (([c] : List Nat) < [d])) = decide (d ≤ c) := by
  by_cases h : d ≤ c
  · rw [decide_eq_true h, decide_eq_false]
    · rfl
    · intro z
      rw [List.cons_lt_cons_iff] at z
      rcases z with z | ⟨_, z⟩
      · omega
      · exact absurd z (List.lt_irrefl _)
  · rw [decide_eq_false h, decide_eq_true]
    · rfl
    · exact List.cons_lt_cons_iff.mpr (.inl (by omega))
theorem sgA (c : Nat) : (!decide ((SX.S [c]).cps.toList < (Str.ofString "a").cps.toList)) = decide (97 ≤ c) := lexle c 97
theorem sgZ (c : Nat) : (!decide ((Str.ofString "z").cps.toList < (SX.S [c]).cps.toList)) = decide (c ≤ 122) := lexle 122 c
/-! check_letters -/
def badL (L : List Nat) (i : Nat) : Bool := decide (i = 3) || (decide (L.getD i 0 ∈ L.take i) || !(decide (97 ≤ L.getD i 0) && decide (L.getD i 0 ≤ 122)))
/-- what is wrong with the letters -/
def Wrong (L : List Nat) (i : Nat) : Prop := (L = [] ∧ i = 0) ∨ (i < L.length ∧ badL L i = true ∧ ∀ j, j < i → badL L j = false)
def spChkL (C : Addr) : Sp := fun vs H Q E => ∃ L : List Nat, vs = [tx L] ∧ L.length ≤ 1000 ∧ Asc L ∧ (L ≠ [] → (∀ i, i < L.length → badL L i = false) → ∀ H', Same H H' → Q .non H') ∧ ∀ i, Wrong L i → Fl C tagG "at" (.int (i : Nat)) H E
theorem asc_all {L : List Nat} (h : Asc L) : (SX.S L).cps.all (· < 128) = true := by
  rw [Array.all_eq_true']
  intro c hc
  have hc2 : c ∈ L := by
    have : c ∈ (SX.S L).cps.toList := by simpa using hc
    exact this
  exact decide_eq_true (h c hc2)
theorem ok_chkL {f C fI : Addr} {fd fdI : FuncData} {tk : Tok} {k : Nat} (F : Fun K "check_letters" "check_letters" sChkL f fd) (B : Bn mg) (mW : mg "WIDEST" = some (.int 3 tk)) (R : Er P w K mg base "InvalidLetters" tagG C fI fdI) :
    FnOk P w K mg base (L2.CX P w) (k + 3) f fd ["letters"] (spChkL C) := by
  refine F.okX scChkL (fun vs H Q E h => ?_) (fun cdv A outer s H vs Q E hr h => ?_)
  · obtain ⟨L, rfl, _⟩ := h
    rfl
  · obtain ⟨L, rfl, hl, hA, q, qe⟩ := h
    have r2 : Room 2 (A.deeper (envOfC "check_letters" (defScope sChkL) s.heap.objs.size f cdv)) := hr.mono (by omega)
    refine ⟨_, pss_cons (ps_if (pt_cmpR op_eq (pv 0) pe_str (nomark _)) (pss_one (s_raise (E := E) R.T R.G R.b r2 rfl (takes_of rfl rfl rfl rfl) (by rfl) pe_int pass0 c_mono)) pss_nil)
      (pss_one (ps_for (passes_of rfl) rfl (Rs.pi_enumS (by rfl) B.enum (pa_cons (pv 0) pa_nil))
        (pg_tup rfl (pgs_cons (pg_name (i := 1) scChkL.nd rfl (.inl rfl)) (pgs_cons (pg_name (i := 2) scChkL.nd rfl (.inl rfl)) pgs_nil)))
        (pss_one (ps_if (PW.pt (pw_or (pt_cmpR op_eq (pv 1) (pe_glob (v := .int 3) (by rfl) mW ⟨_, rfl⟩) (nomark _)) (pw_or (pt_cmpR op_in_sign (pv 2) (pe_slice sl_str (pv 0) po_none (po_some (pv 1))) (by rfl)) (pw_or1 (pt_not (pt_chain op_le_str op_le_str pe_str (pv 2) pe_str))))))
          (pss_one (s_raise (E := E) R.T R.G R.b r2 rfl (takes_of rfl rfl rfl rfl) (by rfl) (pv 1) pass0 var_mono))
          pss_nil)))), ?_⟩
    have em : L = [] ↔ tx L = V.str (Str.ofString "") := by
      rw [e0S]
      constructor
      · intro e
        rw [e]
      · intro e
        injection e with e
        exact SX.S_inj e
    refine ⟨_, rfl, rfl, ?_⟩
    by_cases h0 : L = []
    · exact ⟨true, congrArg V.bl (decide_eq_true (em.mp h0)), iteT (qe 0 (.inl ⟨h0, rfl⟩))⟩
    refine ⟨false, congrArg V.bl (decide_eq_false fun z => h0 (em.mpr z)), iteF ?_⟩
    refine ⟨_, rfl, SX.S L, rfl, asc_all hA, ?_⟩
    have hsz : (SX.S L).cps.size = L.length := by
      have z := SX.S_len L
      exact z
    refine for_it (Rs.walk_enumS (x := SX.S L)) (fun i σ H2 => ∃ y1 y2, σ = [some (tx L), y1, y2] ∧ Same H H2 ∧ ∀ j, j < i → badL L j = false)
      ⟨none, none, rfl, Same.refl _, fun j hj => absurd hj (Nat.not_lt_zero _)⟩ (fun _ _ _ _ _ => trivial) ?_ ?_
    · rintro i x σ H2 H2' hi ⟨y1, y2, rfl, sm, hok⟩ ⟨Tp, x1, x2, rfl, nT, rfl, e1, e2⟩
      obtain rfl : V.int (i : Nat) = x1 := Option.some.inj e1
      rw [hsz] at hi
      have gl : L[i]? = some L[i] := List.getElem?_eq_getElem hi
      have gd : L.getD i 0 = L[i] := by rw [List.getD_eq_getElem?_getD, gl]; rfl
      obtain rfl : tx [L[i]] = x2 := by
        have z : ((SX.S L).cps[i]?).map (fun c => V.str ⟨#[c]⟩) = some x2 := e2
        have z2 : (SX.S L).cps[i]? = some L[i] := by
          rw [← Array.getElem?_toList]
          exact gl
        rw [z2] at z
        exact Option.some.inj z
      have hc := hA _ (List.getElem_mem hi)
      generalize L[i] = c at gl gd hc
      have sT : Same H2 (upd H2 Tp (.tup [.int (i : Nat), tx [c]])) := same_new nT
      have sm2 := sm.trans sT
      have raise : badL L i = true → Fl C tagG "at" (.int (i : Nat)) (upd H2 Tp (.tup [.int (i : Nat), tx [c]])) E := fun hb => (qe i (.inr ⟨hi, hb, hok⟩)).of sm2
      refine ⟨Tp, _, rfl, SqT.of upd_same, rfl, _, _, rfl, _, _, rfl, rfl, ?_⟩
      refine ⟨_, rfl, rfl, ?_⟩
      by_cases h3 : i = 3
      · refine ⟨true, congrArg V.bl (decide_eq_true (by rw [h3]; rfl)), iteT (iteT ⟨_, rfl, raise ?_⟩)⟩
        unfold badL
        rw [decide_eq_true h3]
        rfl
      refine ⟨false, congrArg V.bl (decide_eq_false fun z => h3 (by injection z with z; omega)), iteF ?_⟩
      have next : badL L i = false → ∀ j, j < i + 1 → badL L j = false := fun hb j hj => by
        by_cases hj2 : j < i
        · exact hok j hj2
        · have ej : j = i := by omega
          rw [ej]
          exact hb
      have cut : cutS (SX.S L) none (some ((i : Nat) : Int)) = SX.S (L.take i) := cut_to L i
      refine ⟨_, rfl, _, rfl, _, rfl, _, rfl, SX.S L, rfl, asc_le hl, c, _, rfl, rfl, ?_⟩
      rw [cut]
      by_cases hm : c ∈ L.take i
      · refine ⟨true, congrArg V.bl (decide_eq_true hm), iteT (iteT ⟨_, rfl, raise ?_⟩)⟩
        unfold badL
        rw [gd, decide_eq_true hm]
        cases decide (i = 3) <;> rfl
      refine ⟨false, congrArg V.bl (decide_eq_false hm), iteF ?_⟩
      have bd : badL L i = !(decide (97 ≤ c) && decide (c ≤ 122)) := by
        unfold badL
        rw [gd, decide_eq_false hm, decide_eq_false h3]
        rfl
      refine ⟨_, rfl, _, _, rfl, rfl, _, congrArg V.bl (sgA c), ?_⟩
      by_cases ha : 97 ≤ c
      · rw [decide_eq_true ha]
        refine iteT ⟨_, _, rfl, rfl, _, congrArg V.bl (sgZ c), ?_⟩
        by_cases hz : c ≤ 122
        · rw [decide_eq_true hz]
          refine iteF ⟨_, _, rfl, sm2, next ?_⟩
          rw [bd, decide_eq_true ha, decide_eq_true hz]
          rfl
        · rw [decide_eq_false hz]
          refine iteT ⟨_, rfl, raise ?_⟩
          rw [bd, decide_eq_false hz, Bool.and_false]
          rfl
      · rw [decide_eq_false ha]
        refine iteF ⟨_, rfl, iteT ⟨_, rfl, raise ?_⟩⟩
        rw [bd, decide_eq_false ha]
        rfl
    · rintro σ H2 ⟨y1, y2, rfl, sm, hok⟩
      refine q h0 (fun i hi => hok i ?_) H2 sm
      rw [hsz]
      exact hi
end
end K31
set_option maxRecDepth 100000
set_option maxHeartbeats 2000000
namespace K31
open PySem PySem.Spec PyProof.Rows L2 KA
abbrev NT : List Str := ["self", "letters", "rules", "at", "rule"]
abbrev sTI : Stmt := KT.inside (top 69) 1
theorem scTI : FnScope NT ((["self", "letters"] : List Str) ++ (["rules"] : List Str)) (defScope sTI) := ⟨rfl, rfl, rfl, by decide +kernel, rfl, by decide +kernel, by decide +kernel⟩
abbrev Rls := List (Addr × List (List Nat))
abbrev rfs (rs : Rls) : List V := rs.map fun x => .ref x.1
abbrev wds (rs : Rls) : List (List (List Nat)) := rs.map fun x => x.2
/-- the fields of a town -/
def fTown (L : List Nat) (q t : Addr) : List (Str × V) := [("alphabet", tx L), ("pairs", .ref q), ("ground", .ref t)]
def badU (L : List Nat) (ws : List (List (List Nat))) (i : Nat) : Bool := decide (i = 6) || !(okR L (ws.getD i []))
def GoodL (L : List Nat) : Prop := L ≠ [] ∧ ∀ i, i < L.length → badL L i = false
theorem GoodL.len {L : List Nat} (h : GoodL L) : 1 ≤ L.length ∧ L.length ≤ 3 := by
  refine ⟨?_, ?_⟩
  · cases L with
    | nil => exact absurd rfl h.1
    | cons a l => exact Nat.succ_le_succ (Nat.zero_le _)
  · by_cases h3 : 3 < L.length
    · have z := h.2 3 h3
      have e : badL L 3 = true := rfl
      rw [e] at z
      cases z
    · omega
/-- tuples of words, in a heap -/
def Tws (H : Hp) (rs : Rls) : Prop := ∀ r ∈ rs, TW H r ∧ r.2.length ≤ 1000 ∧ ∀ l ∈ r.2, l.length ≤ 1000
theorem Tws.same {H H' : Hp} {rs : Rls} (h : Tws H rs) (s : Same H H') : Tws H' rs := fun r hr => ⟨(h r hr).1.same s, (h r hr).2⟩
/-- all rules may stand -/
def GoodU (L : List Nat) (ws : List (List (List Nat))) : Prop := ∀ i, i < ws.length → badU L ws i = false
/-- the table of a town: normal rows of the differences of its rules -/
def Gd (CT : Addr) (H : Hp) (t : Addr) (L : List Nat) (ws : List (List (List Nat))) : Prop := ∃ (qt : Addr) (fs : List (Addr × List Int)) (rest : List (List Int)), KT.TJ CT H t L.length qt fs ∧ (∀ r ∈ KT.rw_ fs, Hm.Fd L.length 6 6 L.length r) ∧ Hm.Nrm L.length L.length (ws.map (df L)) (KT.rw_ fs) rest ∧ fs.length ≤ L.length
theorem Gd.ext {CT : Addr} {H H' : Hp} {t : Addr} {L : List Nat} {ws : List (List (List Nat))} (h : Gd CT H t L ws) (e : LamX.ExtN H H') : Gd CT H' t L ws := by
  obtain ⟨qt, fs, rest, h1, h2⟩ := h
  exact ⟨qt, fs, rest, h1.ext e, h2⟩
theorem Gd.st {CT x : Addr} {H H' : Hp} {t : Addr} {L : List Nat} {ws : List (List (List Nat))} (h : Gd CT H t L ws) (e : KT.StN x H H') (hx : ∃ C dx fs, H x = some (.ins C dx fs)) (ne : t ≠ x) : Gd CT H' t L ws := by
  obtain ⟨qt, fs, rest, ⟨⟨dx, h1⟩, h0⟩, h2⟩ := h
  exact ⟨qt, fs, rest, ⟨⟨dx, e _ _ ne h1 (fun ps z => nomatch z)⟩, h0.st e hx⟩, h2⟩
def spTB (K : PySem.W.Frag) (C CG CU CT : Addr) (T : List (Addr × Str)) : Sp := fun vs H Q E => ∃ (x dx p : Addr) (L : List Nat) (rs : Rls), vs = [.ref x, tx L, .ref p] ∧ H x = some (.ins C dx []) ∧ H p = some (.tup (rfs rs)) ∧ Tws H rs ∧ rs.length ≤ 1000 ∧ LamX.Tabs T H ∧ L.length ≤ 1000 ∧ Asc L ∧ (GoodL L → Lt L) ∧
  (∀ i, Wrong L i → Fl CG tagG "at" (.int (i : Nat)) H E) ∧ (GoodL L → ∀ i, i < rs.length → badU L (wds rs) i = true → (∀ j, j < i → badU L (wds rs) j = false) → Fl CU tagU "at" (.int (i : Nat)) H E) ∧
  (GoodL L → GoodU L (wds rs) → ∀ (H' : Hp) (q t : Addr), KT.StN x H H' → LamX.Tabs T H' → KT.New H q → H' q = some (.lst (rfs rs)) → H' x = some (.ins C dx (fTown L q t)) → Gd CT H' t L (wds rs) → Q .non H')
structure TwC (K : PySem.W.Frag) (C : Addr) : Prop where
  cl : Cls K C
  al : NoAttr K C "alphabet"
  pa : NoAttr K C "pairs"
  gr : NoAttr K C "ground"
theorem good_ok {L : List Nat} {rs : Rls} (h : GoodU L (wds rs)) : ∀ r ∈ rs, okR L r.2 = true := by
  intro r hr
  obtain ⟨i, hi⟩ := List.mem_iff_getElem?.mp hr
  have hl : i < rs.length := (List.getElem?_eq_some_iff.mp hi).1
  have z := h i (by rw [List.length_map]; exact hl)
  unfold badU at z
  have e : (wds rs).getD i [] = r.2 := by
    rw [List.getD_eq_getElem?_getD, List.getElem?_map, hi]
    rfl
  rw [e] at z
  have z2 := (Bool.or_eq_false_iff.mp z).2
  simpa using z2
theorem good_six {L : List Nat} {ws : List (List (List Nat))} (h : GoodU L ws) : ws.length ≤ 6 := by
  by_cases h6 : 6 < ws.length
  · have z := h 6 h6
    have e : badU L ws 6 = true := rfl
    rw [e] at z
    cases z
  · omega
theorem df_len {L : List Nat} {ws : List (List Nat)} : (df L ws).length = L.length := by
  unfold df
  have e : (cnI (ws.getD 0 []) L).length = (cnI (ws.getD 1 []) L).length := by rw [cnI_len, cnI_len]
  exact Hm.lsl_len (cnI_len _ _) (cnI_len _ _) 1
theorem df_bd {L : List Nat} {ws : List (List Nat)} (h : okR L ws = true) : KT.Rk L.length 0 6 (df L ws) := by
  obtain ⟨a, b, rfl, ha, hb, _, _⟩ := okR_two h
  refine ⟨df_len, (fun j hj => absurd hj (Nat.not_lt_zero _)), fun j => ?_⟩
  have bd : ∀ (l : List Nat) (j : Nat), l.length ≤ 16 → (Hm.fn (cnI l L) j).natAbs ≤ 16 := fun l j hl => by
    unfold Hm.fn
    rw [List.getD_eq_getElem?_getD]
    cases e : (cnI l L)[j]? with
    | none => exact Nat.zero_le _
    | some y => exact Nat.le_trans (cnI_bd y (List.mem_of_getElem? e)) hl
  have e : Hm.fn (df L [a, b]) = Hm.ls (Hm.fn (cnI a L)) (Hm.fn (cnI b L)) 1 := by
    have e2 : (cnI a L).length = (cnI b L).length := by rw [cnI_len, cnI_len]
    exact Hm.fn_lsl e2 1
  rw [e]
  show (Hm.fn (cnI a L) j - 1 * Hm.fn (cnI b L) j).natAbs ≤ 2 ^ 6
  have h1 := bd a j ha
  have h2 := bd b j hb
  omega
section
variable {P : Program} {w : World} {K : PySem.W.Frag} {mg : Str → Option Value} {base : Heap}
variable {f : Addr} {A : Around} {outer : List Env} {s : Shared} {H : Hp} {E : XK} {cdv : Value} {C fT CT fDf : Addr} {fdT fdDf : FuncData} {T : List (Addr × Str)}
abbrev XT (P : Program) (w : World) (K : PySem.W.Frag) (mg : Str → Option Value) (base : Heap) (f : Addr) (cdv : Value) (A : Around) (outer : List Env) (s : Shared) (H : Hp) (E : XK) : Cx := cxOf (L2.CX P w) P w K mg base NT "Town.__init__" (defScope sTI) f cdv A outer s H E
theorem ti_tail (B : Bn mg) (TC : TwC K C) (M : Mk K CT fT) (gT : mg "Table" = some (.ref CT)) (GI : FnOk P w K mg base CX0 6 fT fdT ["self", "width", "rows"] (KT.spInit K CT T)) (bI : Binds K fdT ["self", "width", "rows"] []) (cDf : KT.Cb P w K mg base CX0 2 "difference" ["rule", "letters"] spDiff fDf fdDf)
    (hr : Room 7 (A.deeper (envOfC "Town.__init__" (defScope sTI) s.heap.objs.size f cdv))) :
    ∃ t, PSs (XT P w K mg base f cdv A outer s H E) ((defBody sTI).drop 2) t ∧ ∀ (D : Ends) (H1 : Hp) (x dx p : Addr) (L : List Nat) (rs : Rls) (y3 y4 : Option V), H1 x = some (.ins C dx []) → H1 p = some (.tup (rfs rs)) → Tws H1 rs → LamX.Tabs T H1 → Lt L → L.length ≤ 1000 → GoodL L → GoodU L (wds rs) →
      (∀ (H' : Hp) (q t : Addr) (σ : L2.St), KT.StN x H1 H' → LamX.Tabs T H' → KT.New H1 q → H' q = some (.lst (rfs rs)) → H' x = some (.ins C dx (fTown L q t)) → Gd CT H' t L (wds rs) → D.nx σ H') → t D [some (.ref x), some (tx L), some (.ref p), y3, y4] H1 := by
  have r2 : Room 2 (A.deeper (envOfC "Town.__init__" (defScope sTI) s.heap.objs.size f cdv)) := hr.mono (by decide)
  refine ⟨_, pss_cons (ps_fld (pv 0) (pv 1) rfl) (pss_cons (ps_fld (pv 0) (pe_callTy call_list_of (by rfl) B.list boot_list (pa_cons (pv 2) pa_nil)) rfl)
    (pss_one (ps_fld (pv 0) (pe_make M GI hr (by rfl) gT bI .nil pass0 (pa_cons (pe_callB call_len_str (by rfl) B.len PySem.boot_len (pa_cons (pv 1) pa_nil))
      (pa_cons (pe_lc (own := [("rule", 4)]) (g := gName 4) (tt := tYes) (te := tCall spDiff [] E0 (tCons (tVar 4) (tCons (tVar 1) tNil))) rfl scTI.nd (pi_tup (pv 2))
        (blkOk_by (N := NT) (sc := defScope sTI) (by decide +kernel)) (fun _ _ _ _ _ => pg_name (i := 4) scTI.nd rfl (Or.inl rfl)) (fun _ _ _ _ _ => pts_nil)
        (fun _ _ _ _ _ => pe_call cDf.ok r2 (by rfl) cDf.g cDf.kp cDf.b .nil pass0 (pa_cons (pv 4) (pa_cons (pv 1) pa_nil)))) pa_nil))) rfl))), ?_⟩
  intro D H1 x dx p L rs y3 y4 hx hp hT tb hL hl gL gU nx
  have gl := gL.len
  have g6 := good_six gU
  rw [List.length_map] at g6
  have gok := good_ok gU
  refine ⟨_, rfl, _, rfl, x, C, dx, _, rfl, hx, TC.cl, TC.al, by decide, ?_⟩
  obtain ⟨H2, e2⟩ : ∃ H2, H2 = upd H1 x (.ins C dx (putF "alphabet" (tx L) [])) := ⟨_, rfl⟩
  rw [← e2]
  have st2 : KT.StN x H1 H2 := by
    rw [e2]
    exact KT.StN.upd
  have hx2 : H2 x = some (.ins C dx [("alphabet", tx L)]) := by
    rw [e2]
    exact upd_same
  have np : p ≠ x := fun z => by
    rw [z, hx] at hp
    cases hp
  have hp2 : H2 p = some (.tup (rfs rs)) := st2 _ _ np hp (fun ps z => nomatch z)
  have hT2 : Tws H2 rs := fun r hr => by
    obtain ⟨h1, h2⟩ := hT r hr
    have h1' : H1 r.1 = some (.tup (r.2.map tx)) := h1
    have nr : r.1 ≠ x := fun z => by
      rw [z, hx] at h1'
      cases h1'
    exact ⟨st2 _ _ nr h1' (fun ps z => nomatch z), h2⟩
  have tb2 : LamX.Tabs T H2 := by
    rw [e2]
    exact KT.tabs_ins tb hx
  refine ⟨_, rfl, p, _, rfl, .inr (SqT.of hp2), fun q nq => ?_⟩
  have s3 := same_new (o := .lst (rfs rs)) nq
  have hx3 := s3 _ _ hx2
  refine ⟨_, rfl, x, C, dx, _, rfl, hx3, TC.cl, TC.pa, (by show 1 < 1000; decide), ?_⟩
  obtain ⟨H4, e4⟩ : ∃ H4, H4 = upd (upd H2 q (.lst (rfs rs))) x (.ins C dx (putF "pairs" (.ref q) [("alphabet", tx L)])) := ⟨_, rfl⟩
  rw [← e4]
  have qx : q ≠ x := fun z => by
    rw [z, hx2] at nq
    cases nq
  have hx4 : H4 x = some (.ins C dx [("alphabet", tx L), ("pairs", .ref q)]) := by
    rw [e4, upd_same]
    rfl
  have hq4 : H4 q = some (.lst (rfs rs)) := by
    rw [e4, upd_ne qx]
    exact upd_same
  have st4 : KT.StN x H2 H4 := by
    rw [e4]
    exact (KT.StN.of (.of s3)).trans KT.StN.upd
  have hp4 : H4 p = some (.tup (rfs rs)) := st4 _ _ np hp2 (fun ps z => nomatch z)
  have hT4 : Tws H4 rs := fun r hr => by
    obtain ⟨h1, h2⟩ := hT2 r hr
    have h1' : H2 r.1 = some (.tup (r.2.map tx)) := h1
    have nr : r.1 ≠ x := fun z => by
      rw [z, hx2] at h1'
      cases h1'
    exact ⟨st4 _ _ nr h1' (fun ps z => nomatch z), h2⟩
  have tb4 : LamX.Tabs T H4 := by
    rw [e4]
    exact KT.tabs_ins (tb2.ext s3) hx3
  have nwq : KT.New H1 q := fun o ho => by
    by_cases ht : ∃ ps, o = .tbl ps
    · exact ht
    · have z := st2 _ _ qx ho (fun ps z => ht ⟨ps, z⟩)
      rw [nq] at z
      cases z
  refine ⟨_, rfl, SX.S L, rfl, asc_le hl, ?_⟩
  rw [tx_len]
  refine ⟨_, rfl, p, rfl, ⟨_, SqT.of hp4⟩, fun Dl nD => ?_⟩
  refine KT.lc_rows (e := fun r : Addr × List (List Nat) => V.ref r.1) (walk_tup (K := K) (a := p)) (te := tCall spDiff [] E0 (tCons (tVar 4) (tCons (tVar 1) tNil))) (σ := [some (.ref x), some (tx L), some (.ref p), y3, y4]) (i := 4) (fun r => df L r.2) (Nat.lt_of_le_of_lt (Nat.le_trans g6 (by decide : 6 ≤ 100)) (by decide)) nD (fun H5 s5 => SqT.of (s5 _ _ hp4)) ?_ ?_
  · intro r H5 Q5 hr5 s5 hQ
    exact ⟨_, rfl, _, rfl, r, L, rfl, ((hT4 r hr5).1.same s5), gok r hr5, hL, gl.2, fun H6 pr s6 nr hpr => hQ H6 pr s6 hpr⟩
  · intro H5 ys s5 hR ey
    have hx5 := s5 _ _ hx4
    have ely : ys.length = rs.length := by
      have z := congrArg List.length ey
      rw [List.length_map, List.length_map] at z
      exact z
    have tb5 := tb4.ext s5
    refine KT.mk_read2 (K := K) (C := CT) (T := T) (l := Dl) (wd := L.length) (E := E0) ⟨ys, 6, 6, hR.ri, tb5, gl.1, gl.2, by decide, by decide, by omega, ?_, ?_⟩
    · intro r hr5
      rw [ey] at hr5
      obtain ⟨z, hz, rfl⟩ := List.mem_map.mp hr5
      exact df_bd (gok z hz)
    · rintro H6 xt qt fs rest e6 t6 nw6 tj hFd hN hl6 xt' ext
      have hx6 := e6 _ _ hx5 (fun ps z => nomatch z)
      refine ⟨_, rfl, x, C, dx, _, rfl, hx6, TC.cl, TC.gr, (by show 2 < 1000; decide), ?_⟩
      have st6 : KT.StN x H4 H6 := (KT.StN.of (.of s5)).trans (KT.StN.of e6)
      have hq6 : H6 q = some (.lst (rfs rs)) := e6 _ _ (s5 _ _ hq4) (fun ps z => nomatch z)
      have ew : KT.rw_ ys = (wds rs).map (df L) := by
        show _ = List.map _ (List.map _ rs)
        rw [List.map_map]
        exact ey
      have ntx : xt ≠ x := fun z => by
        obtain ⟨dt, hti⟩ := tj.ins
        rw [z, hx6] at hti
        have h0 : HO.ins C dx (putF "pairs" (.ref q) [("alphabet", tx L)]) = HO.ins CT dt (KT.flds L.length qt (KT.rw_ fs)) := Option.some.inj hti
        injection h0 with _ _ h1
        have h2 : (2 : Nat) = 3 := congrArg List.length h1
        omega
      have gd : Gd CT H6 xt L (wds rs) := ⟨qt, fs, rest, tj, hFd, by rw [← ew]; exact hN, hl6⟩
      obtain rfl : xt = xt' := by injection ext
      refine nx _ q xt _ (((st2.trans st4).trans st6).trans KT.StN.upd) (KT.tabs_ins t6 hx6) nwq ?_ ?_ (gd.st KT.StN.upd ⟨_, _, _, hx6⟩ ntx)
      · rw [upd_ne qx]
        exact hq6
      · rw [upd_same]
        rfl
end
end K31
set_option maxRecDepth 100000
set_option maxHeartbeats 2000000
namespace K31
open PySem PySem.Spec PyProof.Rows L2 KA
/-- what Town.__init__ is told, by positional values -/
def spTown (K : PySem.W.Frag) (C CG CU CT : Addr) (T : List (Addr × Str)) : Sp := fun vs H Q E => ∃ (ws rest : List V), vs = ws ++ rest ∧ ws.length = 2 ∧ rest.length ≤ sizeLine ∧ ∀ p, H p = Option.none → spTB K C CG CU CT T (ws ++ [V.ref p]) (upd H p (.tup rest)) Q E
/-- what Town.__init__ calls -/
structure Ti (P : Program) (w : World) (K : PySem.W.Frag) (mg : Str → Option Value) (base : Heap) (C CG CU CT fG fU fT fCk fRu fDf : Addr) (fdG fdU fdT fdCk fdRu fdDf : FuncData) (T : List (Addr × Str)) (mc u6 : Value) : Prop where
  B : Bn mg
  TC : TwC K C
  gC : mg "Town" = some (.ref C)
  rd : ClX.CRead K C mc
  m6 : ClX.CVal K C mc "MOST" (.int 6) u6
  RU : Er P w K mg base "InvalidRule" tagU CU fU fdU
  ck : KT.Cb P w K mg base (L2.CX P w) 3 "check_letters" ["letters"] (spChkL CG) fCk fdCk
  ru : KT.Cb P w K mg base CX0 4 "is_rule" ["rule", "letters"] spRule fRu fdRu
  M : Mk K CT fT
  gT : mg "Table" = some (.ref CT)
  GI : FnOk P w K mg base CX0 6 fT fdT ["self", "width", "rows"] (KT.spInit K CT T)
  bI : Binds K fdT ["self", "width", "rows"] []
  df : KT.Cb P w K mg base CX0 2 "difference" ["rule", "letters"] spDiff fDf fdDf
section
variable {P : Program} {w : World} {K : PySem.W.Frag} {mg : Str → Option Value} {base : Heap}
variable {f C CG CU CT fG fU fT fCk fRu fDf : Addr} {fdG fdU fdT fdCk fdRu fdDf : FuncData} {T : List (Addr × Str)} {mc u6 : Value}
theorem ok_town {oc kV doc pm ct cdv : Value} {an od : Option Addr} {osl : Array (Option Value)} (lk : K.lookup f = some ⟨oc, od, .func (PySem.W.fnOf "__init__" "Town.__init__" (defArgs sTI) (defBody sTI) (defScope sTI) .none kV doc pm an cdv ct), osl⟩) (hcd : PySem.W.codeIn K cdv "Town.__init__" = true)
    (I : Ti P w K mg base C CG CU CT fG fU fT fCk fRu fDf fdG fdU fdT fdCk fdRu fdDf T mc u6) : FnR P w K mg base (L2.CX P w) 8 f (spTown K C CG CU CT T) := by
  refine StX.fn_star (ps := ["self", "letters"]) (pv := "rules") (N := NT) lk hcd scTI StX.cxUp (StX.bind_star2 (B := fun us => bindArgs (PySem.W.fnOf "__init__" "Town.__init__" (defArgs sTI) (defBody sTI) (defScope sTI) .none kV doc pm an cdv ct) ⟨us, []⟩) (fun a b => rfl) (fun a b r rs => by kernel_rfl)) (fun A outer s H vs Q E hr h => ?_)
  obtain ⟨x, dx, p, L, rs, rfl, hx, hp, hT, h100, tb, hl, hA, hLt, qG, qU, q⟩ := h
  have r2 : Room 2 (A.deeper (envOfC "Town.__init__" (defScope sTI) s.heap.objs.size f cdv)) := hr.mono (by decide)
  have r3 : Room 3 (A.deeper (envOfC "Town.__init__" (defScope sTI) s.heap.objs.size f cdv)) := hr.mono (by decide)
  have r4 : Room 4 (A.deeper (envOfC "Town.__init__" (defScope sTI) s.heap.objs.size f cdv)) := hr.mono (by decide)
  obtain ⟨t2, p2, q2⟩ := ti_tail (f := f) (cdv := cdv) (outer := outer) (H := H) (E := E) I.B I.TC I.M I.gT I.GI I.bI I.df hr
  refine ⟨_, pss_cons (ps_expr (pe_call I.ck.ok r3 (by rfl) I.ck.g I.ck.kp I.ck.b .nil (passes_call (W := fun cls d _ H => E cls d H) (takes_of rfl rfl rfl rfl) (fun _ _ _ _ h => h)) (pa_cons (pv 1) pa_nil)))
    (pss_cons (ps_for (passes_of rfl) rfl (Rs.pi_enumT (by rfl) I.B.enum (pa_cons (pv 2) pa_nil))
      (pg_tup rfl (pgs_cons (pg_name (i := 3) scTI.nd rfl (.inl rfl)) (pgs_cons (pg_name (i := 4) scTI.nd rfl (.inl rfl)) pgs_nil)))
      (pss_one (ps_if (PW.pt (pw_or (pt_cmpR op_eq (pv 3) (ClX.pe_cval (pe_glob (v := .ref C) (by rfl) I.gC rfl)) (nomark _)) (pw_or1 (pt_not (pt_val (pe_call I.ru.ok r4 (by rfl) I.ru.g I.ru.kp I.ru.b .nil pass0 (pa_cons (pv 4) (pa_cons (pv 1) pa_nil))))))))
        (pss_one (s_raise (E := E) I.RU.T I.RU.G I.RU.b r2 rfl (takes_of rfl rfl rfl rfl) (by rfl) (pv 3) pass0 var_mono)) pss_nil))) p2), ?_⟩
  refine ⟨_, rfl, L, rfl, hl, hA, fun h0 hg H1 s1 => ?_, fun i hw => qG i hw⟩
  have gL : GoodL L := ⟨h0, hg⟩
  have hL := hLt gL
  have hp1 := s1 _ _ hp
  refine ⟨_, rfl, p, _, rfl, SqT.of hp1, ?_⟩
  refine for_it (Rs.walk_enumT (K := K) (a := p) (xs := rfs rs)) (fun i σ H2 => ∃ y3 y4, σ = [some (.ref x), some (tx L), some (.ref p), y3, y4] ∧ Same H H2 ∧ ∀ j, j < i → badU L (wds rs) j = false)
    ⟨none, none, rfl, s1, fun j hj => absurd hj (Nat.not_lt_zero _)⟩ (fun i σ H2 _ h => ?_) ?_ ?_
  · obtain ⟨_, _, _, sm, _⟩ := h
    exact SqT.of (sm _ _ hp)
  · rintro i v σ H2 H2' hi ⟨y3, y4, rfl, sm, hok⟩ ⟨Tp, x1, x2, rfl, nT, rfl, e1, e2⟩
    obtain rfl : V.int (i : Nat) = x1 := Option.some.inj e1
    rw [List.length_map] at hi
    have gl : rs[i]? = some rs[i] := List.getElem?_eq_getElem hi
    obtain rfl : V.ref rs[i].1 = x2 := by
      have z : (rfs rs)[i]? = some x2 := e2
      rw [List.getElem?_map, gl] at z
      exact Option.some.inj z
    have hm : rs[i] ∈ rs := List.getElem_mem hi
    have gd : (wds rs).getD i [] = rs[i].2 := by
      rw [List.getD_eq_getElem?_getD, List.getElem?_map, gl]
      rfl
    generalize rs[i] = r at gl hm gd
    have sT : Same H2 (upd H2 Tp (.tup [.int (i : Nat), .ref r.1])) := same_new nT
    have sm2 := sm.trans sT
    have raise : ∀ H3, Same H H3 → badU L (wds rs) i = true → Fl CU tagU "at" (.int (i : Nat)) H3 E := fun H3 s3 hb => (qU gL i hi hb hok).of s3
    have next : badU L (wds rs) i = false → ∀ j, j < i + 1 → badU L (wds rs) j = false := fun hb j hj => by
      by_cases hj2 : j < i
      · exact hok j hj2
      · have ej : j = i := by omega
        rw [ej]
        exact hb
    refine ⟨Tp, _, rfl, SqT.of upd_same, rfl, _, _, rfl, _, _, rfl, rfl, ?_⟩
    refine ⟨_, rfl, C, mc, _, u6, rfl, I.rd, I.m6, rfl, ?_⟩
    by_cases h6 : i = 6
    · refine ⟨true, congrArg V.bl (decide_eq_true (by rw [h6]; rfl)), iteT (iteT ⟨_, rfl, raise _ sm2 ?_⟩)⟩
      unfold badU
      rw [decide_eq_true h6]
      rfl
    refine ⟨false, congrArg V.bl (decide_eq_false fun z => h6 (by injection z with z; omega)), iteF ?_⟩
    have hr2 := (hT.same sm2) r hm
    refine ⟨_, rfl, _, rfl, r, L, rfl, hr2.1, hr2.2.1, hr2.2.2, hL, fun H3 s3 => ⟨_, rfl, ?_⟩⟩
    have bd : badU L (wds rs) i = !(okR L r.2) := by
      unfold badU
      rw [gd, decide_eq_false h6]
      rfl
    cases ho : okR L r.2 with
    | true =>
      refine iteF ⟨_, _, rfl, sm2.trans s3, next ?_⟩
      rw [bd, ho]
      rfl
    | false =>
      refine iteT ⟨_, rfl, raise _ (sm2.trans s3) ?_⟩
      rw [bd, ho]
      rfl
  · rintro σ H2 ⟨y3, y4, rfl, sm, hok⟩
    have gU : GoodU L (wds rs) := fun i hi => hok i (by rw [List.length_map] at hi ⊢; exact hi)
    refine q2 _ H2 x dx p L rs y3 y4 (sm _ _ hx) (sm _ _ hp) (hT.same sm) (tb.ext sm) hL hl gL gU fun H' q' t' σ' st tb' nw hq hx' hgd => ?_
    refine q gL gU H' q' t' ((KT.StN.of (.of sm)).trans st) tb' (KT.New.ext (.of sm) nw) hq hx' hgd
end
end K31
set_option maxRecDepth 100000
set_option maxHeartbeats 2000000
namespace K31
open PySem PySem.Spec PyProof.Rows L2 KA
/-! rules as data -/
def dW (r : List (List Nat)) : PyData := .tuple (r.map fun l => .str (SX.S l))
def dWs (rs : List (List (List Nat))) : PyData := .list (rs.map dW)
theorem str_ok {l : List Nat} (h : Asc l) : PyData.strOk (SX.S l) = true := by
  unfold PyData.strOk
  rw [Array.all_eq_true']
  intro c hc
  have hc2 : c ∈ l := by
    have : c ∈ (SX.S l).cps.toList := by simpa using hc
    exact this
  have := h c hc2
  exact decide_eq_true (by omega)
theorem lay_wds : ∀ r : List (List Nat), (∀ l ∈ r, Asc l) → PyData.canLayAll0 (r.map fun l => PyData.str (SX.S l)) = true
  | [], _ => by simp [PyData.canLayAll0]
  | x :: r, h => by simp [PyData.canLayAll0, PyData.canLay0, str_ok (h x List.mem_cons_self), lay_wds r fun l hl => h l (List.mem_cons_of_mem _ hl)]
theorem depth_wds : ∀ r : List (List Nat), PyData.depthAll (r.map fun l => PyData.str (SX.S l)) ≤ 1
  | [] => by simp [PyData.depthAll]
  | x :: r => by
    have h1 := depth_wds r
    simp only [List.map_cons, PyData.depthAll, PyData.depth]
    omega
theorem lay_rls : ∀ rs : List (List (List Nat)), (∀ r ∈ rs, ∀ l ∈ r, Asc l) → PyData.canLayAll0 (rs.map dW) = true
  | [], _ => by simp [PyData.canLayAll0]
  | x :: r, h => by simp [PyData.canLayAll0, dW, PyData.canLay0, lay_wds x (h x List.mem_cons_self), lay_rls r fun z hz => h z (List.mem_cons_of_mem _ hz)]
theorem depth_rls : ∀ rs : List (List (List Nat)), PyData.depthAll (rs.map dW) ≤ 2
  | [] => by simp [PyData.depthAll]
  | x :: r => by
    have h1 := depth_rls r
    have h2 := depth_wds x
    simp only [List.map_cons, PyData.depthAll, PyData.depth, dW]
    omega
theorem shaped_rls {rs : List (List (List Nat))} (h : ∀ r ∈ rs, ∀ l ∈ r, Asc l) : SeqAt.shaped (dWs rs) = true := by
  have h1 := depth_rls rs
  have h2 : PyData.depth (dWs rs) ≤ 64 := by
    unfold dWs
    simp only [PyData.depth]
    omega
  show (PyData.canLay0 (dWs rs) && decide (PyData.depth (dWs rs) ≤ 64)) = true
  rw [Bool.and_eq_true]
  exact ⟨by unfold dWs; simp only [PyData.canLay0]; exact lay_rls rs h, decide_eq_true h2⟩
theorem str_eqv (a b : List Nat) : PyData.eqv (.str (SX.S a)) (.str (SX.S b)) = decide (a = b) := by
  simp only [PyData.eqv]
  rw [SX.S_beq_eq]
theorem eqv_wds : ∀ r s : List (List Nat), PyData.eqvAll (r.map fun l => PyData.str (SX.S l)) (s.map fun l => PyData.str (SX.S l)) = decide (r = s)
  | [], [] => by simp [PyData.eqvAll]
  | [], _ :: _ => by simp [PyData.eqvAll]
  | _ :: _, [] => by simp [PyData.eqvAll]
  | x :: r, y :: s => by
    rw [List.map_cons, List.map_cons]
    simp only [PyData.eqvAll]
    rw [eqv_wds r s, str_eqv]
    by_cases h1 : x = y
    · by_cases h2 : r = s
      · simp [h1, h2]
      · simp [h1, h2]
    · simp [h1]
theorem eqv_rlsL : ∀ r s : List (List (List Nat)), PyData.eqvAll (r.map dW) (s.map dW) = decide (r = s)
  | [], [] => by simp [PyData.eqvAll]
  | [], _ :: _ => by simp [PyData.eqvAll]
  | _ :: _, [] => by simp [PyData.eqvAll]
  | x :: r, y :: s => by
    rw [List.map_cons, List.map_cons]
    have e : PyData.eqv (dW x) (dW y) = decide (x = y) := by
      unfold dW
      simp only [PyData.eqv]
      exact eqv_wds x y
    simp only [PyData.eqvAll]
    rw [eqv_rlsL r s, e]
    by_cases h1 : x = y
    · by_cases h2 : r = s
      · simp [h1, h2]
      · simp [h1, h2]
    · simp [h1]
theorem eqv_rls (r s : List (List (List Nat))) : PyData.eqv (dWs r) (dWs s) = decide (r = s) := by
  unfold dWs
  simp only [PyData.eqv]
  exact eqv_rlsL r s
theorem dp_wds {K : PySem.W.Frag} {H : Hp} : ∀ r : List (List Nat), DpAll K H (r.map tx) (r.map fun l => PyData.str (SX.S l))
  | [] => .nil
  | x :: r => .cons (.str _) (dp_wds r)
theorem dp_rlsL {K : PySem.W.Frag} {H : Hp} : ∀ rs : Rls, (∀ x ∈ rs, TW H x) → DpAll K H (rfs rs) ((wds rs).map dW)
  | [], _ => .nil
  | x :: r, h => .cons (.tup (SqT.of (h x List.mem_cons_self)) (dp_wds x.2)) (dp_rlsL r fun y hy => h y (List.mem_cons_of_mem _ hy))
theorem dp_rls {K : PySem.W.Frag} {H : Hp} {q : Addr} {rs : Rls} (h : H q = some (.lst (rfs rs))) (hT : ∀ x ∈ rs, TW H x) : Dp K H (.ref q) (dWs (wds rs)) := .lst (SqL.of h) (dp_rlsL rs hT)
/-- a town at x -/
structure Tn (C CT : Addr) (H : Hp) (x : Addr) (L : List Nat) (q : Addr) (rs : Rls) : Prop where
  ins : ∃ dx t, H x = some (.ins C dx (fTown L q t))
  lst : H q = some (.lst (rfs rs))
  row : ∀ r ∈ rs, TW H r
  sz : rs.length ≤ 6
  lz : L.length ≤ 3
  as : ∀ r ∈ wds rs, ∀ l ∈ r, Asc l
  tab : ∃ dx t, H x = some (.ins C dx (fTown L q t)) ∧ Gd CT H t L (wds rs)
theorem Tn.ext {C CT : Addr} {H H' : Hp} {x q : Addr} {L : List Nat} {rs : Rls} (h : Tn C CT H x L q rs) (e : LamX.ExtN H H') : Tn C CT H' x L q rs := by
  have tb : ∃ dx t, H' x = some (.ins C dx (fTown L q t)) ∧ Gd CT H' t L (wds rs) := by
    obtain ⟨dx, t, h1, h2⟩ := h.tab
    exact ⟨dx, t, e _ _ h1 (fun ps z => nomatch z), h2.ext e⟩
  obtain ⟨dx, t, h1⟩ := h.ins
  refine ⟨⟨dx, t, e _ _ h1 (fun ps z => nomatch z)⟩, e _ _ h.lst (fun ps z => nomatch z), fun r hr => ?_, h.sz, h.lz, h.as, tb⟩
  have z : H r.1 = some (.tup (r.2.map tx)) := h.row r hr
  exact e _ _ z (fun ps z => nomatch z)
theorem Tn.same {C CT : Addr} {H H' : Hp} {x q : Addr} {L : List Nat} {rs : Rls} (h : Tn C CT H x L q rs) (s : Same H H') : Tn C CT H' x L q rs := h.ext (.of s)
abbrev sTW : Stmt := KT.inside (top 69) 4
abbrev sTR : Stmt := KT.inside (top 69) 6
abbrev sTwr : Stmt := KT.inside (top 69) 11
abbrev sTL : Stmt := KT.inside (top 69) 16
abbrev sTE : Stmt := KT.inside (top 69) 17
abbrev sTP : Stmt := KT.inside (top 69) 18
theorem scTW : FnScope ["self"] ["self"] (defScope sTW) := ⟨rfl, rfl, rfl, by decide +kernel, rfl, by decide +kernel, by decide +kernel⟩
theorem scTR : FnScope ["self"] ["self"] (defScope sTR) := ⟨rfl, rfl, rfl, by decide +kernel, rfl, by decide +kernel, by decide +kernel⟩
theorem scTL : FnScope ["self"] ["self"] (defScope sTL) := ⟨rfl, rfl, rfl, by decide +kernel, rfl, by decide +kernel, by decide +kernel⟩
theorem scTE : FnScope ["self", "other"] ["self", "other"] (defScope sTE) := ⟨rfl, rfl, rfl, by decide +kernel, rfl, by decide +kernel, by decide +kernel⟩
theorem scTP : FnScope ["self"] ["self"] (defScope sTP) := ⟨rfl, rfl, rfl, by decide +kernel, rfl, by decide +kernel, by decide +kernel⟩
def spTW (C CT : Addr) : Sp := fun vs H Q _ => ∃ (x q : Addr) (L : List Nat) (rs : Rls), vs = [.ref x] ∧ Tn C CT H x L q rs ∧ Q (.int (L.length : Nat)) H
def spTL (C CT : Addr) : Sp := fun vs H Q _ => ∃ (x q : Addr) (L : List Nat) (rs : Rls), vs = [.ref x] ∧ Tn C CT H x L q rs ∧ Q (.int (rs.length : Nat)) H
def spTR (C CT : Addr) : Sp := fun vs H Q _ => ∃ (x q : Addr) (L : List Nat) (rs : Rls), vs = [.ref x] ∧ Tn C CT H x L q rs ∧ ∀ l, H l = none → Q (.ref l) (upd H l (.lst (rfs rs)))
/-- what == tells -/
def EqTn (C CT : Addr) (a : Addr) (y : V) (H : Hp) (k : Bool) : Prop := ∃ (q : Addr) (L : List Nat) (rs : Rls), Tn C CT H a L q rs ∧ ((∃ (b q' : Addr) (L' : List Nat) (rs' : Rls), y = .ref b ∧ Tn C CT H b L' q' rs' ∧ k = (decide (L = L') && decide (wds rs = wds rs'))) ∨ (Rs.Fgn H y ∧ k = false))
def txT (n m : Nat) : Str := Str.empty ++ Str.ofString "Town(" ++ Str.ofString (toString ((n : Nat) : Int)) ++ Str.ofString " letters, " ++ Str.ofString (toString ((m : Nat) : Int)) ++ Str.ofString " rules)"
def spTP (C CT : Addr) : Sp := fun vs H Q _ => ∃ (x q : Addr) (L : List Nat) (rs : Rls), vs = [.ref x] ∧ Tn C CT H x L q rs ∧ Q (.str (txT L.length rs.length)) H
/-- what isinstance asks of the class -/
structure ICl (K : PySem.W.Frag) (C : Addr) : Prop where
  ha : PySem.W.findIn K (.ref C) "__class__" = some (some (.builtin "object.__class__"))
  hn : PySem.W.specialIn K (.builtin "object.__class__") "__get__" = some (some (.builtin "getset_descriptor.__get__"))
  htk : PySem.W.takesIn K (.builtin "object.__class__") = some true
  hm : PySem.W.mroIn K C (.type "object") = some true
  kC : PySem.W.kitOne K (.ref C) (.ref C) = some true
  kN : PySem.W.kitOne K (.type "NoneType") (.ref C) = some false
  kI : PySem.W.kitOne K (.type "int") (.ref C) = some false
  kS : PySem.W.kitOne K (.type "str") (.ref C) = some false
  kL : PySem.W.kitOne K (.type "list") (.ref C) = some false
section
variable {P : Program} {w : World} {K : PySem.W.Frag} {mg : Str → Option Value} {base : Heap}
theorem ok_tw {f C : Addr} {fd : FuncData} {k : Nat} (F : Fun K "width" "Town.width" sTW f fd) (B : Bn mg) (TC : TwC K C) : FnOk P w K mg base CX0 (k + 1) f fd ["self"] (spTW C CT) := by
  refine F.ok scTW (fun vs H Q E h => ?_) (fun cdv A outer s H vs Q E hr h => ?_)
  · obtain ⟨x, q, L, rs, rfl, _⟩ := h
    rfl
  · obtain ⟨x, q, L, rs, rfl, hT, qq⟩ := h
    obtain ⟨dx, t, hx⟩ := hT.ins
    refine ⟨_, pss_one (ps_ret (pe_callB call_len_str (by rfl) B.len PySem.boot_len (pa_cons (pe_fld (pv 0) rfl) pa_nil))), ?_⟩
    refine ⟨_, rfl, x, C, dx, _, tx L, rfl, hx, TC.cl, TC.al, rfl, SX.S L, rfl, asc_le (by have := hT.lz; omega), ?_⟩
    rw [tx_len]
    exact qq
theorem ok_tl {f C : Addr} {fd : FuncData} {k : Nat} (F : Fun K "__len__" "Town.__len__" sTL f fd) (B : Bn mg) (TC : TwC K C) : FnOk P w K mg base CX0 (k + 1) f fd ["self"] (spTL C CT) := by
  refine F.ok scTL (fun vs H Q E h => ?_) (fun cdv A outer s H vs Q E hr h => ?_)
  · obtain ⟨x, q, L, rs, rfl, _⟩ := h
    rfl
  · obtain ⟨x, q, L, rs, rfl, hT, qq⟩ := h
    obtain ⟨dx, t, hx⟩ := hT.ins
    refine ⟨_, pss_one (ps_ret (pe_callB call_len_seq (by rfl) B.len PySem.boot_len (pa_cons (pe_fld (pv 0) rfl) pa_nil))), ?_⟩
    refine ⟨_, rfl, x, C, dx, _, .ref q, rfl, hx, TC.cl, TC.pa, rfl, q, _, rfl, .inl (SqL.of hT.lst), ?_⟩
    rw [List.length_map]
    exact qq
theorem ok_tr {f C : Addr} {fd : FuncData} {k : Nat} (F : Fun K "rules" "Town.rules" sTR f fd) (B : Bn mg) (TC : TwC K C) : FnOk P w K mg base CX0 (k + 1) f fd ["self"] (spTR C CT) := by
  refine F.ok scTR (fun vs H Q E h => ?_) (fun cdv A outer s H vs Q E hr h => ?_)
  · obtain ⟨x, q, L, rs, rfl, _⟩ := h
    rfl
  · obtain ⟨x, q, L, rs, rfl, hT, qq⟩ := h
    obtain ⟨dx, t, hx⟩ := hT.ins
    refine ⟨_, pss_one (ps_ret (pe_callTy call_list_of (by rfl) B.list boot_list (pa_cons (pe_fld (pv 0) rfl) pa_nil))), ?_⟩
    exact ⟨_, rfl, x, C, dx, _, .ref q, rfl, hx, TC.cl, TC.pa, rfl, q, _, rfl, .inl (SqL.of hT.lst), qq⟩
theorem ok_te {f C : Addr} {fd : FuncData} {k : Nat} (F : Fun K "__eq__" "Town.__eq__" sTE f fd) (B : Bn mg) (TC : TwC K C) (gC : mg "Town" = some (.ref C)) (IC : ICl K C) :
    FnOk P w K mg base CX0 (k + 2) f fd ["self", "other"] (Rs.spEqB (EqTn C CT)) := by
  refine F.ok scTE (fun vs H Q E h => ?_) (fun cdv A outer s H vs Q E hr h => ?_)
  · obtain ⟨a, y, k, rfl, _⟩ := h
    rfl
  · obtain ⟨a, y, kk, rfl, ⟨q, L, rs, hT, hy⟩, qq⟩ := h
    obtain ⟨dx, t, hx⟩ := hT.ins
    refine ⟨_, pss_one (ps_ret (pe_and (pe_callB call_isi (by rfl) B.isinst boot_isinstance (pa_cons (pv 1) (pa_cons (pe_glob (v := .ref C) rfl gC rfl) pa_nil)))
      (pe_and (pe_cmpR op_eq (pe_fld (pv 0) rfl) (pe_fld (pv 1) rfl) (nomark _)) (pe_one (pe_cmpR (op_eqD hr.units) (pe_fld (pv 0) rfl) (pe_fld (pv 1) rfl) (nomark _)))))), ?_⟩
    rcases hy with ⟨b, q', L', rs', rfl, hT', rfl⟩ | ⟨hf, rfl⟩
    · obtain ⟨dy, t', hy⟩ := hT'.ins
      refine ⟨_, rfl, _, _, _, _, true, rfl, .own C, .base (.ins hy TC.cl IC.ha IC.hn IC.htk IC.hm), IC.kC, true, rfl, iteT ?_⟩
      refine ⟨_, rfl, a, C, dx, _, tx L, rfl, hx, TC.cl, TC.al, rfl, _, rfl, b, C, dy, _, tx L', rfl, hy, TC.cl, TC.al, rfl, rfl, _, rfl, ?_⟩
      have e1 : decide (tx L = tx L') = decide (L = L') := by
        by_cases h : L = L'
        · rw [h, decide_eq_true rfl, decide_eq_true rfl]
        · rw [decide_eq_false h, decide_eq_false]
          intro z
          injection z with z
          exact h (SX.S_inj z)
      rw [e1]
      by_cases h : L = L'
      · rw [decide_eq_true h] at qq ⊢
        refine iteT ?_
        refine ⟨_, rfl, a, C, dx, _, .ref q, rfl, hx, TC.cl, TC.pa, rfl, _, rfl, b, C, dy, _, .ref q', rfl, hy, TC.cl, TC.pa, rfl, _, _, dp_rls hT.lst hT.row, dp_rls hT'.lst hT'.row, shaped_rls hT.as, shaped_rls hT'.as, ?_⟩
        rw [eqv_rls]
        exact qq H Ext.rfl'
      · rw [decide_eq_false h] at qq ⊢
        exact iteF (qq H Ext.rfl')
    · rcases hf with rfl | ⟨i, rfl⟩ | ⟨t, rfl⟩ | ⟨l, xs, rfl, hl⟩
      · exact ⟨_, rfl, _, _, _, _, false, rfl, .own C, .base .non, IC.kN, false, rfl, iteF (qq H Ext.rfl')⟩
      · exact ⟨_, rfl, _, _, _, _, false, rfl, .own C, .base (.int i), IC.kI, false, rfl, iteF (qq H Ext.rfl')⟩
      · exact ⟨_, rfl, _, _, _, _, false, rfl, .own C, .base (.str t), IC.kS, false, rfl, iteF (qq H Ext.rfl')⟩
      · exact ⟨_, rfl, _, _, _, _, false, rfl, .own C, .base (.lst hl), IC.kL, false, rfl, iteF (qq H Ext.rfl')⟩
theorem fit0 : Str.empty.length ≤ 0 := Nat.le_refl _
theorem fit2 {a b : Str} {m n k : Nat} (h1 : a.length ≤ m) (h2 : b.length ≤ n) (h : m + n ≤ k) : (a ++ b).length ≤ k := by
  show (a.cps ++ b.cps).size ≤ k
  rw [Array.size_append]
  have h1 : a.cps.size ≤ m := h1
  have h2 : b.cps.size ≤ n := h2
  omega
theorem fitI (i : Int) (h : i.natAbs.log2 < 1920) : (Str.ofString (toString i)).length ≤ 2000 := by
  have e := PySem.int_text_length_le (k := 1920) (by decide) h
  rw [PySem.ofString_length]
  omega
theorem fits {a : Str} {k : Nat} (h : a.length ≤ k) (hk : k ≤ 16777216) : a.length ≤ sizeLine := by
  rw [sizeLine_eq]
  omega
theorem small8 (n : Nat) (h : n ≤ 8) : ((n : Nat) : Int).natAbs.log2 < 1920 := by
  match n, h with
  | 0, _ => decide
  | 1, _ => decide
  | 2, _ => decide
  | 3, _ => decide
  | 4, _ => decide
  | 5, _ => decide
  | 6, _ => decide
  | 7, _ => decide
  | 8, _ => decide
theorem ok_tp {f C : Addr} {fd : FuncData} {k : Nat} (F : Fun K "__repr__" "Town.__repr__" sTP f fd) (B : Bn mg) (TC : TwC K C) : FnOk P w K mg base CX0 (k + 1) f fd ["self"] (spTP C CT) := by
  refine F.ok scTP (fun vs H Q E h => ?_) (fun cdv A outer s H vs Q E hr h => ?_)
  · obtain ⟨x, q, L, rs, rfl, _⟩ := h
    rfl
  · obtain ⟨x, q, L, rs, rfl, hT, qq⟩ := h
    obtain ⟨dx, t, hx⟩ := hT.ins
    have z3 := hT.lz
    have z6 := hT.sz
    refine ⟨_, pss_one (ps_ret (pe_joined (.cons pe_str (.cons (pe_fmt (pe_callB call_len_str (by rfl) B.len PySem.boot_len (pa_cons (pe_fld (pv 0) rfl) pa_nil))) (.cons pe_str (.cons (pe_fmt (pe_callB call_len_seq (by rfl) B.len PySem.boot_len (pa_cons (pe_fld (pv 0) rfl) pa_nil))) (.cons pe_str .nil))))))), ?_⟩
    have lw := small8 L.length (by omega)
    have lm := small8 rs.length (by omega)
    have a0 : (Str.empty ++ Str.ofString "Town(").length ≤ 100 := fit2 (n := 100) fit0 (by decide +kernel) (by omega)
    have a1 := fit2 a0 (fitI _ lw) (Nat.le_refl _)
    have a2 := fit2 a1 (b := Str.ofString " letters, ") (n := 100) (by decide +kernel) (Nat.le_refl _)
    have a3 := fit2 a2 (fitI _ lm) (Nat.le_refl _)
    have a4 := fit2 a3 (b := Str.ofString " rules)") (n := 100) (by decide +kernel) (Nat.le_refl _)
    refine ⟨_, rfl, fits a0 (by decide), _, rfl, x, C, dx, _, tx L, rfl, hx, TC.cl, TC.al, rfl, SX.S L, rfl, asc_le (by omega), ?_⟩
    rw [tx_len]
    refine .inr ⟨_, rfl, lw, _, rfl, fits a1 (by decide), _, rfl, fits a2 (by decide), _, rfl, x, C, dx, _, .ref q, rfl, hx, TC.cl, TC.pa, rfl, q, _, rfl, .inl (SqL.of hT.lst), ?_⟩
    rw [List.length_map]
    exact .inr ⟨_, rfl, lm, _, rfl, fits a3 (by decide), _, rfl, fits a4 (by decide), qq⟩
end
end K31
set_option maxRecDepth 100000
set_option maxHeartbeats 2000000
namespace K31
open PySem PySem.Spec PyProof.Rows L2 KA
/-- what the making of a town is asked for and tells -/
structure MkTn (C CG CU CT : Addr) (T : List (Addr × Str)) (H : Hp) (L : List Nat) (rs : Rls) (E : XK) (Q' : Addr → Hp → Prop) : Prop where
  tws : Tws H rs
  asw : ∀ r ∈ wds rs, ∀ l ∈ r, Asc l
  len : rs.length ≤ 1000
  tab : LamX.Tabs T H
  ll : L.length ≤ 1000
  la : Asc L
  lt : GoodL L → Lt L
  eG : ∀ i, Wrong L i → Fl CG tagG "at" (.int (i : Nat)) H E
  eU : GoodL L → ∀ i, i < rs.length → badU L (wds rs) i = true → (∀ j, j < i → badU L (wds rs) j = false) → Fl CU tagU "at" (.int (i : Nat)) H E
  ok : GoodL L → GoodU L (wds rs) → ∀ (H' : Hp) (x q : Addr), LamX.ExtN H H' → LamX.Tabs T H' → KT.New H q → Tn C CT H' x L q rs → Q' x H'
theorem mk_town {K : PySem.W.Frag} {C CG CU CT : Addr} {T : List (Addr × Str)} {H : Hp} {L : List Nat} {rs : Rls} {E : XK} {Q' : Addr → Hp → Prop} (h : MkTn C CG CU CT T H L rs E Q') : ∀ x dx, H x = Option.none → H dx = Option.none → dx ≠ x →
    spTown K C CG CU CT T (V.ref x :: tx L :: rfs rs) (upd (upd H dx (.own x)) x (.ins C dx [])) (fun v H2 => v = .non ∧ Q' x H2) E := by
  intro x dx nx ndx ne
  have s1 : Same H (upd (upd H dx (.own x)) x (.ins C dx [])) := fun a o e => by
    rw [upd_ne (ne_of_none e nx), upd_ne (ne_of_none e ndx)]
    exact e
  refine ⟨[V.ref x, tx L], rfs rs, rfl, rfl, ?_, fun p np => ?_⟩
  · rw [List.length_map]
    exact Nat.le_trans h.len (by decide)
  have s2 := same_new (o := .tup (rfs rs)) np
  have s3 := s1.trans s2
  refine ⟨x, dx, p, L, rs, rfl, s2 _ _ upd_same, upd_same, h.tws.same s3, h.len, h.tab.ext s3, h.ll, h.la, h.lt, fun i hw => (h.eG i hw).of s3, fun gL i hi hb hj => (h.eU gL i hi hb hj).of s3, fun gL gU H' q t st tb nw hq hx hgd => ⟨rfl, ?_⟩⟩
  have eX : LamX.ExtN H H' := fun a o e ht => st a o (ne_of_none e nx) (s3 _ _ e) ht
  have g6 := good_six gU
  rw [List.length_map] at g6
  refine h.ok gL gU H' x q eX tb (KT.New.ext (.of s3) nw) ⟨⟨dx, t, hx⟩, hq, fun r hr => ?_, g6, gL.len.2, h.asw, ⟨dx, t, hx, hgd⟩⟩
  have z : H r.1 = some (.tup (r.2.map tx)) := (h.tws r hr).1
  exact eX _ _ z (fun ps z => nomatch z)
/-- rules that may stand, more or fewer, in any order -/
theorem good_of {L : List Nat} {ws : List (List (List Nat))} (h6 : ws.length ≤ 6) (h : ∀ r ∈ ws, okR L r = true) : GoodU L ws := by
  intro i hi
  unfold badU
  have e : ws.getD i [] = ws[i] := by
    rw [List.getD_eq_getElem?_getD, List.getElem?_eq_getElem hi]
    rfl
  rw [e, h _ (List.getElem_mem hi), decide_eq_false (by omega)]
  rfl
theorem good_all {L : List Nat} {ws : List (List (List Nat))} (h : GoodU L ws) : ∀ r ∈ ws, okR L r = true := by
  intro r hr
  obtain ⟨i, hi, rfl⟩ := List.getElem_of_mem hr
  have z := h i hi
  unfold badU at z
  have e : ws.getD i [] = ws[i] := by
    rw [List.getD_eq_getElem?_getD, List.getElem?_eq_getElem hi]
    rfl
  rw [e] at z
  simpa using (Bool.or_eq_false_iff.mp z).2
theorem good_no {L : List Nat} {ws : List (List (List Nat))} {i : Nat} {p : Prop} (h : GoodU L ws) (hi : i < ws.length) (hb : badU L ws i = true) : p := by
  rw [h i hi] at hb
  cases hb
theorem good_nw {L : List Nat} {i : Nat} {p : Prop} (h : GoodL L) (hw : Wrong L i) : p := by
  rcases hw with ⟨e, _⟩ | ⟨h1, h2, _⟩
  · exact absurd e h.1
  · rw [h.2 i h1] at h2
    cases h2
theorem MkTn.same {C CG CU CT : Addr} {T : List (Addr × Str)} {H H1 : Hp} {L : List Nat} {rs : Rls} {E : XK} {Q' : Addr → Hp → Prop} (h : MkTn C CG CU CT T H L rs E Q') (s : Same H H1) : MkTn C CG CU CT T H1 L rs E Q' :=
  ⟨h.tws.same s, h.asw, h.len, h.tab.ext s, h.ll, h.la, h.lt, fun i hw => (h.eG i hw).of s, fun gL i hi hb hj => (h.eU gL i hi hb hj).of s, fun gL gU H' x q eX tb nw hT => h.ok gL gU H' x q (LamX.ExtN.trans (.of s) eX) tb (KT.New.ext (.of s) nw) hT⟩
theorem Tws.ext {H H' : Hp} {rs : Rls} (h : Tws H rs) (e : LamX.ExtN H H') : Tws H' rs := fun r hr => by
  have z : H r.1 = some (.tup (r.2.map tx)) := (h r hr).1
  exact ⟨e _ _ z (fun ps z => nomatch z), (h r hr).2⟩
theorem take_more {α : Type} {l : List α} {i : Nat} {x : α} (h : l[i]? = some x) : l.take (i + 1) = l.take i ++ [x] := by
  rw [List.take_add_one, h]
  rfl
end K31
set_option maxRecDepth 100000
set_option maxHeartbeats 2000000
namespace K31
open PySem PySem.Spec PyProof.Rows L2 KA
theorem ln_no {n k : Nat} (h : n ≠ k) : decide (V.int ((n : Nat) : Int) = V.int ((k : Nat) : Int)) = false := decide_eq_false fun z => h (by injection z with z; omega)
theorem ln_yes {n : Nat} : decide (V.int ((n : Nat) : Int) = V.int ((n : Nat) : Int)) = true := decide_eq_true rfl
abbrev sLSide : Stmt := top 95
theorem scLSide : FnScope ["_law_box", "_law_letters_here", "_law_most"] ["_law_box", "_law_letters_here", "_law_most"] (defScope sLSide) := ⟨rfl, rfl, rfl, by decide +kernel, rfl, by decide +kernel, by decide +kernel⟩
section
variable {P : Program} {w : World} {K : PySem.W.Frag} {mg : Str → Option Value} {base : Heap}
theorem ok_lside {f fS : Addr} {fd fdS : FuncData} {k : Nat} (F : Fun K "_law_side" "_law_side" sLSide f fd) (cS : KT.Cb P w K mg base CX0 (k + 3) "_law_some_word" ["_law_box", "_law_letters_here", "_law_most"] spSome fS fdS) : FnOk P w K mg base CX0 (k + 4) f fd ["_law_box", "_law_letters_here", "_law_most"] spSome := by
  refine F.ok scLSide (fun vs H Q E h => ?_) (fun cdv A outer s H vs Q E hr h => ?_)
  · obtain ⟨b, m, L, most, rfl, _⟩ := h
    rfl
  · obtain ⟨b, m, L, most, rfl, h⟩ := h
    refine ⟨_, pss_one (ps_ret (pe_call cS.ok hr (by rfl) cS.g cS.kp cS.b .nil pass0 (pa_cons (pv 0) (pa_cons (pv 1) (pa_cons (pv 2) pa_nil))))), ?_⟩
    exact ⟨_, rfl, _, rfl, _, rfl, b, m, L, most, rfl, h⟩
end
end K31
set_option maxRecDepth 100000
set_option maxHeartbeats 1000000
namespace Rs
open PySem PySem.Spec PyProof.Rows L2
section
variable {X : Cx} {CX : CXT} {k : Nat} {f C fI : Addr} {fd : FuncData} {ps ks : List Str} {sp : Sp} {E : XK} {x m : Str} {o : Expr} {ta : TE} {p pos apos : Pos} {kws : List Keyword} {tk : TA} {g : List Value → List Value → List Value} {gV : List V → List V → List V}
/-- o.m(k = v, ..): keywords alone -/
def tMethK (C : Addr) (m : Str) (sp : Sp) (gV : List V → List V → List V) (E : XK) (ta : TE) (tk : TA) : TE := fun σ H Q => ta σ H fun x H1 => ∃ a dx fs, x = .ref a ∧ H1 a = some (.ins C dx fs) ∧ fs.lookup m = none ∧ tk σ H1 fun zs H2 => sp (gV [.ref a] zs) H2 Q E
theorem e_methK {pl : Sem Bool} (ho : PE X o ta) (c : Cls X.K C) (hm : Meth X.K C m f) (F : FnOk X.prog X.w X.K X.mg X.base CX k f fd ps sp) (hr : Room k X.A) (hb : KBinds X.K fd ps ks g gV) (hx : Passes CX X E) (hkw : PK X kws tk)
    (hall : (backToKw pos (keywordEach kws X.env)).all (·.1.isSome) = true := by rfl) (hks : (backToKw pos (keywordEach kws X.env)).filterMap (·.1) = ks := by rfl)
    (hpl : ((backTo pos (starEach [] X.env)).any (·.1) || (backToKw pos (keywordEach kws X.env)).any (·.1.isNone)) = false := by rfl)
    (ht : eval (.Call (.Attribute o m apos) [] kws pos) X.env = (do let ov ← eval o X.env; standAt apos.atName; let (f, first) ← holding [ov] (getMethod ov m pl); callWith pos f first (backTo pos (starEach [] X.env)) (backToKw pos (keywordEach kws X.env))) := by rfl) :
    PE X (.Call (.Attribute o m apos) [] kws pos) (tMethK C m sp gV E ta tk) := by
  refine ⟨fun pins s σ H Q I h => PySem.W.methodCall_KW (pl := pl) (thn (ho.run pins s σ H _ I h) fun u s1 ⟨y, H1, I1, ry, a, dx, fs, ey, ea, l, q⟩ => ?_) ht⟩
  subst ey
  obtain rfl : u = Value.ref a := ry
  refine getmeth_ok I1 ea c hm l (PySem.W.callWith_KW0 (first := [.ref a]) (h₀ := X.base) I.ok.mod.kin hm.kp hall (thn (hkw.run pos pins s1 σ H1 _ I1 q) ?_) hpl)
  rintro ws s2 ⟨zs, H2, I2, rz, q2⟩
  refine ⟨I2.kIn, ?_⟩
  rw [hks]
  exact run_fnk (us := [.ref a]) (vs := [.ref a]) F hr hb hx I2 (.cons rfl .nil) rz q2
/-- o.m() by a positional promise -/
theorem e_methR0 {pl : Sem Bool} (ho : PE X o ta) (c : Cls X.K C) (hm : Meth X.K C m f) (F : FnR X.prog X.w X.K X.mg X.base CX k f sp) (hr : Room k X.A) (hx : Passes CX X E)
    (ht : eval (.Call (.Attribute o m apos) [] [] pos) X.env = (do let ov ← eval o X.env; standAt apos.atName; let (f, first) ← holding [ov] (getMethod ov m pl); callWith pos f first (backTo pos (starEach [] X.env)) (backToKw pos (keywordEach [] X.env))) := by rfl) :
    PE X (.Call (.Attribute o m apos) [] [] pos) (tMethR C m sp E ta tNil) := by
  refine ⟨fun pins s σ H Q I h => PySem.W.methodCall_KW (pl := pl) (thn (ho.run pins s σ H _ I h) fun u s1 ⟨y, H1, I1, ry, a, dx, fs, ey, ea, l, q⟩ => ?_) ht⟩
  subst ey
  obtain rfl : u = Value.ref a := ry
  refine getmeth_ok I1 ea c hm l (PySem.W.callWith_K0 (first := [.ref a]) I1.kIn hm.kp ?_)
  exact wpAny_call (run_fnR (us := [.ref a]) (vs := [.ref a]) F hr hx I1 (.cons rfl .nil) q)
/-- self and one keyword -/
def two {α : Type} : List α → List α → List α
  | [x], [y] => [x, y]
  | _, _ => []
theorem two_rel {vs : List V} {us : List Value} {zs : List V} {ws : List Value} (r : Vals vs us) (rz : Vals zs ws) : Vals (two vs zs) (two us ws) := by
  match r, rz with
  | .cons r1 .nil, .cons r2 .nil => exact .cons r1 (.cons r2 .nil)
  | .nil, _ => exact .nil
  | .cons _ .nil, .nil => exact .nil
  | .cons _ .nil, .cons _ (.cons _ _) => exact .nil
  | .cons _ (.cons _ _), _ => exact .nil
/-- an own exception without arguments -/
theorem mk_oex0 (T : OexC X.K C) (iC : PySem.W.findIn X.K (.ref C) "__init__" = some (some (.ref fI))) (tI : PySem.W.typeIn X.K (.ref fI) = some (.type "function")) (F : FnOk X.prog X.w X.K X.mg X.base CX k fI fd ps sp) (hr : Room (k + 1) X.A) (hb : Binds X.K fd ps [])
    (hx : Passes CX X (fun _ _ _ => False)) (hg : Gl X x) (hm : X.mg x = some (.ref C)) (hdb : (x == ("__debug__" : Str)) = false := by decide) : PMk X (.Call (.Name x p) [] [] pos) (tMkO C sp [] tNil) := by
  rintro pins ⟨hp, g, dr, tk, os⟩ σ H Q I h
  obtain ⟨_, q1⟩ := h
  obtain ⟨n0, n1, N, n3, bm, n5, n6, n7, n8, n9, j0, j1, j2, j3, j5, hC, hbm⟩ := T.cls
  refine wpAny_Call_Name_kw (ld_glob I hg hm (PySem.W.callWith_K0 I.kIn T.kC ?_) hdb)
  have le1 : hp.objs.size ≤ hp.objs.size + 1 := by omega
  have hq := q1 (hp.objs.size + 1) (I.hok.fresh le1)
  have kk : ∀ b o, hp.get? b = some o → ((hp.push (PySem.W.kdv_tup [])).push (PySem.HandSPX.excO C hp.objs.size)).get? b = some o := fun b o e => Heap.get?_push_of_some _ (Heap.get?_push_of_some _ e)
  have gt : ((hp.push (PySem.W.kdv_tup [])).push (PySem.HandSPX.excO C hp.objs.size)).get? (hp.objs.size + 1) = some (PySem.HandSPX.excO C hp.objs.size) := by heap_get
  have I2 : Inv X pins σ (upd H (hp.objs.size + 1) (exo (hp.objs.size + 1) C none)) ⟨(hp.push (PySem.W.kdv_tup [])).push (PySem.HandSPX.excO C hp.objs.size), g, dr, tk, os⟩ := I.laid (a := hp.objs.size + 1) kk le1 (exo_ok gt)
  have rr : Vals [V.ref (hp.objs.size + 1)] [Value.ref (hp.objs.size + 1)] := .cons rfl .nil
  have hl : ([Value.ref (hp.objs.size + 1)] ++ []).length = ps.length := by
    have e := F.len _ _ _ _ hq
    exact e
  show wpAny _ _ (call (.ref C) []) _ _ _
  refine wpAny_call (PySem.HandSPX.call_own (rest := []) PySem.F.excBase_ValueError (fun Y => PySem.HandSPX.refsVE_contains Y bm hbm) (I.kIn _ _ hC) (PySem.W.looks_findIn I.kIn iC) (fun self => PySem.W.bind_fn I.kIn self tI) (Nat.zero_le _)
    (codeAny_mono (F.run _ X.stack _ _ ⟨[Value.ref (hp.objs.size + 1)], []⟩ [Value.ref (hp.objs.size + 1)] _ _ (fun _ _ _ => False) (hr.make C [] []) (I2.env0.make C [] []) (hb _ [Value.ref (hp.objs.size + 1)] I2.kIn hl) rr hq) fun r s' hq' => ?_))
  match r, hq' with
  | .error er, hq' => exact hx pins σ _ _ er s' I2 hq'
  | .ok (.ret u), hq' =>
    obtain ⟨v, H2, os2, bare2, un2, hok2, rv, ev, d, fs, ea, ed, hd1, q2⟩ := hq'
    subst ev
    obtain ⟨h2, g2, d2, t2, os'⟩ := s'
    exact ⟨rv, mk_end (raises_own T.exC T.tyC) I le1 kk un2 hok2 os2 bare2 ea ed hd1 q2⟩
  | .ok .next, hq' | .ok .brk, hq' | .ok .cont, hq' => exact False.elim hq'
end
end Rs
set_option maxRecDepth 100000
set_option maxHeartbeats 2000000
namespace K31
open PySem PySem.Spec PyProof.Rows L2 KA
theorem scTwr : FnScope ["self", "more", "rules"] ((["self"] : List Str) ++ (["more"] : List Str)) (defScope sTwr) := ⟨rfl, rfl, rfl, by decide +kernel, rfl, by decide +kernel, by decide +kernel⟩
def spWB (C CG CU CT : Addr) (T : List (Addr × Str)) : Sp := fun vs H Q E => ∃ (x q p : Addr) (L : List Nat) (rs ms : Rls), vs = [.ref x, .ref p] ∧ Tn C CT H x L q rs ∧ H p = some (.tup (rfs ms)) ∧ ms.length ≤ 50 ∧ MkTn C CG CU CT T H L (rs ++ ms) E (fun x' H' => Q (.ref x') H')
def spWr (C CG CU CT : Addr) (T : List (Addr × Str)) : Sp := fun vs H Q E => ∃ (ws rest : List V), vs = ws ++ rest ∧ ws.length = 1 ∧ rest.length ≤ sizeLine ∧ ∀ p, H p = Option.none → spWB C CG CU CT T (ws ++ [V.ref p]) (upd H p (.tup rest)) Q E
theorem MkTn.at {K : PySem.W.Frag} {C CG CU CT : Addr} {T : List (Addr × Str)} {H H1 : Hp} {L : List Nat} {rs : Rls} {E : XK} {Q' : Addr → Hp → Prop} (h : MkTn C CG CU CT T H L rs E Q') (s : Same H H1) : ∀ x dx, H1 x = Option.none → H1 dx = Option.none → dx ≠ x →
    spTown K C CG CU CT T (V.ref x :: tx L :: (rfs rs ++ [])) (upd (upd H1 dx (.own x)) x (.ins C dx [])) (fun v H2 => v = .non ∧ Q' x H2) E := by
  rw [List.append_nil]
  exact mk_town (h.same s)
section
variable {P : Program} {w : World} {K : PySem.W.Frag} {mg : Str → Option Value} {base : Heap}
theorem ok_wr {f C CG CU fI : Addr} {T : List (Addr × Str)} {oc kV doc pm ct cdv : Value} {an od : Option Addr} {osl : Array (Option Value)} (lk : K.lookup f = some ⟨oc, od, .func (PySem.W.fnOf "with_rules" "Town.with_rules" (defArgs sTwr) (defBody sTwr) (defScope sTwr) .none kV doc pm an cdv ct), osl⟩) (hcd : PySem.W.codeIn K cdv "Town.with_rules" = true)
    (TC : TwC K C) (M : Mk K C fI) (gC : mg "Town" = some (.ref C)) (G : FnR P w K mg base (L2.CX P w) 8 fI (spTown K C CG CU CT T)) : FnR P w K mg base (L2.CX P w) 10 f (spWr C CG CU CT T) := by
  refine StX.fn_star (ps := ["self"]) (pv := "more") (N := ["self", "more", "rules"]) lk hcd scTwr StX.cxUp (StX.bind_star1 (B := fun us => bindArgs (PySem.W.fnOf "with_rules" "Town.with_rules" (defArgs sTwr) (defBody sTwr) (defScope sTwr) .none kV doc pm an cdv ct) ⟨us, []⟩) (fun a => rfl) (fun a r rs => by kernel_rfl)) (fun A outer s H vs Q E hr h => ?_)
  obtain ⟨x, q, p, L, rs, ms, rfl, hT, hp, hm, mk⟩ := h
  obtain ⟨dx, t, hx⟩ := hT.ins
  have h6 := hT.sz
  refine ⟨_, pss_cons (ps_set (i := 2) scTwr.nd rfl (.inl rfl) (pe_lst (StX.pa_star (pe_fld (pv 0) rfl) (StX.pa_star (pv 1) pa_nil))))
    (pss_one (ps_ret (Rs.pe_makeS M G hr (by rfl) gC (passes_call (W := fun cls d _ H => E cls d H) (takes_of rfl rfl rfl rfl) (fun _ _ _ _ h => h)) (pa_cons (pe_fld (pv 0) rfl) (StX.pa_star (pv 2) pa_nil))))), ?_⟩
  refine ⟨_, rfl, x, C, dx, _, .ref q, rfl, hx, TC.cl, TC.pa, rfl, q, _, rfl, .inr (SqL.of hT.lst), _, rfl, p, _, rfl, .inl (SqT.of hp), ?_, fun l nl => ?_⟩
  · rw [List.append_nil, List.length_append, List.length_map, List.length_map]
    exact Nat.le_trans (show rs.length + ms.length ≤ 56 by omega) (by decide)
  have e0 : rfs rs ++ (rfs ms ++ []) = rfs (rs ++ ms) := by
    rw [List.append_nil]
    exact (List.map_append).symm
  rw [e0]
  have s1 := same_new (o := .lst (rfs (rs ++ ms))) nl
  have hx1 := s1 _ _ hx
  exact ⟨_, rfl, x, C, dx, _, tx L, rfl, hx1, TC.cl, TC.al, rfl, _, rfl, l, _, rfl, .inr (SqL.of upd_same), mk.at (K := K) s1⟩
end
abbrev sTown : Stmt := top 98
abbrev sSr : Stmt := top 96
abbrev NTw : List Str := ["_law_letters_here", "_law_rules_now", "_law_made", "_law_rule"]
abbrev NSr : List Str := ["_law_box", "_law_letters_here", "_law_many", "_law_most", "_law_found", "_law_k"]
theorem scTown : FnScope NTw ["_law_letters_here", "_law_rules_now"] (defScope sTown) := ⟨rfl, rfl, rfl, by decide +kernel, rfl, by decide +kernel, by decide +kernel⟩
theorem scSr : FnScope NSr ["_law_box", "_law_letters_here", "_law_many", "_law_most"] (defScope sSr) := ⟨rfl, rfl, rfl, by decide +kernel, rfl, by decide +kernel, by decide +kernel⟩
def spTwn (C CT : Addr) (T : List (Addr × Str)) : Sp := fun vs H Q _ => ∃ (l : Addr) (L : List Nat) (rs : Rls), vs = [tx L, .ref l] ∧ H l = some (.lst (rfs rs)) ∧ Tws H rs ∧ (∀ r ∈ wds rs, ∀ l ∈ r, Asc l) ∧ LamX.Tabs T H ∧ Asc L ∧ Lt L ∧ GoodL L ∧ GoodU L (wds rs) ∧
  ∀ (H' : Hp) (x q : Addr), LamX.ExtN H H' → LamX.Tabs T H' → KT.New H q → Tn C CT H' x L q rs → Q (.ref x) H'
section
variable {P : Program} {w : World} {K : PySem.W.Frag} {mg : Str → Option Value} {base : Heap}
theorem ok_twn {f C CG CU fI fWr : Addr} {fd : FuncData} {T : List (Addr × Str)} (F : Fun K "_law_town" "_law_town" sTown f fd) (TC : TwC K C) (M : Mk K C fI) (gC : mg "Town" = some (.ref C)) (G : FnR P w K mg base (L2.CX P w) 8 fI (spTown K C CG CU CT T))
    (MW : Meth K C "with_rules" fWr) (GW : FnR P w K mg base (L2.CX P w) 10 fWr (spWr C CG CU CT T)) : FnOk P w K mg base (L2.CX P w) 11 f fd ["_law_letters_here", "_law_rules_now"] (spTwn C CT T) := by
  refine F.okX scTown (fun vs H Q E h => ?_) (fun cdv A outer s H vs Q E hr h => ?_)
  · obtain ⟨l, L, rs, rfl, _⟩ := h
    rfl
  · obtain ⟨l, L, rs, rfl, hl, tw, as, tb, la, lt, gL, gU, qq⟩ := h
    have r9 : Room 9 (A.deeper (envOfC "_law_town" (defScope sTown) s.heap.objs.size f cdv)) := hr.mono (by decide)
    have pass : Passes (L2.CX P w) (cxOf (L2.CX P w) P w K mg base NTw "_law_town" (defScope sTown) f cdv A outer s H E) E := passes_call (W := fun cls d _ H => E cls d H) (takes_of rfl rfl rfl rfl) (fun _ _ _ _ h => h)
    refine ⟨_, pss_cons (ps_set (i := 2) scTown.nd rfl (.inl rfl) (StX.pe_makeR M G r9 (by rfl) gC pass (pa_cons (pv 0) pa_nil)))
      (pss_cons (ps_for (passes_of rfl) rfl (pi_list (pv 1)) (pg_name (i := 3) scTown.nd rfl (Or.inl rfl)) (pss_one (ps_set (i := 2) scTown.nd rfl (.inl rfl) (pe_methR (pv 2) TC.cl MW GW hr pass (pa_cons (pv 3) pa_nil)))))
      (pss_one (ps_ret (pv 2)))), ?_⟩
    have g6 := good_six gU
    rw [List.length_map] at g6
    have gA := good_all gU
    refine ⟨_, rfl, ?_⟩
    refine mk_town (K := K) (C := C) (CG := CG) (CU := CU) (T := T) (L := L) (rs := []) (E := E) ⟨(fun r hr => nomatch hr), (fun r hr => nomatch hr), by decide, tb, by have := gL.len; omega, la, fun _ => lt, fun i hw => good_nw gL hw, fun _ i hi => absurd hi (Nat.not_lt_zero _), fun _ _ H1 x1 q1 eX1 tb1 nw1 hT1 => ?_⟩
    have hl1 := eX1 _ _ hl (fun ps z => nomatch z)
    refine ⟨_, rfl, l, rfl, ⟨_, SqL.of hl1⟩, ?_⟩
    refine for_it (walk_list (K := K) (a := l) (xs := rfs rs)) (fun i σ H2 => ∃ (x q : Addr) (y3 : Option V), σ = [some (tx L), some (.ref l), some (.ref x), y3] ∧ LamX.ExtN H H2 ∧ LamX.Tabs T H2 ∧ KT.New H q ∧ Tn C CT H2 x L q (rs.take i)) ⟨x1, q1, none, rfl, eX1, tb1, nw1, hT1⟩ (fun i σ H2 _ h => ?_) ?_ ?_
    · obtain ⟨x, q, y3, _, eX, _⟩ := h
      exact SqL.of (eX _ _ hl (fun ps z => nomatch z))
    · rintro i v σ H2 H2' hi ⟨x, q, y3, rfl, eX, tb2, nw2, hT⟩ ⟨rfl, hv⟩
      rw [List.length_map] at hi
      have gl : rs[i]? = some rs[i] := List.getElem?_eq_getElem hi
      obtain rfl : V.ref rs[i].1 = v := by
        rw [List.getElem?_map, gl] at hv
        exact Option.some.inj hv
      have tm := take_more gl
      generalize rs[i] = r at gl tm
      have hm : ∀ z ∈ rs.take i ++ [r], z ∈ rs := fun z hz => by
        rw [← tm] at hz
        exact List.mem_of_mem_take hz
      obtain ⟨dx, t, hx⟩ := hT.ins
      refine ⟨_, rfl, x, dx, _, rfl, hx, rfl, _, rfl, [V.ref x], [V.ref r.1], rfl, rfl, (by show 1 ≤ sizeLine; decide), fun p np => ?_⟩
      have s3 := same_new (o := .tup [V.ref r.1]) np
      have gU1 : GoodU L (wds (rs.take i ++ [r])) := by
        refine good_of ?_ ?_
        · rw [List.length_map, ← tm]
          exact Nat.le_trans (List.length_take_le' _ _) g6
        · intro z hz
          obtain ⟨y, hy, rfl⟩ := List.mem_map.mp hz
          exact gA _ (List.mem_map.mpr ⟨y, hm y hy, rfl⟩)
      have l1 : (rs.take i ++ [r]).length ≤ 100 := by
        rw [← tm]
        exact Nat.le_trans (List.length_take_le' _ _) (by omega)
      refine ⟨x, q, p, L, rs.take i, [r], rfl, hT.same s3, upd_same, (by show 1 ≤ 50; decide), ⟨fun z hz => ((tw.ext eX).same s3) z (hm z hz), ?_, Nat.le_trans l1 (by decide), tb2.ext s3, by have := gL.len; omega, la, fun _ => lt, fun i hw => good_nw gL hw, fun _ j hj hb _ => good_no gU1 (by rw [List.length_map]; exact hj) hb, fun _ _ H4 x' q' eX4 tb4 nw4 hT4 => ?_⟩⟩
      · intro z hz
        obtain ⟨y, hy, rfl⟩ := List.mem_map.mp hz
        exact as _ (List.mem_map.mpr ⟨y, hm y hy, rfl⟩)
      · refine ⟨x', q', _, rfl, eX.trans (LamX.ExtN.trans (.of s3) eX4), tb4, KT.New.ext (eX.trans (.of s3)) nw4, ?_⟩
        rw [tm]
        exact hT4
    · rintro σ H2 ⟨x, q, y3, rfl, eX, tb2, nw2, hT⟩
      rw [List.length_map, List.take_length] at hT
      exact ⟨_, rfl, qq H2 x q eX tb2 nw2 hT⟩
end
theorem TW.go {H H' : Hp} {b m : Addr} {x : Addr × List (List Nat)} (h : TW H x) (hB : Bx H b m) (g : BxGo H H' b m) : TW H' x := by
  obtain ⟨ms, i, r, s, hb, _⟩ := hB
  have h' : H x.1 = some (.tup (x.2.map tx)) := h
  refine g.2 _ _ (fun e => ?_) h'
  rw [e, hb] at h'
  cases h'
/-- a rule as it is drawn -/
def Rp (L : List Nat) (n : Nat) (r : List (List Nat)) : Prop := ∃ x y, r = [x, y] ∧ x.length ≤ n ∧ y.length ≤ n ∧ (∀ c ∈ x, c ∈ sg L) ∧ (∀ c ∈ y, c ∈ sg L)
def spSr : Sp := fun vs H Q _ => ∃ (b m : Addr) (L : List Nat) (many most : Nat), vs = [.ref b, tx L, .int (many : Nat), .int (most : Nat)] ∧ Bx H b m ∧ Lt L ∧ L ≠ [] ∧ most ≤ 100 ∧ many ≤ 100 ∧
  ∀ (p : Addr) (rs : Rls) (H' : Hp), BxGo H H' b m → H p = none → p ≠ b → p ≠ m → H' p = some (.lst (rfs rs)) → rs.length ≤ many → (∀ r ∈ rs, TW H' r ∧ Rp L most r.2) → Q (.ref p) H'
section
variable {P : Program} {w : World} {K : PySem.W.Frag} {mg : Str → Option Value} {base : Heap}
theorem ok_sr {f fD fS : Addr} {fd fdD fdS : FuncData} (F : Fun K "_law_some_rules" "_law_some_rules" sSr f fd) (B : Bn mg) (cD : KT.Cb P w K mg base CX0 1 "_law_draw" ["_law_box", "_law_many"] spDraw fD fdD)
    (cS : KT.Cb P w K mg base CX0 4 "_law_side" ["_law_box", "_law_letters_here", "_law_most"] spSome fS fdS) : FnOk P w K mg base CX0 5 f fd ["_law_box", "_law_letters_here", "_law_many", "_law_most"] spSr := by
  refine F.ok scSr (fun vs H Q E h => ?_) (fun cdv A outer s H vs Q E hr h => ?_)
  · obtain ⟨b, m, L, many, most, rfl, _⟩ := h
    rfl
  · obtain ⟨b, m, L, many, most, rfl, bx, lt, hne, h100, hmany, qq⟩ := h
    have r1 : Room 1 (A.deeper (envOfC "_law_some_rules" (defScope sSr) s.heap.objs.size f cdv)) := hr.mono (by omega)
    have r4 : Room 4 (A.deeper (envOfC "_law_some_rules" (defScope sSr) s.heap.objs.size f cdv)) := hr.mono (by omega)
    refine ⟨_, pss_cons (ps_set (i := 4) scSr.nd rfl (.inl rfl) (pe_lst pa_nil))
      (pss_cons (ps_for PassesOwn.never rfl (pi_range1 (by rfl) B.range (pa_cons (pe_call cD.ok r1 (by rfl) cD.g cD.kp cD.b .nil pass0 (pa_cons (pv 0) (pa_cons (pe_op op_add (pv 2) pe_int) pa_nil))) pa_nil)) (pg_name (i := 5) scSr.nd rfl (Or.inl rfl))
        (pss_one (ps_expr (pe_bm PySem.F.plainAttrs_list PySem.F.slot_list_append PySem.F.type_list_append mt_append (pv 4) (pa_cons (pe_tup (pa_cons (pe_call cS.ok r4 (by rfl) cS.g cS.kp cS.b .nil pass0 (pa_cons (pv 0) (pa_cons (pv 1) (pa_cons (pv 3) pa_nil)))) (pa_cons (pe_call cS.ok r4 (by rfl) cS.g cS.kp cS.b .nil pass0 (pa_cons (pv 0) (pa_cons (pv 1) (pa_cons (pv 3) pa_nil)))) pa_nil))) pa_nil)))))
      (pss_one (ps_ret (pv 4)))), ?_⟩
    refine ⟨(by show 0 ≤ sizeLine; decide), fun p np => ?_⟩
    have s1 := same_new (o := .lst []) np
    have hpb : p ≠ b := bx.ne np
    have hpm : p ≠ m := bx.neM np
    have bx1 := bx.same s1
    refine ⟨_, rfl, _, rfl, _, _, rfl, rfl, b, m, (many : Int) + 1, rfl, bx1, by omega, by omega, fun d H1 d0 d1 hT => ⟨d, rfl, by omega, by omega, ?_⟩⟩
    have g1 : BxGo H H1 b m := ⟨hT.go.1, fun x o hx e => hT.go.2 x o hx (s1 _ _ e)⟩
    have hp1 := hT.go.2 _ _ hpb upd_same
    refine for_it (walk_range (lo := 0) (n := d.toNat)) (fun i σ H3 => ∃ (rs : Rls) (y5 : Option V), σ = [some (.ref b), some (tx L), some (.int (many : Nat)), some (.int (most : Nat)), some (.ref p), y5] ∧ rs.length = i ∧ BxGo H H3 b m ∧ H3 p = some (.lst (rfs rs)) ∧ ∀ r ∈ rs, TW H3 r ∧ Rp L most r.2)
      ⟨[], none, rfl, rfl, g1, hp1, fun r hr => nomatch hr⟩ (fun _ _ _ _ _ => trivial) ?_ ?_
    · rintro i v σ H3 H3' hi ⟨rs, y5, rfl, hlen, g3, hp3, hrs⟩ ⟨rfl, rfl⟩
      refine ⟨_, rfl, .inl ⟨rfl, _, SqL.of hp3⟩, ?_⟩
      refine ⟨_, rfl, _, rfl, _, rfl, b, m, L, most, rfl, g3.1, lt, hne, h100, fun w1 H4 l1 m1 g4 => ?_⟩
      refine ⟨_, rfl, _, rfl, _, rfl, b, m, L, most, rfl, g4.1, lt, hne, h100, fun w2 H5 l2 m2 g5 => ⟨(by show 2 ≤ sizeLine; decide), fun pt npt => ?_⟩⟩
      have s6 := same_new (o := .tup [tx w1, tx w2]) npt
      have hp5 := g5.2 _ _ hpb (g4.2 _ _ hpb hp3)
      have hp6 := s6 _ _ hp5
      have hpt : pt ≠ p := fun e => by
        rw [e, hp5] at npt
        cases npt
      refine ⟨p, _, _, rfl, rfl, hp6, ?_, rs ++ [(pt, [w1, w2])], _, rfl, ?_, ⟨(g5.1.same s6).upd hpb hpm, fun x o hx e => ?_⟩, ?_, fun r hr => ?_⟩
      · rw [List.length_map, hlen]
        exact small1000 (by omega)
      · rw [List.length_append, hlen]
        rfl
      · rw [upd_ne (ne_of_none e np)]
        exact s6 _ _ (g5.2 _ _ hx (g4.2 _ _ hx (g3.2 _ _ hx e)))
      · rw [upd_same]
        show some (HO.lst (rfs rs ++ rfs [(pt, [w1, w2])])) = _
        exact congrArg (fun z => some (HO.lst z)) (List.map_append).symm
      · rcases List.mem_append.mp hr with h | h
        · obtain ⟨t1, t2⟩ := hrs r h
          refine ⟨?_, t2⟩
          have t3 := s6 _ _ (((t1.go g3.1 g4).go g4.1 g5) : H5 r.1 = some (.tup (r.2.map tx)))
          show upd _ p _ r.1 = _
          rw [upd_ne (fun e => by rw [e, hp6] at t3; cases t3)]
          exact t3
        · obtain rfl := List.mem_singleton.mp h
          refine ⟨?_, w1, w2, rfl, l1, l2, m1, m2⟩
          show upd _ p _ pt = _
          rw [upd_ne hpt]
          exact upd_same
    · rintro σ H3 ⟨rs, y5, rfl, hlen, g3, hp3, hrs⟩
      exact ⟨_, rfl, qq p rs H3 g3 np hpb hpm hp3 (by omega) hrs⟩
end
end K31
set_option maxRecDepth 100000
set_option maxHeartbeats 2000000
namespace KT
open PySem PySem.Spec PyProof.Rows L2
abbrev sLessL : Stmt := top 90
abbrev sBy : Stmt := top 91
abbrev sFirst : Stmt := top 92
abbrev sNormL : Stmt := top 93
theorem scLessL : FnScope ["_law_one", "_law_other", "_law_a", "_law_b"] ["_law_one", "_law_other"] (defScope sLessL) := ⟨rfl, rfl, rfl, by decide +kernel, rfl, by decide +kernel, by decide +kernel⟩
theorem scBy : FnScope ["_law_one", "_law_times", "_law_a"] ["_law_one", "_law_times"] (defScope sBy) := ⟨rfl, rfl, rfl, by decide +kernel, rfl, by decide +kernel, by decide +kernel⟩
theorem scFirst : FnScope ["_law_row", "_law_spots", "_law_at"] ["_law_row"] (defScope sFirst) := ⟨rfl, rfl, rfl, by decide +kernel, rfl, by decide +kernel, by decide +kernel⟩
theorem scNormL : FnScope ["_law_width", "_law_rows", "_law_found", "_law_todo", "_law_row", "_law_at", "_law_held", "_law_times", "_law_steps", "_law_pivot"] ["_law_width", "_law_rows"] (defScope sNormL) := ⟨rfl, rfl, rfl, by decide +kernel, rfl, by decide +kernel, by decide +kernel⟩
/-! rows as data -/
def dR (r : List Int) : PyData := .tuple (r.map .int)
def dRs (rs : List (List Int)) : PyData := .list (rs.map dR)
theorem lay_ints : ∀ r : List Int, PyData.canLayAll0 (r.map PyData.int) = true
  | [] => by simp [PyData.canLayAll0]
  | x :: r => by simp [PyData.canLayAll0, PyData.canLay0, lay_ints r]
theorem depth_ints : ∀ r : List Int, PyData.depthAll (r.map PyData.int) ≤ 1
  | [] => by simp [PyData.depthAll]
  | x :: r => by
    have h1 := depth_ints r
    simp only [List.map_cons, PyData.depthAll, PyData.depth]
    omega
theorem lay_rows : ∀ rs : List (List Int), PyData.canLayAll0 (rs.map dR) = true
  | [] => by simp [PyData.canLayAll0]
  | x :: r => by simp [PyData.canLayAll0, dR, PyData.canLay0, lay_ints x, lay_rows r]
theorem depth_rows : ∀ rs : List (List Int), PyData.depthAll (rs.map dR) ≤ 2
  | [] => by simp [PyData.depthAll]
  | x :: r => by
    have h1 := depth_rows r
    have h2 := depth_ints x
    simp only [List.map_cons, PyData.depthAll, PyData.depth, dR]
    omega
theorem shaped_rows (rs : List (List Int)) : SeqAt.shaped (dRs rs) = true := by
  have h1 := depth_rows rs
  have h2 : PyData.depth (dRs rs) ≤ 64 := by
    unfold dRs
    simp only [PyData.depth]
    omega
  show (PyData.canLay0 (dRs rs) && decide (PyData.depth (dRs rs) ≤ 64)) = true
  rw [Bool.and_eq_true]
  exact ⟨by unfold dRs; simp only [PyData.canLay0]; exact lay_rows rs, decide_eq_true h2⟩
theorem eqv_ints : ∀ r s : List Int, PyData.eqvAll (r.map PyData.int) (s.map PyData.int) = decide (r = s)
  | [], [] => by simp [PyData.eqvAll]
  | [], _ :: _ => by simp [PyData.eqvAll]
  | _ :: _, [] => by simp [PyData.eqvAll]
  | x :: r, y :: s => by
    rw [List.map_cons, List.map_cons]
    simp only [PyData.eqvAll, PyData.eqv]
    rw [eqv_ints r s]
    by_cases h1 : x = y
    · by_cases h2 : r = s
      · simp [h1, h2]
      · simp [h1, h2]
    · simp [h1]
theorem eqv_rowsL : ∀ r s : List (List Int), PyData.eqvAll (r.map dR) (s.map dR) = decide (r = s)
  | [], [] => by simp [PyData.eqvAll]
  | [], _ :: _ => by simp [PyData.eqvAll]
  | _ :: _, [] => by simp [PyData.eqvAll]
  | x :: r, y :: s => by
    rw [List.map_cons, List.map_cons]
    have e : PyData.eqv (dR x) (dR y) = decide (x = y) := by
      unfold dR
      simp only [PyData.eqv]
      exact eqv_ints x y
    simp only [PyData.eqvAll]
    rw [eqv_rowsL r s, e]
    by_cases h1 : x = y
    · by_cases h2 : r = s
      · simp [h1, h2]
      · simp [h1, h2]
    · simp [h1]
theorem eqv_rows (r s : List (List Int)) : PyData.eqv (dRs r) (dRs s) = decide (r = s) := by
  unfold dRs
  simp only [PyData.eqv]
  exact eqv_rowsL r s
theorem dp_ints {K : PySem.W.Frag} {H : Hp} : ∀ r : List Int, DpAll K H (r.map V.int) (r.map PyData.int)
  | [] => .nil
  | x :: r => .cons (.int x) (dp_ints r)
theorem dp_rowsL {K : PySem.W.Frag} {H : Hp} : ∀ rs : List (Addr × List Int), (∀ x ∈ rs, RT H x) → DpAll K H (rf rs) ((rw_ rs).map dR)
  | [], _ => .nil
  | x :: r, h => .cons (.tup (SqT.of (h x List.mem_cons_self)) (dp_ints x.2)) (dp_rowsL r fun y hy => h y (List.mem_cons_of_mem _ hy))
end KT
set_option maxRecDepth 100000
set_option maxHeartbeats 2000000
namespace KT
open PySem PySem.Spec PyProof.Rows L2
def addl (r o : List Int) : List Int := List.zipWith (· + ·) r o
def subl (r o : List Int) : List Int := List.zipWith (· - ·) r o
def byl (r : List Int) (t : Int) : List Int := r.map (t * ·)
def unitl (w : Nat) (a : Int) : List Int := (List.range w).map fun k => if ((k : Nat) : Int) = a then 1 else 0
theorem subl_byl (r o : List Int) (t : Int) : subl r (byl o t) = Hm.lsl r o t := by
  unfold subl byl Hm.lsl
  rw [List.zipWith_map_right]
def spLessL : Sp := fun vs H Q _ => ∃ (x y : Addr × List Int), vs = [.ref x.1, .ref y.1] ∧ RT H x ∧ RT H y ∧ x.2.length = y.2.length ∧ x.2.length ≤ 3 ∧ ∀ H' p, Same H H' → H p = none → RT H' (p, subl x.2 y.2) → Q (.ref p) H'
def spByL : Sp := fun vs H Q _ => ∃ (x : Addr × List Int) (t : Int), vs = [.ref x.1, .int t] ∧ RT H x ∧ x.2.length ≤ 3 ∧ (∀ y ∈ x.2, CMulW t y) ∧ ∀ H' p, Same H H' → H p = none → RT H' (p, byl x.2 t) → Q (.ref p) H'
def spFirst : Sp := fun vs H Q _ => ∃ (x : Addr × List Int), vs = [.ref x.1] ∧ RT H x ∧ x.2.length ≤ 3 ∧ (∀ H', Same H H' → (∀ i, Hm.fn x.2 i = 0) → Q .non H') ∧ ∀ H' a, Same H H' → Hm.Beg (Hm.fn x.2) a → a < x.2.length → Q (.int (a : Nat)) H'
theorem zip_int {f : Int → Int → Int} (g : V → V → V) (hg : ∀ x y, g (.int x) (.int y) = .int (f x y)) : ∀ r o : List Int, List.zipWith g (r.map V.int) (o.map V.int) = (List.zipWith f r o).map V.int
  | [], _ => rfl
  | _ :: _, [] => rfl
  | x :: r, y :: o => by
    show g (.int x) (.int y) :: _ = V.int (f x y) :: _
    rw [hg]
    congr 1
    exact zip_int g hg r o
section
variable {P : Program} {w : World} {K : PySem.W.Frag} {mg : Str → Option Value} {base : Heap}
theorem ok_lessl {f : Addr} {fd : FuncData} {k : Nat} (F : Fun K "_law_less" "_law_less" sLessL f fd) (B : Bz mg) : FnOk P w K mg base CX0 (k + 1) f fd ["_law_one", "_law_other"] spLessL := by
  refine F.ok scLessL (fun vs H Q E h => ?_) (fun cdv A outer s H vs Q E hr h => ?_)
  · obtain ⟨x, y, rfl, _⟩ := h
    rfl
  · obtain ⟨x, y, rfl, hx, hy, hl, h3, q⟩ := h
    refine ⟨_, pss_one (ps_ret (pe_callTy call_tuple_of (by rfl) B.b.tuple boot_tuple (pa_cons (pe_lc (own := [("_law_a", 2), ("_law_b", 3)]) (g := gTup K 2 (gCons (gName 2) (gCons (gName 3) gNil))) (tt := tYes) rfl scLessL.nd (RZ.pi_zipA (by rfl) B.b.zip (pa_cons (pv 0) (pa_cons (pv 1) pa_nil)))
      (blkOk_by (N := ["_law_one", "_law_other", "_law_a", "_law_b"]) (sc := defScope sLessL) (by decide +kernel)) (fun _ _ _ _ _ => pg_tup rfl (pgs_cons (pg_name (i := 2) scLessL.nd rfl (Or.inl rfl)) (pgs_cons (pg_name (i := 3) scLessL.nd rfl (Or.inl rfl)) pgs_nil))) (fun _ _ _ _ _ => pts_nil)
      (fun _ _ _ _ _ => pe_op op_sub (pv 2) (pv 3))) pa_nil))), ?_⟩
    refine ⟨_, rfl, _, rfl, x.1, y.1, _, _, rfl, .inr ⟨SqT.of hx, SqT.of hy, fun D nD => ?_⟩⟩
    refine Rs.lc_zipT (σ := [some (.ref x.1), some (.ref y.1), none, none]) (i := 2) (j := 3) (by rw [List.length_map, List.length_map, hl]) (fun x y => match x, y with | .int x, .int y => .int (x - y) | x, _ => x) (by rw [List.length_map]; exact Nat.lt_of_le_of_lt h3 (by decide)) nD (SqT.of hx) (SqT.of hy) ?_ ?_
    · intro n a b H2 Q2 ha hb _ h
      rw [List.getElem?_map] at ha hb
      obtain ⟨a0, ha0, rfl⟩ := Option.map_eq_some_iff.mp ha
      obtain ⟨b0, hb0, rfl⟩ := Option.map_eq_some_iff.mp hb
      exact ⟨_, rfl, _, rfl, _, _, rfl, rfl, h H2 (fun _ _ e => e)⟩
    · intro H2 s2 hD
      have s2 : Same H H2 := s2
      refine ⟨D, _, rfl, .inl ⟨SqL.of hD, fun p2 np2 => ?_⟩⟩
      rw [zip_int (f := (· - ·)) _ (fun _ _ => rfl)]
      exact q _ p2 (s2.trans (same_new np2)) (s2.free np2) upd_same
theorem ok_byl {f : Addr} {fd : FuncData} {k : Nat} (F : Fun K "_law_by" "_law_by" sBy f fd) (B : Bz mg) : FnOk P w K mg base CX0 (k + 1) f fd ["_law_one", "_law_times"] spByL := by
  refine F.ok scBy (fun vs H Q E h => ?_) (fun cdv A outer s H vs Q E hr h => ?_)
  · obtain ⟨x, t, rfl, _⟩ := h
    rfl
  · obtain ⟨x, t, rfl, hx, h3, hm, q⟩ := h
    refine ⟨_, pss_one (ps_ret (pe_callTy call_tuple_of (by rfl) B.b.tuple boot_tuple (pa_cons (pe_lc (own := [("_law_a", 2)]) (g := gName 2) (tt := tYes) rfl scBy.nd (pi_tup (pv 0))
      (blkOk_by (N := ["_law_one", "_law_times", "_law_a"]) (sc := defScope sBy) (by decide +kernel)) (fun _ _ _ _ _ => pg_name (i := 2) scBy.nd rfl (Or.inl rfl)) (fun _ _ _ _ _ => pts_nil)
      (fun _ _ _ _ _ => pe_op op_mulW (pv 1) (pv 2))) pa_nil))), ?_⟩
    refine ⟨_, rfl, x.1, rfl, ⟨_, SqT.of hx⟩, fun D nD => ?_⟩
    refine lc_sel (e := V.int) (out := fun a => V.int (t * a)) (walk_tup (K := K) (a := x.1)) (σ := [some (.ref x.1), some (.int t), none]) (i := 2) (fun _ => true) (Nat.lt_of_le_of_lt h3 (by decide)) nD (fun H2 s2 => SqT.of (s2 _ _ hx)) (fun x H2 Q _ _ h => h) ?_ ?_
    · intro a H2 Q2 ha _ _ h
      exact ⟨_, rfl, _, rfl, _, _, rfl, rfl, hm a ha, h H2 (Same.refl _)⟩
    · intro H2 s2 hD
      refine ⟨D, _, rfl, .inl ⟨SqL.of hD, fun p2 np2 => ?_⟩⟩
      refine q _ p2 (s2.trans (same_new np2)) (s2.free np2) ?_
      show upd _ p2 _ p2 = some (HO.tup (List.map V.int (byl x.2 t)))
      rw [upd_same, List.filter_eq_self.mpr (by simp)]
      unfold byl
      rw [List.map_map]
      rfl
end
end KT
set_option maxRecDepth 100000
set_option maxHeartbeats 2000000
namespace KT
open PySem PySem.Spec PyProof.Rows L2
abbrev vN (k : Nat) : V := V.int (k : Nat)
theorem walk_rg (n : Nat) : Walk (Itr 0 n) ((List.range n).map vN).length (fun _ => True) (YAt ((List.range n).map vN)) := by
  have w := walk_range (lo := 0) (n := n)
  rw [show n = ((List.range n).map vN).length by simp] at w
  have e : ((List.range n).map vN).length = n := by simp
  rw [e] at w ⊢
  refine w.mono (fun _ h => h) (fun i H x H' hi _ y => ?_)
  obtain ⟨y1, y2⟩ := y
  refine ⟨y1, ?_⟩
  rw [List.getElem?_map, List.getElem?_range (by omega), y2]
  show some (V.int _) = some (V.int _)
  congr 2
  omega
/-- the columns without a zero -/
def nzc (r : List Int) : List Nat := (List.range r.length).filter fun k => decide (Hm.fn r k ≠ 0)
theorem nzc_nil {r : List Int} (h : nzc r = []) : ∀ i, Hm.fn r i = 0 := by
  intro i
  by_cases hi : i < r.length
  · have := List.filter_eq_nil_iff.mp h i (List.mem_range.mpr hi)
    simpa using this
  · unfold Hm.fn
    rw [List.getD_eq_getElem?_getD, List.getElem?_eq_none (by omega)]
    rfl
theorem nzc_cons {r : List Int} {a : Nat} {t : List Nat} (h : nzc r = a :: t) : Hm.Beg (Hm.fn r) a ∧ a < r.length := by
  have ma : a ∈ nzc r := by rw [h]; exact List.mem_cons_self
  have h1 := List.mem_filter.mp ma
  have hlt := List.mem_range.mp h1.1
  have hn : Hm.fn r a ≠ 0 := by simpa using h1.2
  refine ⟨⟨fun j hj => ?_, hn⟩, hlt⟩
  have srt : (nzc r).Pairwise (· < ·) := (List.pairwise_lt_range).filter _
  rw [h] at srt
  by_cases hz : Hm.fn r j = 0
  · exact hz
  · exfalso
    have mj : j ∈ nzc r := List.mem_filter.mpr ⟨List.mem_range.mpr (by omega), by simpa using hz⟩
    rw [h] at mj
    rcases List.mem_cons.mp mj with e | e
    · omega
    · have := (List.pairwise_cons.mp srt).1 j e
      omega
theorem dp_nats {K : PySem.W.Frag} {H : Hp} : ∀ r : List Nat, DpAll K H (r.map vN) ((r.map fun k => ((k : Nat) : Int)).map PyData.int)
  | [] => .nil
  | x :: r => .cons (.int _) (dp_nats r)
def dI (r : List Int) : PyData := .list (r.map .int)
theorem shaped_dI (r : List Int) : SeqAt.shaped (dI r) = true := by
  have h1 := depth_ints r
  have h2 : PyData.depth (dI r) ≤ 64 := by
    unfold dI
    simp only [PyData.depth]
    omega
  show (PyData.canLay0 (dI r) && decide (PyData.depth (dI r) ≤ 64)) = true
  rw [Bool.and_eq_true]
  exact ⟨by unfold dI; simp only [PyData.canLay0]; exact lay_ints r, decide_eq_true h2⟩
theorem eqv_dI (r s : List Int) : PyData.eqv (dI r) (dI s) = decide (r = s) := by
  unfold dI
  simp only [PyData.eqv]
  exact eqv_ints r s
section
variable {P : Program} {w : World} {K : PySem.W.Frag} {mg : Str → Option Value} {base : Heap}
theorem ok_first {f : Addr} {fd : FuncData} {k : Nat} (F : Fun K "_law_first_at" "_law_first_at" sFirst f fd) (B : Bz mg) : FnOk P w K mg base CX0 (k + 2) f fd ["_law_row"] spFirst := by
  refine F.ok scFirst (fun vs H Q E h => ?_) (fun cdv A outer s H vs Q E hr h => ?_)
  · obtain ⟨x, rfl, _⟩ := h
    rfl
  · obtain ⟨x, rfl, hx, h3, q0, q1⟩ := h
    refine ⟨_, pss_cons (ps_setLc (i := 1) (own := [("_law_at", 2)]) (g := gName 2) (tt := tTest (tOp rNe (tOp (rIxT K) (tVar 0) (tVar 2)) (tC (.int 0)))) (te := tVar 2) rfl scFirst.nd rfl rfl (sw_true rfl rfl rfl (by decide +kernel)) (pi_range1 (by rfl) B.b.range (pa_cons (pe_callB call_len_seq (by rfl) B.b.len PySem.boot_len (pa_cons (pv 0) pa_nil)) pa_nil))
        (blkOk_by (N := ["_law_row", "_law_spots", "_law_at"]) (sc := defScope sFirst) (by decide +kernel)) (fun _ _ _ _ _ => pg_name (i := 2) scFirst.nd rfl (Or.inl rfl)) (fun _ _ _ _ _ => pts_one (pt_cmpR op_ne (pe_ix ix_tup (pv 0) (pv 2) (fun _ _ => rfl)) pe_int (nomark _)))
        (fun _ _ _ _ _ => pv 2))
      (pss_one (ps_ret (pe_ifExp (pt_cmpR (op_neD hr.units) (pv 1) (pe_lst pa_nil) (nomark _)) (pe_ix ix_list (pv 1) pe_int (fun _ _ => rfl)) pe_non))), ?_⟩
    refine ⟨_, rfl, x.1, _, rfl, .inr (SqT.of hx), _, rfl, by rw [List.length_map]; omega, by rw [List.length_map]; omega, fun D nD => ?_⟩
    rw [List.length_map, show ((x.2.length : Nat) : Int).toNat = x.2.length from rfl]
    refine lc_sel (e := vN) (out := vN) (walk_rg x.2.length) (tt := tTest (tOp rNe (tOp (rIxT K) (tVar 0) (tVar 2)) (tC (.int 0)))) (te := tVar 2) (σ := [some (.ref x.1), none, none]) (i := 2) (fun k => decide (Hm.fn x.2 k ≠ 0)) (by rw [List.length_range]; exact Nat.lt_of_le_of_lt h3 (by decide)) nD (fun _ _ => trivial) ?_ ?_ ?_
    · intro n H2 Q2 hn s2 h
      refine ⟨_, rfl, _, rfl, x.1, _, (n : Int), _, rfl, rfl, SqT.of (hx.same s2), row_at (List.mem_range.mp hn), rfl, _, rfl, ?_⟩
      have e : (!decide (V.int (x.2.getD n 0) = V.int 0)) = decide (Hm.fn x.2 n ≠ 0) := by
        rw [dec_int]
        show (!(Hm.fn x.2 n == 0)) = _
        rw [Bool.beq_eq_decide_eq]
        exact (decide_not).symm
      rw [e]
      exact h
    · intro n H2 Q2 hn _ s2 h
      exact ⟨_, rfl, h H2 (Same.refl _)⟩
    · intro H2 s2 hD
      have hD : H2 D = some (.lst ((nzc x.2).map vN)) := hD
      refine ⟨_, rfl, (by show 0 ≤ sizeLine; decide), fun p np => ?_⟩
      have s3 := same_new (o := .lst []) np
      refine ⟨dI ((nzc x.2).map fun k => ((k : Nat) : Int)), dI [], .lst (SqL.of (s3 _ _ hD)) (dp_nats _), .lst (SqL.of upd_same) .nil, shaped_dI _, shaped_dI _, _, rfl, ?_⟩
      rw [eqv_dI]
      cases e : nzc x.2 with
      | nil =>
        refine iteF ?_
        exact q0 _ (s2.trans s3) (nzc_nil e)
      | cons a t =>
        refine iteT ?_
        obtain ⟨b1, b2⟩ := nzc_cons e
        rw [e] at hD
        exact ⟨_, rfl, D, _, 0, _, rfl, rfl, SqL.of (s3 _ _ hD), atI_nat (j := 0) rfl, q1 _ a (s2.trans s3) b1 b2⟩
end
end KT
set_option maxRecDepth 100000
set_option maxHeartbeats 2000000
namespace KT
open PySem PySem.Spec PyProof.Rows L2
abbrev Fa := Nat → Option (Addr × List Int)
def fv (F : Fa) (c : Nat) : V := match F c with
  | none => .non
  | some x => .ref x.1
def fl (w : Nat) (F : Fa) : List V := (List.range w).map (fv F)
def fd2 (F : Fa) : Hm.Fnd := fun c => (F c).map fun x => x.2
def putA (F : Fa) (a : Nat) (x : Addr × List Int) : Fa := fun c => if c = a then some x else F c
theorem fl_len (w : Nat) (F : Fa) : (fl w F).length = w := by
  unfold fl
  rw [List.length_map, List.length_range]
theorem fl_at {w a : Nat} {F : Fa} (h : a < w) : (fl w F)[a]? = some (fv F a) := by
  unfold fl
  rw [List.getElem?_map, List.getElem?_range h]
  rfl
theorem fl_set {w a : Nat} {F : Fa} {x : Addr × List Int} (h : a < w) : (fl w F).set a (.ref x.1) = fl w (putA F a x) := by
  refine List.ext_getElem? fun i => ?_
  rw [List.getElem?_set]
  by_cases hi : i < w
  · rw [fl_at (F := putA F a x) hi]
    by_cases e : a = i
    · subst e
      rw [if_pos rfl, fl_len, if_pos h]
      unfold fv putA
      rw [if_pos rfl]
    · rw [if_neg e, fl_at hi]
      unfold fv putA
      rw [if_neg (fun z => e z.symm)]
  · have e : a ≠ i := by omega
    rw [if_neg e, List.getElem?_eq_none (by rw [fl_len]; omega), List.getElem?_eq_none (by rw [fl_len]; omega)]
theorem fd2_put (F : Fa) (a : Nat) (x : Addr × List Int) : fd2 (putA F a x) = Hm.putG (fd2 F) a x.2 := by
  funext c
  unfold fd2 putA Hm.putG
  by_cases h : c = a
  · rw [if_pos h, if_pos h]
    rfl
  · rw [if_neg h, if_neg h]
theorem putA_same {F : Fa} {a : Nat} {x : Addr × List Int} (h : F a = some x) : putA F a x = F := by
  funext c
  unfold putA
  by_cases hc : c = a
  · rw [if_pos hc, hc, h]
  · rw [if_neg hc]
theorem mx (x : Int) : (if (if x < 0 then -x else x) > 1 then (if x < 0 then -x else x) else 1) = max 1 (x.natAbs : Int) := by
  rw [abs_nat]
  split <;> omega
/-- the found rows and those to do, at qf and qt -/
structure FT (H0 H : Hp) (w : Nat) (qf qt : Addr) (F : Fa) (ts : List (Addr × List Int)) : Prop where
  sm : Same H0 H
  nf : H0 qf = none
  nt : H0 qt = none
  ne : qf ≠ qt
  f : H qf = some (.lst (fl w F))
  t : H qt = some (.lst (rf ts))
  fr : ∀ c x, F c = some x → RT H x
  tr : ∀ x ∈ ts, RT H x
theorem RT.ne {H : Hp} {x : Addr × List Int} {q : Addr} {xs : List V} (h : RT H x) (hq : H q = some (.lst xs)) : x.1 ≠ q := by
  intro z
  unfold RT at h
  rw [z, hq] at h
  cases h
theorem RT.upd {H : Hp} {x : Addr × List Int} {q : Addr} {xs : List V} {o : HO} (h : RT H x) (hq : H q = some (.lst xs)) : RT (upd H q o) x := by
  unfold RT
  rw [upd_ne (h.ne hq)]
  exact h
theorem FT.same {H0 H H' : Hp} {w : Nat} {qf qt : Addr} {F : Fa} {ts : List (Addr × List Int)} (h : FT H0 H w qf qt F ts) (e : Same H H') : FT H0 H' w qf qt F ts := ⟨h.sm.trans e, h.nf, h.nt, h.ne, e _ _ h.f, e _ _ h.t, fun c x hx => (h.fr c x hx).same e, fun x hx => (h.tr x hx).same e⟩
theorem FT.setF {H0 H : Hp} {w a : Nat} {qf qt : Addr} {F : Fa} {ts : List (Addr × List Int)} {x : Addr × List Int} (h : FT H0 H w qf qt F ts) (hx : RT H x) (ha : a < w) : FT H0 (upd H qf (.lst ((fl w F).set a (.ref x.1)))) w qf qt (putA F a x) ts := by
  refine ⟨fun b o e => ?_, h.nf, h.nt, h.ne, ?_, ?_, fun c y hy => ?_, fun y hy => (h.tr y hy).upd h.f⟩
  · rw [upd_ne (ne_of_none e h.nf)]
    exact h.sm _ _ e
  · rw [upd_same, fl_set ha]
  · rw [upd_ne h.ne.symm]
    exact h.t
  · unfold putA at hy
    by_cases hc : c = a
    · rw [if_pos hc] at hy
      injection hy with hy
      rw [← hy]
      exact hx.upd h.f
    · rw [if_neg hc] at hy
      exact (h.fr c y hy).upd h.f
theorem FT.setT {H0 H : Hp} {w : Nat} {qf qt : Addr} {F : Fa} {ts ts' : List (Addr × List Int)} (h : FT H0 H w qf qt F ts) (hx : ∀ x ∈ ts', RT H x) : FT H0 (upd H qt (.lst (rf ts'))) w qf qt F ts' := by
  refine ⟨fun b o e => ?_, h.nf, h.nt, h.ne, ?_, upd_same, fun c y hy => (h.fr c y hy).upd h.t, fun y hy => (hx y hy).upd h.t⟩
  · rw [upd_ne (ne_of_none e h.nt)]
    exact h.sm _ _ e
  · rw [upd_ne h.ne]
    exact h.f
abbrev NM : List Str := ["_law_width", "_law_rows", "_law_found", "_law_todo", "_law_row", "_law_at", "_law_held", "_law_times", "_law_steps", "_law_pivot"]
abbrev XM (P : Program) (w : World) (K : PySem.W.Frag) (mg : Str → Option Value) (base : Heap) (f : Addr) (cdv : Value) (A : Around) (outer : List Env) (s : Shared) (H : Hp) (E : XK) : Cx := (cxOf CX0 P w K mg base NM "_law_normal" (defScope sNormL) f cdv A outer s H E).nox
abbrev sm (i : Nat) : Stmt := (defBody sNormL).getD i (.Pass ⟨0, 0, 0, 0⟩)
def mb : List Stmt := whileBody (sm 1)
abbrev mbs (i : Nat) : Stmt := mb.getD i (.Pass ⟨0, 0, 0, 0⟩)
def elseBody : Stmt → List Stmt
  | .If _ _ b _ => b
  | _ => []
def lessB : List Stmt := ifBody ((elseBody (mbs 2)).getD 0 (.Pass ⟨0, 0, 0, 0⟩))
abbrev lbS (i : Nat) : Stmt := lessB.getD i (.Pass ⟨0, 0, 0, 0⟩)
theorem rf_snoc (ts : List (Addr × List Int)) (p : Addr) (r : List Int) : rf ts ++ [.ref p] = rf (ts ++ [(p, r)]) := (List.map_append (l₁ := ts) (l₂ := [(p, r)]) (f := fun x : Addr × List Int => V.ref x.1)).symm
theorem fn_mem {r : List Int} {B : Nat} (h : ∀ i, (Hm.fn r i).natAbs ≤ B) : ∀ y ∈ r, y.natAbs ≤ B := by
  intro y hy
  obtain ⟨j, hj⟩ := List.mem_iff_getElem?.mp hy
  have h1 := h j
  unfold Hm.fn at h1
  rw [List.getD_eq_getElem?_getD, hj] at h1
  exact h1
section
variable {P : Program} {w : World} {K : PySem.W.Frag} {mg : Str → Option Value} {base : Heap}
variable {f fF fL fB : Addr} {fdF fdL fdB : FuncData} {A : Around} {outer : List Env} {s : Shared} {H : Hp} {E : XK} {cdv : Value}
/-- behind the exchange -/
theorem mtail (B : Bz mg) (cL : Cb P w K mg base CX0 1 "_law_less" ["_law_one", "_law_other"] spLessL fL fdL) (cB : Cb P w K mg base CX0 1 "_law_by" ["_law_one", "_law_times"] spByL fB fdB) (hr : Room 2 (A.deeper (envOfC "_law_normal" (defScope sNormL) s.heap.objs.size f cdv))) :
    ∃ t, PSs (XM P w K mg base f cdv A outer s H E) [lbS 1, lbS 2, lbS 3] t ∧ ∀ (D : Ends) (H0 H1 : Hp) (wd a e2 e3 : Nat) (l qf qt : Addr) (F : Fa) (ts : List (Addr × List Int)) (row held : Addr × List Int) (y6 y7 y8 y9 : Option V),
      FT H0 H1 wd qf qt F ts → RT H1 row → F a = some held → a < wd → wd ≤ 3 → row.2.length = wd → held.2.length = wd → (Hm.fn row.2 a).natAbs ≤ 2 ^ e2 → (Hm.fn held.2 a).natAbs ≤ 2 ^ e2 → (∀ i, (Hm.fn held.2 i).natAbs ≤ 2 ^ e3) → Hm.fn held.2 a ≠ 0 → e2 ≤ 8000 → e3 ≤ 100000 → ts.length ≤ 1000 →
      (∀ (H' : Hp) (p : Addr) (z6 z7 : Option V), FT H0 H' wd qf qt F (ts ++ [(p, Hm.lsl row.2 held.2 (Hm.tms (Hm.fn row.2 a) (Hm.fn held.2 a)))]) → D.nx [some (.int (wd : Nat)), some (.ref l), some (.ref qf), some (.ref qt), some (.ref row.1), some (.int (a : Nat)), z6, z7, y8, y9] H') →
      t D [some (.int (wd : Nat)), some (.ref l), some (.ref qf), some (.ref qt), some (.ref row.1), some (.int (a : Nat)), y6, y7, y8, y9] H1 := by
  have r1 : Room 1 (A.deeper (envOfC "_law_normal" (defScope sNormL) s.heap.objs.size f cdv)) := hr.mono (by decide)
  refine ⟨_, pss_cons (ps_set (i := 6) scNormL.nd rfl (.inl rfl) (pe_ix ix_list (pv 2) (pv 5) (fun _ _ => rfl)))
    (pss_cons (ps_set (i := 7) scNormL.nd rfl (.inl rfl) (pe_op Rs.op_fdivF (pe_ix ix_tup (pv 4) (pv 5) (fun _ _ => rfl)) (pe_callB (call_max2 rfl) (by rfl) B.max boot_max (pa_cons pe_int (pa_cons (pe_callB call_abs (by rfl) B.b.abs boot_abs (pa_cons (pe_ix ix_tup (pv 6) (pv 5) (fun _ _ => rfl)) pa_nil)) pa_nil)))))
    (pss_one (ps_expr (pe_bm PySem.F.plainAttrs_list PySem.F.slot_list_append PySem.F.type_list_append mt_append (pv 3) (pa_cons (pe_call cL.ok r1 (by rfl) cL.g cL.kp cL.b .nil pass0 (pa_cons (pv 4) (pa_cons (pe_call cB.ok r1 (by rfl) cB.g cB.kp cB.b .nil pass0 (pa_cons (pv 6) (pa_cons (pe_ifExp (pt_cmpR op_gt (pe_ix ix_tup (pv 6) (pv 5) (fun _ _ => rfl)) pe_int (nomark _)) (pv 7) (pe_un un_neg (pv 7))) pa_nil))) pa_nil))) pa_nil))))), ?_⟩
  intro D H0 H1 wd a e2 e3 l qf qt F ts row held y6 y7 y8 y9 ft hrow hF ha hw hlr hlh b1 b2 b3 hz c2 c3 h1000 nx
  have hheld := ft.fr a held hF
  have fva : (fl wd F)[a]? = some (.ref held.1) := by
    rw [fl_at ha]
    unfold fv
    rw [hF]
  have hab : atI (held.2.map V.int) (a : Int) = some (.int (held.2.getD a 0)) := row_at (by omega)
  have p2 : 1 ≤ 2 ^ e2 := Nat.pow_pos (by omega)
  have e2s : 2 ^ (e2 + 1) = 2 ^ e2 + 2 ^ e2 := by rw [Nat.pow_succ]; omega
  have dv : (max 1 ((Hm.fn held.2 a).natAbs : Int)) ≠ 0 := by omega
  have dl : (max 1 ((Hm.fn held.2 a).natAbs : Int)).natAbs < 2 ^ (e2 + 1) := by omega
  refine ⟨_, rfl, _, rfl, qf, _, (a : Int), _, rfl, rfl, SqL.of ft.f, atI_nat fva, ?_⟩
  refine ⟨_, rfl, _, rfl, row.1, _, (a : Int), _, rfl, rfl, SqT.of hrow, row_at (by omega), _, rfl, _, rfl, held.1, _, (a : Int), _, rfl, rfl, SqT.of hheld, hab, _, rfl, _, _, rfl, ?_⟩
  rw [mx]
  refine ⟨_, _, rfl, rfl, ⟨dv, Nat.lt_of_lt_of_le (PySem.Flt.log2_lt_of (by omega) dl) (by omega)⟩, ?_⟩
  refine ⟨_, rfl, .inl ⟨rfl, _, SqL.of ft.t⟩, _, rfl, _, rfl, _, rfl, _, rfl, held.1, _, (a : Int), _, rfl, rfl, SqT.of hheld, hab, _, _, rfl, rfl, _, rfl, ?_⟩
  have qb : ((Hm.fn row.2 a).fdiv (max 1 ((Hm.fn held.2 a).natAbs : Int))).natAbs < 2 ^ (e2 + 2) := by
    have h1 := (Hm.rest_sign (x := Hm.fn row.2 a) (l := max 1 ((Hm.fn held.2 a).natAbs : Int)) dv).2.2
    have h2 : 2 ^ (e2 + 2) = 2 ^ (e2 + 1) + 2 ^ (e2 + 1) := by rw [Nat.pow_succ]; omega
    omega
  have hb3 : ∀ y ∈ held.2, y.natAbs < 2 ^ (e3 + 1) := fun y hy => by
    have h1 := fn_mem b3 y hy
    have h2 := Hm.two_pow_lt (show e3 < e3 + 1 by omega)
    omega
  have hc : ∀ t : Int, t.natAbs < 2 ^ (e2 + 2) → ∀ y ∈ held.2, CMulW t y := fun t ht y hy => wide_mul ht (hb3 y hy) (by omega) (by omega) (by omega)
  have out : ∀ (t : Int), t = Hm.tms (Hm.fn row.2 a) (Hm.fn held.2 a) → ∀ (H2 H3 : Hp) (p p3 : Addr), Same H1 H2 → Same H2 H3 → RT H3 (p3, subl row.2 (byl held.2 t)) → H3 qt = some (.lst (rf ts)) ∧ (rf ts).length < sizeLine ∧ FT H0 (upd H3 qt (.lst (rf ts ++ [.ref p3]))) wd qf qt F (ts ++ [(p3, Hm.lsl row.2 held.2 (Hm.tms (Hm.fn row.2 a) (Hm.fn held.2 a)))]) := by
    intro t et H2 H3 p p3 s2 s3 hp3
    have ft3 := (ft.same s2).same s3
    refine ⟨ft3.t, ?_, ?_⟩
    · rw [List.length_map]
      exact Nat.lt_of_le_of_lt h1000 (by decide)
    · have e : rf ts ++ [.ref p3] = rf (ts ++ [(p3, Hm.lsl row.2 held.2 (Hm.tms (Hm.fn row.2 a) (Hm.fn held.2 a)))]) := rf_snoc _ _ _
      rw [e]
      refine ft3.setT fun x hx => ?_
      rcases List.mem_append.mp hx with h | h
      · exact ft3.tr x h
      · obtain rfl := List.mem_singleton.mp h
        rw [subl_byl, et] at hp3
        exact hp3
  have lby : ∀ t : Int, row.2.length = (byl held.2 t).length := fun t => by
    unfold byl
    rw [List.length_map, hlr, hlh]
  by_cases hp : 0 < Hm.fn held.2 a
  · have et : (Hm.fn row.2 a).fdiv (max 1 ((Hm.fn held.2 a).natAbs : Int)) = Hm.tms (Hm.fn row.2 a) (Hm.fn held.2 a) := by
      unfold Hm.tms
      rw [if_pos hp]
    have hp' : (0 : Int) < held.2.getD a 0 := hp
    rw [decide_eq_true hp']
    refine iteT ⟨_, rfl, held, _, rfl, hheld, by omega, hc _ qb, fun H2 p s2 np hp2 => ?_⟩
    refine ⟨row, (p, byl held.2 _), rfl, hrow.same s2, hp2, lby _, by omega, fun H3 p3 s3 np3 hp3 => ?_⟩
    obtain ⟨o1, o2, o3⟩ := out _ et H2 H3 p p3 s2 s3 hp3
    exact ⟨qt, _, _, rfl, rfl, o1, o2, nx _ p3 _ _ o3⟩
  · have et : -((Hm.fn row.2 a).fdiv (max 1 ((Hm.fn held.2 a).natAbs : Int))) = Hm.tms (Hm.fn row.2 a) (Hm.fn held.2 a) := by
      unfold Hm.tms
      rw [if_neg hp]
    have hp' : ¬ (0 : Int) < held.2.getD a 0 := hp
    rw [decide_eq_false hp']
    refine iteF ⟨_, rfl, _, rfl, held, _, rfl, hheld, by omega, hc _ (by rw [Int.natAbs_neg]; exact qb), fun H2 p s2 np hp2 => ?_⟩
    refine ⟨row, (p, byl held.2 _), rfl, hrow.same s2, hp2, lby _, by omega, fun H3 p3 s3 np3 hp3 => ?_⟩
    obtain ⟨o1, o2, o3⟩ := out _ et H2 H3 p p3 s2 s3 hp3
    exact ⟨qt, _, _, rfl, rfl, o1, o2, nx _ p3 _ _ o3⟩
end
end KT
set_option maxRecDepth 100000
set_option maxHeartbeats 2000000
namespace KT
open PySem PySem.Spec PyProof.Rows L2
theorem lessB_is : lessB = lbS 0 :: [lbS 1, lbS 2, lbS 3] := rfl
theorem mb_is : mb = [mbs 0, mbs 1, mbs 2] := rfl
theorem ixN_nat {n a : Nat} (h : a < n) : ixN n ((a : Nat) : Int) = some a := by
  have z : atI (List.range n) ((a : Nat) : Int) = some a := atI_nat (by rw [List.getElem?_range h])
  unfold atI at z
  rw [List.length_range] at z
  cases e : ixN n ((a : Nat) : Int) with
  | none => rw [e] at z; cases z
  | some j =>
    rw [e] at z
    have z : (List.range n)[j]? = some a := z
    have hj := (List.getElem?_eq_some_iff.mp z)
    obtain ⟨h1, h2⟩ := hj
    rw [List.getElem_range] at h2
    rw [h2]
section
variable {P : Program} {w : World} {K : PySem.W.Frag} {mg : Str → Option Value} {base : Heap}
variable {f fF fL fB : Addr} {fdF fdL fdB : FuncData} {A : Around} {outer : List Env} {s : Shared} {H : Hp} {E : XK} {cdv : Value}
/-- what holds at the while -/
def Mv (H0 : Hp) (wd b N : Nat) (R : List (List Int)) (l qf qt : Addr) (m : Nat) (σ : L2.St) (H : Hp) : Prop := ∃ (F : Fa) (ts : List (Addr × List Int)) (y4 y5 y6 y7 y8 y9 : Option V),
  σ = [some (.int (wd : Nat)), some (.ref l), some (.ref qf), some (.ref qt), y4, y5, y6, y7, y8, y9] ∧ FT H0 H wd qf qt F ts ∧ Hm.J wd b N (fd2 F) (rw_ ts) m ∧ Hm.LE wd R (fd2 F) (rw_ ts) ∧ ts.length ≤ 100
theorem mless (B : Bz mg) (cL : Cb P w K mg base CX0 1 "_law_less" ["_law_one", "_law_other"] spLessL fL fdL) (cB : Cb P w K mg base CX0 1 "_law_by" ["_law_one", "_law_times"] spByL fB fdB) (hr : Room 2 (A.deeper (envOfC "_law_normal" (defScope sNormL) s.heap.objs.size f cdv))) :
    ∃ t, PSs (XM P w K mg base f cdv A outer s H E) lessB t ∧ ∀ (D : Ends) (H0 H1 : Hp) (wd a b N m : Nat) (R : List (List Int)) (l qf qt : Addr) (F : Fa) (ts : List (Addr × List Int)) (x y : Addr × List Int) (y6 y7 y8 y9 : Option V),
      FT H0 H1 wd qf qt F ts → RT H1 x → F a = some y → a < wd → wd ≤ 3 → Hm.Beg (Hm.fn x.2) a → Hm.J wd b N (fd2 F) (rw_ ts ++ [x.2]) m → Hm.LE wd R (fd2 F) (rw_ ts ++ [x.2]) → Hm.el b N 2 ≤ 8000 → Hm.el b N 3 ≤ 100000 → ts.length < 100 →
      (∀ σ' H' m', m' < m → Mv H0 wd b N R l qf qt m' σ' H' → D.nx σ' H') →
      t D [some (.int (wd : Nat)), some (.ref l), some (.ref qf), some (.ref qt), some (.ref x.1), some (.int (a : Nat)), y6, y7, y8, y9] H1 := by
  obtain ⟨t1, p1, q1⟩ := mtail (f := f) (cdv := cdv) (outer := outer) (H := H) (E := E) B cL cB hr
  rw [lessB_is]
  refine ⟨_, pss_cons (ps_if (pt_cmpR op_lt (pe_callB call_abs (by rfl) B.b.abs boot_abs (pa_cons (pe_ix ix_tup (pv 4) (pv 5) (fun _ _ => rfl)) pa_nil)) (pe_callB call_abs (by rfl) B.b.abs boot_abs (pa_cons (pe_ix ix_tup (pe_ix ix_list (pv 2) (pv 5) (fun _ _ => rfl)) (pv 5) (fun _ _ => rfl)) pa_nil)) (nomark _))
    (pss_one (ps_asg (pe_tup (pa_cons (pe_ix ix_list (pv 2) (pv 5) (fun _ _ => rfl)) (pa_cons (pv 4) pa_nil))) (pg_tup (by rfl) (pgs_cons (pg_name (i := 4) scNormL.nd rfl (.inl rfl)) (pgs_cons (pg_sub (pv 2) (pv 5) set_list) pgs_nil))))) pss_nil) p1, ?_⟩
  intro D H0 H1 wd a b N m R l qf qt F ts x y y6 y7 y8 y9 ft hx hF ha hw hb j le c2 c3 h100 nx
  have hF2 : fd2 F a = some y.2 := by
    unfold fd2
    rw [hF]
    rfl
  have hy := ft.fr a y hF
  obtain ⟨⟨lx, ly⟩, d1, d2, d3, d4, d5⟩ := Hm.j_bd hw j hb ha hF2
  have fva : (fl wd F)[a]? = some (.ref y.1) := by
    rw [fl_at ha]
    unfold fv
    rw [hF]
  obtain ⟨m', hm', j'⟩ := Hm.j_less hw j hb ha hF2
  have le' := Hm.le_less le ha hF2 lx ly (Hm.tms (Hm.fn (Hm.gtr a x.2 y.2).1 a) (Hm.fn (Hm.gtr a x.2 y.2).2 a))
  refine ⟨_, rfl, _, rfl, x.1, _, (a : Int), _, rfl, rfl, SqT.of hx, row_at (by omega), _, rfl, _, rfl, _, rfl, qf, _, (a : Int), _, rfl, rfl, SqL.of ft.f, atI_nat fva, _, rfl, y.1, _, (a : Int), _, rfl, rfl, SqT.of hy, row_at (by omega), _, rfl, _, _, rfl, rfl, _, rfl, ?_⟩
  rw [abs_nat, abs_nat]
  rcases Hm.gtr_cases a x.2 y.2 with ⟨eg, hlt⟩ | ⟨eg, hle⟩
  · have hd : ((x.2.getD a 0).natAbs : Int) < ((y.2.getD a 0).natAbs : Int) := by
      have : (x.2.getD a 0).natAbs < (y.2.getD a 0).natAbs := hlt
      omega
    rw [decide_eq_true hd]
    refine iteT ?_
    refine ⟨_, rfl, _, rfl, qf, _, (a : Int), _, rfl, rfl, SqL.of ft.f, atI_nat fva, _, rfl, (by show 2 ≤ sizeLine; decide), fun T nT => ?_⟩
    have sT := same_new (o := .tup [.ref y.1, .ref x.1]) nT
    have ft1 := ft.same sT
    refine ⟨T, _, rfl, SqT.of upd_same, rfl, .ref y.1, [.ref x.1], rfl, .ref x.1, [], rfl, _, rfl, _, rfl, qf, _, (a : Int), a, rfl, rfl, ft1.f, by rw [fl_len]; exact ixN_nat ha, ?_⟩
    have ft2 := ft1.setF (hx.same sT) ha
    rw [eg] at j' le'
    refine ⟨rfl, q1 _ H0 _ wd a _ _ l qf qt (putA F a x) ts y x y6 y7 y8 y9 ft2 ((hy.same sT).upd ft1.f) (if_pos rfl) ha hw ly lx d2 d1 d3 hb.2 c2 c3 (by omega) fun H' p z6 z7 ft3 => ?_⟩
    refine nx _ H' m' hm' ⟨putA F a x, _, _, _, _, _, _, _, rfl, ft3, ?_, ?_, ?_⟩
    · rw [fd2_put]
      have e : rw_ (ts ++ [(p, Hm.lsl y.2 x.2 (Hm.tms (Hm.fn y.2 a) (Hm.fn x.2 a)))]) = rw_ ts ++ [Hm.lsl y.2 x.2 (Hm.tms (Hm.fn y.2 a) (Hm.fn x.2 a))] := List.map_append
      rw [e]
      exact j'
    · rw [fd2_put]
      have e : rw_ (ts ++ [(p, Hm.lsl y.2 x.2 (Hm.tms (Hm.fn y.2 a) (Hm.fn x.2 a)))]) = rw_ ts ++ [Hm.lsl y.2 x.2 (Hm.tms (Hm.fn y.2 a) (Hm.fn x.2 a))] := List.map_append
      rw [e]
      exact le'
    · rw [List.length_append, List.length_singleton]
      omega
  · have hd : ¬ ((x.2.getD a 0).natAbs : Int) < ((y.2.getD a 0).natAbs : Int) := by
      have : (y.2.getD a 0).natAbs ≤ (x.2.getD a 0).natAbs := hle
      omega
    rw [decide_eq_false hd]
    refine iteF ?_
    rw [eg] at j' le'
    refine q1 _ H0 _ wd a _ _ l qf qt F ts x y y6 y7 y8 y9 ft hx hF ha hw lx ly d1 d2 d4 d5 c2 c3 (by omega) fun H' p z6 z7 ft3 => ?_
    have ep : Hm.putG (fd2 F) a y.2 = fd2 F := by rw [← fd2_put, putA_same hF]
    have j' : Hm.J wd b N (Hm.putG (fd2 F) a y.2) (rw_ ts ++ [Hm.lsl x.2 y.2 (Hm.tms (Hm.fn x.2 a) (Hm.fn y.2 a))]) m' := j'
    have le' : Hm.LE wd R (Hm.putG (fd2 F) a y.2) (rw_ ts ++ [Hm.lsl x.2 y.2 (Hm.tms (Hm.fn x.2 a) (Hm.fn y.2 a))]) := le'
    rw [ep] at j' le'
    have e : rw_ (ts ++ [(p, Hm.lsl x.2 y.2 (Hm.tms (Hm.fn x.2 a) (Hm.fn y.2 a)))]) = rw_ ts ++ [Hm.lsl x.2 y.2 (Hm.tms (Hm.fn x.2 a) (Hm.fn y.2 a))] := List.map_append
    refine nx _ H' m' hm' ⟨F, _, _, _, _, _, _, _, rfl, ft3, ?_, ?_, ?_⟩
    · rw [e]
      exact j'
    · rw [e]
      exact le'
    · rw [List.length_append, List.length_singleton]
      omega
theorem mbody (B : Bz mg) (cF : Cb P w K mg base CX0 2 "_law_first_at" ["_law_row"] spFirst fF fdF) (cL : Cb P w K mg base CX0 1 "_law_less" ["_law_one", "_law_other"] spLessL fL fdL) (cB : Cb P w K mg base CX0 1 "_law_by" ["_law_one", "_law_times"] spByL fB fdB) (hr : Room 2 (A.deeper (envOfC "_law_normal" (defScope sNormL) s.heap.objs.size f cdv))) :
    ∃ t, PSs (XM P w K mg base f cdv A outer s H E) mb t ∧ ∀ (D : Ends) (H0 H1 : Hp) (wd b N m : Nat) (R : List (List Int)) (l qf qt : Addr) (F : Fa) (ts : List (Addr × List Int)) (y4 y5 y6 y7 y8 y9 : Option V),
      FT H0 H1 wd qf qt F ts → wd ≤ 3 → ts ≠ [] → Hm.J wd b N (fd2 F) (rw_ ts) m → Hm.LE wd R (fd2 F) (rw_ ts) → Hm.el b N 2 ≤ 8000 → Hm.el b N 3 ≤ 100000 → ts.length ≤ 100 →
      (∀ σ' H' m', m' < m → Mv H0 wd b N R l qf qt m' σ' H' → D.nx σ' H') →
      t D [some (.int (wd : Nat)), some (.ref l), some (.ref qf), some (.ref qt), y4, y5, y6, y7, y8, y9] H1 := by
  obtain ⟨t1, p1, q1⟩ := mless (f := f) (cdv := cdv) (outer := outer) (H := H) (E := E) B cL cB hr
  rw [mb_is]
  refine ⟨_, pss_cons (ps_set (i := 4) scNormL.nd rfl (.inl rfl) (pe_bm0 PySem.F.plainAttrs_list PySem.F.slot_list_pop PySem.F.type_list_pop mt_pop (pv 3)))
    (pss_cons (ps_set (i := 5) scNormL.nd rfl (.inr rfl) (pe_call cF.ok hr (by rfl) cF.g cF.kp cF.b .nil pass0 (pa_cons (pv 4) pa_nil)))
    (pss_one (ps_if (PW.pt (pw_and (pt_cmpR op_notN (pv 5) pe_non (nomark _)) (pw_and1 (pt_cmpR op_isN (pe_ix ix_list (pv 2) (pv 5) (fun _ _ => rfl)) pe_non (nomark _)))))
      (pss_one (ps_asg (pv 4) (pg_sub (pv 2) (pv 5) set_list)))
      (pss_one (ps_if (pt_cmpR op_notN (pv 5) pe_non (nomark _)) p1 pss_nil))))), ?_⟩
  intro D H0 H1 wd b N m R l qf qt F ts y4 y5 y6 y7 y8 y9 ft hw hne j le c2 c3 h100 nx
  obtain ⟨ts', x, rfl⟩ : ∃ ts' x, ts = ts' ++ [x] := ⟨ts.dropLast, ts.getLast hne, (List.dropLast_concat_getLast hne).symm⟩
  have er : rw_ (ts' ++ [x]) = rw_ ts' ++ [x.2] := List.map_append
  rw [er] at j le
  rw [List.length_append, List.length_singleton] at h100
  have hx := ft.tr x (List.mem_append_right _ List.mem_cons_self)
  have ef : rf (ts' ++ [x]) = rf ts' ++ [.ref x.1] := List.map_append
  have hd : (rf (ts' ++ [x])).dropLast = rf ts' := by rw [ef, List.dropLast_concat]
  have hl : (rf (ts' ++ [x]))[(rf (ts' ++ [x])).length - 1]? = some (.ref x.1) := by
    rw [ef, List.length_append, List.length_singleton, Nat.add_sub_cancel, List.getElem?_append_right (Nat.le_refl _), Nat.sub_self]
    rfl
  refine ⟨_, rfl, .inl ⟨rfl, _, SqL.of ft.t⟩, qt, _, _, rfl, rfl, ft.t, hl, ?_⟩
  rw [hd]
  have ft1 := ft.setT (ts' := ts') fun y hy => ft.tr y (List.mem_append_left _ hy)
  have hx1 : RT (upd H1 qt (.lst (rf ts'))) x := hx.upd ft.t
  have lx := Hm.j_len j
  refine ⟨_, rfl, x, rfl, hx1, by omega, fun H2 s2 hz => ?_, fun H2 a s2 hb ha => ?_⟩
  · obtain ⟨m', hm', j'⟩ := Hm.j_zero j hz
    refine ⟨_, rfl, rfl, _, rfl, iteF ?_⟩
    refine ⟨_, rfl, rfl, _, rfl, iteF ?_⟩
    exact nx _ H2 m' hm' ⟨F, ts', _, _, _, _, _, _, rfl, ft1.same s2, j', Hm.le_zero le hz, by omega⟩
  · rw [lx] at ha
    have ft2 := ft1.same s2
    have hx2 := hx1.same s2
    refine ⟨_, rfl, rfl, _, rfl, iteT ?_⟩
    cases hF : F a with
    | none =>
      have hF2 : fd2 F a = none := by
        unfold fd2
        rw [hF]
        rfl
      have fva : (fl wd F)[a]? = some .non := by
        rw [fl_at ha]
        unfold fv
        rw [hF]
      obtain ⟨m', hm', j'⟩ := Hm.j_put j hb ha hF2
      refine ⟨_, rfl, _, rfl, qf, _, (a : Int), _, rfl, rfl, SqL.of ft2.f, atI_nat fva, rfl, _, rfl, iteT ?_⟩
      refine ⟨_, rfl, _, rfl, _, rfl, qf, _, (a : Int), a, rfl, rfl, ft2.f, by rw [fl_len]; exact ixN_nat ha, ?_⟩
      refine nx _ _ m' hm' ⟨putA F a x, ts', _, _, _, _, _, _, rfl, ft2.setF hx2 ha, ?_, ?_, by omega⟩
      · rw [fd2_put]
        exact j'
      · rw [fd2_put]
        exact Hm.le_put le ha hF2
    | some y =>
      have fva : (fl wd F)[a]? = some (.ref y.1) := by
        rw [fl_at ha]
        unfold fv
        rw [hF]
      refine ⟨_, rfl, _, rfl, qf, _, (a : Int), _, rfl, rfl, SqL.of ft2.f, atI_nat fva, rfl, _, rfl, iteF ?_⟩
      refine ⟨_, rfl, rfl, _, rfl, iteT ?_⟩
      exact q1 _ H0 H2 wd a b N m R l qf qt F ts' x y _ _ _ _ ft2 hx2 hF ha hw hb j le c2 c3 (by omega) nx
end
end KT
set_option maxRecDepth 100000
set_option maxHeartbeats 2000000
namespace KT
open PySem PySem.Spec PyProof.Rows L2
def fb : List Stmt := forBody (sm 3)
abbrev fbi : List Stmt := ifBody (fb.getD 0 (.Pass ⟨0, 0, 0, 0⟩))
theorem fb_is : fb = [fb.getD 0 (.Pass ⟨0, 0, 0, 0⟩)] := rfl
theorem sm_is : defBody sNormL = [sm 0, sm 1, sm 2, sm 3, sm 4] := rfl
theorem fn_byl (r : List Int) : Hm.fn (byl r (-1)) = Hm.neg (Hm.fn r) := by
  funext j
  show (r.map (-1 * ·)).getD j 0 = -1 * r.getD j 0
  rw [List.getD_eq_getElem?_getD, List.getD_eq_getElem?_getD, List.getElem?_map]
  cases r[j]? with
  | none => rfl
  | some x => rfl
/-- a row of steps before column i, with numbers below 2 ^ ((e + 2) * i) -/
def Sb (wd e i : Nat) (r : List Int) : Prop := r.length = wd ∧ ∀ j, (Hm.fn r j).natAbs < 2 ^ ((e + 2) * i)
theorem sb_red {wd e i : Nat} {r l : List Int} (h : Sb wd e i r) (hl : l.length = wd) (pos : 0 < Hm.fn l i) (hb : ∀ j, (Hm.fn l j).natAbs ≤ 2 ^ e) : Sb wd e (i + 1) (Hm.redL i l r) := by
  have ef : Hm.fn (Hm.redL i l r) = Hm.ls (Hm.fn r) (Hm.fn l) (Hm.fn r i / Hm.fn l i) := by
    unfold Hm.redL
    rw [Hm.fn_lsl (by rw [h.1, hl])]
    rfl
  refine ⟨Hm.lsl_len h.1 hl _, fun j => ?_⟩
  rw [ef]
  have h1 := h.2 j
  have h2 := h.2 i
  have h3 := hb j
  have hq : (Hm.fn r i / Hm.fn l i).natAbs ≤ (Hm.fn r i).natAbs + 1 := by
    have := (Hm.rest_sign (x := Hm.fn r i) (l := Hm.fn l i) (by omega)).2.2
    rw [Int.fdiv_eq_ediv_of_nonneg _ (by omega)] at this
    exact this
  have h4 : (Hm.fn r i / Hm.fn l i * Hm.fn l j).natAbs ≤ 2 ^ ((e + 2) * i) * 2 ^ e := by
    rw [Int.natAbs_mul]
    exact Nat.mul_le_mul (by omega) h3
  show (Hm.fn r j - Hm.fn r i / Hm.fn l i * Hm.fn l j).natAbs < _
  rw [← Nat.pow_add] at h4
  have h7 : 2 ^ ((e + 2) * i) ≤ 2 ^ ((e + 2) * i + e) := Nat.pow_le_pow_right (by omega) (by omega)
  have h8 : 2 ^ ((e + 2) * (i + 1)) = 2 ^ ((e + 2) * i + e) * 4 := by
    rw [Nat.mul_succ, ← Nat.add_assoc, Nat.pow_add _ _ 2]
  have h9 : 0 < 2 ^ ((e + 2) * i + e) := Nat.pow_pos (by omega)
  omega
theorem sb_new {wd e i : Nat} {l : List Int} (hl : l.length = wd) (hb : ∀ j, (Hm.fn l j).natAbs ≤ 2 ^ e) : Sb wd e (i + 1) l := ⟨hl, fun j => by
  have h1 := hb j
  have h2 := Hm.two_pow_lt (show e < (e + 2) * (i + 1) by rw [Nat.mul_succ]; omega)
  omega⟩
theorem mx1 {x : Int} (h : 0 < x) : (if x > 1 then x else 1) = x := by
  split <;> omega
section
variable {P : Program} {w : World} {K : PySem.W.Frag} {mg : Str → Option Value} {base : Heap}
variable {f fF fL fB : Addr} {fdF fdL fdB : FuncData} {A : Around} {outer : List Env} {s : Shared} {H : Hp} {E : XK} {cdv : Value}
/-- the new steps -/
theorem sset (B : Bz mg) (cL : Cb P w K mg base CX0 1 "_law_less" ["_law_one", "_law_other"] spLessL fL fdL) (cB : Cb P w K mg base CX0 1 "_law_by" ["_law_one", "_law_times"] spByL fB fdB) (hr : Room 2 (A.deeper (envOfC "_law_normal" (defScope sNormL) s.heap.objs.size f cdv))) :
    ∃ t, PS (XM P w K mg base f cdv A outer s H E) (fbi.getD 1 (.Pass ⟨0, 0, 0, 0⟩)) t ∧ ∀ (D : Ends) (H1 : Hp) (wd a e : Nat) (qs : Addr) (ys : List (Addr × List Int)) (x : Addr × List Int) (y0 y1 y2 y3 y4 y6 y7 : Option V),
      RL H1 qs ys → RT H1 x → a < wd → wd ≤ 3 → x.2.length = wd → 0 < Hm.fn x.2 a → (∀ j, (Hm.fn x.2 j).natAbs ≤ 2 ^ e) → (Hm.fn x.2 a).natAbs < 2 ^ 8001 → e ≤ 100000 → (∀ r ∈ rw_ ys, Sb wd e a r) → ys.length ≤ 3 →
      (∀ (H' : Hp) (p : Addr) (zs : List (Addr × List Int)), Same H1 H' → H1 p = none → RL H' p (zs ++ [x]) → rw_ zs = (rw_ ys).map (Hm.redL a x.2) → D.nx [y0, y1, y2, y3, y4, some (.int (a : Nat)), y6, y7, some (.ref p), some (.ref x.1)] H') →
      t D [y0, y1, y2, y3, y4, some (.int (a : Nat)), y6, y7, some (.ref qs), some (.ref x.1)] H1 := by
  have r1 : Room 1 (A.deeper (envOfC "_law_normal" (defScope sNormL) s.heap.objs.size f cdv)) := hr.mono (by decide)
  refine ⟨_, ps_set (i := 8) scNormL.nd rfl (.inl rfl) (pe_op op_cat (pe_lc (own := [("_law_row", 4)]) (g := gName 4) (tt := tYes)
      (te := tCall spLessL [] E0 (tCons (tVar 4) (tCons (tCall spByL [] E0 (tCons (tVar 9) (tCons (tOp (rI (fun _ j => j ≠ 0 ∧ j.natAbs.log2 < 9000) fun i j => .int (i.fdiv j)) (tOp (rIxT K) (tVar 4) (tVar 5)) (tCB (fun xs H Q => ∃ i j, xs = [.int i, .int j] ∧ Q (.int (if j > i then j else i)) H) (tCons (tC (.int 1)) (tCons (tOp (rIxT K) (tVar 9) (tVar 5)) tNil)))) tNil))) tNil)))
      rfl scNormL.nd (pi_list (pv 8))
      (blkOk_by (N := NM) (sc := defScope sNormL) (by decide +kernel)) (fun _ _ _ _ _ => pg_name (i := 4) scNormL.nd rfl (Or.inl rfl)) (fun _ _ _ _ _ => pts_nil)
      (fun _ _ _ _ _ => pe_call cL.ok r1 (by rfl) cL.g cL.kp cL.b .nil pass0 (pa_cons (pv 4) (pa_cons (pe_call cB.ok r1 (by rfl) cB.g cB.kp cB.b .nil pass0 (pa_cons (pv 9) (pa_cons (pe_op Rs.op_fdivF (pe_ix ix_tup (pv 4) (pv 5) (fun _ _ => rfl)) (pe_callB (call_max2 rfl) (by rfl) B.max boot_max (pa_cons pe_int (pa_cons (pe_ix ix_tup (pv 9) (pv 5) (fun _ _ => rfl)) pa_nil)))) pa_nil))) pa_nil))))
    (pe_lst (pa_cons (pv 9) pa_nil))), ?_⟩
  intro D H1 wd a e qs ys x y0 y1 y2 y3 y4 y6 y7 hR hx ha hw hlen hpos hbd h8 he hSb h3 nx
  refine ⟨_, rfl, qs, rfl, ⟨_, SqL.of hR.lst⟩, fun D2 nD2 => ?_⟩
  refine lc_rows (e := fun x : Addr × List Int => V.ref x.1) (walk_list (K := K) (a := qs))
    (te := tCall spLessL [] E0 (tCons (tVar 4) (tCons (tCall spByL [] E0 (tCons (tVar 9) (tCons (tOp (rI (fun _ j => j ≠ 0 ∧ j.natAbs.log2 < 9000) fun i j => .int (i.fdiv j)) (tOp (rIxT K) (tVar 4) (tVar 5)) (tCB (fun xs H Q => ∃ i j, xs = [.int i, .int j] ∧ Q (.int (if j > i then j else i)) H) (tCons (tC (.int 1)) (tCons (tOp (rIxT K) (tVar 9) (tVar 5)) tNil)))) tNil))) tNil)))
    (σ := [y0, y1, y2, y3, y4, some (.int (a : Nat)), y6, y7, some (.ref qs), some (.ref x.1)]) (i := 4) (fun r => Hm.redL a x.2 r.2) (Nat.lt_of_le_of_lt h3 (by decide)) nD2 (fun H2 s2 => SqL.of (s2 _ _ hR.lst)) ?_ ?_
  · intro r H2 Q hr2 s2 hQ
    have hS2 := hSb r.2 (rw_mem hr2)
    have hrr := (hR.row r hr2).same s2
    have hxr := hx.same s2
    refine ⟨_, rfl, _, rfl, _, rfl, _, rfl, r.1, _, (a : Int), _, rfl, rfl, SqT.of hrr, row_at (by rw [hS2.1]; exact ha), _, rfl, _, rfl, x.1, _, (a : Int), _, rfl, rfl, SqT.of hxr, row_at (by rw [hlen]; exact ha), _, _, rfl, ?_⟩
    have hp' : (0 : Int) < x.2.getD a 0 := hpos
    rw [mx1 hp']
    refine ⟨_, _, rfl, rfl, ⟨by omega, ?_⟩, x, (Hm.fn r.2 a).fdiv (Hm.fn x.2 a), rfl, hxr, by omega, ?_, fun H3 p3 s3 np3 hp3 => ⟨r, (p3, byl x.2 ((Hm.fn r.2 a).fdiv (Hm.fn x.2 a))), rfl, hrr.same s3, hp3, ?_, by rw [hS2.1]; exact hw, fun H4 p4 s4 np4 hp4 => hQ H4 p4 (s3.trans s4) ?_⟩⟩
    · exact Nat.lt_of_lt_of_le (PySem.Flt.log2_lt_of (by omega) h8) (by omega)
    · intro y hy
      have hq : ((Hm.fn r.2 a).fdiv (Hm.fn x.2 a)).natAbs < 2 ^ ((e + 2) * a + 1) := by
        have h1 := (Hm.rest_sign (x := Hm.fn r.2 a) (l := Hm.fn x.2 a) (by omega)).2.2
        have h2 := hS2.2 a
        have h4 : 2 ^ ((e + 2) * a + 1) = 2 ^ ((e + 2) * a) + 2 ^ ((e + 2) * a) := by rw [Nat.pow_succ]; omega
        have h5 : 1 ≤ 2 ^ ((e + 2) * a) := Nat.pow_pos (by omega)
        omega
      have hy2 : y.natAbs < 2 ^ (e + 1) := Nat.lt_of_le_of_lt (fn_mem hbd y hy) (Hm.two_pow_lt (by omega))
      have hm2 : (e + 2) * a ≤ 300000 := Nat.le_trans (Nat.mul_le_mul (show e + 2 ≤ 100002 by omega) (show a ≤ 2 by omega)) (by decide)
      exact wide_mul hq hy2 (by omega) (by omega) (by omega)
    · show r.2.length = (byl x.2 _).length
      unfold byl
      rw [List.length_map, hS2.1, hlen]
    · have hp4 : RT H4 (p4, subl r.2 (byl x.2 ((Hm.fn r.2 a).fdiv (Hm.fn x.2 a)))) := hp4
      rw [subl_byl, Int.fdiv_eq_ediv_of_nonneg _ (by omega)] at hp4
      exact hp4
  · intro H2 zs s2 hR2 hz
    refine ⟨_, rfl, (by show 1 ≤ sizeLine; decide), fun p1 np1 => ?_⟩
    have s3 := same_new (o := .lst [.ref x.1]) np1
    refine ⟨D2, p1, _, _, rfl, rfl, s3 _ _ hR2.lst, upd_same, ?_, fun p np => ?_⟩
    · have h1 : (rw_ zs).length = (ys.map fun r => Hm.redL a x.2 r.2).length := by rw [hz]
      rw [List.length_map, List.length_map] at h1
      rw [List.length_map]
      exact Nat.le_trans (show zs.length + 1 ≤ 4 by omega) (by decide)
    · have s4 := same_new (o := .lst (rf zs ++ [.ref x.1])) np
      refine nx _ p zs ((s2.trans s3).trans s4) ((s2.trans s3).free np) ⟨?_, fun y hy2 => ?_⟩ ?_
      · rw [upd_same]
        exact congrArg (fun z => some (HO.lst z)) (List.map_append (l₁ := zs) (l₂ := [x]) (f := fun x : Addr × List Int => V.ref x.1)).symm
      · rcases List.mem_append.mp hy2 with h | h
        · exact ((hR2.row y h).same s3).same s4
        · obtain rfl := List.mem_singleton.mp h
          exact hx.same ((s2.trans s3).trans s4)
      · rw [hz, List.map_map]
        rfl
end
end KT
set_option maxRecDepth 100000
set_option maxHeartbeats 2000000
namespace KT
open PySem PySem.Spec PyProof.Rows L2
theorem fbi_is : fbi = [fbi.getD 0 (.Pass ⟨0, 0, 0, 0⟩), fbi.getD 1 (.Pass ⟨0, 0, 0, 0⟩)] := rfl
theorem rep_none (w : Nat) : (List.replicate w [V.non]).flatten = fl w (fun _ => none) := by
  refine List.ext_getElem? fun i => ?_
  have e : (List.replicate w [V.non]).flatten = List.replicate w V.non := by
    induction w with
    | zero => rfl
    | succ w ih =>
      rw [List.replicate_succ, List.flatten_cons, ih]
      rfl
  rw [e]
  by_cases hi : i < w
  · rw [fl_at hi, List.getElem?_replicate_of_lt hi]
    rfl
  · rw [List.getElem?_eq_none (by rw [List.length_replicate]; omega), List.getElem?_eq_none (by rw [fl_len]; omega)]
def spNormL : Sp := fun vs H Q _ => ∃ (l : Addr) (rs : List (Addr × List Int)) (w b N : Nat), vs = [.int (w : Nat), .ref l] ∧ RL H l rs ∧ w ≤ 3 ∧ rs.length ≤ N ∧ rs.length ≤ 100 ∧ (∀ r ∈ rw_ rs, Hm.Ok w b r) ∧ Hm.el b N 2 ≤ 8000 ∧ Hm.el b N 3 ≤ 100000 ∧
  ∀ (H' : Hp) (q : Addr) (ys : List (Addr × List Int)) (R0 rest : List (List Int)), Same H H' → H q = none → RL H' q ys → Hm.Nrm w w R0 (rw_ ys) rest → Hm.Eqs (Hm.In ((rw_ rs).map Hm.fn)) (Hm.In (R0.map Hm.fn)) → ys.length ≤ w → Q (.ref q) H'
section
variable {P : Program} {w : World} {K : PySem.W.Frag} {mg : Str → Option Value} {base : Heap}
variable {f fF fL fB : Addr} {fd fdF fdL fdB : FuncData} {A : Around} {outer : List Env} {s : Shared} {H : Hp} {E : XK} {cdv : Value}
/-- what holds at column i of the steps -/
def Sv (H0 : Hp) (wd e : Nat) (l qf qt : Addr) (F : Fa) (i : Nat) (σ : L2.St) (H : Hp) : Prop := ∃ (qs : Addr) (ys : List (Addr × List Int)) (y4 y5 y6 y7 y9 : Option V),
  σ = [some (.int (wd : Nat)), some (.ref l), some (.ref qf), some (.ref qt), y4, y5, y6, y7, some (.ref qs), y9] ∧ FT H0 H wd qf qt F [] ∧ H0 qs = none ∧ RL H qs ys ∧ Hm.Nrm wd i (Hm.frw wd (fd2 F) 0) (rw_ ys) (Hm.frw wd (fd2 F) i) ∧ (∀ r ∈ rw_ ys, Sb wd e i r) ∧ ys.length ≤ i
theorem fbody (B : Bz mg) (cL : Cb P w K mg base CX0 1 "_law_less" ["_law_one", "_law_other"] spLessL fL fdL) (cB : Cb P w K mg base CX0 1 "_law_by" ["_law_one", "_law_times"] spByL fB fdB) (hr : Room 2 (A.deeper (envOfC "_law_normal" (defScope sNormL) s.heap.objs.size f cdv))) :
    ∃ t, PSs (XM P w K mg base f cdv A outer s H E) fb t ∧ ∀ (D : Ends) (H0 H1 : Hp) (wd i b N : Nat) (l qf qt qs : Addr) (F : Fa) (ys : List (Addr × List Int)) (y4 y6 y7 y9 : Option V),
      FT H0 H1 wd qf qt F [] → H0 qs = none → RL H1 qs ys → Hm.Nrm wd i (Hm.frw wd (fd2 F) 0) (rw_ ys) (Hm.frw wd (fd2 F) i) → (∀ r ∈ rw_ ys, Sb wd (Hm.el b N 3) i r) → ys.length ≤ i → i < wd → wd ≤ 3 → (∀ c h, fd2 F c = some h → Hm.FB wd b N c N h) → Hm.el b N 2 ≤ 8000 → Hm.el b N 3 ≤ 100000 →
      (∀ σ' H', Sv H0 wd (Hm.el b N 3) l qf qt F (i + 1) σ' H' → D.nx σ' H') →
      t D [some (.int (wd : Nat)), some (.ref l), some (.ref qf), some (.ref qt), y4, some (.int (i : Nat)), y6, y7, some (.ref qs), y9] H1 := by
  obtain ⟨t1, p1, q1⟩ := sset (f := f) (cdv := cdv) (outer := outer) (H := H) (E := E) B cL cB hr
  have r1 : Room 1 (A.deeper (envOfC "_law_normal" (defScope sNormL) s.heap.objs.size f cdv)) := hr.mono (by decide)
  rw [fb_is]
  refine ⟨_, pss_one (ps_if (pt_cmpR op_notN (pe_ix ix_list (pv 2) (pv 5) (fun _ _ => rfl)) pe_non (nomark _))
    (show PSs _ fbi _ by
      rw [fbi_is]
      exact pss_cons (ps_set (i := 9) scNormL.nd rfl (.inr rfl) (pe_ifExp (pt_cmpR op_gt (pe_ix ix_tup (pe_ix ix_list (pv 2) (pv 5) (fun _ _ => rfl)) (pv 5) (fun _ _ => rfl)) pe_int (nomark _)) (pe_ix ix_list (pv 2) (pv 5) (fun _ _ => rfl))
        (pe_call cB.ok r1 (by rfl) cB.g cB.kp cB.b .nil pass0 (pa_cons (pe_ix ix_list (pv 2) (pv 5) (fun _ _ => rfl)) (pa_cons (pe_un un_neg pe_int) pa_nil))))) (pss_one p1)) pss_nil), ?_⟩
  intro D H0 H1 wd i b N l qf qt qs F ys y4 y6 y7 y9 ft nqs hR hN hSb hyi hi hw hFB c2 c3 nx
  cases hF : F i with
  | none =>
    have hF2 : fd2 F i = none := by
      unfold fd2
      rw [hF]
      rfl
    have fva : (fl wd F)[i]? = some .non := by
      rw [fl_at hi]
      unfold fv
      rw [hF]
    refine ⟨_, rfl, _, rfl, qf, _, (i : Int), _, rfl, rfl, SqL.of ft.f, atI_nat fva, rfl, _, rfl, iteF ?_⟩
    refine nx _ H1 ⟨qs, ys, _, _, _, _, _, rfl, ft, nqs, hR, Hm.nrm_step0 hFB hN hi hF2, fun r hr => ?_, by omega⟩
    have z := hSb r hr
    exact ⟨z.1, fun j => Nat.lt_of_lt_of_le (z.2 j) (Nat.pow_le_pow_right (by omega) (Nat.mul_le_mul_left _ (by omega)))⟩
  | some x =>
    have hF2 : fd2 F i = some x.2 := by
      unfold fd2
      rw [hF]
      rfl
    have fva : (fl wd F)[i]? = some (.ref x.1) := by
      rw [fl_at hi]
      unfold fv
      rw [hF]
    have hx := ft.fr i x hF
    have fbx := hFB i x.2 hF2
    have lx := fbx.len
    have at_ : atI (x.2.map V.int) (i : Int) = some (.int (x.2.getD i 0)) := row_at (by omega)
    have e3 : ∀ j, (Hm.fn x.2 j).natAbs ≤ 2 ^ Hm.el b N 3 := fun j => by
      rcases Nat.lt_trichotomy j i with h | h | h
      · rw [fbx.beg.1 j h]
        exact Nat.zero_le _
      · rw [h]
        exact Nat.le_trans fbx.lead (Hm.pw (Hm.el_le (by omega)))
      · exact Nat.le_trans (fbx.bd j h) (Hm.pw (Nat.le_trans (Hm.ek_top (Nat.le_refl _)) (Hm.el_le (by omega))))
    have e8 : (Hm.fn x.2 i).natAbs < 2 ^ 8001 := Nat.lt_of_le_of_lt (Nat.le_trans fbx.lead (Hm.pw (Nat.le_trans (Hm.el_le (show i ≤ 2 by omega)) c2))) (Hm.two_pow_lt (by omega))
    refine ⟨_, rfl, _, rfl, qf, _, (i : Int), _, rfl, rfl, SqL.of ft.f, atI_nat fva, rfl, _, rfl, iteT ?_⟩
    refine ⟨_, rfl, _, rfl, qf, _, (i : Int), _, rfl, rfl, SqL.of ft.f, atI_nat fva, _, rfl, x.1, _, (i : Int), _, rfl, rfl, SqT.of hx, at_, _, _, rfl, rfl, _, rfl, ?_⟩
    have go : ∀ (H2 : Hp) (l' : Addr × List Int), Same H1 H2 → RT H2 l' → l'.2.length = wd → Hm.fn l'.2 = Hm.sgd (Hm.fn x.2) i → t1 D [some (.int (wd : Nat)), some (.ref l), some (.ref qf), some (.ref qt), y4, some (.int (i : Nat)), y6, y7, some (.ref qs), some (.ref l'.1)] H2 := by
      intro H2 l' s2 hl' ll el
      have ab : ∀ j, (Hm.fn l'.2 j).natAbs = (Hm.fn x.2 j).natAbs := fun j => by
        rw [el]
        unfold Hm.sgd
        split
        · rfl
        · show (-1 * Hm.fn x.2 j).natAbs = _
          omega
      have pos : 0 < Hm.fn l'.2 i := by
        rw [el]
        unfold Hm.sgd
        have hz := fbx.beg.2
        split
        · assumption
        · show 0 < -1 * Hm.fn x.2 i
          omega
      refine q1 D H2 wd i (Hm.el b N 3) qs ys l' _ _ _ _ _ _ _ (hR.same s2) hl' hi hw ll pos (fun j => by rw [ab]; exact e3 j) (by rw [ab]; exact e8) c3 hSb (by omega) fun H3 p zs s3 np hR3 hz => ?_
      have er : rw_ (zs ++ [l']) = (rw_ ys).map (Hm.redL i l'.2) ++ [l'.2] := by
        rw [← hz]
        exact List.map_append
      refine nx _ H3 ⟨p, zs ++ [l'], _, _, _, _, _, rfl, (ft.same s2).same s3, ((ft.sm.trans s2)).free np, hR3, ?_, ?_, ?_⟩
      · rw [er]
        exact Hm.nrm_step1 hFB hN hi hF2 ll el
      · intro r hr
        rw [er] at hr
        rcases List.mem_append.mp hr with h | h
        · obtain ⟨r0, h0, rfl⟩ := List.mem_map.mp h
          exact sb_red (hSb r0 h0) ll pos (fun j => by rw [ab]; exact e3 j)
        · obtain rfl := List.mem_singleton.mp h
          exact sb_new ll (fun j => by rw [ab]; exact e3 j)
      · have h1 : (rw_ (zs ++ [l'])).length = ((rw_ ys).map (Hm.redL i l'.2) ++ [l'.2]).length := by rw [er]
        rw [List.length_map, List.length_append, List.length_append, List.length_map, List.length_map, List.length_singleton, List.length_singleton] at h1
        rw [List.length_append, List.length_singleton]
        omega
    by_cases hp : 0 < Hm.fn x.2 i
    · have hp' : (0 : Int) < x.2.getD i 0 := hp
      rw [decide_eq_true hp']
      refine iteT ⟨_, rfl, _, rfl, qf, _, (i : Int), _, rfl, rfl, SqL.of ft.f, atI_nat fva, ?_⟩
      refine go H1 x (Same.refl _) hx lx ?_
      unfold Hm.sgd
      rw [if_pos hp]
    · have hp' : ¬ (0 : Int) < x.2.getD i 0 := hp
      rw [decide_eq_false hp']
      refine iteF ⟨_, rfl, _, rfl, qf, _, (i : Int), _, rfl, rfl, SqL.of ft.f, atI_nat fva, _, rfl, x, -1, rfl, hx, by omega, fun y hy => ?_, fun H2 p s2 np hp2 => ?_⟩
      · have hy2 : y.natAbs < 2 ^ (Hm.el b N 3 + 1) := Nat.lt_of_le_of_lt (fn_mem e3 y hy) (Hm.two_pow_lt (by omega))
        exact wide_mul (a := 1) (by decide) hy2 (by omega) (by omega) (by omega)
      · refine go H2 (p, byl x.2 (-1)) s2 hp2 ?_ ?_
        · show (byl x.2 (-1)).length = wd
          unfold byl
          rw [List.length_map]
          exact lx
        · show Hm.fn (byl x.2 (-1)) = _
          rw [fn_byl]
          unfold Hm.sgd
          rw [if_neg hp]
theorem ok_norml (FN : Fun K "_law_normal" "_law_normal" sNormL f fd) (B : Bz mg) (cF : Cb P w K mg base CX0 2 "_law_first_at" ["_law_row"] spFirst fF fdF) (cL : Cb P w K mg base CX0 1 "_law_less" ["_law_one", "_law_other"] spLessL fL fdL) (cB : Cb P w K mg base CX0 1 "_law_by" ["_law_one", "_law_times"] spByL fB fdB) :
    FnOk P w K mg base CX0 3 f fd ["_law_width", "_law_rows"] spNormL := by
  refine FN.ok scNormL (fun vs H Q E h => ?_) (fun cdv A outer s H vs Q E hr h => ?_)
  · obtain ⟨l, rs, wd, b, N, rfl, _⟩ := h
    rfl
  · obtain ⟨l, rs, wd, b, N, rfl, hR, hw, hN, h100, hOk, c2, c3, q⟩ := h
    obtain ⟨t1, p1, q1⟩ := mbody (f := f) (cdv := cdv) (outer := outer) (H := H) (E := E) B cF cL cB hr
    obtain ⟨t3, p3, q3⟩ := fbody (f := f) (cdv := cdv) (outer := outer) (H := H) (E := E) B cL cB hr
    refine ⟨_, pss_cons (ps_par (i := 2) (j := 3) (by rfl) scNormL.nd rfl rfl (by decide) rfl rfl (pa_cons (pe_op op_rep (pe_lst (pa_cons pe_non pa_nil)) (pv 0)) (pa_cons (pe_callTy call_list_of (by rfl) B.b.list boot_list (pa_cons (pv 1) pa_nil)) pa_nil)) (by rfl))
      (pss_cons (ps_while PassesOwn.never (pt_cmpR (op_neD hr.units) (pv 3) (pe_lst pa_nil) (nomark _)) p1)
      (pss_cons (ps_set (i := 8) scNormL.nd rfl (.inl rfl) (pe_lst pa_nil))
      (pss_cons (ps_for PassesOwn.never rfl (pi_range1 (by rfl) B.b.range (pa_cons (pv 0) pa_nil)) (pg_name (i := 5) scNormL.nd rfl (Or.inr rfl)) p3)
      (pss_one (ps_ret (pv 8)))))), ?_⟩
    refine ⟨(by show 1 ≤ sizeLine; decide), fun p0 np0 => ⟨_, rfl, p0, _, _, rfl, rfl, upd_same, by omega, by omega, ?_, fun qf nqf => ?_⟩⟩
    · show 1 * ((wd : Nat) : Int).toNat ≤ sizeLine
      exact Nat.le_trans (show 1 * wd ≤ 3 by omega) (by decide)
    rw [show ((wd : Nat) : Int).toNat = wd from rfl, rep_none]
    have s0 := same_new (o := .lst [.non]) np0
    have s1 := same_new (o := .lst (fl wd fun _ => none)) nqf
    have hR1 := (hR.same s0).same s1
    refine ⟨_, rfl, l, _, rfl, .inl (SqL.of hR1.lst), fun qt nqt => ?_⟩
    have s2 := same_new (o := .lst (rf rs)) nqt
    refine ⟨_, _, rfl, ?_⟩
    have nf0 : H qf = none := s0.free nqf
    have nt0 : H qt = none := (s0.trans s1).free nqt
    have nft : qf ≠ qt := fun z => by
      rw [← z, upd_same] at nqt
      cases nqt
    have ft0 : FT H (upd (upd (upd H p0 (.lst [.non])) qf (.lst (fl wd fun _ => none))) qt (.lst (rf rs))) wd qf qt (fun _ => none) rs := by
      refine ⟨(s0.trans s1).trans s2, nf0, nt0, nft, ?_, upd_same, (fun c x h => nomatch h), fun x hx => (hR1.row x hx).same s2⟩
      rw [upd_ne nft]
      exact upd_same
    have j0 : Hm.J wd b N (fd2 fun _ => none) (rw_ rs) ((rw_ rs).length * (5 * Hm.XX b N) + 4 * Hm.XX b N) := Hm.j_start hOk (by rw [List.length_map]; exact hN)
    refine while_m (Mv H wd b N (rw_ rs) l qf qt) ⟨fun _ => none, rs, none, none, none, none, none, none, rfl, ft0, j0, Hm.le_start wd _, h100⟩ ?_ ?_
    · rintro m σ H1 ⟨F, ts, y4, y5, y6, y7, y8, y9, rfl, ft, j, le, hl⟩
      refine ⟨_, rfl, (by show 0 ≤ sizeLine; decide), fun p np => ?_⟩
      have s3 := same_new (o := .lst []) np
      have ft3 := ft.same s3
      refine ⟨dRs (rw_ ts), dRs [], .lst (SqL.of ft3.t) (dp_rowsL ts ft3.tr), .lst (SqL.of upd_same) .nil, shaped_rows _, shaped_rows _, _, rfl, ?_⟩
      rw [eqv_rows]
      cases ts with
      | nil =>
        refine iteF ?_
        have hFB := Hm.j_end j
        have hEq := Hm.le_end le
        refine ⟨(by show 0 ≤ sizeLine; decide), fun qs nqs => ⟨_, rfl, (wd : Int), rfl, by omega, by omega, ?_⟩⟩
        have s4 := same_new (o := .lst []) nqs
        refine for_it (walk_range (lo := 0) (n := (wd : Int).toNat)) (fun i σ H2 => Sv H wd (Hm.el b N 3) l qf qt F i σ H2) ⟨qs, [], _, _, _, _, _, rfl, ft3.same s4, ft3.sm.free nqs, ⟨upd_same, fun x hx => nomatch hx⟩, Hm.nrm0 hFB, (fun r hr => nomatch hr), Nat.le_refl _⟩ (fun _ _ _ _ _ => trivial) ?_ ?_
        · rintro i x σ H2 H2' hi ⟨qs2, ys2, z4, z5, z6, z7, z9, rfl, ft4, nq2, hR4, hN4, hS4, hy4⟩ ⟨rfl, rfl⟩
          have e : (0 : Int) + (i : Nat) = (i : Nat) := by omega
          show t3 _ [some (.int (wd : Nat)), some (.ref l), some (.ref qf), some (.ref qt), z4, some (.int (0 + (i : Nat))), z6, z7, some (.ref qs2), z9] H2'
          rw [e]
          exact q3 _ H H2' wd i b N l qf qt qs2 F ys2 z4 z6 z7 z9 ft4 nq2 hR4 hN4 hS4 hy4 hi hw hFB c2 c3 fun σ' H' h => h
        · rintro σ H2 ⟨qs2, ys2, z4, z5, z6, z7, z9, rfl, ft4, nq2, hR4, hN4, hS4, hy4⟩
          refine ⟨_, rfl, ?_⟩
          exact q H2 qs2 ys2 _ _ ft4.sm nq2 hR4 hN4 hEq hy4
      | cons x ts =>
        refine iteT ?_
        exact q1 _ H _ wd b N m (rw_ rs) l qf qt F (x :: ts) y4 y5 y6 y7 y8 y9 ft3 hw (List.cons_ne_nil _ _) j le c2 c3 hl fun σ' H' m' hm' hM => ⟨m', hm', hM⟩
    · intro σ H1 Q1 Q2 hQ h
      obtain ⟨v, hv, hz, g⟩ := h
      refine ⟨v, hv, hz, fun p np => ?_⟩
      obtain ⟨d, e, h1, h2, h3, h4, k, e2, q⟩ := g p np
      exact ⟨d, e, h1, h2, h3, h4, k, e2, hQ _ _ q⟩
end
end KT
set_option maxRecDepth 100000
set_option maxHeartbeats 2000000
/-! numbers among any flat values; words in a list of one -/
namespace K31
open PySem PySem.Spec PyProof.Rows L2 KA
def isI : V → Bool
  | .int _ => true
  | _ => false
/-- a flat thing: a number, a truth value, a text of ASCII signs -/
inductive Fv : V → Prop
  | int (i : Int) : Fv (.int i)
  | bl (b : Bool) : Fv (.bl b)
  | str (l : List Nat) (h : l.length ≤ 100) (hA : Asc l) : Fv (tx l)
def inR : V → Int → Int → Bool
  | .int i, lo, hi => decide (lo ≤ i) && decide (i ≤ hi)
  | _, _, _ => false
def spNumV : Sp := fun vs H Q _ => ∃ v : V, vs = [v] ∧ Fv v ∧ Q (.bl (isI v)) H
def spNumFV : Sp := fun vs H Q _ => ∃ (v : V) (lo hi : Int), vs = [v, .int lo, .int hi] ∧ Fv v ∧ Q (.bl (inR v lo hi)) H
section
variable {P : Program} {w : World} {K : PySem.W.Frag} {mg : Str → Option Value} {base : Heap}
theorem ok_numV {f : Addr} {fd : FuncData} {k : Nat} (F : Fun K "is_number" "is_number" KT.sNum f fd) (B : Bn mg) : FnOk P w K mg base CX0 (k + 1) f fd ["value"] spNumV := by
  refine F.ok KT.scNum (fun vs H Q E h => ?_) (fun cdv A outer s H vs Q E hr h => ?_)
  · obtain ⟨i, rfl, _⟩ := h
    rfl
  · obtain ⟨v, rfl, hv, q⟩ := h
    refine ⟨_, pss_one (ps_ret (pe_and (pe_callB call_isi (by rfl) B.isinst boot_isinstance (pa_cons (pv 0) (pa_cons (pe_bltn (v := .ty "int") (by rfl) B.int PyProof.Rows.boot_int rfl) pa_nil)))
      (pe_one (pe_not (pe_callB call_isi (by rfl) B.isinst boot_isinstance (pa_cons (pv 0) (pa_cons (pe_bltn (v := .ty "bool") (by rfl) B.bool PyProof.Rows.boot_bool rfl) pa_nil))))))), ?_⟩
    cases hv with
    | int i => exact ⟨_, rfl, _, _, _, _, true, rfl, .ty _, .base (.int i), kit_ty (by decide +kernel), true, rfl, iteT ⟨_, rfl, _, _, _, _, false, rfl, .ty _, .base (.int i), kit_ty (by decide +kernel), false, rfl, q⟩⟩
    | bl b => exact ⟨_, rfl, _, _, _, _, true, rfl, .ty _, .base (.bl b), kit_ty (by decide +kernel), true, rfl, iteT ⟨_, rfl, _, _, _, _, true, rfl, .ty _, .base (.bl b), kit_ty (by decide +kernel), true, rfl, q⟩⟩
    | str l _ _ => exact ⟨_, rfl, _, _, _, _, false, rfl, .ty _, .base (.str _), kit_ty (by decide +kernel), false, rfl, iteF q⟩
theorem ok_numFV {f fN : Addr} {fd fdN : FuncData} {k : Nat} (F : Fun K "is_number_from" "is_number_from" KT.sNumF f fd) (cN : KT.Cb P w K mg base CX0 (k + 1) "is_number" ["value"] spNumV fN fdN) : FnOk P w K mg base CX0 (k + 2) f fd ["value", "low", "high"] spNumFV := by
  refine F.ok KT.scNumF (fun vs H Q E h => ?_) (fun cdv A outer s H vs Q E hr h => ?_)
  · obtain ⟨i, lo, hi, rfl, _⟩ := h
    rfl
  · obtain ⟨v, lo, hi, rfl, hv, q⟩ := h
    refine ⟨_, pss_one (ps_ret (pe_and (pe_call cN.ok hr (by rfl) cN.g cN.kp cN.b .nil pass0 (pa_cons (pv 0) pa_nil)) (pe_one (pe_chain op_le op_le (pv 1) (pv 0) (pv 2))))), ?_⟩
    refine ⟨_, rfl, v, rfl, hv, ?_⟩
    cases hv with
    | int i =>
      have q : Q (.bl (decide (lo ≤ i) && decide (i ≤ hi))) H := q
      refine ⟨true, rfl, iteT ⟨_, rfl, _, rfl, _, _, rfl, rfl, _, rfl, ?_⟩⟩
      by_cases h1 : lo ≤ i
      · rw [decide_eq_true h1] at q ⊢
        exact iteT ⟨_, rfl, _, _, rfl, rfl, q⟩
      · rw [decide_eq_false h1] at q ⊢
        exact iteF q
    | bl b => exact ⟨false, rfl, iteF q⟩
    | str l _ _ => exact ⟨false, rfl, iteF q⟩
end
/-! check_words([word], letters) -/
abbrev sCkW : Stmt := top 23
abbrev sIniW : Stmt := KT.inside (top 5) 0
abbrev sIniS : Stmt := KT.inside (top 9) 0
abbrev tagW : V := .str (Str.ofString "InvalidWord")
abbrev tagS : V := .str (Str.ofString "InvalidStep")
theorem scCkW : FnScope ["words", "letters", "at", "word"] ["words", "letters"] (defScope sCkW) := ⟨rfl, rfl, rfl, by decide +kernel, rfl, by decide +kernel, by decide +kernel⟩
theorem scIniW : FnScope ["self", "at"] ["self", "at"] (defScope sIniW) := ⟨rfl, rfl, rfl, by decide +kernel, rfl, by decide +kernel, by decide +kernel⟩
theorem scIniS : FnScope ["self", "at"] ["self", "at"] (defScope sIniS) := ⟨rfl, rfl, rfl, by decide +kernel, rfl, by decide +kernel, by decide +kernel⟩
def spCkW (C : Addr) : Sp := fun vs H Q E => ∃ (p : Addr) (l L : List Nat), vs = [.ref p, tx L] ∧ H p = some (.lst [tx l]) ∧ l.length ≤ 1000 ∧ Lt L ∧ (isW l L = true → ∀ H', Same H H' → Q .non H') ∧ (isW l L = false → Fl C tagW "at" (.int ((0 : Nat) : Int)) H E)
section
variable {P : Program} {w : World} {K : PySem.W.Frag} {mg : Str → Option Value} {base : Heap}
theorem ok_iniW {f C : Addr} {fd : FuncData} {k : Nat} (F : Fun K "__init__" "InvalidWord.__init__" sIniW f fd) (T : ErC K mg "InvalidWord" "at" C f) : FnOk P w K mg base CX0 (k + 1) f fd ["self", "at"] (spIni tagW "at" C) := by
  refine F.ok scIniW (fun vs H Q E h => ?_) (fun cdv A outer s H vs Q E hr h => ?_)
  · obtain ⟨a, v, rfl, _⟩ := h
    rfl
  · obtain ⟨a, v, rfl, hx, q⟩ := h
    refine ⟨_, pss_cons (ps_ost (pv 0) (pv 1)) (pss_one (ps_ost (pv 0) pe_str)), ?_⟩
    refine ⟨_, rfl, _, rfl, a, C, rfl, T.ox, T.nF, .inl ⟨hx, fun dx nd ne => ?_⟩⟩
    refine ⟨_, rfl, a, C, rfl, T.ox, T.nTag, .inr ⟨dx, _, upd_same, ?_, (by show 1 ≤ 900; decide), q dx nd ne⟩⟩
    rw [upd_ne ne]
    exact upd_same
theorem ok_iniS {f C : Addr} {fd : FuncData} {k : Nat} (F : Fun K "__init__" "InvalidStep.__init__" sIniS f fd) (T : ErC K mg "InvalidStep" "at" C f) : FnOk P w K mg base CX0 (k + 1) f fd ["self", "at"] (spIni tagS "at" C) := by
  refine F.ok scIniS (fun vs H Q E h => ?_) (fun cdv A outer s H vs Q E hr h => ?_)
  · obtain ⟨a, v, rfl, _⟩ := h
    rfl
  · obtain ⟨a, v, rfl, hx, q⟩ := h
    refine ⟨_, pss_cons (ps_ost (pv 0) (pv 1)) (pss_one (ps_ost (pv 0) pe_str)), ?_⟩
    refine ⟨_, rfl, _, rfl, a, C, rfl, T.ox, T.nF, .inl ⟨hx, fun dx nd ne => ?_⟩⟩
    refine ⟨_, rfl, a, C, rfl, T.ox, T.nTag, .inr ⟨dx, _, upd_same, ?_, (by show 1 ≤ 900; decide), q dx nd ne⟩⟩
    rw [upd_ne ne]
    exact upd_same
theorem ok_ckw {f fW C fI : Addr} {fd fdW fdI : FuncData} {k : Nat} (F : Fun K "check_words" "check_words" sCkW f fd) (B : Bn mg) (cW : KT.Cb P w K mg base CX0 (k + 2) "is_word" ["word", "letters"] spIsW fW fdW) (R : Er P w K mg base "InvalidWord" tagW C fI fdI) :
    FnOk P w K mg base (L2.CX P w) (k + 3) f fd ["words", "letters"] (spCkW C) := by
  refine F.okX scCkW (fun vs H Q E h => ?_) (fun cdv A outer s H vs Q E hr h => ?_)
  · obtain ⟨p, l, L, rfl, _⟩ := h
    rfl
  · obtain ⟨p, l, L, rfl, hp, hl, hL, q, qe⟩ := h
    have r2 : Room 2 (A.deeper (envOfC "check_words" (defScope sCkW) s.heap.objs.size f cdv)) := hr.mono (by omega)
    refine ⟨_, pss_one (ps_for (passes_of rfl) rfl (pi_enum (by rfl) B.enum (pa_cons (pv 0) pa_nil))
        (pg_tup rfl (pgs_cons (pg_name (i := 2) scCkW.nd rfl (.inl rfl)) (pgs_cons (pg_name (i := 3) scCkW.nd rfl (.inl rfl)) pgs_nil)))
        (pss_one (ps_if (pt_not (pt_val (pe_call cW.ok hr (by rfl) cW.g cW.kp cW.b .nil pass0 (pa_cons (pv 3) (pa_cons (pv 1) pa_nil)))))
          (pss_one (s_raise (E := E) R.T R.G R.b r2 rfl (takes_of rfl rfl rfl rfl) (by rfl) (pv 2) pass0 var_mono)) pss_nil))), ?_⟩
    refine ⟨_, rfl, p, _, rfl, SqL.of hp, ?_⟩
    refine for_it (walk_enum (K := K) (a := p) (xs := [tx l])) (fun i σ H2 => ∃ y2 y3, σ = [some (.ref p), some (tx L), y2, y3] ∧ Same H H2 ∧ (0 < i → isW l L = true))
      ⟨none, none, rfl, Same.refl _, fun hj => absurd hj (Nat.not_lt_zero _)⟩ (fun i σ H2 _ h => ?_) ?_ ?_
    · obtain ⟨_, _, _, sm, _⟩ := h
      exact SqL.of (sm _ _ hp)
    · rintro i x σ H2 H2' hi ⟨y2, y3, rfl, sm, hok⟩ ⟨Tp, x1, x2, rfl, nT, rfl, e1, e2⟩
      obtain rfl : V.int (i : Nat) = x1 := Option.some.inj e1
      have i0 : i = 0 := by
        have h1 : i < 1 := hi
        omega
      subst i0
      obtain rfl : tx l = x2 := Option.some.inj e2
      have sT : Same H2 (upd H2 Tp (.tup [.int ((0 : Nat) : Int), tx l])) := same_new nT
      refine ⟨Tp, _, rfl, SqT.of upd_same, rfl, _, _, rfl, _, _, rfl, rfl, ?_⟩
      refine ⟨_, rfl, _, rfl, l, L, rfl, hl, hL, fun H3 s3 => ⟨_, rfl, ?_⟩⟩
      have sm3 : Same H H3 := (sm.trans sT).trans s3
      cases hw : isW l L with
      | true => exact iteF ⟨_, _, rfl, sm3, fun _ => rfl⟩
      | false => exact iteT ⟨_, rfl, (qe hw).of sm3⟩
    · rintro σ H2 ⟨y2, y3, rfl, sm, hok⟩
      exact q (hok (Nat.zero_lt_one)) H2 sm
end
end K31
set_option maxRecDepth 100000
set_option maxHeartbeats 1000000
/-! tuple * n where n may be 1; x in o by an own __contains__ -/
namespace Rs
open PySem PySem.Spec PyProof.Rows L2
open PySem.AutoSeq1 (wpAny_loadPart')
theorem tuple_mul1 (l : Addr) (items : Array Value) (n : Nat) (sl : Array (Option Value)) (dd : Option Addr) (u : Tok) :
    Meets (Builtin.«tuple.__mul__» ⟨[.ref l, .int 1 u], []⟩) (fun _ R s => s.heap.get? l = some { cls := .type "tuple", dict := dd, data := .seq items n, slots := sl } ∧ R (.ok (.ret (Value.ref l))) s) :=
  .of_wp fun prog w A R s h => by
    obtain ⟨hp, g, d, tk, os⟩ := s
    obtain ⟨hl, h⟩ := h
    have f1 := AutoSeq1.idx_int
    wp_walk using wpAny_loadPart' hl
    exact ⟨_, rfl, h⟩
def rRepT1 (K : PySem.W.Frag) : R2 := fun x y H Q => ∃ l k xs, x = .ref l ∧ y = .int k ∧ SqT K H l xs ∧ xs ≠ [] ∧ 1 ≤ k ∧ k ≤ 1000 ∧ xs.length ≤ 1000 ∧ (k = 1 → Q (.ref l) H) ∧ (2 ≤ k → ∀ p, H p = none → Q (.ref p) (upd H p (.tup (List.replicate k.toNat xs).flatten)))
section
variable {X : Cx} {CX : CXT} {k n : Nat} {f C : Addr} {fd : FuncData} {ps : List Str} {sp : Sp} {E : XK}
theorem op_repT1 : OpR X (binaryOp .Mult) (rRepT1 X.K) := by
  intro pins s σ H x y v u Q I rx ry h
  obtain ⟨l, k, xs, rfl, rfl, hT, hne, h1, h2, hz, q1, q2⟩ := h
  by_cases hk : k = 1
  · subst hk
    cases rx
    obtain ⟨t, rfl⟩ := ry
    obtain ⟨its, r, ⟨⟨cls, dd, data, sl⟩, ho, hc, n, hd⟩, hs⟩ := I.tuple hT
    simp only at hc hd
    subst hc hd
    refine wpAny_binaryOp_repeat_ref (T := "tuple") (U := "int") (by decide) ⟨_, ho, rfl⟩ (fun s' => typeIs_int s' 1 t) noFill_tuple_mul F.fills_int_mul F.slot_int_rmul repeat_tuple F.slot_int_index.lookup
      (call_meets F.slot_int_rmul (typeIs_int s 1 t) F.entry_int_rmul (F.args_int_rmul_2 _ _) (int_rmul_tuple 1 t l its.toArray n dd sl)
        ⟨ho, rfl, ⟨_, ho, rfl⟩, call_meets F.slot_tuple_mul ⟨_, ho, rfl⟩ F.entry_tuple_mul (F.args_tuple_mul_2 _ _) (tuple_mul1 l its.toArray n sl dd t) ⟨ho, ?_⟩⟩)
    exact ⟨.ref l, H, I, rfl, q1 rfl⟩
  · exact op_repT pins s σ H _ _ v u Q I rx ry ⟨l, k, xs, rfl, rfl, hT, hne, by omega, h2, hz, q2 (by omega)⟩
/-- x in o, an own __contains__ that tells True or False -/
theorem op_inO (F : FnOk X.prog X.w X.K X.mg X.base CX n f fd ps sp) (hf : PySem.W.findIn X.K (.ref C) "__contains__" = some (some (.ref f))) (fn : PySem.W.isFn X.K (.ref f) = true) (hb : Binds X.K fd ps []) (hx : Passes CX X E) (hr : Room n X.A) :
    OpR X (compareOp .In) (fun x y H Q => ∃ a dx fs, y = .ref a ∧ H a = some (.ins C dx fs) ∧ sp [.ref a, x] H (fun v H' => ∃ b, v = .bl b ∧ Q (.bl b) H') E) := by
  intro pins s σ H x y v u Q I rx ry h
  obtain ⟨a, dx, fs, rfl, ha, hsp⟩ := h
  obtain rfl : u = Value.ref a := ry
  obtain ⟨mA, O, _⟩ := ins_get I.hok ha
  obtain ⟨od, J, _⟩ := O.look
  obtain ⟨m, hF⟩ := I.fr
  refine PySem.W.in_K hF I.ok.mod.kin J hf fn ?_
  have hl := F.len _ _ _ _ hsp
  refine wpAny_call (codeAny_mono (F.run X.A X.stack s H ⟨[.ref a, v], []⟩ [.ref a, v] [.ref a, x] _ E hr I.env0 (by
    have := hb s [.ref a, v] I.kIn (by simpa using hl)
    simpa using this) (.cons rfl (.cons rx .nil)) hsp) fun r s' hq => ?_)
  cases r with
  | error e => exact hx pins σ H s e s' I hq
  | ok fl =>
    cases fl with
    | ret w =>
      obtain ⟨z, H', I', rz, b, rfl, q⟩ := I.after hq
      obtain rfl : w = .bool b := rz
      exact wpAny_pure ⟨.bl b, H', I', rfl, q⟩
    | next => exact False.elim hq
    | brk => exact False.elim hq
    | cont => exact False.elim hq
end
end Rs
set_option maxRecDepth 100000
set_option maxHeartbeats 2000000
/-! the place of counts by normal rows; whether they are a sum -/
namespace K31
open PySem PySem.Spec PyProof.Rows L2 KA
def ldx (r : List Int) : Nat := r.findIdx fun x => decide (x ≠ 0)
theorem ldx_of {r : List Int} {n : Nat} (h : KT.BegL r n) : ldx r = n := by
  obtain ⟨h1, h2, h3⟩ := h
  unfold ldx
  refine (List.findIdx_eq h1).mpr ⟨?_, fun j hj => ?_⟩
  · have e : r.getD n 0 = r[n] := by rw [List.getD_eq_getElem?_getD, List.getElem?_eq_getElem h1]; rfl
    rw [e] at h2
    exact decide_eq_true h2
  · have hj' : j < r.length := by omega
    have e : r.getD j 0 = r[j] := by rw [List.getD_eq_getElem?_getD, List.getElem?_eq_getElem hj']; rfl
    have z := h3 j hj
    rw [e] at z
    exact decide_eq_false (by rw [z]; exact fun h => h rfl)
/-- one row taken off -/
def rd1 (c r : List Int) : List Int := Hm.lsl c r ((c.getD (ldx r) 0).fdiv (r.getD (ldx r) 0))
/-- the tuple that names the place of counts -/
def rdc (rows : List (List Int)) (c : List Int) : List Int := rows.foldl rd1 c
def zer (w : Nat) : List Int := List.replicate w 0
/-- normal rows of a town -/
structure NRf (L : List Nat) (ws : List (List (List Nat))) (R : List (List Int)) : Prop where
  nrm : ∃ rest, Hm.Nrm L.length L.length (ws.map (df L)) R rest
  fd : ∀ r ∈ R, Hm.Fd L.length 6 6 L.length r
  len : R.length ≤ L.length
theorem NRf.one {L : List Nat} {ws : List (List (List Nat))} {R R' : List (List Int)} (h : NRf L ws R) (h' : NRf L ws R') : R = R' := by
  obtain ⟨r1, n1⟩ := h.nrm
  obtain ⟨r2, n2⟩ := h'.nrm
  exact Hm.nrm_same n1 n2 (Hm.Eqs.refl _)
theorem Gd.nr {CT : Addr} {H : Hp} {t : Addr} {L : List Nat} {ws : List (List (List Nat))} {R : List (List Int)} (h : Gd CT H t L ws) (n : NRf L ws R) : ∃ (qt : Addr) (fs : List (Addr × List Int)), KT.TJ CT H t L.length qt fs ∧ KT.rw_ fs = R := by
  obtain ⟨qt, fs, rest, h1, h2, h3, h4⟩ := h
  refine ⟨qt, fs, h1, ?_⟩
  refine NRf.one (L := L) (ws := ws) ⟨⟨rest, h3⟩, h2, ?_⟩ n
  rw [List.length_map]
  exact h4
theorem fd_beg {w b n : Nat} {r : List Int} (h : Hm.Fd w b n w r) : KT.BegL r (ldx r) ∧ ldx r < w ∧ 0 < r.getD (ldx r) 0 ∧ (r.getD (ldx r) 0).natAbs ≤ 2 ^ Hm.bb b n (ldx r) := by
  obtain ⟨c, hc, hb, hp, hl⟩ := h.beg
  have hB : KT.BegL r c := by
    refine ⟨by rw [h.len]; exact hc, ?_, fun m hm => hb.1 m hm⟩
    have z : Hm.fn r c ≠ 0 := hb.2
    exact z
  rw [ldx_of hB]
  exact ⟨hB, hc, hp, hl⟩
theorem rd_bd {w B e : Nat} {c r : List Int} (hc : c.length = w) (hr : r.length = w) (bc : ∀ j, (Hm.fn c j).natAbs < 2 ^ B) (br : ∀ j, (Hm.fn r j).natAbs < 2 ^ e) {q : Int} (hq : q.natAbs ≤ 2 ^ B) : ∀ j, (Hm.fn (Hm.lsl c r q) j).natAbs < 2 ^ (B + (e + 2)) := by
  intro j
  rw [Hm.fn_lsl (by rw [hc, hr])]
  show (Hm.fn c j - q * Hm.fn r j).natAbs < _
  have h1 := bc j
  have h2 : (q * Hm.fn r j).natAbs ≤ 2 ^ B * 2 ^ e := by
    rw [Int.natAbs_mul]
    exact Nat.mul_le_mul hq (Nat.le_of_lt (br j))
  rw [← Nat.pow_add] at h2
  have h7 : 2 ^ B ≤ 2 ^ (B + e) := Nat.pow_le_pow_right (by omega) (by omega)
  have h8 : 2 ^ (B + (e + 2)) = 2 ^ (B + e) * 4 := by rw [← Nat.add_assoc, Nat.pow_add _ _ 2]
  have h9 : 0 < 2 ^ (B + e) := Nat.pow_pos (by omega)
  omega
theorem rd_mem {B : Nat} {c : List Int} (bc : ∀ j, (Hm.fn c j).natAbs < 2 ^ B) : ∀ y ∈ c, y.natAbs < 2 ^ B := fun y hy => by
  obtain ⟨j, hj, rfl⟩ := List.getElem_of_mem hy
  have z := bc j
  have e : Hm.fn c j = c[j] := by
    show c.getD j 0 = _
    rw [List.getD_eq_getElem?_getD, List.getElem?_eq_getElem hj]
    rfl
  rw [e] at z
  exact z
theorem mem_rd {B : Nat} (hB : 0 < 2 ^ B) {c : List Int} (bc : ∀ y ∈ c, y.natAbs < 2 ^ B) : ∀ j, (Hm.fn c j).natAbs < 2 ^ B := fun j => by
  show (c.getD j 0).natAbs < _
  rw [List.getD_eq_getElem?_getD]
  cases e : c[j]? with
  | none => exact hB
  | some y => exact bc y (List.mem_of_getElem? e)
abbrev sRed : Stmt := top 40
abbrev NRd : List Str := ["counts", "rows", "found", "row", "at"]
theorem scRed : FnScope NRd ["counts", "rows"] (defScope sRed) := ⟨rfl, rfl, rfl, by decide +kernel, rfl, by decide +kernel, by decide +kernel⟩
def spRed : Sp := fun vs H Q _ => ∃ (x : Addr × List Int) (q : Addr) (fs : List (Addr × List Int)) (wd : Nat), vs = [.ref x.1, .ref q] ∧ KT.RT H x ∧ KT.RL H q fs ∧ wd ≤ 3 ∧ x.2.length = wd ∧ (∀ y ∈ x.2, y.natAbs < 2 ^ 20) ∧ (∀ r ∈ KT.rw_ fs, Hm.Fd wd 6 6 wd r) ∧ fs.length ≤ wd ∧ ∀ H' p, Same H H' → KT.RT H' (p, rdc (KT.rw_ fs) x.2) → Q (.ref p) H'
section
variable {P : Program} {w : World} {K : PySem.W.Frag} {mg : Str → Option Value} {base : Heap}
theorem ok_red {f fA fL : Addr} {fd fdA fdL : FuncData} {k : Nat} (F : Fun K "reduced" "reduced" sRed f fd) (cA : KT.Cb P w K mg base CX0 (k + 1) "lead_at" ["row"] (KT.spLead K) fA fdA) (cL : KT.Cb P w K mg base CX0 (k + 1) "less" ["row", "other", "times"] (KT.spLess K) fL fdL) : FnOk P w K mg base CX0 (k + 2) f fd ["counts", "rows"] spRed := by
  refine F.ok scRed (fun vs H Q E h => ?_) (fun cdv A outer s H vs Q E hr h => ?_)
  · obtain ⟨x, q, fs, wd, rfl, _⟩ := h
    rfl
  · obtain ⟨x, q, fs, wd, rfl, hx, hq, hw, hxl, hxb, hfd, hfl, qq⟩ := h
    refine ⟨_, pss_cons (ps_set (i := 2) scRed.nd rfl (.inl rfl) (pv 0))
      (pss_cons (ps_for PassesOwn.never rfl (pi_list (pv 1)) (pg_name (i := 3) scRed.nd rfl (Or.inl rfl))
        (pss_cons (ps_set (i := 4) scRed.nd rfl (.inl rfl) (pe_call cA.ok hr (by rfl) cA.g cA.kp cA.b .nil pass0 (pa_cons (pv 3) pa_nil)))
        (pss_one (ps_set (i := 2) scRed.nd rfl (.inl rfl) (pe_call cL.ok hr (by rfl) cL.g cL.kp cL.b .nil pass0 (pa_cons (pv 2) (pa_cons (pv 3) (pa_cons (pe_op Rs.op_fdivF (pe_ix ix_tup (pv 2) (pv 4) (fun _ _ => rfl)) (pe_ix ix_tup (pv 3) (pv 4) (fun _ _ => rfl))) pa_nil))))))))
      (pss_one (ps_ret (pv 2)))), ?_⟩
    refine ⟨_, rfl, _, rfl, q, rfl, ⟨_, SqL.of hq.lst⟩, ?_⟩
    refine for_it (walk_list (K := K) (a := q) (xs := fs.map fun z => V.ref z.1)) (fun i σ H2 => ∃ (p : Addr) (y3 y4 : Option V), σ = [some (.ref x.1), some (.ref q), some (.ref p), y3, y4] ∧ Same H H2 ∧ KT.RT H2 (p, rdc (KT.rw_ (fs.take i)) x.2) ∧ (rdc (KT.rw_ (fs.take i)) x.2).length = wd ∧ ∀ j, (Hm.fn (rdc (KT.rw_ (fs.take i)) x.2) j).natAbs < 2 ^ (20 + (7000 * wd + 2) * i))
      ⟨x.1, none, none, rfl, Same.refl _, hx, hxl, fun j => mem_rd (Nat.pow_pos (by omega)) hxb j⟩ (fun i σ H2 _ h => ?_) ?_ ?_
    · obtain ⟨_, _, _, _, sm, _⟩ := h
      exact SqL.of (sm _ _ hq.lst)
    · rintro i v σ H2 H2' hi ⟨p, y3, y4, rfl, sm, hp, hl, hbd⟩ ⟨rfl, hv⟩
      rw [List.length_map] at hi
      have gl : fs[i]? = some fs[i] := List.getElem?_eq_getElem hi
      obtain rfl : V.ref fs[i].1 = v := by
        rw [List.getElem?_map, gl] at hv
        exact Option.some.inj hv
      have tm := take_more gl
      have hm : fs[i] ∈ fs := List.getElem_mem hi
      have hr2 := (hq.row _ hm).same sm
      have hfr := hfd _ (KT.rw_mem hm)
      generalize fs[i] = r at gl tm hm hr2 hfr
      have er : rdc (KT.rw_ (fs.take i ++ [r])) x.2 = rd1 (rdc (KT.rw_ (fs.take i)) x.2) r.2 := by
        show List.foldl rd1 x.2 (List.map _ (fs.take i ++ [r])) = _
        rw [List.map_append, List.foldl_append]
        rfl
      rw [tm, er]
      generalize rdc (KT.rw_ (fs.take i)) x.2 = c at hp hl hbd
      obtain ⟨hB, hlt, hpos, hld⟩ := fd_beg hfr
      have lr := hfr.len
      have i3 : i < 3 := by omega
      have e1 : (7000 * wd + 2) * i ≤ 21002 * 2 := Nat.mul_le_mul (by omega) (by omega)
      have e2 : (7000 * wd + 2) * (i + 1) = (7000 * wd + 2) * i + (7000 * wd + 2) := Nat.mul_succ _ _
      have hqa : ((c.getD (ldx r.2) 0).fdiv (r.2.getD (ldx r.2) 0)).natAbs ≤ 2 ^ (20 + (7000 * wd + 2) * i) := by
        have h1 := (Hm.rest_sign (x := c.getD (ldx r.2) 0) (l := r.2.getD (ldx r.2) 0) (by omega)).2.2
        have h2 : (c.getD (ldx r.2) 0).natAbs < 2 ^ (20 + (7000 * wd + 2) * i) := hbd (ldx r.2)
        omega
      refine ⟨_, rfl, r.1, r.2, ldx r.2, rfl, SqT.of hr2, hB, by omega, fun H3 s3 => ?_⟩
      refine ⟨_, rfl, _, rfl, _, rfl, _, rfl, p, _, ((ldx r.2 : Nat) : Int), _, rfl, rfl, SqT.of (hp.same s3), KT.row_at (by rw [hl]; exact hlt), _, rfl, _, rfl, r.1, _, ((ldx r.2 : Nat) : Int), _, rfl, rfl, SqT.of (hr2.same s3), KT.row_at (by rw [lr]; exact hlt), ?_⟩
      refine ⟨_, _, rfl, rfl, ⟨by omega, ?_⟩, p, r.1, c, r.2, _, rfl, SqT.of (hp.same s3), SqT.of (hr2.same s3), by rw [hl, lr], by omega, fun y hy => ?_, fun H4 p4 s4 n4 h4 => ?_⟩
      · have hb9 : Hm.bb 6 6 (ldx r.2) < 9000 := by
          have h3 : ldx r.2 < 3 := by omega
          have key : ∀ a, a < 3 → Hm.bb 6 6 a < 9000 := by decide
          exact key _ h3
        have h5 := Nat.lt_of_le_of_lt hld (Hm.two_pow_lt hb9)
        exact Nat.lt_of_lt_of_le (PySem.Flt.log2_lt_of (by omega) h5) (Nat.le_refl _)
      · have h6 := rd_mem hfr.bd y hy
        exact wide_mul (a := 20 + (7000 * wd + 2) * i + 1) (Nat.lt_of_le_of_lt hqa (Hm.two_pow_lt (by omega))) h6 (by omega) (by omega) (by omega)
      · refine ⟨p4, _, _, rfl, sm.trans (s3.trans s4), h4, Hm.lsl_len hl lr _, ?_⟩
        rw [e2, ← Nat.add_assoc]
        have z := rd_bd (e := 7000 * wd) hl lr hbd hfr.bd hqa
        exact z
    · rintro σ H2 ⟨p, y3, y4, rfl, sm, hp, _⟩
      rw [List.length_map, List.take_length] at hp
      exact ⟨_, rfl, qq H2 p sm hp⟩
end
end K31
set_option maxRecDepth 100000
set_option maxHeartbeats 2000000
/-! Table.place, x in table, Town.comes_round -/
namespace K31
open PySem PySem.Spec PyProof.Rows L2 KA
theorem good_nodup {L : List Nat} (h : ∀ i, i < L.length → badL L i = false) : L.Nodup := by
  refine List.pairwise_iff_getElem.mpr fun i j hi hj hij e => ?_
  have gj : L[j]? = some L[j] := List.getElem?_eq_getElem hj
  have gd : L.getD j 0 = L[j] := by rw [List.getD_eq_getElem?_getD, gj]; rfl
  have z := h j hj
  unfold badL at z
  rw [gd] at z
  have z1 := (Bool.or_eq_false_iff.mp (Bool.or_eq_false_iff.mp z).2).1
  refine (of_decide_eq_false z1) (List.mem_iff_getElem?.mpr ⟨i, ?_⟩)
  rw [List.getElem?_take, if_pos hij, List.getElem?_eq_getElem hi, e]
theorem good_lt' {L : List Nat} (h : GoodL L) : Lt L := by
  refine ⟨⟨by have := h.len; omega, good_nodup h.2⟩, fun c hc => ?_⟩
  obtain ⟨i, hi, rfl⟩ := List.getElem_of_mem hc
  have gi : L[i]? = some L[i] := List.getElem?_eq_getElem hi
  have gd : L.getD i 0 = L[i] := by rw [List.getD_eq_getElem?_getD, gi]; rfl
  have z := h.2 i hi
  unfold badL at z
  rw [gd] at z
  have z1 := (Bool.or_eq_false_iff.mp (Bool.or_eq_false_iff.mp z).2).2
  simp only [Bool.not_eq_false', Bool.and_eq_true, decide_eq_true_eq] at z1
  exact z1
theorem shaped_dR (r : List Int) : SeqAt.shaped (KT.dR r) = true := by
  have h1 := KT.depth_ints r
  have h2 : PyData.depth (KT.dR r) ≤ 64 := by
    unfold KT.dR
    simp only [PyData.depth]
    omega
  show (PyData.canLay0 (KT.dR r) && decide (PyData.depth (KT.dR r) ≤ 64)) = true
  rw [Bool.and_eq_true]
  exact ⟨by unfold KT.dR; simp only [PyData.canLay0]; exact KT.lay_ints r, decide_eq_true h2⟩
theorem eqv_dR (r s : List Int) : PyData.eqv (KT.dR r) (KT.dR s) = decide (r = s) := by
  unfold KT.dR
  simp only [PyData.eqv]
  exact KT.eqv_ints r s
theorem dp_dR {K : PySem.W.Frag} {H : Hp} {p : Addr} {r : List Int} (h : KT.RT H (p, r)) : Dp K H (.ref p) (KT.dR r) := .tup (SqT.of h) (KT.dp_ints r)
abbrev sTbP : Stmt := KT.inside (top 35) 4
abbrev sTbC : Stmt := KT.inside (top 35) 5
abbrev sTCR : Stmt := KT.inside (top 69) 7
theorem scTbP : FnScope ["self", "counts"] ["self", "counts"] (defScope sTbP) := ⟨rfl, rfl, rfl, by decide +kernel, rfl, by decide +kernel, by decide +kernel⟩
theorem scTbC : FnScope ["self", "x"] ["self", "x"] (defScope sTbC) := ⟨rfl, rfl, rfl, by decide +kernel, rfl, by decide +kernel, by decide +kernel⟩
theorem scTCR : FnScope ["self", "word"] ["self", "word"] (defScope sTCR) := ⟨rfl, rfl, rfl, by decide +kernel, rfl, by decide +kernel, by decide +kernel⟩
/-- counts asked of a table -/
structure Ask (CT : Addr) (H : Hp) (t : Addr) (x : Addr × List Int) (wd : Nat) (R : List (List Int)) : Prop where
  tj : ∃ (qt : Addr) (fs : List (Addr × List Int)), KT.TJ CT H t wd qt fs ∧ KT.rw_ fs = R
  rt : KT.RT H x
  w1 : 1 ≤ wd
  w3 : wd ≤ 3
  ln : x.2.length = wd
  bd : ∀ y ∈ x.2, y.natAbs < 2 ^ 20
  fd : ∀ r ∈ R, Hm.Fd wd 6 6 wd r
  lr : R.length ≤ wd
theorem Ask.same {CT : Addr} {H H' : Hp} {t : Addr} {x : Addr × List Int} {wd : Nat} {R : List (List Int)} (h : Ask CT H t x wd R) (s : Same H H') : Ask CT H' t x wd R := by
  obtain ⟨qt, fs, h1, h2⟩ := h.tj
  exact ⟨⟨qt, fs, h1.ext (.of s), h2⟩, h.rt.same s, h.w1, h.w3, h.ln, h.bd, h.fd, h.lr⟩
def spPlc (CT : Addr) : Sp := fun vs H Q _ => ∃ (t : Addr) (x : Addr × List Int) (wd : Nat) (R : List (List Int)), vs = [.ref t, .ref x.1] ∧ Ask CT H t x wd R ∧ ∀ H' p, Same H H' → KT.RT H' (p, rdc R x.2) → Q (.ref p) H'
def spCon (CT : Addr) : Sp := fun vs H Q _ => ∃ (t : Addr) (x : Addr × List Int) (wd : Nat) (R : List (List Int)), vs = [.ref t, .ref x.1] ∧ Ask CT H t x wd R ∧ ∀ H', Same H H' → Q (.bl (decide (rdc R x.2 = zer wd))) H'
/-- whether a word comes round -/
def crb (R : List (List Int)) (L l : List Nat) : Bool := decide (rdc R (cnI l L) = zer L.length)
def spCR (C CT CW : Addr) : Sp := fun vs H Q _ => ∃ (x q : Addr) (L : List Nat) (rs : Rls) (l : List Nat) (R : List (List Int)), vs = [.ref x, tx l] ∧ Tn C CT H x L q rs ∧ NRf L (wds rs) R ∧ GoodL L ∧ l.length ≤ 1000 ∧ isW l L = true ∧ ∀ H', Same H H' → Q (.bl (crb R L l)) H'
section
variable {P : Program} {w : World} {K : PySem.W.Frag} {mg : Str → Option Value} {base : Heap}
theorem ok_plc {f CT fT fR : Addr} {fd fdT fdR : FuncData} {k : Nat} (F : Fun K "place" "Table.place" sTbP f fd) (TC : KT.TCls K CT) (cT : KT.Cb P w K mg base CX0 (k + 2) "is_number_tuple" ["value", "width"] KT.spNumT fT fdT) (cR : KT.Cb P w K mg base CX0 (k + 2) "reduced" ["counts", "rows"] spRed fR fdR) : FnOk P w K mg base CX0 (k + 3) f fd ["self", "counts"] (spPlc CT) := by
  refine F.ok scTbP (fun vs H Q E h => ?_) (fun cdv A outer s H vs Q E hr h => ?_)
  · obtain ⟨t, x, wd, R, rfl, _⟩ := h
    rfl
  · obtain ⟨t, x, wd, R, rfl, a, q⟩ := h
    obtain ⟨qt, fs, tj, er⟩ := a.tj
    obtain ⟨dx, ht⟩ := tj.ins
    refine ⟨_, pss_cons (ps_if (pt_not (pt_val (pe_call cT.ok hr (by rfl) cT.g cT.kp cT.b .nil pass0 (pa_cons (pv 1) (pa_cons (pe_fld (pv 0) rfl) pa_nil))))) pss_never pss_nil)
      (pss_one (ps_ret (pe_call cR.ok hr (by rfl) cR.g cR.kp cR.b .nil pass0 (pa_cons (pv 1) (pa_cons (pe_fld (pv 0) rfl) pa_nil))))), ?_⟩
    refine ⟨_, rfl, _, rfl, t, CT, dx, _, .int (wd : Nat), rfl, ht, TC.cl, TC.wide, rfl, x, by rw [a.ln]; rfl, a.rt, by have := a.ln; have := a.w3; omega, fun H1 s1 => ⟨true, rfl, iteF ?_⟩⟩
    have a1 := a.same s1
    have tj1 := tj.ext (.of s1)
    have ht1 := s1 _ _ ht
    refine ⟨_, rfl, _, rfl, t, CT, dx, _, .ref qt, rfl, ht1, TC.cl, TC.normal, rfl, x, qt, fs, wd, rfl, a1.rt, tj1.rl, a.w3, a.ln, a.bd, ?_, ?_, fun H2 p s2 hp => ?_⟩
    · rw [er]
      exact a.fd
    · have e := congrArg List.length er
      rw [List.length_map] at e
      rw [e]
      exact a.lr
    · rw [er] at hp
      exact q H2 p (s1.trans s2) hp
theorem ok_con {f CT fP : Addr} {fd fdP : FuncData} {k : Nat} (F : Fun K "__contains__" "Table.__contains__" sTbC f fd) (TC : KT.TCls K CT) (MP : Meth K CT "place" fP) (GP : FnOk P w K mg base CX0 (k + 3) fP fdP ["self", "counts"] (spPlc CT)) (bP : Binds K fdP ["self", "counts"] []) : FnOk P w K mg base CX0 (k + 4) f fd ["self", "x"] (spCon CT) := by
  refine F.ok scTbC (fun vs H Q E h => ?_) (fun cdv A outer s H vs Q E hr h => ?_)
  · obtain ⟨t, x, wd, R, rfl, _⟩ := h
    rfl
  · obtain ⟨t, x, wd, R, rfl, a, q⟩ := h
    obtain ⟨qt, fs, tj, er⟩ := a.tj
    obtain ⟨dx, ht⟩ := tj.ins
    refine ⟨_, pss_one (ps_ret (pe_cmpR (op_eqD hr.units) (pe_meth (pv 0) TC.cl MP GP hr bP .nil pass0 (pa_cons (pv 1) pa_nil)) (pe_op Rs.op_repT1 (pe_tup (pa_cons pe_int pa_nil)) (pe_fld (pv 0) rfl)) (nomark _))), ?_⟩
    refine ⟨_, rfl, t, dx, _, rfl, ht, rfl, _, rfl, t, x, wd, R, rfl, a, fun H1 p s1 hp => ?_⟩
    refine ⟨(by show 1 ≤ sizeLine; decide), fun z nz => ?_⟩
    have s2 := same_new (o := .tup [V.int 0]) nz
    have w1 := a.w1
    have w3 := a.w3
    have fin : ∀ H3 z, Same H1 H3 → KT.RT H3 (z, zer wd) → rEqD K (.ref p) (.ref z) H3 Q := fun H3 z s3 hz => by
      refine ⟨KT.dR (rdc R x.2), KT.dR (zer wd), dp_dR (hp.same s3), dp_dR hz, shaped_dR _, shaped_dR _, ?_⟩
      rw [eqv_dR]
      exact q H3 (s1.trans s3)
    refine ⟨_, rfl, t, CT, dx, _, .int (wd : Nat), rfl, s2 _ _ (s1 _ _ ht), TC.cl, TC.wide, rfl, z, ((wd : Nat) : Int), [V.int 0], rfl, rfl, SqT.of upd_same, (fun e => nomatch e), by omega, by omega, (by show 1 ≤ 1000; decide), fun e1 => ?_, fun e2 z2 nz2 => ?_⟩
    · have e : wd = 1 := by omega
      refine fin _ z s2 ?_
      rw [e]
      exact upd_same
    · refine fin _ z2 (s2.trans (same_new nz2)) ?_
      have e : (List.replicate ((wd : Nat) : Int).toNat [V.int 0]).flatten = (zer wd).map V.int := by
        have key : ∀ n : Nat, (List.replicate n [V.int 0]).flatten = (List.replicate n (0 : Int)).map V.int := fun n => by
          induction n with
          | zero => rfl
          | succ n ih =>
            rw [List.replicate_succ, List.flatten_cons, ih, List.replicate_succ]
            rfl
        exact key wd
      rw [e]
      exact upd_same
theorem ok_cr {f C CT CW fK fO fN : Addr} {fd fdK fdO fdN : FuncData} (F : Fun K "comes_round" "Town.comes_round" sTCR f fd) (TC : TwC K C) (cK : KT.Cb P w K mg base (L2.CX P w) 3 "check_words" ["words", "letters"] (spCkW CW) fK fdK) (cO : KT.Cb P w K mg base CX0 1 "counts_of" ["word", "letters"] spCof fO fdO)
    (GN : FnOk P w K mg base CX0 4 fN fdN ["self", "x"] (spCon CT)) (hf : PySem.W.findIn K (.ref CT) "__contains__" = some (some (.ref fN))) (fn : PySem.W.isFn K (.ref fN) = true) (bN : Binds K fdN ["self", "x"] []) : FnOk P w K mg base (L2.CX P w) 5 f fd ["self", "word"] (spCR C CT CW) := by
  refine F.okX scTCR (fun vs H Q E h => ?_) (fun cdv A outer s H vs Q E hr h => ?_)
  · obtain ⟨x, q, L, rs, l, R, rfl, _⟩ := h
    rfl
  · obtain ⟨x, q, L, rs, l, R, rfl, tn, nr, gL, hl, hw, qq⟩ := h
    have r3 : Room 3 (A.deeper (envOfC "Town.comes_round" (defScope sTCR) s.heap.objs.size f cdv)) := hr.mono (by decide)
    have r1 : Room 1 (A.deeper (envOfC "Town.comes_round" (defScope sTCR) s.heap.objs.size f cdv)) := hr.mono (by decide)
    have pass : Passes (L2.CX P w) (cxOf (L2.CX P w) P w K mg base ["self", "word"] "Town.comes_round" (defScope sTCR) f cdv A outer s H E) E := passes_call (W := fun cls d _ H => E cls d H) (L2.takes_of rfl rfl rfl rfl) (fun _ _ _ _ h => h)
    obtain ⟨dx, t, hx, gd⟩ := tn.tab
    have gl := gL.len
    refine ⟨_, pss_cons (ps_expr (pe_call cK.ok r3 (by rfl) cK.g cK.kp cK.b .nil pass (pa_cons (pe_lst (pa_cons (pv 1) pa_nil)) (pa_cons (pe_fld (pv 0) rfl) pa_nil))))
      (pss_one (ps_ret (pe_cmpR (Rs.op_inO GN hf fn bN pass0 hr) (pe_call cO.ok r1 (by rfl) cO.g cO.kp cO.b .nil pass0 (pa_cons (pv 1) (pa_cons (pe_fld (pv 0) rfl) pa_nil))) (pe_fld (pv 0) rfl) (by rfl)))), ?_⟩
    refine ⟨_, rfl, (by show 1 ≤ sizeLine; decide), fun p np => ?_⟩
    have s1 := same_new (o := .lst [tx l]) np
    refine ⟨_, rfl, x, C, dx, _, tx L, rfl, s1 _ _ hx, TC.cl, TC.al, rfl, p, l, L, rfl, upd_same, hl, good_lt' gL, fun _ H2 s2 => ?_, fun hn => absurd hw (by rw [hn]; exact fun h => nomatch h)⟩
    have s12 := s1.trans s2
    refine ⟨_, rfl, _, rfl, x, C, dx, _, tx L, rfl, s12 _ _ hx, TC.cl, TC.al, rfl, l, L, rfl, good_lt' gL, fun H3 pc s3 nc hc => ?_⟩
    have s13 := s12.trans s3
    obtain ⟨qt, fs, tj, er⟩ := gd.nr nr
    refine ⟨_, rfl, x, C, dx, _, .ref t, rfl, s13 _ _ hx, TC.cl, TC.gr, rfl, ?_⟩
    obtain ⟨dt, hti⟩ := (tj.ext (.of s13)).ins
    refine ⟨t, dt, _, rfl, hti, t, (pc, cnI l L), L.length, R, rfl, ⟨⟨qt, fs, tj.ext (.of s13), er⟩, ?_, gl.1, gl.2, cnI_len l L, fun y hy => ?_, nr.fd, nr.len⟩, fun H4 s4 => ⟨_, rfl, qq H4 (s13.trans s4)⟩⟩
    · show H3 pc = some (.tup ((cnI l L).map V.int))
      rw [← cn_I]
      exact hc
    · have h1 := cnI_bd y hy
      exact Nat.lt_of_le_of_lt (Nat.le_trans h1 hl) (by decide)
end
end K31
set_option maxRecDepth 100000
set_option maxHeartbeats 1000000
namespace Rs
open PySem PySem.Spec PyProof.Rows L2
/-- x, *y = a list -/
theorem unpack_one {prog : Program} {w : World} {A : Around} {E : Value → Shared → Prop} {s : Shared} {l : Addr} {items : Array Value} {Q : List Value → Shared → Prop} (hl : s.heap.IsList l items) (hh : A.handled = none) (h1 : 1 ≤ items.size) (hz : items.size ≤ sizeLine)
    (q : ∀ h' tk, (∀ b o, s.heap.get? b = some o → h'.get? b = some o) → wpAny (model prog w) A (newList (items.toList.drop 1)) (fun d s' => Q (items.toList.take 1 ++ [d] ++ []) s') E { s with heap := h', toks := tk }) : wpAny (model prog w) A (unpackItems (.ref l) 2 (some 1)) Q E s := by
  have ne : l ≠ s.heap.objs.size := by
    obtain ⟨o, ho, _⟩ := id hl
    exact Nat.ne_of_lt (Heap.lt_size ho)
  unfold unpackItems notIterableAtAll
  refine wpAny_bind (wpAny_bind (wpAny_specialOf hl.typeIs slot_list_iter.lookup (wpAny_pure ?_)))
  simp only [Bool.false_eq_true, if_false]
  refine wpAny_bind (wpAny_holding (wpAny_pyIter_list hl (wpAny_bind (wpAny_holding (PySem.W.kun_draw ne 1 0 _ _ ⟨_, Heap.get?_push_size _ rfl, rfl, rfl⟩ (hl.push _) (by omega) fun h1' it1 sb => ?_)))))
  have l1 : h1'.IsList l items := (hl.push _).extBut sb.extBut ne
  rw [Nat.zero_add] at it1
  obtain ⟨oi, hoi, _⟩ := id it1
  obtain ⟨ol, hol, _⟩ := id l1
  rw [List.drop_zero]
  have fl : (items.toList.take 1).length = 1 := by
    rw [List.length_take, Array.length_toList]
    omega
  rw [if_neg (by omega)]
  refine wpAny_bind (wpAny_holding (PySem.W.kun_collect (s := { s with heap := h1' }) (T := "list_iterator") (.inr (.inr (.inl rfl))) (Walks.list (A := A.in1) hh s.heap.objs.size l ne items) (fun j u st => st.1.typeIs) (k := 1) h1 ⟨it1, l1⟩ (Heap.lt_size hoi) (Heap.lt_size hol) (fun h2 tk k2 => ?_) hz))
  have lr : (items.toList.drop 1).length = items.size - 1 := by rw [List.length_drop, Array.length_toList]
  have e1 : (items.toList.drop 1).take ((items.toList.drop 1).length - (2 - 1 - 1)) = items.toList.drop 1 := List.take_of_length_le (by omega)
  have e2 : (items.toList.drop 1).drop ((items.toList.drop 1).length - (2 - 1 - 1)) = [] := List.drop_eq_nil_of_le (by omega)
  show wpAny _ _ (if (items.toList.drop 1).length < 2 - 1 - 1 then _ else _) _ _ _
  rw [if_neg (by omega)]
  show wpAny _ _ (newList ((items.toList.drop 1).take ((items.toList.drop 1).length - (2 - 1 - 1))) >>= fun d => pure (items.toList.take 1 ++ [d] ++ (items.toList.drop 1).drop ((items.toList.drop 1).length - (2 - 1 - 1)))) _ _ _
  rw [e1, e2]
  refine wpAny_bind (wpAny_mono (q h2 tk fun b o e => ?_) (fun d s' h => wpAny_pure h) fun _ _ x => x)
  have hb : b ≠ s.heap.objs.size := Nat.ne_of_lt (Heap.lt_size e)
  exact k2 b o hb (sb.extBut b o hb (Heap.get?_push_of_some _ e))
def gStar (K : PySem.W.Frag) (t : TGs) : TG := fun v σ H Q => ∃ a x xs, v = .ref a ∧ SqL K H a (x :: xs) ∧ ∀ p, H p = none → t [x, .ref p] σ (upd H p (.lst xs)) Q
theorem pg_star {X : Cx} {es : List Expr} {k : Nat} {pos : Pos} {t : TGs} (hc : X.calm = true) (h : PGs X es t) (hn : (assignEach es X.env).length = 2 := by rfl) (hst : (assignEach es X.env).findIdx? (·.1) = some 1 := by rfl) : PG X (.Tuple es k pos) (gStar X.K t) := by
  refine ⟨fun pins s σ H v u Q I r hw => ?_⟩
  obtain ⟨a, x, xs, rfl, hq, q⟩ := hw
  cases r
  obtain ⟨its, rv, pl, hz⟩ := I.list hq
  obtain ⟨i0, its', rfl⟩ : ∃ i0 its', its = i0 :: its' := by
    cases rv
    exact ⟨_, _, rfl⟩
  have hz' : xs.length + 1 ≤ sizeLine := hz
  cases rv with
  | cons r0 rv =>
    have el := rv.length
    rw [PyProof.Rows.assign_Tuple]
    refine wpAny_bind (wpAny_standAt ?_)
    unfold unpack
    rw [hn, hst]
    refine wpAny_bind (wpAny_holding (unpack_one pl.isList (I.ok.hd hc) (by simp) (by simp; omega) fun h' tk hk => ?_))
    have I1 : Inv X pins σ H { s with heap := h', toks := tk } := I.kept hk
    have hf : H h'.objs.size = none := I1.hok.fresh (Nat.le_refl _)
    refine wpAny_newList (s := { s with heap := h', toks := tk }) ?_ (by simp; omega)
    have I2 : Inv X pins σ (upd H h'.objs.size (.lst xs)) { s with heap := h'.push { cls := .type "list", data := .seq (List.drop 1 (i0 :: its')).toArray }, toks := tk } :=
      I1.laid (t' := tk) (fun b u e => Heap.get?_push_of_some _ e) (Nat.le_refl _) ⟨by omega, its', 0, rv, Heap.get?_push_size _ rfl⟩
    exact h.run pins _ σ _ [x, .ref h'.objs.size] _ Q I2 (.cons r0 (.cons rfl .nil)) (q _ hf)
end Rs
set_option maxRecDepth 100000
set_option maxHeartbeats 1000000
/-! x, *y = a tuple -/
namespace Rs
open PySem PySem.Spec PyProof.Rows L2
theorem unpack_oneT {prog : Program} {w : World} {A : Around} {E : Value → Shared → Prop} {s : Shared} {l : Addr} {items : Array Value} {Q : List Value → Shared → Prop} (hl : IsTup s.heap l items) (hh : A.handled = none) (h1 : 1 ≤ items.size) (hz : items.size ≤ sizeLine)
    (q : ∀ h' tk, (∀ b o, s.heap.get? b = some o → h'.get? b = some o) → wpAny (model prog w) A (newList (items.toList.drop 1)) (fun d s' => Q (items.toList.take 1 ++ [d] ++ []) s') E { s with heap := h', toks := tk }) : wpAny (model prog w) A (unpackItems (.ref l) 2 (some 1)) Q E s := by
  have ne : l ≠ s.heap.objs.size := by
    obtain ⟨o, ho, _⟩ := id hl
    exact Nat.ne_of_lt (Heap.lt_size ho)
  unfold unpackItems notIterableAtAll
  refine wpAny_bind (wpAny_bind (wpAny_specialOf hl.typeIs slot_tuple_iter.lookup (wpAny_pure ?_)))
  simp only [Bool.false_eq_true, if_false]
  refine wpAny_bind (wpAny_holding (iter_tuple hl (wpAny_bind (wpAny_holding (draw_tuple ne 1 0 _ _ ⟨_, Heap.get?_push_size _ rfl, rfl, rfl⟩ (hl.push _) (by omega) fun h1' it1 sb => ?_)))))
  have l1 : IsTup h1' l items := (hl.push _).extBut sb.extBut ne
  rw [Nat.zero_add] at it1
  obtain ⟨oi, hoi, _⟩ := id it1
  obtain ⟨ol, hol, _⟩ := id l1
  rw [List.drop_zero]
  have fl : (items.toList.take 1).length = 1 := by
    rw [List.length_take, Array.length_toList]
    omega
  rw [if_neg (by omega)]
  refine wpAny_bind (wpAny_holding (PySem.W.kun_collect (s := { s with heap := h1' }) (T := "tuple_iterator") (.inr (.inr (.inr rfl))) (Walks.tuple (A := A.in1) hh s.heap.objs.size l ne items) (fun j u st => st.1.typeIs) (k := 1) h1 ⟨it1, l1⟩ (Heap.lt_size hoi) (Heap.lt_size hol) (fun h2 tk k2 => ?_) hz))
  have lr : (items.toList.drop 1).length = items.size - 1 := by rw [List.length_drop, Array.length_toList]
  have e1 : (items.toList.drop 1).take ((items.toList.drop 1).length - (2 - 1 - 1)) = items.toList.drop 1 := List.take_of_length_le (by omega)
  have e2 : (items.toList.drop 1).drop ((items.toList.drop 1).length - (2 - 1 - 1)) = [] := List.drop_eq_nil_of_le (by omega)
  show wpAny _ _ (if (items.toList.drop 1).length < 2 - 1 - 1 then _ else _) _ _ _
  rw [if_neg (by omega)]
  show wpAny _ _ (newList ((items.toList.drop 1).take ((items.toList.drop 1).length - (2 - 1 - 1))) >>= fun d => pure (items.toList.take 1 ++ [d] ++ (items.toList.drop 1).drop ((items.toList.drop 1).length - (2 - 1 - 1)))) _ _ _
  rw [e1, e2]
  refine wpAny_bind (wpAny_mono (q h2 tk fun b o e => ?_) (fun d s' h => wpAny_pure h) fun _ _ x => x)
  have hb : b ≠ s.heap.objs.size := Nat.ne_of_lt (Heap.lt_size e)
  exact k2 b o hb (sb.extBut b o hb (Heap.get?_push_of_some _ e))
def gStarT (K : PySem.W.Frag) (t : TGs) : TG := fun v σ H Q => ∃ a x xs, v = .ref a ∧ SqT K H a (x :: xs) ∧ ∀ p, H p = none → t [x, .ref p] σ (upd H p (.lst xs)) Q
theorem pg_starT {X : Cx} {es : List Expr} {k : Nat} {pos : Pos} {t : TGs} (hc : X.calm = true) (h : PGs X es t) (hn : (assignEach es X.env).length = 2 := by rfl) (hst : (assignEach es X.env).findIdx? (·.1) = some 1 := by rfl) : PG X (.Tuple es k pos) (gStarT X.K t) := by
  refine ⟨fun pins s σ H v u Q I r hw => ?_⟩
  obtain ⟨a, x, xs, rfl, hq, q⟩ := hw
  cases r
  obtain ⟨its, rv, pl, hz⟩ := I.tuple hq
  obtain ⟨i0, its', rfl⟩ : ∃ i0 its', its = i0 :: its' := by
    cases rv
    exact ⟨_, _, rfl⟩
  have hz' : xs.length + 1 ≤ sizeLine := hz
  cases rv with
  | cons r0 rv =>
    have el := rv.length
    rw [PyProof.Rows.assign_Tuple]
    refine wpAny_bind (wpAny_standAt ?_)
    unfold unpack
    rw [hn, hst]
    refine wpAny_bind (wpAny_holding (unpack_oneT pl (I.ok.hd hc) (by simp) (by simp; omega) fun h' tk hk => ?_))
    have I1 : Inv X pins σ H { s with heap := h', toks := tk } := I.kept hk
    have hf : H h'.objs.size = none := I1.hok.fresh (Nat.le_refl _)
    refine wpAny_newList (s := { s with heap := h', toks := tk }) ?_ (by simp; omega)
    have I2 : Inv X pins σ (upd H h'.objs.size (.lst xs)) { s with heap := h'.push { cls := .type "list", data := .seq (List.drop 1 (i0 :: its')).toArray }, toks := tk } :=
      I1.laid (t' := tk) (fun b u e => Heap.get?_push_of_some _ e) (Nat.le_refl _) ⟨by omega, its', 0, rv, Heap.get?_push_size _ rfl⟩
    exact h.run pins _ σ _ [x, .ref h'.objs.size] _ Q I2 (.cons r0 (.cons rfl .nil)) (q _ hf)
/-- *x among targets -/
theorem pgs_st {X : Cx} {e : Expr} {es : List Expr} {t : TG} {u : TGs} {p : Pos} (h1 : PG X e t) (h2 : PGs X es u) (hs : (assignEach (.Starred e p :: es) X.env).map (·.2) = assign e X.env :: (assignEach es X.env).map (·.2) := by rfl) : PGs X (.Starred e p :: es) (gCons t u) := by
  refine ⟨fun pins s σ H vs us Q I r h => ?_⟩
  obtain ⟨v, vr, rfl, h⟩ := h
  match us, r with
  | _, .cons r rr =>
    rw [hs]
    exact assignInOrder_cons (thn (h1.run pins s σ H _ _ _ I r h) fun _ s1 ⟨σ1, H1, I1, q1⟩ => h2.run pins s1 σ1 H1 _ _ Q I1 rr q1)
end Rs
set_option maxRecDepth 100000
set_option maxHeartbeats 2000000
/-! the word behind a step, as a function; behind_put, behind_drop -/
namespace K31
open PySem PySem.Spec PyProof.Rows L2 KA
def toN : V → Nat
  | .int i => i.toNat
  | _ => 0
def toL : V → List Nat
  | .str z => z.cps.toList
  | _ => []
def isS (L : List Nat) : V → Bool
  | .str z => decide (z.cps.toList.length = 1) && isW z.cps.toList L
  | _ => false
def isB : V → Bool
  | .bl _ => true
  | _ => false
def toB : V → Bool
  | .bl b => b
  | _ => false
def nn : V → Bool
  | .int i => decide (0 ≤ i)
  | _ => false
def bPut (L w : List Nat) (a s : V) : Option (List Nat) := if inR a 0 (w.length : Nat) && isS L s then some (w.take (toN a) ++ toL s ++ opp (toL s) ++ w.drop (toN a)) else none
def bDrop (w : List Nat) (a : V) : Option (List Nat) := if inR a 0 ((w.length : Nat) - 2) && decide (w[toN a]? = (w[toN a + 1]?).map sw) then some (w.take (toN a) ++ w.drop (toN a + 2)) else none
def oldS (r : List (List Nat)) (f : V) : List Nat := if toB f then r.getD 0 [] else r.getD 1 []
def newS (r : List (List Nat)) (f : V) : List Nat := if toB f then r.getD 1 [] else r.getD 0 []
def bRule (ws : List (List (List Nat))) (w : List Nat) (n f a : V) : Option (List Nat) := if inR n 0 ((ws.length : Nat) - 1) && isB f then
    (if inR a 0 (w.length : Nat) && decide ((w.drop (toN a)).take (oldS (ws.getD (toN n) []) f).length = oldS (ws.getD (toN n) []) f) then some (w.take (toN a) ++ newS (ws.getD (toN n) []) f ++ w.drop (toN a + (oldS (ws.getD (toN n) []) f).length)) else none) else none
def bSwap (R : List (List Int)) (L w : List Nat) (a f s : V) : Option (List Nat) := if (nn a && (nn f && nn s)) && decide (toN a + toN f + toN s ≤ w.length) then
    (if crb R L ((w.drop (toN a)).take (toN f)) && crb R L ((w.drop (toN a + toN f)).take (toN s)) then some (w.take (toN a) ++ (w.drop (toN a + toN f)).take (toN s) ++ (w.drop (toN a)).take (toN f) ++ w.drop (toN a + toN f + toN s)) else none) else none
abbrev kPut : V := .str (Str.ofString "put")
abbrev kDrop : V := .str (Str.ofString "drop")
abbrev kRule : V := .str (Str.ofString "rule")
abbrev kSwap : V := .str (Str.ofString "swap")
/-- the word behind a step -/
def bh (R : List (List Int)) (L : List Nat) (ws : List (List (List Nat))) (w : List Nat) : List V → Option (List Nat)
  | [] => none
  | k :: rest => if k = kPut ∧ rest.length = 2 then bPut L w (rest.getD 0 .non) (rest.getD 1 .non)
    else if k = kDrop ∧ rest.length = 1 then bDrop w (rest.getD 0 .non)
    else if k = kRule ∧ rest.length = 3 then bRule ws w (rest.getD 0 .non) (rest.getD 1 .non) (rest.getD 2 .non)
    else if k = kSwap ∧ rest.length = 3 then bSwap R L w (rest.getD 0 .non) (rest.getD 1 .non) (rest.getD 2 .non)
    else none
def vO : Option (List Nat) → V
  | none => .non
  | some l => tx l
theorem inR_int {v : V} {lo hi : Int} (h : inR v lo hi = true) : ∃ i : Int, v = .int i ∧ lo ≤ i ∧ i ≤ hi := by
  cases v with
  | int i =>
    have h : (decide (lo ≤ i) && decide (i ≤ hi)) = true := h
    obtain ⟨h1, h2⟩ := He.ba h
    exact ⟨i, rfl, of_decide_eq_true h1, of_decide_eq_true h2⟩
  | _ => cases h
theorem inR_nat {v : V} {hi : Int} (h : inR v 0 hi = true) : ∃ n : Nat, v = .int ((n : Nat) : Int) ∧ ((n : Nat) : Int) ≤ hi := by
  obtain ⟨i, rfl, h1, h2⟩ := inR_int h
  exact ⟨i.toNat, by congr 1; omega, by omega⟩
theorem isS_one {L : List Nat} {v : V} (h : isS L v = true) : ∃ c, v = tx [c] ∧ c ∈ sg L := by
  cases v with
  | str z =>
    have h : (decide (z.cps.toList.length = 1) && isW z.cps.toList L) = true := h
    obtain ⟨h1, h2⟩ := He.ba h
    have h1 := of_decide_eq_true h1
    match e : z.cps.toList, h1 with
    | [c], _ =>
      refine ⟨c, ?_, ?_⟩
      · have : z = SX.S [c] := by
          show z = (⟨[c].toArray⟩ : Str)
          rw [← e, Array.toArray_toList]
        rw [this]
      · rw [e] at h2
        have z2 := List.all_eq_true.mp h2 c List.mem_cons_self
        exact of_decide_eq_true z2
  | _ => cases h
theorem sg_up {L : List Nat} (h : Lt L) {c : Nat} (hc : c ∈ sg L) : c < 128 := by
  unfold sg at hc
  obtain ⟨d, hd, hx⟩ := List.mem_flatMap.mp hc
  have := h.2 d hd
  have hx2 : c = d ∨ c = d - 32 := by simpa using hx
  omega
abbrev sBP : Stmt := top 28
abbrev sSg : Stmt := top 29
abbrev sBD : Stmt := top 30
theorem scBP : FnScope ["town", "word", "rest", "at", "sign"] ["town", "word", "rest"] (defScope sBP) := ⟨rfl, rfl, rfl, by decide +kernel, rfl, by decide +kernel, by decide +kernel⟩
theorem scSg : FnScope ["sign", "letters"] ["sign", "letters"] (defScope sSg) := ⟨rfl, rfl, rfl, by decide +kernel, rfl, by decide +kernel, by decide +kernel⟩
theorem scBD : FnScope ["word", "rest", "at"] ["word", "rest"] (defScope sBD) := ⟨rfl, rfl, rfl, by decide +kernel, rfl, by decide +kernel, by decide +kernel⟩
/-- the letters of a town, as a property -/
structure PrL (P : Program) (w : World) (K : PySem.W.Frag) (mg : Str → Option Value) (base : Heap) (C pm pg : Addr) (fdg : FuncData) : Prop where
  p : PropOf K C "letters" pm pg
  G : FnOk P w K mg base CX0 1 pg fdg ["self"] (getSp C "alphabet")
  b : Binds K fdg ["self"] []
def spSg : Sp := fun vs H Q _ => ∃ (v : V) (L : List Nat), vs = [v, tx L] ∧ Fv v ∧ Lt L ∧ ∀ H', Same H H' → Q (.bl (isS L v)) H'
def spBP (C CT : Addr) : Sp := fun vs H Q _ => ∃ (x q p : Addr) (L : List Nat) (rs : Rls) (l : List Nat) (a s : V), vs = [.ref x, tx l, .ref p] ∧ Tn C CT H x L q rs ∧ Lt L ∧ l.length ≤ 100 ∧ Asc l ∧ H p = some (.lst [a, s]) ∧ Fv a ∧ Fv s ∧ ∀ H', Same H H' → Q (vO (bPut L l a s)) H'
def spBD : Sp := fun vs H Q _ => ∃ (p : Addr) (l : List Nat) (a : V), vs = [tx l, .ref p] ∧ l.length ≤ 100 ∧ Asc l ∧ H p = some (.lst [a]) ∧ Fv a ∧ ∀ H', Same H H' → Q (vO (bDrop l a)) H'
section
variable {P : Program} {w : World} {K : PySem.W.Frag} {mg : Str → Option Value} {base : Heap}
theorem ok_sg {f fW : Addr} {fd fdW : FuncData} {k : Nat} (F : Fun K "is_sign" "is_sign" sSg f fd) (B : Bn mg) (cW : KT.Cb P w K mg base CX0 (k + 2) "is_word" ["word", "letters"] spIsW fW fdW) : FnOk P w K mg base CX0 (k + 3) f fd ["sign", "letters"] spSg := by
  refine F.ok scSg (fun vs H Q E h => ?_) (fun cdv A outer s H vs Q E hr h => ?_)
  · obtain ⟨v, L, rfl, _⟩ := h
    rfl
  · obtain ⟨v, L, rfl, hv, hL, q⟩ := h
    refine ⟨_, pss_one (ps_ret (pe_and (pe_callB call_isi (by rfl) B.isinst boot_isinstance (pa_cons (pv 0) (pa_cons (pe_bltn (v := .ty "str") (by rfl) B.str PyProof.Rows.boot_str rfl) pa_nil)))
      (pe_and (pe_cmpR op_eq (pe_callB call_len_str (by rfl) B.len PySem.boot_len (pa_cons (pv 0) pa_nil)) pe_int (nomark _))
      (pe_one (pe_call cW.ok hr (by rfl) cW.g cW.kp cW.b .nil pass0 (pa_cons (pv 0) (pa_cons (pv 1) pa_nil))))))), ?_⟩
    cases hv with
    | int i => exact ⟨_, rfl, _, _, _, _, false, rfl, .ty _, .base (.int i), kit_ty (by decide +kernel), false, rfl, iteF (q H (Same.refl _))⟩
    | bl b => exact ⟨_, rfl, _, _, _, _, false, rfl, .ty _, .base (.bl b), kit_ty (by decide +kernel), false, rfl, iteF (q H (Same.refl _))⟩
    | str l hl hA =>
      refine ⟨_, rfl, _, _, _, _, true, rfl, .ty _, .base (.str _), kit_ty (by decide +kernel), true, rfl, iteT ?_⟩
      refine ⟨_, rfl, _, rfl, asc_le (by omega), rfl, ?_⟩
      rw [tx_len]
      by_cases h1 : l.length = 1
      · refine ⟨true, congrArg V.bl (decide_eq_true (by rw [h1]; rfl)), iteT ⟨_, rfl, _, rfl, l, L, rfl, by omega, hL, fun H1 s1 => ?_⟩⟩
        have e : isS L (tx l) = isW l L := by
          show (decide (l.length = 1) && isW l L) = _
          rw [decide_eq_true h1]
          rfl
        rw [← e]
        exact q H1 s1
      · refine ⟨false, congrArg V.bl (decide_eq_false fun z => h1 (by injection z with z; omega)), iteF ?_⟩
        have e : isS L (tx l) = false := by
          show (decide (l.length = 1) && isW l L) = _
          rw [decide_eq_false h1]
          rfl
        have z := q H (Same.refl _)
        rw [e] at z
        exact z
theorem cl2 {a b : List Nat} (h : a.length + b.length ≤ 1000) : (SX.S a).length + (SX.S b).length ≤ sizeLine := by
  rw [tx_len, tx_len, sizeLine_eq]
  omega
theorem ok_bp {f fN fS fO C CT pm pg : Addr} {fd fdN fdS fdO fdg : FuncData} (F : Fun K "behind_put" "behind_put" sBP f fd) (B : Bn mg) (TC : TwC K C) (PL : PrL P w K mg base C pm pg fdg) (cN : KT.Cb P w K mg base CX0 2 "is_number_from" ["value", "low", "high"] spNumFV fN fdN) (cS : KT.Cb P w K mg base CX0 3 "is_sign" ["sign", "letters"] spSg fS fdS)
    (cO : KT.Cb P w K mg base CX0 1 "opposite" ["word"] spOpp fO fdO) : FnOk P w K mg base CX0 4 f fd ["town", "word", "rest"] (spBP C CT) := by
  refine F.ok scBP (fun vs H Q E h => ?_) (fun cdv A outer s H vs Q E hr h => ?_)
  · obtain ⟨x, q, p, L, rs, l, a, s, rfl, _⟩ := h
    rfl
  · obtain ⟨x, q, p, L, rs, l, a, z, rfl, tn, hL, hl, hA, hp, ha, hz, qq⟩ := h
    have r2 : Room 2 (A.deeper (envOfC "behind_put" (defScope sBP) s.heap.objs.size f cdv)) := hr.mono (by decide)
    have r3 : Room 3 (A.deeper (envOfC "behind_put" (defScope sBP) s.heap.objs.size f cdv)) := hr.mono (by decide)
    have r1 : Room 1 (A.deeper (envOfC "behind_put" (defScope sBP) s.heap.objs.size f cdv)) := hr.mono (by decide)
    refine ⟨_, pss_cons (ps_asg (pv 2) (pg_unl rfl (pgs_cons (pg_name (i := 3) scBP.nd rfl (.inl rfl)) (pgs_cons (pg_name (i := 4) scBP.nd rfl (.inl rfl)) pgs_nil))))
      (pss_cons (ps_if (PW.pt (pw_or (pt_not (pt_val (pe_call cN.ok r2 (by rfl) cN.g cN.kp cN.b .nil pass0 (pa_cons (pv 3) (pa_cons pe_int (pa_cons (pe_callB call_len_str (by rfl) B.len PySem.boot_len (pa_cons (pv 1) pa_nil)) pa_nil))))))
          (pw_or1 (pt_not (pt_val (pe_call cS.ok r3 (by rfl) cS.g cS.kp cS.b .nil pass0 (pa_cons (pv 4) (pa_cons (pe_prop (pv 0) TC.cl PL.p PL.G r2 PL.b .nil pass0 rfl) pa_nil))))))))
        (pss_one (ps_ret pe_non)) pss_nil)
      (pss_one (ps_ret (pe_op op_add_str (pe_op op_add_str (pe_op op_add_str (pe_slice sl_str (pv 1) po_none (po_some (pv 3))) (pv 4)) (pe_call cO.ok r1 (by rfl) cO.g cO.kp cO.b .nil pass0 (pa_cons (pv 4) pa_nil))) (pe_slice sl_str (pv 1) (po_some (pv 3)) po_none))))), ?_⟩
    obtain ⟨dx, t, hx⟩ := tn.ins
    have ab := asc_le (w := l) (by omega)
    refine ⟨_, rfl, p, _, rfl, SqL.of hp, rfl, _, _, rfl, _, _, rfl, rfl, ?_⟩
    refine ⟨_, rfl, _, rfl, _, rfl, ab, a, 0, _, rfl, ha, _, rfl, ?_⟩
    rw [tx_len]
    unfold bPut at qq
    cases hi : inR a 0 (l.length : Nat) with
    | false =>
      rw [hi] at qq
      exact iteT (iteT (qq H (Same.refl _)))
    | true =>
      rw [hi] at qq
      refine iteF ?_
      refine ⟨_, rfl, _, rfl, x, dx, _, rfl, hx, x, dx, _, _, rfl, hx, rfl, z, L, rfl, hz, hL, fun H1 s1 => ⟨_, rfl, ?_⟩⟩
      cases hs : isS L z with
      | false =>
        rw [hs] at qq
        exact iteT (qq H1 s1)
      | true =>
        rw [hs] at qq
        refine iteF ?_
        obtain ⟨n, rfl, hn⟩ := inR_nat hi
        obtain ⟨c, rfl, hc⟩ := isS_one hs
        have hc8 := sg_up hL hc
        have qq : ∀ H', Same H H' → Q (tx (l.take n ++ [c] ++ opp [c] ++ l.drop n)) H' := qq
        have tl : (l.take n).length ≤ 100 := by rw [List.length_take]; omega
        have dl : (l.drop n).length ≤ 100 := by rw [List.length_drop]; omega
        refine ⟨_, rfl, _, rfl, _, rfl, _, rfl, ab, ?_⟩
        rw [cut_to]
        refine ⟨_, rfl, _, _, rfl, rfl, cl2 (b := [c]) (by show (l.take n).length + 1 ≤ 1000; omega), ?_⟩
        rw [SX.S_cat]
        refine ⟨_, rfl, [c], rfl, (by show 1 ≤ 1000; decide), (fun y hy => by rw [List.mem_singleton.mp hy]; exact hc8), _, _, rfl, rfl, cl2 (by rw [List.length_append]; show (l.take n).length + 1 + 1 ≤ 1000; omega), ?_⟩
        rw [SX.S_cat]
        refine ⟨_, rfl, _, rfl, _, rfl, _, rfl, ab, ?_⟩
        rw [cut_from]
        refine ⟨_, _, rfl, rfl, cl2 (by rw [List.length_append, List.length_append]; show (l.take n).length + 1 + 1 + (l.drop n).length ≤ 1000; omega), ?_⟩
        rw [SX.S_cat]
        exact qq H1 s1
theorem ok_bd {f fN fO : Addr} {fd fdN fdO : FuncData} (F : Fun K "behind_drop" "behind_drop" sBD f fd) (B : Bn mg) (cN : KT.Cb P w K mg base CX0 2 "is_number_from" ["value", "low", "high"] spNumFV fN fdN) (cO : KT.Cb P w K mg base CX0 1 "opposite" ["word"] spOpp fO fdO) : FnOk P w K mg base CX0 3 f fd ["word", "rest"] spBD := by
  refine F.ok scBD (fun vs H Q E h => ?_) (fun cdv A outer s H vs Q E hr h => ?_)
  · obtain ⟨p, l, a, rfl, _⟩ := h
    rfl
  · obtain ⟨p, l, a, rfl, hl, hA, hp, ha, qq⟩ := h
    have r1 : Room 1 (A.deeper (envOfC "behind_drop" (defScope sBD) s.heap.objs.size f cdv)) := hr.mono (by decide)
    refine ⟨_, pss_cons (ps_set (i := 2) scBD.nd rfl (.inl rfl) (pe_ix ix_list (pv 1) pe_int (fun _ _ => rfl)))
      (pss_cons (ps_if (PW.pt (pw_or (pt_not (pt_val (pe_call cN.ok hr (by rfl) cN.g cN.kp cN.b .nil pass0 (pa_cons (pv 2) (pa_cons pe_int (pa_cons (pe_op op_sub (pe_callB call_len_str (by rfl) B.len PySem.boot_len (pa_cons (pv 0) pa_nil)) pe_int) pa_nil))))))
          (pw_or1 (pt_cmpR op_ne (pe_ix ix_str (pv 0) (pv 2) (fun _ _ => rfl)) (pe_call cO.ok r1 (by rfl) cO.g cO.kp cO.b .nil pass0 (pa_cons (pe_ix ix_str (pv 0) (pe_op op_add (pv 2) pe_int) (fun _ _ => rfl)) pa_nil)) (nomark _)))))
        (pss_one (ps_ret pe_non)) pss_nil)
      (pss_one (ps_ret (pe_op op_add_str (pe_slice sl_str (pv 0) po_none (po_some (pv 2))) (pe_slice sl_str (pv 0) (po_some (pe_op op_add (pv 2) pe_int)) po_none))))), ?_⟩
    have ab := asc_le (w := l) (by omega)
    refine ⟨_, rfl, p, _, (0 : Int), a, rfl, rfl, SqL.of hp, atI_nat (j := 0) rfl, ?_⟩
    refine ⟨_, rfl, _, rfl, _, rfl, ab, _, _, rfl, rfl, a, 0, _, rfl, ha, _, rfl, ?_⟩
    rw [tx_len]
    unfold bDrop at qq
    cases hi : inR a 0 ((l.length : Nat) - 2) with
    | false =>
      rw [hi] at qq
      exact iteT (iteT (qq H (Same.refl _)))
    | true =>
      rw [hi] at qq
      refine iteF ?_
      obtain ⟨n, rfl, hn⟩ := inR_nat hi
      have h1 : n < l.length := by omega
      have h2 : n + 1 < l.length := by omega
      have g1 : l[n]? = some l[n] := List.getElem?_eq_getElem h1
      have g2 : l[n + 1]? = some l[n + 1] := List.getElem?_eq_getElem h2
      have c2 := hA _ (List.getElem_mem h2)
      generalize l[n] = c at g1
      generalize l[n + 1] = d at g2 c2
      have e1 : (n : Int) + 1 = ((n + 1 : Nat) : Int) := by omega
      have e3 : (n : Int) + 2 = ((n + 2 : Nat) : Int) := by omega
      have qq : ∀ H', Same H H' → Q (vO (if (true && decide (l[n]? = (l[n + 1]?).map sw)) = true then some (l.take n ++ l.drop (n + 2)) else none)) H' := qq
      rw [g1, g2] at qq
      refine ⟨_, rfl, _, rfl, SX.S l, _, c, rfl, rfl, ab, atI_nat g1, _, rfl, _, rfl, _, _, rfl, rfl, SX.S l, _, d, rfl, rfl, ab, ?_, [d], rfl, (by show 1 ≤ 1000; decide), (fun y hy => by rw [List.mem_singleton.mp hy]; exact c2), rfl, ?_⟩
      · rw [e1]
        exact atI_nat g2
      by_cases hcd : c = sw d
      · have hq : Q (tx (l.take n ++ l.drop (n + 2))) H := by
          have z := qq H (Same.refl _)
          have e : decide (some c = Option.map sw (some d)) = true := decide_eq_true (by rw [hcd]; rfl)
          rw [e] at z
          exact z
        refine ⟨false, congrArg V.bl (show (!decide (tx [c] = tx (opp [d]))) = false by rw [decide_eq_true (show tx [c] = tx (opp [d]) by rw [hcd]; rfl)]; rfl), iteF ?_⟩
        refine ⟨_, rfl, _, rfl, _, rfl, _, rfl, ab, ?_⟩
        rw [cut_to]
        refine ⟨_, rfl, _, rfl, _, _, rfl, rfl, _, rfl, _, rfl, ab, ?_⟩
        dsimp only
        rw [e3, cut_from]
        refine ⟨_, _, rfl, rfl, cl2 (by rw [List.length_take, List.length_drop]; omega), ?_⟩
        rw [SX.S_cat]
        exact hq
      · have hq : Q .non H := by
          have z := qq H (Same.refl _)
          have e : decide (some c = Option.map sw (some d)) = false := decide_eq_false fun h => hcd (by injection h)
          rw [e] at z
          exact z
        have ne : tx [c] ≠ tx (opp [d]) := fun h => hcd (by
          injection h with h
          have h := SX.S_inj h
          have h : [c] = [sw d] := h
          injection h)
        refine ⟨true, congrArg V.bl (show (!decide (tx [c] = tx (opp [d]))) = true by rw [decide_eq_false ne]; rfl), iteT hq⟩
end
end K31
set_option maxRecDepth 100000
set_option maxHeartbeats 4000000
/-! behind_rule, behind_swap -/
namespace K31
open PySem PySem.Spec PyProof.Rows L2 KA
theorem passN {P : Program} {w : World} {X : Cx} (hp : X.prog = P) (hw : X.w = w) : Passes (L2.CX P w) X E0 := by
  intro pins σ H s e s' I h
  obtain ⟨_, _, _, _, _, _, _, _, _, _, _, _, hE⟩ := h
  exact hE.elim
abbrev sBR : Stmt := top 31
abbrev sBS : Stmt := top 32
abbrev NBR : List Str := ["town", "word", "rest", "number", "forward", "at", "one", "other", "old", "new"]
abbrev NBS : List Str := ["town", "word", "rest", "at", "first", "second", "one", "other", "value"]
theorem scBR : FnScope NBR ["town", "word", "rest"] (defScope sBR) := ⟨rfl, rfl, rfl, by decide +kernel, rfl, by decide +kernel, by decide +kernel⟩
theorem scBS : FnScope NBS ["town", "word", "rest"] (defScope sBS) := ⟨rfl, rfl, rfl, by decide +kernel, rfl, by decide +kernel, by decide +kernel⟩
/-- len(town) -/
structure LnT (P : Program) (w : World) (K : PySem.W.Frag) (mg : Str → Option Value) (base : Heap) (C CT fl : Addr) (fdl : FuncData) : Prop where
  G : FnOk P w K mg base CX0 1 fl fdl ["self"] (spTL C CT)
  f : PySem.W.findIn K (.ref C) "__len__" = some (some (.ref fl))
  i : PySem.W.isFn K (.ref fl) = true
  b : Binds K fdl ["self"] []
def spBR (C CT : Addr) : Sp := fun vs H Q _ => ∃ (x q p : Addr) (L : List Nat) (rs : Rls) (l : List Nat) (n f a : V), vs = [.ref x, tx l, .ref p] ∧ Tn C CT H x L q rs ∧ (∀ r ∈ wds rs, okR L r = true) ∧ l.length ≤ 100 ∧ H p = some (.lst [n, f, a]) ∧ Fv n ∧ Fv f ∧ Fv a ∧ ∀ H', Same H H' → Q (vO (bRule (wds rs) l n f a)) H'
def spBS (C CT CW : Addr) : Sp := fun vs H Q _ => ∃ (x q p : Addr) (L : List Nat) (rs : Rls) (l : List Nat) (R : List (List Int)) (a f s : V), vs = [.ref x, tx l, .ref p] ∧ Tn C CT H x L q rs ∧ NRf L (wds rs) R ∧ GoodL L ∧ l.length ≤ 100 ∧ isW l L = true ∧ H p = some (.lst [a, f, s]) ∧ Fv a ∧ Fv f ∧ Fv s ∧ ∀ H', Same H H' → Q (vO (bSwap R L l a f s)) H'
theorem cut_mid (l : List Nat) (n m : Nat) : cutS (SX.S l) (some (n : Int)) (some ((n : Int) + (m : Int))) = SX.S ((l.drop n).take m) := by
  unfold cutS
  have e : (n : Int) + (m : Int) = ((n + m : Nat) : Int) := by omega
  rw [e, HT.sIx_nat, HT.sIx_nat, tx_len]
  show SX.S ((l.drop (min n l.length)).take (min (n + m) l.length - min n l.length)) = SX.S ((l.drop n).take m)
  by_cases h : n ≤ l.length
  · rw [Nat.min_eq_left h]
    by_cases h2 : n + m ≤ l.length
    · rw [Nat.min_eq_left h2, show n + m - n = m by omega]
    · rw [Nat.min_eq_right (by omega)]
      rw [List.take_of_length_le (by rw [List.length_drop]; omega), List.take_of_length_le (by rw [List.length_drop]; omega)]
  · rw [Nat.min_eq_right (by omega), List.drop_eq_nil_of_le (by omega), List.drop_eq_nil_of_le (by omega)]
    simp
section
variable {P : Program} {w : World} {K : PySem.W.Frag} {mg : Str → Option Value} {base : Heap}
abbrev XBR (P : Program) (w : World) (K : PySem.W.Frag) (mg : Str → Option Value) (base : Heap) (f : Addr) (cdv : Value) (A : Around) (outer : List Env) (s : Shared) (H : Hp) (E : XK) : Cx := (cxOf CX0 P w K mg base NBR "behind_rule" (defScope sBR) f cdv A outer s H E).nox
theorem br_tail {f fN : Addr} {fdN : FuncData} {cdv : Value} {A : Around} {outer : List Env} {s : Shared} {H : Hp} {E : XK} (B : Bn mg) (cN : KT.Cb P w K mg base CX0 2 "is_number_from" ["value", "low", "high"] spNumFV fN fdN) (hr : Room 2 (A.deeper (envOfC "behind_rule" (defScope sBR) s.heap.objs.size f cdv))) :
    ∃ t, PSs (XBR P w K mg base f cdv A outer s H E) ((defBody sBR).drop 4) t ∧ ∀ (D : Ends) (H1 : Hp) (l o nw : List Nat) (a : V) (y0 y2 y3 y4 y6 y7 : Option V), l.length ≤ 100 → o.length ≤ 16 → nw.length ≤ 16 → Fv a →
      D.rt (vO (if inR a 0 (l.length : Nat) && decide ((l.drop (toN a)).take o.length = o) then some (l.take (toN a) ++ nw ++ l.drop (toN a + o.length)) else none)) H1 → t D [y0, some (tx l), y2, y3, y4, some a, y6, y7, some (tx o), some (tx nw)] H1 := by
  refine ⟨_, pss_cons (ps_if (PW.pt (pw_or (pt_not (pt_val (pe_call cN.ok hr (by rfl) cN.g cN.kp cN.b .nil pass0 (pa_cons (pv 5) (pa_cons pe_int (pa_cons (pe_callB call_len_str (by rfl) B.len PySem.boot_len (pa_cons (pv 1) pa_nil)) pa_nil))))))
          (pw_or1 (pt_cmpR op_ne (pe_slice sl_str (pv 1) (po_some (pv 5)) (po_some (pe_op op_add (pv 5) (pe_callB call_len_str (by rfl) B.len PySem.boot_len (pa_cons (pv 8) pa_nil))))) (pv 8) (nomark _)))))
        (pss_one (ps_ret pe_non)) pss_nil)
      (pss_one (ps_ret (pe_op op_add_str (pe_op op_add_str (pe_slice sl_str (pv 1) po_none (po_some (pv 5))) (pv 9)) (pe_slice sl_str (pv 1) (po_some (pe_op op_add (pv 5) (pe_callB call_len_str (by rfl) B.len PySem.boot_len (pa_cons (pv 8) pa_nil)))) po_none)))), ?_⟩
  intro D H1 l o nw a y0 y2 y3 y4 y6 y7 hl ho hn ha q
  have ab := asc_le (w := l) (by omega)
  have ao := asc_le (w := o) (by omega)
  refine ⟨_, rfl, _, rfl, _, rfl, ab, a, 0, _, rfl, ha, _, rfl, ?_⟩
  rw [tx_len]
  cases hi : inR a 0 (l.length : Nat) with
  | false =>
    rw [hi] at q
    exact iteT (iteT q)
  | true =>
    rw [hi] at q
    refine iteF ?_
    obtain ⟨k, rfl, hk⟩ := inR_nat hi
    have q : D.rt (vO (if (true && decide ((l.drop k).take o.length = o)) = true then some (l.take k ++ nw ++ l.drop (k + o.length)) else none)) H1 := q
    have ec : cutS (SX.S l) (some (k : Int)) (some ((k : Int) + ((SX.S o).length : Nat))) = SX.S ((l.drop k).take o.length) := by
      rw [tx_len]
      exact cut_mid l k o.length
    have e1 : (k : Int) + ((SX.S o).length : Nat) = ((k + o.length : Nat) : Int) := by rw [tx_len]; omega
    refine ⟨_, rfl, _, rfl, _, rfl, _, rfl, _, rfl, _, rfl, ao, _, _, rfl, rfl, _, rfl, _, rfl, ab, ?_⟩
    rw [ec]
    by_cases he : (l.drop k).take o.length = o
    · rw [decide_eq_true he] at q
      refine ⟨_, rfl, rfl, false, congrArg V.bl (show (!decide (tx ((l.drop k).take o.length) = tx o)) = false by rw [decide_eq_true (by rw [he])]; rfl), iteF ?_⟩
      have tl : (l.take k).length ≤ 100 := by rw [List.length_take]; omega
      have dl : (l.drop (k + o.length)).length ≤ 100 := by rw [List.length_drop]; omega
      refine ⟨_, rfl, _, rfl, _, rfl, _, rfl, ab, ?_⟩
      rw [cut_to]
      refine ⟨_, rfl, _, _, rfl, rfl, cl2 (by omega), ?_⟩
      rw [SX.S_cat]
      refine ⟨_, rfl, _, rfl, _, rfl, _, rfl, ao, _, _, rfl, rfl, _, rfl, _, rfl, ab, ?_⟩
      dsimp only
      rw [e1, cut_from]
      refine ⟨_, _, rfl, rfl, cl2 (by rw [List.length_append]; omega), ?_⟩
      rw [SX.S_cat]
      exact q
    · rw [decide_eq_false he] at q
      refine ⟨_, rfl, rfl, true, congrArg V.bl (show (!decide (tx ((l.drop k).take o.length) = tx o)) = true by rw [decide_eq_false (fun h => he (by injection h with h; exact SX.S_inj h))]; rfl), iteT q⟩
theorem ok_br {f fN fl fR C CT : Addr} {fd fdN fdl fdR : FuncData} (F : Fun K "behind_rule" "behind_rule" sBR f fd) (B : Bn mg) (TC : TwC K C) (LT : LnT P w K mg base C CT fl fdl) (MR : Meth K C "rules" fR) (GR : FnOk P w K mg base CX0 1 fR fdR ["self"] (spTR C CT)) (bR : Binds K fdR ["self"] [])
    (cN : KT.Cb P w K mg base CX0 2 "is_number_from" ["value", "low", "high"] spNumFV fN fdN) : FnOk P w K mg base CX0 3 f fd ["town", "word", "rest"] (spBR C CT) := by
  refine F.ok scBR (fun vs H Q E h => ?_) (fun cdv A outer s H vs Q E hr h => ?_)
  · obtain ⟨x, q, p, L, rs, l, n, g, a, rfl, _⟩ := h
    rfl
  · obtain ⟨x, q, p, L, rs, l, n, g, a, rfl, tn, hok, hl, hp, hn, hg, ha, qq⟩ := h
    have r1 : Room 1 (A.deeper (envOfC "behind_rule" (defScope sBR) s.heap.objs.size f cdv)) := hr.mono (by decide)
    obtain ⟨tt, PT, RT⟩ := br_tail (P := P) (w := w) (K := K) (base := base) (f := f) (cdv := cdv) (A := A) (outer := outer) (s := s) (H := H) (E := E) B cN hr
    refine ⟨_, pss_cons (ps_asg (pv 2) (pg_unl rfl (pgs_cons (pg_name (i := 3) scBR.nd rfl (.inl rfl)) (pgs_cons (pg_name (i := 4) scBR.nd rfl (.inl rfl)) (pgs_cons (pg_name (i := 5) scBR.nd rfl (.inl rfl)) pgs_nil)))))
      (pss_cons (ps_if (PW.pt (pw_or (pt_not (pt_val (pe_call cN.ok hr (by rfl) cN.g cN.kp cN.b .nil pass0 (pa_cons (pv 3) (pa_cons pe_int (pa_cons (pe_op op_sub (pe_callB (Rs.call_lenI LT.G LT.f LT.i LT.b pass0 hr) (by rfl) B.len PySem.boot_len (pa_cons (pv 0) pa_nil)) pe_int) pa_nil))))))
          (pw_or1 (pt_not (pt_val (pe_callB call_isi (by rfl) B.isinst boot_isinstance (pa_cons (pv 4) (pa_cons (pe_bltn (v := .ty "bool") (by rfl) B.bool PyProof.Rows.boot_bool rfl) pa_nil))))))))
        (pss_one (ps_ret pe_non)) pss_nil)
      (pss_cons (ps_asg (pe_ix ix_list (pe_meth0 (pv 0) TC.cl MR GR r1 bR .nil pass0) (pv 3) (fun _ _ => rfl)) (pg_tup rfl (pgs_cons (pg_name (i := 6) scBR.nd rfl (.inl rfl)) (pgs_cons (pg_name (i := 7) scBR.nd rfl (.inl rfl)) pgs_nil))))
      (pss_cons (ps_asg (pe_ifExp (pt_val (pv 4)) (pe_tup (pa_cons (pv 6) (pa_cons (pv 7) pa_nil))) (pe_tup (pa_cons (pv 7) (pa_cons (pv 6) pa_nil)))) (pg_tup rfl (pgs_cons (pg_name (i := 8) scBR.nd rfl (.inl rfl)) (pgs_cons (pg_name (i := 9) scBR.nd rfl (.inl rfl)) pgs_nil))))
      PT))), ?_⟩
    obtain ⟨dx, t, hx⟩ := tn.ins
    have ab := asc_le (w := l) (by omega)
    have h6 := tn.sz
    refine ⟨_, rfl, p, _, rfl, SqL.of hp, rfl, _, _, rfl, _, _, rfl, _, _, rfl, rfl, ?_⟩
    refine ⟨_, rfl, _, rfl, x, dx, _, rfl, hx, x, q, L, rs, rfl, tn, rs.length, rfl, by omega, _, _, rfl, rfl, n, 0, _, rfl, hn, _, rfl, ?_⟩
    unfold bRule at qq
    have el : (wds rs).length = rs.length := List.length_map _
    rw [el] at qq
    cases hi : inR n 0 ((rs.length : Nat) - 1) with
    | false =>
      rw [hi] at qq
      exact iteT (iteT (qq H (Same.refl _)))
    | true =>
      rw [hi] at qq
      refine iteF ?_
      cases hg with
      | int i => exact ⟨_, rfl, _, _, _, _, false, rfl, .ty _, .base (.int i), kit_ty (by decide +kernel), _, rfl, iteT (qq H (Same.refl _))⟩
      | str l2 _ _ => exact ⟨_, rfl, _, _, _, _, false, rfl, .ty _, .base (.str _), kit_ty (by decide +kernel), _, rfl, iteT (qq H (Same.refl _))⟩
      | bl b =>
        refine ⟨_, rfl, _, _, _, _, true, rfl, .ty _, .base (.bl b), kit_ty (by decide +kernel), _, rfl, iteF ?_⟩
        obtain ⟨k, rfl, hk⟩ := inR_nat hi
        have hk2 : k < rs.length := by omega
        have gl : rs[k]? = some rs[k] := List.getElem?_eq_getElem hk2
        have hm : rs[k] ∈ rs := List.getElem_mem hk2
        have gd : (wds rs).getD k [] = rs[k].2 := by
          rw [List.getD_eq_getElem?_getD, List.getElem?_map, gl]
          rfl
        have tr := tn.row _ hm
        have hok1 := hok _ (List.mem_map.mpr ⟨_, hm, rfl⟩)
        have hat : atI (rfs rs) ((k : Nat) : Int) = some (.ref rs[k].1) := by
          refine atI_nat ?_
          rw [List.getElem?_map, gl]
          rfl
        have qq : ∀ H', Same H H' → Q (vO (if (inR a 0 (l.length : Nat) && decide ((l.drop (toN a)).take (oldS ((wds rs).getD k []) (.bl b)).length = oldS ((wds rs).getD k []) (.bl b))) = true then some (l.take (toN a) ++ newS ((wds rs).getD k []) (.bl b) ++ l.drop (toN a + (oldS ((wds rs).getD k []) (.bl b)).length)) else none)) H' := qq
        rw [gd] at qq
        generalize rs[k] = r at gl hm tr hok1 hat qq
        obtain ⟨r0, ws⟩ := r
        obtain ⟨u, v, rfl, hu, hv, _, _⟩ := okR_two hok1
        have tr : H r0 = some (.tup [tx u, tx v]) := tr
        refine ⟨_, rfl, x, dx, _, rfl, hx, rfl, x, q, L, rs, rfl, tn, fun lr nlr => ?_⟩
        have s1 := same_new (o := .lst (rfs rs)) nlr
        refine ⟨_, rfl, lr, _, _, _, rfl, rfl, SqL.of upd_same, hat, r0, _, rfl, SqT.of (s1 _ _ tr), rfl, _, _, rfl, _, _, rfl, rfl, ?_⟩
        have h1 : H lr = none := nlr
        have s2 : ∀ {p2 : Addr} {o : HO}, (upd H lr (.lst (rfs rs))) p2 = none → Same H (upd (upd H lr (.lst (rfs rs))) p2 o) := fun np2 => s1.trans (same_new np2)
        refine ⟨_, rfl, _, rfl, ?_⟩
        cases b with
        | true =>
          refine iteT ⟨_, rfl, _, rfl, (by show 2 ≤ sizeLine; decide), fun p2 np2 => ⟨p2, _, rfl, SqT.of upd_same, rfl, _, _, rfl, _, _, rfl, rfl, ?_⟩⟩
          exact RT _ _ l u v a _ _ _ _ _ _ hl hu hv ha (qq _ (s2 np2))
        | false =>
          refine iteF ⟨_, rfl, _, rfl, (by show 2 ≤ sizeLine; decide), fun p2 np2 => ⟨p2, _, rfl, SqT.of upd_same, rfl, _, _, rfl, _, _, rfl, rfl, ?_⟩⟩
          exact RT _ _ l v u a _ _ _ _ _ _ hl hv hu ha (qq _ (s2 np2))
end
end K31
set_option maxRecDepth 100000
set_option maxHeartbeats 4000000
/-! behind_swap -/
namespace K31
open PySem PySem.Spec PyProof.Rows L2 KA
def teN : TE := tAndV (tCall spNumV [] E0 (tCons (tVar 8) tNil)) (tOp (rI0 fun i j => .bl (decide (j ≤ i))) (tVar 8) (tC (.int 0)))
theorem isW_take {l L : List Nat} (h : isW l L = true) {m : List Nat} (s : ∀ c ∈ m, c ∈ l) : isW m L = true := by
  refine List.all_eq_true.mpr fun c hc => List.all_eq_true.mp h c (s c hc)
theorem nn_nat {v : V} (h : nn v = true) : ∃ n : Nat, v = .int ((n : Nat) : Int) := by
  cases v with
  | int i =>
    have h2 : (0 : Int) ≤ i := of_decide_eq_true h
    exact ⟨i.toNat, by congr 1; omega⟩
  | _ => cases h
section
variable {P : Program} {w : World} {K : PySem.W.Frag} {mg : Str → Option Value} {base : Heap}
theorem ok_bs {f fN fC C CT CW : Addr} {fd fdN fdC : FuncData} (F : Fun K "behind_swap" "behind_swap" sBS f fd) (B : Bn mg) (TC : TwC K C) (cN : KT.Cb P w K mg base CX0 1 "is_number" ["value"] spNumV fN fdN) (MC : Meth K C "comes_round" fC) (GC : FnOk P w K mg base (L2.CX P w) 5 fC fdC ["self", "word"] (spCR C CT CW)) (bC : Binds K fdC ["self", "word"] []) :
    FnOk P w K mg base (L2.CX P w) 6 f fd ["town", "word", "rest"] (spBS C CT CW) := by
  refine F.okX scBS (fun vs H Q E h => ?_) (fun cdv A outer s H vs Q E hr h => ?_)
  · obtain ⟨x, q, p, L, rs, l, R, a, g, z, rfl, _⟩ := h
    rfl
  · obtain ⟨x, q, p, L, rs, l, R, a, g, z, rfl, tn, nr, gL, hl, hw, hp, ha, hg, hz, qq⟩ := h
    have r1 : Room 1 (A.deeper (envOfC "behind_swap" (defScope sBS) s.heap.objs.size f cdv)) := hr.mono (by decide)
    refine ⟨_, pss_cons (ps_asg (pv 2) (pg_unl rfl (pgs_cons (pg_name (i := 3) scBS.nd rfl (.inl rfl)) (pgs_cons (pg_name (i := 4) scBS.nd rfl (.inl rfl)) (pgs_cons (pg_name (i := 5) scBS.nd rfl (.inl rfl)) pgs_nil)))))
      (pss_cons (ps_if (PW.pt (pw_or (pt_not (pt_val (pe_callB (cr_all rfl) (by rfl) B.all boot_all (pa_cons (pe_lc (own := [("value", 8)]) (g := gName 8) (tt := tYes) (te := teN) rfl scBS.nd (pi_list (pv 2))
            (blkOk_by (N := NBS) (sc := defScope sBS) (by decide +kernel)) (fun _ _ _ _ _ => pg_name (i := 8) scBS.nd rfl (Or.inl rfl)) (fun _ _ _ _ _ => pts_nil)
            (fun _ _ _ _ _ => pe_and (pe_call cN.ok r1 (by rfl) cN.g cN.kp cN.b .nil pass0 (pa_cons (pv 8) pa_nil)) (pe_one (pe_cmpR op_ge (pv 8) pe_int (nomark _))))) pa_nil))))
          (pw_or1 (pt_cmpR op_gt (pe_op op_add (pe_op op_add (pv 3) (pv 4)) (pv 5)) (pe_callB call_len_str (by rfl) B.len PySem.boot_len (pa_cons (pv 1) pa_nil)) (nomark _)))))
        (pss_one (ps_ret pe_non)) pss_nil)
      (pss_cons (ps_par (i := 6) (j := 7) (by rfl) scBS.nd rfl rfl (by decide) rfl rfl (pa_cons (pe_slice sl_str (pv 1) (po_some (pv 3)) (po_some (pe_op op_add (pv 3) (pv 4)))) (pa_cons (pe_slice sl_str (pv 1) (po_some (pe_op op_add (pv 3) (pv 4))) (po_some (pe_op op_add (pe_op op_add (pv 3) (pv 4)) (pv 5)))) pa_nil)) (by rfl))
      (pss_cons (ps_if (PW.pt (pw_or (pt_not (pt_val (pe_meth (pv 0) TC.cl MC GC hr bC .nil (passN rfl rfl) (pa_cons (pv 6) pa_nil)))) (pw_or1 (pt_not (pt_val (pe_meth (pv 0) TC.cl MC GC hr bC .nil (passN rfl rfl) (pa_cons (pv 7) pa_nil)))))))
        (pss_one (ps_ret pe_non)) pss_nil)
      (pss_one (ps_ret (pe_op op_add_str (pe_op op_add_str (pe_op op_add_str (pe_slice sl_str (pv 1) po_none (po_some (pv 3))) (pv 7)) (pv 6)) (pe_slice sl_str (pv 1) (po_some (pe_op op_add (pe_op op_add (pv 3) (pv 4)) (pv 5))) po_none))))))), ?_⟩
    obtain ⟨dx, t, hx⟩ := tn.ins
    have ab := asc_le (w := l) (by omega)
    refine ⟨_, rfl, p, _, rfl, SqL.of hp, rfl, _, _, rfl, _, _, rfl, _, _, rfl, rfl, ?_⟩
    refine ⟨_, rfl, p, rfl, ⟨_, SqL.of hp⟩, fun D nD => ?_⟩
    refine KT.lc_sel (rs := [a, g, z]) (e := id) (out := fun v => V.bl (nn v)) (by rw [List.map_id]; exact walk_list (K := K) (a := p)) (tt := tYes) (te := teN) (i := 8) (fun _ => true) (small1000 (by show 3 ≤ 1000; decide)) nD (fun H2 s2 => SqL.of (s2 _ _ hp)) (fun x H2 Q _ _ h => h) ?_ ?_
    · intro v H2 Q2 hv _ s2 hQ
      have fv : Fv v := by
        have : v = a ∨ v = g ∨ v = z := by simpa using hv
        rcases this with rfl | rfl | rfl
        · exact ha
        · exact hg
        · exact hz
      refine ⟨_, rfl, v, rfl, fv, ?_⟩
      cases fv with
      | int i => exact ⟨true, rfl, iteT ⟨_, rfl, _, _, rfl, rfl, hQ H2 (Same.refl _)⟩⟩
      | bl b => exact ⟨false, rfl, iteF (hQ H2 (Same.refl _))⟩
      | str m _ _ => exact ⟨false, rfl, iteF (hQ H2 (Same.refl _))⟩
    intro H2 s2 hD
    rw [List.filter_eq_self.mpr (by simp)] at hD
    refine ⟨D, [nn a, nn g, nn z], rfl, SqL.of hD, _, rfl, ?_⟩
    have ea : ([nn a, nn g, nn z].all id) = (nn a && (nn g && nn z)) := by simp
    rw [ea]
    unfold bSwap at qq
    cases hn : (nn a && (nn g && nn z)) with
    | false =>
      rw [hn] at qq
      exact iteT (iteT (qq H2 s2))
    | true =>
      rw [hn] at qq
      refine iteF ?_
      obtain ⟨na, ngz⟩ := He.ba hn
      obtain ⟨ng, nz⟩ := He.ba ngz
      obtain ⟨n, rfl⟩ := nn_nat na
      obtain ⟨m, rfl⟩ := nn_nat ng
      obtain ⟨k, rfl⟩ := nn_nat nz
      have qq : ∀ H', Same H H' → Q (vO (if (true && decide (n + m + k ≤ l.length)) = true then (if crb R L ((l.drop n).take m) && crb R L ((l.drop (n + m)).take k) then some (l.take n ++ (l.drop (n + m)).take k ++ (l.drop n).take m ++ l.drop (n + m + k)) else none) else none)) H' := qq
      refine ⟨_, rfl, _, rfl, _, _, rfl, rfl, _, rfl, _, _, rfl, rfl, _, rfl, _, rfl, ab, _, _, rfl, rfl, _, rfl, ?_⟩
      rw [tx_len]
      by_cases h1 : n + m + k ≤ l.length
      · rw [decide_eq_true h1] at qq
        rw [decide_eq_false (show ¬ ((n : Int) + (m : Int) + (k : Int) > (l.length : Nat)) by omega)]
        refine iteF ?_
        have e1 : (n : Int) + (m : Int) = ((n + m : Nat) : Int) := by omega
        have c1 : cutS (SX.S l) (some (n : Int)) (some ((n : Int) + (m : Int))) = SX.S ((l.drop n).take m) := cut_mid l n m
        have c2 : cutS (SX.S l) (some ((n : Int) + (m : Int))) (some ((n : Int) + (m : Int) + (k : Int))) = SX.S ((l.drop (n + m)).take k) := by
          rw [e1]
          exact cut_mid l (n + m) k
        refine ⟨_, rfl, _, rfl, _, rfl, _, rfl, _, rfl, _, _, rfl, rfl, _, rfl, _, rfl, ab, ?_⟩
        rw [c1]
        refine ⟨_, rfl, _, rfl, _, rfl, _, _, rfl, rfl, _, rfl, _, rfl, _, rfl, _, _, rfl, rfl, _, rfl, _, _, rfl, rfl, _, rfl, _, rfl, ab, ?_⟩
        rw [c2]
        refine ⟨_, _, rfl, ?_⟩
        have w1 : isW ((l.drop n).take m) L = true := isW_take hw fun c hc => List.mem_of_mem_drop (List.mem_of_mem_take hc)
        have w2 : isW ((l.drop (n + m)).take k) L = true := isW_take hw fun c hc => List.mem_of_mem_drop (List.mem_of_mem_take hc)
        have l1 : ((l.drop n).take m).length ≤ 100 := by rw [List.length_take, List.length_drop]; omega
        have l2 : ((l.drop (n + m)).take k).length ≤ 100 := by rw [List.length_take, List.length_drop]; omega
        have hx2 := s2 _ _ hx
        refine ⟨_, rfl, x, dx, _, rfl, hx2, rfl, _, rfl, x, q, L, rs, _, R, rfl, tn.same s2, nr, gL, by omega, w1, fun H3 s3 => ⟨_, rfl, ?_⟩⟩
        cases b1 : crb R L ((l.drop n).take m) with
        | false =>
          rw [b1] at qq
          exact iteT (iteT (qq H3 (s2.trans s3)))
        | true =>
          rw [b1] at qq
          refine iteF ?_
          refine ⟨_, rfl, x, dx, _, rfl, s3 _ _ hx2, rfl, _, rfl, x, q, L, rs, _, R, rfl, (tn.same s2).same s3, nr, gL, by omega, w2, fun H4 s4 => ⟨_, rfl, ?_⟩⟩
          cases b2 : crb R L ((l.drop (n + m)).take k) with
          | false =>
            rw [b2] at qq
            exact iteT (qq H4 ((s2.trans s3).trans s4))
          | true =>
            rw [b2] at qq
            refine iteF ?_
            have t1 : (l.take n).length ≤ 100 := by rw [List.length_take]; omega
            have t2 : (l.drop (n + m + k)).length ≤ 100 := by rw [List.length_drop]; omega
            refine ⟨_, rfl, _, rfl, _, rfl, _, rfl, ab, ?_⟩
            rw [cut_to]
            refine ⟨_, rfl, _, _, rfl, rfl, cl2 (by omega), ?_⟩
            rw [SX.S_cat]
            refine ⟨_, rfl, _, _, rfl, rfl, cl2 (by rw [List.length_append]; omega), ?_⟩
            rw [SX.S_cat]
            refine ⟨_, rfl, _, rfl, _, rfl, _, _, rfl, rfl, _, rfl, _, _, rfl, rfl, _, rfl, _, rfl, ab, ?_⟩
            dsimp only
            rw [show (n : Int) + (m : Int) + (k : Int) = ((n + m + k : Nat) : Int) by omega, cut_from]
            refine ⟨_, _, rfl, rfl, cl2 (by rw [List.length_append, List.length_append]; omega), ?_⟩
            rw [SX.S_cat]
            exact qq H4 ((s2.trans s3).trans s4)
      · rw [decide_eq_false h1] at qq
        rw [decide_eq_true (show ((n : Int) + (m : Int) + (k : Int) > (l.length : Nat)) by omega)]
        exact iteT (qq H2 s2)
end
end K31
set_option maxRecDepth 100000
set_option maxHeartbeats 4000000
/-! word_behind, applied -/
namespace K31
open PySem PySem.Spec PyProof.Rows L2 KA
abbrev sWB : Stmt := top 27
abbrev sApp : Stmt := top 46
theorem scWB : FnScope ["town", "word", "step", "kind", "rest"] ["town", "word", "step"] (defScope sWB) := ⟨rfl, rfl, rfl, by decide +kernel, rfl, by decide +kernel, by decide +kernel⟩
theorem scApp : FnScope ["town", "word", "step", "behind"] ["town", "word", "step"] (defScope sApp) := ⟨rfl, rfl, rfl, by decide +kernel, rfl, by decide +kernel, by decide +kernel⟩
/-- what a step's word behind it asks of a town and a word -/
structure Wel (C CT : Addr) (H : Hp) (x q : Addr) (L : List Nat) (rs : Rls) (R : List (List Int)) : Prop where
  tn : Tn C CT H x L q rs
  nr : NRf L (wds rs) R
  gL : GoodL L
  ok : ∀ r ∈ wds rs, okR L r = true
theorem Wel.same {C CT : Addr} {H H' : Hp} {x q : Addr} {L : List Nat} {rs : Rls} {R : List (List Int)} (h : Wel C CT H x q L rs R) (s : Same H H') : Wel C CT H' x q L rs R := ⟨h.tn.same s, h.nr, h.gL, h.ok⟩
def spWd (C CT : Addr) : Sp := fun vs H Q _ => ∃ (x q ps : Addr) (L : List Nat) (rs : Rls) (R : List (List Int)) (l : List Nat) (st : List V), vs = [.ref x, tx l, .ref ps] ∧ Wel C CT H x q L rs R ∧ l.length ≤ 100 ∧ isW l L = true ∧ H ps = some (.tup st) ∧ (∀ v ∈ st, Fv v) ∧ st.length ≤ 100 ∧ ∀ H', Same H H' → Q (vO (bh R L (wds rs) l st)) H'
/-- applied: a word that is one, or the error for one that is none -/
def spAp (C CT CW CS : Addr) : Sp := fun vs H Q E => ∃ (x q ps : Addr) (L : List Nat) (rs : Rls) (R : List (List Int)) (l : List Nat) (st : List V), vs = [.ref x, tx l, .ref ps] ∧ Wel C CT H x q L rs R ∧ l.length ≤ 100 ∧ H ps = some (.tup st) ∧ (∀ v ∈ st, Fv v) ∧ st.length ≤ 100 ∧
  (isW l L = false → Fl CW tagW "at" (.int ((0 : Nat) : Int)) H E) ∧ (isW l L = true → bh R L (wds rs) l st = none → Fl CS tagS "at" (.int 0) H E) ∧ (isW l L = true → ∀ m, bh R L (wds rs) l st = some m → ∀ H', Same H H' → Q (tx m) H')
theorem isW_asc {l L : List Nat} (hL : Lt L) (h : isW l L = true) : Asc l := fun c hc => sg_up hL (by
  have z := List.all_eq_true.mp h c hc
  exact of_decide_eq_true z)
theorem fv_scal {k : V} (h : Fv k) (s : Str) : scal k (.str s) = true := by cases h <;> rfl
theorem lenI {n : Nat} {α : Type} {l : List α} : decide (V.int (l.length : Nat) = V.int (n : Nat)) = decide (l.length = n) := by
  by_cases h : l.length = n
  · rw [decide_eq_true h, decide_eq_true (by rw [h])]
  · rw [decide_eq_false h, decide_eq_false (fun z => h (by injection z with z; omega))]
theorem kind_t {K : PySem.W.Frag} {H : Hp} {y0 y1 y2 : Option V} {k : V} {p : Addr} {rest : List V} {s : Str} {n : Nat} {Q : Bool → Hp → Prop} (fv : Fv k) (hq : SqL K H p rest) (q : Q (decide (k = .str s ∧ rest.length = n)) H) :
    tAnd (tTest (tOp rEq (tVar 3) (tC (.str s)))) (tTest (tOp rEq (tCB (fun xs H Q => ∃ p ys, xs = [.ref p] ∧ (SqL K H p ys ∨ SqT K H p ys) ∧ Q (.int ys.length) H) (tCons (tVar 4) tNil)) (tC (.int (n : Nat))))) [y0, y1, y2, some k, some (.ref p)] H Q := by
  by_cases h1 : k = .str s
  · refine ⟨_, rfl, fv_scal fv s, true, congrArg V.bl (decide_eq_true h1), iteT ⟨_, rfl, p, rest, rfl, .inl hq, rfl, _, congrArg V.bl lenI, ?_⟩⟩
    have e : decide (k = .str s ∧ rest.length = n) = decide (rest.length = n) := decide_eq_decide.mpr ⟨fun h => h.2, fun h => ⟨h1, h⟩⟩
    rw [← e]
    exact q
  · refine ⟨_, rfl, fv_scal fv s, false, congrArg V.bl (decide_eq_false h1), iteF ?_⟩
    rw [decide_eq_false (fun h => h1 h.1)] at q
    exact q
section
variable {P : Program} {w : World} {K : PySem.W.Frag} {mg : Str → Option Value} {base : Heap}
theorem ok_wbh {f fP fD fR fS C CT CW : Addr} {fd fdP fdD fdR fdS : FuncData} (F : Fun K "word_behind" "word_behind" sWB f fd) (B : Bn mg) (cP : KT.Cb P w K mg base CX0 4 "behind_put" ["town", "word", "rest"] (spBP C CT) fP fdP) (cD : KT.Cb P w K mg base CX0 3 "behind_drop" ["word", "rest"] spBD fD fdD)
    (cR : KT.Cb P w K mg base CX0 3 "behind_rule" ["town", "word", "rest"] (spBR C CT) fR fdR) (cS : KT.Cb P w K mg base (L2.CX P w) 6 "behind_swap" ["town", "word", "rest"] (spBS C CT CW) fS fdS) : FnOk P w K mg base (L2.CX P w) 7 f fd ["town", "word", "step"] (spWd C CT) := by
  refine F.okX scWB (fun vs H Q E h => ?_) (fun cdv A outer s H vs Q E hr h => ?_)
  · obtain ⟨x, q, ps, L, rs, R, l, st, rfl, _⟩ := h
    rfl
  · obtain ⟨x, q, ps, L, rs, R, l, st, rfl, we, hl, hw, hp, fv, hs, qq⟩ := h
    have r6 : Room 6 (A.deeper (envOfC "word_behind" (defScope sWB) s.heap.objs.size f cdv)) := hr.mono (by decide)
    have r4 : Room 4 (A.deeper (envOfC "word_behind" (defScope sWB) s.heap.objs.size f cdv)) := hr.mono (by decide)
    have r3 : Room 3 (A.deeper (envOfC "word_behind" (defScope sWB) s.heap.objs.size f cdv)) := hr.mono (by decide)
    refine ⟨_, pss_cons (ps_if (pt_cmpR op_eq (pe_callB call_len_seq (by rfl) B.len PySem.boot_len (pa_cons (pv 2) pa_nil)) pe_int (nomark _)) (pss_one (ps_ret pe_non)) pss_nil)
      (pss_cons (ps_asg (pv 2) (Rs.pg_starT rfl (pgs_cons (pg_name (i := 3) scWB.nd rfl (.inl rfl)) (Rs.pgs_st (pg_name (i := 4) scWB.nd rfl (.inl rfl)) pgs_nil))))
      (pss_cons (ps_if (PW.pt (pw_and (pt_cmpR op_eq (pv 3) pe_str (nomark _)) (pw_and1 (pt_cmpR op_eq (pe_callB call_len_seq (by rfl) B.len PySem.boot_len (pa_cons (pv 4) pa_nil)) pe_int (nomark _)))))
        (pss_one (ps_ret (pe_call cP.ok r4 (by rfl) cP.g cP.kp cP.b .nil pass0 (pa_cons (pv 0) (pa_cons (pv 1) (pa_cons (pv 4) pa_nil)))))) pss_nil)
      (pss_cons (ps_if (PW.pt (pw_and (pt_cmpR op_eq (pv 3) pe_str (nomark _)) (pw_and1 (pt_cmpR op_eq (pe_callB call_len_seq (by rfl) B.len PySem.boot_len (pa_cons (pv 4) pa_nil)) pe_int (nomark _)))))
        (pss_one (ps_ret (pe_call cD.ok r3 (by rfl) cD.g cD.kp cD.b .nil pass0 (pa_cons (pv 1) (pa_cons (pv 4) pa_nil))))) pss_nil)
      (pss_cons (ps_if (PW.pt (pw_and (pt_cmpR op_eq (pv 3) pe_str (nomark _)) (pw_and1 (pt_cmpR op_eq (pe_callB call_len_seq (by rfl) B.len PySem.boot_len (pa_cons (pv 4) pa_nil)) pe_int (nomark _)))))
        (pss_one (ps_ret (pe_call cR.ok r3 (by rfl) cR.g cR.kp cR.b .nil pass0 (pa_cons (pv 0) (pa_cons (pv 1) (pa_cons (pv 4) pa_nil)))))) pss_nil)
      (pss_cons (ps_if (PW.pt (pw_and (pt_cmpR op_eq (pv 3) pe_str (nomark _)) (pw_and1 (pt_cmpR op_eq (pe_callB call_len_seq (by rfl) B.len PySem.boot_len (pa_cons (pv 4) pa_nil)) pe_int (nomark _)))))
        (pss_one (ps_ret (pe_call cS.ok r6 (by rfl) cS.g cS.kp cS.b .nil (passN rfl rfl) (pa_cons (pv 0) (pa_cons (pv 1) (pa_cons (pv 4) pa_nil)))))) pss_nil)
      (pss_one (ps_ret pe_non))))))), ?_⟩
    have hLt := good_lt' we.gL
    have hA := isW_asc hLt hw
    refine ⟨_, rfl, ps, st, rfl, .inr (SqT.of hp), rfl, ?_⟩
    cases st with
    | nil => exact ⟨true, congrArg V.bl (decide_eq_true rfl), iteT (qq H (Same.refl _))⟩
    | cons k rest =>
      refine ⟨false, congrArg V.bl (decide_eq_false (fun z => by injection z with z; rw [List.length_cons] at z; omega)), iteF ⟨_, rfl, ps, k, rest, rfl, SqT.of hp, fun p np => ⟨_, _, rfl, _, _, rfl, rfl, ?_⟩⟩⟩
      have fk : Fv k := fv k List.mem_cons_self
      have fr : ∀ v ∈ rest, Fv v := fun v hv => fv v (List.mem_cons_of_mem _ hv)
      have s1 : Same H (upd H p (.lst rest)) := same_new np
      have hp1 : (upd H p (.lst rest)) p = some (.lst rest) := upd_same
      have we1 := we.same s1
      generalize upd H p (.lst rest) = H1 at s1 hp1 we1
      have hq1 : SqL K H1 p rest := SqL.of hp1
      have q1 : ∀ H', Same H1 H' → Q (vO (bh R L (wds rs) l (k :: rest))) H' := fun H' s' => qq H' (s1.trans s')
      have eb : bh R L (wds rs) l (k :: rest) = (if k = kPut ∧ rest.length = 2 then bPut L l (rest.getD 0 .non) (rest.getD 1 .non)
    else if k = kDrop ∧ rest.length = 1 then bDrop l (rest.getD 0 .non)
    else if k = kRule ∧ rest.length = 3 then bRule (wds rs) l (rest.getD 0 .non) (rest.getD 1 .non) (rest.getD 2 .non)
    else if k = kSwap ∧ rest.length = 3 then bSwap R L l (rest.getD 0 .non) (rest.getD 1 .non) (rest.getD 2 .non)
    else none) := rfl
      rw [eb] at q1
      refine kind_t fk hq1 ?_
      by_cases c1 : k = kPut ∧ rest.length = 2
      · rw [if_pos c1] at q1
        rw [decide_eq_true c1]
        match rest, c1.2 with
        | [a, z], _ => exact iteT ⟨_, rfl, _, rfl, _, rfl, x, q, p, L, rs, l, a, z, rfl, we1.tn, hLt, hl, hA, hp1, fr a (by simp), fr z (by simp), fun H' s' => q1 H' s'⟩
      rw [if_neg c1] at q1
      rw [decide_eq_false c1]
      refine iteF ?_
      refine kind_t fk hq1 ?_
      by_cases c2 : k = kDrop ∧ rest.length = 1
      · rw [if_pos c2] at q1
        rw [decide_eq_true c2]
        match rest, c2.2 with
        | [a], _ => exact iteT ⟨_, rfl, _, rfl, p, l, a, rfl, hl, hA, hp1, fr a (by simp), fun H' s' => q1 H' s'⟩
      rw [if_neg c2] at q1
      rw [decide_eq_false c2]
      refine iteF ?_
      refine kind_t fk hq1 ?_
      by_cases c3 : k = kRule ∧ rest.length = 3
      · rw [if_pos c3] at q1
        rw [decide_eq_true c3]
        match rest, c3.2 with
        | [n, g, a], _ => exact iteT ⟨_, rfl, _, rfl, _, rfl, x, q, p, L, rs, l, n, g, a, rfl, we1.tn, we1.ok, hl, hp1, fr n (by simp), fr g (by simp), fr a (by simp), fun H' s' => q1 H' s'⟩
      rw [if_neg c3] at q1
      rw [decide_eq_false c3]
      refine iteF ?_
      refine kind_t fk hq1 ?_
      by_cases c4 : k = kSwap ∧ rest.length = 3
      · rw [if_pos c4] at q1
        rw [decide_eq_true c4]
        match rest, c4.2 with
        | [a, g, z], _ => exact iteT ⟨_, rfl, _, rfl, _, rfl, x, q, p, L, rs, l, R, a, g, z, rfl, we1.tn, we1.nr, we1.gL, hl, hw, hp1, fr a (by simp), fr g (by simp), fr z (by simp), fun H' s' => q1 H' s'⟩
      rw [if_neg c4] at q1
      rw [decide_eq_false c4]
      exact iteF (q1 H1 (Same.refl _))
theorem ok_ap {f fB fK C CT CW CS pm pg fI : Addr} {fd fdB fdK fdg fdI : FuncData} (F : Fun K "applied" "applied" sApp f fd) (B : Bn mg) (TC : TwC K C) (PL : PrL P w K mg base C pm pg fdg) (cB : KT.Cb P w K mg base (L2.CX P w) 7 "word_behind" ["town", "word", "step"] (spWd C CT) fB fdB)
    (cK : KT.Cb P w K mg base (L2.CX P w) 3 "check_words" ["words", "letters"] (spCkW CW) fK fdK) (R : Er P w K mg base "InvalidStep" tagS CS fI fdI) : FnOk P w K mg base (L2.CX P w) 8 f fd ["town", "word", "step"] (spAp C CT CW CS) := by
  refine F.okX scApp (fun vs H Q E h => ?_) (fun cdv A outer s H vs Q E hr h => ?_)
  · obtain ⟨x, q, ps, L, rs, R, l, st, rfl, _⟩ := h
    rfl
  · obtain ⟨x, q, ps, L, rs, RR, l, st, rfl, we, hl, hp, fv, hs, q1, q2, q3⟩ := h
    have r7 : Room 7 (A.deeper (envOfC "applied" (defScope sApp) s.heap.objs.size f cdv)) := hr.mono (by decide)
    have r3 : Room 3 (A.deeper (envOfC "applied" (defScope sApp) s.heap.objs.size f cdv)) := hr.mono (by decide)
    have r2 : Room 2 (A.deeper (envOfC "applied" (defScope sApp) s.heap.objs.size f cdv)) := hr.mono (by decide)
    have pass : Passes (L2.CX P w) (cxOf (L2.CX P w) P w K mg base ["town", "word", "step", "behind"] "applied" (defScope sApp) f cdv A outer s H E) E := passes_call (W := fun cls d _ H => E cls d H) (L2.takes_of rfl rfl rfl rfl) (fun _ _ _ _ h => h)
    refine ⟨_, pss_cons (ps_expr (pe_call cK.ok r3 (by rfl) cK.g cK.kp cK.b .nil pass (pa_cons (pe_lst (pa_cons (pv 1) pa_nil)) (pa_cons (pe_prop (pv 0) TC.cl PL.p PL.G r2 PL.b .nil pass0 rfl) pa_nil))))
      (pss_cons (ps_set (i := 3) scApp.nd rfl (.inl rfl) (pe_call cB.ok r7 (by rfl) cB.g cB.kp cB.b .nil (passN rfl rfl) (pa_cons (pv 0) (pa_cons (pv 1) (pa_cons (pv 2) pa_nil)))))
      (pss_cons (ps_if (pt_cmpR op_isN (pv 3) pe_non (nomark _)) (pss_one (s_raise (E := E) R.T R.G R.b r2 rfl (takes_of rfl rfl rfl rfl) (by rfl) pe_int pass0 c_mono)) pss_nil)
      (pss_one (ps_ret (pv 3))))), ?_⟩
    obtain ⟨dx, t, hx⟩ := we.tn.ins
    have hLt := good_lt' we.gL
    refine ⟨_, rfl, (by show 1 ≤ sizeLine; decide), fun p np => ?_⟩
    have s1 := same_new (o := .lst [tx l]) np
    refine ⟨_, rfl, x, dx, _, rfl, s1 _ _ hx, x, dx, _, _, rfl, s1 _ _ hx, rfl, p, l, L, rfl, upd_same, by omega, hLt, fun hw H2 s2 => ?_, fun hw => (q1 hw).of s1⟩
    have s12 := s1.trans s2
    refine ⟨_, rfl, _, rfl, _, rfl, x, q, ps, L, rs, RR, l, st, rfl, we.same s12, hl, hw, s12 _ _ hp, fv, hs, fun H3 s3 => ?_⟩
    have s13 := s12.trans s3
    cases hb : bh RR L (wds rs) l st with
    | none => exact ⟨_, rfl, rfl, true, rfl, iteT ((q2 hw hb).of s13)⟩
    | some m => exact ⟨_, rfl, rfl, false, rfl, iteF ⟨_, rfl, q3 hw m hb H3 s13⟩⟩
end
end K31
set_option maxRecDepth 100000
set_option maxHeartbeats 4000000
/-! the law's counts, places and grids -/
namespace K31
open PySem PySem.Spec PyProof.Rows L2 KA
/-- [e for x, y in xs], each e a new row -/
theorem lc_rowsP {K : PySem.W.Frag} {α : Type} {rs : List α} {e : α → V} {a b : α → V} {J : It} {G : Hp → Prop} (w : Walk J (rs.map e).length G (YAt (rs.map e))) {te : TE} {σ : L2.St} {i j : Nat} {H1 : Hp} {D : Addr} {Qd : Hp → Prop} (f : α → List Int) (hlen : rs.length < sizeLine) (hD : H1 D = none)
    (hw : ∀ y z, wipe (((wipe σ [i, j]).set i (some y)).set j (some z)) [i, j] = wipe σ [i, j])
    (hG : ∀ H2, Same H1 H2 → G H2) (hp : ∀ x ∈ rs, ∃ q, e x = .ref q ∧ H1 q = some (.tup [a x, b x]))
    (he : ∀ x H2 Q, x ∈ rs → Same H1 H2 → (∀ H3 p, Same H2 H3 → H3 p = some (.tup ((f x).map V.int)) → Q (.ref p) H3) → te (((wipe σ [i, j]).set i (some (a x))).set j (some (b x))) H2 Q)
    (hd : ∀ H2 ys, Same H1 H2 → KT.RL H2 D ys → KT.rw_ ys = rs.map f → Qd H2) :
    ∃ W : Nat → Nat → Hp → Prop, (∃ m, W 0 m (upd H1 D (.lst []))) ∧ ∀ jj m H, W jj m H →
      (J.stop jj H ∧ Qd H) ∨ (J.go jj H ∧ ∃ Nx : Hp → Prop, (∀ H', Nx H' → ∃ m', m' < m ∧ W (jj + 1) m' H') ∧ ∀ x H', J.yld jj H x H' → gTup K 2 (gCons (gName i) (gCons (gName j) gNil)) x (wipe σ [i, j]) H' fun σ2 H2 => wipe σ2 [i, j] = wipe σ [i, j] ∧ tYes σ2 H2 fun b H3 =>
        if b = true then te σ2 H3 fun v H4 => ∃ ac, H4 D = some (.lst ac) ∧ ac.length < sizeLine ∧ Nx (upd H4 D (.lst (ac ++ [v]))) else Nx H3) := by
  refine lc_it w (fun j H2 => Same H1 H2 ∧ ∃ ys, KT.RL H2 D ys ∧ KT.rw_ ys = (rs.take j).map f) ⟨same_new hD, [], ⟨upd_same, fun x hx => nomatch hx⟩, rfl⟩ (fun j H2 _ h => hG H2 h.1) ?_ (fun H2 h => by
    obtain ⟨h1, ys, h2, h3⟩ := h
    rw [List.length_map, List.take_length] at h3
    exact hd H2 ys h1 h2 h3)
  rintro n v H2 H2' hn ⟨sm, ys, hR, hy⟩ ⟨rfl, hx⟩
  rw [List.getElem?_map] at hx
  obtain ⟨x, hx0, rfl⟩ := Option.map_eq_some_iff.mp hx
  have hm : x ∈ rs := List.mem_of_getElem? hx0
  obtain ⟨q, eq, hq⟩ := hp x hm
  refine ⟨q, [a x, b x], eq, SqT.of (sm _ _ hq), rfl, _, _, rfl, _, _, rfl, rfl, hw _ _, ?_⟩
  dsimp only [tYes]
  rw [if_pos rfl]
  refine he x _ _ hm sm fun H3 p s3 hp => ⟨_, s3 _ _ hR.lst, ?_, ?_, ys ++ [(p, f x)], ⟨?_, ?_⟩, ?_⟩
  · have h1 : (KT.rw_ ys).length = ((rs.take n).map f).length := by rw [hy]
    rw [List.length_map, List.length_map, List.length_take] at h1
    rw [List.length_map]
    omega
  · intro b o e
    rw [upd_ne (ne_of_none e hD)]
    exact s3 _ _ (sm _ _ e)
  · rw [upd_same]
    show some (HO.lst (List.map (fun x => V.ref x.1) ys ++ [V.ref p])) = some (HO.lst (List.map (fun x => V.ref x.1) (ys ++ [(p, f x)])))
    rw [List.map_append]
    rfl
  · intro y hy2
    have at3 : KT.RT H3 y := by
      rcases List.mem_append.mp hy2 with h | h
      · exact (hR.row y h).same s3
      · obtain rfl := List.mem_singleton.mp h
        exact hp
    have nD : y.1 ≠ D := by
      intro z
      have h1 : H3 y.1 = some (.tup (y.2.map V.int)) := at3
      rw [z, s3 _ _ hR.lst] at h1
      cases h1
    show upd H3 D _ y.1 = _
    rw [upd_ne nD]
    exact at3
  · have tk := take_more hx0
    rw [tk, List.map_append, ← hy]
    show List.map _ (ys ++ [(p, f x)]) = _
    rw [List.map_append]
    rfl
abbrev sLNum : Stmt := top 89
abbrev sLNamed : Stmt := top 94
abbrev sGrid : Stmt := top 97
abbrev NNm : List Str := ["_law_rows", "_law_counts_now", "_law_row", "_law_at"]
abbrev NGr : List Str := ["_law_rules_now", "_law_letters_here", "_law_gaps", "_law_one", "_law_other"]
theorem scLNum : FnScope ["_law_one", "_law_letters_here", "_law_letter"] ["_law_one", "_law_letters_here"] (defScope sLNum) := ⟨rfl, rfl, rfl, by decide +kernel, rfl, by decide +kernel, by decide +kernel⟩
theorem scLNamed : FnScope NNm ["_law_rows", "_law_counts_now"] (defScope sLNamed) := ⟨rfl, rfl, rfl, by decide +kernel, rfl, by decide +kernel, by decide +kernel⟩
theorem scGrid : FnScope NGr ["_law_rules_now", "_law_letters_here"] (defScope sGrid) := ⟨rfl, rfl, rfl, by decide +kernel, rfl, by decide +kernel, by decide +kernel⟩
/-- rows of a law, that are a town's normal rows -/
structure Rw (H : Hp) (q : Addr) (wd : Nat) (R : List (List Int)) : Prop where
  rl : ∃ fs, KT.RL H q fs ∧ KT.rw_ fs = R
  fd : ∀ r ∈ R, Hm.Fd wd 6 6 wd r
  len : R.length ≤ wd
  w3 : wd ≤ 3
def spNmd : Sp := fun vs H Q _ => ∃ (q : Addr) (x : Addr × List Int) (wd : Nat) (R : List (List Int)), vs = [.ref q, .ref x.1] ∧ Rw H q wd R ∧ KT.RT H x ∧ x.2.length = wd ∧ (∀ y ∈ x.2, y.natAbs < 2 ^ 20) ∧ ∀ H' p, Same H H' → KT.RT H' (p, rdc R x.2) → Q (.ref p) H'
def spGrid : Sp := fun vs H Q _ => ∃ (l : Addr) (L : List Nat) (rs : Rls), vs = [.ref l, tx L] ∧ H l = some (.lst (rfs rs)) ∧ Tws H rs ∧ Lt L ∧ L.length ≤ 3 ∧ rs.length ≤ 6 ∧ (∀ r ∈ wds rs, okR L r = true) ∧ ∀ H' q, Same H H' → (∀ R, NRf L (wds rs) R → ∃ fs, KT.RL H' q fs ∧ KT.rw_ fs = R) → Q (.ref q) H'
section
variable {P : Program} {w : World} {K : PySem.W.Frag} {mg : Str → Option Value} {base : Heap}
theorem ok_lnum {f : Addr} {fd : FuncData} {k : Nat} (F : Fun K "_law_number_of" "_law_number_of" sLNum f fd) (B : Bn mg) : FnOk P w K mg base CX0 (k + 1) f fd ["_law_one", "_law_letters_here"] spCof := by
  refine F.ok scLNum (fun vs H Q E h => ?_) (fun cdv A outer s H vs Q E hr h => ?_)
  · obtain ⟨l, L, rfl, _⟩ := h
    rfl
  · obtain ⟨l, L, rfl, hL, q⟩ := h
    refine ⟨_, pss_one (ps_ret (pe_callTy call_tuple_of (by rfl) B.tuple boot_tuple (pa_cons (pe_lc (own := [("_law_letter", 2)]) (g := gName 2) (tt := tYes) rfl scLNum.nd (pi_str (pv 1))
      (blkOk_by (N := ["_law_one", "_law_letters_here", "_law_letter"]) (sc := defScope sLNum) (by decide +kernel)) (fun _ _ _ _ _ => pg_name (i := 2) scLNum.nd rfl (Or.inl rfl)) (fun _ _ _ _ _ => pts_nil)
      (fun _ _ _ _ _ => pe_op op_sub (pe_m1 PySem.F.slot_str_count PySem.F.type_str_count mt_count (pv 0) (pv 2)) (pe_m1 PySem.F.slot_str_count PySem.F.type_str_count mt_count (pv 0) (pe_upper (pv 2))))) pa_nil))), ?_⟩
    refine ⟨_, rfl, _, rfl, fun D nD => ?_⟩
    refine lc_pure (walk_txt L) (σ := [some (tx l), some (tx L), none]) (i := 2) (fun v => match v with | .str z => .int (Txt.count (SX.S l) z - Txt.count (SX.S l) (Txt.upper z)) | v => v) (fun _ => true) (by rw [List.length_map]; exact small1000 (by have := hL.1; omega)) nD (fun _ _ => trivial) (fun x H2 Q _ _ h => h) ?_ ?_
    · intro x H2 Q hx _ _ h
      obtain ⟨c, hc, rfl⟩ := List.mem_map.mp hx
      exact ⟨_, rfl, ⟨_, rfl⟩, _, rfl, _, _, rfl, rfl, _, rfl, ⟨_, rfl⟩, _, rfl, ⟨_, rfl⟩, _, rfl, rfl, asc1, _, _, rfl, rfl, _, _, rfl, rfl, h H2 (Same.refl _)⟩
    · intro H2 s2 hD
      refine ⟨D, _, rfl, .inl ⟨SqL.of hD, fun p2 np2 => ?_⟩⟩
      have e : ((L.map fun c => tx [c]).filter fun _ => true).map (fun v => match v with | .str z => .int (Txt.count (SX.S l) z - Txt.count (SX.S l) (Txt.upper z)) | v => v) = cn l L := by
        rw [List.filter_eq_self.mpr (by simp), List.map_map]
        refine List.map_congr_left fun c hc => ?_
        show V.int (Txt.count (SX.S l) (SX.S [c]) - Txt.count (SX.S l) (Txt.upper (SX.S [c]))) = _
        rw [upperM (hL.2 c hc)]
      rw [e]
      exact q _ p2 (s2.trans (same_new np2)) (s2.free np2) upd_same
theorem beg_ldx {r : List Int} {a : Nat} (h : Hm.Beg (Hm.fn r) a) (hl : a < r.length) : ldx r = a := ldx_of ⟨hl, h.2, fun m hm => h.1 m hm⟩
theorem ok_lnamed {f fF fL fB : Addr} {fd fdF fdL fdB : FuncData} (F : Fun K "_law_named" "_law_named" sLNamed f fd) (B : KT.Bz mg) (cF : KT.Cb P w K mg base CX0 2 "_law_first_at" ["_law_row"] KT.spFirst fF fdF) (cL : KT.Cb P w K mg base CX0 1 "_law_less" ["_law_one", "_law_other"] KT.spLessL fL fdL) (cB : KT.Cb P w K mg base CX0 1 "_law_by" ["_law_one", "_law_times"] KT.spByL fB fdB) :
    FnOk P w K mg base CX0 3 f fd ["_law_rows", "_law_counts_now"] spNmd := by
  refine F.ok scLNamed (fun vs H Q E h => ?_) (fun cdv A outer s H vs Q E hr h => ?_)
  · obtain ⟨q, x, wd, R, rfl, _⟩ := h
    rfl
  · obtain ⟨q, x, wd, R, rfl, hr2, hx, hxl, hxb, qq⟩ := h
    obtain ⟨fs, hq, eR⟩ := hr2.rl
    have hfd := hr2.fd
    have hw := hr2.w3
    have hfl : fs.length ≤ wd := by
      have z := hr2.len
      rw [← eR, List.length_map] at z
      exact z
    subst eR
    have rr2 : Room 2 (A.deeper (envOfC "_law_named" (defScope sLNamed) s.heap.objs.size f cdv)) := hr.mono (by decide)
    have r1 : Room 1 (A.deeper (envOfC "_law_named" (defScope sLNamed) s.heap.objs.size f cdv)) := hr.mono (by decide)
    refine ⟨_, pss_cons (ps_for PassesOwn.never rfl (pi_list (pv 0)) (pg_name (i := 2) scLNamed.nd rfl (Or.inl rfl))
        (pss_cons (ps_set (i := 3) scLNamed.nd rfl (.inl rfl) (pe_call cF.ok rr2 (by rfl) cF.g cF.kp cF.b .nil pass0 (pa_cons (pv 2) pa_nil)))
        (pss_one (ps_set (i := 1) scLNamed.nd rfl (.inl rfl) (pe_call cL.ok r1 (by rfl) cL.g cL.kp cL.b .nil pass0 (pa_cons (pv 1) (pa_cons (pe_call cB.ok r1 (by rfl) cB.g cB.kp cB.b .nil pass0 (pa_cons (pv 2) (pa_cons (pe_op Rs.op_fdivF (pe_ix ix_tup (pv 1) (pv 3) (fun _ _ => rfl)) (pe_callB (call_max2 rfl) (by rfl) B.max boot_max (pa_cons pe_int (pa_cons (pe_ix ix_tup (pv 2) (pv 3) (fun _ _ => rfl)) pa_nil)))) pa_nil))) pa_nil)))))))
      (pss_one (ps_ret (pv 1))), ?_⟩
    refine ⟨_, rfl, q, rfl, ⟨_, SqL.of hq.lst⟩, ?_⟩
    refine for_it (walk_list (K := K) (a := q) (xs := fs.map fun z => V.ref z.1)) (fun i σ H2 => ∃ (p : Addr) (y3 y4 : Option V), σ = [some (.ref q), some (.ref p), y3, y4] ∧ Same H H2 ∧ KT.RT H2 (p, rdc (KT.rw_ (fs.take i)) x.2) ∧ (rdc (KT.rw_ (fs.take i)) x.2).length = wd ∧ ∀ j, (Hm.fn (rdc (KT.rw_ (fs.take i)) x.2) j).natAbs < 2 ^ (20 + (7000 * wd + 2) * i))
      ⟨x.1, none, none, rfl, Same.refl _, hx, hxl, fun j => mem_rd (Nat.pow_pos (by omega)) hxb j⟩ (fun i σ H2 _ h => ?_) ?_ ?_
    · obtain ⟨_, _, _, _, sm, _⟩ := h
      exact SqL.of (sm _ _ hq.lst)
    · rintro i v σ H2 H2' hi ⟨p, y3, y4, rfl, sm, hp, hl, hbd⟩ ⟨rfl, hv⟩
      rw [List.length_map] at hi
      have gl : fs[i]? = some fs[i] := List.getElem?_eq_getElem hi
      obtain rfl : V.ref fs[i].1 = v := by
        rw [List.getElem?_map, gl] at hv
        exact Option.some.inj hv
      have tm := take_more gl
      have hm : fs[i] ∈ fs := List.getElem_mem hi
      have hr2 := (hq.row _ hm).same sm
      have hfr := hfd _ (KT.rw_mem hm)
      generalize fs[i] = r at gl tm hm hr2 hfr
      have er : rdc (KT.rw_ (fs.take i ++ [r])) x.2 = rd1 (rdc (KT.rw_ (fs.take i)) x.2) r.2 := by
        show List.foldl rd1 x.2 (List.map _ (fs.take i ++ [r])) = _
        rw [List.map_append, List.foldl_append]
        rfl
      rw [tm, er]
      generalize rdc (KT.rw_ (fs.take i)) x.2 = c at hp hl hbd
      obtain ⟨hB, hlt, hpos, hld⟩ := fd_beg hfr
      have lr := hfr.len
      have i3 : i < 3 := by omega
      have e1 : (7000 * wd + 2) * i ≤ 21002 * 2 := Nat.mul_le_mul (by omega) (by omega)
      have e2 : (7000 * wd + 2) * (i + 1) = (7000 * wd + 2) * i + (7000 * wd + 2) := Nat.mul_succ _ _
      have hqa : ((c.getD (ldx r.2) 0).fdiv (r.2.getD (ldx r.2) 0)).natAbs ≤ 2 ^ (20 + (7000 * wd + 2) * i) := by
        have h1 := (Hm.rest_sign (x := c.getD (ldx r.2) 0) (l := r.2.getD (ldx r.2) 0) (by omega)).2.2
        have h2 : (c.getD (ldx r.2) 0).natAbs < 2 ^ (20 + (7000 * wd + 2) * i) := hbd (ldx r.2)
        omega
      have emx : (if r.2.getD (ldx r.2) 0 > 1 then r.2.getD (ldx r.2) 0 else 1) = r.2.getD (ldx r.2) 0 := by
        by_cases h : r.2.getD (ldx r.2) 0 > 1
        · rw [if_pos h]
        · rw [if_neg h]
          omega
      refine ⟨_, rfl, r, rfl, hr2, by omega, fun H3 s3 hz => ?_, fun H3 a s3 ha hal => ?_⟩
      · exact absurd (hz (ldx r.2)) (by show ¬ r.2.getD (ldx r.2) 0 = 0; omega)
      obtain rfl := beg_ldx ha hal
      refine ⟨_, rfl, _, rfl, _, rfl, _, rfl, p, _, ((ldx r.2 : Nat) : Int), _, rfl, rfl, SqT.of (hp.same s3), KT.row_at (by rw [hl]; exact hlt), _, rfl, _, rfl, r.1, _, ((ldx r.2 : Nat) : Int), _, rfl, rfl, SqT.of (hr2.same s3), KT.row_at (by rw [lr]; exact hlt), _, _, rfl, ?_⟩
      rw [emx]
      refine ⟨_, _, rfl, rfl, ⟨by omega, ?_⟩, r, _, rfl, hr2.same s3, by omega, fun y hy => ?_, fun H4 p4 s4 n4 h4 => ?_⟩
      · have hb9 : Hm.bb 6 6 (ldx r.2) < 9000 := by
          have h3 : ldx r.2 < 3 := by omega
          have key : ∀ a, a < 3 → Hm.bb 6 6 a < 9000 := by decide
          exact key _ h3
        have h5 := Nat.lt_of_le_of_lt hld (Hm.two_pow_lt hb9)
        exact Nat.lt_of_lt_of_le (PySem.Flt.log2_lt_of (by omega) h5) (Nat.le_refl _)
      · have h6 := rd_mem hfr.bd y hy
        exact wide_mul (a := 20 + (7000 * wd + 2) * i + 1) (Nat.lt_of_le_of_lt hqa (Hm.two_pow_lt (by omega))) h6 (by omega) (by omega) (by omega)
      · refine ⟨(p, c), (p4, _), rfl, (hp.same s3).same s4, h4, ?_, by show c.length ≤ 3; omega, fun H5 p5 s5 n5 h5 => ?_⟩
        · show c.length = (KT.byl r.2 _).length
          unfold KT.byl
          rw [List.length_map, lr, hl]
        · have h5 : KT.RT H5 (p5, KT.subl c (KT.byl r.2 ((c.getD (ldx r.2) 0).fdiv (r.2.getD (ldx r.2) 0)))) := h5
          rw [KT.subl_byl] at h5
          refine ⟨p5, _, _, rfl, sm.trans ((s3.trans s4).trans s5), h5, Hm.lsl_len hl lr _, ?_⟩
          rw [e2, ← Nat.add_assoc]
          have z := rd_bd (e := 7000 * wd) hl lr hbd hfr.bd hqa
          exact z
    · rintro σ H2 ⟨p, y3, y4, rfl, sm, hp, _⟩
      rw [List.length_map, List.take_length] at hp
      exact ⟨_, rfl, qq H2 p sm hp⟩
theorem ok_grid {f fN fL fM : Addr} {fd fdN fdL fdM : FuncData} (F : Fun K "_law_grid" "_law_grid" sGrid f fd) (B : Bn mg) (cN : KT.Cb P w K mg base CX0 1 "_law_number_of" ["_law_one", "_law_letters_here"] spCof fN fdN) (cL : KT.Cb P w K mg base CX0 1 "_law_less" ["_law_one", "_law_other"] KT.spLessL fL fdL) (cM : KT.Cb P w K mg base CX0 3 "_law_normal" ["_law_width", "_law_rows"] KT.spNormL fM fdM) :
    FnOk P w K mg base CX0 4 f fd ["_law_rules_now", "_law_letters_here"] spGrid := by
  refine F.ok scGrid (fun vs H Q E h => ?_) (fun cdv A outer s H vs Q E hr h => ?_)
  · obtain ⟨l, L, rs, rfl, _⟩ := h
    rfl
  · obtain ⟨l, L, rs, rfl, hl, tw, hL, h3, h6, hok, qq⟩ := h
    have r3 : Room 3 (A.deeper (envOfC "_law_grid" (defScope sGrid) s.heap.objs.size f cdv)) := hr.mono (by decide)
    have r1 : Room 1 (A.deeper (envOfC "_law_grid" (defScope sGrid) s.heap.objs.size f cdv)) := hr.mono (by decide)
    refine ⟨_, pss_cons (ps_setLc (i := 2) (own := [("_law_one", 3), ("_law_other", 4)]) (g := gTup K 2 (gCons (gName 3) (gCons (gName 4) gNil))) (tt := tYes) (te := tCall KT.spLessL [] E0 (tCons (tCall spCof [] E0 (tCons (tVar 3) (tCons (tVar 1) tNil))) (tCons (tCall spCof [] E0 (tCons (tVar 4) (tCons (tVar 1) tNil))) tNil))) rfl scGrid.nd rfl rfl (sw_true rfl rfl rfl (by decide +kernel)) (pi_list (pv 0))
        (blkOk_by (N := NGr) (sc := defScope sGrid) (by decide +kernel)) (fun _ _ _ _ _ => pg_tup rfl (pgs_cons (pg_name (i := 3) scGrid.nd rfl (Or.inl rfl)) (pgs_cons (pg_name (i := 4) scGrid.nd rfl (Or.inl rfl)) pgs_nil))) (fun _ _ _ _ _ => pts_nil)
        (fun _ _ _ _ _ => pe_call cL.ok r1 (by rfl) cL.g cL.kp cL.b .nil pass0 (pa_cons (pe_call cN.ok r1 (by rfl) cN.g cN.kp cN.b .nil pass0 (pa_cons (pv 3) (pa_cons (pv 1) pa_nil))) (pa_cons (pe_call cN.ok r1 (by rfl) cN.g cN.kp cN.b .nil pass0 (pa_cons (pv 4) (pa_cons (pv 1) pa_nil))) pa_nil))))
      (pss_one (ps_ret (pe_call cM.ok r3 (by rfl) cM.g cM.kp cM.b .nil pass0 (pa_cons (pe_callB call_len_str (by rfl) B.len PySem.boot_len (pa_cons (pv 1) pa_nil)) (pa_cons (pv 2) pa_nil))))), ?_⟩
    refine ⟨_, rfl, l, rfl, ⟨_, SqL.of hl⟩, fun D nD => ?_⟩
    have two : ∀ r ∈ rs, ∃ a b, r.2 = [a, b] ∧ a.length ≤ 16 ∧ b.length ≤ 16 := fun r hr => by
      obtain ⟨a, b, h, ha, hb, _, _⟩ := okR_two (hok r.2 (List.mem_map.mpr ⟨r, hr, rfl⟩))
      exact ⟨a, b, h, ha, hb⟩
    refine lc_rowsP (K := K) (e := fun r : Addr × List (List Nat) => V.ref r.1) (a := fun r => tx (r.2.getD 0 [])) (b := fun r => tx (r.2.getD 1 [])) (walk_list (K := K) (a := l)) (te := tCall KT.spLessL [] E0 (tCons (tCall spCof [] E0 (tCons (tVar 3) (tCons (tVar 1) tNil))) (tCons (tCall spCof [] E0 (tCons (tVar 4) (tCons (tVar 1) tNil))) tNil))) (σ := [some (.ref l), some (tx L), none, none, none]) (i := 3) (j := 4) (fun r => df L r.2) (Nat.lt_of_le_of_lt h6 (by decide)) nD (fun _ _ => rfl) (fun H5 s5 => SqL.of (s5 _ _ hl)) (fun r hr => ?_) ?_ ?_
    · obtain ⟨a, b, e, _, _⟩ := two r hr
      refine ⟨r.1, rfl, ?_⟩
      have z : H r.1 = some (.tup (r.2.map tx)) := (tw r hr).1
      rw [e] at z ⊢
      exact z
    · intro r H2 Q2 hr2 s2 hQ
      obtain ⟨a, b, e, ha, hb⟩ := two r hr2
      refine ⟨_, rfl, _, rfl, r.2.getD 0 [], L, rfl, hL, fun H3 pa s3 na h3a => ⟨_, rfl, _, rfl, r.2.getD 1 [], L, rfl, hL, fun H4 pb s4 nb h4b => ?_⟩⟩
      refine ⟨(pa, cnI (r.2.getD 0 []) L), (pb, cnI (r.2.getD 1 []) L), rfl, ?_, ?_, by rw [cnI_len, cnI_len], by rw [cnI_len]; exact h3, fun H5 p5 s5 n5 h5 => ?_⟩
      · show H4 pa = some (.tup ((cnI _ L).map V.int))
        rw [← cn_I]
        exact s4 _ _ h3a
      · show H4 pb = some (.tup ((cnI _ L).map V.int))
        rw [← cn_I]
        exact h4b
      · refine hQ H5 p5 ((s3.trans s4).trans s5) ?_
        have e5 : KT.subl (cnI (r.2.getD 0 []) L) (cnI (r.2.getD 1 []) L) = df L r.2 := by
          unfold df KT.subl Hm.lsl
          congr 1
          funext x y
          rw [Int.one_mul]
        have h5 : H5 p5 = some (.tup ((KT.subl (cnI (r.2.getD 0 []) L) (cnI (r.2.getD 1 []) L)).map V.int)) := h5
        rw [e5] at h5
        exact h5
    · intro H2 ys s2 hR ey
      have ely : ys.length = rs.length := by
        have z := congrArg List.length ey
        rw [List.length_map, List.length_map] at z
        exact z
      refine ⟨_, rfl, _, rfl, asc_le (w := L) (by omega), _, rfl, D, ys, L.length, 6, 6, by rw [tx_len]; rfl, hR, h3, by omega, by omega, fun r hr5 => ?_, by decide, by decide, fun H3 q ys3 R0 rest s3 nq hR3 hN hE hl3 => ?_⟩
      · rw [ey] at hr5
        obtain ⟨z, hz, rfl⟩ := List.mem_map.mp hr5
        have h := df_bd (hok z.2 (List.mem_map.mpr ⟨z, hz, rfl⟩))
        exact ⟨h.1, h.2.2⟩
      · refine qq H3 q (s2.trans s3) fun R nr => ⟨ys3, hR3, ?_⟩
        obtain ⟨r1, n1⟩ := nr.nrm
        refine (Hm.nrm_same n1 hN ?_).symm
        have e : (wds rs).map (df L) = KT.rw_ ys := by
          rw [ey]
          unfold wds
          rw [List.map_map]
          rfl
        rw [e]
        exact hE
end
end K31
set_option maxRecDepth 100000
set_option maxHeartbeats 1000000
/-! d.get(y, x) where y may be a truth value and all of d's keys are texts -/
namespace Rs
open PySem PySem.Spec PyProof.Rows L2
def bsIs : Bool ⊕ Str → Value → Bool
  | .inl b, .bool c => b == c
  | .inl _, _ => false
  | .inr x, v => Value.isStrOf x v
theorem bs_shape : ∀ {k : Bool ⊕ Str} {v : Value}, bsIs k v = true → (∃ b, k = .inl b ∧ v = .bool b) ∨ ∃ x t, k = .inr x ∧ v = .str x t
  | .inl b, v, h => by
    cases v with
    | bool c =>
      have h : (b == c) = true := h
      rw [beq_iff_eq] at h
      exact .inl ⟨b, rfl, by rw [h]⟩
    | _ => exact nomatch (show false = true from h)
  | .inr x, v, h => by
    obtain ⟨t, e⟩ := Value.isStrOf_shape (x := x) (v := v) h
    exact .inr ⟨x, t, rfl, e⟩
theorem bs_rr (a b : Str) : decide ((Sum.inr a : Bool ⊕ Str) = Sum.inr b) = decide (a = b) := by
  by_cases e : a = b
  · subst e; simp
  · have h : ¬ (Sum.inr a : Bool ⊕ Str) = Sum.inr b := fun q => e (Sum.inr.inj q)
    rw [decide_eq_false h, decide_eq_false e]
theorem bs_ll (a b : Bool) : decide ((Sum.inl a : Bool ⊕ Str) = Sum.inl b) = (a == b) := by
  cases a <;> cases b <;> rfl
def bsKind (prog : Program) (w : World) : PySem.KeyKind prog w (Bool ⊕ Str) where
  is := bsIs
  hash := fun k => match k with
    | .inl b => hashInt (if b = true then 1 else 0)
    | .inr x => hashStr w x
  inj := fun v a b ha hb => by
    rcases bs_shape ha with ⟨i, rfl, rfl⟩ | ⟨x, t, rfl, rfl⟩
    · rcases bs_shape hb with ⟨j, rfl, e⟩ | ⟨y, u, rfl, e⟩
      · injection e with e1; rw [e1]
      · exact nomatch e
    · rcases bs_shape hb with ⟨j, rfl, e⟩ | ⟨y, u, rfl, e⟩
      · exact nomatch e
      · injection e with e1 _; rw [e1]
  byValue := fun k v h => by
    rcases bs_shape h with ⟨i, rfl, rfl⟩ | ⟨x, t, rfl, rfl⟩ <;> rfl
  pyHash := @fun A E s k v Q hv h => by
    rcases bs_shape hv with ⟨b, rfl, rfl⟩ | ⟨x, t, rfl, rfl⟩
    · have h' : Q (hashInt (if b = true then 1 else 0)) { s with toks := s.toks + 1 } := h
      rw [← reduce_bool] at h'
      refine W.pyHash_slot (T := "bool") rfl F.slot_bool_hash entry_int_hash (args_int_hash _) (beq_builtin_none _) (.inl rfl) ?_
      cases b
      · exact (show wpAny _ _ (do ret (← mkInt 0)) _ _ s from wpAny_bind (wpAny_mkInt (wpAny_pure ⟨_, _, rfl, h'⟩)))
      · exact (show wpAny _ _ (do ret (← mkInt 1)) _ _ s from wpAny_bind (wpAny_mkInt (wpAny_pure ⟨_, _, rfl, h'⟩)))
    · exact wpAny_pyHash_str h
  eqBool := fun hu hv h => by
    rcases bs_shape hu with ⟨i, rfl, rfl⟩ | ⟨x, t, rfl, rfl⟩
    · rcases bs_shape hv with ⟨j, rfl, rfl⟩ | ⟨y, u, rfl, rfl⟩
      · rw [bs_ll] at h; exact SeqAt.EqAt.bool_bool i j _ _ _ _ h
      · rw [decide_eq_false (fun z => nomatch z)] at h; exact SeqAt.EqAt.bool_str i y u _ _ _ _ h
    · rcases bs_shape hv with ⟨j, rfl, rfl⟩ | ⟨y, u, rfl, rfl⟩
      · rw [decide_eq_false (fun z => nomatch z)] at h; exact SeqAt.EqAt.str_bool x t j _ _ _ _ h
      · rw [bs_rr] at h; exact wpAny_eqBool_str h
  «strs» := fun k x t v h => by
    rcases bs_shape h with ⟨i, rfl, e⟩ | ⟨y, u, rfl, e⟩
    · exact nomatch e
    · injection e with e1 _
      subst e1
      cases v <;> rfl
def bF (f : Key → Option Value) : Bool ⊕ Str → Option Value := fun _ => none
theorem pairs_key {P : Program} {w : World} {κ : Type} [DecidableEq κ] {knd : PySem.KeyKind P w κ} : ∀ {es : List DictEntry} {kvs : List (κ × Value)}, Pairs knd es kvs → ∀ e ∈ es, ∃ kv ∈ kvs, knd.is kv.1 e.key = true
  | [], [], _, e, he => nomatch he
  | _ :: es, kv :: kvs, .cons h1 _ h3, e, he => by
    rcases List.mem_cons.mp he with rfl | h
    · exact ⟨kv, List.mem_cons_self, h1⟩
    · obtain ⟨z, hz, h4⟩ := pairs_key h3 e h
      exact ⟨z, List.mem_cons_of_mem _ hz, h4⟩
theorem bs_map {P : Program} {w : World} {h : Heap} {a : Addr} {vs : List (Key × Value)} (d : h.DictOf (mixKind P w) a vs) (ht : ∀ kv ∈ vs, ∃ x, kv.1 = Sum.inr x) : ∃ f, h.MapOf (bsKind P w) a f ∧ ∀ b, f (.inl b) = none := by
  obtain ⟨o, es, ep, ho, hx, hdt, hk, hp, hn⟩ := d
  have tx : ∀ e ∈ es, ∃ x t, e.key = Value.str x t ∧ e.hash = hashStr w x := fun e he => by
    obtain ⟨k, h1, h2⟩ := hk e he
    obtain ⟨kv, hkv, h3⟩ := pairs_key hp e (by simpa using he)
    obtain ⟨x, hx⟩ := ht kv hkv
    have e1 : k = kv.1 := (mixKind P w).inj e.key _ _ h1 h3
    rw [hx] at e1
    subst e1
    obtain ⟨t, h4⟩ := Value.isStrOf_shape (x := x) (v := e.key) h1
    exact ⟨x, t, h4, h2⟩
  refine ⟨fun k => findBy (bsKind P w).is es k, ⟨o, es, ep, ho, hx, hdt, fun e he => ?_, fun k => rfl⟩, fun b => ?_⟩
  · obtain ⟨x, t, h1, h2⟩ := tx e he
    exact ⟨.inr x, by rw [h1]; exact keyIs_str x t, h2⟩
  · have q : (es.find? fun e => bsIs (.inl b) e.key) = none := by
      rw [Array.find?_eq_none]
      intro e he hq
      obtain ⟨x, t, h1, _⟩ := tx e he
      rw [h1] at hq
      exact nomatch (show false = true from hq)
    show (es.find? fun e => bsIs (.inl b) e.key).map (·.val) = none
    rw [q] <;> rfl
/-- d.get(y, x), y a key of d's kind or a truth value beside keys that are texts -/
def tDGetB (td ty tx : TE) : TE := fun σ H Q => td σ H fun x H1 => ∃ a, x = .ref a ∧ IsD H1 a ∧ ty σ H1 fun y H2 => tx σ H2 fun z H3 => (∃ o, DGet H3 a y o ∧ Q (o.getD z) H3) ∨ ∃ b kvs, y = .bl b ∧ Rd H3 a (.dK kvs) ∧ (∀ kv ∈ kvs, ∃ x, kv.1 = Sum.inr x) ∧ Q z H3
section
variable {X : Cx} {o e f : Expr} {apos cpos : Pos} {td ty tx : TE}
theorem pe_dgetB (hu : X.A.units + 1 < cLine) (ho : PE X o td) (he : PE X e ty) (hf : PE X f tx) (m : M2 X o "get" apos e f cpos) : PE X (.Call (.Attribute o "get" apos) [e, f] [] cpos) (tDGetB td ty tx) := by
  refine ⟨fun pins s σ H Q I h => ?_⟩
  refine wpAny_Call_method m.base m.few m.line PySem.F.plainAttrs_dict PySem.F.slot_dict_get PySem.F.type_dict_get (thn (ho.run pins s σ H _ I h) fun u s1 ⟨x, H1, I1, rx, a, ex, d, q1⟩ => ?_)
  subst ex
  obtain rfl : u = Value.ref a := rx
  obtain ⟨t1, t2, _⟩ := isD_at I1 d
  refine ⟨t1, t2, ?_⟩
  rw [m.trees]
  refine Calls.callWith_builtin rfl (Calls.evalArgs_plain (Calls.spliced_cons (thn (he.run pins s1 σ H1 _ I1 q1) fun iv s2 ⟨y, H2, I2, ry, q2⟩ =>
    Calls.spliced_cons (thn (hf.run pins s2 σ H2 _ I2 q2) fun fv s3 ⟨z, H3, I3, rz, q3⟩ => Calls.spliced_nil ?_))))
  rcases q3 with ⟨ov, g, q3⟩ | ⟨b, kvs, rfl, g, ht, q3⟩
  · exact d_get2 hu I3 g ry rz fun w' s4 I4 rw' => ⟨_, H3, I4, rw', q3⟩
  · obtain rfl : iv = Value.bool b := ry
    obtain ⟨zl, hd, vs, rel, dd⟩ := dk_rd I3.hok g
    obtain ⟨fm, hm, hf⟩ := bs_map dd (by
      have e := rel.keys
      intro kv hkv
      have h1 : kv.1 ∈ vs.map (·.1) := List.mem_map.mpr ⟨kv, hkv, rfl⟩
      rw [← e] at h1
      obtain ⟨k2, hk2, ek⟩ := List.mem_map.mp h1
      obtain ⟨x, hx⟩ := ht k2 hk2
      exact ⟨x, by rw [← ek]; exact hx⟩)
    refine call_meetsIn PySem.F.slot_dict_get dd.typeIs PySem.F.entry_dict_get (PySem.F.args_dict_get_3 _ _ _) (meets_dict_get_default (bsKind X.prog X.w) (k := .inl b) (key := Value.bool b) a (by cases b <;> rfl) hd fv) ⟨_, hm, ?_⟩
    rw [hf b]
    exact ⟨_, H3, I3.tok _, rz, q3⟩
end
end Rs
set_option maxRecDepth 100000
set_option maxHeartbeats 4000000
/-! the law's own word behind a step: the swap -/
namespace K31
open PySem PySem.Spec PyProof.Rows L2 KA
abbrev sBeh : Stmt := top 99
abbrev NBh : List Str := ["_law_rows", "_law_letters_here", "_law_some", "_law_one", "_law_step_z", "_law_sizes", "_law_numbers", "_law_number", "_law_at", "_law_good", "_law_left", "_law_right", "_law_middle", "_law_end", "_law_part", "_law_first", "_law_second"]
theorem scBeh : FnScope NBh ["_law_rows", "_law_letters_here", "_law_some", "_law_one", "_law_step_z"] (defScope sBeh) := ⟨rfl, rfl, rfl, by decide +kernel, rfl, by decide +kernel, by decide +kernel⟩
/-- what the law holds of a town and a word -/
structure Lw (H : Hp) (q : Addr) (L : List Nat) (ls : Addr) (rs : Rls) (l : List Nat) (R : List (List Int)) : Prop where
  rw_ : Rw H q L.length R
  lt : Lt L
  w1 : 1 ≤ L.length
  ls : H ls = some (.lst (rfs rs))
  tw : Tws H rs
  ok : ∀ r ∈ wds rs, okR L r = true
  len : l.length ≤ 100
  w : isW l L = true
theorem Rw.same {H H' : Hp} {q : Addr} {wd : Nat} {R : List (List Int)} (h : Rw H q wd R) (s : Same H H') : Rw H' q wd R := by
  obtain ⟨⟨fs, h1, h2⟩, h3, h4, h5⟩ := h
  exact ⟨⟨fs, ⟨s _ _ h1.lst, fun x hx => (h1.row x hx).same s⟩, h2⟩, h3, h4, h5⟩
theorem Lw.same {H H' : Hp} {q : Addr} {L : List Nat} {ls : Addr} {rs : Rls} {l : List Nat} {R : List (List Int)} (h : Lw H q L ls rs l R) (s : Same H H') : Lw H' q L ls rs l R :=
  ⟨h.rw_.same s, h.lt, h.w1, s _ _ h.ls, fun r hr => ⟨s _ _ (h.tw r hr).1, (h.tw r hr).2⟩, h.ok, h.len, h.w⟩
abbrev XBh (P : Program) (w : World) (K : PySem.W.Frag) (mg : Str → Option Value) (base : Heap) (f : Addr) (cdv : Value) (A : Around) (outer : List Env) (s : Shared) (H : Hp) (E : XK) : Cx := (cxOf CX0 P w K mg base NBh "_law_behind" (defScope sBeh) f cdv A outer s H E).nox
theorem bh_cons {R : List (List Int)} {L : List Nat} {ws : List (List (List Nat))} {w : List Nat} {k : V} {rest : List V} : bh R L ws w (k :: rest) = (if k = kPut ∧ rest.length = 2 then bPut L w (rest.getD 0 .non) (rest.getD 1 .non)
    else if k = kDrop ∧ rest.length = 1 then bDrop w (rest.getD 0 .non)
    else if k = kRule ∧ rest.length = 3 then bRule ws w (rest.getD 0 .non) (rest.getD 1 .non) (rest.getD 2 .non)
    else if k = kSwap ∧ rest.length = 3 then bSwap R L w (rest.getD 0 .non) (rest.getD 1 .non) (rest.getD 2 .non)
    else none) := rfl
theorem bh_put {R : List (List Int)} {L : List Nat} {ws : List (List (List Nat))} {w : List Nat} {a s : V} : bh R L ws w [kPut, a, s] = bPut L w a s := by
  rw [bh_cons]
  rw [if_pos ⟨rfl, rfl⟩]
  rfl
theorem bh_drop {R : List (List Int)} {L : List Nat} {ws : List (List (List Nat))} {w : List Nat} {a : V} : bh R L ws w [kDrop, a] = bDrop w a := by
  rw [bh_cons]
  rw [if_neg (show ¬ (kDrop = kPut ∧ ([a] : List V).length = 2) from fun h => absurd h.1 (by decide))]
  rw [if_pos ⟨rfl, rfl⟩]
  rfl
theorem bh_rule {R : List (List Int)} {L : List Nat} {ws : List (List (List Nat))} {w : List Nat} {n f a : V} : bh R L ws w [kRule, n, f, a] = bRule ws w n f a := by
  rw [bh_cons]
  rw [if_neg (show ¬ (kRule = kPut ∧ ([n, f, a] : List V).length = 2) from fun h => absurd h.1 (by decide))]
  rw [if_neg (show ¬ (kRule = kDrop ∧ ([n, f, a] : List V).length = 1) from fun h => absurd h.1 (by decide))]
  rw [if_pos ⟨rfl, rfl⟩]
  rfl
theorem bh_swap {R : List (List Int)} {L : List Nat} {ws : List (List (List Nat))} {w : List Nat} {a f s : V} : bh R L ws w [kSwap, a, f, s] = bSwap R L w a f s := by
  rw [bh_cons]
  rw [if_neg (show ¬ (kSwap = kPut ∧ ([a, f, s] : List V).length = 2) from fun h => absurd h.1 (by decide))]
  rw [if_neg (show ¬ (kSwap = kDrop ∧ ([a, f, s] : List V).length = 1) from fun h => absurd h.1 (by decide))]
  rw [if_neg (show ¬ (kSwap = kRule ∧ ([a, f, s] : List V).length = 3) from fun h => absurd h.1 (by decide))]
  rw [if_pos ⟨rfl, rfl⟩]
  rfl
section
variable {P : Program} {w : World} {K : PySem.W.Frag} {mg : Str → Option Value} {base : Heap}
variable {f fNm fN : Addr} {fdNm fdN : FuncData} {cdv : Value} {A : Around} {outer : List Env} {s : Shared} {H : Hp} {E : XK}
theorem bh9 (B : Bn mg) (cNm : KT.Cb P w K mg base CX0 3 "_law_named" ["_law_rows", "_law_counts_now"] spNmd fNm fdNm) (cN : KT.Cb P w K mg base CX0 1 "_law_number_of" ["_law_one", "_law_letters_here"] spCof fN fdN) (hr : Room 3 (A.deeper (envOfC "_law_behind" (defScope sBeh) s.heap.objs.size f cdv))) :
    ∃ t, PSs (XBh P w K mg base f cdv A outer s H E) ((defBody sBeh).drop 9) t ∧ ∀ (D : Ends) (H1 : Hp) (q ls ps : Addr) (L l : List Nat) (rs : Rls) (R : List (List Int)) (n m k : Nat) (y5 y6 y7 y9 y10 y11 y12 y13 y14 y15 y16 : Option V), Lw H1 q L ls rs l R → H1 ps = some (.tup [kSwap, .int (n : Nat), .int (m : Nat), .int (k : Nat)]) →
      (∀ H', Same H1 H' → D.rt (vO (bSwap R L l (.int (n : Nat)) (.int (m : Nat)) (.int (k : Nat)))) H') → t D [some (.ref q), some (tx L), some (.ref ls), some (tx l), some (.ref ps), y5, y6, y7, some (.int (n : Nat)), y9, y10, y11, y12, y13, y14, y15, y16] H1 := by
  have r1 : Room 1 (A.deeper (envOfC "_law_behind" (defScope sBeh) s.heap.objs.size f cdv)) := hr.mono (by decide)
  refine ⟨_, pss_cons (ps_par (i := 12) (j := 13) (by rfl) scBeh.nd rfl rfl (by decide) rfl rfl (pa_cons (pe_op op_add (pv 8) (pe_ix ix_tup (pv 4) pe_int (fun _ _ => rfl))) (pa_cons (pe_op op_add (pe_op op_add (pv 8) (pe_ix ix_tup (pv 4) pe_int (fun _ _ => rfl))) (pe_ix ix_tup (pv 4) pe_int (fun _ _ => rfl))) pa_nil)) (by rfl))
    (pss_cons (ps_if (pt_cmpR op_gt (pv 13) (pe_callB call_len_str (by rfl) B.len PySem.boot_len (pa_cons (pv 3) pa_nil)) (nomark _)) (pss_one (ps_ret pe_non)) pss_nil)
    (pss_cons (ps_for PassesOwn.never rfl (pi_list (pe_lst (pa_cons (pe_slice sl_str (pv 3) (po_some (pv 8)) (po_some (pv 12))) (pa_cons (pe_slice sl_str (pv 3) (po_some (pv 12)) (po_some (pv 13))) pa_nil)))) (pg_name (i := 14) scBeh.nd rfl (Or.inl rfl))
      (pss_one (ps_if (pt_cmpR (op_neD hr.units) (pe_call cNm.ok hr (by rfl) cNm.g cNm.kp cNm.b .nil pass0 (pa_cons (pv 0) (pa_cons (pe_call cN.ok r1 (by rfl) cN.g cN.kp cN.b .nil pass0 (pa_cons (pv 14) (pa_cons (pv 1) pa_nil))) pa_nil)))
          (pe_op Rs.op_repT1 (pe_tup (pa_cons pe_int pa_nil)) (pe_callB call_len_str (by rfl) B.len PySem.boot_len (pa_cons (pv 1) pa_nil))) (nomark _)) (pss_one (ps_ret pe_non)) pss_nil)))
    (pss_cons (ps_par (i := 15) (j := 16) (by rfl) scBeh.nd rfl rfl (by decide) rfl rfl (pa_cons (pe_slice sl_str (pv 3) (po_some (pv 8)) (po_some (pv 12))) (pa_cons (pe_slice sl_str (pv 3) (po_some (pv 12)) (po_some (pv 13))) pa_nil)) (by rfl))
    (pss_one (ps_ret (pe_op op_add_str (pe_op op_add_str (pe_op op_add_str (pe_slice sl_str (pv 3) po_none (po_some (pv 8))) (pv 16)) (pv 15)) (pe_slice sl_str (pv 3) (po_some (pv 13)) po_none))))))), ?_⟩
  intro D H1 q ls ps L l rs R n m k y5 y6 y7 y9 y10 y11 y12 y13 y14 y15 y16 lw hps qq
  have hl := lw.len
  have ab := asc_le (w := l) (by omega)
  have at2 : atI [kSwap, .int (n : Nat), .int (m : Nat), .int (k : Nat)] 2 = some (.int (m : Nat)) := rfl
  have at3 : atI [kSwap, .int (n : Nat), .int (m : Nat), .int (k : Nat)] 3 = some (.int (k : Nat)) := rfl
  have qq : ∀ H', Same H1 H' → D.rt (vO (if ((nn (.int (n : Nat)) && (nn (.int (m : Nat)) && nn (.int (k : Nat)))) && decide (n + m + k ≤ l.length)) = true then (if crb R L ((l.drop n).take m) && crb R L ((l.drop (n + m)).take k) then some (l.take n ++ (l.drop (n + m)).take k ++ (l.drop n).take m ++ l.drop (n + m + k)) else none) else none)) H' := qq
  have nnt : ∀ z : Nat, nn (.int (z : Nat)) = true := fun z => (decide_eq_true (by omega) : decide ((0 : Int) ≤ ((z : Nat) : Int)) = true)
  rw [nnt, nnt, nnt] at qq
  refine ⟨_, rfl, _, rfl, ps, _, 2, _, rfl, rfl, SqT.of hps, at2, _, _, rfl, rfl, _, rfl, _, rfl, ps, _, 2, _, rfl, rfl, SqT.of hps, at2, _, _, rfl, rfl, _, rfl, ps, _, 3, _, rfl, rfl, SqT.of hps, at3, _, _, rfl, rfl, _, _, rfl, ?_⟩
  have s5 : cutS (SX.S l) (some (n : Int)) (some ((n : Int) + (m : Int))) = SX.S ((l.drop n).take m) := cut_mid l n m
  have e1 : (n : Int) + (m : Int) = ((n + m : Nat) : Int) := by omega
  have c2 : cutS (SX.S l) (some ((n : Int) + (m : Int))) (some ((n : Int) + (m : Int) + (k : Int))) = SX.S ((l.drop (n + m)).take k) := by
    rw [e1]
    exact cut_mid l (n + m) k
  refine ⟨_, rfl, _, rfl, _, rfl, ab, _, _, rfl, rfl, _, rfl, ?_⟩
  rw [tx_len]
  by_cases h1 : n + m + k ≤ l.length
  · rw [decide_eq_true h1] at qq
    rw [decide_eq_false (show ¬ ((n : Int) + (m : Int) + (k : Int) > (l.length : Nat)) by omega)]
    refine iteF ?_
    refine ⟨_, rfl, _, rfl, _, rfl, _, rfl, _, rfl, _, rfl, ab, ?_⟩
    rw [s5]
    refine ⟨_, rfl, _, rfl, _, rfl, _, rfl, _, rfl, _, rfl, ab, ?_⟩
    rw [c2]
    refine ⟨(by show 2 ≤ sizeLine; decide), fun p np => ?_⟩
    obtain ⟨H2, e2⟩ : ∃ H2, H2 = upd H1 p (.lst [tx ((l.drop n).take m), tx ((l.drop (n + m)).take k)]) := ⟨_, rfl⟩
    rw [← e2]
    have s2 : Same H1 H2 := by
      rw [e2]
      exact same_new np
    have hp2 : H2 p = some (.lst ([(l.drop n).take m, (l.drop (n + m)).take k].map tx)) := by
      rw [e2]
      exact upd_same
    have w1 : isW ((l.drop n).take m) L = true := isW_take lw.w fun c hc => List.mem_of_mem_drop (List.mem_of_mem_take hc)
    have w2 : isW ((l.drop (n + m)).take k) L = true := isW_take lw.w fun c hc => List.mem_of_mem_drop (List.mem_of_mem_take hc)
    have l1 : ((l.drop n).take m).length ≤ 100 := by rw [List.length_take, List.length_drop]; omega
    have l2 : ((l.drop (n + m)).take k).length ≤ 100 := by rw [List.length_take, List.length_drop]; omega
    have all2 : ∀ z ∈ [(l.drop n).take m, (l.drop (n + m)).take k], z.length ≤ 100 := fun z hz => by
      rcases List.mem_cons.mp hz with rfl | hz
      · exact l1
      · obtain rfl := List.mem_singleton.mp hz
        exact l2
    refine ⟨p, rfl, ⟨_, SqL.of hp2⟩, ?_⟩
    refine for_it (walk_list (K := K) (a := p) (xs := [(l.drop n).take m, (l.drop (n + m)).take k].map tx)) (fun i σ H3 => ∃ y14, σ = [some (.ref q), some (tx L), some (.ref ls), some (tx l), some (.ref ps), y5, y6, y7, some (.int (n : Nat)), y9, y10, y11, some (.int ((n : Int) + (m : Int))), some (.int ((n : Int) + (m : Int) + (k : Int))), y14, y15, y16] ∧ Same H2 H3 ∧ ∀ z ∈ [(l.drop n).take m, (l.drop (n + m)).take k].take i, crb R L z = true)
      ⟨y14, rfl, Same.refl _, fun z hz => nomatch hz⟩ (fun i σ H3 _ h => ?_) ?_ ?_
    · obtain ⟨_, _, sm, _⟩ := h
      exact SqL.of (sm _ _ hp2)
    · rintro i x σ H3 H3' hi ⟨z14, rfl, sm, hc⟩ ⟨rfl, hx⟩
      rw [List.getElem?_map] at hx
      obtain ⟨z, hz, rfl⟩ := Option.map_eq_some_iff.mp hx
      have tk := take_more hz
      have lz := all2 z (List.mem_of_getElem? hz)
      have lw3 := (lw.same s2).same sm
      have wd3 := lw3.rw_.w3
      refine ⟨_, rfl, _, rfl, _, rfl, z, L, rfl, lw3.lt, fun H4 pa s4 na h4 => ?_⟩
      refine ⟨q, (pa, cnI z L), L.length, R, rfl, lw3.rw_.same s4, ?_, cnI_len z L, fun y hy => Nat.lt_of_le_of_lt (Nat.le_trans (cnI_bd y hy) lz) (by decide), fun H5 p5 s5 h5 => ?_⟩
      · show H4 pa = some (.tup ((cnI z L).map V.int))
        rw [← cn_I]
        exact h4
      refine ⟨(by show 1 ≤ sizeLine; decide), fun zz nz => ?_⟩
      have s6 := same_new (o := .tup [V.int 0]) nz
      have fin : ∀ H6 z6, Same H5 H6 → KT.RT H6 (z6, zer L.length) → rNeD K (.ref p5) (.ref z6) H6 fun v H7 => ∃ b, v = .bl b ∧ (if b = true then D.rt .non H7 else ∃ y14, ([some (.ref q), some (tx L), some (.ref ls), some (tx l), some (.ref ps), y5, y6, y7, some (.int (n : Nat)), y9, y10, y11, some (.int ((n : Int) + (m : Int))), some (.int ((n : Int) + (m : Int) + (k : Int))), some (tx z), y15, y16] : L2.St) = [some (.ref q), some (tx L), some (.ref ls), some (tx l), some (.ref ps), y5, y6, y7, some (.int (n : Nat)), y9, y10, y11, some (.int ((n : Int) + (m : Int))), some (.int ((n : Int) + (m : Int) + (k : Int))), y14, y15, y16] ∧ Same H2 H7 ∧ ∀ z ∈ [(l.drop n).take m, (l.drop (n + m)).take k].take (i + 1), crb R L z = true) := fun H6 z6 s6 hz6 => by
        refine ⟨KT.dR (rdc R (cnI z L)), KT.dR (zer L.length), dp_dR (h5.same s6), dp_dR hz6, shaped_dR _, shaped_dR _, _, rfl, ?_⟩
        rw [eqv_dR]
        have sAll : Same H2 H6 := ((sm.trans s4).trans s5).trans s6
        show if (!crb R L z) = true then _ else _
        cases hcz : crb R L z with
        | true =>
          refine iteF ⟨_, rfl, sAll, fun y hy => ?_⟩
          rw [tk] at hy
          rcases List.mem_append.mp hy with h | h
          · exact hc y h
          · obtain rfl := List.mem_singleton.mp h
            exact hcz
        | false =>
          refine iteT ?_
          have hm : z ∈ [(l.drop n).take m, (l.drop (n + m)).take k] := List.mem_of_getElem? hz
          have e : (crb R L ((l.drop n).take m) && crb R L ((l.drop (n + m)).take k)) = false := by
            rcases List.mem_cons.mp hm with rfl | hm
            · rw [hcz]; rfl
            · obtain rfl := List.mem_singleton.mp hm
              rw [hcz, Bool.and_false]
          have z9 := qq H6 (s2.trans sAll)
          rw [e] at z9
          exact z9
      refine ⟨_, rfl, _, rfl, asc_le (w := L) (by omega), zz, (((SX.S L).length : Nat) : Int), [V.int 0], rfl, rfl, SqT.of upd_same, (fun e => nomatch e), ?_, ?_, (by show 1 ≤ 1000; decide), fun e1 => ?_, fun e2 z2 nz2 => ?_⟩
      · rw [tx_len]
        have := lw.w1
        omega
      · rw [tx_len]
        omega
      · have e : L.length = 1 := by
          rw [tx_len] at e1
          omega
        refine fin _ zz s6 ?_
        rw [e]
        exact upd_same
      · refine fin _ z2 (s6.trans (same_new nz2)) ?_
        have e : (List.replicate ((((SX.S L).length : Nat) : Int)).toNat [V.int 0]).flatten = (zer L.length).map V.int := by
          rw [tx_len]
          have key : ∀ n : Nat, (List.replicate n [V.int 0]).flatten = (List.replicate n (0 : Int)).map V.int := fun n => by
            induction n with
            | zero => rfl
            | succ n ih =>
              rw [List.replicate_succ, List.flatten_cons, ih, List.replicate_succ]
              rfl
          exact key L.length
        rw [e]
        exact upd_same
    · rintro σ H3 ⟨z14, rfl, sm, hc⟩
      have c1 := hc ((l.drop n).take m) (by simp)
      have c2b := hc ((l.drop (n + m)).take k) (by simp)
      rw [c1, c2b] at qq
      have t1 : (l.take n).length ≤ 100 := by rw [List.length_take]; omega
      have t2 : (l.drop (n + m + k)).length ≤ 100 := by rw [List.length_drop]; omega
      refine ⟨_, rfl, _, rfl, _, rfl, _, rfl, _, rfl, _, rfl, ab, ?_⟩
      rw [s5]
      refine ⟨_, rfl, _, rfl, _, rfl, _, rfl, _, rfl, _, rfl, ab, ?_⟩
      rw [c2]
      refine ⟨_, _, rfl, ?_⟩
      refine ⟨_, rfl, _, rfl, _, rfl, _, rfl, ab, ?_⟩
      rw [cut_to]
      refine ⟨_, rfl, _, _, rfl, rfl, cl2 (by omega), ?_⟩
      rw [SX.S_cat]
      refine ⟨_, rfl, _, _, rfl, rfl, cl2 (by rw [List.length_append]; omega), ?_⟩
      rw [SX.S_cat]
      refine ⟨_, rfl, _, rfl, _, rfl, _, rfl, ab, ?_⟩
      rw [show (n : Int) + (m : Int) + (k : Int) = ((n + m + k : Nat) : Int) by omega, cut_from]
      refine ⟨_, _, rfl, rfl, cl2 (by rw [List.length_append, List.length_append]; omega), ?_⟩
      rw [SX.S_cat]
      exact qq H3 (s2.trans sm)
  · rw [decide_eq_false h1] at qq
    rw [decide_eq_true (show ((n : Int) + (m : Int) + (k : Int) > (l.length : Nat)) by omega)]
    exact iteT (qq H1 (Same.refl _))
end
end K31
set_option maxRecDepth 100000
set_option maxHeartbeats 4000000
namespace KA
open PySem PySem.Spec PyProof.Rows L2
abbrev sBack : Stmt := top 87
theorem scBack : FnScope ["_law_sign"] ["_law_sign"] (defScope sBack) := ⟨rfl, rfl, rfl, by decide +kernel, rfl, by decide +kernel, by decide +kernel⟩
section
variable {P : Program} {w : World} {K : PySem.W.Frag} {mg : Str → Option Value} {base : Heap}
def spBack : Sp := fun vs H Q _ => ∃ c : Nat, vs = [tx [c]] ∧ c < 128 ∧ Q (tx [sw c]) H
theorem ok_back {f : Addr} {fd : FuncData} {k : Nat} (F : Fun K "_law_back" "_law_back" sBack f fd) : FnOk P w K mg base CX0 (k + 1) f fd ["_law_sign"] spBack := by
  refine F.ok scBack (fun vs H Q E h => ?_) (fun cdv A outer s H vs Q E hr h => ?_)
  · obtain ⟨l, rfl, _⟩ := h
    rfl
  · obtain ⟨c, rfl, hc, q⟩ := h
    refine ⟨_, pss_one (ps_ret (pe_ifExp (pt_cmpR op_eq (pv 0) (pe_lower (pv 0)) (nomark _)) (pe_upper (pv 0)) (pe_lower (pv 0)))), ?_⟩
    refine ⟨_, rfl, _, rfl, ⟨_, rfl⟩, _, rfl, rfl, asc1, rfl, _, rfl, ?_⟩
    rw [lower1 hc]
    refine ite2 (fun e => ?_) (fun e => ?_)
    · have e1 : c = lo1 c := by
        have z : tx [c] = tx [lo1 c] := of_decide_eq_true e
        have z2 := SX.S_inj (V.str.inj z)
        simpa using z2
      refine ⟨_, rfl, ⟨_, rfl⟩, _, rfl, rfl, asc1, ?_⟩
      rw [upper1 hc]
      have e2 : sw c = up1 c := by
        unfold sw up1
        unfold lo1 at e1
        repeat' split
        all_goals split at e1
        all_goals omega
      rw [← e2]
      exact q
    · have e1 : c ≠ lo1 c := fun z => e (by rw [← z]; exact decide_eq_true rfl)
      refine ⟨_, rfl, ⟨_, rfl⟩, _, rfl, rfl, asc1, ?_⟩
      rw [lower1 hc]
      have e2 : sw c = lo1 c := by
        unfold sw lo1
        unfold lo1 at e1
        split
        · rfl
        · split at e1
          · contradiction
          · exact absurd rfl e1
      rw [← e2]
      exact q
end
end KA
set_option maxRecDepth 100000
set_option maxHeartbeats 1000000
/-! t[::-1], a tuple of two -/
namespace Rs
open PySem PySem.Spec PyProof.Rows L2
section
variable {prog : Program} {w : World} {A : Around} {E : Value → Shared → Prop} {s : Shared}
theorem sliceApplied_rev2 {sl : Addr} {vl vu vs : Value} {Q : Int × Int × Nat → Shared → Prop} (hs : s.heap.IsSliceOf sl vl vu vs) (pl : IsPart vl none) (pu : IsPart vu none) (pv : IsPart vs (some (-1)))
    (h : Q (1, -1, 2) s) : wpAny (model prog w) A (Builtin.Slice.sliceApplied (.ref sl) (pure ((2 : Nat) : Int))) Q E s := by
  obtain ⟨os, hos, hcs, hds⟩ := id hs
  unfold Builtin.Slice.sliceApplied Builtin.Slice.sliceFields
  refine wpAny_bind (wpAny_bind (wpAny_field hos hds (x := vl) rfl (wpAny_bind (wpAny_field hos hds (x := vu) rfl (wpAny_bind (wpAny_field hos hds (x := vs) rfl (wpAny_pure ?_)))))))
  refine wpAny_bind (HT.slicePart_ pv ?_)
  show wpAny _ _ (if ((-1 : Int) == 0) = true then _ else _) _ _ s
  rw [if_neg (by decide)]
  refine wpAny_bind (HT.slicePart_ pl (wpAny_bind (HT.slicePart_ pu (wpAny_bind (wpAny_pure ?_)))))
  exact wpAny_pure h
theorem getItem_tuple_rev2 {t sl : Addr} {a b : Value} {vl vu vs : Value} {Q : Value → Shared → Prop} (ht : IsTup s.heap t #[a, b]) (hs : s.heap.IsSliceOf sl vl vu vs) (pl : IsPart vl none) (pu : IsPart vu none) (pv : IsPart vs (some (-1)))
    (h : Q (.ref s.heap.objs.size) { s with heap := s.heap.push { cls := .type "tuple", data := .seq #[b, a] } }) : wpAny (model prog w) A (getItem (.ref t) (.ref sl)) Q E s := by
  have htake : sizeOk (.seq #[b, a]) := by
    show 2 ≤ sizeLine
    decide
  obtain ⟨os, hos, hcs, hds⟩ := id hs
  have hTs : s.TypeIs (.ref sl) "slice" := ⟨os, hos, hcs⟩
  unfold getItem
  try with_reducible refine wpAny_holding ?_
  first | refine wpAny_bind (wpAny_pure ?_) | skip
  refine wpAny_bind (wpAny_sequenceKey ht.typeIs (by decide) ?_)
  refine wpAny_bind (wpAny_callSpecial?_slot (name := Str.ofString "__getitem__") ht.typeIs PyProof.Rows.slot_tuple_getitem
    (wpAny_call_entry PyProof.Rows.slot_tuple_getitem ht.typeIs entry_tuple_getitem ?_ (args_tuple_getitem _ _)))
  show wpAny _ _ (Builtin.Tuple.tupleItemsOf (.ref t) >>= _) _ _ s
  refine wpAny_bind (tupleItemsOf_ ht ?_)
  refine wpAny_bind (wpAny_typeOf hTs ?_)
  rw [if_pos (by decide)]
  refine wpAny_bind (sliceApplied_rev2 hs pl pu pv ?_)
  show wpAny _ _ (if (((1 : Int) == 0) && ((-1 : Int) == 1) && (2 == 2)) = true then _ else _) _ _ s
  rw [if_neg (by decide)]
  first
    | exact wpAny_bind (m := Builtin.Tuple.tupleExact _) (wpAny_newObj_type (wpAny_pure ⟨_, rfl, wpAny_pure h⟩) htake)
    | exact wpAny_bind (m := Builtin.Tuple.tupleExact _) (wpAny_newObj_type (wpAny_bind (wpAny_pure (wpAny_pure ⟨_, rfl, wpAny_pure h⟩))) htake)
    | exact wpAny_bind (wpAny_bind (m := Builtin.Tuple.tupleExact _) (wpAny_newObj_type (wpAny_pure (wpAny_pure ⟨_, rfl, wpAny_pure h⟩)) htake))
    | exact wpAny_bind (wpAny_bind (m := Builtin.Tuple.tupleExact _) (wpAny_newObj_type (wpAny_pure ⟨_, rfl, wpAny_pure h⟩) htake))
end
section
variable {X : Cx}
def tRevT (K : PySem.W.Frag) (te : TE) : TE := fun σ H Q => te σ H fun v H1 => ∃ t a b, v = .ref t ∧ SqT K H1 t [a, b] ∧ ∀ p, H1 p = none → Q (.ref p) (upd H1 p (.tup [b, a]))
theorem e_revT {e : Expr} {te : TE} {k : Nat} {p1 p2 p3 pos : Pos} (he : PE X e te) :
    PE X (.Subscript e (.Slice none none (some (.UnaryOp .USub (.Constant (.int 1) k p1) p2)) p3) pos) (tRevT X.K te) := by
  constructor
  intro pins s σ H Q I h
  refine Subscript_ (thn (he.run pins s σ H _ I h) fun v s1 hh => ?_)
  obtain ⟨x, H1, I1, r1, t, a, b, ez, hT, q⟩ := hh
  subst ez
  obtain rfl : v = Value.ref t := r1
  have hst : PO X (some (.UnaryOp .USub (.Constant (.int 1) k p1) p2)) (tPart (tUn (rU fun i => .int (-i)) (tC (.int 1)))) :=
    po_some (pe_un un_neg pe_int)
  refine wpAny_Slice (thn (po_none.run pins s1 σ H1 (fun o H2 => o = none ∧ H2 = H1) I1 ⟨rfl, rfl⟩) ?_)
  rintro vl s2 ⟨l, H2, I2, pl, rfl, rfl⟩
  refine thn (po_none.run pins s2 σ H2 (fun o H3 => o = none ∧ H3 = H2) I2 ⟨rfl, rfl⟩) ?_
  rintro vu s3 ⟨u, H3, I3, pu, rfl, rfl⟩
  refine thn (hst.run pins s3 σ H3 (fun o H4 => o = some (-1) ∧ H4 = H3) I3 ⟨1, rfl, -1, rfl, rfl, rfl⟩) ?_
  rintro vs s4 ⟨o, H4, I4, ps, rfl, rfl⟩
  have I5 : Inv X pins σ H4 { s4 with heap := s4.heap.push { cls := .type "slice", data := .fields #[vl, vu, vs] } } := I4.kept (t' := s4.toks) fun b ob q => Heap.get?_push_of_some _ q
  obtain ⟨its, r, pT, hz⟩ := I5.tuple hT
  cases r with
  | cons ra r =>
  cases r with
  | cons rb r =>
  cases r
  refine tail_any (ops := [.ref t, .ref s4.heap.objs.size]) pT.typeIs (PyProof.Rows.slot_tuple_getitem.lookup) ?_ (by with_unfolding_all rfl)
  refine getItem_tuple_rev2 pT (Heap.IsSliceOf.new ..) pl pu ps ?_
  refine ⟨.ref _, _, I5.laid (t' := s4.toks) (o := .tup [b, a]) (fun b ob q => Heap.get?_push_of_some _ q) (Nat.le_refl _) ?_, rfl, q _ (I5.hok.fresh (Nat.le_refl _))⟩
  exact ⟨(by show 2 ≤ sizeLine; decide), _, .cons rb (.cons ra .nil), IsTup.new _ _⟩
end
end Rs
set_option maxRecDepth 100000
set_option maxHeartbeats 4000000
/-! the law's own word behind a step: rule, drop, put -/
namespace K31
open PySem PySem.Spec PyProof.Rows L2 KA
section
variable {P : Program} {w : World} {K : PySem.W.Frag} {mg : Str → Option Value} {base : Heap}
variable {f fNm fN fB fS : Addr} {fdNm fdN fdB fdS : FuncData} {cdv : Value} {A : Around} {outer : List Env} {s : Shared} {H : Hp} {E : XK}
/-- a step of a form that may be possible, with its place -/
inductive Fm : List V → Nat → Prop
  | put (n : Nat) (v : V) (h : Fv v) : Fm [kPut, .int (n : Nat), v] n
  | drop (n : Nat) : Fm [kDrop, .int (n : Nat)] n
  | rule (m : Nat) (b : Bool) (n : Nat) : Fm [kRule, .int (m : Nat), .bl b, .int (n : Nat)] n
  | swap (n m k : Nat) : Fm [kSwap, .int (n : Nat), .int (m : Nat), .int (k : Nat)] n
inductive Fm8 : List V → Nat → Prop
  | rule (m : Nat) (b : Bool) (n : Nat) : Fm8 [kRule, .int (m : Nat), .bl b, .int (n : Nat)] n
  | swap (n m k : Nat) : Fm8 [kSwap, .int (n : Nat), .int (m : Nat), .int (k : Nat)] n
inductive Fm7 : List V → Nat → Prop
  | drop (n : Nat) : Fm7 [kDrop, .int (n : Nat)] n
  | more (st : List V) (n : Nat) (h : Fm8 st n) : Fm7 st n
abbrev TailB (D : Ends) (H1 : Hp) (q ls ps : Addr) (L l : List Nat) (rs : Rls) (R : List (List Int)) (st : List V) (t : TS) (n : Nat) : Prop := ∀ (y5 y6 y7 y9 y10 y11 y12 y13 y14 y15 y16 : Option V), Lw H1 q L ls rs l R → H1 ps = some (.tup st) →
      (∀ H', Same H1 H' → D.rt (vO (bh R L (wds rs) l st)) H') → t D [some (.ref q), some (tx L), some (.ref ls), some (tx l), some (.ref ps), y5, y6, y7, some (.int (n : Nat)), y9, y10, y11, y12, y13, y14, y15, y16] H1
theorem bh8 (B : Bn mg) (cNm : KT.Cb P w K mg base CX0 3 "_law_named" ["_law_rows", "_law_counts_now"] spNmd fNm fdNm) (cN : KT.Cb P w K mg base CX0 1 "_law_number_of" ["_law_one", "_law_letters_here"] spCof fN fdN) (hr : Room 3 (A.deeper (envOfC "_law_behind" (defScope sBeh) s.heap.objs.size f cdv))) :
    ∃ t, PSs (XBh P w K mg base f cdv A outer s H E) ((defBody sBeh).drop 8) t ∧ ∀ (D : Ends) (H1 : Hp) (q ls ps : Addr) (L l : List Nat) (rs : Rls) (R : List (List Int)) (st : List V) (n : Nat), Fm8 st n → TailB D H1 q ls ps L l rs R st t n := by
  obtain ⟨t9, P9, R9⟩ := bh9 (P := P) (w := w) (K := K) (base := base) (f := f) (cdv := cdv) (A := A) (outer := outer) (s := s) (H := H) (E := E) B cNm cN hr
  refine ⟨_, pss_cons (ps_if (pt_cmpR op_eq (pe_ix ix_tup (pv 4) pe_int (fun _ _ => rfl)) pe_str (nomark _))
      (pss_cons (ps_if (PW.pt (pw_or (pt_cmpR op_ge (pe_ix ix_tup (pv 4) pe_int (fun _ _ => rfl)) (pe_callB call_len_seq (by rfl) B.len PySem.boot_len (pa_cons (pv 2) pa_nil)) (nomark _))
          (pw_or1 (pt_cmpR op_gt (pv 8) (pe_callB call_len_str (by rfl) B.len PySem.boot_len (pa_cons (pv 3) pa_nil)) (nomark _))))) (pss_one (ps_ret pe_non)) pss_nil)
      (pss_cons (ps_asg (pe_ifExp (pt_val (pe_ix ix_tup (pv 4) pe_int (fun _ _ => rfl))) (pe_ix ix_list (pv 2) (pe_ix ix_tup (pv 4) pe_int (fun _ _ => rfl)) (fun _ _ => rfl)) (Rs.e_revT (pe_ix ix_list (pv 2) (pe_ix ix_tup (pv 4) pe_int (fun _ _ => rfl)) (fun _ _ => rfl))))
          (pg_tup rfl (pgs_cons (pg_name (i := 10) scBeh.nd rfl (.inl rfl)) (pgs_cons (pg_name (i := 11) scBeh.nd rfl (.inl rfl)) pgs_nil))))
      (pss_cons (ps_if (pt_cmpR op_ne (pe_slice sl_str (pv 3) (po_some (pv 8)) (po_some (pe_op op_add (pv 8) (pe_callB call_len_str (by rfl) B.len PySem.boot_len (pa_cons (pv 10) pa_nil))))) (pv 10) (nomark _)) (pss_one (ps_ret pe_non)) pss_nil)
      (pss_one (ps_ret (pe_op op_add_str (pe_op op_add_str (pe_slice sl_str (pv 3) po_none (po_some (pv 8))) (pv 11)) (pe_slice sl_str (pv 3) (po_some (pe_op op_add (pv 8) (pe_callB call_len_str (by rfl) B.len PySem.boot_len (pa_cons (pv 10) pa_nil)))) po_none)))))))
      pss_nil) P9, ?_⟩
  intro D H1 q ls ps L l rs R st n hf y5 y6 y7 y9 y10 y11 y12 y13 y14 y15 y16 lw hps qq
  cases hf with
  | swap n m k =>
    rw [bh_swap] at qq
    refine ⟨_, rfl, ps, _, 0, _, rfl, rfl, SqT.of hps, rfl, rfl, false, congrArg V.bl (decide_eq_false (by decide)), iteF ?_⟩
    exact R9 D H1 q ls ps L l rs R _ m k _ _ _ _ _ _ _ _ _ _ _ lw hps qq
  | rule m b n =>
    rw [bh_rule] at qq
    have hl := lw.len
    have ab := asc_le (w := l) (by omega)
    refine ⟨_, rfl, ps, _, 0, _, rfl, rfl, SqT.of hps, rfl, rfl, true, congrArg V.bl (decide_eq_true rfl), iteT ?_⟩
    refine ⟨_, rfl, ps, _, 1, _, rfl, rfl, SqT.of hps, rfl, _, rfl, ls, rfs rs, rfl, .inl (SqL.of lw.ls), _, _, rfl, rfl, ?_⟩
    rw [List.length_map]
    have el : (wds rs).length = rs.length := List.length_map _
    have qq : ∀ H', Same H1 H' → D.rt (vO (if (inR (.int (m : Nat)) 0 (((wds rs).length : Nat) - 1) && true) = true then (if (inR (.int (n : Nat)) 0 (l.length : Nat) && decide ((l.drop n).take (oldS ((wds rs).getD m []) (.bl b)).length = oldS ((wds rs).getD m []) (.bl b))) = true then some (l.take n ++ newS ((wds rs).getD m []) (.bl b) ++ l.drop (n + (oldS ((wds rs).getD m []) (.bl b)).length)) else none) else none)) H' := qq
    have in1 : inR (.int (m : Nat)) 0 (((wds rs).length : Nat) - 1) = decide (m < rs.length) := by
      show (decide ((0 : Int) ≤ ((m : Nat) : Int)) && decide (((m : Nat) : Int) ≤ ((wds rs).length : Nat) - 1)) = _
      rw [decide_eq_true (show (0 : Int) ≤ ((m : Nat) : Int) by omega), el, Bool.true_and]
      exact decide_eq_decide.mpr ⟨fun h => by omega, fun h => by omega⟩
    have in2 : inR (.int (n : Nat)) 0 (l.length : Nat) = decide (n ≤ l.length) := by
      show (decide ((0 : Int) ≤ ((n : Nat) : Int)) && decide (((n : Nat) : Int) ≤ (l.length : Nat))) = _
      rw [decide_eq_true (show (0 : Int) ≤ ((n : Nat) : Int) by omega), Bool.true_and]
      exact decide_eq_decide.mpr ⟨fun h => by omega, fun h => by omega⟩
    rw [in1, in2] at qq
    by_cases hm : m < rs.length
    · rw [decide_eq_true hm] at qq
      refine ⟨false, congrArg V.bl (decide_eq_false (by omega)), iteF ⟨_, rfl, _, rfl, _, rfl, ab, _, _, rfl, rfl, ?_⟩⟩
      rw [tx_len]
      by_cases hn : n ≤ l.length
      · rw [decide_eq_true hn] at qq
        refine ⟨false, congrArg V.bl (decide_eq_false (by omega)), iteF ?_⟩
        have gl : rs[m]? = some rs[m] := List.getElem?_eq_getElem hm
        have hmem : rs[m] ∈ rs := List.getElem_mem hm
        have gd : (wds rs).getD m [] = rs[m].2 := by
          rw [List.getD_eq_getElem?_getD, List.getElem?_map, gl]
          rfl
        have tr := (lw.tw _ hmem).1
        have hok1 := lw.ok _ (List.mem_map.mpr ⟨_, hmem, rfl⟩)
        have hat : atI (rfs rs) ((m : Nat) : Int) = some (.ref rs[m].1) := by
          refine atI_nat ?_
          rw [List.getElem?_map, gl]
          rfl
        rw [gd] at qq
        generalize rs[m] = r at gl hmem tr hok1 hat qq
        obtain ⟨r0, ws⟩ := r
        obtain ⟨u, v, rfl, hu, hv, _, _⟩ := okR_two hok1
        have tr : H1 r0 = some (.tup [tx u, tx v]) := tr
        cases b with
        | true =>
          have q : D.rt (vO (if (true && decide ((l.drop n).take u.length = u)) = true then some (l.take n ++ v ++ l.drop (n + u.length)) else none)) H1 := qq H1 (Same.refl _)
          refine ⟨_, rfl, ps, _, 2, _, rfl, rfl, SqT.of hps, rfl, true, rfl, iteT ?_⟩
          refine ⟨_, rfl, _, rfl, ps, _, 1, _, rfl, rfl, SqT.of hps, rfl, ls, _, _, _, rfl, rfl, SqL.of lw.ls, hat, r0, _, rfl, SqT.of tr, rfl, _, _, rfl, _, _, rfl, rfl, ?_⟩
          have ao := asc_le (w := u) (by omega)
          have ec : cutS (SX.S l) (some (n : Int)) (some ((n : Int) + ((SX.S u).length : Nat))) = SX.S ((l.drop n).take u.length) := by
            rw [tx_len]
            exact cut_mid l n u.length
          have e1 : (n : Int) + ((SX.S u).length : Nat) = ((n + u.length : Nat) : Int) := by rw [tx_len]; omega
          refine ⟨_, rfl, _, rfl, _, rfl, _, rfl, _, rfl, _, rfl, ao, _, _, rfl, rfl, _, rfl, _, rfl, ab, ?_⟩
          rw [ec]
          by_cases he : (l.drop n).take u.length = u
          · rw [decide_eq_true he] at q
            refine ⟨_, rfl, rfl, false, congrArg V.bl (show (!decide (tx ((l.drop n).take u.length) = tx u)) = false by rw [decide_eq_true (by rw [he])]; rfl), iteF ?_⟩
            have tl : (l.take n).length ≤ 100 := by rw [List.length_take]; omega
            have dl : (l.drop (n + u.length)).length ≤ 100 := by rw [List.length_drop]; omega
            refine ⟨_, rfl, _, rfl, _, rfl, _, rfl, ab, ?_⟩
            rw [cut_to]
            refine ⟨_, rfl, _, _, rfl, rfl, cl2 (by omega), ?_⟩
            rw [SX.S_cat]
            refine ⟨_, rfl, _, rfl, _, rfl, _, rfl, ao, _, _, rfl, rfl, _, rfl, _, rfl, ab, ?_⟩
            dsimp only
            rw [e1, cut_from]
            refine ⟨_, _, rfl, rfl, cl2 (by rw [List.length_append]; omega), ?_⟩
            rw [SX.S_cat]
            exact q
          · rw [decide_eq_false he] at q
            refine ⟨_, rfl, rfl, true, congrArg V.bl (show (!decide (tx ((l.drop n).take u.length) = tx u)) = true by rw [decide_eq_false (fun h => he (by injection h with h; exact SX.S_inj h))]; rfl), iteT q⟩
        | false =>
          refine ⟨_, rfl, ps, _, 2, _, rfl, rfl, SqT.of hps, rfl, false, rfl, iteF ?_⟩
          refine ⟨_, rfl, _, rfl, ps, _, 1, _, rfl, rfl, SqT.of hps, rfl, ls, _, _, _, rfl, rfl, SqL.of lw.ls, hat, r0, tx u, tx v, rfl, SqT.of tr, fun p np => ⟨p, _, rfl, SqT.of upd_same, rfl, _, _, rfl, _, _, rfl, rfl, ?_⟩⟩
          have q : D.rt (vO (if (true && decide ((l.drop n).take v.length = v)) = true then some (l.take n ++ u ++ l.drop (n + v.length)) else none)) (upd H1 p (.tup [tx v, tx u])) := qq _ (same_new np)
          have ao := asc_le (w := v) (by omega)
          have ec : cutS (SX.S l) (some (n : Int)) (some ((n : Int) + ((SX.S v).length : Nat))) = SX.S ((l.drop n).take v.length) := by
            rw [tx_len]
            exact cut_mid l n v.length
          have e1 : (n : Int) + ((SX.S v).length : Nat) = ((n + v.length : Nat) : Int) := by rw [tx_len]; omega
          refine ⟨_, rfl, _, rfl, _, rfl, _, rfl, _, rfl, _, rfl, ao, _, _, rfl, rfl, _, rfl, _, rfl, ab, ?_⟩
          rw [ec]
          by_cases he : (l.drop n).take v.length = v
          · rw [decide_eq_true he] at q
            refine ⟨_, rfl, rfl, false, congrArg V.bl (show (!decide (tx ((l.drop n).take v.length) = tx v)) = false by rw [decide_eq_true (by rw [he])]; rfl), iteF ?_⟩
            have tl : (l.take n).length ≤ 100 := by rw [List.length_take]; omega
            have dl : (l.drop (n + v.length)).length ≤ 100 := by rw [List.length_drop]; omega
            refine ⟨_, rfl, _, rfl, _, rfl, _, rfl, ab, ?_⟩
            rw [cut_to]
            refine ⟨_, rfl, _, _, rfl, rfl, cl2 (by omega), ?_⟩
            rw [SX.S_cat]
            refine ⟨_, rfl, _, rfl, _, rfl, _, rfl, ao, _, _, rfl, rfl, _, rfl, _, rfl, ab, ?_⟩
            dsimp only
            rw [e1, cut_from]
            refine ⟨_, _, rfl, rfl, cl2 (by rw [List.length_append]; omega), ?_⟩
            rw [SX.S_cat]
            exact q
          · rw [decide_eq_false he] at q
            refine ⟨_, rfl, rfl, true, congrArg V.bl (show (!decide (tx ((l.drop n).take v.length) = tx v)) = true by rw [decide_eq_false (fun h => he (by injection h with h; exact SX.S_inj h))]; rfl), iteT q⟩
      · rw [decide_eq_false hn] at qq
        exact ⟨true, congrArg V.bl (decide_eq_true (by omega)), iteT (qq H1 (Same.refl _))⟩
    · rw [decide_eq_false hm] at qq
      exact ⟨true, congrArg V.bl (decide_eq_true (by omega)), iteT (iteT (qq H1 (Same.refl _)))⟩
theorem bh7 (B : Bn mg) (cNm : KT.Cb P w K mg base CX0 3 "_law_named" ["_law_rows", "_law_counts_now"] spNmd fNm fdNm) (cN : KT.Cb P w K mg base CX0 1 "_law_number_of" ["_law_one", "_law_letters_here"] spCof fN fdN) (cB : KT.Cb P w K mg base CX0 1 "_law_back" ["_law_sign"] spBack fB fdB) (hr : Room 3 (A.deeper (envOfC "_law_behind" (defScope sBeh) s.heap.objs.size f cdv))) :
    ∃ t, PSs (XBh P w K mg base f cdv A outer s H E) ((defBody sBeh).drop 7) t ∧ ∀ (D : Ends) (H1 : Hp) (q ls ps : Addr) (L l : List Nat) (rs : Rls) (R : List (List Int)) (st : List V) (n : Nat), Fm7 st n → TailB D H1 q ls ps L l rs R st t n := by
  obtain ⟨t8, P8, R8⟩ := bh8 (P := P) (w := w) (K := K) (base := base) (f := f) (cdv := cdv) (A := A) (outer := outer) (s := s) (H := H) (E := E) B cNm cN hr
  have r1 : Room 1 (A.deeper (envOfC "_law_behind" (defScope sBeh) s.heap.objs.size f cdv)) := hr.mono (by decide)
  refine ⟨_, pss_cons (ps_if (pt_cmpR op_eq (pe_ix ix_tup (pv 4) pe_int (fun _ _ => rfl)) pe_str (nomark _))
      (pss_cons (ps_set (i := 9) scBeh.nd rfl (.inl rfl) (pe_and (pe_cmpR op_lt (pe_op op_add (pv 8) pe_int) (pe_callB call_len_str (by rfl) B.len PySem.boot_len (pa_cons (pv 3) pa_nil)) (nomark _))
          (pe_one (pe_cmpR op_eq (pe_ix ix_str (pv 3) (pv 8) (fun _ _ => rfl)) (pe_call cB.ok r1 (by rfl) cB.g cB.kp cB.b .nil pass0 (pa_cons (pe_ix ix_str (pv 3) (pe_op op_add (pv 8) pe_int) (fun _ _ => rfl)) pa_nil)) (nomark _)))))
      (pss_one (ps_ret (pe_ifExp (pt_val (pv 9)) (pe_op op_add_str (pe_slice sl_str (pv 3) po_none (po_some (pv 8))) (pe_slice sl_str (pv 3) (po_some (pe_op op_add (pv 8) pe_int)) po_none)) pe_non))))
      pss_nil) P8, ?_⟩
  intro D H1 q ls ps L l rs R st n hf y5 y6 y7 y9 y10 y11 y12 y13 y14 y15 y16 lw hps qq
  cases hf with
  | more _ _ h8 =>
    have h0 : ∃ k rest, st = k :: rest ∧ scal k kDrop = true ∧ k ≠ kDrop := by
      cases h8 with
      | rule m b n => exact ⟨_, _, rfl, rfl, by decide⟩
      | swap n m k => exact ⟨_, _, rfl, rfl, by decide⟩
    obtain ⟨k, rest, rfl, sc, ne⟩ := h0
    refine ⟨_, rfl, ps, _, 0, _, rfl, rfl, SqT.of hps, atI_nat (j := 0) rfl, sc, false, congrArg V.bl (decide_eq_false ne), iteF ?_⟩
    exact R8 D H1 q ls ps L l rs R _ n h8 _ _ _ _ _ _ _ _ _ _ _ lw hps qq
  | drop n =>
    rw [bh_drop] at qq
    have hl := lw.len
    have ab := asc_le (w := l) (by omega)
    have hA := isW_asc lw.lt lw.w
    refine ⟨_, rfl, ps, _, 0, _, rfl, rfl, SqT.of hps, rfl, rfl, true, congrArg V.bl (decide_eq_true rfl), iteT ?_⟩
    have qq : ∀ H', Same H1 H' → D.rt (vO (if (inR (.int (n : Nat)) 0 ((l.length : Nat) - 2) && decide (l[n]? = (l[n + 1]?).map sw)) = true then some (l.take n ++ l.drop (n + 2)) else none)) H' := qq
    have in1 : inR (.int (n : Nat)) 0 ((l.length : Nat) - 2) = decide (n + 1 < l.length) := by
      show (decide ((0 : Int) ≤ ((n : Nat) : Int)) && decide (((n : Nat) : Int) ≤ (l.length : Nat) - 2)) = _
      rw [decide_eq_true (show (0 : Int) ≤ ((n : Nat) : Int) by omega), Bool.true_and]
      exact decide_eq_decide.mpr ⟨fun h => by omega, fun h => by omega⟩
    rw [in1] at qq
    have e1 : (n : Int) + 1 = ((n + 1 : Nat) : Int) := by omega
    have e3 : (n : Int) + 2 = ((n + 2 : Nat) : Int) := by omega
    refine ⟨_, rfl, _, _, rfl, rfl, _, rfl, _, rfl, ab, _, _, rfl, rfl, ?_⟩
    rw [tx_len]
    by_cases h2 : n + 1 < l.length
    · rw [decide_eq_true h2] at qq
      have h1 : n < l.length := by omega
      have g1 : l[n]? = some l[n] := List.getElem?_eq_getElem h1
      have g2 : l[n + 1]? = some l[n + 1] := List.getElem?_eq_getElem h2
      have c2 := hA _ (List.getElem_mem h2)
      generalize l[n] = c at g1
      generalize l[n + 1] = d at g2 c2
      rw [g1, g2] at qq
      refine ⟨true, congrArg V.bl (decide_eq_true (by omega)), iteT ?_⟩
      refine ⟨_, rfl, _, rfl, SX.S l, _, c, rfl, rfl, ab, atI_nat g1, _, rfl, _, rfl, _, _, rfl, rfl, SX.S l, _, d, rfl, rfl, ab, ?_, d, rfl, c2, rfl, ?_⟩
      · rw [e1]
        exact atI_nat g2
      by_cases hcd : c = sw d
      · have hq : D.rt (tx (l.take n ++ l.drop (n + 2))) H1 := by
          have z := qq H1 (Same.refl _)
          have e : decide (some c = Option.map sw (some d)) = true := decide_eq_true (by rw [hcd]; rfl)
          rw [e] at z
          exact z
        refine ⟨_, rfl, true, congrArg V.bl (decide_eq_true (show tx [c] = tx [sw d] by rw [hcd])), iteT ?_⟩
        refine ⟨_, rfl, _, rfl, _, rfl, _, rfl, ab, ?_⟩
        rw [cut_to]
        refine ⟨_, rfl, _, rfl, _, _, rfl, rfl, _, rfl, _, rfl, ab, ?_⟩
        dsimp only
        rw [e3, cut_from]
        refine ⟨_, _, rfl, rfl, cl2 (by rw [List.length_take, List.length_drop]; omega), ?_⟩
        rw [SX.S_cat]
        exact hq
      · have hq : D.rt .non H1 := by
          have z := qq H1 (Same.refl _)
          have e : decide (some c = Option.map sw (some d)) = false := decide_eq_false fun h => hcd (by injection h)
          rw [e] at z
          exact z
        have ne : tx [c] ≠ tx [sw d] := fun h => hcd (by
          injection h with h
          have h := SX.S_inj h
          injection h)
        exact ⟨_, rfl, false, congrArg V.bl (decide_eq_false ne), iteF hq⟩
    · rw [decide_eq_false h2] at qq
      exact ⟨false, congrArg V.bl (decide_eq_false (by omega)), iteF ⟨_, rfl, false, rfl, iteF (qq H1 (Same.refl _))⟩⟩
theorem bh6 (B : Bn mg) (cNm : KT.Cb P w K mg base CX0 3 "_law_named" ["_law_rows", "_law_counts_now"] spNmd fNm fdNm) (cN : KT.Cb P w K mg base CX0 1 "_law_number_of" ["_law_one", "_law_letters_here"] spCof fN fdN) (cB : KT.Cb P w K mg base CX0 1 "_law_back" ["_law_sign"] spBack fB fdB) (cS : KT.Cb P w K mg base CX0 1 "_law_signs" ["_law_letters_here"] spSigns fS fdS) (hr : Room 3 (A.deeper (envOfC "_law_behind" (defScope sBeh) s.heap.objs.size f cdv))) :
    ∃ t, PSs (XBh P w K mg base f cdv A outer s H E) ((defBody sBeh).drop 6) t ∧ ∀ (D : Ends) (H1 : Hp) (q ls ps : Addr) (L l : List Nat) (rs : Rls) (R : List (List Int)) (st : List V) (n : Nat), Fm st n → TailB D H1 q ls ps L l rs R st t n := by
  obtain ⟨t7, P7, R7⟩ := bh7 (P := P) (w := w) (K := K) (base := base) (f := f) (cdv := cdv) (A := A) (outer := outer) (s := s) (H := H) (E := E) B cNm cN cB hr
  have r1 : Room 1 (A.deeper (envOfC "_law_behind" (defScope sBeh) s.heap.objs.size f cdv)) := hr.mono (by decide)
  refine ⟨_, pss_cons (ps_if (pt_cmpR op_eq (pe_ix ix_tup (pv 4) pe_int (fun _ _ => rfl)) pe_str (nomark _))
      (pss_cons (ps_if (PW.pt (pw_or (pt_not (pt_val (pe_callB call_isi (by rfl) B.isinst boot_isinstance (pa_cons (pe_ix ix_tup (pv 4) pe_int (fun _ _ => rfl)) (pa_cons (pe_bltn (v := .ty "str") (by rfl) B.str PyProof.Rows.boot_str rfl) pa_nil)))))
          (pw_or (pt_cmpR op_ne (pe_callB call_len_str (by rfl) B.len PySem.boot_len (pa_cons (pe_ix ix_tup (pv 4) pe_int (fun _ _ => rfl)) pa_nil)) pe_int (nomark _))
          (pw_or1 (pt_cmpR op_gt (pv 8) (pe_callB call_len_str (by rfl) B.len PySem.boot_len (pa_cons (pv 3) pa_nil)) (nomark _)))))) (pss_one (ps_ret pe_non)) pss_nil)
      (pss_cons (ps_if (pt_cmpR op_notIn_sign (pe_ix ix_tup (pv 4) pe_int (fun _ _ => rfl)) (pe_call cS.ok r1 (by rfl) cS.g cS.kp cS.b .nil pass0 (pa_cons (pv 1) pa_nil)) (by rfl)) (pss_one (ps_ret pe_non)) pss_nil)
      (pss_one (ps_ret (pe_op op_add_str (pe_op op_add_str (pe_op op_add_str (pe_slice sl_str (pv 3) po_none (po_some (pv 8))) (pe_ix ix_tup (pv 4) pe_int (fun _ _ => rfl))) (pe_call cB.ok r1 (by rfl) cB.g cB.kp cB.b .nil pass0 (pa_cons (pe_ix ix_tup (pv 4) pe_int (fun _ _ => rfl)) pa_nil))) (pe_slice sl_str (pv 3) (po_some (pv 8)) po_none))))))
      pss_nil) P7, ?_⟩
  intro D H1 q ls ps L l rs R st n hf y5 y6 y7 y9 y10 y11 y12 y13 y14 y15 y16 lw hps qq
  have other : ∀ k rest, st = k :: rest → scal k kPut = true → k ≠ kPut → Fm7 st n → _ := fun k rest e sc ne h7 => R7 D H1 q ls ps L l rs R st n h7 y5 y6 y7 y9 y10 y11 y12 y13 y14 y15 y16 lw hps qq
  cases hf with
  | drop n => exact ⟨_, rfl, ps, _, 0, _, rfl, rfl, SqT.of hps, rfl, rfl, false, congrArg V.bl (decide_eq_false (by decide)), iteF (other _ _ rfl rfl (by decide) (.drop n))⟩
  | rule m b n => exact ⟨_, rfl, ps, _, 0, _, rfl, rfl, SqT.of hps, rfl, rfl, false, congrArg V.bl (decide_eq_false (by decide)), iteF (other _ _ rfl rfl (by decide) (.more _ _ (.rule m b n)))⟩
  | swap n m k => exact ⟨_, rfl, ps, _, 0, _, rfl, rfl, SqT.of hps, rfl, rfl, false, congrArg V.bl (decide_eq_false (by decide)), iteF (other _ _ rfl rfl (by decide) (.more _ _ (.swap n m k)))⟩
  | put n v hv =>
    rw [bh_put] at qq
    have hl := lw.len
    have ab := asc_le (w := l) (by omega)
    refine ⟨_, rfl, ps, _, 0, _, rfl, rfl, SqT.of hps, rfl, rfl, true, congrArg V.bl (decide_eq_true rfl), iteT ?_⟩
    have qq : ∀ H', Same H1 H' → D.rt (vO (if (inR (.int (n : Nat)) 0 (l.length : Nat) && isS L v) = true then some (l.take n ++ toL v ++ opp (toL v) ++ l.drop n) else none)) H' := qq
    have in2 : inR (.int (n : Nat)) 0 (l.length : Nat) = decide (n ≤ l.length) := by
      show (decide ((0 : Int) ≤ ((n : Nat) : Int)) && decide (((n : Nat) : Int) ≤ (l.length : Nat))) = _
      rw [decide_eq_true (show (0 : Int) ≤ ((n : Nat) : Int) by omega), Bool.true_and]
      exact decide_eq_decide.mpr ⟨fun h => by omega, fun h => by omega⟩
    rw [in2] at qq
    have ix2 : ∀ Q : VK, Q v H1 → tOp (rIxT K) (tVar 4) (tC (.int 2)) [some (.ref q), some (tx L), some (.ref ls), some (tx l), some (.ref ps), y5, y6, y7, some (.int (n : Nat)), y9, y10, y11, y12, y13, y14, y15, y16] H1 Q := fun Q h => ⟨_, rfl, ps, _, 2, v, rfl, rfl, SqT.of hps, rfl, h⟩
    cases hv with
    | int i =>
      have z := qq H1 (Same.refl _)
      have e : isS L (.int i) = false := rfl
      rw [e, Bool.and_false] at z
      exact ⟨_, rfl, ps, _, 2, _, rfl, rfl, SqT.of hps, rfl, _, _, _, _, false, rfl, .ty _, .base (.int i), kit_ty (by decide +kernel), false, rfl, iteT (iteT z)⟩
    | bl b =>
      have z := qq H1 (Same.refl _)
      have e : isS L (.bl b) = false := rfl
      rw [e, Bool.and_false] at z
      exact ⟨_, rfl, ps, _, 2, _, rfl, rfl, SqT.of hps, rfl, _, _, _, _, false, rfl, .ty _, .base (.bl b), kit_ty (by decide +kernel), false, rfl, iteT (iteT z)⟩
    | str l2 h2 hA2 =>
      have e1 : isS L (tx l2) = (decide (l2.length = 1) && isW l2 L) := rfl
      rw [e1] at qq
      refine ⟨_, rfl, ps, _, 2, _, rfl, rfl, SqT.of hps, rfl, _, _, _, _, true, rfl, .ty _, .base (.str _), kit_ty (by decide +kernel), true, rfl, iteF ?_⟩
      refine ⟨_, rfl, ps, _, 2, _, rfl, rfl, SqT.of hps, rfl, _, rfl, asc_le (w := l2) (by omega), rfl, ?_⟩
      rw [tx_len]
      by_cases h1 : l2.length = 1
      · match l2, h1 with
        | [c], _ =>
          refine ⟨false, rfl, iteF ?_⟩
          refine ⟨_, rfl, _, rfl, _, rfl, ab, _, _, rfl, rfl, ?_⟩
          rw [tx_len]
          by_cases hn : n ≤ l.length
          · rw [decide_eq_true hn] at qq
            refine ⟨false, congrArg V.bl (decide_eq_false (by omega)), iteF ?_⟩
            refine ⟨_, rfl, ps, _, 2, _, rfl, rfl, SqT.of hps, rfl, _, rfl, L, rfl, lw.lt, fun H2 s2 => ?_⟩
            have hps2 := s2 _ _ hps
            by_cases hc : c ∈ sg L
            · have e2 : isW [c] L = true := by
                show ([c].all fun c => decide (c ∈ sg L)) = true
                rw [List.all_cons, decide_eq_true hc]
                rfl
              rw [e2] at qq
              have qq : ∀ H', Same H1 H' → D.rt (tx (l.take n ++ [c] ++ opp [c] ++ l.drop n)) H' := qq
              refine ⟨c, SX.S (sg L), rfl, rfl, false, congrArg V.bl (show (!decide (c ∈ sg L)) = false by rw [decide_eq_true hc]; rfl), iteF ?_⟩
              have tl : (l.take n).length ≤ 100 := by rw [List.length_take]; omega
              have dl : (l.drop n).length ≤ 100 := by rw [List.length_drop]; omega
              have hc8 := sg_up lw.lt hc
              refine ⟨_, rfl, _, rfl, _, rfl, _, rfl, ab, ?_⟩
              rw [cut_to]
              refine ⟨_, rfl, ps, _, 2, _, rfl, rfl, SqT.of hps2, rfl, _, _, rfl, rfl, cl2 (b := [c]) (by show (l.take n).length + 1 ≤ 1000; omega), ?_⟩
              rw [SX.S_cat]
              refine ⟨_, rfl, ps, _, 2, _, rfl, rfl, SqT.of hps2, rfl, c, rfl, hc8, _, _, rfl, rfl, cl2 (a := l.take n ++ [c]) (b := [sw c]) (by rw [List.length_append]; show (l.take n).length + 1 + 1 ≤ 1000; omega), ?_⟩
              rw [SX.S_cat]
              refine ⟨_, rfl, _, rfl, _, rfl, _, rfl, ab, ?_⟩
              rw [cut_from]
              refine ⟨_, _, rfl, rfl, cl2 (by rw [List.length_append, List.length_append]; show (l.take n).length + 1 + 1 + (l.drop n).length ≤ 1000; omega), ?_⟩
              rw [SX.S_cat]
              exact qq H2 s2
            · have e2 : isW [c] L = false := by
                show ([c].all fun c => decide (c ∈ sg L)) = false
                rw [List.all_cons, decide_eq_false hc]
                rfl
              rw [e2] at qq
              exact ⟨c, SX.S (sg L), rfl, rfl, true, congrArg V.bl (show (!decide (c ∈ sg L)) = true by rw [decide_eq_false hc]; rfl), iteT (qq H2 s2)⟩
          · rw [decide_eq_false hn] at qq
            exact ⟨true, congrArg V.bl (decide_eq_true (by omega)), iteT (qq H1 (Same.refl _))⟩
      · rw [decide_eq_false h1, Bool.false_and, Bool.and_false] at qq
        exact ⟨true, congrArg V.bl (show (!decide (V.int (l2.length : Nat) = V.int 1)) = true by rw [decide_eq_false (fun z => h1 (by injection z with z; omega))]; rfl), iteT (iteT (qq H1 (Same.refl _)))⟩
end
end K31
set_option maxRecDepth 100000
set_option maxHeartbeats 4000000
/-! the law's own word behind a step: its form -/
namespace K31
open PySem PySem.Spec PyProof.Rows L2 KA
abbrev tS1 (K : PySem.W.Frag) : TE := tSl (rSlT K) (tVar 4) (tPart (tC (.int 1))) (tPart (tC (.int 2)))
abbrev tS2 (K : PySem.W.Frag) : TE := tSl (rSlT K) (tVar 4) (tPart (tC (.int 1))) tNoPart
abbrev tS3 (K : PySem.W.Frag) : TE := tSl (rSlT K) (tVar 4) (tPart (tC (.int 3))) tNoPart
abbrev tNums (K : PySem.W.Frag) : TE := tDGet (tDisp [(tC kPut, tS1 K), (tC kDrop, tS2 K), (tC kRule, tOp (rCatA K) (tS1 K) (tS3 K)), (tC kSwap, tS2 K)]) (tOp (rIxT K) (tVar 4) (tC (.int 0)))
theorem t_nums {K : PySem.W.Frag} {y0 y1 y2 y3 : Option V} {σr : List (Option V)} {H1 : Hp} {ps : Addr} {k : V} {rest : List V} {Q : VK} (hps : H1 ps = some (.tup (k :: rest))) (h1 : HT.sIx (rest.length + 1) 0 (some 1) ≠ 0) (h3 : HT.sIx (rest.length + 1) 0 (some 3) ≠ 0) (hl : rest.length ≤ 100)
    (hc : cutV (k :: rest) (some 1) (some 2) ≠ []) (hk : k = kPut ∨ k = kDrop ∨ k = kRule ∨ k = kSwap)
    (q : ∀ (H' : Hp) (pn : Addr) (c : List V), Same H1 H' → H' pn = some (.tup c) → (k = kPut → c = cutV (k :: rest) (some 1) (some 2)) → (k = kDrop ∨ k = kSwap → c = cutV (k :: rest) (some 1) none) → (k = kRule → c = cutV (k :: rest) (some 1) (some 2) ++ cutV (k :: rest) (some 3) none) → Q (.ref pn) H') :
    tNums K (y0 :: y1 :: y2 :: y3 :: some (.ref ps) :: σr) H1 Q := by
  intro p np
  have sa : Same H1 (upd H1 p (.dK [])) := same_new np
  have hpa : (upd H1 p (.dK [])) p = some (.dK []) := upd_same
  generalize upd H1 p (.dK []) = Ha at sa hpa
  have ha := sa _ _ hps
  refine ⟨_, rfl, 1, rfl, 2, rfl, ps, _, rfl, SqT.of ha, fun z => h1 z.1, fun p1 n1 => ?_⟩
  have sb : Same Ha (upd Ha p1 (.tup (cutV (k :: rest) (some 1) (some 2)))) := same_new n1
  have g1 : (upd Ha p1 (.tup (cutV (k :: rest) (some 1) (some 2)))) p1 = some (.tup (cutV (k :: rest) (some 1) (some 2))) := upd_same
  generalize upd Ha p1 (.tup (cutV (k :: rest) (some 1) (some 2))) = Hb at sb g1
  have hb := sb _ _ ha
  refine ⟨_, rfl, 1, rfl, ps, _, rfl, SqT.of hb, fun z => h1 z.1, fun p2 n2 => ?_⟩
  have sc : Same Hb (upd Hb p2 (.tup (cutV (k :: rest) (some 1) none))) := same_new n2
  have g2 : (upd Hb p2 (.tup (cutV (k :: rest) (some 1) none))) p2 = some (.tup (cutV (k :: rest) (some 1) none)) := upd_same
  generalize upd Hb p2 (.tup (cutV (k :: rest) (some 1) none)) = Hc at sc g2
  have hcc := sc _ _ hb
  refine ⟨_, rfl, 1, rfl, 2, rfl, ps, _, rfl, SqT.of hcc, fun z => h1 z.1, fun p3 n3 => ?_⟩
  have sd : Same Hc (upd Hc p3 (.tup (cutV (k :: rest) (some 1) (some 2)))) := same_new n3
  have g3 : (upd Hc p3 (.tup (cutV (k :: rest) (some 1) (some 2)))) p3 = some (.tup (cutV (k :: rest) (some 1) (some 2))) := upd_same
  generalize upd Hc p3 (.tup (cutV (k :: rest) (some 1) (some 2))) = Hd at sd g3
  have hd := sd _ _ hcc
  refine ⟨_, rfl, 3, rfl, ps, _, rfl, SqT.of hd, fun z => h3 z.1, fun p4 n4 => ?_⟩
  have se : Same Hd (upd Hd p4 (.tup (cutV (k :: rest) (some 3) none))) := same_new n4
  have g4 : (upd Hd p4 (.tup (cutV (k :: rest) (some 3) none))) p4 = some (.tup (cutV (k :: rest) (some 3) none)) := upd_same
  generalize upd Hd p4 (.tup (cutV (k :: rest) (some 3) none)) = He at se g4
  have he := se _ _ hd
  have g3e := se _ _ g3
  have fin : ∀ (Hf : Hp) (pr : Addr), Same He Hf → Hf pr = some (.tup (cutV (k :: rest) (some 1) (some 2) ++ cutV (k :: rest) (some 3) none)) →
      tS2 K (y0 :: y1 :: y2 :: y3 :: some (.ref ps) :: σr) Hf fun y H2 => H2 p = some (.dK []) ∧ ∃ kvs : List (Key × V), [(kPut, V.ref p1), (kDrop, .ref p2), (kRule, .ref pr), (kSwap, y)] = kvs.map (fun kv => (kV kv.1, kv.2)) ∧ kvs.length ≤ 15 ∧ tOp (rIxT K) (tVar 4) (tC (.int 0)) (y0 :: y1 :: y2 :: y3 :: some (.ref ps) :: σr) (upd H2 p (.dK (mergeK [] kvs))) fun y H2 => ∃ a v, V.ref p = .ref a ∧ DGet H2 a y (some v) ∧ Q v H2 := by
    intro Hf pr sf gr
    have hf := sf _ _ he
    refine ⟨_, rfl, 1, rfl, ps, _, rfl, SqT.of hf, fun z => h1 z.1, fun p5 n5 => ?_⟩
    have sg : Same Hf (upd Hf p5 (.tup (cutV (k :: rest) (some 1) none))) := same_new n5
    have g5 : (upd Hf p5 (.tup (cutV (k :: rest) (some 1) none))) p5 = some (.tup (cutV (k :: rest) (some 1) none)) := upd_same
    generalize upd Hf p5 (.tup (cutV (k :: rest) (some 1) none)) = Hg at sg g5
    have sag : Same Ha Hg := ((((sb.trans sc).trans sd).trans se).trans sf).trans sg
    refine ⟨sag _ _ hpa, [(.inr (Str.ofString "put"), .ref p1), (.inr (Str.ofString "drop"), .ref p2), (.inr (Str.ofString "rule"), .ref pr), (.inr (Str.ofString "swap"), .ref p5)], rfl, (by show 4 ≤ 15; decide), ?_⟩
    obtain ⟨kvs, ek⟩ : ∃ kvs : List (Key × V), kvs = mergeK [] [(.inr (Str.ofString "put"), .ref p1), (.inr (Str.ofString "drop"), .ref p2), (.inr (Str.ofString "rule"), .ref pr), (.inr (Str.ofString "swap"), .ref p5)] := ⟨_, rfl⟩
    rw [← ek]
    have keep : ∀ b o, H1 b = some o → (upd Hg p (.dK kvs)) b = some o := fun b o e => by
      rw [upd_ne (ne_of_none e np)]
      exact sag _ _ (sa _ _ e)
    have keep2 : ∀ b ys, Hg b = some (.tup ys) → (upd Hg p (.dK kvs)) b = some (.tup ys) := fun b ys e => by
      have ne : b ≠ p := fun z => by
        rw [z, sag _ _ hpa] at e
        cases e
      rw [upd_ne ne]
      exact e
    refine ⟨_, rfl, ps, _, 0, _, rfl, rfl, SqT.of (keep _ _ hps), atI_nat (j := 0) rfl, p, ?_⟩
    have gd : ∀ (z : Str) (v : V), valV kvs (.inr z) = some v → DGet (upd Hg p (.dK kvs)) p (.str z) (some v) := fun z v e => .inl ⟨kvs, .inr z, .inl upd_same, rfl, e.symm⟩
    rcases hk with rfl | rfl | rfl | rfl
    · refine ⟨.ref p1, rfl, gd _ _ (by rw [ek]; rfl), q _ p1 _ keep (keep2 _ _ (((((sc.trans sd).trans se).trans sf).trans sg) _ _ g1)) (fun _ => rfl) (fun z => by rcases z with z | z <;> exact absurd z (by decide)) (fun z => absurd z (by decide))⟩
    · refine ⟨.ref p2, rfl, gd _ _ (by rw [ek]; rfl), q _ p2 _ keep (keep2 _ _ ((((sd.trans se).trans sf).trans sg) _ _ g2)) (fun z => absurd z (by decide)) (fun _ => rfl) (fun z => absurd z (by decide))⟩
    · refine ⟨.ref pr, rfl, gd _ _ (by rw [ek]; rfl), q _ pr _ keep (keep2 _ _ (sg _ _ gr)) (fun z => absurd z (by decide)) (fun z => by rcases z with z | z <;> exact absurd z (by decide)) (fun _ => rfl)⟩
    · refine ⟨.ref p5, rfl, gd _ _ (by rw [ek]; rfl), q _ p5 _ keep (keep2 _ _ g5) (fun z => absurd z (by decide)) (fun _ => rfl) (fun z => absurd z (by decide))⟩
  refine ⟨p3, p4, _, _, rfl, rfl, SqT.of g3e, SqT.of g4, ?_, fun e => absurd e hc, fun _ e => ?_, fun _ e pr npr => ?_⟩
  · have z1 := cutV_length (k :: rest) (some 1) (some 2)
    have z2 := cutV_length (k :: rest) (some 3) none
    rw [List.length_cons] at z1 z2
    exact Nat.le_trans (show _ ≤ 202 by omega) (by decide)
  · exact fin He p3 (Same.refl _) (by rw [e, List.append_nil]; exact g3e)
  · exact fin _ pr (same_new npr) upd_same
def dV : V → PyData
  | .int i => .int i
  | .bl b => .bool b
  | .str z => .str z
  | _ => .none
def dT (st : List V) : PyData := .tuple (st.map dV)
theorem dpall_fv {K : PySem.W.Frag} {H : Hp} : ∀ {st : List V}, (∀ v ∈ st, Fv v) → DpAll K H st (st.map dV)
  | [], _ => .nil
  | v :: st, h => .cons (by
      have hv := h v List.mem_cons_self
      cases hv with
      | int i => exact .int i
      | bl b => exact .bl b
      | str l _ _ => exact .str _) (dpall_fv fun x hx => h x (List.mem_cons_of_mem _ hx))
theorem lay_fv : ∀ {st : List V}, (∀ v ∈ st, Fv v) → PyData.canLayAll0 (st.map dV) = true ∧ PyData.depthAll (st.map dV) ≤ 1
  | [], _ => by simp [PyData.canLayAll0, PyData.depthAll]
  | v :: st, h => by
    obtain ⟨h1, h2⟩ := lay_fv (st := st) fun x hx => h x (List.mem_cons_of_mem _ hx)
    have hv := h v List.mem_cons_self
    cases hv with
    | int i => exact ⟨by simp [PyData.canLayAll0, PyData.canLay0, dV, h1], by simp only [List.map_cons, dV, PyData.depthAll, PyData.depth]; omega⟩
    | bl b => exact ⟨by simp [PyData.canLayAll0, PyData.canLay0, dV, h1], by simp only [List.map_cons, dV, PyData.depthAll, PyData.depth]; omega⟩
    | str l _ hA => exact ⟨by simp [PyData.canLayAll0, PyData.canLay0, dV, h1, str_ok hA], by simp only [List.map_cons, dV, PyData.depthAll, PyData.depth]; omega⟩
theorem shaped_dT {st : List V} (h : ∀ v ∈ st, Fv v) : SeqAt.shaped (dT st) = true := by
  obtain ⟨h1, h2⟩ := lay_fv h
  have h3 : PyData.depth (dT st) ≤ 64 := by
    unfold dT
    simp only [PyData.depth]
    omega
  show (PyData.canLay0 (dT st) && decide (PyData.depth (dT st) ≤ 64)) = true
  rw [Bool.and_eq_true]
  exact ⟨by unfold dT; simp only [PyData.canLay0]; exact h1, decide_eq_true h3⟩
section
variable {P : Program} {w : World} {K : PySem.W.Frag} {mg : Str → Option Value} {base : Heap}
variable {f fNm fN fB fS : Addr} {fdNm fdN fdB fdS : FuncData} {cdv : Value} {A : Around} {outer : List Env} {s : Shared} {H : Hp} {E : XK}
theorem bh4 (B : Bn mg) (cNm : KT.Cb P w K mg base CX0 3 "_law_named" ["_law_rows", "_law_counts_now"] spNmd fNm fdNm) (cN : KT.Cb P w K mg base CX0 1 "_law_number_of" ["_law_one", "_law_letters_here"] spCof fN fdN) (cB : KT.Cb P w K mg base CX0 1 "_law_back" ["_law_sign"] spBack fB fdB) (cS : KT.Cb P w K mg base CX0 1 "_law_signs" ["_law_letters_here"] spSigns fS fdS) (hr : Room 3 (A.deeper (envOfC "_law_behind" (defScope sBeh) s.heap.objs.size f cdv))) :
    ∃ t, PSs (XBh P w K mg base f cdv A outer s H E) ((defBody sBeh).drop 4) t ∧ ∀ (D : Ends) (H1 : Hp) (q ls ps pn : Addr) (L l : List Nat) (rs : Rls) (R : List (List Int)) (st c : List V) (y5 y7 y8 y9 y10 y11 y12 y13 y14 y15 y16 : Option V), Lw H1 q L ls rs l R → H1 ps = some (.tup st) → H1 pn = some (.tup c) → (∀ v ∈ c, Fv v) → c.length ≤ 100 →
      ((∃ v ∈ c, nn v = false) → bh R L (wds rs) l st = none) → ((∀ v ∈ c, nn v = true) → ∃ n, Fm st n) →
      (∀ H', Same H1 H' → D.rt (vO (bh R L (wds rs) l st)) H') → t D [some (.ref q), some (tx L), some (.ref ls), some (tx l), some (.ref ps), y5, some (.ref pn), y7, y8, y9, y10, y11, y12, y13, y14, y15, y16] H1 := by
  obtain ⟨t6, P6, R6⟩ := bh6 (P := P) (w := w) (K := K) (base := base) (f := f) (cdv := cdv) (A := A) (outer := outer) (s := s) (H := H) (E := E) B cNm cN cB cS hr
  refine ⟨_, pss_cons (ps_for PassesOwn.never rfl (pi_tup (pv 6)) (pg_name (i := 7) scBeh.nd rfl (Or.inl rfl))
      (pss_one (ps_if (PW.pt (pw_or (pt_not (pt_val (pe_callB call_isi (by rfl) B.isinst boot_isinstance (pa_cons (pv 7) (pa_cons (pe_bltn (v := .ty "int") (by rfl) B.int PyProof.Rows.boot_int rfl) pa_nil)))))
          (pw_or (pt_val (pe_callB call_isi (by rfl) B.isinst boot_isinstance (pa_cons (pv 7) (pa_cons (pe_bltn (v := .ty "bool") (by rfl) B.bool PyProof.Rows.boot_bool rfl) pa_nil))))
          (pw_or1 (pt_cmpR op_lt (pv 7) pe_int (nomark _)))))) (pss_one (ps_ret pe_non)) pss_nil)))
    (pss_cons (ps_set (i := 8) scBeh.nd rfl (.inl rfl) (pe_ifExp (pt_cmpR op_eq (pe_ix ix_tup (pv 4) pe_int (fun _ _ => rfl)) pe_str (nomark _)) (pe_ix ix_tup (pv 4) pe_int (fun _ _ => rfl)) (pe_ix ix_tup (pv 4) pe_int (fun _ _ => rfl)))) P6), ?_⟩
  intro D H1 q ls ps pn L l rs R st c y5 y7 y8 y9 y10 y11 y12 y13 y14 y15 y16 lw hps hpn fvc hcl hbad hgood qq
  refine ⟨_, rfl, pn, rfl, ⟨_, SqT.of hpn⟩, ?_⟩
  refine for_it (walk_tup (K := K) (a := pn) (xs := c)) (fun i σ H2 => ∃ y7, σ = [some (.ref q), some (tx L), some (.ref ls), some (tx l), some (.ref ps), y5, some (.ref pn), y7, y8, y9, y10, y11, y12, y13, y14, y15, y16] ∧ H2 = H1 ∧ ∀ v ∈ c.take i, nn v = true)
    ⟨y7, rfl, rfl, fun v hv => nomatch hv⟩ (fun i σ H2 _ h => ?_) ?_ ?_
  · obtain ⟨_, _, rfl, _⟩ := h
    exact SqT.of hpn
  · rintro i x σ H2 H2' hi ⟨z7, rfl, rfl, hc⟩ ⟨rfl, hx⟩
    have hm : x ∈ c := List.mem_of_getElem? hx
    have tk := take_more hx
    have fx := fvc x hm
    have next : nn x = true → ∀ v ∈ c.take (i + 1), nn v = true := fun h v hv => by
      rw [tk] at hv
      rcases List.mem_append.mp hv with h2 | h2
      · exact hc v h2
      · obtain rfl := List.mem_singleton.mp h2
        exact h
    have bad : nn x = false → D.rt .non H2' := fun h => by
      have z := qq H2' (Same.refl _)
      rw [hbad ⟨x, hm, h⟩] at z
      exact z
    cases fx with
    | bl b => exact ⟨_, rfl, _, _, _, _, true, rfl, .ty _, .base (.bl b), kit_ty (by decide +kernel), true, rfl, iteF ⟨_, rfl, _, _, _, _, true, rfl, .ty _, .base (.bl b), kit_ty (by decide +kernel), true, rfl, iteT (iteT (bad rfl))⟩⟩
    | str l2 _ _ => exact ⟨_, rfl, _, _, _, _, false, rfl, .ty _, .base (.str _), kit_ty (by decide +kernel), false, rfl, iteT (iteT (bad rfl))⟩
    | int j =>
      refine ⟨_, rfl, _, _, _, _, true, rfl, .ty _, .base (.int j), kit_ty (by decide +kernel), true, rfl, iteF ⟨_, rfl, _, _, _, _, false, rfl, .ty _, .base (.int j), kit_ty (by decide +kernel), false, rfl, iteF ⟨_, rfl, _, _, rfl, rfl, ?_⟩⟩⟩
      by_cases hj : j < 0
      · exact ⟨true, congrArg V.bl (decide_eq_true hj), iteT (bad (show decide ((0 : Int) ≤ j) = false from decide_eq_false (by omega)))⟩
      · exact ⟨false, congrArg V.bl (decide_eq_false hj), iteF ⟨_, rfl, rfl, next (show decide ((0 : Int) ≤ j) = true from decide_eq_true (by omega))⟩⟩
  · rintro σ H2 ⟨z7, rfl, rfl, hc⟩
    rw [List.take_length] at hc
    obtain ⟨n, fm⟩ := hgood hc
    have go : ∀ (y8 : Option V), t6 D [some (.ref q), some (tx L), some (.ref ls), some (tx l), some (.ref ps), y5, some (.ref pn), z7, some (.int (n : Nat)), y9, y10, y11, y12, y13, y14, y15, y16] H2 := fun y8 => R6 D H2 q ls ps L l rs R st n fm _ _ _ _ _ _ _ _ _ _ _ lw hps qq
    cases fm with
    | put n v hv => exact ⟨_, rfl, ps, _, 0, _, rfl, rfl, SqT.of hps, rfl, rfl, false, congrArg V.bl (decide_eq_false (by decide)), iteF ⟨_, rfl, ps, _, 1, _, rfl, rfl, SqT.of hps, rfl, go none⟩⟩
    | drop n => exact ⟨_, rfl, ps, _, 0, _, rfl, rfl, SqT.of hps, rfl, rfl, false, congrArg V.bl (decide_eq_false (by decide)), iteF ⟨_, rfl, ps, _, 1, _, rfl, rfl, SqT.of hps, rfl, go none⟩⟩
    | swap n m k => exact ⟨_, rfl, ps, _, 0, _, rfl, rfl, SqT.of hps, rfl, rfl, false, congrArg V.bl (decide_eq_false (by decide)), iteF ⟨_, rfl, ps, _, 1, _, rfl, rfl, SqT.of hps, rfl, go none⟩⟩
    | rule m b n => exact ⟨_, rfl, ps, _, 0, _, rfl, rfl, SqT.of hps, rfl, rfl, true, congrArg V.bl (decide_eq_true rfl), iteT ⟨_, rfl, ps, _, 3, _, rfl, rfl, SqT.of hps, rfl, go none⟩⟩
end
end K31
set_option maxRecDepth 100000
set_option maxHeartbeats 4000000
/-! _law_behind -/
namespace K31
open PySem PySem.Spec PyProof.Rows L2 KA
def szs : List (Key × V) := [(.inr (Str.ofString "put"), .int 3), (.inr (Str.ofString "drop"), .int 2), (.inr (Str.ofString "rule"), .int 4), (.inr (Str.ofString "swap"), .int 4)]
def szk (k : V) : Int := if k = kPut then 3 else if k = kDrop then 2 else if k = kRule then 4 else if k = kSwap then 4 else 0
theorem valS (z : Str) : (valV szs (.inr z)).getD (.int 0) = .int (szk (.str z)) := by
  have key : ∀ (a : Str) (v : V) (r : List (Key × V)), valV ((Sum.inr a, v) :: r) (Sum.inr z : Key) = if z = a then some v else valV r (Sum.inr z) := fun a v r => by
    by_cases h : z = a
    · rw [if_pos h]
      exact valV_pos (p := (Sum.inr a, v)) (by rw [h])
    · rw [if_neg h]
      exact valV_neg (p := (Sum.inr a, v)) (fun e => h (Sum.inr.inj e).symm)
  unfold szs szk
  rw [key, key, key, key]
  by_cases h1 : z = Str.ofString "put"
  · rw [if_pos h1, if_pos (show V.str z = kPut by rw [h1])]; rfl
  rw [if_neg h1, if_neg (show ¬ V.str z = kPut from fun h => h1 (by injection h))]
  by_cases h2 : z = Str.ofString "drop"
  · rw [if_pos h2, if_pos (show V.str z = kDrop by rw [h2])]; rfl
  rw [if_neg h2, if_neg (show ¬ V.str z = kDrop from fun h => h2 (by injection h))]
  by_cases h3 : z = Str.ofString "rule"
  · rw [if_pos h3, if_pos (show V.str z = kRule by rw [h3])]; rfl
  rw [if_neg h3, if_neg (show ¬ V.str z = kRule from fun h => h3 (by injection h))]
  by_cases h4 : z = Str.ofString "swap"
  · rw [if_pos h4, if_pos (show V.str z = kSwap by rw [h4])]; rfl
  rw [if_neg h4, if_neg (show ¬ V.str z = kSwap from fun h => h4 (by injection h))]
  rfl
theorem szk_int (i : Int) : szk (.int i) = 0 := by
  unfold szk
  rw [if_neg (fun h => nomatch h), if_neg (fun h => nomatch h), if_neg (fun h => nomatch h), if_neg (fun h => nomatch h)]
theorem szk_bl (b : Bool) : szk (.bl b) = 0 := by
  unfold szk
  rw [if_neg (fun h => nomatch h), if_neg (fun h => nomatch h), if_neg (fun h => nomatch h), if_neg (fun h => nomatch h)]
/-- another form, or one of the four -/
theorem szk_cases (k : V) (rest : List V) : (szk k ≠ ((rest.length + 1 : Nat) : Int) ∧ ∀ R L ws w, bh R L ws w (k :: rest) = none) ∨
    (szk k = ((rest.length + 1 : Nat) : Int) ∧ ((k = kPut ∧ ∃ a v, rest = [a, v]) ∨ (k = kDrop ∧ ∃ a, rest = [a]) ∨ (k = kRule ∧ ∃ a v c, rest = [a, v, c]) ∨ (k = kSwap ∧ ∃ a v c, rest = [a, v, c]))) := by
  have two : ∀ {l : List V}, l.length = 2 → ∃ a v, l = [a, v] := fun {l} h => match l, h with | [a, v], _ => ⟨a, v, rfl⟩
  have one1 : ∀ {l : List V}, l.length = 1 → ∃ a, l = [a] := fun {l} h => match l, h with | [a], _ => ⟨a, rfl⟩
  have three : ∀ {l : List V}, l.length = 3 → ∃ a v c, l = [a, v, c] := fun {l} h => match l, h with | [a, v, c], _ => ⟨a, v, c, rfl⟩
  have no : ∀ {k : V} {rest : List V}, ¬ (k = kPut ∧ rest.length = 2) → ¬ (k = kDrop ∧ rest.length = 1) → ¬ (k = kRule ∧ rest.length = 3) → ¬ (k = kSwap ∧ rest.length = 3) → ∀ R L ws w, bh R L ws w (k :: rest) = none := fun h1 h2 h3 h4 R L ws w => by
    rw [bh_cons, if_neg h1, if_neg h2, if_neg h3, if_neg h4]
  by_cases h1 : k = kPut
  · subst h1
    have e : szk kPut = 3 := rfl
    rw [e]
    by_cases hl : rest.length = 2
    · exact .inr ⟨by omega, .inl ⟨rfl, two hl⟩⟩
    · exact .inl ⟨by omega, no (fun h => hl h.2) (fun h => absurd h.1 (by decide)) (fun h => absurd h.1 (by decide)) (fun h => absurd h.1 (by decide))⟩
  by_cases h2 : k = kDrop
  · subst h2
    have e : szk kDrop = 2 := rfl
    rw [e]
    by_cases hl : rest.length = 1
    · exact .inr ⟨by omega, .inr (.inl ⟨rfl, one1 hl⟩)⟩
    · exact .inl ⟨by omega, no (fun h => h1 h.1) (fun h => hl h.2) (fun h => absurd h.1 (by decide)) (fun h => absurd h.1 (by decide))⟩
  by_cases h3 : k = kRule
  · subst h3
    have e : szk kRule = 4 := rfl
    rw [e]
    by_cases hl : rest.length = 3
    · exact .inr ⟨by omega, .inr (.inr (.inl ⟨rfl, three hl⟩))⟩
    · exact .inl ⟨by omega, no (fun h => h1 h.1) (fun h => h2 h.1) (fun h => hl h.2) (fun h => absurd h.1 (by decide))⟩
  by_cases h4 : k = kSwap
  · subst h4
    have e : szk kSwap = 4 := rfl
    rw [e]
    by_cases hl : rest.length = 3
    · exact .inr ⟨by omega, .inr (.inr (.inr ⟨rfl, three hl⟩))⟩
    · exact .inl ⟨by omega, no (fun h => h1 h.1) (fun h => h2 h.1) (fun h => h3 h.1) (fun h => hl h.2)⟩
  have e : szk k = 0 := by
    unfold szk
    rw [if_neg h1, if_neg h2, if_neg h3, if_neg h4]
  rw [e]
  exact .inl ⟨by omega, no (fun h => h1 h.1) (fun h => h2 h.1) (fun h => h3 h.1) (fun h => h4 h.1)⟩
theorem inR_nn {v : V} {lo hi : Int} (h : nn v = false) (hlo : lo = 0) : inR v lo hi = false := by
  cases v with
  | int i =>
    have h : decide ((0 : Int) ≤ i) = false := h
    have h := of_decide_eq_false h
    show (decide (lo ≤ i) && decide (i ≤ hi)) = false
    rw [decide_eq_false (by omega)]
    rfl
  | _ => rfl
theorem t_get {K : PySem.W.Frag} {H2 : Hp} {y0 y1 y2 y3 : Option V} {σr : List (Option V)} {p ps : Addr} {k : V} {rest : List V} {Q : VK} (fk : Fv k) (hps2 : H2 ps = some (.tup (k :: rest))) (hp2 : H2 p = some (.dK szs)) (h : Q (.int (szk k)) H2) :
    Rs.tDGetB (tVar 5) (tOp (rIxT K) (tVar 4) (tC (.int 0))) (tC (.int 0)) (y0 :: y1 :: y2 :: y3 :: some (.ref ps) :: some (.ref p) :: σr) H2 Q := by
  refine ⟨_, rfl, p, rfl, .inl ⟨szs, .inl hp2⟩, _, rfl, ps, _, 0, _, rfl, rfl, SqT.of hps2, atI_nat (j := 0) rfl, ?_⟩
  cases fk with
  | int i =>
    refine .inl ⟨none, .inl ⟨szs, .inl i, .inl hp2, rfl, rfl⟩, ?_⟩
    rw [szk_int] at h
    exact h
  | bl b =>
    rw [szk_bl] at h
    exact .inr ⟨b, szs, rfl, .inl hp2, (fun kv hkv => by
      have z : kv ∈ szs := hkv
      unfold szs at z
      rcases List.mem_cons.mp z with rfl | z
      · exact ⟨_, rfl⟩
      rcases List.mem_cons.mp z with rfl | z
      · exact ⟨_, rfl⟩
      rcases List.mem_cons.mp z with rfl | z
      · exact ⟨_, rfl⟩
      rcases List.mem_cons.mp z with rfl | z
      · exact ⟨_, rfl⟩
      · exact nomatch z), h⟩
  | str l2 h2 hA2 =>
    refine .inl ⟨valV szs (.inr (SX.S l2)), .inl ⟨szs, .inr (SX.S l2), .inl hp2, rfl, rfl⟩, ?_⟩
    rw [valS]
    exact h
theorem t_get2 {K : PySem.W.Frag} {H2 : Hp} {y0 y1 y2 y3 : Option V} {σr : List (Option V)} {p ps : Addr} {k : V} {rest : List V} {Q : Bool → Hp → Prop} (fk : Fv k) (hps2 : H2 ps = some (.tup (k :: rest))) (hp2 : H2 p = some (.dK szs)) (b : Bool) (hb : (!decide (V.int (szk k) = V.int ((k :: rest).length : Nat))) = b) (h : Q b H2) :
    tTest (tOp rNe (Rs.tDGetB (tVar 5) (tOp (rIxT K) (tVar 4) (tC (.int 0))) (tC (.int 0))) (tCB (fun xs H Q => ∃ p ys, xs = [.ref p] ∧ (SqL K H p ys ∨ SqT K H p ys) ∧ Q (.int ys.length) H) (tCons (tVar 4) tNil))) (y0 :: y1 :: y2 :: y3 :: some (.ref ps) :: some (.ref p) :: σr) H2 Q := by
  have z : Rs.tDGetB (tVar 5) (tOp (rIxT K) (tVar 4) (tC (.int 0))) (tC (.int 0)) (y0 :: y1 :: y2 :: y3 :: some (.ref ps) :: some (.ref p) :: σr) H2 (fun x H1 => tCB (fun xs H Q => ∃ p ys, xs = [.ref p] ∧ (SqL K H p ys ∨ SqT K H p ys) ∧ Q (.int ys.length) H) (tCons (tVar 4) tNil) (y0 :: y1 :: y2 :: y3 :: some (.ref ps) :: some (.ref p) :: σr) H1 fun y H3 => rNe x y H3 fun v H4 => ∃ b, v = .bl b ∧ Q b H4) :=
    t_get fk hps2 hp2 ⟨_, rfl, ps, _, rfl, .inr (SqT.of hps2), rfl, b, congrArg V.bl hb, h⟩
  exact z
def spBeh : Sp := fun vs H Q _ => ∃ (q ls ps : Addr) (L l : List Nat) (rs : Rls) (R : List (List Int)) (st : List V), vs = [.ref q, tx L, .ref ls, tx l, .ref ps] ∧ Lw H q L ls rs l R ∧ H ps = some (.tup st) ∧ (∀ v ∈ st, Fv v) ∧ st.length ≤ 100 ∧ ∀ H', Same H H' → Q (vO (bh R L (wds rs) l st)) H'
section
variable {P : Program} {w : World} {K : PySem.W.Frag} {mg : Str → Option Value} {base : Heap}
theorem ok_beh {f fNm fN fB fS : Addr} {fd fdNm fdN fdB fdS : FuncData} (F : Fun K "_law_behind" "_law_behind" sBeh f fd) (B : Bn mg) (cNm : KT.Cb P w K mg base CX0 3 "_law_named" ["_law_rows", "_law_counts_now"] spNmd fNm fdNm) (cN : KT.Cb P w K mg base CX0 1 "_law_number_of" ["_law_one", "_law_letters_here"] spCof fN fdN) (cB : KT.Cb P w K mg base CX0 1 "_law_back" ["_law_sign"] spBack fB fdB) (cS : KT.Cb P w K mg base CX0 1 "_law_signs" ["_law_letters_here"] spSigns fS fdS) :
    FnOk P w K mg base CX0 4 f fd ["_law_rows", "_law_letters_here", "_law_some", "_law_one", "_law_step_z"] spBeh := by
  refine F.ok scBeh (fun vs H Q E h => ?_) (fun cdv A outer s H vs Q E hr h => ?_)
  · obtain ⟨q, ls, ps, L, l, rs, R, st, rfl, _⟩ := h
    rfl
  · obtain ⟨q, ls, ps, L, l, rs, R, st, rfl, lw, hps, fv, hst, qq⟩ := h
    have r3 : Room 3 (A.deeper (envOfC "_law_behind" (defScope sBeh) s.heap.objs.size f cdv)) := hr.mono (by decide)
    have hu := hr.units
    have hu1 : (A.deeper (envOfC "_law_behind" (defScope sBeh) s.heap.objs.size f cdv)).units + 1 < cLine := by omega
    obtain ⟨t4, P4, R4⟩ := bh4 (P := P) (w := w) (K := K) (base := base) (f := f) (cdv := cdv) (A := A) (outer := outer) (s := s) (H := H) (E := E) B cNm cN cB cS r3
    refine ⟨_, pss_cons (ps_set (i := 5) scBeh.nd rfl (.inl rfl) (pe_disp (pps_cons pe_str pe_int (pps_cons pe_str pe_int (pps_cons pe_str pe_int (pps_cons pe_str pe_int pps_nil)))) rfl rfl (fun h => nomatch h) (by decide)))
      (pss_cons (ps_if (PW.pt (pw_or (pt_cmpR (op_eqD hu) (pv 4) (pe_tup pa_nil) (nomark _))
          (pw_or1 (pt_cmpR op_ne (Rs.pe_dgetB hu1 (pv 5) (pe_ix ix_tup (pv 4) pe_int (fun _ _ => rfl)) pe_int ⟨rfl, rfl, rfl, rfl⟩) (pe_callB call_len_seq (by rfl) B.len PySem.boot_len (pa_cons (pv 4) pa_nil)) (nomark _))))) (pss_one (ps_ret pe_non)) pss_nil)
      (pss_cons (ps_if (PW.pt (pw_and (pt_cmpR op_eq (pe_ix ix_tup (pv 4) pe_int (fun _ _ => rfl)) pe_str (nomark _))
          (pw_and1 (pt_not (pt_val (pe_callB call_isi (by rfl) B.isinst boot_isinstance (pa_cons (pe_ix ix_tup (pv 4) pe_int (fun _ _ => rfl)) (pa_cons (pe_bltn (v := .ty "bool") (by rfl) B.bool PyProof.Rows.boot_bool rfl) pa_nil)))))))) (pss_one (ps_ret pe_non)) pss_nil)
      (pss_cons (ps_set (i := 6) scBeh.nd rfl (.inl rfl) (pe_dget hu1 (pe_disp (pps_cons pe_str (pe_slice sl_tup (pv 4) (po_some pe_int) (po_some pe_int)) (pps_cons pe_str (pe_slice sl_tup (pv 4) (po_some pe_int) po_none) (pps_cons pe_str (pe_op op_catA (pe_slice sl_tup (pv 4) (po_some pe_int) (po_some pe_int)) (pe_slice sl_tup (pv 4) (po_some pe_int) po_none)) (pps_cons pe_str (pe_slice sl_tup (pv 4) (po_some pe_int) po_none) pps_nil)))) rfl rfl (fun h => nomatch h) (by decide)) (pe_ix ix_tup (pv 4) pe_int (fun _ _ => rfl)) (fun _ _ => rfl)))
      P4))), ?_⟩
    intro p np
    refine ⟨upd_same, szs, rfl, (by show 4 ≤ 15; decide), ?_⟩
    obtain ⟨H1, e1⟩ : ∃ H1, H1 = upd (upd H p (.dK [])) p (.dK (mergeK [] szs)) := ⟨_, rfl⟩
    rw [← e1]
    have s1 : Same H H1 := fun b o e => by
      rw [e1, upd_ne (ne_of_none e np), upd_ne (ne_of_none e np)]
      exact e
    have hp1 : H1 p = some (.dK szs) := by
      rw [e1, upd_same]
      rfl
    have hps1 := s1 _ _ hps
    refine ⟨_, rfl, (by show 0 ≤ sizeLine; decide), fun p2 np2 => ?_⟩
    have s2 := same_new (o := .tup []) np2
    refine ⟨dT st, dT [], .tup (SqT.of (s2 _ _ hps1)) (dpall_fv fv), .tup (SqT.of upd_same) .nil, shaped_dT fv, shaped_dT (fun v hv => nomatch hv), ?_⟩
    have s12 := s1.trans s2
    have hp2 := s2 _ _ hp1
    have hps2 := s2 _ _ hps1
    have lw2 := lw.same s12
    generalize upd H1 p2 (.tup []) = H2 at s12 hp2 hps2 lw2
    cases st with
    | nil =>
      refine ⟨true, rfl, iteT (iteT ?_)⟩
      have z := qq H2 s12
      exact z
    | cons k rest =>
      refine ⟨false, rfl, iteF ?_⟩
      have fk : Fv k := fv k List.mem_cons_self
      have fr : ∀ v ∈ rest, Fv v := fun v hv => fv v (List.mem_cons_of_mem _ hv)
      rcases szk_cases k rest with ⟨hne, hno⟩ | ⟨heq, hcase⟩
      · have z := qq H2 s12
        rw [hno] at z
        exact t_get2 fk hps2 hp2 true (by rw [decide_eq_false (fun z => hne (by injection z))]; rfl) (iteT z)
      · refine t_get2 fk hps2 hp2 false (by rw [decide_eq_true (show V.int (szk k) = V.int ((k :: rest).length : Nat) by rw [heq]; rfl)]; rfl) (iteF ?_)
        have fin : ∀ {D : Ends} {c : List V} {H3 : Hp} {pn : Addr}, (∀ v H', Q v H' → D.rt v H') → Same H2 H3 → H3 pn = some (.tup c) → (∀ v ∈ c, Fv v) → c.length ≤ 100 → ((∃ v ∈ c, nn v = false) → bh R L (wds rs) l (k :: rest) = none) → ((∀ v ∈ c, nn v = true) → ∃ n, Fm (k :: rest) n) → _ := fun {D} {c} {H3} {pn} hD s3 hpn hfc hcl hbad hgood => R4 D H3 q ls ps pn L l rs R (k :: rest) c (some (.ref p)) none none none none none none none none none none (lw2.same s3) (s3 _ _ hps2) hpn hfc hcl hbad hgood fun H' s' => hD _ _ (qq H' ((s12.trans s3).trans s'))
        have nnI : ∀ {v : V}, nn v = true → ∃ n : Nat, v = .int (n : Nat) := fun h => nn_nat h
        rcases hcase with ⟨rfl, a, v, rfl⟩ | ⟨rfl, a, rfl⟩ | ⟨rfl, a, v, b, rfl⟩ | ⟨rfl, a, v, b, rfl⟩
        · refine ⟨_, rfl, ps, _, 0, _, rfl, rfl, SqT.of hps2, rfl, rfl, false, congrArg V.bl (decide_eq_false (by decide)), iteF (iteF ?_)⟩
          refine t_nums hps2 (show HT.sIx (2 + 1) 0 (some 1) ≠ 0 by decide) (show HT.sIx (2 + 1) 0 (some 3) ≠ 0 by decide) (by show 2 ≤ 100; decide) (fun h => nomatch h) (.inl rfl) fun H3 pn c s3 hpn hc1 hc2 hc3 => ?_
          obtain rfl : c = [a] := hc1 rfl
          refine fin (fun _ _ h => h) s3 hpn (fun x hx => fr x (by rw [List.mem_singleton.mp hx]; exact List.mem_cons_self)) (by show 1 ≤ 100; decide) ?_ ?_
          · rintro ⟨x, hx, hn⟩
            obtain rfl := List.mem_singleton.mp hx
            rw [bh_put]
            unfold bPut
            rw [inR_nn hn rfl]
            rfl
          · intro h
            obtain ⟨n, rfl⟩ := nnI (h a List.mem_cons_self)
            exact ⟨n, .put n v (fr v (by simp))⟩
        · refine ⟨_, rfl, ps, _, 0, _, rfl, rfl, SqT.of hps2, rfl, rfl, false, congrArg V.bl (decide_eq_false (by decide)), iteF (iteF ?_)⟩
          refine t_nums hps2 (show HT.sIx (1 + 1) 0 (some 1) ≠ 0 by decide) (show HT.sIx (1 + 1) 0 (some 3) ≠ 0 by decide) (by show 1 ≤ 100; decide) (fun h => nomatch h) (.inr (.inl rfl)) fun H3 pn c s3 hpn hc1 hc2 hc3 => ?_
          obtain rfl : c = [a] := hc2 (.inl rfl)
          refine fin (fun _ _ h => h) s3 hpn (fun x hx => fr x hx) (by show 1 ≤ 100; decide) ?_ ?_
          · rintro ⟨x, hx, hn⟩
            obtain rfl := List.mem_singleton.mp hx
            rw [bh_drop]
            unfold bDrop
            rw [inR_nn hn rfl]
            rfl
          · intro h
            obtain ⟨n, rfl⟩ := nnI (h a List.mem_cons_self)
            exact ⟨n, .drop n⟩
        · have fb : Fv v := fr v (by simp)
          have bad : isB v = false → Q .non H2 := fun hB => by
            have z := qq H2 s12
            have e : bh R L (wds rs) l [kRule, a, v, b] = none := by
              rw [bh_rule]
              unfold bRule
              rw [hB, Bool.and_false]
              rfl
            rw [e] at z
            exact z
          cases fb with
          | int i => exact ⟨_, rfl, ps, _, 0, _, rfl, rfl, SqT.of hps2, rfl, rfl, true, congrArg V.bl (decide_eq_true rfl), iteT ⟨_, rfl, ps, _, 2, _, rfl, rfl, SqT.of hps2, rfl, _, _, _, _, false, rfl, .ty _, .base (.int i), kit_ty (by decide +kernel), false, rfl, iteT (bad rfl)⟩⟩
          | str l2 _ _ => exact ⟨_, rfl, ps, _, 0, _, rfl, rfl, SqT.of hps2, rfl, rfl, true, congrArg V.bl (decide_eq_true rfl), iteT ⟨_, rfl, ps, _, 2, _, rfl, rfl, SqT.of hps2, rfl, _, _, _, _, false, rfl, .ty _, .base (.str _), kit_ty (by decide +kernel), false, rfl, iteT (bad rfl)⟩⟩
          | bl bb =>
            refine ⟨_, rfl, ps, _, 0, _, rfl, rfl, SqT.of hps2, rfl, rfl, true, congrArg V.bl (decide_eq_true rfl), iteT ⟨_, rfl, ps, _, 2, _, rfl, rfl, SqT.of hps2, rfl, _, _, _, _, true, rfl, .ty _, .base (.bl bb), kit_ty (by decide +kernel), true, rfl, iteF ?_⟩⟩
            refine t_nums hps2 (show HT.sIx (3 + 1) 0 (some 1) ≠ 0 by decide) (show HT.sIx (3 + 1) 0 (some 3) ≠ 0 by decide) (by show 3 ≤ 100; decide) (fun h => nomatch h) (.inr (.inr (.inl rfl))) fun H3 pn c s3 hpn hc1 hc2 hc3 => ?_
            obtain rfl : c = [a, b] := hc3 rfl
            refine fin (fun _ _ h => h) s3 hpn (fun x hx => ?_) (by show 2 ≤ 100; decide) ?_ ?_
            · rcases List.mem_cons.mp hx with rfl | hx
              · exact fr _ List.mem_cons_self
              · exact fr x (by rw [List.mem_singleton.mp hx]; simp)
            · rintro ⟨x, hx, hn⟩
              rw [bh_rule]
              unfold bRule
              rcases List.mem_cons.mp hx with rfl | hx
              · rw [inR_nn hn rfl]
                rfl
              · obtain rfl := List.mem_singleton.mp hx
                rw [inR_nn (hi := (l.length : Nat)) hn rfl]
                by_cases z : (inR a 0 (((wds rs).length : Nat) - 1) && isB (.bl bb)) = true
                · rw [if_pos z]; rfl
                · rw [if_neg z]
            · intro h
              obtain ⟨m, rfl⟩ := nnI (h a List.mem_cons_self)
              obtain ⟨n, rfl⟩ := nnI (h b (by simp))
              exact ⟨n, .rule m bb n⟩
        · refine ⟨_, rfl, ps, _, 0, _, rfl, rfl, SqT.of hps2, rfl, rfl, false, congrArg V.bl (decide_eq_false (by decide)), iteF (iteF ?_)⟩
          refine t_nums hps2 (show HT.sIx (3 + 1) 0 (some 1) ≠ 0 by decide) (show HT.sIx (3 + 1) 0 (some 3) ≠ 0 by decide) (by show 3 ≤ 100; decide) (fun h => nomatch h) (.inr (.inr (.inr rfl))) fun H3 pn c s3 hpn hc1 hc2 hc3 => ?_
          obtain rfl : c = [a, v, b] := hc2 (.inr rfl)
          refine fin (fun _ _ h => h) s3 hpn (fun x hx => fr x hx) (by show 3 ≤ 100; decide) ?_ ?_
          · rintro ⟨x, hx, hn⟩
            rw [bh_swap]
            unfold bSwap
            have e : (nn a && (nn v && nn b)) = false := by
              rcases List.mem_cons.mp hx with rfl | hx
              · rw [hn]; rfl
              rcases List.mem_cons.mp hx with rfl | hx
              · rw [hn, Bool.false_and, Bool.and_false]
              · obtain rfl := List.mem_singleton.mp hx
                rw [hn, Bool.and_false, Bool.and_false]
            rw [e]
            rfl
          · intro h
            obtain ⟨n, rfl⟩ := nnI (h a List.mem_cons_self)
            obtain ⟨m, rfl⟩ := nnI (h v (by simp))
            obtain ⟨j, rfl⟩ := nnI (h b (by simp))
            exact ⟨n, .swap n m j⟩
end
end K31
set_option maxRecDepth 100000
set_option maxHeartbeats 4000000
/-! a step that is possible: a pair put in or taken out -/
namespace K31
open PySem PySem.Spec PyProof.Rows L2 KA
abbrev sSStep : Stmt := top 100
abbrev NSs : List Str := ["_law_box", "_law_rows", "_law_letters_here", "_law_some", "_law_one", "_law_way", "_law_number", "_law_forward", "_law_left", "_law_at", "_law_spots", "_law_found", "_law_middle", "_law_pairs", "_law_end", "_law_drops", "_law_first"]
theorem scSs : FnScope NSs ["_law_box", "_law_rows", "_law_letters_here", "_law_some", "_law_one"] (defScope sSStep) := ⟨rfl, rfl, rfl, by decide +kernel, rfl, by decide +kernel, by decide +kernel⟩
theorem Rw.go {H H' : Hp} {b m q : Addr} {wd : Nat} {R : List (List Int)} (h : Rw H q wd R) (hB : Bx H b m) (g : BxGo H H' b m) (hq : q ≠ b) : Rw H' q wd R := by
  obtain ⟨⟨fs, h1, h2⟩, h3, h4, h5⟩ := h
  obtain ⟨ms, i, r, s, hb, _⟩ := hB
  refine ⟨⟨fs, ⟨g.2 _ _ hq h1.lst, fun x hx => ?_⟩, h2⟩, h3, h4, h5⟩
  have h' : H x.1 = some (.tup (x.2.map V.int)) := h1.row x hx
  refine g.2 _ _ (fun e => ?_) h'
  rw [e, hb] at h'
  cases h'
theorem Lw.go {H H' : Hp} {b m q : Addr} {L : List Nat} {ls : Addr} {rs : Rls} {l : List Nat} {R : List (List Int)} (h : Lw H q L ls rs l R) (hB : Bx H b m) (g : BxGo H H' b m) (hq : q ≠ b) (hl : ls ≠ b) : Lw H' q L ls rs l R :=
  ⟨h.rw_.go hB g hq, h.lt, h.w1, g.2 _ _ hl h.ls, fun r hr => ⟨(h.tw r hr).1.go hB g, (h.tw r hr).2⟩, h.ok, h.len, h.w⟩
theorem fk_put : Fv kPut := by
  have e : kPut = tx [112, 117, 116] := by decide +kernel
  rw [e]
  exact .str _ (by decide) (fun c hc => by simp at hc; omega)
theorem fk_drop : Fv kDrop := by
  have e : kDrop = tx [100, 114, 111, 112] := by decide +kernel
  rw [e]
  exact .str _ (by decide) (fun c hc => by simp at hc; omega)
theorem fk_rule : Fv kRule := by
  have e : kRule = tx [114, 117, 108, 101] := by decide +kernel
  rw [e]
  exact .str _ (by decide) (fun c hc => by simp at hc; omega)
theorem fk_swap : Fv kSwap := by
  have e : kSwap = tx [115, 119, 97, 112] := by decide +kernel
  rw [e]
  exact .str _ (by decide) (fun c hc => by simp at hc; omega)
/-- a step that may be handed out -/
abbrev PostS (H : Hp) (b m : Addr) (R : List (List Int)) (L : List Nat) (ws : List (List (List Nat))) (l : List Nat) (Q : VK) : Prop :=
  ∀ (H' : Hp) (ps : Addr) (st : List V), BxGo H H' b m → H' ps = some (.tup st) → (∀ v ∈ st, Fv v) → st.length ≤ 4 → (∃ z, bh R L ws l st = some z) → Q (.ref ps) H'
def spSStep : Sp := fun vs H Q _ => ∃ (b m q ls : Addr) (L l : List Nat) (rs : Rls) (R : List (List Int)), vs = [.ref b, .ref q, tx L, .ref ls, tx l] ∧ Bx H b m ∧ Lw H q L ls rs l R ∧ q ≠ b ∧ ls ≠ b ∧ PostS H b m R L (wds rs) l Q
theorem sg_ne {L : List Nat} (h : 1 ≤ L.length) : sg L ≠ [] := fun e => by
  have e2 := congrArg List.length e
  rw [sg_len] at e2
  have : ([] : List Nat).length = 0 := rfl
  omega
theorem bPut_some {L l : List Nat} {n c : Nat} (hn : n ≤ l.length) (hc : c ∈ sg L) : ∃ z, bPut L l (.int (n : Nat)) (tx [c]) = some z := by
  have e1 : inR (.int (n : Nat)) 0 (l.length : Nat) = true := by
    show (decide ((0 : Int) ≤ ((n : Nat) : Int)) && decide (((n : Nat) : Int) ≤ (l.length : Nat))) = true
    rw [decide_eq_true (by omega), decide_eq_true (by omega)]
    rfl
  have e2 : isS L (tx [c]) = true := by
    show (decide (([c] : List Nat).length = 1) && [c].all fun c => decide (c ∈ sg L)) = true
    rw [List.all_cons, decide_eq_true hc]
    rfl
  unfold bPut
  rw [e1, e2]
  exact ⟨_, rfl⟩
theorem bDrop_some {l : List Nat} {n : Nat} (hn : n + 1 < l.length) (h : l[n]? = (l[n + 1]?).map sw) : ∃ z, bDrop l (.int (n : Nat)) = some z := by
  have e1 : inR (.int (n : Nat)) 0 ((l.length : Nat) - 2) = true := by
    show (decide ((0 : Int) ≤ ((n : Nat) : Int)) && decide (((n : Nat) : Int) ≤ (l.length : Nat) - 2)) = true
    rw [decide_eq_true (by omega), decide_eq_true (by omega)]
    rfl
  have h2 : l[toN (.int (n : Nat))]? = (l[toN (.int (n : Nat)) + 1]?).map sw := h
  unfold bDrop
  rw [e1, decide_eq_true h2]
  exact ⟨_, rfl⟩
abbrev XSs (P : Program) (w : World) (K : PySem.W.Frag) (mg : Str → Option Value) (base : Heap) (f : Addr) (cdv : Value) (A : Around) (outer : List Env) (s : Shared) (H : Hp) (E : XK) : Cx := (cxOf CX0 P w K mg base NSs "_law_some_step" (defScope sSStep) f cdv A outer s H E).nox
/-- the def's calls that draw -/
structure Drw (P : Program) (w : World) (K : PySem.W.Frag) (mg : Str → Option Value) (base : Heap) (fD fA fS fB : Addr) (fdD fdA fdS fdB : FuncData) : Prop where
  d : KT.Cb P w K mg base CX0 1 "_law_draw" ["_law_box", "_law_many"] spDraw fD fdD
  a : KT.Cb P w K mg base CX0 2 "_law_any" ["_law_box", "_law_some"] spAny fA fdA
  s : KT.Cb P w K mg base CX0 1 "_law_signs" ["_law_letters_here"] spSigns fS fdS
  b : KT.Cb P w K mg base CX0 1 "_law_back" ["_law_sign"] spBack fB fdB
section
variable {P : Program} {w : World} {K : PySem.W.Frag} {mg : Str → Option Value} {base : Heap}
variable {f fD fA fS fB : Addr} {fdD fdA fdS fdB : FuncData} {cdv : Value} {A : Around} {outer : List Env} {s : Shared} {H : Hp} {E : XK}
abbrev ttDr : TT := tTest (tOp rEq (tOp rIxS (tVar 4) (tVar 9)) (tCall spBack [] E0 (tCons (tOp rIxS (tVar 4) (tOp (rI0 fun i j => .int (i + j)) (tVar 9) (tC (.int 1)))) tNil)))
theorem ss3 (B : Bn mg) (D : Drw P w K mg base fD fA fS fB fdD fdA fdS fdB) (hr : Room 4 (A.deeper (envOfC "_law_some_step" (defScope sSStep) s.heap.objs.size f cdv))) :
    ∃ t, PSs (XSs P w K mg base f cdv A outer s H E) ((defBody sSStep).drop 3) t ∧ ∀ (Dn : Ends) (H1 : Hp) (b m q ls : Addr) (L l : List Nat) (rs : Rls) (R : List (List Int)) (y5 y6 y7 y8 y9 y10 y11 y12 y13 y14 y15 : Option V), Bx H1 b m → Lw H1 q L ls rs l R → q ≠ b → ls ≠ b → PostS H1 b m R L (wds rs) l Dn.rt →
      t Dn [some (.ref b), some (.ref q), some (tx L), some (.ref ls), some (tx l), y5, y6, y7, y8, y9, y10, y11, y12, y13, y14, y15, none] H1 := by
  have r1 : Room 1 (A.deeper (envOfC "_law_some_step" (defScope sSStep) s.heap.objs.size f cdv)) := hr.mono (by decide)
  have r2 : Room 2 (A.deeper (envOfC "_law_some_step" (defScope sSStep) s.heap.objs.size f cdv)) := hr.mono (by decide)
  refine ⟨_, pss_cons (ps_setLc (i := 15) (own := [("_law_at", 9)]) (g := gName 9) (tt := ttDr) (te := tVar 9) rfl scSs.nd rfl rfl (sw_true rfl rfl rfl (by decide +kernel)) (pi_range1 (by rfl) B.range (pa_cons (pe_op op_sub (pe_callB call_len_str (by rfl) B.len PySem.boot_len (pa_cons (pv 4) pa_nil)) pe_int) pa_nil))
        (blkOk_by (N := NSs) (sc := defScope sSStep) (by decide +kernel)) (fun _ _ _ _ _ => pg_name (i := 9) scSs.nd rfl (Or.inl rfl))
        (fun _ _ _ _ _ => pts_one (pt_cmpR op_eq (pe_ix ix_str (pv 4) (pv 9) (fun _ _ => rfl)) (pe_call D.b.ok r1 (by rfl) D.b.g D.b.kp D.b.b .nil pass0 (pa_cons (pe_ix ix_str (pv 4) (pe_op op_add (pv 9) pe_int) (fun _ _ => rfl)) pa_nil)) (nomark _)))
        (fun _ _ _ _ _ => pv 9))
    (pss_cons (ps_if (PW.pt (pw_and (pt_cmpR (op_neD hr.units) (pv 15) (pe_lst pa_nil) (nomark _)) (pw_and1 (pt_cmpR op_eq (pe_call D.d.ok r1 (by rfl) D.d.g D.d.kp D.d.b .nil pass0 (pa_cons (pv 0) (pa_cons pe_int pa_nil))) pe_int (nomark _)))))
      (pss_one (ps_ret (pe_tup (pa_cons pe_str (pa_cons (pe_call D.a.ok r2 (by rfl) D.a.g D.a.kp D.a.b .nil pass0 (pa_cons (pv 0) (pa_cons (pv 15) pa_nil))) pa_nil))))) pss_nil)
    (pss_one (ps_ret (pe_tup (pa_cons pe_str (pa_cons (pe_call D.d.ok r1 (by rfl) D.d.g D.d.kp D.d.b .nil pass0 (pa_cons (pv 0) (pa_cons (pe_op op_add (pe_callB call_len_str (by rfl) B.len PySem.boot_len (pa_cons (pv 4) pa_nil)) pe_int) pa_nil)))
      (pa_cons (pe_call D.a.ok r2 (by rfl) D.a.g D.a.kp D.a.b .nil pass0 (pa_cons (pv 0) (pa_cons (pe_callTy (c_listS rfl) (by rfl) B.list boot_list (pa_cons (pe_call D.s.ok r1 (by rfl) D.s.g D.s.kp D.s.b .nil pass0 (pa_cons (pv 2) pa_nil)) pa_nil)) pa_nil))) pa_nil))))))), ?_⟩
  intro Dn H1 b m q ls L l rs R y5 y6 y7 y8 y9 y10 y11 y12 y13 y14 y15 bx lw hq hls post
  have hl := lw.len
  have ab := asc_le (w := l) (by omega)
  have hA := isW_asc lw.lt lw.w
  refine ⟨_, rfl, _, rfl, ab, _, _, rfl, rfl, _, rfl, by rw [tx_len]; omega, by rw [tx_len]; omega, fun Dl nD => ?_⟩
  rw [tx_len, show ((l.length : Nat) - 1 : Int).toNat = l.length - 1 by omega]
  have hDb : Dl ≠ b := bx.ne nD
  refine KT.lc_sel (e := KT.vN) (out := KT.vN) (KT.walk_rg (l.length - 1)) (tt := ttDr) (te := tVar 9) (σ := [some (.ref b), some (.ref q), some (tx L), some (.ref ls), some (tx l), y5, y6, y7, y8, y9, y10, y11, y12, y13, y14, y15, none]) (i := 9) (fun k => decide (l[k]? = (l[k + 1]?).map sw)) (by rw [List.length_range]; exact small1000 (by omega)) nD (fun _ _ => trivial) ?_ ?_ ?_
  · intro n H2 Q2 hn s2 h
    have hn := List.mem_range.mp hn
    have h2 : n + 1 < l.length := by omega
    have h1 : n < l.length := by omega
    have g1 : l[n]? = some l[n] := List.getElem?_eq_getElem h1
    have g2 : l[n + 1]? = some l[n + 1] := List.getElem?_eq_getElem h2
    have c2 := hA _ (List.getElem_mem h2)
    generalize l[n] = c at g1
    generalize l[n + 1] = d at g2 c2
    rw [g1, g2] at h
    refine ⟨_, rfl, _, rfl, SX.S l, _, c, rfl, rfl, ab, atI_nat g1, _, rfl, _, rfl, _, _, rfl, rfl, SX.S l, _, d, rfl, rfl, ab, ?_, d, rfl, c2, rfl, ?_⟩
    · rw [show (n : Int) + 1 = ((n + 1 : Nat) : Int) by omega]
      exact atI_nat g2
    refine ⟨_, rfl, ?_⟩
    have e : decide (tx [c] = tx [sw d]) = decide (some c = Option.map sw (some d)) := decide_eq_decide.mpr ⟨fun h => by
      injection h with h
      have h := SX.S_inj h
      injection h with h
      rw [h]
      rfl, fun h => by
      injection h with h
      rw [h]⟩
    rw [e]
    exact h
  · intro n H2 Q2 hn _ s2 h
    exact ⟨_, rfl, h H2 (Same.refl _)⟩
  · intro H2 s2 hD
    have bx2 := bx.same s2
    have lw2 := lw.same s2
    have hm : ∀ n ∈ (List.range (l.length - 1)).filter (fun k => decide (l[k]? = (l[k + 1]?).map sw)), n + 1 < l.length ∧ l[n]? = (l[n + 1]?).map sw := fun n hn => by
      obtain ⟨h1, h2⟩ := List.mem_filter.mp hn
      have h1 := List.mem_range.mp h1
      exact ⟨by omega, of_decide_eq_true h2⟩
    have hsz : ((List.range (l.length - 1)).filter (fun k => decide (l[k]? = (l[k + 1]?).map sw))).length ≤ 100 := by
      have z := List.length_filter_le (fun k => decide (l[k]? = (l[k + 1]?).map sw)) (List.range (l.length - 1))
      rw [List.length_range] at z
      omega
    generalize (List.range (l.length - 1)).filter (fun k => decide (l[k]? = (l[k + 1]?).map sw)) = ds at hD hm hsz
    refine ⟨_, rfl, (by show 0 ≤ sizeLine; decide), fun p np => ?_⟩
    have s3 := same_new (o := .lst []) np
    refine ⟨KT.dI (ds.map fun k => ((k : Nat) : Int)), KT.dI [], .lst (SqL.of (s3 _ _ hD)) (KT.dp_nats _), .lst (SqL.of upd_same) .nil, KT.shaped_dI _, KT.shaped_dI _, ?_⟩
    have s23 := s2.trans s3
    have bx3 := bx2.same s3
    have lw3 := lw2.same s3
    have hD3 := s3 _ _ hD
    generalize upd H2 p (.lst []) = H3 at s3 s23 bx3 lw3 hD3
    rw [KT.eqv_dI]
    have put : ∀ (H4 : Hp), BxGo H1 H4 b m → (tRet (tTup (tCons (tC kPut) (tCons (tCall spDraw [] E0 (tCons (tVar 0) (tCons (tOp (rI0 fun i j => .int (i + j)) (tCB (fun xs H Q => ∃ z, xs = [.str z] ∧ z.length ≤ sizeLine ∧ Q (.int z.length) H) (tCons (tVar 4) tNil)) (tC (.int 1))) tNil))) (tCons (tCall spAny [] E0 (tCons (tVar 0) (tCons (tCB (fun xs H Q => ∃ l : List Nat, xs = [tx l] ∧ l.length ≤ 1000 ∧ ∀ p, H p = none → Q (.ref p) (upd H p (.lst (l.map one)))) (tCons (tCall spSigns [] E0 (tCons (tVar 2) tNil)) tNil)) tNil))) tNil)))))
        Dn [some (.ref b), some (.ref q), some (tx L), some (.ref ls), some (tx l), y5, y6, y7, y8, y9, y10, y11, y12, y13, y14, some (.ref Dl), none] H4 := fun H4 g4 => by
      have bx4 := g4.1
      refine ⟨_, rfl, _, rfl, _, rfl, ab, _, _, rfl, rfl, b, m, (l.length : Nat) + 1, by rw [tx_len]; rfl, bx4, by omega, by omega, fun d H5 d0 d1 t5 => ?_⟩
      have g5 := g4.trans t5.go
      refine ⟨_, rfl, _, rfl, L, rfl, lw.lt, fun H6 s6 => ?_⟩
      have g6 : BxGo H1 H6 b m := g5.trans (BxGo.of g5.1 s6)
      refine ⟨sg L, rfl, by rw [sg_len]; have := lw.rw_.w3; omega, fun pl npl => ?_⟩
      have s7 := same_new (o := .lst ((sg L).map one)) npl
      have g7 : BxGo H1 (upd H6 pl (.lst ((sg L).map one))) b m := g6.trans (BxGo.of g6.1 s7)
      refine ⟨b, m, pl, _, rfl, g7.1, upd_same, g6.1.ne npl, fun e => ?_, by rw [List.length_map, sg_len]; have := lw.rw_.w3; omega, fun x H8 hx t8 => ?_⟩
      · have e2 := congrArg List.length e
        rw [List.length_map, sg_len] at e2
        have := lw.w1
        have : ([] : List V).length = 0 := rfl
        omega
      have g8 := g7.trans t8.go
      obtain ⟨c, hc, rfl⟩ := List.mem_map.mp hx
      refine ⟨(by show 3 ≤ sizeLine; decide), fun pt npt => ?_⟩
      obtain ⟨n, rfl⟩ : ∃ n : Nat, d = (n : Nat) := ⟨d.toNat, by omega⟩
      have hA2 : Asc [c] := fun y hy => by rw [List.mem_singleton.mp hy]; exact sg_up lw.lt hc
      refine post _ pt [kPut, .int (n : Nat), tx [c]] (g8.trans (BxGo.of g8.1 (same_new npt))) upd_same (fun v hv => ?_) (by show 3 ≤ 4; decide) ?_
      · rcases List.mem_cons.mp hv with rfl | hv
        · exact fk_put
        rcases List.mem_cons.mp hv with rfl | hv
        · exact .int _
        · obtain rfl := List.mem_singleton.mp hv
          exact .str [c] (by show 1 ≤ 100; decide) hA2
      · rw [bh_put]
        exact bPut_some (by omega) hc
    cases ds with
    | nil => exact ⟨false, rfl, iteF (put H3 (BxGo.of bx s23))⟩
    | cons a ds =>
      refine ⟨true, rfl, iteT ?_⟩
      refine ⟨_, rfl, b, m, 2, rfl, bx3, by omega, by omega, fun d H4 d0 d1 t4 => ?_⟩
      have g4 : BxGo H1 H4 b m := (BxGo.of bx s23).trans t4.go
      refine ⟨rfl, _, rfl, ?_⟩
      by_cases hd : d = 0
      · rw [decide_eq_true (show V.int d = V.int 0 by rw [hd])]
        refine iteT ?_
        have hD4 := t4.go.2 _ _ hDb hD3
        refine ⟨_, rfl, _, rfl, b, m, Dl, _, rfl, t4.1, hD4, hDb, (fun h => nomatch h), by rw [List.length_map]; omega, fun x H5 hx t5 => ?_⟩
        have g5 := g4.trans t5.go
        obtain ⟨n, hn, rfl⟩ := List.mem_map.mp hx
        refine ⟨(by show 2 ≤ sizeLine; decide), fun pt npt => ?_⟩
        refine post _ pt [kDrop, .int (n : Nat)] (g5.trans (BxGo.of g5.1 (same_new npt))) upd_same (fun v hv => ?_) (by show 2 ≤ 4; decide) ?_
        · rcases List.mem_cons.mp hv with rfl | hv
          · exact fk_drop
          · obtain rfl := List.mem_singleton.mp hv
            exact .int _
        · rw [bh_drop]
          exact bDrop_some (hm n hn).1 (hm n hn).2
      · rw [decide_eq_false (fun h => hd (by injection h))]
        exact iteF (put H4 g4)
end
end K31
set_option maxRecDepth 100000
set_option maxHeartbeats 8000000
/-! a step that is possible: two stretches swapped -/
namespace K31
open PySem PySem.Spec PyProof.Rows L2 KA
def cb2 (R : List (List Int)) (L l : List Nat) (a m : Nat) : Prop := a < m ∧ m < l.length ∧ crb R L ((l.drop a).take (m - a)) = true
def G2 (R : List (List Int)) (L l : List Nat) (r : List Int) : Prop := ∃ a m : Nat, r = [(a : Int), (m : Int)] ∧ cb2 R L l a m
def G3 (R : List (List Int)) (L l : List Nat) (r : List Int) : Prop := ∃ a m e : Nat, r = [(a : Int), (m : Int), (e : Int)] ∧ cb2 R L l a m ∧ cb2 R L l m e
theorem bSwap_some {R : List (List Int)} {L l : List Nat} {a m e : Nat} (h1 : cb2 R L l a m) (h2 : cb2 R L l m e) : ∃ z, bSwap R L l (.int (a : Nat)) (.int ((m : Int) - (a : Int))) (.int ((e : Int) - (m : Int))) = some z := by
  obtain ⟨p1, p2, p3⟩ := h1
  obtain ⟨p4, p5, p6⟩ := h2
  have e1 : (m : Int) - (a : Int) = ((m - a : Nat) : Int) := by omega
  have e2 : (e : Int) - (m : Int) = ((e - m : Nat) : Int) := by omega
  rw [e1, e2]
  have nnt : ∀ z : Nat, nn (.int (z : Nat)) = true := fun z => (decide_eq_true (by omega) : decide ((0 : Int) ≤ ((z : Nat) : Int)) = true)
  unfold bSwap
  rw [nnt, nnt, nnt]
  have t : ∀ z : Nat, toN (.int (z : Nat)) = z := fun z => rfl
  rw [t, t, t, decide_eq_true (show a + (m - a) + (e - m) ≤ l.length by omega), p3, show a + (m - a) = m by omega, p6]
  exact ⟨_, rfl⟩
abbrev Sg (b q ls : Addr) (L l : List Nat) (y5 y6 y7 y8 y9 y10 y11 y12 y13 y14 y15 : Option V) : L2.St := [some (.ref b), some (.ref q), some (tx L), some (.ref ls), some (tx l), y5, y6, y7, y8, y9, y10, y11, y12, y13, y14, y15, none]
/-- found so far: rows in a list that is new -/
structure Fnd (H1 H2 : Hp) (pf : Addr) (G : List Int → Prop) (n : Nat) : Prop where
  sm : Same H1 H2
  nf : H1 pf = none
  ex : ∃ fs, KT.RL H2 pf fs ∧ (∀ x ∈ fs, G x.2) ∧ fs.length ≤ n
theorem Fnd.same {H1 H2 H3 : Hp} {pf : Addr} {G : List Int → Prop} {n : Nat} (h : Fnd H1 H2 pf G n) (s : Same H2 H3) : Fnd H1 H3 pf G n := by
  obtain ⟨h1, h2, fs, h3, h4, h5⟩ := h
  exact ⟨h1.trans s, h2, fs, ⟨s _ _ h3.lst, fun x hx => (h3.row x hx).same s⟩, h4, h5⟩
theorem Fnd.put {H1 H2 : Hp} {pf : Addr} {G : List Int → Prop} {n : Nat} (h : Fnd H1 H2 pf G n) {fs : List (Addr × List Int)} (hR : KT.RL H2 pf fs) (hG : ∀ x ∈ fs, G x.2) (hl : fs.length ≤ n) {p : Addr} {r : List Int} (hp : H2 p = some (.tup (r.map V.int))) (hr : G r) :
    Fnd H1 (upd H2 pf (.lst ((fs.map fun x => V.ref x.1) ++ [V.ref p]))) pf G (n + 1) := by
  have ne : ∀ {y : Addr × List Int}, KT.RT H2 y → y.1 ≠ pf := fun {y} hy z => by
    have hy : H2 y.1 = some (.tup (y.2.map V.int)) := hy
    rw [z, hR.lst] at hy
    cases hy
  refine ⟨fun b o e => ?_, h.nf, fs ++ [(p, r)], ⟨?_, fun x hx => ?_⟩, fun x hx => ?_, by rw [List.length_append]; show fs.length + 1 ≤ n + 1; omega⟩
  · rw [upd_ne (ne_of_none e h.nf)]
    exact h.sm _ _ e
  · rw [upd_same]
    show _ = some (HO.lst (List.map (fun x => V.ref x.1) (fs ++ [(p, r)])))
    rw [List.map_append]
    rfl
  · have z : KT.RT H2 x := by
      rcases List.mem_append.mp hx with h | h
      · exact hR.row x h
      · obtain rfl := List.mem_singleton.mp h
        exact hp
    show upd H2 pf _ x.1 = _
    rw [upd_ne (ne z)]
    exact z
  · rcases List.mem_append.mp hx with h | h
    · exact hG x h
    · obtain rfl := List.mem_singleton.mp h
      exact hr
theorem t_zer {K : PySem.W.Frag} {σ : L2.St} {i : Nat} {H : Hp} {L : List Nat} {Q : VK} (hi : σ[i]? = some (some (tx L))) (w1 : 1 ≤ L.length) (w3 : L.length ≤ 3) (q : ∀ H' z, Same H H' → KT.RT H' (z, zer L.length) → Q (.ref z) H') :
    tOp (Rs.rRepT1 K) (tTup (tCons (tC (.int 0)) tNil)) (tCB (fun xs H Q => ∃ z, xs = [.str z] ∧ z.length ≤ sizeLine ∧ Q (.int z.length) H) (tCons (tVar i) tNil)) σ H Q := by
  refine ⟨(by show 1 ≤ sizeLine; decide), fun zz nz => ?_⟩
  have s6 := same_new (o := .tup [V.int 0]) nz
  refine ⟨_, hi, _, rfl, asc_le (w := L) (by omega), zz, (((SX.S L).length : Nat) : Int), [V.int 0], rfl, rfl, SqT.of upd_same, (fun e => nomatch e), ?_, ?_, (by show 1 ≤ 1000; decide), fun e1 => ?_, fun e2 z2 nz2 => ?_⟩
  · rw [tx_len]
    omega
  · rw [tx_len]
    omega
  · have e : L.length = 1 := by
      rw [tx_len] at e1
      omega
    refine q _ zz s6 ?_
    rw [e]
    exact upd_same
  · refine q _ z2 (s6.trans (same_new nz2)) ?_
    have e : (List.replicate ((((SX.S L).length : Nat) : Int)).toNat [V.int 0]).flatten = (zer L.length).map V.int := by
      rw [tx_len]
      have key : ∀ n : Nat, (List.replicate n [V.int 0]).flatten = (List.replicate n (0 : Int)).map V.int := fun n => by
        induction n with
        | zero => rfl
        | succ n ih =>
          rw [List.replicate_succ, List.flatten_cons, ih, List.replicate_succ]
          rfl
      exact key L.length
    rw [e]
    exact upd_same
section
variable {P : Program} {w : World} {K : PySem.W.Frag} {mg : Str → Option Value} {base : Heap}
variable {f fD fA fS fB fNm fN : Addr} {fdD fdA fdS fdB fdNm fdN : FuncData} {cdv : Value} {A : Around} {outer : List Env} {s : Shared} {H : Hp} {E : XK}
/-- the loop that finds the stretches -/
abbrev forF : Stmt := match (defBody sSStep).getD 2 (Stmt.Pass ⟨0, 0, 0, 0⟩) with
  | Stmt.If _ b _ _ => b.getD 1 (Stmt.Pass ⟨0, 0, 0, 0⟩)
  | _ => Stmt.Pass ⟨0, 0, 0, 0⟩
theorem ssF (B : Bn mg) (cNm : KT.Cb P w K mg base CX0 3 "_law_named" ["_law_rows", "_law_counts_now"] spNmd fNm fdNm) (cN : KT.Cb P w K mg base CX0 1 "_law_number_of" ["_law_one", "_law_letters_here"] spCof fN fdN) (hr : Room 4 (A.deeper (envOfC "_law_some_step" (defScope sSStep) s.heap.objs.size f cdv))) :
    ∃ t, PS (XSs P w K mg base f cdv A outer s H E) forF t ∧ ∀ (Dn : Ends) (H1 : Hp) (b q ls pf : Addr) (L l : List Nat) (rs : Rls) (R : List (List Int)) (y5 y6 y7 y8 y9 y10 y12 y13 y14 y15 : Option V), Lw H1 q L ls rs l R → l.length ≤ 20 → H1 pf = none →
      (∀ H2 y8 y9 y12, Fnd H1 H2 pf (G2 R L l) 400 → Dn.nx (Sg b q ls L l y5 y6 y7 y8 y9 y10 (some (.ref pf)) y12 y13 y14 y15) H2) →
      t Dn (Sg b q ls L l y5 y6 y7 y8 y9 y10 (some (.ref pf)) y12 y13 y14 y15) (upd H1 pf (.lst [])) := by
  have r3 : Room 3 (A.deeper (envOfC "_law_some_step" (defScope sSStep) s.heap.objs.size f cdv)) := hr.mono (by decide)
  have r1 : Room 1 (A.deeper (envOfC "_law_some_step" (defScope sSStep) s.heap.objs.size f cdv)) := hr.mono (by decide)
  refine ⟨_, ps_for PassesOwn.never rfl (pi_range1 (by rfl) B.range (pa_cons (pe_callB call_len_str (by rfl) B.len PySem.boot_len (pa_cons (pv 4) pa_nil)) pa_nil)) (pg_name (i := 9) scSs.nd rfl (Or.inr rfl))
       (pss_one (ps_for PassesOwn.never rfl (pi_range2 (by rfl) B.range (pa_cons (pe_op op_add (pv 9) pe_int) (pa_cons (pe_callB call_len_str (by rfl) B.len PySem.boot_len (pa_cons (pv 4) pa_nil)) pa_nil))) (pg_name (i := 12) scSs.nd rfl (Or.inr rfl))
          (pss_cons (ps_set (i := 8) scSs.nd rfl (.inr rfl) (pe_call cNm.ok r3 (by rfl) cNm.g cNm.kp cNm.b .nil pass0 (pa_cons (pv 1) (pa_cons (pe_call cN.ok r1 (by rfl) cN.g cN.kp cN.b .nil pass0 (pa_cons (pe_slice sl_str (pv 4) (po_some (pv 9)) (po_some (pv 12))) (pa_cons (pv 2) pa_nil))) pa_nil))))
          (pss_one (ps_if (pt_cmpR (op_eqD hr.units) (pv 8) (pe_op Rs.op_repT1 (pe_tup (pa_cons pe_int pa_nil)) (pe_callB call_len_str (by rfl) B.len PySem.boot_len (pa_cons (pv 2) pa_nil))) (nomark _))
            (pss_one (ps_expr (pe_bm PySem.F.plainAttrs_list PySem.F.slot_list_append PySem.F.type_list_append mt_append (pv 11) (pa_cons (pe_tup (pa_cons (pv 9) (pa_cons (pv 12) pa_nil))) pa_nil)))) pss_nil))))), ?_⟩
  intro Dn H1 b q ls pf L l rs R y5 y6 y7 y8 y9 y10 y12 y13 y14 y15 lw hl npf nx
  have ab := asc_le (w := l) (by omega)
  have wd3 := lw.rw_.w3
  have w1 := lw.w1
  refine ⟨_, rfl, _, rfl, ab, _, rfl, by rw [tx_len]; omega, by rw [tx_len]; omega, ?_⟩
  rw [tx_len, show ((l.length : Nat) : Int).toNat = l.length from rfl]
  refine for_it (walk_range (lo := 0) (n := l.length)) (fun i σ H2 => ∃ y8 y9 y12, σ = Sg b q ls L l y5 y6 y7 y8 y9 y10 (some (.ref pf)) y12 y13 y14 y15 ∧ Fnd H1 H2 pf (G2 R L l) (i * 20))
    ⟨y8, y9, y12, rfl, same_new npf, npf, [], ⟨upd_same, fun x hx => nomatch hx⟩, (fun x hx => nomatch hx), Nat.zero_le _⟩ (fun _ _ _ _ _ => trivial) ?_ ?_
  · rintro i v σ H2 H2' hi ⟨z8, z9, z12, rfl, fd⟩ ⟨rfl, rfl⟩
    show gName 9 (.int (0 + (i : Nat))) _ _ _
    rw [show (0 : Int) + (i : Nat) = (i : Nat) by omega]
    refine ⟨_, rfl, _, _, rfl, rfl, _, rfl, _, rfl, ab, _, _, rfl, ⟨by omega, by omega, by rw [tx_len]; omega, by rw [tx_len]; omega⟩, ?_⟩
    rw [tx_len, show ((l.length : Nat) - ((i : Nat) + 1 : Int)).toNat = l.length - (i + 1) by omega]
    refine for_it (walk_range (lo := (i : Nat) + 1) (n := l.length - (i + 1))) (fun j σ H3 => ∃ y8 y12, σ = Sg b q ls L l y5 y6 y7 y8 (some (.int (i : Nat))) y10 (some (.ref pf)) y12 y13 y14 y15 ∧ Fnd H1 H3 pf (G2 R L l) (i * 20 + j))
      ⟨z8, z12, rfl, fd⟩ (fun _ _ _ _ _ => trivial) ?_ ?_
    · rintro j v σ H3 H3' hj ⟨x8, x12, rfl, fd3⟩ ⟨rfl, rfl⟩
      show gName 12 (.int (((i : Nat) : Int) + 1 + (j : Nat))) _ _ _
      have ec : cutS (SX.S l) (some ((i : Nat) : Int)) (some (((i : Nat) : Int) + 1 + (j : Nat))) = SX.S ((l.drop i).take (j + 1)) := by
        rw [show ((i : Nat) : Int) + 1 + (j : Nat) = ((i : Nat) : Int) + ((j + 1 : Nat) : Int) by omega]
        exact cut_mid l i (j + 1)
      have lw3 := lw.same fd3.sm
      have lp : ((l.drop i).take (j + 1)).length ≤ 20 := by rw [List.length_take, List.length_drop]; omega
      refine ⟨_, rfl, _, rfl, _, rfl, _, rfl, _, rfl, _, rfl, _, rfl, ab, ?_⟩
      rw [ec]
      refine ⟨_, rfl, (l.drop i).take (j + 1), L, rfl, lw.lt, fun H4 pa s4 na h4 => ?_⟩
      have lw4 := lw3.same s4
      refine ⟨q, (pa, cnI ((l.drop i).take (j + 1)) L), L.length, R, rfl, lw4.rw_, ?_, cnI_len _ L, fun y hy => Nat.lt_of_le_of_lt (Nat.le_trans (cnI_bd y hy) lp) (by decide), fun H5 p5 s5 h5 => ?_⟩
      · show H4 pa = some (.tup ((cnI _ L).map V.int))
        rw [← cn_I]
        exact h4
      refine ⟨_, rfl, ?_⟩
      refine t_zer (L := L) rfl w1 wd3 fun H6 z6 s6 hz6 => ?_
      refine ⟨KT.dR (rdc R (cnI ((l.drop i).take (j + 1)) L)), KT.dR (zer L.length), dp_dR (h5.same s6), dp_dR hz6, shaped_dR _, shaped_dR _, _, rfl, ?_⟩
      rw [eqv_dR]
      have fd6 := fd3.same ((s4.trans s5).trans s6)
      show if (crb R L ((l.drop i).take (j + 1))) = true then _ else _
      cases hcz : crb R L ((l.drop i).take (j + 1)) with
      | false =>
        obtain ⟨h1, h2, fs, h3, h4, h5⟩ := fd6
        exact iteF ⟨_, _, rfl, h1, h2, fs, h3, h4, by omega⟩
      | true =>
        refine iteT ?_
        obtain ⟨fs, hR, hG, hfl⟩ := fd6.ex
        have ei : i * 20 ≤ 20 * 20 := Nat.mul_le_mul_right _ (by omega)
        refine ⟨_, rfl, .inl ⟨rfl, _, SqL.of hR.lst⟩, _, rfl, _, rfl, (by show 2 ≤ sizeLine; decide), fun pt npt => ?_⟩
        have s7 := same_new (o := .tup [V.int ((i : Nat) : Int), V.int (((i : Nat) : Int) + 1 + (j : Nat))]) npt
        have fd7 := fd6.same s7
        have hR7 : KT.RL _ pf fs := ⟨s7 _ _ hR.lst, fun x hx => (hR.row x hx).same s7⟩
        refine ⟨pf, _, _, rfl, rfl, hR7.lst, ?_, _, _, rfl, fd7.put hR7 hG hfl (r := [((i : Nat) : Int), ((i : Nat) : Int) + 1 + (j : Nat)]) upd_same ⟨i, i + 1 + j, ?_, by omega, by omega, ?_⟩⟩
        · rw [List.length_map]
          exact small1000 (by omega)
        · rw [show ((i + 1 + j : Nat) : Int) = ((i : Nat) : Int) + 1 + (j : Nat) by omega]
        · rw [show i + 1 + j - i = j + 1 by omega]
          exact hcz
    · rintro σ H3 ⟨x8, x12, rfl, fd3⟩
      obtain ⟨h1, h2, fs, h3, h4, h5⟩ := fd3
      exact ⟨_, _, _, rfl, h1, h2, fs, h3, h4, by omega⟩
  · rintro σ H2 ⟨z8, z9, z12, rfl, fd⟩
    obtain ⟨h1, h2, fs, h3, h4, h5⟩ := fd
    have : l.length * 20 ≤ 20 * 20 := Nat.mul_le_mul_right _ hl
    exact nx H2 z8 z9 z12 ⟨h1, h2, fs, h3, h4, by omega⟩
end
end K31
set_option maxRecDepth 100000
set_option maxHeartbeats 8000000
/-! a step that is possible: two stretches swapped, the pairs -/
namespace K31
open PySem PySem.Spec PyProof.Rows L2 KA
abbrev ttPr : TT := tTest (tOp rEq (tVar 16) (tVar 12))
abbrev tePr : TE := tTup (tCons (tVar 9) (tCons (tVar 12) (tCons (tVar 14) tNil)))
theorem lc_prs {K : PySem.W.Frag} {H1 : Hp} {pf D b q ls : Addr} {L l : List Nat} {R : List (List Int)} {y5 y6 y7 y8 y10 y11 y13 y14 y15 : Option V} {a m : Nat} {fs : List (Addr × List Int)} {Qd : Hp → Prop} (hR : KT.RL H1 pf fs) (hG : ∀ x ∈ fs, G2 R L l x.2) (hz : fs.length ≤ 400) (hc : cb2 R L l a m) (nD : H1 D = none)
    (hd : ∀ H2, Fnd H1 H2 D (G3 R L l) 400 → Qd H2) :
    ∃ W : Nat → Nat → Hp → Prop, (∃ m, W 0 m (upd H1 D (.lst []))) ∧ ∀ jj mm H, W jj mm H →
      ((Itl K pf).stop jj H ∧ Qd H) ∨ ((Itl K pf).go jj H ∧ ∃ Nx : Hp → Prop, (∀ H', Nx H' → ∃ m', m' < mm ∧ W (jj + 1) m' H') ∧ ∀ x H', (Itl K pf).yld jj H x H' → gTup K 2 (gCons (gName 16) (gCons (gName 14) gNil)) x (wipe [some (.ref b), some (.ref q), some (tx L), some (.ref ls), some (tx l), y5, y6, y7, y8, some (.int (a : Nat)), y10, y11, some (.int (m : Nat)), y13, y14, y15, none] [16, 14]) H' fun σ2 H2 => wipe σ2 [16, 14] = wipe [some (.ref b), some (.ref q), some (tx L), some (.ref ls), some (tx l), y5, y6, y7, y8, some (.int (a : Nat)), y10, y11, some (.int (m : Nat)), y13, y14, y15, none] [16, 14] ∧ ttPr σ2 H2 fun b H3 =>
        if b = true then tePr σ2 H3 fun v H4 => ∃ ac, H4 D = some (.lst ac) ∧ ac.length < sizeLine ∧ Nx (upd H4 D (.lst (ac ++ [v]))) else Nx H3) := by
  refine lc_it (walk_list (K := K) (a := pf) (xs := fs.map fun x => V.ref x.1)) (fun j H2 => Fnd H1 H2 D (G3 R L l) j) ⟨same_new nD, nD, [], ⟨upd_same, fun x hx => nomatch hx⟩, (fun x hx => nomatch hx), Nat.le_refl _⟩ (fun j H2 _ h => SqL.of (h.sm _ _ hR.lst)) ?_ (fun H2 h => hd H2 (by
    obtain ⟨h1, h2, gs, h3, h4, h5⟩ := h
    rw [List.length_map] at h5
    exact ⟨h1, h2, gs, h3, h4, by omega⟩))
  rintro n v H2 H2' hn fd ⟨rfl, hx⟩
  rw [List.getElem?_map] at hx
  obtain ⟨x, hx0, rfl⟩ := Option.map_eq_some_iff.mp hx
  have hm : x ∈ fs := List.mem_of_getElem? hx0
  rw [List.length_map] at hn
  obtain ⟨a2, m2, er, hc2⟩ := hG x hm
  have hq : H1 x.1 = some (.tup (x.2.map V.int)) := hR.row x hm
  rw [er] at hq
  refine ⟨x.1, [.int (a2 : Nat), .int (m2 : Nat)], rfl, SqT.of (fd.sm _ _ hq), rfl, _, _, rfl, _, _, rfl, rfl, rfl, ?_⟩
  refine ⟨_, rfl, _, rfl, rfl, _, rfl, ?_⟩
  by_cases hma : a2 = m
  · subst hma
    rw [decide_eq_true rfl]
    refine iteT ⟨_, rfl, _, rfl, _, rfl, (by show 3 ≤ sizeLine; decide), fun pt npt => ?_⟩
    have s7 := same_new (o := .tup [V.int (a : Nat), V.int (a2 : Nat), V.int (m2 : Nat)]) npt
    have fd7 := fd.same s7
    obtain ⟨gs, hR2, hG2, hl2⟩ := fd.ex
    have hR7 : KT.RL _ D gs := ⟨s7 _ _ hR2.lst, fun x hx => (hR2.row x hx).same s7⟩
    refine ⟨_, hR7.lst, ?_, fd7.put hR7 hG2 hl2 (r := [(a : Int), (a2 : Int), (m2 : Int)]) upd_same ⟨a, a2, m2, rfl, hc, hc2⟩⟩
    rw [List.length_map]
    exact small1000 (by omega)
  · rw [decide_eq_false (show ¬ V.int (a2 : Nat) = V.int (m : Nat) from fun h => hma (by injection h; omega))]
    obtain ⟨h1, h2, gs, h3, h4, h5⟩ := fd
    exact iteF ⟨h1, h2, gs, h3, h4, by omega⟩
section
variable {P : Program} {w : World} {K : PySem.W.Frag} {mg : Str → Option Value} {base : Heap}
variable {f fD fA fS fB fNm fN : Addr} {fdD fdA fdS fdB fdNm fdN : FuncData} {cdv : Value} {A : Around} {outer : List Env} {s : Shared} {H : Hp} {E : XK}
theorem ss2 (B : Bn mg) (D : Drw P w K mg base fD fA fS fB fdD fdA fdS fdB) (cNm : KT.Cb P w K mg base CX0 3 "_law_named" ["_law_rows", "_law_counts_now"] spNmd fNm fdNm) (cN : KT.Cb P w K mg base CX0 1 "_law_number_of" ["_law_one", "_law_letters_here"] spCof fN fdN) (hr : Room 4 (A.deeper (envOfC "_law_some_step" (defScope sSStep) s.heap.objs.size f cdv))) :
    ∃ t, PSs (XSs P w K mg base f cdv A outer s H E) ((defBody sSStep).drop 2) t ∧ ∀ (Dn : Ends) (H1 : Hp) (b m q ls : Addr) (L l : List Nat) (rs : Rls) (R : List (List Int)) (way : Int) (y6 y7 y8 y9 y10 y11 y12 y13 y14 y15 : Option V), Bx H1 b m → Lw H1 q L ls rs l R → l.length ≤ 20 → q ≠ b → ls ≠ b → PostS H1 b m R L (wds rs) l Dn.rt →
      t Dn (Sg b q ls L l (some (.int way)) y6 y7 y8 y9 y10 y11 y12 y13 y14 y15) H1 := by
  have r2 : Room 2 (A.deeper (envOfC "_law_some_step" (defScope sSStep) s.heap.objs.size f cdv)) := hr.mono (by decide)
  obtain ⟨t3, P3, R3⟩ := ss3 (P := P) (w := w) (K := K) (base := base) (f := f) (cdv := cdv) (A := A) (outer := outer) (s := s) (H := H) (E := E) B D hr
  obtain ⟨tF, PF, RF⟩ := ssF (P := P) (w := w) (K := K) (base := base) (f := f) (cdv := cdv) (A := A) (outer := outer) (s := s) (H := H) (E := E) B cNm cN hr
  refine ⟨_, pss_cons (ps_if (pt_cmpR op_eq (pv 5) pe_int (nomark _))
      (pss_cons (ps_set (i := 11) scSs.nd rfl (.inl rfl) (pe_lst pa_nil))
      (pss_cons PF
      (pss_cons (ps_set (i := 13) scSs.nd rfl (.inl rfl) (pe_lst pa_nil))
      (pss_cons (ps_for PassesOwn.never rfl (pi_list (pv 11)) (pg_tup rfl (pgs_cons (pg_name (i := 9) scSs.nd rfl (.inr rfl)) (pgs_cons (pg_name (i := 12) scSs.nd rfl (.inr rfl)) pgs_nil)))
        (pss_one (ps_set (i := 13) scSs.nd rfl (.inl rfl) (pe_op op_cat (pv 13) (pe_lc (own := [("_law_first", 16), ("_law_end", 14)]) (g := gTup K 2 (gCons (gName 16) (gCons (gName 14) gNil))) (tt := ttPr) (te := tePr) rfl scSs.nd (pi_list (pv 11))
          (blkOk_by (N := NSs) (sc := defScope sSStep) (by decide +kernel)) (fun _ _ _ _ _ => pg_tup rfl (pgs_cons (pg_name (i := 16) scSs.nd rfl (Or.inl rfl)) (pgs_cons (pg_name (i := 14) scSs.nd rfl (Or.inl rfl)) pgs_nil))) (fun _ _ _ _ _ => pts_one (pt_cmpR op_eq (pv 16) (pv 12) (nomark _)))
          (fun _ _ _ _ _ => pe_tup (pa_cons (pv 9) (pa_cons (pv 12) (pa_cons (pv 14) pa_nil)))))))))
      (pss_one (ps_if (pt_cmpR (op_neD hr.units) (pv 13) (pe_lst pa_nil) (nomark _))
        (pss_cons (ps_asg (pe_call D.a.ok r2 (by rfl) D.a.g D.a.kp D.a.b .nil pass0 (pa_cons (pv 0) (pa_cons (pv 13) pa_nil))) (pg_tup rfl (pgs_cons (pg_name (i := 9) scSs.nd rfl (.inr rfl)) (pgs_cons (pg_name (i := 12) scSs.nd rfl (.inr rfl)) (pgs_cons (pg_name (i := 14) scSs.nd rfl (.inl rfl)) pgs_nil)))))
        (pss_one (ps_ret (pe_tup (pa_cons pe_str (pa_cons (pv 9) (pa_cons (pe_op op_sub (pv 12) (pv 9)) (pa_cons (pe_op op_sub (pv 14) (pv 12)) pa_nil)))))))) pss_nil))))))
      pss_nil) P3, ?_⟩
  intro Dn H1 b m q ls L l rs R way y6 y7 y8 y9 y10 y11 y12 y13 y14 y15 bx lw hl hq hls post
  have go3 : ∀ (H2 : Hp) (y6 y7 y8 y9 y10 y11 y12 y13 y14 y15 : Option V), Same H1 H2 → t3 Dn (Sg b q ls L l (some (.int way)) y6 y7 y8 y9 y10 y11 y12 y13 y14 y15) H2 := fun H2 y6 y7 y8 y9 y10 y11 y12 y13 y14 y15 s2 => R3 Dn H2 b m q ls L l rs R _ y6 y7 y8 y9 y10 y11 y12 y13 y14 y15 (bx.same s2) (lw.same s2) hq hls fun H' ps st g => post H' ps st ((BxGo.of bx s2).trans g)
  by_cases hw : way = 2
  · refine ⟨_, rfl, rfl, true, congrArg V.bl (decide_eq_true (by rw [hw])), iteT ?_⟩
    refine ⟨(by show 0 ≤ sizeLine; decide), fun pf npf => ?_⟩
    refine RF _ H1 b q ls pf L l rs R _ _ _ _ _ _ _ _ _ _ lw hl npf fun H2 y8 y9 y12 fd => ?_
    obtain ⟨fs, hR, hG, hz⟩ := fd.ex
    refine ⟨(by show 0 ≤ sizeLine; decide), fun pp npp => ?_⟩
    have s3 := same_new (o := .lst []) npp
    have s13 := fd.sm.trans s3
    have hp3 : (upd H2 pp (.lst [])) pp = some (.lst ((([] : List (Addr × List Int))).map fun x => V.ref x.1)) := upd_same
    have hR3 : KT.RL (upd H2 pp (.lst [])) pf fs := ⟨s3 _ _ hR.lst, fun x hx => (hR.row x hx).same s3⟩
    generalize upd H2 pp (.lst []) = H3 at s3 s13 hp3 hR3
    refine ⟨_, rfl, pf, rfl, ⟨_, SqL.of hR3.lst⟩, ?_⟩
    refine for_it (walk_list (K := K) (a := pf) (xs := fs.map fun x => V.ref x.1)) (fun i σ H4 => ∃ (pp : Addr) (gs : List (Addr × List Int)) (y9 y12 : Option V), σ = Sg b q ls L l (some (.int way)) y6 y7 y8 y9 y10 (some (.ref pf)) y12 (some (.ref pp)) y14 y15 ∧ Same H3 H4 ∧ KT.RL H4 pp gs ∧ (∀ x ∈ gs, G3 R L l x.2) ∧ gs.length ≤ i * 400)
      ⟨pp, [], _, _, rfl, Same.refl _, ⟨hp3, fun x hx => nomatch hx⟩, (fun x hx => nomatch hx), Nat.zero_le _⟩ (fun i σ H4 _ h => ?_) ?_ ?_
    · obtain ⟨_, _, _, _, _, sm, _⟩ := h
      exact SqL.of (sm _ _ hR3.lst)
    · rintro i v σ H4 H4' hi ⟨pp, gs, z9, z12, rfl, sm, hRg, hGg, hlg⟩ ⟨rfl, hx⟩
      rw [List.getElem?_map] at hx
      obtain ⟨x, hx0, rfl⟩ := Option.map_eq_some_iff.mp hx
      have hm : x ∈ fs := List.mem_of_getElem? hx0
      rw [List.length_map] at hi
      obtain ⟨a, m2, er, hc⟩ := hG x hm
      have hqx : H3 x.1 = some (.tup (x.2.map V.int)) := hR3.row x hm
      rw [er] at hqx
      refine ⟨x.1, [.int (a : Nat), .int (m2 : Nat)], rfl, SqT.of (sm _ _ hqx), rfl, _, _, rfl, _, _, rfl, rfl, ?_⟩
      have hR4 : KT.RL H4' pf fs := ⟨sm _ _ hR3.lst, fun x hx => (hR3.row x hx).same sm⟩
      refine ⟨_, rfl, _, rfl, pf, rfl, ⟨_, SqL.of hR4.lst⟩, fun Dl nD => ?_⟩
      refine lc_prs (K := K) (b := b) (q := q) (ls := ls) (y5 := some (.int way)) (y6 := y6) (y7 := y7) (y8 := y8) (y10 := y10) (y11 := some (.ref pf)) (y13 := some (.ref pp)) (y14 := y14) (y15 := y15) (a := a) (m := m2) hR4 hG hz hc nD fun H5 fd5 => ?_
      obtain ⟨hs, hRh, hGh, hlh⟩ := fd5.ex
      have hp5 := fd5.sm _ _ hRg.lst
      have e400 : i * 400 ≤ 400 * 400 := Nat.mul_le_mul_right _ (by omega)
      refine ⟨pp, Dl, _, _, rfl, rfl, hp5, hRh.lst, ?_, fun pn npn => ?_⟩
      · rw [List.length_map, List.length_map]
        exact Nat.le_trans (show gs.length + hs.length ≤ 200000 by omega) (by decide)
      have s6 := same_new (o := .lst ((gs.map fun x => V.ref x.1) ++ hs.map fun x => V.ref x.1)) npn
      have hn6 : (upd H5 pn (.lst ((gs.map fun x => V.ref x.1) ++ hs.map fun x => V.ref x.1))) pn = some (.lst ((gs.map fun x => V.ref x.1) ++ hs.map fun x => V.ref x.1)) := upd_same
      refine ⟨pn, gs ++ hs, _, _, rfl, (sm.trans fd5.sm).trans s6, ⟨?_, fun y hy => ?_⟩, fun y hy => ?_, ?_⟩
      · show _ = some (HO.lst ((gs ++ hs).map fun x => V.ref x.1))
        rw [List.map_append]
        exact hn6
      · rcases List.mem_append.mp hy with h | h
        · exact ((hRg.row y h).same fd5.sm).same s6
        · exact (hRh.row y h).same s6
      · rcases List.mem_append.mp hy with h | h
        · exact hGg y h
        · exact hGh y h
      · rw [List.length_append]
        omega
    · rintro σ H4 ⟨pp, gs, z9, z12, rfl, sm, hRg, hGg, hlg⟩
      rw [List.length_map] at hlg
      have s14 := s13.trans sm
      have e400 : fs.length * 400 ≤ 400 * 400 := Nat.mul_le_mul_right _ hz
      refine ⟨_, rfl, (by show 0 ≤ sizeLine; decide), fun p np => ?_⟩
      have s5 := same_new (o := .lst []) np
      have hR5 : KT.RL (upd H4 p (.lst [])) pp gs := ⟨s5 _ _ hRg.lst, fun x hx => (hRg.row x hx).same s5⟩
      refine ⟨KT.dRs (KT.rw_ gs), KT.dRs [], .lst (SqL.of hR5.lst) (KT.dp_rowsL gs hR5.row), .lst (SqL.of upd_same) .nil, KT.shaped_rows _, KT.shaped_rows _, ?_⟩
      rw [KT.eqv_rows]
      have s15 := s14.trans s5
      generalize upd H4 p (.lst []) = H5 at s5 hR5 s15
      cases gs with
      | nil => exact ⟨false, rfl, iteF (go3 H5 _ _ _ _ _ _ _ _ _ _ s15)⟩
      | cons g gs =>
        refine ⟨true, rfl, iteT ?_⟩
        have bx5 := bx.same s15
        have hpb : pp ≠ b := fun z => by
          obtain ⟨ms, i, r, s, hb, _⟩ := bx5
          have z2 := hR5.lst
          rw [z, hb] at z2
          injection z2 with z2
          injection z2 with z2
          have z4 : (V.int i) ∈ (g :: gs).map (fun x => V.ref x.1) := by
            show (V.int i) ∈ KT.rf (g :: gs)
            rw [← z2]
            simp
          obtain ⟨_, _, h⟩ := List.mem_map.mp z4
          cases h
        refine ⟨_, rfl, _, rfl, b, m, pp, _, rfl, bx5, hR5.lst, hpb, (fun h => nomatch h), by rw [List.length_map]; omega, fun v H6 hv t6 => ?_⟩
        obtain ⟨x, hx, rfl⟩ := List.mem_map.mp hv
        obtain ⟨a, m2, e, er, hc1, hc2⟩ := hGg x hx
        have hx5 : H5 x.1 = some (.tup (x.2.map V.int)) := hR5.row x hx
        rw [er] at hx5
        have hxb : x.1 ≠ b := fun z => by
          obtain ⟨ms, i, r, s, hb, _⟩ := bx5
          rw [z, hb] at hx5
          cases hx5
        have hx6 := t6.go.2 _ _ hxb hx5
        have g6 : BxGo H1 H6 b m := (BxGo.of bx s15).trans t6.go
        refine ⟨x.1, [.int (a : Nat), .int (m2 : Nat), .int (e : Nat)], rfl, SqT.of hx6, rfl, _, _, rfl, _, _, rfl, _, _, rfl, rfl, ?_⟩
        refine ⟨_, rfl, _, rfl, _, rfl, _, _, rfl, rfl, _, rfl, _, rfl, _, _, rfl, rfl, (by show 4 ≤ sizeLine; decide), fun pt npt => ?_⟩
        refine post _ pt [kSwap, .int (a : Nat), .int ((m2 : Int) - (a : Int)), .int ((e : Int) - (m2 : Int))] (g6.trans (BxGo.of g6.1 (same_new npt))) upd_same (fun v hv => ?_) (Nat.le_refl _) ?_
        · rcases List.mem_cons.mp hv with rfl | hv
          · exact fk_swap
          rcases List.mem_cons.mp hv with rfl | hv
          · exact .int _
          rcases List.mem_cons.mp hv with rfl | hv
          · exact .int _
          · obtain rfl := List.mem_singleton.mp hv
            exact .int _
        · rw [bh_swap]
          exact bSwap_some hc1 hc2
  · exact ⟨_, rfl, rfl, false, congrArg V.bl (decide_eq_false (fun h => hw (by injection h))), iteF (go3 H1 _ _ _ _ _ _ _ _ _ _ (Same.refl _))⟩
end
end K31
set_option maxRecDepth 100000
set_option maxHeartbeats 8000000
/-! _law_some_step -/
namespace K31
open PySem PySem.Spec PyProof.Rows L2 KA
theorem bRule_some {ws : List (List (List Nat))} {l : List Nat} {n k : Nat} {fw : Bool} (hn : n < ws.length) (hk : k ≤ l.length) (h : (l.drop k).take (oldS (ws.getD n []) (.bl fw)).length = oldS (ws.getD n []) (.bl fw)) : ∃ z, bRule ws l (.int (n : Nat)) (.bl fw) (.int (k : Nat)) = some z := by
  have e1 : inR (.int (n : Nat)) 0 ((ws.length : Nat) - 1) = true := by
    show (decide ((0 : Int) ≤ ((n : Nat) : Int)) && decide (((n : Nat) : Int) ≤ (ws.length : Nat) - 1)) = true
    rw [decide_eq_true (by omega), decide_eq_true (by omega)]
    rfl
  have e2 : inR (.int (k : Nat)) 0 (l.length : Nat) = true := by
    show (decide ((0 : Int) ≤ ((k : Nat) : Int)) && decide (((k : Nat) : Int) ≤ (l.length : Nat))) = true
    rw [decide_eq_true (by omega), decide_eq_true (by omega)]
    rfl
  have t : ∀ z : Nat, toN (.int (z : Nat)) = z := fun z => rfl
  unfold bRule
  rw [e1, e2, t, t, decide_eq_true h]
  exact ⟨_, rfl⟩
theorem isW_asc2 {l L : List Nat} (hL : Lt L) (h : isW l L = true) : Asc l := isW_asc hL h
abbrev ttSp : TT := tTest (tOp rEq (tSl rSlS (tVar 4) (tPart (tVar 9)) (tPart (tOp (rI0 fun i j => .int (i + j)) (tVar 9) (tCB (fun xs H Q => ∃ z, xs = [.str z] ∧ z.length ≤ sizeLine ∧ Q (.int z.length) H) (tCons (tVar 8) tNil))))) (tVar 8))
theorem t_left {K : PySem.W.Frag} {σ : L2.St} {ls : Addr} {n : Nat} {fw : Bool} {H : Hp} {L : List Nat} {rs : Rls} {Q : VK} (h3 : σ[3]? = some (some (.ref ls))) (h6 : σ[6]? = some (some (.int (n : Nat)))) (h7 : σ[7]? = some (some (.bl fw))) (hl : H ls = some (.lst (rfs rs))) (tw : Tws H rs) (hn : n < rs.length) (ok : ∀ r ∈ wds rs, okR L r = true)
    (q : Q (tx (oldS ((wds rs).getD n []) (.bl fw))) H) : tOp (rIxT K) (tOp (rIxL K) (tVar 3) (tVar 6)) (tIf (tB (tVar 7)) (tC (.int 0)) (tC (.int 1))) σ H Q := by
  have gl : rs[n]? = some rs[n] := List.getElem?_eq_getElem hn
  have hmem : rs[n] ∈ rs := List.getElem_mem hn
  have gd : (wds rs).getD n [] = rs[n].2 := by
    rw [List.getD_eq_getElem?_getD, List.getElem?_map, gl]
    rfl
  have tr := (tw _ hmem).1
  have hok1 := ok _ (List.mem_map.mpr ⟨_, hmem, rfl⟩)
  have hat : atI (rfs rs) ((n : Nat) : Int) = some (.ref rs[n].1) := by
    refine atI_nat ?_
    rw [List.getElem?_map, gl]
    rfl
  rw [gd] at q
  generalize rs[n] = r at gl hmem tr hok1 hat q
  obtain ⟨r0, ws⟩ := r
  obtain ⟨u, v, rfl, _, _, _, _⟩ := okR_two hok1
  have tr : H r0 = some (.tup [tx u, tx v]) := tr
  refine ⟨_, h3, _, h6, ls, _, _, _, rfl, rfl, SqL.of hl, hat, _, h7, fw, rfl, ?_⟩
  cases fw with
  | true => exact iteT ⟨r0, _, 0, _, rfl, rfl, SqT.of tr, rfl, q⟩
  | false => exact iteF ⟨r0, _, 1, _, rfl, rfl, SqT.of tr, rfl, q⟩
section
variable {P : Program} {w : World} {K : PySem.W.Frag} {mg : Str → Option Value} {base : Heap}
theorem ok_sstep {f fD fA fS fB fNm fN : Addr} {fd fdD fdA fdS fdB fdNm fdN : FuncData} (F : Fun K "_law_some_step" "_law_some_step" sSStep f fd) (B : Bn mg) (D : Drw P w K mg base fD fA fS fB fdD fdA fdS fdB) (cNm : KT.Cb P w K mg base CX0 3 "_law_named" ["_law_rows", "_law_counts_now"] spNmd fNm fdNm) (cN : KT.Cb P w K mg base CX0 1 "_law_number_of" ["_law_one", "_law_letters_here"] spCof fN fdN) :
    FnOk P w K mg base CX0 5 f fd ["_law_box", "_law_rows", "_law_letters_here", "_law_some", "_law_one"] (fun vs H Q E => ∃ (b m q ls : Addr) (L l : List Nat) (rs : Rls) (R : List (List Int)), vs = [.ref b, .ref q, tx L, .ref ls, tx l] ∧ Bx H b m ∧ Lw H q L ls rs l R ∧ l.length ≤ 20 ∧ q ≠ b ∧ ls ≠ b ∧ rs.length ≤ 6 ∧ PostS H b m R L (wds rs) l Q) := by
  refine F.ok scSs (fun vs H Q E h => ?_) (fun cdv A outer s H vs Q E hr h => ?_)
  · obtain ⟨b, m, q, ls, L, l, rs, R, rfl, _⟩ := h
    rfl
  · obtain ⟨b, m, q, ls, L, l, rs, R, rfl, bx, lw, hl, hq, hls, h6, post⟩ := h
    have r1 : Room 1 (A.deeper (envOfC "_law_some_step" (defScope sSStep) s.heap.objs.size f cdv)) := hr.mono (by decide)
    have r2 : Room 2 (A.deeper (envOfC "_law_some_step" (defScope sSStep) s.heap.objs.size f cdv)) := hr.mono (by decide)
    obtain ⟨t2, P2, R2⟩ := ss2 (P := P) (w := w) (K := K) (base := base) (f := f) (cdv := cdv) (A := A) (outer := outer) (s := s) (H := H) (E := E) B D cNm cN hr
    refine ⟨_, pss_cons (ps_set (i := 5) scSs.nd rfl (.inl rfl) (pe_call D.d.ok r1 (by rfl) D.d.g D.d.kp D.d.b .nil pass0 (pa_cons (pv 0) (pa_cons pe_int pa_nil))))
      (pss_cons (ps_if (PW.pt (pw_and (pt_cmpR op_lt (pv 5) pe_int (nomark _)) (pw_and1 (pt_cmpR (op_neD hr.units) (pv 3) (pe_lst pa_nil) (nomark _)))))
        (pss_cons (ps_par (i := 6) (j := 7) (by rfl) scSs.nd rfl rfl (by decide) rfl rfl (pa_cons (pe_call D.d.ok r1 (by rfl) D.d.g D.d.kp D.d.b .nil pass0 (pa_cons (pv 0) (pa_cons (pe_callB call_len_seq (by rfl) B.len PySem.boot_len (pa_cons (pv 3) pa_nil)) pa_nil))) (pa_cons (pe_cmpR op_eq (pe_call D.d.ok r1 (by rfl) D.d.g D.d.kp D.d.b .nil pass0 (pa_cons (pv 0) (pa_cons pe_int pa_nil))) pe_int (nomark _)) pa_nil)) (by rfl))
        (pss_cons (ps_set (i := 8) scSs.nd rfl (.inr rfl) (pe_ix ix_tup (pe_ix ix_list (pv 3) (pv 6) (fun _ _ => rfl)) (pe_ifExp (pt_val (pv 7)) pe_int pe_int) (fun _ _ => rfl)))
        (pss_cons (ps_setLc (i := 10) (own := [("_law_at", 9)]) (g := gName 9) (tt := ttSp) (te := tVar 9) rfl scSs.nd rfl rfl (sw_true rfl rfl rfl (by decide +kernel)) (pi_range1 (by rfl) B.range (pa_cons (pe_op op_add (pe_callB call_len_str (by rfl) B.len PySem.boot_len (pa_cons (pv 4) pa_nil)) pe_int) pa_nil))
          (blkOk_by (N := NSs) (sc := defScope sSStep) (by decide +kernel)) (fun _ _ _ _ _ => pg_name (i := 9) scSs.nd rfl (Or.inl rfl))
          (fun _ _ _ _ _ => pts_one (pt_cmpR op_eq (pe_slice sl_str (pv 4) (po_some (pv 9)) (po_some (pe_op op_add (pv 9) (pe_callB call_len_str (by rfl) B.len PySem.boot_len (pa_cons (pv 8) pa_nil))))) (pv 8) (nomark _)))
          (fun _ _ _ _ _ => pv 9))
        (pss_one (ps_if (pt_cmpR (op_neD hr.units) (pv 10) (pe_lst pa_nil) (nomark _))
          (pss_one (ps_ret (pe_tup (pa_cons pe_str (pa_cons (pv 6) (pa_cons (pv 7) (pa_cons (pe_call D.a.ok r2 (by rfl) D.a.g D.a.kp D.a.b .nil pass0 (pa_cons (pv 0) (pa_cons (pv 10) pa_nil))) pa_nil))))))) pss_nil)))))
        pss_nil) P2), ?_⟩
    refine ⟨_, rfl, b, m, 4, rfl, bx, by omega, by omega, fun way H1 d0 d1 t1 => ?_⟩
    have g1 := t1.go
    have lw1 := lw.go bx g1 hq hls
    have go2 : ∀ (H2 : Hp) (y6 y7 y8 y9 y10 y11 y12 y13 y14 y15 : Option V), BxGo H H2 b m → t2 { nx := fun _ H' => Q .non H', rt := Q } (Sg b q ls L l (some (.int way)) y6 y7 y8 y9 y10 y11 y12 y13 y14 y15) H2 := fun H2 y6 y7 y8 y9 y10 y11 y12 y13 y14 y15 g => R2 _ H2 b m q ls L l rs R way y6 y7 y8 y9 y10 y11 y12 y13 y14 y15 g.1 (lw.go bx g hq hls) hl hq hls fun H' ps st g' => post H' ps st (g.trans g')
    have ab := asc_le (w := l) (by omega)
    by_cases hw : way < 2
    · refine ⟨_, rfl, _, _, rfl, rfl, true, congrArg V.bl (decide_eq_true hw), iteT ?_⟩
      refine ⟨_, rfl, (by show 0 ≤ sizeLine; decide), fun p np => ?_⟩
      have s2 := same_new (o := .lst []) np
      have as : ∀ r ∈ wds rs, ∀ l ∈ r, Asc l := fun r hr l hlr => by
        obtain ⟨u, v, rfl, _, _, hu, hv⟩ := okR_two (lw.ok r hr)
        rcases List.mem_cons.mp hlr with rfl | hlr
        · exact isW_asc lw.lt hu
        · obtain rfl := List.mem_singleton.mp hlr
          exact isW_asc lw.lt hv
      have lw2 := lw1.same s2
      refine ⟨dWs (wds rs), dWs [], dp_rls lw2.ls (fun x hx => (lw2.tw x hx).1), .lst (SqL.of upd_same) .nil, shaped_rls as, shaped_rls (rs := []) (fun r hr => nomatch hr), ?_⟩
      rw [eqv_rls]
      have g2 : BxGo H (upd H1 p (.lst [])) b m := g1.trans (BxGo.of g1.1 s2)
      generalize upd H1 p (.lst []) = H2 at s2 lw2 g2
      cases rs with
      | nil => exact ⟨false, rfl, iteF (go2 H2 _ _ _ _ _ _ _ _ _ _ g2)⟩
      | cons r0 rs0 =>
        refine ⟨true, rfl, iteT ?_⟩
        obtain ⟨rs, ers⟩ : ∃ rs, rs = r0 :: rs0 := ⟨_, rfl⟩
        rw [← ers] at lw2 post h6
        have hlen : 1 ≤ rs.length := by rw [ers]; exact Nat.succ_le_succ (Nat.zero_le _)
        have elr : (rfs rs).length = rs.length := List.length_map _
        refine ⟨_, rfl, _, rfl, ls, rfs rs, rfl, .inl (SqL.of lw2.ls), b, m, ((rfs rs).length : Nat), rfl, g2.1, by omega, by omega, fun d H3 e0 e1 t3 => ?_⟩
        have g3 := g2.trans t3.go
        refine ⟨_, rfl, b, m, 2, rfl, g3.1, by omega, by omega, fun d2 H4 f0 f1 t4 => ?_⟩
        have g4 := g3.trans t4.go
        refine ⟨rfl, _, _, rfl, ?_⟩
        obtain ⟨n, rfl⟩ : ∃ n : Nat, d = (n : Nat) := ⟨d.toNat, by omega⟩
        have hn : n < rs.length := by omega
        obtain ⟨fw, hfw⟩ : ∃ fw, fw = decide (V.int d2 = V.int 0) := ⟨_, rfl⟩
        rw [← hfw]
        have lw4 : Lw H4 q L ls rs l R := (lw2.go g2.1 t3.go hq hls).go g3.1 t4.go hq hls
        refine t_left (K := K) (ls := ls) (n := n) (fw := fw) (rs := rs) (L := L) rfl rfl rfl lw4.ls lw4.tw hn lw4.ok ?_
        obtain ⟨o, ho⟩ : ∃ o, o = oldS ((wds rs).getD n []) (.bl fw) := ⟨_, rfl⟩
        have ho16 : o.length ≤ 16 := by
          have hnw : n < (wds rs).length := by rw [List.length_map]; exact hn
          have hm : (wds rs).getD n [] ∈ wds rs := by
            rw [List.getD_eq_getElem?_getD, List.getElem?_eq_getElem hnw]
            exact List.getElem_mem hnw
          obtain ⟨u, v, e, hu, hv, _, _⟩ := okR_two (lw4.ok _ hm)
          rw [ho, e]
          cases fw with
          | true => exact hu
          | false => exact hv
        rw [← ho]
        have ao := asc_le (w := o) (by omega)
        refine ⟨_, rfl, _, rfl, ab, _, _, rfl, rfl, _, rfl, by rw [tx_len]; omega, by rw [tx_len]; omega, fun Dl nD => ?_⟩
        rw [tx_len, show ((l.length : Nat) + 1 : Int).toNat = l.length + 1 by omega]
        have hDb : Dl ≠ b := g4.1.ne nD
        refine KT.lc_sel (e := KT.vN) (out := KT.vN) (KT.walk_rg (l.length + 1)) (tt := ttSp) (te := tVar 9) (σ := [some (.ref b), some (.ref q), some (tx L), some (.ref ls), some (tx l), some (.int way), some (.int (n : Nat)), some (.bl fw), some (tx o), none, none, none, none, none, none, none, none]) (i := 9) (fun k => decide ((l.drop k).take o.length = o)) (by rw [List.length_range]; exact small1000 (by omega)) nD (fun _ _ => trivial) ?_ ?_ ?_
        · intro k H5 Q5 hk s5 h
          have ec : cutS (SX.S l) (some (k : Int)) (some ((k : Int) + ((SX.S o).length : Nat))) = SX.S ((l.drop k).take o.length) := by
            rw [tx_len]
            exact cut_mid l k o.length
          refine ⟨_, rfl, _, rfl, _, rfl, _, rfl, _, rfl, _, rfl, ao, _, _, rfl, rfl, _, rfl, _, rfl, ab, ?_⟩
          rw [ec]
          refine ⟨_, rfl, rfl, _, rfl, ?_⟩
          have e : decide (tx ((l.drop k).take o.length) = tx o) = decide ((l.drop k).take o.length = o) := decide_eq_decide.mpr ⟨fun h => by
            injection h with h
            exact SX.S_inj h, fun h => by rw [h]⟩
          rw [e]
          exact h
        · intro k H5 Q5 hk _ s5 h
          exact ⟨_, rfl, h H5 (Same.refl _)⟩
        · intro H5 s5 hD
          have hm : ∀ k ∈ (List.range (l.length + 1)).filter (fun k => decide ((l.drop k).take o.length = o)), k ≤ l.length ∧ (l.drop k).take o.length = o := fun k hk => by
            obtain ⟨h1, h2⟩ := List.mem_filter.mp hk
            have h1 := List.mem_range.mp h1
            exact ⟨by omega, of_decide_eq_true h2⟩
          have hsz : ((List.range (l.length + 1)).filter (fun k => decide ((l.drop k).take o.length = o))).length ≤ 100 := by
            have z := List.length_filter_le (fun k => decide ((l.drop k).take o.length = o)) (List.range (l.length + 1))
            rw [List.length_range] at z
            omega
          generalize (List.range (l.length + 1)).filter (fun k => decide ((l.drop k).take o.length = o)) = ds at hD hm hsz
          refine ⟨_, rfl, (by show 0 ≤ sizeLine; decide), fun p np => ?_⟩
          have s6 := same_new (o := .lst []) np
          refine ⟨KT.dI (ds.map fun k => ((k : Nat) : Int)), KT.dI [], .lst (SqL.of (s6 _ _ hD)) (KT.dp_nats _), .lst (SqL.of upd_same) .nil, KT.shaped_dI _, KT.shaped_dI _, ?_⟩
          have g6 : BxGo H (upd H5 p (.lst [])) b m := g4.trans (BxGo.of g4.1 (s5.trans s6))
          have hD6 := s6 _ _ hD
          generalize upd H5 p (.lst []) = H6 at s6 g6 hD6
          rw [KT.eqv_dI]
          cases ds with
          | nil => exact ⟨false, rfl, iteF (go2 H6 _ _ _ _ _ _ _ _ _ _ g6)⟩
          | cons a ds =>
            refine ⟨true, rfl, iteT ?_⟩
            refine ⟨_, rfl, _, rfl, _, rfl, _, rfl, b, m, Dl, _, rfl, g6.1, hD6, hDb, (fun h => nomatch h), by rw [List.length_map]; omega, fun x H7 hx t7 => ?_⟩
            obtain ⟨k, hk, rfl⟩ := List.mem_map.mp hx
            have g7 := g6.trans t7.go
            refine ⟨(by show 4 ≤ sizeLine; decide), fun pt npt => ?_⟩
            refine post _ pt [kRule, .int (n : Nat), .bl fw, .int (k : Nat)] (g7.trans (BxGo.of g7.1 (same_new npt))) upd_same (fun v hv => ?_) (Nat.le_refl _) ?_
            · rcases List.mem_cons.mp hv with rfl | hv
              · exact fk_rule
              rcases List.mem_cons.mp hv with rfl | hv
              · exact .int _
              rcases List.mem_cons.mp hv with rfl | hv
              · exact .bl _
              · obtain rfl := List.mem_singleton.mp hv
                exact .int _
            · rw [bh_rule]
              obtain ⟨z1, z2⟩ := hm k hk
              refine bRule_some (by rw [List.length_map]; exact hn) z1 ?_
              rw [← ho]
              exact z2
    · refine ⟨_, rfl, _, _, rfl, rfl, false, congrArg V.bl (decide_eq_false hw), iteF ?_⟩
      exact iteF (go2 H1 _ _ _ _ _ _ _ _ _ _ g1)
end
end K31
set_option maxRecDepth 100000
set_option maxHeartbeats 2000000
namespace K31
open PySem PySem.Spec PyProof.Rows L2 KA
theorem e_never {X : Cx} {e : Expr} : PE X e (fun _ _ _ => False) := ⟨fun _ _ _ _ _ _ h => h.elim⟩
theorem e_weak {X : Cx} {e : Expr} {t1 t2 : TE} (h : PE X e t1) (imp : ∀ σ H Q, t2 σ H Q → t1 σ H Q) : PE X e t2 := ⟨fun pins s σ H Q I hq => h.run pins s σ H Q I (imp σ H Q hq)⟩
theorem in_noS {H : Hp} {K : PySem.W.Frag} {tg : V} {xs : List V} {Q : VK} (b : Bool) (ht : flatV tg = true) (hl : xs.length ≤ sizeLine) (hf : xs.all flatV = true) (hn : inV tg xs = b) (q : ∀ H', Same H H' → Q (.bl b) H') : xs.length ≤ sizeLine ∧ ∀ p, H p = none → rIn K false tg (.ref p) (upd H p (.tup xs)) Q := by
  refine ⟨hl, fun p np => ⟨p, xs, rfl, .inr (SqT.of upd_same), ht, hf, ?_⟩⟩
  show Q (.bl (inV tg xs)) _
  rw [hn]
  exact q _ (same_new np)
section
variable {P : Program} {w : World} {K : PySem.W.Frag} {mg : Str → Option Value} {base : Heap}
/-- an error of the class C with its one field -/
def One (C : Addr) (tg : V) (fl : Str) (cls : Value) (d : Option Addr) (H : Hp) (q : V → Prop) : Prop := cls = .ref C ∧ ∃ (dd : Addr) (v : V), d = some dd ∧ H dd = some (.xd [("tag", tg), (fl, v)]) ∧ q v
def spF (Cw Cs a : Addr) (cls : Value) (d : Option Addr) : Sp := fun vs H Q _ => vs = [.ref a] ∧ (One Cw tagW "at" cls d H (fun v => ∀ H2, Same H H2 → Q v H2) ∨ One Cs tagS "at" cls d H (fun v => ∀ H2, Same H H2 → Q v H2))
def spFld (Cw Cs : Addr) : Addr × Obj → Sp := fun p vs H Q E => ∃ (cls : Value) (d : Option Addr), Zc cls d p.2 ∧ (∃ us, p.2.data = .fields us) ∧ spF Cw Cs p.1 cls d vs H Q E
theorem ok_fld {f Cw fCw Cs fCs : Addr} {fd : FuncData} {k : Nat} (F : Fun K "_law_field" "_law_field" sField f fd) (TW : ErC K mg "InvalidWord" "at" Cw fCw) (XW : XfC K Cw) (TS : ErC K mg "InvalidStep" "at" Cs fCs) (XS : XfC K Cs) : Rs.FnPin P w K mg base (k + 1) f fd ["_law_e"] (spFld Cw Cs) := by
  refine Rs.fn_pin F scField (fun p vs H Q E h => ?_) (fun cdv A outer s H vs Q p hr h => ?_)
  · obtain ⟨cls, d, _, _, rfl, _⟩ := h
    rfl
  · obtain ⟨a, oe⟩ := p
    obtain ⟨cls, d, hz, hf, rfl, h2⟩ := h
    have hp : (a, oe) ∈ (L2H.cxH CX0 P w K mg base ["_law_e"] "_law_field" (defScope sField) f cdv A outer s H E0 (a, oe)).nox.pn := List.mem_cons_self
    rcases h2 with ⟨rfl, dd, v, rfl, hd, q⟩ | ⟨rfl, dd, v, rfl, hd, q⟩
    · refine ⟨_, pss_cons (ps_if (pt_cmpR op_in_seq (Rs.e_xf XW TW.nTag hz hf hp (pv 0)) (pe_tup (pa_cons pe_str (pa_cons pe_str (pa_cons pe_str (pa_cons pe_str (pa_cons pe_str (pa_cons pe_str pa_nil))))))) (by rfl)) pss_never pss_nil) (pss_cons (ps_if (pt_cmpR op_in_seq (Rs.e_xf XW TW.nTag hz hf hp (pv 0)) (pe_tup (pa_cons pe_str (pa_cons pe_str pa_nil))) (by rfl)) pss_never pss_nil) (pss_cons (ps_if (pt_cmpR op_in_seq (Rs.e_xf XW TW.nTag hz hf hp (pv 0)) (pe_tup (pa_cons pe_str (pa_cons pe_str (pa_cons pe_str pa_nil)))) (by rfl)) pss_never pss_nil) (pss_cons (ps_if (pt_cmpR op_in_seq (Rs.e_xf XW TW.nTag hz hf hp (pv 0)) (pe_tup (pa_cons pe_str (pa_cons pe_str (pa_cons pe_str pa_nil)))) (by rfl)) pss_never pss_nil) (pss_cons (ps_if (pt_cmpR op_in_seq (Rs.e_xf XW TW.nTag hz hf hp (pv 0)) (pe_tup (pa_cons pe_str (pa_cons pe_str pa_nil))) (by rfl)) pss_never pss_nil) (pss_cons (ps_if (pt_cmpR op_eq (Rs.e_xf XW TW.nTag hz hf hp (pv 0)) pe_str (nomark _)) pss_never pss_nil) (pss_one (ps_ret (pe_ifExp (pt_cmpR op_eq (Rs.e_xf XW TW.nTag hz hf hp (pv 0)) pe_str (nomark _)) e_never (Rs.e_xf XW TW.nF hz hf hp (pv 0)))))))))), ?_⟩
      refine ⟨_, rfl, rfl, rfl, dd, _, _, rfl, hd, rfl, in_noS false rfl (by show 6 ≤ sizeLine; decide) rfl (by decide +kernel) fun H1 s1 => ⟨_, rfl, iteF ?_⟩⟩
      refine ⟨_, rfl, rfl, rfl, dd, _, _, rfl, (s1 _ _ hd), rfl, in_noS false rfl (by show 2 ≤ sizeLine; decide) rfl (by decide +kernel) fun H2 s2 => ⟨_, rfl, iteF ?_⟩⟩
      have s2 := s1.trans s2
      refine ⟨_, rfl, rfl, rfl, dd, _, _, rfl, (s2 _ _ hd), rfl, in_noS false rfl (by show 3 ≤ sizeLine; decide) rfl (by decide +kernel) fun H3 s3 => ⟨_, rfl, iteF ?_⟩⟩
      have s3 := s2.trans s3
      refine ⟨_, rfl, rfl, rfl, dd, _, _, rfl, (s3 _ _ hd), rfl, in_noS false rfl (by show 3 ≤ sizeLine; decide) rfl (by decide +kernel) fun H4 s4 => ⟨_, rfl, iteF ?_⟩⟩
      have s4 := s3.trans s4
      refine ⟨_, rfl, rfl, rfl, dd, _, _, rfl, (s4 _ _ hd), rfl, in_noS false rfl (by show 2 ≤ sizeLine; decide) rfl (by decide +kernel) fun H5 s5 => ⟨_, rfl, iteF ?_⟩⟩
      have s5 := s4.trans s5
      refine ⟨_, rfl, rfl, rfl, dd, _, _, rfl, s5 _ _ hd, rfl, rfl, false, congrArg V.bl (by decide +kernel), iteF ?_⟩
      refine ⟨_, rfl, rfl, rfl, dd, _, _, rfl, s5 _ _ hd, rfl, rfl, false, congrArg V.bl (by decide +kernel), iteF ?_⟩
      exact ⟨_, rfl, rfl, rfl, dd, _, _, rfl, s5 _ _ hd, rfl, q _ s5⟩
    · refine ⟨_, pss_cons (ps_if (pt_cmpR op_in_seq (Rs.e_xf XS TS.nTag hz hf hp (pv 0)) (pe_tup (pa_cons pe_str (pa_cons pe_str (pa_cons pe_str (pa_cons pe_str (pa_cons pe_str (pa_cons pe_str pa_nil))))))) (by rfl)) pss_never pss_nil) (pss_cons (ps_if (pt_cmpR op_in_seq (Rs.e_xf XS TS.nTag hz hf hp (pv 0)) (pe_tup (pa_cons pe_str (pa_cons pe_str pa_nil))) (by rfl)) pss_never pss_nil) (pss_cons (ps_if (pt_cmpR op_in_seq (Rs.e_xf XS TS.nTag hz hf hp (pv 0)) (pe_tup (pa_cons pe_str (pa_cons pe_str (pa_cons pe_str pa_nil)))) (by rfl)) pss_never pss_nil) (pss_cons (ps_if (pt_cmpR op_in_seq (Rs.e_xf XS TS.nTag hz hf hp (pv 0)) (pe_tup (pa_cons pe_str (pa_cons pe_str (pa_cons pe_str pa_nil)))) (by rfl)) pss_never pss_nil) (pss_cons (ps_if (pt_cmpR op_in_seq (Rs.e_xf XS TS.nTag hz hf hp (pv 0)) (pe_tup (pa_cons pe_str (pa_cons pe_str pa_nil))) (by rfl)) pss_never pss_nil) (pss_cons (ps_if (pt_cmpR op_eq (Rs.e_xf XS TS.nTag hz hf hp (pv 0)) pe_str (nomark _)) pss_never pss_nil) (pss_one (ps_ret (pe_ifExp (pt_cmpR op_eq (Rs.e_xf XS TS.nTag hz hf hp (pv 0)) pe_str (nomark _)) e_never (Rs.e_xf XS TS.nF hz hf hp (pv 0)))))))))), ?_⟩
      refine ⟨_, rfl, rfl, rfl, dd, _, _, rfl, hd, rfl, in_noS false rfl (by show 6 ≤ sizeLine; decide) rfl (by decide +kernel) fun H1 s1 => ⟨_, rfl, iteF ?_⟩⟩
      refine ⟨_, rfl, rfl, rfl, dd, _, _, rfl, (s1 _ _ hd), rfl, in_noS false rfl (by show 2 ≤ sizeLine; decide) rfl (by decide +kernel) fun H2 s2 => ⟨_, rfl, iteF ?_⟩⟩
      have s2 := s1.trans s2
      refine ⟨_, rfl, rfl, rfl, dd, _, _, rfl, (s2 _ _ hd), rfl, in_noS false rfl (by show 3 ≤ sizeLine; decide) rfl (by decide +kernel) fun H3 s3 => ⟨_, rfl, iteF ?_⟩⟩
      have s3 := s2.trans s3
      refine ⟨_, rfl, rfl, rfl, dd, _, _, rfl, (s3 _ _ hd), rfl, in_noS false rfl (by show 3 ≤ sizeLine; decide) rfl (by decide +kernel) fun H4 s4 => ⟨_, rfl, iteF ?_⟩⟩
      have s4 := s3.trans s4
      refine ⟨_, rfl, rfl, rfl, dd, _, _, rfl, (s4 _ _ hd), rfl, in_noS false rfl (by show 2 ≤ sizeLine; decide) rfl (by decide +kernel) fun H5 s5 => ⟨_, rfl, iteF ?_⟩⟩
      have s5 := s4.trans s5
      refine ⟨_, rfl, rfl, rfl, dd, _, _, rfl, s5 _ _ hd, rfl, rfl, false, congrArg V.bl (by decide +kernel), iteF ?_⟩
      refine ⟨_, rfl, rfl, rfl, dd, _, _, rfl, s5 _ _ hd, rfl, rfl, false, congrArg V.bl (by decide +kernel), iteF ?_⟩
      exact ⟨_, rfl, rfl, rfl, dd, _, _, rfl, s5 _ _ hd, rfl, q _ s5⟩
/-! _law_why: what it makes of a lambda that may raise one of them -/
def Ech (Cw Cs : Addr) (Q : VK) : XK := fun cls d H1 => One Cw tagW "at" cls d H1 (fun v => ∀ H2 T, Same H1 H2 → H1 T = none → H2 T = some (.tup [tagW, v]) → Q (.ref T) H2) ∨ One Cs tagS "at" cls d H1 (fun v => ∀ H2 T, Same H1 H2 → H1 T = none → H2 T = some (.tup [tagS, v]) → Q (.ref T) H2)
def TTw (Cw Cs : Addr) : (XK → Hp → VK → Prop) → Hp → VK → Prop := fun tl H Q =>
  tl (Ech Cw Cs Q) H (fun v H1 => [V.str (Str.ofString ""), v].length ≤ sizeLine ∧ ∀ T, H1 T = none → Q (.ref T) (upd H1 T (.tup [.str (Str.ofString ""), v])))
abbrev NW : List Str := ["_law_ask", "_law_e"]
theorem why_gives {X : Cx} {g Cw fCw Cs fCs fF C1 C2 C3 : Addr} {cdg : Value} {fdF : FuncData} {j : Nat} (TW : ErC X.K X.mg "InvalidWord" "at" Cw fCw) (XW : XfC X.K Cw) (TS : ErC X.K X.mg "InvalidStep" "at" Cs fCs) (XS : XfC X.K Cs)
    (GF : Rs.FnPin X.prog X.w X.K X.mg X.base (j + 1) fF fdF ["_law_e"] (spFld Cw Cs)) (kF : PySem.W.keepIn X.K (.ref fF) = true) (bF : Binds X.K fdF ["_law_e"] []) (gF : X.mg "_law_field" = some (.ref fF))
    (m1 : X.mg "TownError" = some (.ref C1)) (m2 : X.mg "Missing" = some (.ref C2)) (m3 : X.mg "NothingLeft" = some (.ref C3)) (hx : ∀ C ∈ [Cw, Cs], PySem.W.exmAny X.K (.ref C) [.ref C1, .ref C2, .ref C3] = some true) (hr : Room (j + 2) X.A) :
    Rs.GivesL X NW "_law_why" (defScope sWhy) g cdg (defBody sWhy) "_law_ask" (TTw Cw Cs) := by
  intro f s H Q tl cd act hc h
  have rm : L2H.RoomH (j + 1) (X.A.deeper (envOfC "_law_why" (defScope sWhy) s.heap.objs.size g cdg)) := ⟨(hr.deeper (envOfC "_law_why" (defScope sWhy) s.heap.objs.size g cdg)).dp, (hr.deeper (envOfC "_law_why" (defScope sWhy) s.heap.objs.size g cdg)).un⟩
  refine ⟨_, pss_one (Rs.s_try3 (X := (cxOf CX0 X.prog X.w X.K X.mg X.base NW "_law_why" (defScope sWhy) g cdg X.A X.stack s H E0).nox) (i := 1) (c1 := .ref C1) (c2 := .ref C2) (c3 := .ref C3)
      (tb := fun W D σ H => ∃ Ech : XK, (∀ cls d σ' H', σ'.length = 2 → Ech cls d H' → W cls d σ' H') ∧ σ[0]? = some (some (.ref f)) ∧ cd H ∧ tl Ech H (fun v H1 => [V.str (Str.ofString ""), v].length ≤ sizeLine ∧ ∀ T, H1 T = none → D.rt (.ref T) (upd H1 T (.tup [.str (Str.ofString ""), v]))))
      (ts := fun a cls d D σ H => (tRet (tTup (tCons (tXf a cls d Cw "tag" (tVar 1)) (tCons (tCall (spF Cw Cs a cls d) [] E0 (tCons (tVar 1) tNil)) tNil)))) D σ H ∨ ((tRet (tTup (tCons (tXf a cls d Cs "tag" (tVar 1)) (tCons (tCall (spF Cw Cs a cls d) [] E0 (tCons (tVar 1) tNil)) tNil)))) D σ H))
      rfl rfl scWhy.nd rfl rfl (by rfl) m1 (by rfl) m2 (by rfl) m3 (fun W pn xe tk => ?_)
      (fun a oe cls d pn hz hf => (Rs.ss_or (pss_one (ps_ret (pe_tup (pa_cons (Rs.e_xf XW TW.nTag hz hf List.mem_cons_self (pv 1)) (pa_cons (e_weak (Rs.e_callP (sp := spFld Cw Cs) (p := (a, oe)) GF (show L2H.RoomH (j + 1) _ from ⟨rm.dp, rm.un⟩) List.mem_cons_self (by rfl) gF kF bF (pa_cons (pv 1) pa_nil)) ?_) pa_nil)))))
        (pss_one (ps_ret (pe_tup (pa_cons (Rs.e_xf XS TS.nTag hz hf List.mem_cons_self (pv 1)) (pa_cons (e_weak (Rs.e_callP (sp := spFld Cw Cs) (p := (a, oe)) GF (show L2H.RoomH (j + 1) _ from ⟨rm.dp, rm.un⟩) List.mem_cons_self (by rfl) gF kF bF (pa_cons (pv 1) pa_nil)) ?_) pa_nil)))))))), ?_⟩
  · refine ⟨fun pins s' σ H' D I h' => ?_⟩
    obtain ⟨Ech, hW, h1, h2, h3⟩ := h'
    have tk2 : L2.Takes ((cxOf CX0 X.prog X.w X.K X.mg X.base NW "_law_why" (defScope sWhy) g cdg X.A X.stack s H E0).tr pn xe) (fun cls d σ H => σ.length = 2 → W cls d σ H) := by
      rintro u s2 ⟨a, B, sI, pins2, σ2, H2, cls, d, e, I2, nb, up, sky, na, os, ag, hw2⟩
      exact tk u s2 ⟨a, B, sI, pins2, σ2, H2, cls, d, e, I2, nb, up, sky, na, os, ag, hw2 I2.len⟩
    exact (pss_one (ps_ret (pe_tup (pa_cons pe_str (pa_cons (act (fun cls d σ H => σ.length = 2 → W cls d σ H) pn xe Ech _ _ tk2 (fun cls d σ' H' hE hl => hW cls d σ' H' hl hE)) pa_nil))))).run pins s' σ H' D I ⟨h1, h2, h3⟩
  · intro σ H' Q' hq
    obtain ⟨v, hv, hva, rest⟩ := hq
    exact ⟨v, hv, _, _, hz, hf, hva, rest⟩
  · intro σ H' Q' hq
    obtain ⟨v, hv, hva, rest⟩ := hq
    exact ⟨v, hv, _, _, hz, hf, hva, rest⟩
  · refine ⟨_, fun cls d σ' H' hlen hE => ?_, rfl, hc, h⟩
    rcases hE with ⟨rfl, dd, v, rfl, hd, q2⟩ | ⟨rfl, dd, v, rfl, hd, q2⟩
    · refine ⟨hx Cw List.mem_cons_self, fun a na => .inl ?_⟩
      refine ⟨_, ?_, rfl, rfl, dd, _, _, rfl, hd, rfl, _, ?_, rfl, .inl ⟨rfl, dd, v, rfl, hd, fun H2 s2 => ⟨(by show 2 ≤ sizeLine; decide), fun T nT => q2 _ T (s2.trans (same_new nT)) (s2.free nT) upd_same⟩⟩⟩
      · simp [hlen]
      · simp [hlen]
    · refine ⟨hx Cs (List.mem_cons_of_mem _ List.mem_cons_self), fun a na => .inr (?_)⟩
      refine ⟨_, ?_, rfl, rfl, dd, _, _, rfl, hd, rfl, _, ?_, rfl, .inr (⟨rfl, dd, v, rfl, hd, fun H2 s2 => ⟨(by show 2 ≤ sizeLine; decide), fun T nT => q2 _ T (s2.trans (same_new nT)) (s2.free nT) upd_same⟩⟩)⟩
      · simp [hlen]
      · simp [hlen]
end
end K31
set_option maxRecDepth 100000
set_option maxHeartbeats 4000000
/-! _law_bent_step -/
namespace K31
open PySem PySem.Spec PyProof.Rows L2 KA
abbrev sBent : Stmt := top 102
abbrev NBe : List Str := ["_law_box", "_law_step_z", "_law_at", "_law_odd", "_law_some"]
theorem scBent : FnScope NBe ["_law_box", "_law_step_z"] (defScope sBent) := ⟨rfl, rfl, rfl, by decide +kernel, rfl, by decide +kernel, by decide +kernel⟩
theorem mem_cut {xs : List V} {lo hi : Option Int} : ∀ v ∈ cutV xs lo hi, v ∈ xs := fun v hv => by
  unfold cutV at hv
  exact List.mem_of_mem_drop (List.mem_of_mem_take hv)
/-- a tuple of flat things -/
def Tf (H : Hp) (p : Addr) (n : Nat) : Prop := ∃ xs, H p = some (.tup xs) ∧ (∀ v ∈ xs, Fv v) ∧ xs.length ≤ n
theorem Tf.same {H H' : Hp} {p : Addr} {n : Nat} (h : Tf H p n) (s : Same H H') : Tf H' p n := by
  obtain ⟨xs, h1, h2⟩ := h
  exact ⟨xs, s _ _ h1, h2⟩
theorem Tf.more {H : Hp} {p : Addr} {n k : Nat} (h : Tf H p n) (hk : n ≤ k) : Tf H p k := by
  obtain ⟨xs, h1, h2, h3⟩ := h
  exact ⟨xs, h1, h2, by omega⟩
theorem r_sl {K : PySem.W.Frag} {H : Hp} {a : Addr} {lo hi : Option Int} {n : Nat} {Q : VK} (h : Tf H a n) (q : ∀ H' p, Same H H' → Tf H' p n → Q (.ref p) H') : rSlA K (.ref a) lo hi H Q := by
  obtain ⟨xs, h1, h2, h3⟩ := h
  refine ⟨a, xs, rfl, SqT.of h1, fun _ => q H a (Same.refl _) ⟨xs, h1, h2, h3⟩, fun _ p np => q _ p (same_new np) ⟨_, upd_same, fun v hv => h2 v (mem_cut v hv), Nat.le_trans (cutV_length xs lo hi) h3⟩⟩
theorem r_cat {K : PySem.W.Frag} {H : Hp} {a b : Addr} {n k : Nat} {Q : VK} (h : Tf H a n) (g : Tf H b k) (hs : n + k ≤ 100) (q : ∀ H' p, Same H H' → Tf H' p (n + k) → Q (.ref p) H') : rCatA K (.ref a) (.ref b) H Q := by
  obtain ⟨xs, h1, h2, h3⟩ := id h
  obtain ⟨ys, g1, g2, g3⟩ := id g
  refine ⟨a, b, xs, ys, rfl, rfl, SqT.of h1, SqT.of g1, Nat.le_trans (show xs.length + ys.length ≤ 100 by omega) (by decide), fun _ => q H b (Same.refl _) (g.more (by omega)), fun _ _ => q H a (Same.refl _) (h.more (by omega)), fun _ _ p np => q _ p (same_new np) ⟨_, upd_same, fun v hv => ?_, by rw [List.length_append]; omega⟩⟩
  rcases List.mem_append.mp hv with h | h
  · exact h2 v h
  · exact g2 v h
def spBentS : Sp := fun vs H Q _ => ∃ (b m ps : Addr), vs = [.ref b, .ref ps] ∧ Bx H b m ∧ Tf H ps 4 ∧ ∀ H' p, BxGo H H' b m → Tf H' p 20 → Q (.ref p) H'
def oddV : List V := [.int 0, .int 1, .int (-1), .int 99, .bl true, .bl false, tx [97], tx [], tx [97, 97], tx [63], .int 2]
theorem odd_fv : ∀ v ∈ oddV, Fv v := fun v hv => by
  unfold oddV at hv
  have a1 : Asc [97] := fun c hc => by simp at hc; omega
  have a2 : Asc [97, 97] := fun c hc => by simp at hc; omega
  have a3 : Asc [63] := fun c hc => by simp at hc; omega
  have a4 : Asc [] := fun c hc => nomatch hc
  simp only [List.mem_cons, List.not_mem_nil, or_false] at hv
  rcases hv with rfl | rfl | rfl | rfl | rfl | rfl | rfl | rfl | rfl | rfl | rfl
  · exact .int _
  · exact .int _
  · exact .int _
  · exact .int _
  · exact .bl _
  · exact .bl _
  · exact .str _ (by decide) a1
  · exact .str _ (by decide) a4
  · exact .str _ (by decide) a2
  · exact .str _ (by decide) a3
  · exact .int _
theorem Tf.go {H H' : Hp} {b m p : Addr} {n : Nat} (h : Tf H p n) (hB : Bx H b m) (g : BxGo H H' b m) : Tf H' p n := by
  obtain ⟨xs, h1, h2⟩ := h
  obtain ⟨ms, i, r, s, hb, _⟩ := hB
  refine ⟨xs, g.2 _ _ (fun e => ?_) h1, h2⟩
  rw [e, hb] at h1
  cases h1
section
variable {P : Program} {w : World} {K : PySem.W.Frag} {mg : Str → Option Value} {base : Heap}
theorem ok_bent {f fD fA : Addr} {fd fdD fdA : FuncData} (F : Fun K "_law_bent_step" "_law_bent_step" sBent f fd) (B : Bn mg) (cD : KT.Cb P w K mg base CX0 1 "_law_draw" ["_law_box", "_law_many"] spDraw fD fdD) (cA : KT.Cb P w K mg base CX0 2 "_law_any" ["_law_box", "_law_some"] spAny fA fdA) :
    FnOk P w K mg base CX0 3 f fd ["_law_box", "_law_step_z"] spBentS := by
  refine F.ok scBent (fun vs H Q E h => ?_) (fun cdv A outer s H vs Q E hr h => ?_)
  · obtain ⟨b, m, ps, rfl, _⟩ := h
    rfl
  · obtain ⟨b, m, ps, rfl, bx, tf, qq⟩ := h
    have r1 : Room 1 (A.deeper (envOfC "_law_bent_step" (defScope sBent) s.heap.objs.size f cdv)) := hr.mono (by decide)
    refine ⟨_, pss_cons (ps_set (i := 2) scBent.nd rfl (.inl rfl) (pe_call cD.ok r1 (by rfl) cD.g cD.kp cD.b .nil pass0 (pa_cons (pv 0) (pa_cons (pe_op op_add (pe_callB call_len_seq (by rfl) B.len PySem.boot_len (pa_cons (pv 1) pa_nil)) pe_int) pa_nil))))
      (pss_cons (ps_set (i := 3) scBent.nd rfl (.inl rfl) (pe_call cA.ok hr (by rfl) cA.g cA.kp cA.b .nil pass0 (pa_cons (pv 0) (pa_cons (pe_lst (pa_cons pe_int (pa_cons pe_int (pa_cons (pe_un un_neg pe_int) (pa_cons pe_int (pa_cons pe_bl (pa_cons pe_bl (pa_cons pe_str (pa_cons pe_str (pa_cons pe_str (pa_cons pe_str (pa_cons pe_int pa_nil)))))))))))) pa_nil))))
      (pss_cons (ps_set (i := 4) scBent.nd rfl (.inl rfl) (pe_lst (pa_cons (pe_op op_catA (pe_op op_catA (pe_slice sl_tupA (pv 1) po_none (po_some (pv 2))) (pe_tup (pa_cons (pv 3) pa_nil))) (pe_slice sl_tupA (pv 1) (po_some (pe_op op_add (pv 2) pe_int)) po_none)) (pa_cons (pe_op op_catA (pe_slice sl_tupA (pv 1) po_none (po_some (pv 2))) (pe_slice sl_tupA (pv 1) (po_some (pe_op op_add (pv 2) pe_int)) po_none)) pa_nil))))
      (pss_one (ps_ret (pe_call cA.ok hr (by rfl) cA.g cA.kp cA.b .nil pass0 (pa_cons (pv 0) (pa_cons (pe_op op_cat (pv 4) (pe_lst (pa_cons (pe_ix ix_list (pv 4) pe_int (fun _ _ => rfl)) (pa_cons (pe_op op_catA (pv 1) (pe_tup (pa_cons (pv 3) pa_nil))) (pa_cons (pv 1) pa_nil))))) pa_nil))))))), ?_⟩
    obtain ⟨st, hps, fv, hst⟩ := id tf
    refine ⟨_, rfl, _, rfl, ps, st, rfl, .inr (SqT.of hps), _, _, rfl, rfl, b, m, (st.length : Nat) + 1, rfl, bx, by omega, by omega, fun d H1 d0 d1 t1 => ?_⟩
    have g1 := t1.go
    have tf1 := tf.go bx g1
    have hps1 : H1 ps = some (.tup st) := by
      obtain ⟨ms, i, r, s, hb, _⟩ := bx
      refine g1.2 _ _ (fun e => ?_) hps
      rw [e, hb] at hps
      cases hps
    refine ⟨_, rfl, ?_⟩
    refine ⟨_, rfl, (by show 11 ≤ sizeLine; decide), fun po npo => ?_⟩
    have s2 := same_new (o := .lst oddV) npo
    refine ⟨b, m, po, oddV, rfl, g1.1.same s2, upd_same, g1.1.ne npo, (fun h => nomatch h), by decide, fun odd H3 hodd t3 => ?_⟩
    have fo := odd_fv odd hodd
    have g3 : BxGo H H3 b m := (g1.trans (BxGo.of g1.1 s2)).trans t3.go
    have tf3 := tf.go bx g3
    have sd1 : ∀ {n k : Nat}, n + k = n + k := rfl
    refine ⟨_, rfl, _, rfl, _, rfl, ?_⟩
    refine r_sl tf3 fun Ha pa sa ta => ?_
    refine ⟨_, rfl, (by show 1 ≤ sizeLine; decide), fun pt npt => ?_⟩
    have st1 := same_new (o := .tup [odd]) npt
    refine r_cat (ta.same st1) (n := 4) (k := 1) ⟨[odd], upd_same, (fun v hv => by rw [List.mem_singleton.mp hv]; exact fo), Nat.le_refl _⟩ (by decide) fun Hb pb sb tb => ?_
    have sB := (sa.trans st1).trans sb
    refine ⟨_, rfl, _, rfl, _, _, rfl, rfl, _, rfl, ?_⟩
    dsimp only [tNoPart]
    refine r_sl (tf3.same sB) fun Hc pc sc tc => ?_
    refine r_cat (tb.same sc) tc (by decide) fun Hd pd sd td => ?_
    have sD := (sB.trans sc).trans sd
    refine ⟨_, rfl, _, rfl, _, rfl, ?_⟩
    refine r_sl (tf3.same sD) fun He pe se te => ?_
    refine ⟨_, rfl, _, rfl, _, _, rfl, rfl, _, rfl, ?_⟩
    dsimp only [tNoPart]
    refine r_sl ((tf3.same sD).same se) fun Hf pf sf tff => ?_
    refine r_cat (te.same sf) tff (by decide) fun Hg pg sg tg => ?_
    have tdG := ((td.same se).same sf).same sg
    have sG := ((sD.trans se).trans sf).trans sg
    refine ⟨(by show 2 ≤ sizeLine; decide), fun pl npl => ?_⟩
    have sl1 := same_new (o := .lst [V.ref pd, V.ref pg]) npl
    have hl1 : (upd Hg pl (.lst [V.ref pd, V.ref pg])) pl = some (.lst [V.ref pd, V.ref pg]) := upd_same
    have td1 := tdG.same sl1
    have tg1 := tg.same sl1
    have tf1b := (tf3.same sG).same sl1
    have g4 := g3.trans (BxGo.of g3.1 (sG.trans sl1))
    generalize upd Hg pl (.lst [V.ref pd, V.ref pg]) = Hh at sl1 hl1 td1 tg1 tf1b g4
    refine ⟨_, rfl, _, rfl, _, rfl, pl, _, 0, _, rfl, rfl, SqL.of hl1, rfl, ?_⟩
    refine ⟨_, rfl, _, rfl, (by show 1 ≤ sizeLine; decide), fun pt2 npt2 => ?_⟩
    have st2 := same_new (o := .tup [odd]) npt2
    refine r_cat (tf1b.same st2) (n := 4) (k := 1) ⟨[odd], upd_same, (fun v hv => by rw [List.mem_singleton.mp hv]; exact fo), Nat.le_refl _⟩ (by decide) fun Hi pi si ti => ?_
    refine ⟨_, rfl, (by show 3 ≤ sizeLine; decide), fun p3 np3 => ?_⟩
    have s3 := same_new (o := .lst [V.ref pd, V.ref pi, V.ref ps]) np3
    have sH := (st2.trans si).trans s3
    refine ⟨pl, p3, _, _, rfl, rfl, sH _ _ hl1, upd_same, (by show 2 + 3 ≤ sizeLine; decide), fun p5 np5 => ?_⟩
    have s5 := same_new (o := .lst ([V.ref pd, V.ref pg] ++ [V.ref pd, V.ref pi, V.ref ps])) np5
    have sI := sH.trans s5
    have g5 := g4.trans (BxGo.of g4.1 sI)
    refine ⟨b, m, p5, _, rfl, g5.1, upd_same, (g4.1.same sH).ne np5, (fun h => nomatch h), by show 5 < 1000000; decide, fun x H' hx t' => ?_⟩
    have g6 := g5.trans t'.go
    have c1 : Tf H' pd 20 := ((td1.same sI).go g5.1 t'.go).more (by decide)
    have c2 : Tf H' pg 20 := ((tg1.same sI).go g5.1 t'.go).more (by decide)
    have c3 : Tf H' pi 20 := (((ti.same s3).same s5).go g5.1 t'.go).more (by decide)
    have c4 : Tf H' ps 20 := ((tf1b.same sI).go g5.1 t'.go).more (by decide)
    have hx5 : x = .ref pd ∨ x = .ref pg ∨ x = .ref pd ∨ x = .ref pi ∨ x = .ref ps := by simpa using hx
    rcases hx5 with rfl | rfl | rfl | rfl | rfl
    · exact qq H' _ g6 c1
    · exact qq H' _ g6 c2
    · exact qq H' _ g6 c1
    · exact qq H' _ g6 c3
    · exact qq H' _ g6 c4
end
end K31
set_option maxRecDepth 100000
set_option maxHeartbeats 4000000
/-! _law_small -/
namespace KA
open PySem PySem.Spec PyProof.Rows L2
def Lg (L : List Nat) : Prop := (1 ≤ L.length ∧ L.Nodup) ∧ L.length ≤ 3 ∧ ∀ c ∈ L, 97 ≤ c ∧ c ≤ 122
theorem Lg.lt {L : List Nat} (h : Lg L) : Lt L := ⟨⟨by have := h.2.1; omega, h.1.2⟩, h.2.2⟩
theorem Lg.asc {L : List Nat} (h : Lg L) : Asc L := fun c hc => menu_asc c (h.2.2 c hc)
theorem Lg.ne {L : List Nat} (h : Lg L) : L ≠ [] := fun e => by
  have h1 := h.1.1
  rw [e] at h1
  exact absurd h1 (by decide)
end KA
namespace K31
open PySem PySem.Spec PyProof.Rows L2 KA
theorem tabs_go {T : List (Addr × Str)} {H H' : Hp} {b m : Addr} (t : LamX.Tabs T H) (hB : Bx H b m) (g : BxGo H H' b m) : LamX.Tabs T H' := by
  intro p hp
  obtain ⟨ms, i, r, s, hb, _⟩ := hB
  obtain ⟨ps, h1, h2, h3⟩ := t p hp
  refine ⟨ps, g.2 _ _ (fun e => ?_) h1, h2, fun pos cv hc => ?_⟩
  · rw [e, hb] at h1
    cases h1
  · obtain ⟨c, e1, e2⟩ := h3 pos cv hc
    refine ⟨c, e1, g.2 _ _ (fun e => ?_) e2⟩
    rw [e, hb] at e2
    cases e2
theorem bx_ext {H H' : Hp} {b m : Addr} (x : Bx H b m) (e : LamX.ExtN H H') : Bx H' b m := by
  obtain ⟨ms, i, r, s, h1, h2, h3⟩ := x
  exact ⟨ms, i, r, s, e _ _ h1 (fun ps z => nomatch z), e _ _ h2 (fun ps z => nomatch z), h3⟩
structure Zz (T : List (Addr × Str)) (b m : Addr) (H : Hp) : Prop where
  bx : Bx H b m
  tb : LamX.Tabs T H
theorem Zz.same {T : List (Addr × Str)} {b m : Addr} {H H' : Hp} (z : Zz T b m H) (s : Same H H') : Zz T b m H' := ⟨z.bx.same s, z.tb.ext s⟩
theorem Zz.go {T : List (Addr × Str)} {b m : Addr} {H H' : Hp} (z : Zz T b m H) (g : BxGo H H' b m) : Zz T b m H' := ⟨g.1, tabs_go z.tb z.bx g⟩
theorem Zz.ext {T : List (Addr × Str)} {b m : Addr} {H H' : Hp} (z : Zz T b m H) (e : LamX.ExtN H H') (t : LamX.Tabs T H') : Zz T b m H' := ⟨bx_ext z.bx e, t⟩
theorem lg_good {L : List Nat} (h : Lg L) : GoodL L := by
  have h3 := h.2.1
  refine ⟨KA.Lg.ne h, fun i hi => ?_⟩
  have gl : L[i]? = some L[i] := List.getElem?_eq_getElem hi
  have gd : L.getD i 0 = L[i] := by rw [List.getD_eq_getElem?_getD, gl]; rfl
  have hm := h.2.2 _ (List.getElem_mem hi)
  unfold badL
  rw [gd, decide_eq_false (show ¬ i = 3 by omega), decide_eq_true hm.1, decide_eq_true hm.2, decide_eq_false]
  · rfl
  · intro hz
    obtain ⟨j, hj⟩ := List.mem_iff_getElem?.mp hz
    rw [List.getElem?_take] at hj
    split at hj
    · rename_i hji
      have e1 : L[j]? = L[i]? := by rw [hj, gl]
      have := (List.getElem?_inj (by omega) h.1.2).mp e1
      omega
    · cases hj
theorem sg_ascL {l : List Nat} (h : Lg l) {x : Nat} (hx : x ∈ sg l) : x < 128 := by
  unfold sg at hx
  obtain ⟨c, hc, hx⟩ := List.mem_flatMap.mp hx
  have := h.2.2 c hc
  have hx2 : x = c ∨ x = c - 32 := by simpa using hx
  omega
theorem self_sg {l : List Nat} : ∀ c ∈ l, c ∈ sg l := fun c hc => List.mem_flatMap.mpr ⟨c, hc, List.mem_cons_self⟩
/-- a short tuple of short words -/
def Wt (ws : List (List Nat)) : Prop := ws.length ≤ 1000 ∧ ∀ l ∈ ws, l.length ≤ 1000 ∧ Asc l
theorem ok_two {L x y : List Nat} (hx : x.length ≤ 16) (hy : y.length ≤ 16) (wx : ∀ c ∈ x, c ∈ sg L) (wy : ∀ c ∈ y, c ∈ sg L) : okR L [x, y] = true := by
  have s1 : ∀ z : List Nat, z.length ≤ 16 → (∀ c ∈ z, c ∈ sg L) → sd z L = true := fun z hz wz => by
    unfold sd isW
    rw [decide_eq_true hz, Bool.true_and, List.all_eq_true]
    exact fun c hc => decide_eq_true (wz c hc)
  unfold okR
  rw [decide_eq_true (show [x, y].length = 2 from rfl), Bool.true_and, List.all_cons, List.all_cons, s1 x hx wx, s1 y hy wy]
  rfl
theorem Rp.ok {L : List Nat} {n : Nat} {ws : List (List Nat)} (h : Rp L n ws) (hn : n ≤ 16) : okR L ws = true := by
  obtain ⟨x, y, rfl, hx, hy, wx, wy⟩ := h
  exact ok_two (by omega) (by omega) wx wy
theorem Rp.wt {L : List Nat} {n : Nat} {ws : List (List Nat)} (h : Rp L n ws) (hn : n ≤ 16) (hl : Lg L) : Wt ws := by
  obtain ⟨x, y, rfl, hx, hy, wx, wy⟩ := h
  refine ⟨(by show 2 ≤ 1000; decide), fun z hz => ?_⟩
  have : z = x ∨ z = y := by simpa using hz
  rcases this with rfl | rfl
  · exact ⟨by omega, fun c hc => sg_ascL hl (wx c hc)⟩
  · exact ⟨by omega, fun c hc => sg_ascL hl (wy c hc)⟩
/-- rules that a town may have, of no great length -/
structure Ru (L : List Nat) (H : Hp) (rs : Rls) : Prop where
  row : ∀ r ∈ rs, TW H r
  ok : ∀ r ∈ rs, okR L r.2 = true ∧ Wt r.2
theorem Ru.tws {L : List Nat} {H : Hp} {rs : Rls} (h : Ru L H rs) : Tws H rs := fun r hr => ⟨h.row r hr, (h.ok r hr).2.1, fun l hl => ((h.ok r hr).2.2 l hl).1⟩
theorem Ru.asw {L : List Nat} {H : Hp} {rs : Rls} (h : Ru L H rs) : ∀ r ∈ wds rs, ∀ l ∈ r, Asc l := fun r hr l hl => by
  obtain ⟨y, hy, rfl⟩ := List.mem_map.mp hr
  exact ((h.ok y hy).2.2 l hl).2
theorem Ru.sub {L : List Nat} {H : Hp} {rs ms : Rls} (h : Ru L H rs) (s : ∀ r ∈ ms, r ∈ rs) : Ru L H ms := ⟨fun r hr => h.row r (s r hr), fun r hr => h.ok r (s r hr)⟩
theorem Ru.both {L : List Nat} {H : Hp} {rs ms : Rls} (h : Ru L H rs) (h2 : Ru L H ms) : Ru L H (rs ++ ms) := ⟨fun r hr => (List.mem_append.mp hr).elim (h.row r) (h2.row r), fun r hr => (List.mem_append.mp hr).elim (h.ok r) (h2.ok r)⟩
theorem Ru.ext {L : List Nat} {H H' : Hp} {rs : Rls} (h : Ru L H rs) (e : LamX.ExtN H H') : Ru L H' rs := ⟨fun r hr => by
  have z : H r.1 = some (.tup (r.2.map tx)) := h.row r hr
  exact e _ _ z (fun ps z => nomatch z), h.ok⟩
theorem Ru.same {L : List Nat} {H H' : Hp} {rs : Rls} (h : Ru L H rs) (s : Same H H') : Ru L H' rs := h.ext (.of s)
theorem Ru.go {L : List Nat} {H H' : Hp} {b m : Addr} {rs : Rls} (h : Ru L H rs) (hB : Bx H b m) (g : BxGo H H' b m) : Ru L H' rs := ⟨fun r hr => (h.row r hr).go hB g, h.ok⟩
theorem Ru.good {L : List Nat} {H : Hp} {rs : Rls} (h : Ru L H rs) (h6 : rs.length ≤ 6) : GoodU L (wds rs) := by
  refine good_of (by rw [List.length_map]; exact h6) fun r hr => ?_
  obtain ⟨y, hy, rfl⟩ := List.mem_map.mp hr
  exact (h.ok y hy).1
/-- which rule is the first bad one, where all could stand alone -/
theorem Ru.bad {L : List Nat} {H : Hp} {rs : Rls} (h : Ru L H rs) {i : Nat} (hi : i < rs.length) (hb : badU L (wds rs) i = true) : i = 6 := by
  unfold badU at hb
  have gl : rs[i]? = some rs[i] := List.getElem?_eq_getElem hi
  have gd : (wds rs).getD i [] = rs[i].2 := by
    rw [List.getD_eq_getElem?_getD, List.getElem?_map, gl]
    rfl
  rw [gd, (h.ok _ (List.getElem_mem hi)).1] at hb
  simpa using hb
/-- rules in a list -/
structure Sm (L : List Nat) (H : Hp) (p : Addr) (rs : Rls) : Prop where
  lst : H p = some (.lst (rfs rs))
  ru : Ru L H rs
  len : rs.length ≤ 6
theorem Sm.ext {L : List Nat} {H H' : Hp} {p : Addr} {rs : Rls} (h : Sm L H p rs) (e : LamX.ExtN H H') : Sm L H' p rs := ⟨e _ _ h.lst (fun ps z => nomatch z), h.ru.ext e, h.len⟩
theorem Sm.same {L : List Nat} {H H' : Hp} {p : Addr} {rs : Rls} (h : Sm L H p rs) (s : Same H H') : Sm L H' p rs := h.ext (.of s)
theorem Sm.go {L : List Nat} {H H' : Hp} {b m p : Addr} {rs : Rls} (h : Sm L H p rs) (hB : Bx H b m) (hp : p ≠ b) (g : BxGo H H' b m) : Sm L H' p rs := ⟨g.2 _ _ hp h.lst, h.ru.go hB g, h.len⟩
/-- a list is not the box -/
theorem Bx.nel {H : Hp} {b m p : Addr} {rs : Rls} (x : Bx H b m) (h : H p = some (.lst (rfs rs))) : p ≠ b := by
  obtain ⟨ms, i, r, s, hb, _⟩ := x
  intro e
  rw [e, hb] at h
  have z : [V.ref m, .int i, .int r, .int s] = rfs rs := by
    injection h with h
    injection h
  match rs, z with
  | [], z => cases z
  | [_], z => cases z
  | _ :: _ :: _, z =>
    injection z with _ z
    injection z with z _
    cases z
theorem rfs_cat (rs ms : Rls) : rfs rs ++ rfs ms = rfs (rs ++ ms) := (List.map_append).symm
theorem rfs_len (rs : Rls) : (rfs rs).length = rs.length := List.length_map _
theorem Bx.nelR {H : Hp} {b m p : Addr} {fs : List (Addr × List Int)} (x : Bx H b m) (h : H p = some (.lst (KT.rf fs))) : p ≠ b := by
  obtain ⟨ms, i, r, s, hb, _⟩ := x
  intro e
  rw [e, hb] at h
  injection h with h
  injection h with h
  have z4 : (V.int i) ∈ KT.rf fs := by
    rw [← h]
    simp
  obtain ⟨_, _, h⟩ := List.mem_map.mp z4
  cases h
theorem Gd.go {CT : Addr} {H H' : Hp} {b m t : Addr} {L : List Nat} {ws : List (List (List Nat))} (h : Gd CT H t L ws) (hB : Bx H b m) (g : BxGo H H' b m) : Gd CT H' t L ws := by
  obtain ⟨qt, fs, rest, ⟨⟨dx, h1⟩, h2⟩, h3⟩ := h
  have nq := Bx.nelR hB h2.lst
  refine ⟨qt, fs, rest, ⟨⟨dx, g.2 _ _ (fun e => ?_) h1⟩, ⟨g.2 _ _ nq h2.lst, fun x hx => ?_⟩⟩, h3⟩
  · obtain ⟨ms, i, r, s, hb, _⟩ := hB
    rw [e, hb] at h1
    cases h1
  · have z : H x.1 = some (.tup (x.2.map V.int)) := h2.row x hx
    obtain ⟨ms, i, r, s, hb, _⟩ := hB
    refine g.2 _ _ (fun e => ?_) z
    rw [e, hb] at z
    cases z
theorem Tn.go {C CT : Addr} {H H' : Hp} {b m x q : Addr} {L : List Nat} {rs : Rls} (h : Tn C CT H x L q rs) (hB : Bx H b m) (g : BxGo H H' b m) : Tn C CT H' x L q rs := by
  have nq := Bx.nel hB h.lst
  have key : ∀ {dx t : Addr}, H x = some (.ins C dx (fTown L q t)) → H' x = some (.ins C dx (fTown L q t)) := fun {dx t} h1 => g.2 _ _ (fun e => by
    obtain ⟨ms, i, r, s, hb, _⟩ := hB
    rw [e, hb] at h1
    cases h1) h1
  obtain ⟨dx, t, h1⟩ := h.ins
  obtain ⟨dx2, t2, h2, h3⟩ := h.tab
  exact ⟨⟨dx, t, key h1⟩, g.2 _ _ nq h.lst, fun r hr => (h.row r hr).go hB g, h.sz, h.lz, h.as, ⟨dx2, t2, key h2, h3.go hB g⟩⟩
/-- lists of rules with the same words are the same -/
theorem eqd_wds {H : Hp} {p q : Addr} {rs rs' : Rls} (h1 : H p = some (.lst (rfs rs))) (h2 : H q = some (.lst (rfs rs'))) (e : wds rs = wds rs') (t1 : ∀ r ∈ rs, TW H r ∧ r.2.length ≤ 1000) (t2 : ∀ r ∈ rs', TW H r) (h7 : rs.length ≤ 1000) : Eqd 2 H (.ref p) (.ref q) := by
  have el : rs.length = rs'.length := by
    have z := congrArg List.length e
    rw [List.length_map, List.length_map] at z
    exact z
  refine .inr ⟨p, q, rfs rs, rfs rs', rfl, rfl, by rw [rfs_len, rfs_len, el], (by rw [rfs_len]; exact h7), .inl ⟨h1, h2⟩, fun i u v g1 g2 => ?_⟩
  rw [List.getElem?_map] at g1 g2
  cases e1 : rs[i]? with
  | none => rw [e1] at g1; cases g1
  | some r =>
    cases e2 : rs'[i]? with
    | none => rw [e2] at g2; cases g2
    | some r' =>
      rw [e1] at g1
      rw [e2] at g2
      obtain rfl := Option.some.inj g1
      obtain rfl := Option.some.inj g2
      have ew : r.2 = r'.2 := by
        have z := congrArg (fun l => l[i]?) e
        have z2 : ((rs.map fun x => x.2)[i]?) = ((rs'.map fun x => x.2)[i]?) := z
        rw [List.getElem?_map, List.getElem?_map, e1, e2] at z2
        exact Option.some.inj z2
      obtain ⟨k1, k2⟩ := t1 r (List.mem_of_getElem? e1)
      have k3 := t2 r' (List.mem_of_getElem? e2)
      have k1' : H r.1 = some (.tup (r.2.map tx)) := k1
      have k3' : H r'.1 = some (.tup (r'.2.map tx)) := k3
      rw [← ew] at k3'
      refine .inr ⟨r.1, r'.1, r.2.map tx, r.2.map tx, rfl, rfl, rfl, (by rw [List.length_map]; exact k2), .inr ⟨k1', k3'⟩, fun j u v g1 g2 => ?_⟩
      rw [g1] at g2
      cases g2
      obtain ⟨y, hy, rfl⟩ := List.mem_map.mp (List.mem_of_getElem? g1)
      exact ⟨rfl, .inr (.inl ⟨_, rfl⟩)⟩
abbrev sSmall : Stmt := top 101
theorem scSmall : FnScope ["_law_box", "_law_letters_here", "_law_some"] ["_law_box"] (defScope sSmall) := ⟨rfl, rfl, rfl, by decide +kernel, rfl, by decide +kernel, by decide +kernel⟩
def spSmall : Sp := fun vs H Q _ => ∃ (b m : Addr), vs = [.ref b] ∧ Bx H b m ∧ ∀ (H' : Hp) (pt ls : Addr) (L l : List Nat) (rs : Rls), BxGo H H' b m → H' pt = some (.tup [tx L, .ref ls, tx l]) → Lg L → Sm L H' ls rs → l.length ≤ 4 → isW l L = true → Q (.ref pt) H'
section
variable {P : Program} {w : World} {K : PySem.W.Frag} {mg : Str → Option Value} {base : Heap}
theorem ok_small {f fD fL fR fS : Addr} {fd fdD fdL fdR fdS : FuncData} (F : Fun K "_law_small" "_law_small" sSmall f fd) (cD : KT.Cb P w K mg base CX0 1 "_law_draw" ["_law_box", "_law_many"] spDraw fD fdD) (cL : KT.Cb P w K mg base CX0 3 "_law_letters" ["_law_box", "_law_many"] spLet fL fdL)
    (cR : KT.Cb P w K mg base CX0 5 "_law_some_rules" ["_law_box", "_law_letters_here", "_law_many", "_law_most"] spSr fR fdR) (cS : KT.Cb P w K mg base CX0 3 "_law_some_word" ["_law_box", "_law_letters_here", "_law_most"] spSome fS fdS) : FnOk P w K mg base CX0 6 f fd ["_law_box"] spSmall := by
  refine F.ok scSmall (fun vs H Q E h => ?_) (fun cdv A outer s H vs Q E hr h => ?_)
  · obtain ⟨b, m, rfl, _⟩ := h
    rfl
  · obtain ⟨b, m, rfl, bx, qq⟩ := h
    have r1 : Room 1 (A.deeper (envOfC "_law_small" (defScope sSmall) s.heap.objs.size f cdv)) := hr.mono (by decide)
    have r3 : Room 3 (A.deeper (envOfC "_law_small" (defScope sSmall) s.heap.objs.size f cdv)) := hr.mono (by decide)
    refine ⟨_, pss_cons (ps_set (i := 1) scSmall.nd rfl (.inl rfl) (pe_call cL.ok r3 (by rfl) cL.g cL.kp cL.b .nil pass0 (pa_cons (pv 0) (pa_cons (pe_op op_add pe_int (pe_call cD.ok r1 (by rfl) cD.g cD.kp cD.b .nil pass0 (pa_cons (pv 0) (pa_cons pe_int pa_nil)))) pa_nil))))
      (pss_cons (ps_set (i := 2) scSmall.nd rfl (.inl rfl) (pe_call cR.ok hr (by rfl) cR.g cR.kp cR.b .nil pass0 (pa_cons (pv 0) (pa_cons (pv 1) (pa_cons pe_int (pa_cons pe_int pa_nil))))))
      (pss_one (ps_ret (pe_tup (pa_cons (pv 1) (pa_cons (pv 2) (pa_cons (pe_call cS.ok r3 (by rfl) cS.g cS.kp cS.b .nil pass0 (pa_cons (pv 0) (pa_cons (pv 1) (pa_cons pe_int pa_nil)))) pa_nil))))))), ?_⟩
    refine ⟨_, rfl, _, rfl, b, m, 2, rfl, bx, by decide, by decide, fun d H1 d0 d1 hT => ⟨_, _, rfl, rfl, ?_⟩⟩
    have e : (1 + d) = (((1 + d).toNat : Nat) : Int) := by omega
    refine ⟨b, m, (1 + d).toNat, by rw [← e]; rfl, hT.1, by omega, by omega, fun L H2 hl hm g => ?_⟩
    have lg : Lg L := ⟨⟨by omega, hl.2⟩, by omega, fun c hc => menu_lo c (hm c hc)⟩
    have g2 := hT.go.trans g
    refine ⟨_, rfl, _, rfl, b, m, L, 2, 3, rfl, g2.1, lg.lt, KA.Lg.ne lg, by decide, by decide, fun p rs H3 g3 np hpb hpm hp lp rp => ?_⟩
    have ru : Ru L H3 rs := ⟨fun r hr => (rp r hr).1, fun r hr => ⟨(rp r hr).2.ok (by decide), (rp r hr).2.wt (by decide) lg⟩⟩
    have sm3 : Sm L H3 p rs := ⟨hp, ru, by omega⟩
    refine ⟨_, rfl, _, rfl, _, rfl, _, rfl, b, m, L, 4, rfl, g3.1, lg.lt, KA.Lg.ne lg, by decide, fun l H4 l4 lw g4 => ⟨(by show 3 ≤ sizeLine; decide), fun pt npt => ?_⟩⟩
    have g5 : BxGo H4 (upd H4 pt (.tup [tx L, .ref p, tx l])) b m := BxGo.of g4.1 (same_new npt)
    refine qq _ pt p L l rs (((g2.trans g3).trans g4).trans g5) upd_same lg ((sm3.go g3.1 hpb g4).go g4.1 hpb g5) l4 ?_
    show (l.all fun c => decide (c ∈ sg L)) = true
    exact List.all_eq_true.mpr fun c hc => decide_eq_true (lw c hc)
end
end K31
set_option maxRecDepth 100000
set_option maxHeartbeats 4000000
/-! the law's statements -/
namespace Rs
open PySem PySem.Spec PyProof.Rows L2
def sw3 {α : Type} : List α → List α → List α
  | [], [x, y, z] => [x, z, y]
  | _, _ => []
theorem sw3_rel {vs : List V} {us : List Value} {zs : List V} {ws : List Value} (r : Vals vs us) (rz : Vals zs ws) : Vals (sw3 vs zs) (sw3 us ws) := by
  cases r with
  | cons _ _ => exact .nil
  | nil =>
    cases rz with
    | nil => exact .nil
    | cons r1 rz =>
      cases rz with
      | nil => exact .nil
      | cons r2 rz =>
        cases rz with
        | nil => exact .nil
        | cons r3 rz =>
          cases rz with
          | nil => exact .cons r1 (.cons r3 (.cons r2 .nil))
          | cons _ _ => exact .nil
end Rs
namespace K31
open PySem PySem.Spec PyProof.Rows L2 KA
theorem kb_app {K : PySem.W.Frag} {f : Addr} {fd : FuncData} (F : Fun K "applied" "applied" sApp f fd) : KBinds K fd ["town", "word", "step"] ["town", "step", "word"] Rs.sw3 Rs.sw3 := by
  obtain ⟨oc, od, kV, doc, pm, an, cdv, ct, osl, rfl, lk, hcd⟩ := F.ex
  refine ⟨fun s us ws _ hl => ?_, Rs.sw3_rel⟩
  match us, ws, hl with
  | [], [x, y, z], _ => exact .of_eq rfl
abbrev sLaw : Stmt := top 103
abbrev NL : List Str := ["_law_script", "_law_box", "_law_turn", "_law_letters_here", "_law_some", "_law_rows", "_law_k", "_law_step_z", "_law_later", "_law_due", "_law_told", "_law_found", "_law_bent", "_law_made", "_law_one", "_law_town_now"]
theorem scLaw : FnScope NL ["_law_script"] (defScope sLaw) := ⟨rfl, rfl, rfl, by decide +kernel, rfl, by decide +kernel, by decide +kernel⟩
def forBody : Stmt → List Stmt
  | .For _ _ b _ _ => b
  | _ => []
abbrev P0 : Pos := ⟨0, 0, 0, 0⟩
abbrev lw (i : Nat) : Stmt := (defBody sLaw).getD i (.Pass P0)
abbrev tl (i : Nat) : Stmt := (forBody (lw 1)).getD i (.Pass P0)
abbrev sl (i : Nat) : Stmt := (forBody (tl 2)).getD i (.Pass P0)
abbrev XL (P : Program) (w : World) (K : PySem.W.Frag) (mg : Str → Option Value) (base : Heap) (f c : Addr) (A : Around) (outer : List Env) (s : Shared) (H : Hp) (E : XK) : Cx := (cxOf CX0 P w K mg base NL "law" (defScope sLaw) f (.ref c) A outer s H E).nox
def qL : Str := (envOfC "law" (defScope sLaw) 0 0 .none).qual ++ "<lambda>"
def lamP : Expr → Arguments
  | .Lambda p _ _ _ => p
  | _ => ⟨[], [], none, [], [], none, []⟩
def lamE : Expr → Expr
  | .Lambda _ e _ _ => e
  | e => e
def lamS : Expr → Scope
  | .Lambda _ _ s _ => s
  | _ => defScope sLaw
def arg0 : Expr → Expr
  | .Call _ (e :: _) _ _ => e
  | e => e
def tstE : Stmt → Expr
  | .If t _ _ _ => t
  | _ => .Name "" ⟨0, 0, 0, 0⟩
def valE : Stmt → Expr
  | .Assign _ e _ => e
  | _ => .Name "" ⟨0, 0, 0, 0⟩
def lefE : Expr → Expr
  | .Compare e _ _ _ => e
  | e => e
def ask1 : Expr := arg0 (valE (sl 5))
def ask2 : Expr := arg0 (lefE (tstE (tl 3)))
def ask3 : Expr := arg0 (valE (lw 5))
theorem bind0 (e : Expr) (h : e = ask1 ∨ e = ask2 ∨ e = ask3) : Rs.LamBind (lamP e) (lamE e) (lamS e) := by
  intro z q cl dV doc pm cv ctv hd
  rcases hd with ⟨_, rfl⟩ | ⟨t, its, _, _, _, hn⟩
  · rcases h with rfl | rfl | rfl <;> exact ⟨[], .of_eq rfl, fun y hy => nomatch hy⟩
  · rcases h with rfl | rfl | rfl <;> exact absurd rfl hn
/-- what the law calls -/
structure Lc (P : Program) (w : World) (K : PySem.W.Frag) (mg : Str → Option Value) (base : Heap) : Type where
  (C CG CU CT CW CS : Addr)
  T : List (Addr × Str)
  (fBeg fSm fTw fGr fSs fBh fAp fBe fSa fI fWh fF fW fS C1 C2 C3 : Addr)
  (fdBeg fdSm fdTw fdGr fdSs fdBh fdAp fdBe fdSa fdWh fdF : FuncData)
  B : Bn mg
  cBeg : KT.Cb P w K mg base CX0 1 "_law_begin" ["_law_script"] (spBegin K) fBeg fdBeg
  cSm : KT.Cb P w K mg base CX0 6 "_law_small" ["_law_box"] spSmall fSm fdSm
  cTw : KT.Cb P w K mg base (L2.CX P w) 11 "_law_town" ["_law_letters_here", "_law_rules_now"] (spTwn C CT T) fTw fdTw
  cGr : KT.Cb P w K mg base CX0 4 "_law_grid" ["_law_rules_now", "_law_letters_here"] spGrid fGr fdGr
  cSs : KT.Cb P w K mg base CX0 5 "_law_some_step" ["_law_box", "_law_rows", "_law_letters_here", "_law_some", "_law_one"] (fun vs H Q E => ∃ (b m q ls : Addr) (L l : List Nat) (rs : Rls) (R : List (List Int)), vs = [.ref b, .ref q, tx L, .ref ls, tx l] ∧ Bx H b m ∧ Lw H q L ls rs l R ∧ l.length ≤ 20 ∧ q ≠ b ∧ ls ≠ b ∧ rs.length ≤ 6 ∧ PostS H b m R L (wds rs) l Q) fSs fdSs
  cBh : KT.Cb P w K mg base CX0 4 "_law_behind" ["_law_rows", "_law_letters_here", "_law_some", "_law_one", "_law_step_z"] spBeh fBh fdBh
  cAp : KT.Cb P w K mg base (L2.CX P w) 8 "applied" ["town", "word", "step"] (spAp C CT CW CS) fAp fdAp
  kAp : KBinds K fdAp ["town", "word", "step"] ["town", "step", "word"] Rs.sw3 Rs.sw3
  cBe : KT.Cb P w K mg base CX0 3 "_law_bent_step" ["_law_box", "_law_step_z"] spBentS fBe fdBe
  cSa : KT.Cb P w K mg base CX0 4 "_law_same" ["_law_found", "_law_due"] (spSame 3) fSa fdSa
  TC : TwC K C
  gC : mg "Town" = some (.ref C)
  M : Mk K C fI
  G : FnR P w K mg base (L2.CX P w) 8 fI (spTown K C CG CU CT T)
  FW : Fun K "_law_why" "_law_why" sWhy fWh fdWh
  bWh : Binds K fdWh ["_law_ask"] []
  gWh : mg "_law_why" = some (.ref fWh)
  TW : ErC K mg "InvalidWord" "at" CW fW
  XW : XfC K CW
  TS : ErC K mg "InvalidStep" "at" CS fS
  XS : XfC K CS
  GF : Rs.FnPin P w K mg base 1 fF fdF ["_law_e"] (spFld CW CS)
  kF : PySem.W.keepIn K (.ref fF) = true
  bF : Binds K fdF ["_law_e"] []
  gF : mg "_law_field" = some (.ref fF)
  m1 : mg "TownError" = some (.ref C1)
  m2 : mg "Missing" = some (.ref C2)
  m3 : mg "NothingLeft" = some (.ref C3)
  hx : ∀ C ∈ [CW, CS], PySem.W.exmAny K (.ref C) [.ref C1, .ref C2, .ref C3] = some true
/-- a def of the law that makes lambdas -/
structure Lt2 (base : Heap) (mg : Str → Option Value) (T : List (Addr × Str)) (c : Addr) (q : Str) : Type where
  Pt : Addr
  hm : (Pt, q) ∈ T
  hu : ∀ p ∈ T, p.1 = Pt → p.2 = q
  TB : LamX.TabB base mg c Pt
end K31
set_option maxRecDepth 100000
set_option maxHeartbeats 4000000
/-! the word behind a step is a word; what the law holds -/
namespace K31
open PySem PySem.Spec PyProof.Rows L2 KA
theorem isW_iff {l L : List Nat} : isW l L = true ↔ ∀ c ∈ l, c ∈ sg L := ⟨fun h c hc => of_decide_eq_true (List.all_eq_true.mp h c hc), fun h => List.all_eq_true.mpr fun c hc => decide_eq_true (h c hc)⟩
theorem sw_in {L : List Nat} (hL : Lt L) {c : Nat} (h : c ∈ sg L) : sw c ∈ sg L := by
  unfold sg at h ⊢
  obtain ⟨d, hd, hx⟩ := List.mem_flatMap.mp h
  have hdl := hL.2 d hd
  have hx2 : c = d ∨ c = d - 32 := by simpa using hx
  refine List.mem_flatMap.mpr ⟨d, hd, ?_⟩
  rcases hx2 with rfl | rfl
  · have e : sw c = c - 32 := by
      unfold sw
      repeat' split
      all_goals omega
    rw [e]
    simp
  · have e : sw (d - 32) = d := by
      unfold sw
      repeat' split
      all_goals omega
    rw [e]
    simp
theorem bh_word {R : List (List Int)} {L : List Nat} {ws : List (List (List Nat))} {l : List Nat} {st : List V} {z : List Nat} (hL : Lt L) (ok : ∀ r ∈ ws, okR L r = true) (hw : isW l L = true) (h : bh R L ws l st = some z) : z.length ≤ l.length + 16 ∧ isW z L = true := by
  have w0 := isW_iff.mp hw
  cases st with
  | nil => cases h
  | cons k rest =>
    rw [bh_cons] at h
    by_cases c1 : k = kPut ∧ rest.length = 2
    · rw [if_pos c1] at h
      unfold bPut at h
      split at h
      · rename_i hc
        obtain ⟨_, hs⟩ := He.ba hc
        obtain ⟨c, es, hcs⟩ := isS_one hs
        rw [es] at h
        injection h with h
        rw [← h]
        refine ⟨?_, isW_iff.mpr fun x hx => ?_⟩
        · rw [List.length_append, List.length_append, List.length_append, List.length_take, List.length_drop]
          show min _ _ + 1 + 1 + _ ≤ _
          omega
        · rcases List.mem_append.mp hx with hx | hx
          · rcases List.mem_append.mp hx with hx | hx
            · rcases List.mem_append.mp hx with hx | hx
              · exact w0 x (List.mem_of_mem_take hx)
              · have hx : x ∈ [c] := hx
                rw [List.mem_singleton.mp hx]
                exact hcs
            · have hx : x ∈ [sw c] := hx
              rw [List.mem_singleton.mp hx]
              exact sw_in hL hcs
          · exact w0 x (List.mem_of_mem_drop hx)
      · cases h
    rw [if_neg c1] at h
    by_cases c2 : k = kDrop ∧ rest.length = 1
    · rw [if_pos c2] at h
      unfold bDrop at h
      split at h
      · injection h with h
        rw [← h]
        refine ⟨?_, isW_iff.mpr fun x hx => ?_⟩
        · rw [List.length_append, List.length_take, List.length_drop]
          omega
        · rcases List.mem_append.mp hx with hx | hx
          · exact w0 x (List.mem_of_mem_take hx)
          · exact w0 x (List.mem_of_mem_drop hx)
      · cases h
    rw [if_neg c2] at h
    by_cases c3 : k = kRule ∧ rest.length = 3
    · rw [if_pos c3] at h
      unfold bRule at h
      split at h
      · rename_i hc
        split at h
        · obtain ⟨hn, hb⟩ := He.ba hc
          obtain ⟨n, en, hn2⟩ := inR_nat hn
          rw [en] at h
          have hn3 : n < ws.length := by omega
          have hm : ws.getD n [] ∈ ws := by
            rw [List.getD_eq_getElem?_getD, List.getElem?_eq_getElem hn3]
            exact List.getElem_mem hn3
          obtain ⟨u, v, e, hu, hv, wu, wv⟩ := okR_two (ok _ hm)
          have e2 : ws.getD (toN (.int (n : Nat))) [] = [u, v] := e
          rw [e2] at h
          have hnew : (newS [u, v] (rest.getD 1 .non)).length ≤ 16 ∧ isW (newS [u, v] (rest.getD 1 .non)) L = true := by
            unfold newS
            split
            · exact ⟨hv, wv⟩
            · exact ⟨hu, wu⟩
          injection h with h
          rw [← h]
          refine ⟨?_, isW_iff.mpr fun x hx => ?_⟩
          · rw [List.length_append, List.length_append, List.length_take, List.length_drop]
            omega
          · rcases List.mem_append.mp hx with hx | hx
            · rcases List.mem_append.mp hx with hx | hx
              · exact w0 x (List.mem_of_mem_take hx)
              · exact isW_iff.mp hnew.2 x hx
            · exact w0 x (List.mem_of_mem_drop hx)
        · cases h
      · cases h
    rw [if_neg c3] at h
    by_cases c4 : k = kSwap ∧ rest.length = 3
    · rw [if_pos c4] at h
      unfold bSwap at h
      split at h
      · rename_i hc
        obtain ⟨_, hle⟩ := He.ba hc
        have hle := of_decide_eq_true hle
        split at h
        · injection h with h
          rw [← h]
          refine ⟨?_, isW_iff.mpr fun x hx => ?_⟩
          · rw [List.length_append, List.length_append, List.length_append, List.length_take, List.length_take, List.length_take, List.length_drop, List.length_drop, List.length_drop]
            omega
          · rcases List.mem_append.mp hx with hx | hx
            · rcases List.mem_append.mp hx with hx | hx
              · rcases List.mem_append.mp hx with hx | hx
                · exact w0 x (List.mem_of_mem_take hx)
                · exact w0 x (List.mem_of_mem_drop (List.mem_of_mem_take hx))
              · exact w0 x (List.mem_of_mem_drop (List.mem_of_mem_take hx))
            · exact w0 x (List.mem_of_mem_drop hx)
        · cases h
      · cases h
    rw [if_neg c4] at h
    cases h
theorem Rw.ext {H H' : Hp} {q : Addr} {wd : Nat} {R : List (List Int)} (h : Rw H q wd R) (e : LamX.ExtN H H') : Rw H' q wd R := by
  obtain ⟨⟨fs, h1, h2⟩, h3, h4, h5⟩ := h
  exact ⟨⟨fs, h1.ext e, h2⟩, h3, h4, h5⟩
/-- what the law holds of a town -/
structure Al (C CT : Addr) (T : List (Addr × Str)) (b m : Addr) (H : Hp) (x qx q ls : Addr) (L : List Nat) (rs : Rls) (R : List (List Int)) : Prop where
  zz : Zz T b m H
  we : Wel C CT H x qx L rs R
  rw_ : Rw H q L.length R
  sm : Sm L H ls rs
  lg : Lg L
  qb : q ≠ b
  lb : ls ≠ b
theorem Al.ext {C CT : Addr} {T : List (Addr × Str)} {b m : Addr} {H H' : Hp} {x qx q ls : Addr} {L : List Nat} {rs : Rls} {R : List (List Int)} (h : Al C CT T b m H x qx q ls L rs R) (e : LamX.ExtN H H') (t : LamX.Tabs T H') : Al C CT T b m H' x qx q ls L rs R :=
  ⟨h.zz.ext e t, ⟨h.we.tn.ext e, h.we.nr, h.we.gL, h.we.ok⟩, h.rw_.ext e, h.sm.ext e, h.lg, h.qb, h.lb⟩
theorem Al.same {C CT : Addr} {T : List (Addr × Str)} {b m : Addr} {H H' : Hp} {x qx q ls : Addr} {L : List Nat} {rs : Rls} {R : List (List Int)} (h : Al C CT T b m H x qx q ls L rs R) (s : Same H H') : Al C CT T b m H' x qx q ls L rs R := h.ext (.of s) (h.zz.tb.ext s)
theorem Al.go {C CT : Addr} {T : List (Addr × Str)} {b m : Addr} {H H' : Hp} {x qx q ls : Addr} {L : List Nat} {rs : Rls} {R : List (List Int)} (h : Al C CT T b m H x qx q ls L rs R) (g : BxGo H H' b m) : Al C CT T b m H' x qx q ls L rs R :=
  ⟨h.zz.go g, ⟨h.we.tn.go h.zz.bx g, h.we.nr, h.we.gL, h.we.ok⟩, h.rw_.go h.zz.bx g h.qb, h.sm.go h.zz.bx h.lb g, h.lg, h.qb, h.lb⟩
theorem Al.lw {C CT : Addr} {T : List (Addr × Str)} {b m : Addr} {H : Hp} {x qx q ls : Addr} {L : List Nat} {rs : Rls} {R : List (List Int)} (h : Al C CT T b m H x qx q ls L rs R) {l : List Nat} (hl : l.length ≤ 100) (hw : isW l L = true) : Lw H q L ls rs l R :=
  ⟨h.rw_, h.lg.lt, h.lg.1.1, h.sm.lst, h.sm.ru.tws, h.we.ok, hl, hw⟩
theorem Tf.ext {H H' : Hp} {p : Addr} {n : Nat} (h : Tf H p n) (e : LamX.ExtN H H') : Tf H' p n := by
  obtain ⟨xs, h1, h2⟩ := h
  exact ⟨xs, e _ _ h1 (fun ps z => nomatch z), h2⟩
end K31
set_option maxRecDepth 100000
set_option maxHeartbeats 4000000
/-! the law: one step, and one bent -/
namespace K31
open PySem PySem.Spec PyProof.Rows L2 KA
theorem fv_of (z : Str) (l : List Nat) (e : V.str z = tx l) (h : l.length ≤ 100) (hA : Asc l) : Fv (.str z) := by
  rw [e]
  exact .str l h hA
theorem fv_tagS : Fv tagS := fv_of _ [73, 110, 118, 97, 108, 105, 100, 83, 116, 101, 112] (by decide +kernel) (by decide) (fun c hc => by simp at hc; omega)
theorem fv_tagW : Fv tagW := fv_of _ [73, 110, 118, 97, 108, 105, 100, 87, 111, 114, 100] (by decide +kernel) (by decide) (fun c hc => by simp at hc; omega)
theorem fv_no : Fv (.str (Str.ofString "")) := fv_of _ [] (by decide +kernel) (by decide) (fun c hc => nomatch hc)
theorem eqv_self : ∀ {st : List V}, (∀ v ∈ st, Fv v) → PyData.eqvAll (st.map dV) (st.map dV) = true
  | [], _ => by simp [PyData.eqvAll]
  | v :: st, h => by
    have h1 := eqv_self (st := st) fun x hx => h x (List.mem_cons_of_mem _ hx)
    have hv := h v List.mem_cons_self
    cases hv with
    | int i => simp [PyData.eqvAll, PyData.eqv, dV, h1]
    | bl b => simp [PyData.eqvAll, PyData.eqv, dV, h1]
    | str l _ hA => simp [PyData.eqvAll, PyData.eqv, dV, h1]
theorem r_neT {K : PySem.W.Frag} {H : Hp} {p q : Addr} {st : List V} {Q : VK} (hp : H p = some (.tup st)) (hq : H q = some (.tup st)) (fv : ∀ v ∈ st, Fv v) (h : Q (.bl false) H) : rNeD K (.ref p) (.ref q) H Q := by
  refine ⟨dT st, dT st, .tup (SqT.of hp) (dpall_fv fv), .tup (SqT.of hq) (dpall_fv fv), shaped_dT fv, shaped_dT fv, ?_⟩
  have e : PyData.eqv (dT st) (dT st) = true := by
    unfold dT
    simp only [PyData.eqv]
    exact eqv_self fv
  rw [e]
  exact h
abbrev Sk (b ls q x : Addr) (Lx l : List Nat) (y0 y2 y6 y7 y8 y9 y10 y11 y12 y15 : Option V) : L2.St := [y0, some (.ref b), y2, some (tx Lx), some (.ref ls), some (.ref q), y6, y7, y8, y9, y10, y11, y12, some (.ref x), some (tx l), y15]
section
variable {P : Program} {w : World} {K : PySem.W.Frag} {mg : Str → Option Value} {base : Heap}
variable {f c : Addr} {A : Around} {outer : List Env} {s : Shared} {H : Hp} {E : XK}
theorem la1 (L : Lc P w K mg base) : ∃ t, Rs.LamB (XL P w K mg base f c A outer s H E) 8 (lamP ask1) (lamE ask1) (lamS ask1) t ∧ ∀ (E2 : XK) (b ls q x qx pb : Addr) (Lx l : List Nat) (rs : Rls) (R : List (List Int)) (st : List V) (y0 y2 y6 y7 y8 y9 y10 y11 y15 : Option V) (G : Hp) (Q : VK),
    Wel L.C L.CT G x qx Lx rs R → l.length ≤ 100 → isW l Lx = true → G pb = some (.tup st) → (∀ v ∈ st, Fv v) → st.length ≤ 100 → (bh R Lx (wds rs) l st = none → Fl L.CS tagS "at" (.int 0) G E2) → (∀ m, bh R Lx (wds rs) l st = some m → ∀ H', Same G H' → Q (tx m) H') →
    t E2 (Sk b ls q x Lx l y0 y2 y6 y7 y8 y9 y10 y11 (some (.ref pb)) y15) G Q := by
  refine ⟨_, ⟨Rs.lamQ_by (N := NL) (sc := defScope sLaw) (by decide +kernel), bind0 _ (.inl rfl), fun A2 outer2 s2 H2 E2 f2 c2 hr2 =>
    Rs.e_callK0 L.cAp.ok hr2 (by rfl) L.cAp.g L.cAp.kp L.kAp (passes_call (W := fun cls d _ H => E2 cls d H) (L2.takes_of rfl rfl rfl rfl) (fun _ _ _ _ h => h)) (pk_cons (pv 13) (pk_cons (pv 12) (pk_cons (pv 14) pk_nil)))⟩, ?_⟩
  intro E2 b ls q x qx pb Lx l rs R st y0 y2 y6 y7 y8 y9 y10 y11 y15 G Q we hl hw hp fv hst no ok
  exact ⟨_, rfl, _, rfl, _, rfl, x, qx, pb, Lx, rs, R, l, st, rfl, we, hl, hp, fv, hst, fun h => absurd hw (by rw [h]; exact fun h => nomatch h), fun _ h => no h, fun _ m h => ok m h⟩
theorem st_k (L : Lc P w K mg base) (W : Lt2 base mg L.T c qL) (hr : Room 40 (A.deeper (envOfC "law" (defScope sLaw) s.heap.objs.size f (.ref c)))) :
    ∃ t, PSs (XL P w K mg base f c A outer s H E) (forBody (tl 2)) t ∧ ∀ (D : Ends) (H0 : Hp) (b m ls q x qx : Addr) (Lx l : List Nat) (rs : Rls) (R : List (List Int)) (y0 y2 y6 y7 y8 y9 y10 y11 y12 y15 : Option V), Al L.C L.CT L.T b m H0 x qx q ls Lx rs R → l.length ≤ 13 → isW l Lx = true →
      (∀ (H' : Hp) (l' : List Nat) (y7 y8 y9 y10 y12 : Option V), Al L.C L.CT L.T b m H' x qx q ls Lx rs R → l'.length ≤ 13 → isW l' Lx = true → D.nx (Sk b ls q x Lx l' y0 y2 y6 y7 y8 y9 y10 y11 y12 y15) H') →
      t D (Sk b ls q x Lx l y0 y2 y6 y7 y8 y9 y10 y11 y12 y15) H0 := by
  obtain ⟨oc2, od2, kV2, doc2, pm2, an2, cdW, ct2, osl2, e2, lkW, hcW⟩ := L.FW.ex
  have r2 : Room 2 (A.deeper (envOfC "law" (defScope sLaw) s.heap.objs.size f (.ref c))) := hr.mono (by decide)
  have r3 : Room 3 (A.deeper (envOfC "law" (defScope sLaw) s.heap.objs.size f (.ref c))) := hr.mono (by decide)
  have r4 : Room 4 (A.deeper (envOfC "law" (defScope sLaw) s.heap.objs.size f (.ref c))) := hr.mono (by decide)
  have r5 : Room 5 (A.deeper (envOfC "law" (defScope sLaw) s.heap.objs.size f (.ref c))) := hr.mono (by decide)
  have r8 : Room 8 (A.deeper (envOfC "law" (defScope sLaw) s.heap.objs.size f (.ref c))) := hr.mono (by decide)
  have r10 : Room 10 (A.deeper (envOfC "law" (defScope sLaw) s.heap.objs.size f (.ref c))) := hr.mono (by decide)
  have bW := L.bWh
  rw [e2] at bW lkW
  have hG : ∀ cdg : Value, Rs.GivesL (XL P w K mg base f c A outer s H E) NW "_law_why" (defScope sWhy) L.fWh cdg (defBody sWhy) "_law_ask" (TTw L.CW L.CS) := fun cdg =>
    why_gives (j := 0) (X := XL P w K mg base f c A outer s H E) L.TW L.XW L.TS L.XS L.GF L.kF L.bF L.gF L.m1 L.m2 L.m3 L.hx r2
  obtain ⟨t0, LB0, R0⟩ := la1 (A := A) (outer := outer) (s := s) (H := H) (E := E) (f := f) (c := c) L
  refine ⟨_, pss_cons (ps_set (i := 7) scLaw.nd rfl (.inl rfl) (pe_call L.cSs.ok r5 (by rfl) L.cSs.g L.cSs.kp L.cSs.b .nil pass0 (pa_cons (pv 1) (pa_cons (pv 5) (pa_cons (pv 3) (pa_cons (pv 4) (pa_cons (pv 14) pa_nil)))))))
    (pss_cons (ps_set (i := 8) scLaw.nd rfl (.inl rfl) (pe_call L.cBh.ok r4 (by rfl) L.cBh.g L.cBh.kp L.cBh.b .nil pass0 (pa_cons (pv 5) (pa_cons (pv 3) (pa_cons (pv 4) (pa_cons (pv 14) (pa_cons (pv 7) pa_nil)))))))
    (pss_cons (ps_if (PW.pt (pw_or (pt_cmpR op_isN (pv 8) pe_non (nomark _)) (pw_or1 (pt_not (pt_val (pe_call L.cSa.ok r4 (by rfl) L.cSa.g L.cSa.kp L.cSa.b .nil pass0 (pa_cons (pe_call L.cAp.ok r8 (by rfl) L.cAp.g L.cAp.kp L.cAp.b .nil (passN rfl rfl) (pa_cons (pv 13) (pa_cons (pv 14) (pa_cons (pv 7) pa_nil)))) (pa_cons (pv 8) pa_nil)))))))) pss_never pss_nil)
    (pss_cons (ps_set (i := 12) scLaw.nd rfl (.inr rfl) (pe_call L.cBe.ok r3 (by rfl) L.cBe.g L.cBe.kp L.cBe.b .nil pass0 (pa_cons (pv 1) (pa_cons (pv 7) pa_nil))))
    (pss_cons (ps_set (i := 9) scLaw.nd rfl (.inl rfl) (pe_call L.cBh.ok r4 (by rfl) L.cBh.g L.cBh.kp L.cBh.b .nil pass0 (pa_cons (pv 5) (pa_cons (pv 3) (pa_cons (pv 4) (pa_cons (pv 14) (pa_cons (pv 12) pa_nil)))))))
    (pss_cons (ps_set (i := 10) scLaw.nd rfl (.inl rfl) (Rs.e_giveG (k := 8) (sl := id) Rs.up_self ⟨rfl, rfl, rfl, rfl, rfl, rfl, rfl⟩ (by rfl) L.gWh L.FW.kp lkW hcW bW scWhy rfl (.inl rfl) (hG _) r10 (Rs.e_lam0 (T := L.T) W.TB rfl W.hm W.hu (Rs.lamQ_by (N := NL) (sc := defScope sLaw) (by decide +kernel)) rfl rfl)))
    (pss_cons (ps_if (pt_cmpR (op_neD hr.units) (pv 10) (pe_ifExp (pt_cmpR op_notN (pv 9) pe_non (nomark _)) (pe_tup (pa_cons pe_str (pa_cons (pv 9) pa_nil))) (pe_tup (pa_cons pe_str (pa_cons pe_int pa_nil)))) (nomark _)) pss_never pss_nil)
    (pss_one (ps_set (i := 14) scLaw.nd rfl (.inr rfl) (pe_ifExp (pt_cmpR op_lt (pe_callB call_len_str (by rfl) L.B.len PySem.boot_len (pa_cons (pv 8) pa_nil)) pe_int (nomark _)) (pv 8) (pv 14)))))))))), ?_⟩
  intro D H0 b m ls q x qx Lx l rs R y0 y2 y6 y7 y8 y9 y10 y11 y12 y15 al hl hw nx
  have h6 := al.sm.len
  have ok := al.we.ok
  refine ⟨_, rfl, _, rfl, _, rfl, _, rfl, _, rfl, b, m, q, ls, Lx, l, rs, R, rfl, al.zz.bx, al.lw (by omega) hw, by omega, al.qb, al.lb, h6, fun H1 ps st g1 hps fv hst hz => ?_⟩
  obtain ⟨z, hz⟩ := hz
  have al1 := al.go g1
  obtain ⟨zl, zw⟩ := bh_word al.lg.lt ok hw hz
  refine ⟨_, rfl, _, rfl, _, rfl, _, rfl, _, rfl, q, ls, ps, Lx, l, rs, R, st, rfl, al1.lw (by omega) hw, hps, fv, by omega, fun H2 s2 => ?_⟩
  rw [hz]
  have al2 := al1.same s2
  have hps2 := s2 _ _ hps
  refine ⟨_, rfl, rfl, false, rfl, iteF ?_⟩
  refine ⟨_, rfl, _, rfl, _, rfl, x, qx, ps, Lx, rs, R, l, st, rfl, al2.we, by omega, hps2, fv, by omega, fun h => absurd hw (by rw [h]; exact fun h => nomatch h), (fun _ h => by rw [hz] at h; cases h), fun _ m1 h1 H3 s3 => ?_⟩
  rw [hz] at h1
  injection h1 with h1
  subst h1
  refine ⟨_, rfl, tx z, tx z, rfl, .flat (.inr (.inl ⟨_, rfl⟩)), fun H4 s4 => ⟨true, rfl, iteF ?_⟩⟩
  have s24 := s3.trans s4
  have al4 := al2.same s24
  have hps4 := s24 _ _ hps2
  refine ⟨_, rfl, _, rfl, b, m, ps, rfl, al4.zz.bx, ⟨st, hps4, fv, hst⟩, fun H5 pb g5 tb5 => ?_⟩
  have al5 := al4.go g5
  obtain ⟨sb, hpb, fvb, hlb⟩ := id tb5
  refine ⟨_, rfl, _, rfl, _, rfl, _, rfl, _, rfl, q, ls, pb, Lx, l, rs, R, sb, rfl, al5.lw (by omega) hw, hpb, fvb, by omega, fun H6 s6 => ?_⟩
  have al6 := al5.same s6
  have hpb6 := s6 _ _ hpb
  refine ⟨al6.zz.tb, fun f1 H7 ex tb7 nf la => ⟨f1, _, _, _, t0, rfl, LB0, la, ?_⟩⟩
  have al7 := al6.ext ex tb7
  have hpb7 := ex _ _ hpb6 (fun ps z => nomatch z)
  have fin : ∀ (H8 : Hp) (y10 : Option V), LamX.ExtN H7 H8 → LamX.Tabs L.T H8 → tAsg (tIf (tTest (tOp (rI0 fun i j => .bl (decide (i < j))) (tCB (fun xs H Q => ∃ z, xs = [.str z] ∧ z.length ≤ sizeLine ∧ Q (.int z.length) H) (tCons (tVar 8) tNil)) (tC (.int 14)))) (tVar 8) (tVar 14)) (gName 14) D (Sk b ls q x Lx l y0 y2 y6 (some (.ref ps)) (some (tx z)) (some (vO (bh R Lx (wds rs) l sb))) y10 y11 (some (.ref pb)) y15) H8 := by
    intro H8 y10 e8 t8
    have al8 := al7.ext e8 t8
    refine ⟨_, rfl, _, rfl, asc_le (w := z) (by omega), _, _, rfl, rfl, ?_⟩
    by_cases h : z.length < 14
    · exact ⟨true, congrArg V.bl (decide_eq_true (by rw [tx_len]; omega)), iteT ⟨_, rfl, nx H8 z _ _ _ _ _ al8 (by omega) zw⟩⟩
    · exact ⟨false, congrArg V.bl (decide_eq_false (by rw [tx_len]; omega)), iteF ⟨_, rfl, nx H8 l _ _ _ _ _ al8 hl hw⟩⟩
  refine R0 _ b ls q x qx pb Lx l rs R sb _ _ _ _ _ _ _ _ _ H7 _ al7.we (by omega) hw hpb7 fvb (by omega) ?_ ?_
  · intro hb H' d sH nd hd
    refine .inr ⟨rfl, d, _, rfl, hd, fun H8 T s8 nT hT => ?_⟩
    rw [hb] at fin ⊢
    refine ⟨_, rfl, _, rfl, rfl, false, rfl, iteF ⟨(by show 2 ≤ sizeLine; decide), fun p2 n2 => ?_⟩⟩
    refine r_neT (st := [tagS, .int 0]) (same_new n2 _ _ hT) upd_same (fun v hv => ?_) ⟨false, rfl, iteF ?_⟩
    · rcases List.mem_cons.mp hv with rfl | hv
      · exact fv_tagS
      · rw [List.mem_singleton.mp hv]
        exact .int _
    · exact fin _ _ (((LamX.ExtN.of sH).trans (.of s8)).trans (.of (same_new n2))) (((tb7.ext sH).ext s8).ext (same_new n2))
  · intro m1 hb H' sH
    refine ⟨(by show 2 ≤ sizeLine; decide), fun T nT => ?_⟩
    rw [hb] at fin ⊢
    have s8 := same_new (o := .tup [.str (Str.ofString ""), tx m1]) nT
    obtain ⟨ml, mw⟩ := bh_word al.lg.lt ok hw hb
    refine ⟨_, rfl, _, rfl, rfl, true, rfl, iteT ⟨_, rfl, (by show 2 ≤ sizeLine; decide), fun p2 n2 => ?_⟩⟩
    refine r_neT (st := [.str (Str.ofString ""), tx m1]) (same_new n2 _ _ upd_same) upd_same (fun v hv => ?_) ⟨false, rfl, iteF ?_⟩
    · rcases List.mem_cons.mp hv with rfl | hv
      · exact fv_no
      · rw [List.mem_singleton.mp hv]
        exact .str m1 (by omega) (isW_asc al.lg.lt mw)
    · exact fin _ _ (((LamX.ExtN.of sH).trans (.of s8)).trans (.of (same_new n2))) (((tb7.ext sH).ext s8).ext (same_new n2))
end
end K31
set_option maxRecDepth 100000
set_option maxHeartbeats 4000000
/-! the law: a town that is written out -/
namespace K31
open PySem PySem.Spec PyProof.Rows L2 KA
abbrev Lc0 : List Nat := [97, 98]
abbrev ws0 : List (List (List Nat)) := [[[97, 97], []]]
abbrev R0 : List (List Int) := [[2, 0]]
theorem df0 : ws0.map (df Lc0) = R0 := by decide +kernel
theorem nrf0 : NRf Lc0 ws0 R0 := by
  have e2 : ∀ j, Hm.fn [2, 0] j = if j = 0 then 2 else 0 := fun j => by
    match j with
    | 0 => rfl
    | 1 => rfl
    | j + 2 => rfl
  refine ⟨⟨[], ?_⟩, fun r hr => ?_, by decide⟩
  · rw [df0]
    have h0 := Hm.nrm_start (w := 2) (rows := R0) (fun r hr => by rw [List.mem_singleton.mp hr]; rfl)
    have h1 := Hm.nrm_some (cl := []) (l := [2, 0]) h0 (by decide) rfl ⟨(fun r hr => nomatch hr), (by decide), Hm.Eqs.refl _⟩
    exact Hm.nrm_none (cl := []) h1 (by decide) ⟨(fun r hr => nomatch hr), Hm.Eqs.refl _⟩
  · rw [List.mem_singleton.mp hr]
    refine ⟨rfl, ⟨0, by decide, ⟨fun j hj => absurd hj (Nat.not_lt_zero _), by decide⟩, by decide, by decide⟩, fun j => ?_⟩
    have h2 : (Hm.fn [2, 0] j).natAbs ≤ 2 := by
      rw [e2]
      split <;> decide
    exact Nat.lt_of_le_of_lt h2 (Nat.lt_of_lt_of_le (by decide : 2 < 2 ^ 2) (Nat.pow_le_pow_right (by decide) (by decide)))
theorem con1 : bh R0 Lc0 ws0 [97, 97, 98, 97, 97, 66] [kSwap, .int 0, .int 2, .int 4] = some [98, 97, 97, 66, 97, 97] := by decide +kernel
theorem con2 : bh R0 Lc0 ws0 [98] [kRule, .int 0, .bl false, .int 1] = some [98, 97, 97] := by decide +kernel
theorem con3 : bh R0 Lc0 ws0 [97, 98] [kSwap, .int 1, .int 0, .int 0] = some [97, 98] := by decide +kernel
theorem con4 : bh R0 Lc0 ws0 [97, 98] [kSwap, .int 0, .int 1, .int 1] = none := by decide +kernel
end K31
set_option maxRecDepth 100000
set_option maxHeartbeats 4000000
/-! the law: its parts around the inner loop -/
namespace K31
open PySem PySem.Spec PyProof.Rows L2 KA
theorem no63 {L : List Nat} (h : Lg L) : isW [63] L = false := by
  cases hw : isW [63] L with
  | false => rfl
  | true =>
    exfalso
    have h1 := isW_iff.mp hw 63 List.mem_cons_self
    unfold sg at h1
    obtain ⟨d, hd, hx⟩ := List.mem_flatMap.mp h1
    have := h.2.2 d hd
    have hx2 : 63 = d ∨ 63 = d - 32 := by simpa using hx
    omega
theorem q63 : V.str (Str.ofString "?") = tx [63] := by decide +kernel
section
variable {P : Program} {w : World} {K : PySem.W.Frag} {mg : Str → Option Value} {base : Heap}
variable {f c : Addr} {A : Around} {outer : List Env} {s : Shared} {H : Hp} {E : XK}
theorem la2 (L : Lc P w K mg base) : ∃ t, Rs.LamB (XL P w K mg base f c A outer s H E) 8 (lamP ask2) (lamE ask2) (lamS ask2) t ∧ ∀ (E2 : XK) (b ls q x qx : Addr) (Lx l : List Nat) (rs : Rls) (R : List (List Int)) (y0 y2 y6 y7 y8 y9 y10 y11 y12 y15 : Option V) (G : Hp) (Q : VK),
    Wel L.C L.CT G x qx Lx rs R → Lg Lx → Fl L.CW tagW "at" (.int ((0 : Nat) : Int)) G E2 → t E2 (Sk b ls q x Lx l y0 y2 y6 y7 y8 y9 y10 y11 y12 y15) G Q := by
  refine ⟨_, ⟨Rs.lamQ_by (N := NL) (sc := defScope sLaw) (by decide +kernel), bind0 _ (.inr (.inl rfl)), fun A2 outer2 s2 H2 E2 f2 c2 hr2 =>
    pe_call L.cAp.ok hr2 (by rfl) L.cAp.g L.cAp.kp L.cAp.b .nil (passes_call (W := fun cls d _ H => E2 cls d H) (L2.takes_of rfl rfl rfl rfl) (fun _ _ _ _ h => h)) (pa_cons (pv 13) (pa_cons pe_str (pa_cons (pe_tup pa_nil) pa_nil)))⟩, ?_⟩
  intro E2 b ls q x qx Lx l rs R y0 y2 y6 y7 y8 y9 y10 y11 y12 y15 G Q we lg no
  refine ⟨_, rfl, (by show 0 ≤ sizeLine; decide), fun p np => ?_⟩
  have s1 := same_new (o := .tup []) np
  exact ⟨x, qx, p, Lx, rs, R, [63], [], congrArg (fun v => [V.ref x, v, V.ref p]) q63, we.same s1, by decide, upd_same, (fun v hv => nomatch hv), by decide, fun _ => no.of s1, fun h => absurd h (by rw [no63 lg]; exact fun h => nomatch h), fun h => absurd h (by rw [no63 lg]; exact fun h => nomatch h)⟩
theorem ab : V.str (Str.ofString "ab") = tx [97, 98] := by decide +kernel
theorem la3 (L : Lc P w K mg base) : ∃ t, Rs.LamB (XL P w K mg base f c A outer s H E) 8 (lamP ask3) (lamE ask3) (lamS ask3) t ∧ ∀ (E2 : XK) (x qx : Addr) (rs : Rls) (y0 y1 y2 y3 y4 y5 y6 y7 y8 y9 y10 y11 y12 y13 y14 : Option V) (G : Hp) (Q : VK),
    Wel L.C L.CT G x qx Lc0 rs R0 → wds rs = ws0 → Fl L.CS tagS "at" (.int 0) G E2 → t E2 [y0, y1, y2, y3, y4, y5, y6, y7, y8, y9, y10, y11, y12, y13, y14, some (.ref x)] G Q := by
  refine ⟨_, ⟨Rs.lamQ_by (N := NL) (sc := defScope sLaw) (by decide +kernel), bind0 _ (.inr (.inr rfl)), fun A2 outer2 s2 H2 E2 f2 c2 hr2 =>
    pe_call L.cAp.ok hr2 (by rfl) L.cAp.g L.cAp.kp L.cAp.b .nil (passes_call (W := fun cls d _ H => E2 cls d H) (L2.takes_of rfl rfl rfl rfl) (fun _ _ _ _ h => h)) (pa_cons (pv 15) (pa_cons pe_str (pa_cons (pe_tup (pa_cons pe_str (pa_cons pe_int (pa_cons pe_int (pa_cons pe_int pa_nil))))) pa_nil)))⟩, ?_⟩
  intro E2 x qx rs y0 y1 y2 y3 y4 y5 y6 y7 y8 y9 y10 y11 y12 y13 y14 G Q we ew no
  refine ⟨_, rfl, (by show 4 ≤ sizeLine; decide), fun p np => ?_⟩
  have s1 := same_new (o := .tup [kSwap, .int 0, .int 1, .int 1]) np
  refine ⟨x, qx, p, Lc0, rs, R0, [97, 98], [kSwap, .int 0, .int 1, .int 1], congrArg (fun v => [V.ref x, v, V.ref p]) ab, we.same s1, by decide, upd_same, (fun v hv => ?_), by decide, fun h => absurd h (by decide +kernel), fun _ _ => no.of s1, fun _ m h => ?_⟩
  · rcases List.mem_cons.mp hv with rfl | hv
    · exact fk_swap
    rcases List.mem_cons.mp hv with rfl | hv
    · exact .int _
    rcases List.mem_cons.mp hv with rfl | hv
    · exact .int _
    · rw [List.mem_singleton.mp hv]
      exact .int _
  · rw [ew, con4] at h
    cases h
theorem st_q (L : Lc P w K mg base) (W : Lt2 base mg L.T c qL) (hr : Room 40 (A.deeper (envOfC "law" (defScope sLaw) s.heap.objs.size f (.ref c)))) :
    ∃ t, PS (XL P w K mg base f c A outer s H E) (tl 3) t ∧ ∀ (D : Ends) (H0 : Hp) (b m ls q x qx : Addr) (Lx l : List Nat) (rs : Rls) (R : List (List Int)) (y0 y2 y6 y7 y8 y9 y10 y11 y12 y15 : Option V), Al L.C L.CT L.T b m H0 x qx q ls Lx rs R →
      (∀ (H' : Hp), Al L.C L.CT L.T b m H' x qx q ls Lx rs R → D.nx (Sk b ls q x Lx l y0 y2 y6 y7 y8 y9 y10 y11 y12 y15) H') →
      t D (Sk b ls q x Lx l y0 y2 y6 y7 y8 y9 y10 y11 y12 y15) H0 := by
  obtain ⟨oc2, od2, kV2, doc2, pm2, an2, cdW, ct2, osl2, e2, lkW, hcW⟩ := L.FW.ex
  have r2 : Room 2 (A.deeper (envOfC "law" (defScope sLaw) s.heap.objs.size f (.ref c))) := hr.mono (by decide)
  have r10 : Room 10 (A.deeper (envOfC "law" (defScope sLaw) s.heap.objs.size f (.ref c))) := hr.mono (by decide)
  have bW := L.bWh
  rw [e2] at bW lkW
  have hG : ∀ cdg : Value, Rs.GivesL (XL P w K mg base f c A outer s H E) NW "_law_why" (defScope sWhy) L.fWh cdg (defBody sWhy) "_law_ask" (TTw L.CW L.CS) := fun cdg =>
    why_gives (j := 0) (X := XL P w K mg base f c A outer s H E) L.TW L.XW L.TS L.XS L.GF L.kF L.bF L.gF L.m1 L.m2 L.m3 L.hx r2
  obtain ⟨t0, LB0, R0⟩ := la2 (A := A) (outer := outer) (s := s) (H := H) (E := E) (f := f) (c := c) L
  refine ⟨_, ps_if (pt_cmpR (op_neD hr.units) (Rs.e_giveG (k := 8) (sl := id) Rs.up_self ⟨rfl, rfl, rfl, rfl, rfl, rfl, rfl⟩ (by rfl) L.gWh L.FW.kp lkW hcW bW scWhy rfl (.inl rfl) (hG _) r10 (Rs.e_lam0 (T := L.T) W.TB rfl W.hm W.hu (Rs.lamQ_by (N := NL) (sc := defScope sLaw) (by decide +kernel)) rfl rfl)) (pe_tup (pa_cons pe_str (pa_cons pe_int pa_nil))) (nomark _)) pss_never pss_nil, ?_⟩
  intro D H0 b m ls q x qx Lx l rs R y0 y2 y6 y7 y8 y9 y10 y11 y12 y15 al nx
  refine ⟨al.zz.tb, fun f1 H7 ex tb7 nf la => ⟨f1, _, _, _, t0, rfl, LB0, la, ?_⟩⟩
  have al7 := al.ext ex tb7
  refine R0 _ b ls q x qx Lx l rs R _ _ _ _ _ _ _ _ _ _ H7 _ al7.we al7.lg ?_
  intro H' d sH nd hd
  refine .inl ⟨rfl, d, _, rfl, hd, fun H8 T s8 nT hT => ?_⟩
  refine ⟨(by show 2 ≤ sizeLine; decide), fun p2 n2 => ?_⟩
  refine r_neT (st := [tagW, .int 0]) (same_new n2 _ _ hT) upd_same (fun v hv => ?_) ⟨false, rfl, iteF ?_⟩
  · rcases List.mem_cons.mp hv with rfl | hv
    · exact fv_tagW
    · rw [List.mem_singleton.mp hv]
      exact .int _
  · exact nx _ (((al7.same sH).same s8).same (same_new n2))
/-- letters, rules, a word; a town and its rows -/
theorem st_b (L : Lc P w K mg base) {rest : List Stmt} {tR : TS} (PR : PSs (XL P w K mg base f c A outer s H E) rest tR) (hr : Room 40 (A.deeper (envOfC "law" (defScope sLaw) s.heap.objs.size f (.ref c)))) :
    ∃ t, PSs (XL P w K mg base f c A outer s H E) (tl 0 :: tl 1 :: rest) t ∧ ∀ (D : Ends) (H0 : Hp) (b m : Addr) (y0 y2 y3 y4 y5 y6 y7 y8 y9 y10 y11 y12 y13 y14 y15 : Option V), Zz L.T b m H0 →
      (∀ (H' : Hp) (ls q x qx : Addr) (Lx l : List Nat) (rs : Rls) (R : List (List Int)), Al L.C L.CT L.T b m H' x qx q ls Lx rs R → l.length ≤ 4 → isW l Lx = true → tR D (Sk b ls q x Lx l y0 y2 y6 y7 y8 y9 y10 y11 y12 y15) H') →
      t D [y0, some (.ref b), y2, y3, y4, y5, y6, y7, y8, y9, y10, y11, y12, y13, y14, y15] H0 := by
  have r6 : Room 6 (A.deeper (envOfC "law" (defScope sLaw) s.heap.objs.size f (.ref c))) := hr.mono (by decide)
  have r4 : Room 4 (A.deeper (envOfC "law" (defScope sLaw) s.heap.objs.size f (.ref c))) := hr.mono (by decide)
  have r11 : Room 11 (A.deeper (envOfC "law" (defScope sLaw) s.heap.objs.size f (.ref c))) := hr.mono (by decide)
  refine ⟨_, pss_cons (ps_asg (pe_call L.cSm.ok r6 (by rfl) L.cSm.g L.cSm.kp L.cSm.b .nil pass0 (pa_cons (pv 1) pa_nil)) (pg_tup rfl (pgs_cons (pg_name (i := 3) scLaw.nd rfl (.inl rfl)) (pgs_cons (pg_name (i := 4) scLaw.nd rfl (.inl rfl)) (pgs_cons (pg_name (i := 14) scLaw.nd rfl (.inr rfl)) pgs_nil)))))
    (pss_cons (ps_asg (pe_tup (pa_cons (pe_call L.cTw.ok r11 (by rfl) L.cTw.g L.cTw.kp L.cTw.b .nil (passN rfl rfl) (pa_cons (pv 3) (pa_cons (pv 4) pa_nil))) (pa_cons (pe_call L.cGr.ok r4 (by rfl) L.cGr.g L.cGr.kp L.cGr.b .nil pass0 (pa_cons (pv 4) (pa_cons (pv 3) pa_nil))) pa_nil))) (pg_tup rfl (pgs_cons (pg_name (i := 13) scLaw.nd rfl (.inr rfl)) (pgs_cons (pg_name (i := 5) scLaw.nd rfl (.inl rfl)) pgs_nil)))) PR), ?_⟩
  intro D H0 b m y0 y2 y3 y4 y5 y6 y7 y8 y9 y10 y11 y12 y13 y14 y15 z nx
  refine ⟨_, rfl, b, m, rfl, z.bx, fun H1 pt ls Lx l rs g1 hpt lg sm l4 lw => ?_⟩
  have z1 := z.go g1
  refine ⟨pt, _, rfl, SqT.of hpt, rfl, _, _, rfl, _, _, rfl, _, _, rfl, rfl, ?_⟩
  refine ⟨_, rfl, _, rfl, ls, Lx, rs, rfl, sm.lst, sm.ru.tws, sm.ru.asw, z1.tb, KA.Lg.asc lg, lg.lt, lg_good lg, sm.ru.good sm.len, fun H2 x qx e2 t2 _ tn2 => ?_⟩
  have z2 := z1.ext e2 t2
  have sm2 := sm.ext e2
  have lbn : ls ≠ b := Bx.nel z2.bx sm2.lst
  have okA : ∀ r ∈ wds rs, okR Lx r = true := fun r hr => by
    obtain ⟨y, hy, rfl⟩ := List.mem_map.mp hr
    exact (sm.ru.ok y hy).1
  obtain ⟨dx, t, hx, qt, fs, rest, tj, hfd, hnrm, hlen⟩ := tn2.tab
  have nr : NRf Lx (wds rs) (KT.rw_ fs) := ⟨⟨rest, hnrm⟩, hfd, by rw [List.length_map]; exact hlen⟩
  refine ⟨_, rfl, _, rfl, ls, Lx, rs, rfl, sm2.lst, sm2.ru.tws, lg.lt, lg.2.1, sm.len, okA, fun H3 q s3 hq => ?_⟩
  obtain ⟨fs3, hR3, eR3⟩ := hq _ nr
  refine ⟨(by show 2 ≤ sizeLine; decide), fun pu npu => ?_⟩
  have s4 := same_new (o := .tup [V.ref x, V.ref q]) npu
  refine ⟨pu, [V.ref x, V.ref q], rfl, SqT.of upd_same, rfl, _, _, rfl, _, _, rfl, rfl, ?_⟩
  have z4 := (z2.same s3).same s4
  have hR4 : KT.RL (upd H3 pu (.tup [V.ref x, V.ref q])) q fs3 := ⟨s4 _ _ hR3.lst, fun y hy => (hR3.row y hy).same s4⟩
  refine nx _ ls q x qx Lx l rs (KT.rw_ fs) ⟨z4, ⟨(tn2.same s3).same s4, nr, lg_good lg, okA⟩, ⟨⟨fs3, hR4, eR3⟩, hfd, nr.len, lg.2.1⟩, (sm2.same s3).same s4, lg, Bx.nelR z4.bx hR4.lst, lbn⟩ l4 lw
end
end K31
set_option maxRecDepth 100000
set_option maxHeartbeats 4000000
/-! the law -/
namespace K31
open PySem PySem.Spec PyProof.Rows L2 KA
theorem cw1 : V.str (Str.ofString "aabaaB") = tx [97, 97, 98, 97, 97, 66] := by decide +kernel
theorem cw2 : V.str (Str.ofString "b") = tx [98] := by decide +kernel
theorem cr1 : tx [98, 97, 97, 66, 97, 97] = V.str (Str.ofString "baaBaa") := by decide +kernel
theorem cr2 : tx [98, 97, 97] = V.str (Str.ofString "baa") := by decide +kernel
theorem caa : V.str (Str.ofString "aa") = tx [97, 97] := by decide +kernel
theorem cno : V.str (Str.ofString "") = tx [] := by decide +kernel
theorem lg0 : Lg Lc0 := ⟨by decide, by decide, by decide⟩
theorem fv4 {k : V} {a b c : Int} (h : Fv k) : ∀ v ∈ [k, .int a, .int b, .int c], Fv v := fun v hv => by
  rcases List.mem_cons.mp hv with rfl | hv
  · exact h
  rcases List.mem_cons.mp hv with rfl | hv
  · exact .int _
  rcases List.mem_cons.mp hv with rfl | hv
  · exact .int _
  · rw [List.mem_singleton.mp hv]
    exact .int _
theorem fv4b {k : V} {a c : Int} {b : Bool} (h : Fv k) : ∀ v ∈ [k, .int a, .bl b, .int c], Fv v := fun v hv => by
  rcases List.mem_cons.mp hv with rfl | hv
  · exact h
  rcases List.mem_cons.mp hv with rfl | hv
  · exact .int _
  rcases List.mem_cons.mp hv with rfl | hv
  · exact .bl _
  · rw [List.mem_singleton.mp hv]
    exact .int _
theorem r_eqT {K : PySem.W.Frag} {H : Hp} {p q : Addr} {st : List V} {Q : VK} (hp : H p = some (.tup st)) (hq : H q = some (.tup st)) (fv : ∀ v ∈ st, Fv v) (h : Q (.bl true) H) : rEqD K (.ref p) (.ref q) H Q := by
  refine ⟨dT st, dT st, .tup (SqT.of hp) (dpall_fv fv), .tup (SqT.of hq) (dpall_fv fv), shaped_dT fv, shaped_dT fv, ?_⟩
  have e : PyData.eqv (dT st) (dT st) = true := by
    unfold dT
    simp only [PyData.eqv]
    exact eqv_self fv
  rw [e]
  exact h
theorem r_eqL {K : PySem.W.Frag} {H : Hp} {p q : Addr} {st : List V} {Q : VK} (hp : H p = some (.lst st)) (hq : H q = some (.lst st)) (fv : ∀ v ∈ st, Fv v) (h : Q (.bl true) H) : rEqD K (.ref p) (.ref q) H Q := by
  obtain ⟨h1, h2⟩ := lay_fv fv
  have sh : SeqAt.shaped (.list (st.map dV)) = true := by
    have h3 : PyData.depth (.list (st.map dV)) ≤ 64 := by
      simp only [PyData.depth]
      omega
    show (PyData.canLay0 (.list (st.map dV)) && decide (PyData.depth (.list (st.map dV)) ≤ 64)) = true
    rw [Bool.and_eq_true]
    exact ⟨by simp only [PyData.canLay0]; exact h1, decide_eq_true h3⟩
  refine ⟨.list (st.map dV), .list (st.map dV), .lst (SqL.of hp) (dpall_fv fv), .lst (SqL.of hq) (dpall_fv fv), sh, sh, ?_⟩
  have e : PyData.eqv (.list (st.map dV)) (.list (st.map dV)) = true := by
    simp only [PyData.eqv]
    exact eqv_self fv
  rw [e]
  exact h
/-- a list that holds no address is written again: towns stay -/
theorem nel_put {H : Hp} {pf p : Addr} {ys : List V} {y : V} {α : Type} {g : α → Addr} {zs : List α} (hpf : H pf = some (.lst ys)) (hy : y ∈ ys) (hn : ∀ a, y ≠ .ref a) (h : H p = some (.lst (zs.map fun z => V.ref (g z)))) : p ≠ pf := by
  intro e
  rw [e, hpf] at h
  injection h with h
  injection h with h
  rw [h] at hy
  obtain ⟨z, _, e2⟩ := List.mem_map.mp hy
  exact hn _ e2.symm
theorem tabs_put {T : List (Addr × Str)} {H : Hp} {pf : Addr} {ys : List V} {o : HO} (t : LamX.Tabs T H) (hpf : H pf = some (.lst ys)) : LamX.Tabs T (upd H pf o) := by
  intro p hp
  obtain ⟨ps, h1, h2, h3⟩ := t p hp
  refine ⟨ps, ?_, h2, fun pos cv hc => ?_⟩
  · rw [upd_ne (fun e => by rw [e, hpf] at h1; cases h1)]
    exact h1
  · obtain ⟨c, e1, e2⟩ := h3 pos cv hc
    refine ⟨c, e1, ?_⟩
    rw [upd_ne (fun e => by rw [e, hpf] at e2; cases e2)]
    exact e2
theorem Tn.put {C CT : Addr} {H : Hp} {x q pf : Addr} {L : List Nat} {rs : Rls} {ys : List V} {y : V} {o : HO} (h : Tn C CT H x L q rs) (hpf : H pf = some (.lst ys)) (hy : y ∈ ys) (hn : ∀ a, y ≠ .ref a) : Tn C CT (upd H pf o) x L q rs := by
  have ki : ∀ {a C dx : Addr} {fs : List (Str × V)}, H a = some (.ins C dx fs) → (upd H pf o) a = some (.ins C dx fs) := fun {a C dx fs} h => by
    rw [upd_ne (fun e => by rw [e, hpf] at h; cases h)]
    exact h
  have kt : ∀ {a : Addr} {xs : List V}, H a = some (.tup xs) → (upd H pf o) a = some (.tup xs) := fun {a xs} h => by
    rw [upd_ne (fun e => by rw [e, hpf] at h; cases h)]
    exact h
  obtain ⟨dx, t, h1⟩ := h.ins
  obtain ⟨dx2, t2, h2, qt, fs, rest, ⟨⟨dx3, h3⟩, h4⟩, h5⟩ := h.tab
  refine ⟨⟨dx, t, ki h1⟩, ?_, fun r hr => kt (h.row r hr), h.sz, h.lz, h.as, ⟨dx2, t2, ki h2, qt, fs, rest, ⟨⟨dx3, ki h3⟩, ⟨?_, fun z hz => kt (h4.row z hz)⟩⟩, h5⟩⟩
  · rw [upd_ne (nel_put (g := fun x : Addr × List (List Nat) => x.1) hpf hy hn h.lst)]
    exact h.lst
  · rw [upd_ne (nel_put (g := fun x : Addr × List Int => x.1) hpf hy hn h4.lst)]
    exact h4.lst
def spLaw (K : PySem.W.Frag) (T : List (Addr × Str)) : Sp := fun vs H Q _ => ∃ (a : Addr) (ns : List Int), vs = [.ref a] ∧ SqL K H a (ns.map V.int) ∧ ns.length ≤ 63 ∧ (∀ p ∈ T, H p.1 = some (.tbl #[])) ∧ ∀ H', Q (.bl true) H'
section
variable {P : Program} {w : World} {K : PySem.W.Frag} {mg : Str → Option Value} {base : Heap}
variable {f c : Addr} {A : Around} {outer : List Env} {s : Shared} {H : Hp} {E : XK}
theorem st_e (L : Lc P w K mg base) (W : Lt2 base mg L.T c qL) (hr : Room 40 (A.deeper (envOfC "law" (defScope sLaw) s.heap.objs.size f (.ref c)))) :
    ∃ t, PSs (XL P w K mg base f c A outer s H E) ((defBody sLaw).drop 2) t ∧ ∀ (D : Ends) (H0 : Hp) (y0 y1 y2 y3 y4 y5 y6 y7 y8 y9 y10 y11 y12 y13 y14 y15 : Option V), LamX.Tabs L.T H0 → (∀ H', D.rt (.bl true) H') →
      t D [y0, y1, y2, y3, y4, y5, y6, y7, y8, y9, y10, y11, y12, y13, y14, y15] H0 := by
  obtain ⟨oc2, od2, kV2, doc2, pm2, an2, cdW, ct2, osl2, e2, lkW, hcW⟩ := L.FW.ex
  have r2 : Room 2 (A.deeper (envOfC "law" (defScope sLaw) s.heap.objs.size f (.ref c))) := hr.mono (by decide)
  have r8 : Room 8 (A.deeper (envOfC "law" (defScope sLaw) s.heap.objs.size f (.ref c))) := hr.mono (by decide)
  have r9 : Room 9 (A.deeper (envOfC "law" (defScope sLaw) s.heap.objs.size f (.ref c))) := hr.mono (by decide)
  have r10 : Room 10 (A.deeper (envOfC "law" (defScope sLaw) s.heap.objs.size f (.ref c))) := hr.mono (by decide)
  have bW := L.bWh
  rw [e2] at bW lkW
  have hG : ∀ cdg : Value, Rs.GivesL (XL P w K mg base f c A outer s H E) NW "_law_why" (defScope sWhy) L.fWh cdg (defBody sWhy) "_law_ask" (TTw L.CW L.CS) := fun cdg =>
    why_gives (j := 0) (X := XL P w K mg base f c A outer s H E) L.TW L.XW L.TS L.XS L.GF L.kF L.bF L.gF L.m1 L.m2 L.m3 L.hx r2
  obtain ⟨t0, LB0, RL0⟩ := la3 (A := A) (outer := outer) (s := s) (H := H) (E := E) (f := f) (c := c) L
  refine ⟨_, pss_cons (ps_set (i := 15) scLaw.nd rfl (.inr rfl) (StX.pe_makeR L.M L.G r9 (by rfl) L.gC (passN rfl rfl) (pa_cons pe_str (pa_cons (pe_tup (pa_cons pe_str (pa_cons pe_str pa_nil))) pa_nil))))
    (pss_cons (ps_set (i := 11) scLaw.nd rfl (.inl rfl) (pe_lst (pa_cons (pe_call L.cAp.ok r8 (by rfl) L.cAp.g L.cAp.kp L.cAp.b .nil (passN rfl rfl) (pa_cons (pv 15) (pa_cons pe_str (pa_cons (pe_tup (pa_cons pe_str (pa_cons pe_int (pa_cons pe_int (pa_cons pe_int pa_nil))))) pa_nil)))) (pa_cons (pe_call L.cAp.ok r8 (by rfl) L.cAp.g L.cAp.kp L.cAp.b .nil (passN rfl rfl) (pa_cons (pv 15) (pa_cons pe_str (pa_cons (pe_tup (pa_cons pe_str (pa_cons pe_int (pa_cons pe_bl (pa_cons pe_int pa_nil))))) pa_nil)))) pa_nil))))
    (pss_cons (ps_expr (pe_bm PySem.F.plainAttrs_list PySem.F.slot_list_append PySem.F.type_list_append mt_append (pv 11) (pa_cons (pe_call L.cAp.ok r8 (by rfl) L.cAp.g L.cAp.kp L.cAp.b .nil (passN rfl rfl) (pa_cons (pv 15) (pa_cons pe_str (pa_cons (pe_tup (pa_cons pe_str (pa_cons pe_int (pa_cons pe_int (pa_cons pe_int pa_nil))))) pa_nil)))) pa_nil)))
    (pss_cons (ps_set (i := 10) scLaw.nd rfl (.inl rfl) (Rs.e_giveG (k := 8) (sl := id) Rs.up_self ⟨rfl, rfl, rfl, rfl, rfl, rfl, rfl⟩ (by rfl) L.gWh L.FW.kp lkW hcW bW scWhy rfl (.inl rfl) (hG _) r10 (Rs.e_lam0 (T := L.T) W.TB rfl W.hm W.hu (Rs.lamQ_by (N := NL) (sc := defScope sLaw) (by decide +kernel)) rfl rfl)))
    (pss_one (ps_ret (pe_and (pe_cmpR (op_eqD hr.units) (pv 11) (pe_lst (pa_cons pe_str (pa_cons pe_str (pa_cons pe_str pa_nil)))) (nomark _)) (pe_one (pe_cmpR (op_eqD hr.units) (pv 10) (pe_tup (pa_cons pe_str (pa_cons pe_int pa_nil))) (nomark _))))))))), ?_⟩
  intro D H0 y0 y1 y2 y3 y4 y5 y6 y7 y8 y9 y10 y11 y12 y13 y14 y15 tb rt
  refine ⟨(by show 2 ≤ sizeLine; decide), fun pr npr => ?_⟩
  have s1 := same_new (o := .tup [V.str (Str.ofString "aa"), V.str (Str.ofString "")]) npr
  have hpr : (upd H0 pr (.tup [V.str (Str.ofString "aa"), V.str (Str.ofString "")])) pr = some (.tup ([[97, 97], []].map tx)) := by
    rw [upd_same, caa, cno]
    rfl
  have tb1 := tb.ext s1
  generalize upd H0 pr (.tup [V.str (Str.ofString "aa"), V.str (Str.ofString "")]) = H1 at s1 hpr tb1
  have as0 : ∀ r ∈ wds [(pr, [[97, 97], []])], ∀ l ∈ r, Asc l := fun r hr l hl => by
    have hr : r ∈ ws0 := hr
    rw [List.mem_singleton.mp hr] at hl
    rcases List.mem_cons.mp hl with rfl | hl
    · exact fun y hy => by simp at hy; omega
    · rw [List.mem_singleton.mp hl]
      exact fun y hy => nomatch hy
  have gU0 : GoodU Lc0 (wds [(pr, [[97, 97], []])]) := good_of (by show ws0.length ≤ 6; decide) fun r hr => by
    have hr : r ∈ ws0 := hr
    rw [List.mem_singleton.mp hr]
    decide +kernel
  have tw0 : Tws H1 [(pr, [[97, 97], []])] := fun r hr => by
    rw [List.mem_singleton.mp hr]
    exact ⟨hpr, (show ([[97, 97], []] : List (List Nat)).length ≤ 1000 by decide), (show ∀ l ∈ ([[97, 97], []] : List (List Nat)), l.length ≤ 1000 by decide)⟩
  rw [ab]
  refine mk_town (K := K) (C := L.C) (CG := L.CG) (CU := L.CU) (CT := L.CT) (T := L.T) (L := Lc0) (rs := [(pr, [[97, 97], []])]) (E := E0) ⟨tw0, as0, by show 1 ≤ 1000; decide, tb1, by decide, KA.Lg.asc lg0, fun _ => lg0.lt, fun i hw => good_nw (lg_good lg0) hw, fun _ i hi hb _ => ?_, fun _ _ H2 x qx e2 t2 _ tn => ?_⟩
  · have z := gU0 i (by rw [List.length_map]; exact hi)
    rw [z] at hb
    cases hb
  have we : Wel L.C L.CT H2 x qx Lc0 [(pr, [[97, 97], []])] R0 := ⟨tn, nrf0, lg_good lg0, fun r hr => by
    have hr : r ∈ ws0 := hr
    rw [List.mem_singleton.mp hr]
    decide +kernel⟩
  have we0 : wds [(pr, [[97, 97], []])] = ws0 := rfl
  have w1 : isW [97, 97, 98, 97, 97, 66] Lc0 = true := by decide +kernel
  have w2 : isW [98] Lc0 = true := by decide +kernel
  have w3 : isW [97, 98] Lc0 = true := by decide +kernel
  refine ⟨_, rfl, (by show 4 ≤ sizeLine; decide), fun p1 np1 => ?_⟩
  have s2 := same_new (o := .tup [kSwap, .int 0, .int 2, .int 4]) np1
  refine ⟨x, qx, p1, Lc0, [(pr, [[97, 97], []])], R0, [97, 97, 98, 97, 97, 66], [kSwap, .int 0, .int 2, .int 4], congrArg (fun v => [V.ref x, v, V.ref p1]) cw1, we.same s2, by decide, upd_same, fv4 fk_swap, by show 4 ≤ 100; decide, (fun h => by rw [w1] at h; cases h), (fun _ h => by rw [we0, con1] at h; cases h), fun _ m1 h1 H3 s3 => ?_⟩
  rw [we0, con1] at h1
  injection h1 with h1
  subst h1
  have we3 := (we.same s2).same s3
  refine ⟨_, rfl, (by show 4 ≤ sizeLine; decide), fun p2 np2 => ?_⟩
  have s4 := same_new (o := .tup [kRule, .int 0, .bl false, .int 1]) np2
  refine ⟨x, qx, p2, Lc0, [(pr, [[97, 97], []])], R0, [98], [kRule, .int 0, .bl false, .int 1], congrArg (fun v => [V.ref x, v, V.ref p2]) cw2, we3.same s4, by decide, upd_same, fv4b fk_rule, by show 4 ≤ 100; decide, (fun h => by rw [w2] at h; cases h), (fun _ h => by rw [we0, con2] at h; cases h), fun _ m2 h2 H5 s5 => ?_⟩
  rw [we0, con2] at h2
  injection h2 with h2
  subst h2
  have we5 := (we3.same s4).same s5
  refine ⟨(by show 2 ≤ sizeLine; decide), fun pf npf => ?_⟩
  have s6 := same_new (o := .lst [tx [98, 97, 97, 66, 97, 97], tx [98, 97, 97]]) npf
  have hpf : (upd H5 pf (.lst [tx [98, 97, 97, 66, 97, 97], tx [98, 97, 97]])) pf = some (.lst [tx [98, 97, 97, 66, 97, 97], tx [98, 97, 97]]) := upd_same
  have we6 := we5.same s6
  have tb6 : LamX.Tabs L.T _ := ((((t2.ext s2).ext s3).ext s4).ext s5).ext s6
  generalize upd H5 pf (.lst [tx [98, 97, 97, 66, 97, 97], tx [98, 97, 97]]) = H6 at s6 hpf we6 tb6
  refine ⟨_, rfl, .inl ⟨rfl, _, SqL.of hpf⟩, _, rfl, (by show 4 ≤ sizeLine; decide), fun p3 np3 => ?_⟩
  have s7 := same_new (o := .tup [kSwap, .int 1, .int 0, .int 0]) np3
  refine ⟨x, qx, p3, Lc0, [(pr, [[97, 97], []])], R0, [97, 98], [kSwap, .int 1, .int 0, .int 0], rfl, we6.same s7, by decide, upd_same, fv4 fk_swap, by show 4 ≤ 100; decide, (fun h => by rw [w3] at h; cases h), (fun _ h => by rw [we0, con3] at h; cases h), fun _ m3 h3 H8 s8 => ?_⟩
  rw [we0, con3] at h3
  injection h3 with h3
  subst h3
  have we8 := (we6.same s7).same s8
  have tb8 : LamX.Tabs L.T _ := (tb6.ext s7).ext s8
  have hpf8 := s8 _ _ (s7 _ _ hpf)
  refine ⟨pf, _, _, rfl, rfl, hpf8, small1000 (by show 2 ≤ 1000; decide), ?_⟩
  have tn9 := we8.tn.put (o := .lst ([tx [98, 97, 97, 66, 97, 97], tx [98, 97, 97]] ++ [tx [97, 98]])) hpf8 List.mem_cons_self (fun a h => nomatch h)
  have tb9 : LamX.Tabs L.T (upd H8 pf (.lst ([tx [98, 97, 97, 66, 97, 97], tx [98, 97, 97]] ++ [tx [97, 98]]))) := tabs_put tb8 hpf8
  have we9 : Wel L.C L.CT _ x qx Lc0 [(pr, [[97, 97], []])] R0 := ⟨tn9, we8.nr, we8.gL, we8.ok⟩
  have hpf9 : (upd H8 pf (.lst ([tx [98, 97, 97, 66, 97, 97], tx [98, 97, 97]] ++ [tx [97, 98]]))) pf = some (.lst [tx [98, 97, 97, 66, 97, 97], tx [98, 97, 97], tx [97, 98]]) := upd_same
  generalize upd H8 pf (.lst ([tx [98, 97, 97, 66, 97, 97], tx [98, 97, 97]] ++ [tx [97, 98]])) = H9 at tb9 we9 hpf9
  refine ⟨tb9, fun f1 H10 ex tb10 nf la => ⟨f1, _, _, _, t0, rfl, LB0, la, ?_⟩⟩
  have hpf10 := ex _ _ hpf9 (fun ps z => nomatch z)
  have we10 : Wel L.C L.CT H10 x qx Lc0 [(pr, [[97, 97], []])] R0 := ⟨we9.tn.ext ex, we9.nr, we9.gL, we9.ok⟩
  refine RL0 _ x qx [(pr, [[97, 97], []])] _ _ _ _ _ _ _ _ _ _ _ _ _ _ _ H10 _ we10 rfl ?_
  intro H' d sH nd hd
  refine .inr ⟨rfl, d, _, rfl, hd, fun H11 T s11 nT hT => ?_⟩
  have hpf11 := s11 _ _ (sH _ _ hpf10)
  refine ⟨_, rfl, (by show 3 ≤ sizeLine; decide), fun p4 np4 => ?_⟩
  have s12 := same_new (o := .lst [V.str (Str.ofString "baaBaa"), V.str (Str.ofString "baa"), tx [97, 98]]) np4
  have fvl : ∀ v ∈ [tx [98, 97, 97, 66, 97, 97], tx [98, 97, 97], tx [97, 98]], Fv v := fun v hv => by
    rcases List.mem_cons.mp hv with rfl | hv
    · exact .str _ (by decide) (fun c hc => by simp at hc; omega)
    rcases List.mem_cons.mp hv with rfl | hv
    · exact .str _ (by decide) (fun c hc => by simp at hc; omega)
    · rw [List.mem_singleton.mp hv]
      exact .str _ (by decide) (fun c hc => by simp at hc; omega)
  refine r_eqL (st := [tx [98, 97, 97, 66, 97, 97], tx [98, 97, 97], tx [97, 98]]) (s12 _ _ hpf11) (by rw [upd_same, cr1, cr2]) fvl ⟨true, rfl, iteT ?_⟩
  refine ⟨_, rfl, (by show 2 ≤ sizeLine; decide), fun p5 np5 => ?_⟩
  refine r_eqT (st := [tagS, .int 0]) (same_new np5 _ _ (s12 _ _ hT)) upd_same (fun v hv => ?_) (rt _)
  rcases List.mem_cons.mp hv with rfl | hv
  · exact fv_tagS
  · rw [List.mem_singleton.mp hv]
    exact .int _
theorem lw_is : defBody sLaw = lw 0 :: lw 1 :: (defBody sLaw).drop 2 := rfl
theorem tl_is : forBody (lw 1) = [tl 0, tl 1, tl 2, tl 3] := rfl
end
end K31
set_option maxRecDepth 100000
set_option maxHeartbeats 4000000
namespace K31
open PySem PySem.Spec PyProof.Rows L2 KA
section
variable {P : Program} {w : World} {K : PySem.W.Frag} {mg : Str → Option Value} {base : Heap}
variable {f c : Addr}
theorem ok_law (L : Lc P w K mg base) (W : Lt2 base mg L.T c qL) {oc kV doc pm ct : Value} {od an : Option Addr} {osl : Array (Option Value)}
    (lk : K.lookup f = some ⟨oc, od, .func (PySem.W.fnOf "law" "law" (defArgs sLaw) (defBody sLaw) (defScope sLaw) .none kV doc pm an (.ref c) ct), osl⟩) (hcd : PySem.W.codeIn K (.ref c) "law" = true) :
    FnOk P w K mg base CX0 41 f (PySem.W.fnOf "law" "law" (defArgs sLaw) (defBody sLaw) (defScope sLaw) .none kV doc pm an (.ref c) ct) ["_law_script"] (spLaw K L.T) := by
  refine fn_of lk hcd scLaw (fun vs H Q E h => ?_) (fun A outer s H vs Q E hr h => ?_)
  · obtain ⟨a, ns, rfl, _⟩ := h
    rfl
  · obtain ⟨a, ns, rfl, hS, hl, hP, q⟩ := h
    have r1 : Room 1 (A.deeper (envOfC "law" (defScope sLaw) s.heap.objs.size f (.ref c))) := hr.mono (by decide)
    obtain ⟨tK, PK, RK⟩ := st_k (f := f) (c := c) (A := A) (outer := outer) (s := s) (H := H) (E := E) L W hr
    obtain ⟨tQ, PQ, RQ⟩ := st_q (f := f) (c := c) (A := A) (outer := outer) (s := s) (H := H) (E := E) L W hr
    obtain ⟨tE, PE_, RE⟩ := st_e (f := f) (c := c) (A := A) (outer := outer) (s := s) (H := H) (E := E) L W hr
    have PR : PSs (XL P w K mg base f c A outer s H E) [tl 2, tl 3] _ := pss_cons (ps_for PassesOwn.never rfl (pi_range1 (by rfl) L.B.range (pa_cons pe_int pa_nil)) (pg_name (i := 6) scLaw.nd rfl (Or.inl rfl)) PK) (pss_one PQ)
    obtain ⟨tB, PB, RB⟩ := st_b (f := f) (c := c) (A := A) (outer := outer) (s := s) (H := H) (E := E) L PR hr
    refine ⟨_, PSs.nox (pss_cons (ps_set (i := 1) scLaw.nd rfl (.inl rfl) (pe_call L.cBeg.ok r1 (by rfl) L.cBeg.g L.cBeg.kp L.cBeg.b .nil pass0 (pa_cons (pv 0) pa_nil)))
      (pss_cons (ps_for PassesOwn.never rfl (pi_range1 (by rfl) L.B.range (pa_cons pe_int pa_nil)) (pg_name (i := 2) scLaw.nd rfl (Or.inl rfl)) PB) PE_)), ?_⟩
    refine ⟨_, rfl, a, ns, rfl, hS, hl, fun H1 b m s1 nb bx => ?_⟩
    have tb1 : LamX.Tabs L.T H1 := fun p hp => LamX.TabS.nil (s1 _ _ (hP p hp))
    have z1 : Zz L.T b m H1 := ⟨bx, tb1⟩
    refine ⟨4, rfl, by decide, by decide, ?_⟩
    refine for_it (walk_range (lo := 0) (n := (4 : Int).toNat)) (fun i σ H2 => ∃ y2 y3 y4 y5 y6 y7 y8 y9 y10 y11 y12 y13 y14 y15 : Option V, σ = [some (.ref a), some (.ref b), y2, y3, y4, y5, y6, y7, y8, y9, y10, y11, y12, y13, y14, y15] ∧ Zz L.T b m H2) ⟨none, none, none, none, none, none, none, none, none, none, none, none, none, none, rfl, z1⟩ (fun _ _ _ _ _ => trivial) ?_ ?_
    · rintro i v σ H2 H2' hi ⟨y2, y3, y4, y5, y6, y7, y8, y9, y10, y11, y12, y13, y14, y15, rfl, zz⟩ ⟨rfl, rfl⟩
      refine RB _ H2' b m _ _ _ _ _ _ _ _ _ _ _ _ _ _ _ zz fun H3 ls q x qx Lx l rs R al l4 lw => ?_
      refine ⟨4, rfl, by decide, by decide, ?_⟩
      refine for_it (walk_range (lo := 0) (n := (4 : Int).toNat)) (fun j σ H4 => ∃ (l' : List Nat) (y6 y7 y8 y9 y10 y12 : Option V), σ = Sk b ls q x Lx l' (some (.ref a)) (some (.int (0 + (i : Int)))) y6 y7 y8 y9 y10 y11 y12 y15 ∧ Al L.C L.CT L.T b m H4 x qx q ls Lx rs R ∧ l'.length ≤ 13 ∧ isW l' Lx = true) ⟨l, _, _, _, _, _, _, rfl, al, by omega, lw⟩ (fun _ _ _ _ _ => trivial) ?_ ?_
      · rintro j v σ H4 H4' hj ⟨l', z6, z7, z8, z9, z10, z12, rfl, al4, hl4, hw4⟩ ⟨rfl, rfl⟩
        refine RK _ H4' b m ls q x qx Lx l' rs R _ _ _ _ _ _ _ _ _ _ al4 hl4 hw4 fun H5 l5 w7 w8 w9 w10 w12 al5 hl5 hw5 => ?_
        exact ⟨l5, _, _, _, _, _, _, rfl, al5, hl5, hw5⟩
      · rintro σ H4 ⟨l', z6, z7, z8, z9, z10, z12, rfl, al4, hl4, hw4⟩
        refine RQ _ H4 b m ls q x qx Lx l' rs R _ _ _ _ _ _ _ _ _ _ al4 fun H5 al5 => ?_
        exact ⟨_, _, _, _, _, _, _, _, _, _, _, _, _, _, rfl, al5.zz⟩
    · rintro σ H2 ⟨y2, y3, y4, y5, y6, y7, y8, y9, y10, y11, y12, y13, y14, y15, rfl, zz⟩
      exact RE _ H2 _ _ _ _ _ _ _ _ _ _ _ _ _ _ _ _ zz.tb q
end
end K31
set_option maxRecDepth 100000
set_option maxHeartbeats 0
namespace K31
open PySem PySem.Spec PyProof.Rows L2 KA
theorem oexB_ok {K : PySem.W.Frag} {C : Addr} (h : oexB K C = true) : OexC K C := by
  obtain ⟨h0, h⟩ := He.ba h
  obtain ⟨h1, h⟩ := He.ba h
  obtain ⟨h2, h⟩ := He.ba h
  obtain ⟨h3, h4⟩ := He.ba h
  refine ⟨?_, of_decide_eq_true h1, of_decide_eq_true h2, of_decide_eq_true h3, h4⟩
  cases q : K.lookup C with
  | none =>
    rw [q] at h0
    cases h0
  | some o =>
    obtain ⟨oc, od, dt, osl⟩ := o
    rw [q] at h0
    cases oc with
    | type t =>
      cases dt with
      | cls cd =>
        obtain ⟨nm, bs, mro, ns, qn, hd, sn, sb, ab, col, del⟩ := cd
        obtain ⟨e1, h5⟩ := He.ba h0
        obtain rfl : t = "type" := of_decide_eq_true e1
        dsimp only at h5
        split at h5
        · rename_i C' bm x0 x1 x2 x3 n x5 es
          obtain ⟨g1, g⟩ := He.ba h5
          obtain ⟨g2, g⟩ := He.ba g
          obtain ⟨g3, g⟩ := He.ba g
          obtain ⟨g4, g5⟩ := He.ba g
          obtain rfl : C' = C := of_decide_eq_true g1
          obtain rfl : n = "ValueError.__new__" := of_decide_eq_true g2
          have g3' : del = false := by simpa using g3
          subst g3'
          subst g4
          have es' : osl = #[x0, x1, x2, x3, some (.builtin "ValueError.__new__"), x5] := by
            apply Array.toList_inj.mp
            rw [es]
          subst es'
          exact ⟨_, _, _, _, _, _, _, _, _, _, _, _, _, _, _, rfl, g5⟩
        · cases h5
      | _ => cases h0
    | _ => cases dt <;> cases h0
theorem erB_ok {K : PySem.W.Frag} {mg : Str → Option Value} {C : Addr} {nm fl : Str} (h : erB K C fl = true) (g : mg nm = some (.ref C)) : ErC K mg nm fl C (He.ma K C "__init__") ∧ XfC K C := by
  obtain ⟨e3, e4⟩ := He.ba h
  obtain ⟨e5, e6⟩ := He.ba e4
  obtain ⟨e7, e8⟩ := He.ba e6
  obtain ⟨e9, e10⟩ := He.ba e8
  obtain ⟨e11, e12⟩ := He.ba e10
  exact ⟨⟨oexB_ok e3, g, of_decide_eq_true e7, of_decide_eq_true e9, of_decide_eq_true e11, of_decide_eq_true e12⟩, xfB_ok e5⟩
theorem cval_ok {K : PySem.W.Frag} {C : Addr} (h : cvalB K C = true) : ∃ u, ClX.CVal K C (.type "type") "MOST" (.int 6) u := by
  unfold cvalB at h
  split at h
  · rename_i u e
    exact ⟨u, e, He.relB_ok h⟩
  · cases h
theorem exK_at {K : PySem.W.Frag} (h : exK K = true) (i : Nat) {b : Bool} (e : (exL K)[i]? = some b) : b = true := List.all_eq_true.mp h b (List.mem_of_getElem? e)
theorem eqCls {K : PySem.W.Frag} (h : exK K = true) : Rs.EqCls K (tA K) (eqA K) :=
  ⟨He.eqO_ok (exK_at h 0 rfl), exK_at h 1 rfl, He.eqO_ok (exK_at h 2 rfl), of_decide_eq_true (exK_at h 3 rfl), of_decide_eq_true (exK_at h 4 rfl), of_decide_eq_true (exK_at h 5 rfl), of_decide_eq_true (exK_at h 6 rfl), of_decide_eq_true (exK_at h 7 rfl), of_decide_eq_true (exK_at h 8 rfl)⟩
theorem iCls {K : PySem.W.Frag} (h : exK K = true) : ICl K (tA K) :=
  ⟨He.eqO_ok (exK_at h 9 rfl), He.eqO_ok (exK_at h 10 rfl), of_decide_eq_true (exK_at h 11 rfl), of_decide_eq_true (exK_at h 3 rfl), of_decide_eq_true (exK_at h 12 rfl), of_decide_eq_true (exK_at h 13 rfl), of_decide_eq_true (exK_at h 14 rfl), of_decide_eq_true (exK_at h 15 rfl), of_decide_eq_true (exK_at h 16 rfl)⟩
end K31
set_option maxRecDepth 100000
set_option maxHeartbeats 4000000
namespace K31
open PySem PySem.Spec PyProof.Rows L2
theorem vals_nil {ds : List Value} (h : Vals [] ds) : ds = [] := by
  cases h
  rfl
theorem ini_b {K : PySem.W.Frag} {f : Addr} {fd : FuncData} {x : V} (F : FunD K "__init__" "Table.__init__" (defArgs KT.sInit) (defBody KT.sInit) (defScope KT.sInit) [x] [] f fd) : Binds K fd ["self", "width", "rows"] [] := by
  obtain ⟨ds, v, b⟩ := F.binds1 (ps := ["self", "width", "rows"]) 3 1 (List.cons_ne_nil _ _) rfl fun T kV doc pm an cdv ct us its h1 h2 => match us, its, h1, h2 with
    | [_, _, _], [_], _, _ => ⟨_, rfl, rfl⟩
  rw [← vals_nil v]
  exact b
theorem kb_two {K : PySem.W.Frag} {f : Addr} {fd : FuncData} {n q y0 y : Str} {st : Stmt} (F : Fun K n q st f fd) (h : ∀ (kV doc pm cdv ct : Value) (an : Option Addr) (x z : Value), bindArgs (PySem.W.fnOf n q (defArgs st) (defBody st) (defScope st) .none kV doc pm an cdv ct) ⟨[x], [(y, z)]⟩ = pure [(y0, x), (y, z)]) : KBinds K fd [y0, y] [y] Rs.two Rs.two := by
  obtain ⟨oc, od, kV, doc, pm, an, cdv, ct, osl, rfl, lk, hcd⟩ := F.ex
  refine ⟨fun s us ws _ hl => ?_, Rs.two_rel⟩
  match us, ws, hl with
  | [x], [z], _ => exact .of_eq (h kV doc pm cdv ct an x z)
  | [], _, hl => cases hl
  | [_], [], hl => cases hl
  | [_], _ :: _ :: _, hl => cases hl
  | _ :: _ :: _, _, hl => cases hl
theorem fun_ofD {K : PySem.W.Frag} {x q : Str} {st : Stmt} {f : Addr} {fd : FuncData} (F : FunD K x q (defArgs st) (defBody st) (defScope st) [] [] f fd) : Fun K x q st f fd := by
  obtain ⟨⟨oc, od, dV, kV, doc, pm, an, cdv, ct, osl, e, lk, hcd, hd, _⟩, kp⟩ := F
  obtain rfl : dV = .none := by
    rcases hd with ⟨_, e2⟩ | ⟨e2, _⟩
    · exact e2
    · exact absurd rfl e2
  exact ⟨⟨oc, od, kV, doc, pm, an, cdv, ct, osl, e, lk, hcd⟩, kp⟩
theorem facts {w : World} {K : PySem.W.Frag} {h : Heap} {mg : Str → Option Value} {fl : Addr} (X : K.In h) (G : h.Ns mainGlobals mg) (hfa : mg ("law" : Str) = some (.ref fl)) (c : He.SaysX fa fn [] tf exK w h K) (dR : He5.fnA K (dRead.at_ K) = dRead.val) :
    LamX.LawAtS PySem.Challenge.rw_roundswap_k31_steps_that_are_applied w K CX0 41 63 "_law_script" mg fl h := by
  have cD := c.t.d
  have g : ∀ x ∈ gl, mg x = some (.ref (He.ga K x)) := fun x hx => He.glo_ok X G (cD.facts (List.mem_append_left _ (List.mem_map.mpr ⟨x, hx, rfl⟩)))
  have fz : ∀ x ∈ fr, mg x = none := fun x hx => He.free_ok X G (cD.facts (List.mem_append_right _ (List.mem_append_left _ (List.mem_map.mpr ⟨x, hx, rfl⟩))))
  have fo_ : ∀ (i : Nat) {u : He.Fa}, fo[i]? = some u → u.ok K = true := fun i u hu => cD.facts (List.mem_append_right _ (List.mem_append_right _ (List.mem_of_getElem? hu)))
  obtain ⟨tk, mW⟩ := He.int_ok X G (x := "WIDEST") (i := 3) (fo_ 0 rfl)
  obtain ⟨tk6, m16⟩ := He.int_ok X G (x := "LONGEST_SIDE") (i := 16) (fo_ 6 rfl)
  have B : KA.Bn mg := ⟨fz _ (by decide), fz _ (by decide), fz _ (by decide), fz _ (by decide), fz _ (by decide), fz _ (by decide), fz _ (by decide), fz _ (by decide), fz _ (by decide), fz _ (by decide), fz _ (by decide)⟩
  have B4 : KT.Bn mg := ⟨fz _ (by decide), fz _ (by decide), fz _ (by decide), fz _ (by decide), fz _ (by decide), fz _ (by decide), fz _ (by decide)⟩
  have Bz : KT.Bz mg := ⟨B4, fz _ (by decide), fz _ (by decide), fz _ (by decide), fz _ (by decide), fz _ (by decide), fz _ (by decide), fz _ (by decide), fz _ (by decide)⟩
  have xk := c.more
  have TC4 : KT.TCls K (He.ga K "Table") := ⟨He.cls_ok (fo_ 1 rfl), He.noat_ok (fo_ 2 rfl), He.noat_ok (fo_ 3 rfl), He.noat_ok (fo_ 4 rfl)⟩
  have MT := He.mkr_ok (x := "Table") (fo_ 5 rfl)
  have TC : TwC K (tA K) := ⟨He.cls_ok (fo_ 7 rfl), He.noat_ok (fo_ 8 rfl), He.noat_ok (fo_ 9 rfl), He.noat_ok (fo_ 10 rfl)⟩
  have MR := He.meth_ok (x := "Town") (m := "rules") (fo_ 11 rfl)
  have MWr := He.meth_ok (x := "Town") (m := "with_rules") (fo_ 12 rfl)
  have M := He.mkr_ok (x := "Town") (fo_ 13 rfl)
  have MCR := He.meth_ok (x := "Town") (m := "comes_round") (fo_ 14 rfl)
  have MPl := He.meth_ok (x := "Table") (m := "place") (fo_ 15 rfl)
  have gT : mg "Table" = some (.ref (He.ga K "Table")) := g _ (by decide)
  have gC : mg "Town" = some (.ref (tA K)) := g _ (by decide)
  obtain ⟨E1, X1⟩ := erB_ok (mg := mg) (nm := "InvalidLetters") (exK_at xk 17 rfl) (g _ (by decide))
  obtain ⟨E2, X2⟩ := erB_ok (mg := mg) (nm := "InvalidRule") (exK_at xk 18 rfl) (g _ (by decide))
  obtain ⟨E3, X3⟩ := erB_ok (mg := mg) (nm := "InvalidWord") (exK_at xk 19 rfl) (g _ (by decide))
  obtain ⟨E4, X4⟩ := erB_ok (mg := mg) (nm := "InvalidStep") (exK_at xk 20 rfl) (g _ (by decide))
  have hx1 := of_decide_eq_true (exK_at xk 21 rfl)
  have hx2 := of_decide_eq_true (exK_at xk 22 rfl)
  have rd : ClX.CRead K (tA K) (.type "type") := ⟨exK_at xk 23 rfl, He.eqO_ok (exK_at xk 24 rfl)⟩
  obtain ⟨u6, m6⟩ := cval_ok (exK_at xk 25 rfl)
  obtain ⟨pLt, dLt, GLt, bLt⟩ := Rs.prop_ok (exK_at xk 26 rfl) TC.cl TC.al
  have lnf := He.eqO_ok (exK_at xk 27 rfl)
  have lni := exK_at xk 28 rfl
  have ctf := He.eqO_ok (exK_at xk 29 rfl)
  have cti := exK_at xk 30 rfl
  have dn01 := of_decide_eq_true (exK_at xk 31 rfl)
  obtain ⟨d0, F0'⟩ := cD.def_ 0 (d := dD "is_number" KT.sNum) rfl
  have F0 : Fun K "is_number" "is_number" KT.sNum (He.ga K "is_number") d0 := fun_ofD F0'
  have b0 : Binds K d0 ["value"] [] := F0.binds fun _ _ _ _ _ _ us hl => match us, hl with | [_], _ => rfl
  have g0 : mg "is_number" = some (.ref (He.ga K "is_number")) := g _ (by decide)
  obtain ⟨d1, F1'⟩ := cD.def_ 1 (d := dD "is_number_from" KT.sNumF) rfl
  have F1 : Fun K "is_number_from" "is_number_from" KT.sNumF (He.ga K "is_number_from") d1 := fun_ofD F1'
  have b1 : Binds K d1 ["value", "low", "high"] [] := F1.binds fun _ _ _ _ _ _ us hl => match us, hl with | [_, _, _], _ => rfl
  have g1 : mg "is_number_from" = some (.ref (He.ga K "is_number_from")) := g _ (by decide)
  obtain ⟨d2, F2'⟩ := cD.def_ 2 (d := dD "is_number_tuple" KT.sNumT) rfl
  have F2 : Fun K "is_number_tuple" "is_number_tuple" KT.sNumT (He.ga K "is_number_tuple") d2 := fun_ofD F2'
  have b2 : Binds K d2 ["value", "width"] [] := F2.binds fun _ _ _ _ _ _ us hl => match us, hl with | [_, _], _ => rfl
  have g2 : mg "is_number_tuple" = some (.ref (He.ga K "is_number_tuple")) := g _ (by decide)
  obtain ⟨d3, F3'⟩ := cD.def_ 3 (d := dD "normal_rows" KT.sNormal) rfl
  have F3 : Fun K "normal_rows" "normal_rows" KT.sNormal (He.ga K "normal_rows") d3 := fun_ofD F3'
  have b3 : Binds K d3 ["rows", "width"] [] := F3.binds fun _ _ _ _ _ _ us hl => match us, hl with | [_, _], _ => rfl
  have g3 : mg "normal_rows" = some (.ref (He.ga K "normal_rows")) := g _ (by decide)
  obtain ⟨d4, F4'⟩ := cD.def_ 4 (d := dD "swept" KT.sSwept) rfl
  have F4 : Fun K "swept" "swept" KT.sSwept (He.ga K "swept") d4 := fun_ofD F4'
  have b4 : Binds K d4 ["rows", "at"] [] := F4.binds fun _ _ _ _ _ _ us hl => match us, hl with | [_, _], _ => rfl
  have g4 : mg "swept" = some (.ref (He.ga K "swept")) := g _ (by decide)
  obtain ⟨d5, F5'⟩ := cD.def_ 5 (d := dD "with_positive" KT.sPositive) rfl
  have F5 : Fun K "with_positive" "with_positive" KT.sPositive (He.ga K "with_positive") d5 := fun_ofD F5'
  have b5 : Binds K d5 ["row", "at"] [] := F5.binds fun _ _ _ _ _ _ us hl => match us, hl with | [_, _], _ => rfl
  have g5 : mg "with_positive" = some (.ref (He.ga K "with_positive")) := g _ (by decide)
  obtain ⟨d6, F6'⟩ := cD.def_ 6 (d := dD "less" KT.sLess) rfl
  have F6 : Fun K "less" "less" KT.sLess (He.ga K "less") d6 := fun_ofD F6'
  have b6 : Binds K d6 ["row", "other", "times"] [] := F6.binds fun _ _ _ _ _ _ us hl => match us, hl with | [_, _, _], _ => rfl
  have g6 : mg "less" = some (.ref (He.ga K "less")) := g _ (by decide)
  obtain ⟨d7, F7'⟩ := cD.def_ 7 (d := dD "lead_at" KT.sLead) rfl
  have F7 : Fun K "lead_at" "lead_at" KT.sLead (He.ga K "lead_at") d7 := fun_ofD F7'
  have b7 : Binds K d7 ["row"] [] := F7.binds fun _ _ _ _ _ _ us hl => match us, hl with | [_], _ => rfl
  have g7 : mg "lead_at" = some (.ref (He.ga K "lead_at")) := g _ (by decide)
  obtain ⟨d8, F8'⟩ := cD.def_ 8 (d := dD "diagonal_of" KT.sDiag) rfl
  have F8 : Fun K "diagonal_of" "diagonal_of" KT.sDiag (He.ga K "diagonal_of") d8 := fun_ofD F8'
  have b8 : Binds K d8 ["rows"] [] := F8.binds fun _ _ _ _ _ _ us hl => match us, hl with | [_], _ => rfl
  have g8 : mg "diagonal_of" = some (.ref (He.ga K "diagonal_of")) := g _ (by decide)
  obtain ⟨d9, F9'⟩ := cD.def_ 9 (d := dD "index_of" KT.sIndex) rfl
  have F9 : Fun K "index_of" "index_of" KT.sIndex (He.ga K "index_of") d9 := fun_ofD F9'
  have b9 : Binds K d9 ["rows", "width"] [] := F9.binds fun _ _ _ _ _ _ us hl => match us, hl with | [_, _], _ => rfl
  have g9 : mg "index_of" = some (.ref (He.ga K "index_of")) := g _ (by decide)
  obtain ⟨d10, F10'⟩ := cD.def_ 10 (d := dD "signs_of" KA.sSignsOf) rfl
  have F10 : Fun K "signs_of" "signs_of" KA.sSignsOf (He.ga K "signs_of") d10 := fun_ofD F10'
  have b10 : Binds K d10 ["letters"] [] := F10.binds fun _ _ _ _ _ _ us hl => match us, hl with | [_], _ => rfl
  have g10 : mg "signs_of" = some (.ref (He.ga K "signs_of")) := g _ (by decide)
  obtain ⟨d11, F11'⟩ := cD.def_ 11 (d := dD "is_word" KA.sIsWord) rfl
  have F11 : Fun K "is_word" "is_word" KA.sIsWord (He.ga K "is_word") d11 := fun_ofD F11'
  have b11 : Binds K d11 ["word", "letters"] [] := F11.binds fun _ _ _ _ _ _ us hl => match us, hl with | [_, _], _ => rfl
  have g11 : mg "is_word" = some (.ref (He.ga K "is_word")) := g _ (by decide)
  obtain ⟨d12, F12'⟩ := cD.def_ 12 (d := dD "counts_of" KA.sCountsOf) rfl
  have F12 : Fun K "counts_of" "counts_of" KA.sCountsOf (He.ga K "counts_of") d12 := fun_ofD F12'
  have b12 : Binds K d12 ["word", "letters"] [] := F12.binds fun _ _ _ _ _ _ us hl => match us, hl with | [_, _], _ => rfl
  have g12 : mg "counts_of" = some (.ref (He.ga K "counts_of")) := g _ (by decide)
  obtain ⟨d13, F13'⟩ := cD.def_ 13 (d := dD "is_side" sSide) rfl
  have F13 : Fun K "is_side" "is_side" sSide (He.ga K "is_side") d13 := fun_ofD F13'
  have b13 : Binds K d13 ["word", "letters"] [] := F13.binds fun _ _ _ _ _ _ us hl => match us, hl with | [_, _], _ => rfl
  have g13 : mg "is_side" = some (.ref (He.ga K "is_side")) := g _ (by decide)
  obtain ⟨d14, F14'⟩ := cD.def_ 14 (d := dD "is_rule" sRule) rfl
  have F14 : Fun K "is_rule" "is_rule" sRule (He.ga K "is_rule") d14 := fun_ofD F14'
  have b14 : Binds K d14 ["rule", "letters"] [] := F14.binds fun _ _ _ _ _ _ us hl => match us, hl with | [_, _], _ => rfl
  have g14 : mg "is_rule" = some (.ref (He.ga K "is_rule")) := g _ (by decide)
  obtain ⟨d15, F15'⟩ := cD.def_ 15 (d := dD "difference" sDiff) rfl
  have F15 : Fun K "difference" "difference" sDiff (He.ga K "difference") d15 := fun_ofD F15'
  have b15 : Binds K d15 ["rule", "letters"] [] := F15.binds fun _ _ _ _ _ _ us hl => match us, hl with | [_, _], _ => rfl
  have g15 : mg "difference" = some (.ref (He.ga K "difference")) := g _ (by decide)
  obtain ⟨d16, F16'⟩ := cD.def_ 16 (d := dD "check_letters" sChkL) rfl
  have F16 : Fun K "check_letters" "check_letters" sChkL (He.ga K "check_letters") d16 := fun_ofD F16'
  have b16 : Binds K d16 ["letters"] [] := F16.binds fun _ _ _ _ _ _ us hl => match us, hl with | [_], _ => rfl
  have g16 : mg "check_letters" = some (.ref (He.ga K "check_letters")) := g _ (by decide)
  obtain ⟨d17, F17'⟩ := cD.def_ 17 (d := dD "_law_begin" KA.sBegin) rfl
  have F17 : Fun K "_law_begin" "_law_begin" KA.sBegin (He.ga K "_law_begin") d17 := fun_ofD F17'
  have b17 : Binds K d17 ["_law_script"] [] := F17.binds fun _ _ _ _ _ _ us hl => match us, hl with | [_], _ => rfl
  have g17 : mg "_law_begin" = some (.ref (He.ga K "_law_begin")) := g _ (by decide)
  obtain ⟨d18, F18'⟩ := cD.def_ 18 (d := dD "_law_draw" KA.sDraw) rfl
  have F18 : Fun K "_law_draw" "_law_draw" KA.sDraw (He.ga K "_law_draw") d18 := fun_ofD F18'
  have b18 : Binds K d18 ["_law_box", "_law_many"] [] := F18.binds fun _ _ _ _ _ _ us hl => match us, hl with | [_, _], _ => rfl
  have g18 : mg "_law_draw" = some (.ref (He.ga K "_law_draw")) := g _ (by decide)
  obtain ⟨d19, F19'⟩ := cD.def_ 19 (d := dD "_law_any" KA.sAny) rfl
  have F19 : Fun K "_law_any" "_law_any" KA.sAny (He.ga K "_law_any") d19 := fun_ofD F19'
  have b19 : Binds K d19 ["_law_box", "_law_some"] [] := F19.binds fun _ _ _ _ _ _ us hl => match us, hl with | [_, _], _ => rfl
  have g19 : mg "_law_any" = some (.ref (He.ga K "_law_any")) := g _ (by decide)
  obtain ⟨d20, F20'⟩ := cD.def_ 20 (d := dD "_law_same" KA.sSame) rfl
  have F20 : Fun K "_law_same" "_law_same" KA.sSame (He.ga K "_law_same") d20 := fun_ofD F20'
  have b20 : Binds K d20 ["_law_found", "_law_due"] [] := F20.binds fun _ _ _ _ _ _ us hl => match us, hl with | [_, _], _ => rfl
  have g20 : mg "_law_same" = some (.ref (He.ga K "_law_same")) := g _ (by decide)
  obtain ⟨d21, F21'⟩ := cD.def_ 21 (d := dD "_law_field" KA.sField) rfl
  have F21 : Fun K "_law_field" "_law_field" KA.sField (He.ga K "_law_field") d21 := fun_ofD F21'
  have b21 : Binds K d21 ["_law_e"] [] := F21.binds fun _ _ _ _ _ _ us hl => match us, hl with | [_], _ => rfl
  have g21 : mg "_law_field" = some (.ref (He.ga K "_law_field")) := g _ (by decide)
  obtain ⟨d22, F22'⟩ := cD.def_ 22 (d := dD "_law_why" KA.sWhy) rfl
  have F22 : Fun K "_law_why" "_law_why" KA.sWhy (He.ga K "_law_why") d22 := fun_ofD F22'
  have b22 : Binds K d22 ["_law_ask"] [] := F22.binds fun _ _ _ _ _ _ us hl => match us, hl with | [_], _ => rfl
  have g22 : mg "_law_why" = some (.ref (He.ga K "_law_why")) := g _ (by decide)
  obtain ⟨d23, F23'⟩ := cD.def_ 23 (d := dD "_law_letters" KA.sLetters) rfl
  have F23 : Fun K "_law_letters" "_law_letters" KA.sLetters (He.ga K "_law_letters") d23 := fun_ofD F23'
  have b23 : Binds K d23 ["_law_box", "_law_many"] [] := F23.binds fun _ _ _ _ _ _ us hl => match us, hl with | [_, _], _ => rfl
  have g23 : mg "_law_letters" = some (.ref (He.ga K "_law_letters")) := g _ (by decide)
  obtain ⟨d24, F24'⟩ := cD.def_ 24 (d := dD "_law_signs" KA.sSigns) rfl
  have F24 : Fun K "_law_signs" "_law_signs" KA.sSigns (He.ga K "_law_signs") d24 := fun_ofD F24'
  have b24 : Binds K d24 ["_law_letters_here"] [] := F24.binds fun _ _ _ _ _ _ us hl => match us, hl with | [_], _ => rfl
  have g24 : mg "_law_signs" = some (.ref (He.ga K "_law_signs")) := g _ (by decide)
  obtain ⟨d25, F25'⟩ := cD.def_ 25 (d := dD "_law_some_word" KA.sSome) rfl
  have F25 : Fun K "_law_some_word" "_law_some_word" KA.sSome (He.ga K "_law_some_word") d25 := fun_ofD F25'
  have b25 : Binds K d25 ["_law_box", "_law_letters_here", "_law_most"] [] := F25.binds fun _ _ _ _ _ _ us hl => match us, hl with | [_, _, _], _ => rfl
  have g25 : mg "_law_some_word" = some (.ref (He.ga K "_law_some_word")) := g _ (by decide)
  obtain ⟨d26, F26'⟩ := cD.def_ 26 (d := dD "_law_side" sLSide) rfl
  have F26 : Fun K "_law_side" "_law_side" sLSide (He.ga K "_law_side") d26 := fun_ofD F26'
  have b26 : Binds K d26 ["_law_box", "_law_letters_here", "_law_most"] [] := F26.binds fun _ _ _ _ _ _ us hl => match us, hl with | [_, _, _], _ => rfl
  have g26 : mg "_law_side" = some (.ref (He.ga K "_law_side")) := g _ (by decide)
  obtain ⟨d27, F27'⟩ := cD.def_ 27 (d := dD "_law_some_rules" sSr) rfl
  have F27 : Fun K "_law_some_rules" "_law_some_rules" sSr (He.ga K "_law_some_rules") d27 := fun_ofD F27'
  have b27 : Binds K d27 ["_law_box", "_law_letters_here", "_law_many", "_law_most"] [] := F27.binds fun _ _ _ _ _ _ us hl => match us, hl with | [_, _, _, _], _ => rfl
  have g27 : mg "_law_some_rules" = some (.ref (He.ga K "_law_some_rules")) := g _ (by decide)
  obtain ⟨d28, F28'⟩ := cD.def_ 28 (d := dD "_law_town" sTown) rfl
  have F28 : Fun K "_law_town" "_law_town" sTown (He.ga K "_law_town") d28 := fun_ofD F28'
  have b28 : Binds K d28 ["_law_letters_here", "_law_rules_now"] [] := F28.binds fun _ _ _ _ _ _ us hl => match us, hl with | [_, _], _ => rfl
  have g28 : mg "_law_town" = some (.ref (He.ga K "_law_town")) := g _ (by decide)
  obtain ⟨d29, F29'⟩ := cD.def_ 29 (d := dD "opposite" KA.sOpp) rfl
  have F29 : Fun K "opposite" "opposite" KA.sOpp (He.ga K "opposite") d29 := fun_ofD F29'
  have b29 : Binds K d29 ["word"] [] := F29.binds fun _ _ _ _ _ _ us hl => match us, hl with | [_], _ => rfl
  have g29 : mg "opposite" = some (.ref (He.ga K "opposite")) := g _ (by decide)
  obtain ⟨d30, F30'⟩ := cD.def_ 30 (d := dD "_law_back" KA.sBack) rfl
  have F30 : Fun K "_law_back" "_law_back" KA.sBack (He.ga K "_law_back") d30 := fun_ofD F30'
  have b30 : Binds K d30 ["_law_sign"] [] := F30.binds fun _ _ _ _ _ _ us hl => match us, hl with | [_], _ => rfl
  have g30 : mg "_law_back" = some (.ref (He.ga K "_law_back")) := g _ (by decide)
  obtain ⟨d31, F31'⟩ := cD.def_ 31 (d := dD "check_words" sCkW) rfl
  have F31 : Fun K "check_words" "check_words" sCkW (He.ga K "check_words") d31 := fun_ofD F31'
  have b31 : Binds K d31 ["words", "letters"] [] := F31.binds fun _ _ _ _ _ _ us hl => match us, hl with | [_, _], _ => rfl
  have g31 : mg "check_words" = some (.ref (He.ga K "check_words")) := g _ (by decide)
  obtain ⟨d32, F32'⟩ := cD.def_ 32 (d := dD "word_behind" sWB) rfl
  have F32 : Fun K "word_behind" "word_behind" sWB (He.ga K "word_behind") d32 := fun_ofD F32'
  have b32 : Binds K d32 ["town", "word", "step"] [] := F32.binds fun _ _ _ _ _ _ us hl => match us, hl with | [_, _, _], _ => rfl
  have g32 : mg "word_behind" = some (.ref (He.ga K "word_behind")) := g _ (by decide)
  obtain ⟨d33, F33'⟩ := cD.def_ 33 (d := dD "behind_put" sBP) rfl
  have F33 : Fun K "behind_put" "behind_put" sBP (He.ga K "behind_put") d33 := fun_ofD F33'
  have b33 : Binds K d33 ["town", "word", "rest"] [] := F33.binds fun _ _ _ _ _ _ us hl => match us, hl with | [_, _, _], _ => rfl
  have g33 : mg "behind_put" = some (.ref (He.ga K "behind_put")) := g _ (by decide)
  obtain ⟨d34, F34'⟩ := cD.def_ 34 (d := dD "is_sign" sSg) rfl
  have F34 : Fun K "is_sign" "is_sign" sSg (He.ga K "is_sign") d34 := fun_ofD F34'
  have b34 : Binds K d34 ["sign", "letters"] [] := F34.binds fun _ _ _ _ _ _ us hl => match us, hl with | [_, _], _ => rfl
  have g34 : mg "is_sign" = some (.ref (He.ga K "is_sign")) := g _ (by decide)
  obtain ⟨d35, F35'⟩ := cD.def_ 35 (d := dD "behind_drop" sBD) rfl
  have F35 : Fun K "behind_drop" "behind_drop" sBD (He.ga K "behind_drop") d35 := fun_ofD F35'
  have b35 : Binds K d35 ["word", "rest"] [] := F35.binds fun _ _ _ _ _ _ us hl => match us, hl with | [_, _], _ => rfl
  have g35 : mg "behind_drop" = some (.ref (He.ga K "behind_drop")) := g _ (by decide)
  obtain ⟨d36, F36'⟩ := cD.def_ 36 (d := dD "behind_rule" sBR) rfl
  have F36 : Fun K "behind_rule" "behind_rule" sBR (He.ga K "behind_rule") d36 := fun_ofD F36'
  have b36 : Binds K d36 ["town", "word", "rest"] [] := F36.binds fun _ _ _ _ _ _ us hl => match us, hl with | [_, _, _], _ => rfl
  have g36 : mg "behind_rule" = some (.ref (He.ga K "behind_rule")) := g _ (by decide)
  obtain ⟨d37, F37'⟩ := cD.def_ 37 (d := dD "behind_swap" sBS) rfl
  have F37 : Fun K "behind_swap" "behind_swap" sBS (He.ga K "behind_swap") d37 := fun_ofD F37'
  have b37 : Binds K d37 ["town", "word", "rest"] [] := F37.binds fun _ _ _ _ _ _ us hl => match us, hl with | [_, _, _], _ => rfl
  have g37 : mg "behind_swap" = some (.ref (He.ga K "behind_swap")) := g _ (by decide)
  obtain ⟨d38, F38'⟩ := cD.def_ 38 (d := dD "reduced" sRed) rfl
  have F38 : Fun K "reduced" "reduced" sRed (He.ga K "reduced") d38 := fun_ofD F38'
  have b38 : Binds K d38 ["counts", "rows"] [] := F38.binds fun _ _ _ _ _ _ us hl => match us, hl with | [_, _], _ => rfl
  have g38 : mg "reduced" = some (.ref (He.ga K "reduced")) := g _ (by decide)
  obtain ⟨d39, F39'⟩ := cD.def_ 39 (d := dD "applied" sApp) rfl
  have F39 : Fun K "applied" "applied" sApp (He.ga K "applied") d39 := fun_ofD F39'
  have b39 : Binds K d39 ["town", "word", "step"] [] := F39.binds fun _ _ _ _ _ _ us hl => match us, hl with | [_, _, _], _ => rfl
  have g39 : mg "applied" = some (.ref (He.ga K "applied")) := g _ (by decide)
  obtain ⟨d40, F40'⟩ := cD.def_ 40 (d := dD "_law_number_of" sLNum) rfl
  have F40 : Fun K "_law_number_of" "_law_number_of" sLNum (He.ga K "_law_number_of") d40 := fun_ofD F40'
  have b40 : Binds K d40 ["_law_one", "_law_letters_here"] [] := F40.binds fun _ _ _ _ _ _ us hl => match us, hl with | [_, _], _ => rfl
  have g40 : mg "_law_number_of" = some (.ref (He.ga K "_law_number_of")) := g _ (by decide)
  obtain ⟨d41, F41'⟩ := cD.def_ 41 (d := dD "_law_less" KT.sLessL) rfl
  have F41 : Fun K "_law_less" "_law_less" KT.sLessL (He.ga K "_law_less") d41 := fun_ofD F41'
  have b41 : Binds K d41 ["_law_one", "_law_other"] [] := F41.binds fun _ _ _ _ _ _ us hl => match us, hl with | [_, _], _ => rfl
  have g41 : mg "_law_less" = some (.ref (He.ga K "_law_less")) := g _ (by decide)
  obtain ⟨d42, F42'⟩ := cD.def_ 42 (d := dD "_law_by" KT.sBy) rfl
  have F42 : Fun K "_law_by" "_law_by" KT.sBy (He.ga K "_law_by") d42 := fun_ofD F42'
  have b42 : Binds K d42 ["_law_one", "_law_times"] [] := F42.binds fun _ _ _ _ _ _ us hl => match us, hl with | [_, _], _ => rfl
  have g42 : mg "_law_by" = some (.ref (He.ga K "_law_by")) := g _ (by decide)
  obtain ⟨d43, F43'⟩ := cD.def_ 43 (d := dD "_law_first_at" KT.sFirst) rfl
  have F43 : Fun K "_law_first_at" "_law_first_at" KT.sFirst (He.ga K "_law_first_at") d43 := fun_ofD F43'
  have b43 : Binds K d43 ["_law_row"] [] := F43.binds fun _ _ _ _ _ _ us hl => match us, hl with | [_], _ => rfl
  have g43 : mg "_law_first_at" = some (.ref (He.ga K "_law_first_at")) := g _ (by decide)
  obtain ⟨d44, F44'⟩ := cD.def_ 44 (d := dD "_law_normal" KT.sNormL) rfl
  have F44 : Fun K "_law_normal" "_law_normal" KT.sNormL (He.ga K "_law_normal") d44 := fun_ofD F44'
  have b44 : Binds K d44 ["_law_width", "_law_rows"] [] := F44.binds fun _ _ _ _ _ _ us hl => match us, hl with | [_, _], _ => rfl
  have g44 : mg "_law_normal" = some (.ref (He.ga K "_law_normal")) := g _ (by decide)
  obtain ⟨d45, F45'⟩ := cD.def_ 45 (d := dD "_law_named" sLNamed) rfl
  have F45 : Fun K "_law_named" "_law_named" sLNamed (He.ga K "_law_named") d45 := fun_ofD F45'
  have b45 : Binds K d45 ["_law_rows", "_law_counts_now"] [] := F45.binds fun _ _ _ _ _ _ us hl => match us, hl with | [_, _], _ => rfl
  have g45 : mg "_law_named" = some (.ref (He.ga K "_law_named")) := g _ (by decide)
  obtain ⟨d46, F46'⟩ := cD.def_ 46 (d := dD "_law_grid" sGrid) rfl
  have F46 : Fun K "_law_grid" "_law_grid" sGrid (He.ga K "_law_grid") d46 := fun_ofD F46'
  have b46 : Binds K d46 ["_law_rules_now", "_law_letters_here"] [] := F46.binds fun _ _ _ _ _ _ us hl => match us, hl with | [_, _], _ => rfl
  have g46 : mg "_law_grid" = some (.ref (He.ga K "_law_grid")) := g _ (by decide)
  obtain ⟨d47, F47'⟩ := cD.def_ 47 (d := dD "_law_behind" sBeh) rfl
  have F47 : Fun K "_law_behind" "_law_behind" sBeh (He.ga K "_law_behind") d47 := fun_ofD F47'
  have b47 : Binds K d47 ["_law_rows", "_law_letters_here", "_law_some", "_law_one", "_law_step_z"] [] := F47.binds fun _ _ _ _ _ _ us hl => match us, hl with | [_, _, _, _, _], _ => rfl
  have g47 : mg "_law_behind" = some (.ref (He.ga K "_law_behind")) := g _ (by decide)
  obtain ⟨d48, F48'⟩ := cD.def_ 48 (d := dD "_law_some_step" sSStep) rfl
  have F48 : Fun K "_law_some_step" "_law_some_step" sSStep (He.ga K "_law_some_step") d48 := fun_ofD F48'
  have b48 : Binds K d48 ["_law_box", "_law_rows", "_law_letters_here", "_law_some", "_law_one"] [] := F48.binds fun _ _ _ _ _ _ us hl => match us, hl with | [_, _, _, _, _], _ => rfl
  have g48 : mg "_law_some_step" = some (.ref (He.ga K "_law_some_step")) := g _ (by decide)
  obtain ⟨d49, F49'⟩ := cD.def_ 49 (d := dD "_law_small" sSmall) rfl
  have F49 : Fun K "_law_small" "_law_small" sSmall (He.ga K "_law_small") d49 := fun_ofD F49'
  have b49 : Binds K d49 ["_law_box"] [] := F49.binds fun _ _ _ _ _ _ us hl => match us, hl with | [_], _ => rfl
  have g49 : mg "_law_small" = some (.ref (He.ga K "_law_small")) := g _ (by decide)
  obtain ⟨d50, F50'⟩ := cD.def_ 50 (d := dD "_law_bent_step" sBent) rfl
  have F50 : Fun K "_law_bent_step" "_law_bent_step" sBent (He.ga K "_law_bent_step") d50 := fun_ofD F50'
  have b50 : Binds K d50 ["_law_box", "_law_step_z"] [] := F50.binds fun _ _ _ _ _ _ us hl => match us, hl with | [_, _], _ => rfl
  have g50 : mg "_law_bent_step" = some (.ref (He.ga K "_law_bent_step")) := g _ (by decide)
  obtain ⟨d51, F51'⟩ := cD.def_ 51 (d := dD "law" sLaw) rfl
  have F51 : Fun K "law" "law" sLaw (He.ga K "law") d51 := fun_ofD F51'
  have g51 : mg "law" = some (.ref (He.ga K "law")) := g _ (by decide)
  obtain rfl : fl = He.ga K "law" := by
    have e := hfa.symm.trans g51
    injection e with e
    injection e
  obtain ⟨dI, FI'⟩ := cD.def_ 52 (d := dIni) rfl
  have FI : FunD K "__init__" "Table.__init__" (defArgs KT.sInit) (defBody KT.sInit) (defScope KT.sInit) [.ref (He.dflAt ("Table", some "__init__") 0 K)] [] (He.ma K (He.ga K "Table") "__init__") dI := FI'
  have bI := ini_b FI
  obtain ⟨dR, FR'⟩ := cD.def_ 53 (d := dM "Town" "rules" "Town.rules" sTR) rfl
  have FR : Fun K "rules" "Town.rules" sTR (He.ma K (He.ga K "Town") "rules") dR := fun_ofD FR'
  have bR : Binds K dR ["self"] [] := FR.binds fun _ _ _ _ _ _ us hl => match us, hl with | [_], _ => rfl
  obtain ⟨dL, FL'⟩ := cD.def_ 54 (d := dM "Town" "__len__" "Town.__len__" sTL) rfl
  have FL : Fun K "__len__" "Town.__len__" sTL (He.ma K (He.ga K "Town") "__len__") dL := fun_ofD FL'
  have bL : Binds K dL ["self"] [] := FL.binds fun _ _ _ _ _ _ us hl => match us, hl with | [_], _ => rfl
  obtain ⟨dCR, FCR'⟩ := cD.def_ 55 (d := dM "Town" "comes_round" "Town.comes_round" sTCR) rfl
  have FCR : Fun K "comes_round" "Town.comes_round" sTCR (He.ma K (He.ga K "Town") "comes_round") dCR := fun_ofD FCR'
  have bCR : Binds K dCR ["self", "word"] [] := FCR.binds fun _ _ _ _ _ _ us hl => match us, hl with | [_, _], _ => rfl
  obtain ⟨dPl, FPl'⟩ := cD.def_ 56 (d := dM "Table" "place" "Table.place" sTbP) rfl
  have FPl : Fun K "place" "Table.place" sTbP (He.ma K (He.ga K "Table") "place") dPl := fun_ofD FPl'
  have bPl : Binds K dPl ["self", "counts"] [] := FPl.binds fun _ _ _ _ _ _ us hl => match us, hl with | [_, _], _ => rfl
  obtain ⟨dCn, FCn'⟩ := cD.def_ 57 (d := dM "Table" "__contains__" "Table.__contains__" sTbC) rfl
  have FCn : Fun K "__contains__" "Table.__contains__" sTbC (He.ma K (He.ga K "Table") "__contains__") dCn := fun_ofD FCn'
  have bCn : Binds K dCn ["self", "x"] [] := FCn.binds fun _ _ _ _ _ _ us hl => match us, hl with | [_, _], _ => rfl
  obtain ⟨dG, FG'⟩ := cD.def_ 58 (d := dM "InvalidLetters" "__init__" "InvalidLetters.__init__" sIniG) rfl
  have FG : Fun K "__init__" "InvalidLetters.__init__" sIniG (He.ma K (He.ga K "InvalidLetters") "__init__") dG := fun_ofD FG'
  have bG : Binds K dG ["self", "at"] [] := FG.binds fun _ _ _ _ _ _ us hl => match us, hl with | [_, _], _ => rfl
  obtain ⟨dU, FU'⟩ := cD.def_ 59 (d := dM "InvalidRule" "__init__" "InvalidRule.__init__" sIniU) rfl
  have FU : Fun K "__init__" "InvalidRule.__init__" sIniU (He.ma K (He.ga K "InvalidRule") "__init__") dU := fun_ofD FU'
  have bU : Binds K dU ["self", "at"] [] := FU.binds fun _ _ _ _ _ _ us hl => match us, hl with | [_, _], _ => rfl
  obtain ⟨dWd, FWd'⟩ := cD.def_ 60 (d := dM "InvalidWord" "__init__" "InvalidWord.__init__" sIniW) rfl
  have FWd : Fun K "__init__" "InvalidWord.__init__" sIniW (He.ma K (He.ga K "InvalidWord") "__init__") dWd := fun_ofD FWd'
  have bWd : Binds K dWd ["self", "at"] [] := FWd.binds fun _ _ _ _ _ _ us hl => match us, hl with | [_, _], _ => rfl
  obtain ⟨dSt, FSt'⟩ := cD.def_ 61 (d := dM "InvalidStep" "__init__" "InvalidStep.__init__" sIniS) rfl
  have FSt : Fun K "__init__" "InvalidStep.__init__" sIniS (He.ma K (He.ga K "InvalidStep") "__init__") dSt := fun_ofD FSt'
  have bSt : Binds K dSt ["self", "at"] [] := FSt.binds fun _ _ _ _ _ _ us hl => match us, hl with | [_, _], _ => rfl
  obtain ⟨dI2, FI2'⟩ := cD.def_ 62 (d := dM "Town" "__init__" "Town.__init__" sTI) rfl
  have FI2 : Fun K "__init__" "Town.__init__" sTI (He.ma K (He.ga K "Town") "__init__") dI2 := fun_ofD FI2'
  obtain ⟨dW, FW'⟩ := cD.def_ 63 (d := dM "Town" "with_rules" "Town.with_rules" sTwr) rfl
  have FW : Fun K "with_rules" "Town.with_rules" sTwr (He.ma K (He.ga K "Town") "with_rules") dW := fun_ofD FW'
  obtain ⟨oc4, od4, kV4, doc4, pm4, an4, cdv4, ct4, osl4, rfl, lk4, hcd4⟩ := F4.ex
  obtain ⟨cc4, rfl⟩ := He.codeIn_ref hcd4
  have ec4 : He.codeOf K ("swept", none) = cc4 := He.codeOf_eq (p := ("swept", none)) lk4 rfl
  obtain ⟨oc51, od51, kV51, doc51, pm51, an51, cdv51, ct51, osl51, rfl, lk51, hcd51⟩ := F51.ex
  obtain ⟨cc51, rfl⟩ := He.codeIn_ref hcd51
  have ec51 : He.codeOf K ("law", none) = cc51 := He.codeOf_eq (p := ("law", none)) lk51 rfl
  obtain ⟨ocI, odI, kVI, docI, pmI, anI, cdvI, ctI, oslI, eI, lkI, hcdI⟩ := FI2.ex
  obtain ⟨ocW, odW, kVW, docW, pmW, anW, cdvW, ctW, oslW, eW, lkW, hcdW⟩ := FW.ex
  rw [eI] at lkI
  rw [eW] at lkW
  have two : ∀ p ∈ [He.cT K ("swept", none), He.cT K ("law", none)], p = He.cT K ("swept", none) ∨ p = He.cT K ("law", none) := fun p hp => by simpa using hp
  refine ⟨PySem.W.fnOf "law" "law" (defArgs sLaw) (defBody sLaw) (defScope sLaw) .none kV51 doc51 pm51 an51 (.ref cc51) ct51, [He.cT K ("swept", none), He.cT K ("law", none)], spLaw K [((He.cT K ("swept", none)).2, KT.qS), ((He.cT K ("law", none)).2, qL)], ?_, ?_, ?_, ?_, ?_, ?_⟩
  · intro p hp
    rcases two p hp with rfl | rfl
    · exact c.empty _ (List.mem_cons_self)
    · exact c.empty _ (List.mem_cons_of_mem _ List.mem_cons_self)
  · intro p hp
    rcases two p hp with rfl | rfl
    · exact c.out _ (List.mem_cons_self)
    · exact c.out _ (List.mem_cons_of_mem _ List.mem_cons_self)
  · intro p hp
    rcases two p hp with rfl | rfl
    · exact PySem.W.codeHd_of_K X (c.hd _ (List.mem_cons_self))
    · exact PySem.W.codeHd_of_K X (c.hd _ (List.mem_cons_of_mem _ List.mem_cons_self))
  · exact fun s u => .of_eq rfl
  · intro H a ns hl _ hT hS
    refine ⟨a, ns, rfl, hS, hl, fun p hp => ?_, fun _ => rfl⟩
    have hp' : p = ((He.cT K ("swept", none)).2, KT.qS) ∨ p = ((He.cT K ("law", none)).2, qL) := by simpa using hp
    rcases hp' with rfl | rfl
    · exact hT _ (List.mem_cons_self)
    · exact hT _ (List.mem_cons_of_mem _ List.mem_cons_self)
  · intro base KB NB TBs
    have TB0 : LamX.TabB base mg cc4 (He.cT K ("swept", none)).2 := by
      have e : (He.cT K ("swept", none)).1 = cc4 := ec4
      rw [← e]
      exact TBs _ (List.mem_cons_self)
    have TB1 : LamX.TabB base mg cc51 (He.cT K ("law", none)).2 := by
      have e : (He.cT K ("law", none)).1 = cc51 := ec51
      rw [← e]
      exact TBs _ (List.mem_cons_of_mem _ List.mem_cons_self)
    have c6 : KT.Cb PySem.Challenge.rw_roundswap_k31_steps_that_are_applied.prog w K mg base CX0 1 "less" ["row", "other", "times"] (KT.spLess K) (He.ga K "less") d6 := ⟨KT.ok_less F6 B4, F6.kp, b6, g6⟩
    have c5 : KT.Cb PySem.Challenge.rw_roundswap_k31_steps_that_are_applied.prog w K mg base CX0 1 "with_positive" ["row", "at"] (KT.spPosT K) (He.ga K "with_positive") d5 := ⟨KT.ok_posT F5 B4, F5.kp, b5, g5⟩
    have c4 : KT.Cb PySem.Challenge.rw_roundswap_k31_steps_that_are_applied.prog w K mg base CX0 4 "swept" ["rows", "at"] (KT.spSwept K [((He.cT K ("swept", none)).2, KT.qS), ((He.cT K ("law", none)).2, qL)]) (He.ga K "swept") _ := ⟨KT.ok_swept lk4 hcd4 B4 TB0 (List.mem_cons_self) (fun p hp h1 => by rcases (show p = ((He.cT K ("swept", none)).2, KT.qS) ∨ p = ((He.cT K ("law", none)).2, qL) by simpa using hp) with rfl | rfl; exact rfl; exact absurd h1.symm dn01) c6 c5, F4.kp, b4, g4⟩
    have c3 : KT.Cb PySem.Challenge.rw_roundswap_k31_steps_that_are_applied.prog w K mg base CX0 5 "normal_rows" ["rows", "width"] (KT.spNormal K [((He.cT K ("swept", none)).2, KT.qS), ((He.cT K ("law", none)).2, qL)]) (He.ga K "normal_rows") d3 := ⟨KT.ok_normal F3 B4 c6 c4, F3.kp, b3, g3⟩
    have c7 : KT.Cb PySem.Challenge.rw_roundswap_k31_steps_that_are_applied.prog w K mg base CX0 1 "lead_at" ["row"] (KT.spLead K) (He.ga K "lead_at") d7 := ⟨KT.ok_lead F7, F7.kp, b7, g7⟩
    have c8 : KT.Cb PySem.Challenge.rw_roundswap_k31_steps_that_are_applied.prog w K mg base CX0 2 "diagonal_of" ["rows"] (KT.spDiag K) (He.ga K "diagonal_of") d8 := ⟨KT.ok_diag (k := 0) F8 B4 c7.ok c7.kp c7.b c7.g, F8.kp, b8, g8⟩
    have c9 : KT.Cb PySem.Challenge.rw_roundswap_k31_steps_that_are_applied.prog w K mg base CX0 3 "index_of" ["rows", "width"] (KT.spIndex K) (He.ga K "index_of") d9 := ⟨KT.ok_index (k := 0) F9 B4 c8.ok c8.kp c8.b c8.g, F9.kp, b9, g9⟩
    have c0 : KT.Cb PySem.Challenge.rw_roundswap_k31_steps_that_are_applied.prog w K mg base CX0 1 "is_number" ["value"] KT.spNum (He.ga K "is_number") d0 := ⟨KT.ok_num F0 Bz, F0.kp, b0, g0⟩
    have cNV : KT.Cb PySem.Challenge.rw_roundswap_k31_steps_that_are_applied.prog w K mg base CX0 1 "is_number" ["value"] spNumV (He.ga K "is_number") d0 := ⟨ok_numV F0 B, F0.kp, b0, g0⟩
    have c1 : KT.Cb PySem.Challenge.rw_roundswap_k31_steps_that_are_applied.prog w K mg base CX0 2 "is_number_from" ["value", "low", "high"] KT.spNumF (He.ga K "is_number_from") d1 := ⟨KT.ok_numF (k := 0) F1 c0, F1.kp, b1, g1⟩
    have cNF : KT.Cb PySem.Challenge.rw_roundswap_k31_steps_that_are_applied.prog w K mg base CX0 2 "is_number_from" ["value", "low", "high"] spNumFV (He.ga K "is_number_from") d1 := ⟨ok_numFV (k := 0) F1 cNV, F1.kp, b1, g1⟩
    have c2 : KT.Cb PySem.Challenge.rw_roundswap_k31_steps_that_are_applied.prog w K mg base CX0 2 "is_number_tuple" ["value", "width"] KT.spNumT (He.ga K "is_number_tuple") d2 := ⟨KT.ok_numT (k := 0) F2 Bz c0, F2.kp, b2, g2⟩
    have GI : FnOk PySem.Challenge.rw_roundswap_k31_steps_that_are_applied.prog w K mg base CX0 6 _ dI _ (KT.spInit K (He.ga K "Table") [((He.cT K ("swept", none)).2, KT.qS), ((He.cT K ("law", none)).2, qL)]) := KT.ok_init (params := defArgs KT.sInit) FI Bz TC4 mW c1 c2 c3 c9
    have c11 : KT.Cb PySem.Challenge.rw_roundswap_k31_steps_that_are_applied.prog w K mg base CX0 2 "is_word" ["word", "letters"] KA.spIsW (He.ga K "is_word") d11 := ⟨KA.ok_isw (k := 0) F11 B F10 b10 g10, F11.kp, b11, g11⟩
    have c12 : KT.Cb PySem.Challenge.rw_roundswap_k31_steps_that_are_applied.prog w K mg base CX0 1 "counts_of" ["word", "letters"] KA.spCof (He.ga K "counts_of") d12 := ⟨KA.ok_cof F12 B, F12.kp, b12, g12⟩
    have c13 : KT.Cb PySem.Challenge.rw_roundswap_k31_steps_that_are_applied.prog w K mg base CX0 3 "is_side" ["word", "letters"] spSide (He.ga K "is_side") d13 := ⟨ok_side (k := 0) F13 B m16 c11, F13.kp, b13, g13⟩
    have c14 : KT.Cb PySem.Challenge.rw_roundswap_k31_steps_that_are_applied.prog w K mg base CX0 4 "is_rule" ["rule", "letters"] spRule (He.ga K "is_rule") d14 := ⟨ok_rule (k := 0) F14 B c13, F14.kp, b14, g14⟩
    have c15 : KT.Cb PySem.Challenge.rw_roundswap_k31_steps_that_are_applied.prog w K mg base CX0 2 "difference" ["rule", "letters"] spDiff (He.ga K "difference") d15 := ⟨ok_diff (k := 0) F15 c12 c6, F15.kp, b15, g15⟩
    have R1 : Er PySem.Challenge.rw_roundswap_k31_steps_that_are_applied.prog w K mg base "InvalidLetters" tagG (gA K) (He.ma K (gA K) "__init__") dG := ⟨E1, ok_iniG FG E1, bG⟩
    have R2 : Er PySem.Challenge.rw_roundswap_k31_steps_that_are_applied.prog w K mg base "InvalidRule" tagU (uA K) (He.ma K (uA K) "__init__") dU := ⟨E2, ok_iniU FU E2, bU⟩
    have c16 : KT.Cb PySem.Challenge.rw_roundswap_k31_steps_that_are_applied.prog w K mg base (L2.CX _ w) 3 "check_letters" ["letters"] (spChkL (gA K)) (He.ga K "check_letters") d16 := ⟨ok_chkL (k := 0) F16 B mW R1, F16.kp, b16, g16⟩
    have Tt : Ti PySem.Challenge.rw_roundswap_k31_steps_that_are_applied.prog w K mg base (tA K) (gA K) (uA K) (He.ga K "Table") (He.ma K (gA K) "__init__") _ _ _ _ _ dG _ _ _ _ _ [((He.cT K ("swept", none)).2, KT.qS), ((He.cT K ("law", none)).2, qL)] _ _ := ⟨B, TC, gC, rd, m6, R2, c16, c14, MT, gT, GI, bI, c15⟩
    have GTn : FnR PySem.Challenge.rw_roundswap_k31_steps_that_are_applied.prog w K mg base (L2.CX _ w) 8 _ (spTown K (tA K) (gA K) (uA K) (bA K) [((He.cT K ("swept", none)).2, KT.qS), ((He.cT K ("law", none)).2, qL)]) := ok_town lkI hcdI Tt
    have GWr : FnR PySem.Challenge.rw_roundswap_k31_steps_that_are_applied.prog w K mg base (L2.CX _ w) 10 _ (spWr (tA K) (gA K) (uA K) (bA K) [((He.cT K ("swept", none)).2, KT.qS), ((He.cT K ("law", none)).2, qL)]) := ok_wr lkW hcdW TC M gC GTn
    have R3 : Er PySem.Challenge.rw_roundswap_k31_steps_that_are_applied.prog w K mg base "InvalidWord" tagW (pA K) (He.ma K (pA K) "__init__") dWd := ⟨E3, ok_iniW FWd E3, bWd⟩
    have R4 : Er PySem.Challenge.rw_roundswap_k31_steps_that_are_applied.prog w K mg base "InvalidStep" tagS (lA K) (He.ma K (lA K) "__init__") dSt := ⟨E4, ok_iniS FSt E4, bSt⟩
    have c31 : KT.Cb PySem.Challenge.rw_roundswap_k31_steps_that_are_applied.prog w K mg base (L2.CX _ w) 3 "check_words" ["words", "letters"] (spCkW (pA K)) (He.ga K "check_words") d31 := ⟨ok_ckw (k := 0) F31 B c11 R3, F31.kp, b31, g31⟩
    have c38 : KT.Cb PySem.Challenge.rw_roundswap_k31_steps_that_are_applied.prog w K mg base CX0 2 "reduced" ["counts", "rows"] spRed (He.ga K "reduced") d38 := ⟨ok_red (k := 0) F38 c7 c6, F38.kp, b38, g38⟩
    have GPl : FnOk PySem.Challenge.rw_roundswap_k31_steps_that_are_applied.prog w K mg base CX0 3 _ dPl ["self", "counts"] (spPlc (bA K)) := ok_plc (k := 0) FPl TC4 c2 c38
    have GCn : FnOk PySem.Challenge.rw_roundswap_k31_steps_that_are_applied.prog w K mg base CX0 4 _ dCn ["self", "x"] (spCon (bA K)) := ok_con (k := 0) FCn TC4 MPl GPl bPl
    have GCR : FnOk PySem.Challenge.rw_roundswap_k31_steps_that_are_applied.prog w K mg base (L2.CX _ w) 5 _ dCR ["self", "word"] (spCR (tA K) (bA K) (pA K)) := ok_cr FCR TC c31 c12 GCn ctf cti bCn
    have PL : PrL PySem.Challenge.rw_roundswap_k31_steps_that_are_applied.prog w K mg base (tA K) _ _ dLt := ⟨pLt, GLt _ _ _ _ _ 0, bLt⟩
    have LT : LnT PySem.Challenge.rw_roundswap_k31_steps_that_are_applied.prog w K mg base (tA K) (bA K) _ dL := ⟨ok_tl (k := 0) FL B TC, lnf, lni, bL⟩
    have GR : FnOk PySem.Challenge.rw_roundswap_k31_steps_that_are_applied.prog w K mg base CX0 1 _ dR ["self"] (spTR (tA K) (bA K)) := ok_tr (k := 0) FR B TC
    have c29 : KT.Cb PySem.Challenge.rw_roundswap_k31_steps_that_are_applied.prog w K mg base CX0 1 "opposite" ["word"] KA.spOpp (He.ga K "opposite") d29 := ⟨KA.ok_opp (k := 0) F29, F29.kp, b29, g29⟩
    have c34 : KT.Cb PySem.Challenge.rw_roundswap_k31_steps_that_are_applied.prog w K mg base CX0 3 "is_sign" ["sign", "letters"] spSg (He.ga K "is_sign") d34 := ⟨ok_sg (k := 0) F34 B c11, F34.kp, b34, g34⟩
    have c33 : KT.Cb PySem.Challenge.rw_roundswap_k31_steps_that_are_applied.prog w K mg base CX0 4 "behind_put" ["town", "word", "rest"] (spBP (tA K) (bA K)) (He.ga K "behind_put") d33 := ⟨ok_bp F33 B TC PL cNF c34 c29, F33.kp, b33, g33⟩
    have c35 : KT.Cb PySem.Challenge.rw_roundswap_k31_steps_that_are_applied.prog w K mg base CX0 3 "behind_drop" ["word", "rest"] spBD (He.ga K "behind_drop") d35 := ⟨ok_bd F35 B cNF c29, F35.kp, b35, g35⟩
    have c36 : KT.Cb PySem.Challenge.rw_roundswap_k31_steps_that_are_applied.prog w K mg base CX0 3 "behind_rule" ["town", "word", "rest"] (spBR (tA K) (bA K)) (He.ga K "behind_rule") d36 := ⟨ok_br F36 B TC LT MR GR bR cNF, F36.kp, b36, g36⟩
    have c37 : KT.Cb PySem.Challenge.rw_roundswap_k31_steps_that_are_applied.prog w K mg base (L2.CX _ w) 6 "behind_swap" ["town", "word", "rest"] (spBS (tA K) (bA K) (pA K)) (He.ga K "behind_swap") d37 := ⟨ok_bs F37 B TC cNV MCR GCR bCR, F37.kp, b37, g37⟩
    have c32 : KT.Cb PySem.Challenge.rw_roundswap_k31_steps_that_are_applied.prog w K mg base (L2.CX _ w) 7 "word_behind" ["town", "word", "step"] (spWd (tA K) (bA K)) (He.ga K "word_behind") d32 := ⟨ok_wbh F32 B c33 c35 c36 c37, F32.kp, b32, g32⟩
    have c39 : KT.Cb PySem.Challenge.rw_roundswap_k31_steps_that_are_applied.prog w K mg base (L2.CX _ w) 8 "applied" ["town", "word", "step"] (spAp (tA K) (bA K) (pA K) (lA K)) (He.ga K "applied") d39 := ⟨ok_ap F39 B TC PL c32 c31 R4, F39.kp, b39, g39⟩
    have c17 : KT.Cb PySem.Challenge.rw_roundswap_k31_steps_that_are_applied.prog w K mg base CX0 1 "_law_begin" ["_law_script"] (KA.spBegin K) (He.ga K "_law_begin") d17 := ⟨KA.ok_begin F17 B, F17.kp, b17, g17⟩
    have c18 : KT.Cb PySem.Challenge.rw_roundswap_k31_steps_that_are_applied.prog w K mg base CX0 1 "_law_draw" ["_law_box", "_law_many"] KA.spDraw (He.ga K "_law_draw") d18 := ⟨KA.ok_draw F18 B, F18.kp, b18, g18⟩
    have c19 : KT.Cb PySem.Challenge.rw_roundswap_k31_steps_that_are_applied.prog w K mg base CX0 2 "_law_any" ["_law_box", "_law_some"] KA.spAny (He.ga K "_law_any") d19 := ⟨KA.ok_any (k := 0) F19 B F18 b18 g18, F19.kp, b19, g19⟩
    have c23 : KT.Cb PySem.Challenge.rw_roundswap_k31_steps_that_are_applied.prog w K mg base CX0 3 "_law_letters" ["_law_box", "_law_many"] KA.spLet (He.ga K "_law_letters") d23 := ⟨KA.ok_let (k := 0) F23 B c19.ok c19.kp c19.b c19.g, F23.kp, b23, g23⟩
    have c24 : KT.Cb PySem.Challenge.rw_roundswap_k31_steps_that_are_applied.prog w K mg base CX0 1 "_law_signs" ["_law_letters_here"] KA.spSigns (He.ga K "_law_signs") d24 := ⟨KA.ok_signs F24, F24.kp, b24, g24⟩
    have c25 : KT.Cb PySem.Challenge.rw_roundswap_k31_steps_that_are_applied.prog w K mg base CX0 3 "_law_some_word" ["_law_box", "_law_letters_here", "_law_most"] KA.spSome (He.ga K "_law_some_word") d25 := ⟨KA.ok_some (k := 0) F25 B c19.ok c19.kp c19.b c19.g c18.ok c18.kp c18.b c18.g c24.ok c24.kp c24.b c24.g, F25.kp, b25, g25⟩
    have c26 : KT.Cb PySem.Challenge.rw_roundswap_k31_steps_that_are_applied.prog w K mg base CX0 4 "_law_side" ["_law_box", "_law_letters_here", "_law_most"] KA.spSome (He.ga K "_law_side") d26 := ⟨ok_lside (k := 0) F26 c25, F26.kp, b26, g26⟩
    have c27 : KT.Cb PySem.Challenge.rw_roundswap_k31_steps_that_are_applied.prog w K mg base CX0 5 "_law_some_rules" ["_law_box", "_law_letters_here", "_law_many", "_law_most"] spSr (He.ga K "_law_some_rules") d27 := ⟨ok_sr F27 B c18 c26, F27.kp, b27, g27⟩
    have c28 : KT.Cb PySem.Challenge.rw_roundswap_k31_steps_that_are_applied.prog w K mg base (L2.CX _ w) 11 "_law_town" ["_law_letters_here", "_law_rules_now"] (spTwn (tA K) (bA K) [((He.cT K ("swept", none)).2, KT.qS), ((He.cT K ("law", none)).2, qL)]) (He.ga K "_law_town") d28 := ⟨ok_twn F28 TC M gC GTn MWr GWr, F28.kp, b28, g28⟩
    have c20 : KT.Cb PySem.Challenge.rw_roundswap_k31_steps_that_are_applied.prog w K mg base CX0 4 "_law_same" ["_law_found", "_law_due"] (KA.spSame 3) (He.ga K "_law_same") d20 := ⟨KA.ok_same F20 B b20 g20 3, F20.kp, b20, g20⟩
    have c30 : KT.Cb PySem.Challenge.rw_roundswap_k31_steps_that_are_applied.prog w K mg base CX0 1 "_law_back" ["_law_sign"] KA.spBack (He.ga K "_law_back") d30 := ⟨KA.ok_back (k := 0) F30, F30.kp, b30, g30⟩
    have c40 : KT.Cb PySem.Challenge.rw_roundswap_k31_steps_that_are_applied.prog w K mg base CX0 1 "_law_number_of" ["_law_one", "_law_letters_here"] KA.spCof (He.ga K "_law_number_of") d40 := ⟨ok_lnum (k := 0) F40 B, F40.kp, b40, g40⟩
    have c41 : KT.Cb PySem.Challenge.rw_roundswap_k31_steps_that_are_applied.prog w K mg base CX0 1 "_law_less" ["_law_one", "_law_other"] KT.spLessL (He.ga K "_law_less") d41 := ⟨KT.ok_lessl (k := 0) F41 Bz, F41.kp, b41, g41⟩
    have c42 : KT.Cb PySem.Challenge.rw_roundswap_k31_steps_that_are_applied.prog w K mg base CX0 1 "_law_by" ["_law_one", "_law_times"] KT.spByL (He.ga K "_law_by") d42 := ⟨KT.ok_byl (k := 0) F42 Bz, F42.kp, b42, g42⟩
    have c43 : KT.Cb PySem.Challenge.rw_roundswap_k31_steps_that_are_applied.prog w K mg base CX0 2 "_law_first_at" ["_law_row"] KT.spFirst (He.ga K "_law_first_at") d43 := ⟨KT.ok_first (k := 0) F43 Bz, F43.kp, b43, g43⟩
    have c44 : KT.Cb PySem.Challenge.rw_roundswap_k31_steps_that_are_applied.prog w K mg base CX0 3 "_law_normal" ["_law_width", "_law_rows"] KT.spNormL (He.ga K "_law_normal") d44 := ⟨KT.ok_norml F44 Bz c43 c41 c42, F44.kp, b44, g44⟩
    have c45 : KT.Cb PySem.Challenge.rw_roundswap_k31_steps_that_are_applied.prog w K mg base CX0 3 "_law_named" ["_law_rows", "_law_counts_now"] spNmd (He.ga K "_law_named") d45 := ⟨ok_lnamed F45 Bz c43 c41 c42, F45.kp, b45, g45⟩
    have c46 : KT.Cb PySem.Challenge.rw_roundswap_k31_steps_that_are_applied.prog w K mg base CX0 4 "_law_grid" ["_law_rules_now", "_law_letters_here"] spGrid (He.ga K "_law_grid") d46 := ⟨ok_grid F46 B c40 c41 c44, F46.kp, b46, g46⟩
    have c47 : KT.Cb PySem.Challenge.rw_roundswap_k31_steps_that_are_applied.prog w K mg base CX0 4 "_law_behind" ["_law_rows", "_law_letters_here", "_law_some", "_law_one", "_law_step_z"] spBeh (He.ga K "_law_behind") d47 := ⟨ok_beh F47 B c45 c40 c30 c24, F47.kp, b47, g47⟩
    have c48 : KT.Cb PySem.Challenge.rw_roundswap_k31_steps_that_are_applied.prog w K mg base CX0 5 "_law_some_step" ["_law_box", "_law_rows", "_law_letters_here", "_law_some", "_law_one"] _ (He.ga K "_law_some_step") d48 := ⟨ok_sstep F48 B ⟨c18, c19, c24, c30⟩ c45 c40, F48.kp, b48, g48⟩
    have c49 : KT.Cb PySem.Challenge.rw_roundswap_k31_steps_that_are_applied.prog w K mg base CX0 6 "_law_small" ["_law_box"] spSmall (He.ga K "_law_small") d49 := ⟨ok_small F49 c18 c23 c27 c25, F49.kp, b49, g49⟩
    have c50 : KT.Cb PySem.Challenge.rw_roundswap_k31_steps_that_are_applied.prog w K mg base CX0 3 "_law_bent_step" ["_law_box", "_law_step_z"] spBentS (He.ga K "_law_bent_step") d50 := ⟨ok_bent F50 B c18 c19, F50.kp, b50, g50⟩
    have LL : ∃ LL : Lc PySem.Challenge.rw_roundswap_k31_steps_that_are_applied.prog w K mg base, LL.T = [((He.cT K ("swept", none)).2, KT.qS), ((He.cT K ("law", none)).2, qL)] := ⟨{ fBeg := _, fSm := _, fTw := _, fGr := _, fSs := _, fBh := _, fAp := _, fBe := _, fSa := _, fI := _, fWh := _, fF := _, fW := _, fS := _, C1 := _, C2 := _, C3 := _, fdBeg := _, fdSm := _, fdTw := _, fdGr := _, fdSs := _, fdBh := _, fdAp := _, fdBe := _, fdSa := _, fdWh := _, fdF := _, C := tA K, CG := gA K, CU := uA K, CT := bA K, CW := pA K, CS := lA K, T := [((He.cT K ("swept", none)).2, KT.qS), ((He.cT K ("law", none)).2, qL)], B := B, cBeg := c17, cSm := c49, cTw := c28, cGr := c46, cSs := c48, cBh := c47, cAp := c39, kAp := kb_app F39, cBe := c50, cSa := c20, TC := TC, gC := gC, M := M, G := GTn, FW := F22, bWh := b22, gWh := g22, TW := E3, XW := X3, TS := E4, XS := X4, GF := ok_fld (k := 0) F21 E3 X3 E4 X4, kF := F21.kp, bF := b21, gF := g21, m1 := g _ (by decide), m2 := g _ (by decide), m3 := g _ (by decide), hx := (fun C hC => by rcases (show C = pA K ∨ C = lA K by simpa using hC) with rfl | rfl; exact hx1; exact hx2) }, rfl⟩
    obtain ⟨LL, eT⟩ := LL
    rw [← eT]
    have W1 : Lt2 base mg LL.T cc51 qL := by
      rw [eT]
      exact ⟨(He.cT K ("law", none)).2, List.mem_cons_of_mem _ List.mem_cons_self, (fun p hp h1 => by rcases (show p = ((He.cT K ("swept", none)).2, KT.qS) ∨ p = ((He.cT K ("law", none)).2, qL) by simpa using hp) with rfl | rfl; exact absurd h1 dn01; exact rfl), TB1⟩
    exact ok_law LL W1 lk51 hcd51
end K31
open PySem PySem.W PySem.Calls PyProof.Rows
set_option maxRecDepth 100000 in
set_option maxHeartbeats 0 in
theorem PySem.Challenge.cw_roundswap_k31_steps_that_are_applied_holds : PySem.Challenge.rw_roundswap_k31_steps_that_are_applied.Holds := by
  w_on; o_law
  refine HandSHeadRun.head_any (r := OpenLaw.row PySem.Challenge.rw_roundswap_k31_steps_that_are_applied) (q := view (OpenLaw.row PySem.Challenge.rw_roundswap_k31_steps_that_are_applied).prog [103]) (H := K31.hk) (ob := K31.ob8) (M := 20000) (loose := K31.loose) (d := HandSHeadRun.topDef (OpenLaw.row PySem.Challenge.rw_roundswap_k31_steps_that_are_applied).prog 103) (kwd := []) K31.ob_eq
    (by kernel_rfl) (fun s => by kernel_rfl) K31.run (by kernel_rfl) (by kernel_rfl) (by kernel_rfl) (by rfl) (by first | assumption | decide +kernel) (by decide +kernel) ⟨rfl, rfl, rfl, rfl, rfl, by decide +kernel⟩ ?hw ?hc
  case hw => w_witness2
  case hc =>
    refine LamX.walk_ofTsE (l := PySem.Challenge.rw_roundswap_k31_steps_that_are_applied) (n := 63) (k := 41) (x := "_law_script") (CX := fun _ => L2.CX0) rfl (by decide) (by kernel_rfl) ⟨rfl, by decide, by decide⟩ ?F (fun _ _ _ _ _ z => z)
    intro w mg fa h Y G hmg0
    obtain ⟨K, KX, c⟩ := Y
    have hmg : mg ("law" : PySem.Str) = some (.ref fa) := by
      have e : (HandSHeadRun.topDef (OpenLaw.row PySem.Challenge.rw_roundswap_k31_steps_that_are_applied).prog 103).name = ("law" : PySem.Str) := by kernel_rfl
      rw [← e]
      exact hmg0
    exact ⟨K, KX, K31.facts KX G hmg c.1 c.2⟩
