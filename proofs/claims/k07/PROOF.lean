import PyProof.Rows.All
import Wide.All
import OpenK.AllK
import Wide.FinOn
import PyProof.EqAt
import PyProof.EqKinds
import PyProof.TupleCall
import HandS.ForMost
import HandS.Walk
import HandS.Style
import HandS.Exc
import HandS.HotCalls
import HandS.ExcField
import KE.KTryMore
import HandS.Lambda
import KE.KDflt
import HandS.Wide
import HandS.IsInst
import HandS.EndTab
import HandS.ExcInit
import HandS.Flow
import HandS.StrMore
import HandS.Codes
import HandS.FStr
import HandS.EndBits
import HandS.WordsExc
import KE.KStateDown
import HandS.More
import HandS.Defaults
import HandS.Head0
import HandS.Head1
import HandS.Head2
import HandS.HeadEnd
import HandS.HeadHook1
import HandS.HeadHook2
import HandS.HeadHook3
import HandS.HeadHook4
import HandS.HeadWalk
import PySem.Challenge.RW_roundswap_k07_phrases_that_are_read
set_option Elab.async false
set_option linter.all false
set_option maxRecDepth 100000
set_option maxHeartbeats 2000000
namespace Rs
open PySem PySem.Spec PyProof.Rows L2
section
variable {X : Cx}
/-! texts: swapcase, and [::-1] -/
theorem m_swapcase : MtR X "str.swapcase" (fun x xs H Q => ∃ a, x = .str a ∧ xs = [] ∧ a.length ≤ 5592405 ∧ Q (.str (Txt.swapcase a)) H) :=
  mt0 (C := fun a => a.length ≤ 5592405) (g := fun a => .str (Txt.swapcase a)) fun a _ s _ hc h => PySem.SC.swapcase (fit_swapcase hc) (h _ (s.toks + 1) ⟨_, rfl⟩)
def rv (z : Str) : Str := ⟨z.cps.reverse⟩
theorem rv_is (z : Str) (u : Tok) : Txt.sliceBy z none none (-1, u) = rv z := by
  have e := step_rev_list z u
  unfold rv
  have e2 : (Txt.sliceBy z none none (-1, u)).cps = z.cps.reverse := by
    apply Array.toList_inj.mp
    rw [e, Array.toList_reverse]
    apply List.ext_getElem?
    intro i
    rw [List.getElem?_map]
    by_cases h : i < z.cps.size
    · have hl : i < z.length := h
      rw [List.getElem?_range hl, List.getElem?_reverse (by simpa using h)]
      have h2 : z.length - 1 - i < z.cps.size := by show z.cps.size - 1 - i < _; omega
      show some _ = z.cps.toList[z.cps.size - 1 - i]?
      rw [Array.getElem?_toList]
      have h3 : z.cps.size - 1 - i < z.cps.size := h2
      rw [Array.getElem?_eq_getElem h3]
      congr 1
      show z.cps.getD (z.cps.size - 1 - i) 0 = _
      simp [Array.getD, h3]
    · have h1 : (List.range z.length)[i]? = none := by
        rw [List.getElem?_eq_none_iff, List.length_range]; exact Nat.not_lt.mp h
      rw [h1, List.getElem?_eq_none (by simpa using Nat.not_lt.mp h)]
      rfl
  cases hz : Txt.sliceBy z none none (-1, u)
  rw [hz] at e2
  dsimp only at e2
  rw [e2]
def tRevS (te : TE) : TE := fun σ H Q => te σ H fun x H1 => ∃ z, x = .str z ∧ z.length ≤ sizeLine ∧ Q (.str (rv z)) H1
theorem e_revS {e : Expr} {te : TE} {k : Nat} {p1 p2 p3 pos : Pos} (he : PE X e te) :
    PE X (.Subscript e (.Slice none none (some (.UnaryOp .USub (.Constant (.int 1) k p1) p2)) p3) pos) (tRevS te) := by
  constructor
  intro pins s σ H Q I h
  refine Subscript_ (thn (he.run pins s σ H _ I h) fun v s1 hh => ?_)
  obtain ⟨x, H1, I1, r1, z, ez, hz, q⟩ := hh
  subst ez
  obtain ⟨t, rfl⟩ := r1
  have hst : PO X (some (.UnaryOp .USub (.Constant (.int 1) k p1) p2)) (tPart (tUn (rU fun i => .int (-i)) (tC (.int 1)))) :=
    po_some (pe_un un_neg pe_int)
  refine wpAny_Slice (thn (po_none.run pins s1 σ H1 (fun o H2 => o = none ∧ H2 = H1) I1 ⟨rfl, rfl⟩) ?_)
  rintro vl s2 ⟨l, H2, I2, pl, rfl, rfl⟩
  refine thn (po_none.run pins s2 σ H2 (fun o H3 => o = none ∧ H3 = H2) I2 ⟨rfl, rfl⟩) ?_
  rintro vu s3 ⟨u, H3, I3, pu, rfl, rfl⟩
  refine thn (hst.run pins s3 σ H3 (fun o H4 => o = some (-1) ∧ H4 = H3) I3 ⟨1, rfl, -1, rfl, rfl, rfl⟩) ?_
  rintro vs s4 ⟨o, H4, I4, ps, rfl, rfl⟩
  obtain ⟨l', rfl, hl'⟩ := IsPart.raw pl
  obtain ⟨u', rfl, hu'⟩ := IsPart.raw pu
  obtain ⟨k', rfl, hk'⟩ := IsPart.raw ps
  cases l' with
  | some l' => cases hl'
  | none =>
  cases u' with
  | some u' => cases hu'
  | none =>
  cases k' with
  | none => cases hk'
  | some k' =>
  obtain ⟨kk, tk⟩ := k'
  have ek : kk = -1 := by simpa using hk'
  subst ek
  refine tail_any (ops := [.str z t, .ref s4.heap.objs.size]) (typeIs_str _ _ _) (F.slot_str_getitem.lookup) ?_ (by with_unfolding_all rfl)
  refine wpAny_getItem_str_slice (l := none) (u := none) (st := some (-1, tk)) ⟨_, Heap.get?_push_size _ rfl, rfl, rfl⟩ rfl ?_
  refine post_val_or_str ⟨Nat.le_trans (Txt.sliceBy_le z _ _ (-1, tk) (by show (-1 : Int) ≠ 0; decide)) hz, fun t' c => ?_⟩
  show EP X pins σ Q (.str (Txt.sliceBy z none none (-1, tk)) t') _
  rw [rv_is]
  exact ⟨.str (rv z), _, I4.kept fun b ob q => Heap.get?_push_of_some _ q, ⟨_, rfl⟩, q⟩
end
end Rs
set_option maxRecDepth 100000
set_option maxHeartbeats 2000000
namespace Rs
open PySem PySem.Spec PyProof.Rows L2
theorem fly_keeps {h h' Bh : Heap} {l : List Env} {a : Addr} {Z : Obj → Prop} (x : HandSPX.FlyingZ Bh l a Z h) (k : ∀ b o, h.get? b = some o → h'.get? b = some o) : HandSPX.FlyingZ Bh l a Z h' := by
  obtain ⟨x1, x2, x3, oe, vs, T, oT, ts, y1, y2, y3, y4, y5, y6, y7, y8, y9⟩ := x
  exact ⟨fun b o e => k b o (x1 b o e), x2, x3.of_keeps (fun b o e _ => ⟨o, k b o e, rfl⟩), oe, vs, T, oT, ts, k _ _ y1, y2, y3, y4, y5, y6, k _ _ y7, y8, y9⟩
/-- what «except (x1, x2, x3) as n» asks of an error of the body, where it is always one of the three -/
def wT (K : PySem.W.Frag) (cs : List Value) (i : Nat) (ts : Addr → Value → Option Addr → TS) (D : Ends) : WX := fun cls d σ H =>
  PySem.W.exmAny K cls cs = some true ∧ ∀ a, H a = none →
    ts a cls d { nx := fun σ' H' => D.nx (σ'.set i none) H', rt := D.rt, bk := fun σ' H' => D.bk (σ'.set i none) H', ct := fun σ' H' => D.ct (σ'.set i none) H' } (σ.set i (some (.ref a))) H
section
variable {X : Cx}
theorem s_try3 {x1 x2 x3 n : Str} {c1 c2 c3 : Value} {i k : Nat} {body suite : List Stmt} {b₀ : Stmt} {n1 n2 n3 tp pos pos' : Pos} {tb : WX → TS} {ts : Addr → Value → Option Addr → TS}
    (hs : X.stack = X.env :: X.outer) (hf : X.env.frame = some X.env.locals) (hN : X.N.Nodup) (hi : X.N[i]? = some n) (hln : X.env.kindOf n = some .local)
    (g1 : Gl X x1) (m1 : X.mg x1 = some c1) (g2 : Gl X x2) (m2 : X.mg x2 = some c2) (g3 : Gl X x3) (m3 : X.mg x3 = some c3)
    (hb : ∀ (W : WX) (pn : List (Addr × Obj)) (xe : Value → Shared → Prop), Takes (X.tr pn xe) W → PSs (X.tr pn xe) body (tb W))
    (hsu : ∀ (a : Addr) (oe : Obj) (cls : Value) (d : Option Addr) (pn : List (Addr × Obj)), Zc cls d oe → (∃ vs, oe.data = .fields vs) → PSs (X.suite a ((a, oe) :: pn)) (b₀ :: suite) (ts a cls d))
    (d1 : (x1 == ("__debug__" : Str)) = false := by decide) (d2 : (x2 == ("__debug__" : Str)) = false := by decide) (d3 : (x3 == ("__debug__" : Str)) = false := by decide) :
    PS X (.Try body [.ExceptHandler (some (.Tuple [.Name x1 n1, .Name x2 n2, .Name x3 n3] k tp)) (some n) (b₀ :: suite) pos'] [] [] pos) (fun D σ H => tb (wT X.K [c1, c2, c3] i ts D) D σ H) := by
  constructor
  intro pins s σ H D I h
  have ok := I.ok
  have hfra : X.A.frames = some (X.env :: X.outer) := by rw [ok.frames, hs]
  have hlc : Loc X.env.scope n := .inl hln
  refine wpAny_Try_except ?_
  refine wpAny_mono ((hb (wT X.K [c1, c2, c3] i ts D) (X.pn ++ pins)
    (fun e s₁ => wpAny (model X.prog X.w) X.A (noteFrame e X.env) (fun _ s₂ => wpAny (model X.prog X.w) X.A (setFlight e none)
      (fun _ s₃ => wpAny (model X.prog X.w) X.A (handleBy e X.env [.ExceptHandler (some (.Tuple [.Name x1 n1, .Name x2 n2, .Name x3 n3] k tp)) (some n) (b₀ :: suite) pos']) (SP X pins D) X.xe s₃) X.xe s₂) X.xe s₁)
    (fun u s' xx => ?_)).run [] s σ H D (I.toTry _) h) (fun f s1 hsp => ?_) (fun e s1 he => he)
  · obtain ⟨a, Bh, sIn, pins', σ', H', cls, d, rfl, Jt, nbk, up, sky, na, os, agn, hx, hyes⟩ := xx
    have J : Inv X pins σ' H' sIn := Jt.ofTry ok
    have skyB : Sky Bh (X.env :: X.outer) a (Zc cls d) X.env.locals s'.heap := hs ▸ sky
    show wpAny _ X.A (noteFrame (.ref a) X.env) _ _ _
    refine Sky.land Zc.steady hfra hf skyB fun hp3 fly3 ups3 => ?_
    have Jl : Inv X pins σ' H' { s' with heap := hp3 } := J.landed nbk fly3.1 (up.trans ups3) os agn
    obtain ⟨ob3, vb3, ge3, gz3, gd3⟩ := fly3.there
    have noFr : a ∉ frs (X.env :: X.outer) := fun hm => by
      obtain ⟨_, o', e', hnf⟩ := fly3.2.2.1.mem hm
      rw [ge3] at e'
      cases e'
      exact hnf _ gd3
    have noL : a ≠ X.env.locals := fun z => noFr (List.mem_filterMap.mpr ⟨X.env, List.mem_cons_self, by rw [hf, z]⟩)
    have noF : a ∉ X.fs := fun hm => by
      obtain ⟨en, hen, q⟩ := List.mem_filterMap.mp hm
      exact noFr (List.mem_filterMap.mpr ⟨en, List.mem_cons_of_mem _ hen, q⟩)
    have Su3 := Jl.suite ge3 gd3 na noL noF
    refine wpAny_handleBy_cons (codeAny_handlers_test ?_) (fun z => nomatch z)
    refine wpAny_Tuple_spliced ?_
    show wpAny _ _ (spliced [(false, eval (.Name x1 n1) X.env), (false, eval (.Name x2 n2) X.env), (false, eval (.Name x3 n3) X.env)]) _ _ _
    refine Calls.spliced_cons (ld_glob (X := X.suite a ((a, ob3) :: (X.pn ++ pins))) Su3 g1 m1 ?_ d1)
    refine Calls.spliced_cons (ld_glob (X := X.suite a ((a, ob3) :: (X.pn ++ pins))) Su3 g2 m2 ?_ d2)
    refine Calls.spliced_cons (ld_glob (X := X.suite a ((a, ob3) :: (X.pn ++ pins))) Su3 g3 m3 (Calls.spliced_nil ⟨by show 3 ≤ sizeLine; decide, ?_⟩) d3)
    have kp : ∀ b o, hp3.get? b = some o → (hp3.push { cls := .type "tuple", data := .seq [c1, c2, c3].toArray }).get? b = some o := fun b o e => Heap.get?_push_of_some _ e
    have fl4 := fly_keeps fly3 kp
    have he4 := kp _ _ ge3
    have LT : PySem.W.Looks (model X.prog X.w) (hp3.push { cls := .type "tuple", data := .seq [c1, c2, c3].toArray }) (typeOf (.ref a)) cls := fun A Q E s k q => wpAny_typeOf_ref (k _ _ he4) (by rw [gz3.1]; exact q)
    have LM := PySem.W.exm_tup3 (M := model X.prog X.w) (Jl.kIn.keeps kp) LT (Heap.get?_push_size _ rfl) hx
    refine LM.here ?_
    refine codeAny_handlers_suite_as (HandSPX.lands_againZ (s := { s' with heap := hp3.push { cls := .type "tuple", data := .seq [c1, c2, c3].toArray } }) fl4 fun h5 fl5 up5 => ?_)
    have J5 : Inv X pins σ' H' { s' with heap := h5 } := J.landed nbk fl5.1 (((up.trans ups3).trans (.of_keeps kp)).trans up5) os agn
    obtain ⟨oe5, vs5, he5, hz5, hd5⟩ := fl5.there
    have S5 := J5.suite he5 hd5 na noL noF
    refine store_ok (X := X.suite a ((a, oe5) :: (X.pn ++ pins))) (v := .ref a) S5 hN hi hlc rfl (fun s6 S6 => ?_) (.inr hln)
    refine wpAny_mono ((hsu a oe5 cls d (X.pn ++ pins) hz5 ⟨_, hd5⟩).run [] s6 _ H' _ S6 (hyes a na)) (fun f s7 hsp => ?_) (fun _ _ z => False.elim z)
    have fin : ∀ {σ7 : L2.St} {H7 : Hp} {Q : Shared → Prop}, Inv (X.suite a ((a, oe5) :: (X.pn ++ pins))) [] σ7 H7 s7 → (∀ s8, Inv X pins (σ7.set i none) H7 s8 → Q s8) →
        wpAny (model X.prog X.w) X.A (do bindName X.env n .none; unbindBehindTheSuite X.env n pos') (fun _ s8 => Q s8) X.xe s7 := fun S7 hq => gone_ok (S7.unsuite ok) hN hi hln hq
    cases f with
    | next =>
      obtain ⟨σ7, H7, S7, q7⟩ := hsp
      exact fin S7 fun s8 J8 => ⟨_, _, J8, q7⟩
    | brk =>
      obtain ⟨σ7, H7, S7, q7⟩ := hsp
      exact fin S7 fun s8 J8 => ⟨_, _, J8, q7⟩
    | cont =>
      obtain ⟨σ7, H7, S7, q7⟩ := hsp
      exact fin S7 fun s8 J8 => ⟨_, _, J8, q7⟩
    | ret u =>
      obtain ⟨v7, σ7, H7, S7, r7, q7⟩ := hsp
      exact fin S7 fun s8 J8 => ⟨_, _, _, J8, r7, q7⟩
  · cases f with
    | next =>
      obtain ⟨σ', H', Jt, q⟩ := hsp
      exact wpAny_execs_nil ⟨σ', H', Jt.ofTry ok, q⟩
    | brk =>
      obtain ⟨σ', H', Jt, q⟩ := hsp
      exact ⟨σ', H', Jt.ofTry ok, q⟩
    | cont =>
      obtain ⟨σ', H', Jt, q⟩ := hsp
      exact ⟨σ', H', Jt.ofTry ok, q⟩
    | ret u =>
      obtain ⟨v, σ', H', Jt, r, q⟩ := hsp
      exact ⟨v, σ', H', Jt.ofTry ok, r, q⟩
/-- err.f, err an error that the context holds by a pin -/
theorem e_xf {a C : Addr} {oe : Obj} {cls : Value} {d : Option Addr} {e : Expr} {te : TE} {pos : Pos} {n : Str} (T : XfC X.K C) (hno : PySem.W.findIn X.K (.ref C) n = some none)
    (hz : Zc cls d oe) (hf : ∃ vs, oe.data = .fields vs) (hp : (a, oe) ∈ X.pn) (he : PE X e te) (hb : attributeBase e n X.env (eval e X.env) = eval e X.env := by rfl) :
    PE X (.Attribute e n pos) (tXf a cls d C n te) := by
  constructor
  intro pins s σ H Q I h
  refine attr_of hb (thn (he.run pins s σ H _ I h) ?_)
  rintro u s1 ⟨x, H1, I1, rx, rfl, rfl, dd, fs, v, rfl, ea, l, q⟩
  obtain rfl : u = .ref a := rx
  obtain ⟨ha, _⟩ := I1.pin (a, oe) (List.mem_append_left _ hp)
  obtain ⟨vs, hd⟩ := hf
  obtain ⟨mAt, hnsp, hr⟩ := (show ObjOk X.prog X.w H1 s1.heap dd (.xd fs) from I1.hok dd _ ea)
  obtain ⟨odo, hod, hl⟩ := lookIn_ns hnsp
  obtain ⟨u, hu, ruv⟩ := RelO.some_of (v := v) (o := mAt n) (by rw [← l]; exact hr n)
  have J : PySem.W.InstAt s1.heap a oe C (some odo) := ⟨ha, hz.1, by unfold PySem.W.notCls; rw [hd] <;> rfl, by rw [hz.2]; exact hod⟩
  exact HandSPX.exc_get I1.kIn J T.ga T.gg T.exC (PySem.W.findObj_own T.hdC hno rfl (by rw [hl, hu])) (handed_of ruv) ⟨v, H1, I1.tok _, ruv, q⟩
end
/-- a def's promise where an error p is handled and handed on -/
structure FnPin (P : Program) (w : World) (K : PySem.W.Frag) (mg : Str → Option Value) (base : Heap) (k : Nat) (f : Addr) (fd : FuncData) (ps : List Str) (sp : Addr × Obj → Sp) : Prop where
  len : ∀ p vs H Q E, sp p vs H Q E → vs.length = ps.length
  run : ∀ (A : Around) (outer : List Env) (s : Shared) (H : Hp) (us : List Value) (vs : List V) (Q : VK) (p : Addr × Obj), L2H.RoomH k A → L2H.PinOk outer H s p → Env0 P w K mg base A outer s H →
    BindsTo s fd ⟨us, []⟩ (ps.zip us) → Vals vs us → sp p vs H Q E0 → codeAny (model P w) A (.call (.ref f) ⟨us, []⟩) (CR CX0 outer P w H s Q E0) s
theorem fn_pin {P : Program} {w : World} {K : PySem.W.Frag} {mg : Str → Option Value} {base : Heap} {k : Nat} {f : Addr} {fd : FuncData} {name : Str} {st : Stmt} {N ps : List Str} {sp : Addr × Obj → Sp} (F : Fun K name name st f fd) (S : FnScope N ps (defScope st))
    (len : ∀ p vs H Q E, sp p vs H Q E → vs.length = ps.length)
    (hbody : ∀ (cdv : Value) (A : Around) (outer : List Env) (s : Shared) (H : Hp) (vs : List V) (Q : VK) (p : Addr × Obj), L2H.RoomH k (A.deeper (envOfC name (defScope st) s.heap.objs.size f cdv)) → sp p vs H Q E0 →
      ∃ t, PSs (L2H.cxH CX0 P w K mg base N name (defScope st) f cdv A outer s H E0 p).nox (defBody st) t ∧ t { nx := fun _ H' => Q .non H', rt := Q } (L2.start N vs) H) :
    FnPin P w K mg base (k + 1) f fd ps sp := by
  obtain ⟨oc, odo, kV, doc, pm, an, cdv, ct, osl, rfl, lk, hcd⟩ := F.ex
  refine ⟨len, fun A outer s H us vs Q p hr hpin e0 hb r hsp => ?_⟩
  have hl := len _ _ _ _ _ hsp
  have Kin : K.In s.heap := e0.mod.kin.keeps fun b o e => (e0.bs b o e).1
  have lmt : s.heap.NoLimit := e0.mod.nolimit.keeps fun b o e => (e0.bs b o e).1
  have hkd : ∀ y ∈ ps.zip us, (defScope st).names.lookup y.1 = some .local ∨ ((defScope st).names.lookup y.1 = some .cell ∧ ((cellsFrom (s.heap.objs.size + 1) (defScope st).names []).lookup y.1).isSome = true) := by
    rintro ⟨n, v⟩ hy
    exact (S.par n (List.of_mem_zip hy).1).elim (fun q => .inl q) (fun q => .inr ⟨q, PySem.W.cellsFrom_some _ _ _ (.inl q)⟩)
  refine codeAny_call_function hr.depth (Kin _ _ lk) rfl S.co S.gen rfl (PySem.W.codeRec_of Kin hcd) (hb _ _ _ _ ?_)
  refine wpAny_newFunctionEnv_cells S.kind hkd fun env he s1 x => ?_
  subst he
  refine ⟨lmt.keeps x.toInCall.keep, codeAny_func ?_⟩
  obtain ⟨t, ht, hq⟩ := hbody cdv A outer s H vs Q p (hr.deeper _) hsp
  have I : Inv (L2H.cxH CX0 P w K mg base N name (defScope st) f cdv A outer s H E0 p) [] (L2.start N vs) H s1 := L2H.inv_startH S hpin e0 hl r x
  refine wpAny_mono (ht.nox.run [] s1 (L2.start N vs) H _ I hq) (fun fl s' hs => ?_) fun e s' hs => hs
  cases fl with
  | ret u =>
    obtain ⟨v, σ', H', Jn, rv, q⟩ := hs
    exact ⟨v, H', Jn.os, Jn.bare, Jn.base, Jn.hok, rv, q⟩
  | next =>
    obtain ⟨σ', H', J, q⟩ := hs
    exact ⟨.non, H', J.os, J.bare, J.base, J.hok, rfl, q⟩
  | brk =>
    obtain ⟨_, _, _, q⟩ := hs
    exact False.elim q
  | cont =>
    obtain ⟨_, _, _, q⟩ := hs
    exact False.elim q
theorem e_callP {X : Cx} {k : Nat} {f : Addr} {fd : FuncData} {ps : List Str} {sp : Addr × Obj → Sp} {p : Addr × Obj} {x : Str} {e : Expr} {es : List Expr} {t : TA} {q pos : Pos} (F : FnPin X.prog X.w X.K X.mg X.base k f fd ps sp) (hr : L2H.RoomH k X.A) (hp : p ∈ X.pn) (hg : Gl X x) (hm : X.mg x = some (.ref f))
    (hk : PySem.W.keepIn X.K (.ref f) = true) (hb : Binds X.K fd ps []) (ha : PA X (e :: es) t) (hdb : (x == ("__debug__" : Str)) = false := by decide)
    (he : starEach (e :: es) X.env = (false, eval e X.env) :: starEach es X.env := by rfl) (hpl : (backTo pos (starEach es X.env)).any (·.1) = false := by rfl) : PE X (.Call (.Name x q) (e :: es) [] pos) (tCall (sp p) [] E0 t) := by
  constructor
  intro pins s σ H Q I h
  refine wpAny_Call_Name_kw (ld_glob I hg hm (PySem.W.callWith_K (h₀ := X.base) I.ok.mod.kin hk (thn (ha.run pos pins s σ H _ I h) ?_) he hpl) hdb)
  rintro us s1 ⟨vs, H1, I1, r, q⟩
  refine ⟨I1.kIn, ?_⟩
  rw [List.append_nil] at q
  have hl : us.length = ps.length := by rw [← r.length]; exact F.len _ _ _ _ _ q
  have b := hb s1 us I1.kIn (by rw [List.append_nil]; exact hl)
  rw [List.append_nil] at b
  have P1 := I1.pin p (List.mem_append_left _ hp)
  have hpin : L2H.PinOk X.stack H1 s1 p := ⟨P1.1, P1.2.1, fun hm => (List.mem_cons.mp (I1.stkSub p.1 hm)).elim P1.2.2.1 P1.2.2.2.1, P1.2.2.2.2⟩
  refine wpAny_call (codeAny_mono (F.run X.A X.stack s1 H1 us vs Q p hr hpin I1.env0 b r q) fun r s' hq => ?_)
  cases r with
  | error er => exact False.elim hq
  | ok fl =>
    cases fl with
    | ret u => exact I1.after hq
    | next => exact False.elim hq
    | brk => exact False.elim hq
    | cont => exact False.elim hq
end Rs
set_option maxRecDepth 100000
set_option maxHeartbeats 2000000
namespace Rs
open PySem PySem.Spec PyProof.Rows L2
/-! a comprehension whose element knows what holds of the def around it -/
section
variable {X : Cx}
/-- whoever is right within the block is right for the def -/
def Up (X : Cx) (Z : Cx) (pins : List (Addr × Obj)) (σ : L2.St) : Prop := ∀ (pz : List (Addr × Obj)) (τ : L2.St) (G : Hp) (z : Shared), Inv Z pz τ G z → Inv X pins σ G z
theorem up_blk {pins : List (Addr × Obj)} {s : Shared} {σ : L2.St} {H : Hp} {sco : Scope} {ce : Env} {fp : List Addr} (I : Inv X pins σ H s) (ok : ∀ b ∈ fp, FpOk X pins H b ∧ b < s.heap.objs.size) : Up X (X.blk s H sco ce fp) pins σ := by
  intro pz τ G z J
  refine I.call' (ch := fp) J.os J.base J.hok J.bare fun b hb => ?_
  obtain ⟨⟨_, x2, _, x4, x5, x6⟩, _⟩ := ok b hb
  exact ⟨x4, x2, x5, x6⟩
/-- the block's own run: its list stands at D -/
theorem blk_run {pins : List (Addr × Obj)} {s : Shared} {σ : L2.St} {H : Hp} {Q : VK} {elt tg it0 : Expr} {cs : List Expr} {sco : Scope} {own : List (Str × Nat)} {pos : Pos} {J : It} {g : TG} {tt : TT} {te : TE} {it D : Addr} {fp : List Addr} {tn : Nat → Heap → Prop} {W : Nat → Nat → Hp → Prop} {m0 : Nat} {R : Result → Shared → Prop}
    (hc : X.calm = true) (nd : X.N.Nodup) (I : Inv X pins σ H s) (bo : BlkOk X.N X.env.scope sco own) (ok : ∀ b ∈ fp, FpOk X pins H b ∧ b < s.heap.objs.size) (T : Turn X.prog X.w X.K tg J fp it tn) (st : tn 0 s.heap) (w0 : W 0 m0 H)
    (hg : ∀ z G C cl fp, PG (X.blk z G sco (compEnvC sco cl C X.env) fp) tg g) (ht : ∀ z G C cl fp, PTs (X.blk z G sco (compEnvC sco cl C X.env) fp) cs tt)
    (he : ∀ z G C cl fp, Up X (X.blk z G sco (compEnvC sco cl C X.env) fp) pins σ → PE (X.blk z G sco (compEnvC sco cl C X.env) fp) elt te)
    (turn : ∀ i m G, W i m G → (J.stop i G ∧ Q (.ref D) G) ∨ (J.go i G ∧ ∃ Nx : Hp → Prop, (∀ G', Nx G' → ∃ m', m' < m ∧ W (i + 1) m' G') ∧ ∀ x G', J.yld i G x G' → g x (wipe σ (own.map (·.2))) G' fun τ G2 => wipe τ (own.map (·.2)) = wipe σ (own.map (·.2)) ∧ tt τ G2 fun b G3 =>
      if b = true then te τ G3 fun y G4 => ∃ acc, G4 D = some (.lst acc) ∧ acc.length < sizeLine ∧ Nx (upd G4 D (.lst (acc ++ [y]))) else Nx G3))
    (out : ∀ z m G, Inv X pins σ G z → Q (.ref D) G → z.heap.Ns s.heap.objs.size m → FpOk X pins G s.heap.objs.size → R (.ok .next) z) :
    codeAny (model X.prog X.w) X.A (.compStart (.ListComp elt [⟨tg, it0, cs, 0⟩] sco pos) 0 (.ref it) (.ref D) (compEnvC sco (cellsFrom (s.heap.objs.size + 1) sco.names (cloFrom X.env.cells sco.names [])) s.heap.objs.size X.env)) R
      { s with heap := pushCells (s.heap.push { cls := .type "dict", data := .dict #[] }) sco.names } := by
  have B0 := block_start I bo nd ok
  have st' : tn 0 (pushCells (s.heap.push { cls := .type "dict", data := .dict #[] }) sco.names) := T.keep _ _ _ st (by intro b _ o e; exact pushCells_keeps _ _ _ _ (Heap.get?_push_of_some _ e))
  have pg := hg s H s.heap.objs.size (cellsFrom (s.heap.objs.size + 1) sco.names (cloFrom X.env.cells sco.names [])) fp
  have pt := ht s H s.heap.objs.size (cellsFrom (s.heap.objs.size + 1) sco.names (cloFrom X.env.cells sco.names [])) fp
  have pe := he s H s.heap.objs.size (cellsFrom (s.heap.objs.size + 1) sco.names (cloFrom X.env.cells sco.names [])) fp (up_blk I ok)
  have eL : (compEnvC sco (cellsFrom (s.heap.objs.size + 1) sco.names (cloFrom X.env.cells sco.names [])) s.heap.objs.size X.env).locals = s.heap.objs.size := rfl
  generalize compEnvC sco (cellsFrom (s.heap.objs.size + 1) sco.names (cloFrom X.env.cells sco.names [])) s.heap.objs.size X.env = ce at *
  generalize hs4 : ({ s with heap := pushCells (s.heap.push { cls := .type "dict", data := .dict #[] }) sco.names } : Shared) = s4 at B0 ⊢
  have st4 : tn 0 s4.heap := by
    rw [← hs4]
    exact st'
  -- the iterator's objects, seen from the block
  have fit : ∀ {τ : L2.St} {G : Hp} {z : Shared}, Inv (X.blk s H sco ce fp) [] τ G z → (∀ b ∈ fp, G b = none) → ∀ b ∈ fp, FpOk (X.blk s H sco ce fp) [] G b := by
    intro τ G z Iz hn b hb
    have e1 := Iz.ok.exf b hb
    refine ⟨hn b hb, e1.1, Iz.ok.exfs b hb, .inl hb, fun x c => e1.2 x c, ?_⟩
    intro p hp
    cases hp
  have loop : codeAny (model X.prog X.w) X.A (.compLoop (.ListComp elt [⟨tg, it0, cs, 0⟩] sco pos) 0 (.ref it) (.ref D) ce) R s4 := by
    apply compLoop_any (fun n z => ∃ i G, Inv (X.blk s H sco ce fp) [] (wipe σ (own.map (·.2))) G z ∧ tn i z.heap ∧ (∀ b ∈ fp, G b = none) ∧ W i n G) _ m0 ⟨0, H, B0, st4, fun b hb => (ok b hb).1.1, w0⟩
    rintro n s5 ⟨i, G5, I5, st5, n5, w5⟩
    cases turn i n G5 w5 with
    | inl h =>
      have td := T.done (X.blk s H sco ce fp) rfl rfl rfl hc i [] s5 _ G5 (fun _ _ => False) I5 (fit I5 n5) st5 h.1
      refine thnF td ?_
      rintro r s6 ⟨rfl, I6⟩
      have nC : G5 s.heap.objs.size = none := by
        rw [← eL]
        exact I6.free
      obtain ⟨m, hm, _⟩ := I6.loc
      refine out s6 m G5 (up_blk I ok _ _ _ _ I6) h.2 ?_ (I.fpOk (Nat.le_refl _) nC)
      rw [← eL]
      exact hm
    | inr h =>
      obtain ⟨go, Nx, hNx, step⟩ := h
      have ti := T.item (X.blk s H sco ce fp) rfl rfl rfl hc i [] s5 _ G5 (fun _ _ => False) I5 (fit I5 n5) st5 go
      refine thnF ti ?_
      rintro r s6 ⟨u, rfl, h6⟩
      refine thnF h6 ?_
      rintro _ s7 ⟨x, G7, I7, r7, y7, st7, n7⟩
      refine thnF (pg.run _ s7 _ G7 x u _ (I7.pinned (fit I7 n7) (T.obj _ _ st7)) r7 (step x G7 y7)) ?_
      rintro _ s8 ⟨τ, G8, I8, ew, q8⟩
      refine thnF (pt.run _ s8 τ G8 _ I8 q8) ?_
      rintro b s9 ⟨G9, I9, q9⟩
      have fin : ∀ {z : Shared} {G : Hp}, Inv (X.blk s H sco ce fp) ([] ++ pinsAt fp s7.heap) τ G z → Nx G → ∃ m, m < n ∧ ∃ i G, Inv (X.blk s H sco ce fp) [] (wipe σ (own.map (·.2))) G z ∧ tn i z.heap ∧ (∀ b ∈ fp, G b = none) ∧ W i m G := by
        intro z G Iz nx
        obtain ⟨m', hm, w'⟩ := hNx G nx
        have pin : ∀ b ∈ fp, ∀ o, s7.heap.get? b = some o → z.heap.get? b = some o ∧ G b = none := by
          intro b hb o e
          have q := Iz.pin (b, o) (List.mem_append_right _ (List.mem_append_right _ (mem_pinsAt hb e)))
          exact ⟨q.1, q.2.1⟩
        refine ⟨m', hm, i + 1, G, ?_, T.keep _ _ _ st7 (fun b hb o e => (pin b hb o e).1), ?_, w'⟩
        · apply (Iz.unpinned (pins := [])).weak
          · rw [← ew, wipe_length]
          · intro j v e
            rw [← ew] at e
            exact (wipe_some e).1
        · intro b hb
          obtain ⟨o, e, _⟩ := T.obj _ _ st7 b hb
          exact (pin b hb o e).2
      cases b with
      | false =>
        rw [if_neg (by decide)] at q9 ⊢
        exact fin I9 q9
      | true =>
        rw [if_pos rfl] at q9 ⊢
        refine thnF (pe.run _ s9 τ G9 _ I9 q9) ?_
        rintro v s10 ⟨y, G10, I10, r10, acc, hD, hz, nx⟩
        exact app_ok (X := X.blk s H sco ce fp) I10 hD hz r10 fun s11 I11 => fin I11 nx
  exact codeAny_compStart_list loop (T.self X.A 0 _ _ _ st4 loop)
theorem lc_up {pins : List (Addr × Obj)} {s : Shared} {σ : L2.St} {H : Hp} {Q : VK} {elt tg it0 : Expr} {cs : List Expr} {sco : Scope} {own : List (Str × Nat)} {pos p2 : Pos} {wi : TI} {g : TG} {tt : TT} {te : TE} {use : Option (Value → Sem Unit)} {Qf : Value → Shared → Prop}
    (hc : X.calm = true) (nd : X.N.Nodup) (I : Inv X pins σ H s) (hi : PI X tg it0 wi) (bo : BlkOk X.N X.env.scope sco own)
    (hg : ∀ z G C cl fp, PG (X.blk z G sco (compEnvC sco cl C X.env) fp) tg g) (ht : ∀ z G C cl fp, PTs (X.blk z G sco (compEnvC sco cl C X.env) fp) cs tt)
    (he : ∀ z G C cl fp, Up X (X.blk z G sco (compEnvC sco cl C X.env) fp) pins σ → PE (X.blk z G sco (compEnvC sco cl C X.env) fp) elt te)
    (hs : ∀ x, foldedSetIterable it0 X.env x = pure x) (hq : tLc wi g tt te (own.map (·.2)) σ H Q)
    (out : ∀ D C z m G, Inv X pins σ G z → Q (.ref D) G → z.heap.Ns C m → FpOk X pins G C → compPost (model X.prog X.w) X.A X.xe use Qf (.ref D) C (.ok .next) z) :
    wpAny (model X.prog X.w) X.A (comprehension (.ListComp elt [⟨tg, it0, cs, 0⟩] sco pos) sco X.env p2 (newList []) false (eval it0 X.env) use) Qf X.xe s := by
  have fr : ∀ y ∈ sco.names, y.2 = .free → ∃ c, X.env.cells.lookup y.1 = some c := by
    intro y hy e
    exact (bo.free y hy e).elim (fun k => I.ok.has _ (.inl k)) (fun k => I.ok.has _ (.inr k))
  apply wpAny_comprehension_free (use := use) rfl hs (closure_ok fr) bo.kind (by intro y hy e; rw [bo.uniq y hy, e])
  refine thn (hi.run pins s σ H _ I hq) ?_
  intro xv s1 hx
  refine thn hx ?_
  rintro _ s2 ⟨it, fp, tn, J, H2, rfl, I2, T, st2, f2, q⟩
  refine wpAny_newObj_type (newEnv_comp ?_) (by show 0 ≤ sizeLine; decide)
  have nD : H2 s2.heap.objs.size = none := I2.hok.fresh (Nat.le_refl _)
  obtain ⟨W, ⟨m0, w0⟩, turn⟩ := q s2.heap.objs.size nD
  have I3 := I2.laid (t' := s2.toks) (h' := s2.heap.push { cls := .type "list", data := .seq ([] : List Value).toArray }) (a := s2.heap.objs.size) (o := .lst []) (fun b o e => Heap.get?_push_of_some _ e) (Nat.le_refl _) ⟨Nat.zero_le _, [], 0, .nil, Heap.get?_push_size _ rfl⟩
  have f3 : ∀ b ∈ fp, FpOk X pins (upd H2 s2.heap.objs.size (.lst [])) b ∧ b < (s2.heap.push { cls := .type "list", data := .seq ([] : List Value).toArray }).objs.size := by
    intro b hb
    obtain ⟨o, e, _⟩ := T.obj _ _ st2 b hb
    have hlt := Heap.lt_size e
    refine ⟨⟨?_, (f2 b hb).2⟩, by rw [Heap.size_push]; exact Nat.lt_succ_of_lt hlt⟩
    rw [upd_ne (Nat.ne_of_lt hlt)]
    exact (f2 b hb).1
  exact blk_run hc nd I3 bo f3 T (T.keep _ _ _ st2 fun b _ o e => Heap.get?_push_of_some _ e) w0 hg ht he turn (fun z m G Iz qz hm hf => out _ _ z m G Iz qz hm hf)
/-- as a value -/
theorem e_lcUp {elt tg it0 : Expr} {cs : List Expr} {sco : Scope} {own : List (Str × Nat)} {pos : Pos} {wi : TI} {g : TG} {tt : TT} {te : L2.St → TE} (hc : X.calm = true) (nd : X.N.Nodup) (hi : PI X tg it0 wi) (bo : BlkOk X.N X.env.scope sco own)
    (hg : ∀ z G C cl fp, PG (X.blk z G sco (compEnvC sco cl C X.env) fp) tg g) (ht : ∀ z G C cl fp, PTs (X.blk z G sco (compEnvC sco cl C X.env) fp) cs tt)
    (he : ∀ pins σ z G C cl fp, Up X (X.blk z G sco (compEnvC sco cl C X.env) fp) pins σ → PE (X.blk z G sco (compEnvC sco cl C X.env) fp) elt (te σ)) (hs : ∀ x, foldedSetIterable it0 X.env x = pure x := by intro _; rfl) :
    PE X (.ListComp elt [⟨tg, it0, cs, 0⟩] sco pos) (fun σ H Q => tLc wi g tt (te σ) (own.map (·.2)) σ H Q) := by
  constructor
  intro pins s σ H Q I hq
  rw [eval_ListComp]
  apply lc_up hc nd I hi bo hg ht (he pins σ) hs hq
  rintro D C z m G Iz qz hm ⟨f0, f1, _, f3, f4, f5⟩
  refine ⟨m, hm, fun h2 sb => ⟨.ref D, G, ?_, rfl, qz⟩⟩
  exact Iz.turned (t' := z.toks) (fun b o hb e => (sb.2 b hb).trans e) f0 f1 f3 f4 f5
end
end Rs
set_option maxRecDepth 100000
set_option maxHeartbeats 2000000
namespace Rs
open PySem PySem.Spec PyProof.Rows L2
/-! ### lambdas that are kept: their objects are told of the heap -/
/-- a function's object, held as it is -/
def FnO (f : Addr) (o : Obj) : HO := .ext fun h => h.get? f = some o
theorem fnO_tbl {f : Addr} {o : Obj} (ps : Array Value) : FnO f o ≠ .tbl ps := by
  intro z
  unfold FnO at z
  cases z
theorem fnO_ok {P : Program} {w : World} {H : Hp} {h : Heap} {f : Addr} {o : Obj} (e : h.get? f = some o) : ObjOk P w H h f (FnO f o) := ⟨e, ⟨o, e⟩, fun _ _ p st => st _ p⟩
/-- the names of a lambda: parameters that the def around has no slot for, captured ones, globals -/
structure LamQ (N : List Str) (sc scope : Scope) : Prop where
  kind : scope.kind = .function
  co : scope.isCoroutine = false
  gen : scope.isGenerator = false
  cel : ∀ y ∈ scope.names, y.2 ≠ .cell
  loc : ∀ y ∈ scope.names, y.2 = .local → y.1 ∉ N
  free : ∀ n ∈ scope.names, n.2 = .free →
    sc.names.lookup n.1 = some .cell ∨ sc.names.lookup n.1 = some .free
def lamQB (N : List Str) (sc scope : Scope) : Bool := decide (scope.kind = .function) && (!scope.isCoroutine && (!scope.isGenerator && scope.names.all fun y => decide (y.2 ≠ .cell) && (decide (y.2 = .local → y.1 ∉ N) && decide (y.2 = .free → (sc.names.lookup y.1 = some .cell ∨ sc.names.lookup y.1 = some .free)))))
theorem lamQ_by {N : List Str} {sc scope : Scope} (h : lamQB N sc scope = true) : LamQ N sc scope := by
  unfold lamQB at h
  rw [Bool.and_eq_true, Bool.and_eq_true, Bool.and_eq_true, List.all_eq_true] at h
  obtain ⟨h1, h2, h3, h4⟩ := h
  have q : ∀ y ∈ scope.names, y.2 ≠ .cell ∧ (y.2 = .local → y.1 ∉ N) ∧ (y.2 = .free → (sc.names.lookup y.1 = some .cell ∨ sc.names.lookup y.1 = some .free)) := by
    intro y hy
    have z := h4 y hy
    rw [Bool.and_eq_true, Bool.and_eq_true] at z
    exact ⟨of_decide_eq_true z.1, of_decide_eq_true z.2.1, of_decide_eq_true z.2.2⟩
  exact ⟨of_decide_eq_true h1, by simpa using h2, by simpa using h3, fun y hy => (q y hy).1, fun y hy => (q y hy).2.1, fun y hy => (q y hy).2.2⟩
/-- the defaults' tuple, in the heap and in what is told of it -/
def DflAt (params : Arguments) (dV : Value) (h : Heap) : Prop := (params.defaults = [] ∧ dV = .none) ∨ ∃ (t : Addr) (its : List Value), dV = .ref t ∧ IsTup h t its.toArray ∧ its.length = params.defaults.length ∧ params.defaults ≠ []
def DflH (params : Arguments) (dV : Value) (H : Hp) : Prop := (params.defaults = [] ∧ dV = .none) ∨ ∃ (t : Addr) (vs : List V), dV = .ref t ∧ H t = some (.tup vs) ∧ vs.length = params.defaults.length ∧ params.defaults ≠ []
/-- the lambda stands at f, made in the def of X -/
def LamAt (X : Cx) (params : Arguments) (body : Expr) (scope : Scope) (f : Addr) (H : Hp) : Prop := ∃ (c' : Addr) (dV doc pm ctv : Value),
  H f = some (FnO f (PySem.W.kdv_obj "<lambda>" (X.env.qual ++ "<lambda>") params (.expr body) scope (cloFrom X.env.cells scope.names []) dV doc pm c' ctv)) ∧ H c' = some (LamX.CodeO c' (X.env.qual ++ "<lambda>")) ∧ DflH params dV H
/-- all stays that is neither a table of code nor at b -/
def StN (b : Addr) (H H' : Hp) : Prop := ∀ x o, x ≠ b → H x = some o → (∀ ps, o ≠ .tbl ps) → H' x = some o
theorem LamAt.go {X : Cx} {params : Arguments} {body : Expr} {scope : Scope} {f : Addr} {H H' : Hp} (l : LamAt X params body scope f H) (e : ∀ x o, H x = some o → (∀ ps, o ≠ .tbl ps) → (∀ xs, o ≠ .lst xs) → H' x = some o) : LamAt X params body scope f H' := by
  obtain ⟨c', dV, doc, pm, ctv, h1, h2, h3⟩ := l
  refine ⟨c', dV, doc, pm, ctv, e _ _ h1 fnO_tbl (fun xs z => by unfold FnO at z; cases z), e _ _ h2 LamX.codeO_ne (fun xs z => by unfold LamX.CodeO at z; cases z), ?_⟩
  rcases h3 with h3 | ⟨t, vs, e1, e2, e3⟩
  · exact .inl h3
  · exact .inr ⟨t, vs, e1, e _ _ e2 (fun ps z => by cases z) (fun ps z => by cases z), e3⟩
section
variable {X : Cx} {s s1 : Shared} {H HZ : Hp} {σ : L2.St} {pins : List (Addr × Obj)}
/-- the lambda's frame, entered at s1; what the def around knew at s holds of the captured names -/
theorem lam_in {A : Around} {outer : List Env} {E : XK} {scope : Scope} {f c' : Addr} {h₁ : Heap} {tk : Nat} {m : Str → Option Value} (I : Inv X pins σ H s) (L : LamQ X.N X.env.scope scope) (e0 : Env0 X.prog X.w X.K X.mg X.base A outer s1 HZ) (hd : A.handled = none)
    (un : Un (frs X.stack) [] H HZ s.heap s1.heap) (hns : h₁.Ns s1.heap.objs.size m) (kp : ∀ b o, s1.heap.get? b = some o → h₁.get? b = some o) :
    Inv (LamX.lamCx X A outer s1 HZ E scope f c') [] σ HZ { s1 with heap := h₁, toks := tk } := by
  have fr : ∀ y ∈ scope.names, y.2 = .free → ∃ c, X.env.cells.lookup y.1 = some c := by
    intro y hy e
    exact (L.free y hy e).elim (fun k => I.ok.has _ (.inl k)) (fun k => I.ok.has _ (.inr k))
  have got : ∀ {y : Str} {c : Addr}, (cloFrom X.env.cells scope.names []).lookup y = some c → X.env.cells.lookup y = some c := by
    intro y c e
    have cm := cloFrom_mem (PySem.mem_of_lookup e)
    rcases cm with hm | ⟨h1, h2⟩
    · cases hm
    · obtain ⟨c1, hc1⟩ := fr _ h1 rfl
      dsimp only at hc1
      rw [hc1] at h2
      rw [hc1, h2]
      rfl
  have has : ∀ {y : Str}, scope.names.lookup y = some .free → ∃ c, (cloFrom X.env.cells scope.names []).lookup y = some c := by
    intro y hl
    exact mem_lookup (cloFrom_has (acc := []) (PySem.mem_of_lookup hl))
  have cel : ∀ {c : Addr} {v : Option Value}, H c = none → s.heap.IsCell c v → h₁.IsCell c v := by
    rintro c v n ⟨o, ho, hd⟩
    obtain ⟨sl, q⟩ := un.any ho n (by simp)
    exact ⟨_, kp _ _ q, hd⟩
  have none_ex : ∀ b : Addr, b ∉ (LamX.lamCx X A outer s1 HZ E scope f c').ex := by
    intro b hb
    cases hb
  constructor
  case ok =>
    constructor
    case mod => exact e0.mod
    case kind => exact L.kind
    case glob => rfl
    case blt => rfl
    case above => exact Nat.le_refl _
    case inj => exact fun y z c e1 e2 => I.ok.inj y z c (got e1) (got e2)
    case has =>
      intro y hy
      rcases hy with hy | hy
      · exact absurd rfl (L.cel _ (PySem.mem_of_lookup hy))
      · exact has hy
    case cab => exact fun y c z _ => nomatch (show false = true from z)
    case hd => exact fun _ => hd
    case frames => exact Around.frames_deeper e0.frames
    case stk => exact .inr ⟨rfl, rfl⟩
    case exf => exact fun b z => absurd z (none_ex b)
    case bs => exact e0.bs
    case bsz => exact e0.bsz
    case noex => exact fun b _ _ => none_ex b
    case exfs => exact fun b z => absurd z (none_ex b)
    case funs => exact e0.funs
    case frf => exact e0.frf
  case os => rfl
  case bare => exact e0.bare
  case base => exact Un.kept kp
  case loc =>
    refine ⟨m, hns, ?_⟩
    intro i y v e1 e2 e3
    rcases e3 with k | k | k
    · exact absurd (List.mem_of_getElem? e1) (L.loc _ (PySem.mem_of_lookup k) rfl)
    · exact absurd rfl (L.cel _ (PySem.mem_of_lookup k))
    · have kk : scope.names.lookup y = some .free := k
      have src := L.free _ (PySem.mem_of_lookup kk) rfl
      dsimp only at src
      obtain ⟨_, _, hl⟩ := I.loc
      obtain ⟨u, r, q⟩ := hl i y v e1 e2 (src.elim (fun k => .inr (.inl k)) (fun k => .inr (.inr k)))
      obtain ⟨c2, h2⟩ := has kk
      refine ⟨u, r, .inr ⟨.inr kk, c2, h2, ?_⟩⟩
      have c1 := got h2
      rcases q with ⟨k', _⟩ | ⟨_, c3, e', z⟩
      · have k' : X.env.scope.names.lookup y = some .local := k'
        rcases src with k2 | k2 <;> rw [k'] at k2 <;> cases k2
      · rw [c1] at e'
        cases e'
        exact cel (I.freeC y _ c1) z
  case cell =>
    intro y c e
    obtain ⟨u, z⟩ := I.cell y c (got e)
    exact ⟨u, cel (I.freeC y c (got e)) z⟩
  case free => exact e0.hok.fresh (Nat.le_refl _)
  case freeC =>
    intro y c e
    obtain ⟨v, o, ho, _⟩ := I.cell y c (got e)
    exact un.free c o ho (I.freeC y c (got e)) (by simp)
  case pin =>
    intro q hq
    cases hq
  case hok => exact e0.hok.kept kp
  case len => exact I.len
/-- how a lambda that is called without arguments binds its parameters -/
def LamBind (params : Arguments) (body : Expr) (scope : Scope) : Prop := ∀ (z : Shared) (q : Str) (cl : List (Str × Addr)) (dV doc pm cv ctv : Value), DflAt params dV z.heap →
  ∃ bs, BindsTo z (PySem.W.kdv_fn "<lambda>" q params (.expr body) scope cl dV doc pm cv ctv) ⟨[], []⟩ bs ∧ ∀ y ∈ bs, scope.names.lookup y.1 = some .local
/-- a(), in the def of the name qk that got the lambda: entered at s -/
theorem pe_actL {CXk : CXT} {Ek : XK} {Nk : List Str} {qk : Str} {sg : Scope} {g f : Addr} {cdk : Value} {params : Arguments} {body : Expr} {scope : Scope} {k i : Nat} {a : Str} {pn : List (Addr × Obj)} {xe : Value → Shared → Prop} {W : WX} {E : XK} {tb : TE} {p1 p2 : Pos}
    (I : Inv X pins σ H s) (L : LamQ X.N X.env.scope scope) (hb : LamBind params body scope)
    (tk : Takes ((cxOf CXk X.prog X.w X.K X.mg X.base Nk qk sg g cdk X.A X.stack s H Ek).tr pn xe) W) (hW : ∀ cls d τ G, E cls d G → W cls d τ G) (hr : Room (k + 1) (X.A.deeper (envOfC qk sg s.heap.objs.size g cdk)))
    (hbody : ∀ (A : Around) (outer : List Env) (z : Shared) (G : Hp) (c' : Addr), Room k (A.deeper (LamX.lamEnv X scope z.heap.objs.size f c')) → PE (LamX.lamCx X A outer z G E scope f c') body tb)
    (hN : Nk[i]? = some a) (hv : Vis sg a) (hd : (a == ("__debug__" : Str)) = false := by decide) (hcd : (a == ("__classdict__" : Str)) = false := by decide) :
    PE ((cxOf CXk X.prog X.w X.K X.mg X.base Nk qk sg g cdk X.A X.stack s H Ek).tr pn xe) (.Call (.Name a p1) [] [] p2)
      (fun τ G Q => τ[i]? = some (some (.ref f)) ∧ LamAt X params body scope f G ∧ tb σ G Q) := by
  constructor
  rintro pz z τ G Q IZ ⟨hs, ⟨c', dV, doc, pm, ctv, hf, hc, hdf⟩, ht⟩
  apply wpAny_Call_Name_kw
  refine thn ((pe_var (pos := p1) (i := i) hN hv hd hcd).run pz z τ G (fun v G1 => v = .ref f ∧ G1 = G) IZ ⟨.ref f, hs, rfl, rfl⟩) ?_
  rintro u z1 ⟨v, G1, I1, r1, rfl, rfl⟩
  obtain rfl : u = Value.ref f := r1
  have of1 : z1.heap.get? f = some _ := (I1.hok f _ hf).1
  apply PySem.W.callWith_F0 ⟨_, _, _, _, of1⟩
  have un : Un (frs X.stack) [] H G1 s.heap z1.heap := I1.base
  obtain ⟨⟨oc, vs, t, hoc, hdc, hvc⟩, _, _⟩ := I1.hok c' _ hc
  have hdf2 : DflAt params dV z1.heap := by
    rcases hdf with hdf | ⟨tt, vs, e1, e2, e3⟩
    · exact .inl hdf
    · obtain ⟨_, its, r, x⟩ := I1.hok tt _ e2
      exact .inr ⟨tt, its, e1, x, by rw [← e3.1]; exact r.length.symm, e3.2⟩
  obtain ⟨bs, hbs, hloc⟩ := hb z1 (X.env.qual ++ "<lambda>") (cloFrom X.env.cells scope.names []) dV doc pm (.ref c') ctv hdf2
  have rc : codeAny (model X.prog X.w) (X.A.deeper (envOfC qk sg s.heap.objs.size g cdk)) (.call (.ref f) ⟨[], []⟩) (CR (L2.CX X.prog X.w) (envOfC qk sg s.heap.objs.size g cdk :: X.stack) X.prog X.w G1 z1 Q E) z1 := by
    apply PySem.W.kla_callFunE hr.depth of1 rfl L.co L.gen rfl ⟨c', oc, vs, t, rfl, hoc, hdc, hvc⟩
    refine hbs _ _ _ _ (wpAny_newFunctionEnv L.cel hloc (fun h₁ hns hsb => ⟨I1.nolimit.fresh _ hsb, ?_⟩) L.kind)
    show codeAny _ _ (.expr body (LamX.lamEnv X scope z1.heap.objs.size f c')) _ _
    have kp : ∀ b o, z1.heap.get? b = some o → h₁.get? b = some o := by
      intro b o e
      exact hsb.extBut b o (Nat.ne_of_lt (Heap.lt_size e)) (Heap.get?_push_of_some _ e)
    have J := lam_in (E := E) (f := f) (c' := c') (tk := z1.toks + bs.length) I L I1.env0 hr.hd un hns kp
    apply PySem.W.kla_codeExpr
    refine wpAny_mono ((hbody _ _ z1 G1 c' (hr.deeper _)).run [] _ _ G1 Q J ht) ?_ (fun e s' hq => hq)
    rintro v s' ⟨y, H', J', rv, q⟩
    exact ⟨y, H', J'.os, J'.bare, J'.base, J'.hok, rv, q⟩
  have hx : Passes (L2.CX X.prog X.w) ((cxOf CXk X.prog X.w X.K X.mg X.base Nk qk sg g cdk X.A X.stack s H Ek).tr pn xe) E := passes_call tk hW
  refine wpAny_call (codeAny_mono rc ?_)
  intro r s' hq
  match r, hq with
  | .error e, hq => exact hx pz τ G1 z1 e s' I1 hq
  | .ok (.ret u), hq => exact I1.after hq
end
end Rs
set_option maxRecDepth 100000
set_option maxHeartbeats 2000000
namespace Rs
open PySem PySem.Spec PyProof.Rows L2
section
variable {X : Cx} {s : Shared} {H : Hp} {σ : L2.St} {pins : List (Addr × Obj)}
theorem tabs_new {T : List (Addr × Str)} {H : Hp} {p : Addr} {o : HO} (t : LamX.Tabs T H) (h : H p = none) : LamX.Tabs T (upd H p o) := t.ext fun b x e => by
  rw [upd_ne (ne_of_none e h)]
  exact e
theorem extN_new {H : Hp} {p : Addr} {o : HO} (h : H p = none) : LamX.ExtN H (upd H p o) := fun b x e _ => by
  rw [upd_ne (ne_of_none e h)]
  exact e
/-- the lambda's object is made, its defaults laid -/
theorem lam_tail {T : List (Addr × Str)} {c P : Addr} {params : Arguments} {body : Expr} {scope : Scope} {pos : Pos} {line : Nat} {dV : Value} {E : Value → Shared → Prop} {Q : Value → Shared → Prop} (I : Inv X pins σ H s) (TB : LamX.TabB X.base X.mg c P) (hcode : X.env.code = .ref c)
    (hm : (P, X.env.qual ++ "<lambda>") ∈ T) (hu : ∀ p ∈ T, p.1 = P → p.2 = X.env.qual ++ "<lambda>") (hT : LamX.Tabs T H) (L : LamQ X.N X.env.scope scope) (hdf : DflH params dV H)
    (h : ∀ (f : Addr) (H1 : Hp) (s' : Shared), Inv X pins σ H1 s' → LamX.ExtN H H1 → LamX.Tabs T H1 → H f = none → LamAt X params body scope f H1 → Q (.ref f) s') :
    wpAny (model X.prog X.w) X.A (makeTail "<lambda>" (X.env.qual ++ "<lambda>") params (.expr body) scope X.env dV .none none pos line) Q E s := by
  obtain ⟨ps, hP, ht, ha⟩ := hT _ hm
  have fr : ∀ y ∈ scope.names, y.2 = .free → ∃ c, X.env.cells.lookup y.1 = some c := by
    intro y hy e
    exact (L.free y hy e).elim (fun k => I.ok.has _ (.inl k)) (fun k => I.ok.has _ (.inr k))
  have bP : s.heap.BuiltinsAt X.mg P := TB.bm.keeps I.bk
  have oP : s.heap.get? P = some { cls := .none, data := .fields ps } := I.hok P _ hP
  have dfl : ∀ {H1 : Hp}, LamX.ExtN H H1 → DflH params dV H1 := by
    intro H1 e
    rcases hdf with q | ⟨t, vs, e1, e2, e3⟩
    · exact .inl q
    · exact .inr ⟨t, vs, e1, e _ _ e2 (fun ps z => by cases z), e3⟩
  cases hc : codeAmong pos ps.toList with
  | none =>
    apply PySem.W.kdv_makeTail (mg := X.mg) (c := c) (P := P) (ps := ps) (closure_ok fr) I.ok.glob (I.mod.glob.keeps I.bk) hcode (TB.code.keeps I.bk) oP ht hc TB.gP bP
    rintro c' ctv doc h' tk hx hge hlt ⟨c2, oc, vs, t, e2, hoc, hd, hv⟩ htb
    cases e2
    have hsz : s.heap.objs.size ≤ h'.objs.size := Nat.le_trans hge (Nat.le_of_lt hlt)
    have nC : H c' = none := I.hok.fresh hge
    have nF : H h'.objs.size = none := I.hok.fresh hsz
    have I1 := LamX.inv_table (t' := tk) (more := #[rawInt pos.line, rawInt pos.col, .ref c']) (h' := h') I hP (fun b o hb e => hx b o hb e) htb hge ⟨oc, vs, t, hoc, hd, hv⟩
    have e1 : LamX.ExtN H (upd (upd H P (.tbl (ps ++ #[rawInt pos.line, rawInt pos.col, .ref c']))) c' (LamX.CodeO c' (X.env.qual ++ "<lambda>"))) := by
      intro b o e n
      have nbP : b ≠ P := fun z => by
        rw [z, hP] at e
        exact n ps (Option.some.inj e).symm
      rw [upd_ne (ne_of_none e nC), upd_ne nbP]
      exact e
    have n1 : upd (upd H P (.tbl (ps ++ #[rawInt pos.line, rawInt pos.col, .ref c']))) c' (LamX.CodeO c' (X.env.qual ++ "<lambda>")) h'.objs.size = none := by
      rw [upd_ne (Nat.ne_of_gt hlt), upd_ne (fun z => by rw [z, hP] at nF; cases nF)]
      exact nF
    have T1 : LamX.Tabs T (upd (upd H P (.tbl (ps ++ #[rawInt pos.line, rawInt pos.col, .ref c']))) c' (LamX.CodeO c' (X.env.qual ++ "<lambda>"))) := by
      have apn : (ps ++ #[rawInt pos.line, rawInt pos.col, .ref c']).toList = ps.toList ++ [rawInt pos.line, rawInt pos.col, .ref c'] := by simp
      intro p hp
      by_cases hb : p.1 = P
      · rw [hu p hp hb, hb]
        refine ⟨_, by rw [upd_ne (ne_of_none hP nC), upd_same], by rw [apn]; exact PySem.TriplesOk_snoc _ _ _ _ ht, ?_⟩
        intro p' cv hcv
        rw [apn] at hcv
        rcases LamX.among_app _ ht hcv with z | z
        · obtain ⟨c0, g1, g2⟩ := ha p' cv z
          exact ⟨c0, g1, e1 _ _ g2 LamX.codeO_ne⟩
        · exact ⟨c', z, upd_same⟩
      · obtain ⟨ps', a1, a2, a3⟩ := hT p hp
        refine ⟨ps', by rw [upd_ne (ne_of_none a1 nC), upd_ne hb]; exact a1, a2, ?_⟩
        intro p' cv hcv
        obtain ⟨c0, g1, g2⟩ := a3 p' cv hcv
        exact ⟨c0, g1, e1 _ _ g2 LamX.codeO_ne⟩
    have I2 := I1.laid (t' := tk) (a := h'.objs.size) (o := FnO h'.objs.size (PySem.W.kdv_obj "<lambda>" (X.env.qual ++ "<lambda>") params (.expr body) scope (cloFrom X.env.cells scope.names []) dV doc ((X.mg "__name__").getD .none) c' ctv)) (h' := h'.push _) (fun b o e => Heap.get?_push_of_some _ e) (Nat.le_refl _) (fnO_ok (Heap.get?_push_size _ rfl))
    have e2 := e1.trans (extN_new (o := FnO h'.objs.size (PySem.W.kdv_obj "<lambda>" (X.env.qual ++ "<lambda>") params (.expr body) scope (cloFrom X.env.cells scope.names []) dV doc ((X.mg "__name__").getD .none) c' ctv)) n1)
    refine h _ _ _ I2 e2 (tabs_new T1 n1) nF ⟨c', dV, doc, _, ctv, upd_same, ?_, dfl e2⟩
    rw [upd_ne (Nat.ne_of_lt hlt), upd_same]
  | some cv =>
    obtain ⟨c', rfl, hco⟩ := ha pos cv hc
    apply PySem.W.kdv_makeTailHit (mg := X.mg) (c := c) (P := P) (ps := ps) (closure_ok fr) I.ok.glob (I.mod.glob.keeps I.bk) hcode (TB.code.keeps I.bk) oP ht hc bP
    intro ctv doc h' tk hx hsz
    have nF : H h'.objs.size = none := I.hok.fresh hsz
    have I1 := I.kept (t' := tk) hx
    have I2 := I1.laid (t' := tk) (a := h'.objs.size) (o := FnO h'.objs.size (PySem.W.kdv_obj "<lambda>" (X.env.qual ++ "<lambda>") params (.expr body) scope (cloFrom X.env.cells scope.names []) dV doc ((X.mg "__name__").getD .none) c' ctv)) (h' := h'.push _) (fun b o e => Heap.get?_push_of_some _ e) (Nat.le_refl _) (fnO_ok (Heap.get?_push_size _ rfl))
    have e2 := extN_new (o := FnO h'.objs.size (PySem.W.kdv_obj "<lambda>" (X.env.qual ++ "<lambda>") params (.expr body) scope (cloFrom X.env.cells scope.names []) dV doc ((X.mg "__name__").getD .none) c' ctv)) nF
    exact h _ _ _ I2 e2 (tabs_new hT nF) nF ⟨c', dV, doc, _, ctv, upd_same, e2 _ _ hco LamX.codeO_ne, dfl e2⟩
end
/-- a lambda made: it stands at f -/
def tMk (T : List (Addr × Str)) (A : Addr → Hp → Prop) : TE := fun _ H Q => LamX.Tabs T H ∧ ∀ f H1, LamX.ExtN H H1 → LamX.Tabs T H1 → H f = none → A f H1 → Q (.ref f) H1
section
variable {X : Cx}
theorem e_lam0 {T : List (Addr × Str)} {c P : Addr} {params : Arguments} {body : Expr} {scope : Scope} {pos : Pos} (TB : LamX.TabB X.base X.mg c P) (hcode : X.env.code = .ref c)
    (hm : (P, X.env.qual ++ "<lambda>") ∈ T) (hu : ∀ p ∈ T, p.1 = P → p.2 = X.env.qual ++ "<lambda>") (L : LamQ X.N X.env.scope scope) (h0 : params.defaults = []) (hdef : defaultsOf params X.env = ([], [])) :
    PE X (.Lambda params body scope pos) (tMk T (LamAt X params body scope)) := by
  constructor
  rintro pins s σ H Q I ⟨hT, q⟩
  apply PySem.W.kla_eval hdef
  rw [makeFunction_eq]
  simp only [List.zip_nil_right, List.filterMap_nil, List.isEmpty_nil, if_true, pure_bind]
  refine lam_tail I TB hcode hm hu hT L (.inl ⟨h0, rfl⟩) ?_
  intro f H1 s' I1 e T1 nf l
  exact ⟨.ref f, H1, I1, rfl, q f H1 e T1 nf l⟩
/-- one parameter with a default -/
theorem e_lam1 {T : List (Addr × Str)} {c P : Addr} {params : Arguments} {d body : Expr} {td : TE} {scope : Scope} {pos : Pos} (TB : LamX.TabB X.base X.mg c P) (hcode : X.env.code = .ref c)
    (hm : (P, X.env.qual ++ "<lambda>") ∈ T) (hu : ∀ p ∈ T, p.1 = P → p.2 = X.env.qual ++ "<lambda>") (L : LamQ X.N X.env.scope scope) (hd : params.defaults = [d]) (hk : params.kw_defaults = []) (pd : PE X d td) :
    PE X (.Lambda params body scope pos) (fun σ H Q => td σ H fun v H1 => tMk T (LamAt X params body scope) σ H1 Q) := by
  constructor
  intro pins s σ H Q I h
  apply PySem.W.kdv_lam (by rw [hd]; rfl) hk
  rw [hd]
  apply PySem.W.kdv_all1
  refine thn (pd.run pins s σ H _ I h) ?_
  rintro u s1 ⟨v, H1, I1, r1, hT, q⟩
  apply PySem.W.kdv_all0
  rw [makeFunction_eq]
  simp only [List.zip_nil_right, List.filterMap_nil, List.isEmpty_nil, List.isEmpty_cons, if_true, pure_bind, Bool.false_eq_true, if_false]
  refine wpAny_bind (wpAny_newTextTuple ?_)
  have nt : H1 s1.heap.objs.size = none := I1.hok.fresh (Nat.le_refl _)
  have I2 := I1.laid (t' := s1.toks) (a := s1.heap.objs.size) (o := .tup [v]) (h' := s1.heap.push { cls := .type "tuple", data := .seq [u].toArray }) (fun b o e => Heap.get?_push_of_some _ e) (Nat.le_refl _) ⟨by show 1 ≤ sizeLine; decide, [u], .cons r1 .nil, IsTup.new _ _⟩
  refine lam_tail I2 TB hcode hm hu (tabs_new hT nt) L (.inr ⟨_, [v], rfl, upd_same, by rw [hd]; rfl, by rw [hd]; exact List.cons_ne_nil _ _⟩) ?_
  intro f H3 s' I3 e T3 nf l
  refine ⟨.ref f, H3, I3, rfl, q f H3 ((extN_new nt).trans e) T3 ?_ l⟩
  cases hf : H1 f with
  | none => rfl
  | some o =>
    rw [upd_ne (ne_of_none hf nt), hf] at nf
    cases nf
end
/-! ### the def that is handed a lambda -/
/-- a: the lambda's name in the def; TT: what the def makes of the lambda's reading -/
def GivesL (X : Cx) (Nk : List Str) (x : Str) (sg : Scope) (g : Addr) (cdk : Value) (bk : List Stmt) (a : Str) (TT : (XK → Hp → VK → Prop) → Hp → VK → Prop) : Prop :=
  ∀ (f : Addr) (s : Shared) (H : Hp) (Q : VK) (tl : XK → Hp → VK → Prop) (cd : Hp → Prop),
    (∀ (W : WX) (pn : List (Addr × Obj)) (xe : Value → Shared → Prop) (E : XK) (p1 p2 : Pos), Takes ((cxOf C8.CX0 X.prog X.w X.K X.mg X.base Nk x sg g cdk X.A X.stack s H C8.E0).tr pn xe) W → (∀ cls d τ G, E cls d G → W cls d τ G) →
      PE ((cxOf C8.CX0 X.prog X.w X.K X.mg X.base Nk x sg g cdk X.A X.stack s H C8.E0).tr pn xe) (.Call (.Name a p1) [] [] p2) (fun τ G Q => τ[0]? = some (some (.ref f)) ∧ cd G ∧ tl E G Q)) →
    cd H → TT tl H Q →
    ∃ t, PSs (cxOf C8.CX0 X.prog X.w X.K X.mg X.base Nk x sg g cdk X.A X.stack s H C8.E0).nox bk t ∧ t { nx := fun _ H' => Q .non H', rt := Q } (L2.start Nk [.ref f]) H
/-- a lambda's reading in the def of X -/
structure LamB (X : Cx) (k : Nat) (params : Arguments) (body : Expr) (scope : Scope) (t : XK → TE) : Prop where
  L : LamQ X.N X.env.scope scope
  b : LamBind params body scope
  run : ∀ (A : Around) (outer : List Env) (z : Shared) (G : Hp) (E : XK) (f c' : Addr), Room k (A.deeper (LamX.lamEnv X scope z.heap.objs.size f c')) → PE (LamX.lamCx X A outer z G E scope f c') body (t E)
/-- x(e), e a lambda of the def of X; Z stands in X or is X -/
theorem e_giveL {X Z : Cx} {TT : (XK → Hp → VK → Prop) → Hp → VK → Prop} {x a : Str} {g : Addr} {k : Nat} {pk : Arguments} {bk : List Stmt} {sg : Scope} {dV kV doc pm cdv ct oc : Value} {an od : Option Addr} {osl : Array (Option Value)} {Nk : List Str} {pins : List (Addr × Obj)} {σ : L2.St}
    {e : Expr} {te : TE} {p pos : Pos} (up : Up X Z pins σ) (eZ : Z.prog = X.prog ∧ Z.w = X.w ∧ Z.K = X.K ∧ Z.mg = X.mg ∧ Z.base = X.base ∧ Z.A = X.A ∧ Z.stack = X.stack) (hg : Gl Z x) (hm : X.mg x = some (.ref g)) (hk : PySem.W.keepIn X.K (.ref g) = true)
    (lk : X.K.lookup g = some ⟨oc, od, .func (PySem.W.fnOf x x pk bk sg dV kV doc pm an cdv ct), osl⟩) (hcg : PySem.W.codeIn X.K cdv x = true) (hb : L2.Binds X.K (PySem.W.fnOf x x pk bk sg dV kV doc pm an cdv ct) [a] []) (Sg : FnScope Nk [a] sg) (hNg : Nk[0]? = some a) (hva : Vis sg a)
    (hG : GivesL X Nk x sg g cdv bk a TT) (hr : Room (k + 2) X.A) (he : PE Z e te)
    (hdb : (x == ("__debug__" : Str)) = false := by decide) (hd : (a == ("__debug__" : Str)) = false := by decide) (hcd : (a == ("__classdict__" : Str)) = false := by decide)
    (hst : starEach [e] Z.env = (false, eval e Z.env) :: starEach [] Z.env := by rfl) (hpl : (backTo pos (starEach [] Z.env)).any (·.1) = false := by rfl) :
    PE Z (.Call (.Name x p) [e] [] pos) (fun τ G Q => te τ G fun v G1 => ∃ (f : Addr) (params : Arguments) (body : Expr) (scope : Scope) (t : XK → TE), [v] = [V.ref f] ∧ LamB X k params body scope t ∧ LamAt X params body scope f G1 ∧ TT (fun E G' Q' => t E σ G' Q') G1 Q) := by
  constructor
  intro pz z τ G Q IZ h
  obtain ⟨e1, e2, e3, e4, e5, e6, e7⟩ := eZ
  have hm' : Z.mg x = some (.ref g) := by rw [e4]; exact hm
  have hk' : PySem.W.keepIn Z.K (.ref g) = true := by rw [e3]; exact hk
  apply wpAny_Call_Name_kw
  refine ld_glob IZ hg hm' ?_ hdb
  refine PySem.W.callWith_K (h₀ := Z.base) IZ.ok.mod.kin hk' ?_ hst hpl
  refine thn ((pa_cons he pa_nil hst).run pos pz z τ G (fun vs G1 => ∃ (f : Addr) (params : Arguments) (body : Expr) (scope : Scope) (t : XK → TE), vs = [.ref f] ∧ LamB X k params body scope t ∧ LamAt X params body scope f G1 ∧ TT (fun E G' Q' => t E σ G' Q') G1 Q) IZ h) ?_
  rintro us z1 ⟨vs, G1, I1, r1, f, params, body, scope, t, rfl, LB, LA, tt⟩
  obtain ⟨u, rfl, ru⟩ := vals1 r1
  obtain rfl : u = Value.ref f := ru
  refine ⟨I1.kIn, ?_⟩
  have J := up _ _ _ _ I1
  have rc : codeAny (model X.prog X.w) X.A (.call (.ref g) ⟨[.ref f], []⟩) (CR C8.CX0 X.stack X.prog X.w G1 z1 Q C8.E0) z1 := by
    refine LamX.run_ofS (N := Nk) (ps := [a]) (us := [.ref f]) (vs := [.ref f]) lk hcg Sg hr J.env0 (hb z1 [.ref f] J.kIn rfl) (.cons rfl .nil) rfl fun hr' => ?_
    obtain ⟨t', ht', hq'⟩ := hG f z1 G1 Q (fun E G' Q' => t E σ G' Q') (LamAt X params body scope f) (fun W pn xe E p1 p2 tk hW => pe_actL (i := 0) J LB.L LB.b tk hW hr' (fun A outer s H c' hr2 => LB.run A outer s H E f c' hr2) hNg hva hd hcd) LA tt
    exact ⟨t', ht'.nox, hq'⟩
  rw [← e1, ← e2, ← e6, ← e7] at rc
  refine wpAny_call (codeAny_mono rc ?_)
  intro r s2 hq
  match r, hq with
  | .error e, hq => exact (show False from hq).elim
  | .ok (.ret u), hq => exact I1.after hq
end Rs
set_option maxRecDepth 100000
set_option maxHeartbeats 2000000
namespace Rs
open PySem PySem.Spec PyProof.Rows L2
/-- f(k = v): keywords alone -/
theorem e_callK0 {X : Cx} {CX : CXT} {k : Nat} {f : Addr} {fd : FuncData} {ps ks : List Str} {sp : Sp} {E : XK} {x : Str} {p pos : Pos} {kws : List Keyword} {tk : TA} {g : List Value → List Value → List Value} {gV : List V → List V → List V}
    (F : FnOk X.prog X.w X.K X.mg X.base CX k f fd ps sp) (hr : Room k X.A) (hg : Gl X x) (hm : X.mg x = some (.ref f)) (hk : PySem.W.keepIn X.K (.ref f) = true) (hb : KBinds X.K fd ps ks g gV) (hx : Passes CX X E) (hkw : PK X kws tk)
    (hall : (backToKw pos (keywordEach kws X.env)).all (·.1.isSome) = true := by rfl)
    (hks : (backToKw pos (keywordEach kws X.env)).filterMap (·.1) = ks := by rfl) (hdb : (x == ("__debug__" : Str)) = false := by decide)
    (hpl : ((backTo pos (starEach [] X.env)).any (·.1) || (backToKw pos (keywordEach kws X.env)).any (·.1.isNone)) = false := by rfl) : PE X (.Call (.Name x p) [] kws pos) (tCallK sp gV E tNil tk) := by
  constructor
  intro pins s σ H Q I h
  refine wpAny_Call_Name_kw (ld_glob I hg hm (PySem.W.callWith_KW0 (h₀ := X.base) I.ok.mod.kin hk hall (thn (hkw.run pos pins s σ H _ I h) ?_) hpl) hdb)
  rintro ws s2 ⟨zs, H2, I2, rz, q2⟩
  refine ⟨I2.kIn, ?_⟩
  rw [hks]
  exact run_fnk (us := []) (vs := []) F hr hb hx I2 .nil rz q2
/-- three keywords in the reverse order of the parameters -/
def rev3 {α : Type} : List α → List α → List α
  | [], [x, y, z] => [z, y, x]
  | _, _ => []
theorem rev3_rel {vs : List V} {us : List Value} {zs : List V} {ws : List Value} (r : Vals vs us) (rz : Vals zs ws) : Vals (rev3 vs zs) (rev3 us ws) := by
  cases r with
  | cons _ _ => exact .nil
  | nil =>
    cases rz with
    | nil => exact .nil
    | cons r1 rz =>
      cases rz with
      | nil => exact .nil
      | cons r2 rz =>
        cases rz with
        | nil => exact .nil
        | cons r3 rz =>
          cases rz with
          | nil => exact .cons r3 (.cons r2 (.cons r1 .nil))
          | cons _ _ => exact .nil
end Rs
set_option maxRecDepth 100000
set_option maxHeartbeats 2000000
namespace Rs
open PySem PySem.Spec PyProof.Rows L2
theorem ss_or {X : Cx} {b : List Stmt} {t1 t2 : TS} (h1 : PSs X b t1) (h2 : PSs X b t2) : PSs X b (fun D σ H => t1 D σ H ∨ t2 D σ H) := ⟨fun pins s σ H D I h => h.elim (h1.run pins s σ H D I) (h2.run pins s σ H D I)⟩
theorem up_self {X : Cx} : ∀ (pz : List (Addr × Obj)) (τ : L2.St) (G : Hp) (z : Shared), Inv X pz τ G z → ∃ pins, Inv X pins (id τ) G z := fun pz _ _ _ I => ⟨pz, I⟩
/-- x(e), e a lambda of the def of X; Z stands in X, or is X: sl tells X's slots by Z's -/
theorem e_giveG {X Z : Cx} {TT : (XK → Hp → VK → Prop) → Hp → VK → Prop} {x a : Str} {g : Addr} {k : Nat} {pk : Arguments} {bk : List Stmt} {sg : Scope} {dV kV doc pm cdv ct oc : Value} {an od : Option Addr} {osl : Array (Option Value)} {Nk : List Str} {sl : L2.St → L2.St}
    {e : Expr} {te : TE} {p pos : Pos} (up : ∀ (pz : List (Addr × Obj)) (τ : L2.St) (G : Hp) (z : Shared), Inv Z pz τ G z → ∃ pins, Inv X pins (sl τ) G z) (eZ : Z.prog = X.prog ∧ Z.w = X.w ∧ Z.K = X.K ∧ Z.mg = X.mg ∧ Z.base = X.base ∧ Z.A = X.A ∧ Z.stack = X.stack) (hg : Gl Z x) (hm : X.mg x = some (.ref g)) (hk : PySem.W.keepIn X.K (.ref g) = true)
    (lk : X.K.lookup g = some ⟨oc, od, .func (PySem.W.fnOf x x pk bk sg dV kV doc pm an cdv ct), osl⟩) (hcg : PySem.W.codeIn X.K cdv x = true) (hb : L2.Binds X.K (PySem.W.fnOf x x pk bk sg dV kV doc pm an cdv ct) [a] []) (Sg : FnScope Nk [a] sg) (hNg : Nk[0]? = some a) (hva : Vis sg a)
    (hG : GivesL X Nk x sg g cdv bk a TT) (hr : Room (k + 2) X.A) (he : PE Z e te)
    (hdb : (x == ("__debug__" : Str)) = false := by decide) (hd : (a == ("__debug__" : Str)) = false := by decide) (hcd : (a == ("__classdict__" : Str)) = false := by decide)
    (hst : starEach [e] Z.env = (false, eval e Z.env) :: starEach [] Z.env := by rfl) (hpl : (backTo pos (starEach [] Z.env)).any (·.1) = false := by rfl) :
    PE Z (.Call (.Name x p) [e] [] pos) (fun τ G Q => te τ G fun v G1 => ∃ (f : Addr) (params : Arguments) (body : Expr) (scope : Scope) (t : XK → TE), [v] = [V.ref f] ∧ LamB X k params body scope t ∧ LamAt X params body scope f G1 ∧ TT (fun E G' Q' => t E (sl τ) G' Q') G1 Q) := by
  constructor
  intro pz z τ G Q IZ h
  obtain ⟨e1, e2, e3, e4, e5, e6, e7⟩ := eZ
  have hm' : Z.mg x = some (.ref g) := by rw [e4]; exact hm
  have hk' : PySem.W.keepIn Z.K (.ref g) = true := by rw [e3]; exact hk
  apply wpAny_Call_Name_kw
  refine ld_glob IZ hg hm' ?_ hdb
  refine PySem.W.callWith_K (h₀ := Z.base) IZ.ok.mod.kin hk' ?_ hst hpl
  refine thn ((pa_cons he pa_nil hst).run pos pz z τ G (fun vs G1 => ∃ (f : Addr) (params : Arguments) (body : Expr) (scope : Scope) (t : XK → TE), vs = [.ref f] ∧ LamB X k params body scope t ∧ LamAt X params body scope f G1 ∧ TT (fun E G' Q' => t E (sl τ) G' Q') G1 Q) IZ h) ?_
  rintro us z1 ⟨vs, G1, I1, r1, f, params, body, scope, t, rfl, LB, LA, tt⟩
  obtain ⟨u, rfl, ru⟩ := vals1 r1
  obtain rfl : u = Value.ref f := ru
  refine ⟨I1.kIn, ?_⟩
  obtain ⟨pins, J⟩ := up _ _ _ _ I1
  have rc : codeAny (model X.prog X.w) X.A (.call (.ref g) ⟨[.ref f], []⟩) (CR C8.CX0 X.stack X.prog X.w G1 z1 Q C8.E0) z1 := by
    refine LamX.run_ofS (N := Nk) (ps := [a]) (us := [.ref f]) (vs := [.ref f]) lk hcg Sg hr J.env0 (hb z1 [.ref f] J.kIn rfl) (.cons rfl .nil) rfl fun hr' => ?_
    obtain ⟨t', ht', hq'⟩ := hG f z1 G1 Q (fun E G' Q' => t E (sl τ) G' Q') (LamAt X params body scope f) (fun W pn xe E p1 p2 tk hW => pe_actL (i := 0) J LB.L LB.b tk hW hr' (fun A outer s H c' hr2 => LB.run A outer s H E f c' hr2) hNg hva hd hcd) LA tt
    exact ⟨t', ht'.nox, hq'⟩
  rw [← e1, ← e2, ← e6, ← e7] at rc
  refine wpAny_call (codeAny_mono rc ?_)
  intro r s2 hq
  match r, hq with
  | .error e, hq => exact (show False from hq).elim
  | .ok (.ret u), hq => exact I1.after hq
end Rs
set_option maxRecDepth 100000
set_option maxHeartbeats 2000000
namespace K7
open PySem PySem.Spec PyProof.Rows L2
def top (i : Nat) : Stmt := PySem.Challenge.pw_roundswap_k07_phrases_that_are_read.main.body.getD i (.Pass ⟨0, 0, 0, 0⟩)
abbrev sSignsOf : Stmt := top 7
abbrev sOpp : Stmt := top 8
abbrev sRWord : Stmt := top 12
abbrev sRPhrase : Stmt := top 13
abbrev sRFactor : Stmt := top 14
abbrev sRAtom : Stmt := top 15
abbrev sRGroup : Stmt := top 16
abbrev sRPair : Stmt := top 17
abbrev sRExp : Stmt := top 18
abbrev sBegins : Stmt := top 19
abbrev sMark : Stmt := top 20
abbrev sSpaces : Stmt := top 21
abbrev sChkM : Stmt := top 22
abbrev sNoDigit : Stmt := top 23
abbrev sPower : Stmt := top 24
abbrev sCut : Stmt := top 25
abbrev sBegin : Stmt := top 27
abbrev sDraw : Stmt := top 28
abbrev sAny : Stmt := top 29
abbrev sSame : Stmt := top 30
abbrev sField : Stmt := top 31
abbrev sWhy : Stmt := top 32
abbrev sLetters : Stmt := top 33
abbrev sSigns : Stmt := top 34
abbrev sBack : Stmt := top 35
abbrev sGone : Stmt := top 36
abbrev sSpace : Stmt := top 37
abbrev sLoose : Stmt := top 38
abbrev sIsDigit : Stmt := top 39
abbrev sLPower : Stmt := top 40
abbrev sLAtom : Stmt := top 41
abbrev sLPhrase : Stmt := top 42
abbrev sDue : Stmt := top 43
abbrev sLaw : Stmt := top 44
theorem scSignsOf : FnScope ["letters", "letter", "sign"] ["letters"] (defScope sSignsOf) := ⟨rfl, rfl, rfl, by decide +kernel, rfl, by decide +kernel, by decide +kernel⟩
theorem scOpp : FnScope ["word"] ["word"] (defScope sOpp) := ⟨rfl, rfl, rfl, by decide +kernel, rfl, by decide +kernel, by decide +kernel⟩
theorem scBegin : FnScope ["_law_script", "_law_cell", "_law_marks", "_law_seed"] ["_law_script"] (defScope sBegin) := ⟨rfl, rfl, rfl, by decide +kernel, rfl, by decide +kernel, by decide +kernel⟩
theorem scDraw : FnScope ["_law_box", "_law_many", "_law_cell", "_law_digit", "_law_seed"] ["_law_box", "_law_many"] (defScope sDraw) := ⟨rfl, rfl, rfl, by decide +kernel, rfl, by decide +kernel, by decide +kernel⟩
theorem scAny : FnScope ["_law_box", "_law_some"] ["_law_box", "_law_some"] (defScope sAny) := ⟨rfl, rfl, rfl, by decide +kernel, rfl, by decide +kernel, by decide +kernel⟩
theorem scSame : FnScope ["_law_found", "_law_due", "_law_k"] ["_law_found", "_law_due"] (defScope sSame) := ⟨rfl, rfl, rfl, by decide +kernel, rfl, by decide +kernel, by decide +kernel⟩
theorem scLetters : FnScope ["_law_box", "_law_many", "_law_found", "_law_k", "_law_left", "_law_letter"] ["_law_box", "_law_many"] (defScope sLetters) := ⟨rfl, rfl, rfl, by decide +kernel, rfl, by decide +kernel, by decide +kernel⟩
theorem scSigns : FnScope ["_law_letters_z", "_law_letter"] ["_law_letters_z"] (defScope sSigns) := ⟨rfl, rfl, rfl, by decide +kernel, rfl, by decide +kernel, by decide +kernel⟩
theorem scField : FnScope ["_law_e"] ["_law_e"] (defScope sField) := ⟨rfl, rfl, rfl, by decide +kernel, rfl, by decide +kernel, by decide +kernel⟩
theorem scWhy : FnScope ["_law_ask", "_law_e"] ["_law_ask"] (defScope sWhy) := ⟨rfl, rfl, rfl, by decide +kernel, rfl, by decide +kernel, by decide +kernel⟩
theorem scBack : FnScope ["_law_sign"] ["_law_sign"] (defScope sBack) := ⟨rfl, rfl, rfl, by decide +kernel, rfl, by decide +kernel, by decide +kernel⟩
theorem scGone : FnScope ["_law_one", "_law_sign"] ["_law_one"] (defScope sGone) := ⟨rfl, rfl, rfl, by decide +kernel, rfl, by decide +kernel, by decide +kernel⟩
theorem scRWord : FnScope ["text", "letters", "word", "at"] ["text", "letters"] (defScope sRWord) := ⟨rfl, rfl, rfl, by decide +kernel, rfl, by decide +kernel, by decide +kernel⟩
theorem scRPhrase : FnScope ["text", "signs", "at", "depth", "word", "factor"] ["text", "signs", "at", "depth"] (defScope sRPhrase) := ⟨rfl, rfl, rfl, by decide +kernel, rfl, by decide +kernel, by decide +kernel⟩
theorem scRFactor : FnScope ["text", "signs", "at", "depth", "word", "exponent"] ["text", "signs", "at", "depth"] (defScope sRFactor) := ⟨rfl, rfl, rfl, by decide +kernel, rfl, by decide +kernel, by decide +kernel⟩
theorem scRAtom : FnScope ["text", "signs", "at", "depth", "mark"] ["text", "signs", "at", "depth"] (defScope sRAtom) := ⟨rfl, rfl, rfl, by decide +kernel, rfl, by decide +kernel, by decide +kernel⟩
theorem scRGroup : FnScope ["text", "signs", "at", "depth", "word"] ["text", "signs", "at", "depth"] (defScope sRGroup) := ⟨rfl, rfl, rfl, by decide +kernel, rfl, by decide +kernel, by decide +kernel⟩
theorem scRPair : FnScope ["text", "signs", "at", "depth", "one", "other"] ["text", "signs", "at", "depth"] (defScope sRPair) := ⟨rfl, rfl, rfl, by decide +kernel, rfl, by decide +kernel, by decide +kernel⟩
theorem scRExp : FnScope ["text", "at", "minus", "begin", "first", "end", "number"] ["text", "at"] (defScope sRExp) := ⟨rfl, rfl, rfl, by decide +kernel, rfl, by decide +kernel, by decide +kernel⟩
theorem scBegins : FnScope ["text", "signs", "at", "depth", "mark"] ["text", "signs", "at", "depth"] (defScope sBegins) := ⟨rfl, rfl, rfl, by decide +kernel, rfl, by decide +kernel, by decide +kernel⟩
theorem scMark : FnScope ["text", "at"] ["text", "at"] (defScope sMark) := ⟨rfl, rfl, rfl, by decide +kernel, rfl, by decide +kernel, by decide +kernel⟩
theorem scSpaces : FnScope ["text", "at"] ["text", "at"] (defScope sSpaces) := ⟨rfl, rfl, rfl, by decide +kernel, rfl, by decide +kernel, by decide +kernel⟩
theorem scChkM : FnScope ["text", "at", "mark"] ["text", "at", "mark"] (defScope sChkM) := ⟨rfl, rfl, rfl, by decide +kernel, rfl, by decide +kernel, by decide +kernel⟩
theorem scNoDigit : FnScope ["text", "at"] ["text", "at"] (defScope sNoDigit) := ⟨rfl, rfl, rfl, by decide +kernel, rfl, by decide +kernel, by decide +kernel⟩
theorem scPower : FnScope ["word", "exponent"] ["word", "exponent"] (defScope sPower) := ⟨rfl, rfl, rfl, by decide +kernel, rfl, by decide +kernel, by decide +kernel⟩
theorem scCut : FnScope ["word"] ["word"] (defScope sCut) := ⟨rfl, rfl, rfl, by decide +kernel, rfl, by decide +kernel, by decide +kernel⟩
/-! the built-in names that the top leaves as they are -/
structure Bn (mg : Str → Option Value) : Prop where
  len : mg "len" = none
  int : mg "int" = none
  isinst : mg "isinstance" = none
  list : mg "list" = none
  tuple : mg "tuple" = none
  all : mg "all" = none
  range : mg "range" = none
  bool : mg "bool" = none
  str : mg "str" = none
  enum : mg "enumerate" = none
/-! the box of draws: at m the marks -/
def Bx (H : Hp) (b m : Addr) : Prop := ∃ (ms : List Int) (i r s : Int), H b = some (.lst [.ref m, .int i, .int r, .int s]) ∧ H m = some (.lst (ms.map V.int)) ∧ 0 ≤ i ∧ 0 ≤ r ∧ 0 ≤ s ∧ s < 2147483647
def BxTo (H H' : Hp) (b m : Addr) : Prop := Bx H' b m ∧ ∀ x, x ≠ b → H' x = H x
theorem Bx.put {H : Hp} {b m : Addr} {ms : List Int} {i r s i' r' s' : Int} (h : H b = some (.lst [.ref m, .int i, .int r, .int s])) (hm : H m = some (.lst (ms.map V.int))) (h1 : 0 ≤ i') (h2 : 0 ≤ r') (h3 : 0 ≤ s') (h4 : s' < 2147483647) :
    BxTo H (upd H b (.lst [.ref m, .int i', .int r', .int s'])) b m := by
  have nm : m ≠ b := fun e => by
    subst e
    rw [h] at hm
    cases ms with
    | nil => cases hm
    | cons x r => cases hm
  exact ⟨⟨ms, i', r', s', upd_same, by rw [upd_ne nm]; exact hm, h1, h2, h3, h4⟩, fun x hx => upd_ne hx⟩
theorem BxTo.trans {H H1 H2 : Hp} {b m : Addr} (x : BxTo H H1 b m) (y : BxTo H1 H2 b m) : BxTo H H2 b m := ⟨y.1, fun z hz => (y.2 z hz).trans (x.2 z hz)⟩
theorem BxTo.refl {H : Hp} {b m : Addr} (x : Bx H b m) : BxTo H H b m := ⟨x, fun _ _ => rfl⟩
section
variable {P : Program} {w : World} {K : PySem.W.Frag} {mg : Str → Option Value} {base : Heap}
def spDraw : Sp := fun vs H Q _ => ∃ (b m : Addr) (many : Int), vs = [.ref b, .int many] ∧ Bx H b m ∧ 0 < many ∧ many < 1000000 ∧ ∀ d H', 0 ≤ d → d < many → BxTo H H' b m → Q (.int d) H'
theorem ok_draw {f : Addr} {fd : FuncData} {k : Nat} (F : Fun K "_law_draw" "_law_draw" sDraw f fd) (B : Bn mg) : FnOk P w K mg base CX0 (k + 1) f fd ["_law_box", "_law_many"] spDraw := by
  refine F.ok scDraw (fun vs H Q E h => ?_) (fun cdv A outer s H vs Q E hr h => ?_)
  · obtain ⟨b, m, n, rfl, _⟩ := h
    rfl
  · obtain ⟨b, m, n, rfl, hB, h1, h2, q⟩ := h
    obtain ⟨t2, P2, R2⟩ : ∃ t2, PSs (cxOf CX0 P w K mg base ["_law_box", "_law_many", "_law_cell", "_law_digit", "_law_seed"] "_law_draw" (defScope sDraw) f cdv A outer s H E).nox ((defBody sDraw).drop 1) t2 ∧
        ∀ (y : Option V) (H' : Hp), BxTo H H' b m → t2 { nx := fun _ H' => Q .non H', rt := Q } [some (.ref b), some (.int n), y, none, none] H' := by
      refine ⟨_, pss_cons (ps_if (pt_cmpR op_gt (pe_ix ix_list (pv 0) pe_int (fun _ _ => rfl)) pe_int (nomark _))
          (pss_cons (ps_set (i := 3) scDraw.nd rfl (.inl rfl) (pe_op op_mod (pe_callTy call_int1 (by rfl) B.int boot_int (pa_cons (pe_ix ix_list (pv 0) pe_int (fun _ _ => rfl)) pa_nil)) (pv 1)))
          (pss_cons (ps_asg (pe_op op_fdivW (pe_ix ix_list (pv 0) pe_int (fun _ _ => rfl)) (pv 1)) (pg_sub (pv 0) pe_int set_list))
          (pss_one (ps_ret (pv 3))))) pss_nil)
        (pss_cons (ps_set (i := 4) scDraw.nd rfl (.inl rfl) (pe_ix ix_list (pv 0) pe_int (fun _ _ => rfl)))
        (pss_cons (ps_asg (pe_op op_mod (pe_op op_add (pe_op op_add (pe_op op_mul (pv 4) (pv 4)) (pe_op op_mul (pv 4) pe_int)) pe_int) pe_int) (pg_sub (pv 0) pe_int set_list))
        (pss_one (ps_ret (pe_op op_mod (pe_op op_add (pe_op op_fdiv (pe_ix ix_list (pv 0) pe_int (fun _ _ => rfl)) pe_int)
          (pe_op op_mul (pe_op op_mod (pe_callTy call_int1 (by rfl) B.int boot_int (pa_cons (pe_ix ix_list (pv 0) pe_int (fun _ _ => rfl)) pa_nil)) pe_int) pe_int)) (pv 1)))))), fun y H' hT => ?_⟩
      obtain ⟨⟨ms, i, r, s, hb, hm, k1, k2, k3, k4⟩, kp⟩ := id hT
      refine ⟨.ref b, rfl, b, _, 2, _, rfl, rfl, SqL.of hb, rfl, _, _, rfl, rfl, _, rfl, ite2 (fun e => ?_) (fun e => ?_)⟩
      · have hr0 : 0 < r := of_decide_eq_true e
        refine ⟨.ref b, rfl, b, _, 2, _, rfl, rfl, SqL.of hb, rfl, .inl ⟨_, rfl, _, rfl, _, _, rfl, rfl, h1, ?_⟩⟩
        refine ⟨.ref b, rfl, b, _, 2, _, rfl, rfl, SqL.of hb, rfl, _, rfl, _, _, rfl, rfl, wide_div (b := 20) h1 (by omega) (by decide) (by decide), ?_⟩
        refine ⟨.ref b, rfl, b, _, 2, 2, rfl, rfl, hb, rfl, _, rfl, ?_⟩
        refine q _ _ (Int.emod_nonneg _ (by omega)) (Int.emod_lt_of_pos _ h1) (hT.trans ?_)
        exact Bx.put hb hm k1 (Int.ediv_nonneg k2 (by omega)) k3 k4
      · refine ⟨.ref b, rfl, b, _, 3, _, rfl, rfl, SqL.of hb, rfl, ?_⟩
        refine ⟨_, rfl, _, rfl, _, _, rfl, rfl, .inl ⟨by omega, by omega⟩, _, rfl, _, _, rfl, rfl, .inl ⟨by omega, by omega⟩, _, _, rfl, rfl, _, _, rfl, rfl, _, _, rfl, rfl, (by show (0 : Int) < _; decide), ?_⟩
        refine ⟨.ref b, rfl, b, _, 3, 3, rfl, rfl, hb, rfl, ?_⟩
        have g1 : 0 ≤ (s * s + s * 61001 + 911) % 2147483647 := Int.emod_nonneg _ (by decide)
        have g2 : (s * s + s * 61001 + 911) % 2147483647 < 2147483647 := Int.emod_lt_of_pos _ (by decide)
        have bx := Bx.put (i' := i) (r' := r) (s' := (s * s + s * 61001 + 911) % 2147483647) hb hm k1 k2 g1 g2
        refine ⟨.ref b, rfl, b, _, 3, _, rfl, rfl, SqL.of upd_same, rfl, _, _, rfl, rfl, ⟨by decide, by decide⟩, ?_⟩
        refine ⟨.ref b, rfl, b, _, 3, _, rfl, rfl, SqL.of upd_same, rfl, .inl ⟨_, rfl, _, _, rfl, rfl, (by show (0 : Int) < _; decide), _, _, rfl, rfl, .inl ⟨by omega, by omega⟩, _, _, rfl, rfl, _, rfl, _, _, rfl, rfl, h1, ?_⟩⟩
        exact q _ _ (Int.emod_nonneg _ (by omega)) (Int.emod_lt_of_pos _ h1) (hT.trans bx)
    obtain ⟨ms, i, r, s, hb, hm, k1, k2, k3, k4⟩ := id hB
    refine ⟨_, pss_cons (ps_if (PW.pt (pw_and (pt_cmpR op_eq (pe_ix ix_list (pv 0) pe_int (fun _ _ => rfl)) pe_int (nomark _))
          (pw_and1 (pt_cmpR op_lt (pe_ix ix_list (pv 0) pe_int (fun _ _ => rfl)) (pe_callB call_len_seq (by rfl) B.len PySem.boot_len (pa_cons (pe_ix ix_list (pv 0) pe_int (fun _ _ => rfl)) pa_nil)) (nomark _)))))
        (pss_cons (ps_set (i := 2) scDraw.nd rfl (.inl rfl) (pe_ix ix_list (pe_ix ix_list (pv 0) pe_int (fun _ _ => rfl)) (pe_ix ix_list (pv 0) pe_int (fun _ _ => rfl)) (fun _ _ => rfl)))
        (pss_cons (ps_asg (pe_op op_add (pe_ix ix_list (pv 0) pe_int (fun _ _ => rfl)) pe_int) (pg_sub (pv 0) pe_int set_list))
        (pss_one (ps_if (pt_cmpR op_ge (pv 2) (pe_op op_pow pe_int pe_int) (nomark _))
          (pss_one (ps_asg (pv 2) (pg_sub (pv 0) pe_int set_list)))
          (pss_one (ps_asg (pe_op op_mod (pe_op op_add (pe_op op_add (pe_op op_mul (pe_ix ix_list (pv 0) pe_int (fun _ _ => rfl)) pe_int)
            (pe_op op_mul (pe_op op_mod (pe_callTy call_int1 (by rfl) B.int boot_int (pa_cons (pv 2) pa_nil)) pe_int) pe_int)) pe_int) pe_int) (pg_sub (pv 0) pe_int set_list)))))))
        pss_nil) P2, ?_⟩
    refine ⟨.ref b, rfl, b, _, 2, _, rfl, rfl, SqL.of hb, rfl, rfl, _, rfl, ite2 (fun e => ?_) (fun e => ?_)⟩
    · refine ⟨.ref b, rfl, b, _, 1, _, rfl, rfl, SqL.of hb, rfl, .ref b, rfl, b, _, 0, _, rfl, rfl, SqL.of hb, rfl, m, _, rfl, .inl (SqL.of hm), _, _, rfl, rfl, _, rfl, ite2 (fun e2 => ?_) (fun e2 => ?_)⟩
      · have hl : i < (ms.map V.int).length := of_decide_eq_true e2
        have hl2 : i.toNat < ms.length := by
          rw [List.length_map] at hl
          omega
        have ei : ((i.toNat : Nat) : Int) = i := by omega
        have hat : atI (ms.map V.int) i = some (.int ms[i.toNat]) := by
          have z : (ms.map V.int)[i.toNat]? = some (.int ms[i.toNat]) := by
            rw [List.getElem?_map, List.getElem?_eq_getElem hl2]
            rfl
          have z2 := atI_nat z
          rw [ei] at z2
          exact z2
        refine ⟨.ref b, rfl, b, _, 0, _, rfl, rfl, SqL.of hb, rfl, .ref b, rfl, b, _, 1, _, rfl, rfl, SqL.of hb, rfl, m, _, i, _, rfl, rfl, SqL.of hm, hat, ?_⟩
        generalize ms[i.toNat] = cell
        refine ⟨.ref b, rfl, b, _, 1, _, rfl, rfl, SqL.of hb, rfl, _, _, rfl, rfl, .ref b, rfl, b, _, 1, 1, rfl, rfl, hb, rfl, ?_⟩
        have bx1 := Bx.put (i' := i + 1) (r' := r) (s' := s) hb hm (by omega) k2 k3 k4
        have hb1 : upd H b (.lst [.ref m, .int (i + 1), .int r, .int s]) b = _ := upd_same
        have hm1 : upd H b (.lst [.ref m, .int (i + 1), .int r, .int s]) m = some (.lst (ms.map V.int)) := by
          obtain ⟨_, z⟩ := Bx.put (i' := i + 1) (r' := r) (s' := s) hb hm (by omega) k2 k3 k4
          rw [z m (fun e => by subst e; rw [hb] at hm; cases ms <;> cases hm)]
          exact hm
        refine ⟨_, rfl, _, _, rfl, rfl, ⟨by decide, by decide, by decide⟩, _, _, rfl, rfl, _, rfl, ite2 (fun e3 => ?_) (fun e3 => ?_)⟩
        · have hc : (10 : Int) ^ (18 : Int).toNat ≤ cell := of_decide_eq_true e3
          have hc0 : (0 : Int) ≤ (10 : Int) ^ (18 : Int).toNat := by decide
          refine ⟨_, rfl, .ref b, rfl, b, _, 2, 2, rfl, rfl, hb1, rfl, ?_⟩
          exact R2 _ _ (bx1.trans (Bx.put hb1 hm1 (by omega) (by omega) k3 k4))
        · refine ⟨.ref b, rfl, b, _, 3, _, rfl, rfl, SqL.of hb1, rfl, _, _, rfl, rfl, .inl ⟨by omega, by omega⟩, _, rfl, .inl ⟨_, rfl, _, _, rfl, rfl, (by show (0 : Int) < _; decide), _, _, rfl, rfl, .inl ⟨by omega, by omega⟩, _, _, rfl, rfl, _, _, rfl, rfl, _, _, rfl, rfl, (by show (0 : Int) < _; decide), ?_⟩⟩
          refine ⟨.ref b, rfl, b, _, 3, 3, rfl, rfl, hb1, rfl, ?_⟩
          exact R2 _ _ (bx1.trans (Bx.put hb1 hm1 (by omega) k2 (by omega) (by omega)))
      · exact R2 _ _ (.refl hB)
    · exact R2 _ _ (.refl hB)
end
/-! texts as lists of codes -/
abbrev tx (l : List Nat) : V := .str (SX.S l)
theorem tx_len (l : List Nat) : (SX.S l).length = l.length := SX.S_len l
theorem joinNil : ∀ ys : List (List Nat), TL.joinL [] ys = ys.flatten
  | [] => rfl
  | [p] => by simp [TL.joinL]
  | p :: q :: r => by
    show p ++ ([] ++ TL.joinL [] (q :: r)) = _
    rw [joinNil (q :: r)]
    rfl
theorem walk_txt (l : List Nat) : Walk (Its (SX.S l)) (l.map fun c => tx [c]).length (fun _ => True) (YAt (l.map fun c => tx [c])) := by
  have e : (SX.S l).cps.size = (l.map fun c => tx [c]).length := by simp
  have w := walk_str (z := SX.S l)
  rw [e] at w
  refine w.mono (fun _ h => h) (fun i H x H' hi _ y => ?_)
  obtain ⟨y1, c, y2, y3⟩ := y
  refine ⟨y1, ?_⟩
  rw [List.getElem?_map]
  have y4 : l[i]? = some c := by simpa using y2
  rw [y4, y3]
  rfl
/-! heaps -/
theorem same_new {H : Hp} {p : Addr} {o : HO} (h : H p = none) : Same H (upd H p o) := fun b x e => by
  rw [upd_ne (ne_of_none e h)]
  exact e
theorem sqT_same {K : PySem.W.Frag} {H H' : Hp} {a : Addr} {xs : List V} (e : Same H H') (h : SqT K H a xs) : SqT K H' a xs := by
  rcases h with (h | ⟨o, h⟩) | h
  · exact .inl (.inl (e _ _ h))
  · exact .inl (.inr ⟨o, e _ _ h⟩)
  · exact .inr h
theorem take_more {α : Type} {l : List α} {i : Nat} {x : α} (h : l[i]? = some x) : l.take (i + 1) = l.take i ++ [x] := by
  rw [List.take_add_one, h]
  rfl
/-- a comprehension over xs whose test and element change nothing that stands -/
theorem lc_pure {J : It} {G : Hp → Prop} {xs : List V} (w : Walk J xs.length G (YAt xs)) {tt : TT} {te : TE} {σ : L2.St} {i : Nat} {H1 : Hp} {D : Addr} {Qd : Hp → Prop} (f : V → V) (keep : V → Bool) (hlen : xs.length < sizeLine) (hD : H1 D = none)
    (hG : ∀ H2, Same H1 H2 → G H2)
    (ht : ∀ x H2 Q, x ∈ xs → Same H1 H2 → Q (keep x) H2 → tt ((σ.set i none).set i (some x)) H2 Q)
    (he : ∀ x H2 Q, x ∈ xs → keep x = true → Same H1 H2 → (∀ H3, Same H2 H3 → Q (f x) H3) → te ((σ.set i none).set i (some x)) H2 Q)
    (hd : ∀ H2, Same H1 H2 → H2 D = some (.lst ((xs.filter keep).map f)) → Qd H2) :
    ∃ W : Nat → Nat → Hp → Prop, (∃ m, W 0 m (upd H1 D (.lst []))) ∧ ∀ j m H, W j m H →
      (J.stop j H ∧ Qd H) ∨ (J.go j H ∧ ∃ Nx : Hp → Prop, (∀ H', Nx H' → ∃ m', m' < m ∧ W (j + 1) m' H') ∧ ∀ x H', J.yld j H x H' → gName i x (wipe σ [i]) H' fun σ2 H2 => wipe σ2 [i] = wipe σ [i] ∧ tt σ2 H2 fun b H3 =>
        if b = true then te σ2 H3 fun v H4 => ∃ ac, H4 D = some (.lst ac) ∧ ac.length < sizeLine ∧ Nx (upd H4 D (.lst (ac ++ [v]))) else Nx H3) := by
  refine lc_it w (fun j H2 => Same H1 H2 ∧ H2 D = some (.lst (((xs.take j).filter keep).map f))) ⟨same_new hD, upd_same⟩ (fun j H2 _ h => hG H2 h.1) ?_ (fun H2 h => hd H2 h.1 (by have z := h.2; rw [List.take_length] at z; exact z))
  rintro j x H2 H2' hj ⟨sm, hd2⟩ ⟨rfl, hx⟩
  have hm : x ∈ xs := List.mem_of_getElem? hx
  refine ⟨?_, ?_⟩
  · show (((σ.set i none).set i (some x)).set i none) = σ.set i none
    rw [List.set_set, List.set_set]
  · refine ht x _ _ hm sm ?_
    have tk := take_more hx
    cases hk : keep x with
    | true =>
      refine iteT (he x _ _ hm hk sm fun H3 s3 => ⟨_, s3 _ _ hd2, ?_, ?_, ?_⟩)
      · rw [List.length_map]
        exact Nat.lt_of_le_of_lt (Nat.le_trans (List.length_filter_le _ _) (by rw [List.length_take]; omega)) hlen
      · intro b o e
        rw [upd_ne (ne_of_none e hD)]
        exact s3 _ _ (sm _ _ e)
      · rw [upd_same, tk, List.filter_append, List.map_append]
        simp [hk]
    | false =>
      refine iteF ⟨sm, ?_⟩
      rw [hd2, tk, List.filter_append]
      simp [hk]
section
variable {P : Program} {w : World} {K : PySem.W.Frag} {mg : Str → Option Value} {base : Heap}
/-! _law_any -/
def spAny : Sp := fun vs H Q _ => ∃ (b m p : Addr) (xs : List V), vs = [.ref b, .ref p] ∧ Bx H b m ∧ H p = some (.lst xs) ∧ p ≠ b ∧ xs ≠ [] ∧ xs.length < 1000000 ∧ ∀ x H', x ∈ xs → BxTo H H' b m → Q x H'
theorem ok_any {f fD : Addr} {fd fdD : FuncData} {k : Nat} (F : Fun K "_law_any" "_law_any" sAny f fd) (B : Bn mg) (FD : Fun K "_law_draw" "_law_draw" sDraw fD fdD) (bD : Binds K fdD ["_law_box", "_law_many"] []) (gD : mg "_law_draw" = some (.ref fD)) :
    FnOk P w K mg base CX0 (k + 2) f fd ["_law_box", "_law_some"] spAny := by
  have GD : FnOk P w K mg base CX0 (k + 1) fD fdD ["_law_box", "_law_many"] spDraw := ok_draw FD B
  refine F.ok scAny (fun vs H Q E h => ?_) (fun cdv A outer s H vs Q E hr h => ?_)
  · obtain ⟨b, m, p, xs, rfl, _⟩ := h
    rfl
  · obtain ⟨b, m, p, xs, rfl, hB, hp, hpb, hne, hl, q⟩ := h
    refine ⟨_, pss_one (ps_ret (pe_ix ix_list (pv 1) (pe_call GD hr (by rfl) gD FD.kp bD .nil pass0 (pa_cons (pv 0) (pa_cons (pe_callB call_len_seq (by rfl) B.len PySem.boot_len (pa_cons (pv 1) pa_nil)) pa_nil))) (fun _ _ => rfl))), ?_⟩
    have h0 : 0 < xs.length := List.length_pos_iff.mpr hne
    refine ⟨.ref p, rfl, .ref b, rfl, .ref p, rfl, p, xs, rfl, .inl (SqL.of hp), b, m, (xs.length : Int), rfl, hB, by omega, by omega, fun d H' d0 d1 hT => ?_⟩
    have hd : d.toNat < xs.length := by omega
    have hat : atI xs d = some xs[d.toNat] := by
      have z := atI_nat (List.getElem?_eq_getElem hd)
      rw [show ((d.toNat : Nat) : Int) = d by omega] at z
      exact z
    exact ⟨p, xs, d, _, rfl, rfl, SqL.of ((hT.2 p hpb).trans hp), hat, q _ _ (List.getElem_mem hd) hT⟩
/-! _law_begin -/
def spBegin (K : PySem.W.Frag) : Sp := fun vs H Q _ => ∃ (a : Addr) (ns : List Int), vs = [.ref a] ∧ SqL K H a (ns.map V.int) ∧ ns.length ≤ 63 ∧ ∀ H' b m, Same H H' → H b = none → Bx H' b m → Q (.ref b) H'
theorem ok_begin {f : Addr} {fd : FuncData} {k : Nat} (F : Fun K "_law_begin" "_law_begin" sBegin f fd) (B : Bn mg) : FnOk P w K mg base CX0 (k + 1) f fd ["_law_script"] (spBegin K) := by
  refine F.ok scBegin (fun vs H Q E h => ?_) (fun cdv A outer s H vs Q E hr h => ?_)
  · obtain ⟨a, ns, rfl, _⟩ := h
    rfl
  · obtain ⟨a, ns, rfl, hS, hl, q⟩ := h
    refine ⟨_, pss_cons (ps_setLc (i := 2) (own := [("_law_cell", 1)]) (g := gName 1) (tt := tYes) rfl scBegin.nd rfl rfl (sw_true rfl rfl rfl (by decide +kernel)) (pi_list (pe_slice sl_list (pv 0) po_none (po_some pe_int)))
        (blkOk_by (N := ["_law_script", "_law_cell", "_law_marks", "_law_seed"]) (sc := defScope sBegin) (by decide +kernel)) (fun _ _ _ _ _ => pg_name (i := 1) scBegin.nd rfl (Or.inl rfl)) (fun _ _ _ _ _ => pts_nil)
        (fun _ _ _ _ _ => pe_callTy call_int1 (by rfl) B.int boot_int (pa_cons (pv 1) pa_nil)))
      (pss_cons (ps_set (i := 3) scBegin.nd rfl (.inl rfl) (pe_op op_add pe_int (pe_op op_mul pe_int (pe_callB call_len_seq (by rfl) B.len PySem.boot_len (pa_cons (pv 2) pa_nil)))))
      (pss_cons (ps_for PassesOwn.never rfl (pi_list (pv 2)) (pg_name (i := 1) scBegin.nd rfl (Or.inl rfl))
        (pss_one (ps_set (i := 3) scBegin.nd rfl (.inl rfl) (pe_op op_mod (pe_op op_add (pe_op op_add (pe_op op_mul (pv 3) pe_int) (pe_op op_mod (pe_callTy call_int1 (by rfl) B.int boot_int (pa_cons (pv 1) pa_nil)) pe_int)) pe_int) pe_int))))
      (pss_one (ps_ret (pe_lst (pa_cons (pv 2) (pa_cons pe_int (pa_cons pe_int (pa_cons (pv 3) pa_nil))))))))), ?_⟩
    obtain ⟨ms, hms, hcut⟩ : ∃ ms : List Int, ms.length ≤ 63 ∧ cutV (ns.map V.int) none (some 63) = ms.map V.int := by
      refine ⟨ns.take (HT.sIx (ns.map V.int).length (ns.map V.int).length (some 63) - HT.sIx (ns.map V.int).length 0 none), ?_, ?_⟩
      · rw [List.length_take]
        omega
      · unfold cutV
        rw [HT.sIx_none, List.drop_zero, List.map_take]
    refine ⟨.ref a, rfl, 63, rfl, a, _, rfl, hS, fun c nc => ?_⟩
    rw [hcut]
    refine ⟨c, rfl, ⟨_, SqL.of upd_same⟩, fun D nD => ?_⟩
    have s1 : Same H (upd H c (.lst (ms.map V.int))) := same_new nc
    refine lc_pure (walk_list (K := K) (a := c) (xs := ms.map V.int)) (σ := [some (.ref a), none, none, none]) (i := 1) id (fun _ => true) (by rw [List.length_map]; exact small1000 (by omega)) nD (fun H2 e => SqL.of (e _ _ upd_same)) (fun x H2 Q _ _ h => h) ?_ ?_
    · intro x H2 Q hx _ _ h
      obtain ⟨z, _, rfl⟩ := List.mem_map.mp hx
      exact ⟨_, rfl, .inl ⟨z, rfl, h H2 (Same.refl _)⟩⟩
    · intro H2 s2 hD
      have hf : ((ms.map V.int).filter fun _ => true).map id = ms.map V.int := by simp
      rw [hf] at hD
      have sm : Same H H2 := s1.trans s2
      refine ⟨.ref D, rfl, D, _, rfl, .inl (SqL.of hD), _, _, rfl, rfl, .inl ⟨by decide, by decide⟩, _, _, rfl, rfl, ?_⟩
      refine ⟨.ref D, rfl, D, rfl, ⟨_, SqL.of hD⟩, ?_⟩
      refine for_it (walk_list (K := K) (a := D) (xs := ms.map V.int)) (fun i σ H3 => ∃ (y : Option V) (sd : Int), σ = [some (.ref a), y, some (.ref D), some (.int sd)] ∧ H3 = H2 ∧ 0 ≤ sd ∧ sd < 2147483647) ⟨none, _, rfl, rfl, ?_, ?_⟩ (fun i σ H3 _ h => ?_) ?_ ?_
      · simp only [List.length_map]
        omega
      · simp only [List.length_map]
        omega
      · obtain ⟨_, _, _, rfl, _⟩ := h
        exact SqL.of hD
      · rintro i x σ H3 H3' hi ⟨y, sd, rfl, rfl, g1, g2⟩ ⟨rfl, hx⟩
        obtain ⟨z, _, rfl⟩ := List.mem_map.mp (List.mem_of_getElem? hx)
        refine ⟨_, rfl, _, _, rfl, rfl, .inl ⟨by omega, by omega⟩, _, rfl, .inl ⟨z, rfl, _, _, rfl, rfl, (by show (0 : Int) < _; decide), _, _, rfl, rfl, _, _, rfl, rfl, _, _, rfl, rfl, (by show (0 : Int) < _; decide), ?_⟩⟩
        exact ⟨_, _, rfl, rfl, Int.emod_nonneg _ (by decide), Int.emod_lt_of_pos _ (by decide)⟩
      · rintro σ H3 ⟨y, sd, rfl, rfl, g1, g2⟩
        refine ⟨_, rfl, _, rfl, (by show 4 ≤ sizeLine; decide), fun b nb => ?_⟩
        refine q _ b D (sm.trans (same_new nb)) (sm.free nb) ⟨ms, 0, 0, sd, upd_same, ?_, by omega, by omega, g1, g2⟩
        rw [upd_ne (ne_of_none hD nb)]
        exact hD
end
end K7
set_option maxRecDepth 100000
set_option maxHeartbeats 2000000
namespace K7
open PySem PySem.Spec PyProof.Rows L2
/-! ### the mirror -/
def menu : List Nat := [97, 98, 109, 116, 120, 121, 122]
def sw (c : Nat) : Nat := if 65 ≤ c ∧ c ≤ 90 then c + 32 else if 97 ≤ c ∧ c ≤ 122 then c - 32 else c
def opp (w : List Nat) : List Nat := w.reverse.map sw
def sg (L : List Nat) : List Nat := L.flatMap fun c => [c, c - 32]
def stp (f : List Nat) (c : Nat) : List Nat := if f.getLast? = some (sw c) then f.dropLast else f ++ [c]
def sh (w : List Nat) : List Nat := w.foldl stp []
def Asc (w : List Nat) : Prop := ∀ c ∈ w, c < 128
def Lt (L : List Nat) : Prop := L.length ≤ 100 ∧ ∀ c ∈ L, c ∈ menu
theorem menu_asc : ∀ c ∈ menu, c < 128 := by decide
theorem menu_up : ∀ c ∈ menu, up1 c = c - 32 := by decide
theorem sg_len (L : List Nat) : (sg L).length = 2 * L.length := by
  induction L with
  | nil => rfl
  | cons c r ih =>
    show ([c, c - 32] ++ sg r).length = 2 * (r.length + 1)
    rw [List.length_append, ih]
    simp only [List.length_cons, List.length_nil]
    omega
theorem upper1 {c : Nat} (h : c < 128) : Txt.upper (SX.S [c]) = SX.S [up1 c] := by
  have e := upper_ascii (x := SX.S [c]) (fun d hd => by
    have : d = c := by simpa using hd
    omega)
  rw [e]
  simp
theorem lower1 {c : Nat} (h : c < 128) : Txt.lower (SX.S [c]) = SX.S [lo1 c] := by
  have e := lower_ascii (x := SX.S [c]) (fun d hd => by
    have : d = c := by simpa using hd
    omega)
  rw [e]
  simp
theorem upperM {c : Nat} (h : c ∈ menu) : Txt.upper (SX.S [c]) = SX.S [c - 32] := by
  rw [upper1 (menu_asc c h), menu_up c h]
theorem isUpper_ascii : ∀ c, c < 128 → Unicode.isUpper c = decide (65 ≤ c ∧ c ≤ 90) := by decide +kernel
theorem isLower_ascii : ∀ c, c < 128 → Unicode.isLower c = decide (97 ≤ c ∧ c ≤ 122) := by decide +kernel
theorem swapS {w : List Nat} (hA : Asc w) : Txt.swapcase (SX.S w) = SX.S (w.map sw) := by
  unfold Txt.swapcase
  rw [placed_single (SX.S w) _ sw fun i c hc => ?_]
  · simp
  · have hc0 : w[i]? = some c := by simpa using hc
    have hlt := hA c (List.mem_of_getElem? hc0)
    have hc' : (SX.S w).cps[i]? = some c := by simpa using hc
    rw [isUpper_ascii c hlt, isLower_ascii c hlt]
    unfold sw
    by_cases h1 : 65 ≤ c ∧ c ≤ 90
    · rw [decide_eq_true h1, if_pos rfl, if_pos h1]
      unfold Unicode.lowerAt
      rw [hc']
      have hne : (c == 0x3A3) = false := by rw [beq_eq_false_iff_ne]; omega
      simp only [hne, Bool.false_and, Bool.false_eq_true, if_false]
      rw [lowerOf_ascii c hlt]
      unfold lo1
      rw [if_pos h1]
    · rw [decide_eq_false h1, if_neg Bool.false_ne_true, if_neg h1]
      by_cases h2 : 97 ≤ c ∧ c ≤ 122
      · rw [decide_eq_true h2, if_pos rfl, if_pos h2, upperOf_ascii c hlt]
        unfold up1
        rw [if_pos h2]
      · rw [decide_eq_false h2, if_neg Bool.false_ne_true, if_neg h2]
theorem rvS (w : List Nat) : Rs.rv (SX.S w) = SX.S w.reverse := by
  unfold Rs.rv
  simp
theorem oppS {w : List Nat} (hA : Asc w) : Txt.swapcase (Rs.rv (SX.S w)) = SX.S (opp w) := by
  rw [rvS, swapS (fun c hc => hA c (List.mem_reverse.mp hc))]
  rfl
theorem sw_sw (c : Nat) : sw (sw c) = c := by
  unfold sw
  repeat' split
  all_goals omega
theorem sw_lt {c : Nat} (h : c < 128) : sw c < 128 := by
  unfold sw
  repeat' split
  all_goals omega
def Red (f : List Nat) : Prop := ∀ (a b : List Nat) (x y : Nat), f = a ++ x :: y :: b → x ≠ sw y
theorem red_nil : Red [] := fun a b x y e => by cases a <;> cases e
theorem red_stp {f : List Nat} (h : Red f) (c : Nat) : Red (stp f c) := by
  unfold stp
  split
  · intro a b x y e
    rcases List.eq_nil_or_concat f with rfl | ⟨g, z, rfl⟩
    · cases a <;> cases e
    · have e' : (g ++ [z]).dropLast = a ++ x :: y :: b := by simpa using e
      rw [List.dropLast_concat] at e'
      exact h a (b ++ [z]) x y (by rw [e']; simp)
  · rename_i hl
    intro a b x y e
    rcases List.eq_nil_or_concat b with rfl | ⟨b', z, rfl⟩
    · have e3 : f ++ [c] = (a ++ [x]) ++ [y] := by rw [e]; simp
      have e4 := List.append_inj' e3 rfl
      have e5 : c = y := by simpa using e4.2
      intro hxy
      apply hl
      rw [e4.1, List.getLast?_append]
      rw [e5, hxy]
      rfl
    · have e3 : f ++ [c] = (a ++ x :: y :: b') ++ [z] := by rw [e]; simp
      have e4 := List.append_inj' e3 rfl
      exact h a b' x y e4.1
theorem stp_stp {f : List Nat} (h : Red f) (c : Nat) : stp (stp f c) (sw c) = f := by
  unfold stp
  rw [sw_sw]
  by_cases hl : f.getLast? = some (sw c)
  · rw [if_pos hl]
    obtain ⟨g, rfl⟩ := List.getLast?_eq_some_iff.mp hl
    rw [List.dropLast_concat]
    have hn : ¬ (g.getLast? = some c) := by
      intro hg
      obtain ⟨g', rfl⟩ := List.getLast?_eq_some_iff.mp hg
      exact h g' [] c (sw c) (by simp) (sw_sw c).symm
    rw [if_neg hn]
  · rw [if_neg hl, if_pos (by simp)]
    simp
theorem foldl_red {f : List Nat} (h : Red f) : ∀ w : List Nat, Red (w.foldl stp f) := by
  intro w
  induction w generalizing f with
  | nil => exact h
  | cons c r ih => exact ih (red_stp h c)
theorem fold_opp {f : List Nat} (h : Red f) (w : List Nat) : (w ++ opp w).foldl stp f = f := by
  induction w generalizing f with
  | nil => rfl
  | cons c r ih =>
    have e : (c :: r) ++ opp (c :: r) = c :: ((r ++ opp r) ++ [sw c]) := by
      unfold opp
      simp
    rw [e, List.foldl_cons, List.foldl_append, ih (red_stp h c)]
    exact stp_stp h c
theorem sh_opp (w : List Nat) : sh (w ++ opp w) = [] := fold_opp red_nil w
theorem sh_more {w : List Nat} {i : Nat} {c : Nat} (h : w[i]? = some c) : sh (w.take (i + 1)) = stp (sh (w.take i)) c := by
  unfold sh
  rw [take_more h, List.foldl_append]
  rfl
theorem stp_mem {f : List Nat} {c x : Nat} (h : x ∈ stp f c) : x ∈ f ∨ x = c := by
  unfold stp at h
  split at h
  · exact .inl (List.dropLast_subset _ h)
  · rcases List.mem_append.mp h with z | z
    · exact .inl z
    · exact .inr (by simpa using z)
theorem sh_mem {w : List Nat} {x : Nat} (h : x ∈ sh w) : x ∈ w := by
  have key : ∀ (w f : List Nat), x ∈ w.foldl stp f → x ∈ f ∨ x ∈ w := by
    intro w
    induction w with
    | nil => exact fun f h => .inl h
    | cons c r ih =>
      intro f h
      rcases ih _ h with z | z
      · rcases stp_mem z with z | z
        · exact .inl z
        · exact .inr (by rw [z]; exact List.mem_cons_self ..)
      · exact .inr (List.mem_cons_of_mem _ z)
  rcases key w [] h with z | z
  · cases z
  · exact z
theorem stp_len (f : List Nat) (c : Nat) : (stp f c).length ≤ f.length + 1 := by
  unfold stp
  split
  · rw [List.length_dropLast]; omega
  · rw [List.length_append]; simp
theorem sh_len (w : List Nat) : (sh w).length ≤ w.length := by
  have key : ∀ (w f : List Nat), (w.foldl stp f).length ≤ f.length + w.length := by
    intro w
    induction w with
    | nil => exact fun f => Nat.le_refl _
    | cons c r ih =>
      intro f
      have := ih (stp f c)
      have := stp_len f c
      simp only [List.foldl_cons, List.length_cons]
      omega
  have z := key w []
  unfold sh
  simpa using z
theorem mem_in {w : List Nat} {c : Nat} {L : List Nat} : inV (tx [c]) (L.map fun d => tx [d]) = decide (c ∈ L) := by
  unfold inV
  induction L with
  | nil => rfl
  | cons d r ih =>
    rw [List.map_cons, List.any_cons, ih]
    show ((SX.S [d] == SX.S [c]) || _) = _
    rw [SX.S_beq_eq]
    by_cases h : d = c
    · subst h
      simp
    · have h2 : c ≠ d := fun e => h e.symm
      simp [h, h2]
theorem cut_last (l : List Nat) : cutS (SX.S l) none (some (-1)) = SX.S l.dropLast := by
  unfold cutS
  rw [HT.sIx_none, List.drop_zero, Nat.sub_zero]
  have e : HT.sIx (SX.S l).length (SX.S l).length (some (-1)) = l.length - 1 := by
    rw [tx_len]
    show (if (-1 : Int) < 0 then ((-1 : Int) + (l.length : Int)).toNat else min (-1 : Int).toNat l.length) = l.length - 1
    rw [if_pos (by decide)]
    omega
  rw [e, List.dropLast_eq_take]
theorem at_last {α : Type} {l : List α} {x : α} (h : l.getLast? = some x) : atI l (-1) = some x := by
  have hne : l ≠ [] := fun z => by subst z; cases h
  have hl : 0 < l.length := List.length_pos_iff.mpr hne
  unfold atI ixN
  rw [if_neg (by decide), if_pos (by omega)]
  show l[_]? = some x
  rw [List.getLast?_eq_getElem?] at h
  rw [← h]
  congr 1
  omega
theorem asc_le {w : List Nat} (h : w.length ≤ 1000) : (SX.S w).length ≤ sizeLine := by
  rw [tx_len]
  exact Nat.le_of_lt (small1000 h)
theorem asc_le2 {w : List Nat} (h : w.length ≤ 1000) : (SX.S w).length ≤ 5592405 := by
  rw [tx_len]
  omega
theorem asc1 {c : Nat} : (SX.S [c]).length ≤ 5592405 := asc_le2 (w := [c]) (by show 1 ≤ 1000; decide)
section
variable {P : Program} {w : World} {K : PySem.W.Frag} {mg : Str → Option Value} {base : Heap}
/-! opposite -/
def spOpp : Sp := fun vs H Q _ => ∃ l : List Nat, vs = [tx l] ∧ l.length ≤ 1000 ∧ Asc l ∧ Q (tx (opp l)) H
theorem ok_opp {f : Addr} {fd : FuncData} {k : Nat} (F : Fun K "opposite" "opposite" sOpp f fd) : FnOk P w K mg base CX0 (k + 1) f fd ["word"] spOpp := by
  refine F.ok scOpp (fun vs H Q E h => ?_) (fun cdv A outer s H vs Q E hr h => ?_)
  · obtain ⟨l, rfl, _⟩ := h
    rfl
  · obtain ⟨l, rfl, hl, hA, q⟩ := h
    refine ⟨_, pss_one (ps_ret (pe_m0 PySem.F.slot_str_swapcase PySem.F.type_str_swapcase Rs.m_swapcase (Rs.e_revS (pv 0)))), ?_⟩
    refine ⟨_, rfl, _, rfl, asc_le hl, ⟨_, rfl⟩, _, rfl, rfl, ?_, ?_⟩
    · rw [rvS]
      exact asc_le2 (by rw [List.length_reverse]; exact hl)
    · rw [oppS hA]
      exact q
/-! _law_back -/
def spBack : Sp := fun vs H Q _ => ∃ c : Nat, vs = [tx [c]] ∧ c < 128 ∧ Q (tx [sw c]) H
theorem ok_back {f : Addr} {fd : FuncData} {k : Nat} (F : Fun K "_law_back" "_law_back" sBack f fd) : FnOk P w K mg base CX0 (k + 1) f fd ["_law_sign"] spBack := by
  refine F.ok scBack (fun vs H Q E h => ?_) (fun cdv A outer s H vs Q E hr h => ?_)
  · obtain ⟨l, rfl, _⟩ := h
    rfl
  · obtain ⟨c, rfl, hc, q⟩ := h
    refine ⟨_, pss_one (ps_ret (pe_ifExp (pt_cmpR op_eq (pv 0) (pe_lower (pv 0)) (nomark _)) (pe_upper (pv 0)) (pe_lower (pv 0)))), ?_⟩
    refine ⟨_, rfl, _, rfl, ⟨_, rfl⟩, _, rfl, rfl, asc1, rfl, _, rfl, ?_⟩
    rw [lower1 hc]
    refine ite2 (fun e => ?_) (fun e => ?_)
    · have e1 : c = lo1 c := by
        have z : tx [c] = tx [lo1 c] := of_decide_eq_true e
        have z2 := SX.S_inj (V.str.inj z)
        simpa using z2
      refine ⟨_, rfl, ⟨_, rfl⟩, _, rfl, rfl, asc1, ?_⟩
      rw [upper1 hc]
      have e2 : sw c = up1 c := by
        unfold sw up1
        unfold lo1 at e1
        repeat' split
        all_goals split at e1
        all_goals omega
      rw [← e2]
      exact q
    · have e1 : c ≠ lo1 c := fun z => e (by rw [← z]; exact decide_eq_true rfl)
      refine ⟨_, rfl, ⟨_, rfl⟩, _, rfl, rfl, asc1, ?_⟩
      rw [lower1 hc]
      have e2 : sw c = lo1 c := by
        unfold sw lo1
        unfold lo1 at e1
        split
        · rfl
        · split at e1
          · contradiction
          · exact absurd rfl e1
      rw [← e2]
      exact q
/-! _law_signs -/
def spSigns : Sp := fun vs H Q _ => ∃ L : List Nat, vs = [tx L] ∧ Lt L ∧ ∀ H', Same H H' → Q (tx (sg L)) H'
theorem ok_signs {f : Addr} {fd : FuncData} {k : Nat} (F : Fun K "_law_signs" "_law_signs" sSigns f fd) : FnOk P w K mg base CX0 (k + 1) f fd ["_law_letters_z"] spSigns := by
  refine F.ok scSigns (fun vs H Q E h => ?_) (fun cdv A outer s H vs Q E hr h => ?_)
  · obtain ⟨l, rfl, _⟩ := h
    rfl
  · obtain ⟨L, rfl, hL, q⟩ := h
    refine ⟨_, pss_one (ps_ret (pe_join pe_str (pe_lc (own := [("_law_letter", 1)]) (g := gName 1) (tt := tYes) rfl scSigns.nd (pi_str (pv 0))
      (blkOk_by (N := ["_law_letters_z", "_law_letter"]) (sc := defScope sSigns) (by decide +kernel)) (fun _ _ _ _ _ => pg_name (i := 1) scSigns.nd rfl (Or.inl rfl)) (fun _ _ _ _ _ => pts_nil)
      (fun _ _ _ _ _ => pe_op op_add_str (pv 1) (pe_upper (pv 1)))))), ?_⟩
    refine ⟨⟨_, rfl⟩, _, rfl, _, rfl, fun D nD => ?_⟩
    refine lc_pure (walk_txt L) (σ := [some (tx L), none]) (i := 1) (fun v => match v with | .str z => .str (z ++ Txt.upper z) | v => v) (fun _ => true) (by rw [List.length_map]; exact small1000 (by have := hL.1; omega)) nD (fun _ _ => trivial) (fun x H2 Q _ _ h => h) ?_ ?_
    · intro x H2 Q hx _ _ h
      obtain ⟨c, hc, rfl⟩ := List.mem_map.mp hx
      refine ⟨_, rfl, _, rfl, ⟨_, rfl⟩, _, rfl, rfl, asc1, _, _, rfl, rfl, ?_, h H2 (Same.refl _)⟩
      rw [upperM (hL.2 c hc), tx_len, tx_len]
      show 2 ≤ sizeLine
      decide
    · intro H2 s2 hD
      refine ⟨_, D, (L.map fun c => [c, c - 32]).map SX.S, rfl, rfl, .inl (SqL.of ?_), ?_, ?_⟩
      · rw [hD]
        congr 2
        rw [List.filter_eq_self.mpr (by simp), List.map_map, List.map_map, List.map_map]
        refine List.map_congr_left fun c hc => ?_
        show V.str (SX.S [c] ++ Txt.upper (SX.S [c])) = V.str (SX.S [c, c - 32])
        rw [upperM (hL.2 c hc), SX.S_cat]
        rfl
      · rw [SX.lens, List.map_map]
        have e : ((List.length ∘ fun c => [c, c - 32]) : Nat → Nat) = fun _ => 2 := rfl
        have e3 : ∀ l : List Nat, (l.map fun _ => 2).sum = l.length * 2 := by
          intro l
          induction l with
          | nil => rfl
          | cons a r ih => rw [List.map_cons, List.sum_cons, ih, List.length_cons]; omega
        rw [e, e3]
        have h0 : (Str.ofString "").length = 0 := by decide
        rw [h0]
        have := hL.1
        simp only [Nat.mul_zero, Nat.add_zero]
        omega
      · have e := SX.join_S [] (L.map fun c => [c, c - 32])
        have e0 : (Str.ofString "") = SX.S [] := by decide
        rw [e0, e, joinNil]
        exact q H2 s2
end
theorem e0S : (Str.ofString "") = SX.S [] := by decide
theorem joinS (ys : List (List Nat)) : Txt.join (Str.ofString "") (ys.map SX.S) = SX.S ys.flatten := by
  rw [e0S, SX.join_S, joinNil]
theorem single_flat (w : List Nat) : (w.map fun c => [c]).flatten = w := by
  induction w with
  | nil => rfl
  | cons c r ih =>
    show [c] ++ (r.map fun c => [c]).flatten = c :: r
    rw [ih]
    rfl
theorem single_sum (w : List Nat) : (((w.map fun c => [c]).map SX.S).map (·.length)).sum = w.length := by
  rw [SX.lens, List.map_map]
  induction w with
  | nil => rfl
  | cons c r ih =>
    rw [List.map_cons, List.sum_cons, ih, List.length_cons]
    show 1 + r.length = _
    omega
theorem len0 : (Str.ofString "").length = 0 := by decide
section
variable {P : Program} {w : World} {K : PySem.W.Frag} {mg : Str → Option Value} {base : Heap}
/-- ''.join of single signs -/
theorem join_signs {X : Cx} {H : Hp} {D : Addr} {l : List Nat} {Q : VK} (hl : l.length ≤ 1000) (hD : H D = some (.lst (l.map fun c => tx [c]))) (q : Q (tx l) H) :
    ∃ a p, ∃ ys : List Str, V.str (Str.ofString "") = .str a ∧ [V.ref D] = [.ref p] ∧ (SqL K H p (ys.map V.str) ∨ SqT K H p (ys.map V.str)) ∧ (ys.map (·.length)).sum + ys.length * a.length ≤ 16777216 ∧ Q (.str (Txt.join a ys)) H := by
  refine ⟨_, D, (l.map fun c => [c]).map SX.S, rfl, rfl, .inl (SqL.of ?_), ?_, ?_⟩
  · rw [hD, List.map_map, List.map_map]
    rfl
  · rw [single_sum, len0]
    omega
  · rw [joinS, single_flat]
    exact q
end
def one (c : Nat) : V := tx [c]
theorem sg_more {L : List Nat} {i c : Nat} (h : L[i]? = some c) : sg (L.take (i + 1)) = sg (L.take i) ++ [c, c - 32] := by
  unfold sg
  rw [take_more h, List.flatMap_append]
  simp
section
variable {P : Program} {w : World} {K : PySem.W.Frag} {mg : Str → Option Value} {base : Heap}
/-! signs_of -/
def spSof : Sp := fun vs H Q _ => ∃ L : List Nat, vs = [tx L] ∧ Lt L ∧ ∀ H' p, Same H H' → H p = none → H' p = some (.lst ((sg L).map one)) → Q (.ref p) H'
theorem ok_sof {f : Addr} {fd : FuncData} {k : Nat} (F : Fun K "signs_of" "signs_of" sSignsOf f fd) : FnOk P w K mg base CX0 (k + 1) f fd ["letters"] spSof := by
  refine F.ok scSignsOf (fun vs H Q E h => ?_) (fun cdv A outer s H vs Q E hr h => ?_)
  · obtain ⟨L, rfl, _⟩ := h
    rfl
  · obtain ⟨L, rfl, hL, q⟩ := h
    refine ⟨_, pss_one (ps_ret (pe_lc2 (own := [("letter", 1), ("sign", 2)]) (vs1 := [2]) (g := gName 1) (tt := tYes) (wi1 := iTup K (tTup (tCons (tVar 1) (tCons (tM0 (fun x xs H Q => ∃ a, x = .str a ∧ xs = [] ∧ a.length ≤ 5592405 ∧ Q (.str (Txt.upper a)) H) (tVar 1)) tNil)))) (g1 := gName 2) (tt1 := tYes) (te := tVar 2) rfl scSignsOf.nd (pi_str (pv 0))
      (blkOk_by (N := ["letters", "letter", "sign"]) (sc := defScope sSignsOf) (by decide +kernel)) (by decide) (fun _ _ _ _ _ => pg_name (i := 1) scSignsOf.nd rfl (Or.inl rfl)) (fun _ _ _ _ _ => pts_nil)
      (fun _ _ _ _ _ => pi_tup (pe_tup (pa_cons (pv 1) (pa_cons (pe_upper (pv 1)) pa_nil))))
      (fun _ _ _ _ _ => pg_name (i := 2) scSignsOf.nd rfl (Or.inl rfl)) (fun _ _ _ _ _ => pts_nil) (fun _ _ _ _ _ => pv 2))), ?_⟩
    refine ⟨_, rfl, _, rfl, fun D nD => ?_⟩
    refine ⟨fun i m H2 => m = L.length - i ∧ i ≤ L.length ∧ Same H H2 ∧ H2 D = some (.lst ((sg (L.take i)).map one)), ⟨_, rfl, Nat.zero_le _, same_new nD, upd_same⟩, ?_⟩
    rintro i m H2 ⟨rfl, hi, sm, hD⟩
    have w0 := walk_txt L
    by_cases hlt : i < L.length
    · have hlt' : i < (L.map fun c => tx [c]).length := by rw [List.length_map]; exact hlt
      refine .inr ⟨w0.goes i H2 hlt' trivial, fun H' => Same H H' ∧ H' D = some (.lst ((sg (L.take (i + 1))).map one)), fun H' h' => ⟨_, by omega, rfl, hlt, h'⟩, fun x H' y => ?_⟩
      obtain ⟨rfl, hx⟩ := w0.yields i H2 x H' hlt' trivial y
      rw [List.getElem?_map] at hx
      obtain ⟨c, hc⟩ : ∃ c, L[i]? = some c := ⟨_, List.getElem?_eq_getElem hlt⟩
      rw [hc] at hx
      obtain rfl : tx [c] = x := Option.some.inj hx
      have hcm := hL.2 c (List.mem_of_getElem? hc)
      refine ⟨rfl, ?_⟩
      dsimp only [tYes]
      rw [if_pos rfl]
      refine ⟨_, rfl, _, rfl, ⟨_, rfl⟩, _, rfl, rfl, asc1, (by show 2 ≤ sizeLine; decide), fun T nT => ?_⟩
      rw [upperM hcm]
      have hT : upd H' T (.tup [tx [c], tx [c - 32]]) T = some (.tup [one c, one (c - 32)]) := upd_same
      have sT : Same H' (upd H' T (.tup [tx [c], tx [c - 32]])) := same_new nT
      refine ⟨T, rfl, ⟨_, SqT.of hT⟩, ?_⟩
      have hll : (sg (L.take i)).length ≤ 200 := by
        rw [sg_len, List.length_take]
        have := hL.1
        omega
      refine ⟨fun j k H3 => k = 2 - j ∧ j ≤ 2 ∧ Same H H3 ∧ H3 T = some (.tup [one c, one (c - 32)]) ∧ H3 D = some (.lst ((sg (L.take i) ++ [c, c - 32].take j).map one)), ⟨_, rfl, by decide, sm.trans sT, hT, ?_⟩, ?_⟩
      · rw [sT _ _ hD]
        simp
      · rintro j k3 H3 ⟨rfl, hj, sm3, hT3, hD3⟩
        have w1 := walk_tup (K := K) (a := T) (xs := [one c, one (c - 32)])
        by_cases hj2 : j < 2
        · refine .inr ⟨w1.goes j H3 hj2 (SqT.of hT3), fun H' => Same H H' ∧ H' T = some (.tup [one c, one (c - 32)]) ∧ H' D = some (.lst ((sg (L.take i) ++ [c, c - 32].take (j + 1)).map one)), fun H' h' => ⟨_, by omega, rfl, hj2, h'⟩, fun x H4 y => ?_⟩
          obtain ⟨rfl, hx2⟩ := w1.yields j H3 x H4 hj2 (SqT.of hT3) y
          refine ⟨rfl, ?_⟩
          dsimp only
          rw [if_pos rfl]
          refine ⟨_, rfl, _, hD3, ?_, ?_, ?_, ?_⟩
          · rw [List.length_map, List.length_append]
            refine small1000 ?_
            have := List.length_take_le j [c, c - 32]
            have e2 : ([c, c - 32] : List Nat).length = 2 := rfl
            omega
          · intro b o e
            rw [upd_ne (ne_of_none e nD)]
            exact sm3 _ _ e
          · rw [upd_ne (ne_of hT3 hD3 (by intro z; cases z))]
            exact hT3
          · rw [upd_same]
            congr 2
            have hz : j = 0 ∨ j = 1 := by omega
            rcases hz with rfl | rfl
            · obtain rfl : one c = x := Option.some.inj hx2
              simp [one]
            · obtain rfl : one (c - 32) = x := Option.some.inj hx2
              simp [one]
        · have ej : j = 2 := by omega
          subst ej
          refine .inl ⟨w1.stops H3 (SqT.of hT3), sm3, ?_⟩
          rw [hD3, sg_more hc]
          rfl
    · have ei : i = L.length := by omega
      subst ei
      rw [List.take_length] at hD
      refine .inl ⟨?_, q H2 D sm nD hD⟩
      have z := w0.stops H2 trivial
      rw [List.length_map] at z
      exact z
end
end K7
set_option maxRecDepth 100000
set_option maxHeartbeats 2000000
namespace K7
open PySem PySem.Spec PyProof.Rows L2
/-! list(text) -/
theorem vals_signs : ∀ (cs : List Nat) (us : List Value), cs.length = us.length → (∀ (j : Nat) (c : Nat) (v : Value), cs[j]? = some c → us[j]? = some v → ∃ t, v = .str ⟨#[c]⟩ t) → Vals (cs.map one) us
  | [], [], _, _ => .nil
  | c :: cs, v :: us, hl, h => by
    refine .cons ?_ (vals_signs cs us (by simpa using hl) fun j c' v' h1 h2 => h (j + 1) c' v' h1 h2)
    obtain ⟨t, e⟩ := h 0 c v rfl rfl
    rw [e]
    exact ⟨t, rfl⟩
theorem c_listS {X : Cx} (hc : X.calm = true) : CallR X (.type "list") (fun xs H Q => ∃ l : List Nat, xs = [tx l] ∧ l.length ≤ 1000 ∧ ∀ p, H p = none → Q (.ref p) (upd H p (.lst (l.map one)))) := by
  intro pins s σ H xs us Q I r h
  obtain ⟨l, rfl, hl, q⟩ := h
  obtain ⟨u, rfl, rx⟩ := vals1 r
  obtain ⟨t, rfl⟩ := rx
  have hsz : (SX.S l).cps.size ≤ sizeLine := asc_le hl
  refine PySem.call_list_str (I.ok.hd hc) (SX.S l) t (fun h' tk acc c' kp e it => ?_) hsz
  have hv : Vals (l.map one) acc.toList := by
    refine vals_signs l acc.toList ?_ fun j c v h1 h2 => ?_
    · have z := it.1
      simp only [List.size_toArray] at z
      have z2 : acc.toList.length = l.length := by simpa using z
      exact z2.symm
    · obtain ⟨c2, u, e1, e2⟩ := it.2 j v (by simpa using h2)
      have e3 : l[j]? = some c2 := by simpa using e1
      rw [h1] at e3
      cases e3
      exact ⟨u, e2⟩
  refine ⟨.ref s.heap.objs.size, _, I.laid (t' := tk) kp (Nat.le_refl _) (show ObjOk X.prog X.w _ h' _ (.lst (l.map one)) from ⟨by rw [List.length_map]; exact Nat.le_of_lt (small1000 hl), acc.toList, c', hv, by simpa using e⟩), rfl, q _ (I.hok.fresh (Nat.le_refl _))⟩
/-! the box goes on, all else stays, new things come -/
def BxGo (H H' : Hp) (b m : Addr) : Prop := Bx H' b m ∧ ∀ x o, x ≠ b → H x = some o → H' x = some o
theorem BxTo.go {H H' : Hp} {b m : Addr} (h : BxTo H H' b m) : BxGo H H' b m := ⟨h.1, fun x o hx e => (h.2 x hx).trans e⟩
theorem BxGo.trans {H H1 H2 : Hp} {b m : Addr} (x : BxGo H H1 b m) (y : BxGo H1 H2 b m) : BxGo H H2 b m := ⟨y.1, fun z o hz e => y.2 z o hz (x.2 z o hz e)⟩
theorem BxGo.refl {H : Hp} {b m : Addr} (x : Bx H b m) : BxGo H H b m := ⟨x, fun _ _ _ e => e⟩
theorem Bx.same {H H' : Hp} {b m : Addr} (x : Bx H b m) (s : Same H H') : Bx H' b m := by
  obtain ⟨ms, i, r, t, h1, h2, h3⟩ := x
  exact ⟨ms, i, r, t, s _ _ h1, s _ _ h2, h3⟩
theorem BxGo.of {H H' : Hp} {b m : Addr} (x : Bx H b m) (s : Same H H') : BxGo H H' b m := ⟨x.same s, fun z o _ e => s _ _ e⟩
theorem Bx.some {H : Hp} {b m : Addr} (x : Bx H b m) : ∃ o, H b = some o := by
  obtain ⟨ms, i, r, t, h1, _⟩ := x
  exact ⟨_, h1⟩
theorem Bx.ne {H : Hp} {b m p : Addr} (x : Bx H b m) (h : H p = none) : p ≠ b := fun e => by
  obtain ⟨o, z⟩ := x.some
  rw [← e, h] at z
  cases z
theorem Bx.neM {H : Hp} {b m p : Addr} (x : Bx H b m) (h : H p = none) : p ≠ m := fun e => by
  obtain ⟨ms, i, r, t, _, h1, _⟩ := x
  rw [← e, h] at h1
  cases h1
theorem Bx.upd {H : Hp} {b m p : Addr} {o : HO} (x : Bx H b m) (h1 : p ≠ b) (h2 : p ≠ m) : Bx (upd H p o) b m := by
  obtain ⟨ms, i, r, t, e1, e2, e3⟩ := x
  exact ⟨ms, i, r, t, by rw [upd_ne (Ne.symm h1)]; exact e1, by rw [upd_ne (Ne.symm h2)]; exact e2, e3⟩
/-- behind a step of the box a new thing stands -/
theorem BxGo.at {H H' : Hp} {b m p : Addr} {o : HO} (x : BxGo H H' b m) (hp : p ≠ b) (h : H p = some o) : H' p = some o := x.2 p o hp h
/-- an address that is new behind was new ahead -/
theorem BxGo.free {H H' : Hp} {b m p : Addr} (x : BxGo H H' b m) (h : H' p = none) : H p = none := by
  have hne := x.1.ne h
  cases e : H p with
  | none => rfl
  | some o => rw [x.2 p o hne e] at h; cases h
theorem menuS : Str.ofString "abmtxyz" = SX.S menu := by decide
theorem left_ne {F : List Nat} (h : F.length ≤ 2) : menu.filter (fun c => !decide (c ∈ F)) ≠ [] := by
  intro e
  have k : ∀ c ∈ menu, c ∈ F := fun c hc => by
    have z := List.filter_eq_nil_iff.mp e c hc
    simpa using z
  have k1 := k 97 (by decide)
  have k2 := k 98 (by decide)
  have k3 := k 109 (by decide)
  match F, h with
  | [], _ => cases k1
  | [a], _ =>
    have e1 : 97 = a := by simpa using k1
    have e2 : 98 = a := by simpa using k2
    omega
  | [a, c], _ =>
    have e1 : 97 = a ∨ 97 = c := by simpa using k1
    have e2 : 98 = a ∨ 98 = c := by simpa using k2
    have e3 : 109 = a ∨ 109 = c := by simpa using k3
    omega
section
variable {P : Program} {w : World} {K : PySem.W.Frag} {mg : Str → Option Value} {base : Heap}
/-! _law_letters -/
def spLet : Sp := fun vs H Q _ => ∃ (b m : Addr) (n : Nat), vs = [.ref b, .int n] ∧ Bx H b m ∧ 1 ≤ n ∧ n ≤ 3 ∧ ∀ L H', L.length = n → (∀ c ∈ L, c ∈ menu) → BxGo H H' b m → Q (tx L) H'
theorem ok_let {f fA : Addr} {fd fdA : FuncData} {k : Nat} (F : Fun K "_law_letters" "_law_letters" sLetters f fd) (B : Bn mg) (GA : FnOk P w K mg base CX0 (k + 2) fA fdA ["_law_box", "_law_some"] spAny) (kA : PySem.W.keepIn K (.ref fA) = true) (bA : Binds K fdA ["_law_box", "_law_some"] []) (gA : mg "_law_any" = some (.ref fA)) :
    FnOk P w K mg base CX0 (k + 3) f fd ["_law_box", "_law_many"] spLet := by
  refine F.ok scLetters (fun vs H Q E h => ?_) (fun cdv A outer s H vs Q E hr h => ?_)
  · obtain ⟨b, m, n, rfl, _⟩ := h
    rfl
  · obtain ⟨b, m, n, rfl, hB, h1, h3, q⟩ := h
    refine ⟨_, pss_cons (ps_set (i := 2) scLetters.nd rfl (.inr rfl) pe_str)
      (pss_cons (ps_for PassesOwn.never rfl (pi_range1 (by rfl) B.range (pa_cons (pv 1) pa_nil)) (pg_name (i := 3) scLetters.nd rfl (Or.inl rfl))
        (pss_cons (ps_setLc (i := 4) (own := [("_law_letter", 5)]) (g := gName 5) (tt := tTest (tOp (fun x y H Q => ∃ (c : Nat) (z : Str), x = .str ⟨#[c]⟩ ∧ y = .str z ∧ Q (.bl (!decide (c ∈ z.cps.toList))) H) (tVar 5) (tVar 2))) (te := tVar 5) rfl scLetters.nd rfl rfl (sw_true rfl rfl rfl (by decide +kernel)) (pi_str pe_str)
          (blkOk_by (N := ["_law_box", "_law_many", "_law_found", "_law_k", "_law_left", "_law_letter"]) (sc := defScope sLetters) (by decide +kernel)) (fun _ _ _ _ _ => pg_name (i := 5) scLetters.nd rfl (Or.inl rfl)) (fun _ _ _ _ _ => pts_one (pt_cmpR op_notIn_sign (pv 5) (pv 2) (by rfl)))
          (fun _ _ _ _ _ => pv 5))
        (pss_one (ps_set (i := 2) scLetters.nd rfl (.inr rfl) (pe_op op_add_str (pv 2) (pe_call GA hr (by rfl) gA kA bA .nil pass0 (pa_cons (pv 0) (pa_cons (pv 4) pa_nil))))))))
      (pss_one (ps_ret (pv 2)))), ?_⟩
    refine ⟨_, rfl, (n : Int), rfl, by omega, by omega, ?_⟩
    refine for_it (walk_range (lo := 0) (n := (n : Int).toNat)) (fun i σ H2 => ∃ (Fd : List Nat) (y3 y4 : Option V), σ = [some (.ref b), some (.int n), some (tx Fd), y3, y4, none] ∧ Fd.length = i ∧ (∀ c ∈ Fd, c ∈ menu) ∧ BxGo H H2 b m)
      ⟨[], none, none, ?_, rfl, (fun c hc => nomatch hc), .refl hB⟩ (fun _ _ _ _ _ => trivial) ?_ ?_
    · show [some (V.ref b), some (.int n), some (.str (Str.ofString "")), none, none, none] = _
      rw [e0S]
    · rintro i x σ H2 H2' hi ⟨Fd, y3, y4, rfl, hlen, hmn, hgo⟩ ⟨rfl, rfl⟩
      refine ⟨_, rfl, fun D nD => ?_⟩
      rw [menuS]
      refine lc_pure (walk_txt menu) (σ := [some (.ref b), some (.int n), some (tx Fd), some (.int (0 + i)), y4, none]) (i := 5) id (fun v => match v with | .str z => !decide (z.cps.toList.headD 0 ∈ Fd) | _ => true) (by decide) nD (fun _ _ => trivial) ?_ ?_ ?_
      · intro x H3 Q hx _ h
        obtain ⟨c, hc, rfl⟩ := List.mem_map.mp hx
        exact ⟨_, rfl, _, rfl, c, _, rfl, rfl, _, rfl, by simpa using h⟩
      · intro x H3 Q hx _ _ h
        exact ⟨_, rfl, h H3 (Same.refl _)⟩
      · intro H3 s3 hD
        have bx3 : Bx H3 b m := hgo.1.same s3
        have hDb : D ≠ b := hgo.1.ne nD
        have eL : (((menu.map fun c => tx [c]).filter (fun v => match v with | .str z => !decide (z.cps.toList.headD 0 ∈ Fd) | _ => true)).map id) = (menu.filter (fun c => !decide (c ∈ Fd))).map one := by
          rw [List.map_id, List.filter_map]
          rfl
        rw [eL] at hD
        have hne := left_ne (F := Fd) (by rw [hlen]; omega)
        refine ⟨_, rfl, _, rfl, _, rfl, b, m, D, _, rfl, bx3, hD, hDb, (by simpa using hne), ?_, fun x H4 hx hT => ?_⟩
        · rw [List.length_map]
          have := List.length_filter_le (fun c => !decide (c ∈ Fd)) menu
          have e7 : menu.length = 7 := rfl
          omega
        · obtain ⟨c, hc, rfl⟩ := List.mem_map.mp hx
          have hcm : c ∈ menu := (List.mem_filter.mp hc).1
          refine ⟨_, _, rfl, rfl, ?_, Fd ++ [c], some (.int (0 + i)), some (.ref D), ?_, ?_, ?_, ?_⟩
          · rw [tx_len, tx_len]
            exact Nat.le_of_lt (small1000 (by simp; omega))
          · rw [SX.S_cat]
            rfl
          · rw [List.length_append, hlen]
            rfl
          · intro d hd
            rcases List.mem_append.mp hd with z | z
            · exact hmn d z
            · have e : d = c := by simpa using z
              rw [e]
              exact hcm
          · exact (hgo.trans (.of hgo.1 s3)).trans hT.go
    · rintro σ H2 ⟨Fd, y3, y4, rfl, hlen, hmn, hgo⟩
      refine ⟨_, rfl, q Fd H2 ?_ hmn hgo⟩
      rw [hlen]
      omega
end
def Flat (x : V) : Prop := (∃ i, x = .int i) ∨ (∃ z, x = .str z) ∨ (∃ b, x = .bl b)
/-- two values that bear the same data, at most n deep -/
def Eqd : Nat → Hp → V → V → Prop
  | 0, _, x, y => x = y ∧ Flat x
  | n + 1, H, x, y => (x = y ∧ Flat x) ∨ ∃ (p q : Addr) (xs ys : List V), x = .ref p ∧ y = .ref q ∧ xs.length = ys.length ∧ xs.length ≤ 1000 ∧
      ((H p = some (.lst xs) ∧ H q = some (.lst ys)) ∨ (H p = some (.tup xs) ∧ H q = some (.tup ys))) ∧ ∀ (i : Nat) (u v : V), xs[i]? = some u → ys[i]? = some v → Eqd n H u v
theorem Eqd.same {H H' : Hp} (s : Same H H') : ∀ {n : Nat} {x y : V}, Eqd n H x y → Eqd n H' x y := by
  intro n
  induction n with
  | zero => exact fun h => h
  | succ n ih =>
    rintro x y (h | ⟨p, q, xs, ys, e1, e2, e3, e4, e5, e6⟩)
    · exact .inl h
    · refine .inr ⟨p, q, xs, ys, e1, e2, e3, e4, ?_, fun i u v h1 h2 => ih (e6 i u v h1 h2)⟩
      rcases e5 with ⟨a, b⟩ | ⟨a, b⟩
      · exact .inl ⟨s _ _ a, s _ _ b⟩
      · exact .inr ⟨s _ _ a, s _ _ b⟩
theorem Eqd.flat {H : Hp} {x : V} {n : Nat} (h : Flat x) : Eqd n H x x := by
  cases n with
  | zero => exact ⟨rfl, h⟩
  | succ n => exact .inl ⟨rfl, h⟩
section
variable {P : Program} {w : World} {K : PySem.W.Frag} {mg : Str → Option Value} {base : Heap}
def spSame (n : Nat) : Sp := fun vs H Q _ => ∃ x y : V, vs = [x, y] ∧ Eqd n H x y ∧ ∀ H', Same H H' → Q (.bl true) H'
abbrev N3 : List Str := ["_law_found", "_law_due", "_law_k"]
theorem same_flat {f : Addr} {k : Nat} (B : Bn mg) {cdv : Value} {A : Around} {outer : List Env} {s : Shared} {H : Hp} {Q : VK} {E : XK} :
    ∃ t2, PSs (cxOf CX0 P w K mg base N3 "_law_same" (defScope sSame) f cdv A outer s H E).nox ((defBody sSame).drop 1) t2 ∧
      ∀ (x : V) (H' : Hp), Flat x → Q (.bl true) H' → t2 { nx := fun _ H' => Q .non H', rt := Q } [some x, some x, none] H' := by
  refine ⟨_, pss_cons (ps_if (PW.pt (pw_or (pt_cmpR op_isN (pv 1) pe_non (nomark _)) (pw_or1 (pt_cmpR op_isN (pv 0) pe_non (nomark _))))) pss_never pss_nil)
    (pss_cons (ps_if (PW.pt (pw_or
        (pt_cmpR op_ne (pe_callB call_isi (by rfl) B.isinst boot_isinstance (pa_cons (pv 1) (pa_cons (pe_bltn (v := .ty "bool") (by rfl) B.bool PyProof.Rows.boot_bool rfl) pa_nil))) (pe_callB call_isi (by rfl) B.isinst boot_isinstance (pa_cons (pv 0) (pa_cons (pe_bltn (v := .ty "bool") (by rfl) B.bool PyProof.Rows.boot_bool rfl) pa_nil))) (nomark _))
        (pw_or1 (pt_cmpR op_ne (pe_callB call_isi (by rfl) B.isinst boot_isinstance (pa_cons (pv 1) (pa_cons (pe_bltn (v := .ty "int") (by rfl) B.int PyProof.Rows.boot_int rfl) pa_nil))) (pe_callB call_isi (by rfl) B.isinst boot_isinstance (pa_cons (pv 0) (pa_cons (pe_bltn (v := .ty "int") (by rfl) B.int PyProof.Rows.boot_int rfl) pa_nil))) (nomark _))))) pss_never pss_nil)
    (pss_one (ps_ret (pe_and (pe_cmpR op_eq (pe_callB call_isi (by rfl) B.isinst boot_isinstance (pa_cons (pv 1) (pa_cons (pe_bltn (v := .ty "str") (by rfl) B.str PyProof.Rows.boot_str rfl) pa_nil))) (pe_callB call_isi (by rfl) B.isinst boot_isinstance (pa_cons (pv 0) (pa_cons (pe_bltn (v := .ty "str") (by rfl) B.str PyProof.Rows.boot_str rfl) pa_nil))) (nomark _))
      (pe_one (pe_cmpR op_eq (pv 0) (pv 1) (nomark _))))))), fun x H' hx q => ?_⟩
  rcases hx with ⟨i, rfl⟩ | ⟨z, rfl⟩ | ⟨b, rfl⟩
  · refine ⟨_, rfl, rfl, false, rfl, iteF ⟨_, rfl, rfl, false, rfl, iteF ?_⟩⟩
    refine ⟨_, rfl, _, _, _, _, false, rfl, .ty _, .base (.int i), kit_ty (by decide +kernel), _, rfl, _, _, _, _, false, rfl, .ty _, .base (.int i), kit_ty (by decide +kernel), rfl, false, rfl, iteF ?_⟩
    refine ⟨_, rfl, _, _, _, _, true, rfl, .ty _, .base (.int i), kit_ty (by decide +kernel), _, rfl, _, _, _, _, true, rfl, .ty _, .base (.int i), kit_ty (by decide +kernel), rfl, false, rfl, iteF ?_⟩
    refine ⟨_, rfl, _, _, _, _, false, rfl, .ty _, .base (.int i), kit_ty (by decide +kernel), _, rfl, _, _, _, _, false, rfl, .ty _, .base (.int i), kit_ty (by decide +kernel), rfl, true, rfl, iteT ?_⟩
    refine ⟨_, rfl, _, rfl, rfl, ?_⟩
    rw [decide_eq_true rfl]
    exact q
  · refine ⟨_, rfl, rfl, false, rfl, iteF ⟨_, rfl, rfl, false, rfl, iteF ?_⟩⟩
    refine ⟨_, rfl, _, _, _, _, false, rfl, .ty _, .base (.str z), kit_ty (by decide +kernel), _, rfl, _, _, _, _, false, rfl, .ty _, .base (.str z), kit_ty (by decide +kernel), rfl, false, rfl, iteF ?_⟩
    refine ⟨_, rfl, _, _, _, _, false, rfl, .ty _, .base (.str z), kit_ty (by decide +kernel), _, rfl, _, _, _, _, false, rfl, .ty _, .base (.str z), kit_ty (by decide +kernel), rfl, false, rfl, iteF ?_⟩
    refine ⟨_, rfl, _, _, _, _, true, rfl, .ty _, .base (.str z), kit_ty (by decide +kernel), _, rfl, _, _, _, _, true, rfl, .ty _, .base (.str z), kit_ty (by decide +kernel), rfl, true, rfl, iteT ?_⟩
    refine ⟨_, rfl, _, rfl, rfl, ?_⟩
    rw [decide_eq_true rfl]
    exact q
  · refine ⟨_, rfl, rfl, false, rfl, iteF ⟨_, rfl, rfl, false, rfl, iteF ?_⟩⟩
    refine ⟨_, rfl, _, _, _, _, true, rfl, .ty _, .base (.bl b), kit_ty (by decide +kernel), _, rfl, _, _, _, _, true, rfl, .ty _, .base (.bl b), kit_ty (by decide +kernel), rfl, false, rfl, iteF ?_⟩
    refine ⟨_, rfl, _, _, _, _, true, rfl, .ty _, .base (.bl b), kit_ty (by decide +kernel), _, rfl, _, _, _, _, true, rfl, .ty _, .base (.bl b), kit_ty (by decide +kernel), rfl, false, rfl, iteF ?_⟩
    refine ⟨_, rfl, _, _, _, _, false, rfl, .ty _, .base (.bl b), kit_ty (by decide +kernel), _, rfl, _, _, _, _, false, rfl, .ty _, .base (.bl b), kit_ty (by decide +kernel), rfl, true, rfl, iteT ?_⟩
    refine ⟨_, rfl, _, rfl, rfl, ?_⟩
    rw [decide_eq_true rfl]
    exact q
theorem ty2 {t : Value} {b1 b2 b : Bool} (h1 : PySem.W.kitOne K t (.type "list") = some b1) (h2 : PySem.W.kitOne K t (.type "tuple") = some b2) (hb : b = (b1 || b2)) : PySem.W.kitAny K t [.type "list", .type "tuple"] = some b := by
  subst hb
  refine kitAny_cons h1 (fun e => ?_) (fun e => by rw [e]; rfl)
  subst e
  show PySem.W.kitAny K t [.type "tuple"] = some b2
  exact kitAny_cons h2 (fun e2 => by rw [e2]; rfl) (fun e2 => e2)
theorem ok_same {f : Addr} {fd : FuncData} (F : Fun K "_law_same" "_law_same" sSame f fd) (B : Bn mg) (b0 : Binds K fd ["_law_found", "_law_due"] []) (g0 : mg "_law_same" = some (.ref f)) :
    ∀ n : Nat, FnOk P w K mg base CX0 (n + 1) f fd ["_law_found", "_law_due"] (spSame n) := by
  intro n
  induction n with
  | zero =>
    refine F.ok scSame (fun vs H Q E h => ?_) (fun cdv A outer s H vs Q E hr h => ?_)
    · obtain ⟨x, y, rfl, _⟩ := h
      rfl
    · obtain ⟨x, y, rfl, ⟨rfl, hx⟩, q⟩ := h
      obtain ⟨t2, P2, R2⟩ := same_flat (P := P) (w := w) (K := K) (base := base) (f := f) (k := 0) B (cdv := cdv) (A := A) (outer := outer) (s := s) (H := H) (Q := Q) (E := E)
      refine ⟨_, pss_cons (ps_if (pt_val (pe_callB call_isiT (by rfl) B.isinst boot_isinstance (pa_cons (pv 1) (pa_cons (pe_tup (pa_cons (pe_bltn (v := .ty "list") (by rfl) B.list PyProof.Rows.boot_list rfl) (pa_cons (pe_bltn (v := .ty "tuple") (by rfl) B.tuple PyProof.Rows.boot_tuple rfl) pa_nil))) pa_nil)))) pss_never pss_nil) P2, ?_⟩
      refine ⟨_, rfl, (by show 2 ≤ sizeLine; decide), fun T nT => ?_⟩
      have cl : Paired ClsV [V.ty "list", V.ty "tuple"] [.type "list", .type "tuple"] := .cons (.ty _) (.cons (.ty _) .nil)
      have fin := R2 x (upd H T (.tup [.ty "list", .ty "tuple"])) hx (q _ (same_new nT))
      rcases hx with ⟨i, rfl⟩ | ⟨z, rfl⟩ | ⟨b, rfl⟩
      · exact ⟨_, T, _, _, _, false, rfl, upd_same, cl, .base (.int i), ty2 (kit_ty (r := false) (by decide +kernel)) (kit_ty (r := false) (by decide +kernel)) rfl, _, rfl, iteF fin⟩
      · exact ⟨_, T, _, _, _, false, rfl, upd_same, cl, .base (.str z), ty2 (kit_ty (r := false) (by decide +kernel)) (kit_ty (r := false) (by decide +kernel)) rfl, _, rfl, iteF fin⟩
      · exact ⟨_, T, _, _, _, false, rfl, upd_same, cl, .base (.bl b), ty2 (kit_ty (r := false) (by decide +kernel)) (kit_ty (r := false) (by decide +kernel)) rfl, _, rfl, iteF fin⟩
  | succ n ih =>
    refine F.ok scSame (fun vs H Q E h => ?_) (fun cdv A outer s H vs Q E hr h => ?_)
    · obtain ⟨x, y, rfl, _⟩ := h
      rfl
    · obtain ⟨x, y, rfl, hE, q⟩ := h
      obtain ⟨t2, P2, R2⟩ := same_flat (P := P) (w := w) (K := K) (base := base) (f := f) (k := 0) B (cdv := cdv) (A := A) (outer := outer) (s := s) (H := H) (Q := Q) (E := E)
      refine ⟨_, pss_cons (ps_if (pt_val (pe_callB call_isiT (by rfl) B.isinst boot_isinstance (pa_cons (pv 1) (pa_cons (pe_tup (pa_cons (pe_bltn (v := .ty "list") (by rfl) B.list PyProof.Rows.boot_list rfl) (pa_cons (pe_bltn (v := .ty "tuple") (by rfl) B.tuple PyProof.Rows.boot_tuple rfl) pa_nil))) pa_nil))))
        (pss_cons (ps_if (PW.pt (pw_or
          (pt_cmpR op_ne (pe_callB call_isi (by rfl) B.isinst boot_isinstance (pa_cons (pv 0) (pa_cons (pe_bltn (v := .ty "list") (by rfl) B.list PyProof.Rows.boot_list rfl) pa_nil))) (pe_callB call_isi (by rfl) B.isinst boot_isinstance (pa_cons (pv 1) (pa_cons (pe_bltn (v := .ty "list") (by rfl) B.list PyProof.Rows.boot_list rfl) pa_nil))) (nomark _))
          (pw_or1 (pt_cmpR op_ne (pe_callB call_isi (by rfl) B.isinst boot_isinstance (pa_cons (pv 0) (pa_cons (pe_bltn (v := .ty "tuple") (by rfl) B.tuple PyProof.Rows.boot_tuple rfl) pa_nil))) (pe_callB call_isi (by rfl) B.isinst boot_isinstance (pa_cons (pv 1) (pa_cons (pe_bltn (v := .ty "tuple") (by rfl) B.tuple PyProof.Rows.boot_tuple rfl) pa_nil))) (nomark _))))) pss_never pss_nil)
        (pss_one (ps_ret (pe_and (pe_cmpR op_eq (pe_callB call_len_seq (by rfl) B.len PySem.boot_len (pa_cons (pv 0) pa_nil)) (pe_callB call_len_seq (by rfl) B.len PySem.boot_len (pa_cons (pv 1) pa_nil)) (nomark _))
          (pe_one (pe_callB (cr_all rfl) (by rfl) B.all boot_all (pa_cons (pe_lc (own := [("_law_k", 2)]) (g := gName 2) (tt := tYes)
            (te := tCall (spSame n) [] E0 (tCons (tOp (rIx K) (tVar 0) (tVar 2)) (tCons (tOp (rIx K) (tVar 1) (tVar 2)) tNil)))
            rfl scSame.nd (pi_range1 (by rfl) B.range (pa_cons (pe_callB call_len_seq (by rfl) B.len PySem.boot_len (pa_cons (pv 1) pa_nil)) pa_nil))
            (blkOk_by (N := N3) (sc := defScope sSame) (by decide +kernel)) (fun _ _ _ _ _ => pg_name (i := 2) scSame.nd rfl (Or.inl rfl)) (fun _ _ _ _ _ => pts_nil)
            (fun _ _ _ _ _ => pe_call ih hr (by rfl) g0 F.kp b0 .nil pass0 (pa_cons (pe_ix ix_seq (pv 0) (pv 2) (fun _ _ => rfl)) (pa_cons (pe_ix ix_seq (pv 1) (pv 2) (fun _ _ => rfl)) pa_nil)))) pa_nil))))))) pss_nil) P2, ?_⟩
      refine ⟨_, rfl, (by show 2 ≤ sizeLine; decide), fun T nT => ?_⟩
      have cl : Paired ClsV [V.ty "list", V.ty "tuple"] [.type "list", .type "tuple"] := .cons (.ty _) (.cons (.ty _) .nil)
      have sT : Same H (upd H T (.tup [.ty "list", .ty "tuple"])) := same_new nT
      rcases hE with ⟨rfl, hx⟩ | ⟨p, p2, xs, ys, rfl, rfl, hl, hl2, hp, hi⟩
      · have fin := R2 x (upd H T (.tup [.ty "list", .ty "tuple"])) hx (q _ sT)
        rcases hx with ⟨i, rfl⟩ | ⟨z, rfl⟩ | ⟨b, rfl⟩
        · exact ⟨_, T, _, _, _, false, rfl, upd_same, cl, .base (.int i), ty2 (kit_ty (r := false) (by decide +kernel)) (kit_ty (r := false) (by decide +kernel)) rfl, _, rfl, iteF fin⟩
        · exact ⟨_, T, _, _, _, false, rfl, upd_same, cl, .base (.str z), ty2 (kit_ty (r := false) (by decide +kernel)) (kit_ty (r := false) (by decide +kernel)) rfl, _, rfl, iteF fin⟩
        · exact ⟨_, T, _, _, _, false, rfl, upd_same, cl, .base (.bl b), ty2 (kit_ty (r := false) (by decide +kernel)) (kit_ty (r := false) (by decide +kernel)) rfl, _, rfl, iteF fin⟩
      · have hlen : (xs.length : Int) = (ys.length : Int) := by rw [hl]
        -- the list part, for lists and for tuples
        have key : ∀ H1, Same H H1 → (SqL K H1 p xs ∨ SqT K H1 p xs) → (SqL K H1 p2 ys ∨ SqT K H1 p2 ys) → (∀ H2, Same H1 H2 → (SqL K H2 p xs ∧ SqL K H2 p2 ys) ∨ (SqT K H2 p xs ∧ SqT K H2 p2 ys)) →
            tRet (tAndV (tOp rEq (tCB (fun xs H Q => ∃ p ys, xs = [.ref p] ∧ (SqL K H p ys ∨ SqT K H p ys) ∧ Q (.int ys.length) H) (tCons (tVar 0) tNil)) (tCB (fun xs H Q => ∃ p ys, xs = [.ref p] ∧ (SqL K H p ys ∨ SqT K H p ys) ∧ Q (.int ys.length) H) (tCons (tVar 1) tNil)))
              (tCB (rAll K) (tCons (tLc (iRng1 (tCons (tCB (fun xs H Q => ∃ p ys, xs = [.ref p] ∧ (SqL K H p ys ∨ SqT K H p ys) ∧ Q (.int ys.length) H) (tCons (tVar 1) tNil)) tNil)) (gName 2) tYes
                (tCall (spSame n) [] E0 (tCons (tOp (rIx K) (tVar 0) (tVar 2)) (tCons (tOp (rIx K) (tVar 1) (tVar 2)) tNil))) [2]) tNil))) { nx := fun _ H' => Q .non H', rt := Q } [some (.ref p), some (.ref p2), none] H1 := by
          intro H1 s1 hp1 hp2 hall
          refine ⟨_, rfl, p, xs, rfl, hp1, _, rfl, p2, ys, rfl, hp2, rfl, true, ?_, iteT ?_⟩
          · rw [hlen]
            exact congrArg V.bl (decide_eq_true rfl)
          · refine ⟨_, rfl, p2, ys, rfl, hp2, _, rfl, by omega, by omega, fun D nD => ?_⟩
            rw [show ((ys.length : Int)).toNat = ys.length by omega]
            refine lc_it (walk_range (lo := 0) (n := ys.length)) (fun i H2 => Same H1 H2 ∧ H2 D = some (.lst ((List.replicate i true).map V.bl))) ⟨same_new nD, upd_same⟩ (fun _ _ _ _ => trivial) ?_ ?_
            · rintro i x H2 H2' hi2 ⟨s2, hD⟩ ⟨rfl, rfl⟩
              refine ⟨rfl, ?_⟩
              dsimp only [tYes]
              rw [if_pos rfl]
              have hx : i < xs.length := by omega
              have gx : xs[i]? = some xs[i] := List.getElem?_eq_getElem hx
              have gy : ys[i]? = some ys[i] := List.getElem?_eq_getElem hi2
              have ei : (0 : Int) + (i : Int) = ((i : Nat) : Int) := by omega
              have ax : atI xs (0 + (i : Int)) = some xs[i] := by rw [ei]; exact atI_nat gx
              have ay : atI ys (0 + (i : Int)) = some ys[i] := by rw [ei]; exact atI_nat gy
              have eq := (hi i _ _ gx gy).same (s1.trans s2)
              have fin : ∀ H3, Same H2' H3 → ∃ acc, H3 D = some (.lst acc) ∧ acc.length < sizeLine ∧ (Same H1 (upd H3 D (.lst (acc ++ [.bl true]))) ∧ upd H3 D (.lst (acc ++ [.bl true])) D = some (.lst ((List.replicate (i + 1) true).map V.bl))) := by
                intro H3 s3
                refine ⟨_, s3 _ _ hD, ?_, ?_, ?_⟩
                · rw [List.length_map, List.length_replicate]
                  exact small1000 (by omega)
                · intro b o e
                  rw [upd_ne (ne_of_none e nD)]
                  exact s3 _ _ (s2 _ _ e)
                · rw [upd_same, List.replicate_succ', List.map_append]
                  rfl
              rcases hall H2' s2 with ⟨z1, z2⟩ | ⟨z1, z2⟩
              · exact ⟨_, rfl, _, rfl, .inl ⟨p, xs, _, _, rfl, rfl, z1, ax, _, rfl, _, rfl, .inl ⟨p2, ys, _, _, rfl, rfl, z2, ay, _, _, rfl, eq, fin⟩⟩⟩
              · exact ⟨_, rfl, _, rfl, .inr (.inl ⟨p, xs, _, _, rfl, rfl, z1, ax, _, rfl, _, rfl, .inr (.inl ⟨p2, ys, _, _, rfl, rfl, z2, ay, _, _, rfl, eq, fin⟩)⟩)⟩
            · rintro H2 ⟨s2, hD⟩
              refine ⟨D, List.replicate ys.length true, rfl, SqL.of hD, ?_⟩
              have e : (List.replicate ys.length true).all id = true := by
                rw [List.all_eq_true]
                intro b hb
                exact List.eq_of_mem_replicate hb
              rw [e]
              exact q H2 (s1.trans s2)
        rcases hp with ⟨h1, h2⟩ | ⟨h1, h2⟩
        · refine ⟨_, T, _, _, _, true, rfl, upd_same, cl, .base (.lst (sT _ _ h2)), ty2 (kit_ty (r := true) (by decide +kernel)) (kit_ty (r := false) (by decide +kernel)) rfl, _, rfl, iteT ?_⟩
          refine ⟨_, rfl, _, _, _, _, true, rfl, .ty _, .base (.lst (sT _ _ h1)), kit_ty (by decide +kernel), _, rfl, _, _, _, _, true, rfl, .ty _, .base (.lst (sT _ _ h2)), kit_ty (by decide +kernel), rfl, false, rfl, iteF ?_⟩
          refine ⟨_, rfl, _, _, _, _, false, rfl, .ty _, .base (.lst (sT _ _ h1)), kit_ty (by decide +kernel), _, rfl, _, _, _, _, false, rfl, .ty _, .base (.lst (sT _ _ h2)), kit_ty (by decide +kernel), rfl, false, rfl, iteF ?_⟩
          exact key _ sT (.inl (SqL.of (sT _ _ h1))) (.inl (SqL.of (sT _ _ h2))) fun H2 s2 => .inl ⟨SqL.of (s2 _ _ (sT _ _ h1)), SqL.of (s2 _ _ (sT _ _ h2))⟩
        · refine ⟨_, T, _, _, _, true, rfl, upd_same, cl, .base (.tup (sT _ _ h2)), ty2 (kit_ty (r := false) (by decide +kernel)) (kit_ty (r := true) (by decide +kernel)) rfl, _, rfl, iteT ?_⟩
          refine ⟨_, rfl, _, _, _, _, false, rfl, .ty _, .base (.tup (sT _ _ h1)), kit_ty (by decide +kernel), _, rfl, _, _, _, _, false, rfl, .ty _, .base (.tup (sT _ _ h2)), kit_ty (by decide +kernel), rfl, false, rfl, iteF ?_⟩
          refine ⟨_, rfl, _, _, _, _, true, rfl, .ty _, .base (.tup (sT _ _ h1)), kit_ty (by decide +kernel), _, rfl, _, _, _, _, true, rfl, .ty _, .base (.tup (sT _ _ h2)), kit_ty (by decide +kernel), rfl, false, rfl, iteF ?_⟩
          exact key _ sT (.inr (SqT.of (sT _ _ h1))) (.inr (SqT.of (sT _ _ h2))) fun H2 s2 => .inr ⟨SqT.of (s2 _ _ (sT _ _ h1)), SqT.of (s2 _ _ (sT _ _ h2))⟩
end
end K7
set_option maxRecDepth 100000
set_option maxHeartbeats 2000000
namespace K7
open PySem PySem.Spec PyProof.Rows L2
theorem big_lt {n : Nat} (h : n ≤ 100000) : n < sizeLine := by
  rw [PySem.sizeLine_eq]
  omega
theorem asc_big {w : List Nat} (h : w.length ≤ 100000) : (SX.S w).length ≤ sizeLine := by
  rw [tx_len]
  exact Nat.le_of_lt (big_lt h)
theorem isdg1 : ∀ c, c < 128 → Txt.isdigit (SX.S [c]) = decide (48 ≤ c ∧ c ≤ 57) := by decide +kernel
theorem isdg0 : Txt.isdigit (SX.S []) = false := by decide +kernel
theorem one49 : Str.ofString "1" = SX.S [49] := by decide
theorem dash : Str.ofString "-" = SX.S [45] := by decide
theorem zero48 : Str.ofString "0" = SX.S [48] := by decide
theorem caret : Str.ofString "^" = SX.S [94] := by decide
theorem par40 : Str.ofString "(" = SX.S [40] := by decide
theorem par91 : Str.ofString "[" = SX.S [91] := by decide
theorem par41 : Str.ofString ")" = SX.S [41] := by decide
theorem par93 : Str.ofString "]" = SX.S [93] := by decide
theorem com44 : Str.ofString "," = SX.S [44] := by decide
theorem atS {l : List Nat} {j c : Nat} (h : l[j]? = some c) : atI (SX.S l).cps.toList (j : Int) = some c := atI_nat (by simpa using h)
theorem tx_eq {a b : List Nat} : decide (tx a = tx b) = decide (a = b) := by
  by_cases h : a = b
  · subst h
    rw [decide_eq_true rfl, decide_eq_true rfl]
  · rw [decide_eq_false h, decide_eq_false (fun z => h (SX.S_inj (V.str.inj z)))]
/-- a text, so many times -/
def rep (n : Nat) (l : List Nat) : List Nat := (List.replicate n l).flatten
theorem rep_len (n : Nat) (l : List Nat) : (rep n l).length = n * l.length := by
  unfold rep
  rw [List.length_flatten, List.map_replicate, List.sum_replicate_nat]
theorem rep_asc {n : Nat} {l : List Nat} (h : Asc l) : Asc (rep n l) := fun c hc => by
  obtain ⟨x, hx, hcx⟩ := List.mem_flatten.mp hc
  rw [(List.mem_replicate.mp hx).2] at hcx
  exact h c hcx
theorem fold_rep (l : List Nat) : ∀ (n : Nat) (acc : Array Nat), (List.replicate n (SX.S l).cps).foldl (· ++ ·) acc = acc ++ (rep n l).toArray
  | 0, acc => by simp [rep]
  | n + 1, acc => by
    rw [List.replicate_succ, List.foldl_cons, fold_rep l n]
    apply Array.toList_inj.mp
    simp [rep, List.replicate_succ]
theorem o_mulS {X : Cx} : OpR X (binaryOp .Mult) (fun x y H Q => ∃ (l : List Nat) (n : Nat), x = tx l ∧ y = .int (n : Int) ∧ l.length ≤ 401 ∧ n ≤ 100 ∧ Q (tx (rep n l)) H) := by
  intro pins s σ H x y v u Q I rx ry h
  obtain ⟨l, n, rfl, rfl, h1, h2, q⟩ := h
  obtain ⟨t, rfl⟩ := rx
  obtain ⟨t', rfl⟩ := ry
  have hl : (SX.S l).length = l.length := tx_len l
  have hm : l.length * n ≤ 40100 := Nat.mul_le_mul (show l.length ≤ 401 from h1) (show n ≤ 100 from h2)
  refine PySem.P.mul_str ?_ (fun hn _ => ?_) (fun hn _ => ?_) ?_
  · rw [decide_eq_false (by omega), decide_eq_false (by omega)]
    rfl
  · rw [hl]
    have : (401 : Int) ≤ (2 ^ 63 - 1) / (n : Int) := by
      rw [Int.le_ediv_iff_mul_le (by omega)]
      omega
    omega
  · rw [hl]
    exact short24 (by rw [Int.toNat_natCast]; omega)
  · by_cases h0 : n = 0
    · subst h0
      rw [if_pos (by decide)]
      refine ⟨by decide, ⟨tx (rep 0 l), H, I.tok _, ⟨_, rfl⟩, q⟩⟩
    · rw [if_neg (by omega)]
      by_cases e : (((n : Int) == 1) || ((SX.S l).length == 0)) = true
      · rw [if_pos e]
        have e3 : rep n l = l := by
          rw [Bool.or_eq_true] at e
          rcases e with e | e
          · have : n = 1 := by
              have := eq_of_beq e
              omega
            subst this
            simp [rep]
          · rw [hl] at e
            have : l = [] := List.eq_nil_of_length_eq_zero (eq_of_beq e)
            subst this
            simp [rep]
        rw [e3] at q
        exact ⟨.str (SX.S l), H, I, ⟨_, rfl⟩, q⟩
      · rw [if_neg e, Int.toNat_natCast, fold_rep]
        have e3 : (#[] ++ (rep n l).toArray : Array Nat) = (rep n l).toArray := by simp
        rw [e3]
        refine ⟨?_, ⟨tx (rep n l), H, I.tok _, ⟨_, rfl⟩, q⟩⟩
        show (SX.S (rep n l)).length ≤ sizeLine
        refine asc_big ?_
        rw [rep_len, Nat.mul_comm]
        omega
theorem cut_to (l : List Nat) (n : Nat) : cutS (SX.S l) none (some (n : Int)) = SX.S (l.take n) := by
  unfold cutS
  rw [HT.sIx_none, List.drop_zero, Nat.sub_zero, HT.sIx_nat, tx_len]
  show SX.S (l.take (min n l.length)) = SX.S (l.take n)
  by_cases h : n ≤ l.length
  · rw [Nat.min_eq_left h]
  · rw [Nat.min_eq_right (by omega), List.take_length, List.take_of_length_le (by omega)]
theorem cut_two (l : List Nat) (a b : Nat) : cutS (SX.S l) (some (a : Int)) (some (b : Int)) = SX.S ((l.drop a).take (b - a)) := by
  unfold cutS
  rw [HT.sIx_nat, HT.sIx_nat, tx_len]
  show SX.S ((l.drop (min a l.length)).take (min b l.length - min a l.length)) = SX.S ((l.drop a).take (b - a))
  by_cases h : a ≤ l.length
  · rw [Nat.min_eq_left h]
    by_cases h2 : b ≤ l.length
    · rw [Nat.min_eq_left h2]
    · rw [Nat.min_eq_right (by omega), List.take_of_length_le (by rw [List.length_drop]; omega), List.take_of_length_le (by rw [List.length_drop]; omega)]
  · rw [Nat.min_eq_right (show l.length ≤ a by omega), List.drop_length, List.drop_eq_nil_of_le (by omega)]
    simp
/-- the mark at a place -/
def mk (t : List Nat) (a : Nat) : List Nat := (t.drop a).take 1
theorem mk_cases (t : List Nat) (a : Nat) : mk t a = [] ∨ ∃ c, mk t a = [c] := by
  unfold mk
  cases t.drop a with
  | nil => exact .inl rfl
  | cons c r => exact .inr ⟨c, rfl⟩
theorem e_never {X : Cx} {e : Expr} : PE X e (fun _ _ _ => False) := ⟨fun _ _ _ _ _ _ h => h.elim⟩
def ct (l : List Nat) : List Nat := l.take 401
theorem ct_len (l : List Nat) : (ct l).length ≤ 401 := List.length_take_le _ _
theorem ct_asc {l : List Nat} (h : Asc l) : Asc (ct l) := fun c hc => h c (List.mem_of_mem_take hc)
theorem sw_asc : ∀ c, c < 128 → sw c < 128 := by decide +kernel
theorem opp_asc {l : List Nat} (h : Asc l) : Asc (opp l) := fun c hc => by
  obtain ⟨d, hd, rfl⟩ := List.mem_map.mp hc
  exact sw_asc d (h d (List.mem_reverse.mp hd))
theorem opp_len (l : List Nat) : (opp l).length = l.length := by
  unfold opp
  rw [List.length_map, List.length_reverse]
/-- the power of a word, cut -/
def pw (l : List Nat) (e : Int) : List Nat := if e < 0 then ct (rep e.natAbs (opp l)) else ct (rep e.natAbs l)
theorem pw_len (l : List Nat) (e : Int) : (pw l e).length ≤ 401 := by
  unfold pw
  split <;> exact ct_len _
theorem pw_asc {l : List Nat} (h : Asc l) (e : Int) : Asc (pw l e) := by
  unfold pw
  split
  · exact ct_asc (rep_asc (opp_asc h))
  · exact ct_asc (rep_asc h)
section
variable {P : Program} {w : World} {K : PySem.W.Frag} {mg : Str → Option Value} {base : Heap}
/-! cut -/
def spCut : Sp := fun vs H Q _ => ∃ l : List Nat, vs = [tx l] ∧ l.length ≤ 100000 ∧ Q (tx (ct l)) H
theorem ok_cut {f : Addr} {fd : FuncData} {k : Nat} {tL : Tok} (F : Fun K "cut" "cut" sCut f fd) (mL : mg "LONGEST" = some (.int 400 tL)) : FnOk P w K mg base CX0 (k + 1) f fd ["word"] spCut := by
  refine F.ok scCut (fun vs H Q E h => ?_) (fun cdv A outer s H vs Q E hr h => ?_)
  · obtain ⟨l, rfl, _⟩ := h
    rfl
  · obtain ⟨l, rfl, hl, q⟩ := h
    refine ⟨_, pss_one (ps_ret (pe_slice sl_str (pv 0) po_none (po_some (pe_op op_add (pe_glob (v := .int 400) (by rfl) mL ⟨_, rfl⟩) pe_int)))), ?_⟩
    refine ⟨_, rfl, _, _, rfl, rfl, _, rfl, _, rfl, asc_big hl, ?_⟩
    have e : cutS (SX.S l) none (some (400 + 1 : Int)) = SX.S (ct l) := cut_to l 401
    rw [e]
    exact q
/-! power -/
def spPow : Sp := fun vs H Q _ => ∃ (l : List Nat) (e : Int), vs = [tx l, .int e] ∧ l.length ≤ 401 ∧ Asc l ∧ e.natAbs ≤ 100 ∧ Q (tx (pw l e)) H
theorem ok_pow {f fC fO : Addr} {fd fdC fdO : FuncData} {k : Nat} (F : Fun K "power" "power" sPower f fd) (GC : FnOk P w K mg base CX0 (k + 1) fC fdC ["word"] spCut) (kC : PySem.W.keepIn K (.ref fC) = true) (bC : Binds K fdC ["word"] []) (gC : mg "cut" = some (.ref fC))
    (GO : FnOk P w K mg base CX0 (k + 1) fO fdO ["word"] spOpp) (kO : PySem.W.keepIn K (.ref fO) = true) (bO : Binds K fdO ["word"] []) (gO : mg "opposite" = some (.ref fO)) : FnOk P w K mg base CX0 (k + 2) f fd ["word", "exponent"] spPow := by
  refine F.ok scPower (fun vs H Q E h => ?_) (fun cdv A outer s H vs Q E hr h => ?_)
  · obtain ⟨l, e, rfl, _⟩ := h
    rfl
  · obtain ⟨l, e, rfl, hl, hA, he, q⟩ := h
    refine ⟨_, pss_cons (ps_if (pt_cmpR op_lt (pv 1) pe_int (nomark _)) (pss_one (ps_ret (pe_call GC hr (by rfl) gC kC bC .nil pass0 (pa_cons (pe_op o_mulS (pe_call GO hr (by rfl) gO kO bO .nil pass0 (pa_cons (pv 0) pa_nil)) (pe_un un_neg (pv 1))) pa_nil)))) pss_nil)
      (pss_one (ps_ret (pe_call GC hr (by rfl) gC kC bC .nil pass0 (pa_cons (pe_op o_mulS (pv 0) (pv 1)) pa_nil)))), ?_⟩
    have hm : e.natAbs * l.length ≤ 40100 := Nat.mul_le_mul (show e.natAbs ≤ 100 from he) (show l.length ≤ 401 from hl)
    refine ⟨_, rfl, _, _, rfl, rfl, _, rfl, ite2 (fun hz => ?_) (fun hz => ?_)⟩
    · have hn : e < 0 := of_decide_eq_true hz
      have ep : pw l e = ct (rep e.natAbs (opp l)) := if_pos hn
      rw [ep] at q
      refine ⟨_, rfl, l, rfl, by omega, hA, _, rfl, _, rfl, opp l, e.natAbs, rfl, ?_, by rw [opp_len]; exact hl, he, rep e.natAbs (opp l), rfl, ?_, q⟩
      · show V.int (-e) = V.int (e.natAbs : Int)
        congr 1
        omega
      · rw [rep_len, opp_len]
        omega
    · have hn : ¬ e < 0 := fun z => hz (decide_eq_true z)
      have ep : pw l e = ct (rep e.natAbs l) := if_neg hn
      rw [ep] at q
      refine ⟨_, rfl, _, rfl, l, e.natAbs, rfl, ?_, hl, he, rep e.natAbs l, rfl, ?_, q⟩
      · congr 1
        omega
      · rw [rep_len]
        omega
/-! mark_at -/
def spMk : Sp := fun vs H Q _ => ∃ (t : List Nat) (a : Nat), vs = [tx t, .int (a : Int)] ∧ t.length ≤ 9000 ∧ Q (tx (mk t a)) H
theorem ok_mk {f : Addr} {fd : FuncData} {k : Nat} (F : Fun K "mark_at" "mark_at" sMark f fd) : FnOk P w K mg base CX0 (k + 1) f fd ["text", "at"] spMk := by
  refine F.ok scMark (fun vs H Q E h => ?_) (fun cdv A outer s H vs Q E hr h => ?_)
  · obtain ⟨t, a, rfl, _⟩ := h
    rfl
  · obtain ⟨t, a, rfl, hl, q⟩ := h
    refine ⟨_, pss_one (ps_ret (pe_slice sl_str (pv 0) (po_some (pv 1)) (po_some (pe_op op_add (pv 1) pe_int)))), ?_⟩
    refine ⟨_, rfl, _, rfl, _, rfl, _, rfl, _, _, rfl, rfl, _, rfl, _, rfl, asc_big (by omega), ?_⟩
    have e : cutS (SX.S t) (some (a : Int)) (some ((a : Int) + 1)) = SX.S (mk t a) := by
      have z := cut_two t a (a + 1)
      rw [show a + 1 - a = 1 by omega] at z
      exact z
    rw [e]
    exact q
/-! behind_spaces -/
def spn (t : List Nat) (a : Nat) : Nat := ((t.drop a).takeWhile (· == 32)).length
def spBs : Sp := fun vs H Q _ => ∃ (t : List Nat) (a : Nat), vs = [tx t, .int (a : Int)] ∧ t.length ≤ 9000 ∧ Q (.int ((a + spn t a : Nat) : Int)) H
theorem spn_cons {t : List Nat} {a : Nat} (h : mk t a = [32]) : spn t a = 1 + spn t (a + 1) := by
  unfold mk at h
  unfold spn
  cases hd : t.drop a with
  | nil => rw [hd] at h; cases h
  | cons c r =>
    rw [hd] at h
    have e : c = 32 := by simpa using h
    have e2 : t.drop (a + 1) = r := by
      have : t.drop (a + 1) = (t.drop a).drop 1 := by rw [List.drop_drop]
      rw [this, hd]
      rfl
    rw [e2, e, List.takeWhile_cons, beq_self_eq_true]
    show _ + 1 = _
    omega
theorem spn_zero {t : List Nat} {a : Nat} (h : mk t a ≠ [32]) : spn t a = 0 := by
  unfold mk at h
  unfold spn
  cases hd : t.drop a with
  | nil => rfl
  | cons c r =>
    rw [hd] at h
    have e : (c == 32) = false := by
      rw [beq_eq_false_iff_ne]
      intro z
      apply h
      rw [z]
      rfl
    rw [List.takeWhile_cons, e]
    rfl
theorem sp32 : Str.ofString " " = SX.S [32] := by decide
theorem ok_bs {f fM : Addr} {fd fdM : FuncData} {k : Nat} (F : Fun K "behind_spaces" "behind_spaces" sSpaces f fd) (GM : FnOk P w K mg base CX0 (k + 1) fM fdM ["text", "at"] spMk) (kM : PySem.W.keepIn K (.ref fM) = true) (bM : Binds K fdM ["text", "at"] []) (gM : mg "mark_at" = some (.ref fM)) :
    FnOk P w K mg base CX0 (k + 2) f fd ["text", "at"] spBs := by
  refine F.ok scSpaces (fun vs H Q E h => ?_) (fun cdv A outer s H vs Q E hr h => ?_)
  · obtain ⟨t, a, rfl, _⟩ := h
    rfl
  · obtain ⟨t, a, rfl, hl, q⟩ := h
    refine ⟨_, pss_cons (ps_while PassesOwn.never (pt_cmpR op_eq (pe_call GM hr (by rfl) gM kM bM .nil pass0 (pa_cons (pv 0) (pa_cons (pv 1) pa_nil))) pe_str (nomark _)) (pss_one (ps_set (i := 1) scSpaces.nd rfl (.inl rfl) (pe_op op_add (pv 1) pe_int))))
      (pss_one (ps_ret (pv 1))), ?_⟩
    refine while_by (fun σ H2 => ∃ b : Nat, σ = [some (tx t), some (.int (b : Int))] ∧ H2 = H ∧ b + spn t b = a + spn t a) (fun σ _ => match σ with | [_, some (.int b)] => spn t b.toNat | _ => 0) ⟨a, rfl, rfl, rfl⟩ ?_ ?_
    · rintro σ H2 ⟨b, rfl, rfl, hb⟩
      refine ⟨_, rfl, _, rfl, t, b, rfl, hl, rfl, _, rfl, ite2 (fun e => ?_) (fun e => ?_)⟩
      · have e1 : mk t b = [32] := by
          have z : tx (mk t b) = .str (Str.ofString " ") := of_decide_eq_true e
          rw [sp32] at z
          exact SX.S_inj (V.str.inj z)
        have e2 := spn_cons e1
        refine ⟨_, rfl, _, _, rfl, rfl, ⟨b + 1, rfl, rfl, by omega⟩, ?_⟩
        show spn t ((b : Int) + 1).toNat < spn t ((b : Int)).toNat
        rw [show ((b : Int) + 1).toNat = b + 1 by omega, show ((b : Int)).toNat = b by omega]
        omega
      · have e1 : mk t b ≠ [32] := fun z => e (by rw [z, sp32]; exact decide_eq_true rfl)
        have e2 := spn_zero e1
        rw [← hb, e2, Nat.add_zero] at q
        exact ⟨_, rfl, q⟩
    · rintro σ H Q Q' imp ⟨v, h1, v2, h2, t', a', e1, e2, e3, k, e4, hq⟩
      exact ⟨v, h1, v2, h2, t', a', e1, e2, e3, k, e4, imp _ _ hq⟩
end
end K7
set_option maxRecDepth 100000
set_option maxHeartbeats 2000000
namespace K7
open PySem PySem.Spec PyProof.Rows L2
def inside (st : Stmt) (i : Nat) : Stmt := match st with
  | .ClassDef _ _ _ b _ _ _ _ _ _ _ => b.getD i (.Pass ⟨0, 0, 0, 0⟩)
  | _ => .Pass ⟨0, 0, 0, 0⟩
abbrev sIniP : Stmt := inside (top 3) 0
abbrev sIniL : Stmt := inside (top 4) 0
theorem scIniP : FnScope ["self", "at"] ["self", "at"] (defScope sIniP) := ⟨rfl, rfl, rfl, by decide +kernel, rfl, by decide +kernel, by decide +kernel⟩
theorem scIniL : FnScope ["self", "limit"] ["self", "limit"] (defScope sIniL) := ⟨rfl, rfl, rfl, by decide +kernel, rfl, by decide +kernel, by decide +kernel⟩
/-- what the written part says of an error class with one field -/
structure ErC (K : PySem.W.Frag) (mg : Str → Option Value) (nm fl : Str) (C fI : Addr) : Prop where
  ox : OexC K C
  gC : mg nm = some (.ref C)
  nF : PySem.W.findIn K (.ref C) fl = some none
  nTag : PySem.W.findIn K (.ref C) "tag" = some none
  iC : PySem.W.findIn K (.ref C) "__init__" = some (some (.ref fI))
  tI : PySem.W.typeIn K (.ref fI) = some (.type "function")
theorem s_weak {X : Cx} {st : Stmt} {t1 t2 : TS} (h : PS X st t1) (imp : ∀ D σ H, t2 D σ H → t1 D σ H) : PS X st t2 := ⟨fun pins s σ H D I hq => h.run pins s σ H D I (imp D σ H hq)⟩
section
variable {P : Program} {w : World} {K : PySem.W.Frag} {mg : Str → Option Value} {base : Heap}
def spIni (tg : V) (fl : Str) (C : Addr) : Sp := fun vs H Q _ => ∃ (a : Addr) (v : V), vs = [.ref a, v] ∧ H a = some (exo a C none) ∧
  ∀ dx, H dx = none → dx ≠ a → Q .non (upd (upd (upd H dx (exd dx [(fl, v)])) a (exo a C (some dx))) dx (exd dx [("tag", tg), (fl, v)]))
abbrev tagP : V := .str (Str.ofString "ParseError")
abbrev tagL : V := .str (Str.ofString "TooLong")
theorem ok_iniP {f C : Addr} {fd : FuncData} {k : Nat} (F : Fun K "__init__" "ParseError.__init__" sIniP f fd) (T : ErC K mg "ParseError" "at" C f) : FnOk P w K mg base CX0 (k + 1) f fd ["self", "at"] (spIni tagP "at" C) := by
  refine F.ok scIniP (fun vs H Q E h => ?_) (fun cdv A outer s H vs Q E hr h => ?_)
  · obtain ⟨a, v, rfl, _⟩ := h
    rfl
  · obtain ⟨a, v, rfl, hx, q⟩ := h
    refine ⟨_, pss_cons (ps_ost (pv 0) (pv 1)) (pss_one (ps_ost (pv 0) pe_str)), ?_⟩
    refine ⟨_, rfl, _, rfl, a, C, rfl, T.ox, T.nF, .inl ⟨hx, fun dx nd ne => ?_⟩⟩
    refine ⟨_, rfl, a, C, rfl, T.ox, T.nTag, .inr ⟨dx, _, upd_same, ?_, (by show 1 ≤ 900; decide), q dx nd ne⟩⟩
    rw [upd_ne ne]
    exact upd_same
theorem ok_iniL {f C : Addr} {fd : FuncData} {k : Nat} (F : Fun K "__init__" "TooLong.__init__" sIniL f fd) (T : ErC K mg "TooLong" "limit" C f) : FnOk P w K mg base CX0 (k + 1) f fd ["self", "limit"] (spIni tagL "limit" C) := by
  refine F.ok scIniL (fun vs H Q E h => ?_) (fun cdv A outer s H vs Q E hr h => ?_)
  · obtain ⟨a, v, rfl, _⟩ := h
    rfl
  · obtain ⟨a, v, rfl, hx, q⟩ := h
    refine ⟨_, pss_cons (ps_ost (pv 0) (pv 1)) (pss_one (ps_ost (pv 0) pe_str)), ?_⟩
    refine ⟨_, rfl, _, rfl, a, C, rfl, T.ox, T.nF, .inl ⟨hx, fun dx nd ne => ?_⟩⟩
    refine ⟨_, rfl, a, C, rfl, T.ox, T.nTag, .inr ⟨dx, _, upd_same, ?_, (by show 1 ≤ 900; decide), q dx nd ne⟩⟩
    rw [upd_ne ne]
    exact upd_same
/-- an error of this class flies, with this field, all else being the same -/
def Fl (C : Addr) (tg : V) (fl : Str) (v : V) (H : Hp) (E : XK) : Prop := ∀ (H' : Hp) (d : Addr), Same H H' → H d = none → H' d = some (.xd [("tag", tg), (fl, v)]) → E (.ref C) (some d) H'
theorem Fl.of {C : Addr} {tg v : V} {fl : Str} {H H1 : Hp} {E : XK} (h : Fl C tg fl v H E) (s : Same H H1) : Fl C tg fl v H1 E := fun H' d s' nd hd => h H' d (s.trans s') (s.free nd) hd
/-- raise nm(e) -/
theorem s_raise {X : Cx} {E : XK} {nm fl : Str} {tg : V} {C fI : Addr} {fdI : FuncData} {ps : List Str} {e : Expr} {te : TE} {p pos pos' : Pos} (T : ErC X.K X.mg nm fl C fI)
    (GI : FnOk X.prog X.w X.K X.mg X.base CX0 1 fI fdI ps (spIni tg fl C)) (bI : Binds X.K fdI ps []) (hr : Room 2 X.A) (hc : X.calm = true) (tk : Takes X (fun cls d _ H => E cls d H)) (hg : Gl X nm) (he : PE X e te) (hp0 : Passes CX0 X (fun _ _ _ => False))
    (mono : ∀ σ H (Q Q' : VK), (∀ v H1, Q v H1 → Q' v H1) → te σ H Q → te σ H Q')
    (hdb : (nm == ("__debug__" : Str)) = false := by decide) (hst : starEach [e] X.env = (false, eval e X.env) :: starEach [] X.env := by rfl) (hpl : (backTo pos (starEach [] X.env)).any (·.1) = false := by rfl) :
    PS X (.Raise (some (.Call (.Name nm p) [e] [] pos)) none pos') (fun _ σ H => te σ H fun v H1 => Fl C tg fl v H1 E) := by
  refine s_weak (ps_raise hc tk (pmk_oex T.ox T.iC T.tI GI hr bI .nil hp0 hg T.gC (pa_cons (hs := hst) he pa_nil) hdb hst hpl)) (fun D σ H h => ?_)
  refine mono σ H _ _ (fun v H1 q => ⟨(by show 1 ≤ 1000; decide), fun a na => ?_⟩) h
  refine ⟨a, _, rfl, upd_same, fun dx nd ne => ⟨rfl, dx, _, ?_, upd_same, ?_, ?_⟩⟩
  · rw [upd_ne (Ne.symm ne), upd_same]
  · have z : upd H1 a (exo a C none) dx = none := nd
    rw [upd_ne ne] at z
    exact z
  · have nd3 : H1 dx = none := by
      have z : upd H1 a (exo a C none) dx = none := nd
      rw [upd_ne ne] at z
      exact z
    refine q _ dx (fun b o e3 => ?_) nd3 upd_same
    have hb1 : b ≠ dx := ne_of_none e3 nd3
    have hb2 : b ≠ a := ne_of_none e3 na
    rw [upd_ne hb1, del_ne hb2, upd_ne hb1, upd_ne hb2, upd_ne hb1, upd_ne hb2]
    exact e3
theorem var_mono {i : Nat} : ∀ (σ : L2.St) (H : Hp) (Q Q' : VK), (∀ v H1, Q v H1 → Q' v H1) → tVar i σ H Q → tVar i σ H Q' := fun _ _ _ _ imp ⟨v, h, q⟩ => ⟨v, h, imp _ _ q⟩
theorem c_mono {v : V} : ∀ (σ : L2.St) (H : Hp) (Q Q' : VK), (∀ v H1, Q v H1 → Q' v H1) → tC v σ H Q → tC v σ H Q' := fun _ _ _ _ imp q => imp _ _ q
end
end K7
set_option maxRecDepth 100000
set_option maxHeartbeats 2000000
namespace K7
open PySem PySem.Spec PyProof.Rows L2
/-- a digit stands there -/
def dgt (t : List Nat) (a : Nat) : Bool := match mk t a with
  | [c] => decide (48 ≤ c ∧ c ≤ 57)
  | _ => false
theorem mk_asc {t : List Nat} {a c : Nat} (h : Asc t) (e : mk t a = [c]) : c < 128 := by
  refine h c ?_
  have hm : c ∈ mk t a := by rw [e]; simp
  exact List.mem_of_mem_drop (List.mem_of_mem_take hm)
theorem dgt_is {t : List Nat} {a : Nat} (h : Asc t) : Txt.isdigit (SX.S (mk t a)) = dgt t a := by
  unfold dgt
  rcases mk_cases t a with e | ⟨c, e⟩
  · rw [e]
    exact isdg0
  · rw [e]
    exact isdg1 c (mk_asc h e)
/-- an atom can begin there -/
def beg (L t : List Nat) (a d : Nat) : Bool := match mk t a with
  | [c] => decide (c ∈ sg L) || (decide (c = 49) || (decide (c = 40 ∨ c = 91) && decide (d < 6)))
  | _ => false
/-- an error of the class for texts -/
structure Pe (P : Program) (w : World) (K : PySem.W.Frag) (mg : Str → Option Value) (base : Heap) (C fI : Addr) (fdI : FuncData) : Prop where
  T : ErC K mg "ParseError" "at" C fI
  G : FnOk P w K mg base CX0 1 fI fdI ["self", "at"] (spIni tagP "at" C)
  b : Binds K fdI ["self", "at"] []
abbrev FlP (C : Addr) (i : Nat) (H : Hp) (E : XK) : Prop := Fl C tagP "at" (.int (i : Int)) H E
section
variable {P : Program} {w : World} {K : PySem.W.Frag} {mg : Str → Option Value} {base : Heap}
/-! check_no_digit -/
def spNd (C : Addr) : Sp := fun vs H Q E => ∃ (t : List Nat) (a : Nat), vs = [tx t, .int (a : Int)] ∧ t.length ≤ 9000 ∧ Asc t ∧ (dgt t a = false → Q .non H) ∧ (dgt t a = true → FlP C a H E)
theorem ok_nd {f fM C fI : Addr} {fd fdM fdI : FuncData} {k : Nat} (F : Fun K "check_no_digit" "check_no_digit" sNoDigit f fd) (R : Pe P w K mg base C fI fdI) (GM : FnOk P w K mg base CX0 (k + 1) fM fdM ["text", "at"] spMk) (kM : PySem.W.keepIn K (.ref fM) = true) (bM : Binds K fdM ["text", "at"] []) (gM : mg "mark_at" = some (.ref fM)) :
    FnOk P w K mg base (L2.CX P w) (k + 3) f fd ["text", "at"] (spNd C) := by
  refine F.okX scNoDigit (fun vs H Q E h => ?_) (fun cdv A outer s H vs Q E hr h => ?_)
  · obtain ⟨t, a, rfl, _⟩ := h
    rfl
  · obtain ⟨t, a, rfl, hl, hA, q, qe⟩ := h
    have r1 : Room (k + 1) (A.deeper (envOfC "check_no_digit" (defScope sNoDigit) s.heap.objs.size f cdv)) := hr.mono (by omega)
    have r2 : Room 2 (A.deeper (envOfC "check_no_digit" (defScope sNoDigit) s.heap.objs.size f cdv)) := hr.mono (by omega)
    refine ⟨_, pss_one (ps_if (pt_val (pe_m0 PySem.F.slot_str_isdigit PySem.F.type_str_isdigit mt_isdigit (pe_call GM r1 (by rfl) gM kM bM .nil pass0 (pa_cons (pv 0) (pa_cons (pv 1) pa_nil)))))
      (pss_one (s_raise (E := E) R.T R.G R.b r2 rfl (takes_of rfl rfl rfl rfl) (by rfl) (pv 1) pass0 var_mono)) pss_nil), ?_⟩
    refine ⟨_, rfl, _, rfl, t, a, rfl, hl, ⟨_, rfl⟩, _, rfl, rfl, trivial, _, rfl, ?_⟩
    rw [dgt_is hA]
    cases hd : dgt t a with
    | true => exact iteT ⟨_, rfl, qe hd⟩
    | false => exact iteF (q hd)
/-! check_mark -/
def spCm (C : Addr) : Sp := fun vs H Q E => ∃ (t : List Nat) (a c : Nat), vs = [tx t, .int (a : Int), tx [c]] ∧ t.length ≤ 9000 ∧ (mk t a = [c] → Q .non H) ∧ (mk t a ≠ [c] → FlP C a H E)
theorem ok_cm {f fM C fI : Addr} {fd fdM fdI : FuncData} {k : Nat} (F : Fun K "check_mark" "check_mark" sChkM f fd) (R : Pe P w K mg base C fI fdI) (GM : FnOk P w K mg base CX0 (k + 1) fM fdM ["text", "at"] spMk) (kM : PySem.W.keepIn K (.ref fM) = true) (bM : Binds K fdM ["text", "at"] []) (gM : mg "mark_at" = some (.ref fM)) :
    FnOk P w K mg base (L2.CX P w) (k + 3) f fd ["text", "at", "mark"] (spCm C) := by
  refine F.okX scChkM (fun vs H Q E h => ?_) (fun cdv A outer s H vs Q E hr h => ?_)
  · obtain ⟨t, a, c, rfl, _⟩ := h
    rfl
  · obtain ⟨t, a, c, rfl, hl, q, qe⟩ := h
    have r1 : Room (k + 1) (A.deeper (envOfC "check_mark" (defScope sChkM) s.heap.objs.size f cdv)) := hr.mono (by omega)
    have r2 : Room 2 (A.deeper (envOfC "check_mark" (defScope sChkM) s.heap.objs.size f cdv)) := hr.mono (by omega)
    refine ⟨_, pss_one (ps_if (pt_cmpR op_ne (pe_call GM r1 (by rfl) gM kM bM .nil pass0 (pa_cons (pv 0) (pa_cons (pv 1) pa_nil))) (pv 2) (nomark _))
      (pss_one (s_raise (E := E) R.T R.G R.b r2 rfl (takes_of rfl rfl rfl rfl) (by rfl) (pv 1) pass0 var_mono)) pss_nil), ?_⟩
    refine ⟨_, rfl, _, rfl, t, a, rfl, hl, _, rfl, rfl, _, rfl, ?_⟩
    rw [tx_eq]
    by_cases hd : mk t a = [c]
    · rw [decide_eq_true hd]
      exact iteF (q hd)
    · rw [decide_eq_false hd]
      exact iteT ⟨_, rfl, qe hd⟩
/-! begins_atom -/
def spBa : Sp := fun vs H Q _ => ∃ (t L : List Nat) (a : Nat) (p : Addr) (d : Nat), vs = [tx t, .ref p, .int (a : Int), .int (d : Int)] ∧ t.length ≤ 9000 ∧ H p = some (.lst ((sg L).map one)) ∧ ∀ H', Same H H' → Q (.bl (beg L t a d)) H'
theorem ok_ba {f fM : Addr} {fd fdM : FuncData} {k : Nat} {tD : Tok} (F : Fun K "begins_atom" "begins_atom" sBegins f fd) (mD : mg "DEEPEST" = some (.int 6 tD)) (GM : FnOk P w K mg base CX0 (k + 1) fM fdM ["text", "at"] spMk) (kM : PySem.W.keepIn K (.ref fM) = true) (bM : Binds K fdM ["text", "at"] []) (gM : mg "mark_at" = some (.ref fM)) :
    FnOk P w K mg base CX0 (k + 2) f fd ["text", "signs", "at", "depth"] spBa := by
  refine F.ok scBegins (fun vs H Q E h => ?_) (fun cdv A outer s H vs Q E hr h => ?_)
  · obtain ⟨t, L, a, p, d, rfl, _⟩ := h
    rfl
  · obtain ⟨t, L, a, p, d, rfl, hl, hp, q⟩ := h
    refine ⟨_, pss_cons (ps_set (i := 4) scBegins.nd rfl (.inl rfl) (pe_call GM hr (by rfl) gM kM bM .nil pass0 (pa_cons (pv 0) (pa_cons (pv 2) pa_nil))))
      (pss_one (ps_ret (pe_or (pe_cmpR op_in_seq (pv 4) (pv 1) (by rfl)) (pe_or (pe_cmpR op_eq (pv 4) pe_str (nomark _)) (pe_one (pe_and (pe_cmpR op_in_seq (pv 4) (pe_tup (pa_cons pe_str (pa_cons pe_str pa_nil))) (by rfl)) (pe_one (pe_cmpR op_lt (pv 3) (pe_glob (v := .int 6) (by rfl) mD ⟨_, rfl⟩) (nomark _))))))))), ?_⟩
    have hall : ((sg L).map one).all flatV = true := by
      rw [List.all_eq_true]
      intro v hv
      obtain ⟨d, _, rfl⟩ := List.mem_map.mp hv
      rfl
    refine ⟨_, rfl, _, rfl, t, a, rfl, hl, ?_⟩
    rcases mk_cases t a with h0 | ⟨c, hc⟩
    · have eb : beg L t a d = false := by unfold beg; rw [h0]
      rw [eb] at q
      rw [h0]
      have hin : inV (tx []) ((sg L).map one) = false := by
        unfold inV
        rw [List.any_eq_false]
        intro v hv
        obtain ⟨d, _, rfl⟩ := List.mem_map.mp hv
        show ¬ ((SX.S [d] == SX.S []) = true)
        rw [SX.S_beq_eq]
        simp
      refine ⟨_, rfl, _, rfl, p, _, rfl, .inl (SqL.of hp), rfl, hall, _, rfl, ?_⟩
      rw [show (if false = true then !inV (tx []) ((sg L).map one) else inV (tx []) ((sg L).map one)) = false from hin]
      refine iteF ⟨_, rfl, rfl, false, congrArg V.bl (by rw [one49]; decide +kernel), iteF ?_⟩
      refine ⟨_, rfl, (by show 2 ≤ sizeLine; decide), fun T nT => ⟨T, _, rfl, .inr (SqT.of upd_same), rfl, rfl, false, congrArg V.bl (by decide +kernel), iteF ?_⟩⟩
      exact q _ (same_new nT)
    · have eb : beg L t a d = (decide (c ∈ sg L) || (decide (c = 49) || (decide (c = 40 ∨ c = 91) && decide (d < 6)))) := by unfold beg; rw [hc]
      rw [hc]
      refine ⟨_, rfl, _, rfl, p, _, rfl, .inl (SqL.of hp), rfl, hall, _, rfl, ?_⟩
      rw [show (if false = true then !inV (tx [c]) ((sg L).map one) else inV (tx [c]) ((sg L).map one)) = decide (c ∈ sg L) from mem_in (w := [])]
      refine ite2 (fun e => ?_) (fun e => ?_)
      · rw [e, Bool.true_or] at eb
        rw [eb] at q
        exact q _ (Same.refl _)
      · rw [Bool.not_eq_true] at e
        rw [e, Bool.false_or] at eb
        by_cases h49 : c = 49
        · refine ⟨_, rfl, rfl, true, congrArg V.bl (by rw [one49]; exact (tx_eq (a := [c]) (b := [49])).trans (decide_eq_true (by rw [h49]))), iteT ?_⟩
          rw [decide_eq_true h49, Bool.true_or] at eb
          rw [eb] at q
          exact q _ (Same.refl _)
        · rw [decide_eq_false h49, Bool.false_or] at eb
          refine ⟨_, rfl, rfl, false, congrArg V.bl (by rw [one49]; exact (tx_eq (a := [c]) (b := [49])).trans (decide_eq_false (fun z => h49 (by simpa using z)))), iteF ?_⟩
          refine ⟨_, rfl, (by show 2 ≤ sizeLine; decide), fun T nT => ⟨T, _, rfl, .inr (SqT.of upd_same), rfl, rfl, _, rfl, ?_⟩⟩
          have hin : inV (tx [c]) [V.str (Str.ofString "("), V.str (Str.ofString "[")] = decide (c = 40 ∨ c = 91) := by
            rw [par40, par91]
            have z := mem_in (w := []) (c := c) (L := [40, 91])
            refine Eq.trans z ?_
            congr 1
            simp
          rw [show (if false = true then !inV (tx [c]) [V.str (Str.ofString "("), V.str (Str.ofString "[")] else inV (tx [c]) [V.str (Str.ofString "("), V.str (Str.ofString "[")]) = decide (c = 40 ∨ c = 91) from hin]
          refine ite2 (fun e2 => ?_) (fun e2 => ?_)
          · rw [e2, Bool.true_and] at eb
            rw [eb] at q
            refine ⟨_, rfl, _, _, rfl, rfl, ?_⟩
            have e6 : decide (((d : Nat) : Int) < 6) = decide (d < 6) := by
              by_cases hh : d < 6
              · rw [decide_eq_true hh, decide_eq_true (by omega)]
              · rw [decide_eq_false hh, decide_eq_false (by omega)]
            show Q (.bl (decide (((d : Nat) : Int) < 6))) _
            rw [e6]
            exact q _ (same_new nT)
          · rw [Bool.not_eq_true] at e2
            rw [e2, Bool.false_and] at eb
            rw [eb] at q
            exact q _ (same_new nT)
end
end K7
set_option maxRecDepth 100000
set_option maxHeartbeats 2000000
namespace K7
open PySem PySem.Spec PyProof.Rows L2
/-- the number of one or two digits -/
def num : List Nat → Nat
  | [c] => c - 48
  | [c, d] => 10 * (c - 48) + (d - 48)
  | _ => 0
theorem num_int1 : ∀ c, c < 58 → 48 ≤ c → PySem.intText? (SX.S [c]) = some ((num [c] : Nat) : Int) := by decide +kernel
theorem num_int2 : ∀ c, c < 58 → 48 ≤ c → ∀ d, d < 58 → 48 ≤ d → PySem.intText? (SX.S [c, d]) = some ((num [c, d] : Nat) : Int) := by decide +kernel
/-- the exponent and the index behind it, or where it cannot be read -/
def rdE (t : List Nat) (a : Nat) : Except Nat (Int × Nat) :=
  let mi : Bool := decide (mk t a = [45])
  let b := if mi then a + 1 else a
  if dgt t b = false ∨ (mi = true ∧ mk t b = [48]) then .error b
  else
    let e := if mk t b ≠ [48] ∧ dgt t (b + 1) = true then b + 2 else b + 1
    if dgt t e = true then .error e
    else .ok (if mi then -((num ((t.drop b).take (e - b)) : Nat) : Int) else ((num ((t.drop b).take (e - b)) : Nat) : Int), e)
theorem dgt_mk {t : List Nat} {b : Nat} (h : dgt t b = true) : ∃ c r, t.drop b = c :: r ∧ 48 ≤ c ∧ c ≤ 57 ∧ mk t b = [c] := by
  unfold dgt at h
  rcases mk_cases t b with e | ⟨c, e⟩
  · rw [e] at h
    cases h
  · rw [e] at h
    have hc : 48 ≤ c ∧ c ≤ 57 := of_decide_eq_true h
    have e' := e
    unfold mk at e'
    cases hd : t.drop b with
    | nil => rw [hd] at e'; cases e'
    | cons x r =>
      rw [hd] at e'
      have : x = c := by simpa using e'
      subst this
      exact ⟨x, r, rfl, hc.1, hc.2, e⟩
theorem drop_next {t r : List Nat} {b c : Nat} (h : t.drop b = c :: r) : t.drop (b + 1) = r := by
  rw [← List.drop_drop, h]
  rfl
/-- what is read between b and e as a number -/
theorem num_read {t : List Nat} {b e : Nat} (h : dgt t b = true) (he : e = if mk t b ≠ [48] ∧ dgt t (b + 1) = true then b + 2 else b + 1) :
    PySem.intText? (SX.S ((t.drop b).take (e - b))) = some ((num ((t.drop b).take (e - b)) : Nat) : Int) ∧ num ((t.drop b).take (e - b)) < 100 ∧ ((t.drop b).take (e - b)).length ≤ 2 := by
  obtain ⟨c, r, hd, h1, h2, hm⟩ := dgt_mk h
  by_cases hz : mk t b ≠ [48] ∧ dgt t (b + 1) = true
  · rw [if_pos hz] at he
    obtain ⟨c2, r2, hd2, g1, g2, _⟩ := dgt_mk hz.2
    rw [drop_next hd] at hd2
    have ee : (t.drop b).take (e - b) = [c, c2] := by
      rw [he, show b + 2 - b = 2 by omega, hd, hd2]
      rfl
    rw [ee]
    refine ⟨num_int2 c (by omega) h1 c2 (by omega) g1, ?_, Nat.le_refl _⟩
    show 10 * (c - 48) + (c2 - 48) < 100
    omega
  · rw [if_neg hz] at he
    have ee : (t.drop b).take (e - b) = [c] := by
      rw [he, show b + 1 - b = 1 by omega, hd]
      rfl
    rw [ee]
    refine ⟨num_int1 c (by omega) h1, ?_, (by show 1 ≤ 2; decide)⟩
    show c - 48 < 100
    omega
section
variable {P : Program} {w : World} {K : PySem.W.Frag} {mg : Str → Option Value} {base : Heap}
def spEx (C : Addr) : Sp := fun vs H Q E => ∃ (t : List Nat) (a : Nat), vs = [tx t, .int (a : Int)] ∧ t.length ≤ 9000 ∧ Asc t ∧
  (∀ v e, rdE t a = .ok (v, e) → ∀ T, H T = none → Q (.ref T) (upd H T (.tup [.int v, .int (e : Int)]))) ∧ ∀ i, rdE t a = .error i → FlP C i H E
theorem ok_ex {f fM fN C fI : Addr} {fd fdM fdN fdI : FuncData} {k : Nat} (F : Fun K "read_exponent" "read_exponent" sRExp f fd) (B : Bn mg) (R : Pe P w K mg base C fI fdI) (GM : FnOk P w K mg base CX0 (k + 1) fM fdM ["text", "at"] spMk) (kM : PySem.W.keepIn K (.ref fM) = true) (bM : Binds K fdM ["text", "at"] []) (gM : mg "mark_at" = some (.ref fM))
    (GN : FnOk P w K mg base (L2.CX P w) (k + 3) fN fdN ["text", "at"] (spNd C)) (kN : PySem.W.keepIn K (.ref fN) = true) (bN : Binds K fdN ["text", "at"] []) (gN : mg "check_no_digit" = some (.ref fN)) :
    FnOk P w K mg base (L2.CX P w) (k + 4) f fd ["text", "at"] (spEx C) := by
  refine F.okX scRExp (fun vs H Q E h => ?_) (fun cdv A outer s H vs Q E hr h => ?_)
  · obtain ⟨t, a, rfl, _⟩ := h
    rfl
  · obtain ⟨t, a, rfl, hl, hA, q, qe⟩ := h
    have r1 : Room (k + 1) (A.deeper (envOfC "read_exponent" (defScope sRExp) s.heap.objs.size f cdv)) := hr.mono (by omega)
    have r2 : Room 2 (A.deeper (envOfC "read_exponent" (defScope sRExp) s.heap.objs.size f cdv)) := hr.mono (by omega)
    obtain ⟨t2, P2, R2⟩ : ∃ t2, PSs (cxOf (L2.CX P w) P w K mg base ["text", "at", "minus", "begin", "first", "end", "number"] "read_exponent" (defScope sRExp) f cdv A outer s H E) ((defBody sRExp).drop 2) t2 ∧
        t2 { nx := fun _ H' => Q .non H', rt := Q } [some (tx t), some (.int (a : Int)), some (.bl (decide (mk t a = [45]))), some (.int ((if decide (mk t a = [45]) = true then a + 1 else a : Nat) : Int)), none, none, none] H := by
      refine ⟨_, pss_cons (ps_set (i := 4) scRExp.nd rfl (.inl rfl) (pe_call GM r1 (by rfl) gM kM bM .nil pass0 (pa_cons (pv 0) (pa_cons (pv 3) pa_nil))))
        (pss_cons (ps_if (PW.pt (pw_or (pt_not (pt_val (pe_m0 PySem.F.slot_str_isdigit PySem.F.type_str_isdigit mt_isdigit (pv 4)))) (pw_or1 (PW.pt (pw_and (pt_val (pv 2)) (pw_and1 (pt_cmpR op_eq (pv 4) pe_str (nomark _))))))))
          (pss_one (s_raise (E := E) R.T R.G R.b r2 rfl (takes_of rfl rfl rfl rfl) (by rfl) (pv 3) pass0 var_mono)) pss_nil)
        (pss_cons (ps_set (i := 5) scRExp.nd rfl (.inl rfl) (pe_op op_add (pv 3) pe_int))
        (pss_cons (ps_if (PW.pt (pw_and (pt_cmpR op_ne (pv 4) pe_str (nomark _)) (pw_and1 (pt_val (pe_m0 PySem.F.slot_str_isdigit PySem.F.type_str_isdigit mt_isdigit (pe_call GM r1 (by rfl) gM kM bM .nil pass0 (pa_cons (pv 0) (pa_cons (pv 5) pa_nil)))))))) (pss_one (ps_set (i := 5) scRExp.nd rfl (.inl rfl) (pe_op op_add (pv 5) pe_int))) pss_nil)
        (pss_cons (ps_expr (pe_call GN hr (by rfl) gN kN bN .nil (passes_call (W := fun cls d _ H => E cls d H) (takes_of rfl rfl rfl rfl) (fun _ _ _ _ h => h)) (pa_cons (pv 0) (pa_cons (pv 5) pa_nil))))
        (pss_cons (ps_set (i := 6) scRExp.nd rfl (.inl rfl) (pe_callTy call_int_str (by rfl) B.int boot_int (pa_cons (pe_slice sl_str (pv 0) (po_some (pv 3)) (po_some (pv 5))) pa_nil)))
        (pss_one (ps_ret (pe_tup (pa_cons (pe_ifExp (pt_val (pv 2)) (pe_un un_neg (pv 6)) (pv 6)) (pa_cons (pv 5) pa_nil)))))))))), ?_⟩
      generalize hmi : decide (mk t a = [45]) = mi
      generalize hb : (if mi = true then a + 1 else a : Nat) = b
      have erd : rdE t a = if dgt t b = false ∨ (mi = true ∧ mk t b = [48]) then .error b else
          if dgt t (if mk t b ≠ [48] ∧ dgt t (b + 1) = true then b + 2 else b + 1) = true then .error (if mk t b ≠ [48] ∧ dgt t (b + 1) = true then b + 2 else b + 1)
          else .ok (if mi then -((num ((t.drop b).take ((if mk t b ≠ [48] ∧ dgt t (b + 1) = true then b + 2 else b + 1) - b)) : Nat) : Int) else ((num ((t.drop b).take ((if mk t b ≠ [48] ∧ dgt t (b + 1) = true then b + 2 else b + 1) - b)) : Nat) : Int), (if mk t b ≠ [48] ∧ dgt t (b + 1) = true then b + 2 else b + 1)) := by
        unfold rdE
        simp only [hmi, hb]
      have bad : (dgt t b = false ∨ (mi = true ∧ mk t b = [48])) → FlP C b H E := fun hx => qe b (by rw [erd, if_pos hx])
      have e48 : ∀ x : List Nat, decide (tx x = .str (Str.ofString "0")) = decide (x = [48]) := fun x => by rw [zero48]; exact tx_eq
      refine ⟨_, rfl, _, rfl, t, b, rfl, hl, ?_⟩
      refine ⟨_, rfl, ⟨_, rfl⟩, _, rfl, rfl, trivial, _, rfl, ?_⟩
      rw [dgt_is hA]
      -- the rest, once the first digit is there
      have next : dgt t b = true → ¬ (mi = true ∧ mk t b = [48]) → ∀ D : Ends, D.rt = Q → tSeq (tAsg (tOp (rI0 fun i j => .int (i + j)) (tVar 3) (tC (.int 1))) (gName 5)) (tSeq (tIfS (tAnd (tTest (tOp rNe (tVar 4) (tC (.str (Str.ofString "0"))))) (tB (tM0 (fun x xs H Q => ∃ a, x = .str a ∧ xs = [] ∧ True ∧ Q (.bl (Txt.isdigit a)) H) (tCall spMk [] E0 (tCons (tVar 0) (tCons (tVar 5) tNil)))))) (tAsg (tOp (rI0 fun i j => .int (i + j)) (tVar 5) (tC (.int 1))) (gName 5)) tNext)
          (tSeq (tDrop (tCall (spNd C) [] E (tCons (tVar 0) (tCons (tVar 5) tNil)))) (tSeq (tAsg (tCB (fun xs H Q => ∃ a n, xs = [.str a] ∧ PySem.intText? a = some n ∧ a.length ≤ 640 ∧ Q (.int n) H) (tCons (tSl rSlS (tVar 0) (tPart (tVar 3)) (tPart (tVar 5))) tNil)) (gName 6))
          (tRet (tTup (tCons (tIf (tB (tVar 2)) (tUn (rU fun i => .int (-i)) (tVar 6)) (tVar 6)) (tCons (tVar 5) tNil))))))) D [some (tx t), some (.int (a : Int)), some (.bl mi), some (.int (b : Int)), some (tx (mk t b)), none, none] H := by
        intro hdg hnm D hD
        have hnb : ¬ (dgt t b = false ∨ (mi = true ∧ mk t b = [48])) := fun z => z.elim (fun z => by rw [hdg] at z; cases z) hnm
        rw [if_neg hnb] at erd
        -- the end: read from b to e
        have fin : ∀ (e : Nat) (D : Ends), D.rt = Q → e = (if mk t b ≠ [48] ∧ dgt t (b + 1) = true then b + 2 else b + 1) →
            tSeq (tDrop (tCall (spNd C) [] E (tCons (tVar 0) (tCons (tVar 5) tNil)))) (tSeq (tAsg (tCB (fun xs H Q => ∃ a n, xs = [.str a] ∧ PySem.intText? a = some n ∧ a.length ≤ 640 ∧ Q (.int n) H) (tCons (tSl rSlS (tVar 0) (tPart (tVar 3)) (tPart (tVar 5))) tNil)) (gName 6))
              (tRet (tTup (tCons (tIf (tB (tVar 2)) (tUn (rU fun i => .int (-i)) (tVar 6)) (tVar 6)) (tCons (tVar 5) tNil))))) D [some (tx t), some (.int (a : Int)), some (.bl mi), some (.int (b : Int)), some (tx (mk t b)), some (.int (e : Int)), none] H := by
          intro e D hD he
          rw [← he] at erd
          refine ⟨_, rfl, _, rfl, t, e, rfl, hl, hA, fun hde => ?_, fun hde => ?_⟩
          · rw [hde, if_neg Bool.false_ne_true] at erd
            obtain ⟨n1, n2, n3⟩ := num_read hdg he
            refine ⟨_, rfl, _, rfl, _, rfl, _, rfl, _, rfl, _, rfl, asc_big (by omega), ?_⟩
            rw [cut_two]
            refine ⟨_, _, rfl, n1, by rw [tx_len]; omega, ?_⟩
            have q' := q _ _ erd
            cases mi with
            | true => exact ⟨_, rfl, true, rfl, iteT ⟨_, rfl, _, rfl, _, rfl, (by show 2 ≤ sizeLine; decide), by rw [hD]; exact q'⟩⟩
            | false => exact ⟨_, rfl, false, rfl, iteF ⟨_, rfl, _, rfl, (by show 2 ≤ sizeLine; decide), by rw [hD]; exact q'⟩⟩
          · rw [hde, if_pos rfl] at erd
            exact qe e erd
        refine ⟨_, rfl, _, _, rfl, rfl, _, rfl, rfl, _, rfl, ?_⟩
        rw [e48]
        by_cases h0 : mk t b = [48]
        · rw [decide_eq_true h0]
          refine iteF (iteF (fin (b + 1) _ hD ?_))
          rw [if_neg (fun z => z.1 h0)]
        · rw [decide_eq_false h0]
          refine iteT ⟨_, rfl, _, rfl, t, b + 1, rfl, hl, ⟨_, rfl⟩, _, rfl, rfl, trivial, _, rfl, ?_⟩
          rw [dgt_is hA]
          cases h1 : dgt t (b + 1) with
          | true =>
            refine iteT ⟨_, rfl, _, _, rfl, rfl, ?_⟩
            exact fin (b + 2) _ hD (by rw [if_pos ⟨h0, h1⟩])
          | false => exact iteF (fin (b + 1) _ hD (by rw [if_neg (fun z => by rw [h1] at z; cases z.2)]))
      cases hdg : dgt t b with
      | false => exact iteT (iteT ⟨_, rfl, bad (.inl hdg)⟩)
      | true =>
        refine iteF ⟨_, rfl, _, rfl, ?_⟩
        cases mi with
        | false => exact iteF (iteF (next hdg (fun z => by cases z.1) _ rfl))
        | true =>
          refine iteT ⟨_, rfl, rfl, _, rfl, ?_⟩
          rw [e48]
          by_cases h0 : mk t b = [48]
          · rw [decide_eq_true h0]
            exact iteT ⟨_, rfl, bad (.inr ⟨rfl, h0⟩)⟩
          · rw [decide_eq_false h0]
            exact iteF (next hdg (fun z => h0 z.2) _ rfl)
    refine ⟨_, pss_cons (ps_set (i := 2) scRExp.nd rfl (.inl rfl) (pe_cmpR op_eq (pe_call GM r1 (by rfl) gM kM bM .nil pass0 (pa_cons (pv 0) (pa_cons (pv 1) pa_nil))) pe_str (nomark _)))
      (pss_cons (ps_set (i := 3) scRExp.nd rfl (.inl rfl) (pe_ifExp (pt_val (pv 2)) (pe_op op_add (pv 1) pe_int) (pv 1))) P2), ?_⟩
    refine ⟨_, rfl, _, rfl, t, a, rfl, hl, rfl, ?_⟩
    rw [dash, tx_eq]
    cases hmi : decide (mk t a = [45]) with
    | true =>
      rw [hmi, if_pos rfl] at R2
      exact ⟨_, rfl, true, rfl, iteT ⟨_, rfl, _, _, rfl, rfl, R2⟩⟩
    | false =>
      rw [hmi, if_neg Bool.false_ne_true] at R2
      exact ⟨_, rfl, false, rfl, iteF ⟨_, rfl, R2⟩⟩
end
end K7
set_option maxRecDepth 100000
set_option maxHeartbeats 2000000
namespace K7
open PySem PySem.Spec PyProof.Rows L2
/-- a word and the index behind it, or where it cannot be read -/
abbrev Rr := Except Nat (List Nat × Nat)
/-- a phrase in parentheses, the phrases read by ph -/
def grp (ph : Nat → Rr) (t : List Nat) (a : Nat) : Rr := match ph (a + 1) with
  | .error i => .error i
  | .ok (w, e) => if mk t e = [41] then .ok (w, e + 1) else .error e
def pr2 (ph : Nat → Rr) (t w1 : List Nat) (e1 : Nat) : Rr := match ph (e1 + 1) with
  | .error i => .error i
  | .ok (w2, e2) => if mk t e2 = [93] then .ok (ct (w1 ++ w2 ++ opp w1 ++ opp w2), e2 + 1) else .error e2
/-- two phrases in brackets -/
def pr (ph : Nat → Rr) (t : List Nat) (a : Nat) : Rr := match ph (a + 1) with
  | .error i => .error i
  | .ok (w1, e1) => if mk t e1 = [44] then pr2 ph t w1 e1 else .error e1
def rdA (ph : Nat → Rr) (L t : List Nat) (d a : Nat) : Rr :=
  if beg L t a d = false then .error a
  else if mk t a = [40] then grp ph t a
  else if mk t a = [91] then pr ph t a
  else if mk t a = [49] then (if dgt t (a + 1) = true then .error (a + 1) else .ok ([], a + 1))
  else .ok (mk t a, a + 1)
def fx (t w : List Nat) (e1 : Nat) : Rr := match rdE t (e1 + 1 + spn t (e1 + 1)) with
  | .error i => .error i
  | .ok (x, e2) => .ok (pw w x, e2 + spn t e2)
def rdF (ph : Nat → Rr) (L t : List Nat) (d a : Nat) : Rr := match rdA ph L t d a with
  | .error i => .error i
  | .ok (w, e) => if mk t (e + spn t e) = [94] then fx t w (e + spn t e) else .ok (w, e + spn t e)
def rdL (fa : Nat → Rr) (L t : List Nat) (d : Nat) : Nat → Nat → List Nat → Rr
  | 0, a, w => .ok (w, a)
  | n + 1, a, w => if beg L t a d = false then .ok (w, a) else match fa a with
    | .error i => .error i
    | .ok (f, e) => rdL fa L t d n e (ct (w ++ f))
def rdP0 (fa : Nat → Rr) (L t : List Nat) (d a : Nat) : Rr := match fa (a + spn t a) with
  | .error i => .error i
  | .ok (w, e) => rdL fa L t d (t.length + 2) e w
def rdP (L t : List Nat) : Nat → Nat → Rr
  | 0 => rdP0 (rdF (fun _ => .error 0) L t 6) L t 6
  | m + 1 => rdP0 (rdF (rdP L t m) L t (6 - (m + 1))) L t (6 - (m + 1))
def sub (L t : List Nat) : Nat → Nat → Rr
  | 0 => fun _ => .error 0
  | m + 1 => rdP L t m
theorem rdP_eq (L t : List Nat) (m : Nat) : rdP L t m = rdP0 (rdF (sub L t m) L t (6 - m)) L t (6 - m) := by
  cases m <;> rfl
/-- what is read well: it goes on, the word is short -/
def Gd (ph : Nat → Rr) : Prop := ∀ a w e, ph a = .ok (w, e) → a ≤ e ∧ w.length ≤ 401 ∧ Asc w
def Gd1 (ph : Nat → Rr) : Prop := ∀ a w e, ph a = .ok (w, e) → a < e ∧ w.length ≤ 401 ∧ Asc w
theorem rdE_ok {t : List Nat} {a e : Nat} {v : Int} (h : rdE t a = .ok (v, e)) : a < e ∧ v.natAbs ≤ 100 := by
  unfold rdE at h
  simp only at h
  generalize decide (mk t a = [45]) = mi at h
  generalize hb : (if mi = true then a + 1 else a : Nat) = b at h
  have hab : a ≤ b := by
    rw [← hb]
    split <;> omega
  by_cases h1 : dgt t b = false ∨ mi = true ∧ mk t b = [48]
  · rw [if_pos h1] at h
    cases h
  · rw [if_neg h1] at h
    have hdg : dgt t b = true := by
      cases hx : dgt t b with
      | true => rfl
      | false => exact absurd (.inl hx) h1
    generalize he : (if mk t b ≠ [48] ∧ dgt t (b + 1) = true then b + 2 else b + 1) = e0 at h
    obtain ⟨_, n2, _⟩ := num_read hdg he.symm
    have hbe : b < e0 := by
      rw [← he]
      split <;> omega
    by_cases h2 : dgt t e0 = true
    · rw [if_pos h2] at h
      cases h
    · rw [if_neg h2] at h
      injection h with h
      injection h with h3 h4
      subst h4
      refine ⟨by omega, ?_⟩
      rw [← h3]
      split <;> omega
theorem asc_app {x y : List Nat} (h : Asc x) (g : Asc y) : Asc (x ++ y) := fun c hc => (List.mem_append.mp hc).elim (h c) (g c)
theorem asc_nil : Asc [] := fun c hc => by cases hc
theorem mk_asc' {t : List Nat} (h : Asc t) (a : Nat) : Asc (mk t a) := fun c hc => h c (List.mem_of_mem_drop (List.mem_of_mem_take hc))
theorem grp_ok {ph : Nat → Rr} {t : List Nat} (g : Gd ph) : Gd1 (grp ph t) := by
  intro a w e h
  unfold grp at h
  cases hp : ph (a + 1) with
  | error i => rw [hp] at h; cases h
  | ok q =>
    obtain ⟨w1, e1⟩ := q
    rw [hp] at h
    obtain ⟨g1, g2, g3⟩ := g _ _ _ hp
    by_cases hm : mk t e1 = [41]
    · simp only [if_pos hm] at h
      injection h with h
      injection h with h3 h4
      subst h3
      exact ⟨by omega, g2, g3⟩
    · simp only [if_neg hm] at h
      cases h
theorem pr_ok {ph : Nat → Rr} {t : List Nat} (g : Gd ph) : Gd1 (pr ph t) := by
  intro a w e h
  unfold pr at h
  cases hp : ph (a + 1) with
  | error i => rw [hp] at h; cases h
  | ok q =>
    obtain ⟨w1, e1⟩ := q
    rw [hp] at h
    obtain ⟨g1, g2, g3⟩ := g _ _ _ hp
    by_cases hm : mk t e1 = [44]
    · simp only [if_pos hm] at h
      unfold pr2 at h
      cases hp2 : ph (e1 + 1) with
      | error i => rw [hp2] at h; cases h
      | ok q =>
        obtain ⟨w2, e2⟩ := q
        rw [hp2] at h
        obtain ⟨f1, f2, f3⟩ := g _ _ _ hp2
        by_cases hm2 : mk t e2 = [93]
        · simp only [if_pos hm2] at h
          injection h with h
          injection h with h3 h4
          subst h3
          exact ⟨by omega, ct_len _, ct_asc (asc_app (asc_app (asc_app g3 f3) (opp_asc g3)) (opp_asc f3))⟩
        · simp only [if_neg hm2] at h
          cases h
    · simp only [if_neg hm] at h
      cases h
theorem rdA_ok {ph : Nat → Rr} {L t : List Nat} {d : Nat} (hA : Asc t) (g : Gd ph) : Gd1 (rdA ph L t d) := by
  intro a w e h
  unfold rdA at h
  by_cases h1 : beg L t a d = false
  · rw [if_pos h1] at h
    cases h
  · rw [if_neg h1] at h
    by_cases h2 : mk t a = [40]
    · rw [if_pos h2] at h
      exact grp_ok g _ _ _ h
    · rw [if_neg h2] at h
      by_cases h3 : mk t a = [91]
      · rw [if_pos h3] at h
        exact pr_ok g _ _ _ h
      · rw [if_neg h3] at h
        by_cases h4 : mk t a = [49]
        · rw [if_pos h4] at h
          by_cases h5 : dgt t (a + 1) = true
          · rw [if_pos h5] at h
            cases h
          · rw [if_neg h5] at h
            injection h with h
            injection h with h6 h7
            subst h6
            exact ⟨by omega, by simp, asc_nil⟩
        · rw [if_neg h4] at h
          injection h with h
          injection h with h6 h7
          subst h6
          refine ⟨by omega, ?_, mk_asc' hA a⟩
          rcases mk_cases t a with z | ⟨c, z⟩
          · rw [z]; simp
          · rw [z]; simp
theorem rdF_ok {ph : Nat → Rr} {L t : List Nat} {d : Nat} (hA : Asc t) (g : Gd ph) : Gd1 (rdF ph L t d) := by
  intro a w e h
  unfold rdF at h
  cases hp : rdA ph L t d a with
  | error i => rw [hp] at h; cases h
  | ok q =>
    obtain ⟨w1, e1⟩ := q
    rw [hp] at h
    obtain ⟨g1, g2, g3⟩ := rdA_ok hA g _ _ _ hp
    by_cases hm : mk t (e1 + spn t e1) = [94]
    · simp only [if_pos hm] at h
      unfold fx at h
      cases hx : rdE t (e1 + spn t e1 + 1 + spn t (e1 + spn t e1 + 1)) with
      | error i => rw [hx] at h; cases h
      | ok q =>
        obtain ⟨x, e2⟩ := q
        rw [hx] at h
        obtain ⟨f1, _⟩ := rdE_ok hx
        injection h with h
        injection h with h3 h4
        subst h3
        exact ⟨by omega, pw_len _ _, pw_asc g3 _⟩
    · simp only [if_neg hm] at h
      injection h with h
      injection h with h3 h4
      subst h3
      exact ⟨by omega, g2, g3⟩
theorem rdL_ok {fa : Nat → Rr} {L t : List Nat} {d : Nat} (g : Gd1 fa) : ∀ (n a : Nat) (w : List Nat), w.length ≤ 401 → Asc w → ∀ w' e, rdL fa L t d n a w = .ok (w', e) → a ≤ e ∧ w'.length ≤ 401 ∧ Asc w'
  | 0, a, w, h1, h2, w', e, h => by
    injection h with h
    injection h with h3 h4
    subst h3
    exact ⟨by omega, h1, h2⟩
  | n + 1, a, w, h1, h2, w', e, h => by
    unfold rdL at h
    by_cases hb : beg L t a d = false
    · rw [if_pos hb] at h
      injection h with h
      injection h with h3 h4
      subst h3
      exact ⟨by omega, h1, h2⟩
    · rw [if_neg hb] at h
      cases hp : fa a with
      | error i => rw [hp] at h; cases h
      | ok q =>
        obtain ⟨f, e1⟩ := q
        rw [hp] at h
        obtain ⟨g1, g2, g3⟩ := g _ _ _ hp
        obtain ⟨k1, k2, k3⟩ := rdL_ok g n e1 (ct (w ++ f)) (ct_len _) (ct_asc (asc_app h2 g3)) w' e h
        exact ⟨by omega, k2, k3⟩
theorem rdP0_ok {fa : Nat → Rr} {L t : List Nat} {d : Nat} (g : Gd1 fa) : Gd (rdP0 fa L t d) := by
  intro a w e h
  unfold rdP0 at h
  cases hp : fa (a + spn t a) with
  | error i => rw [hp] at h; cases h
  | ok q =>
    obtain ⟨w1, e1⟩ := q
    rw [hp] at h
    obtain ⟨g1, g2, g3⟩ := g _ _ _ hp
    obtain ⟨k1, k2, k3⟩ := rdL_ok g _ _ _ g2 g3 _ _ h
    exact ⟨by omega, k2, k3⟩
theorem gd_none : Gd (fun _ => .error 0) := fun a w e h => by cases h
theorem rdP_ok {L t : List Nat} (hA : Asc t) : ∀ m, Gd (rdP L t m)
  | 0 => rdP0_ok (rdF_ok hA gd_none)
  | m + 1 => rdP0_ok (rdF_ok hA (rdP_ok hA m))
theorem sub_ok {L t : List Nat} (hA : Asc t) : ∀ m, Gd (sub L t m)
  | 0 => gd_none
  | m + 1 => rdP_ok hA m
end K7
set_option maxRecDepth 100000
set_option maxHeartbeats 2000000
namespace K7
open PySem PySem.Spec PyProof.Rows L2
/-- a reading def at the depth d: what rd says -/
def spR (C : Addr) (rd : List Nat → List Nat → Nat → Rr) (d : Nat) : Sp := fun vs H Q E => ∃ (t L : List Nat) (a : Nat) (p : Addr), vs = [tx t, .ref p, .int (a : Int), .int (d : Int)] ∧ t.length ≤ 9000 ∧ Asc t ∧ H p = some (.lst ((sg L).map one)) ∧ (∀ c ∈ L, c ∈ menu) ∧
  (∀ w e, rd L t a = .ok (w, e) → ∀ H' T, Same H H' → H T = none → H' T = some (.tup [tx w, .int (e : Int)]) → Q (.ref T) H') ∧ ∀ i, rd L t a = .error i → FlP C i H E
theorem S2_len {x y : List Nat} (h : x.length + y.length ≤ 100000) : (SX.S x).length + (SX.S y).length ≤ sizeLine := by
  rw [tx_len, tx_len]
  exact Nat.le_of_lt (big_lt h)
theorem grp_er {ph : Nat → Rr} {t : List Nat} {a i : Nat} (h : ph (a + 1) = .error i) : grp ph t a = .error i := by
  unfold grp
  rw [h]
theorem grp_y {ph : Nat → Rr} {t w : List Nat} {a e : Nat} (h : ph (a + 1) = .ok (w, e)) (hm : mk t e = [41]) : grp ph t a = .ok (w, e + 1) := by
  unfold grp
  rw [h]
  simp only [if_pos hm]
theorem grp_n {ph : Nat → Rr} {t w : List Nat} {a e : Nat} (h : ph (a + 1) = .ok (w, e)) (hm : mk t e ≠ [41]) : grp ph t a = .error e := by
  unfold grp
  rw [h]
  simp only [if_neg hm]
theorem pr_er {ph : Nat → Rr} {t : List Nat} {a i : Nat} (h : ph (a + 1) = .error i) : pr ph t a = .error i := by
  unfold pr
  rw [h]
theorem pr_n {ph : Nat → Rr} {t w : List Nat} {a e : Nat} (h : ph (a + 1) = .ok (w, e)) (hm : mk t e ≠ [44]) : pr ph t a = .error e := by
  unfold pr
  rw [h]
  simp only [if_neg hm]
theorem pr_y {ph : Nat → Rr} {t w : List Nat} {a e : Nat} (h : ph (a + 1) = .ok (w, e)) (hm : mk t e = [44]) : pr ph t a = pr2 ph t w e := by
  unfold pr
  rw [h]
  simp only [if_pos hm]
theorem pr2_er {ph : Nat → Rr} {t w : List Nat} {e i : Nat} (h : ph (e + 1) = .error i) : pr2 ph t w e = .error i := by
  unfold pr2
  rw [h]
theorem pr2_y {ph : Nat → Rr} {t w w2 : List Nat} {e e2 : Nat} (h : ph (e + 1) = .ok (w2, e2)) (hm : mk t e2 = [93]) : pr2 ph t w e = .ok (ct (w ++ w2 ++ opp w ++ opp w2), e2 + 1) := by
  unfold pr2
  rw [h]
  simp only [if_pos hm]
theorem pr2_n {ph : Nat → Rr} {t w w2 : List Nat} {e e2 : Nat} (h : ph (e + 1) = .ok (w2, e2)) (hm : mk t e2 ≠ [93]) : pr2 ph t w e = .error e2 := by
  unfold pr2
  rw [h]
  simp only [if_neg hm]
section
variable {P : Program} {w : World} {K : PySem.W.Frag} {mg : Str → Option Value} {base : Heap}
/-! read_group -/
theorem ok_gr {f fP fC C : Addr} {fd fdP fdC : FuncData} {k j m : Nat} (F : Fun K "read_group" "read_group" sRGroup f fd) (hj : 3 ≤ j)
    (GP : FnOk P w K mg base (L2.CX P w) j fP fdP ["text", "signs", "at", "depth"] (spR C (fun L t => rdP L t m) (6 - m))) (kP : PySem.W.keepIn K (.ref fP) = true) (bP : Binds K fdP ["text", "signs", "at", "depth"] []) (gP : mg "read_phrase" = some (.ref fP))
    (GC : FnOk P w K mg base (L2.CX P w) 3 fC fdC ["text", "at", "mark"] (spCm C)) (kC : PySem.W.keepIn K (.ref fC) = true) (bC : Binds K fdC ["text", "at", "mark"] []) (gC : mg "check_mark" = some (.ref fC)) :
    FnOk P w K mg base (L2.CX P w) (j + 1) f fd ["text", "signs", "at", "depth"] (spR C (fun L t => grp (rdP L t m) t) (6 - m)) := by
  refine F.okX scRGroup (fun vs H Q E h => ?_) (fun cdv A outer s H vs Q E hr h => ?_)
  · obtain ⟨t, L, a, p, rfl, _⟩ := h
    rfl
  · obtain ⟨t, L, a, p, rfl, hl, hA, hp, hL, q, qe⟩ := h
    have r3 : Room 3 (A.deeper (envOfC "read_group" (defScope sRGroup) s.heap.objs.size f cdv)) := hr.mono (by omega)
    refine ⟨_, pss_cons (ps_asg (pe_call GP hr (by rfl) gP kP bP .nil (passes_call (W := fun cls d _ H => E cls d H) (takes_of rfl rfl rfl rfl) (fun _ _ _ _ h => h)) (pa_cons (pv 0) (pa_cons (pv 1) (pa_cons (pe_op op_add (pv 2) pe_int) (pa_cons (pv 3) pa_nil))))) (pg_tup rfl (pgs_cons (pg_name (i := 4) scRGroup.nd rfl (.inl rfl)) (pgs_cons (pg_name (i := 2) scRGroup.nd rfl (.inl rfl)) pgs_nil))))
      (pss_cons (ps_expr (pe_call GC r3 (by rfl) gC kC bC .nil (passes_call (W := fun cls d _ H => E cls d H) (takes_of rfl rfl rfl rfl) (fun _ _ _ _ h => h)) (pa_cons (pv 0) (pa_cons (pv 2) (pa_cons pe_str pa_nil)))))
      (pss_one (ps_ret (pe_tup (pa_cons (pv 4) (pa_cons (pe_op op_add (pv 2) pe_int) pa_nil)))))), ?_⟩
    refine ⟨_, rfl, _, rfl, _, rfl, _, _, rfl, rfl, _, rfl, t, L, a + 1, p, rfl, hl, hA, hp, hL, fun w e hrd H1 T s1 nT hT => ?_, fun i hi => qe i (grp_er hi)⟩
    refine ⟨T, _, rfl, SqT.of hT, rfl, _, _, rfl, _, _, rfl, rfl, ?_⟩
    refine ⟨_, rfl, _, rfl, t, e, 41, by rw [par41]; rfl, hl, fun hm => ?_, fun hm => (qe e (grp_n hrd hm)).of s1⟩
    refine ⟨_, rfl, _, rfl, _, _, rfl, rfl, (by show 2 ≤ sizeLine; decide), fun T2 nT2 => ?_⟩
    exact q w (e + 1) (grp_y hrd hm) _ T2 (s1.trans (same_new nT2)) (s1.free nT2) upd_same
/-! read_pair -/
theorem ok_pr {f fP fC fX fO C : Addr} {fd fdP fdC fdX fdO : FuncData} {k j m : Nat} (F : Fun K "read_pair" "read_pair" sRPair f fd) (hj : 3 ≤ j)
    (GP : FnOk P w K mg base (L2.CX P w) j fP fdP ["text", "signs", "at", "depth"] (spR C (fun L t => rdP L t m) (6 - m))) (kP : PySem.W.keepIn K (.ref fP) = true) (bP : Binds K fdP ["text", "signs", "at", "depth"] []) (gP : mg "read_phrase" = some (.ref fP))
    (GC : FnOk P w K mg base (L2.CX P w) 3 fC fdC ["text", "at", "mark"] (spCm C)) (kC : PySem.W.keepIn K (.ref fC) = true) (bC : Binds K fdC ["text", "at", "mark"] []) (gC : mg "check_mark" = some (.ref fC))
    (GX : FnOk P w K mg base CX0 1 fX fdX ["word"] spCut) (kX : PySem.W.keepIn K (.ref fX) = true) (bX : Binds K fdX ["word"] []) (gX : mg "cut" = some (.ref fX))
    (GO : FnOk P w K mg base CX0 1 fO fdO ["word"] spOpp) (kO : PySem.W.keepIn K (.ref fO) = true) (bO : Binds K fdO ["word"] []) (gO : mg "opposite" = some (.ref fO)) :
    FnOk P w K mg base (L2.CX P w) (j + 1) f fd ["text", "signs", "at", "depth"] (spR C (fun L t => pr (rdP L t m) t) (6 - m)) := by
  refine F.okX scRPair (fun vs H Q E h => ?_) (fun cdv A outer s H vs Q E hr h => ?_)
  · obtain ⟨t, L, a, p, rfl, _⟩ := h
    rfl
  · obtain ⟨t, L, a, p, rfl, hl, hA, hp, hL, q, qe⟩ := h
    have r3 : Room 3 (A.deeper (envOfC "read_pair" (defScope sRPair) s.heap.objs.size f cdv)) := hr.mono (by omega)
    have r1 : Room 1 (A.deeper (envOfC "read_pair" (defScope sRPair) s.heap.objs.size f cdv)) := hr.mono (by omega)
    refine ⟨_, pss_cons (ps_asg (pe_call GP hr (by rfl) gP kP bP .nil (passes_call (W := fun cls d _ H => E cls d H) (takes_of rfl rfl rfl rfl) (fun _ _ _ _ h => h)) (pa_cons (pv 0) (pa_cons (pv 1) (pa_cons (pe_op op_add (pv 2) pe_int) (pa_cons (pv 3) pa_nil))))) (pg_tup rfl (pgs_cons (pg_name (i := 4) scRPair.nd rfl (.inl rfl)) (pgs_cons (pg_name (i := 2) scRPair.nd rfl (.inl rfl)) pgs_nil))))
      (pss_cons (ps_expr (pe_call GC r3 (by rfl) gC kC bC .nil (passes_call (W := fun cls d _ H => E cls d H) (takes_of rfl rfl rfl rfl) (fun _ _ _ _ h => h)) (pa_cons (pv 0) (pa_cons (pv 2) (pa_cons pe_str pa_nil)))))
      (pss_cons (ps_asg (pe_call GP hr (by rfl) gP kP bP .nil (passes_call (W := fun cls d _ H => E cls d H) (takes_of rfl rfl rfl rfl) (fun _ _ _ _ h => h)) (pa_cons (pv 0) (pa_cons (pv 1) (pa_cons (pe_op op_add (pv 2) pe_int) (pa_cons (pv 3) pa_nil))))) (pg_tup rfl (pgs_cons (pg_name (i := 5) scRPair.nd rfl (.inl rfl)) (pgs_cons (pg_name (i := 2) scRPair.nd rfl (.inl rfl)) pgs_nil))))
      (pss_cons (ps_expr (pe_call GC r3 (by rfl) gC kC bC .nil (passes_call (W := fun cls d _ H => E cls d H) (takes_of rfl rfl rfl rfl) (fun _ _ _ _ h => h)) (pa_cons (pv 0) (pa_cons (pv 2) (pa_cons pe_str pa_nil)))))
      (pss_one (ps_ret (pe_tup (pa_cons (pe_call GX r1 (by rfl) gX kX bX .nil pass0 (pa_cons (pe_op op_add_str (pe_op op_add_str (pe_op op_add_str (pv 4) (pv 5)) (pe_call GO r1 (by rfl) gO kO bO .nil pass0 (pa_cons (pv 4) pa_nil))) (pe_call GO r1 (by rfl) gO kO bO .nil pass0 (pa_cons (pv 5) pa_nil))) pa_nil)) (pa_cons (pe_op op_add (pv 2) pe_int) pa_nil)))))))), ?_⟩
    refine ⟨_, rfl, _, rfl, _, rfl, _, _, rfl, rfl, _, rfl, t, L, a + 1, p, rfl, hl, hA, hp, hL, fun w1 e1 hrd H1 T s1 nT hT => ?_, fun i hi => qe i (pr_er hi)⟩
    refine ⟨T, _, rfl, SqT.of hT, rfl, _, _, rfl, _, _, rfl, rfl, ?_⟩
    refine ⟨_, rfl, _, rfl, t, e1, 44, by rw [com44]; rfl, hl, fun hm => ?_, fun hm => (qe e1 (pr_n hrd hm)).of s1⟩
    refine ⟨_, rfl, _, rfl, _, rfl, _, _, rfl, rfl, _, rfl, t, L, e1 + 1, p, rfl, hl, hA, s1 _ _ hp, hL, fun w2 e2 hrd2 H2 T2 s2 nT2 hT2 => ?_, fun i hi => (qe i ((pr_y hrd hm).trans (pr2_er hi))).of s1⟩
    have s12 := s1.trans s2
    refine ⟨T2, _, rfl, SqT.of hT2, rfl, _, _, rfl, _, _, rfl, rfl, ?_⟩
    refine ⟨_, rfl, _, rfl, t, e2, 93, by rw [par93]; rfl, hl, fun hm2 => ?_, fun hm2 => (qe e2 ((pr_y hrd hm).trans (pr2_n hrd2 hm2))).of s12⟩
    obtain ⟨_, g2, g3⟩ := rdP_ok hA m _ _ _ hrd
    obtain ⟨_, f2, f3⟩ := rdP_ok hA m _ _ _ hrd2
    refine ⟨_, rfl, _, rfl, _, _, rfl, rfl, S2_len (by omega), ?_⟩
    rw [SX.S_cat]
    refine ⟨_, rfl, w1, rfl, by omega, g3, _, _, rfl, rfl, S2_len (by rw [List.length_append, opp_len]; omega), ?_⟩
    rw [SX.S_cat]
    refine ⟨_, rfl, w2, rfl, by omega, f3, _, _, rfl, rfl, S2_len (by rw [List.length_append, List.length_append, opp_len, opp_len]; omega), ?_⟩
    rw [SX.S_cat]
    refine ⟨_, rfl, by rw [List.length_append, List.length_append, List.length_append, opp_len, opp_len]; omega, _, rfl, _, _, rfl, rfl, (by show 2 ≤ sizeLine; decide), fun T3 nT3 => ?_⟩
    exact q _ (e2 + 1) ((pr_y hrd hm).trans (pr2_y hrd2 hm2)) _ T3 (s12.trans (same_new nT3)) (s12.free nT3) upd_same
end
end K7
set_option maxRecDepth 100000
set_option maxHeartbeats 2000000
namespace K7
open PySem PySem.Spec PyProof.Rows L2
theorem menu_low : ∀ c ∈ menu, 97 ≤ c ∧ c ≤ 122 := by decide
theorem sg_no {L : List Nat} (hL : ∀ c ∈ L, c ∈ menu) {x : Nat} (h : x ∈ sg L) : x ≠ 40 ∧ x ≠ 91 ∧ x ≠ 49 := by
  obtain ⟨c, hc, hx⟩ := List.mem_flatMap.mp h
  have hm := menu_low c (hL c hc)
  have hx : x = c ∨ x = c - 32 := by simpa using hx
  omega
theorem eqm {c d : Nat} {z : Str} (hz : z = SX.S [d]) : decide (tx [c] = V.str z) = decide (c = d) := by
  rw [hz]
  refine (tx_eq (a := [c]) (b := [d])).trans ?_
  simp
theorem rdA_b {ph : Nat → Rr} {L t : List Nat} {d a : Nat} (h : beg L t a d = false) : rdA ph L t d a = .error a := if_pos h
theorem rdA_t {ph : Nat → Rr} {L t : List Nat} {d a c : Nat} (h : beg L t a d = true) (hc : mk t a = [c]) :
    rdA ph L t d a = if c = 40 then grp ph t a else if c = 91 then pr ph t a else if c = 49 then (if dgt t (a + 1) = true then .error (a + 1) else .ok ([], a + 1)) else .ok ([c], a + 1) := by
  unfold rdA
  rw [h, hc]
  simp
theorem beg_mk {L t : List Nat} {a d : Nat} (h : beg L t a d = true) : ∃ c, mk t a = [c] ∧ (c ∈ sg L ∨ c = 49 ∨ ((c = 40 ∨ c = 91) ∧ d < 6)) := by
  unfold beg at h
  rcases mk_cases t a with e | ⟨c, e⟩
  · rw [e] at h
    cases h
  · rw [e] at h
    refine ⟨c, e, ?_⟩
    simpa using h
section
variable {P : Program} {w : World} {K : PySem.W.Frag} {mg : Str → Option Value} {base : Heap}
/-! read_atom -/
theorem ok_at0 {f fB fN fG fR C fI : Addr} {fd fdB fdN fdG fdR fdI : FuncData} (F : Fun K "read_atom" "read_atom" sRAtom f fd) (RR : Pe P w K mg base C fI fdI) (GB : FnOk P w K mg base CX0 2 fB fdB ["text", "signs", "at", "depth"] spBa) (kB : PySem.W.keepIn K (.ref fB) = true) (bB : Binds K fdB ["text", "signs", "at", "depth"] []) (gB : mg "begins_atom" = some (.ref fB))
    (GN : FnOk P w K mg base (L2.CX P w) 3 fN fdN ["text", "at"] (spNd C)) (kN : PySem.W.keepIn K (.ref fN) = true) (bN : Binds K fdN ["text", "at"] []) (gN : mg "check_no_digit" = some (.ref fN))  :
    FnOk P w K mg base (L2.CX P w) 4 f fd ["text", "signs", "at", "depth"] (spR C (fun L t => rdA (sub L t 0) L t (6 - 0)) (6 - 0)) := by
  refine F.okX scRAtom (fun vs H Q E h => ?_) (fun cdv A outer s H vs Q E hr h => ?_)
  · obtain ⟨t, L, a, p, rfl, _⟩ := h
    rfl
  · obtain ⟨t, L, a, p, rfl, hl, hA, hp, hL, q, qe⟩ := h
    have r3 : Room 3 (A.deeper (envOfC "read_atom" (defScope sRAtom) s.heap.objs.size f cdv)) := hr.mono (by omega)
    have r2 : Room 2 (A.deeper (envOfC "read_atom" (defScope sRAtom) s.heap.objs.size f cdv)) := hr.mono (by omega)
    refine ⟨_, pss_cons (ps_if (pt_not (pt_val (pe_call GB r2 (by rfl) gB kB bB .nil pass0 (pa_cons (pv 0) (pa_cons (pv 1) (pa_cons (pv 2) (pa_cons (pv 3) pa_nil))))))) (pss_one (s_raise (E := E) RR.T RR.G RR.b r2 rfl (takes_of rfl rfl rfl rfl) (by rfl) (pv 2) pass0 var_mono)) pss_nil)
      (pss_cons (ps_set (i := 4) scRAtom.nd rfl (.inl rfl) (pe_ix ix_str (pv 0) (pv 2) (fun _ _ => rfl)))
      (pss_cons (ps_if (pt_cmpR op_eq (pv 4) pe_str (nomark _)) pss_never pss_nil)
      (pss_cons (ps_if (pt_cmpR op_eq (pv 4) pe_str (nomark _)) pss_never pss_nil)
      (pss_cons (ps_if (pt_cmpR op_eq (pv 4) pe_str (nomark _))
        (pss_cons (ps_expr (pe_call GN r3 (by rfl) gN kN bN .nil (passes_call (W := fun cls d _ H => E cls d H) (takes_of rfl rfl rfl rfl) (fun _ _ _ _ h => h)) (pa_cons (pv 0) (pa_cons (pe_op op_add (pv 2) pe_int) pa_nil)))) (pss_one (ps_ret (pe_tup (pa_cons pe_str (pa_cons (pe_op op_add (pv 2) pe_int) pa_nil)))))) pss_nil)
      (pss_one (ps_ret (pe_tup (pa_cons (pv 4) (pa_cons (pe_op op_add (pv 2) pe_int) pa_nil))))))))), ?_⟩
    refine ⟨_, rfl, _, rfl, _, rfl, _, rfl, t, L, a, p, 6 - 0, rfl, hl, hp, fun H1 s1 => ⟨_, rfl, ?_⟩⟩
    cases hb : beg L t a (6 - 0) with
    | false => exact iteT ⟨_, rfl, (qe a (rdA_b hb)).of s1⟩
    | true =>
      obtain ⟨c, hc, hcs⟩ := beg_mk hb
      have erd := rdA_t (ph := sub L t 0) hb hc
      have hat : atI (SX.S t).cps.toList (a : Int) = some c := by
        refine atS ?_
        have z : (mk t a)[0]? = some c := by rw [hc]; rfl
        unfold mk at z
        rw [List.getElem?_take_of_lt (by decide), List.getElem?_drop] at z
        exact z
      refine iteF ⟨_, rfl, _, rfl, _, _, c, rfl, rfl, asc_big (by omega), hat, ?_⟩
      have hno : c ≠ 40 ∧ c ≠ 91 := by
        rcases hcs with h1 | h1 | h1
        · exact ⟨(sg_no hL h1).1, (sg_no hL h1).2.1⟩
        · omega
        · exact absurd h1.2 (by decide)
      rw [if_neg hno.1, if_neg hno.2] at erd
      refine ⟨_, rfl, rfl, false, congrArg V.bl ((eqm par40).trans (decide_eq_false hno.1)), iteF ?_⟩
      refine ⟨_, rfl, rfl, false, congrArg V.bl ((eqm par91).trans (decide_eq_false hno.2)), iteF ?_⟩
      refine ⟨_, rfl, rfl, _, rfl, ?_⟩
      rw [eqm one49]
      refine ite2 (fun e49 => ?_) (fun e49 => ?_)
      · rw [if_pos (of_decide_eq_true e49)] at erd
        refine ⟨_, rfl, _, rfl, _, _, rfl, rfl, t, a + 1, rfl, hl, hA, fun hd => ?_, fun hd => ?_⟩
        · rw [hd, if_neg Bool.false_ne_true] at erd
          refine ⟨_, rfl, _, _, rfl, rfl, (by show 2 ≤ sizeLine; decide), fun T nT => ?_⟩
          rw [e0S]
          exact q [] (a + 1) erd _ T (s1.trans (same_new nT)) (s1.free nT) upd_same
        · rw [hd, if_pos rfl] at erd
          exact (qe (a + 1) erd).of s1
      · rw [if_neg (fun z => e49 (decide_eq_true z))] at erd
        refine ⟨_, rfl, _, rfl, _, _, rfl, rfl, (by show 2 ≤ sizeLine; decide), fun T nT => ?_⟩
        exact q [c] (a + 1) erd _ T (s1.trans (same_new nT)) (s1.free nT) upd_same
/-! read_atom -/
theorem ok_atS {f fB fN fG fR C fI : Addr} {fd fdB fdN fdG fdR fdI : FuncData} {m j : Nat} (F : Fun K "read_atom" "read_atom" sRAtom f fd) (RR : Pe P w K mg base C fI fdI) (GB : FnOk P w K mg base CX0 2 fB fdB ["text", "signs", "at", "depth"] spBa) (kB : PySem.W.keepIn K (.ref fB) = true) (bB : Binds K fdB ["text", "signs", "at", "depth"] []) (gB : mg "begins_atom" = some (.ref fB))
    (GN : FnOk P w K mg base (L2.CX P w) 3 fN fdN ["text", "at"] (spNd C)) (kN : PySem.W.keepIn K (.ref fN) = true) (bN : Binds K fdN ["text", "at"] []) (gN : mg "check_no_digit" = some (.ref fN)) (hm : m + 1 ≤ 6) (hj : 3 ≤ j)
    (GG : FnOk P w K mg base (L2.CX P w) j fG fdG ["text", "signs", "at", "depth"] (spR C (fun L t => grp (rdP L t m) t) (6 - m))) (kG : PySem.W.keepIn K (.ref fG) = true) (bG : Binds K fdG ["text", "signs", "at", "depth"] []) (gG : mg "read_group" = some (.ref fG))
    (GR : FnOk P w K mg base (L2.CX P w) j fR fdR ["text", "signs", "at", "depth"] (spR C (fun L t => pr (rdP L t m) t) (6 - m))) (kR : PySem.W.keepIn K (.ref fR) = true) (bR : Binds K fdR ["text", "signs", "at", "depth"] []) (gR : mg "read_pair" = some (.ref fR)) :
    FnOk P w K mg base (L2.CX P w) (j + 1) f fd ["text", "signs", "at", "depth"] (spR C (fun L t => rdA (sub L t (m + 1)) L t (6 - (m + 1))) (6 - (m + 1))) := by
  refine F.okX scRAtom (fun vs H Q E h => ?_) (fun cdv A outer s H vs Q E hr h => ?_)
  · obtain ⟨t, L, a, p, rfl, _⟩ := h
    rfl
  · obtain ⟨t, L, a, p, rfl, hl, hA, hp, hL, q, qe⟩ := h
    have r3 : Room 3 (A.deeper (envOfC "read_atom" (defScope sRAtom) s.heap.objs.size f cdv)) := hr.mono (by omega)
    have r2 : Room 2 (A.deeper (envOfC "read_atom" (defScope sRAtom) s.heap.objs.size f cdv)) := hr.mono (by omega)
    refine ⟨_, pss_cons (ps_if (pt_not (pt_val (pe_call GB r2 (by rfl) gB kB bB .nil pass0 (pa_cons (pv 0) (pa_cons (pv 1) (pa_cons (pv 2) (pa_cons (pv 3) pa_nil))))))) (pss_one (s_raise (E := E) RR.T RR.G RR.b r2 rfl (takes_of rfl rfl rfl rfl) (by rfl) (pv 2) pass0 var_mono)) pss_nil)
      (pss_cons (ps_set (i := 4) scRAtom.nd rfl (.inl rfl) (pe_ix ix_str (pv 0) (pv 2) (fun _ _ => rfl)))
      (pss_cons (ps_if (pt_cmpR op_eq (pv 4) pe_str (nomark _)) (pss_one (ps_ret (pe_call GG hr (by rfl) gG kG bG .nil (passes_call (W := fun cls d _ H => E cls d H) (takes_of rfl rfl rfl rfl) (fun _ _ _ _ h => h)) (pa_cons (pv 0) (pa_cons (pv 1) (pa_cons (pv 2) (pa_cons (pe_op op_add (pv 3) pe_int) pa_nil))))))) pss_nil)
      (pss_cons (ps_if (pt_cmpR op_eq (pv 4) pe_str (nomark _)) (pss_one (ps_ret (pe_call GR hr (by rfl) gR kR bR .nil (passes_call (W := fun cls d _ H => E cls d H) (takes_of rfl rfl rfl rfl) (fun _ _ _ _ h => h)) (pa_cons (pv 0) (pa_cons (pv 1) (pa_cons (pv 2) (pa_cons (pe_op op_add (pv 3) pe_int) pa_nil))))))) pss_nil)
      (pss_cons (ps_if (pt_cmpR op_eq (pv 4) pe_str (nomark _))
        (pss_cons (ps_expr (pe_call GN r3 (by rfl) gN kN bN .nil (passes_call (W := fun cls d _ H => E cls d H) (takes_of rfl rfl rfl rfl) (fun _ _ _ _ h => h)) (pa_cons (pv 0) (pa_cons (pe_op op_add (pv 2) pe_int) pa_nil)))) (pss_one (ps_ret (pe_tup (pa_cons pe_str (pa_cons (pe_op op_add (pv 2) pe_int) pa_nil)))))) pss_nil)
      (pss_one (ps_ret (pe_tup (pa_cons (pv 4) (pa_cons (pe_op op_add (pv 2) pe_int) pa_nil))))))))), ?_⟩
    refine ⟨_, rfl, _, rfl, _, rfl, _, rfl, t, L, a, p, 6 - (m + 1), rfl, hl, hp, fun H1 s1 => ⟨_, rfl, ?_⟩⟩
    cases hb : beg L t a (6 - (m + 1)) with
    | false => exact iteT ⟨_, rfl, (qe a (rdA_b hb)).of s1⟩
    | true =>
      obtain ⟨c, hc, hcs⟩ := beg_mk hb
      have erd := rdA_t (ph := sub L t (m + 1)) hb hc
      have hat : atI (SX.S t).cps.toList (a : Int) = some c := by
        refine atS ?_
        have z : (mk t a)[0]? = some c := by rw [hc]; rfl
        unfold mk at z
        rw [List.getElem?_take_of_lt (by decide), List.getElem?_drop] at z
        exact z
      refine iteF ⟨_, rfl, _, rfl, _, _, c, rfl, rfl, asc_big (by omega), hat, ?_⟩
      have ed : (((6 - (m + 1) : Nat) : Int) + 1) = ((6 - m : Nat) : Int) := by omega
      refine ⟨_, rfl, rfl, _, rfl, ?_⟩
      rw [eqm par40]
      refine ite2 (fun e40 => ?_) (fun e40 => ?_)
      · have h40 : c = 40 := of_decide_eq_true e40
        rw [if_pos h40] at erd
        refine ⟨_, rfl, _, rfl, _, rfl, _, rfl, _, _, rfl, rfl, t, L, a, p, ?_, hl, hA, s1 _ _ hp, hL, fun w e hrd H2 T s2 nT hT => ?_, fun i hi => (qe i (erd.trans hi)).of s1⟩
        · show [tx t, V.ref p, V.int (a : Int), V.int (((6 - (m + 1) : Nat) : Int) + 1)] = _
          rw [ed]
        · exact q w e (erd.trans hrd) H2 T (s1.trans s2) (s1.free nT) hT
      have h40 : c ≠ 40 := fun z => e40 (decide_eq_true z)
      rw [if_neg h40] at erd
      refine ⟨_, rfl, rfl, _, rfl, ?_⟩
      rw [eqm par91]
      refine ite2 (fun e91 => ?_) (fun e91 => ?_)
      · have h91 : c = 91 := of_decide_eq_true e91
        rw [if_pos h91] at erd
        refine ⟨_, rfl, _, rfl, _, rfl, _, rfl, _, _, rfl, rfl, t, L, a, p, ?_, hl, hA, s1 _ _ hp, hL, fun w e hrd H2 T s2 nT hT => ?_, fun i hi => (qe i (erd.trans hi)).of s1⟩
        · show [tx t, V.ref p, V.int (a : Int), V.int (((6 - (m + 1) : Nat) : Int) + 1)] = _
          rw [ed]
        · exact q w e (erd.trans hrd) H2 T (s1.trans s2) (s1.free nT) hT
      have h91 : c ≠ 91 := fun z => e91 (decide_eq_true z)
      rw [if_neg h91] at erd
      refine ⟨_, rfl, rfl, _, rfl, ?_⟩
      rw [eqm one49]
      refine ite2 (fun e49 => ?_) (fun e49 => ?_)
      · rw [if_pos (of_decide_eq_true e49)] at erd
        refine ⟨_, rfl, _, rfl, _, _, rfl, rfl, t, a + 1, rfl, hl, hA, fun hd => ?_, fun hd => ?_⟩
        · rw [hd, if_neg Bool.false_ne_true] at erd
          refine ⟨_, rfl, _, _, rfl, rfl, (by show 2 ≤ sizeLine; decide), fun T nT => ?_⟩
          rw [e0S]
          exact q [] (a + 1) erd _ T (s1.trans (same_new nT)) (s1.free nT) upd_same
        · rw [hd, if_pos rfl] at erd
          exact (qe (a + 1) erd).of s1
      · rw [if_neg (fun z => e49 (decide_eq_true z))] at erd
        refine ⟨_, rfl, _, rfl, _, _, rfl, rfl, (by show 2 ≤ sizeLine; decide), fun T nT => ?_⟩
        exact q [c] (a + 1) erd _ T (s1.trans (same_new nT)) (s1.free nT) upd_same
end
end K7
set_option maxRecDepth 100000
set_option maxHeartbeats 2000000
namespace K7
open PySem PySem.Spec PyProof.Rows L2
theorem rdF_er {ph : Nat → Rr} {L t : List Nat} {d a i : Nat} (h : rdA ph L t d a = .error i) : rdF ph L t d a = .error i := by
  unfold rdF
  rw [h]
theorem rdF_n {ph : Nat → Rr} {L t w : List Nat} {d a e : Nat} (h : rdA ph L t d a = .ok (w, e)) (hm : mk t (e + spn t e) ≠ [94]) : rdF ph L t d a = .ok (w, e + spn t e) := by
  unfold rdF
  rw [h]
  simp only [if_neg hm]
theorem rdF_y {ph : Nat → Rr} {L t w : List Nat} {d a e : Nat} (h : rdA ph L t d a = .ok (w, e)) (hm : mk t (e + spn t e) = [94]) : rdF ph L t d a = fx t w (e + spn t e) := by
  unfold rdF
  rw [h]
  simp only [if_pos hm]
theorem fx_er {t w : List Nat} {e i : Nat} (h : rdE t (e + 1 + spn t (e + 1)) = .error i) : fx t w e = .error i := by
  unfold fx
  rw [h]
theorem fx_ok {t w : List Nat} {e e2 : Nat} {x : Int} (h : rdE t (e + 1 + spn t (e + 1)) = .ok (x, e2)) : fx t w e = .ok (pw w x, e2 + spn t e2) := by
  unfold fx
  rw [h]
theorem rdL_stop {fa : Nat → Rr} {L t : List Nat} {d a : Nat} {w : List Nat} (h : beg L t a d = false) : ∀ n, rdL fa L t d n a w = .ok (w, a)
  | 0 => rfl
  | n + 1 => if_pos h
theorem rdL_er {fa : Nat → Rr} {L t : List Nat} {d a n i : Nat} {w : List Nat} (h : beg L t a d = true) (hf : fa a = .error i) : rdL fa L t d (n + 1) a w = .error i := by
  unfold rdL
  rw [h, if_neg (by decide), hf]
theorem rdL_ok2 {fa : Nat → Rr} {L t : List Nat} {d a n e : Nat} {w f : List Nat} (h : beg L t a d = true) (hf : fa a = .ok (f, e)) : rdL fa L t d (n + 1) a w = rdL fa L t d n e (ct (w ++ f)) := by
  conv => lhs; unfold rdL
  rw [h, if_neg (by decide), hf]
theorem rdP0_er {fa : Nat → Rr} {L t : List Nat} {d a i : Nat} (h : fa (a + spn t a) = .error i) : rdP0 fa L t d a = .error i := by
  unfold rdP0
  rw [h]
theorem rdP0_y {fa : Nat → Rr} {L t w : List Nat} {d a e : Nat} (h : fa (a + spn t a) = .ok (w, e)) : rdP0 fa L t d a = rdL fa L t d (t.length + 2) e w := by
  unfold rdP0
  rw [h]
section
variable {P : Program} {w : World} {K : PySem.W.Frag} {mg : Str → Option Value} {base : Heap}
/-! read_factor -/
theorem ok_fa {f fA fS fM fE fW C : Addr} {fd fdA fdS fdM fdE fdW : FuncData} {m j : Nat} (F : Fun K "read_factor" "read_factor" sRFactor f fd) (hj : 4 ≤ j)
    (GA : FnOk P w K mg base (L2.CX P w) j fA fdA ["text", "signs", "at", "depth"] (spR C (fun L t => rdA (sub L t m) L t (6 - m)) (6 - m))) (kA : PySem.W.keepIn K (.ref fA) = true) (bA : Binds K fdA ["text", "signs", "at", "depth"] []) (gA : mg "read_atom" = some (.ref fA))
    (GS : FnOk P w K mg base CX0 2 fS fdS ["text", "at"] spBs) (kS : PySem.W.keepIn K (.ref fS) = true) (bS : Binds K fdS ["text", "at"] []) (gS : mg "behind_spaces" = some (.ref fS))
    (GM : FnOk P w K mg base CX0 1 fM fdM ["text", "at"] spMk) (kM : PySem.W.keepIn K (.ref fM) = true) (bM : Binds K fdM ["text", "at"] []) (gM : mg "mark_at" = some (.ref fM))
    (GE : FnOk P w K mg base (L2.CX P w) 4 fE fdE ["text", "at"] (spEx C)) (kE : PySem.W.keepIn K (.ref fE) = true) (bE : Binds K fdE ["text", "at"] []) (gE : mg "read_exponent" = some (.ref fE))
    (GW : FnOk P w K mg base CX0 2 fW fdW ["word", "exponent"] spPow) (kW : PySem.W.keepIn K (.ref fW) = true) (bW : Binds K fdW ["word", "exponent"] []) (gW : mg "power" = some (.ref fW)) :
    FnOk P w K mg base (L2.CX P w) (j + 1) f fd ["text", "signs", "at", "depth"] (spR C (fun L t => rdF (sub L t m) L t (6 - m)) (6 - m)) := by
  refine F.okX scRFactor (fun vs H Q E h => ?_) (fun cdv A outer s H vs Q E hr h => ?_)
  · obtain ⟨t, L, a, p, rfl, _⟩ := h
    rfl
  · obtain ⟨t, L, a, p, rfl, hl, hA, hp, hL, q, qe⟩ := h
    have r1 : Room 1 (A.deeper (envOfC "read_factor" (defScope sRFactor) s.heap.objs.size f cdv)) := hr.mono (by omega)
    have r2 : Room 2 (A.deeper (envOfC "read_factor" (defScope sRFactor) s.heap.objs.size f cdv)) := hr.mono (by omega)
    have r4 : Room 4 (A.deeper (envOfC "read_factor" (defScope sRFactor) s.heap.objs.size f cdv)) := hr.mono (by omega)
    refine ⟨_, pss_cons (ps_asg (pe_call GA hr (by rfl) gA kA bA .nil (passes_call (W := fun cls d _ H => E cls d H) (takes_of rfl rfl rfl rfl) (fun _ _ _ _ h => h)) (pa_cons (pv 0) (pa_cons (pv 1) (pa_cons (pv 2) (pa_cons (pv 3) pa_nil))))) (pg_tup rfl (pgs_cons (pg_name (i := 4) scRFactor.nd rfl (.inl rfl)) (pgs_cons (pg_name (i := 2) scRFactor.nd rfl (.inl rfl)) pgs_nil))))
      (pss_cons (ps_set (i := 2) scRFactor.nd rfl (.inl rfl) (pe_call GS r2 (by rfl) gS kS bS .nil pass0 (pa_cons (pv 0) (pa_cons (pv 2) pa_nil))))
      (pss_cons (ps_if (pt_cmpR op_ne (pe_call GM r1 (by rfl) gM kM bM .nil pass0 (pa_cons (pv 0) (pa_cons (pv 2) pa_nil))) pe_str (nomark _)) (pss_one (ps_ret (pe_tup (pa_cons (pv 4) (pa_cons (pv 2) pa_nil))))) pss_nil)
      (pss_cons (ps_asg (pe_call GE r4 (by rfl) gE kE bE .nil (passes_call (W := fun cls d _ H => E cls d H) (takes_of rfl rfl rfl rfl) (fun _ _ _ _ h => h)) (pa_cons (pv 0) (pa_cons (pe_call GS r2 (by rfl) gS kS bS .nil pass0 (pa_cons (pv 0) (pa_cons (pe_op op_add (pv 2) pe_int) pa_nil))) pa_nil))) (pg_tup rfl (pgs_cons (pg_name (i := 5) scRFactor.nd rfl (.inl rfl)) (pgs_cons (pg_name (i := 2) scRFactor.nd rfl (.inl rfl)) pgs_nil))))
      (pss_one (ps_ret (pe_tup (pa_cons (pe_call GW r2 (by rfl) gW kW bW .nil pass0 (pa_cons (pv 4) (pa_cons (pv 5) pa_nil))) (pa_cons (pe_call GS r2 (by rfl) gS kS bS .nil pass0 (pa_cons (pv 0) (pa_cons (pv 2) pa_nil))) pa_nil)))))))), ?_⟩
    refine ⟨_, rfl, _, rfl, _, rfl, _, rfl, t, L, a, p, rfl, hl, hA, hp, hL, fun w e hrd H1 T s1 nT hT => ?_, fun i hi => qe i (rdF_er hi)⟩
    obtain ⟨_, g2, g3⟩ := rdA_ok hA (sub_ok hA m) _ _ _ hrd
    refine ⟨T, _, rfl, SqT.of hT, rfl, _, _, rfl, _, _, rfl, rfl, ?_⟩
    refine ⟨_, rfl, _, rfl, t, e, rfl, hl, ?_⟩
    refine ⟨_, rfl, _, rfl, t, e + spn t e, rfl, hl, rfl, _, rfl, ?_⟩
    rw [caret, tx_eq]
    by_cases hm : mk t (e + spn t e) = [94]
    · rw [decide_eq_true hm]
      refine iteF ⟨_, rfl, _, rfl, _, rfl, _, _, rfl, rfl, t, e + spn t e + 1, rfl, hl, t, _, rfl, hl, hA, fun x e2 hx T2 nT2 => ?_, fun i hi => (qe i ((rdF_y hrd hm).trans (fx_er hi))).of s1⟩
      obtain ⟨_, hx2⟩ := rdE_ok hx
      refine ⟨T2, _, rfl, SqT.of upd_same, rfl, _, _, rfl, _, _, rfl, rfl, ?_⟩
      refine ⟨_, rfl, _, rfl, w, x, rfl, g2, g3, hx2, _, rfl, _, rfl, t, e2, rfl, hl, (by show 2 ≤ sizeLine; decide), fun T3 nT3 => ?_⟩
      have s2 := s1.trans (same_new (o := .tup [.int x, .int (e2 : Int)]) nT2)
      exact q _ _ ((rdF_y hrd hm).trans (fx_ok hx)) _ T3 (s2.trans (same_new nT3)) (s2.free nT3) upd_same
    · rw [decide_eq_false hm]
      refine iteT ⟨_, rfl, _, rfl, (by show 2 ≤ sizeLine; decide), fun T2 nT2 => ?_⟩
      exact q _ _ (rdF_n hrd hm) _ T2 (s1.trans (same_new nT2)) (s1.free nT2) upd_same
/-! read_phrase -/
theorem ok_ph {f fF fS fB fX C : Addr} {fd fdF fdS fdB fdX : FuncData} {m j : Nat} (F : Fun K "read_phrase" "read_phrase" sRPhrase f fd) (hj : 4 ≤ j)
    (GF : FnOk P w K mg base (L2.CX P w) j fF fdF ["text", "signs", "at", "depth"] (spR C (fun L t => rdF (sub L t m) L t (6 - m)) (6 - m))) (kF : PySem.W.keepIn K (.ref fF) = true) (bF : Binds K fdF ["text", "signs", "at", "depth"] []) (gF : mg "read_factor" = some (.ref fF))
    (GS : FnOk P w K mg base CX0 2 fS fdS ["text", "at"] spBs) (kS : PySem.W.keepIn K (.ref fS) = true) (bS : Binds K fdS ["text", "at"] []) (gS : mg "behind_spaces" = some (.ref fS))
    (GB : FnOk P w K mg base CX0 2 fB fdB ["text", "signs", "at", "depth"] spBa) (kB : PySem.W.keepIn K (.ref fB) = true) (bB : Binds K fdB ["text", "signs", "at", "depth"] []) (gB : mg "begins_atom" = some (.ref fB))
    (GX : FnOk P w K mg base CX0 1 fX fdX ["word"] spCut) (kX : PySem.W.keepIn K (.ref fX) = true) (bX : Binds K fdX ["word"] []) (gX : mg "cut" = some (.ref fX)) :
    FnOk P w K mg base (L2.CX P w) (j + 1) f fd ["text", "signs", "at", "depth"] (spR C (fun L t => rdP L t m) (6 - m)) := by
  refine F.okX scRPhrase (fun vs H Q E h => ?_) (fun cdv A outer s H vs Q E hr h => ?_)
  · obtain ⟨t, L, a, p, rfl, _⟩ := h
    rfl
  · obtain ⟨t, L, a, p, rfl, hl, hA, hp, hL, q, qe⟩ := h
    have r1 : Room 1 (A.deeper (envOfC "read_phrase" (defScope sRPhrase) s.heap.objs.size f cdv)) := hr.mono (by omega)
    have r2 : Room 2 (A.deeper (envOfC "read_phrase" (defScope sRPhrase) s.heap.objs.size f cdv)) := hr.mono (by omega)
    have eP : rdP L t m a = rdP0 (rdF (sub L t m) L t (6 - m)) L t (6 - m) a := congrFun (rdP_eq L t m) a
    have hGd : Gd1 (rdF (sub L t m) L t (6 - m)) := rdF_ok hA (sub_ok hA m)
    have q : ∀ w e, rdP L t m a = .ok (w, e) → ∀ H' T, Same H H' → H T = none → H' T = some (.tup [tx w, .int (e : Int)]) → Q (.ref T) H' := q
    have qe : ∀ i, rdP L t m a = .error i → FlP C i H E := qe
    generalize hd : 6 - m = d at *
    obtain ⟨t2, P2, R2⟩ : ∃ t2, PSs (cxOf (L2.CX P w) P w K mg base ["text", "signs", "at", "depth", "word", "factor"] "read_phrase" (defScope sRPhrase) f cdv A outer s H E) ((defBody sRPhrase).drop 1) t2 ∧
        ∀ (a1 : Nat) (w1 : List Nat) (H1 : Hp), Same H H1 → w1.length ≤ 401 → Asc w1 → rdL (rdF (sub L t m) L t d) L t d (t.length + 2) a1 w1 = rdP L t m a → t2 { nx := fun _ H' => Q .non H', rt := Q } [some (tx t), some (.ref p), some (.int (a1 : Int)), some (.int (d : Int)), some (tx w1), none] H1 := by
      refine ⟨_, pss_cons (ps_while (passes_of rfl) (pt_val (pe_call GB r2 (by rfl) gB kB bB .nil pass0 (pa_cons (pv 0) (pa_cons (pv 1) (pa_cons (pv 2) (pa_cons (pv 3) pa_nil))))))
          (pss_cons (ps_asg (pe_call GF hr (by rfl) gF kF bF .nil (passes_call (W := fun cls d _ H => E cls d H) (takes_of rfl rfl rfl rfl) (fun _ _ _ _ h => h)) (pa_cons (pv 0) (pa_cons (pv 1) (pa_cons (pv 2) (pa_cons (pv 3) pa_nil))))) (pg_tup rfl (pgs_cons (pg_name (i := 5) scRPhrase.nd rfl (.inl rfl)) (pgs_cons (pg_name (i := 2) scRPhrase.nd rfl (.inl rfl)) pgs_nil))))
          (pss_one (ps_set (i := 4) scRPhrase.nd rfl (.inl rfl) (pe_call GX r1 (by rfl) gX kX bX .nil pass0 (pa_cons (pe_op op_add_str (pv 4) (pv 5)) pa_nil))))))
        (pss_one (ps_ret (pe_tup (pa_cons (pv 4) (pa_cons (pv 2) pa_nil))))), ?_⟩
      intro a1 w1 H1 s1 hw1 hA1 hr1
      refine while_by (fun σ H2 => ∃ (b n : Nat) (w2 : List Nat) (y : Option V), σ = [some (tx t), some (.ref p), some (.int (b : Int)), some (.int (d : Int)), some (tx w2), y] ∧ Same H H2 ∧ t.length < n + b ∧ w2.length ≤ 401 ∧ Asc w2 ∧ rdL (rdF (sub L t m) L t d) L t d n b w2 = rdP L t m a)
        (fun σ _ => match σ with | [_, _, some (.int b), _, _, _] => t.length - b.toNat | _ => 0) ⟨a1, t.length + 2, w1, none, rfl, s1, by omega, hw1, hA1, hr1⟩ ?_ ?_
      · rintro σ H2 ⟨b, n, w2, y, rfl, sm, hn, hw2, hA2, hrl⟩
        refine ⟨_, rfl, _, rfl, _, rfl, _, rfl, t, L, b, p, d, rfl, hl, sm _ _ hp, fun H3 s3 => ⟨_, rfl, ?_⟩⟩
        have s03 := sm.trans s3
        cases hb : beg L t b d with
        | false =>
          refine iteF ?_
          rw [rdL_stop hb] at hrl
          refine ⟨_, rfl, _, rfl, (by show 2 ≤ sizeLine; decide), fun T nT => ?_⟩
          exact q w2 b hrl.symm _ T (s03.trans (same_new nT)) (s03.free nT) upd_same
        | true =>
          refine iteT ?_
          have hbl : b < t.length := by
            obtain ⟨c, hc, _⟩ := beg_mk hb
            unfold mk at hc
            by_cases hlt : b < t.length
            · exact hlt
            · rw [List.drop_eq_nil_of_le (by omega)] at hc
              cases hc
          cases n with
          | zero => omega
          | succ n =>
            refine ⟨_, rfl, _, rfl, _, rfl, _, rfl, t, L, b, p, rfl, hl, hA, s03 _ _ hp, hL, fun f1 e hrd H4 T s4 nT hT => ?_, fun i hi => (qe i (hrl.symm.trans (rdL_er hb hi))).of s03⟩
            obtain ⟨k1, k2, k3⟩ := hGd _ _ _ hrd
            have s04 := s03.trans s4
            refine ⟨T, _, rfl, SqT.of hT, rfl, _, _, rfl, _, _, rfl, rfl, ?_⟩
            refine ⟨_, rfl, _, rfl, _, _, rfl, rfl, S2_len (by omega), ?_⟩
            rw [SX.S_cat]
            refine ⟨w2 ++ f1, rfl, by rw [List.length_append]; omega, ⟨e, n, ct (w2 ++ f1), _, rfl, s04, by omega, ct_len _, ct_asc (asc_app hA2 k3), ?_⟩, ?_⟩
            · rw [← hrl]
              exact (rdL_ok2 hb hrd).symm
            · show t.length - ((e : Int)).toNat < t.length - ((b : Int)).toNat
              omega
      · rintro σ H Q Q' imp ⟨v0, h0, v1, h1, v2, h2, v3, h3, t', L', a', p', d', e1, e2, e3, q1⟩
        refine ⟨v0, h0, v1, h1, v2, h2, v3, h3, t', L', a', p', d', e1, e2, e3, fun H' sx => ?_⟩
        obtain ⟨k, e, hq⟩ := q1 H' sx
        exact ⟨k, e, imp _ _ hq⟩
    refine ⟨_, pss_cons (ps_asg (pe_call GF hr (by rfl) gF kF bF .nil (passes_call (W := fun cls d _ H => E cls d H) (takes_of rfl rfl rfl rfl) (fun _ _ _ _ h => h)) (pa_cons (pv 0) (pa_cons (pv 1) (pa_cons (pe_call GS r2 (by rfl) gS kS bS .nil pass0 (pa_cons (pv 0) (pa_cons (pv 2) pa_nil))) (pa_cons (pv 3) pa_nil))))) (pg_tup rfl (pgs_cons (pg_name (i := 4) scRPhrase.nd rfl (.inl rfl)) (pgs_cons (pg_name (i := 2) scRPhrase.nd rfl (.inl rfl)) pgs_nil)))) P2, ?_⟩
    refine ⟨_, rfl, _, rfl, _, rfl, _, rfl, t, a, rfl, hl, _, rfl, t, L, a + spn t a, p, rfl, hl, hA, hp, hL, fun w1 e hrd H1 T s1 nT hT => ?_, fun i hi => qe i (eP.trans (rdP0_er hi))⟩
    obtain ⟨_, k2, k3⟩ := hGd _ _ _ hrd
    refine ⟨T, _, rfl, SqT.of hT, rfl, _, _, rfl, _, _, rfl, rfl, ?_⟩
    exact R2 e w1 H1 s1 k2 k3 ((rdP0_y hrd).symm.trans eP.symm)
end
end K7
set_option maxRecDepth 100000
set_option maxHeartbeats 2000000
namespace K7
open PySem PySem.Spec PyProof.Rows L2
/-- a def of the top, by its name -/
structure Tp (K : PySem.W.Frag) (mg : Str → Option Value) (x : Str) (st : Stmt) (ps : List Str) (f : Addr) (fd : FuncData) : Prop where
  F : Fun K x x st f fd
  b : Binds K fd ps []
  g : mg x = some (.ref f)
/-- the defs of the reader -/
structure Rdr (K : PySem.W.Frag) (mg : Str → Option Value) (fP fF fA fG fR fE fB fM fS fC fN fW fX fO : Addr) (fdP fdF fdA fdG fdR fdE fdB fdM fdS fdC fdN fdW fdX fdO : FuncData) : Prop where
  P : Tp K mg "read_phrase" sRPhrase ["text", "signs", "at", "depth"] fP fdP
  F : Tp K mg "read_factor" sRFactor ["text", "signs", "at", "depth"] fF fdF
  A : Tp K mg "read_atom" sRAtom ["text", "signs", "at", "depth"] fA fdA
  G : Tp K mg "read_group" sRGroup ["text", "signs", "at", "depth"] fG fdG
  R : Tp K mg "read_pair" sRPair ["text", "signs", "at", "depth"] fR fdR
  E : Tp K mg "read_exponent" sRExp ["text", "at"] fE fdE
  B : Tp K mg "begins_atom" sBegins ["text", "signs", "at", "depth"] fB fdB
  M : Tp K mg "mark_at" sMark ["text", "at"] fM fdM
  S : Tp K mg "behind_spaces" sSpaces ["text", "at"] fS fdS
  C : Tp K mg "check_mark" sChkM ["text", "at", "mark"] fC fdC
  N : Tp K mg "check_no_digit" sNoDigit ["text", "at"] fN fdN
  W : Tp K mg "power" sPower ["word", "exponent"] fW fdW
  X : Tp K mg "cut" sCut ["word"] fX fdX
  O : Tp K mg "opposite" sOpp ["word"] fO fdO
section
variable {P : Program} {w : World} {K : PySem.W.Frag} {mg : Str → Option Value} {base : Heap}
variable {fP fF fA fG fR fE fB fM fS fC fN fW fX fO Ce fI : Addr} {fdP fdF fdA fdG fdR fdE fdB fdM fdS fdC fdN fdW fdX fdO fdI : FuncData} {tL tD : Tok}
/-- phrases at each depth -/
theorem ok_lev (D : Rdr K mg fP fF fA fG fR fE fB fM fS fC fN fW fX fO fdP fdF fdA fdG fdR fdE fdB fdM fdS fdC fdN fdW fdX fdO) (B : Bn mg) (R : Pe P w K mg base Ce fI fdI) (mL : mg "LONGEST" = some (.int 400 tL)) (mD : mg "DEEPEST" = some (.int 6 tD)) :
    ∀ m, m ≤ 6 → FnOk P w K mg base (L2.CX P w) (6 + 4 * m) fP fdP ["text", "signs", "at", "depth"] (spR Ce (fun L t => rdP L t m) (6 - m)) := by
  have GM : FnOk P w K mg base CX0 1 fM fdM ["text", "at"] spMk := ok_mk (k := 0) D.M.F
  have GS : FnOk P w K mg base CX0 2 fS fdS ["text", "at"] spBs := ok_bs (k := 0) D.S.F GM D.M.F.kp D.M.b D.M.g
  have GB : FnOk P w K mg base CX0 2 fB fdB ["text", "signs", "at", "depth"] spBa := ok_ba (k := 0) D.B.F mD GM D.M.F.kp D.M.b D.M.g
  have GN : FnOk P w K mg base (L2.CX P w) 3 fN fdN ["text", "at"] (spNd Ce) := ok_nd (k := 0) D.N.F R GM D.M.F.kp D.M.b D.M.g
  have GC : FnOk P w K mg base (L2.CX P w) 3 fC fdC ["text", "at", "mark"] (spCm Ce) := ok_cm (k := 0) D.C.F R GM D.M.F.kp D.M.b D.M.g
  have GX : FnOk P w K mg base CX0 1 fX fdX ["word"] spCut := ok_cut (k := 0) D.X.F mL
  have GO : FnOk P w K mg base CX0 1 fO fdO ["word"] spOpp := ok_opp (k := 0) D.O.F
  have GW : FnOk P w K mg base CX0 2 fW fdW ["word", "exponent"] spPow := ok_pow (k := 0) D.W.F GX D.X.F.kp D.X.b D.X.g GO D.O.F.kp D.O.b D.O.g
  have GE : FnOk P w K mg base (L2.CX P w) 4 fE fdE ["text", "at"] (spEx Ce) := ok_ex (k := 0) D.E.F B R GM D.M.F.kp D.M.b D.M.g GN D.N.F.kp D.N.b D.N.g
  have up : ∀ {m j : Nat}, 4 ≤ j → FnOk P w K mg base (L2.CX P w) j fA fdA ["text", "signs", "at", "depth"] (spR Ce (fun L t => rdA (sub L t m) L t (6 - m)) (6 - m)) → FnOk P w K mg base (L2.CX P w) (j + 2) fP fdP ["text", "signs", "at", "depth"] (spR Ce (fun L t => rdP L t m) (6 - m)) := by
    intro m j hj GA
    have GF := ok_fa D.F.F hj GA D.A.F.kp D.A.b D.A.g GS D.S.F.kp D.S.b D.S.g GM D.M.F.kp D.M.b D.M.g GE D.E.F.kp D.E.b D.E.g GW D.W.F.kp D.W.b D.W.g
    exact ok_ph D.P.F (by omega) GF D.F.F.kp D.F.b D.F.g GS D.S.F.kp D.S.b D.S.g GB D.B.F.kp D.B.b D.B.g GX D.X.F.kp D.X.b D.X.g
  intro m
  induction m with
  | zero =>
    intro _
    exact up (m := 0) (by decide) (ok_at0 (fG := 0) (fR := 0) (fdG := fdP) (fdR := fdP) D.A.F R GB D.B.F.kp D.B.b D.B.g GN D.N.F.kp D.N.b D.N.g)
  | succ m ih =>
    intro hm
    have GP := ih (by omega)
    have GG := ok_gr (k := 0) D.G.F (by omega) GP D.P.F.kp D.P.b D.P.g GC D.C.F.kp D.C.b D.C.g
    have GR := ok_pr (k := 0) D.R.F (by omega) GP D.P.F.kp D.P.b D.P.g GC D.C.F.kp D.C.b D.C.g GX D.X.F.kp D.X.b D.X.g GO D.O.F.kp D.O.b D.O.g
    have GA := ok_atS D.A.F R GB D.B.F.kp D.B.b D.B.g GN D.N.F.kp D.N.b D.N.g hm (by omega) GG D.G.F.kp D.G.b D.G.g GR D.R.F.kp D.R.b D.R.g
    exact up (m := m + 1) (j := 6 + 4 * m + 1 + 1) (by omega) GA
/-! read_word -/
/-- the word; or where it cannot be read; or none: it is too long -/
def rdW (L t : List Nat) : Except (Option Nat) (List Nat) := match rdP L t 6 0 with
  | .error i => .error (some i)
  | .ok (w, e) => if e < t.length then .error (some e) else if 400 < w.length then .error none else .ok w
structure Pl (P : Program) (w : World) (K : PySem.W.Frag) (mg : Str → Option Value) (base : Heap) (C fI : Addr) (fdI : FuncData) : Prop where
  T : ErC K mg "TooLong" "limit" C fI
  G : FnOk P w K mg base CX0 1 fI fdI ["self", "limit"] (spIni tagL "limit" C)
  b : Binds K fdI ["self", "limit"] []
abbrev FlL (C : Addr) (H : Hp) (E : XK) : Prop := Fl C tagL "limit" (.int 400) H E
def spRw (Ce Cl : Addr) : Sp := fun vs H Q E => ∃ t L : List Nat, vs = [tx t, tx L] ∧ t.length ≤ 9000 ∧ Asc t ∧ Lt L ∧ (∀ w, rdW L t = .ok w → ∀ H', Same H H' → Q (tx w) H') ∧ (∀ i, rdW L t = .error (some i) → FlP Ce i H E) ∧ (rdW L t = .error none → FlL Cl H E)
theorem ok_rw {f fZ Cl fJ : Addr} {fd fdZ fdJ : FuncData} (F : Fun K "read_word" "read_word" sRWord f fd) (B : Bn mg) (R : Pe P w K mg base Ce fI fdI) (RL : Pl P w K mg base Cl fJ fdJ) (mL : mg "LONGEST" = some (.int 400 tL))
    (GP : FnOk P w K mg base (L2.CX P w) 30 fP fdP ["text", "signs", "at", "depth"] (spR Ce (fun L t => rdP L t 6) (6 - 6))) (kP : PySem.W.keepIn K (.ref fP) = true) (bP : Binds K fdP ["text", "signs", "at", "depth"] []) (gP : mg "read_phrase" = some (.ref fP))
    (GZ : FnOk P w K mg base CX0 1 fZ fdZ ["letters"] spSof) (kZ : PySem.W.keepIn K (.ref fZ) = true) (bZ : Binds K fdZ ["letters"] []) (gZ : mg "signs_of" = some (.ref fZ)) :
    FnOk P w K mg base (L2.CX P w) 31 f fd ["text", "letters"] (spRw Ce Cl) := by
  refine F.okX scRWord (fun vs H Q E h => ?_) (fun cdv A outer s H vs Q E hr h => ?_)
  · obtain ⟨t, L, rfl, _⟩ := h
    rfl
  · obtain ⟨t, L, rfl, hl, hA, hL, q, qe, ql⟩ := h
    have r1 : Room 1 (A.deeper (envOfC "read_word" (defScope sRWord) s.heap.objs.size f cdv)) := hr.mono (by omega)
    have r2 : Room 2 (A.deeper (envOfC "read_word" (defScope sRWord) s.heap.objs.size f cdv)) := hr.mono (by omega)
    refine ⟨_, pss_cons (ps_asg (pe_call GP hr (by rfl) gP kP bP .nil (passes_call (W := fun cls d _ H => E cls d H) (takes_of rfl rfl rfl rfl) (fun _ _ _ _ h => h)) (pa_cons (pv 0) (pa_cons (pe_call GZ r1 (by rfl) gZ kZ bZ .nil pass0 (pa_cons (pv 1) pa_nil)) (pa_cons pe_int (pa_cons pe_int pa_nil))))) (pg_tup rfl (pgs_cons (pg_name (i := 2) scRWord.nd rfl (.inl rfl)) (pgs_cons (pg_name (i := 3) scRWord.nd rfl (.inl rfl)) pgs_nil))))
      (pss_cons (ps_if (pt_cmpR op_lt (pv 3) (pe_callB call_len (by rfl) B.len PySem.boot_len (pa_cons (pv 0) pa_nil)) (nomark _)) (pss_one (s_raise (E := E) R.T R.G R.b r2 rfl (takes_of rfl rfl rfl rfl) (by rfl) (pv 3) pass0 var_mono)) pss_nil)
      (pss_cons (ps_if (pt_cmpR op_gt (pe_callB call_len (by rfl) B.len PySem.boot_len (pa_cons (pv 2) pa_nil)) (pe_glob (v := .int 400) (by rfl) mL ⟨_, rfl⟩) (nomark _))
        (pss_one (s_raise (E := E) RL.T RL.G RL.b r2 rfl (takes_of rfl rfl rfl rfl) (by rfl) (pe_glob (v := .int 400) (by rfl) mL ⟨_, rfl⟩) pass0 c_mono)) pss_nil)
      (pss_one (ps_ret (pv 2))))), ?_⟩
    refine ⟨_, rfl, _, rfl, L, rfl, hL, fun H1 p s1 np hp => ⟨t, L, 0, p, rfl, hl, hA, hp, hL.2, fun w e hrd H2 T s2 nT hT => ?_, fun i hi => (qe i ?_).of s1⟩⟩
    · have s02 := s1.trans s2
      have hrd : rdP L t 6 0 = .ok (w, e) := hrd
      obtain ⟨_, g2, _⟩ := rdP_ok hA 6 _ _ _ hrd
      have eW : rdW L t = if e < t.length then .error (some e) else if 400 < w.length then .error none else .ok w := by
        unfold rdW
        rw [hrd]
      refine ⟨T, _, rfl, SqT.of hT, rfl, _, _, rfl, _, _, rfl, rfl, ?_⟩
      refine ⟨_, rfl, _, rfl, _, _, rfl, ⟨asc_big (by omega), rfl⟩, _, _, rfl, rfl, _, rfl, ite2 (fun e1 => ?_) (fun e1 => ?_)⟩
      · have h1 : e < t.length := by
          have z : (e : Int) < ((SX.S t).length : Int) := of_decide_eq_true e1
          rw [tx_len] at z
          omega
        rw [if_pos h1] at eW
        exact ⟨_, rfl, (qe e eW).of s02⟩
      · have h1 : ¬ e < t.length := fun z => e1 (decide_eq_true (by rw [tx_len]; omega))
        rw [if_neg h1] at eW
        refine ⟨_, rfl, _, _, rfl, ⟨asc_big (by omega), rfl⟩, _, _, rfl, rfl, _, rfl, ite2 (fun e2 => ?_) (fun e2 => ?_)⟩
        · have h2 : 400 < w.length := by
            have z : ((SX.S w).length : Int) > 400 := of_decide_eq_true e2
            rw [tx_len] at z
            omega
          rw [if_pos h2] at eW
          exact (ql eW).of s02
        · have h2 : ¬ 400 < w.length := fun z => e2 (decide_eq_true (by rw [tx_len]; omega))
          rw [if_neg h2] at eW
          exact ⟨_, rfl, q w eW H2 s02⟩
    · have hi : rdP L t 6 0 = .error i := hi
      unfold rdW
      rw [hi]
end
end K7
set_option maxRecDepth 100000
set_option maxHeartbeats 2000000
namespace K7
open PySem PySem.Spec PyProof.Rows L2
theorem scIsDigit : FnScope ["_law_text_z", "_law_at"] ["_law_text_z", "_law_at"] (defScope sIsDigit) := ⟨rfl, rfl, rfl, by decide +kernel, rfl, by decide +kernel, by decide +kernel⟩
theorem scLPower : FnScope ["_law_text_z", "_law_at", "_law_way", "_law_first"] ["_law_text_z", "_law_at"] (defScope sLPower) := ⟨rfl, rfl, rfl, by decide +kernel, rfl, by decide +kernel, by decide +kernel⟩
theorem scLAtom : FnScope ["_law_text_z", "_law_signs_here", "_law_at", "_law_deep", "_law_sign", "_law_left", "_law_right", "_law_size", "_law_piece"] ["_law_text_z", "_law_signs_here", "_law_at", "_law_deep"] (defScope sLAtom) := ⟨rfl, rfl, rfl, by decide +kernel, rfl, by decide +kernel, by decide +kernel⟩
theorem scLPhrase : FnScope ["_law_text_z", "_law_signs_here", "_law_at", "_law_stop", "_law_deep", "_law_total", "_law_made", "_law_many", "_law_atom_here", "_law_times", "_law_spot", "_law_power_here", "_law_back_here"] ["_law_text_z", "_law_signs_here", "_law_at", "_law_stop", "_law_deep"] (defScope sLPhrase) := ⟨rfl, rfl, rfl, by decide +kernel, rfl, by decide +kernel, by decide +kernel⟩
theorem scDue : FnScope ["_law_text_z", "_law_letters_z", "_law_found"] ["_law_text_z", "_law_letters_z"] (defScope sDue) := ⟨rfl, rfl, rfl, by decide +kernel, rfl, by decide +kernel, by decide +kernel⟩
theorem digits_is : Str.ofString "0123456789" = SX.S [48, 49, 50, 51, 52, 53, 54, 55, 56, 57] := by decide
section
variable {P : Program} {w : World} {K : PySem.W.Frag} {mg : Str → Option Value} {base : Heap}
theorem join_big {X : Cx} {H : Hp} {D : Addr} {l : List Nat} {Q : VK} (hl : l.length ≤ 100000) (hD : H D = some (.lst (l.map fun c => tx [c]))) (q : Q (tx l) H) :
    ∃ a p, ∃ ys : List Str, V.str (Str.ofString "") = .str a ∧ [V.ref D] = [.ref p] ∧ (SqL K H p (ys.map V.str) ∨ SqT K H p (ys.map V.str)) ∧ (ys.map (·.length)).sum + ys.length * a.length ≤ 16777216 ∧ Q (.str (Txt.join a ys)) H := by
  refine ⟨_, D, (l.map fun c => [c]).map SX.S, rfl, rfl, .inl (SqL.of ?_), ?_, ?_⟩
  · rw [hD, List.map_map, List.map_map]
    rfl
  · rw [single_sum, len0]
    omega
  · rw [joinS, single_flat]
    exact q
/-! _law_gone_back -/
def spGone : Sp := fun vs H Q _ => ∃ l : List Nat, vs = [tx l] ∧ l.length ≤ 100000 ∧ Asc l ∧ ∀ H', Same H H' → Q (tx (opp l)) H'
theorem ok_gone {f fB : Addr} {fd fdB : FuncData} {k : Nat} (F : Fun K "_law_gone_back" "_law_gone_back" sGone f fd) (FB : Fun K "_law_back" "_law_back" sBack fB fdB) (bB : Binds K fdB ["_law_sign"] []) (gB : mg "_law_back" = some (.ref fB)) :
    FnOk P w K mg base CX0 (k + 2) f fd ["_law_one"] spGone := by
  have GB : FnOk P w K mg base CX0 (k + 1) fB fdB ["_law_sign"] spBack := ok_back FB
  refine F.ok scGone (fun vs H Q E h => ?_) (fun cdv A outer s H vs Q E hr h => ?_)
  · obtain ⟨l, rfl, _⟩ := h
    rfl
  · obtain ⟨l, rfl, hl, hA, q⟩ := h
    refine ⟨_, pss_one (ps_ret (pe_join pe_str (pe_lc (own := [("_law_sign", 1)]) (g := gName 1) (tt := tYes) rfl scGone.nd (pi_str (Rs.e_revS (pv 0)))
      (blkOk_by (N := ["_law_one", "_law_sign"]) (sc := defScope sGone) (by decide +kernel)) (fun _ _ _ _ _ => pg_name (i := 1) scGone.nd rfl (Or.inl rfl)) (fun _ _ _ _ _ => pts_nil)
      (fun _ _ _ _ _ => pe_call GB hr (by rfl) gB FB.kp bB .nil pass0 (pa_cons (pv 1) pa_nil))))), ?_⟩
    refine ⟨⟨_, rfl⟩, _, rfl, _, rfl, asc_big (by omega), _, rfl, fun D nD => ?_⟩
    rw [rvS]
    refine lc_pure (walk_txt l.reverse) (σ := [some (tx l), none]) (i := 1) (fun v => match v with | .str z => tx (z.cps.toList.map sw) | v => v) (fun _ => true) (by rw [List.length_map, List.length_reverse]; exact big_lt (by omega)) nD (fun _ _ => trivial) (fun x H2 Q _ _ h => h) ?_ ?_
    · intro x H2 Q hx _ _ h
      obtain ⟨c, hc, rfl⟩ := List.mem_map.mp hx
      exact ⟨_, rfl, c, rfl, hA c (List.mem_reverse.mp hc), h H2 (Same.refl _)⟩
    · intro H2 s2 hD
      refine join_big (X := (cxOf CX0 P w K mg base ["_law_one", "_law_sign"] "_law_gone_back" (defScope sGone) f cdv A outer s H E).nox) (l := opp l) (by unfold opp; rw [List.length_map, List.length_reverse]; exact hl) ?_ (q H2 s2)
      rw [hD]
      congr 2
      rw [List.filter_eq_self.mpr (by simp), List.map_map]
      unfold opp
      rw [List.map_map]
      rfl
/-! _law_is_digit -/
def spLd : Sp := fun vs H Q _ => ∃ (t : List Nat) (a : Nat), vs = [tx t, .int (a : Int)] ∧ t.length ≤ 9000 ∧ Q (.bl (dgt t a)) H
theorem sl_mk {t : List Nat} {a : Nat} : cutS (SX.S t) (some (a : Int)) (some ((a : Int) + 1)) = SX.S (mk t a) := by
  have z := cut_two t a (a + 1)
  rw [show a + 1 - a = 1 by omega] at z
  exact z
theorem ok_ld {f : Addr} {fd : FuncData} {k : Nat} (F : Fun K "_law_is_digit" "_law_is_digit" sIsDigit f fd) : FnOk P w K mg base CX0 (k + 1) f fd ["_law_text_z", "_law_at"] spLd := by
  refine F.ok scIsDigit (fun vs H Q E h => ?_) (fun cdv A outer s H vs Q E hr h => ?_)
  · obtain ⟨t, a, rfl, _⟩ := h
    rfl
  · obtain ⟨t, a, rfl, hl, q⟩ := h
    refine ⟨_, pss_one (ps_ret (pe_and (pe_cmpR op_ne (pe_slice sl_str (pv 0) (po_some (pv 1)) (po_some (pe_op op_add (pv 1) pe_int))) pe_str (nomark _)) (pe_one (pe_cmpR op_in_sign (pe_slice sl_str (pv 0) (po_some (pv 1)) (po_some (pe_op op_add (pv 1) pe_int))) pe_str (by rfl))))), ?_⟩
    refine ⟨_, rfl, _, rfl, _, rfl, _, rfl, _, _, rfl, rfl, _, rfl, _, rfl, asc_big (by omega), ?_⟩
    rw [sl_mk]
    refine ⟨rfl, _, rfl, ?_⟩
    have e0 : decide (tx (mk t a) = V.str (Str.ofString "")) = decide (mk t a = []) := by rw [e0S]; exact tx_eq
    rw [e0]
    unfold dgt at q
    rcases mk_cases t a with e | ⟨c, e⟩
    · rw [e] at q ⊢
      exact iteF q
    · rw [e] at q ⊢
      refine iteT ⟨_, rfl, _, rfl, _, rfl, _, rfl, _, _, rfl, rfl, _, rfl, _, rfl, asc_big (by omega), ?_⟩
      rw [sl_mk, e]
      refine ⟨c, _, rfl, rfl, ?_⟩
      rw [digits_is]
      have e8 : decide (c ∈ (SX.S [48, 49, 50, 51, 52, 53, 54, 55, 56, 57]).cps.toList) = decide (c ∈ [48, 49, 50, 51, 52, 53, 54, 55, 56, 57]) := by rfl
      have e9 : decide (c ∈ [48, 49, 50, 51, 52, 53, 54, 55, 56, 57]) = decide (48 ≤ c ∧ c ≤ 57) := by
        congr 1
        simp only [List.mem_cons, List.not_mem_nil, or_false, eq_iff_iff]
        omega
      rw [e8, e9]
      exact q
end
end K7
set_option maxRecDepth 100000
set_option maxHeartbeats 2000000
namespace K7
open PySem PySem.Spec PyProof.Rows L2
def pwV : Except Nat (Int × Nat) → List V
  | .error i => [.str (Str.ofString "no"), .int (i : Int)]
  | .ok (v, e) => [.str (Str.ofString "ok"), .int v, .int (e : Int)]
theorem rdE_is {t : List Nat} {a b : Nat} {mi : Bool} (hmi : decide (mk t a = [45]) = mi) (hb : (if mi = true then a + 1 else a : Nat) = b) :
    rdE t a = if dgt t b = false ∨ (mi = true ∧ mk t b = [48]) then .error b else
      if dgt t (if mk t b ≠ [48] ∧ dgt t (b + 1) = true then b + 2 else b + 1) = true then .error (if mk t b ≠ [48] ∧ dgt t (b + 1) = true then b + 2 else b + 1)
      else .ok (if mi then -((num ((t.drop b).take ((if mk t b ≠ [48] ∧ dgt t (b + 1) = true then b + 2 else b + 1) - b)) : Nat) : Int) else ((num ((t.drop b).take ((if mk t b ≠ [48] ∧ dgt t (b + 1) = true then b + 2 else b + 1) - b)) : Nat) : Int), (if mk t b ≠ [48] ∧ dgt t (b + 1) = true then b + 2 else b + 1)) := by
  unfold rdE
  simp only [hmi, hb]
theorem at_mk {t : List Nat} {b c : Nat} (h : mk t b = [c]) : atI (SX.S t).cps.toList (b : Int) = some c := by
  refine atS ?_
  have z : (mk t b)[0]? = some c := by rw [h]; rfl
  unfold mk at z
  rw [List.getElem?_take_of_lt (by decide), List.getElem?_drop] at z
  exact z
section
variable {P : Program} {w : World} {K : PySem.W.Frag} {mg : Str → Option Value} {base : Heap}
/-! _law_power -/
def spLp : Sp := fun vs H Q _ => ∃ (t : List Nat) (a : Nat), vs = [tx t, .int (a : Int)] ∧ t.length ≤ 9000 ∧ Asc t ∧ ∀ T, H T = none → Q (.ref T) (upd H T (.tup (pwV (rdE t (a + spn t a)))))
theorem ok_lp {f fD : Addr} {fd fdD : FuncData} {k : Nat} (F : Fun K "_law_power" "_law_power" sLPower f fd) (B : Bn mg) (GD : FnOk P w K mg base CX0 (k + 1) fD fdD ["_law_text_z", "_law_at"] spLd) (kD : PySem.W.keepIn K (.ref fD) = true) (bD : Binds K fdD ["_law_text_z", "_law_at"] []) (gD : mg "_law_is_digit" = some (.ref fD)) :
    FnOk P w K mg base CX0 (k + 2) f fd ["_law_text_z", "_law_at"] spLp := by
  refine F.ok scLPower (fun vs H Q E h => ?_) (fun cdv A outer s H vs Q E hr h => ?_)
  · obtain ⟨t, a, rfl, _⟩ := h
    rfl
  · obtain ⟨t, a, rfl, hl, hA, q⟩ := h
    have two : ∀ x : List V, x.length ≤ 3 → x.length ≤ sizeLine := fun x hx => Nat.le_trans hx (by decide)
    obtain ⟨t3, P3, R3⟩ : ∃ t3, PSs (cxOf CX0 P w K mg base ["_law_text_z", "_law_at", "_law_way", "_law_first"] "_law_power" (defScope sLPower) f cdv A outer s H E).nox ((defBody sLPower).drop 4) t3 ∧
        ∀ (mi : Bool) (b : Nat) (D : Ends), D.rt = Q → decide (mk t (a + spn t a) = [45]) = mi → (if mi = true then a + spn t a + 1 else a + spn t a : Nat) = b → dgt t b = true → ¬ (mi = true ∧ mk t b = [48]) →
          t3 D [some (tx t), some (.int (b : Int)), some (.int (if mi then -1 else 1)), none] H := by
      obtain ⟨t4, P4, R4⟩ : ∃ t4, PSs (cxOf CX0 P w K mg base ["_law_text_z", "_law_at", "_law_way", "_law_first"] "_law_power" (defScope sLPower) f cdv A outer s H E).nox ((defBody sLPower).drop 7) t4 ∧
          ∀ (mi : Bool) (b e : Nat) (D : Ends), D.rt = Q → decide (mk t (a + spn t a) = [45]) = mi → (if mi = true then a + spn t a + 1 else a + spn t a : Nat) = b → dgt t b = true → ¬ (mi = true ∧ mk t b = [48]) → e = (if mk t b ≠ [48] ∧ dgt t (b + 1) = true then b + 2 else b + 1) →
            t4 D [some (tx t), some (.int (e : Int)), some (.int (if mi then -1 else 1)), some (.int (b : Int))] H := by
        refine ⟨_, pss_cons (ps_if (pt_val (pe_call GD hr (by rfl) gD kD bD .nil pass0 (pa_cons (pv 0) (pa_cons (pv 1) pa_nil)))) (pss_one (ps_ret (pe_tup (pa_cons pe_str (pa_cons (pv 1) pa_nil))))) pss_nil)
          (pss_one (ps_ret (pe_tup (pa_cons pe_str (pa_cons (pe_op op_mul (pv 2) (pe_callTy call_int_str (by rfl) B.int boot_int (pa_cons (pe_slice sl_str (pv 0) (po_some (pv 3)) (po_some (pv 1))) pa_nil))) (pa_cons (pv 1) pa_nil)))))), ?_⟩
        intro mi b e D hD hmi hb hdg hnm he
        have erd := rdE_is hmi hb
        have hnb : ¬ (dgt t b = false ∨ (mi = true ∧ mk t b = [48])) := fun z => z.elim (fun z => by rw [hdg] at z; cases z) hnm
        rw [if_neg hnb, ← he] at erd
        refine ⟨_, rfl, _, rfl, t, e, rfl, hl, _, rfl, ?_⟩
        cases hde : dgt t e with
        | true =>
          rw [hde, if_pos rfl] at erd
          refine iteT ⟨_, rfl, two _ (by show 2 ≤ 3; decide), fun T nT => ?_⟩
          rw [hD]
          have z := q T nT
          rw [erd] at z
          exact z
        | false =>
          rw [hde, if_neg Bool.false_ne_true] at erd
          obtain ⟨n1, n2, n3⟩ := num_read hdg he
          refine iteF ⟨_, rfl, _, rfl, _, rfl, _, rfl, _, rfl, _, rfl, _, rfl, asc_big (by omega), ?_⟩
          rw [cut_two]
          refine ⟨_, _, rfl, n1, by rw [tx_len]; omega, _, _, rfl, rfl, ?_, _, rfl, two _ (by show 3 ≤ 3; decide), fun T nT => ?_⟩
          · left
            cases mi <;> decide
          · rw [hD]
            have z := q T nT
            rw [erd] at z
            have ew : (if mi then (-1 : Int) else 1) * ((num ((t.drop b).take (e - b)) : Nat) : Int) = (if mi then -((num ((t.drop b).take (e - b)) : Nat) : Int) else ((num ((t.drop b).take (e - b)) : Nat) : Int)) := by
              cases mi
              · exact Int.one_mul _
              · exact Int.neg_one_mul _
            show Q (.ref T) (upd H T (.tup [_, .int ((if mi then (-1 : Int) else 1) * ((num ((t.drop b).take (e - b)) : Nat) : Int)), _]))
            rw [ew]
            exact z
      refine ⟨_, pss_cons (ps_set (i := 3) scLPower.nd rfl (.inl rfl) (pv 1))
        (pss_cons (ps_set (i := 1) scLPower.nd rfl (.inl rfl) (pe_op op_add (pv 1) pe_int))
        (pss_cons (ps_if (PW.pt (pw_and (pt_cmpR op_ne (pe_ix ix_str (pv 0) (pv 3) (fun _ _ => rfl)) pe_str (nomark _)) (pw_and1 (pt_val (pe_call GD hr (by rfl) gD kD bD .nil pass0 (pa_cons (pv 0) (pa_cons (pv 1) pa_nil))))))) (pss_one (ps_set (i := 1) scLPower.nd rfl (.inl rfl) (pe_op op_add (pv 1) pe_int))) pss_nil) P4)), ?_⟩
      intro mi b D hD hmi hb hdg hnm
      obtain ⟨c, _, _, _, _, hc⟩ := dgt_mk hdg
      refine ⟨_, rfl, _, rfl, _, _, rfl, rfl, _, rfl, _, rfl, _, _, c, rfl, rfl, asc_big (by omega), at_mk hc, rfl, _, rfl, ?_⟩
      rw [eqm zero48]
      have h48 : decide (c = 48) = decide (mk t b = [48]) := by rw [hc]; simp
      rw [h48]
      by_cases h0 : mk t b = [48]
      · rw [decide_eq_true h0]
        refine iteF (iteF (R4 mi b (b + 1) _ hD hmi hb hdg hnm ?_))
        rw [if_neg (fun z => z.1 h0)]
      · rw [decide_eq_false h0]
        refine iteT ⟨_, rfl, _, rfl, t, b + 1, rfl, hl, _, rfl, ?_⟩
        cases h1 : dgt t (b + 1) with
        | true =>
          refine iteT ⟨_, rfl, _, _, rfl, rfl, ?_⟩
          exact R4 mi b (b + 2) _ hD hmi hb hdg hnm (by rw [if_pos ⟨h0, h1⟩])
        | false => exact iteF (R4 mi b (b + 1) _ hD hmi hb hdg hnm (by rw [if_neg (fun z => by rw [h1] at z; cases z.2)]))
    obtain ⟨t2, P2, R2⟩ : ∃ t2, PSs (cxOf CX0 P w K mg base ["_law_text_z", "_law_at", "_law_way", "_law_first"] "_law_power" (defScope sLPower) f cdv A outer s H E).nox ((defBody sLPower).drop 3) t2 ∧
        ∀ (mi : Bool) (b : Nat), decide (mk t (a + spn t a) = [45]) = mi → (if mi = true then a + spn t a + 1 else a + spn t a : Nat) = b →
          t2 { nx := fun _ H' => Q .non H', rt := Q } [some (tx t), some (.int (b : Int)), some (.int (if mi then -1 else 1)), none] H := by
      refine ⟨_, pss_cons (ps_if (PW.pt (pw_or (pt_not (pt_val (pe_call GD hr (by rfl) gD kD bD .nil pass0 (pa_cons (pv 0) (pa_cons (pv 1) pa_nil))))) (pw_or1 (PW.pt (pw_and (pt_cmpR op_lt (pv 2) pe_int (nomark _)) (pw_and1 (pt_cmpR op_eq (pe_ix ix_str (pv 0) (pv 1) (fun _ _ => rfl)) pe_str (nomark _)))))))) (pss_one (ps_ret (pe_tup (pa_cons pe_str (pa_cons (pv 1) pa_nil))))) pss_nil) P3, ?_⟩
      intro mi b hmi hb
      have erd := rdE_is hmi hb
      have bad : (dgt t b = false ∨ (mi = true ∧ mk t b = [48])) → ∀ T, H T = none → Q (.ref T) (upd H T (.tup [.str (Str.ofString "no"), .int (b : Int)])) := fun hx T nT => by
        have z := q T nT
        rw [erd, if_pos hx] at z
        exact z
      have hway : decide ((if mi then (-1 : Int) else 1) < 0) = mi := by cases mi <;> rfl
      refine ⟨_, rfl, _, rfl, t, b, rfl, hl, _, rfl, ?_⟩
      cases hdg : dgt t b with
      | false => exact iteT (iteT ⟨_, rfl, two _ (by show 2 ≤ 3; decide), bad (.inl hdg)⟩)
      | true =>
        obtain ⟨c, _, _, _, _, hc⟩ := dgt_mk hdg
        refine iteF ⟨_, rfl, _, _, rfl, rfl, _, rfl, ?_⟩
        show if decide ((if mi then (-1 : Int) else 1) < 0) = true then _ else _
        rw [hway]
        cases mi with
        | false => exact iteF (iteF (R3 false b _ rfl hmi hb hdg (fun z => by cases z.1)))
        | true =>
          refine iteT ⟨_, rfl, _, rfl, _, _, c, rfl, rfl, asc_big (by omega), at_mk hc, rfl, _, rfl, ?_⟩
          rw [eqm zero48]
          have h48 : decide (c = 48) = decide (mk t b = [48]) := by rw [hc]; simp
          rw [h48]
          by_cases h0 : mk t b = [48]
          · rw [decide_eq_true h0]
            exact iteT ⟨_, rfl, two _ (by show 2 ≤ 3; decide), bad (.inr ⟨rfl, h0⟩)⟩
          · rw [decide_eq_false h0]
            exact iteF (R3 true b _ rfl hmi hb hdg (fun z => h0 z.2))
    refine ⟨_, pss_cons (ps_while PassesOwn.never (pt_cmpR op_eq (pe_slice sl_str (pv 0) (po_some (pv 1)) (po_some (pe_op op_add (pv 1) pe_int))) pe_str (nomark _)) (pss_one (ps_set (i := 1) scLPower.nd rfl (.inl rfl) (pe_op op_add (pv 1) pe_int))))
      (pss_cons (ps_set (i := 2) scLPower.nd rfl (.inl rfl) (pe_ifExp (pt_cmpR op_eq (pe_slice sl_str (pv 0) (po_some (pv 1)) (po_some (pe_op op_add (pv 1) pe_int))) pe_str (nomark _)) (pe_un un_neg pe_int) pe_int))
      (pss_cons (ps_set (i := 1) scLPower.nd rfl (.inl rfl) (pe_op op_add (pv 1) (pe_callTy call_int1 (by rfl) B.int boot_int (pa_cons (pe_cmpR op_lt (pv 2) pe_int (nomark _)) pa_nil)))) P2)), ?_⟩
    refine while_by (fun σ H2 => ∃ b : Nat, σ = [some (tx t), some (.int (b : Int)), none, none] ∧ H2 = H ∧ b + spn t b = a + spn t a) (fun σ _ => match σ with | [_, some (.int b), _, _] => spn t b.toNat | _ => 0) ⟨a, rfl, rfl, rfl⟩ ?_ ?_
    · rintro σ H2 ⟨b, rfl, rfl, hb⟩
      refine ⟨_, rfl, _, rfl, _, rfl, _, rfl, _, _, rfl, rfl, _, rfl, _, rfl, asc_big (by omega), ?_⟩
      rw [sl_mk]
      refine ⟨rfl, _, rfl, ?_⟩
      rw [sp32, tx_eq]
      by_cases e1 : mk t b = [32]
      · rw [decide_eq_true e1]
        have e2 := spn_cons e1
        refine iteT ⟨_, rfl, _, _, rfl, rfl, ⟨b + 1, rfl, rfl, by omega⟩, ?_⟩
        show spn t ((b : Int) + 1).toNat < spn t ((b : Int)).toNat
        rw [show ((b : Int) + 1).toNat = b + 1 by omega, show ((b : Int)).toNat = b by omega]
        omega
      · rw [decide_eq_false e1]
        have e2 := spn_zero e1
        rw [e2, Nat.add_zero] at hb
        subst hb
        refine iteF ⟨_, rfl, _, rfl, _, rfl, _, rfl, _, _, rfl, rfl, _, rfl, _, rfl, asc_big (by omega), ?_⟩
        rw [sl_mk]
        refine ⟨rfl, _, rfl, ?_⟩
        rw [dash, tx_eq]
        cases hmi : decide (mk t (a + spn t a) = [45]) with
        | true =>
          refine iteT ⟨_, rfl, _, rfl, _, rfl, _, _, rfl, rfl, .inr ⟨_, rfl, _, _, rfl, rfl, ?_⟩⟩
          exact R2 true (a + spn t a + 1) hmi rfl
        | false =>
          refine iteF ⟨_, rfl, _, rfl, _, _, rfl, rfl, .inr ⟨_, rfl, _, _, rfl, rfl, ?_⟩⟩
          exact R2 false (a + spn t a) hmi rfl
    · rintro σ H Q Q' imp ⟨v1, h1, v2, h2, v3, h3, v4, h4, i, j, h5, h6, v7, h7, v8, h8, h9, h10, b, h11, hq⟩
      exact ⟨v1, h1, v2, h2, v3, h3, v4, h4, i, j, h5, h6, v7, h7, v8, h8, h9, h10, b, h11, imp _ _ hq⟩
end
end K7
set_option maxRecDepth 100000
set_option maxHeartbeats 2000000
namespace K7
open PySem PySem.Spec PyProof.Rows L2
/-! the law's own reader: the length, the word (none where it grew too long) and the index behind, or where it cannot be read -/
abbrev Lr := Except Nat (Nat × Option (List Nat) × Nat)
def moV : Option (List Nat) → V
  | none => .non
  | some W => tx W
def lrV : Lr → List V
  | .error i => [.str (Str.ofString "no"), .int (i : Int)]
  | .ok (n, mo, e) => [.str (Str.ofString "ok"), .int (n : Int), moV mo, .int (e : Int)]
def pc (n : Nat) : Option (List Nat) → Option (List Nat) → Option (List Nat)
  | some w1, some w2 => if n < 2000 then some (w1 ++ w2 ++ opp w1 ++ opp w2) else none
  | _, _ => none
def lwG (ph : Nat → Nat → Lr) (a : Nat) : Lr := match ph 41 (a + 1) with
  | .error i => .error i
  | .ok (n, mo, e) => .ok (n, mo, e + 1)
def lwQ (ph : Nat → Nat → Lr) (n1 : Nat) (m1 : Option (List Nat)) (e1 : Nat) : Lr := match ph 93 (e1 + 1) with
  | .error i => .error i
  | .ok (n2, m2, e2) => .ok (2 * n1 + 2 * n2, pc (2 * n1 + 2 * n2) m1 m2, e2 + 1)
def lwR (ph : Nat → Nat → Lr) (a : Nat) : Lr := match ph 44 (a + 1) with
  | .error i => .error i
  | .ok (n1, m1, e1) => lwQ ph n1 m1 e1
/-- an atom, its first character being c -/
def lwA (ph : Nat → Nat → Lr) (S t : List Nat) (d a c : Nat) : Lr :=
  if c ∈ S then .ok (1, some [c], a + 1)
  else if c = 49 then (if dgt t (a + 1) = true then .error (a + 1) else .ok (0, some [], a + 1))
  else if ¬ (c = 40 ∨ c = 91) ∨ d = 6 then .error a
  else if c = 40 then lwG ph a else lwR ph a
/-- the power of a word, not cut -/
def pwr (l : List Nat) (x : Int) : List Nat := if x < 0 then rep x.natAbs (opp l) else rep x.natAbs l
def mo2 (T : Nat) (x : Int) : Option (List Nat) → Option (List Nat) → Option (List Nat)
  | some M, some w1 => if 2000 < T then none else some (M ++ pwr w1 x)
  | _, _ => none
/-- the loop of a phrase: stop: the mark that ends it ([] where the text's end does) -/
def lwL (at' : Nat → Nat → Lr) (t stop : List Nat) : Nat → Nat → Nat → Option (List Nat) → Nat → Lr
  | 0, _, _, _, _ => .error t.length
  | n + 1, a, T, M, k => match mk t a with
    | [c] =>
      if c = 32 then lwL at' t stop n (a + 1) T M k
      else if 0 < k ∧ stop = [c] then .ok (T, M, a)
      else match at' a c with
        | .error i => .error i
        | .ok (n1, m1, e) =>
          if mk t (e + spn t e) = [94] then
            match rdE t (e + spn t e + 1 + spn t (e + spn t e + 1)) with
            | .error i => .error i
            | .ok (x, e2) => lwL at' t stop n e2 (T + n1 * x.natAbs) (if x = 0 then M else mo2 (T + n1 * x.natAbs) x M m1) (k + 1)
          else lwL at' t stop n e (T + n1) (mo2 (T + n1) 1 M m1) (k + 1)
    | _ => if stop = [] ∧ 0 < k then .ok (T, M, a) else .error t.length
/-- a phrase at depth 6 - m that ends with the mark stop -/
def lwP (S t : List Nat) : Nat → List Nat → Nat → Lr
  | 0, stop, a => lwL (lwA (fun _ _ => .error 0) S t 6) t stop (t.length + 2) a 0 (some []) 0
  | m + 1, stop, a => lwL (lwA (fun st => lwP S t m [st]) S t (6 - (m + 1))) t stop (t.length + 2) a 0 (some []) 0
/-- what reading a phrase tells -/
def lwW (L t : List Nat) : Except (Option Nat) (List Nat) := match lwP (sg L) t 6 [] 0 with
  | .error i => .error (some i)
  | .ok (n, mo, _) => if 400 < n then .error none else .ok (mo.getD [])
def tst (x : String) : Bool := match lwW [97, 98] (x.toList.map Char.toNat), rdW [97, 98] (x.toList.map Char.toNat) with
  | .ok a, .ok b => a == b
  | .error a, .error b => a == b
  | _, _ => false
end K7
set_option maxRecDepth 100000
set_option maxHeartbeats 2000000
namespace K7
open PySem PySem.Spec PyProof.Rows L2
/-! both readers tell the same -/
theorem mk_lt {t : List Nat} {a c : Nat} (h : mk t a = [c]) : a < t.length := by
  by_cases hlt : a < t.length
  · exact hlt
  · unfold mk at h
    rw [List.drop_eq_nil_of_le (by omega)] at h
    cases h
theorem mk_end {t : List Nat} {a : Nat} (h : mk t a = []) : t.length ≤ a := by
  unfold mk at h
  by_cases hlt : a < t.length
  · rw [List.drop_eq_getElem_cons hlt] at h
    cases h
  · omega
theorem spn_le {t : List Nat} {a : Nat} (h : a ≤ t.length) : a + spn t a ≤ t.length := by
  unfold spn
  have := (List.takeWhile_prefix (l := t.drop a) (· == 32)).length_le
  rw [List.length_drop] at this
  omega
theorem spn_after {t : List Nat} {a : Nat} : spn t (a + spn t a) = 0 := by
  have h : ∀ (k a : Nat), spn t a = k → spn t (a + spn t a) = 0 := by
    intro k
    induction k with
    | zero => intro a h; rw [h, Nat.add_zero, h]
    | succ k ih =>
      intro a h
      by_cases e : mk t a = [32]
      · have e2 := spn_cons e
        have e3 := ih (a + 1) (by omega)
        rw [e2, show a + (1 + spn t (a + 1)) = a + 1 + spn t (a + 1) by omega]
        exact e3
      · rw [spn_zero e] at h
        cases h
  exact h _ a rfl
theorem rdE_le {t : List Nat} {a e : Nat} {v : Int} (h : rdE t a = .ok (v, e)) : e ≤ t.length := by
  rw [rdE_is rfl rfl] at h
  generalize (if decide (mk t a = [45]) = true then a + 1 else a : Nat) = b at h
  by_cases h1 : dgt t b = false ∨ decide (mk t a = [45]) = true ∧ mk t b = [48]
  · rw [if_pos h1] at h
    cases h
  · rw [if_neg h1] at h
    have hdg : dgt t b = true := by
      cases hx : dgt t b with
      | true => rfl
      | false => exact absurd (.inl hx) h1
    obtain ⟨c, _, _, _, _, hc⟩ := dgt_mk hdg
    have hb := mk_lt hc
    generalize he : (if mk t b ≠ [48] ∧ dgt t (b + 1) = true then b + 2 else b + 1) = e0 at h
    have he0 : e0 ≤ t.length := by
      rw [← he]
      split
      · rename_i hz
        obtain ⟨c2, _, _, _, _, hc2⟩ := dgt_mk hz.2
        have := mk_lt hc2
        omega
      · omega
    by_cases h2 : dgt t e0 = true
    · rw [if_pos h2] at h
      cases h
    · rw [if_neg h2] at h
      injection h with h
      injection h with h3 h4
      omega
/-- the lengths and, where the word is short, the words are the same -/
def Rel (w : List Nat) (n : Nat) (mo : Option (List Nat)) : Prop := (n ≤ 400 → mo = some w ∧ w.length = n) ∧ (400 < n → w.length = 401)
def Rl : Rr → Lr → Prop
  | .error i, .error j => i = j
  | .ok (w, e), .ok (n, mo, e') => e = e' ∧ Rel w n mo
  | _, _ => False
theorem ct_id {l : List Nat} (h : l.length ≤ 401) : ct l = l := List.take_of_length_le h
theorem ct_full {l : List Nat} (h : 401 ≤ l.length) : (ct l).length = 401 := by
  unfold ct
  rw [List.length_take]
  omega
theorem Rel.le {w : List Nat} {n : Nat} {mo : Option (List Nat)} (h : Rel w n mo) : w.length = min n 401 := by
  by_cases hn : n ≤ 400
  · have := (h.1 hn).2
    omega
  · have := h.2 (by omega)
    omega
theorem rel_pair {w1 w2 : List Nat} {n1 n2 : Nat} {m1 m2 : Option (List Nat)} (h1 : Rel w1 n1 m1) (h2 : Rel w2 n2 m2) : Rel (ct (w1 ++ w2 ++ opp w1 ++ opp w2)) (2 * n1 + 2 * n2) (pc (2 * n1 + 2 * n2) m1 m2) := by
  have l1 := h1.le
  have l2 := h2.le
  have hlen : (w1 ++ w2 ++ opp w1 ++ opp w2).length = 2 * w1.length + 2 * w2.length := by
    rw [List.length_append, List.length_append, List.length_append, opp_len, opp_len]
    omega
  refine ⟨fun hn => ?_, fun hn => ct_full (by omega)⟩
  obtain ⟨e1, f1⟩ := h1.1 (by omega)
  obtain ⟨e2, f2⟩ := h2.1 (by omega)
  rw [ct_id (by omega), hlen]
  refine ⟨?_, by omega⟩
  rw [e1, e2]
  exact if_pos (by omega)
theorem pw_lt {l : List Nat} {x : Int} : (pw l x).length = min (x.natAbs * l.length) 401 := by
  unfold pw ct
  split
  · rw [List.length_take, rep_len, opp_len]
    omega
  · rw [List.length_take, rep_len]
    omega
theorem pw_small {l : List Nat} {x : Int} (h : x.natAbs * l.length ≤ 401) : pw l x = pwr l x := by
  unfold pw pwr
  split
  · exact ct_id (by rw [rep_len, opp_len]; exact h)
  · exact ct_id (by rw [rep_len]; exact h)
theorem rel_step {w w1 : List Nat} {T n1 : Nat} {M m1 : Option (List Nat)} {x : Int} (h : Rel w T M) (h1 : Rel w1 n1 m1) : Rel (ct (w ++ pw w1 x)) (T + n1 * x.natAbs) (if x = 0 then M else mo2 (T + n1 * x.natAbs) x M m1) := by
  have l0 := h.le
  have l1 := h1.le
  have lp := pw_lt (l := w1) (x := x)
  have hla : (w ++ pw w1 x).length = w.length + (pw w1 x).length := List.length_append
  by_cases hx : x = 0
  · subst hx
    have e0 : pw w1 0 = [] := List.eq_nil_of_length_eq_zero (by rw [lp]; simp)
    rw [e0, List.append_nil, if_pos rfl]
    have hw : w.length ≤ 401 := by omega
    rw [ct_id hw]
    simpa using h
  · rw [if_neg hx]
    have hx1 : 1 ≤ x.natAbs := by omega
    have hmul : n1 ≤ n1 * x.natAbs := Nat.le_mul_of_pos_right _ hx1
    refine ⟨fun hn => ?_, fun hn => ct_full ?_⟩
    · obtain ⟨e1, f1⟩ := h.1 (by omega)
      obtain ⟨e2, f2⟩ := h1.1 (by omega)
      have hs : x.natAbs * w1.length ≤ 401 := by
        rw [f2, Nat.mul_comm]
        omega
      rw [pw_small hs] at lp hla ⊢
      have hlr : (pwr w1 x).length = n1 * x.natAbs := by
        rw [lp, f2, Nat.mul_comm n1]
        rw [f2] at hs
        omega
      rw [ct_id (by omega), hla]
      refine ⟨?_, by omega⟩
      rw [e1, e2]
      exact if_neg (by omega)
    · rw [hla, lp]
      by_cases hT : T ≤ 400
      · have hwT : w.length = T := by omega
        by_cases hn1 : n1 ≤ 400
        · have hw1 : w1.length = n1 := by omega
          rw [hw1, Nat.mul_comm x.natAbs n1]
          omega
        · have hw1 : w1.length = 401 := by omega
          have : 401 ≤ x.natAbs * w1.length := by
            rw [hw1]
            exact Nat.le_mul_of_pos_left _ hx1
          omega
      · omega
end K7
set_option maxRecDepth 100000
set_option maxHeartbeats 2000000
namespace K7
open PySem PySem.Spec PyProof.Rows L2
def fin (t stop : List Nat) : Rr → Rr
  | .error i => .error i
  | .ok (w, e) => if mk t e = stop then .ok (w, e) else .error e
theorem sg_let {L : List Nat} (hL : ∀ c ∈ L, c ∈ menu) {x : Nat} (h : x ∈ sg L) : 65 ≤ x ∧ x ≤ 122 ∧ x ≠ 91 ∧ x ≠ 93 := by
  obtain ⟨c, hc, hx⟩ := List.mem_flatMap.mp h
  have hm := menu_low c (hL c hc)
  have hx : x = c ∨ x = c - 32 := by simpa using hx
  omega
theorem Rl.er {r : Lr} {i : Nat} (h : Rl (.error i) r) : r = .error i := by
  cases r with
  | error j => exact congrArg _ (Eq.symm h)
  | ok q => exact h.elim
theorem Rl.good {r : Lr} {w : List Nat} {e : Nat} (h : Rl (.ok (w, e)) r) : ∃ n mo, r = .ok (n, mo, e) ∧ Rel w n mo := by
  cases r with
  | error j => exact h.elim
  | ok q =>
    obtain ⟨n, mo, e'⟩ := q
    obtain ⟨h1, h2⟩ := h
    subst h1
    exact ⟨n, mo, rfl, h2⟩
theorem beg_is {L t : List Nat} {a d c : Nat} (hc : mk t a = [c]) : beg L t a d = (decide (c ∈ sg L) || (decide (c = 49) || (decide (c = 40 ∨ c = 91) && decide (d < 6)))) := by
  unfold beg
  rw [hc]
theorem beg_f {L t : List Nat} {a d c : Nat} (hd : d ≤ 6) (hc : mk t a = [c]) (h : beg L t a d = false) : c ∉ sg L ∧ c ≠ 49 ∧ (¬ (c = 40 ∨ c = 91) ∨ d = 6) := by
  rw [beg_is hc] at h
  simp only [Bool.or_eq_false_iff, decide_eq_false_iff_not, Bool.and_eq_false_iff] at h
  obtain ⟨h1, h2, h3⟩ := h
  exact ⟨h1, h2, h3.imp id (fun z => by omega)⟩
section
variable {L t : List Nat} {phl : Nat → Nat → Lr} {ph : Nat → Rr} {d : Nat}
/-- atoms -/
theorem atom_same (hL : ∀ c ∈ L, c ∈ menu) (hd : d ≤ 6) (PR : d < 6 → ∀ st, st = 41 ∨ st = 44 ∨ st = 93 → ∀ a, a ≤ t.length → Rl (fin t [st] (ph a)) (phl st a)) {a c : Nat} (hc : mk t a = [c]) :
    Rl (rdA ph L t d a) (lwA phl (sg L) t d a c) := by
  have hlt := mk_lt hc
  cases hb : beg L t a d with
  | false =>
    obtain ⟨h1, h2, h3⟩ := beg_f hd hc hb
    rw [rdA_b hb]
    unfold lwA
    rw [if_neg h1, if_neg h2, if_pos h3]
    exact rfl
  | true =>
    rw [rdA_t hb hc]
    rw [beg_is hc] at hb
    unfold lwA
    by_cases hs : c ∈ sg L
    · have := sg_no hL hs
      rw [if_pos hs, if_neg this.1, if_neg this.2.1, if_neg this.2.2]
      exact ⟨rfl, fun _ => ⟨rfl, rfl⟩, fun z => by omega⟩
    · rw [if_neg hs]
      by_cases h49 : c = 49
      · subst h49
        rw [if_neg (by decide), if_neg (by decide), if_pos rfl, if_pos rfl]
        cases dgt t (a + 1) with
        | true => exact rfl
        | false => exact ⟨rfl, fun _ => ⟨rfl, rfl⟩, fun z => by omega⟩
      · simp only [hs, h49, decide_false, Bool.false_or, Bool.and_eq_true, decide_eq_true_eq] at hb
        obtain ⟨h1, h2⟩ := hb
        rw [if_neg h49, if_neg h49, if_neg (show ¬ (¬ (c = 40 ∨ c = 91) ∨ d = 6) from fun z => z.elim (fun z => z h1) (fun z => by omega))]
        have PR := PR h2
        by_cases h40 : c = 40
        · rw [if_pos h40, if_pos h40]
          have z := PR 41 (.inl rfl) (a + 1) (by omega)
          cases hp : ph (a + 1) with
          | error i =>
            rw [hp] at z
            rw [grp_er hp]
            unfold lwG
            rw [z.er]
            exact rfl
          | ok q =>
            obtain ⟨w, e⟩ := q
            rw [hp] at z
            by_cases hm : mk t e = [41]
            · have z : Rl (.ok (w, e)) (phl 41 (a + 1)) := by
                have y : fin t [41] (.ok (w, e)) = .ok (w, e) := if_pos hm
                rw [y] at z
                exact z
              obtain ⟨n, mo, e1, hr⟩ := z.good
              rw [grp_y hp hm]
              unfold lwG
              rw [e1]
              exact ⟨rfl, hr⟩
            · have z : Rl (.error e) (phl 41 (a + 1)) := by
                have y : fin t [41] (.ok (w, e)) = .error e := if_neg hm
                rw [y] at z
                exact z
              rw [grp_n hp hm]
              unfold lwG
              rw [z.er]
              exact rfl
        · have h91 : c = 91 := h1.resolve_left h40
          rw [if_neg h40, if_neg h40, if_pos h91]
          have z := PR 44 (.inr (.inl rfl)) (a + 1) (by omega)
          cases hp : ph (a + 1) with
          | error i =>
            rw [hp] at z
            rw [pr_er hp]
            unfold lwR
            rw [z.er]
            exact rfl
          | ok q =>
            obtain ⟨w, e⟩ := q
            rw [hp] at z
            by_cases hm : mk t e = [44]
            · have z : Rl (.ok (w, e)) (phl 44 (a + 1)) := by
                have y : fin t [44] (.ok (w, e)) = .ok (w, e) := if_pos hm
                rw [y] at z
                exact z
              obtain ⟨n, mo, e1, hr⟩ := z.good
              rw [pr_y hp hm]
              unfold lwR
              rw [e1]
              show Rl (pr2 ph t w e) (lwQ phl n mo e)
              have hle := mk_lt hm
              have z2 := PR 93 (.inr (.inr rfl)) (e + 1) (by omega)
              cases hp2 : ph (e + 1) with
              | error i =>
                rw [hp2] at z2
                rw [pr2_er hp2]
                unfold lwQ
                rw [z2.er]
                exact rfl
              | ok q2 =>
                obtain ⟨w2, e2⟩ := q2
                rw [hp2] at z2
                by_cases hm2 : mk t e2 = [93]
                · have z2 : Rl (.ok (w2, e2)) (phl 93 (e + 1)) := by
                    have y : fin t [93] (.ok (w2, e2)) = .ok (w2, e2) := if_pos hm2
                    rw [y] at z2
                    exact z2
                  obtain ⟨n2, m2, f1, hr2⟩ := z2.good
                  rw [pr2_y hp2 hm2]
                  unfold lwQ
                  rw [f1]
                  exact ⟨rfl, rel_pair hr hr2⟩
                · have z2 : Rl (.error e2) (phl 93 (e + 1)) := by
                    have y : fin t [93] (.ok (w2, e2)) = .error e2 := if_neg hm2
                    rw [y] at z2
                    exact z2
                  rw [pr2_n hp2 hm2]
                  unfold lwQ
                  rw [z2.er]
                  exact rfl
            · have z : Rl (.error e) (phl 44 (a + 1)) := by
                have y : fin t [44] (.ok (w, e)) = .error e := if_neg hm
                rw [y] at z
                exact z
              rw [pr_n hp hm]
              unfold lwR
              rw [z.er]
              exact rfl
theorem rdA_le {a c : Nat} {w : List Nat} {e : Nat} (hc : mk t a = [c]) (h : rdA ph L t d a = .ok (w, e)) : e ≤ t.length := by
  have hlt := mk_lt hc
  cases hb : beg L t a d with
  | false => rw [rdA_b hb] at h; cases h
  | true =>
    rw [rdA_t hb hc] at h
    by_cases h40 : c = 40
    · rw [if_pos h40] at h
      cases hp : ph (a + 1) with
      | error i => rw [grp_er hp] at h; cases h
      | ok q =>
        obtain ⟨w1, e1⟩ := q
        by_cases hm : mk t e1 = [41]
        · rw [grp_y hp hm] at h
          injection h with h
          injection h with h1 h2
          have := mk_lt hm
          omega
        · rw [grp_n hp hm] at h
          cases h
    · rw [if_neg h40] at h
      by_cases h91 : c = 91
      · rw [if_pos h91] at h
        cases hp : ph (a + 1) with
        | error i => rw [pr_er hp] at h; cases h
        | ok q =>
          obtain ⟨w1, e1⟩ := q
          by_cases hm : mk t e1 = [44]
          · rw [pr_y hp hm] at h
            cases hp2 : ph (e1 + 1) with
            | error i => rw [pr2_er hp2] at h; cases h
            | ok q2 =>
              obtain ⟨w2, e2⟩ := q2
              by_cases hm2 : mk t e2 = [93]
              · rw [pr2_y hp2 hm2] at h
                injection h with h
                injection h with h1 h2
                have := mk_lt hm2
                omega
              · rw [pr2_n hp2 hm2] at h
                cases h
          · rw [pr_n hp hm] at h
            cases h
      · rw [if_neg h91] at h
        split at h
        · split at h
          · cases h
          · injection h with h
            injection h with h1 h2
            omega
        · injection h with h
          injection h with h1 h2
          omega
end
end K7
set_option maxRecDepth 100000
set_option maxHeartbeats 2000000
namespace K7
open PySem PySem.Spec PyProof.Rows L2
section
variable {L t stop : List Nat} {phl : Nat → Nat → Lr} {ph : Nat → Rr} {d : Nat} {at' : Nat → Nat → Lr}
theorem lwL_sp {n a T k : Nat} {M : Option (List Nat)} (h : mk t a = [32]) : lwL at' t stop (n + 1) a T M k = lwL at' t stop n (a + 1) T M k := by
  conv => lhs; unfold lwL
  rw [h]
  simp
theorem lwL_end {n a T k : Nat} {M : Option (List Nat)} (h : mk t a = []) : lwL at' t stop (n + 1) a T M k = if stop = [] ∧ 0 < k then .ok (T, M, a) else .error t.length := by
  conv => lhs; unfold lwL
  rw [h]
theorem lwL_stop {n a T k c : Nat} {M : Option (List Nat)} (h : mk t a = [c]) (hc : c ≠ 32) (hk : 0 < k ∧ stop = [c]) : lwL at' t stop (n + 1) a T M k = .ok (T, M, a) := by
  conv => lhs; unfold lwL
  rw [h]
  simp only [if_neg hc, if_pos hk]
theorem lwL_er {n a T k c i : Nat} {M : Option (List Nat)} (h : mk t a = [c]) (hc : c ≠ 32) (hk : ¬ (0 < k ∧ stop = [c])) (hx : at' a c = .error i) : lwL at' t stop (n + 1) a T M k = .error i := by
  conv => lhs; unfold lwL
  rw [h]
  simp only [if_neg hc, if_neg hk, hx]
theorem lwL_one {n a T k c n1 e : Nat} {M m1 : Option (List Nat)} (h : mk t a = [c]) (hc : c ≠ 32) (hk : ¬ (0 < k ∧ stop = [c])) (hx : at' a c = .ok (n1, m1, e)) (hm : mk t (e + spn t e) ≠ [94]) :
    lwL at' t stop (n + 1) a T M k = lwL at' t stop n e (T + n1) (mo2 (T + n1) 1 M m1) (k + 1) := by
  conv => lhs; unfold lwL
  rw [h]
  simp only [if_neg hc, if_neg hk, hx, if_neg hm]
theorem lwL_xer {n a T k c n1 e i : Nat} {M m1 : Option (List Nat)} (h : mk t a = [c]) (hc : c ≠ 32) (hk : ¬ (0 < k ∧ stop = [c])) (hx : at' a c = .ok (n1, m1, e)) (hm : mk t (e + spn t e) = [94])
    (hr : rdE t (e + spn t e + 1 + spn t (e + spn t e + 1)) = .error i) : lwL at' t stop (n + 1) a T M k = .error i := by
  conv => lhs; unfold lwL
  rw [h]
  simp only [if_neg hc, if_neg hk, hx, if_pos hm, hr]
theorem lwL_pow {n a T k c n1 e e2 : Nat} {M m1 : Option (List Nat)} {x : Int} (h : mk t a = [c]) (hc : c ≠ 32) (hk : ¬ (0 < k ∧ stop = [c])) (hx : at' a c = .ok (n1, m1, e)) (hm : mk t (e + spn t e) = [94])
    (hr : rdE t (e + spn t e + 1 + spn t (e + spn t e + 1)) = .ok (x, e2)) : lwL at' t stop (n + 1) a T M k = lwL at' t stop n e2 (T + n1 * x.natAbs) (if x = 0 then M else mo2 (T + n1 * x.natAbs) x M m1) (k + 1) := by
  conv => lhs; unfold lwL
  rw [h]
  simp only [if_neg hc, if_neg hk, hx, if_pos hm, hr]
theorem pw_one {l : List Nat} (h : l.length ≤ 401) : pw l 1 = l := by
  unfold pw
  rw [if_neg (by decide)]
  have e : rep (1 : Int).natAbs l = l := by simp [rep]
  rw [e]
  exact ct_id h
/-- one factor -/
theorem fac_same (hL : ∀ c ∈ L, c ∈ menu) (hd : d ≤ 6) (hA : Asc t) (hG : Gd ph) (PR : d < 6 → ∀ st, st = 41 ∨ st = 44 ∨ st = 93 → ∀ a, a ≤ t.length → Rl (fin t [st] (ph a)) (phl st a)) {n a T k c : Nat} {M : Option (List Nat)}
    (hc : mk t a = [c]) (h32 : c ≠ 32) (hk : ¬ (0 < k ∧ stop = [c])) :
    (∀ i, rdF ph L t d a = .error i → lwL (lwA phl (sg L) t d) t stop (n + 1) a T M k = .error i) ∧
    ∀ f e', rdF ph L t d a = .ok (f, e') → ∃ e T' M', lwL (lwA phl (sg L) t d) t stop (n + 1) a T M k = lwL (lwA phl (sg L) t d) t stop n e T' M' (k + 1) ∧ e' = e + spn t e ∧ a < e ∧ e ≤ t.length ∧ ∀ w, Rel w T M → Rel (ct (w ++ f)) T' M' := by
  have z := atom_same (phl := phl) (ph := ph) hL hd PR hc
  cases hp : rdA ph L t d a with
  | error i =>
    rw [hp] at z
    rw [rdF_er hp]
    refine ⟨fun j hj => ?_, fun f e' h => by cases h⟩
    injection hj with hj
    subst hj
    exact lwL_er hc h32 hk z.er
  | ok q =>
    obtain ⟨w1, e1⟩ := q
    rw [hp] at z
    obtain ⟨n1, m1, hx, hr⟩ := z.good
    obtain ⟨g1, g2, g3⟩ := rdA_ok hA hG _ _ _ hp
    have hle := rdA_le hc hp
    by_cases hm : mk t (e1 + spn t e1) = [94]
    · rw [rdF_y hp hm]
      cases hE : rdE t (e1 + spn t e1 + 1 + spn t (e1 + spn t e1 + 1)) with
      | error i =>
        rw [fx_er hE]
        refine ⟨fun j hj => ?_, fun f e' h => by cases h⟩
        injection hj with hj
        subst hj
        exact lwL_xer hc h32 hk hx hm hE
      | ok q =>
        obtain ⟨x, e2⟩ := q
        rw [fx_ok hE]
        refine ⟨fun j hj => (by cases hj), fun f e' h => ?_⟩
        injection h with h
        injection h with h1 h2
        subst h1
        obtain ⟨k1, _⟩ := rdE_ok hE
        exact ⟨e2, _, _, lwL_pow hc h32 hk hx hm hE, h2.symm, by omega, rdE_le hE, fun w hw => rel_step hw hr⟩
    · rw [rdF_n hp hm]
      refine ⟨fun j hj => (by cases hj), fun f e' h => ?_⟩
      injection h with h
      injection h with h1 h2
      subst h1
      refine ⟨e1, _, _, lwL_one hc h32 hk hx hm, h2.symm, g1, hle, fun w hw => ?_⟩
      have y := rel_step (x := 1) hw hr
      rw [pw_one g2, if_neg (by decide)] at y
      simpa using y
theorem fin_stop {w : List Nat} {e : Nat} (h : mk t e = stop) : fin t stop (.ok (w, e)) = .ok (w, e) := if_pos h
theorem fin_no {w : List Nat} {e : Nat} (h : mk t e ≠ stop) : fin t stop (.ok (w, e)) = .error e := if_neg h
/-- the loop -/
theorem loop_same (hL : ∀ c ∈ L, c ∈ menu) (hd : d ≤ 6) (hA : Asc t) (hG : Gd ph) (PR : d < 6 → ∀ st, st = 41 ∨ st = 44 ∨ st = 93 → ∀ a, a ≤ t.length → Rl (fin t [st] (ph a)) (phl st a)) (hS : ∀ c, stop = [c] → c = 41 ∨ c = 44 ∨ c = 93) :
    ∀ (j a n n' T k : Nat) (M : Option (List Nat)) (w : List Nat), t.length - a ≤ j → a ≤ t.length → t.length < n + a → t.length < n' + (a + spn t a) → 1 ≤ k → Rel w T M →
      Rl (fin t stop (rdL (rdF ph L t d) L t d n' (a + spn t a) w)) (lwL (lwA phl (sg L) t d) t stop n a T M k) := by
  intro j
  induction j with
  | zero =>
    intro a n n' T k M w hj ha hn hn' hk hr
    have hal : a = t.length := by omega
    have hm : mk t a = [] := by
      unfold mk
      rw [List.drop_eq_nil_of_le (by omega)]
      rfl
    have h0 : spn t a = 0 := spn_zero (by rw [hm]; exact fun z => by cases z)
    have hb : beg L t a d = false := by
      unfold beg
      rw [hm]
    obtain ⟨n, rfl⟩ : ∃ m, n = m + 1 := ⟨n - 1, by omega⟩
    rw [h0, Nat.add_zero, rdL_stop hb, lwL_end hm]
    by_cases hs : stop = []
    · rw [fin_stop (by rw [hm, hs]), if_pos ⟨hs, by omega⟩]
      exact ⟨rfl, hr⟩
    · rw [fin_no (by rw [hm]; exact fun z => hs z.symm), if_neg (fun z => hs z.1)]
      exact hal
  | succ j ih =>
    intro a n n' T k M w hj ha hn hn' hk hr
    by_cases hal : t.length ≤ a
    · exact ih a n n' T k M w (by omega) ha hn hn' hk hr
    obtain ⟨n, rfl⟩ : ∃ m, n = m + 1 := ⟨n - 1, by omega⟩
    rcases mk_cases t a with hm | ⟨c, hc⟩
    · exact absurd (mk_end hm) hal
    by_cases h32 : c = 32
    · subst h32
      rw [lwL_sp hc, spn_cons hc, show a + (1 + spn t (a + 1)) = a + 1 + spn t (a + 1) by omega]
      rw [spn_cons hc] at hn'
      exact ih (a + 1) n n' T k M w (by omega) (by omega) (by omega) (by omega) hk hr
    have h0 : spn t a = 0 := spn_zero (by rw [hc]; exact fun z => h32 (by simpa using z))
    rw [h0, Nat.add_zero] at hn' ⊢
    by_cases hs : stop = [c]
    · have hc3 := hS c hs
      have hb : beg L t a d = false := by
        rw [beg_is hc]
        have h1 : c ∉ sg L := fun z => by have := sg_let hL z; omega
        simp only [h1, decide_false, Bool.false_or]
        rw [decide_eq_false (by omega), decide_eq_false (by omega)]
        rfl
      rw [rdL_stop hb, fin_stop (by rw [hc, hs]), lwL_stop hc h32 ⟨by omega, hs⟩]
      exact ⟨rfl, hr⟩
    have hk' : ¬ (0 < k ∧ stop = [c]) := fun z => hs z.2
    cases hb : beg L t a d with
    | false =>
      rw [rdL_stop hb, fin_no (by rw [hc]; exact fun z => hs z.symm)]
      have z := atom_same (phl := phl) (ph := ph) hL hd PR hc
      rw [rdA_b hb] at z
      rw [lwL_er hc h32 hk' z.er]
      exact rfl
    | true =>
      obtain ⟨n', rfl⟩ : ∃ m, n' = m + 1 := ⟨n' - 1, by omega⟩
      obtain ⟨f1, f2⟩ := fac_same (stop := stop) (n := n) (T := T) (M := M) hL hd hA hG PR hc h32 hk'
      cases hF : rdF ph L t d a with
      | error i =>
        rw [rdL_er hb hF, f1 i hF]
        exact rfl
      | ok q =>
        obtain ⟨f, e'⟩ := q
        obtain ⟨e, T', M', e1, e2, e3, e4, e5⟩ := f2 f e' hF
        rw [rdL_ok2 hb hF, e1, e2]
        exact ih e n n' T' (k + 1) M' _ (by omega) e4 (by omega) (by omega) (by omega) (e5 w hr)
/-- a phrase -/
theorem phrase_same (hL : ∀ c ∈ L, c ∈ menu) (hd : d ≤ 6) (hA : Asc t) (hG : Gd ph) (PR : d < 6 → ∀ st, st = 41 ∨ st = 44 ∨ st = 93 → ∀ a, a ≤ t.length → Rl (fin t [st] (ph a)) (phl st a)) (hS : ∀ c, stop = [c] → c = 41 ∨ c = 44 ∨ c = 93) :
    ∀ (j a n : Nat), t.length - a ≤ j → a ≤ t.length → t.length < n + a → Rl (fin t stop (rdP0 (rdF ph L t d) L t d a)) (lwL (lwA phl (sg L) t d) t stop n a 0 (some []) 0) := by
  intro j
  induction j with
  | zero =>
    intro a n hj ha hn
    have hal : a = t.length := by omega
    have hm : mk t a = [] := by
      unfold mk
      rw [List.drop_eq_nil_of_le (by omega)]
      rfl
    have h0 : spn t a = 0 := spn_zero (by rw [hm]; exact fun z => by cases z)
    have hb : beg L t a d = false := by
      unfold beg
      rw [hm]
    obtain ⟨n, rfl⟩ : ∃ m, n = m + 1 := ⟨n - 1, by omega⟩
    have hF : rdF ph L t d (a + spn t a) = .error a := by
      rw [h0, Nat.add_zero]
      exact rdF_er (rdA_b hb)
    rw [rdP0_er hF, lwL_end hm, if_neg (fun z => by omega)]
    exact hal
  | succ j ih =>
    intro a n hj ha hn
    by_cases hal : t.length ≤ a
    · exact ih a n (by omega) ha hn
    obtain ⟨n, rfl⟩ : ∃ m, n = m + 1 := ⟨n - 1, by omega⟩
    rcases mk_cases t a with hm | ⟨c, hc⟩
    · exact absurd (mk_end hm) hal
    by_cases h32 : c = 32
    · subst h32
      have e : rdP0 (rdF ph L t d) L t d a = rdP0 (rdF ph L t d) L t d (a + 1) := by
        unfold rdP0
        rw [spn_cons hc, show a + (1 + spn t (a + 1)) = a + 1 + spn t (a + 1) by omega]
      rw [lwL_sp hc, e]
      exact ih (a + 1) n (by omega) (by omega) (by omega)
    have h0 : spn t a = 0 := spn_zero (by rw [hc]; exact fun z => h32 (by simpa using z))
    have hk' : ¬ (0 < 0 ∧ stop = [c]) := fun z => by omega
    obtain ⟨f1, f2⟩ := fac_same (stop := stop) (n := n) (T := 0) (M := some []) hL hd hA hG PR hc h32 hk'
    cases hF : rdF ph L t d a with
    | error i =>
      rw [rdP0_er (by rw [h0, Nat.add_zero]; exact hF), f1 i hF]
      exact rfl
    | ok q =>
      obtain ⟨f, e'⟩ := q
      obtain ⟨e, T', M', e1, e2, e3, e4, e5⟩ := f2 f e' hF
      obtain ⟨_, g2, _⟩ := rdF_ok hA hG _ _ _ hF
      rw [rdP0_y (by rw [h0, Nat.add_zero]; exact hF), e1, e2]
      have y := e5 [] ⟨fun _ => ⟨rfl, rfl⟩, fun z => by omega⟩
      rw [List.nil_append, ct_id g2] at y
      exact loop_same hL hd hA hG PR hS _ e n _ T' 1 M' f (Nat.le_refl _) e4 (by omega) (by omega) (Nat.le_refl _) y
end
/-- at every depth -/
theorem level_same {L t : List Nat} (hL : ∀ c ∈ L, c ∈ menu) (hA : Asc t) : ∀ (m : Nat) (stop : List Nat), (∀ c, stop = [c] → c = 41 ∨ c = 44 ∨ c = 93) → ∀ a, a ≤ t.length → Rl (fin t stop (rdP L t m a)) (lwP (sg L) t m stop a)
  | 0, stop, hS, a, ha => phrase_same (ph := fun _ => .error 0) (phl := fun _ _ => .error 0) hL (Nat.le_refl 6) hA gd_none (fun z => by omega) hS _ a _ (Nat.le_refl _) ha (by omega)
  | m + 1, stop, hS, a, ha => phrase_same (ph := rdP L t m) (phl := fun st => lwP (sg L) t m [st]) hL (by omega) hA (rdP_ok hA m) (fun _ st hst a ha => level_same hL hA m [st] (fun c hc => by
      have e : st = c := by simpa using hc
      rw [← e]
      exact hst) a ha) hS _ a _ (Nat.le_refl _) ha (by omega)
theorem word_same {L t : List Nat} (hL : ∀ c ∈ L, c ∈ menu) (hA : Asc t) : lwW L t = rdW L t := by
  have z := level_same hL hA 6 [] (fun c hc => by cases hc) 0 (Nat.zero_le _)
  unfold lwW rdW
  cases hp : rdP L t 6 0 with
  | error i =>
    rw [hp] at z
    rw [Rl.er z]
  | ok q =>
    obtain ⟨w, e⟩ := q
    rw [hp] at z
    by_cases hm : mk t e = []
    · rw [fin_stop hm] at z
      obtain ⟨n, mo, e1, hr⟩ := z.good
      rw [e1]
      have hle := mk_end hm
      have hl := hr.le
      show (if 400 < n then Except.error none else Except.ok (mo.getD [])) = (if e < t.length then Except.error (some e) else if 400 < w.length then Except.error none else Except.ok w)
      rw [if_neg (show ¬ e < t.length by omega)]
      by_cases hn : 400 < n
      · rw [if_pos hn, if_pos (by omega)]
      · rw [if_neg hn, if_neg (by omega), (hr.1 (by omega)).1]
        rfl
    · rw [fin_no hm] at z
      rw [Rl.er z]
      have hlt : e < t.length := by
        rcases mk_cases t e with h | ⟨c, h⟩
        · exact absurd h hm
        · exact mk_lt h
      show Except.error (some e) = (if e < t.length then Except.error (some e) else if 400 < w.length then Except.error none else Except.ok w)
      rw [if_pos hlt]
end K7
set_option maxRecDepth 100000
set_option maxHeartbeats 2000000
namespace K7
open PySem PySem.Spec PyProof.Rows L2
/-- text * int, of greater texts -/
theorem o_mulB {X : Cx} : OpR X (binaryOp .Mult) (fun x y H Q => ∃ (l : List Nat) (n : Nat), x = tx l ∧ y = .int (n : Int) ∧ l.length ≤ 100000 ∧ n ≤ 100 ∧ l.length * n ≤ 100000 ∧ Q (tx (rep n l)) H) := by
  intro pins s σ H x y v u Q I rx ry h
  obtain ⟨l, n, rfl, rfl, h1, h2, hm, q⟩ := h
  obtain ⟨t, rfl⟩ := rx
  obtain ⟨t', rfl⟩ := ry
  have hl : (SX.S l).length = l.length := tx_len l
  refine PySem.P.mul_str ?_ (fun hn _ => ?_) (fun hn _ => ?_) ?_
  · rw [decide_eq_false (by omega), decide_eq_false (by omega)]
    rfl
  · rw [hl]
    have : (100000 : Int) ≤ (2 ^ 63 - 1) / (n : Int) := by
      rw [Int.le_ediv_iff_mul_le (by omega)]
      omega
    omega
  · rw [hl]
    exact short24 (by rw [Int.toNat_natCast]; omega)
  · by_cases h0 : n = 0
    · subst h0
      rw [if_pos (by decide)]
      refine ⟨by decide, ⟨tx (rep 0 l), H, I.tok _, ⟨_, rfl⟩, q⟩⟩
    · rw [if_neg (by omega)]
      by_cases e : (((n : Int) == 1) || ((SX.S l).length == 0)) = true
      · rw [if_pos e]
        have e3 : rep n l = l := by
          rw [Bool.or_eq_true] at e
          rcases e with e | e
          · have : n = 1 := by
              have := eq_of_beq e
              omega
            subst this
            simp [rep]
          · rw [hl] at e
            have : l = [] := List.eq_nil_of_length_eq_zero (eq_of_beq e)
            subst this
            simp [rep]
        rw [e3] at q
        exact ⟨.str (SX.S l), H, I, ⟨_, rfl⟩, q⟩
      · rw [if_neg e, Int.toNat_natCast, fold_rep]
        have e3 : (#[] ++ (rep n l).toArray : Array Nat) = (rep n l).toArray := by simp
        rw [e3]
        refine ⟨?_, ⟨tx (rep n l), H, I.tok _, ⟨_, rfl⟩, q⟩⟩
        show (SX.S (rep n l)).length ≤ sizeLine
        refine asc_big ?_
        rw [rep_len, Nat.mul_comm]
        omega
/-! what the law's reader hands on is short -/
def Mg (n : Nat) (mo : Option (List Nat)) : Prop := ∀ W, mo = some W → W.length = n ∧ n ≤ 2000 ∧ Asc W
def Lgd (t : List Nat) (a : Nat) (r : Lr) : Prop := ∀ n mo e, r = .ok (n, mo, e) → a ≤ e ∧ e ≤ t.length ∧ Mg n mo
theorem mg_none {n : Nat} : Mg n none := fun W h => by cases h
theorem Lgd.mono {t : List Nat} {a b : Nat} {r : Lr} (h : Lgd t b r) (hb : a ≤ b) : Lgd t a r := fun n mo e hr => by
  obtain ⟨h1, h2, h3⟩ := h n mo e hr
  exact ⟨by omega, h2, h3⟩
theorem pwr_len (l : List Nat) (x : Int) : (pwr l x).length = x.natAbs * l.length := by
  unfold pwr
  split
  · rw [rep_len, opp_len]
  · rw [rep_len]
theorem pwr_asc {l : List Nat} (h : Asc l) (x : Int) : Asc (pwr l x) := by
  unfold pwr
  split
  · exact rep_asc (opp_asc h)
  · exact rep_asc h
theorem mg_step {T n1 : Nat} {M m1 : Option (List Nat)} {x : Int} (h : Mg T M) (h1 : Mg n1 m1) : Mg (T + n1 * x.natAbs) (if x = 0 then M else mo2 (T + n1 * x.natAbs) x M m1) := by
  by_cases hx : x = 0
  · subst hx
    rw [if_pos rfl]
    exact h
  · rw [if_neg hx]
    cases M with
    | none => exact mg_none
    | some W =>
      cases m1 with
      | none => exact mg_none
      | some w1 =>
        show Mg _ (if 2000 < T + n1 * x.natAbs then none else some (W ++ pwr w1 x))
        split
        · exact mg_none
        · rename_i hT
          intro W' e
          obtain rfl := Option.some.inj e
          obtain ⟨a1, a2, a3⟩ := h W rfl
          obtain ⟨b1, b2, b3⟩ := h1 w1 rfl
          refine ⟨?_, by omega, asc_app a3 (pwr_asc b3 x)⟩
          rw [List.length_append, pwr_len, a1, b1, Nat.mul_comm]
theorem lwL_ok {at' : Nat → Nat → Lr} {t stop : List Nat} (hA : Asc t) (hat : ∀ a c, mk t a = [c] → Lgd t (a + 1) (at' a c)) : ∀ (n a T : Nat) (M : Option (List Nat)) (k : Nat), a ≤ t.length → Mg T M → Lgd t a (lwL at' t stop n a T M k)
  | 0, a, T, M, k, _, _ => fun n mo e h => by cases h
  | n + 1, a, T, M, k, ha, hM => by
    rcases mk_cases t a with h | ⟨c, h⟩
    · rw [lwL_end h]
      split
      · intro n mo e he
        cases he
        exact ⟨Nat.le_refl _, ha, hM⟩
      · intro n mo e he
        cases he
    · have hlt := mk_lt h
      by_cases hc : c = 32
      · subst hc
        rw [lwL_sp h]
        exact (lwL_ok hA hat n (a + 1) T M k (by omega) hM).mono (by omega)
      · by_cases hk : 0 < k ∧ stop = [c]
        · rw [lwL_stop h hc hk]
          intro n mo e he
          cases he
          exact ⟨Nat.le_refl _, ha, hM⟩
        · cases hx : at' a c with
          | error i =>
            rw [lwL_er h hc hk hx]
            intro n mo e he
            cases he
          | ok r =>
            obtain ⟨n1, m1, e⟩ := r
            obtain ⟨g1, g2, g3⟩ := hat a c h n1 m1 e hx
            by_cases hm : mk t (e + spn t e) = [94]
            · cases hy : rdE t (e + spn t e + 1 + spn t (e + spn t e + 1)) with
              | error i =>
                rw [lwL_xer h hc hk hx hm hy]
                intro n mo e he
                cases he
              | ok r2 =>
                obtain ⟨x, e2⟩ := r2
                rw [lwL_pow h hc hk hx hm hy]
                have k1 := (rdE_ok hy).1
                have k2 := rdE_le hy
                exact (lwL_ok hA hat n e2 _ _ (k + 1) k2 (mg_step hM g3)).mono (by omega)
            · rw [lwL_one h hc hk hx hm]
              have z := mg_step (x := 1) hM g3
              rw [if_neg (by decide)] at z
              have e1 : T + n1 * (1 : Int).natAbs = T + n1 := by
                show T + n1 * 1 = T + n1
                omega
              rw [e1] at z
              exact (lwL_ok hA hat n e _ _ (k + 1) g2 z).mono (by omega)
theorem lwA_ok {ph : Nat → Nat → Lr} {S t : List Nat} {d : Nat} (hA : Asc t) (hph : ∀ st a, a ≤ t.length → Lgd t a (ph st a)) (hS : Asc S) {a c : Nat} (hc : mk t a = [c]) (hstop : ∀ st a n mo e, ph st a = .ok (n, mo, e) → mk t e = [st]) : Lgd t (a + 1) (lwA ph S t d a c) := by
  have hlt := mk_lt hc
  unfold lwA
  split
  · rename_i hm
    intro n mo e he
    cases he
    refine ⟨Nat.le_refl _, by omega, fun W hW => ?_⟩
    obtain rfl := Option.some.inj hW
    exact ⟨rfl, by decide, fun x hx => by rw [List.mem_singleton.mp hx]; exact mk_asc hA hc⟩
  · split
    · split
      · intro n mo e he
        cases he
      · intro n mo e he
        cases he
        refine ⟨Nat.le_refl _, by omega, fun W hW => ?_⟩
        obtain rfl := Option.some.inj hW
        exact ⟨rfl, by decide, asc_nil⟩
    · split
      · intro n mo e he
        cases he
      · split
        · unfold lwG
          cases hp : ph 41 (a + 1) with
          | error i => exact fun n mo e he => by cases he
          | ok r =>
            obtain ⟨n1, m1, e1⟩ := r
            intro n mo e he
            cases he
            obtain ⟨g1, g2, g3⟩ := hph 41 (a + 1) (by omega) _ _ _ hp
            have := mk_lt (hstop _ _ _ _ _ hp)
            exact ⟨by omega, by omega, g3⟩
        · unfold lwR
          cases hp : ph 44 (a + 1) with
          | error i => exact fun n mo e he => by cases he
          | ok r =>
            obtain ⟨n1, m1, e1⟩ := r
            obtain ⟨g1, g2, g3⟩ := hph 44 (a + 1) (by omega) _ _ _ hp
            have l1 := mk_lt (hstop _ _ _ _ _ hp)
            show Lgd t (a + 1) (lwQ ph n1 m1 e1)
            unfold lwQ
            cases hp2 : ph 93 (e1 + 1) with
            | error i => exact fun n mo e he => by cases he
            | ok r =>
              obtain ⟨n2, m2, e2⟩ := r
              obtain ⟨k1, k2, k3⟩ := hph 93 (e1 + 1) (by omega) _ _ _ hp2
              have l2 := mk_lt (hstop _ _ _ _ _ hp2)
              intro n mo e he
              cases he
              refine ⟨by omega, by omega, ?_⟩
              cases m1 with
              | none => exact mg_none
              | some w1 =>
                cases m2 with
                | none => exact mg_none
                | some w2 =>
                  show Mg _ (if 2 * n1 + 2 * n2 < 2000 then some (w1 ++ w2 ++ opp w1 ++ opp w2) else none)
                  split
                  · intro W hW
                    obtain rfl := Option.some.inj hW
                    obtain ⟨a1, a2, a3⟩ := g3 w1 rfl
                    obtain ⟨b1, b2, b3⟩ := k3 w2 rfl
                    refine ⟨?_, by omega, asc_app (asc_app (asc_app a3 b3) (opp_asc a3)) (opp_asc b3)⟩
                    rw [List.length_append, List.length_append, List.length_append, opp_len, opp_len]
                    omega
                  · exact mg_none
/-- a phrase that is read ends at its stop -/
theorem lwL_stop_at {at' : Nat → Nat → Lr} {t stop : List Nat} : ∀ (n a T : Nat) (M : Option (List Nat)) (k n' : Nat) (mo : Option (List Nat)) (e : Nat), lwL at' t stop n a T M k = .ok (n', mo, e) → mk t e = stop ∧ 0 < n
  | 0, a, T, M, k, _, _, _, h => by cases h
  | n + 1, a, T, M, k, n', mo, e0, hh => by
    rcases mk_cases t a with h | ⟨c, h⟩
    · rw [lwL_end h] at hh
      split at hh
      · rename_i hs
        cases hh
        rw [h, hs.1]
        exact ⟨rfl, Nat.succ_pos _⟩
      · cases hh
    · by_cases hc : c = 32
      · subst hc
        rw [lwL_sp h] at hh
        exact ⟨(lwL_stop_at n _ _ _ _ _ _ _ hh).1, Nat.succ_pos _⟩
      · by_cases hk : 0 < k ∧ stop = [c]
        · rw [lwL_stop h hc hk] at hh
          cases hh
          rw [h, hk.2]
          exact ⟨rfl, Nat.succ_pos _⟩
        · cases hx : at' a c with
          | error i =>
            rw [lwL_er h hc hk hx] at hh
            cases hh
          | ok r =>
            obtain ⟨n1, m1, e⟩ := r
            by_cases hm : mk t (e + spn t e) = [94]
            · cases hy : rdE t (e + spn t e + 1 + spn t (e + spn t e + 1)) with
              | error i =>
                rw [lwL_xer h hc hk hx hm hy] at hh
                cases hh
              | ok r2 =>
                obtain ⟨x, e2⟩ := r2
                rw [lwL_pow h hc hk hx hm hy] at hh
                exact ⟨(lwL_stop_at n _ _ _ _ _ _ _ hh).1, Nat.succ_pos _⟩
            · rw [lwL_one h hc hk hx hm] at hh
              exact ⟨(lwL_stop_at n _ _ _ _ _ _ _ hh).1, Nat.succ_pos _⟩
theorem lwP_stop {S t : List Nat} : ∀ (m : Nat) (stop : List Nat) (a n : Nat) (mo : Option (List Nat)) (e : Nat), lwP S t m stop a = .ok (n, mo, e) → mk t e = stop
  | 0, stop, a, n, mo, e, h => (lwL_stop_at _ _ _ _ _ _ _ _ h).1
  | m + 1, stop, a, n, mo, e, h => (lwL_stop_at _ _ _ _ _ _ _ _ h).1
theorem mg0 : Mg 0 (some []) := fun W h => by
  obtain rfl := Option.some.inj h
  exact ⟨rfl, by decide, asc_nil⟩
/-- the readers at depth 6 - m: of the phrases within its atoms -/
def lsub (S t : List Nat) : Nat → Nat → Nat → Lr
  | 0 => fun _ _ => .error 0
  | m + 1 => fun st => lwP S t m [st]
theorem lwP_eq (S t : List Nat) (m : Nat) (stop : List Nat) (a : Nat) : lwP S t m stop a = lwL (lwA (lsub S t m) S t (6 - m)) t stop (t.length + 2) a 0 (some []) 0 := by
  cases m <;> rfl
theorem lwP_ok {S t : List Nat} (hA : Asc t) (hS : Asc S) : ∀ (m : Nat) (stop : List Nat) (a : Nat), a ≤ t.length → Lgd t a (lwP S t m stop a)
  | 0, stop, a, ha => lwL_ok hA (fun b c hc => lwA_ok hA (fun _ _ _ n mo e h => by cases h) hS hc (fun _ _ _ _ _ h => by cases h)) _ _ _ _ _ ha mg0
  | m + 1, stop, a, ha => lwL_ok hA (fun b c hc => lwA_ok hA (fun st a ha => lwP_ok hA hS m [st] a ha) hS hc (fun st a n mo e h => lwP_stop m [st] a n mo e h)) _ _ _ _ _ ha mg0
theorem lsub_ok {S t : List Nat} (hA : Asc t) (hS : Asc S) (m st a : Nat) (ha : a ≤ t.length) : Lgd t a (lsub S t m st a) := by
  cases m with
  | zero => exact fun n mo e h => by cases h
  | succ m => exact lwP_ok hA hS m [st] a ha
theorem lat_ok {S t : List Nat} (hA : Asc t) (hS : Asc S) {m a c : Nat} (hc : mk t a = [c]) : Lgd t (a + 1) (lwA (lsub S t m) S t (6 - m) a c) := by
  refine lwA_ok hA (fun st a ha => lsub_ok hA hS m st a ha) hS hc (fun st a n mo e h => ?_)
  cases m with
  | zero => cases h
  | succ m => exact lwP_stop m [st] a n mo e h
end K7
set_option maxRecDepth 100000
set_option maxHeartbeats 2000000
namespace K7
open PySem PySem.Spec PyProof.Rows L2
abbrev vno : V := .str (Str.ofString "no")
abbrev vok : V := .str (Str.ofString "ok")
theorem no_eq : decide (vok = vno) = false := by decide
theorem two_le {x : List V} (h : x.length ≤ 4) : x.length ≤ sizeLine := Nat.le_trans h (by decide)
/-- what a reader hands back: a new tuple -/
def Tpl (H : Hp) (r : Lr) (Q : VK) : Prop := ∀ H' T, Same H H' → H T = none → H' T = some (.tup (lrV r)) → Q (.ref T) H'
theorem Tpl.of {H H1 : Hp} {r : Lr} {Q : VK} (h : Tpl H r Q) (s : Same H H1) : Tpl H1 r Q := fun H' T s' n e => h H' T (s.trans s') (s.free n) e
theorem Tpl.new {H H1 : Hp} {r : Lr} {Q : VK} (h : Tpl H r Q) (s : Same H H1) {T : Addr} (n : H1 T = none) : Q (.ref T) (upd H1 T (.tup (lrV r))) := h _ T (s.trans (same_new n)) (s.free n) upd_same
/-- _law_phrase, at depth d -/
def spLph (rd : List Nat → List Nat → List Nat → Nat → Lr) (d : Nat) : Sp := fun vs H Q _ => ∃ (t S stop : List Nat) (a : Nat), vs = [tx t, tx S, .int (a : Int), tx stop, .int (d : Int)] ∧ t.length ≤ 9000 ∧ Asc t ∧ Asc S ∧ a ≤ t.length ∧ Tpl H (rd S t stop a) Q
def spLat (m : Nat) : Sp := fun vs H Q _ => ∃ (t S : List Nat) (a c : Nat), vs = [tx t, tx S, .int (a : Int), .int ((6 - m : Nat) : Int)] ∧ t.length ≤ 9000 ∧ Asc t ∧ Asc S ∧ mk t a = [c] ∧ Tpl H (lwA (lsub S t m) S t (6 - m) a c) Q
abbrev NA : List Str := ["_law_text_z", "_law_signs_here", "_law_at", "_law_deep", "_law_sign", "_law_left", "_law_right", "_law_size", "_law_piece"]
section
variable {P : Program} {w : World} {K : PySem.W.Frag} {mg : Str → Option Value} {base : Heap}
variable {f fD fG fP : Addr} {fd fdD fdG fdP : FuncData} {cdv : Value} {A : Around} {outer : List Env} {s : Shared} {H : Hp} {E : XK} {k : Nat}
abbrev XA (P : Program) (w : World) (K : PySem.W.Frag) (mg : Str → Option Value) (base : Heap) (f : Addr) (cdv : Value) (A : Around) (outer : List Env) (s : Shared) (H : Hp) (E : XK) : Cx := (cxOf CX0 P w K mg base NA "_law_atom" (defScope sLAtom) f cdv A outer s H E).nox
theorem moV_non (mo : Option (List Nat)) : decide (moV mo = .non) = mo.isNone := by
  cases mo <;> rfl
theorem a_ret : ∃ t, PSs (XA P w K mg base f cdv A outer s H E) ((defBody sLAtom).drop 11) t ∧ ∀ (y0 y1 y2 y3 y4 y5 : Option V) (q : Addr) (n n2 e2 : Nat) (m2 mo : Option (List Nat)) (D : Ends) (H0 : Hp), H0 q = some (.tup (lrV (.ok (n2, m2, e2)))) →
      Tpl H0 (.ok (n, mo, e2 + 1)) D.rt → t D [y0, y1, y2, y3, y4, y5, some (.ref q), some (.int (n : Int)), some (moV mo)] H0 := by
  refine ⟨_, pss_one (ps_ret (pe_tup (pa_cons pe_str (pa_cons (pv 7) (pa_cons (pv 8) (pa_cons (pe_op op_add (pe_ix ix_tup (pv 6) pe_int (fun _ _ => rfl)) pe_int) pa_nil)))))), ?_⟩
  intro y0 y1 y2 y3 y4 y5 q n n2 e2 m2 mo D H0 hq hT
  refine ⟨_, rfl, _, rfl, _, rfl, q, _, 3, _, rfl, rfl, SqT.of hq, rfl, _, _, rfl, rfl, two_le (by show 4 ≤ 4; decide), fun T nT => ?_⟩
  have e : [vok, V.int (n : Int), moV mo, V.int ((e2 : Int) + 1)] = lrV (.ok (n, mo, e2 + 1)) := rfl
  rw [e]
  exact hT.new (Same.refl _) nT
/-- behind both phrases of a pair -/
theorem a_end (GG : FnOk P w K mg base CX0 (k + 2) fG fdG ["_law_one"] spGone) (kG : PySem.W.keepIn K (.ref fG) = true) (bG : Binds K fdG ["_law_one"] []) (gG : mg "_law_gone_back" = some (.ref fG)) (hr : Room (k + 2) (A.deeper (envOfC "_law_atom" (defScope sLAtom) s.heap.objs.size f cdv))) :
    ∃ t, PSs (XA P w K mg base f cdv A outer s H E) ((defBody sLAtom).drop 8) t ∧ ∀ (y0 y1 y2 y3 y4 y7 y8 : Option V) (p q : Addr) (n1 n2 e1 e2 : Nat) (m1 m2 : Option (List Nat)) (D : Ends) (H0 : Hp), H0 p = some (.tup (lrV (.ok (n1, m1, e1)))) → H0 q = some (.tup (lrV (.ok (n2, m2, e2)))) → Mg n1 m1 → Mg n2 m2 →
      Tpl H0 (.ok (2 * n1 + 2 * n2, pc (2 * n1 + 2 * n2) m1 m2, e2 + 1)) D.rt → t D [y0, y1, y2, y3, y4, some (.ref p), some (.ref q), y7, y8] H0 := by
  obtain ⟨t2, P2, R2⟩ := a_ret (P := P) (w := w) (K := K) (mg := mg) (base := base) (f := f) (cdv := cdv) (A := A) (outer := outer) (s := s) (H := H) (E := E)
  refine ⟨_, pss_cons (ps_set (i := 7) scLAtom.nd rfl (.inl rfl) (pe_op op_add (pe_op op_mul pe_int (pe_ix ix_tup (pv 5) pe_int (fun _ _ => rfl))) (pe_op op_mul pe_int (pe_ix ix_tup (pv 6) pe_int (fun _ _ => rfl)))))
    (pss_cons (ps_set (i := 8) scLAtom.nd rfl (.inl rfl) pe_non)
    (pss_cons (ps_if (PW.pt (pw_and (pt_cmpR op_notN (pe_ix ix_tup (pv 5) pe_int (fun _ _ => rfl)) pe_non (nomark _)) (pw_and (pt_cmpR op_notN (pe_ix ix_tup (pv 6) pe_int (fun _ _ => rfl)) pe_non (nomark _)) (pw_and1 (pt_cmpR op_lt (pv 7) pe_int (nomark _))))))
      (pss_cons (ps_set (i := 8) scLAtom.nd rfl (.inl rfl) (pe_op op_add_str (pe_ix ix_tup (pv 5) pe_int (fun _ _ => rfl)) (pe_ix ix_tup (pv 6) pe_int (fun _ _ => rfl))))
      (pss_one (ps_set (i := 8) scLAtom.nd rfl (.inl rfl) (pe_op op_add_str (pe_op op_add_str (pv 8) (pe_call GG hr (by rfl) gG kG bG .nil pass0 (pa_cons (pe_ix ix_tup (pv 5) pe_int (fun _ _ => rfl)) pa_nil))) (pe_call GG hr (by rfl) gG kG bG .nil pass0 (pa_cons (pe_ix ix_tup (pv 6) pe_int (fun _ _ => rfl)) pa_nil)))))) pss_nil) P2)), ?_⟩
  intro y0 y1 y2 y3 y4 y7 y8 p q n1 n2 e1 e2 m1 m2 D H0 hp hq g1 g2 hT
  have eN : (2 : Int) * (n1 : Int) + 2 * (n2 : Int) = ((2 * n1 + 2 * n2 : Nat) : Int) := by omega
  refine ⟨_, rfl, p, _, 1, _, rfl, rfl, SqT.of hp, rfl, _, _, rfl, rfl, .inl ⟨by decide, by decide⟩, _, rfl, q, _, 1, _, rfl, rfl, SqT.of hq, rfl, _, _, rfl, rfl, .inl ⟨by decide, by decide⟩, _, _, rfl, rfl, ?_⟩
  dsimp only
  rw [eN]
  generalize hN : 2 * n1 + 2 * n2 = N at *
  have none_way : pc N m1 m2 = none → t2 D [y0, y1, y2, y3, y4, some (.ref p), some (.ref q), some (.int (N : Int)), some .non] H0 := by
    intro e
    have z := R2 y0 y1 y2 y3 y4 (some (.ref p)) q N n2 e2 m2 none D H0 hq (by rw [← e]; exact hT)
    exact z
  refine ⟨_, rfl, p, _, 2, _, rfl, rfl, SqT.of hp, rfl, rfl, _, rfl, ?_⟩
  cases m1 with
  | none => exact iteF (none_way rfl)
  | some w1 =>
    refine iteT ⟨_, rfl, q, _, 2, _, rfl, rfl, SqT.of hq, rfl, rfl, _, rfl, ?_⟩
    cases m2 with
    | none => exact iteF (none_way rfl)
    | some w2 =>
      refine iteT ⟨_, rfl, _, _, rfl, rfl, _, rfl, ?_⟩
      by_cases hlt : N < 2000
      · obtain ⟨a1, a2, a3⟩ := g1 w1 rfl
        obtain ⟨b1, b2, b3⟩ := g2 w2 rfl
        have ed : decide ((N : Int) < 2000) = true := decide_eq_true (by omega)
        rw [ed]
        refine iteT ⟨_, rfl, p, _, 2, _, rfl, rfl, SqT.of hp, rfl, _, rfl, q, _, 2, _, rfl, rfl, SqT.of hq, rfl, _, _, rfl, rfl, ?_, ?_⟩
        · rw [tx_len, tx_len]
          exact Nat.le_of_lt (big_lt (by omega))
        rw [SX.S_cat]
        refine ⟨_, rfl, _, rfl, p, _, 2, _, rfl, rfl, SqT.of hp, rfl, w1, rfl, by omega, a3, fun H1 s1 => ⟨_, _, rfl, rfl, ?_, ?_⟩⟩
        · rw [tx_len, tx_len, opp_len, List.length_append]
          exact Nat.le_of_lt (big_lt (by omega))
        rw [SX.S_cat]
        refine ⟨_, rfl, q, _, 2, _, rfl, rfl, SqT.of (s1 _ _ hq), rfl, w2, rfl, by omega, b3, fun H2 s2 => ⟨_, _, rfl, rfl, ?_, ?_⟩⟩
        · rw [tx_len, tx_len, opp_len, List.length_append, List.length_append, opp_len]
          exact Nat.le_of_lt (big_lt (by omega))
        rw [SX.S_cat]
        have e : pc N (some w1) (some w2) = some (w1 ++ w2 ++ opp w1 ++ opp w2) := if_pos hlt
        rw [e] at hT
        exact R2 y0 y1 y2 y3 y4 (some (.ref p)) q N n2 e2 (some w2) (some (w1 ++ w2 ++ opp w1 ++ opp w2)) D H2 ((s1.trans s2) _ _ hq) (hT.of (s1.trans s2))
      · have ed : decide ((N : Int) < 2000) = false := decide_eq_false (by omega)
        rw [ed]
        exact iteF (none_way (if_neg hlt))
end
end K7
set_option maxRecDepth 100000
set_option maxHeartbeats 2000000
namespace K7
open PySem PySem.Spec PyProof.Rows L2
theorem pars_in (c : Nat) : inV (tx [c]) [tx [40], tx [91]] = decide (c = 40 ∨ c = 91) := by
  have z := mem_in (w := []) (c := c) (L := [40, 91])
  simp only [List.map_cons, List.map_nil] at z
  rw [z]
  simp
section
variable {P : Program} {w : World} {K : PySem.W.Frag} {mg : Str → Option Value} {base : Heap}
variable {f fD fG fP : Addr} {fd fdD fdG fdP : FuncData} {cdv : Value} {A : Around} {outer : List Env} {s : Shared} {H : Hp} {E : XK} {k : Nat}
/-- up to the first phrase within -/
theorem a_front {tT : TS} (PT : PSs (XA P w K mg base f cdv A outer s H E) ((defBody sLAtom).drop 4) tT) (GD : FnOk P w K mg base CX0 1 fD fdD ["_law_text_z", "_law_at"] spLd) (kD : PySem.W.keepIn K (.ref fD) = true) (bD : Binds K fdD ["_law_text_z", "_law_at"] []) (gD : mg "_law_is_digit" = some (.ref fD))
    (hr : Room 1 (A.deeper (envOfC "_law_atom" (defScope sLAtom) s.heap.objs.size f cdv))) :
    ∃ t, PSs (XA P w K mg base f cdv A outer s H E) (defBody sLAtom) t ∧ ∀ (T S : List Nat) (a c d : Nat) (r : Lr) (D : Ends) (H0 : Hp), T.length ≤ 9000 → Asc T → mk T a = [c] →
      ((c ∈ S → r = .ok (1, some [c], a + 1)) ∧ (c ∉ S → c = 49 → r = if dgt T (a + 1) = true then .error (a + 1) else .ok (0, some [], a + 1)) ∧ (c ∉ S → c ≠ 49 → (¬ (c = 40 ∨ c = 91) ∨ d = 6) → r = .error a)) →
      Tpl H0 r D.rt → (∀ H', Same H0 H' → c ∉ S → c ≠ 49 → (c = 40 ∨ c = 91) → d ≠ 6 → tT D [some (tx T), some (tx S), some (.int (a : Int)), some (.int (d : Int)), some (tx [c]), none, none, none, none] H') →
      t D [some (tx T), some (tx S), some (.int (a : Int)), some (.int (d : Int)), none, none, none, none, none] H0 := by
  refine ⟨_, pss_cons (ps_set (i := 4) scLAtom.nd rfl (.inl rfl) (pe_ix ix_str (pv 0) (pv 2) (fun _ _ => rfl)))
    (pss_cons (ps_if (pt_cmpR op_in_sign (pv 4) (pv 1) (by rfl)) (pss_one (ps_ret (pe_tup (pa_cons pe_str (pa_cons pe_int (pa_cons (pv 4) (pa_cons (pe_op op_add (pv 2) pe_int) pa_nil))))))) pss_nil)
    (pss_cons (ps_if (pt_cmpR op_eq (pv 4) pe_str (nomark _)) (pss_one (ps_ret (pe_ifExp (pt_val (pe_call GD hr (by rfl) gD kD bD .nil pass0 (pa_cons (pv 0) (pa_cons (pe_op op_add (pv 2) pe_int) pa_nil)))) (pe_tup (pa_cons pe_str (pa_cons (pe_op op_add (pv 2) pe_int) pa_nil))) (pe_tup (pa_cons pe_str (pa_cons pe_int (pa_cons pe_str (pa_cons (pe_op op_add (pv 2) pe_int) pa_nil)))))))) pss_nil)
    (pss_cons (ps_if (PW.pt (pw_or (pt_cmpR op_notIn_seq (pv 4) (pe_lst (pa_cons pe_str (pa_cons pe_str pa_nil))) (by rfl)) (pw_or1 (pt_cmpR op_eq (pv 3) pe_int (nomark _))))) (pss_one (ps_ret (pe_tup (pa_cons pe_str (pa_cons (pv 2) pa_nil))))) pss_nil) PT))), ?_⟩
  intro T S a c d r D H0 hl hA hc hr3 hT nx
  obtain ⟨r1, r2, r3⟩ := hr3
  refine ⟨_, rfl, _, rfl, _, _, c, rfl, rfl, asc_big (by omega), at_mk hc, ?_⟩
  refine ⟨_, rfl, _, rfl, c, _, rfl, rfl, _, rfl, ?_⟩
  have eS : (SX.S S).cps.toList = S := by simp
  rw [eS]
  by_cases hS : c ∈ S
  · rw [decide_eq_true hS]
    refine iteT ⟨_, rfl, _, rfl, _, _, rfl, rfl, two_le (by show 4 ≤ 4; decide), fun T1 nT => ?_⟩
    have e := r1 hS
    subst e
    exact hT.new (Same.refl _) nT
  · rw [decide_eq_false hS]
    refine iteF ⟨_, rfl, rfl, _, rfl, ?_⟩
    rw [one49]
    show if decide (tx [c] = tx [49]) = true then _ else _
    rw [tx_eq]
    by_cases h49 : c = 49
    · have e := r2 hS h49
      subst h49
      rw [decide_eq_true rfl]
      refine iteT ⟨_, rfl, _, rfl, _, _, rfl, rfl, T, a + 1, rfl, hl, _, rfl, ?_⟩
      by_cases hd : dgt T (a + 1) = true
      · rw [hd] at e ⊢
        rw [if_pos rfl] at e
        subst e
        exact iteT ⟨_, rfl, _, _, rfl, rfl, two_le (by show 2 ≤ 4; decide), fun T1 nT => hT.new (Same.refl _) nT⟩
      · have hd' : dgt T (a + 1) = false := by simpa using hd
        rw [hd'] at e ⊢
        rw [if_neg (by decide)] at e
        subst e
        refine iteF ⟨_, rfl, _, _, rfl, rfl, two_le (by show 4 ≤ 4; decide), fun T1 nT => ?_⟩
        have e0 : [vok, V.int 0, V.str (Str.ofString ""), V.int ((a : Int) + 1)] = lrV (.ok (0, some [], a + 1)) := by
          rw [e0S]
          rfl
        rw [e0]
        exact hT.new (Same.refl _) nT
    · have en : decide ([c] = [49]) = false := decide_eq_false (by simpa using h49)
      rw [en]
      refine iteF ⟨_, rfl, (by show 2 ≤ sizeLine; decide), fun p np => ⟨p, _, rfl, .inl (SqL.of upd_same), rfl, rfl, _, rfl, ?_⟩⟩
      have sp : Same H0 (upd H0 p (.lst [.str (Str.ofString "("), .str (Str.ofString "[")])) := same_new np
      have ei : inV (V.str { cps := #[c] }) [V.str (Str.ofString "("), V.str (Str.ofString "[")] = decide (c = 40 ∨ c = 91) := by
        rw [par40, par91]
        exact pars_in c
      show if (!inV (V.str { cps := #[c] }) [V.str (Str.ofString "("), V.str (Str.ofString "[")]) = true then _ else _
      rw [ei]
      by_cases hp : c = 40 ∨ c = 91
      · rw [decide_eq_true hp]
        refine iteF ⟨_, rfl, rfl, _, rfl, ?_⟩
        by_cases h6 : d = 6
        · have e := r3 hS h49 (.inr h6)
          subst e
          have e6 : decide (V.int (d : Int) = V.int 6) = true := decide_eq_true (by rw [h6]; rfl)
          rw [e6]
          exact iteT ⟨_, rfl, two_le (by show 2 ≤ 4; decide), fun T1 nT => hT.new sp nT⟩
        · have e6 : decide (V.int (d : Int) = V.int 6) = false := decide_eq_false (fun z => h6 (by injection z with z; omega))
          rw [e6]
          exact iteF (nx _ sp hS h49 hp h6)
      · have e := r3 hS h49 (.inl hp)
        subst e
        rw [decide_eq_false hp]
        exact iteT (iteT ⟨_, rfl, two_le (by show 2 ≤ 4; decide), fun T1 nT => hT.new sp nT⟩)
theorem ok_lat0 {f : Addr} {fd : FuncData} (F : Fun K "_law_atom" "_law_atom" sLAtom f fd) (GD : FnOk P w K mg base CX0 1 fD fdD ["_law_text_z", "_law_at"] spLd) (kD : PySem.W.keepIn K (.ref fD) = true) (bD : Binds K fdD ["_law_text_z", "_law_at"] []) (gD : mg "_law_is_digit" = some (.ref fD)) :
    FnOk P w K mg base CX0 2 f fd ["_law_text_z", "_law_signs_here", "_law_at", "_law_deep"] (spLat 0) := by
  refine F.ok scLAtom (fun vs H Q E h => ?_) (fun cdv A outer s H vs Q E hr h => ?_)
  · obtain ⟨t, S, a, c, rfl, _⟩ := h
    rfl
  · obtain ⟨t, S, a, c, rfl, hl, hA, hS, hc, q⟩ := h
    obtain ⟨t1, P1, R1⟩ := a_front (P := P) (w := w) (f := f) (cdv := cdv) (outer := outer) (s := s) (H := H) (E := E) (A := A) (pss_never (X := XA P w K mg base f cdv A outer s H E)) GD kD bD gD hr
    refine ⟨t1, P1, R1 t S a c 6 _ { nx := fun _ H' => Q .non H', rt := Q } H hl hA hc ⟨?_, ?_, ?_⟩ q (fun _ _ _ _ _ h6 => absurd rfl h6)⟩
    · intro h
      exact if_pos h
    · intro h h2
      unfold lwA
      rw [if_neg h, if_pos h2]
    · intro h h2 h3
      unfold lwA
      rw [if_neg h, if_neg h2, if_pos h3]
/-- the first phrase within, and what is behind it -/
theorem a_back {m : Nat} (hm : m < 6) {j : Nat} (hj : 2 ≤ j) (GP : FnOk P w K mg base CX0 j fP fdP ["_law_text_z", "_law_signs_here", "_law_at", "_law_stop", "_law_deep"] (spLph (fun S t stop => lwP S t m stop) (6 - m))) (kP : PySem.W.keepIn K (.ref fP) = true) (bP : Binds K fdP ["_law_text_z", "_law_signs_here", "_law_at", "_law_stop", "_law_deep"] []) (gP : mg "_law_phrase" = some (.ref fP))
    (GG : FnOk P w K mg base CX0 2 fG fdG ["_law_one"] spGone) (kG : PySem.W.keepIn K (.ref fG) = true) (bG : Binds K fdG ["_law_one"] []) (gG : mg "_law_gone_back" = some (.ref fG)) (hr : Room j (A.deeper (envOfC "_law_atom" (defScope sLAtom) s.heap.objs.size f cdv))) :
    ∃ t, PSs (XA P w K mg base f cdv A outer s H E) ((defBody sLAtom).drop 4) t ∧ ∀ (T S : List Nat) (a c : Nat) (r : Lr) (D : Ends) (H0 : Hp), T.length ≤ 9000 → Asc T → Asc S → mk T a = [c] → (c = 40 ∨ c = 91) → (c = 40 → r = lwG (lsub S T (m + 1)) a) → (c ≠ 40 → r = lwR (lsub S T (m + 1)) a) → Tpl H0 r D.rt →
      t D [some (tx T), some (tx S), some (.int (a : Int)), some (.int ((6 - (m + 1) : Nat) : Int)), some (tx [c]), none, none, none, none] H0 := by
  have r2 : Room (0 + 2) (A.deeper (envOfC "_law_atom" (defScope sLAtom) s.heap.objs.size f cdv)) := hr.mono hj
  obtain ⟨t3, P3, R3⟩ := a_end (P := P) (w := w) (K := K) (mg := mg) (base := base) (f := f) (cdv := cdv) (outer := outer) (s := s) (H := H) (E := E) (A := A) (k := 0) GG kG bG gG r2
  refine ⟨_, pss_cons (ps_set (i := 5) scLAtom.nd rfl (.inl rfl) (pe_call GP hr (by rfl) gP kP bP .nil pass0 (pa_cons (pv 0) (pa_cons (pv 1) (pa_cons (pe_op op_add (pv 2) pe_int) (pa_cons (pe_ifExp (pt_cmpR op_eq (pv 4) pe_str (nomark _)) pe_str pe_str) (pa_cons (pe_op op_add (pv 3) pe_int) pa_nil)))))))
    (pss_cons (ps_if (PW.pt (pw_or (pt_cmpR op_eq (pe_ix ix_tup (pv 5) pe_int (fun _ _ => rfl)) pe_str (nomark _)) (pw_or1 (pt_cmpR op_eq (pv 4) pe_str (nomark _)))))
      (pss_one (ps_ret (pe_ifExp (pt_cmpR op_eq (pe_ix ix_tup (pv 5) pe_int (fun _ _ => rfl)) pe_str (nomark _)) (pv 5) (pe_tup (pa_cons pe_str (pa_cons (pe_ix ix_tup (pv 5) pe_int (fun _ _ => rfl)) (pa_cons (pe_ix ix_tup (pv 5) pe_int (fun _ _ => rfl)) (pa_cons (pe_op op_add (pe_ix ix_tup (pv 5) pe_int (fun _ _ => rfl)) pe_int) pa_nil)))))))) pss_nil)
    (pss_cons (ps_set (i := 6) scLAtom.nd rfl (.inl rfl) (pe_call GP hr (by rfl) gP kP bP .nil pass0 (pa_cons (pv 0) (pa_cons (pv 1) (pa_cons (pe_op op_add (pe_ix ix_tup (pv 5) pe_int (fun _ _ => rfl)) pe_int) (pa_cons pe_str (pa_cons (pe_op op_add (pv 3) pe_int) pa_nil)))))))
    (pss_cons (ps_if (pt_cmpR op_eq (pe_ix ix_tup (pv 6) pe_int (fun _ _ => rfl)) pe_str (nomark _)) (pss_one (ps_ret (pv 6))) pss_nil) P3))), ?_⟩
  intro T S a c r D H0 hl hA hS hc hp rg rr hT
  have hlt := mk_lt hc
  have ed : (((6 - (m + 1) : Nat) : Int) + 1) = ((6 - m : Nat) : Int) := by omega
  refine ⟨_, rfl, _, rfl, _, rfl, _, _, rfl, rfl, _, rfl, rfl, _, rfl, ?_⟩
  rw [par40]
  show if decide (tx [c] = tx [40]) = true then _ else _
  rw [tx_eq]
  by_cases h40 : c = 40
  · subst h40
    rw [decide_eq_true rfl]
    refine iteT ⟨_, rfl, _, _, rfl, rfl, T, S, [41], a + 1, ?_, hl, hA, hS, by omega, fun H1 p s1 np hp1 => ?_⟩
    · rw [par41]
      dsimp only
      rw [ed]
      rfl
    dsimp only at hp1
    have er := rg rfl
    unfold lwG at er
    have el : lsub S T (m + 1) 41 (a + 1) = lwP S T m [41] (a + 1) := rfl
    rw [el] at er
    cases hx : lwP S T m [41] (a + 1) with
    | error i =>
      rw [hx] at hp1 er
      subst er
      refine ⟨_, rfl, p, _, 0, _, rfl, rfl, SqT.of hp1, rfl, rfl, true, rfl, iteT (iteT ⟨_, rfl, p, _, 0, _, rfl, rfl, SqT.of hp1, rfl, rfl, true, rfl, iteT ⟨_, rfl, ?_⟩⟩)⟩
      exact hT H1 p s1 np hp1
    | ok x =>
      obtain ⟨n, mo, e⟩ := x
      rw [hx] at hp1 er
      subst er
      refine ⟨_, rfl, p, _, 0, _, rfl, rfl, SqT.of hp1, rfl, rfl, false, rfl, iteF ⟨_, rfl, rfl, _, rfl, ?_⟩⟩
      show if decide (tx [40] = tx [40]) = true then _ else _
      rw [decide_eq_true rfl]
      refine iteT ⟨_, rfl, p, _, 0, _, rfl, rfl, SqT.of hp1, rfl, rfl, false, rfl, iteF ?_⟩
      refine ⟨_, rfl, p, _, 1, _, rfl, rfl, SqT.of hp1, rfl, _, rfl, p, _, 2, _, rfl, rfl, SqT.of hp1, rfl, _, rfl, p, _, 3, _, rfl, rfl, SqT.of hp1, rfl, _, _, rfl, rfl, two_le (by show 4 ≤ 4; decide), fun T1 nT => ?_⟩
      have ev : [vok, V.int (n : Int), moV mo, V.int ((e : Int) + 1)] = lrV (.ok (n, mo, e + 1)) := rfl
      rw [ev]
      exact hT.new s1 nT
  · have en : decide ([c] = [40]) = false := decide_eq_false (by simpa using h40)
    rw [en]
    refine iteF ⟨_, rfl, _, _, rfl, rfl, T, S, [44], a + 1, ?_, hl, hA, hS, by omega, fun H1 p s1 np hp1 => ?_⟩
    · rw [com44]
      dsimp only
      rw [ed]
      rfl
    dsimp only at hp1
    have er := rr h40
    unfold lwR at er
    have el : lsub S T (m + 1) 44 (a + 1) = lwP S T m [44] (a + 1) := rfl
    rw [el] at er
    cases hx : lwP S T m [44] (a + 1) with
    | error i =>
      rw [hx] at hp1 er
      subst er
      refine ⟨_, rfl, p, _, 0, _, rfl, rfl, SqT.of hp1, rfl, rfl, true, rfl, iteT (iteT ⟨_, rfl, p, _, 0, _, rfl, rfl, SqT.of hp1, rfl, rfl, true, rfl, iteT ⟨_, rfl, ?_⟩⟩)⟩
      exact hT H1 p s1 np hp1
    | ok x =>
      obtain ⟨n, mo, e⟩ := x
      rw [hx] at hp1 er
      obtain ⟨g1, g2, g3⟩ := lwP_ok hA hS m [44] (a + 1) (by omega) n mo e hx
      have l1 := mk_lt (lwP_stop m [44] _ _ _ _ hx)
      refine ⟨_, rfl, p, _, 0, _, rfl, rfl, SqT.of hp1, rfl, rfl, false, rfl, iteF ⟨_, rfl, rfl, _, rfl, ?_⟩⟩
      show if decide (tx [c] = tx [40]) = true then _ else _
      rw [tx_eq, en]
      refine iteF ⟨_, rfl, _, rfl, _, rfl, p, _, 3, _, rfl, rfl, SqT.of hp1, rfl, _, _, rfl, rfl, _, rfl, _, _, rfl, rfl, T, S, [93], e + 1, ?_, hl, hA, hS, by omega, fun H2 q s2 nq hq => ?_⟩
      · rw [par93]
        dsimp only
        rw [ed]
        rfl
      dsimp only at hq
      have er2 : r = lwQ (lsub S T (m + 1)) n mo e := er
      unfold lwQ at er2
      have el2 : lsub S T (m + 1) 93 (e + 1) = lwP S T m [93] (e + 1) := rfl
      rw [el2] at er2
      cases hy : lwP S T m [93] (e + 1) with
      | error i =>
        rw [hy] at hq er2
        subst er2
        refine ⟨_, rfl, q, _, 0, _, rfl, rfl, SqT.of hq, rfl, rfl, true, rfl, iteT ⟨_, rfl, ?_⟩⟩
        exact hT H2 q (s1.trans s2) (s1.free nq) hq
      | ok y =>
        obtain ⟨n2, mo2, e2⟩ := y
        rw [hy] at hq er2
        subst er2
        obtain ⟨k1, k2, k3⟩ := lwP_ok hA hS m [93] (e + 1) (by omega) n2 mo2 e2 hy
        refine ⟨_, rfl, q, _, 0, _, rfl, rfl, SqT.of hq, rfl, rfl, false, rfl, iteF ?_⟩
        exact R3 _ _ _ _ _ _ _ p q n n2 e e2 mo mo2 _ H2 (s2 _ _ hp1) hq g3 k3 (hT.of (s1.trans s2))
theorem ok_latS {f : Addr} {fd : FuncData} {m : Nat} (hm : m < 6) {j : Nat} (hj : 2 ≤ j) (F : Fun K "_law_atom" "_law_atom" sLAtom f fd) (GD : FnOk P w K mg base CX0 1 fD fdD ["_law_text_z", "_law_at"] spLd) (kD : PySem.W.keepIn K (.ref fD) = true) (bD : Binds K fdD ["_law_text_z", "_law_at"] []) (gD : mg "_law_is_digit" = some (.ref fD))
    (GP : FnOk P w K mg base CX0 j fP fdP ["_law_text_z", "_law_signs_here", "_law_at", "_law_stop", "_law_deep"] (spLph (fun S t stop => lwP S t m stop) (6 - m))) (kP : PySem.W.keepIn K (.ref fP) = true) (bP : Binds K fdP ["_law_text_z", "_law_signs_here", "_law_at", "_law_stop", "_law_deep"] []) (gP : mg "_law_phrase" = some (.ref fP))
    (GG : FnOk P w K mg base CX0 2 fG fdG ["_law_one"] spGone) (kG : PySem.W.keepIn K (.ref fG) = true) (bG : Binds K fdG ["_law_one"] []) (gG : mg "_law_gone_back" = some (.ref fG)) :
    FnOk P w K mg base CX0 (j + 1) f fd ["_law_text_z", "_law_signs_here", "_law_at", "_law_deep"] (spLat (m + 1)) := by
  refine F.ok scLAtom (fun vs H Q E h => ?_) (fun cdv A outer s H vs Q E hr h => ?_)
  · obtain ⟨t, S, a, c, rfl, _⟩ := h
    rfl
  · obtain ⟨t, S, a, c, rfl, hl, hA, hS, hc, q⟩ := h
    obtain ⟨t2, P2, R2⟩ := a_back (P := P) (w := w) (f := f) (cdv := cdv) (outer := outer) (s := s) (H := H) (E := E) (A := A) hm hj GP kP bP gP GG kG bG gG hr
    obtain ⟨t1, P1, R1⟩ := a_front (P := P) (w := w) (f := f) (cdv := cdv) (outer := outer) (s := s) (H := H) (E := E) (A := A) P2 GD kD bD gD (hr.mono (by omega))
    refine ⟨t1, P1, R1 t S a c (6 - (m + 1)) _ { nx := fun _ H' => Q .non H', rt := Q } H hl hA hc ⟨?_, ?_, ?_⟩ q (fun H' s1 h1 h2 h3 h6 => ?_)⟩
    · intro h
      exact if_pos h
    · intro h h2
      unfold lwA
      rw [if_neg h, if_pos h2]
    · intro h h2 h3
      unfold lwA
      rw [if_neg h, if_neg h2, if_pos h3]
    · have hn : ¬ (¬ (c = 40 ∨ c = 91) ∨ 6 - (m + 1) = 6) := by
        intro z
        rcases z with z | z
        · exact z h3
        · omega
      refine R2 t S a c (lwA (lsub S t (m + 1)) S t (6 - (m + 1)) a c) _ H' hl hA hS hc h3 ?_ ?_ (q.of s1)
      · intro h40
        unfold lwA
        rw [if_neg h1, if_neg h2, if_neg hn, if_pos h40]
      · intro h40
        unfold lwA
        rw [if_neg h1, if_neg h2, if_neg hn, if_neg h40]
end
end K7
set_option maxRecDepth 100000
set_option maxHeartbeats 2000000
namespace K7
open PySem PySem.Spec PyProof.Rows L2
theorem lstrip_len (x : List Nat) : (Txt.lstripChars (SX.S x) (SX.S [32])).length = x.length - (x.takeWhile (· == 32)).length := by
  unfold Txt.lstripChars
  rw [PyProof.Rows.stripBy_eq]
  have e1 : (fun c => (SX.S [32]).cps.contains c) = fun c => c == 32 := by
    funext c
    show (#[32] : Array Nat).contains c = _
    by_cases h : c = 32
    · subst h
      simp
    · have h1 : (c == 32) = false := by simpa using h
      rw [h1]
      simp [h]
  have e2 : (SX.S x).cps.toList = x := by simp
  have e3 : (SX.S x).length = x.length := tx_len x
  have h := takeWhile_len_le (fun c : Nat => c == 32) x
  show (Builtin.Str.strSub (SX.S x) (stripLo (fun c => (SX.S [32]).cps.contains c) true (SX.S x)) _).length = _
  rw [e1]
  unfold stripHi stripLo Builtin.Str.strSub
  simp only [if_true, e2, e3]
  simp [Str.length]
abbrev NP : List Str := ["_law_text_z", "_law_signs_here", "_law_at", "_law_stop", "_law_deep", "_law_total", "_law_made", "_law_many", "_law_atom_here", "_law_times", "_law_spot", "_law_power_here", "_law_back_here"]
def whBody : Stmt → List Stmt
  | .While _ b _ _ => b
  | _ => []
def pb : List Stmt := whBody ((defBody sLPhrase).getD 1 (.Pass ⟨0, 0, 0, 0⟩))
abbrev S13 (t S stop : List Nat) (a : Nat) (d : Nat) (T : Nat) (M : Option (List Nat)) (k : Nat) (y8 y9 y10 y11 y12 : Option V) : L2.St :=
  [some (tx t), some (tx S), some (.int (a : Int)), some (tx stop), some (.int (d : Int)), some (.int (T : Int)), some (moV M), some (.int (k : Int)), y8, y9, y10, y11, y12]
section
variable {P : Program} {w : World} {K : PySem.W.Frag} {mg : Str → Option Value} {base : Heap}
variable {f fA fG fW : Addr} {fd fdA fdG fdW : FuncData} {cdv : Value} {A : Around} {outer : List Env} {s : Shared} {H : Hp} {E : XK} {k : Nat}
abbrev XP (P : Program) (w : World) (K : PySem.W.Frag) (mg : Str → Option Value) (base : Heap) (f : Addr) (cdv : Value) (A : Around) (outer : List Env) (s : Shared) (H : Hp) (E : XK) : Cx := (cxOf CX0 P w K mg base NP "_law_phrase" (defScope sLPhrase) f cdv A outer s H E).nox
theorem abs_nat (x : Int) : (if x < 0 then -x else x) = ((x.natAbs : Nat) : Int) := by
  split <;> omega
/-- the end of a turn: the word so far grows -/
theorem p_grow (GG : FnOk P w K mg base CX0 2 fG fdG ["_law_one"] spGone) (kG : PySem.W.keepIn K (.ref fG) = true) (bG : Binds K fdG ["_law_one"] []) (gG : mg "_law_gone_back" = some (.ref fG)) (hr : Room 2 (A.deeper (envOfC "_law_phrase" (defScope sLPhrase) s.heap.objs.size f cdv))) :
    ∃ t, PSs (XP P w K mg base f cdv A outer s H E) (pb.drop 9) t ∧ ∀ (t' S stop : List Nat) (a d T n1 e k : Nat) (M m1 : Option (List Nat)) (x : Int) (p : Addr) (y10 y11 y12 : Option V) (D : Ends) (H0 : Hp), H0 p = some (.tup (lrV (.ok (n1, m1, e)))) → x ≠ 0 → x.natAbs ≤ 100 → Mg n1 m1 → (∀ W, M = some W → W.length ≤ 2000) → (∀ W w1, M = some W → m1 = some w1 → W.length + w1.length * x.natAbs = T) →
      (∀ H' y12', Same H0 H' → D.nx (S13 t' S stop a d T (mo2 T x M m1) k (some (.ref p)) (some (.int x)) y10 y11 y12') H') → t D (S13 t' S stop a d T M k (some (.ref p)) (some (.int x)) y10 y11 y12) H0 := by
  refine ⟨_, pss_one (ps_if (PW.pt (pw_or (pt_cmpR op_isN (pv 6) pe_non (nomark _)) (pw_or (pt_cmpR op_isN (pe_ix ix_tup (pv 8) pe_int (fun _ _ => rfl)) pe_non (nomark _)) (pw_or1 (pt_cmpR op_gt (pv 5) pe_int (nomark _))))))
      (pss_one (ps_set (i := 6) scLPhrase.nd rfl (.inl rfl) pe_non))
      (pss_cons (ps_set (i := 12) scLPhrase.nd rfl (.inl rfl) (pe_call GG hr (by rfl) gG kG bG .nil pass0 (pa_cons (pe_ix ix_tup (pv 8) pe_int (fun _ _ => rfl)) pa_nil)))
      (pss_one (ps_set (i := 6) scLPhrase.nd rfl (.inl rfl) (pe_op op_add_str (pv 6) (pe_ifExp (pt_cmpR op_gt (pv 9) pe_int (nomark _)) (pe_op o_mulB (pe_ix ix_tup (pv 8) pe_int (fun _ _ => rfl)) (pv 9)) (pe_op o_mulB (pv 12) (pe_un un_neg (pv 9))))))))), ?_⟩
  intro t' S stop a d T n1 e k M m1 x p y10 y11 y12 D H0 hp hx hx2 g1 hM hL nx
  have none_way : mo2 T x M m1 = none → D.nx (S13 t' S stop a d T none k (some (.ref p)) (some (.int x)) y10 y11 y12) H0 := by
    intro e
    have z := nx H0 y12 (Same.refl _)
    rw [e] at z
    exact z
  refine ⟨_, rfl, rfl, _, rfl, ?_⟩
  cases M with
  | none => exact iteT (iteT (none_way rfl))
  | some W =>
    refine iteF ⟨_, rfl, p, _, 2, _, rfl, rfl, SqT.of hp, rfl, rfl, _, rfl, ?_⟩
    cases m1 with
    | none => exact iteT (iteT (none_way rfl))
    | some w1 =>
      obtain ⟨a1, a2, a3⟩ := g1 w1 rfl
      have hTl := hL W w1 rfl rfl
      refine iteF ⟨_, rfl, _, _, rfl, rfl, _, rfl, ?_⟩
      by_cases hT : 2000 < T
      · have ed : decide ((T : Int) > 2000) = true := decide_eq_true (by omega)
        rw [ed]
        exact iteT (none_way (if_pos hT))
      · have ed : decide ((T : Int) > 2000) = false := decide_eq_false (by omega)
        rw [ed]
        have em : mo2 T x (some W) (some w1) = some (W ++ pwr w1 x) := if_neg hT
        rw [em] at nx
        have hprod : w1.length * x.natAbs ≤ 2000 := by omega
        refine iteF ⟨_, rfl, p, _, 2, _, rfl, rfl, SqT.of hp, rfl, w1, rfl, by omega, a3, fun H1 s1 => ?_⟩
        have hW := hM W rfl
        refine ⟨_, rfl, _, rfl, _, _, rfl, rfl, _, rfl, ?_⟩
        by_cases hpos : 0 < x
        · have ex : decide (x > 0) = true := decide_eq_true hpos
          rw [ex]
          refine iteT ⟨_, rfl, p, _, 2, _, rfl, rfl, SqT.of (s1 _ _ hp), rfl, _, rfl, w1, x.natAbs, rfl, ?_, by omega, by omega, by omega, _, _, rfl, rfl, ?_, ?_⟩
          · rw [show ((x.natAbs : Nat) : Int) = x by omega]
          · rw [tx_len, tx_len, rep_len, Nat.mul_comm]
            exact Nat.le_of_lt (big_lt (by omega))
          · rw [SX.S_cat]
            have ep : pwr w1 x = rep x.natAbs w1 := if_neg (by omega)
            rw [ep] at nx
            exact nx H1 _ s1
        · have ex : decide (x > 0) = false := decide_eq_false hpos
          rw [ex]
          refine iteF ⟨_, rfl, _, rfl, _, rfl, opp w1, x.natAbs, rfl, ?_, by rw [opp_len]; omega, by omega, by rw [opp_len]; omega, _, _, rfl, rfl, ?_, ?_⟩
          · rw [show ((x.natAbs : Nat) : Int) = -x by omega]
          · rw [tx_len, tx_len, rep_len, opp_len, Nat.mul_comm]
            exact Nat.le_of_lt (big_lt (by omega))
          · rw [SX.S_cat]
            have ep : pwr w1 x = rep x.natAbs (opp w1) := if_pos (by omega)
            rw [ep] at nx
            exact nx H1 _ s1
end
end K7
set_option maxRecDepth 100000
set_option maxHeartbeats 2000000
namespace K7
open PySem PySem.Spec PyProof.Rows L2
section
variable {P : Program} {w : World} {K : PySem.W.Frag} {mg : Str → Option Value} {base : Heap}
variable {f fA fG fW : Addr} {fd fdA fdG fdW : FuncData} {cdv : Value} {A : Around} {outer : List Env} {s : Shared} {H : Hp} {E : XK}
/-- the total, the number of factors; then the word -/
theorem p_tot (mA : mg "abs" = none) (GG : FnOk P w K mg base CX0 2 fG fdG ["_law_one"] spGone) (kG : PySem.W.keepIn K (.ref fG) = true) (bG : Binds K fdG ["_law_one"] []) (gG : mg "_law_gone_back" = some (.ref fG)) (hr : Room 2 (A.deeper (envOfC "_law_phrase" (defScope sLPhrase) s.heap.objs.size f cdv))) :
    ∃ t, PSs (XP P w K mg base f cdv A outer s H E) (pb.drop 7) t ∧ ∀ (t' S stop : List Nat) (a d T n1 e k : Nat) (M m1 : Option (List Nat)) (x : Int) (p : Addr) (y10 y11 y12 : Option V) (D : Ends) (H0 : Hp), H0 p = some (.tup (lrV (.ok (n1, m1, e)))) → x.natAbs ≤ 100 → Mg n1 m1 → Mg T M →
      (∀ H' y12', Same H0 H' → D.nx (S13 t' S stop a d (T + n1 * x.natAbs) (if x = 0 then M else mo2 (T + n1 * x.natAbs) x M m1) (k + 1) (some (.ref p)) (some (.int x)) y10 y11 y12') H' ∧ D.ct (S13 t' S stop a d (T + n1 * x.natAbs) (if x = 0 then M else mo2 (T + n1 * x.natAbs) x M m1) (k + 1) (some (.ref p)) (some (.int x)) y10 y11 y12') H') →
      t D (S13 t' S stop a d T M k (some (.ref p)) (some (.int x)) y10 y11 y12) H0 := by
  obtain ⟨t2, P2, R2⟩ := p_grow (P := P) (w := w) (K := K) (mg := mg) (base := base) (f := f) (cdv := cdv) (A := A) (outer := outer) (s := s) (H := H) (E := E) GG kG bG gG hr
  refine ⟨_, pss_cons (ps_par (i := 5) (j := 7) (by rfl) scLPhrase.nd rfl rfl (by decide) rfl rfl (pa_cons (pe_op op_add (pv 5) (pe_op op_mul (pe_ix ix_tup (pv 8) pe_int (fun _ _ => rfl)) (pe_callB call_abs (by rfl) mA (by decide +kernel) (pa_cons (pv 9) pa_nil)))) (pa_cons (pe_op op_add (pv 7) pe_int) pa_nil)) (by rfl))
    (pss_cons (ps_if (pt_cmpR op_eq (pv 9) pe_int (nomark _)) (pss_one ps_continue) pss_nil) P2), ?_⟩
  intro t' S stop a d T n1 e k M m1 x p y10 y11 y12 D H0 hp hx g1 gM nx
  have eT : (T : Int) + (n1 : Int) * (if x < 0 then -x else x) = ((T + n1 * x.natAbs : Nat) : Int) := by
    rw [abs_nat]
    omega
  refine ⟨_, rfl, _, rfl, p, _, 1, _, rfl, rfl, SqT.of hp, rfl, _, rfl, x, rfl, _, _, rfl, rfl, .inr ?_, _, _, rfl, rfl, _, rfl, _, _, rfl, rfl, _, _, rfl, ?_⟩
  · rw [abs_nat]
    omega
  dsimp only
  rw [eT]
  refine ⟨_, rfl, rfl, _, rfl, ?_⟩
  by_cases h0 : x = 0
  · subst h0
    have z := (nx H0 y12 (Same.refl _)).2
    rw [if_pos rfl] at z
    have e0 : decide (V.int 0 = V.int 0) = true := decide_eq_true rfl
    rw [e0]
    exact iteT z
  · have e0 : decide (V.int x = V.int 0) = false := decide_eq_false (fun z => h0 (by injection z))
    rw [e0]
    refine iteF (R2 t' S stop a d (T + n1 * x.natAbs) n1 e (k + 1) M m1 x p y10 y11 y12 _ H0 hp h0 hx g1 ?_ ?_ fun H' y12' s1 => ?_)
    · intro W hW
      obtain ⟨q1, q2, _⟩ := gM W hW
      omega
    · intro W w1 hW hw
      obtain ⟨q1, q2, _⟩ := gM W hW
      obtain ⟨r1, r2, _⟩ := g1 w1 hw
      rw [q1, r1]
    · have z := (nx H' y12' s1).1
      rw [if_neg h0] at z
      exact z
end
end K7
set_option maxRecDepth 100000
set_option maxHeartbeats 2000000
namespace K7
open PySem PySem.Spec PyProof.Rows L2
theorem cut_from (l : List Nat) (n : Nat) : cutS (SX.S l) (some (n : Int)) none = SX.S (l.drop n) := by
  unfold cutS
  rw [HT.sIx_none, HT.sIx_nat, tx_len]
  show SX.S ((l.drop (min n l.length)).take (l.length - min n l.length)) = SX.S (l.drop n)
  by_cases h : n ≤ l.length
  · rw [Nat.min_eq_left h, List.take_of_length_le (by rw [List.length_drop]; omega)]
  · rw [Nat.min_eq_right (by omega), List.drop_length, List.drop_eq_nil_of_le (by omega)]
    simp
theorem pwV_er (i : Nat) : pwV (.error i) = lrV (.error i) := rfl
section
variable {P : Program} {w : World} {K : PySem.W.Frag} {mg : Str → Option Value} {base : Heap}
variable {f fA fG fW : Addr} {fd fdA fdG fdW : FuncData} {cdv : Value} {A : Around} {outer : List Env} {s : Shared} {H : Hp} {E : XK}
/-- where a turn of the loop leads -/
def Nxt (AT : Nat → Nat → Lr) (t S stop : List Nat) (d a n : Nat) (r : Lr) (H0 : Hp) (D : Ends) : Prop := ∀ (H' : Hp) (a' T' : Nat) (M' : Option (List Nat)) (k' : Nat) (y8 y9 y10 y11 y12 : Option V), Same H0 H' → a < a' → a' ≤ t.length → Mg T' M' → lwL AT t stop n a' T' M' k' = r →
  D.nx (S13 t S stop a' d T' M' k' y8 y9 y10 y11 y12) H' ∧ D.ct (S13 t S stop a' d T' M' k' y8 y9 y10 y11 y12) H'
theorem Nxt.of {AT : Nat → Nat → Lr} {t S stop : List Nat} {d a n : Nat} {r : Lr} {H0 H1 : Hp} {D : Ends} (h : Nxt AT t S stop d a n r H0 D) (s : Same H0 H1) : Nxt AT t S stop d a n r H1 D := fun H' a' T' M' k' y8 y9 y10 y11 y12 s' => h H' a' T' M' k' y8 y9 y10 y11 y12 (s.trans s')
/-- behind an atom: its power -/
theorem p_pow (B : Bn mg) (mA : mg "abs" = none) (GG : FnOk P w K mg base CX0 2 fG fdG ["_law_one"] spGone) (kG : PySem.W.keepIn K (.ref fG) = true) (bG : Binds K fdG ["_law_one"] []) (gG : mg "_law_gone_back" = some (.ref fG))
    (GW : FnOk P w K mg base CX0 2 fW fdW ["_law_text_z", "_law_at"] spLp) (kW : PySem.W.keepIn K (.ref fW) = true) (bW : Binds K fdW ["_law_text_z", "_law_at"] []) (gW : mg "_law_power" = some (.ref fW)) (hr : Room 2 (A.deeper (envOfC "_law_phrase" (defScope sLPhrase) s.heap.objs.size f cdv))) :
    ∃ t, PSs (XP P w K mg base f cdv A outer s H E) (pb.drop 5) t ∧ ∀ (AT : Nat → Nat → Lr) (t' S stop : List Nat) (a0 d T n1 e k n c : Nat) (M m1 : Option (List Nat)) (p : Addr) (y10 y11 y12 : Option V) (r : Lr) (D : Ends) (H0 : Hp), t'.length ≤ 9000 → Asc t' → mk t' a0 = [c] → c ≠ 32 → ¬ (0 < k ∧ stop = [c]) → AT a0 c = .ok (n1, m1, e) → a0 < e → e ≤ t'.length →
      H0 p = some (.tup (lrV (.ok (n1, m1, e)))) → Mg n1 m1 → Mg T M → lwL AT t' stop (n + 1) a0 T M k = r → Tpl H0 r D.rt → Nxt AT t' S stop d a0 n r H0 D → t D (S13 t' S stop e d T M k (some (.ref p)) (some (.int 1)) y10 y11 y12) H0 := by
  obtain ⟨t2, P2, R2⟩ := p_tot (P := P) (w := w) (K := K) (mg := mg) (base := base) (f := f) (cdv := cdv) (A := A) (outer := outer) (s := s) (H := H) (E := E) mA GG kG bG gG hr
  refine ⟨_, pss_cons (ps_set (i := 10) scLPhrase.nd rfl (.inl rfl) (pe_op op_sub (pe_op op_add (pv 2) (pe_callB call_len_str (by rfl) B.len PySem.boot_len (pa_cons (pe_slice sl_str (pv 0) (po_some (pv 2)) po_none) pa_nil))) (pe_callB call_len_str (by rfl) B.len PySem.boot_len (pa_cons (pe_m1 PySem.F.slot_str_lstrip PySem.F.type_str_lstrip mt_lstripChars (pe_slice sl_str (pv 0) (po_some (pv 2)) po_none) pe_str) pa_nil))))
    (pss_cons (ps_if (pt_cmpR op_eq (pe_slice sl_str (pv 0) (po_some (pv 10)) (po_some (pe_op op_add (pv 10) pe_int))) pe_str (nomark _))
      (pss_cons (ps_set (i := 11) scLPhrase.nd rfl (.inl rfl) (pe_call GW hr (by rfl) gW kW bW .nil pass0 (pa_cons (pv 0) (pa_cons (pe_op op_add (pv 10) pe_int) pa_nil))))
      (pss_cons (ps_if (pt_cmpR op_eq (pe_ix ix_tup (pv 11) pe_int (fun _ _ => rfl)) pe_str (nomark _)) (pss_one (ps_ret (pv 11))) pss_nil)
      (pss_one (ps_par (i := 9) (j := 2) (by rfl) scLPhrase.nd rfl rfl (by decide) rfl rfl (pa_cons (pe_ix ix_tup (pv 11) pe_int (fun _ _ => rfl)) (pa_cons (pe_ix ix_tup (pv 11) pe_int (fun _ _ => rfl)) pa_nil)) (by rfl))))) pss_nil) P2), ?_⟩
  intro AT t' S stop a0 d T n1 e k n c M m1 p y10 y11 y12 r D H0 hl hA hc h32 hk hx h0e hel hp g1 gM hr0 hT nx
  have hd : (t'.drop e).length ≤ 9000 := by
    rw [List.length_drop]
    omega
  have hsp := spn_le hel
  refine ⟨_, rfl, _, rfl, _, rfl, _, rfl, _, rfl, asc_big (w := t') (by omega), ?_⟩
  rw [cut_from]
  refine ⟨_, rfl, asc_big (w := t'.drop e) (by omega), _, _, rfl, rfl, _, rfl, _, rfl, _, rfl, _, rfl, asc_big (w := t') (by omega), ?_⟩
  rw [cut_from, sp32]
  refine ⟨⟨_, rfl⟩, _, _, rfl, rfl, asc_big (w := t'.drop e) (by omega), _, rfl, ?_, _, _, rfl, rfl, ?_⟩
  · rw [lstrip_len]
    exact Nat.le_of_lt (big_lt (by omega))
  dsimp only
  have es : (e : Int) + ((SX.S (t'.drop e)).length : Nat) - ((Txt.lstripChars (SX.S (t'.drop e)) (SX.S [32])).length : Nat) = ((e + spn t' e : Nat) : Int) := by
    rw [lstrip_len, tx_len]
    unfold spn at hsp ⊢
    have h2 := takeWhile_len_le (fun x : Nat => x == 32) (t'.drop e)
    omega
  rw [es]
  refine ⟨_, rfl, _, rfl, _, rfl, _, rfl, _, _, rfl, rfl, _, rfl, _, rfl, asc_big (w := t') (by omega), ?_⟩
  rw [sl_mk, caret]
  refine ⟨rfl, _, rfl, ?_⟩
  rw [tx_eq]
  by_cases hm : mk t' (e + spn t' e) = [94]
  · rw [decide_eq_true hm]
    refine iteT ⟨_, rfl, _, rfl, _, _, rfl, rfl, t', e + spn t' e + 1, rfl, hl, hA, fun Tp nTp => ?_⟩
    have sT : Same H0 (upd H0 Tp (.tup (pwV (rdE t' (e + spn t' e + 1 + spn t' (e + spn t' e + 1)))))) := same_new nTp
    cases hy : rdE t' (e + spn t' e + 1 + spn t' (e + spn t' e + 1)) with
    | error i =>
      rw [hy] at sT
      refine ⟨_, rfl, Tp, _, 0, _, rfl, rfl, SqT.of upd_same, rfl, rfl, true, rfl, iteT ⟨_, rfl, ?_⟩⟩
      have er : r = .error i := by
        rw [← hr0]
        exact lwL_xer hc h32 hk hx hm hy
      subst er
      exact hT.new (Same.refl _) nTp
    | ok y =>
      obtain ⟨x, e2⟩ := y
      rw [hy] at sT
      have k1 := rdE_ok hy
      have k2 := rdE_le hy
      refine ⟨_, rfl, Tp, _, 0, _, rfl, rfl, SqT.of upd_same, rfl, rfl, false, rfl, iteF ?_⟩
      refine ⟨_, rfl, Tp, _, 1, _, rfl, rfl, SqT.of upd_same, rfl, _, rfl, Tp, _, 2, _, rfl, rfl, SqT.of upd_same, rfl, _, _, rfl, ?_⟩
      refine R2 t' S stop e2 d T n1 e k M m1 x p (some (.int ((e + spn t' e : Nat) : Int))) (some (.ref Tp)) y12 _ _ (sT _ _ hp) k1.2 g1 gM fun H' y12' s1 => ?_
      refine nx H' e2 _ _ (k + 1) _ _ _ _ _ (sT.trans s1) (by omega) k2 (mg_step gM g1) ?_
      rw [← hr0]
      exact (lwL_pow hc h32 hk hx hm hy).symm
  · rw [decide_eq_false hm]
    refine iteF (R2 t' S stop e d T n1 e k M m1 1 p (some (.int ((e + spn t' e : Nat) : Int))) y11 y12 _ _ hp (by decide) g1 gM fun H' y12' s1 => ?_)
    refine nx H' e _ _ (k + 1) _ _ _ _ _ s1 h0e hel (mg_step gM g1) ?_
    rw [← hr0, lwL_one hc h32 hk hx hm]
    have e1 : T + n1 * (1 : Int).natAbs = T + n1 := by
      show T + n1 * 1 = T + n1
      omega
    rw [e1, if_neg (by decide)]
end
end K7
set_option maxRecDepth 100000
set_option maxHeartbeats 2000000
namespace K7
open PySem PySem.Spec PyProof.Rows L2
section
variable {P : Program} {w : World} {K : PySem.W.Frag} {mg : Str → Option Value} {base : Heap}
variable {f fA fG fW : Addr} {fd fdA fdG fdW : FuncData} {cdv : Value} {A : Around} {outer : List Env} {s : Shared} {H : Hp} {E : XK}
/-- a turn of the loop -/
theorem p_turn {m j : Nat} (hj : 2 ≤ j) (B : Bn mg) (mA : mg "abs" = none) (GG : FnOk P w K mg base CX0 2 fG fdG ["_law_one"] spGone) (kG : PySem.W.keepIn K (.ref fG) = true) (bG : Binds K fdG ["_law_one"] []) (gG : mg "_law_gone_back" = some (.ref fG))
    (GW : FnOk P w K mg base CX0 2 fW fdW ["_law_text_z", "_law_at"] spLp) (kW : PySem.W.keepIn K (.ref fW) = true) (bW : Binds K fdW ["_law_text_z", "_law_at"] []) (gW : mg "_law_power" = some (.ref fW))
    (GA : FnOk P w K mg base CX0 j fA fdA ["_law_text_z", "_law_signs_here", "_law_at", "_law_deep"] (spLat m)) (kA : PySem.W.keepIn K (.ref fA) = true) (bA : Binds K fdA ["_law_text_z", "_law_signs_here", "_law_at", "_law_deep"] []) (gA : mg "_law_atom" = some (.ref fA)) (hr : Room j (A.deeper (envOfC "_law_phrase" (defScope sLPhrase) s.heap.objs.size f cdv))) :
    ∃ t, PSs (XP P w K mg base f cdv A outer s H E) pb t ∧ ∀ (t' S stop : List Nat) (a T k n c : Nat) (M : Option (List Nat)) (y8 y9 y10 y11 y12 : Option V) (r : Lr) (D : Ends) (H0 : Hp), t'.length ≤ 9000 → Asc t' → Asc S → mk t' a = [c] → Mg T M →
      lwL (lwA (lsub S t' m) S t' (6 - m)) t' stop (n + 1) a T M k = r → Tpl H0 r D.rt → Nxt (lwA (lsub S t' m) S t' (6 - m)) t' S stop (6 - m) a n r H0 D → t D (S13 t' S stop a (6 - m) T M k y8 y9 y10 y11 y12) H0 := by
  have hr2 : Room 2 (A.deeper (envOfC "_law_phrase" (defScope sLPhrase) s.heap.objs.size f cdv)) := hr.mono hj
  obtain ⟨t2, P2, R2⟩ := p_pow (P := P) (w := w) (K := K) (mg := mg) (base := base) (f := f) (cdv := cdv) (A := A) (outer := outer) (s := s) (H := H) (E := E) B mA GG kG bG gG GW kW bW gW hr2
  refine ⟨_, pss_cons (ps_if (pt_cmpR op_eq (pe_ix ix_str (pv 0) (pv 2) (fun _ _ => rfl)) pe_str (nomark _)) (pss_cons (ps_set (i := 2) scLPhrase.nd rfl (.inl rfl) (pe_op op_add (pv 2) pe_int)) (pss_one ps_continue)) pss_nil)
    (pss_cons (ps_if (PW.pt (pw_and (pt_cmpR op_gt (pv 7) pe_int (nomark _)) (pw_and1 (pt_cmpR op_eq (pe_ix ix_str (pv 0) (pv 2) (fun _ _ => rfl)) (pv 3) (nomark _))))) (pss_one (ps_ret (pe_tup (pa_cons pe_str (pa_cons (pv 5) (pa_cons (pv 6) (pa_cons (pv 2) pa_nil))))))) pss_nil)
    (pss_cons (ps_par (i := 8) (j := 9) (by rfl) scLPhrase.nd rfl rfl (by decide) rfl rfl (pa_cons (pe_call GA hr (by rfl) gA kA bA .nil pass0 (pa_cons (pv 0) (pa_cons (pv 1) (pa_cons (pv 2) (pa_cons (pv 4) pa_nil))))) (pa_cons pe_int pa_nil)) (by rfl))
    (pss_cons (ps_if (pt_cmpR op_eq (pe_ix ix_tup (pv 8) pe_int (fun _ _ => rfl)) pe_str (nomark _)) (pss_one (ps_ret (pv 8))) pss_nil)
    (pss_cons (ps_set (i := 2) scLPhrase.nd rfl (.inl rfl) (pe_ix ix_tup (pv 8) pe_int (fun _ _ => rfl))) P2)))), ?_⟩
  intro t' S stop a T k n c M y8 y9 y10 y11 y12 r D H0 hl hA hS hc gM hr0 hT nx
  have hlt := mk_lt hc
  refine ⟨_, rfl, _, rfl, _, _, c, rfl, rfl, asc_big (w := t') (by omega), at_mk hc, rfl, _, rfl, ?_⟩
  rw [sp32]
  show if decide (tx [c] = tx [32]) = true then _ else _
  rw [tx_eq]
  by_cases h32 : c = 32
  · subst h32
    rw [decide_eq_true rfl]
    refine iteT ⟨_, rfl, _, _, rfl, rfl, ?_⟩
    refine (nx H0 (a + 1) T M k y8 y9 y10 y11 y12 (Same.refl _) (by omega) (by omega) gM ?_).2
    rw [← hr0, lwL_sp hc]
  · have en : decide ([c] = [32]) = false := decide_eq_false (by simpa using h32)
    rw [en]
    refine iteF ?_
    have rest : ¬ (0 < k ∧ stop = [c]) → (tSeq (tPar 8 9 (tCons (tCall (spLat m) [] E0 (tCons (tVar 0) (tCons (tVar 1) (tCons (tVar 2) (tCons (tVar 4) tNil))))) (tCons (tC (.int 1)) tNil)))
        (tSeq (tIfS (tTest (tOp rEq (tOp (rIxT K) (tVar 8) (tC (.int 0))) (tC vno))) (tRet (tVar 8)) tNext) (tSeq (tAsg (tOp (rIxT K) (tVar 8) (tC (.int 3))) (gName 2)) t2))) D (S13 t' S stop a (6 - m) T M k y8 y9 y10 y11 y12) H0 := by
      intro hk
      refine ⟨_, rfl, _, rfl, _, rfl, _, rfl, t', S, a, c, rfl, hl, hA, hS, hc, fun H1 p s1 np hp => ⟨_, _, rfl, ?_⟩⟩
      cases hx : lwA (lsub S t' m) S t' (6 - m) a c with
      | error i =>
        rw [hx] at hp
        have er : r = .error i := by
          rw [← hr0]
          exact lwL_er hc h32 hk hx
        subst er
        refine ⟨_, rfl, p, _, 0, _, rfl, rfl, SqT.of hp, rfl, rfl, true, rfl, iteT ⟨_, rfl, hT H1 p s1 np hp⟩⟩
      | ok y =>
        obtain ⟨n1, m1, e⟩ := y
        rw [hx] at hp
        obtain ⟨g1, g2, g3⟩ := lat_ok hA hS hc n1 m1 e hx
        refine ⟨_, rfl, p, _, 0, _, rfl, rfl, SqT.of hp, rfl, rfl, false, rfl, iteF ⟨_, rfl, p, _, 3, _, rfl, rfl, SqT.of hp, rfl, ?_⟩⟩
        exact R2 _ t' S stop a (6 - m) T n1 e k n c M m1 p y10 y11 y12 r D H1 hl hA hc h32 hk hx (by omega) g2 hp g3 gM hr0 (hT.of s1) (nx.of s1)
    refine ⟨_, rfl, _, _, rfl, rfl, _, rfl, ?_⟩
    by_cases hk0 : 0 < k
    · have ek : decide ((k : Int) > 0) = true := decide_eq_true (by omega)
      rw [ek]
      refine iteT ⟨_, rfl, _, rfl, _, _, c, rfl, rfl, asc_big (w := t') (by omega), at_mk hc, _, rfl, rfl, _, rfl, ?_⟩
      show if decide (tx [c] = tx stop) = true then _ else _
      rw [tx_eq]
      by_cases hst : [c] = stop
      · rw [decide_eq_true hst]
        have er : r = .ok (T, M, a) := by
          rw [← hr0]
          exact lwL_stop hc h32 ⟨hk0, hst.symm⟩
        subst er
        refine iteT ⟨_, rfl, _, rfl, _, rfl, two_le (by show 4 ≤ 4; decide), fun T1 nT => hT.new (Same.refl _) nT⟩
      · rw [decide_eq_false hst]
        exact iteF (rest fun z => hst z.2.symm)
    · have ek : decide ((k : Int) > 0) = false := decide_eq_false (by omega)
      rw [ek]
      exact iteF (iteF (rest fun z => hk0 z.1))
theorem ok_lph {f : Addr} {fd : FuncData} {m j : Nat} (hj : 2 ≤ j) (F : Fun K "_law_phrase" "_law_phrase" sLPhrase f fd) (B : Bn mg) (mA : mg "abs" = none) (GG : FnOk P w K mg base CX0 2 fG fdG ["_law_one"] spGone) (kG : PySem.W.keepIn K (.ref fG) = true) (bG : Binds K fdG ["_law_one"] []) (gG : mg "_law_gone_back" = some (.ref fG))
    (GW : FnOk P w K mg base CX0 2 fW fdW ["_law_text_z", "_law_at"] spLp) (kW : PySem.W.keepIn K (.ref fW) = true) (bW : Binds K fdW ["_law_text_z", "_law_at"] []) (gW : mg "_law_power" = some (.ref fW))
    (GA : FnOk P w K mg base CX0 j fA fdA ["_law_text_z", "_law_signs_here", "_law_at", "_law_deep"] (spLat m)) (kA : PySem.W.keepIn K (.ref fA) = true) (bA : Binds K fdA ["_law_text_z", "_law_signs_here", "_law_at", "_law_deep"] []) (gA : mg "_law_atom" = some (.ref fA)) :
    FnOk P w K mg base CX0 (j + 1) f fd ["_law_text_z", "_law_signs_here", "_law_at", "_law_stop", "_law_deep"] (spLph (fun S t stop => lwP S t m stop) (6 - m)) := by
  refine F.ok scLPhrase (fun vs H Q E h => ?_) (fun cdv A outer s H vs Q E hr h => ?_)
  · obtain ⟨t, S, stop, a, rfl, _⟩ := h
    rfl
  · obtain ⟨t, S, stop, a, rfl, hl, hA, hS, ha, q⟩ := h
    obtain ⟨t2, P2, R2⟩ := p_turn (P := P) (w := w) (f := f) (cdv := cdv) (outer := outer) (s := s) (H := H) (E := E) (A := A) hj B mA GG kG bG gG GW kW bW gW GA kA bA gA hr
    refine ⟨_, pss_cons (ps_asg (pe_tup (pa_cons pe_int (pa_cons pe_str (pa_cons pe_int pa_nil)))) (pg_tup rfl (pgs_cons (pg_name (i := 5) scLPhrase.nd rfl (.inl rfl)) (pgs_cons (pg_name (i := 6) scLPhrase.nd rfl (.inl rfl)) (pgs_cons (pg_name (i := 7) scLPhrase.nd rfl (.inl rfl)) pgs_nil)))))
      (pss_cons (ps_while PassesOwn.never (pt_cmpR op_lt (pv 2) (pe_callB call_len_str (by rfl) B.len PySem.boot_len (pa_cons (pv 0) pa_nil)) (nomark _)) P2)
      (pss_one (ps_ret (pe_ifExp (PW.pt (pw_and (pt_cmpR op_eq (pv 3) pe_str (nomark _)) (pw_and1 (pt_cmpR op_gt (pv 7) pe_int (nomark _))))) (pe_tup (pa_cons pe_str (pa_cons (pv 5) (pa_cons (pv 6) (pa_cons (pv 2) pa_nil))))) (pe_tup (pa_cons pe_str (pa_cons (pe_callB call_len_str (by rfl) B.len PySem.boot_len (pa_cons (pv 0) pa_nil)) pa_nil))))))), ?_⟩
    have er0 : lwL (lwA (lsub S t m) S t (6 - m)) t stop (t.length + 2) a 0 (some []) 0 = lwP S t m stop a := (lwP_eq S t m stop a).symm
    dsimp only at q
    generalize lwP S t m stop a = r at *
    refine ⟨(by show 3 ≤ sizeLine; decide), fun T0 nT0 => ⟨T0, _, rfl, SqT.of upd_same, rfl, _, _, rfl, _, _, rfl, _, _, rfl, rfl, ?_⟩⟩
    have s0 : Same H (upd H T0 (.tup [.int 0, .str (Str.ofString ""), .int 0])) := same_new nT0
    refine ⟨fun mm σ H1 => ∃ (a' T k n : Nat) (M : Option (List Nat)) (y8 y9 y10 y11 y12 : Option V), σ = S13 t S stop a' (6 - m) T M k y8 y9 y10 y11 y12 ∧ Same H H1 ∧ a' ≤ t.length ∧ mm = t.length - a' ∧ Mg T M ∧ t.length + 2 ≤ n + a' ∧ lwL (lwA (lsub S t m) S t (6 - m)) t stop n a' T M k = r,
      ⟨_, a, 0, 0, t.length + 2, some [], none, none, none, none, none, ?_, s0, ha, rfl, mg0, by omega, er0⟩, ?_⟩
    · rw [e0S]
      rfl
    rintro mm σ H1 ⟨a', T, k, n, M, y8, y9, y10, y11, y12, rfl, sm, ha', rfl, gM, hn, hrn⟩
    refine ⟨_, rfl, _, rfl, _, rfl, asc_big (w := t) (by omega), _, _, rfl, rfl, _, rfl, ?_⟩
    rw [tx_len]
    by_cases hlt : a' < t.length
    · have ed : decide ((a' : Int) < (t.length : Int)) = true := decide_eq_true (by omega)
      rw [ed]
      refine iteT ⟨fun σ' H' => ∃ (a'' T k n : Nat) (M : Option (List Nat)) (y8 y9 y10 y11 y12 : Option V), σ' = S13 t S stop a'' (6 - m) T M k y8 y9 y10 y11 y12 ∧ Same H H' ∧ a' < a'' ∧ a'' ≤ t.length ∧ Mg T M ∧ t.length + 2 ≤ n + a'' ∧ lwL (lwA (lsub S t m) S t (6 - m)) t stop n a'' T M k = r, ?_, ?_⟩
      · rintro σ' H' ⟨a'', T, k, n, M, y8, y9, y10, y11, y12, rfl, sm', h1, h2, gM', hn', hrn'⟩
        exact ⟨t.length - a'', by omega, a'', T, k, n, M, y8, y9, y10, y11, y12, rfl, sm', h2, rfl, gM', hn', hrn'⟩
      · obtain ⟨c, hc⟩ : ∃ c, mk t a' = [c] := by
          rcases mk_cases t a' with h | h
          · have := mk_end h
            omega
          · exact h
        match n, hn, hrn with
        | n + 1, hn, hrn =>
          refine R2 t S stop a' T k n c M y8 y9 y10 y11 y12 r _ H1 hl hA hS hc gM hrn (q.of sm) ?_
          intro H' a'' T' M' k' y8 y9 y10 y11 y12 s1 h1 h2 g h3
          exact ⟨⟨a'', T', k', n, M', y8, y9, y10, y11, y12, rfl, sm.trans s1, h1, h2, g, by omega, h3⟩, ⟨a'', T', k', n, M', y8, y9, y10, y11, y12, rfl, sm.trans s1, h1, h2, g, by omega, h3⟩⟩
        | 0, hn, hrn => omega
    · have ed : decide ((a' : Int) < (t.length : Int)) = false := decide_eq_false (by omega)
      rw [ed]
      have hme : mk t a' = [] := by
        rcases mk_cases t a' with h | ⟨c, h⟩
        · exact h
        · have := mk_lt h
          omega
      have er : r = if stop = [] ∧ 0 < k then .ok (T, M, a') else .error t.length := by
        match n, hn, hrn with
        | n + 1, hn, hrn =>
          rw [← hrn]
          exact lwL_end hme
        | 0, hn, hrn => omega
      refine iteF ⟨_, rfl, rfl, _, rfl, ?_⟩
      rw [e0S, tx_eq]
      have bad : ¬ (stop = [] ∧ 0 < k) → ∀ H2 T1, H2 = H1 → H2 T1 = none → Q (.ref T1) (upd H2 T1 (.tup [vno, .int (((SX.S t).length : Nat) : Int)])) := by
        intro hb H2 T1 e1 nT
        subst e1
        rw [if_neg hb] at er
        subst er
        rw [tx_len]
        exact q.new sm nT
      by_cases hs : stop = []
      · rw [decide_eq_true hs]
        refine iteT ⟨_, rfl, _, _, rfl, rfl, _, rfl, ?_⟩
        by_cases hk : 0 < k
        · have ek : decide ((k : Int) > 0) = true := decide_eq_true (by omega)
          rw [ek]
          rw [if_pos ⟨hs, hk⟩] at er
          subst er
          exact iteT ⟨_, rfl, _, rfl, _, rfl, two_le (by show 4 ≤ 4; decide), fun T1 nT => q.new sm nT⟩
        · have ek : decide ((k : Int) > 0) = false := decide_eq_false (by omega)
          rw [ek]
          exact iteF ⟨_, rfl, _, rfl, asc_big (w := t) (by omega), two_le (by show 2 ≤ 4; decide), fun T1 nT => bad (fun z => hk z.2) _ T1 rfl nT⟩
      · rw [decide_eq_false hs]
        exact iteF (iteF ⟨_, rfl, _, rfl, asc_big (w := t) (by omega), two_le (by show 2 ≤ 4; decide), fun T1 nT => bad (fun z => hs z.1) _ T1 rfl nT⟩)
end
end K7
set_option maxRecDepth 100000
set_option maxHeartbeats 2000000
namespace K7
open PySem PySem.Spec PyProof.Rows L2
def whyV : Except (Option Nat) (List Nat) → List V
  | .error (some i) => [tagP, .int (i : Int)]
  | .error none => [tagL, .int 400]
  | .ok w => [.str (Str.ofString ""), tx w]
theorem lw_some {L t : List Nat} (hL : ∀ c ∈ L, c ∈ menu) (hA : Asc t) {n e : Nat} {mo : Option (List Nat)} (h : lwP (sg L) t 6 [] 0 = .ok (n, mo, e)) (hn : n ≤ 400) : ∃ w, mo = some w := by
  have z := level_same hL hA 6 [] (fun c e => by cases e) 0 (Nat.zero_le _)
  rw [h] at z
  cases hf : fin t [] (rdP L t 6 0) with
  | error i =>
    rw [hf] at z
    have := z.er
    cases this
  | ok x =>
    obtain ⟨w, e'⟩ := x
    rw [hf] at z
    obtain ⟨n', mo', e1, r⟩ := z.good
    cases e1
    exact ⟨w, (r.1 hn).1⟩
section
variable {P : Program} {w : World} {K : PySem.W.Frag} {mg : Str → Option Value} {base : Heap}
variable {fA fP fG fW fD fS : Addr} {fdA fdP fdG fdW fdD fdS : FuncData}
/-- the law's phrases at each depth -/
theorem ok_llev (TP : Tp K mg "_law_phrase" sLPhrase ["_law_text_z", "_law_signs_here", "_law_at", "_law_stop", "_law_deep"] fP fdP) (TA : Tp K mg "_law_atom" sLAtom ["_law_text_z", "_law_signs_here", "_law_at", "_law_deep"] fA fdA) (B : Bn mg) (mA : mg "abs" = none)
    (GG : FnOk P w K mg base CX0 2 fG fdG ["_law_one"] spGone) (kG : PySem.W.keepIn K (.ref fG) = true) (bG : Binds K fdG ["_law_one"] []) (gG : mg "_law_gone_back" = some (.ref fG))
    (GW : FnOk P w K mg base CX0 2 fW fdW ["_law_text_z", "_law_at"] spLp) (kW : PySem.W.keepIn K (.ref fW) = true) (bW : Binds K fdW ["_law_text_z", "_law_at"] []) (gW : mg "_law_power" = some (.ref fW))
    (GD : FnOk P w K mg base CX0 1 fD fdD ["_law_text_z", "_law_at"] spLd) (kD : PySem.W.keepIn K (.ref fD) = true) (bD : Binds K fdD ["_law_text_z", "_law_at"] []) (gD : mg "_law_is_digit" = some (.ref fD)) :
    ∀ m, m ≤ 6 → FnOk P w K mg base CX0 (3 + 2 * m) fP fdP ["_law_text_z", "_law_signs_here", "_law_at", "_law_stop", "_law_deep"] (spLph (fun S t stop => lwP S t m stop) (6 - m)) := by
  intro m
  induction m with
  | zero =>
    intro _
    exact ok_lph (m := 0) (j := 2) (by decide) TP.F B mA GG kG bG gG GW kW bW gW (ok_lat0 TA.F GD kD bD gD) TA.F.kp TA.b TA.g
  | succ m ih =>
    intro hm
    have GP := ih (by omega)
    have GA := ok_latS (m := m) (by omega) (j := 3 + 2 * m) (by omega) TA.F GD kD bD gD GP TP.F.kp TP.b TP.g GG kG bG gG
    exact ok_lph (m := m + 1) (j := 3 + 2 * m + 1) (by omega) TP.F B mA GG kG bG gG GW kW bW gW GA TA.F.kp TA.b TA.g
def spDue : Sp := fun vs H Q _ => ∃ t L : List Nat, vs = [tx t, tx L] ∧ t.length ≤ 9000 ∧ Asc t ∧ Lt L ∧ ∀ H' T, Same H H' → H T = none → H' T = some (.tup (whyV (rdW L t))) → Q (.ref T) H'
theorem ok_due {f : Addr} {fd : FuncData} (F : Fun K "_law_phrase_due" "_law_phrase_due" sDue f fd) (GP : FnOk P w K mg base CX0 15 fP fdP ["_law_text_z", "_law_signs_here", "_law_at", "_law_stop", "_law_deep"] (spLph (fun S t stop => lwP S t 6 stop) 0)) (kP : PySem.W.keepIn K (.ref fP) = true) (bP : Binds K fdP ["_law_text_z", "_law_signs_here", "_law_at", "_law_stop", "_law_deep"] []) (gP : mg "_law_phrase" = some (.ref fP))
    (GS : FnOk P w K mg base CX0 1 fS fdS ["_law_letters_z"] spSigns) (kS : PySem.W.keepIn K (.ref fS) = true) (bS : Binds K fdS ["_law_letters_z"] []) (gS : mg "_law_signs" = some (.ref fS)) :
    FnOk P w K mg base CX0 16 f fd ["_law_text_z", "_law_letters_z"] spDue := by
  refine F.ok scDue (fun vs H Q E h => ?_) (fun cdv A outer s H vs Q E hr h => ?_)
  · obtain ⟨t, L, rfl, _⟩ := h
    rfl
  · obtain ⟨t, L, rfl, hl, hA, hL, q⟩ := h
    have hr1 : Room 1 (A.deeper (envOfC "_law_phrase_due" (defScope sDue) s.heap.objs.size f cdv)) := hr.mono (by decide)
    refine ⟨_, pss_cons (ps_set (i := 2) scDue.nd rfl (.inl rfl) (pe_call GP hr (by rfl) gP kP bP .nil pass0 (pa_cons (pv 0) (pa_cons (pe_call GS hr1 (by rfl) gS kS bS .nil pass0 (pa_cons (pv 1) pa_nil)) (pa_cons pe_int (pa_cons pe_str (pa_cons pe_int pa_nil)))))))
      (pss_cons (ps_if (pt_cmpR op_eq (pe_ix ix_tup (pv 2) pe_int (fun _ _ => rfl)) pe_str (nomark _)) (pss_one (ps_ret (pe_tup (pa_cons pe_str (pa_cons (pe_ix ix_tup (pv 2) pe_int (fun _ _ => rfl)) pa_nil))))) pss_nil)
      (pss_one (ps_ret (pe_ifExp (pt_cmpR op_gt (pe_ix ix_tup (pv 2) pe_int (fun _ _ => rfl)) pe_int (nomark _)) (pe_tup (pa_cons pe_str (pa_cons pe_int pa_nil))) (pe_tup (pa_cons pe_str (pa_cons (pe_ix ix_tup (pv 2) pe_int (fun _ _ => rfl)) pa_nil))))))), ?_⟩
    have hsg : Asc (sg L) := fun c hc => by
      have := sg_let hL.2 hc
      omega
    refine ⟨_, rfl, _, rfl, L, rfl, hL, fun H1 s1 => ⟨t, sg L, [], 0, ?_, hl, hA, hsg, Nat.zero_le _, fun H2 p s2 np hp => ?_⟩⟩
    · rw [e0S]
      rfl
    dsimp only at hp
    have sm := s1.trans s2
    have ws := word_same hL.2 hA
    unfold lwW at ws
    have put : ∀ T1, H2 T1 = none → Q (.ref T1) (upd H2 T1 (.tup (whyV (rdW L t)))) := fun T1 nT => q _ T1 (sm.trans (same_new nT)) (sm.free nT) upd_same
    cases hx : lwP (sg L) t 6 [] 0 with
    | error i =>
      rw [hx] at hp ws
      rw [← ws] at put
      exact ⟨_, rfl, p, _, 0, _, rfl, rfl, SqT.of hp, rfl, rfl, true, rfl, iteT ⟨_, rfl, p, _, 1, _, rfl, rfl, SqT.of hp, rfl, two_le (by show 2 ≤ 4; decide), put⟩⟩
    | ok y =>
      obtain ⟨n, mo, e⟩ := y
      rw [hx] at hp ws
      refine ⟨_, rfl, p, _, 0, _, rfl, rfl, SqT.of hp, rfl, rfl, false, rfl, iteF ⟨_, rfl, p, _, 1, _, rfl, rfl, SqT.of hp, rfl, _, _, rfl, rfl, _, rfl, ?_⟩⟩
      dsimp only at ws
      by_cases hn : 400 < n
      · have ed : decide ((n : Int) > 400) = true := decide_eq_true (by omega)
        rw [ed]
        rw [if_pos hn] at ws
        rw [← ws] at put
        exact iteT ⟨two_le (by show 2 ≤ 4; decide), put⟩
      · have ed : decide ((n : Int) > 400) = false := decide_eq_false (by omega)
        rw [ed]
        obtain ⟨wd, rfl⟩ := lw_some hL.2 hA hx (by omega)
        rw [if_neg hn] at ws
        rw [← ws] at put
        exact iteF ⟨_, rfl, p, _, 2, _, rfl, rfl, SqT.of hp, rfl, two_le (by show 2 ≤ 4; decide), put⟩
end
end K7
set_option maxRecDepth 100000
set_option maxHeartbeats 2000000
namespace K7
open PySem PySem.Spec PyProof.Rows L2
/-! what _law_loose writes -/
def sp (n : Nat) : List Nat := List.replicate n 32
def tm5 : List Int := [1, 2, -1, 0, -2]
def tm7 : List Int := [1, 2, -1, 0, -2, 13, -10]
def nt (x : Int) : List Nat := if x = 1 then [49] else if x = 2 then [50] else if x = -1 then [45, 49] else if x = 0 then [48] else if x = -2 then [45, 50] else if x = 13 then [49, 51] else [45, 49, 48]
theorem nt_is : ∀ x ∈ tm7, Str.ofString (toString x) = SX.S (nt x) := by decide +kernel
theorem nt_len : ∀ x ∈ tm7, (nt x).length ≤ 3 ∧ x.natAbs ≤ 13 := by decide
theorem nt_asc : ∀ x ∈ tm7, ∀ c ∈ nt x, c < 128 := by decide
theorem tm57 : ∀ x ∈ tm5, x ∈ tm7 ∧ x.natAbs ≤ 2 := by decide
def AtmS (L p c : List Nat) : Prop := ∃ x ∈ sg L, p = [x] ∧ c = [x]
def AtmC (Lo Lo0 : List Nat → List Nat → Prop) (p c : List Nat) : Prop := (p = [49] ∧ c = []) ∨ (∃ T1 W1 T2 W2, Lo T1 W1 ∧ Lo0 T2 W2 ∧ p = [91] ++ T1 ++ [44] ++ T2 ++ [93] ∧ c = W1 ++ W2 ++ opp W1 ++ opp W2) ∨ (∃ T1 W1, Lo T1 W1 ∧ p = [40] ++ T1 ++ [41] ∧ c = W1)
/-- an atom with its number -/
def Atm (L : List Nat) (C : List Nat → List Nat → Prop) (p c : List Nat) (x : Int) : Prop := (AtmS L p c ∧ x ∈ tm7) ∨ (C p c ∧ x ∈ tm5)
/-- with its power -/
def Pwd (p : List Nat) (x : Int) (F : List Nat) : Prop := (x = 1 ∧ p ≠ [49] ∧ F = p) ∨ ∃ s3 s4, s3 ≤ 2 ∧ s4 ≤ 2 ∧ F = p ++ sp s3 ++ [94] ++ sp s4 ++ nt x
def Fac (L : List Nat) (C : List Nat → List Nat → Prop) (F V : List Nat) : Prop := ∃ (p c G : List Nat) (x : Int) (s1 s2 : Nat), Atm L C p c x ∧ Pwd p x G ∧ s1 ≤ 2 ∧ 1 ≤ s2 ∧ s2 ≤ 2 ∧ V = pwr c x ∧ F = sp s1 ++ G ++ sp s2
def Cat (Fc : List Nat → List Nat → Prop) (l : List (List Nat × List Nat)) : Prop := ∀ q ∈ l, Fc q.1 q.2
def txt (l : List (List Nat × List Nat)) : List Nat := (l.map (·.1)).flatten
def wrd (l : List (List Nat × List Nat)) : List Nat := (l.map (·.2)).flatten
def Phr (Fc : List Nat → List Nat → Prop) (T W : List Nat) : Prop := ∃ l, 1 ≤ l.length ∧ l.length ≤ 3 ∧ Cat Fc l ∧ T = txt l ∧ W = wrd l
def Cmp (L : List Nat) : Nat → List Nat → List Nat → Prop
  | 0 => fun _ _ => False
  | d + 1 => AtmC (fun T W => Phr (Fac L (Cmp L d)) T W) (fun T W => Phr (Fac L fun _ _ => False) T W)
def Loo (L : List Nat) (d : Nat) (T W : List Nat) : Prop := Phr (Fac L (Cmp L d)) T W
/-! bounds -/
def tb : Nat → Nat
  | 0 => 39
  | d + 1 => 3 * (tb d + 54)
def wb : Nat → Nat
  | 0 => 42
  | d + 1 => 12 * (wb d + 42)
/-- of a compound atom -/
def pn : Nat → Nat
  | 0 => 1
  | d + 1 => tb d + 42
def pk : Nat → Nat
  | 0 => 7
  | d + 1 => 2 * (wb d + 42)
theorem tb_is (d : Nat) : 3 * (pn d + 12) = tb d := by cases d <;> rfl
theorem wb_is (d : Nat) : 3 * (2 * pk d) = wb d := by
  cases d with
  | zero => rfl
  | succ d =>
    show 3 * (2 * (2 * (wb d + 42))) = 12 * (wb d + 42)
    omega
theorem pn_pos (d : Nat) : 1 ≤ pn d := by
  cases d with
  | zero => exact Nat.le_refl _
  | succ d =>
    show 1 ≤ tb d + 42
    omega
theorem pk_pos (d : Nat) : 13 ≤ 2 * pk d := by
  cases d with
  | zero => decide
  | succ d =>
    show 13 ≤ 2 * (2 * (wb d + 42))
    omega
def Ok2 (n k : Nat) (T W : List Nat) : Prop := T.length ≤ n ∧ W.length ≤ k ∧ Asc T ∧ Asc W
theorem sp_len (n : Nat) : (sp n).length = n := List.length_replicate
theorem sp_asc (n : Nat) : Asc (sp n) := fun c hc => by rw [(List.mem_replicate.mp hc).2]; decide
theorem flat_len {α : Type} (f : α → List Nat) (n : Nat) : ∀ l : List α, (∀ q ∈ l, (f q).length ≤ n) → (l.map f).flatten.length ≤ l.length * n
  | [], _ => Nat.zero_le _
  | q :: r, h => by
    have ih := flat_len f n r fun q hq => h q (List.mem_cons_of_mem _ hq)
    have h1 := h q List.mem_cons_self
    rw [List.map_cons, List.flatten_cons, List.length_append, List.length_cons, Nat.add_mul]
    omega
theorem flat_asc {α : Type} (f : α → List Nat) (l : List α) (h : ∀ q ∈ l, Asc (f q)) : Asc (l.map f).flatten := by
  intro c hc
  obtain ⟨x, hx, hcx⟩ := List.mem_flatten.mp hc
  obtain ⟨q, hq, rfl⟩ := List.mem_map.mp hx
  exact h q hq c hcx
theorem pwd_ok {p F : List Nat} {x : Int} (h : Pwd p x F) (hx : x ∈ tm7) (hp : Asc p) : F.length ≤ p.length + 8 ∧ Asc F := by
  rcases h with ⟨_, _, rfl⟩ | ⟨s3, s4, h3, h4, rfl⟩
  · exact ⟨by omega, hp⟩
  · have := (nt_len x hx).1
    refine ⟨?_, asc_app (asc_app (asc_app (asc_app hp (sp_asc _)) (by unfold Asc; decide)) (sp_asc _)) (nt_asc x hx)⟩
    rw [List.length_append, List.length_append, List.length_append, List.length_append, sp_len, sp_len]
    simp only [List.length_cons, List.length_nil]
    omega
theorem fac_ok {L : List Nat} {C : List Nat → List Nat → Prop} {n k : Nat} (hL : ∀ c ∈ L, c ∈ menu) (hn : 1 ≤ n) (hk : 13 ≤ 2 * k) (hC : ∀ p c, C p c → Ok2 n k p c) {F V : List Nat} (h : Fac L C F V) : Ok2 (n + 12) (2 * k) F V := by
  obtain ⟨p, c, G, x, s1, s2, ha, hp, h1, _, h2, rfl, rfl⟩ := h
  have key : p.length ≤ n ∧ (pwr c x).length ≤ 2 * k ∧ Asc p ∧ Asc c ∧ x ∈ tm7 := by
    rcases ha with ⟨⟨y, hy, rfl, rfl⟩, hx⟩ | ⟨hc, hx⟩
    · have hy2 := sg_let hL hy
      have ha : Asc [y] := fun z hz => by rw [List.mem_singleton.mp hz]; omega
      refine ⟨by simpa using hn, ?_, ha, ha, hx⟩
      rw [pwr_len]
      have := (nt_len x hx).2
      simp only [List.length_cons, List.length_nil]
      omega
    · obtain ⟨q1, q2, q3, q4⟩ := hC p c hc
      have := tm57 x hx
      refine ⟨q1, ?_, q3, q4, this.1⟩
      rw [pwr_len]
      exact Nat.mul_le_mul this.2 q2
  obtain ⟨k1, k2, k3, k4, k5⟩ := key
  obtain ⟨g1, g2⟩ := pwd_ok hp k5 k3
  refine ⟨?_, k2, asc_app (asc_app (sp_asc _) g2) (sp_asc _), pwr_asc k4 x⟩
  rw [List.length_append, List.length_append, sp_len, sp_len]
  omega
theorem phr_ok {Fc : List Nat → List Nat → Prop} {n k : Nat} (hF : ∀ F V, Fc F V → Ok2 n k F V) {T W : List Nat} (h : Phr Fc T W) : Ok2 (3 * n) (3 * k) T W := by
  obtain ⟨l, _, h3, hc, rfl, rfl⟩ := h
  refine ⟨?_, ?_, flat_asc _ l fun q hq => (hF _ _ (hc q hq)).2.2.1, flat_asc _ l fun q hq => (hF _ _ (hc q hq)).2.2.2⟩
  · exact Nat.le_trans (flat_len _ n l fun q hq => (hF _ _ (hc q hq)).1) (Nat.mul_le_mul h3 (Nat.le_refl _))
  · exact Nat.le_trans (flat_len _ k l fun q hq => (hF _ _ (hc q hq)).2.1) (Nat.mul_le_mul h3 (Nat.le_refl _))
theorem loo0_ok {L : List Nat} (hL : ∀ c ∈ L, c ∈ menu) {T W : List Nat} (h : Phr (Fac L fun _ _ => False) T W) : Ok2 39 42 T W :=
  phr_ok (n := 13) (k := 14) (fun F V hF => fac_ok (n := 1) (k := 7) hL (by decide) (by decide) (fun _ _ z => z.elim) hF) h
theorem cmp_ok {L : List Nat} (hL : ∀ c ∈ L, c ∈ menu) : ∀ (d : Nat) (p c : List Nat), Cmp L d p c → Ok2 (pn d) (pk d) p c
  | 0, p, c, h => h.elim
  | d + 1, p, c, h => by
    have lo : ∀ T W, Phr (Fac L (Cmp L d)) T W → Ok2 (tb d) (wb d) T W := fun T W hT => by
      have z := phr_ok (fun F V hF => fac_ok hL (pn_pos d) (pk_pos d) (cmp_ok hL d) hF) hT
      rw [tb_is, wb_is] at z
      exact z
    rcases h with ⟨rfl, rfl⟩ | ⟨T1, W1, T2, W2, h1, h2, rfl, rfl⟩ | ⟨T1, W1, h1, rfl, rfl⟩
    · refine ⟨pn_pos (d + 1), Nat.zero_le _, by unfold Asc; decide, asc_nil⟩
    · obtain ⟨a1, a2, a3, a4⟩ := lo _ _ h1
      obtain ⟨b1, b2, b3, b4⟩ := loo0_ok hL h2
      refine ⟨?_, ?_, asc_app (asc_app (asc_app (asc_app (by unfold Asc; decide) a3) (by unfold Asc; decide)) b3) (by unfold Asc; decide), asc_app (asc_app (asc_app a4 b4) (opp_asc a4)) (opp_asc b4)⟩
      · show _ ≤ tb d + 42
        simp only [List.length_append, List.length_cons, List.length_nil]
        omega
      · show _ ≤ 2 * (wb d + 42)
        simp only [List.length_append, opp_len]
        omega
    · obtain ⟨a1, a2, a3, a4⟩ := lo _ _ h1
      refine ⟨?_, ?_, asc_app (asc_app (by unfold Asc; decide) a3) (by unfold Asc; decide), a4⟩
      · show _ ≤ tb d + 42
        simp only [List.length_append, List.length_cons, List.length_nil]
        omega
      · show _ ≤ 2 * (wb d + 42)
        omega
theorem loo_fac {L : List Nat} (hL : ∀ c ∈ L, c ∈ menu) (d : Nat) {F V : List Nat} (h : Fac L (Cmp L d) F V) : Ok2 (pn d + 12) (2 * pk d) F V := fac_ok hL (pn_pos d) (pk_pos d) (cmp_ok hL d) h
theorem loo_ok {L : List Nat} (hL : ∀ c ∈ L, c ∈ menu) (d : Nat) {T W : List Nat} (h : Loo L d T W) : Ok2 (tb d) (wb d) T W := by
  have z := phr_ok (fun F V hF => loo_fac hL d hF) h
  rw [tb_is, wb_is] at z
  exact z
theorem bd3 {d : Nat} (h : d ≤ 3) : pn d ≤ 1100 ∧ pk d ≤ 26000 ∧ tb d ≤ 3200 ∧ wb d ≤ 152000 := by
  match d, h with
  | 0, _ => decide
  | 1, _ => decide
  | 2, _ => decide
  | 3, _ => decide
end K7
set_option maxRecDepth 100000
set_option maxHeartbeats 2000000
namespace K7
open PySem PySem.Spec PyProof.Rows L2
theorem scSpace : FnScope ["_law_box"] ["_law_box"] (defScope sSpace) := ⟨rfl, rfl, rfl, by decide +kernel, rfl, by decide +kernel, by decide +kernel⟩
abbrev NO : List Str := ["_law_box", "_law_letters_z", "_law_deep", "_law_some", "_law_one", "_law_k", "_law_way", "_law_times", "_law_sign", "_law_part", "_law_piece", "_law_left", "_law_right", "_law_inner", "_law_back_here"]
theorem scLoose : FnScope NO ["_law_box", "_law_letters_z", "_law_deep"] (defScope sLoose) := ⟨rfl, rfl, rfl, by decide +kernel, rfl, by decide +kernel, by decide +kernel⟩
def forBody : Stmt → List Stmt
  | .For _ _ b _ _ => b
  | _ => []
def ob : List Stmt := forBody ((defBody sLoose).getD 1 (.Pass ⟨0, 0, 0, 0⟩))
abbrev obs (i : Nat) : Stmt := ob.getD i (.Pass ⟨0, 0, 0, 0⟩)
theorem ob_is : ob = [obs 0, obs 1, obs 2, obs 3, obs 4, obs 5] := by rfl
theorem sp2S : Str.ofString "  " = SX.S [32, 32] := by decide
section
variable {P : Program} {w : World} {K : PySem.W.Frag} {mg : Str → Option Value} {base : Heap}
variable {f fA fD fS fG fZ fL : Addr} {fd fdA fdD fdS fdG fdZ fdL : FuncData} {cdv : Value} {A : Around} {outer : List Env} {s : Shared} {H : Hp} {E : XK}
/-! _law_space -/
def spSpace : Sp := fun vs H Q _ => ∃ (b m : Addr), vs = [.ref b] ∧ Bx H b m ∧ ∀ n H', n ≤ 2 → BxGo H H' b m → Q (tx (sp n)) H'
theorem ok_space {f : Addr} {fd : FuncData} {k : Nat} (F : Fun K "_law_space" "_law_space" sSpace f fd) (GA : FnOk P w K mg base CX0 (k + 2) fA fdA ["_law_box", "_law_some"] spAny) (kA : PySem.W.keepIn K (.ref fA) = true) (bA : Binds K fdA ["_law_box", "_law_some"] []) (gA : mg "_law_any" = some (.ref fA)) :
    FnOk P w K mg base CX0 (k + 3) f fd ["_law_box"] spSpace := by
  refine F.ok scSpace (fun vs H Q E h => ?_) (fun cdv A outer s H vs Q E hr h => ?_)
  · obtain ⟨b, m, rfl, _⟩ := h
    rfl
  · obtain ⟨b, m, rfl, hB, q⟩ := h
    refine ⟨_, pss_one (ps_ret (pe_call GA hr (by rfl) gA kA bA .nil pass0 (pa_cons (pv 0) (pa_cons (pe_lst (pa_cons pe_str (pa_cons pe_str (pa_cons pe_str (pa_cons pe_str pa_nil))))) pa_nil)))), ?_⟩
    refine ⟨_, rfl, (by show 4 ≤ sizeLine; decide), fun p np => ⟨b, m, p, _, rfl, hB.same (same_new np), upd_same, hB.ne np, (by simp), (by show 4 < 1000000; decide), fun x H1 hx hT => ?_⟩⟩
    have g : BxGo H H1 b m := (BxGo.of hB (same_new np)).trans hT.go
    have hx2 : x = tx (sp 0) ∨ x = tx (sp 1) ∨ x = tx (sp 2) := by
      have h2 : x = V.str (SX.S []) ∨ x = V.str (SX.S [32]) ∨ x = V.str (SX.S [32, 32]) := by
        rw [e0S, sp32, sp2S] at hx
        simpa using hx
      exact h2
    rcases hx2 with rfl | rfl | rfl
    · exact q 0 H1 (by decide) g
    · exact q 1 H1 (by decide) g
    · exact q 2 H1 (by decide) g
abbrev XO (P : Program) (w : World) (K : PySem.W.Frag) (mg : Str → Option Value) (base : Heap) (f : Addr) (cdv : Value) (A : Around) (outer : List Env) (s : Shared) (H : Hp) (E : XK) : Cx := (cxOf CX0 P w K mg base NO "_law_loose" (defScope sLoose) f cdv A outer s H E).nox
abbrev S15 (b : Addr) (L : List Nat) (d : Nat) (ps : Addr) (W : List Nat) (y5 y6 y7 y8 y9 y10 y11 y12 y13 y14 : Option V) : L2.St := [some (.ref b), some (tx L), some (.int (d : Int)), some (.ref ps), some (tx W), y5, y6, y7, y8, y9, y10, y11, y12, y13, y14]
theorem o0 (cD : FnOk P w K mg base CX0 1 fD fdD ["_law_box", "_law_many"] spDraw) (kD : PySem.W.keepIn K (.ref fD) = true) (bD : Binds K fdD ["_law_box", "_law_many"] []) (gD : mg "_law_draw" = some (.ref fD))
    (GA : FnOk P w K mg base CX0 2 fA fdA ["_law_box", "_law_some"] spAny) (kA : PySem.W.keepIn K (.ref fA) = true) (bA : Binds K fdA ["_law_box", "_law_some"] []) (gA : mg "_law_any" = some (.ref fA)) (hr : Room 3 (A.deeper (envOfC "_law_loose" (defScope sLoose) s.heap.objs.size f cdv))) :
    ∃ t, PS (XO P w K mg base f cdv A outer s H E) (obs 0) t ∧ ∀ (b m : Addr) (L : List Nat) (d : Nat) (ps : Addr) (W : List Nat) (y5 y6 y7 y8 y9 y10 y11 y12 y13 y14 : Option V) (D : Ends) (H0 : Hp), Bx H0 b m →
      (∀ (wy x : Int) H', 0 ≤ wy → x ∈ tm5 → BxGo H0 H' b m → D.nx (S15 b L d ps W y5 (some (.int wy)) (some (.int x)) y8 y9 y10 y11 y12 y13 y14) H') → t D (S15 b L d ps W y5 y6 y7 y8 y9 y10 y11 y12 y13 y14) H0 := by
  have r1 : Room 1 (A.deeper (envOfC "_law_loose" (defScope sLoose) s.heap.objs.size f cdv)) := hr.mono (by decide)
  have r2 : Room 2 (A.deeper (envOfC "_law_loose" (defScope sLoose) s.heap.objs.size f cdv)) := hr.mono (by decide)
  refine ⟨_, ps_par (i := 6) (j := 7) (by rfl) scLoose.nd rfl rfl (by decide) rfl rfl (pa_cons (pe_call cD r1 (by rfl) gD kD bD .nil pass0 (pa_cons (pv 0) (pa_cons pe_int pa_nil)))
    (pa_cons (pe_call GA r2 (by rfl) gA kA bA .nil pass0 (pa_cons (pv 0) (pa_cons (pe_lst (pa_cons pe_int (pa_cons pe_int (pa_cons pe_int (pa_cons (pe_un un_neg pe_int) (pa_cons pe_int (pa_cons (pe_un un_neg pe_int) pa_nil))))))) pa_nil))) pa_nil)) (by rfl), ?_⟩
  intro b m L d ps W y5 y6 y7 y8 y9 y10 y11 y12 y13 y14 D H0 hB nx
  refine ⟨_, rfl, b, m, 5, rfl, hB, by decide, by decide, fun wy H1 w0 w1 hT => ⟨_, rfl, _, rfl, _, rfl, (by show 6 ≤ sizeLine; decide), fun p np => ⟨b, m, p, _, rfl, hT.1.same (same_new np), upd_same, hT.1.ne np, (by simp), (by show 6 < 1000000; decide), fun x H2 hx hT2 => ?_⟩⟩⟩
  have g : BxGo H0 H2 b m := (hT.go.trans (BxGo.of hT.1 (same_new np))).trans hT2.go
  obtain ⟨z, rfl, hz⟩ : ∃ z, x = V.int z ∧ z ∈ tm5 := by
    have h2 : x = .int 1 ∨ x = .int 2 ∨ x = .int (-1) ∨ x = .int 0 ∨ x = .int (-2) := by simpa using hx
    rcases h2 with h | h | h | h | h <;> exact ⟨_, h, by decide⟩
  exact ⟨_, _, rfl, nx wy z H2 w0 hz g⟩
/-- the power -/
theorem o2 (B : Bn mg) (GZ : FnOk P w K mg base CX0 3 fZ fdZ ["_law_box"] spSpace) (kZ : PySem.W.keepIn K (.ref fZ) = true) (bZ : Binds K fdZ ["_law_box"] []) (gZ : mg "_law_space" = some (.ref fZ)) (hr : Room 3 (A.deeper (envOfC "_law_loose" (defScope sLoose) s.heap.objs.size f cdv))) :
    ∃ t, PS (XO P w K mg base f cdv A outer s H E) (obs 2) t ∧ ∀ (b m : Addr) (L : List Nat) (d : Nat) (ps : Addr) (W p : List Nat) (x : Int) (y5 y6 y8 y10 y11 y12 y13 y14 : Option V) (D : Ends) (H0 : Hp), Bx H0 b m → x ∈ tm7 → p.length ≤ 2000 →
      (∀ F H', Pwd p x F → BxGo H0 H' b m → D.nx (S15 b L d ps W y5 y6 (some (.int x)) y8 (some (tx F)) y10 y11 y12 y13 y14) H') → t D (S15 b L d ps W y5 y6 (some (.int x)) y8 (some (tx p)) y10 y11 y12 y13 y14) H0 := by
  refine ⟨_, ps_if (PW.pt (pw_or (pt_cmpR op_ne (pv 7) pe_int (nomark _)) (pw_or1 (pt_cmpR op_eq (pv 9) pe_str (nomark _)))))
    (pss_one (ps_set (i := 9) scLoose.nd rfl (.inl rfl) (pe_op op_add_str (pe_op op_add_str (pe_op op_add_str (pe_op op_add_str (pv 9) (pe_call GZ hr (by rfl) gZ kZ bZ .nil pass0 (pa_cons (pv 0) pa_nil))) pe_str) (pe_call GZ hr (by rfl) gZ kZ bZ .nil pass0 (pa_cons (pv 0) pa_nil))) (pe_callTy call_str_int (by rfl) B.str (by decide +kernel) (pa_cons (pv 7) pa_nil))))) pss_nil, ?_⟩
  intro b m L d ps W p x y5 y6 y8 y10 y11 y12 y13 y14 D H0 hB hx hp nx
  have yes : (tAsg (tOp (fun x y H Q => ∃ i j, x = V.str i ∧ y = V.str j ∧ i.length + j.length ≤ sizeLine ∧ Q (V.str (i ++ j)) H) (tOp (fun x y H Q => ∃ i j, x = V.str i ∧ y = V.str j ∧ i.length + j.length ≤ sizeLine ∧ Q (V.str (i ++ j)) H) (tOp (fun x y H Q => ∃ i j, x = V.str i ∧ y = V.str j ∧ i.length + j.length ≤ sizeLine ∧ Q (V.str (i ++ j)) H) (tOp (fun x y H Q => ∃ i j, x = V.str i ∧ y = V.str j ∧ i.length + j.length ≤ sizeLine ∧ Q (V.str (i ++ j)) H) (tVar 9) (tCall spSpace [] E0 (tCons (tVar 0) tNil))) (tC (.str (Str.ofString "^")))) (tCall spSpace [] E0 (tCons (tVar 0) tNil)))
      (tCB (fun xs H Q => ∃ i, xs = [.int i] ∧ i.natAbs.log2 < 1920 ∧ Q (.str (toString i)) H) (tCons (tVar 7) tNil))) (gName 9)) D (S15 b L d ps W y5 y6 (some (.int x)) y8 (some (tx p)) y10 y11 y12 y13 y14) H0 := by
    refine ⟨_, rfl, _, rfl, b, m, rfl, hB, fun n1 H1 hn1 g1 => ⟨_, _, rfl, rfl, ?_, ?_⟩⟩
    · rw [tx_len, tx_len, sp_len]
      exact Nat.le_of_lt (big_lt (by omega))
    rw [SX.S_cat, caret]
    refine ⟨_, _, rfl, rfl, ?_, ?_⟩
    · rw [tx_len, tx_len, List.length_append, sp_len]
      exact Nat.le_of_lt (big_lt (by simp only [List.length_cons, List.length_nil]; omega))
    rw [SX.S_cat]
    refine ⟨_, rfl, b, m, rfl, g1.1, fun n2 H2 hn2 g2 => ⟨_, _, rfl, rfl, ?_, ?_⟩⟩
    · rw [tx_len, tx_len, List.length_append, List.length_append, sp_len, sp_len]
      exact Nat.le_of_lt (big_lt (by simp only [List.length_cons, List.length_nil]; omega))
    rw [SX.S_cat]
    have hnl := nt_len x hx
    refine ⟨_, rfl, x, rfl, ?_, _, _, rfl, rfl, ?_, ?_⟩
    · have h2 : ∀ x ∈ tm7, x.natAbs.log2 < 1920 := by decide
      exact h2 x hx
    · rw [nt_is x hx, tx_len, tx_len, List.length_append, List.length_append, List.length_append, sp_len, sp_len]
      exact Nat.le_of_lt (big_lt (by simp only [List.length_cons, List.length_nil]; omega))
    rw [nt_is x hx, SX.S_cat]
    exact nx _ H2 (.inr ⟨n1, n2, hn1, hn2, rfl⟩) (g1.trans g2)
  refine ⟨_, rfl, rfl, _, rfl, ?_⟩
  by_cases h1 : x = 1
  · subst h1
    have ed : decide (V.int 1 = V.int 1) = true := decide_eq_true rfl
    rw [ed]
    refine iteF ⟨_, rfl, rfl, _, rfl, ?_⟩
    rw [one49, tx_eq]
    by_cases hp1 : p = [49]
    · rw [decide_eq_true hp1]
      exact iteT yes
    · rw [decide_eq_false hp1]
      exact iteF (nx p H0 (.inl ⟨rfl, hp1, rfl⟩) (.refl hB))
  · have ed : decide (V.int x = V.int 1) = false := decide_eq_false (fun z => h1 (by injection z))
    rw [ed]
    exact iteT (iteT yes)
end
end K7
set_option maxRecDepth 100000
set_option maxHeartbeats 2000000
namespace K7
open PySem PySem.Spec PyProof.Rows L2
def Lg (L : List Nat) : Prop := 1 ≤ L.length ∧ L.length ≤ 3 ∧ ∀ c ∈ L, c ∈ menu
theorem Lg.lt {L : List Nat} (h : Lg L) : Lt L := ⟨by have := h.2.1; omega, h.2.2⟩
theorem sg_ne {L : List Nat} (h : Lg L) : sg L ≠ [] := by
  intro e
  have h1 := sg_len L
  rw [e] at h1
  have h2 := h.1
  have h3 : ([] : List Nat).length = 0 := rfl
  omega
theorem wb2 {d : Nat} (h : d ≤ 2) : wb d ≤ 13000 := by
  match d, h with
  | 0, _ => decide
  | 1, _ => decide
  | 2, _ => decide
def spLoose (d : Nat) : Sp := fun vs H Q _ => ∃ (b m : Addr) (L : List Nat), vs = [.ref b, tx L, .int (d : Int)] ∧ Bx H b m ∧ Lg L ∧ ∀ T W H' p, Loo L d T W → BxGo H H' b m → H p = none → p ≠ b → H' p = some (.tup [tx T, tx W]) → Q (.ref p) H'
section
variable {P : Program} {w : World} {K : PySem.W.Frag} {mg : Str → Option Value} {base : Heap}
variable {f fA fD fS fG fZ fL : Addr} {fd fdA fdD fdS fdG fdZ fdL : FuncData} {cdv : Value} {A : Around} {outer : List Env} {s : Shared} {H : Hp} {E : XK}
def thenS : Stmt → List Stmt
  | .If _ b _ _ => b
  | _ => []
def elseS : Stmt → List Stmt
  | .If _ _ b _ => b
  | _ => []
/-- where the choice of an atom leads -/
def Atx (L : List Nat) (C : List Nat → List Nat → Prop) (b m : Addr) (d : Nat) (ps : Addr) (W : List Nat) (y5 : Option V) (H0 : Hp) (D : Ends) : Prop := ∀ (p c : List Nat) (x : Int) H' (y6 y8 y11 y12 y13 y14 : Option V), Atm L C p c x → BxGo H0 H' b m → D.nx (S15 b L d ps W y5 y6 (some (.int x)) y8 (some (tx p)) (some (tx c)) y11 y12 y13 y14) H'
theorem Atx.of {L : List Nat} {C : List Nat → List Nat → Prop} {b m : Addr} {d : Nat} {ps : Addr} {W : List Nat} {y5 : Option V} {H0 H1 : Hp} {D : Ends} (h : Atx L C b m d ps W y5 H0 D) (g : BxGo H0 H1 b m) : Atx L C b m d ps W y5 H1 D := fun p c x H' y6 y8 y11 y12 y13 y14 ha hg => h p c x H' y6 y8 y11 y12 y13 y14 ha (g.trans hg)
theorem o_sign (B : Bn mg) (GS : FnOk P w K mg base CX0 1 fS fdS ["_law_letters_z"] spSigns) (kS : PySem.W.keepIn K (.ref fS) = true) (bS : Binds K fdS ["_law_letters_z"] []) (gS : mg "_law_signs" = some (.ref fS))
    (GA : FnOk P w K mg base CX0 2 fA fdA ["_law_box", "_law_some"] spAny) (kA : PySem.W.keepIn K (.ref fA) = true) (bA : Binds K fdA ["_law_box", "_law_some"] []) (gA : mg "_law_any" = some (.ref fA)) (hr : Room 3 (A.deeper (envOfC "_law_loose" (defScope sLoose) s.heap.objs.size f cdv))) :
    ∃ t, PSs (XO P w K mg base f cdv A outer s H E) (thenS (obs 1)) t ∧ ∀ (C : List Nat → List Nat → Prop) (b m : Addr) (L : List Nat) (d : Nat) (ps : Addr) (W : List Nat) (x : Int) (y5 y6 y8 y9 y10 y11 y12 y13 y14 : Option V) (D : Ends) (H0 : Hp), Bx H0 b m → Lg L → x ∈ tm5 →
      Atx L C b m d ps W y5 H0 D → t D (S15 b L d ps W y5 y6 (some (.int x)) y8 y9 y10 y11 y12 y13 y14) H0 := by
  have r1 : Room 1 (A.deeper (envOfC "_law_loose" (defScope sLoose) s.heap.objs.size f cdv)) := hr.mono (by decide)
  have r2 : Room 2 (A.deeper (envOfC "_law_loose" (defScope sLoose) s.heap.objs.size f cdv)) := hr.mono (by decide)
  refine ⟨_, pss_cons (ps_set (i := 8) scLoose.nd rfl (.inl rfl) (pe_call GA r2 (by rfl) gA kA bA .nil pass0 (pa_cons (pv 0) (pa_cons (pe_callTy (c_listS rfl) (by rfl) B.list PyProof.Rows.boot_list (pa_cons (pe_call GS r1 (by rfl) gS kS bS .nil pass0 (pa_cons (pv 1) pa_nil)) pa_nil)) pa_nil))))
    (pss_one (ps_par3 (i := 9) (j := 10) (l := 7) (by rfl) scLoose.nd rfl rfl rfl (by decide) (by decide) (by decide) rfl rfl rfl (pa_cons (pv 8) (pa_cons (pv 8) (pa_cons (pe_call GA r2 (by rfl) gA kA bA .nil pass0 (pa_cons (pv 0) (pa_cons (pe_lst (pa_cons (pv 7) (pa_cons pe_int (pa_cons pe_int (pa_cons (pe_un un_neg pe_int) (pa_cons pe_int pa_nil)))))) pa_nil))) pa_nil))) (by rfl))), ?_⟩
  intro C b m L d ps W x y5 y6 y8 y9 y10 y11 y12 y13 y14 D H0 hB hL hx nx
  have hsl : (sg L).length ≤ 6 := by
    rw [sg_len]
    have := hL.2.1
    omega
  refine ⟨_, rfl, _, rfl, L, rfl, hL.lt, fun H1 s1 => ⟨sg L, rfl, by omega, fun p np => ⟨b, m, p, _, rfl, (hB.same s1).same (same_new np), upd_same, (hB.same s1).ne np, ?_, ?_, fun v H2 hv hT => ?_⟩⟩⟩
  · intro e
    exact sg_ne hL (List.map_eq_nil_iff.mp e)
  · rw [List.length_map]
    omega
  obtain ⟨c, hc, rfl⟩ := List.mem_map.mp hv
  have g : BxGo H0 H2 b m := (BxGo.of hB (s1.trans (same_new np))).trans hT.go
  refine ⟨_, rfl, _, rfl, _, rfl, _, rfl, _, rfl, (by show 5 ≤ sizeLine; decide), fun q nq => ⟨b, m, q, _, rfl, g.1.same (same_new nq), upd_same, g.1.ne nq, (by simp), (by show 5 < 1000000; decide), fun v H3 hv hT3 => ?_⟩⟩
  obtain ⟨z, rfl, hz⟩ : ∃ z, v = V.int z ∧ z ∈ tm7 := by
    have h2 : v = .int x ∨ v = .int 1 ∨ v = .int 13 ∨ v = .int (-10) ∨ v = .int 0 := by simpa using hv
    rcases h2 with h | h | h | h | h
    · exact ⟨_, h, (tm57 x hx).1⟩
    all_goals exact ⟨_, h, by decide⟩
  refine ⟨_, _, _, rfl, ?_⟩
  exact nx [c] [c] z H3 _ _ _ _ _ _ (.inl ⟨⟨c, hc, rfl, rfl⟩, hz⟩) ((g.trans (BxGo.of g.1 (same_new nq))).trans hT3.go)
theorem o1z (B : Bn mg) (GS : FnOk P w K mg base CX0 1 fS fdS ["_law_letters_z"] spSigns) (kS : PySem.W.keepIn K (.ref fS) = true) (bS : Binds K fdS ["_law_letters_z"] []) (gS : mg "_law_signs" = some (.ref fS))
    (GA : FnOk P w K mg base CX0 2 fA fdA ["_law_box", "_law_some"] spAny) (kA : PySem.W.keepIn K (.ref fA) = true) (bA : Binds K fdA ["_law_box", "_law_some"] []) (gA : mg "_law_any" = some (.ref fA)) (hr : Room 3 (A.deeper (envOfC "_law_loose" (defScope sLoose) s.heap.objs.size f cdv))) :
    ∃ t, PS (XO P w K mg base f cdv A outer s H E) (obs 1) t ∧ ∀ (b m : Addr) (L : List Nat) (ps : Addr) (W : List Nat) (wy x : Int) (y5 y8 y9 y10 y11 y12 y13 y14 : Option V) (D : Ends) (H0 : Hp), Bx H0 b m → Lg L → x ∈ tm5 →
      Atx L (Cmp L 0) b m 0 ps W y5 H0 D → t D (S15 b L 0 ps W y5 (some (.int wy)) (some (.int x)) y8 y9 y10 y11 y12 y13 y14) H0 := by
  obtain ⟨t1, P1, R1⟩ := o_sign (P := P) (w := w) (f := f) (cdv := cdv) (outer := outer) (s := s) (H := H) (E := E) (A := A) B GS kS bS gS GA kA bA gA hr
  refine ⟨_, ps_if (PW.pt (pw_or (pt_cmpR op_eq (pv 6) pe_int (nomark _)) (pw_or1 (pt_cmpR op_eq (pv 2) pe_int (nomark _))))) P1 pss_never, ?_⟩
  intro b m L ps W wy x y5 y8 y9 y10 y11 y12 y13 y14 D H0 hB hL hx nx
  have go := R1 (Cmp L 0) b m L 0 ps W x y5 (some (.int wy)) y8 y9 y10 y11 y12 y13 y14 D H0 hB hL hx nx
  refine ⟨_, rfl, rfl, _, rfl, ite2 (fun _ => iteT go) (fun _ => ?_)⟩
  exact ⟨_, rfl, rfl, true, rfl, iteT go⟩
theorem o1s {d j : Nat} (hd : d ≤ 2) (hj : 4 ≤ j) (B : Bn mg) (GS : FnOk P w K mg base CX0 1 fS fdS ["_law_letters_z"] spSigns) (kS : PySem.W.keepIn K (.ref fS) = true) (bS : Binds K fdS ["_law_letters_z"] []) (gS : mg "_law_signs" = some (.ref fS))
    (GA : FnOk P w K mg base CX0 2 fA fdA ["_law_box", "_law_some"] spAny) (kA : PySem.W.keepIn K (.ref fA) = true) (bA : Binds K fdA ["_law_box", "_law_some"] []) (gA : mg "_law_any" = some (.ref fA))
    (GG : FnOk P w K mg base CX0 2 fG fdG ["_law_one"] spGone) (kG : PySem.W.keepIn K (.ref fG) = true) (bG : Binds K fdG ["_law_one"] []) (gG : mg "_law_gone_back" = some (.ref fG))
    (GL : FnOk P w K mg base CX0 j fL fdL ["_law_box", "_law_letters_z", "_law_deep"] (spLoose d)) (GL0 : FnOk P w K mg base CX0 4 fL fdL ["_law_box", "_law_letters_z", "_law_deep"] (spLoose 0)) (kL : PySem.W.keepIn K (.ref fL) = true) (bL : Binds K fdL ["_law_box", "_law_letters_z", "_law_deep"] []) (gL : mg "_law_loose" = some (.ref fL))
    (hr : Room j (A.deeper (envOfC "_law_loose" (defScope sLoose) s.heap.objs.size f cdv))) :
    ∃ t, PS (XO P w K mg base f cdv A outer s H E) (obs 1) t ∧ ∀ (b m : Addr) (L : List Nat) (ps : Addr) (W : List Nat) (wy x : Int) (y5 y8 y9 y10 y11 y12 y13 y14 : Option V) (D : Ends) (H0 : Hp), Bx H0 b m → Lg L → x ∈ tm5 →
      Atx L (Cmp L (d + 1)) b m (d + 1) ps W y5 H0 D → t D (S15 b L (d + 1) ps W y5 (some (.int wy)) (some (.int x)) y8 y9 y10 y11 y12 y13 y14) H0 := by
  have r3 : Room 3 (A.deeper (envOfC "_law_loose" (defScope sLoose) s.heap.objs.size f cdv)) := hr.mono (by omega)
  have r2 : Room 2 (A.deeper (envOfC "_law_loose" (defScope sLoose) s.heap.objs.size f cdv)) := hr.mono (by omega)
  have r4 : Room 4 (A.deeper (envOfC "_law_loose" (defScope sLoose) s.heap.objs.size f cdv)) := hr.mono (by omega)
  obtain ⟨t1, P1, R1⟩ := o_sign (P := P) (w := w) (f := f) (cdv := cdv) (outer := outer) (s := s) (H := H) (E := E) (A := A) B GS kS bS gS GA kA bA gA r3
  refine ⟨_, ps_if (PW.pt (pw_or (pt_cmpR op_eq (pv 6) pe_int (nomark _)) (pw_or1 (pt_cmpR op_eq (pv 2) pe_int (nomark _))))) P1
    (pss_one (ps_if (pt_cmpR op_eq (pv 6) pe_int (nomark _)) (pss_one (ps_asg (pe_tup (pa_cons pe_str (pa_cons pe_str pa_nil))) (pg_tup rfl (pgs_cons (pg_name (i := 9) scLoose.nd rfl (.inl rfl)) (pgs_cons (pg_name (i := 10) scLoose.nd rfl (.inl rfl)) pgs_nil)))))
    (pss_one (ps_if (pt_cmpR op_eq (pv 6) pe_int (nomark _))
      (pss_cons (ps_par (i := 11) (j := 12) (by rfl) scLoose.nd rfl rfl (by decide) rfl rfl (pa_cons (pe_call GL hr (by rfl) gL kL bL .nil pass0 (pa_cons (pv 0) (pa_cons (pv 1) (pa_cons (pe_op op_sub (pv 2) pe_int) pa_nil)))) (pa_cons (pe_call GL0 r4 (by rfl) gL kL bL .nil pass0 (pa_cons (pv 0) (pa_cons (pv 1) (pa_cons pe_int pa_nil)))) pa_nil)) (by rfl))
      (pss_cons (ps_set (i := 9) scLoose.nd rfl (.inl rfl) (pe_op op_add_str (pe_op op_add_str (pe_op op_add_str (pe_op op_add_str pe_str (pe_ix ix_tup (pv 11) pe_int (fun _ _ => rfl))) pe_str) (pe_ix ix_tup (pv 12) pe_int (fun _ _ => rfl))) pe_str))
      (pss_one (ps_set (i := 10) scLoose.nd rfl (.inl rfl) (pe_op op_add_str (pe_op op_add_str (pe_op op_add_str (pe_ix ix_tup (pv 11) pe_int (fun _ _ => rfl)) (pe_ix ix_tup (pv 12) pe_int (fun _ _ => rfl))) (pe_call GG r2 (by rfl) gG kG bG .nil pass0 (pa_cons (pe_ix ix_tup (pv 11) pe_int (fun _ _ => rfl)) pa_nil))) (pe_call GG r2 (by rfl) gG kG bG .nil pass0 (pa_cons (pe_ix ix_tup (pv 12) pe_int (fun _ _ => rfl)) pa_nil)))))))
      (pss_cons (ps_set (i := 13) scLoose.nd rfl (.inl rfl) (pe_call GL hr (by rfl) gL kL bL .nil pass0 (pa_cons (pv 0) (pa_cons (pv 1) (pa_cons (pe_op op_sub (pv 2) pe_int) pa_nil)))))
      (pss_one (ps_par (i := 9) (j := 10) (by rfl) scLoose.nd rfl rfl (by decide) rfl rfl (pa_cons (pe_op op_add_str (pe_op op_add_str pe_str (pe_ix ix_tup (pv 13) pe_int (fun _ _ => rfl))) pe_str) (pa_cons (pe_ix ix_tup (pv 13) pe_int (fun _ _ => rfl)) pa_nil)) (by rfl)))))))), ?_⟩
  intro b m L ps W wy x y5 y8 y9 y10 y11 y12 y13 y14 D H0 hB hL hx nx
  have go := R1 (Cmp L (d + 1)) b m L (d + 1) ps W x y5 (some (.int wy)) y8 y9 y10 y11 y12 y13 y14 D H0 hB hL hx nx
  have bd := bd3 (d := d) (by omega)
  have ed : ((d + 1 : Nat) : Int) - 1 = (d : Int) := by omega
  have e0 : decide (V.int ((d + 1 : Nat) : Int) = V.int 0) = false := decide_eq_false (fun z => by injection z with z; omega)
  have wdb : ∀ T W, Loo L d T W → W.length ≤ 13000 := by
    intro T W h
    have z := (loo_ok hL.2.2 d h).2.1
    have := wb2 hd
    omega
  refine ⟨_, rfl, rfl, _, rfl, ite2 (fun _ => iteT go) (fun _ => ⟨_, rfl, rfl, _, rfl, ?_⟩)⟩
  rw [e0]
  refine iteF ⟨_, rfl, rfl, _, rfl, ite2 (fun _ => ?_) (fun _ => ?_)⟩
  · refine ⟨(by show 2 ≤ sizeLine; decide), fun T0 nT => ⟨T0, _, rfl, SqT.of upd_same, rfl, _, _, rfl, _, _, rfl, rfl, ?_⟩⟩
    have z := nx [49] [] x _ (some (.int wy)) y8 y11 y12 y13 y14 (.inr ⟨.inl ⟨rfl, rfl⟩, hx⟩) (BxGo.of hB (same_new nT (o := .tup [.str (Str.ofString "1"), .str (Str.ofString "")])))
    rw [one49, e0S] at z ⊢
    exact z
  · refine ⟨_, rfl, rfl, _, rfl, ite2 (fun _ => ?_) (fun _ => ?_)⟩
    · refine ⟨_, rfl, _, rfl, _, rfl, _, _, rfl, rfl, b, m, L, ?_, hB, hL, fun T1 W1 H1 p1 l1 g1 np1 nb1 hp1 => ?_⟩
      · dsimp only
        rw [ed]
        rfl
      refine ⟨_, rfl, _, rfl, b, m, L, rfl, g1.1, hL, fun T2 W2 H2 p2 l2 g2 np2 nb2 hp2 => ⟨_, _, rfl, ?_⟩⟩
      have hp12 : H2 p1 = some (.tup [tx T1, tx W1]) := g2.2 _ _ nb1 hp1
      obtain ⟨a1, a2, a3, a4⟩ := loo_ok hL.2.2 d l1
      obtain ⟨c1, c2, c3, c4⟩ := loo_ok hL.2.2 0 l2
      have c1' : T2.length ≤ 39 := c1
      have c2' : W2.length ≤ 42 := c2
      have wd1 := wdb T1 W1 l1
      refine ⟨_, rfl, p1, _, 0, _, rfl, rfl, SqT.of hp12, rfl, _, _, rfl, rfl, ?_, ?_⟩
      · rw [par91, tx_len, tx_len]
        exact Nat.le_of_lt (big_lt (by simp only [List.length_cons, List.length_nil]; omega))
      rw [par91, SX.S_cat, com44]
      refine ⟨_, _, rfl, rfl, ?_, ?_⟩
      · rw [tx_len, tx_len, List.length_append]
        exact Nat.le_of_lt (big_lt (by simp only [List.length_cons, List.length_nil]; omega))
      rw [SX.S_cat]
      refine ⟨_, rfl, p2, _, 0, _, rfl, rfl, SqT.of hp2, rfl, _, _, rfl, rfl, ?_, ?_⟩
      · rw [tx_len, tx_len, List.length_append, List.length_append]
        exact Nat.le_of_lt (big_lt (by simp only [List.length_cons, List.length_nil]; omega))
      rw [SX.S_cat, par93]
      refine ⟨_, _, rfl, rfl, ?_, ?_⟩
      · rw [tx_len, tx_len, List.length_append, List.length_append, List.length_append]
        exact Nat.le_of_lt (big_lt (by simp only [List.length_cons, List.length_nil]; omega))
      rw [SX.S_cat]
      refine ⟨_, rfl, p1, _, 1, _, rfl, rfl, SqT.of hp12, rfl, _, rfl, p2, _, 1, _, rfl, rfl, SqT.of hp2, rfl, _, _, rfl, rfl, ?_, ?_⟩
      · rw [tx_len, tx_len]
        exact Nat.le_of_lt (big_lt (by omega))
      rw [SX.S_cat]
      refine ⟨_, rfl, p1, _, 1, _, rfl, rfl, SqT.of hp12, rfl, W1, rfl, by omega, a4, fun H3 s3 => ⟨_, _, rfl, rfl, ?_, ?_⟩⟩
      · rw [tx_len, tx_len, opp_len, List.length_append]
        exact Nat.le_of_lt (big_lt (by omega))
      rw [SX.S_cat]
      refine ⟨_, rfl, p2, _, 1, _, rfl, rfl, SqT.of (s3 _ _ hp2), rfl, W2, rfl, by omega, c4, fun H4 s4 => ⟨_, _, rfl, rfl, ?_, ?_⟩⟩
      · rw [tx_len, tx_len, opp_len, List.length_append, List.length_append, opp_len]
        exact Nat.le_of_lt (big_lt (by omega))
      rw [SX.S_cat]
      have g4 : BxGo H0 H4 b m := (g1.trans g2).trans (BxGo.of (g1.trans g2).1 (s3.trans s4))
      exact nx _ _ x H4 _ _ _ _ _ _ (.inr ⟨.inr (.inl ⟨T1, W1, T2, W2, l1, l2, rfl, rfl⟩), hx⟩) g4
    · refine ⟨_, rfl, _, rfl, _, rfl, _, _, rfl, rfl, b, m, L, ?_, hB, hL, fun T1 W1 H1 p1 l1 g1 np1 nb1 hp1 => ?_⟩
      · dsimp only
        rw [ed]
        rfl
      obtain ⟨a1, a2, a3, a4⟩ := loo_ok hL.2.2 d l1
      refine ⟨_, rfl, p1, _, 0, _, rfl, rfl, SqT.of hp1, rfl, _, _, rfl, rfl, ?_, ?_⟩
      · rw [par40, tx_len, tx_len]
        exact Nat.le_of_lt (big_lt (by simp only [List.length_cons, List.length_nil]; omega))
      rw [par40, SX.S_cat, par41]
      refine ⟨_, _, rfl, rfl, ?_, ?_⟩
      · rw [tx_len, tx_len, List.length_append]
        exact Nat.le_of_lt (big_lt (by simp only [List.length_cons, List.length_nil]; omega))
      rw [SX.S_cat]
      refine ⟨_, rfl, p1, _, 1, _, rfl, rfl, SqT.of hp1, rfl, _, _, rfl, ?_⟩
      exact nx _ _ x H1 _ _ _ _ _ _ (.inr ⟨.inr (.inr ⟨T1, W1, l1, rfl, rfl⟩), hx⟩) g1
end
end K7
set_option maxRecDepth 100000
set_option maxHeartbeats 2000000
namespace K7
open PySem PySem.Spec PyProof.Rows L2
section
variable {P : Program} {w : World} {K : PySem.W.Frag} {mg : Str → Option Value} {base : Heap}
variable {f fA fD fS fG fZ fL : Addr} {fd fdA fdD fdS fdG fdZ fdL : FuncData} {cdv : Value} {A : Around} {outer : List Env} {s : Shared} {H : Hp} {E : XK}
/-- all stays but the box and the list of parts -/
def Go2 (ps b m : Addr) (H H' : Hp) : Prop := Bx H' b m ∧ ∀ x o, x ≠ b → x ≠ ps → H x = some o → H' x = some o
theorem o3 (GZ : FnOk P w K mg base CX0 3 fZ fdZ ["_law_box"] spSpace) (kZ : PySem.W.keepIn K (.ref fZ) = true) (bZ : Binds K fdZ ["_law_box"] []) (gZ : mg "_law_space" = some (.ref fZ))
    (GA : FnOk P w K mg base CX0 2 fA fdA ["_law_box", "_law_some"] spAny) (kA : PySem.W.keepIn K (.ref fA) = true) (bA : Binds K fdA ["_law_box", "_law_some"] []) (gA : mg "_law_any" = some (.ref fA)) (hr : Room 3 (A.deeper (envOfC "_law_loose" (defScope sLoose) s.heap.objs.size f cdv))) :
    ∃ t, PS (XO P w K mg base f cdv A outer s H E) (obs 3) t ∧ ∀ (b m : Addr) (L : List Nat) (d : Nat) (ps : Addr) (W F : List Nat) (ts : List (List Nat)) (y5 y6 y7 y8 y10 y11 y12 y13 y14 : Option V) (D : Ends) (H0 : Hp), Bx H0 b m → H0 ps = some (.lst (ts.map tx)) → ps ≠ b → ps ≠ m → ts.length ≤ 100 → F.length ≤ 3000 →
      (∀ s1 s2 H', s1 ≤ 2 → 1 ≤ s2 → s2 ≤ 2 → Go2 ps b m H0 H' → H' ps = some (.lst ((ts ++ [sp s1 ++ F ++ sp s2]).map tx)) → D.nx (S15 b L d ps W y5 y6 y7 y8 (some (tx F)) y10 y11 y12 y13 y14) H') → t D (S15 b L d ps W y5 y6 y7 y8 (some (tx F)) y10 y11 y12 y13 y14) H0 := by
  have r2 : Room 2 (A.deeper (envOfC "_law_loose" (defScope sLoose) s.heap.objs.size f cdv)) := hr.mono (by decide)
  refine ⟨_, ps_expr (pe_bm PySem.F.plainAttrs_list PySem.F.slot_list_append PySem.F.type_list_append mt_append (pv 3) (pa_cons (pe_op op_add_str (pe_op op_add_str (pe_call GZ hr (by rfl) gZ kZ bZ .nil pass0 (pa_cons (pv 0) pa_nil)) (pv 9)) (pe_call GA r2 (by rfl) gA kA bA .nil pass0 (pa_cons (pv 0) (pa_cons (pe_lst (pa_cons pe_str (pa_cons pe_str pa_nil))) pa_nil)))) pa_nil)), ?_⟩
  intro b m L d ps W F ts y5 y6 y7 y8 y10 y11 y12 y13 y14 D H0 hB hps nb nm hts hF nx
  refine ⟨_, rfl, .inl ⟨rfl, _, SqL.of hps⟩, _, rfl, b, m, rfl, hB, fun s1 H1 h1 g1 => ⟨_, rfl, _, _, rfl, rfl, ?_, ?_⟩⟩
  · rw [tx_len, tx_len, sp_len]
    exact Nat.le_of_lt (big_lt (by omega))
  rw [SX.S_cat]
  refine ⟨_, rfl, (by show 2 ≤ sizeLine; decide), fun q nq => ⟨b, m, q, _, rfl, g1.1.same (same_new nq), upd_same, g1.1.ne nq, (by simp), (by show 2 < 1000000; decide), fun x H2 hx hT => ?_⟩⟩
  have g2 : BxGo H0 H2 b m := (g1.trans (BxGo.of g1.1 (same_new nq))).trans hT.go
  have hps2 : H2 ps = some (.lst (ts.map tx)) := g2.2 _ _ nb hps
  obtain ⟨s2, rfl, k1, k2⟩ : ∃ s2, x = tx (sp s2) ∧ 1 ≤ s2 ∧ s2 ≤ 2 := by
    have h2 : x = V.str (SX.S [32]) ∨ x = V.str (SX.S [32, 32]) := by
      rw [sp32, sp2S] at hx
      simpa using hx
    rcases h2 with h | h
    · exact ⟨1, h, by decide, by decide⟩
    · exact ⟨2, h, by decide, by decide⟩
  refine ⟨_, _, rfl, rfl, ?_, ?_⟩
  · rw [tx_len, tx_len, List.length_append, sp_len, sp_len]
    exact Nat.le_of_lt (big_lt (by omega))
  rw [SX.S_cat]
  refine ⟨ps, _, _, rfl, rfl, hps2, ?_, ?_⟩
  · rw [List.length_map]
    exact big_lt (by omega)
  refine nx s1 s2 _ h1 k1 k2 ⟨g2.1.upd nb nm, fun x o hx1 hx2 e => ?_⟩ ?_
  · rw [upd_ne hx2]
    exact g2.2 _ _ hx1 e
  · rw [upd_same, List.map_append]
    rfl
theorem o45 (GG : FnOk P w K mg base CX0 2 fG fdG ["_law_one"] spGone) (kG : PySem.W.keepIn K (.ref fG) = true) (bG : Binds K fdG ["_law_one"] []) (gG : mg "_law_gone_back" = some (.ref fG)) (hr : Room 3 (A.deeper (envOfC "_law_loose" (defScope sLoose) s.heap.objs.size f cdv))) :
    ∃ t, PSs (XO P w K mg base f cdv A outer s H E) (ob.drop 4) t ∧ ∀ (b : Addr) (L : List Nat) (d : Nat) (ps : Addr) (W c : List Nat) (x : Int) (y5 y6 y8 y9 y11 y12 y13 y14 : Option V) (D : Ends) (H0 : Hp), x ∈ tm7 → c.length ≤ 30000 → Asc c → c.length * x.natAbs ≤ 60000 → W.length ≤ 200000 →
      (∀ H' y14', Same H0 H' → D.nx (S15 b L d ps (W ++ pwr c x) y5 y6 (some (.int x)) y8 y9 (some (tx c)) y11 y12 y13 y14') H') → t D (S15 b L d ps W y5 y6 (some (.int x)) y8 y9 (some (tx c)) y11 y12 y13 y14) H0 := by
  have r2 : Room 2 (A.deeper (envOfC "_law_loose" (defScope sLoose) s.heap.objs.size f cdv)) := hr.mono (by decide)
  refine ⟨_, pss_cons (ps_set (i := 14) scLoose.nd rfl (.inl rfl) (pe_call GG r2 (by rfl) gG kG bG .nil pass0 (pa_cons (pv 10) pa_nil)))
    (pss_one (ps_set (i := 4) scLoose.nd rfl (.inl rfl) (pe_op op_add_str (pv 4) (pe_ifExp (pt_cmpR op_gt (pv 7) pe_int (nomark _)) (pe_op o_mulB (pv 10) (pv 7)) (pe_op o_mulB (pv 14) (pe_un un_neg (pv 7))))))), ?_⟩
  intro b L d ps W c x y5 y6 y8 y9 y11 y12 y13 y14 D H0 hx hc hcA hcx hW nx
  have h13 := (nt_len x hx).2
  have big : ∀ k : Nat, k ≤ 300000 → k ≤ sizeLine := fun k hk => Nat.le_trans hk (by decide)
  refine ⟨_, rfl, c, rfl, by omega, hcA, fun H1 s1 => ⟨_, rfl, _, rfl, _, _, rfl, rfl, _, rfl, ?_⟩⟩
  by_cases hpos : 0 < x
  · have ex : decide (x > 0) = true := decide_eq_true hpos
    rw [ex]
    refine iteT ⟨_, rfl, _, rfl, c, x.natAbs, rfl, ?_, by omega, by omega, by omega, _, _, rfl, rfl, ?_, ?_⟩
    · rw [show ((x.natAbs : Nat) : Int) = x by omega]
    · rw [tx_len, tx_len, rep_len, Nat.mul_comm]
      exact big _ (by omega)
    · rw [SX.S_cat]
      have ep : pwr c x = rep x.natAbs c := if_neg (by omega)
      rw [ep] at nx
      exact nx H1 _ s1
  · have ex : decide (x > 0) = false := decide_eq_false hpos
    rw [ex]
    refine iteF ⟨_, rfl, _, rfl, _, rfl, opp c, x.natAbs, rfl, ?_, by rw [opp_len]; omega, by omega, by rw [opp_len]; omega, _, _, rfl, rfl, ?_, ?_⟩
    · rw [show ((x.natAbs : Nat) : Int) = -x by omega]
    · rw [tx_len, tx_len, rep_len, opp_len, Nat.mul_comm]
      exact big _ (by omega)
    · rw [SX.S_cat]
      have ep : pwr c x = rep x.natAbs (opp c) := by
        unfold pwr
        by_cases h0 : x < 0
        · rw [if_pos h0]
        · have : x = 0 := by omega
          subst this
          rw [if_neg h0]
          rfl
      rw [ep] at nx
      exact nx H1 _ s1
end
end K7
set_option maxRecDepth 100000
set_option maxHeartbeats 2000000
namespace K7
open PySem PySem.Spec PyProof.Rows L2
theorem atm_ok {L : List Nat} (hL : ∀ c ∈ L, c ∈ menu) {d : Nat} (hd : d ≤ 3) {p c : List Nat} {x : Int} (h : Atm L (Cmp L d) p c x) : x ∈ tm7 ∧ p.length ≤ 1100 ∧ Asc p ∧ c.length ≤ 26000 ∧ Asc c ∧ c.length * x.natAbs ≤ 60000 := by
  have bd := bd3 hd
  rcases h with ⟨⟨y, hy, rfl, rfl⟩, hx⟩ | ⟨hc, hx⟩
  · have hy2 := sg_let hL hy
    have ha : Asc [y] := fun z hz => by rw [List.mem_singleton.mp hz]; omega
    have := (nt_len x hx).2
    refine ⟨hx, by show 1 ≤ 1100; decide, ha, by show 1 ≤ 26000; decide, ha, ?_⟩
    show 1 * x.natAbs ≤ 60000
    omega
  · obtain ⟨q1, q2, q3, q4⟩ := cmp_ok hL d p c hc
    have hx2 := tm57 x hx
    refine ⟨hx2.1, by omega, q3, by omega, q4, ?_⟩
    have := Nat.mul_le_mul (show c.length ≤ 26000 by omega) hx2.2
    omega
theorem cat_nil {Fc : List Nat → List Nat → Prop} : Cat Fc [] := fun q hq => by cases hq
theorem sum_txt (l : List (List Nat × List Nat)) : (((l.map (·.1)).map SX.S).map (·.length)).sum = (txt l).length := by
  unfold txt
  induction l with
  | nil => rfl
  | cons q r ih =>
    rw [List.map_cons, List.map_cons, List.map_cons, List.sum_cons, ih, List.flatten_cons, List.length_append, tx_len]
section
variable {P : Program} {w : World} {K : PySem.W.Frag} {mg : Str → Option Value} {base : Heap}
variable {f fA fD fS fG fZ fL : Addr} {fd fdA fdD fdS fdG fdZ fdL : FuncData} {cdv : Value} {A : Around} {outer : List Env} {s : Shared} {H : Hp} {E : XK}
theorem loose_body {d : Nat} (hd : d ≤ 3) (B : Bn mg) (GD : FnOk P w K mg base CX0 1 fD fdD ["_law_box", "_law_many"] spDraw) (kD : PySem.W.keepIn K (.ref fD) = true) (bD : Binds K fdD ["_law_box", "_law_many"] []) (gD : mg "_law_draw" = some (.ref fD))
    (GA : FnOk P w K mg base CX0 2 fA fdA ["_law_box", "_law_some"] spAny) (kA : PySem.W.keepIn K (.ref fA) = true) (bA : Binds K fdA ["_law_box", "_law_some"] []) (gA : mg "_law_any" = some (.ref fA))
    (GG : FnOk P w K mg base CX0 2 fG fdG ["_law_one"] spGone) (kG : PySem.W.keepIn K (.ref fG) = true) (bG : Binds K fdG ["_law_one"] []) (gG : mg "_law_gone_back" = some (.ref fG))
    (GZ : FnOk P w K mg base CX0 3 fZ fdZ ["_law_box"] spSpace) (kZ : PySem.W.keepIn K (.ref fZ) = true) (bZ : Binds K fdZ ["_law_box"] []) (gZ : mg "_law_space" = some (.ref fZ)) (hr : Room 3 (A.deeper (envOfC "_law_loose" (defScope sLoose) s.heap.objs.size f cdv)))
    {t1 : TS} (P1 : PS (XO P w K mg base f cdv A outer s H E) (obs 1) t1) (R1 : ∀ (b m : Addr) (L : List Nat) (ps : Addr) (W : List Nat) (wy x : Int) (y5 y8 y9 y10 y11 y12 y13 y14 : Option V) (D : Ends) (H0 : Hp), Bx H0 b m → Lg L → x ∈ tm5 →
      Atx L (Cmp L d) b m d ps W y5 H0 D → t1 D (S15 b L d ps W y5 (some (.int wy)) (some (.int x)) y8 y9 y10 y11 y12 y13 y14) H0) {vs : List V} {Q : VK} (h : spLoose d vs H Q E) :
    ∃ t, PSs (XO P w K mg base f cdv A outer s H E) (defBody sLoose) t ∧ t { nx := fun _ H' => Q .non H', rt := Q } (L2.start NO vs) H := by
  obtain ⟨b, m, L, rfl, hB, hL, q⟩ := h
  have r1 : Room 1 (A.deeper (envOfC "_law_loose" (defScope sLoose) s.heap.objs.size f cdv)) := hr.mono (by decide)
  obtain ⟨t0, P0, R0⟩ := o0 (P := P) (w := w) (f := f) (cdv := cdv) (outer := outer) (s := s) (H := H) (E := E) (A := A) GD kD bD gD GA kA bA gA hr
  obtain ⟨t2, P2, R2⟩ := o2 (P := P) (w := w) (f := f) (cdv := cdv) (outer := outer) (s := s) (H := H) (E := E) (A := A) B GZ kZ bZ gZ hr
  obtain ⟨t3, P3, R3⟩ := o3 (P := P) (w := w) (f := f) (cdv := cdv) (outer := outer) (s := s) (H := H) (E := E) (A := A) GZ kZ bZ gZ GA kA bA gA hr
  obtain ⟨t4, P4, R4⟩ := o45 (P := P) (w := w) (f := f) (cdv := cdv) (outer := outer) (s := s) (H := H) (E := E) (A := A) GG kG bG gG hr
  have PB : PSs (XO P w K mg base f cdv A outer s H E) ob (tSeq t0 (tSeq t1 (tSeq t2 (tSeq t3 t4)))) := by
    have e : ob = obs 0 :: obs 1 :: obs 2 :: obs 3 :: ob.drop 4 := by rfl
    rw [e]
    exact pss_cons P0 (pss_cons P1 (pss_cons P2 (pss_cons P3 P4)))
  refine ⟨_, pss_cons (ps_par (i := 3) (j := 4) (by rfl) scLoose.nd rfl rfl (by decide) rfl rfl (pa_cons (pe_lst pa_nil) (pa_cons pe_str pa_nil)) (by rfl))
    (pss_cons (ps_for PassesOwn.never rfl (pi_range1 (by rfl) B.range (pa_cons (pe_op op_add pe_int (pe_call GD r1 (by rfl) gD kD bD .nil pass0 (pa_cons (pv 0) (pa_cons pe_int pa_nil)))) pa_nil)) (pg_name (i := 5) scLoose.nd rfl (Or.inl rfl)) PB)
    (pss_one (ps_ret (pe_tup (pa_cons (pe_join pe_str (pv 3)) (pa_cons (pv 4) pa_nil)))))), ?_⟩
  refine ⟨Nat.zero_le _, fun ps nps => ⟨_, _, rfl, ?_⟩⟩
  have nb : ps ≠ b := hB.ne nps
  have nm : ps ≠ m := hB.neM nps
  have hB1 : Bx (upd H ps (.lst [])) b m := hB.same (same_new nps)
  refine ⟨_, rfl, b, m, 3, rfl, hB1, by decide, by decide, fun e H1 e0 e1 hT => ⟨_, _, rfl, rfl, (1 + e : Int), rfl, by omega, by omega, ?_⟩⟩
  have g1 : BxGo H H1 b m := (BxGo.of hB (same_new nps)).trans hT.go
  have hps1 : H1 ps = some (.lst []) := (hT.2 ps nb).trans upd_same
  have pkd := (bd3 hd).2.1
  have facs : ∀ l : List (List Nat × List Nat), Cat (Fac L (Cmp L d)) l → l.length ≤ 3 → (wrd l).length ≤ 160000 := by
    intro l hl h3
    have z := flat_len (fun q : List Nat × List Nat => q.2) (2 * pk d) l fun q hq => (loo_fac hL.2.2 d (hl q hq)).2.1
    have z2 := Nat.mul_le_mul h3 (Nat.le_refl (2 * pk d))
    have z3 : (wrd l).length ≤ l.length * (2 * pk d) := z
    omega
  refine for_it (walk_range (lo := 0) (n := (1 + e : Int).toNat)) (fun i σ H2 => ∃ (l : List (List Nat × List Nat)) (y5 y6 y7 y8 y9 y10 y11 y12 y13 y14 : Option V), σ = S15 b L d ps (wrd l) y5 y6 y7 y8 y9 y10 y11 y12 y13 y14 ∧ l.length = i ∧ Cat (Fac L (Cmp L d)) l ∧ BxGo H H2 b m ∧ H2 ps = some (.lst ((l.map (·.1)).map tx)))
    ⟨[], none, none, none, none, none, none, none, none, none, none, ?_, rfl, cat_nil, g1, hps1⟩ (fun _ _ _ _ _ => trivial) ?_ ?_
  · rw [e0S]
    rfl
  · rintro i x σ H2 H2' hi ⟨l, y5, y6, y7, y8, y9, y10, y11, y12, y13, y14, rfl, hl, hc, g, hps⟩ ⟨rfl, rfl⟩
    have hi3 : l.length ≤ 2 := by omega
    refine R0 b m L d ps (wrd l) _ y6 y7 y8 y9 y10 y11 y12 y13 y14 _ H2' g.1 fun wy x0 H3 w0 hx0 g3 => ?_
    refine R1 b m L ps (wrd l) wy x0 _ y8 y9 y10 y11 y12 y13 y14 _ H3 g3.1 hL hx0 fun p c xx H4 y6 y8 y11 y12 y13 y14 ha g4 => ?_
    obtain ⟨k1, k2, k3, k4, k5, k6⟩ := atm_ok hL.2.2 hd ha
    refine R2 b m L d ps (wrd l) p xx _ y6 y8 _ y11 y12 y13 y14 _ H4 g4.1 k1 (by omega) fun F H5 hF g5 => ?_
    have hps5 : H5 ps = some (.lst ((l.map (·.1)).map tx)) := ((g3.trans g4).trans g5).2 _ _ nb hps
    have hFl := pwd_ok hF k1 k3
    refine R3 b m L d ps (wrd l) F (l.map (·.1)) _ y6 _ y8 _ y11 y12 y13 y14 _ H5 g5.1 hps5 nb nm (by rw [List.length_map]; omega) (by omega) fun s1 s2 H6 h1 h2 h2' g6 hps6 => ?_
    refine R4 b L d ps (wrd l) c xx _ y6 y8 _ y11 y12 y13 y14 _ H6 k1 (by omega) k5 k6 (by have := facs l hc (by omega); omega) fun H7 y14' s7 => ?_
    have ew : wrd (l ++ [(sp s1 ++ F ++ sp s2, pwr c xx)]) = wrd l ++ pwr c xx := by
      unfold wrd
      simp
    refine ⟨l ++ [(sp s1 ++ F ++ sp s2, pwr c xx)], some (.int (0 + (i : Int))), y6, some (.int xx), y8, some (tx F), some (tx c), y11, y12, y13, y14', by rw [ew], by rw [List.length_append, hl]; rfl, ?_, ?_, ?_⟩
    · intro q hq
      rcases List.mem_append.mp hq with hq | hq
      · exact hc q hq
      · rw [List.mem_singleton.mp hq]
        exact ⟨p, c, F, xx, s1, s2, ha, hF, h1, h2, h2', rfl, rfl⟩
    · have gA : BxGo H H5 b m := ((g.trans g3).trans g4).trans g5
      refine ⟨g6.1.same s7, fun y o hy e => s7 _ _ (g6.2 y o hy (ne_of_none e nps) (gA.2 y o hy e))⟩
    · rw [s7 _ _ hps6]
      congr 2
      simp
  · rintro σ H2 ⟨l, y5, y6, y7, y8, y9, y10, y11, y12, y13, y14, rfl, hl, hc, g, hps⟩
    have lo : Loo L d (txt l) (wrd l) := ⟨l, by omega, by omega, hc, rfl, rfl⟩
    have hb := loo_ok hL.2.2 d lo
    have tbd := (bd3 hd).2.2.1
    refine ⟨⟨_, rfl⟩, _, rfl, _, ps, (l.map (·.1)).map SX.S, rfl, rfl, .inl (SqL.of ?_), ?_, ?_⟩
    · rw [hps, List.map_map, List.map_map, List.map_map]
      rfl
    · rw [sum_txt, len0]
      have := hb.1
      omega
    · rw [joinS]
      refine ⟨_, rfl, (by show 2 ≤ sizeLine; decide), fun T nT => ?_⟩
      exact q (txt l) (wrd l) _ T lo (g.trans (BxGo.of g.1 (same_new nT))) (g.free nT) (g.1.ne nT) upd_same
theorem ok_loose {f : Addr} {fd : FuncData} (F : Fun K "_law_loose" "_law_loose" sLoose f fd) (bL : Binds K fd ["_law_box", "_law_letters_z", "_law_deep"] []) (gL : mg "_law_loose" = some (.ref f)) (B : Bn mg) (GD : FnOk P w K mg base CX0 1 fD fdD ["_law_box", "_law_many"] spDraw) (kD : PySem.W.keepIn K (.ref fD) = true) (bD : Binds K fdD ["_law_box", "_law_many"] []) (gD : mg "_law_draw" = some (.ref fD))
    (GA : FnOk P w K mg base CX0 2 fA fdA ["_law_box", "_law_some"] spAny) (kA : PySem.W.keepIn K (.ref fA) = true) (bA : Binds K fdA ["_law_box", "_law_some"] []) (gA : mg "_law_any" = some (.ref fA))
    (GG : FnOk P w K mg base CX0 2 fG fdG ["_law_one"] spGone) (kG : PySem.W.keepIn K (.ref fG) = true) (bG : Binds K fdG ["_law_one"] []) (gG : mg "_law_gone_back" = some (.ref fG))
    (GZ : FnOk P w K mg base CX0 3 fZ fdZ ["_law_box"] spSpace) (kZ : PySem.W.keepIn K (.ref fZ) = true) (bZ : Binds K fdZ ["_law_box"] []) (gZ : mg "_law_space" = some (.ref fZ))
    (GS : FnOk P w K mg base CX0 1 fS fdS ["_law_letters_z"] spSigns) (kS : PySem.W.keepIn K (.ref fS) = true) (bS : Binds K fdS ["_law_letters_z"] []) (gS : mg "_law_signs" = some (.ref fS)) :
    ∀ d, d ≤ 3 → FnOk P w K mg base CX0 (4 + d) f fd ["_law_box", "_law_letters_z", "_law_deep"] (spLoose d) := by
  have len : ∀ (d : Nat) (vs : List V) (H : Hp) (Q : VK) (E : XK), spLoose d vs H Q E → vs.length = ["_law_box", "_law_letters_z", "_law_deep"].length := by
    intro d vs H Q E h
    obtain ⟨b, m, L, rfl, _⟩ := h
    rfl
  intro d
  induction d with
  | zero =>
    intro _
    refine F.ok scLoose (fun vs H Q E h => len 0 vs H Q E h) (fun cdv A outer s H vs Q E hr h => ?_)
    obtain ⟨t1, P1, R1⟩ := o1z (P := P) (w := w) (f := f) (cdv := cdv) (outer := outer) (s := s) (H := H) (E := E) (A := A) B GS kS bS gS GA kA bA gA hr
    exact loose_body (by decide) B GD kD bD gD GA kA bA gA GG kG bG gG GZ kZ bZ gZ hr P1 R1 h
  | succ d ih =>
    intro hd
    have G0 : FnOk P w K mg base CX0 4 f fd ["_law_box", "_law_letters_z", "_law_deep"] (spLoose 0) := by
      refine F.ok scLoose (fun vs H Q E h => len 0 vs H Q E h) (fun cdv A outer s H vs Q E hr h => ?_)
      obtain ⟨t1, P1, R1⟩ := o1z (P := P) (w := w) (f := f) (cdv := cdv) (outer := outer) (s := s) (H := H) (E := E) (A := A) B GS kS bS gS GA kA bA gA hr
      exact loose_body (by decide) B GD kD bD gD GA kA bA gA GG kG bG gG GZ kZ bZ gZ hr P1 R1 h
    have Gd := ih (by omega)
    refine F.ok (k := 4 + d) scLoose (fun vs H Q E h => len (d + 1) vs H Q E h) (fun cdv A outer s H vs Q E hr h => ?_)
    obtain ⟨t1, P1, R1⟩ := o1s (P := P) (w := w) (f := f) (cdv := cdv) (outer := outer) (s := s) (H := H) (E := E) (A := A) (d := d) (j := 4 + d) (by omega) (by omega) B GS kS bS gS GA kA bA gA GG kG bG gG Gd G0 F.kp bL gL hr
    exact loose_body hd B GD kD bD gD GA kA bA gA GG kG bG gG GZ kZ bZ gZ (hr.mono (by omega)) P1 R1 h
end
end K7
set_option maxRecDepth 100000
set_option maxHeartbeats 2000000
namespace K7
open PySem PySem.Spec PyProof.Rows L2
theorem e_weak {X : Cx} {e : Expr} {t1 t2 : TE} (h : PE X e t1) (imp : ∀ σ H Q, t2 σ H Q → t1 σ H Q) : PE X e t2 := ⟨fun pins s σ H Q I hq => h.run pins s σ H Q I (imp σ H Q hq)⟩
theorem in_noS {H : Hp} {K : PySem.W.Frag} {tg : V} {xs : List V} {Q : VK} (b : Bool) (ht : flatV tg = true) (hl : xs.length ≤ sizeLine) (hf : xs.all flatV = true) (hn : inV tg xs = b) (q : ∀ H', Same H H' → Q (.bl b) H') : xs.length ≤ sizeLine ∧ ∀ p, H p = none → rIn K false tg (.ref p) (upd H p (.tup xs)) Q := by
  refine ⟨hl, fun p np => ⟨p, xs, rfl, .inr (SqT.of upd_same), ht, hf, ?_⟩⟩
  show Q (.bl (inV tg xs)) _
  rw [hn]
  exact q _ (same_new np)
section
variable {P : Program} {w : World} {K : PySem.W.Frag} {mg : Str → Option Value} {base : Heap}
/-- an error of the class C with its one field -/
def One (C : Addr) (tg : V) (fl : Str) (cls : Value) (d : Option Addr) (H : Hp) (q : V → Prop) : Prop := cls = .ref C ∧ ∃ (dd : Addr) (v : V), d = some dd ∧ H dd = some (.xd [("tag", tg), (fl, v)]) ∧ q v
def spF (Ce Cl a : Addr) (cls : Value) (d : Option Addr) : Sp := fun vs H Q _ => vs = [.ref a] ∧ (One Ce tagP "at" cls d H (fun v => ∀ H', Same H H' → Q v H') ∨ One Cl tagL "limit" cls d H (fun v => ∀ H', Same H H' → Q v H'))
def spFld (Ce Cl : Addr) : Addr × Obj → Sp := fun p vs H Q E => ∃ (cls : Value) (d : Option Addr), Zc cls d p.2 ∧ (∃ us, p.2.data = .fields us) ∧ spF Ce Cl p.1 cls d vs H Q E
theorem ok_fld {f Ce fI Cl fJ : Addr} {fd : FuncData} {k : Nat} (F : Fun K "_law_field" "_law_field" sField f fd) (T : ErC K mg "ParseError" "at" Ce fI) (XC : XfC K Ce) (T2 : ErC K mg "TooLong" "limit" Cl fJ) (XL : XfC K Cl) : Rs.FnPin P w K mg base (k + 1) f fd ["_law_e"] (spFld Ce Cl) := by
  refine Rs.fn_pin F scField (fun p vs H Q E h => ?_) (fun cdv A outer s H vs Q p hr h => ?_)
  · obtain ⟨cls, d, _, _, rfl, _⟩ := h
    rfl
  · obtain ⟨a, oe⟩ := p
    obtain ⟨cls, d, hz, hf, rfl, h2⟩ := h
    have hp : (a, oe) ∈ (L2H.cxH CX0 P w K mg base ["_law_e"] "_law_field" (defScope sField) f cdv A outer s H E0 (a, oe)).nox.pn := List.mem_cons_self
    rcases h2 with ⟨rfl, dd, v, rfl, hd, q⟩ | ⟨rfl, dd, v, rfl, hd, q⟩
    · refine ⟨_, pss_cons (ps_if (pt_cmpR op_in_seq (Rs.e_xf XC T.nTag hz hf hp (pv 0)) (pe_tup (pa_cons pe_str (pa_cons pe_str (pa_cons pe_str (pa_cons pe_str (pa_cons pe_str (pa_cons pe_str pa_nil))))))) (by rfl)) pss_never pss_nil)
        (pss_cons (ps_if (pt_cmpR op_in_seq (Rs.e_xf XC T.nTag hz hf hp (pv 0)) (pe_tup (pa_cons pe_str (pa_cons pe_str pa_nil))) (by rfl)) pss_never pss_nil)
        (pss_cons (ps_if (pt_cmpR op_in_seq (Rs.e_xf XC T.nTag hz hf hp (pv 0)) (pe_tup (pa_cons pe_str (pa_cons pe_str (pa_cons pe_str pa_nil)))) (by rfl)) pss_never pss_nil)
        (pss_cons (ps_if (pt_cmpR op_in_seq (Rs.e_xf XC T.nTag hz hf hp (pv 0)) (pe_tup (pa_cons pe_str (pa_cons pe_str (pa_cons pe_str pa_nil)))) (by rfl)) pss_never pss_nil)
        (pss_cons (ps_if (pt_cmpR op_in_seq (Rs.e_xf XC T.nTag hz hf hp (pv 0)) (pe_tup (pa_cons pe_str (pa_cons pe_str pa_nil))) (by rfl)) pss_never pss_nil)
        (pss_cons (ps_if (pt_cmpR op_eq (Rs.e_xf XC T.nTag hz hf hp (pv 0)) pe_str (nomark _)) pss_never pss_nil)
        (pss_one (ps_ret (pe_ifExp (pt_cmpR op_eq (Rs.e_xf XC T.nTag hz hf hp (pv 0)) pe_str (nomark _)) e_never (Rs.e_xf XC T.nF hz hf hp (pv 0)))))))))), ?_⟩
      refine ⟨_, rfl, rfl, rfl, dd, _, _, rfl, hd, rfl, in_noS false rfl (by show 6 ≤ sizeLine; decide) rfl (by decide +kernel) fun H1 s1 => ⟨_, rfl, iteF ?_⟩⟩
      refine ⟨_, rfl, rfl, rfl, dd, _, _, rfl, s1 _ _ hd, rfl, in_noS false rfl (by show 2 ≤ sizeLine; decide) rfl (by decide +kernel) fun H2 s2 => ⟨_, rfl, iteF ?_⟩⟩
      have s2 := s1.trans s2
      refine ⟨_, rfl, rfl, rfl, dd, _, _, rfl, s2 _ _ hd, rfl, in_noS false rfl (by show 3 ≤ sizeLine; decide) rfl (by decide +kernel) fun H3 s3 => ⟨_, rfl, iteF ?_⟩⟩
      have s3 := s2.trans s3
      refine ⟨_, rfl, rfl, rfl, dd, _, _, rfl, s3 _ _ hd, rfl, in_noS false rfl (by show 3 ≤ sizeLine; decide) rfl (by decide +kernel) fun H4 s4 => ⟨_, rfl, iteF ?_⟩⟩
      have s4 := s3.trans s4
      refine ⟨_, rfl, rfl, rfl, dd, _, _, rfl, s4 _ _ hd, rfl, in_noS false rfl (by show 2 ≤ sizeLine; decide) rfl (by decide +kernel) fun H5 s5 => ⟨_, rfl, iteF ?_⟩⟩
      have s5 := s4.trans s5
      refine ⟨_, rfl, rfl, rfl, dd, _, _, rfl, s5 _ _ hd, rfl, rfl, false, congrArg V.bl (by decide +kernel), iteF ?_⟩
      refine ⟨_, rfl, rfl, rfl, dd, _, _, rfl, s5 _ _ hd, rfl, rfl, false, congrArg V.bl (by decide +kernel), iteF ?_⟩
      exact ⟨_, rfl, rfl, rfl, dd, _, _, rfl, s5 _ _ hd, rfl, q _ s5⟩
    · refine ⟨_, pss_cons (ps_if (pt_cmpR op_in_seq (Rs.e_xf XL T2.nTag hz hf hp (pv 0)) (pe_tup (pa_cons pe_str (pa_cons pe_str (pa_cons pe_str (pa_cons pe_str (pa_cons pe_str (pa_cons pe_str pa_nil))))))) (by rfl)) pss_never pss_nil)
        (pss_cons (ps_if (pt_cmpR op_in_seq (Rs.e_xf XL T2.nTag hz hf hp (pv 0)) (pe_tup (pa_cons pe_str (pa_cons pe_str pa_nil))) (by rfl)) pss_never pss_nil)
        (pss_cons (ps_if (pt_cmpR op_in_seq (Rs.e_xf XL T2.nTag hz hf hp (pv 0)) (pe_tup (pa_cons pe_str (pa_cons pe_str (pa_cons pe_str pa_nil)))) (by rfl)) (pss_one (ps_ret (Rs.e_xf XL T2.nF hz hf hp (pv 0)))) pss_nil) pss_never)), ?_⟩
      refine ⟨_, rfl, rfl, rfl, dd, _, _, rfl, hd, rfl, in_noS false rfl (by show 6 ≤ sizeLine; decide) rfl (by decide +kernel) fun H1 s1 => ⟨_, rfl, iteF ?_⟩⟩
      refine ⟨_, rfl, rfl, rfl, dd, _, _, rfl, s1 _ _ hd, rfl, in_noS false rfl (by show 2 ≤ sizeLine; decide) rfl (by decide +kernel) fun H2 s2 => ⟨_, rfl, iteF ?_⟩⟩
      have s2 := s1.trans s2
      refine ⟨_, rfl, rfl, rfl, dd, _, _, rfl, s2 _ _ hd, rfl, in_noS true rfl (by show 3 ≤ sizeLine; decide) rfl (by decide +kernel) fun H3 s3 => ⟨_, rfl, iteT ?_⟩⟩
      exact ⟨_, rfl, rfl, rfl, dd, _, _, rfl, (s2.trans s3) _ _ hd, rfl, q _ (s2.trans s3)⟩
/-! _law_why: what it makes of a lambda that may raise a ParseError or a TooLong -/
def TTw (Ce Cl : Addr) : (XK → Hp → VK → Prop) → Hp → VK → Prop := fun tl H Q =>
  tl (fun cls d H' => One Ce tagP "at" cls d H' (fun v => ∀ H2 T, Same H' H2 → H' T = none → H2 T = some (.tup [tagP, v]) → Q (.ref T) H2) ∨ One Cl tagL "limit" cls d H' (fun v => ∀ H2 T, Same H' H2 → H' T = none → H2 T = some (.tup [tagL, v]) → Q (.ref T) H2)) H
    (fun v H1 => [V.str (Str.ofString ""), v].length ≤ sizeLine ∧ ∀ T, H1 T = none → Q (.ref T) (upd H1 T (.tup [.str (Str.ofString ""), v])))
abbrev NW : List Str := ["_law_ask", "_law_e"]
theorem why_gives {X : Cx} {g Ce fI Cl fJ fF C1 C2 C3 : Addr} {cdg : Value} {fdF : FuncData} {j : Nat} (T : ErC X.K X.mg "ParseError" "at" Ce fI) (XC : XfC X.K Ce) (T2 : ErC X.K X.mg "TooLong" "limit" Cl fJ) (XL : XfC X.K Cl)
    (GF : Rs.FnPin X.prog X.w X.K X.mg X.base (j + 1) fF fdF ["_law_e"] (spFld Ce Cl)) (kF : PySem.W.keepIn X.K (.ref fF) = true) (bF : Binds X.K fdF ["_law_e"] []) (gF : X.mg "_law_field" = some (.ref fF))
    (m1 : X.mg "TownError" = some (.ref C1)) (m2 : X.mg "Missing" = some (.ref C2)) (m3 : X.mg "NothingLeft" = some (.ref C3)) (hx : PySem.W.exmAny X.K (.ref Ce) [.ref C1, .ref C2, .ref C3] = some true) (hx2 : PySem.W.exmAny X.K (.ref Cl) [.ref C1, .ref C2, .ref C3] = some true) (hr : Room (j + 2) X.A) :
    Rs.GivesL X NW "_law_why" (defScope sWhy) g cdg (defBody sWhy) "_law_ask" (TTw Ce Cl) := by
  intro f s H Q tl cd act hc h
  have rm : L2H.RoomH (j + 1) (X.A.deeper (envOfC "_law_why" (defScope sWhy) s.heap.objs.size g cdg)) := ⟨(hr.deeper (envOfC "_law_why" (defScope sWhy) s.heap.objs.size g cdg)).dp, (hr.deeper (envOfC "_law_why" (defScope sWhy) s.heap.objs.size g cdg)).un⟩
  refine ⟨_, pss_one (Rs.s_try3 (X := (cxOf C8.CX0 X.prog X.w X.K X.mg X.base NW "_law_why" (defScope sWhy) g cdg X.A X.stack s H C8.E0).nox) (i := 1) (c1 := .ref C1) (c2 := .ref C2) (c3 := .ref C3)
      (tb := fun W D σ H => ∃ Ech : XK, (∀ cls d σ' H', σ'.length = 2 → Ech cls d H' → W cls d σ' H') ∧ σ[0]? = some (some (.ref f)) ∧ cd H ∧ tl Ech H (fun v H1 => [V.str (Str.ofString ""), v].length ≤ sizeLine ∧ ∀ T, H1 T = none → D.rt (.ref T) (upd H1 T (.tup [.str (Str.ofString ""), v]))))
      (ts := fun a cls d D σ H => (tRet (tTup (tCons (tXf a cls d Ce "tag" (tVar 1)) (tCons (tCall (spF Ce Cl a cls d) [] E0 (tCons (tVar 1) tNil)) tNil)))) D σ H ∨ (tRet (tTup (tCons (tXf a cls d Cl "tag" (tVar 1)) (tCons (tCall (spF Ce Cl a cls d) [] E0 (tCons (tVar 1) tNil)) tNil)))) D σ H)
      rfl rfl scWhy.nd rfl rfl (by rfl) m1 (by rfl) m2 (by rfl) m3 (fun W pn xe tk => ?_)
      (fun a oe cls d pn hz hf => Rs.ss_or (pss_one (ps_ret (pe_tup (pa_cons (Rs.e_xf XC T.nTag hz hf List.mem_cons_self (pv 1)) (pa_cons (e_weak (Rs.e_callP (sp := spFld Ce Cl) (p := (a, oe)) GF (show L2H.RoomH (j + 1) _ from ⟨rm.dp, rm.un⟩) List.mem_cons_self (by rfl) gF kF bF (pa_cons (pv 1) pa_nil)) ?_) pa_nil)))))
        (pss_one (ps_ret (pe_tup (pa_cons (Rs.e_xf XL T2.nTag hz hf List.mem_cons_self (pv 1)) (pa_cons (e_weak (Rs.e_callP (sp := spFld Ce Cl) (p := (a, oe)) GF (show L2H.RoomH (j + 1) _ from ⟨rm.dp, rm.un⟩) List.mem_cons_self (by rfl) gF kF bF (pa_cons (pv 1) pa_nil)) ?_) pa_nil))))))), ?_⟩
  · refine ⟨fun pins s' σ H' D I h' => ?_⟩
    obtain ⟨Ech, hW, h1, h2, h3⟩ := h'
    have tk2 : Takes ((cxOf C8.CX0 X.prog X.w X.K X.mg X.base NW "_law_why" (defScope sWhy) g cdg X.A X.stack s H C8.E0).tr pn xe) (fun cls d σ H => σ.length = 2 → W cls d σ H) := by
      rintro u s2 ⟨a, B, sI, pins2, σ2, H2, cls, d, e, I2, nb, up, sky, na, os, ag, hw2⟩
      exact tk u s2 ⟨a, B, sI, pins2, σ2, H2, cls, d, e, I2, nb, up, sky, na, os, ag, hw2 I2.len⟩
    exact (pss_one (ps_ret (pe_tup (pa_cons pe_str (pa_cons (act (fun cls d σ H => σ.length = 2 → W cls d σ H) pn xe Ech _ _ tk2 (fun cls d σ' H' hE hl => hW cls d σ' H' hl hE)) pa_nil))))).run pins s' σ H' D I ⟨h1, h2, h3⟩
  · intro σ H' Q' hq
    obtain ⟨v, hv, hva, rest⟩ := hq
    exact ⟨v, hv, _, _, hz, hf, hva, rest⟩
  · intro σ H' Q' hq
    obtain ⟨v, hv, hva, rest⟩ := hq
    exact ⟨v, hv, _, _, hz, hf, hva, rest⟩
  · refine ⟨_, fun cls d σ' H' hlen hE => ?_, rfl, hc, h⟩
    rcases hE with ⟨rfl, dd, v, rfl, hd, q2⟩ | ⟨rfl, dd, v, rfl, hd, q2⟩
    · refine ⟨hx, fun a na => .inl ?_⟩
      refine ⟨_, ?_, rfl, rfl, dd, _, _, rfl, hd, rfl, _, ?_, rfl, .inl ⟨rfl, dd, v, rfl, hd, fun H2 s2 => ⟨(by show 2 ≤ sizeLine; decide), fun T nT => q2 _ T (s2.trans (same_new nT)) (s2.free nT) upd_same⟩⟩⟩
      · simp [hlen]
      · simp [hlen]
    · refine ⟨hx2, fun a na => .inr ?_⟩
      refine ⟨_, ?_, rfl, rfl, dd, _, _, rfl, hd, rfl, _, ?_, rfl, .inr ⟨rfl, dd, v, rfl, hd, fun H2 s2 => ⟨(by show 2 ≤ sizeLine; decide), fun T nT => q2 _ T (s2.trans (same_new nT)) (s2.free nT) upd_same⟩⟩⟩
      · simp [hlen]
      · simp [hlen]
end
end K7
set_option maxRecDepth 100000
set_option maxHeartbeats 2000000
namespace K7
open PySem PySem.Spec PyProof.Rows L2
/-! what is written loosely is read as its word -/
def Rw (w c : List Nat) : Prop := (c.length ≤ 400 → w = c) ∧ (400 < c.length → w.length = 401)
theorem Rw.len {w c : List Nat} (h : Rw w c) : w.length = min c.length 401 := by
  by_cases hc : c.length ≤ 400
  · rw [h.1 hc]
    omega
  · rw [h.2 (by omega)]
    omega
theorem rw_refl {c : List Nat} (h : c.length ≤ 400) : Rw c c := ⟨fun _ => rfl, fun z => by omega⟩
theorem rw_pair {w1 w2 c1 c2 : List Nat} (h1 : Rw w1 c1) (h2 : Rw w2 c2) : Rw (ct (w1 ++ w2 ++ opp w1 ++ opp w2)) (c1 ++ c2 ++ opp c1 ++ opp c2) := by
  have l1 := h1.len
  have l2 := h2.len
  have lc : (c1 ++ c2 ++ opp c1 ++ opp c2).length = 2 * c1.length + 2 * c2.length := by
    simp only [List.length_append, opp_len]
    omega
  have lw : (w1 ++ w2 ++ opp w1 ++ opp w2).length = 2 * w1.length + 2 * w2.length := by
    simp only [List.length_append, opp_len]
    omega
  refine ⟨fun hc => ?_, fun hc => ?_⟩
  · rw [h1.1 (by omega), h2.1 (by omega)]
    exact ct_id (by omega)
  · exact ct_full (by omega)
theorem rw_pow {w c : List Nat} (h : Rw w c) {x : Int} : (pw w x).length = min (x.natAbs * c.length) 401 ∧ (x.natAbs * c.length ≤ 400 → pw w x = pwr c x) := by
  have l1 := h.len
  refine ⟨?_, fun hc => ?_⟩
  · rw [pw_lt, l1]
    by_cases h0 : x.natAbs = 0
    · rw [h0]
      simp
    · by_cases hc : c.length ≤ 401
      · rw [Nat.min_eq_left hc]
      · have k1 : x.natAbs * min c.length 401 ≥ 401 := by
          rw [Nat.min_eq_right (by omega)]
          exact Nat.le_mul_of_pos_left 401 (by omega)
        have k2 : x.natAbs * c.length ≥ 401 := Nat.le_trans (by omega) (Nat.le_mul_of_pos_left c.length (by omega))
        omega
  · by_cases h0 : x.natAbs = 0
    · have e : x = 0 := by omega
      subst e
      unfold pw pwr
      rw [if_neg (by decide), if_neg (by decide)]
      rfl
    · have hc2 : c.length ≤ 400 := Nat.le_trans (Nat.le_mul_of_pos_left c.length (by omega)) hc
      rw [h.1 hc2]
      exact pw_small (by omega)
theorem rw_step {w W w1 c : List Nat} (h : Rw w W) (h1 : Rw w1 c) {x : Int} : Rw (ct (w ++ pw w1 x)) (W ++ pwr c x) := by
  obtain ⟨k1, k2⟩ := rw_pow h1 (x := x)
  have l := h.len
  have lc : (W ++ pwr c x).length = W.length + x.natAbs * c.length := by rw [List.length_append, pwr_len]
  have lw : (w ++ pw w1 x).length = w.length + (pw w1 x).length := List.length_append
  refine ⟨fun hc => ?_, fun hc => ?_⟩
  · rw [h.1 (by omega), k2 (by omega)]
    exact ct_id (by omega)
  · exact ct_full (by omega)
theorem rw_pw {w1 c : List Nat} (h1 : Rw w1 c) {x : Int} : Rw (pw w1 x) (pwr c x) := by
  obtain ⟨k1, k2⟩ := rw_pow h1 (x := x)
  have lc := pwr_len c x
  exact ⟨fun hc => k2 (by omega), fun hc => by omega⟩
/-! places in a text -/
theorem mk_hd {t Y : List Nat} {a c : Nat} (h : t.drop a = c :: Y) : mk t a = [c] := by
  unfold mk
  rw [h]
  rfl
theorem mk_nl {t : List Nat} {a : Nat} (h : t.drop a = []) : mk t a = [] := by
  unfold mk
  rw [h]
  rfl
theorem dr {t X Y : List Nat} {a n : Nat} (h : t.drop a = X ++ Y) (hn : n = X.length) : t.drop (a + n) = Y := by
  subst hn
  rw [← List.drop_drop, h, List.drop_left]
theorem dr1 {t Y : List Nat} {a c : Nat} (h : t.drop a = c :: Y) : t.drop (a + 1) = Y := dr (X := [c]) h rfl
theorem sp_succ (k : Nat) (Y : List Nat) : sp (k + 1) ++ Y = 32 :: (sp k ++ Y) := rfl
theorem spn_sp {t Y : List Nat} : ∀ {k a : Nat}, t.drop a = sp k ++ Y → spn t a = k + spn t (a + k)
  | 0, a, h => by simp
  | k + 1, a, h => by
    rw [sp_succ] at h
    rw [spn_cons (mk_hd h), spn_sp (k := k) (dr1 h)]
    rw [show a + 1 + k = a + (k + 1) by omega]
    omega
/-- a character that is no space stands here -/
theorem spn_no {t Y : List Nat} {a c : Nat} (h : t.drop a = c :: Y) (hc : c ≠ 32) : spn t a = 0 := spn_zero (by
  rw [mk_hd h]
  intro e
  exact hc (by simpa using e))
theorem spn_nl {t : List Nat} {a : Nat} (h : t.drop a = []) : spn t a = 0 := spn_zero (by
  rw [mk_nl h]
  intro e
  cases e)
theorem dgt_no {t Y : List Nat} {a c : Nat} (h : t.drop a = c :: Y) (hc : c < 48 ∨ 57 < c) : dgt t a = false := by
  unfold dgt
  rw [mk_hd h]
  show (decide _ : Bool) = false
  exact decide_eq_false (by omega)
theorem dgt_yes {t Y : List Nat} {a c : Nat} (h : t.drop a = c :: Y) (h1 : 48 ≤ c) (h2 : c ≤ 57) : dgt t a = true := by
  unfold dgt
  rw [mk_hd h]
  exact decide_eq_true ⟨h1, h2⟩
end K7
set_option maxRecDepth 100000
set_option maxHeartbeats 2000000
namespace K7
open PySem PySem.Spec PyProof.Rows L2
theorem mk_ne {t Y : List Nat} {a c d : Nat} (h : t.drop a = c :: Y) (hc : c ≠ d) : mk t a ≠ [d] := by
  rw [mk_hd h]
  intro e
  exact hc (by simpa using e)
theorem rd_one {t Y : List Nat} {a c : Nat} (h : t.drop a = c :: 32 :: Y) (h1 : 48 ≤ c) (h2 : c ≤ 57) : rdE t a = .ok (((num [c] : Nat) : Int), a + 1) := by
  have d1 := dr1 h
  have n1 := dgt_no d1 (.inl (by decide))
  rw [rdE_is (mi := false) (b := a) (decide_eq_false (mk_ne h (by omega))) (if_neg (by decide))]
  have e0 : (if mk t a ≠ [48] ∧ dgt t (a + 1) = true then a + 2 else a + 1) = a + 1 := by
    rw [n1]
    simp
  rw [e0, n1, dgt_yes h h1 h2, if_neg (by simp), if_neg (by decide)]
  rw [h, show a + 1 - a = 1 by omega]
  rfl
theorem rd_two {t Y : List Nat} {a c d : Nat} (h : t.drop a = c :: d :: 32 :: Y) (h1 : 49 ≤ c) (h2 : c ≤ 57) (g1 : 48 ≤ d) (g2 : d ≤ 57) : rdE t a = .ok (((num [c, d] : Nat) : Int), a + 2) := by
  have d1 := dr1 h
  have d2 := dr1 d1
  have n1 := dgt_yes d1 g1 g2
  have n2 : dgt t (a + 2) = false := dgt_no d2 (.inl (by decide))
  rw [rdE_is (mi := false) (b := a) (decide_eq_false (mk_ne h (by omega))) (if_neg (by decide))]
  have e0 : (if mk t a ≠ [48] ∧ dgt t (a + 1) = true then a + 2 else a + 1) = a + 2 := if_pos ⟨mk_ne h (by omega), n1⟩
  rw [e0, n2, dgt_yes h (by omega) h2, if_neg (by simp), if_neg (by decide)]
  rw [h, show a + 2 - a = 2 by omega]
  rfl
theorem rd_neg1 {t Y : List Nat} {a c : Nat} (h : t.drop a = 45 :: c :: 32 :: Y) (h1 : 49 ≤ c) (h2 : c ≤ 57) : rdE t a = .ok (-((num [c] : Nat) : Int), a + 2) := by
  have d1 := dr1 h
  have d2 := dr1 d1
  have n2 : dgt t (a + 1 + 1) = false := dgt_no d2 (.inl (by decide))
  rw [rdE_is (mi := true) (b := a + 1) (decide_eq_true (mk_hd h)) (if_pos rfl)]
  have e0 : (if mk t (a + 1) ≠ [48] ∧ dgt t (a + 1 + 1) = true then a + 1 + 2 else a + 1 + 1) = a + 2 := by
    rw [n2]
    simp
  have n3 : dgt t (a + 2) = false := n2
  rw [e0, n3, dgt_yes d1 (by omega) h2, if_neg (by intro z; rcases z with z | z; cases z; exact mk_ne d1 (by omega) z.2), if_neg (by decide)]
  rw [d1, show a + 2 - (a + 1) = 1 by omega]
  rfl
theorem rd_neg2 {t Y : List Nat} {a c d : Nat} (h : t.drop a = 45 :: c :: d :: 32 :: Y) (h1 : 49 ≤ c) (h2 : c ≤ 57) (g1 : 48 ≤ d) (g2 : d ≤ 57) : rdE t a = .ok (-((num [c, d] : Nat) : Int), a + 3) := by
  have d1 := dr1 h
  have d2 := dr1 d1
  have d3 := dr1 d2
  have n2 : dgt t (a + 1 + 1) = true := dgt_yes d2 g1 g2
  have n3 : dgt t (a + 3) = false := dgt_no d3 (.inl (by decide))
  rw [rdE_is (mi := true) (b := a + 1) (decide_eq_true (mk_hd h)) (if_pos rfl)]
  have e0 : (if mk t (a + 1) ≠ [48] ∧ dgt t (a + 1 + 1) = true then a + 1 + 2 else a + 1 + 1) = a + 3 := if_pos ⟨mk_ne d1 (by omega), n2⟩
  rw [e0, n3, dgt_yes d1 (by omega) h2, if_neg (by intro z; rcases z with z | z; cases z; exact mk_ne d1 (by omega) z.2), if_neg (by decide)]
  rw [d1, show a + 3 - (a + 1) = 2 by omega]
  rfl
theorem rd_nt {t Y : List Nat} {a : Nat} {x : Int} (hx : x ∈ tm7) (h : t.drop a = nt x ++ 32 :: Y) : rdE t a = .ok (x, a + (nt x).length) := by
  have c7 : x = 1 ∨ x = 2 ∨ x = -1 ∨ x = 0 ∨ x = -2 ∨ x = 13 ∨ x = -10 := by simpa [tm7] using hx
  rcases c7 with rfl | rfl | rfl | rfl | rfl | rfl | rfl
  · exact rd_one (c := 49) h (by decide) (by decide)
  · exact rd_one (c := 50) h (by decide) (by decide)
  · exact rd_neg1 (c := 49) h (by decide) (by decide)
  · exact rd_one (c := 48) h (by decide) (by decide)
  · exact rd_neg1 (c := 50) h (by decide) (by decide)
  · exact rd_two (c := 49) (d := 51) h (by decide) (by decide) (by decide) (by decide)
  · exact rd_neg2 (c := 49) (d := 48) h (by decide) (by decide) (by decide) (by decide)
/-- what may stand behind a phrase -/
def Stp (Y : List Nat) : Prop := Y = [] ∨ ∃ c r, Y = c :: r ∧ (c = 41 ∨ c = 44 ∨ c = 93)
/-- phrases of the form Lo are read by ph -/
def Rdg (t : List Nat) (ph : Nat → Rr) (Lo : List Nat → List Nat → Prop) : Prop := ∀ (T W : List Nat) (a : Nat) (Y : List Nat), Lo T W → t.drop a = T ++ Y → Stp Y → ∃ w, ph a = .ok (w, a + T.length) ∧ Rw w W
section
variable {L t : List Nat} {m : Nat}
/-- an atom begins here -/
theorem atm_hd {C : List Nat → List Nat → Prop} {p c : List Nat} {x : Int} (hL : ∀ c ∈ L, c ∈ menu) (hC : ∀ p c, C p c → ∃ y r, p = y :: r ∧ (y = 49 ∨ y = 40 ∨ y = 91)) (h : Atm L C p c x) : ∃ y r, p = y :: r ∧ y ≠ 32 ∧ (y ∈ sg L ∨ y = 49 ∨ y = 40 ∨ y = 91) ∧ (y ∉ sg L → y ≠ 49 → ∃ q, C q c) := by
  rcases h with ⟨⟨y, hy, rfl, rfl⟩, _⟩ | ⟨hc, _⟩
  · have := sg_let hL hy
    exact ⟨y, [], rfl, by omega, .inl hy, fun z => absurd hy z⟩
  · obtain ⟨y, r, rfl, hy⟩ := hC p c hc
    exact ⟨y, r, rfl, by omega, .inr hy, fun _ _ => ⟨_, hc⟩⟩
theorem rd_atom {C : List Nat → List Nat → Prop} {ph : Nat → Rr} {d' : Nat} {Lo Lo0 : List Nat → List Nat → Prop} (hL : ∀ c ∈ L, c ∈ menu) (hC : ∀ p c, C p c → d' < 6 ∧ AtmC Lo Lo0 p c) (h1 : Rdg t ph Lo) (h0 : Rdg t ph Lo0) {p c Y : List Nat} {x : Int} {a z : Nat} (ha : Atm L C p c x) (hd : t.drop a = p ++ z :: Y) (hz : z = 32 ∨ z = 94) :
    ∃ w, rdA ph L t d' a = .ok (w, a + p.length) ∧ Rw w c ∧ beg L t a d' = true := by
  have bt : ∀ {y : Nat} {r : List Nat}, t.drop a = y :: r → (y ∈ sg L ∨ y = 49 ∨ ((y = 40 ∨ y = 91) ∧ d' < 6)) → beg L t a d' = true := by
    intro y r hy h
    rw [beg_is (mk_hd hy)]
    rcases h with h | h | ⟨h, h'⟩
    · rw [decide_eq_true h]
      rfl
    · rw [decide_eq_true h]
      simp
    · rw [decide_eq_true h, decide_eq_true h']
      simp
  rcases ha with ⟨⟨y, hy, rfl, rfl⟩, _⟩ | ⟨hc, _⟩
  · have hs := sg_let hL hy
    have b1 := bt hd (.inl hy)
    refine ⟨[y], ?_, rw_refl (show 1 ≤ 400 by decide), b1⟩
    unfold rdA
    rw [b1, if_neg (by decide), if_neg (mk_ne hd (by omega)), if_neg (mk_ne hd (by omega)), if_neg (mk_ne hd (by omega)), mk_hd hd]
    rfl
  · obtain ⟨hd6, hcc⟩ := hC p c hc
    rcases hcc with ⟨rfl, rfl⟩ | ⟨T1, W1, T2, W2, l1, l2, rfl, rfl⟩ | ⟨T1, W1, l1, rfl, rfl⟩
    · have b1 := bt hd (.inr (.inl rfl))
      refine ⟨[], ?_, rw_refl (by decide), b1⟩
      have d1 := dr1 (show t.drop a = 49 :: (z :: Y) from hd)
      unfold rdA
      rw [b1, if_neg (by decide), if_neg (mk_ne hd (by decide)), if_neg (mk_ne hd (by decide)), if_pos (mk_hd hd), dgt_no d1 (by omega), if_neg (by decide)]
      rfl
    · have hd2 : t.drop a = 91 :: (T1 ++ (44 :: (T2 ++ (93 :: z :: Y)))) := by
        rw [hd]
        simp
      have b1 := bt hd2 (.inr (.inr ⟨.inr rfl, hd6⟩))
      have d1 := dr1 hd2
      obtain ⟨w1, e1, q1⟩ := h1 T1 W1 (a + 1) _ l1 d1 (.inr ⟨44, _, rfl, .inr (.inl rfl)⟩)
      have d2 := dr d1 rfl
      have d3 := dr1 d2
      obtain ⟨w2, e2, q2⟩ := h0 T2 W2 (a + 1 + T1.length + 1) _ l2 d3 (.inr ⟨93, _, rfl, .inr (.inr rfl)⟩)
      have d4 := dr d3 rfl
      refine ⟨ct (w1 ++ w2 ++ opp w1 ++ opp w2), ?_, rw_pair q1 q2, b1⟩
      unfold rdA
      rw [b1, if_neg (by decide), if_neg (mk_ne hd2 (by decide)), if_pos (mk_hd hd2)]
      unfold pr
      rw [e1]
      show (if mk t (a + 1 + T1.length) = [44] then pr2 ph t w1 (a + 1 + T1.length) else .error (a + 1 + T1.length)) = _
      rw [if_pos (mk_hd d2)]
      unfold pr2
      rw [e2]
      show (if mk t (a + 1 + T1.length + 1 + T2.length) = [93] then Except.ok (ct (w1 ++ w2 ++ opp w1 ++ opp w2), a + 1 + T1.length + 1 + T2.length + 1) else .error _) = _
      rw [if_pos (mk_hd d4)]
      congr 2
      simp only [List.length_append, List.length_cons, List.length_nil]
      omega
    · have hd2 : t.drop a = 40 :: (T1 ++ (41 :: z :: Y)) := by
        rw [hd]
        simp
      have b1 := bt hd2 (.inr (.inr ⟨.inl rfl, hd6⟩))
      have d1 := dr1 hd2
      obtain ⟨w1, e1, q1⟩ := h1 T1 _ (a + 1) _ l1 d1 (.inr ⟨41, _, rfl, .inl rfl⟩)
      have d2 := dr d1 rfl
      refine ⟨w1, ?_, q1, b1⟩
      unfold rdA
      rw [b1, if_neg (by decide), if_pos (mk_hd hd2)]
      unfold grp
      rw [e1]
      show (if mk t (a + 1 + T1.length) = [41] then Except.ok (w1, a + 1 + T1.length + 1) else .error _) = _
      rw [if_pos (mk_hd d2)]
      congr 2
      simp only [List.length_append, List.length_cons, List.length_nil]
      omega
end
end K7
set_option maxRecDepth 100000
set_option maxHeartbeats 2000000
namespace K7
open PySem PySem.Spec PyProof.Rows L2
theorem rw_app {w W f V : List Nat} (h : Rw w W) (h1 : Rw f V) : Rw (ct (w ++ f)) (W ++ V) := by
  have l := h.len
  have l1 := h1.len
  have lc : (W ++ V).length = W.length + V.length := List.length_append
  have lw : (w ++ f).length = w.length + f.length := List.length_append
  refine ⟨fun hc => ?_, fun hc => ?_⟩
  · rw [h.1 (by omega), h1.1 (by omega)]
    exact ct_id (by omega)
  · exact ct_full (by omega)
theorem pwr_one (c : List Nat) : pwr c 1 = c := by
  unfold pwr
  rw [if_neg (by decide)]
  show rep 1 c = c
  simp [rep]
theorem sg_94 {L : List Nat} (hL : ∀ c ∈ L, c ∈ menu) {x : Nat} (h : x ∈ sg L) : x ≠ 94 := by
  obtain ⟨c, hc, hx⟩ := List.mem_flatMap.mp h
  have hm := menu_low c (hL c hc)
  have hx : x = c ∨ x = c - 32 := by simpa using hx
  omega
theorem pwd_hd {p G : List Nat} {x : Int} (h : Pwd p x G) : ∃ R, G = p ++ R := by
  rcases h with ⟨_, _, rfl⟩ | ⟨s3, s4, _, _, rfl⟩
  · exact ⟨[], by simp⟩
  · exact ⟨sp s3 ++ [94] ++ sp s4 ++ nt x, by simp⟩
def Hds (C : List Nat → List Nat → Prop) : Prop := ∀ p c, C p c → ∃ y r, p = y :: r ∧ (y = 49 ∨ y = 40 ∨ y = 91)
theorem fac_hd {L : List Nat} {C : List Nat → List Nat → Prop} (hL : ∀ c ∈ L, c ∈ menu) (hC : Hds C) {p c G : List Nat} {x : Int} (ha : Atm L C p c x) (hp : Pwd p x G) : ∃ y R, G = y :: R ∧ y ≠ 32 ∧ y ≠ 94 := by
  obtain ⟨R, rfl⟩ := pwd_hd hp
  obtain ⟨y, r, rfl, h1, h2, _⟩ := atm_hd hL hC ha
  refine ⟨y, r ++ R, rfl, h1, ?_⟩
  rcases h2 with h2 | h2
  · exact sg_94 hL h2
  · omega
theorem stp_hd {t Y : List Nat} {a : Nat} (hY : Stp Y) (hd : t.drop a = Y) : spn t a = 0 ∧ (mk t a = [] ∨ ∃ c, mk t a = [c] ∧ (c = 41 ∨ c = 44 ∨ c = 93)) := by
  rcases hY with rfl | ⟨c, r, rfl, hc⟩
  · exact ⟨spn_nl hd, .inl (mk_nl hd)⟩
  · exact ⟨spn_no hd (by omega), .inr ⟨c, mk_hd hd, hc⟩⟩
theorem nx {L t : List Nat} {C : List Nat → List Nat → Prop} (hL : ∀ c ∈ L, c ∈ menu) (hC : Hds C) {l : List (List Nat × List Nat)} (hl : Cat (Fac L C) l) {a : Nat} {Y : List Nat} (hd : t.drop a = txt l ++ Y) (hY : Stp Y) : mk t (a + spn t a) ≠ [94] := by
  cases l with
  | nil =>
    obtain ⟨h1, h2⟩ := stp_hd hY (show t.drop a = Y from hd)
    rw [h1]
    rcases h2 with h2 | ⟨c, h2, hc⟩
    · show mk t a ≠ [94]
      rw [h2]
      intro e
      cases e
    · show mk t a ≠ [94]
      rw [h2]
      intro e
      injection e with e
      omega
  | cons q r =>
    obtain ⟨F, V⟩ := q
    obtain ⟨p, c, G, x, s1, s2, ha, hp, _, _, _, _, rfl⟩ := hl _ List.mem_cons_self
    obtain ⟨y, R, rfl, hy, hy2⟩ := fac_hd hL hC ha hp
    have hd2 : t.drop a = sp s1 ++ (y :: (R ++ sp s2 ++ txt r ++ Y)) := by
      rw [hd]
      simp [txt]
    have d1 := dr hd2 (sp_len s1).symm
    rw [spn_sp hd2, spn_no d1 hy]
    exact mk_ne d1 hy2
section
variable {L t : List Nat}
theorem rd_fac {C : List Nat → List Nat → Prop} {ph : Nat → Rr} {d' : Nat} {Lo Lo0 : List Nat → List Nat → Prop} (hL : ∀ c ∈ L, c ∈ menu) (hC : ∀ p c, C p c → d' < 6 ∧ AtmC Lo Lo0 p c) (h1 : Rdg t ph Lo) (h0 : Rdg t ph Lo0) {p c G Z : List Nat} {x : Int} {b s2 q : Nat} (ha : Atm L C p c x) (hp : Pwd p x G) (h2 : 1 ≤ s2) (hd : t.drop b = G ++ (sp s2 ++ Z)) (hq : q = b + G.length + s2) (hn : mk t (q + spn t q) ≠ [94]) :
    ∃ f, rdF ph L t d' b = .ok (f, q + spn t q) ∧ Rw f (pwr c x) ∧ beg L t b d' = true := by
  obtain ⟨k, rfl⟩ : ∃ k, s2 = k + 1 := ⟨s2 - 1, by omega⟩
  rcases hp with ⟨rfl, _, rfl⟩ | ⟨s3, s4, h3, h4, rfl⟩
  · obtain ⟨w, e1, q1, b1⟩ := rd_atom hL hC h1 h0 ha (show t.drop b = G ++ 32 :: (sp k ++ Z) from hd) (.inl rfl)
    have d1 := dr hd rfl
    have s1 := spn_sp d1
    have e2 : b + G.length + spn t (b + G.length) = q + spn t q := by
      rw [s1, hq]
      omega
    refine ⟨w, ?_, ?_, b1⟩
    · unfold rdF
      rw [e1]
      show (if mk t (b + G.length + spn t (b + G.length)) = [94] then _ else Except.ok (w, b + G.length + spn t (b + G.length))) = _
      rw [e2, if_neg hn]
    · rw [pwr_one]
      exact q1
  · have hx : x ∈ tm7 := by
      rcases ha with ⟨_, hx⟩ | ⟨_, hx⟩
      · exact hx
      · exact (tm57 x hx).1
    have hd2 : t.drop b = p ++ (sp s3 ++ 94 :: (sp s4 ++ (nt x ++ 32 :: (sp k ++ Z)))) := by
      rw [hd]
      simp [sp_succ]
    have key : ∃ w, rdA ph L t d' b = .ok (w, b + p.length) ∧ Rw w c ∧ beg L t b d' = true := by
      cases s3 with
      | zero => exact rd_atom hL hC h1 h0 ha (show t.drop b = p ++ 94 :: _ from hd2) (.inr rfl)
      | succ j => exact rd_atom hL hC h1 h0 ha (show t.drop b = p ++ 32 :: (sp j ++ _) from hd2) (.inl rfl)
    obtain ⟨w, e1, q1, b1⟩ := key
    have d1 := dr hd2 rfl
    have d2 := dr d1 (sp_len s3).symm
    have d3 := dr1 d2
    have d4 := dr d3 (sp_len s4).symm
    have d5 := dr d4 rfl
    have n1 : spn t (b + p.length) = s3 := by rw [spn_sp d1, spn_no d2 (by decide)]; rfl
    have n2 : spn t (b + p.length + s3 + 1) = s4 := by
      rw [spn_sp d3]
      have : spn t (b + p.length + s3 + 1 + s4) = 0 := by
        have c7 : x = 1 ∨ x = 2 ∨ x = -1 ∨ x = 0 ∨ x = -2 ∨ x = 13 ∨ x = -10 := by simpa [tm7] using hx
        rcases c7 with rfl | rfl | rfl | rfl | rfl | rfl | rfl
        · exact spn_no (c := 49) d4 (by decide)
        · exact spn_no (c := 50) d4 (by decide)
        · exact spn_no (c := 45) d4 (by decide)
        · exact spn_no (c := 48) d4 (by decide)
        · exact spn_no (c := 45) d4 (by decide)
        · exact spn_no (c := 49) d4 (by decide)
        · exact spn_no (c := 45) d4 (by decide)
      omega
    have n3 := spn_sp (k := k + 1) (Y := Z) (show t.drop (b + p.length + s3 + 1 + s4 + (nt x).length) = sp (k + 1) ++ Z from d5)
    have eq : b + p.length + s3 + 1 + s4 + (nt x).length + (k + 1) = q := by
      rw [hq]
      simp only [List.length_append, List.length_cons, List.length_nil, sp_len]
      omega
    refine ⟨pw w x, ?_, rw_pw q1, b1⟩
    unfold rdF
    rw [e1]
    show (if mk t (b + p.length + spn t (b + p.length)) = [94] then fx t w (b + p.length + spn t (b + p.length)) else _) = _
    rw [n1, if_pos (mk_hd d2)]
    unfold fx
    rw [n2, rd_nt hx d4]
    show Except.ok (pw w x, b + p.length + s3 + 1 + s4 + (nt x).length + spn t (b + p.length + s3 + 1 + s4 + (nt x).length)) = _
    rw [n3, eq, ← eq]
    congr 2
    omega
theorem hds_of {C : List Nat → List Nat → Prop} {d' : Nat} {Lo Lo0 : List Nat → List Nat → Prop} (hC : ∀ p c, C p c → d' < 6 ∧ AtmC Lo Lo0 p c) : Hds C := by
  intro p c h
  obtain ⟨_, h⟩ := hC p c h
  rcases h with ⟨rfl, rfl⟩ | ⟨T1, W1, T2, W2, _, _, rfl, rfl⟩ | ⟨T1, W1, _, rfl, rfl⟩
  · exact ⟨49, [], rfl, .inl rfl⟩
  · exact ⟨91, T1 ++ [44] ++ T2 ++ [93], by simp, .inr (.inr rfl)⟩
  · exact ⟨40, T1 ++ [41], by simp, .inr (.inl rfl)⟩
/-- one factor at the head of those left -/
theorem rd_hd {C : List Nat → List Nat → Prop} {ph : Nat → Rr} {d' : Nat} {Lo Lo0 : List Nat → List Nat → Prop} (hL : ∀ c ∈ L, c ∈ menu) (hC : ∀ p c, C p c → d' < 6 ∧ AtmC Lo Lo0 p c) (h1 : Rdg t ph Lo) (h0 : Rdg t ph Lo0) {F V Y : List Nat} {r : List (List Nat × List Nat)} (hl : Cat (Fac L C) ((F, V) :: r)) {a : Nat} (hd : t.drop a = txt ((F, V) :: r) ++ Y) (hY : Stp Y) :
    ∃ f, rdF ph L t d' (a + spn t a) = .ok (f, a + F.length + spn t (a + F.length)) ∧ Rw f V ∧ beg L t (a + spn t a) d' = true ∧ t.drop (a + F.length) = txt r ++ Y ∧ Cat (Fac L C) r := by
  have hH := hds_of hC
  have hr : Cat (Fac L C) r := fun q hq => hl q (List.mem_cons_of_mem _ hq)
  have dF : t.drop (a + F.length) = txt r ++ Y := dr (X := F) (by rw [hd]; simp [txt]) rfl
  have hn := nx hL hH hr dF hY
  obtain ⟨p, c, G, x, s1, s2, ha, hp, _, hs, _, hV, hF⟩ := hl _ List.mem_cons_self
  simp only at hV hF
  obtain ⟨y, R, hG, hy, _⟩ := fac_hd hL hH ha hp
  have hd2 : t.drop a = sp s1 ++ (G ++ (sp s2 ++ (txt r ++ Y))) := by
    rw [hd, txt, List.map_cons, List.flatten_cons, hF]
    simp [txt]
  have d1 := dr hd2 (sp_len s1).symm
  have n1 : spn t a = s1 := by
    rw [spn_sp hd2, spn_no (c := y) (Y := R ++ (sp s2 ++ (txt r ++ Y))) (by rw [d1, hG]; rfl) hy]
    rfl
  have lF : a + F.length = a + s1 + G.length + s2 := by
    rw [hF]
    simp only [List.length_append, sp_len]
    omega
  obtain ⟨f, g1, g2, g3⟩ := rd_fac hL hC h1 h0 ha hp hs d1 lF hn
  rw [n1, hV]
  exact ⟨f, g1, g2, g3, dF, hr⟩
theorem rd_loop {C : List Nat → List Nat → Prop} {ph : Nat → Rr} {d' : Nat} {Lo Lo0 : List Nat → List Nat → Prop} (hL : ∀ c ∈ L, c ∈ menu) (hC : ∀ p c, C p c → d' < 6 ∧ AtmC Lo Lo0 p c) (h1 : Rdg t ph Lo) (h0 : Rdg t ph Lo0) {Y : List Nat} (hY : Stp Y) : ∀ (l : List (List Nat × List Nat)) (n a : Nat) (w W : List Nat), l.length ≤ n → Cat (Fac L C) l → t.drop a = txt l ++ Y → Rw w W → ∃ w', rdL (rdF ph L t d') L t d' n (a + spn t a) w = .ok (w', a + (txt l).length) ∧ Rw w' (W ++ wrd l)
  | [], n, a, w, W, hn, hl, hd, hw => by
    obtain ⟨s, h2⟩ := stp_hd hY (show t.drop a = Y from hd)
    have hb : beg L t a d' = false := by
      rcases h2 with h2 | ⟨c, h2, hc⟩
      · unfold beg
        rw [h2]
      · rw [beg_is h2, decide_eq_false (fun z => by have := sg_let hL z; omega), decide_eq_false (by omega), decide_eq_false (by omega)]
        rfl
    refine ⟨w, ?_, ?_⟩
    · rw [s]
      cases n with
      | zero => rfl
      | succ n =>
        unfold rdL
        rw [Nat.add_zero, if_pos hb]
        rfl
    · show Rw w (W ++ [])
      rw [List.append_nil]
      exact hw
  | (F, V) :: r, 0, a, w, W, hn, hl, hd, hw => by
    simp at hn
  | (F, V) :: r, n + 1, a, w, W, hn, hl, hd, hw => by
    obtain ⟨f, g1, g2, g3, g4, g5⟩ := rd_hd hL hC h1 h0 hl hd hY
    obtain ⟨w', k1, k2⟩ := rd_loop hL hC h1 h0 hY r n (a + F.length) (ct (w ++ f)) (W ++ V) (by simpa using hn) g5 g4 (rw_app hw g2)
    refine ⟨w', ?_, ?_⟩
    · unfold rdL
      rw [g3, if_neg (by decide), g1]
      show rdL (rdF ph L t d') L t d' n (a + F.length + spn t (a + F.length)) (ct (w ++ f)) = _
      rw [k1]
      congr 2
      simp [txt]
      omega
    · have : W ++ wrd ((F, V) :: r) = W ++ V ++ wrd r := by simp [wrd]
      rw [this]
      exact k2
theorem rd_phr {C : List Nat → List Nat → Prop} {ph : Nat → Rr} {d' : Nat} {Lo Lo0 : List Nat → List Nat → Prop} (hL : ∀ c ∈ L, c ∈ menu) (hC : ∀ p c, C p c → d' < 6 ∧ AtmC Lo Lo0 p c) (h1 : Rdg t ph Lo) (h0 : Rdg t ph Lo0) : Rdg t (rdP0 (rdF ph L t d') L t d') (Phr (Fac L C)) := by
  intro T W a Y hT hd hY
  obtain ⟨l, l1, l3, hl, rfl, rfl⟩ := hT
  cases l with
  | nil => simp at l1
  | cons q r =>
    obtain ⟨F, V⟩ := q
    obtain ⟨f, g1, g2, g3, g4, g5⟩ := rd_hd hL hC h1 h0 hl hd hY
    obtain ⟨w', k1, k2⟩ := rd_loop hL hC h1 h0 hY r (t.length + 2) (a + F.length) f V (by simp only [List.length_cons] at l3; omega) g5 g4 g2
    refine ⟨w', ?_, ?_⟩
    · unfold rdP0
      rw [g1]
      show rdL (rdF ph L t d') L t d' (t.length + 2) (a + F.length + spn t (a + F.length)) f = _
      rw [k1]
      congr 2
      simp [txt]
      omega
    · have : wrd ((F, V) :: r) = V ++ wrd r := by simp [wrd]
      rw [this]
      exact k2
theorem rd_none (ph : Nat → Rr) : Rdg t ph (fun _ _ => False) := fun _ _ _ _ h => h.elim
theorem rd_loo0 (hL : ∀ c ∈ L, c ∈ menu) (m : Nat) : Rdg t (rdP L t m) (fun T W => Phr (Fac L fun _ _ => False) T W) := by
  rw [rdP_eq]
  exact rd_phr (C := fun _ _ => False) (Lo := fun _ _ => False) (Lo0 := fun _ _ => False) hL (fun p c h => h.elim) (rd_none _) (rd_none _)
theorem rd_loo (hL : ∀ c ∈ L, c ∈ menu) : ∀ (d m : Nat), d ≤ m → m ≤ 6 → Rdg t (rdP L t m) (Loo L d)
  | 0, m, _, _ => rd_loo0 hL m
  | d + 1, m, h, h6 => by
    obtain ⟨j, rfl⟩ : ∃ j, m = j + 1 := ⟨m - 1, by omega⟩
    rw [rdP_eq]
    exact rd_phr (C := Cmp L (d + 1)) (Lo := fun T W => Phr (Fac L (Cmp L d)) T W) (Lo0 := fun T W => Phr (Fac L fun _ _ => False) T W) hL (fun p c hc => ⟨by omega, hc⟩) (rd_loo hL d j (by omega) (by omega)) (rd_loo0 hL j)
theorem rdW_loo (hL : ∀ c ∈ L, c ∈ menu) {d : Nat} (hd : d ≤ 6) {T W : List Nat} (h : Loo L d T W) : rdW L T = if W.length ≤ 400 then .ok W else .error none := by
  obtain ⟨w, e, q⟩ := rd_loo (t := T) hL d 6 hd (Nat.le_refl _) T W 0 [] h (by simp) (.inl rfl)
  unfold rdW
  rw [e]
  show (if 0 + T.length < T.length then _ else if 400 < w.length then Except.error none else Except.ok w) = _
  rw [if_neg (by omega)]
  by_cases hc : W.length ≤ 400
  · rw [if_pos hc, q.1 hc, if_neg (by omega)]
  · rw [if_neg hc, if_pos (by rw [q.2 (by omega)]; decide)]
end
end K7
set_option maxRecDepth 100000
set_option maxHeartbeats 2000000
namespace K7
open PySem PySem.Spec PyProof.Rows L2
theorem o_mulC {X : Cx} : OpR X (binaryOp .Mult) (fun x y H Q => ∃ (l : List Nat) (n : Nat), x = tx l ∧ y = .int (n : Int) ∧ l.length ≤ 100000 ∧ n ≤ 1000 ∧ l.length * n ≤ 100000 ∧ Q (tx (rep n l)) H) := by
  intro pins s σ H x y v u Q I rx ry h
  obtain ⟨l, n, rfl, rfl, h1, h2, hm, q⟩ := h
  obtain ⟨t, rfl⟩ := rx
  obtain ⟨t', rfl⟩ := ry
  have hl : (SX.S l).length = l.length := tx_len l
  refine PySem.P.mul_str ?_ (fun hn _ => ?_) (fun hn _ => ?_) ?_
  · rw [decide_eq_false (by omega), decide_eq_false (by omega)]
    rfl
  · rw [hl]
    have : (100000 : Int) ≤ (2 ^ 63 - 1) / (n : Int) := by
      rw [Int.le_ediv_iff_mul_le (by omega)]
      omega
    omega
  · rw [hl]
    exact short24 (by rw [Int.toNat_natCast]; omega)
  · by_cases h0 : n = 0
    · subst h0
      rw [if_pos (by decide)]
      refine ⟨by decide, ⟨tx (rep 0 l), H, I.tok _, ⟨_, rfl⟩, q⟩⟩
    · rw [if_neg (by omega)]
      by_cases e : (((n : Int) == 1) || ((SX.S l).length == 0)) = true
      · rw [if_pos e]
        have e3 : rep n l = l := by
          rw [Bool.or_eq_true] at e
          rcases e with e | e
          · have : n = 1 := by
              have := eq_of_beq e
              omega
            subst this
            simp [rep]
          · rw [hl] at e
            have : l = [] := List.eq_nil_of_length_eq_zero (eq_of_beq e)
            subst this
            simp [rep]
        rw [e3] at q
        exact ⟨.str (SX.S l), H, I, ⟨_, rfl⟩, q⟩
      · rw [if_neg e, Int.toNat_natCast, fold_rep]
        have e3 : (#[] ++ (rep n l).toArray : Array Nat) = (rep n l).toArray := by simp
        rw [e3]
        refine ⟨?_, ⟨tx (rep n l), H, I.tok _, ⟨_, rfl⟩, q⟩⟩
        show (SX.S (rep n l)).length ≤ sizeLine
        refine asc_big ?_
        rw [rep_len, Nat.mul_comm]
        omega
/-! what the law's reader hands on is short -/
abbrev NL : List Str := ["_law_script", "_law_box", "_law_turn", "_law_due", "_law_told", "_law_letters_z", "_law_loose_here"]
theorem scLaw : FnScope NL ["_law_script"] (defScope sLaw) := ⟨rfl, rfl, rfl, by decide +kernel, rfl, by decide +kernel, by decide +kernel⟩
abbrev lst (i : Nat) : Stmt := (defBody sLaw).getD i (.Pass ⟨0, 0, 0, 0⟩)
def tbd : List Stmt := forBody (lst 1)
abbrev tbs (i : Nat) : Stmt := tbd.getD i (.Pass ⟨0, 0, 0, 0⟩)
def qL : Str := (envOfC "law" (defScope sLaw) 0 0 .none).qual ++ "<lambda>"
def lamP : Expr → Arguments
  | .Lambda p _ _ _ => p
  | _ => ⟨[], [], none, [], [], none, []⟩
def lamE : Expr → Expr
  | .Lambda _ e _ _ => e
  | e => e
def lamS : Expr → Scope
  | .Lambda _ _ s _ => s
  | _ => defScope sLaw
def arg0 : Expr → Expr
  | .Call _ (e :: _) _ _ => e
  | e => e
def itm (i : Nat) : Expr → Expr
  | .List es _ => es.getD i (.Name "" ⟨0, 0, 0, 0⟩)
  | e => e
def tstE : Stmt → Expr
  | .If e _ _ _ => e
  | .Assign _ e _ => e
  | .Expr e _ => e
  | _ => .Name "" ⟨0, 0, 0, 0⟩
def notE : Expr → Expr
  | .UnaryOp _ e _ => e
  | e => e
def andE (i : Nat) : Expr → Expr
  | .BoolOp _ es _ => es.getD i (.Name "" ⟨0, 0, 0, 0⟩)
  | e => e
def rhsE : Expr → Expr
  | .BinOp _ _ e _ => e
  | e => e
def ask1 : Expr := arg0 (arg0 (notE (andE 1 (tstE (tbs 3)))))
def ask2 : Expr := arg0 (itm 0 (tstE (lst 2)))
def ask3 : Expr := arg0 (itm 1 (tstE (lst 2)))
def ask4 : Expr := arg0 (itm 0 (rhsE (tstE (lst 3))))
def ask5 : Expr := arg0 (arg0 (tstE (lst 4)))
theorem bind0 (e : Expr) (h : e = ask1 ∨ e = ask2 ∨ e = ask4 ∨ e = ask5) : Rs.LamBind (lamP e) (lamE e) (lamS e) := by
  intro z q cl dV doc pm cv ctv hd
  rcases hd with ⟨_, rfl⟩ | ⟨t, its, _, _, _, hn⟩
  · rcases h with rfl | rfl | rfl | rfl <;> exact ⟨[], .of_eq rfl, fun y hy => nomatch hy⟩
  · rcases h with rfl | rfl | rfl | rfl <;> exact absurd rfl hn
theorem bind3 : Rs.LamBind (lamP ask3) (lamE ask3) (lamS ask3) := by
  intro z q cl dV doc pm cv ctv h
  rcases h with ⟨h0, _⟩ | ⟨t, its, rfl, ⟨o, ho, _, n, hs⟩, hl, _⟩
  · cases h0
  · match its, hl with
    | [v], _ =>
      refine ⟨[("_law_a", v)], BindsTo.of_defaults (T := t) rfl ho hs rfl rfl, ?_⟩
      intro y hy
      rw [List.mem_singleton.mp hy]
      rfl
abbrev S8 (a b : Addr) (y2 y3 y4 y5 y6 : Option V) : L2.St := [some (.ref a), some (.ref b), y2, y3, y4, y5, y6]
def Zz (Pt b m : Addr) (H : Hp) : Prop := Bx H b m ∧ LamX.Tabs [(Pt, qL)] H
theorem Zz.same {Pt b m : Addr} {H H' : Hp} (z : Zz Pt b m H) (s : Same H H') : Zz Pt b m H' := ⟨z.1.same s, z.2.ext s⟩
theorem tabs_go {T : List (Addr × Str)} {H H' : Hp} {b m : Addr} (t : LamX.Tabs T H) (hB : Bx H b m) (g : BxGo H H' b m) : LamX.Tabs T H' := by
  intro p hp
  obtain ⟨ms, i, r, s, hb, _⟩ := hB
  obtain ⟨ps, h1, h2, h3⟩ := t p hp
  refine ⟨ps, g.2 _ _ (fun e => ?_) h1, h2, fun pos cv hc => ?_⟩
  · rw [e, hb] at h1
    cases h1
  · obtain ⟨c, e1, e2⟩ := h3 pos cv hc
    refine ⟨c, e1, g.2 _ _ (fun e => ?_) e2⟩
    rw [e, hb] at e2
    cases e2
theorem bx_ext {H H' : Hp} {b m : Addr} (x : Bx H b m) (e : LamX.ExtN H H') : Bx H' b m := by
  obtain ⟨ms, i, r, s, h1, h2, h3⟩ := x
  exact ⟨ms, i, r, s, e _ _ h1 (fun ps z => by cases z), e _ _ h2 (fun ps z => by cases z), h3⟩
theorem Zz.go {Pt b m : Addr} {H H' : Hp} (z : Zz Pt b m H) (g : BxGo H H' b m) : Zz Pt b m H' := ⟨g.1, tabs_go z.2 z.1 g⟩
theorem passN {P : Program} {w : World} {X : Cx} (hp : X.prog = P) (hw : X.w = w) : Passes (L2.CX P w) X E0 := by
  intro pins σ H s e s' I h
  obtain ⟨_, _, _, _, _, _, _, _, _, _, _, _, hE⟩ := h
  exact hE.elim
/-- a def that is called by its name -/
structure Cb (P : Program) (w : World) (K : PySem.W.Frag) (mg : Str → Option Value) (base : Heap) (CX : CXT) (k : Nat) (x : Str) (ps : List Str) (sp : Sp) (f : Addr) (fd : FuncData) : Prop where
  ok : FnOk P w K mg base CX k f fd ps sp
  kp : PySem.W.keepIn K (.ref f) = true
  b : Binds K fd ps []
  g : mg x = some (.ref f)
/-- two keywords in the reverse order of the parameters -/
def rev2 {α : Type} : List α → List α → List α
  | [], [x, y] => [y, x]
  | _, _ => []
theorem rev2_rel {vs : List V} {us : List Value} {zs : List V} {ws : List Value} (r : Vals vs us) (rz : Vals zs ws) : Vals (rev2 vs zs) (rev2 us ws) := by
  cases r with
  | cons _ _ => exact .nil
  | nil =>
    cases rz with
    | nil => exact .nil
    | cons r1 rz =>
      cases rz with
      | nil => exact .nil
      | cons r2 rz =>
        cases rz with
        | nil => exact .cons r2 (.cons r1 .nil)
        | cons _ _ => exact .nil
theorem kb_rw {K : PySem.W.Frag} {f : Addr} {fd : FuncData} (F : Fun K "read_word" "read_word" sRWord f fd) : KBinds K fd ["text", "letters"] ["letters", "text"] rev2 rev2 := by
  obtain ⟨oc, od, kV, doc, pm, an, cdv, ct, osl, rfl, lk, hcd⟩ := F.ex
  refine ⟨fun s us ws _ hl => ?_, rev2_rel⟩
  match us, ws, hl with
  | [], [x, y], _ => exact .of_eq rfl
section
variable {P : Program} {w : World} {K : PySem.W.Frag} {mg : Str → Option Value} {base : Heap}
variable {f fR Ce Cl c : Addr} {fdR : FuncData} {A : Around} {outer : List Env} {s : Shared} {H : Hp} {E : XK}
abbrev XL (P : Program) (w : World) (K : PySem.W.Frag) (mg : Str → Option Value) (base : Heap) (f c : Addr) (A : Around) (outer : List Env) (s : Shared) (H : Hp) (E : XK) : Cx := (cxOf CX0 P w K mg base NL "law" (defScope sLaw) f (.ref c) A outer s H E).nox
/-- what a reading of t asks of its caller -/
def Rds (Ce Cl : Addr) (L t : List Nat) (G : Hp) (Q : VK) (E2 : XK) : Prop := (∀ w, rdW L t = .ok w → ∀ H', Same G H' → Q (tx w) H') ∧ (∀ i, rdW L t = .error (some i) → FlP Ce i G E2) ∧ (rdW L t = .error none → FlL Cl G E2)
theorem ab_is : Str.ofString "ab" = SX.S [97, 98] := by decide
theorem lab : Lt [97, 98] := ⟨by decide, by decide⟩
theorem a_is : Str.ofString "a" = SX.S [97] := by decide
theorem lA : Lt [97] := ⟨by decide, by decide⟩
theorem l1 (cR : Cb P w K mg base (L2.CX P w) 31 "read_word" ["text", "letters"] (spRw Ce Cl) fR fdR) :
    ∃ t, Rs.LamB (XL P w K mg base f c A outer s H E) 31 (lamP ask1) (lamE ask1) (lamS ask1) t ∧ ∀ (E2 : XK) (a b p : Addr) (y2 y3 y4 : Option V) (L x : List Nat) (u : V) (G : Hp) (Q : VK), Lt L → x.length ≤ 9000 → Asc x → G p = some (.tup [tx x, u]) → Rds Ce Cl L x G Q E2 → t E2 (S8 a b y2 y3 y4 (some (tx L)) (some (.ref p))) G Q := by
  refine ⟨_, ⟨Rs.lamQ_by (N := NL) (sc := defScope sLaw) (by decide +kernel), bind0 _ (.inl rfl), fun A2 outer2 s2 H2 E2 f2 c2 hr2 =>
    pe_call cR.ok hr2 (by rfl) cR.g cR.kp cR.b .nil (passes_call (W := fun cls d _ H => E2 cls d H) (takes_of rfl rfl rfl rfl) (fun _ _ _ _ h => h)) (pa_cons (pe_ix (show IxR _ (rIxT K) from ix_tup) (pv 6) pe_int (fun _ _ => rfl)) (pa_cons (pv 5) pa_nil))⟩, ?_⟩
  intro E2 a b p y2 y3 y4 L x u G Q hL hl hA hp h
  exact ⟨_, rfl, p, _, 0, _, rfl, rfl, SqT.of hp, rfl, _, rfl, x, L, rfl, hl, hA, hL, h.1, h.2.1, h.2.2⟩
def tx2 : List Nat := [97, 94, 57, 57, 32, 40, 97, 94, 57, 57, 41, 94, 51]
def tx3 : List Nat := [40, 97, 94, 50, 48, 41, 94, 50, 48, 32, 65]
def tx4 : List Nat := [40, 40, 40, 40, 40, 40, 97, 41, 41, 41, 41, 41, 41, 94, 45, 50, 32, 91, 32, 97, 32, 44, 98, 93]
def tx5 : List Nat := [40, 97, 94, 50, 48, 41, 94, 50, 48, 32, 40, 40, 97, 94, 57, 57, 41, 94, 57, 57, 41, 94, 48]
theorem tx2_is : Str.ofString "a^99 (a^99)^3" = SX.S tx2 := by decide
theorem tx3_is : Str.ofString "(a^20)^20 A" = SX.S tx3 := by decide
theorem tx4_is : Str.ofString "((((((a))))))^-2 [ a ,b]" = SX.S tx4 := by decide
theorem tx5_is : Str.ofString "(a^20)^20 ((a^99)^99)^0" = SX.S tx5 := by decide
theorem l2 (cR : Cb P w K mg base (L2.CX P w) 31 "read_word" ["text", "letters"] (spRw Ce Cl) fR fdR) :
    ∃ t, Rs.LamB (XL P w K mg base f c A outer s H E) 31 (lamP ask2) (lamE ask2) (lamS ask2) t ∧ ∀ (E2 : XK) (σ : L2.St) (G : Hp) (Q : VK), Rds Ce Cl [97] tx2 G Q E2 → t E2 σ G Q := by
  refine ⟨_, ⟨Rs.lamQ_by (N := NL) (sc := defScope sLaw) (by decide +kernel), bind0 _ (.inr (.inl rfl)), fun A2 outer2 s2 H2 E2 f2 c2 hr2 =>
    pe_call cR.ok hr2 (by rfl) cR.g cR.kp cR.b .nil (passes_call (W := fun cls d _ H => E2 cls d H) (takes_of rfl rfl rfl rfl) (fun _ _ _ _ h => h)) (pa_cons pe_str (pa_cons pe_str pa_nil))⟩, ?_⟩
  intro E2 σ G Q h
  exact ⟨tx2, [97], by rw [a_is, tx2_is]; rfl, by decide, (by unfold Asc; decide), lA, h.1, h.2.1, h.2.2⟩
theorem l3 (cR : Cb P w K mg base (L2.CX P w) 31 "read_word" ["text", "letters"] (spRw Ce Cl) fR fdR) :
    ∃ t, Rs.LamB (XL P w K mg base f c A outer s H E) 31 (lamP ask3) (lamE ask3) (lamS ask3) t ∧ ∀ (E2 : XK) (σ : L2.St) (G : Hp) (Q : VK), Rds Ce Cl [97] tx3 G Q E2 → t E2 σ G Q := by
  refine ⟨_, ⟨Rs.lamQ_by (N := NL) (sc := defScope sLaw) (by decide +kernel), bind3, fun A2 outer2 s2 H2 E2 f2 c2 hr2 =>
    pe_call cR.ok hr2 (by rfl) cR.g cR.kp cR.b .nil (passes_call (W := fun cls d _ H => E2 cls d H) (takes_of rfl rfl rfl rfl) (fun _ _ _ _ h => h)) (pa_cons pe_str (pa_cons pe_str pa_nil))⟩, ?_⟩
  intro E2 σ G Q h
  exact ⟨tx3, [97], by rw [a_is, tx3_is]; rfl, by decide, (by unfold Asc; decide), lA, h.1, h.2.1, h.2.2⟩
theorem l4 (cR : Cb P w K mg base (L2.CX P w) 31 "read_word" ["text", "letters"] (spRw Ce Cl) fR fdR) (kb : KBinds K fdR ["text", "letters"] ["letters", "text"] rev2 rev2) :
    ∃ t, Rs.LamB (XL P w K mg base f c A outer s H E) 31 (lamP ask4) (lamE ask4) (lamS ask4) t ∧ ∀ (E2 : XK) (σ : L2.St) (G : Hp) (Q : VK), Rds Ce Cl [97, 98] tx4 G Q E2 → t E2 σ G Q := by
  refine ⟨_, ⟨Rs.lamQ_by (N := NL) (sc := defScope sLaw) (by decide +kernel), bind0 _ (.inr (.inr (.inl rfl))), fun A2 outer2 s2 H2 E2 f2 c2 hr2 =>
    Rs.e_callK0 cR.ok hr2 (by rfl) cR.g cR.kp kb (passes_call (W := fun cls d _ H => E2 cls d H) (takes_of rfl rfl rfl rfl) (fun _ _ _ _ h => h)) (pk_cons pe_str (pk_cons pe_str pk_nil))⟩, ?_⟩
  intro E2 σ G Q h
  exact ⟨tx4, [97, 98], by rw [ab_is, tx4_is]; rfl, by decide, (by unfold Asc; decide), lab, h.1, h.2.1, h.2.2⟩
theorem l5 (cR : Cb P w K mg base (L2.CX P w) 31 "read_word" ["text", "letters"] (spRw Ce Cl) fR fdR) :
    ∃ t, Rs.LamB (XL P w K mg base f c A outer s H E) 31 (lamP ask5) (lamE ask5) (lamS ask5) t ∧ ∀ (E2 : XK) (σ : L2.St) (G : Hp) (Q : VK), Rds Ce Cl [97] tx5 G Q E2 → t E2 σ G Q := by
  refine ⟨_, ⟨Rs.lamQ_by (N := NL) (sc := defScope sLaw) (by decide +kernel), bind0 _ (.inr (.inr (.inr rfl))), fun A2 outer2 s2 H2 E2 f2 c2 hr2 =>
    pe_call cR.ok hr2 (by rfl) cR.g cR.kp cR.b .nil (passes_call (W := fun cls d _ H => E2 cls d H) (takes_of rfl rfl rfl rfl) (fun _ _ _ _ h => h)) (pa_cons pe_str (pa_cons pe_str pa_nil))⟩, ?_⟩
  intro E2 σ G Q h
  exact ⟨tx5, [97], by rw [a_is, tx5_is]; rfl, by decide, (by unfold Asc; decide), lA, h.1, h.2.1, h.2.2⟩
theorem r2_is : rdW [97] tx2 = .ok (rep 396 [97]) := by kernel_rfl
theorem r3_is : rdW [97] tx3 = .error none := by kernel_rfl
theorem r4_is : rdW [97, 98] tx4 = .ok [65, 65, 97, 98, 65, 66] := by kernel_rfl
theorem r5_is : rdW [97] tx5 = .ok (rep 400 [97]) := by kernel_rfl
end
end K7
set_option maxRecDepth 100000
set_option maxHeartbeats 2000000
namespace K7
open PySem PySem.Spec PyProof.Rows L2
theorem why_rds {Ce Cl : Addr} {L x : List Nat} {G : Hp} {Q : VK} {tl : XK → Hp → VK → Prop} (h : ∀ E2 Q2, Rds Ce Cl L x G Q2 E2 → tl E2 G Q2) (q : ∀ H' T, Same G H' → G T = none → H' T = some (.tup (whyV (rdW L x))) → Q (.ref T) H') : TTw Ce Cl tl G Q := by
  refine h _ _ ⟨fun w hw H' sm => ⟨(by show 2 ≤ sizeLine; decide), fun T nT => ?_⟩, fun i hi H' d sm nd hd => .inl ⟨rfl, d, _, rfl, hd, fun H2 T s2 nT hT => ?_⟩, fun hi H' d sm nd hd => .inr ⟨rfl, d, _, rfl, hd, fun H2 T s2 nT hT => ?_⟩⟩
  · refine q _ T (sm.trans (same_new nT)) (sm.free nT) ?_
    rw [upd_same, hw]
    rfl
  · refine q H2 T (sm.trans s2) (sm.free nT) ?_
    rw [hT, hi]
    rfl
  · refine q H2 T (sm.trans s2) (sm.free nT) ?_
    rw [hT, hi]
    rfl
theorem why_flat (r : Except (Option Nat) (List Nat)) : (whyV r).length = 2 ∧ ∀ v ∈ whyV r, Flat v := by
  match r with
  | .error (some i) =>
    refine ⟨rfl, fun v hv => ?_⟩
    have h2 : v = tagP ∨ v = .int (i : Int) := by simpa [whyV] using hv
    rcases h2 with rfl | rfl
    · exact .inr (.inl ⟨_, rfl⟩)
    · exact .inl ⟨_, rfl⟩
  | .error none =>
    refine ⟨rfl, fun v hv => ?_⟩
    have h2 : v = tagL ∨ v = .int 400 := by simpa [whyV] using hv
    rcases h2 with rfl | rfl
    · exact .inr (.inl ⟨_, rfl⟩)
    · exact .inl ⟨_, rfl⟩
  | .ok w =>
    refine ⟨rfl, fun v hv => ?_⟩
    have h2 : v = .str (Str.ofString "") ∨ v = tx w := by simpa [whyV] using hv
    rcases h2 with rfl | rfl
    · exact .inr (.inl ⟨_, rfl⟩)
    · exact .inr (.inl ⟨_, rfl⟩)
theorem eqd_why {H : Hp} {p q : Addr} {r : Except (Option Nat) (List Nat)} (h1 : H p = some (.tup (whyV r))) (h2 : H q = some (.tup (whyV r))) (n : Nat) : Eqd (n + 1) H (.ref p) (.ref q) := by
  refine .inr ⟨p, q, whyV r, whyV r, rfl, rfl, rfl, (by rw [(why_flat r).1]; decide), .inr ⟨h1, h2⟩, fun i u v g1 g2 => ?_⟩
  rw [g1] at g2
  cases g2
  exact Eqd.flat ((why_flat r).2 u (List.mem_of_getElem? g1))
/-- _law_loose at any of the depths that are drawn -/
def spLo : Sp := fun vs H Q E => ∃ d, d ≤ 3 ∧ spLoose d vs H Q E
theorem ok_lo {P : Program} {w : World} {K : PySem.W.Frag} {mg : Str → Option Value} {base : Heap} {f : Addr} {fd : FuncData} (h : ∀ d, d ≤ 3 → FnOk P w K mg base CX0 (4 + d) f fd ["_law_box", "_law_letters_z", "_law_deep"] (spLoose d)) :
    FnOk P w K mg base CX0 7 f fd ["_law_box", "_law_letters_z", "_law_deep"] spLo := by
  refine ⟨fun vs H Q E hh => ?_, fun A outer s H args us vs Q E hr e0 b r hh => ?_⟩
  · obtain ⟨d, hd, hh⟩ := hh
    exact (h d hd).len vs H Q E hh
  · obtain ⟨d, hd, hh⟩ := hh
    exact (h d hd).run A outer s H args us vs Q E (hr.mono (by omega)) e0 b r hh
theorem str_ok {w : List Nat} (h : Asc w) : PyData.strOk (SX.S w) = true := by
  show (w.toArray.all fun c => decide (c < 0x110000)) = true
  rw [List.all_toArray, List.all_eq_true]
  intro c hc
  exact decide_eq_true (by have := h c hc; omega)
/-- the data of what is told -/
def whyD : Except (Option Nat) (List Nat) → PyData
  | .error (some i) => .tuple [.str (Str.ofString "ParseError"), .int (i : Int)]
  | .error none => .tuple [.str (Str.ofString "TooLong"), .int 400]
  | .ok w => .tuple [.str (Str.ofString ""), .str (SX.S w)]
theorem why_dp {K : PySem.W.Frag} {H : Hp} {p : Addr} {r : Except (Option Nat) (List Nat)} (h : H p = some (.tup (whyV r))) : Dp K H (.ref p) (whyD r) := by
  match r with
  | .error (some i) => exact .tup (SqT.of h) (.cons (.str _) (.cons (.int _) .nil))
  | .error none => exact .tup (SqT.of h) (.cons (.str _) (.cons (.int _) .nil))
  | .ok w => exact .tup (SqT.of h) (.cons (.str _) (.cons (.str _) .nil))
theorem lay2 {x : Str} (hx : PyData.strOk x = true) {d : PyData} (hd : d.canLay0 = true) (h0 : d.depth = 0) : (PyData.tuple [.str x, d]).canLay0 = true ∧ (PyData.tuple [.str x, d]).depth ≤ 64 := by
  refine ⟨?_, ?_⟩
  · simp only [PyData.canLay0, PyData.canLayAll0, hx, hd]
    rfl
  · simp only [PyData.depth, PyData.depthAll, h0]
    decide
theorem why_sh {r : Except (Option Nat) (List Nat)} (h : ∀ w, r = .ok w → Asc w) : SeqAt.shaped (whyD r) = true ∧ PyData.eqv (whyD r) (whyD r) = true := by
  have key : (whyD r).canLay0 = true ∧ (whyD r).depth ≤ 64 := by
    match r, h with
    | .error (some i), _ => exact lay2 (by decide +kernel) (by simp only [PyData.canLay0]) (by simp only [PyData.depth])
    | .error none, _ => exact lay2 (by decide +kernel) (by simp only [PyData.canLay0]) (by simp only [PyData.depth])
    | .ok w, h => exact lay2 (by decide +kernel) (by simp only [PyData.canLay0]; exact str_ok (h w rfl)) (by simp only [PyData.depth])
  refine ⟨?_, SeqAt.eqv_refl _ key.1⟩
  unfold SeqAt.shaped
  rw [key.1, decide_eq_true key.2]
  rfl
section
variable {P : Program} {w : World} {K : PySem.W.Frag} {mg : Str → Option Value} {base : Heap}
variable {f fR fS fU fWh fF fD fLe fLo Ce Cl fI fJ C1 C2 C3 c Pt : Addr} {fdR fdS fdU fdWh fdF fdD fdLe fdLo : FuncData} {A : Around} {outer : List Env} {s : Shared} {H : Hp} {E : XK}
theorem hu1 (Pt : Addr) : ∀ p ∈ [(Pt, qL)], p.1 = Pt → p.2 = qL := fun p hp _ => by
  have e : p = (Pt, qL) := by simpa using hp
  rw [e]
/-- all that asking a lambda wants -/
structure Wy (P : Program) (w : World) (K : PySem.W.Frag) (mg : Str → Option Value) (base : Heap) (fWh fF Ce fI Cl fJ C1 C2 C3 c Pt fR : Addr) (fdWh fdF fdR : FuncData) : Prop where
  FW : Fun K "_law_why" "_law_why" sWhy fWh fdWh
  bW : Binds K fdWh ["_law_ask"] []
  gW : mg "_law_why" = some (.ref fWh)
  T : ErC K mg "ParseError" "at" Ce fI
  XC : XfC K Ce
  T2 : ErC K mg "TooLong" "limit" Cl fJ
  XL : XfC K Cl
  GF : Rs.FnPin P w K mg base 1 fF fdF ["_law_e"] (spFld Ce Cl)
  kF : PySem.W.keepIn K (.ref fF) = true
  bF : Binds K fdF ["_law_e"] []
  gF : mg "_law_field" = some (.ref fF)
  m1 : mg "TownError" = some (.ref C1)
  m2 : mg "Missing" = some (.ref C2)
  m3 : mg "NothingLeft" = some (.ref C3)
  hx : PySem.W.exmAny K (.ref Ce) [.ref C1, .ref C2, .ref C3] = some true
  hx2 : PySem.W.exmAny K (.ref Cl) [.ref C1, .ref C2, .ref C3] = some true
  TB : LamX.TabB base mg c Pt
  cR : Cb P w K mg base (L2.CX P w) 31 "read_word" ["text", "letters"] (spRw Ce Cl) fR fdR
theorem tb0 (cD : Cb P w K mg base CX0 1 "_law_draw" ["_law_box", "_law_many"] spDraw fD fdD) (cLe : Cb P w K mg base CX0 3 "_law_letters" ["_law_box", "_law_many"] spLet fLe fdLe) (hr : Room 40 (A.deeper (envOfC "law" (defScope sLaw) s.heap.objs.size f (.ref c)))) :
    ∃ t, PS (XL P w K mg base f c A outer s H E) (tbs 0) t ∧ ∀ (a b m : Addr) (y2 y3 y4 y5 y6 : Option V) (D : Ends) (H0 : Hp), Zz Pt b m H0 →
      (∀ L H', Lg L → Zz Pt b m H' → D.nx (S8 a b y2 y3 y4 (some (tx L)) y6) H') → t D (S8 a b y2 y3 y4 y5 y6) H0 := by
  have r1 : Room 1 (A.deeper (envOfC "law" (defScope sLaw) s.heap.objs.size f (.ref c))) := hr.mono (by decide)
  have r3 : Room 3 (A.deeper (envOfC "law" (defScope sLaw) s.heap.objs.size f (.ref c))) := hr.mono (by decide)
  refine ⟨_, ps_set (i := 5) scLaw.nd rfl (.inr rfl) (pe_call cLe.ok r3 (by rfl) cLe.g cLe.kp cLe.b .nil pass0 (pa_cons (pv 1) (pa_cons (pe_op op_add pe_int (pe_call cD.ok r1 (by rfl) cD.g cD.kp cD.b .nil pass0 (pa_cons (pv 1) (pa_cons pe_int pa_nil)))) pa_nil))), ?_⟩
  intro a b m y2 y3 y4 y5 y6 D H0 z nx
  refine ⟨_, rfl, _, rfl, b, m, 3, rfl, z.1, by decide, by decide, fun d H1 d0 d1 hT1 => ⟨_, _, rfl, rfl, b, m, (1 + d).toNat, ?_, hT1.1, by omega, by omega, fun L H2 hl hm hG => ?_⟩⟩
  · rw [Int.toNat_of_nonneg (by omega)]
    rfl
  · exact nx L H2 ⟨by omega, by omega, hm⟩ ((z.go hT1.go).go hG)
theorem tb1 (cD : Cb P w K mg base CX0 1 "_law_draw" ["_law_box", "_law_many"] spDraw fD fdD) (cLo : Cb P w K mg base CX0 7 "_law_loose" ["_law_box", "_law_letters_z", "_law_deep"] spLo fLo fdLo) (hr : Room 40 (A.deeper (envOfC "law" (defScope sLaw) s.heap.objs.size f (.ref c)))) :
    ∃ t, PS (XL P w K mg base f c A outer s H E) (tbs 1) t ∧ ∀ (a b m : Addr) (y2 y3 y4 y6 : Option V) (L : List Nat) (D : Ends) (H0 : Hp), Zz Pt b m H0 → Lg L →
      (∀ T W p d H', d ≤ 3 → Loo L d T W → Zz Pt b m H' → H' p = some (.tup [tx T, tx W]) → D.nx (S8 a b y2 y3 y4 (some (tx L)) (some (.ref p))) H') → t D (S8 a b y2 y3 y4 (some (tx L)) y6) H0 := by
  have r1 : Room 1 (A.deeper (envOfC "law" (defScope sLaw) s.heap.objs.size f (.ref c))) := hr.mono (by decide)
  have r7 : Room 7 (A.deeper (envOfC "law" (defScope sLaw) s.heap.objs.size f (.ref c))) := hr.mono (by decide)
  refine ⟨_, ps_set (i := 6) scLaw.nd rfl (.inr rfl) (pe_call cLo.ok r7 (by rfl) cLo.g cLo.kp cLo.b .nil pass0 (pa_cons (pv 1) (pa_cons (pv 5) (pa_cons (pe_call cD.ok r1 (by rfl) cD.g cD.kp cD.b .nil pass0 (pa_cons (pv 1) (pa_cons pe_int pa_nil))) pa_nil)))), ?_⟩
  intro a b m y2 y3 y4 y6 L D H0 z hL nx
  refine ⟨_, rfl, _, rfl, _, rfl, b, m, 4, rfl, z.1, by decide, by decide, fun d H1 d0 d1 hT1 => ⟨d.toNat, by omega, b, m, L, ?_, hT1.1, hL, fun T W H2 p lo g np nb hp => ?_⟩⟩
  · rw [show ((d.toNat : Nat) : Int) = d by omega]
    rfl
  · exact nx T W p d.toNat H2 (by omega) lo ((z.go hT1.go).go g) hp
/-- what is due -/
theorem tb2 (B : Bn mg) (hr : Room 40 (A.deeper (envOfC "law" (defScope sLaw) s.heap.objs.size f (.ref c)))) :
    ∃ t, PS (XL P w K mg base f c A outer s H E) (tbs 2) t ∧ ∀ (a b m p : Addr) (y2 y3 y4 : Option V) (L T W : List Nat) (d : Nat) (D : Ends) (H0 : Hp), Zz Pt b m H0 → Lg L → d ≤ 3 → Loo L d T W → H0 p = some (.tup [tx T, tx W]) →
      (∀ q H', Zz Pt b m H' → H' p = some (.tup [tx T, tx W]) → H' q = some (.tup (whyV (rdW L T))) → D.nx (S8 a b y2 (some (.ref q)) y4 (some (tx L)) (some (.ref p))) H') → t D (S8 a b y2 y3 y4 (some (tx L)) (some (.ref p))) H0 := by
  refine ⟨_, ps_set (i := 3) scLaw.nd rfl (.inl rfl) (pe_ifExp (pt_cmpR op_le (pe_callB call_len_str (by rfl) B.len PySem.boot_len (pa_cons (pe_ix ix_tup (pv 6) pe_int (fun _ _ => rfl)) pa_nil)) pe_int (nomark _)) (pe_tup (pa_cons pe_str (pa_cons (pe_ix ix_tup (pv 6) pe_int (fun _ _ => rfl)) pa_nil))) (pe_tup (pa_cons pe_str (pa_cons pe_int pa_nil)))), ?_⟩
  intro a b m p y2 y3 y4 L T W d D H0 z hL hd lo hp nx
  obtain ⟨k1, k2, k3, k4⟩ := loo_ok hL.2.2 d lo
  have bd := bd3 hd
  have hW : (SX.S W).length ≤ sizeLine := by
    rw [tx_len, PySem.sizeLine_eq]
    omega
  have rd := rdW_loo hL.2.2 (by omega) lo
  refine ⟨_, rfl, p, _, 1, _, rfl, rfl, SqT.of hp, rfl, _, rfl, hW, _, _, rfl, rfl, _, rfl, ite2 (fun hc => ?_) (fun hc => ?_)⟩
  · have hc2 : W.length ≤ 400 := by
      have := of_decide_eq_true hc
      rw [tx_len] at this
      omega
    rw [if_pos hc2] at rd
    refine ⟨_, rfl, p, _, 1, _, rfl, rfl, SqT.of hp, rfl, (by show 2 ≤ sizeLine; decide), fun q nq => ?_⟩
    exact nx q _ (z.same (same_new nq)) (same_new nq _ _ hp) (by rw [rd]; exact upd_same)
  · have hc2 : ¬ W.length ≤ 400 := by
      intro h
      refine absurd hc ?_
      rw [decide_eq_true (by rw [tx_len]; omega)]
      decide
    rw [if_neg hc2] at rd
    refine ⟨(by show 2 ≤ sizeLine; decide), fun q nq => ?_⟩
    exact nx q _ (z.same (same_new nq)) (same_new nq _ _ hp) (by rw [rd]; exact upd_same)
/-- the program's reading -/
theorem tb3 (Y : Wy P w K mg base fWh fF Ce fI Cl fJ C1 C2 C3 c Pt fR fdWh fdF fdR) (B : Bn mg) (cS : Cb P w K mg base CX0 2 "_law_same" ["_law_found", "_law_due"] (spSame 1) fS fdS)
    (hr : Room 40 (A.deeper (envOfC "law" (defScope sLaw) s.heap.objs.size f (.ref c)))) :
    ∃ t, PS (XL P w K mg base f c A outer s H E) (tbs 3) t ∧ ∀ (a b m p q : Addr) (y2 y4 : Option V) (L T W : List Nat) (D : Ends) (H0 : Hp), Zz Pt b m H0 → Lt L → T.length ≤ 9000 → Asc T → H0 p = some (.tup [tx T, tx W]) → H0 q = some (.tup (whyV (rdW L T))) →
      (∀ H', Zz Pt b m H' → H' p = some (.tup [tx T, tx W]) → H' q = some (.tup (whyV (rdW L T))) → D.nx (S8 a b y2 (some (.ref q)) y4 (some (tx L)) (some (.ref p))) H') → t D (S8 a b y2 (some (.ref q)) y4 (some (tx L)) (some (.ref p))) H0 := by
  obtain ⟨oc2, od2, kV2, doc2, pm2, an2, cdW, ct2, osl2, rfl, lkW, hcW⟩ := Y.FW.ex
  have r2 : Room 2 (A.deeper (envOfC "law" (defScope sLaw) s.heap.objs.size f (.ref c))) := hr.mono (by decide)
  have r33 : Room (31 + 2) (A.deeper (envOfC "law" (defScope sLaw) s.heap.objs.size f (.ref c))) := hr.mono (by decide)
  have hG : ∀ cdg : Value, Rs.GivesL (XL P w K mg base f c A outer s H E) NW "_law_why" (defScope sWhy) fWh cdg (defBody sWhy) "_law_ask" (TTw Ce Cl) := fun cdg =>
    why_gives (j := 0) (X := XL P w K mg base f c A outer s H E) Y.T Y.XC Y.T2 Y.XL Y.GF Y.kF Y.bF Y.gF Y.m1 Y.m2 Y.m3 Y.hx Y.hx2 r2
  obtain ⟨t0, LB0, R0⟩ := l1 (A := A) (outer := outer) (s := s) (H := H) (E := E) (f := f) (c := c) Y.cR
  refine ⟨_, ps_if (PW.pt (pw_and (pt_cmpR op_le (pe_callB call_len_str (by rfl) B.len PySem.boot_len (pa_cons (pe_ix ix_tup (pv 6) pe_int (fun _ _ => rfl)) pa_nil)) pe_int (nomark _)) (pw_and1 (pt_not (pt_val (pe_call cS.ok r2 (by rfl) cS.g cS.kp cS.b .nil pass0 (pa_cons (Rs.e_giveG (k := 31) (sl := id) Rs.up_self ⟨rfl, rfl, rfl, rfl, rfl, rfl, rfl⟩ (by rfl) Y.gW Y.FW.kp lkW hcW Y.bW scWhy rfl (.inl rfl) (hG _) r33
      (Rs.e_lam0 (T := [(Pt, qL)]) Y.TB rfl List.mem_cons_self (hu1 Pt) (Rs.lamQ_by (N := NL) (sc := defScope sLaw) (by decide +kernel)) rfl rfl))
      (pa_cons (pv 3) pa_nil)))))))) pss_never pss_nil, ?_⟩
  intro a b m p q y2 y4 L T W D H0 z hL hl hA hp hq nx
  refine ⟨_, rfl, p, _, 0, _, rfl, rfl, SqT.of hp, rfl, _, rfl, asc_big (w := T) (by omega), _, _, rfl, rfl, _, rfl, ite2 (fun _ => ?_) (fun _ => iteF (nx H0 z hp hq))⟩
  refine ⟨z.2, fun f1 H1 ex tb1 nf la => ⟨f1, _, _, _, t0, rfl, LB0, la, ?_⟩⟩
  have z1 : Zz Pt b m H1 := ⟨bx_ext z.1 ex, tb1⟩
  have hp1 := ex _ _ hp (fun ps z => by cases z)
  have hq1 := ex _ _ hq (fun ps z => by cases z)
  refine why_rds (fun E2 Q2 hh => R0 E2 a b p y2 _ y4 L T (tx W) H1 Q2 hL hl hA hp1 hh) fun H2 p2 s2 np hp2 => ?_
  refine ⟨_, rfl, _, _, rfl, eqd_why hp2 (s2 _ _ hq1) 0, fun H4 s4 => ⟨true, rfl, iteF ?_⟩⟩
  exact nx H4 (z1.same (s2.trans s4)) ((s2.trans s4) _ _ hp1) ((s2.trans s4) _ _ hq1)
/-- the law's own reading -/
theorem tb4 (B : Bn mg) (cU : Cb P w K mg base CX0 16 "_law_phrase_due" ["_law_text_z", "_law_letters_z"] spDue fU fdU)
    (hr : Room 40 (A.deeper (envOfC "law" (defScope sLaw) s.heap.objs.size f (.ref c)))) :
    ∃ t, PS (XL P w K mg base f c A outer s H E) (tbs 4) t ∧ ∀ (a b m p q : Addr) (y2 y4 : Option V) (L T W : List Nat) (D : Ends) (H0 : Hp), Zz Pt b m H0 → Lt L → T.length ≤ 9000 → Asc T → (∀ w, rdW L T = .ok w → Asc w) → H0 p = some (.tup [tx T, tx W]) → H0 q = some (.tup (whyV (rdW L T))) →
      (∀ H', Zz Pt b m H' → D.nx (S8 a b y2 (some (.ref q)) y4 (some (tx L)) (some (.ref p))) H') → t D (S8 a b y2 (some (.ref q)) y4 (some (tx L)) (some (.ref p))) H0 := by
  have r16 : Room 16 (A.deeper (envOfC "law" (defScope sLaw) s.heap.objs.size f (.ref c))) := hr.mono (by decide)
  refine ⟨_, ps_if (PW.pt (pw_and (pt_cmpR op_le (pe_callB call_len_str (by rfl) B.len PySem.boot_len (pa_cons (pe_ix ix_tup (pv 6) pe_int (fun _ _ => rfl)) pa_nil)) pe_int (nomark _)) (pw_and1 (pt_cmpR (op_neD hr.units) (pe_call cU.ok r16 (by rfl) cU.g cU.kp cU.b .nil pass0 (pa_cons (pe_ix ix_tup (pv 6) pe_int (fun _ _ => rfl)) (pa_cons (pv 5) pa_nil))) (pv 3) (nomark _))))) pss_never pss_nil, ?_⟩
  intro a b m p q y2 y4 L T W D H0 z hL hl hA hw hp hq nx
  refine ⟨_, rfl, p, _, 0, _, rfl, rfl, SqT.of hp, rfl, _, rfl, asc_big (w := T) (by omega), _, _, rfl, rfl, _, rfl, ite2 (fun _ => ?_) (fun _ => iteF (nx H0 z))⟩
  refine ⟨_, rfl, p, _, 0, _, rfl, rfl, SqT.of hp, rfl, _, rfl, T, L, rfl, hl, hA, hL, fun H2 u s2 nu hu => ?_⟩
  obtain ⟨s1, e1⟩ := why_sh hw
  refine ⟨_, rfl, _, _, why_dp hu, why_dp (s2 _ _ hq), s1, s1, ?_⟩
  rw [e1]
  exact ⟨_, rfl, iteF (nx H2 (z.same s2))⟩
end
end K7
set_option maxRecDepth 100000
set_option maxHeartbeats 2000000
namespace K7
open PySem PySem.Spec PyProof.Rows L2
theorem rd_asc {L t : List Nat} (hA : Asc t) : ∀ w, rdW L t = .ok w → Asc w := by
  intro w h
  unfold rdW at h
  cases hp : rdP L t 6 0 with
  | error i => rw [hp] at h; cases h
  | ok q =>
    obtain ⟨w1, e⟩ := q
    rw [hp] at h
    obtain ⟨_, _, g3⟩ := rdP_ok hA 6 _ _ _ hp
    by_cases h1 : e < t.length
    · simp only [if_pos h1] at h
      cases h
    · simp only [if_neg h1] at h
      by_cases h2 : 400 < w1.length
      · rw [if_pos h2] at h
        cases h
      · rw [if_neg h2] at h
        injection h with h
        subst h
        exact g3
section
variable {P : Program} {w : World} {K : PySem.W.Frag} {mg : Str → Option Value} {base : Heap}
variable {f fR fS fU fWh fF fD fLe fLo Ce Cl fI fJ C1 C2 C3 c Pt : Addr} {fdR fdS fdU fdWh fdF fdD fdLe fdLo : FuncData} {A : Around} {outer : List Env} {s : Shared} {H : Hp} {E : XK}
/-- a turn -/
theorem turn (Y : Wy P w K mg base fWh fF Ce fI Cl fJ C1 C2 C3 c Pt fR fdWh fdF fdR) (B : Bn mg) (cS : Cb P w K mg base CX0 2 "_law_same" ["_law_found", "_law_due"] (spSame 1) fS fdS) (cU : Cb P w K mg base CX0 16 "_law_phrase_due" ["_law_text_z", "_law_letters_z"] spDue fU fdU)
    (cD : Cb P w K mg base CX0 1 "_law_draw" ["_law_box", "_law_many"] spDraw fD fdD) (cLe : Cb P w K mg base CX0 3 "_law_letters" ["_law_box", "_law_many"] spLet fLe fdLe)
    (cLo : Cb P w K mg base CX0 7 "_law_loose" ["_law_box", "_law_letters_z", "_law_deep"] spLo fLo fdLo) (hr : Room 40 (A.deeper (envOfC "law" (defScope sLaw) s.heap.objs.size f (.ref c)))) :
    ∃ t, PSs (XL P w K mg base f c A outer s H E) tbd t ∧ ∀ (a b m : Addr) (y2 y3 y4 y5 y6 : Option V) (D : Ends) (H0 : Hp), Zz Pt b m H0 →
      (∀ y3 y5 y6 H', Zz Pt b m H' → D.nx (S8 a b y2 y3 y4 y5 y6) H') → t D (S8 a b y2 y3 y4 y5 y6) H0 := by
  obtain ⟨t0, P0, R0⟩ := tb0 (base := base) (Pt := Pt) (outer := outer) (H := H) (E := E) cD cLe hr
  obtain ⟨t1, P1, R1⟩ := tb1 (base := base) (Pt := Pt) (outer := outer) (H := H) (E := E) cD cLo hr
  obtain ⟨t2, P2, R2⟩ := tb2 (P := P) (w := w) (K := K) (base := base) (Pt := Pt) (outer := outer) (H := H) (E := E) B hr
  obtain ⟨t3, P3, R3⟩ := tb3 (base := base) (Pt := Pt) (outer := outer) (H := H) (E := E) Y B cS hr
  obtain ⟨t4, P4, R4⟩ := tb4 (base := base) (Pt := Pt) (outer := outer) (H := H) (E := E) B cU hr
  have e : tbd = [tbs 0, tbs 1, tbs 2, tbs 3, tbs 4] := by rfl
  rw [e]
  refine ⟨_, pss_cons P0 (pss_cons P1 (pss_cons P2 (pss_cons P3 (pss_one P4)))), ?_⟩
  intro a b m y2 y3 y4 y5 y6 D H0 z nx
  refine R0 a b m y2 y3 y4 y5 y6 _ H0 z fun L H1 hL z1 => ?_
  refine R1 a b m y2 y3 y4 y6 L _ H1 z1 hL fun T W p d H2 hd lo z2 hp => ?_
  obtain ⟨k1, k2, k3, k4⟩ := loo_ok hL.2.2 d lo
  have bd := bd3 hd
  refine R2 a b m p y2 y3 y4 L T W d _ H2 z2 hL hd lo hp fun q H3 z3 hp3 hq3 => ?_
  refine R3 a b m p q y2 y4 L T W _ H3 z3 hL.lt (by omega) k3 hp3 hq3 fun H4 z4 hp4 hq4 => ?_
  exact R4 a b m p q y2 y4 L T W _ H4 z4 hL.lt (by omega) k3 (rd_asc k3) hp4 hq4 fun H5 z5 => nx _ _ _ H5 z5
theorem eqd_ok {H : Hp} {p q : Addr} {r : Except (Option Nat) (List Nat)} {xs : List V} (h1 : H p = some (.tup (whyV r))) (h2 : H q = some (.tup xs)) (e : xs = whyV r) : Eqd 1 H (.ref p) (.ref q) := by
  subst e
  exact eqd_why h1 h2 0
/-- the last questions -/
theorem lastq (Y : Wy P w K mg base fWh fF Ce fI Cl fJ C1 C2 C3 c Pt fR fdWh fdF fdR) (kb : KBinds K fdR ["text", "letters"] ["letters", "text"] rev2 rev2) (cS : Cb P w K mg base CX0 3 "_law_same" ["_law_found", "_law_due"] (spSame 2) fS fdS) (hr : Room 40 (A.deeper (envOfC "law" (defScope sLaw) s.heap.objs.size f (.ref c)))) :
    ∃ t, PSs (XL P w K mg base f c A outer s H E) [lst 2, lst 3, lst 4, lst 5] t ∧ ∀ (a b m : Addr) (y2 y3 y4 y5 y6 : Option V) (D : Ends) (H0 : Hp), Zz Pt b m H0 → (∀ H', D.rt (.bl true) H') → t D (S8 a b y2 y3 y4 y5 y6) H0 := by
  obtain ⟨oc2, od2, kV2, doc2, pm2, an2, cdW, ct2, osl2, rfl, lkW, hcW⟩ := Y.FW.ex
  have r2 : Room 2 (A.deeper (envOfC "law" (defScope sLaw) s.heap.objs.size f (.ref c))) := hr.mono (by decide)
  have r3 : Room 3 (A.deeper (envOfC "law" (defScope sLaw) s.heap.objs.size f (.ref c))) := hr.mono (by decide)
  have r33 : Room (31 + 2) (A.deeper (envOfC "law" (defScope sLaw) s.heap.objs.size f (.ref c))) := hr.mono (by decide)
  have hG : ∀ cdg : Value, Rs.GivesL (XL P w K mg base f c A outer s H E) NW "_law_why" (defScope sWhy) fWh cdg (defBody sWhy) "_law_ask" (TTw Ce Cl) := fun cdg =>
    why_gives (j := 0) (X := XL P w K mg base f c A outer s H E) Y.T Y.XC Y.T2 Y.XL Y.GF Y.kF Y.bF Y.gF Y.m1 Y.m2 Y.m3 Y.hx Y.hx2 r2
  obtain ⟨t2, LB2, R2⟩ := l2 (A := A) (outer := outer) (s := s) (H := H) (E := E) (f := f) (c := c) Y.cR
  obtain ⟨t3, LB3, R3⟩ := l3 (A := A) (outer := outer) (s := s) (H := H) (E := E) (f := f) (c := c) Y.cR
  obtain ⟨t4, LB4, R4⟩ := l4 (A := A) (outer := outer) (s := s) (H := H) (E := E) (f := f) (c := c) Y.cR kb
  obtain ⟨t5, LB5, R5⟩ := l5 (A := A) (outer := outer) (s := s) (H := H) (E := E) (f := f) (c := c) Y.cR
  refine ⟨_, pss_cons (ps_set (i := 4) scLaw.nd rfl (.inl rfl) (pe_lst (pa_cons (Rs.e_giveG (k := 31) (sl := id) Rs.up_self ⟨rfl, rfl, rfl, rfl, rfl, rfl, rfl⟩ (by rfl) Y.gW Y.FW.kp lkW hcW Y.bW scWhy rfl (.inl rfl) (hG _) r33
      (Rs.e_lam0 (T := [(Pt, qL)]) Y.TB rfl List.mem_cons_self (hu1 Pt) (Rs.lamQ_by (N := NL) (sc := defScope sLaw) (by decide +kernel)) rfl rfl))
      (pa_cons (Rs.e_giveG (k := 31) (sl := id) Rs.up_self ⟨rfl, rfl, rfl, rfl, rfl, rfl, rfl⟩ (by rfl) Y.gW Y.FW.kp lkW hcW Y.bW scWhy rfl (.inl rfl) (hG _) r33
      (Rs.e_lam1 (T := [(Pt, qL)]) Y.TB rfl List.mem_cons_self (hu1 Pt) (Rs.lamQ_by (N := NL) (sc := defScope sLaw) (by decide +kernel)) rfl rfl pe_int)) pa_nil))))
    (pss_cons (ps_set (i := 4) scLaw.nd rfl (.inl rfl) (pe_op op_cat (pv 4) (pe_lst (pa_cons (Rs.e_giveG (k := 31) (sl := id) Rs.up_self ⟨rfl, rfl, rfl, rfl, rfl, rfl, rfl⟩ (by rfl) Y.gW Y.FW.kp lkW hcW Y.bW scWhy rfl (.inl rfl) (hG _) r33
      (Rs.e_lam0 (T := [(Pt, qL)]) Y.TB rfl List.mem_cons_self (hu1 Pt) (Rs.lamQ_by (N := NL) (sc := defScope sLaw) (by decide +kernel)) rfl rfl)) pa_nil))))
    (pss_cons (ps_expr (pe_bm PySem.F.plainAttrs_list PySem.F.slot_list_append PySem.F.type_list_append mt_append (pv 4) (pa_cons (Rs.e_giveG (k := 31) (sl := id) Rs.up_self ⟨rfl, rfl, rfl, rfl, rfl, rfl, rfl⟩ (by rfl) Y.gW Y.FW.kp lkW hcW Y.bW scWhy rfl (.inl rfl) (hG _) r33
      (Rs.e_lam0 (T := [(Pt, qL)]) Y.TB rfl List.mem_cons_self (hu1 Pt) (Rs.lamQ_by (N := NL) (sc := defScope sLaw) (by decide +kernel)) rfl rfl)) pa_nil)))
    (pss_one (ps_ret (pe_call cS.ok r3 (by rfl) cS.g cS.kp cS.b .nil pass0 (pa_cons (pv 4) (pa_cons (pe_lst (pa_cons (pe_tup (pa_cons pe_str (pa_cons (pe_op o_mulC pe_str pe_int) pa_nil))) (pa_cons (pe_tup (pa_cons pe_str (pa_cons pe_int pa_nil))) (pa_cons (pe_tup (pa_cons pe_str (pa_cons pe_str pa_nil))) (pa_cons (pe_tup (pa_cons pe_str (pa_cons (pe_op o_mulC pe_str pe_int) pa_nil))) pa_nil))))) pa_nil))))))), ?_⟩
  intro a b m y2 y3 y4 y5 y6 D H0 z nx
  refine ⟨z.2, fun f1 H1 ex1 tb1 _ la1 => ⟨f1, _, _, _, t2, rfl, LB2, la1, why_rds (fun E2 Q2 hh => R2 E2 _ H1 Q2 hh) fun H2 p1 s2 _ hp1 => ?_⟩⟩
  rw [r2_is] at hp1
  have T2 : LamX.Tabs [(Pt, qL)] H2 := tb1.ext s2
  refine ⟨T2, fun f2 H3 ex3 tb3 _ la2 => ⟨f2, _, _, _, t3, rfl, LB3, la2, why_rds (fun E2 Q2 hh => R3 E2 _ H3 Q2 hh) fun H4 p2 s4 _ hp2 => ?_⟩⟩
  rw [r3_is] at hp2
  have g1 : H4 p1 = some (.tup (whyV (.ok (rep 396 [97])))) := s4 _ _ (ex3 _ _ hp1 (fun ps z => by cases z))
  refine ⟨(by show 2 ≤ sizeLine; decide), fun pe npe => ?_⟩
  have ke := same_new npe (o := .lst [.ref p1, .ref p2])
  have hpe : upd H4 pe (.lst [.ref p1, .ref p2]) pe = some (.lst [.ref p1, .ref p2]) := upd_same
  have g1' := ke _ _ g1
  have g2' := ke _ _ hp2
  generalize upd H4 pe (.lst [.ref p1, .ref p2]) = H5 at *
  have T5 : LamX.Tabs [(Pt, qL)] H5 := (tb3.ext s4).ext ke
  refine ⟨_, rfl, T5, fun f3 H6 ex6 tb6 _ la3 => ⟨f3, _, _, _, t4, rfl, LB4, la3, why_rds (fun E2 Q2 hh => R4 E2 _ H6 Q2 hh) fun H7 p3 s7 np3 hp3 => ?_⟩⟩
  rw [r4_is] at hp3
  have hpe7 : H7 pe = some (.lst [.ref p1, .ref p2]) := s7 _ _ (ex6 _ _ hpe (fun ps z => by cases z))
  have g17 := s7 _ _ (ex6 _ _ g1' (fun ps z => by cases z))
  have g27 := s7 _ _ (ex6 _ _ g2' (fun ps z => by cases z))
  refine ⟨(by show 1 ≤ sizeLine; decide), fun px npx => ?_⟩
  have kx := same_new npx (o := .lst [.ref p3])
  refine ⟨pe, px, _, _, rfl, rfl, kx _ _ hpe7, upd_same, (by show 2 + 1 ≤ sizeLine; decide), fun pf npf => ?_⟩
  have kf := kx.trans (same_new npf (o := .lst ([.ref p1, .ref p2] ++ [.ref p3])))
  have hpf : upd (upd H7 px (.lst [.ref p3])) pf (.lst ([.ref p1, .ref p2] ++ [.ref p3])) pf = some (.lst [.ref p1, .ref p2, .ref p3]) := upd_same
  have g18 := kf _ _ g17
  have g28 := kf _ _ g27
  have g38 := kf _ _ hp3
  generalize upd (upd H7 px (.lst [.ref p3])) pf (.lst ([.ref p1, .ref p2] ++ [.ref p3])) = G8 at *
  have T8 : LamX.Tabs [(Pt, qL)] G8 := (tb6.ext s7).ext kf
  refine ⟨_, rfl, .inl ⟨rfl, _, SqL.of hpf⟩, T8, fun f4 H9 ex9 tb9 _ la4 => ⟨f4, _, _, _, t5, rfl, LB5, la4, why_rds (fun E2 Q2 hh => R5 E2 _ H9 Q2 hh) fun Ha p4 sa np4 hp4 => ?_⟩⟩
  rw [r5_is] at hp4
  have hpfa : Ha pf = some (.lst [.ref p1, .ref p2, .ref p3]) := sa _ _ (ex9 _ _ hpf (fun ps z => by cases z))
  have g1a := sa _ _ (ex9 _ _ g18 (fun ps z => by cases z))
  have g2a := sa _ _ (ex9 _ _ g28 (fun ps z => by cases z))
  have g3a := sa _ _ (ex9 _ _ g38 (fun ps z => by cases z))
  refine ⟨pf, _, _, rfl, rfl, hpfa, (by show 3 < sizeLine; decide), ?_⟩
  have nn : ∀ {q : Addr} {r}, Ha q = some (.tup (whyV r)) → upd Ha pf (.lst ([.ref p1, .ref p2, .ref p3] ++ [.ref p4])) q = some (.tup (whyV r)) := fun {q r} e => by
    rw [upd_ne (ne_of e hpfa (by intro z; cases z))]
    exact e
  have e1 := nn g1a
  have e2 := nn g2a
  have e3 := nn g3a
  have e4 := nn hp4
  have ef : upd Ha pf (.lst ([.ref p1, .ref p2, .ref p3] ++ [.ref p4])) pf = some (.lst [.ref p1, .ref p2, .ref p3, .ref p4]) := upd_same
  generalize upd Ha pf (.lst ([.ref p1, .ref p2, .ref p3] ++ [.ref p4])) = H8 at *
  refine ⟨_, rfl, [97], 396, by rw [a_is], rfl, by decide, by decide, by decide, (by show 2 ≤ sizeLine; decide), fun q1 n1 => ⟨(by show 2 ≤ sizeLine; decide), fun q2 n2 => ⟨(by show 2 ≤ sizeLine; decide), fun q3 n3 => ⟨[97], 400, by rw [a_is], rfl, by decide, by decide, by decide, (by show 2 ≤ sizeLine; decide), fun q4 n4 => ⟨(by show 4 ≤ sizeLine; decide), fun q n => ?_⟩⟩⟩⟩⟩
  have k1 := same_new n1 (o := .tup [.str (Str.ofString ""), tx (rep 396 [97])])
  have k2 := same_new n2 (o := .tup [tagL, .int 400])
  have k3 := same_new n3 (o := .tup [.str (Str.ofString ""), .str (Str.ofString "AAabAB")])
  have k4 := same_new n4 (o := .tup [.str (Str.ofString ""), tx (rep 400 [97])])
  have k5 := same_new n (o := .lst [.ref q1, .ref q2, .ref q3, .ref q4])
  have kk := (((k1.trans k2).trans k3).trans k4).trans k5
  refine ⟨_, _, rfl, ?_, fun H9 s9 => nx H9⟩
  have d1 : upd H8 q1 (.tup [.str (Str.ofString ""), tx (rep 396 [97])]) q1 = some (.tup (whyV (.ok (rep 396 [97])))) := upd_same
  have wA : Str.ofString "AAabAB" = SX.S [65, 65, 97, 98, 65, 66] := by decide
  refine .inr ⟨pf, q, [.ref p1, .ref p2, .ref p3, .ref p4], [.ref q1, .ref q2, .ref q3, .ref q4], rfl, rfl, rfl, (by show 4 ≤ 1000; decide), .inl ⟨kk _ _ ef, upd_same⟩, fun i u v h1 h2 => ?_⟩
  match i, h1, h2 with
  | 0, h1, h2 =>
    cases h1
    cases h2
    exact eqd_ok (kk _ _ e1) (k5 _ _ (k4 _ _ (k3 _ _ (k2 _ _ d1)))) rfl
  | 1, h1, h2 =>
    cases h1
    cases h2
    exact eqd_ok (r := .error none) (kk _ _ e2) (k5 _ _ (k4 _ _ (k3 _ _ upd_same))) rfl
  | 2, h1, h2 =>
    cases h1
    cases h2
    exact eqd_ok (kk _ _ e3) (k5 _ _ (k4 _ _ upd_same)) (by rw [wA]; rfl)
  | 3, h1, h2 =>
    cases h1
    cases h2
    exact eqd_ok (kk _ _ e4) (k5 _ _ upd_same) rfl
  | n + 4, h1, h2 => cases h1
end
end K7
set_option maxRecDepth 100000
set_option maxHeartbeats 4000000
namespace K7
open PySem PySem.Spec PyProof.Rows L2
def spLaw (K : PySem.W.Frag) (Pt : Addr) : Sp := fun vs H Q _ => ∃ (a : Addr) (ns : List Int), vs = [.ref a] ∧ SqL K H a (ns.map V.int) ∧ ns.length ≤ 63 ∧ H Pt = some (.tbl #[]) ∧ ∀ H', Q (.bl true) H'
section
variable {P : Program} {w : World} {K : PySem.W.Frag} {mg : Str → Option Value} {base : Heap}
variable {f fBeg fR fS fU fWh fF fD fLe fLo Ce Cl fI fJ C1 C2 C3 c Pt : Addr} {fdBeg fdR fdS fdU fdWh fdF fdD fdLe fdLo : FuncData}
theorem law_is : defBody sLaw = lst 0 :: lst 1 :: [lst 2, lst 3, lst 4, lst 5] := by rfl
theorem ok_law {oc kV doc pm ct : Value} {od an : Option Addr} {osl : Array (Option Value)}
    (lk : K.lookup f = some ⟨oc, od, .func (PySem.W.fnOf "law" "law" (defArgs sLaw) (defBody sLaw) (defScope sLaw) .none kV doc pm an (.ref c) ct), osl⟩) (hcd : PySem.W.codeIn K (.ref c) "law" = true) (B : Bn mg)
    (cBeg : Cb P w K mg base CX0 1 "_law_begin" ["_law_script"] (spBegin K) fBeg fdBeg)
    (Y : Wy P w K mg base fWh fF Ce fI Cl fJ C1 C2 C3 c Pt fR fdWh fdF fdR) (kb : KBinds K fdR ["text", "letters"] ["letters", "text"] rev2 rev2) (cS : Cb P w K mg base CX0 2 "_law_same" ["_law_found", "_law_due"] (spSame 1) fS fdS) (cS2 : Cb P w K mg base CX0 3 "_law_same" ["_law_found", "_law_due"] (spSame 2) fS fdS) (cU : Cb P w K mg base CX0 16 "_law_phrase_due" ["_law_text_z", "_law_letters_z"] spDue fU fdU)
    (cD : Cb P w K mg base CX0 1 "_law_draw" ["_law_box", "_law_many"] spDraw fD fdD) (cLe : Cb P w K mg base CX0 3 "_law_letters" ["_law_box", "_law_many"] spLet fLe fdLe)
    (cLo : Cb P w K mg base CX0 7 "_law_loose" ["_law_box", "_law_letters_z", "_law_deep"] spLo fLo fdLo) :
    FnOk P w K mg base CX0 41 f (PySem.W.fnOf "law" "law" (defArgs sLaw) (defBody sLaw) (defScope sLaw) .none kV doc pm an (.ref c) ct) ["_law_script"] (spLaw K Pt) := by
  refine fn_of lk hcd scLaw (fun vs H Q E h => ?_) (fun A outer s H vs Q E hr h => ?_)
  · obtain ⟨a, ns, rfl, _⟩ := h
    rfl
  · obtain ⟨a, ns, rfl, hS, hl, hP, q⟩ := h
    have r1 : Room 1 (A.deeper (envOfC "law" (defScope sLaw) s.heap.objs.size f (.ref c))) := hr.mono (by decide)
    obtain ⟨tt, PT, RT⟩ := turn (base := base) (Pt := Pt) (outer := outer) (H := H) (E := E) Y B cS cU cD cLe cLo hr
    obtain ⟨tl, PL, RL⟩ := lastq (base := base) (Pt := Pt) (outer := outer) (H := H) (E := E) Y kb cS2 hr
    rw [law_is]
    refine ⟨_, PSs.nox (pss_cons (ps_set (i := 1) scLaw.nd rfl (.inl rfl) (pe_call cBeg.ok r1 (by rfl) cBeg.g cBeg.kp cBeg.b .nil pass0 (pa_cons (pv 0) pa_nil)))
      (pss_cons (ps_for PassesOwn.never rfl (pi_range1 (by rfl) B.range (pa_cons pe_int pa_nil)) (pg_name (i := 2) scLaw.nd rfl (Or.inl rfl)) PT) PL)), ?_⟩
    refine ⟨_, rfl, a, ns, rfl, hS, hl, fun H1 b m s1 nb bx => ?_⟩
    have tb1 : LamX.Tabs [(Pt, qL)] H1 := by
      intro p hp
      have e : p = (Pt, qL) := by simpa using hp
      rw [e]
      exact LamX.TabS.nil (s1 _ _ hP)
    have z1 : Zz Pt b m H1 := ⟨bx, tb1⟩
    refine ⟨4, rfl, by decide, by decide, ?_⟩
    refine for_it (walk_range (lo := 0) (n := (4 : Int).toNat)) (fun i σ H2 => ∃ y2 y3 y5 y6 : Option V, σ = S8 a b y2 y3 none y5 y6 ∧ Zz Pt b m H2) ⟨_, _, _, _, rfl, z1⟩ (fun _ _ _ _ _ => trivial) ?_ ?_
    · rintro i x σ H2 H2' hi ⟨y2, y3, y5, y6, rfl, z2⟩ ⟨rfl, rfl⟩
      refine RT a b m _ y3 none y5 y6 _ H2' z2 fun y3 y5 y6 H3 z3 => ?_
      exact ⟨_, _, _, _, rfl, z3⟩
    · rintro σ H2 ⟨y2, y3, y5, y6, rfl, z2⟩
      exact RL a b m y2 y3 none y5 y6 _ H2 z2 fun H' => q H'
end
end K7
set_option maxRecDepth 100000
set_option maxHeartbeats 0
namespace K7
open PySem PySem.Spec PyProof.Rows L2
/-! ### what the head tells of an own error class with an __init__ -/
def oexB (K : PySem.W.Frag) (C : Addr) : Bool := (match K.lookup C with
  | some ⟨.type t, _, .cls cd, sl⟩ => decide (t = "type") && (match cd.mro, sl.toList with
    | .ref C' :: bm, [_, _, _, _, some (.builtin n), _] => decide (C' = C) && (decide (n = "ValueError.__new__") && (!cd.hasDel && (cd.hasDict && PySem.HandSPX.refsVE bm)))
    | _, _ => false)
  | _ => false) && (decide (PySem.W.findIn K (.ref C) "__setattr__" = some (some (.builtin "object.__setattr__"))) && (decide (PySem.W.subIn K (.ref C) (.type "BaseException") = some true) && (decide (PySem.W.typeIn K (.ref C) = some (.type "type")) && PySem.W.keepIn K (.ref C))))
theorem oexB_ok {K : PySem.W.Frag} {C : Addr} (h : oexB K C = true) : OexC K C := by
  obtain ⟨h0, h⟩ := He.ba h
  obtain ⟨h1, h⟩ := He.ba h
  obtain ⟨h2, h⟩ := He.ba h
  obtain ⟨h3, h4⟩ := He.ba h
  refine ⟨?_, of_decide_eq_true h1, of_decide_eq_true h2, of_decide_eq_true h3, h4⟩
  cases q : K.lookup C with
  | none =>
    rw [q] at h0
    cases h0
  | some o =>
    obtain ⟨oc, od, dt, osl⟩ := o
    rw [q] at h0
    cases oc with
    | type t =>
      cases dt with
      | cls cd =>
        obtain ⟨nm, bs, mro, ns, qn, hd, sn, sb, ab, col, del⟩ := cd
        obtain ⟨e1, h5⟩ := He.ba h0
        obtain rfl : t = "type" := of_decide_eq_true e1
        dsimp only at h5
        split at h5
        · rename_i C' bm x0 x1 x2 x3 n x5 es
          obtain ⟨g1, g⟩ := He.ba h5
          obtain ⟨g2, g⟩ := He.ba g
          obtain ⟨g3, g⟩ := He.ba g
          obtain ⟨g4, g5⟩ := He.ba g
          obtain rfl : C' = C := of_decide_eq_true g1
          obtain rfl : n = "ValueError.__new__" := of_decide_eq_true g2
          have g3' : del = false := by simpa using g3
          subst g3'
          subst g4
          have es' : osl = #[x0, x1, x2, x3, some (.builtin "ValueError.__new__"), x5] := by
            apply Array.toList_inj.mp
            rw [es]
          subst es'
          exact ⟨_, _, _, _, _, _, _, _, _, _, _, _, _, _, _, rfl, g5⟩
        · cases h5
      | _ => cases h0
    | _ => cases dt <;> cases h0
def erB (K : PySem.W.Frag) (C : Addr) (fl : Str) : Bool := oexB K C && (xfB K C && (decide (PySem.W.findIn K (.ref C) fl = some none) && (decide (PySem.W.findIn K (.ref C) "tag" = some none) && (decide (PySem.W.findIn K (.ref C) "__init__" = some (some (.ref (He.ma K C "__init__")))) && decide (PySem.W.typeIn K (.ref (He.ma K C "__init__")) = some (.type "function"))))))
def exq (K : PySem.W.Frag) (C : Addr) : Bool := decide (PySem.W.exmAny K (.ref C) [.ref (He.ga K "TownError"), .ref (He.ga K "Missing"), .ref (He.ga K "NothingLeft")] = some true)
def exK (K : PySem.W.Frag) : Bool := (erB K (He.ga K "ParseError") "at" && exq K (He.ga K "ParseError")) && (erB K (He.ga K "TooLong") "limit" && exq K (He.ga K "TooLong"))
theorem erB_ok {K : PySem.W.Frag} {mg : Str → Option Value} {C : Addr} {nm fl : Str} (h : erB K C fl = true) (g : mg nm = some (.ref C)) : ErC K mg nm fl C (He.ma K C "__init__") ∧ XfC K C := by
  obtain ⟨e3, e4⟩ := He.ba h
  obtain ⟨e5, e6⟩ := He.ba e4
  obtain ⟨e7, e8⟩ := He.ba e6
  obtain ⟨e9, e10⟩ := He.ba e8
  obtain ⟨e11, e12⟩ := He.ba e10
  exact ⟨⟨oexB_ok e3, g, of_decide_eq_true e7, of_decide_eq_true e9, of_decide_eq_true e11, of_decide_eq_true e12⟩, xfB_ok e5⟩
def dD (x : Str) (st : Stmt) : He.DefD := ⟨(x, none), x, x, defArgs st, defBody st, defScope st, [], []⟩
def dIniP : He.DefD := ⟨("ParseError", some "__init__"), "__init__", "ParseError.__init__", defArgs sIniP, defBody sIniP, defScope sIniP, [], []⟩
def dIniL : He.DefD := ⟨("TooLong", some "__init__"), "__init__", "TooLong.__init__", defArgs sIniL, defBody sIniL, defScope sIniL, [], []⟩
def fn : List He.DefD := [dD "signs_of" sSignsOf, dD "opposite" sOpp, dD "read_word" sRWord, dD "read_phrase" sRPhrase, dD "read_factor" sRFactor, dD "read_atom" sRAtom, dD "read_group" sRGroup, dD "read_pair" sRPair, dD "read_exponent" sRExp, dD "begins_atom" sBegins, dD "mark_at" sMark, dD "behind_spaces" sSpaces, dD "check_mark" sChkM, dD "check_no_digit" sNoDigit, dD "power" sPower, dD "cut" sCut, dD "_law_begin" sBegin, dD "_law_draw" sDraw, dD "_law_any" sAny, dD "_law_same" sSame, dD "_law_field" sField, dD "_law_why" sWhy, dD "_law_letters" sLetters, dD "_law_signs" sSigns, dD "_law_back" sBack, dD "_law_gone_back" sGone, dD "_law_space" sSpace, dD "_law_loose" sLoose, dD "_law_is_digit" sIsDigit, dD "_law_power" sLPower, dD "_law_atom" sLAtom, dD "_law_phrase" sLPhrase, dD "_law_phrase_due" sDue, dD "law" sLaw, dIniP, dIniL]
def gl : List Str := (["signs_of", "opposite", "read_word", "read_phrase", "read_factor", "read_atom", "read_group", "read_pair", "read_exponent", "begins_atom", "mark_at", "behind_spaces", "check_mark", "check_no_digit", "power", "cut", "_law_begin", "_law_draw", "_law_any", "_law_same"] : List Str) ++ (["_law_field", "_law_why", "_law_letters", "_law_signs", "_law_back", "_law_gone_back", "_law_space", "_law_loose", "_law_is_digit", "_law_power", "_law_atom", "_law_phrase", "_law_phrase_due", "law", "ParseError", "TooLong", "TownError", "Missing", "NothingLeft"] : List Str)
def fr : List Str := ["len", "int", "isinstance", "list", "tuple", "all", "range", "bool", "str", "enumerate", "abs"]
def fa : List He.Fa := gl.map He.Fa.glo ++ (fr.map He.Fa.free ++ [He.Fa.int "LONGEST" 400, He.Fa.int "DEEPEST" 6])
abbrev R : PySem.W.OpenRow := PySem.W.OpenLaw.row PySem.Challenge.rw_roundswap_k07_phrases_that_are_read
abbrev tf : List He.Defn := [("law", none)]
abbrev hk : PySem.W.Hook := He.hookX 5 fa fn [] tf exK
def ob8 (s : PySem.W.SharedT) : He.AlX := He.obsX 5 fa fn [] tf exK (HandSHeadRun.getT s)
theorem ob_eq (s : PySem.W.SharedT) : ob8 s = hk.obs s.abs := He.obsX_eq (HandSHeadRun.getT_eq s)
def loose : List Str := (["TownError", "Missing", "ParseError", "TooLong", "NothingLeft", "LONGEST", "DEEPEST", "signs_of", "opposite", "read_word", "read_phrase", "read_factor", "read_atom", "read_group", "read_pair", "read_exponent", "begins_atom", "mark_at", "behind_spaces", "check_mark"] : List Str) ++ (["check_no_digit", "power", "cut", "_law_begin", "_law_draw", "_law_any", "_law_same", "_law_field", "_law_why", "_law_letters", "_law_signs", "_law_back", "_law_gone_back", "_law_space", "_law_loose", "_law_is_digit", "_law_power", "_law_atom", "_law_phrase", "_law_phrase_due"] : List Str)
theorem run (w : World) : HandSHeadRun.RunEq R (PySem.W.view R.prog [44]) hk ob8 4000 loose w := by
  intro os
  kernel_rfl
end K7
set_option maxRecDepth 100000
set_option maxHeartbeats 4000000
namespace K7
open PySem PySem.Spec PyProof.Rows L2
theorem fun_ofD {K : PySem.W.Frag} {x q : Str} {st : Stmt} {f : Addr} {fd : FuncData} (F : FunD K x q (defArgs st) (defBody st) (defScope st) [] [] f fd) : Fun K x q st f fd := by
  obtain ⟨⟨oc, od, dV, kV, doc, pm, an, cdv, ct, osl, e, lk, hcd, hd, _⟩, kp⟩ := F
  obtain rfl : dV = .none := by
    rcases hd with ⟨_, e2⟩ | ⟨e2, _⟩
    · exact e2
    · exact absurd rfl e2
  exact ⟨⟨oc, od, kV, doc, pm, an, cdv, ct, osl, e, lk, hcd⟩, kp⟩
theorem facts {w : World} {K : PySem.W.Frag} {h : Heap} {mg : Str → Option Value} {fl : Addr} (X : K.In h) (G : h.Ns mainGlobals mg) (hfa : mg ("law" : Str) = some (.ref fl)) (c : He.SaysX fa fn [] tf exK w h K) :
    LamX.LawAtS PySem.Challenge.rw_roundswap_k07_phrases_that_are_read w K CX0 41 63 "_law_script" mg fl h := by
  have cD := c.t.d
  have g : ∀ x ∈ gl, mg x = some (.ref (He.ga K x)) := fun x hx => He.glo_ok X G (cD.facts (List.mem_append_left _ (List.mem_map.mpr ⟨x, hx, rfl⟩)))
  have fz : ∀ x ∈ fr, mg x = none := fun x hx => He.free_ok X G (cD.facts (List.mem_append_right _ (List.mem_append_left _ (List.mem_map.mpr ⟨x, hx, rfl⟩))))
  obtain ⟨tL, mL⟩ := He.int_ok X G (x := "LONGEST") (i := 400) (cD.facts (List.mem_append_right _ (List.mem_append_right _ List.mem_cons_self)))
  obtain ⟨tD, mD⟩ := He.int_ok X G (x := "DEEPEST") (i := 6) (cD.facts (List.mem_append_right _ (List.mem_append_right _ (List.mem_cons_of_mem _ List.mem_cons_self))))
  have B : Bn mg := ⟨fz _ (by decide), fz _ (by decide), fz _ (by decide), fz _ (by decide), fz _ (by decide), fz _ (by decide), fz _ (by decide), fz _ (by decide), fz _ (by decide), fz _ (by decide)⟩
  have mA : mg "abs" = none := fz _ (by decide)
  obtain ⟨eP, eL⟩ := He.ba c.more
  obtain ⟨eP1, eP2⟩ := He.ba eP
  obtain ⟨eL1, eL2⟩ := He.ba eL
  obtain ⟨TP, XP⟩ := erB_ok (mg := mg) (nm := "ParseError") eP1 (g _ (by decide))
  obtain ⟨TL, XL'⟩ := erB_ok (mg := mg) (nm := "TooLong") eL1 (g _ (by decide))
  obtain ⟨d0, F0'⟩ := cD.def_ 0 (d := dD "signs_of" sSignsOf) rfl
  have F0 : Fun K "signs_of" "signs_of" sSignsOf (He.ga K "signs_of") d0 := fun_ofD F0'
  have b0 : Binds K d0 ["letters"] [] := F0.binds fun _ _ _ _ _ _ us hl => match us, hl with | [_], _ => rfl
  have g0 : mg "signs_of" = some (.ref (He.ga K "signs_of")) := g _ (by decide)
  obtain ⟨d1, F1'⟩ := cD.def_ 1 (d := dD "opposite" sOpp) rfl
  have F1 : Fun K "opposite" "opposite" sOpp (He.ga K "opposite") d1 := fun_ofD F1'
  have b1 : Binds K d1 ["word"] [] := F1.binds fun _ _ _ _ _ _ us hl => match us, hl with | [_], _ => rfl
  have g1 : mg "opposite" = some (.ref (He.ga K "opposite")) := g _ (by decide)
  obtain ⟨d2, F2'⟩ := cD.def_ 2 (d := dD "read_word" sRWord) rfl
  have F2 : Fun K "read_word" "read_word" sRWord (He.ga K "read_word") d2 := fun_ofD F2'
  have b2 : Binds K d2 ["text", "letters"] [] := F2.binds fun _ _ _ _ _ _ us hl => match us, hl with | [_, _], _ => rfl
  have g2 : mg "read_word" = some (.ref (He.ga K "read_word")) := g _ (by decide)
  obtain ⟨d3, F3'⟩ := cD.def_ 3 (d := dD "read_phrase" sRPhrase) rfl
  have F3 : Fun K "read_phrase" "read_phrase" sRPhrase (He.ga K "read_phrase") d3 := fun_ofD F3'
  have b3 : Binds K d3 ["text", "signs", "at", "depth"] [] := F3.binds fun _ _ _ _ _ _ us hl => match us, hl with | [_, _, _, _], _ => rfl
  have g3 : mg "read_phrase" = some (.ref (He.ga K "read_phrase")) := g _ (by decide)
  obtain ⟨d4, F4'⟩ := cD.def_ 4 (d := dD "read_factor" sRFactor) rfl
  have F4 : Fun K "read_factor" "read_factor" sRFactor (He.ga K "read_factor") d4 := fun_ofD F4'
  have b4 : Binds K d4 ["text", "signs", "at", "depth"] [] := F4.binds fun _ _ _ _ _ _ us hl => match us, hl with | [_, _, _, _], _ => rfl
  have g4 : mg "read_factor" = some (.ref (He.ga K "read_factor")) := g _ (by decide)
  obtain ⟨d5, F5'⟩ := cD.def_ 5 (d := dD "read_atom" sRAtom) rfl
  have F5 : Fun K "read_atom" "read_atom" sRAtom (He.ga K "read_atom") d5 := fun_ofD F5'
  have b5 : Binds K d5 ["text", "signs", "at", "depth"] [] := F5.binds fun _ _ _ _ _ _ us hl => match us, hl with | [_, _, _, _], _ => rfl
  have g5 : mg "read_atom" = some (.ref (He.ga K "read_atom")) := g _ (by decide)
  obtain ⟨d6, F6'⟩ := cD.def_ 6 (d := dD "read_group" sRGroup) rfl
  have F6 : Fun K "read_group" "read_group" sRGroup (He.ga K "read_group") d6 := fun_ofD F6'
  have b6 : Binds K d6 ["text", "signs", "at", "depth"] [] := F6.binds fun _ _ _ _ _ _ us hl => match us, hl with | [_, _, _, _], _ => rfl
  have g6 : mg "read_group" = some (.ref (He.ga K "read_group")) := g _ (by decide)
  obtain ⟨d7, F7'⟩ := cD.def_ 7 (d := dD "read_pair" sRPair) rfl
  have F7 : Fun K "read_pair" "read_pair" sRPair (He.ga K "read_pair") d7 := fun_ofD F7'
  have b7 : Binds K d7 ["text", "signs", "at", "depth"] [] := F7.binds fun _ _ _ _ _ _ us hl => match us, hl with | [_, _, _, _], _ => rfl
  have g7 : mg "read_pair" = some (.ref (He.ga K "read_pair")) := g _ (by decide)
  obtain ⟨d8, F8'⟩ := cD.def_ 8 (d := dD "read_exponent" sRExp) rfl
  have F8 : Fun K "read_exponent" "read_exponent" sRExp (He.ga K "read_exponent") d8 := fun_ofD F8'
  have b8 : Binds K d8 ["text", "at"] [] := F8.binds fun _ _ _ _ _ _ us hl => match us, hl with | [_, _], _ => rfl
  have g8 : mg "read_exponent" = some (.ref (He.ga K "read_exponent")) := g _ (by decide)
  obtain ⟨d9, F9'⟩ := cD.def_ 9 (d := dD "begins_atom" sBegins) rfl
  have F9 : Fun K "begins_atom" "begins_atom" sBegins (He.ga K "begins_atom") d9 := fun_ofD F9'
  have b9 : Binds K d9 ["text", "signs", "at", "depth"] [] := F9.binds fun _ _ _ _ _ _ us hl => match us, hl with | [_, _, _, _], _ => rfl
  have g9 : mg "begins_atom" = some (.ref (He.ga K "begins_atom")) := g _ (by decide)
  obtain ⟨d10, F10'⟩ := cD.def_ 10 (d := dD "mark_at" sMark) rfl
  have F10 : Fun K "mark_at" "mark_at" sMark (He.ga K "mark_at") d10 := fun_ofD F10'
  have b10 : Binds K d10 ["text", "at"] [] := F10.binds fun _ _ _ _ _ _ us hl => match us, hl with | [_, _], _ => rfl
  have g10 : mg "mark_at" = some (.ref (He.ga K "mark_at")) := g _ (by decide)
  obtain ⟨d11, F11'⟩ := cD.def_ 11 (d := dD "behind_spaces" sSpaces) rfl
  have F11 : Fun K "behind_spaces" "behind_spaces" sSpaces (He.ga K "behind_spaces") d11 := fun_ofD F11'
  have b11 : Binds K d11 ["text", "at"] [] := F11.binds fun _ _ _ _ _ _ us hl => match us, hl with | [_, _], _ => rfl
  have g11 : mg "behind_spaces" = some (.ref (He.ga K "behind_spaces")) := g _ (by decide)
  obtain ⟨d12, F12'⟩ := cD.def_ 12 (d := dD "check_mark" sChkM) rfl
  have F12 : Fun K "check_mark" "check_mark" sChkM (He.ga K "check_mark") d12 := fun_ofD F12'
  have b12 : Binds K d12 ["text", "at", "mark"] [] := F12.binds fun _ _ _ _ _ _ us hl => match us, hl with | [_, _, _], _ => rfl
  have g12 : mg "check_mark" = some (.ref (He.ga K "check_mark")) := g _ (by decide)
  obtain ⟨d13, F13'⟩ := cD.def_ 13 (d := dD "check_no_digit" sNoDigit) rfl
  have F13 : Fun K "check_no_digit" "check_no_digit" sNoDigit (He.ga K "check_no_digit") d13 := fun_ofD F13'
  have b13 : Binds K d13 ["text", "at"] [] := F13.binds fun _ _ _ _ _ _ us hl => match us, hl with | [_, _], _ => rfl
  have g13 : mg "check_no_digit" = some (.ref (He.ga K "check_no_digit")) := g _ (by decide)
  obtain ⟨d14, F14'⟩ := cD.def_ 14 (d := dD "power" sPower) rfl
  have F14 : Fun K "power" "power" sPower (He.ga K "power") d14 := fun_ofD F14'
  have b14 : Binds K d14 ["word", "exponent"] [] := F14.binds fun _ _ _ _ _ _ us hl => match us, hl with | [_, _], _ => rfl
  have g14 : mg "power" = some (.ref (He.ga K "power")) := g _ (by decide)
  obtain ⟨d15, F15'⟩ := cD.def_ 15 (d := dD "cut" sCut) rfl
  have F15 : Fun K "cut" "cut" sCut (He.ga K "cut") d15 := fun_ofD F15'
  have b15 : Binds K d15 ["word"] [] := F15.binds fun _ _ _ _ _ _ us hl => match us, hl with | [_], _ => rfl
  have g15 : mg "cut" = some (.ref (He.ga K "cut")) := g _ (by decide)
  obtain ⟨d16, F16'⟩ := cD.def_ 16 (d := dD "_law_begin" sBegin) rfl
  have F16 : Fun K "_law_begin" "_law_begin" sBegin (He.ga K "_law_begin") d16 := fun_ofD F16'
  have b16 : Binds K d16 ["_law_script"] [] := F16.binds fun _ _ _ _ _ _ us hl => match us, hl with | [_], _ => rfl
  have g16 : mg "_law_begin" = some (.ref (He.ga K "_law_begin")) := g _ (by decide)
  obtain ⟨d17, F17'⟩ := cD.def_ 17 (d := dD "_law_draw" sDraw) rfl
  have F17 : Fun K "_law_draw" "_law_draw" sDraw (He.ga K "_law_draw") d17 := fun_ofD F17'
  have b17 : Binds K d17 ["_law_box", "_law_many"] [] := F17.binds fun _ _ _ _ _ _ us hl => match us, hl with | [_, _], _ => rfl
  have g17 : mg "_law_draw" = some (.ref (He.ga K "_law_draw")) := g _ (by decide)
  obtain ⟨d18, F18'⟩ := cD.def_ 18 (d := dD "_law_any" sAny) rfl
  have F18 : Fun K "_law_any" "_law_any" sAny (He.ga K "_law_any") d18 := fun_ofD F18'
  have b18 : Binds K d18 ["_law_box", "_law_some"] [] := F18.binds fun _ _ _ _ _ _ us hl => match us, hl with | [_, _], _ => rfl
  have g18 : mg "_law_any" = some (.ref (He.ga K "_law_any")) := g _ (by decide)
  obtain ⟨d19, F19'⟩ := cD.def_ 19 (d := dD "_law_same" sSame) rfl
  have F19 : Fun K "_law_same" "_law_same" sSame (He.ga K "_law_same") d19 := fun_ofD F19'
  have b19 : Binds K d19 ["_law_found", "_law_due"] [] := F19.binds fun _ _ _ _ _ _ us hl => match us, hl with | [_, _], _ => rfl
  have g19 : mg "_law_same" = some (.ref (He.ga K "_law_same")) := g _ (by decide)
  obtain ⟨d20, F20'⟩ := cD.def_ 20 (d := dD "_law_field" sField) rfl
  have F20 : Fun K "_law_field" "_law_field" sField (He.ga K "_law_field") d20 := fun_ofD F20'
  have b20 : Binds K d20 ["_law_e"] [] := F20.binds fun _ _ _ _ _ _ us hl => match us, hl with | [_], _ => rfl
  have g20 : mg "_law_field" = some (.ref (He.ga K "_law_field")) := g _ (by decide)
  obtain ⟨d21, F21'⟩ := cD.def_ 21 (d := dD "_law_why" sWhy) rfl
  have F21 : Fun K "_law_why" "_law_why" sWhy (He.ga K "_law_why") d21 := fun_ofD F21'
  have b21 : Binds K d21 ["_law_ask"] [] := F21.binds fun _ _ _ _ _ _ us hl => match us, hl with | [_], _ => rfl
  have g21 : mg "_law_why" = some (.ref (He.ga K "_law_why")) := g _ (by decide)
  obtain ⟨d22, F22'⟩ := cD.def_ 22 (d := dD "_law_letters" sLetters) rfl
  have F22 : Fun K "_law_letters" "_law_letters" sLetters (He.ga K "_law_letters") d22 := fun_ofD F22'
  have b22 : Binds K d22 ["_law_box", "_law_many"] [] := F22.binds fun _ _ _ _ _ _ us hl => match us, hl with | [_, _], _ => rfl
  have g22 : mg "_law_letters" = some (.ref (He.ga K "_law_letters")) := g _ (by decide)
  obtain ⟨d23, F23'⟩ := cD.def_ 23 (d := dD "_law_signs" sSigns) rfl
  have F23 : Fun K "_law_signs" "_law_signs" sSigns (He.ga K "_law_signs") d23 := fun_ofD F23'
  have b23 : Binds K d23 ["_law_letters_z"] [] := F23.binds fun _ _ _ _ _ _ us hl => match us, hl with | [_], _ => rfl
  have g23 : mg "_law_signs" = some (.ref (He.ga K "_law_signs")) := g _ (by decide)
  obtain ⟨d24, F24'⟩ := cD.def_ 24 (d := dD "_law_back" sBack) rfl
  have F24 : Fun K "_law_back" "_law_back" sBack (He.ga K "_law_back") d24 := fun_ofD F24'
  have b24 : Binds K d24 ["_law_sign"] [] := F24.binds fun _ _ _ _ _ _ us hl => match us, hl with | [_], _ => rfl
  have g24 : mg "_law_back" = some (.ref (He.ga K "_law_back")) := g _ (by decide)
  obtain ⟨d25, F25'⟩ := cD.def_ 25 (d := dD "_law_gone_back" sGone) rfl
  have F25 : Fun K "_law_gone_back" "_law_gone_back" sGone (He.ga K "_law_gone_back") d25 := fun_ofD F25'
  have b25 : Binds K d25 ["_law_one"] [] := F25.binds fun _ _ _ _ _ _ us hl => match us, hl with | [_], _ => rfl
  have g25 : mg "_law_gone_back" = some (.ref (He.ga K "_law_gone_back")) := g _ (by decide)
  obtain ⟨d26, F26'⟩ := cD.def_ 26 (d := dD "_law_space" sSpace) rfl
  have F26 : Fun K "_law_space" "_law_space" sSpace (He.ga K "_law_space") d26 := fun_ofD F26'
  have b26 : Binds K d26 ["_law_box"] [] := F26.binds fun _ _ _ _ _ _ us hl => match us, hl with | [_], _ => rfl
  have g26 : mg "_law_space" = some (.ref (He.ga K "_law_space")) := g _ (by decide)
  obtain ⟨d27, F27'⟩ := cD.def_ 27 (d := dD "_law_loose" sLoose) rfl
  have F27 : Fun K "_law_loose" "_law_loose" sLoose (He.ga K "_law_loose") d27 := fun_ofD F27'
  have b27 : Binds K d27 ["_law_box", "_law_letters_z", "_law_deep"] [] := F27.binds fun _ _ _ _ _ _ us hl => match us, hl with | [_, _, _], _ => rfl
  have g27 : mg "_law_loose" = some (.ref (He.ga K "_law_loose")) := g _ (by decide)
  obtain ⟨d28, F28'⟩ := cD.def_ 28 (d := dD "_law_is_digit" sIsDigit) rfl
  have F28 : Fun K "_law_is_digit" "_law_is_digit" sIsDigit (He.ga K "_law_is_digit") d28 := fun_ofD F28'
  have b28 : Binds K d28 ["_law_text_z", "_law_at"] [] := F28.binds fun _ _ _ _ _ _ us hl => match us, hl with | [_, _], _ => rfl
  have g28 : mg "_law_is_digit" = some (.ref (He.ga K "_law_is_digit")) := g _ (by decide)
  obtain ⟨d29, F29'⟩ := cD.def_ 29 (d := dD "_law_power" sLPower) rfl
  have F29 : Fun K "_law_power" "_law_power" sLPower (He.ga K "_law_power") d29 := fun_ofD F29'
  have b29 : Binds K d29 ["_law_text_z", "_law_at"] [] := F29.binds fun _ _ _ _ _ _ us hl => match us, hl with | [_, _], _ => rfl
  have g29 : mg "_law_power" = some (.ref (He.ga K "_law_power")) := g _ (by decide)
  obtain ⟨d30, F30'⟩ := cD.def_ 30 (d := dD "_law_atom" sLAtom) rfl
  have F30 : Fun K "_law_atom" "_law_atom" sLAtom (He.ga K "_law_atom") d30 := fun_ofD F30'
  have b30 : Binds K d30 ["_law_text_z", "_law_signs_here", "_law_at", "_law_deep"] [] := F30.binds fun _ _ _ _ _ _ us hl => match us, hl with | [_, _, _, _], _ => rfl
  have g30 : mg "_law_atom" = some (.ref (He.ga K "_law_atom")) := g _ (by decide)
  obtain ⟨d31, F31'⟩ := cD.def_ 31 (d := dD "_law_phrase" sLPhrase) rfl
  have F31 : Fun K "_law_phrase" "_law_phrase" sLPhrase (He.ga K "_law_phrase") d31 := fun_ofD F31'
  have b31 : Binds K d31 ["_law_text_z", "_law_signs_here", "_law_at", "_law_stop", "_law_deep"] [] := F31.binds fun _ _ _ _ _ _ us hl => match us, hl with | [_, _, _, _, _], _ => rfl
  have g31 : mg "_law_phrase" = some (.ref (He.ga K "_law_phrase")) := g _ (by decide)
  obtain ⟨d32, F32'⟩ := cD.def_ 32 (d := dD "_law_phrase_due" sDue) rfl
  have F32 : Fun K "_law_phrase_due" "_law_phrase_due" sDue (He.ga K "_law_phrase_due") d32 := fun_ofD F32'
  have b32 : Binds K d32 ["_law_text_z", "_law_letters_z"] [] := F32.binds fun _ _ _ _ _ _ us hl => match us, hl with | [_, _], _ => rfl
  have g32 : mg "_law_phrase_due" = some (.ref (He.ga K "_law_phrase_due")) := g _ (by decide)
  obtain ⟨d33, F33'⟩ := cD.def_ 33 (d := dD "law" sLaw) rfl
  have F33 : Fun K "law" "law" sLaw (He.ga K "law") d33 := fun_ofD F33'
  have g33 : mg "law" = some (.ref (He.ga K "law")) := g _ (by decide)
  obtain rfl : fl = He.ga K "law" := by
    have e := hfa.symm.trans g33
    injection e with e
    injection e
  obtain ⟨dP, FP'⟩ := cD.def_ 34 (d := dIniP) rfl
  have FP : Fun K "__init__" "ParseError.__init__" sIniP (He.ma K (He.ga K "ParseError") "__init__") dP := fun_ofD FP'
  have bP : Binds K dP ["self", "at"] [] := FP.binds fun _ _ _ _ _ _ us hl => match us, hl with | [_, _], _ => rfl
  obtain ⟨dL, FL'⟩ := cD.def_ 35 (d := dIniL) rfl
  have FL : Fun K "__init__" "TooLong.__init__" sIniL (He.ma K (He.ga K "TooLong") "__init__") dL := fun_ofD FL'
  have bL : Binds K dL ["self", "limit"] [] := FL.binds fun _ _ _ _ _ _ us hl => match us, hl with | [_, _], _ => rfl
  obtain ⟨oc, od, kV, doc, pm, an, cdv, ct, osl, rfl, lk, hcd⟩ := F33.ex
  obtain ⟨cc, rfl⟩ := He.codeIn_ref hcd
  have ec : He.codeOf K ("law", none) = cc := He.codeOf_eq (p := ("law", none)) lk rfl
  have mt : (("law" : Str), (none : Option Str)) ∈ tf := List.mem_cons_self
  refine ⟨PySem.W.fnOf "law" "law" (defArgs sLaw) (defBody sLaw) (defScope sLaw) .none kV doc pm an (.ref cc) ct, [He.cT K ("law", none)], spLaw K (He.cT K ("law", none)).2, ?_, ?_, ?_, ?_, ?_, ?_⟩
  · intro p hp
    have e : p = He.cT K ("law", none) := by simpa using hp
    rw [e]
    exact c.empty _ mt
  · intro p hp
    have e : p = He.cT K ("law", none) := by simpa using hp
    rw [e]
    exact c.out _ mt
  · intro p hp
    have e : p = He.cT K ("law", none) := by simpa using hp
    rw [e]
    exact PySem.W.codeHd_of_K X (c.hd _ mt)
  · exact fun s u => .of_eq rfl
  · intro H a ns hl _ hT hS
    exact ⟨a, ns, rfl, hS, hl, hT _ List.mem_cons_self, fun _ => rfl⟩
  · intro base KB NB TBs
    have TB := TBs _ List.mem_cons_self
    have TB' : LamX.TabB base mg cc (He.cT K ("law", none)).2 := by
      have e : (He.cT K ("law", none)).1 = cc := ec
      rw [← e]
      exact TB
    have RP : Pe PySem.Challenge.rw_roundswap_k07_phrases_that_are_read.prog w K mg base _ _ dP := ⟨TP, ok_iniP FP TP, bP⟩
    have RL : Pl PySem.Challenge.rw_roundswap_k07_phrases_that_are_read.prog w K mg base _ _ dL := ⟨TL, ok_iniL FL TL, bL⟩
    have DR : Rdr K mg _ _ _ _ _ _ _ _ _ _ _ _ _ _ d3 d4 d5 d6 d7 d8 d9 d10 d11 d12 d13 d14 d15 d1 := ⟨⟨F3, b3, g3⟩, ⟨F4, b4, g4⟩, ⟨F5, b5, g5⟩, ⟨F6, b6, g6⟩, ⟨F7, b7, g7⟩, ⟨F8, b8, g8⟩, ⟨F9, b9, g9⟩, ⟨F10, b10, g10⟩, ⟨F11, b11, g11⟩, ⟨F12, b12, g12⟩, ⟨F13, b13, g13⟩, ⟨F14, b14, g14⟩, ⟨F15, b15, g15⟩, ⟨F1, b1, g1⟩⟩
    have GPh := ok_lev DR B RP mL mD 6 (by decide)
    have GSo : FnOk PySem.Challenge.rw_roundswap_k07_phrases_that_are_read.prog w K mg base CX0 1 _ d0 _ spSof := ok_sof F0
    have GRw := ok_rw F2 B RP RL mL GPh F3.kp b3 g3 GSo F0.kp b0 g0
    have GD : FnOk PySem.Challenge.rw_roundswap_k07_phrases_that_are_read.prog w K mg base CX0 1 _ d17 _ spDraw := ok_draw F17 B
    have GA : FnOk PySem.Challenge.rw_roundswap_k07_phrases_that_are_read.prog w K mg base CX0 2 _ d18 _ spAny := ok_any (k := 0) F18 B F17 b17 g17
    have GS : FnOk PySem.Challenge.rw_roundswap_k07_phrases_that_are_read.prog w K mg base CX0 1 _ d23 _ spSigns := ok_signs F23
    have GG : FnOk PySem.Challenge.rw_roundswap_k07_phrases_that_are_read.prog w K mg base CX0 2 _ d25 _ spGone := ok_gone (k := 0) F25 F24 b24 g24
    have GZ : FnOk PySem.Challenge.rw_roundswap_k07_phrases_that_are_read.prog w K mg base CX0 3 _ d26 _ spSpace := ok_space (k := 0) F26 GA F18.kp b18 g18
    have GL := ok_lo (ok_loose F27 b27 g27 B GD F17.kp b17 g17 GA F18.kp b18 g18 GG F25.kp b25 g25 GZ F26.kp b26 g26 GS F23.kp b23 g23)
    have GI : FnOk PySem.Challenge.rw_roundswap_k07_phrases_that_are_read.prog w K mg base CX0 1 _ d28 _ spLd := ok_ld F28
    have GW : FnOk PySem.Challenge.rw_roundswap_k07_phrases_that_are_read.prog w K mg base CX0 2 _ d29 _ spLp := ok_lp (k := 0) F29 B GI F28.kp b28 g28
    have GLp := ok_llev (P := PySem.Challenge.rw_roundswap_k07_phrases_that_are_read.prog) (w := w) (base := base) ⟨F31, b31, g31⟩ ⟨F30, b30, g30⟩ B mA GG F25.kp b25 g25 GW F29.kp b29 g29 GI F28.kp b28 g28 6 (by decide)
    have GU := ok_due F32 GLp F31.kp b31 g31 GS F23.kp b23 g23
    have YY : Wy PySem.Challenge.rw_roundswap_k07_phrases_that_are_read.prog w K mg base _ _ _ _ _ _ _ _ _ cc (He.cT K ("law", none)).2 _ d21 d20 d2 := ⟨F21, b21, g21, TP, XP, TL, XL', ok_fld (k := 0) F20 TP XP TL XL', F20.kp, b20, g20, g _ (by decide), g _ (by decide), g _ (by decide), of_decide_eq_true eP2, of_decide_eq_true eL2, TB', ⟨GRw, F2.kp, b2, g2⟩⟩
    exact ok_law lk hcd B ⟨ok_begin F16 B, F16.kp, b16, g16⟩ YY (kb_rw F2) ⟨ok_same F19 B b19 g19 1, F19.kp, b19, g19⟩ ⟨ok_same F19 B b19 g19 2, F19.kp, b19, g19⟩ ⟨GU, F32.kp, b32, g32⟩ ⟨GD, F17.kp, b17, g17⟩
      ⟨ok_let (k := 0) F22 B GA F18.kp b18 g18, F22.kp, b22, g22⟩ ⟨GL, F27.kp, b27, g27⟩
end K7
open PySem PySem.W PySem.Calls PyProof.Rows
set_option maxRecDepth 100000 in
set_option maxHeartbeats 0 in
theorem PySem.Challenge.cw_roundswap_k07_phrases_that_are_read_holds : PySem.Challenge.rw_roundswap_k07_phrases_that_are_read.Holds := by
  w_on; o_law
  refine HandSHeadRun.head_any (r := OpenLaw.row PySem.Challenge.rw_roundswap_k07_phrases_that_are_read) (q := view (OpenLaw.row PySem.Challenge.rw_roundswap_k07_phrases_that_are_read).prog [44]) (H := K7.hk) (ob := K7.ob8) (M := 4000) (loose := K7.loose) (d := HandSHeadRun.topDef (OpenLaw.row PySem.Challenge.rw_roundswap_k07_phrases_that_are_read).prog 44) (kwd := []) K7.ob_eq
    (by kernel_rfl) (fun s => by kernel_rfl) K7.run (by kernel_rfl) (by kernel_rfl) (by kernel_rfl) (by rfl) (by first | assumption | decide +kernel) (by decide +kernel) ⟨rfl, rfl, rfl, rfl, rfl, by decide +kernel⟩ ?hw ?hc
  case hw => w_witness2
  case hc =>
    refine LamX.walk_ofTsE (l := PySem.Challenge.rw_roundswap_k07_phrases_that_are_read) (n := 63) (k := 41) (x := "_law_script") (CX := fun _ => L2.CX0) rfl (by decide) (by kernel_rfl) ⟨rfl, by decide, by decide⟩ ?F (fun _ _ _ _ _ z => z)
    intro w mg fa h Y G hmg0
    obtain ⟨K, KX, c⟩ := Y
    have hmg : mg ("law" : PySem.Str) = some (.ref fa) := by
      have e : (HandSHeadRun.topDef (OpenLaw.row PySem.Challenge.rw_roundswap_k07_phrases_that_are_read).prog 44).name = ("law" : PySem.Str) := by kernel_rfl
      rw [← e]
      exact hmg0
    exact ⟨K, KX, K7.facts KX G hmg c⟩
