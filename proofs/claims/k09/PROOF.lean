import PyProof.Rows.All
import Wide.All
import OpenK.AllK
import Wide.FinOn
import PyProof.EqAt
import PyProof.EqKinds
import PyProof.TupleCall
import HandS.ForMost
import HandS.Walk
import HandS.Style
import HandS.Exc
import HandS.HotCalls
import HandS.ExcField
import KE.KTryMore
import HandS.Wide
import HandS.IsInst
import HandS.Flow
import HandS.StrMore
import HandS.Codes
import HandS.FStr
import HandS.EndBits
import KE.KStateDown
import HandS.More
import HandS.Defaults
import HandS.Head0
import HandS.Head1
import HandS.Head2
import HandS.HeadEnd
import HandS.HeadHook1
import HandS.HeadHook2
import HandS.HeadHook3
import HandS.HeadHook4
import HandS.HeadWalk
import PySem.Challenge.RW_roundswap_k09_texts_of_words
set_option Elab.async false
set_option linter.all false
set_option maxRecDepth 100000
set_option maxHeartbeats 2000000
namespace Rs
open PySem PySem.Spec PyProof.Rows L2
section
variable {X : Cx}
/-! texts: swapcase, and [::-1] -/
theorem m_swapcase : MtR X "str.swapcase" (fun x xs H Q => ∃ a, x = .str a ∧ xs = [] ∧ a.length ≤ 5592405 ∧ Q (.str (Txt.swapcase a)) H) :=
  mt0 (C := fun a => a.length ≤ 5592405) (g := fun a => .str (Txt.swapcase a)) fun a _ s _ hc h => PySem.SC.swapcase (fit_swapcase hc) (h _ (s.toks + 1) ⟨_, rfl⟩)
def rv (z : Str) : Str := ⟨z.cps.reverse⟩
theorem rv_is (z : Str) (u : Tok) : Txt.sliceBy z none none (-1, u) = rv z := by
  have e := step_rev_list z u
  unfold rv
  have e2 : (Txt.sliceBy z none none (-1, u)).cps = z.cps.reverse := by
    apply Array.toList_inj.mp
    rw [e, Array.toList_reverse]
    apply List.ext_getElem?
    intro i
    rw [List.getElem?_map]
    by_cases h : i < z.cps.size
    · have hl : i < z.length := h
      rw [List.getElem?_range hl, List.getElem?_reverse (by simpa using h)]
      have h2 : z.length - 1 - i < z.cps.size := by show z.cps.size - 1 - i < _; omega
      show some _ = z.cps.toList[z.cps.size - 1 - i]?
      rw [Array.getElem?_toList]
      have h3 : z.cps.size - 1 - i < z.cps.size := h2
      rw [Array.getElem?_eq_getElem h3]
      congr 1
      show z.cps.getD (z.cps.size - 1 - i) 0 = _
      simp [Array.getD, h3]
    · have h1 : (List.range z.length)[i]? = none := by
        rw [List.getElem?_eq_none_iff, List.length_range]; exact Nat.not_lt.mp h
      rw [h1, List.getElem?_eq_none (by simpa using Nat.not_lt.mp h)]
      rfl
  cases hz : Txt.sliceBy z none none (-1, u)
  rw [hz] at e2
  dsimp only at e2
  rw [e2]
def tRevS (te : TE) : TE := fun σ H Q => te σ H fun x H1 => ∃ z, x = .str z ∧ z.length ≤ sizeLine ∧ Q (.str (rv z)) H1
theorem e_revS {e : Expr} {te : TE} {k : Nat} {p1 p2 p3 pos : Pos} (he : PE X e te) :
    PE X (.Subscript e (.Slice none none (some (.UnaryOp .USub (.Constant (.int 1) k p1) p2)) p3) pos) (tRevS te) := by
  constructor
  intro pins s σ H Q I h
  refine Subscript_ (thn (he.run pins s σ H _ I h) fun v s1 hh => ?_)
  obtain ⟨x, H1, I1, r1, z, ez, hz, q⟩ := hh
  subst ez
  obtain ⟨t, rfl⟩ := r1
  have hst : PO X (some (.UnaryOp .USub (.Constant (.int 1) k p1) p2)) (tPart (tUn (rU fun i => .int (-i)) (tC (.int 1)))) :=
    po_some (pe_un un_neg pe_int)
  refine wpAny_Slice (thn (po_none.run pins s1 σ H1 (fun o H2 => o = none ∧ H2 = H1) I1 ⟨rfl, rfl⟩) ?_)
  rintro vl s2 ⟨l, H2, I2, pl, rfl, rfl⟩
  refine thn (po_none.run pins s2 σ H2 (fun o H3 => o = none ∧ H3 = H2) I2 ⟨rfl, rfl⟩) ?_
  rintro vu s3 ⟨u, H3, I3, pu, rfl, rfl⟩
  refine thn (hst.run pins s3 σ H3 (fun o H4 => o = some (-1) ∧ H4 = H3) I3 ⟨1, rfl, -1, rfl, rfl, rfl⟩) ?_
  rintro vs s4 ⟨o, H4, I4, ps, rfl, rfl⟩
  obtain ⟨l', rfl, hl'⟩ := IsPart.raw pl
  obtain ⟨u', rfl, hu'⟩ := IsPart.raw pu
  obtain ⟨k', rfl, hk'⟩ := IsPart.raw ps
  cases l' with
  | some l' => cases hl'
  | none =>
  cases u' with
  | some u' => cases hu'
  | none =>
  cases k' with
  | none => cases hk'
  | some k' =>
  obtain ⟨kk, tk⟩ := k'
  have ek : kk = -1 := by simpa using hk'
  subst ek
  refine tail_any (ops := [.str z t, .ref s4.heap.objs.size]) (typeIs_str _ _ _) (F.slot_str_getitem.lookup) ?_ (by with_unfolding_all rfl)
  refine wpAny_getItem_str_slice (l := none) (u := none) (st := some (-1, tk)) ⟨_, Heap.get?_push_size _ rfl, rfl, rfl⟩ rfl ?_
  refine post_val_or_str ⟨Nat.le_trans (Txt.sliceBy_le z _ _ (-1, tk) (by show (-1 : Int) ≠ 0; decide)) hz, fun t' c => ?_⟩
  show EP X pins σ Q (.str (Txt.sliceBy z none none (-1, tk)) t') _
  rw [rv_is]
  exact ⟨.str (rv z), _, I4.kept fun b ob q => Heap.get?_push_of_some _ q, ⟨_, rfl⟩, q⟩
end
end Rs
set_option maxRecDepth 100000
set_option maxHeartbeats 2000000
namespace Rs
open PySem PySem.Spec PyProof.Rows L2
theorem fly_keeps {h h' Bh : Heap} {l : List Env} {a : Addr} {Z : Obj → Prop} (x : HandSPX.FlyingZ Bh l a Z h) (k : ∀ b o, h.get? b = some o → h'.get? b = some o) : HandSPX.FlyingZ Bh l a Z h' := by
  obtain ⟨x1, x2, x3, oe, vs, T, oT, ts, y1, y2, y3, y4, y5, y6, y7, y8, y9⟩ := x
  exact ⟨fun b o e => k b o (x1 b o e), x2, x3.of_keeps (fun b o e _ => ⟨o, k b o e, rfl⟩), oe, vs, T, oT, ts, k _ _ y1, y2, y3, y4, y5, y6, k _ _ y7, y8, y9⟩
/-- what «except (x1, x2, x3) as n» asks of an error of the body, where it is always one of the three -/
def wT (K : PySem.W.Frag) (cs : List Value) (i : Nat) (ts : Addr → Value → Option Addr → TS) (D : Ends) : WX := fun cls d σ H =>
  PySem.W.exmAny K cls cs = some true ∧ ∀ a, H a = none →
    ts a cls d { nx := fun σ' H' => D.nx (σ'.set i none) H', rt := D.rt, bk := fun σ' H' => D.bk (σ'.set i none) H', ct := fun σ' H' => D.ct (σ'.set i none) H' } (σ.set i (some (.ref a))) H
section
variable {X : Cx}
theorem s_try3 {x1 x2 x3 n : Str} {c1 c2 c3 : Value} {i k : Nat} {body suite : List Stmt} {b₀ : Stmt} {n1 n2 n3 tp pos pos' : Pos} {tb : WX → TS} {ts : Addr → Value → Option Addr → TS}
    (hs : X.stack = X.env :: X.outer) (hf : X.env.frame = some X.env.locals) (hN : X.N.Nodup) (hi : X.N[i]? = some n) (hln : X.env.kindOf n = some .local)
    (g1 : Gl X x1) (m1 : X.mg x1 = some c1) (g2 : Gl X x2) (m2 : X.mg x2 = some c2) (g3 : Gl X x3) (m3 : X.mg x3 = some c3)
    (hb : ∀ (W : WX) (pn : List (Addr × Obj)) (xe : Value → Shared → Prop), Takes (X.tr pn xe) W → PSs (X.tr pn xe) body (tb W))
    (hsu : ∀ (a : Addr) (oe : Obj) (cls : Value) (d : Option Addr) (pn : List (Addr × Obj)), Zc cls d oe → (∃ vs, oe.data = .fields vs) → PSs (X.suite a ((a, oe) :: pn)) (b₀ :: suite) (ts a cls d))
    (d1 : (x1 == ("__debug__" : Str)) = false := by decide) (d2 : (x2 == ("__debug__" : Str)) = false := by decide) (d3 : (x3 == ("__debug__" : Str)) = false := by decide) :
    PS X (.Try body [.ExceptHandler (some (.Tuple [.Name x1 n1, .Name x2 n2, .Name x3 n3] k tp)) (some n) (b₀ :: suite) pos'] [] [] pos) (fun D σ H => tb (wT X.K [c1, c2, c3] i ts D) D σ H) := by
  constructor
  intro pins s σ H D I h
  have ok := I.ok
  have hfra : X.A.frames = some (X.env :: X.outer) := by rw [ok.frames, hs]
  have hlc : Loc X.env.scope n := .inl hln
  refine wpAny_Try_except ?_
  refine wpAny_mono ((hb (wT X.K [c1, c2, c3] i ts D) (X.pn ++ pins)
    (fun e s₁ => wpAny (model X.prog X.w) X.A (noteFrame e X.env) (fun _ s₂ => wpAny (model X.prog X.w) X.A (setFlight e none)
      (fun _ s₃ => wpAny (model X.prog X.w) X.A (handleBy e X.env [.ExceptHandler (some (.Tuple [.Name x1 n1, .Name x2 n2, .Name x3 n3] k tp)) (some n) (b₀ :: suite) pos']) (SP X pins D) X.xe s₃) X.xe s₂) X.xe s₁)
    (fun u s' xx => ?_)).run [] s σ H D (I.toTry _) h) (fun f s1 hsp => ?_) (fun e s1 he => he)
  · obtain ⟨a, Bh, sIn, pins', σ', H', cls, d, rfl, Jt, nbk, up, sky, na, os, agn, hx, hyes⟩ := xx
    have J : Inv X pins σ' H' sIn := Jt.ofTry ok
    have skyB : Sky Bh (X.env :: X.outer) a (Zc cls d) X.env.locals s'.heap := hs ▸ sky
    show wpAny _ X.A (noteFrame (.ref a) X.env) _ _ _
    refine Sky.land Zc.steady hfra hf skyB fun hp3 fly3 ups3 => ?_
    have Jl : Inv X pins σ' H' { s' with heap := hp3 } := J.landed nbk fly3.1 (up.trans ups3) os agn
    obtain ⟨ob3, vb3, ge3, gz3, gd3⟩ := fly3.there
    have noFr : a ∉ frs (X.env :: X.outer) := fun hm => by
      obtain ⟨_, o', e', hnf⟩ := fly3.2.2.1.mem hm
      rw [ge3] at e'
      cases e'
      exact hnf _ gd3
    have noL : a ≠ X.env.locals := fun z => noFr (List.mem_filterMap.mpr ⟨X.env, List.mem_cons_self, by rw [hf, z]⟩)
    have noF : a ∉ X.fs := fun hm => by
      obtain ⟨en, hen, q⟩ := List.mem_filterMap.mp hm
      exact noFr (List.mem_filterMap.mpr ⟨en, List.mem_cons_of_mem _ hen, q⟩)
    have Su3 := Jl.suite ge3 gd3 na noL noF
    refine wpAny_handleBy_cons (codeAny_handlers_test ?_) (fun z => nomatch z)
    refine wpAny_Tuple_spliced ?_
    show wpAny _ _ (spliced [(false, eval (.Name x1 n1) X.env), (false, eval (.Name x2 n2) X.env), (false, eval (.Name x3 n3) X.env)]) _ _ _
    refine Calls.spliced_cons (ld_glob (X := X.suite a ((a, ob3) :: (X.pn ++ pins))) Su3 g1 m1 ?_ d1)
    refine Calls.spliced_cons (ld_glob (X := X.suite a ((a, ob3) :: (X.pn ++ pins))) Su3 g2 m2 ?_ d2)
    refine Calls.spliced_cons (ld_glob (X := X.suite a ((a, ob3) :: (X.pn ++ pins))) Su3 g3 m3 (Calls.spliced_nil ⟨by show 3 ≤ sizeLine; decide, ?_⟩) d3)
    have kp : ∀ b o, hp3.get? b = some o → (hp3.push { cls := .type "tuple", data := .seq [c1, c2, c3].toArray }).get? b = some o := fun b o e => Heap.get?_push_of_some _ e
    have fl4 := fly_keeps fly3 kp
    have he4 := kp _ _ ge3
    have LT : PySem.W.Looks (model X.prog X.w) (hp3.push { cls := .type "tuple", data := .seq [c1, c2, c3].toArray }) (typeOf (.ref a)) cls := fun A Q E s k q => wpAny_typeOf_ref (k _ _ he4) (by rw [gz3.1]; exact q)
    have LM := PySem.W.exm_tup3 (M := model X.prog X.w) (Jl.kIn.keeps kp) LT (Heap.get?_push_size _ rfl) hx
    refine LM.here ?_
    refine codeAny_handlers_suite_as (HandSPX.lands_againZ (s := { s' with heap := hp3.push { cls := .type "tuple", data := .seq [c1, c2, c3].toArray } }) fl4 fun h5 fl5 up5 => ?_)
    have J5 : Inv X pins σ' H' { s' with heap := h5 } := J.landed nbk fl5.1 (((up.trans ups3).trans (.of_keeps kp)).trans up5) os agn
    obtain ⟨oe5, vs5, he5, hz5, hd5⟩ := fl5.there
    have S5 := J5.suite he5 hd5 na noL noF
    refine store_ok (X := X.suite a ((a, oe5) :: (X.pn ++ pins))) (v := .ref a) S5 hN hi hlc rfl (fun s6 S6 => ?_) (.inr hln)
    refine wpAny_mono ((hsu a oe5 cls d (X.pn ++ pins) hz5 ⟨_, hd5⟩).run [] s6 _ H' _ S6 (hyes a na)) (fun f s7 hsp => ?_) (fun _ _ z => False.elim z)
    have fin : ∀ {σ7 : L2.St} {H7 : Hp} {Q : Shared → Prop}, Inv (X.suite a ((a, oe5) :: (X.pn ++ pins))) [] σ7 H7 s7 → (∀ s8, Inv X pins (σ7.set i none) H7 s8 → Q s8) →
        wpAny (model X.prog X.w) X.A (do bindName X.env n .none; unbindBehindTheSuite X.env n pos') (fun _ s8 => Q s8) X.xe s7 := fun S7 hq => gone_ok (S7.unsuite ok) hN hi hln hq
    cases f with
    | next =>
      obtain ⟨σ7, H7, S7, q7⟩ := hsp
      exact fin S7 fun s8 J8 => ⟨_, _, J8, q7⟩
    | brk =>
      obtain ⟨σ7, H7, S7, q7⟩ := hsp
      exact fin S7 fun s8 J8 => ⟨_, _, J8, q7⟩
    | cont =>
      obtain ⟨σ7, H7, S7, q7⟩ := hsp
      exact fin S7 fun s8 J8 => ⟨_, _, J8, q7⟩
    | ret u =>
      obtain ⟨v7, σ7, H7, S7, r7, q7⟩ := hsp
      exact fin S7 fun s8 J8 => ⟨_, _, _, J8, r7, q7⟩
  · cases f with
    | next =>
      obtain ⟨σ', H', Jt, q⟩ := hsp
      exact wpAny_execs_nil ⟨σ', H', Jt.ofTry ok, q⟩
    | brk =>
      obtain ⟨σ', H', Jt, q⟩ := hsp
      exact ⟨σ', H', Jt.ofTry ok, q⟩
    | cont =>
      obtain ⟨σ', H', Jt, q⟩ := hsp
      exact ⟨σ', H', Jt.ofTry ok, q⟩
    | ret u =>
      obtain ⟨v, σ', H', Jt, r, q⟩ := hsp
      exact ⟨v, σ', H', Jt.ofTry ok, r, q⟩
/-- err.f, err an error that the context holds by a pin -/
theorem e_xf {a C : Addr} {oe : Obj} {cls : Value} {d : Option Addr} {e : Expr} {te : TE} {pos : Pos} {n : Str} (T : XfC X.K C) (hno : PySem.W.findIn X.K (.ref C) n = some none)
    (hz : Zc cls d oe) (hf : ∃ vs, oe.data = .fields vs) (hp : (a, oe) ∈ X.pn) (he : PE X e te) (hb : attributeBase e n X.env (eval e X.env) = eval e X.env := by rfl) :
    PE X (.Attribute e n pos) (tXf a cls d C n te) := by
  constructor
  intro pins s σ H Q I h
  refine attr_of hb (thn (he.run pins s σ H _ I h) ?_)
  rintro u s1 ⟨x, H1, I1, rx, rfl, rfl, dd, fs, v, rfl, ea, l, q⟩
  obtain rfl : u = .ref a := rx
  obtain ⟨ha, _⟩ := I1.pin (a, oe) (List.mem_append_left _ hp)
  obtain ⟨vs, hd⟩ := hf
  obtain ⟨mAt, hnsp, hr⟩ := (show ObjOk X.prog X.w H1 s1.heap dd (.xd fs) from I1.hok dd _ ea)
  obtain ⟨odo, hod, hl⟩ := lookIn_ns hnsp
  obtain ⟨u, hu, ruv⟩ := RelO.some_of (v := v) (o := mAt n) (by rw [← l]; exact hr n)
  have J : PySem.W.InstAt s1.heap a oe C (some odo) := ⟨ha, hz.1, by unfold PySem.W.notCls; rw [hd] <;> rfl, by rw [hz.2]; exact hod⟩
  exact HandSPX.exc_get I1.kIn J T.ga T.gg T.exC (PySem.W.findObj_own T.hdC hno rfl (by rw [hl, hu])) (handed_of ruv) ⟨v, H1, I1.tok _, ruv, q⟩
end
/-- a def's promise where an error p is handled and handed on -/
structure FnPin (P : Program) (w : World) (K : PySem.W.Frag) (mg : Str → Option Value) (base : Heap) (k : Nat) (f : Addr) (fd : FuncData) (ps : List Str) (sp : Addr × Obj → Sp) : Prop where
  len : ∀ p vs H Q E, sp p vs H Q E → vs.length = ps.length
  run : ∀ (A : Around) (outer : List Env) (s : Shared) (H : Hp) (us : List Value) (vs : List V) (Q : VK) (p : Addr × Obj), L2H.RoomH k A → L2H.PinOk outer H s p → Env0 P w K mg base A outer s H →
    BindsTo s fd ⟨us, []⟩ (ps.zip us) → Vals vs us → sp p vs H Q E0 → codeAny (model P w) A (.call (.ref f) ⟨us, []⟩) (CR CX0 outer P w H s Q E0) s
theorem fn_pin {P : Program} {w : World} {K : PySem.W.Frag} {mg : Str → Option Value} {base : Heap} {k : Nat} {f : Addr} {fd : FuncData} {name : Str} {st : Stmt} {N ps : List Str} {sp : Addr × Obj → Sp} (F : Fun K name name st f fd) (S : FnScope N ps (defScope st))
    (len : ∀ p vs H Q E, sp p vs H Q E → vs.length = ps.length)
    (hbody : ∀ (cdv : Value) (A : Around) (outer : List Env) (s : Shared) (H : Hp) (vs : List V) (Q : VK) (p : Addr × Obj), L2H.RoomH k (A.deeper (envOfC name (defScope st) s.heap.objs.size f cdv)) → sp p vs H Q E0 →
      ∃ t, PSs (L2H.cxH CX0 P w K mg base N name (defScope st) f cdv A outer s H E0 p).nox (defBody st) t ∧ t { nx := fun _ H' => Q .non H', rt := Q } (L2.start N vs) H) :
    FnPin P w K mg base (k + 1) f fd ps sp := by
  obtain ⟨oc, odo, kV, doc, pm, an, cdv, ct, osl, rfl, lk, hcd⟩ := F.ex
  refine ⟨len, fun A outer s H us vs Q p hr hpin e0 hb r hsp => ?_⟩
  have hl := len _ _ _ _ _ hsp
  have Kin : K.In s.heap := e0.mod.kin.keeps fun b o e => (e0.bs b o e).1
  have lmt : s.heap.NoLimit := e0.mod.nolimit.keeps fun b o e => (e0.bs b o e).1
  have hkd : ∀ y ∈ ps.zip us, (defScope st).names.lookup y.1 = some .local ∨ ((defScope st).names.lookup y.1 = some .cell ∧ ((cellsFrom (s.heap.objs.size + 1) (defScope st).names []).lookup y.1).isSome = true) := by
    rintro ⟨n, v⟩ hy
    exact (S.par n (List.of_mem_zip hy).1).elim (fun q => .inl q) (fun q => .inr ⟨q, PySem.W.cellsFrom_some _ _ _ (.inl q)⟩)
  refine codeAny_call_function hr.depth (Kin _ _ lk) rfl S.co S.gen rfl (PySem.W.codeRec_of Kin hcd) (hb _ _ _ _ ?_)
  refine wpAny_newFunctionEnv_cells S.kind hkd fun env he s1 x => ?_
  subst he
  refine ⟨lmt.keeps x.toInCall.keep, codeAny_func ?_⟩
  obtain ⟨t, ht, hq⟩ := hbody cdv A outer s H vs Q p (hr.deeper _) hsp
  have I : Inv (L2H.cxH CX0 P w K mg base N name (defScope st) f cdv A outer s H E0 p) [] (L2.start N vs) H s1 := L2H.inv_startH S hpin e0 hl r x
  refine wpAny_mono (ht.nox.run [] s1 (L2.start N vs) H _ I hq) (fun fl s' hs => ?_) fun e s' hs => hs
  cases fl with
  | ret u =>
    obtain ⟨v, σ', H', Jn, rv, q⟩ := hs
    exact ⟨v, H', Jn.os, Jn.bare, Jn.base, Jn.hok, rv, q⟩
  | next =>
    obtain ⟨σ', H', J, q⟩ := hs
    exact ⟨.non, H', J.os, J.bare, J.base, J.hok, rfl, q⟩
  | brk =>
    obtain ⟨_, _, _, q⟩ := hs
    exact False.elim q
  | cont =>
    obtain ⟨_, _, _, q⟩ := hs
    exact False.elim q
theorem e_callP {X : Cx} {k : Nat} {f : Addr} {fd : FuncData} {ps : List Str} {sp : Addr × Obj → Sp} {p : Addr × Obj} {x : Str} {e : Expr} {es : List Expr} {t : TA} {q pos : Pos} (F : FnPin X.prog X.w X.K X.mg X.base k f fd ps sp) (hr : L2H.RoomH k X.A) (hp : p ∈ X.pn) (hg : Gl X x) (hm : X.mg x = some (.ref f))
    (hk : PySem.W.keepIn X.K (.ref f) = true) (hb : Binds X.K fd ps []) (ha : PA X (e :: es) t) (hdb : (x == ("__debug__" : Str)) = false := by decide)
    (he : starEach (e :: es) X.env = (false, eval e X.env) :: starEach es X.env := by rfl) (hpl : (backTo pos (starEach es X.env)).any (·.1) = false := by rfl) : PE X (.Call (.Name x q) (e :: es) [] pos) (tCall (sp p) [] E0 t) := by
  constructor
  intro pins s σ H Q I h
  refine wpAny_Call_Name_kw (ld_glob I hg hm (PySem.W.callWith_K (h₀ := X.base) I.ok.mod.kin hk (thn (ha.run pos pins s σ H _ I h) ?_) he hpl) hdb)
  rintro us s1 ⟨vs, H1, I1, r, q⟩
  refine ⟨I1.kIn, ?_⟩
  rw [List.append_nil] at q
  have hl : us.length = ps.length := by rw [← r.length]; exact F.len _ _ _ _ _ q
  have b := hb s1 us I1.kIn (by rw [List.append_nil]; exact hl)
  rw [List.append_nil] at b
  have P1 := I1.pin p (List.mem_append_left _ hp)
  have hpin : L2H.PinOk X.stack H1 s1 p := ⟨P1.1, P1.2.1, fun hm => (List.mem_cons.mp (I1.stkSub p.1 hm)).elim P1.2.2.1 P1.2.2.2.1, P1.2.2.2.2⟩
  refine wpAny_call (codeAny_mono (F.run X.A X.stack s1 H1 us vs Q p hr hpin I1.env0 b r q) fun r s' hq => ?_)
  cases r with
  | error er => exact False.elim hq
  | ok fl =>
    cases fl with
    | ret u => exact I1.after hq
    | next => exact False.elim hq
    | brk => exact False.elim hq
    | cont => exact False.elim hq
end Rs
set_option maxRecDepth 100000
set_option maxHeartbeats 2000000
namespace K9
open PySem PySem.Spec PyProof.Rows L2
def top (i : Nat) : Stmt := PySem.Challenge.pw_roundswap_k09_texts_of_words.main.body.getD i (.Pass ⟨0, 0, 0, 0⟩)
abbrev sSignsOf : Stmt := top 5
abbrev sOpp : Stmt := top 6
abbrev sRWord : Stmt := top 10
abbrev sRPhrase : Stmt := top 11
abbrev sRFactor : Stmt := top 12
abbrev sRAtom : Stmt := top 13
abbrev sRExp : Stmt := top 16
abbrev sBegins : Stmt := top 17
abbrev sMark : Stmt := top 18
abbrev sSpaces : Stmt := top 19
abbrev sNoDigit : Stmt := top 21
abbrev sPower : Stmt := top 22
abbrev sCut : Stmt := top 23
abbrev sFWord : Stmt := top 24
abbrev sRuns : Stmt := top 25
abbrev sFRun : Stmt := top 26
abbrev sBegin : Stmt := top 28
abbrev sDraw : Stmt := top 29
abbrev sAny : Stmt := top 30
abbrev sSame : Stmt := top 31
abbrev sLetters : Stmt := top 32
abbrev sSigns : Stmt := top 33
abbrev sSome : Stmt := top 34
abbrev sText : Stmt := top 35
abbrev sLaw : Stmt := top 36
theorem scSignsOf : FnScope ["letters", "letter", "sign"] ["letters"] (defScope sSignsOf) := ⟨rfl, rfl, rfl, by decide +kernel, rfl, by decide +kernel, by decide +kernel⟩
theorem scOpp : FnScope ["word"] ["word"] (defScope sOpp) := ⟨rfl, rfl, rfl, by decide +kernel, rfl, by decide +kernel, by decide +kernel⟩
theorem scBegin : FnScope ["_law_script", "_law_cell", "_law_marks", "_law_seed"] ["_law_script"] (defScope sBegin) := ⟨rfl, rfl, rfl, by decide +kernel, rfl, by decide +kernel, by decide +kernel⟩
theorem scDraw : FnScope ["_law_box", "_law_many", "_law_cell", "_law_digit", "_law_seed"] ["_law_box", "_law_many"] (defScope sDraw) := ⟨rfl, rfl, rfl, by decide +kernel, rfl, by decide +kernel, by decide +kernel⟩
theorem scAny : FnScope ["_law_box", "_law_some"] ["_law_box", "_law_some"] (defScope sAny) := ⟨rfl, rfl, rfl, by decide +kernel, rfl, by decide +kernel, by decide +kernel⟩
theorem scSame : FnScope ["_law_found", "_law_due", "_law_k"] ["_law_found", "_law_due"] (defScope sSame) := ⟨rfl, rfl, rfl, by decide +kernel, rfl, by decide +kernel, by decide +kernel⟩
theorem scLetters : FnScope ["_law_box", "_law_many", "_law_found", "_law_k", "_law_left", "_law_letter"] ["_law_box", "_law_many"] (defScope sLetters) := ⟨rfl, rfl, rfl, by decide +kernel, rfl, by decide +kernel, by decide +kernel⟩
theorem scSigns : FnScope ["_law_letters_here", "_law_letter"] ["_law_letters_here"] (defScope sSigns) := ⟨rfl, rfl, rfl, by decide +kernel, rfl, by decide +kernel, by decide +kernel⟩
theorem scSome : FnScope ["_law_box", "_law_letters_here", "_law_most", "_law_signs_here", "_law_k"] ["_law_box", "_law_letters_here", "_law_most"] (defScope sSome) := ⟨rfl, rfl, rfl, by decide +kernel, rfl, by decide +kernel, by decide +kernel⟩
theorem scRWord : FnScope ["text", "letters", "word", "at"] ["text", "letters"] (defScope sRWord) := ⟨rfl, rfl, rfl, by decide +kernel, rfl, by decide +kernel, by decide +kernel⟩
theorem scRPhrase : FnScope ["text", "signs", "at", "depth", "word", "factor"] ["text", "signs", "at", "depth"] (defScope sRPhrase) := ⟨rfl, rfl, rfl, by decide +kernel, rfl, by decide +kernel, by decide +kernel⟩
theorem scRFactor : FnScope ["text", "signs", "at", "depth", "word", "exponent"] ["text", "signs", "at", "depth"] (defScope sRFactor) := ⟨rfl, rfl, rfl, by decide +kernel, rfl, by decide +kernel, by decide +kernel⟩
theorem scRAtom : FnScope ["text", "signs", "at", "depth", "mark"] ["text", "signs", "at", "depth"] (defScope sRAtom) := ⟨rfl, rfl, rfl, by decide +kernel, rfl, by decide +kernel, by decide +kernel⟩
theorem scRExp : FnScope ["text", "at", "minus", "begin", "first", "end", "number"] ["text", "at"] (defScope sRExp) := ⟨rfl, rfl, rfl, by decide +kernel, rfl, by decide +kernel, by decide +kernel⟩
theorem scBegins : FnScope ["text", "signs", "at", "depth", "mark"] ["text", "signs", "at", "depth"] (defScope sBegins) := ⟨rfl, rfl, rfl, by decide +kernel, rfl, by decide +kernel, by decide +kernel⟩
theorem scMark : FnScope ["text", "at"] ["text", "at"] (defScope sMark) := ⟨rfl, rfl, rfl, by decide +kernel, rfl, by decide +kernel, by decide +kernel⟩
theorem scSpaces : FnScope ["text", "at"] ["text", "at"] (defScope sSpaces) := ⟨rfl, rfl, rfl, by decide +kernel, rfl, by decide +kernel, by decide +kernel⟩
theorem scNoDigit : FnScope ["text", "at"] ["text", "at"] (defScope sNoDigit) := ⟨rfl, rfl, rfl, by decide +kernel, rfl, by decide +kernel, by decide +kernel⟩
theorem scPower : FnScope ["word", "exponent"] ["word", "exponent"] (defScope sPower) := ⟨rfl, rfl, rfl, by decide +kernel, rfl, by decide +kernel, by decide +kernel⟩
theorem scCut : FnScope ["word"] ["word"] (defScope sCut) := ⟨rfl, rfl, rfl, by decide +kernel, rfl, by decide +kernel, by decide +kernel⟩
theorem scFWord : FnScope ["word", "sign", "length"] ["word"] (defScope sFWord) := ⟨rfl, rfl, rfl, by decide +kernel, rfl, by decide +kernel, by decide +kernel⟩
theorem scRuns : FnScope ["word", "runs", "begin", "at"] ["word"] (defScope sRuns) := ⟨rfl, rfl, rfl, by decide +kernel, rfl, by decide +kernel, by decide +kernel⟩
theorem scFRun : FnScope ["sign", "length"] ["sign", "length"] (defScope sFRun) := ⟨rfl, rfl, rfl, by decide +kernel, rfl, by decide +kernel, by decide +kernel⟩
theorem scText : FnScope ["_law_one", "_law_parts", "_law_at", "_law_size", "_law_letter", "_law_text_here"] ["_law_one"] (defScope sText) := ⟨rfl, rfl, rfl, by decide +kernel, rfl, by decide +kernel, by decide +kernel⟩
theorem scLaw : FnScope ["_law_script", "_law_box", "_law_turn", "_law_letters_here", "_law_first", "_law_one", "_law_sign"] ["_law_script"] (defScope sLaw) := ⟨rfl, rfl, rfl, by decide +kernel, rfl, by decide +kernel, by decide +kernel⟩
/-! the built-in names that the top leaves as they are -/
structure Bn (mg : Str → Option Value) : Prop where
  len : mg "len" = none
  int : mg "int" = none
  isinst : mg "isinstance" = none
  list : mg "list" = none
  tuple : mg "tuple" = none
  all : mg "all" = none
  range : mg "range" = none
  bool : mg "bool" = none
  str : mg "str" = none
  enum : mg "enumerate" = none
/-! the box of draws: at m the marks -/
def Bx (H : Hp) (b m : Addr) : Prop := ∃ (ms : List Int) (i r s : Int), H b = some (.lst [.ref m, .int i, .int r, .int s]) ∧ H m = some (.lst (ms.map V.int)) ∧ 0 ≤ i ∧ 0 ≤ r ∧ 0 ≤ s ∧ s < 2147483647
def BxTo (H H' : Hp) (b m : Addr) : Prop := Bx H' b m ∧ ∀ x, x ≠ b → H' x = H x
theorem Bx.put {H : Hp} {b m : Addr} {ms : List Int} {i r s i' r' s' : Int} (h : H b = some (.lst [.ref m, .int i, .int r, .int s])) (hm : H m = some (.lst (ms.map V.int))) (h1 : 0 ≤ i') (h2 : 0 ≤ r') (h3 : 0 ≤ s') (h4 : s' < 2147483647) :
    BxTo H (upd H b (.lst [.ref m, .int i', .int r', .int s'])) b m := by
  have nm : m ≠ b := fun e => by
    subst e
    rw [h] at hm
    cases ms with
    | nil => cases hm
    | cons x r => cases hm
  exact ⟨⟨ms, i', r', s', upd_same, by rw [upd_ne nm]; exact hm, h1, h2, h3, h4⟩, fun x hx => upd_ne hx⟩
theorem BxTo.trans {H H1 H2 : Hp} {b m : Addr} (x : BxTo H H1 b m) (y : BxTo H1 H2 b m) : BxTo H H2 b m := ⟨y.1, fun z hz => (y.2 z hz).trans (x.2 z hz)⟩
theorem BxTo.refl {H : Hp} {b m : Addr} (x : Bx H b m) : BxTo H H b m := ⟨x, fun _ _ => rfl⟩
section
variable {P : Program} {w : World} {K : PySem.W.Frag} {mg : Str → Option Value} {base : Heap}
def spDraw : Sp := fun vs H Q _ => ∃ (b m : Addr) (many : Int), vs = [.ref b, .int many] ∧ Bx H b m ∧ 0 < many ∧ many < 1000000 ∧ ∀ d H', 0 ≤ d → d < many → BxTo H H' b m → Q (.int d) H'
theorem ok_draw {f : Addr} {fd : FuncData} {k : Nat} (F : Fun K "_law_draw" "_law_draw" sDraw f fd) (B : Bn mg) : FnOk P w K mg base CX0 (k + 1) f fd ["_law_box", "_law_many"] spDraw := by
  refine F.ok scDraw (fun vs H Q E h => ?_) (fun cdv A outer s H vs Q E hr h => ?_)
  · obtain ⟨b, m, n, rfl, _⟩ := h
    rfl
  · obtain ⟨b, m, n, rfl, hB, h1, h2, q⟩ := h
    obtain ⟨t2, P2, R2⟩ : ∃ t2, PSs (cxOf CX0 P w K mg base ["_law_box", "_law_many", "_law_cell", "_law_digit", "_law_seed"] "_law_draw" (defScope sDraw) f cdv A outer s H E).nox ((defBody sDraw).drop 1) t2 ∧
        ∀ (y : Option V) (H' : Hp), BxTo H H' b m → t2 { nx := fun _ H' => Q .non H', rt := Q } [some (.ref b), some (.int n), y, none, none] H' := by
      refine ⟨_, pss_cons (ps_if (pt_cmpR op_gt (pe_ix ix_list (pv 0) pe_int (fun _ _ => rfl)) pe_int (nomark _))
          (pss_cons (ps_set (i := 3) scDraw.nd rfl (.inl rfl) (pe_op op_mod (pe_callTy call_int1 (by rfl) B.int boot_int (pa_cons (pe_ix ix_list (pv 0) pe_int (fun _ _ => rfl)) pa_nil)) (pv 1)))
          (pss_cons (ps_asg (pe_op op_fdivW (pe_ix ix_list (pv 0) pe_int (fun _ _ => rfl)) (pv 1)) (pg_sub (pv 0) pe_int set_list))
          (pss_one (ps_ret (pv 3))))) pss_nil)
        (pss_cons (ps_set (i := 4) scDraw.nd rfl (.inl rfl) (pe_ix ix_list (pv 0) pe_int (fun _ _ => rfl)))
        (pss_cons (ps_asg (pe_op op_mod (pe_op op_add (pe_op op_add (pe_op op_mul (pv 4) (pv 4)) (pe_op op_mul (pv 4) pe_int)) pe_int) pe_int) (pg_sub (pv 0) pe_int set_list))
        (pss_one (ps_ret (pe_op op_mod (pe_op op_add (pe_op op_fdiv (pe_ix ix_list (pv 0) pe_int (fun _ _ => rfl)) pe_int)
          (pe_op op_mul (pe_op op_mod (pe_callTy call_int1 (by rfl) B.int boot_int (pa_cons (pe_ix ix_list (pv 0) pe_int (fun _ _ => rfl)) pa_nil)) pe_int) pe_int)) (pv 1)))))), fun y H' hT => ?_⟩
      obtain ⟨⟨ms, i, r, s, hb, hm, k1, k2, k3, k4⟩, kp⟩ := id hT
      refine ⟨.ref b, rfl, b, _, 2, _, rfl, rfl, SqL.of hb, rfl, _, _, rfl, rfl, _, rfl, ite2 (fun e => ?_) (fun e => ?_)⟩
      · have hr0 : 0 < r := of_decide_eq_true e
        refine ⟨.ref b, rfl, b, _, 2, _, rfl, rfl, SqL.of hb, rfl, .inl ⟨_, rfl, _, rfl, _, _, rfl, rfl, h1, ?_⟩⟩
        refine ⟨.ref b, rfl, b, _, 2, _, rfl, rfl, SqL.of hb, rfl, _, rfl, _, _, rfl, rfl, wide_div (b := 20) h1 (by omega) (by decide) (by decide), ?_⟩
        refine ⟨.ref b, rfl, b, _, 2, 2, rfl, rfl, hb, rfl, _, rfl, ?_⟩
        refine q _ _ (Int.emod_nonneg _ (by omega)) (Int.emod_lt_of_pos _ h1) (hT.trans ?_)
        exact Bx.put hb hm k1 (Int.ediv_nonneg k2 (by omega)) k3 k4
      · refine ⟨.ref b, rfl, b, _, 3, _, rfl, rfl, SqL.of hb, rfl, ?_⟩
        refine ⟨_, rfl, _, rfl, _, _, rfl, rfl, .inl ⟨by omega, by omega⟩, _, rfl, _, _, rfl, rfl, .inl ⟨by omega, by omega⟩, _, _, rfl, rfl, _, _, rfl, rfl, _, _, rfl, rfl, (by show (0 : Int) < _; decide), ?_⟩
        refine ⟨.ref b, rfl, b, _, 3, 3, rfl, rfl, hb, rfl, ?_⟩
        have g1 : 0 ≤ (s * s + s * 61001 + 911) % 2147483647 := Int.emod_nonneg _ (by decide)
        have g2 : (s * s + s * 61001 + 911) % 2147483647 < 2147483647 := Int.emod_lt_of_pos _ (by decide)
        have bx := Bx.put (i' := i) (r' := r) (s' := (s * s + s * 61001 + 911) % 2147483647) hb hm k1 k2 g1 g2
        refine ⟨.ref b, rfl, b, _, 3, _, rfl, rfl, SqL.of upd_same, rfl, _, _, rfl, rfl, ⟨by decide, by decide⟩, ?_⟩
        refine ⟨.ref b, rfl, b, _, 3, _, rfl, rfl, SqL.of upd_same, rfl, .inl ⟨_, rfl, _, _, rfl, rfl, (by show (0 : Int) < _; decide), _, _, rfl, rfl, .inl ⟨by omega, by omega⟩, _, _, rfl, rfl, _, rfl, _, _, rfl, rfl, h1, ?_⟩⟩
        exact q _ _ (Int.emod_nonneg _ (by omega)) (Int.emod_lt_of_pos _ h1) (hT.trans bx)
    obtain ⟨ms, i, r, s, hb, hm, k1, k2, k3, k4⟩ := id hB
    refine ⟨_, pss_cons (ps_if (PW.pt (pw_and (pt_cmpR op_eq (pe_ix ix_list (pv 0) pe_int (fun _ _ => rfl)) pe_int (nomark _))
          (pw_and1 (pt_cmpR op_lt (pe_ix ix_list (pv 0) pe_int (fun _ _ => rfl)) (pe_callB call_len_seq (by rfl) B.len PySem.boot_len (pa_cons (pe_ix ix_list (pv 0) pe_int (fun _ _ => rfl)) pa_nil)) (nomark _)))))
        (pss_cons (ps_set (i := 2) scDraw.nd rfl (.inl rfl) (pe_ix ix_list (pe_ix ix_list (pv 0) pe_int (fun _ _ => rfl)) (pe_ix ix_list (pv 0) pe_int (fun _ _ => rfl)) (fun _ _ => rfl)))
        (pss_cons (ps_asg (pe_op op_add (pe_ix ix_list (pv 0) pe_int (fun _ _ => rfl)) pe_int) (pg_sub (pv 0) pe_int set_list))
        (pss_one (ps_if (pt_cmpR op_ge (pv 2) (pe_op op_pow pe_int pe_int) (nomark _))
          (pss_one (ps_asg (pv 2) (pg_sub (pv 0) pe_int set_list)))
          (pss_one (ps_asg (pe_op op_mod (pe_op op_add (pe_op op_add (pe_op op_mul (pe_ix ix_list (pv 0) pe_int (fun _ _ => rfl)) pe_int)
            (pe_op op_mul (pe_op op_mod (pe_callTy call_int1 (by rfl) B.int boot_int (pa_cons (pv 2) pa_nil)) pe_int) pe_int)) pe_int) pe_int) (pg_sub (pv 0) pe_int set_list)))))))
        pss_nil) P2, ?_⟩
    refine ⟨.ref b, rfl, b, _, 2, _, rfl, rfl, SqL.of hb, rfl, rfl, _, rfl, ite2 (fun e => ?_) (fun e => ?_)⟩
    · refine ⟨.ref b, rfl, b, _, 1, _, rfl, rfl, SqL.of hb, rfl, .ref b, rfl, b, _, 0, _, rfl, rfl, SqL.of hb, rfl, m, _, rfl, .inl (SqL.of hm), _, _, rfl, rfl, _, rfl, ite2 (fun e2 => ?_) (fun e2 => ?_)⟩
      · have hl : i < (ms.map V.int).length := of_decide_eq_true e2
        have hl2 : i.toNat < ms.length := by
          rw [List.length_map] at hl
          omega
        have ei : ((i.toNat : Nat) : Int) = i := by omega
        have hat : atI (ms.map V.int) i = some (.int ms[i.toNat]) := by
          have z : (ms.map V.int)[i.toNat]? = some (.int ms[i.toNat]) := by
            rw [List.getElem?_map, List.getElem?_eq_getElem hl2]
            rfl
          have z2 := atI_nat z
          rw [ei] at z2
          exact z2
        refine ⟨.ref b, rfl, b, _, 0, _, rfl, rfl, SqL.of hb, rfl, .ref b, rfl, b, _, 1, _, rfl, rfl, SqL.of hb, rfl, m, _, i, _, rfl, rfl, SqL.of hm, hat, ?_⟩
        generalize ms[i.toNat] = cell
        refine ⟨.ref b, rfl, b, _, 1, _, rfl, rfl, SqL.of hb, rfl, _, _, rfl, rfl, .ref b, rfl, b, _, 1, 1, rfl, rfl, hb, rfl, ?_⟩
        have bx1 := Bx.put (i' := i + 1) (r' := r) (s' := s) hb hm (by omega) k2 k3 k4
        have hb1 : upd H b (.lst [.ref m, .int (i + 1), .int r, .int s]) b = _ := upd_same
        have hm1 : upd H b (.lst [.ref m, .int (i + 1), .int r, .int s]) m = some (.lst (ms.map V.int)) := by
          obtain ⟨_, z⟩ := Bx.put (i' := i + 1) (r' := r) (s' := s) hb hm (by omega) k2 k3 k4
          rw [z m (fun e => by subst e; rw [hb] at hm; cases ms <;> cases hm)]
          exact hm
        refine ⟨_, rfl, _, _, rfl, rfl, ⟨by decide, by decide, by decide⟩, _, _, rfl, rfl, _, rfl, ite2 (fun e3 => ?_) (fun e3 => ?_)⟩
        · have hc : (10 : Int) ^ (18 : Int).toNat ≤ cell := of_decide_eq_true e3
          have hc0 : (0 : Int) ≤ (10 : Int) ^ (18 : Int).toNat := by decide
          refine ⟨_, rfl, .ref b, rfl, b, _, 2, 2, rfl, rfl, hb1, rfl, ?_⟩
          exact R2 _ _ (bx1.trans (Bx.put hb1 hm1 (by omega) (by omega) k3 k4))
        · refine ⟨.ref b, rfl, b, _, 3, _, rfl, rfl, SqL.of hb1, rfl, _, _, rfl, rfl, .inl ⟨by omega, by omega⟩, _, rfl, .inl ⟨_, rfl, _, _, rfl, rfl, (by show (0 : Int) < _; decide), _, _, rfl, rfl, .inl ⟨by omega, by omega⟩, _, _, rfl, rfl, _, _, rfl, rfl, _, _, rfl, rfl, (by show (0 : Int) < _; decide), ?_⟩⟩
          refine ⟨.ref b, rfl, b, _, 3, 3, rfl, rfl, hb1, rfl, ?_⟩
          exact R2 _ _ (bx1.trans (Bx.put hb1 hm1 (by omega) k2 (by omega) (by omega)))
      · exact R2 _ _ (.refl hB)
    · exact R2 _ _ (.refl hB)
end
/-! texts as lists of codes -/
abbrev tx (l : List Nat) : V := .str (SX.S l)
theorem tx_len (l : List Nat) : (SX.S l).length = l.length := SX.S_len l
theorem joinNil : ∀ ys : List (List Nat), TL.joinL [] ys = ys.flatten
  | [] => rfl
  | [p] => by simp [TL.joinL]
  | p :: q :: r => by
    show p ++ ([] ++ TL.joinL [] (q :: r)) = _
    rw [joinNil (q :: r)]
    rfl
theorem walk_txt (l : List Nat) : Walk (Its (SX.S l)) (l.map fun c => tx [c]).length (fun _ => True) (YAt (l.map fun c => tx [c])) := by
  have e : (SX.S l).cps.size = (l.map fun c => tx [c]).length := by simp
  have w := walk_str (z := SX.S l)
  rw [e] at w
  refine w.mono (fun _ h => h) (fun i H x H' hi _ y => ?_)
  obtain ⟨y1, c, y2, y3⟩ := y
  refine ⟨y1, ?_⟩
  rw [List.getElem?_map]
  have y4 : l[i]? = some c := by simpa using y2
  rw [y4, y3]
  rfl
/-! heaps -/
theorem same_new {H : Hp} {p : Addr} {o : HO} (h : H p = none) : Same H (upd H p o) := fun b x e => by
  rw [upd_ne (ne_of_none e h)]
  exact e
theorem sqT_same {K : PySem.W.Frag} {H H' : Hp} {a : Addr} {xs : List V} (e : Same H H') (h : SqT K H a xs) : SqT K H' a xs := by
  rcases h with (h | ⟨o, h⟩) | h
  · exact .inl (.inl (e _ _ h))
  · exact .inl (.inr ⟨o, e _ _ h⟩)
  · exact .inr h
theorem take_more {α : Type} {l : List α} {i : Nat} {x : α} (h : l[i]? = some x) : l.take (i + 1) = l.take i ++ [x] := by
  rw [List.take_add_one, h]
  rfl
/-- a comprehension over xs whose test and element change nothing that stands -/
theorem lc_pure {J : It} {G : Hp → Prop} {xs : List V} (w : Walk J xs.length G (YAt xs)) {tt : TT} {te : TE} {σ : L2.St} {i : Nat} {H1 : Hp} {D : Addr} {Qd : Hp → Prop} (f : V → V) (keep : V → Bool) (hlen : xs.length < sizeLine) (hD : H1 D = none)
    (hG : ∀ H2, Same H1 H2 → G H2)
    (ht : ∀ x H2 Q, x ∈ xs → Same H1 H2 → Q (keep x) H2 → tt ((σ.set i none).set i (some x)) H2 Q)
    (he : ∀ x H2 Q, x ∈ xs → keep x = true → Same H1 H2 → (∀ H3, Same H2 H3 → Q (f x) H3) → te ((σ.set i none).set i (some x)) H2 Q)
    (hd : ∀ H2, Same H1 H2 → H2 D = some (.lst ((xs.filter keep).map f)) → Qd H2) :
    ∃ W : Nat → Nat → Hp → Prop, (∃ m, W 0 m (upd H1 D (.lst []))) ∧ ∀ j m H, W j m H →
      (J.stop j H ∧ Qd H) ∨ (J.go j H ∧ ∃ Nx : Hp → Prop, (∀ H', Nx H' → ∃ m', m' < m ∧ W (j + 1) m' H') ∧ ∀ x H', J.yld j H x H' → gName i x (wipe σ [i]) H' fun σ2 H2 => wipe σ2 [i] = wipe σ [i] ∧ tt σ2 H2 fun b H3 =>
        if b = true then te σ2 H3 fun v H4 => ∃ ac, H4 D = some (.lst ac) ∧ ac.length < sizeLine ∧ Nx (upd H4 D (.lst (ac ++ [v]))) else Nx H3) := by
  refine lc_it w (fun j H2 => Same H1 H2 ∧ H2 D = some (.lst (((xs.take j).filter keep).map f))) ⟨same_new hD, upd_same⟩ (fun j H2 _ h => hG H2 h.1) ?_ (fun H2 h => hd H2 h.1 (by have z := h.2; rw [List.take_length] at z; exact z))
  rintro j x H2 H2' hj ⟨sm, hd2⟩ ⟨rfl, hx⟩
  have hm : x ∈ xs := List.mem_of_getElem? hx
  refine ⟨?_, ?_⟩
  · show (((σ.set i none).set i (some x)).set i none) = σ.set i none
    rw [List.set_set, List.set_set]
  · refine ht x _ _ hm sm ?_
    have tk := take_more hx
    cases hk : keep x with
    | true =>
      refine iteT (he x _ _ hm hk sm fun H3 s3 => ⟨_, s3 _ _ hd2, ?_, ?_, ?_⟩)
      · rw [List.length_map]
        exact Nat.lt_of_le_of_lt (Nat.le_trans (List.length_filter_le _ _) (by rw [List.length_take]; omega)) hlen
      · intro b o e
        rw [upd_ne (ne_of_none e hD)]
        exact s3 _ _ (sm _ _ e)
      · rw [upd_same, tk, List.filter_append, List.map_append]
        simp [hk]
    | false =>
      refine iteF ⟨sm, ?_⟩
      rw [hd2, tk, List.filter_append]
      simp [hk]
section
variable {P : Program} {w : World} {K : PySem.W.Frag} {mg : Str → Option Value} {base : Heap}
/-! _law_any -/
def spAny : Sp := fun vs H Q _ => ∃ (b m p : Addr) (xs : List V), vs = [.ref b, .ref p] ∧ Bx H b m ∧ H p = some (.lst xs) ∧ p ≠ b ∧ xs ≠ [] ∧ xs.length < 1000000 ∧ ∀ x H', x ∈ xs → BxTo H H' b m → Q x H'
theorem ok_any {f fD : Addr} {fd fdD : FuncData} {k : Nat} (F : Fun K "_law_any" "_law_any" sAny f fd) (B : Bn mg) (FD : Fun K "_law_draw" "_law_draw" sDraw fD fdD) (bD : Binds K fdD ["_law_box", "_law_many"] []) (gD : mg "_law_draw" = some (.ref fD)) :
    FnOk P w K mg base CX0 (k + 2) f fd ["_law_box", "_law_some"] spAny := by
  have GD : FnOk P w K mg base CX0 (k + 1) fD fdD ["_law_box", "_law_many"] spDraw := ok_draw FD B
  refine F.ok scAny (fun vs H Q E h => ?_) (fun cdv A outer s H vs Q E hr h => ?_)
  · obtain ⟨b, m, p, xs, rfl, _⟩ := h
    rfl
  · obtain ⟨b, m, p, xs, rfl, hB, hp, hpb, hne, hl, q⟩ := h
    refine ⟨_, pss_one (ps_ret (pe_ix ix_list (pv 1) (pe_call GD hr (by rfl) gD FD.kp bD .nil pass0 (pa_cons (pv 0) (pa_cons (pe_callB call_len_seq (by rfl) B.len PySem.boot_len (pa_cons (pv 1) pa_nil)) pa_nil))) (fun _ _ => rfl))), ?_⟩
    have h0 : 0 < xs.length := List.length_pos_iff.mpr hne
    refine ⟨.ref p, rfl, .ref b, rfl, .ref p, rfl, p, xs, rfl, .inl (SqL.of hp), b, m, (xs.length : Int), rfl, hB, by omega, by omega, fun d H' d0 d1 hT => ?_⟩
    have hd : d.toNat < xs.length := by omega
    have hat : atI xs d = some xs[d.toNat] := by
      have z := atI_nat (List.getElem?_eq_getElem hd)
      rw [show ((d.toNat : Nat) : Int) = d by omega] at z
      exact z
    exact ⟨p, xs, d, _, rfl, rfl, SqL.of ((hT.2 p hpb).trans hp), hat, q _ _ (List.getElem_mem hd) hT⟩
/-! _law_begin -/
def spBegin (K : PySem.W.Frag) : Sp := fun vs H Q _ => ∃ (a : Addr) (ns : List Int), vs = [.ref a] ∧ SqL K H a (ns.map V.int) ∧ ns.length ≤ 63 ∧ ∀ H' b m, Same H H' → H b = none → Bx H' b m → Q (.ref b) H'
theorem ok_begin {f : Addr} {fd : FuncData} {k : Nat} (F : Fun K "_law_begin" "_law_begin" sBegin f fd) (B : Bn mg) : FnOk P w K mg base CX0 (k + 1) f fd ["_law_script"] (spBegin K) := by
  refine F.ok scBegin (fun vs H Q E h => ?_) (fun cdv A outer s H vs Q E hr h => ?_)
  · obtain ⟨a, ns, rfl, _⟩ := h
    rfl
  · obtain ⟨a, ns, rfl, hS, hl, q⟩ := h
    refine ⟨_, pss_cons (ps_setLc (i := 2) (own := [("_law_cell", 1)]) (g := gName 1) (tt := tYes) rfl scBegin.nd rfl rfl (sw_true rfl rfl rfl (by decide +kernel)) (pi_list (pe_slice sl_list (pv 0) po_none (po_some pe_int)))
        (blkOk_by (N := ["_law_script", "_law_cell", "_law_marks", "_law_seed"]) (sc := defScope sBegin) (by decide +kernel)) (fun _ _ _ _ _ => pg_name (i := 1) scBegin.nd rfl (Or.inl rfl)) (fun _ _ _ _ _ => pts_nil)
        (fun _ _ _ _ _ => pe_callTy call_int1 (by rfl) B.int boot_int (pa_cons (pv 1) pa_nil)))
      (pss_cons (ps_set (i := 3) scBegin.nd rfl (.inl rfl) (pe_op op_add pe_int (pe_op op_mul pe_int (pe_callB call_len_seq (by rfl) B.len PySem.boot_len (pa_cons (pv 2) pa_nil)))))
      (pss_cons (ps_for PassesOwn.never rfl (pi_list (pv 2)) (pg_name (i := 1) scBegin.nd rfl (Or.inl rfl))
        (pss_one (ps_set (i := 3) scBegin.nd rfl (.inl rfl) (pe_op op_mod (pe_op op_add (pe_op op_add (pe_op op_mul (pv 3) pe_int) (pe_op op_mod (pe_callTy call_int1 (by rfl) B.int boot_int (pa_cons (pv 1) pa_nil)) pe_int)) pe_int) pe_int))))
      (pss_one (ps_ret (pe_lst (pa_cons (pv 2) (pa_cons pe_int (pa_cons pe_int (pa_cons (pv 3) pa_nil))))))))), ?_⟩
    obtain ⟨ms, hms, hcut⟩ : ∃ ms : List Int, ms.length ≤ 63 ∧ cutV (ns.map V.int) none (some 63) = ms.map V.int := by
      refine ⟨ns.take (HT.sIx (ns.map V.int).length (ns.map V.int).length (some 63) - HT.sIx (ns.map V.int).length 0 none), ?_, ?_⟩
      · rw [List.length_take]
        omega
      · unfold cutV
        rw [HT.sIx_none, List.drop_zero, List.map_take]
    refine ⟨.ref a, rfl, 63, rfl, a, _, rfl, hS, fun c nc => ?_⟩
    rw [hcut]
    refine ⟨c, rfl, ⟨_, SqL.of upd_same⟩, fun D nD => ?_⟩
    have s1 : Same H (upd H c (.lst (ms.map V.int))) := same_new nc
    refine lc_pure (walk_list (K := K) (a := c) (xs := ms.map V.int)) (σ := [some (.ref a), none, none, none]) (i := 1) id (fun _ => true) (by rw [List.length_map]; exact small1000 (by omega)) nD (fun H2 e => SqL.of (e _ _ upd_same)) (fun x H2 Q _ _ h => h) ?_ ?_
    · intro x H2 Q hx _ _ h
      obtain ⟨z, _, rfl⟩ := List.mem_map.mp hx
      exact ⟨_, rfl, .inl ⟨z, rfl, h H2 (Same.refl _)⟩⟩
    · intro H2 s2 hD
      have hf : ((ms.map V.int).filter fun _ => true).map id = ms.map V.int := by simp
      rw [hf] at hD
      have sm : Same H H2 := s1.trans s2
      refine ⟨.ref D, rfl, D, _, rfl, .inl (SqL.of hD), _, _, rfl, rfl, .inl ⟨by decide, by decide⟩, _, _, rfl, rfl, ?_⟩
      refine ⟨.ref D, rfl, D, rfl, ⟨_, SqL.of hD⟩, ?_⟩
      refine for_it (walk_list (K := K) (a := D) (xs := ms.map V.int)) (fun i σ H3 => ∃ (y : Option V) (sd : Int), σ = [some (.ref a), y, some (.ref D), some (.int sd)] ∧ H3 = H2 ∧ 0 ≤ sd ∧ sd < 2147483647) ⟨none, _, rfl, rfl, ?_, ?_⟩ (fun i σ H3 _ h => ?_) ?_ ?_
      · simp only [List.length_map]
        omega
      · simp only [List.length_map]
        omega
      · obtain ⟨_, _, _, rfl, _⟩ := h
        exact SqL.of hD
      · rintro i x σ H3 H3' hi ⟨y, sd, rfl, rfl, g1, g2⟩ ⟨rfl, hx⟩
        obtain ⟨z, _, rfl⟩ := List.mem_map.mp (List.mem_of_getElem? hx)
        refine ⟨_, rfl, _, _, rfl, rfl, .inl ⟨by omega, by omega⟩, _, rfl, .inl ⟨z, rfl, _, _, rfl, rfl, (by show (0 : Int) < _; decide), _, _, rfl, rfl, _, _, rfl, rfl, _, _, rfl, rfl, (by show (0 : Int) < _; decide), ?_⟩⟩
        exact ⟨_, _, rfl, rfl, Int.emod_nonneg _ (by decide), Int.emod_lt_of_pos _ (by decide)⟩
      · rintro σ H3 ⟨y, sd, rfl, rfl, g1, g2⟩
        refine ⟨_, rfl, _, rfl, (by show 4 ≤ sizeLine; decide), fun b nb => ?_⟩
        refine q _ b D (sm.trans (same_new nb)) (sm.free nb) ⟨ms, 0, 0, sd, upd_same, ?_, by omega, by omega, g1, g2⟩
        rw [upd_ne (ne_of_none hD nb)]
        exact hD
end
end K9
set_option maxRecDepth 100000
set_option maxHeartbeats 2000000
namespace K9
open PySem PySem.Spec PyProof.Rows L2
/-! ### the mirror -/
def menu : List Nat := [97, 98, 109, 116, 120, 121, 122]
def sw (c : Nat) : Nat := if 65 ≤ c ∧ c ≤ 90 then c + 32 else if 97 ≤ c ∧ c ≤ 122 then c - 32 else c
def opp (w : List Nat) : List Nat := w.reverse.map sw
def sg (L : List Nat) : List Nat := L.flatMap fun c => [c, c - 32]
def stp (f : List Nat) (c : Nat) : List Nat := if f.getLast? = some (sw c) then f.dropLast else f ++ [c]
def sh (w : List Nat) : List Nat := w.foldl stp []
def Asc (w : List Nat) : Prop := ∀ c ∈ w, c < 128
def Lt (L : List Nat) : Prop := L.length ≤ 100 ∧ ∀ c ∈ L, c ∈ menu
theorem menu_asc : ∀ c ∈ menu, c < 128 := by decide
theorem menu_up : ∀ c ∈ menu, up1 c = c - 32 := by decide
theorem sg_len (L : List Nat) : (sg L).length = 2 * L.length := by
  induction L with
  | nil => rfl
  | cons c r ih =>
    show ([c, c - 32] ++ sg r).length = 2 * (r.length + 1)
    rw [List.length_append, ih]
    simp only [List.length_cons, List.length_nil]
    omega
theorem upper1 {c : Nat} (h : c < 128) : Txt.upper (SX.S [c]) = SX.S [up1 c] := by
  have e := upper_ascii (x := SX.S [c]) (fun d hd => by
    have : d = c := by simpa using hd
    omega)
  rw [e]
  simp
theorem lower1 {c : Nat} (h : c < 128) : Txt.lower (SX.S [c]) = SX.S [lo1 c] := by
  have e := lower_ascii (x := SX.S [c]) (fun d hd => by
    have : d = c := by simpa using hd
    omega)
  rw [e]
  simp
theorem upperM {c : Nat} (h : c ∈ menu) : Txt.upper (SX.S [c]) = SX.S [c - 32] := by
  rw [upper1 (menu_asc c h), menu_up c h]
theorem isUpper_ascii : ∀ c, c < 128 → Unicode.isUpper c = decide (65 ≤ c ∧ c ≤ 90) := by decide +kernel
theorem isLower_ascii : ∀ c, c < 128 → Unicode.isLower c = decide (97 ≤ c ∧ c ≤ 122) := by decide +kernel
theorem swapS {w : List Nat} (hA : Asc w) : Txt.swapcase (SX.S w) = SX.S (w.map sw) := by
  unfold Txt.swapcase
  rw [placed_single (SX.S w) _ sw fun i c hc => ?_]
  · simp
  · have hc0 : w[i]? = some c := by simpa using hc
    have hlt := hA c (List.mem_of_getElem? hc0)
    have hc' : (SX.S w).cps[i]? = some c := by simpa using hc
    rw [isUpper_ascii c hlt, isLower_ascii c hlt]
    unfold sw
    by_cases h1 : 65 ≤ c ∧ c ≤ 90
    · rw [decide_eq_true h1, if_pos rfl, if_pos h1]
      unfold Unicode.lowerAt
      rw [hc']
      have hne : (c == 0x3A3) = false := by rw [beq_eq_false_iff_ne]; omega
      simp only [hne, Bool.false_and, Bool.false_eq_true, if_false]
      rw [lowerOf_ascii c hlt]
      unfold lo1
      rw [if_pos h1]
    · rw [decide_eq_false h1, if_neg Bool.false_ne_true, if_neg h1]
      by_cases h2 : 97 ≤ c ∧ c ≤ 122
      · rw [decide_eq_true h2, if_pos rfl, if_pos h2, upperOf_ascii c hlt]
        unfold up1
        rw [if_pos h2]
      · rw [decide_eq_false h2, if_neg Bool.false_ne_true, if_neg h2]
theorem rvS (w : List Nat) : Rs.rv (SX.S w) = SX.S w.reverse := by
  unfold Rs.rv
  simp
theorem oppS {w : List Nat} (hA : Asc w) : Txt.swapcase (Rs.rv (SX.S w)) = SX.S (opp w) := by
  rw [rvS, swapS (fun c hc => hA c (List.mem_reverse.mp hc))]
  rfl
theorem sw_sw (c : Nat) : sw (sw c) = c := by
  unfold sw
  repeat' split
  all_goals omega
theorem sw_lt {c : Nat} (h : c < 128) : sw c < 128 := by
  unfold sw
  repeat' split
  all_goals omega
def Red (f : List Nat) : Prop := ∀ (a b : List Nat) (x y : Nat), f = a ++ x :: y :: b → x ≠ sw y
theorem red_nil : Red [] := fun a b x y e => by cases a <;> cases e
theorem red_stp {f : List Nat} (h : Red f) (c : Nat) : Red (stp f c) := by
  unfold stp
  split
  · intro a b x y e
    rcases List.eq_nil_or_concat f with rfl | ⟨g, z, rfl⟩
    · cases a <;> cases e
    · have e' : (g ++ [z]).dropLast = a ++ x :: y :: b := by simpa using e
      rw [List.dropLast_concat] at e'
      exact h a (b ++ [z]) x y (by rw [e']; simp)
  · rename_i hl
    intro a b x y e
    rcases List.eq_nil_or_concat b with rfl | ⟨b', z, rfl⟩
    · have e3 : f ++ [c] = (a ++ [x]) ++ [y] := by rw [e]; simp
      have e4 := List.append_inj' e3 rfl
      have e5 : c = y := by simpa using e4.2
      intro hxy
      apply hl
      rw [e4.1, List.getLast?_append]
      rw [e5, hxy]
      rfl
    · have e3 : f ++ [c] = (a ++ x :: y :: b') ++ [z] := by rw [e]; simp
      have e4 := List.append_inj' e3 rfl
      exact h a b' x y e4.1
theorem stp_stp {f : List Nat} (h : Red f) (c : Nat) : stp (stp f c) (sw c) = f := by
  unfold stp
  rw [sw_sw]
  by_cases hl : f.getLast? = some (sw c)
  · rw [if_pos hl]
    obtain ⟨g, rfl⟩ := List.getLast?_eq_some_iff.mp hl
    rw [List.dropLast_concat]
    have hn : ¬ (g.getLast? = some c) := by
      intro hg
      obtain ⟨g', rfl⟩ := List.getLast?_eq_some_iff.mp hg
      exact h g' [] c (sw c) (by simp) (sw_sw c).symm
    rw [if_neg hn]
  · rw [if_neg hl, if_pos (by simp)]
    simp
theorem foldl_red {f : List Nat} (h : Red f) : ∀ w : List Nat, Red (w.foldl stp f) := by
  intro w
  induction w generalizing f with
  | nil => exact h
  | cons c r ih => exact ih (red_stp h c)
theorem fold_opp {f : List Nat} (h : Red f) (w : List Nat) : (w ++ opp w).foldl stp f = f := by
  induction w generalizing f with
  | nil => rfl
  | cons c r ih =>
    have e : (c :: r) ++ opp (c :: r) = c :: ((r ++ opp r) ++ [sw c]) := by
      unfold opp
      simp
    rw [e, List.foldl_cons, List.foldl_append, ih (red_stp h c)]
    exact stp_stp h c
theorem sh_opp (w : List Nat) : sh (w ++ opp w) = [] := fold_opp red_nil w
theorem sh_more {w : List Nat} {i : Nat} {c : Nat} (h : w[i]? = some c) : sh (w.take (i + 1)) = stp (sh (w.take i)) c := by
  unfold sh
  rw [take_more h, List.foldl_append]
  rfl
theorem stp_mem {f : List Nat} {c x : Nat} (h : x ∈ stp f c) : x ∈ f ∨ x = c := by
  unfold stp at h
  split at h
  · exact .inl (List.dropLast_subset _ h)
  · rcases List.mem_append.mp h with z | z
    · exact .inl z
    · exact .inr (by simpa using z)
theorem sh_mem {w : List Nat} {x : Nat} (h : x ∈ sh w) : x ∈ w := by
  have key : ∀ (w f : List Nat), x ∈ w.foldl stp f → x ∈ f ∨ x ∈ w := by
    intro w
    induction w with
    | nil => exact fun f h => .inl h
    | cons c r ih =>
      intro f h
      rcases ih _ h with z | z
      · rcases stp_mem z with z | z
        · exact .inl z
        · exact .inr (by rw [z]; exact List.mem_cons_self ..)
      · exact .inr (List.mem_cons_of_mem _ z)
  rcases key w [] h with z | z
  · cases z
  · exact z
theorem stp_len (f : List Nat) (c : Nat) : (stp f c).length ≤ f.length + 1 := by
  unfold stp
  split
  · rw [List.length_dropLast]; omega
  · rw [List.length_append]; simp
theorem sh_len (w : List Nat) : (sh w).length ≤ w.length := by
  have key : ∀ (w f : List Nat), (w.foldl stp f).length ≤ f.length + w.length := by
    intro w
    induction w with
    | nil => exact fun f => Nat.le_refl _
    | cons c r ih =>
      intro f
      have := ih (stp f c)
      have := stp_len f c
      simp only [List.foldl_cons, List.length_cons]
      omega
  have z := key w []
  unfold sh
  simpa using z
theorem mem_in {w : List Nat} {c : Nat} {L : List Nat} : inV (tx [c]) (L.map fun d => tx [d]) = decide (c ∈ L) := by
  unfold inV
  induction L with
  | nil => rfl
  | cons d r ih =>
    rw [List.map_cons, List.any_cons, ih]
    show ((SX.S [d] == SX.S [c]) || _) = _
    rw [SX.S_beq_eq]
    by_cases h : d = c
    · subst h
      simp
    · have h2 : c ≠ d := fun e => h e.symm
      simp [h, h2]
theorem cut_last (l : List Nat) : cutS (SX.S l) none (some (-1)) = SX.S l.dropLast := by
  unfold cutS
  rw [HT.sIx_none, List.drop_zero, Nat.sub_zero]
  have e : HT.sIx (SX.S l).length (SX.S l).length (some (-1)) = l.length - 1 := by
    rw [tx_len]
    show (if (-1 : Int) < 0 then ((-1 : Int) + (l.length : Int)).toNat else min (-1 : Int).toNat l.length) = l.length - 1
    rw [if_pos (by decide)]
    omega
  rw [e, List.dropLast_eq_take]
theorem at_last {α : Type} {l : List α} {x : α} (h : l.getLast? = some x) : atI l (-1) = some x := by
  have hne : l ≠ [] := fun z => by subst z; cases h
  have hl : 0 < l.length := List.length_pos_iff.mpr hne
  unfold atI ixN
  rw [if_neg (by decide), if_pos (by omega)]
  show l[_]? = some x
  rw [List.getLast?_eq_getElem?] at h
  rw [← h]
  congr 1
  omega
theorem asc_le {w : List Nat} (h : w.length ≤ 1000) : (SX.S w).length ≤ sizeLine := by
  rw [tx_len]
  exact Nat.le_of_lt (small1000 h)
theorem asc_le2 {w : List Nat} (h : w.length ≤ 1000) : (SX.S w).length ≤ 5592405 := by
  rw [tx_len]
  omega
theorem asc1 {c : Nat} : (SX.S [c]).length ≤ 5592405 := asc_le2 (w := [c]) (by show 1 ≤ 1000; decide)
section
variable {P : Program} {w : World} {K : PySem.W.Frag} {mg : Str → Option Value} {base : Heap}
/-! opposite -/
def spOpp : Sp := fun vs H Q _ => ∃ l : List Nat, vs = [tx l] ∧ l.length ≤ 1000 ∧ Asc l ∧ Q (tx (opp l)) H
theorem ok_opp {f : Addr} {fd : FuncData} {k : Nat} (F : Fun K "opposite" "opposite" sOpp f fd) : FnOk P w K mg base CX0 (k + 1) f fd ["word"] spOpp := by
  refine F.ok scOpp (fun vs H Q E h => ?_) (fun cdv A outer s H vs Q E hr h => ?_)
  · obtain ⟨l, rfl, _⟩ := h
    rfl
  · obtain ⟨l, rfl, hl, hA, q⟩ := h
    refine ⟨_, pss_one (ps_ret (pe_m0 PySem.F.slot_str_swapcase PySem.F.type_str_swapcase Rs.m_swapcase (Rs.e_revS (pv 0)))), ?_⟩
    refine ⟨_, rfl, _, rfl, asc_le hl, ⟨_, rfl⟩, _, rfl, rfl, ?_, ?_⟩
    · rw [rvS]
      exact asc_le2 (by rw [List.length_reverse]; exact hl)
    · rw [oppS hA]
      exact q
/-! _law_signs -/
def spSigns : Sp := fun vs H Q _ => ∃ L : List Nat, vs = [tx L] ∧ Lt L ∧ ∀ H', Same H H' → Q (tx (sg L)) H'
theorem ok_signs {f : Addr} {fd : FuncData} {k : Nat} (F : Fun K "_law_signs" "_law_signs" sSigns f fd) : FnOk P w K mg base CX0 (k + 1) f fd ["_law_letters_here"] spSigns := by
  refine F.ok scSigns (fun vs H Q E h => ?_) (fun cdv A outer s H vs Q E hr h => ?_)
  · obtain ⟨l, rfl, _⟩ := h
    rfl
  · obtain ⟨L, rfl, hL, q⟩ := h
    refine ⟨_, pss_one (ps_ret (pe_join pe_str (pe_lc (own := [("_law_letter", 1)]) (g := gName 1) (tt := tYes) rfl scSigns.nd (pi_str (pv 0))
      (blkOk_by (N := ["_law_letters_here", "_law_letter"]) (sc := defScope sSigns) (by decide +kernel)) (fun _ _ _ _ _ => pg_name (i := 1) scSigns.nd rfl (Or.inl rfl)) (fun _ _ _ _ _ => pts_nil)
      (fun _ _ _ _ _ => pe_op op_add_str (pv 1) (pe_upper (pv 1)))))), ?_⟩
    refine ⟨⟨_, rfl⟩, _, rfl, _, rfl, fun D nD => ?_⟩
    refine lc_pure (walk_txt L) (σ := [some (tx L), none]) (i := 1) (fun v => match v with | .str z => .str (z ++ Txt.upper z) | v => v) (fun _ => true) (by rw [List.length_map]; exact small1000 (by have := hL.1; omega)) nD (fun _ _ => trivial) (fun x H2 Q _ _ h => h) ?_ ?_
    · intro x H2 Q hx _ _ h
      obtain ⟨c, hc, rfl⟩ := List.mem_map.mp hx
      refine ⟨_, rfl, _, rfl, ⟨_, rfl⟩, _, rfl, rfl, asc1, _, _, rfl, rfl, ?_, h H2 (Same.refl _)⟩
      rw [upperM (hL.2 c hc), tx_len, tx_len]
      show 2 ≤ sizeLine
      decide
    · intro H2 s2 hD
      refine ⟨_, D, (L.map fun c => [c, c - 32]).map SX.S, rfl, rfl, .inl (SqL.of ?_), ?_, ?_⟩
      · rw [hD]
        congr 2
        rw [List.filter_eq_self.mpr (by simp), List.map_map, List.map_map, List.map_map]
        refine List.map_congr_left fun c hc => ?_
        show V.str (SX.S [c] ++ Txt.upper (SX.S [c])) = V.str (SX.S [c, c - 32])
        rw [upperM (hL.2 c hc), SX.S_cat]
        rfl
      · rw [SX.lens, List.map_map]
        have e : ((List.length ∘ fun c => [c, c - 32]) : Nat → Nat) = fun _ => 2 := rfl
        have e3 : ∀ l : List Nat, (l.map fun _ => 2).sum = l.length * 2 := by
          intro l
          induction l with
          | nil => rfl
          | cons a r ih => rw [List.map_cons, List.sum_cons, ih, List.length_cons]; omega
        rw [e, e3]
        have h0 : (Str.ofString "").length = 0 := by decide
        rw [h0]
        have := hL.1
        simp only [Nat.mul_zero, Nat.add_zero]
        omega
      · have e := SX.join_S [] (L.map fun c => [c, c - 32])
        have e0 : (Str.ofString "") = SX.S [] := by decide
        rw [e0, e, joinNil]
        exact q H2 s2
end
theorem e0S : (Str.ofString "") = SX.S [] := by decide
theorem joinS (ys : List (List Nat)) : Txt.join (Str.ofString "") (ys.map SX.S) = SX.S ys.flatten := by
  rw [e0S, SX.join_S, joinNil]
theorem single_flat (w : List Nat) : (w.map fun c => [c]).flatten = w := by
  induction w with
  | nil => rfl
  | cons c r ih =>
    show [c] ++ (r.map fun c => [c]).flatten = c :: r
    rw [ih]
    rfl
theorem single_sum (w : List Nat) : (((w.map fun c => [c]).map SX.S).map (·.length)).sum = w.length := by
  rw [SX.lens, List.map_map]
  induction w with
  | nil => rfl
  | cons c r ih =>
    rw [List.map_cons, List.sum_cons, ih, List.length_cons]
    show 1 + r.length = _
    omega
theorem len0 : (Str.ofString "").length = 0 := by decide
section
variable {P : Program} {w : World} {K : PySem.W.Frag} {mg : Str → Option Value} {base : Heap}
/-- ''.join of single signs -/
theorem join_signs {X : Cx} {H : Hp} {D : Addr} {l : List Nat} {Q : VK} (hl : l.length ≤ 1000) (hD : H D = some (.lst (l.map fun c => tx [c]))) (q : Q (tx l) H) :
    ∃ a p, ∃ ys : List Str, V.str (Str.ofString "") = .str a ∧ [V.ref D] = [.ref p] ∧ (SqL K H p (ys.map V.str) ∨ SqT K H p (ys.map V.str)) ∧ (ys.map (·.length)).sum + ys.length * a.length ≤ 16777216 ∧ Q (.str (Txt.join a ys)) H := by
  refine ⟨_, D, (l.map fun c => [c]).map SX.S, rfl, rfl, .inl (SqL.of ?_), ?_, ?_⟩
  · rw [hD, List.map_map, List.map_map]
    rfl
  · rw [single_sum, len0]
    omega
  · rw [joinS, single_flat]
    exact q
end
def one (c : Nat) : V := tx [c]
theorem sg_more {L : List Nat} {i c : Nat} (h : L[i]? = some c) : sg (L.take (i + 1)) = sg (L.take i) ++ [c, c - 32] := by
  unfold sg
  rw [take_more h, List.flatMap_append]
  simp
section
variable {P : Program} {w : World} {K : PySem.W.Frag} {mg : Str → Option Value} {base : Heap}
/-! signs_of -/
def spSof : Sp := fun vs H Q _ => ∃ L : List Nat, vs = [tx L] ∧ Lt L ∧ ∀ H' p, Same H H' → H p = none → H' p = some (.lst ((sg L).map one)) → Q (.ref p) H'
theorem ok_sof {f : Addr} {fd : FuncData} {k : Nat} (F : Fun K "signs_of" "signs_of" sSignsOf f fd) : FnOk P w K mg base CX0 (k + 1) f fd ["letters"] spSof := by
  refine F.ok scSignsOf (fun vs H Q E h => ?_) (fun cdv A outer s H vs Q E hr h => ?_)
  · obtain ⟨L, rfl, _⟩ := h
    rfl
  · obtain ⟨L, rfl, hL, q⟩ := h
    refine ⟨_, pss_one (ps_ret (pe_lc2 (own := [("letter", 1), ("sign", 2)]) (vs1 := [2]) (g := gName 1) (tt := tYes) (wi1 := iTup K (tTup (tCons (tVar 1) (tCons (tM0 (fun x xs H Q => ∃ a, x = .str a ∧ xs = [] ∧ a.length ≤ 5592405 ∧ Q (.str (Txt.upper a)) H) (tVar 1)) tNil)))) (g1 := gName 2) (tt1 := tYes) (te := tVar 2) rfl scSignsOf.nd (pi_str (pv 0))
      (blkOk_by (N := ["letters", "letter", "sign"]) (sc := defScope sSignsOf) (by decide +kernel)) (by decide) (fun _ _ _ _ _ => pg_name (i := 1) scSignsOf.nd rfl (Or.inl rfl)) (fun _ _ _ _ _ => pts_nil)
      (fun _ _ _ _ _ => pi_tup (pe_tup (pa_cons (pv 1) (pa_cons (pe_upper (pv 1)) pa_nil))))
      (fun _ _ _ _ _ => pg_name (i := 2) scSignsOf.nd rfl (Or.inl rfl)) (fun _ _ _ _ _ => pts_nil) (fun _ _ _ _ _ => pv 2))), ?_⟩
    refine ⟨_, rfl, _, rfl, fun D nD => ?_⟩
    refine ⟨fun i m H2 => m = L.length - i ∧ i ≤ L.length ∧ Same H H2 ∧ H2 D = some (.lst ((sg (L.take i)).map one)), ⟨_, rfl, Nat.zero_le _, same_new nD, upd_same⟩, ?_⟩
    rintro i m H2 ⟨rfl, hi, sm, hD⟩
    have w0 := walk_txt L
    by_cases hlt : i < L.length
    · have hlt' : i < (L.map fun c => tx [c]).length := by rw [List.length_map]; exact hlt
      refine .inr ⟨w0.goes i H2 hlt' trivial, fun H' => Same H H' ∧ H' D = some (.lst ((sg (L.take (i + 1))).map one)), fun H' h' => ⟨_, by omega, rfl, hlt, h'⟩, fun x H' y => ?_⟩
      obtain ⟨rfl, hx⟩ := w0.yields i H2 x H' hlt' trivial y
      rw [List.getElem?_map] at hx
      obtain ⟨c, hc⟩ : ∃ c, L[i]? = some c := ⟨_, List.getElem?_eq_getElem hlt⟩
      rw [hc] at hx
      obtain rfl : tx [c] = x := Option.some.inj hx
      have hcm := hL.2 c (List.mem_of_getElem? hc)
      refine ⟨rfl, ?_⟩
      dsimp only [tYes]
      rw [if_pos rfl]
      refine ⟨_, rfl, _, rfl, ⟨_, rfl⟩, _, rfl, rfl, asc1, (by show 2 ≤ sizeLine; decide), fun T nT => ?_⟩
      rw [upperM hcm]
      have hT : upd H' T (.tup [tx [c], tx [c - 32]]) T = some (.tup [one c, one (c - 32)]) := upd_same
      have sT : Same H' (upd H' T (.tup [tx [c], tx [c - 32]])) := same_new nT
      refine ⟨T, rfl, ⟨_, SqT.of hT⟩, ?_⟩
      have hll : (sg (L.take i)).length ≤ 200 := by
        rw [sg_len, List.length_take]
        have := hL.1
        omega
      refine ⟨fun j k H3 => k = 2 - j ∧ j ≤ 2 ∧ Same H H3 ∧ H3 T = some (.tup [one c, one (c - 32)]) ∧ H3 D = some (.lst ((sg (L.take i) ++ [c, c - 32].take j).map one)), ⟨_, rfl, by decide, sm.trans sT, hT, ?_⟩, ?_⟩
      · rw [sT _ _ hD]
        simp
      · rintro j k3 H3 ⟨rfl, hj, sm3, hT3, hD3⟩
        have w1 := walk_tup (K := K) (a := T) (xs := [one c, one (c - 32)])
        by_cases hj2 : j < 2
        · refine .inr ⟨w1.goes j H3 hj2 (SqT.of hT3), fun H' => Same H H' ∧ H' T = some (.tup [one c, one (c - 32)]) ∧ H' D = some (.lst ((sg (L.take i) ++ [c, c - 32].take (j + 1)).map one)), fun H' h' => ⟨_, by omega, rfl, hj2, h'⟩, fun x H4 y => ?_⟩
          obtain ⟨rfl, hx2⟩ := w1.yields j H3 x H4 hj2 (SqT.of hT3) y
          refine ⟨rfl, ?_⟩
          dsimp only
          rw [if_pos rfl]
          refine ⟨_, rfl, _, hD3, ?_, ?_, ?_, ?_⟩
          · rw [List.length_map, List.length_append]
            refine small1000 ?_
            have := List.length_take_le j [c, c - 32]
            have e2 : ([c, c - 32] : List Nat).length = 2 := rfl
            omega
          · intro b o e
            rw [upd_ne (ne_of_none e nD)]
            exact sm3 _ _ e
          · rw [upd_ne (ne_of hT3 hD3 (by intro z; cases z))]
            exact hT3
          · rw [upd_same]
            congr 2
            have hz : j = 0 ∨ j = 1 := by omega
            rcases hz with rfl | rfl
            · obtain rfl : one c = x := Option.some.inj hx2
              simp [one]
            · obtain rfl : one (c - 32) = x := Option.some.inj hx2
              simp [one]
        · have ej : j = 2 := by omega
          subst ej
          refine .inl ⟨w1.stops H3 (SqT.of hT3), sm3, ?_⟩
          rw [hD3, sg_more hc]
          rfl
    · have ei : i = L.length := by omega
      subst ei
      rw [List.take_length] at hD
      refine .inl ⟨?_, q H2 D sm nD hD⟩
      have z := w0.stops H2 trivial
      rw [List.length_map] at z
      exact z
end
end K9
set_option maxRecDepth 100000
set_option maxHeartbeats 2000000
namespace K9
open PySem PySem.Spec PyProof.Rows L2
/-! list(text) -/
theorem vals_signs : ∀ (cs : List Nat) (us : List Value), cs.length = us.length → (∀ (j : Nat) (c : Nat) (v : Value), cs[j]? = some c → us[j]? = some v → ∃ t, v = .str ⟨#[c]⟩ t) → Vals (cs.map one) us
  | [], [], _, _ => .nil
  | c :: cs, v :: us, hl, h => by
    refine .cons ?_ (vals_signs cs us (by simpa using hl) fun j c' v' h1 h2 => h (j + 1) c' v' h1 h2)
    obtain ⟨t, e⟩ := h 0 c v rfl rfl
    rw [e]
    exact ⟨t, rfl⟩
theorem c_listS {X : Cx} (hc : X.calm = true) : CallR X (.type "list") (fun xs H Q => ∃ l : List Nat, xs = [tx l] ∧ l.length ≤ 1000 ∧ ∀ p, H p = none → Q (.ref p) (upd H p (.lst (l.map one)))) := by
  intro pins s σ H xs us Q I r h
  obtain ⟨l, rfl, hl, q⟩ := h
  obtain ⟨u, rfl, rx⟩ := vals1 r
  obtain ⟨t, rfl⟩ := rx
  have hsz : (SX.S l).cps.size ≤ sizeLine := asc_le hl
  refine PySem.call_list_str (I.ok.hd hc) (SX.S l) t (fun h' tk acc c' kp e it => ?_) hsz
  have hv : Vals (l.map one) acc.toList := by
    refine vals_signs l acc.toList ?_ fun j c v h1 h2 => ?_
    · have z := it.1
      simp only [List.size_toArray] at z
      have z2 : acc.toList.length = l.length := by simpa using z
      exact z2.symm
    · obtain ⟨c2, u, e1, e2⟩ := it.2 j v (by simpa using h2)
      have e3 : l[j]? = some c2 := by simpa using e1
      rw [h1] at e3
      cases e3
      exact ⟨u, e2⟩
  refine ⟨.ref s.heap.objs.size, _, I.laid (t' := tk) kp (Nat.le_refl _) (show ObjOk X.prog X.w _ h' _ (.lst (l.map one)) from ⟨by rw [List.length_map]; exact Nat.le_of_lt (small1000 hl), acc.toList, c', hv, by simpa using e⟩), rfl, q _ (I.hok.fresh (Nat.le_refl _))⟩
/-! the box goes on, all else stays, new things come -/
def BxGo (H H' : Hp) (b m : Addr) : Prop := Bx H' b m ∧ ∀ x o, x ≠ b → H x = some o → H' x = some o
theorem BxTo.go {H H' : Hp} {b m : Addr} (h : BxTo H H' b m) : BxGo H H' b m := ⟨h.1, fun x o hx e => (h.2 x hx).trans e⟩
theorem BxGo.trans {H H1 H2 : Hp} {b m : Addr} (x : BxGo H H1 b m) (y : BxGo H1 H2 b m) : BxGo H H2 b m := ⟨y.1, fun z o hz e => y.2 z o hz (x.2 z o hz e)⟩
theorem BxGo.refl {H : Hp} {b m : Addr} (x : Bx H b m) : BxGo H H b m := ⟨x, fun _ _ _ e => e⟩
theorem Bx.same {H H' : Hp} {b m : Addr} (x : Bx H b m) (s : Same H H') : Bx H' b m := by
  obtain ⟨ms, i, r, t, h1, h2, h3⟩ := x
  exact ⟨ms, i, r, t, s _ _ h1, s _ _ h2, h3⟩
theorem BxGo.of {H H' : Hp} {b m : Addr} (x : Bx H b m) (s : Same H H') : BxGo H H' b m := ⟨x.same s, fun z o _ e => s _ _ e⟩
theorem Bx.some {H : Hp} {b m : Addr} (x : Bx H b m) : ∃ o, H b = some o := by
  obtain ⟨ms, i, r, t, h1, _⟩ := x
  exact ⟨_, h1⟩
theorem Bx.ne {H : Hp} {b m p : Addr} (x : Bx H b m) (h : H p = none) : p ≠ b := fun e => by
  obtain ⟨o, z⟩ := x.some
  rw [← e, h] at z
  cases z
theorem Bx.neM {H : Hp} {b m p : Addr} (x : Bx H b m) (h : H p = none) : p ≠ m := fun e => by
  obtain ⟨ms, i, r, t, _, h1, _⟩ := x
  rw [← e, h] at h1
  cases h1
theorem Bx.upd {H : Hp} {b m p : Addr} {o : HO} (x : Bx H b m) (h1 : p ≠ b) (h2 : p ≠ m) : Bx (upd H p o) b m := by
  obtain ⟨ms, i, r, t, e1, e2, e3⟩ := x
  exact ⟨ms, i, r, t, by rw [upd_ne (Ne.symm h1)]; exact e1, by rw [upd_ne (Ne.symm h2)]; exact e2, e3⟩
/-- behind a step of the box a new thing stands -/
theorem BxGo.at {H H' : Hp} {b m p : Addr} {o : HO} (x : BxGo H H' b m) (hp : p ≠ b) (h : H p = some o) : H' p = some o := x.2 p o hp h
/-- an address that is new behind was new ahead -/
theorem BxGo.free {H H' : Hp} {b m p : Addr} (x : BxGo H H' b m) (h : H' p = none) : H p = none := by
  have hne := x.1.ne h
  cases e : H p with
  | none => rfl
  | some o => rw [x.2 p o hne e] at h; cases h
theorem menuS : Str.ofString "abmtxyz" = SX.S menu := by decide
theorem left_ne {F : List Nat} (h : F.length ≤ 2) : menu.filter (fun c => !decide (c ∈ F)) ≠ [] := by
  intro e
  have k : ∀ c ∈ menu, c ∈ F := fun c hc => by
    have z := List.filter_eq_nil_iff.mp e c hc
    simpa using z
  have k1 := k 97 (by decide)
  have k2 := k 98 (by decide)
  have k3 := k 109 (by decide)
  match F, h with
  | [], _ => cases k1
  | [a], _ =>
    have e1 : 97 = a := by simpa using k1
    have e2 : 98 = a := by simpa using k2
    omega
  | [a, c], _ =>
    have e1 : 97 = a ∨ 97 = c := by simpa using k1
    have e2 : 98 = a ∨ 98 = c := by simpa using k2
    have e3 : 109 = a ∨ 109 = c := by simpa using k3
    omega
section
variable {P : Program} {w : World} {K : PySem.W.Frag} {mg : Str → Option Value} {base : Heap}
/-! _law_letters -/
def spLet : Sp := fun vs H Q _ => ∃ (b m : Addr) (n : Nat), vs = [.ref b, .int n] ∧ Bx H b m ∧ 1 ≤ n ∧ n ≤ 3 ∧ ∀ L H', L.length = n → (∀ c ∈ L, c ∈ menu) → BxGo H H' b m → Q (tx L) H'
theorem ok_let {f fA : Addr} {fd fdA : FuncData} {k : Nat} (F : Fun K "_law_letters" "_law_letters" sLetters f fd) (B : Bn mg) (GA : FnOk P w K mg base CX0 (k + 2) fA fdA ["_law_box", "_law_some"] spAny) (kA : PySem.W.keepIn K (.ref fA) = true) (bA : Binds K fdA ["_law_box", "_law_some"] []) (gA : mg "_law_any" = some (.ref fA)) :
    FnOk P w K mg base CX0 (k + 3) f fd ["_law_box", "_law_many"] spLet := by
  refine F.ok scLetters (fun vs H Q E h => ?_) (fun cdv A outer s H vs Q E hr h => ?_)
  · obtain ⟨b, m, n, rfl, _⟩ := h
    rfl
  · obtain ⟨b, m, n, rfl, hB, h1, h3, q⟩ := h
    refine ⟨_, pss_cons (ps_set (i := 2) scLetters.nd rfl (.inr rfl) pe_str)
      (pss_cons (ps_for PassesOwn.never rfl (pi_range1 (by rfl) B.range (pa_cons (pv 1) pa_nil)) (pg_name (i := 3) scLetters.nd rfl (Or.inl rfl))
        (pss_cons (ps_setLc (i := 4) (own := [("_law_letter", 5)]) (g := gName 5) (tt := tTest (tOp (fun x y H Q => ∃ (c : Nat) (z : Str), x = .str ⟨#[c]⟩ ∧ y = .str z ∧ Q (.bl (!decide (c ∈ z.cps.toList))) H) (tVar 5) (tVar 2))) (te := tVar 5) rfl scLetters.nd rfl rfl (sw_true rfl rfl rfl (by decide +kernel)) (pi_str pe_str)
          (blkOk_by (N := ["_law_box", "_law_many", "_law_found", "_law_k", "_law_left", "_law_letter"]) (sc := defScope sLetters) (by decide +kernel)) (fun _ _ _ _ _ => pg_name (i := 5) scLetters.nd rfl (Or.inl rfl)) (fun _ _ _ _ _ => pts_one (pt_cmpR op_notIn_sign (pv 5) (pv 2) (by rfl)))
          (fun _ _ _ _ _ => pv 5))
        (pss_one (ps_set (i := 2) scLetters.nd rfl (.inr rfl) (pe_op op_add_str (pv 2) (pe_call GA hr (by rfl) gA kA bA .nil pass0 (pa_cons (pv 0) (pa_cons (pv 4) pa_nil))))))))
      (pss_one (ps_ret (pv 2)))), ?_⟩
    refine ⟨_, rfl, (n : Int), rfl, by omega, by omega, ?_⟩
    refine for_it (walk_range (lo := 0) (n := (n : Int).toNat)) (fun i σ H2 => ∃ (Fd : List Nat) (y3 y4 : Option V), σ = [some (.ref b), some (.int n), some (tx Fd), y3, y4, none] ∧ Fd.length = i ∧ (∀ c ∈ Fd, c ∈ menu) ∧ BxGo H H2 b m)
      ⟨[], none, none, ?_, rfl, (fun c hc => nomatch hc), .refl hB⟩ (fun _ _ _ _ _ => trivial) ?_ ?_
    · show [some (V.ref b), some (.int n), some (.str (Str.ofString "")), none, none, none] = _
      rw [e0S]
    · rintro i x σ H2 H2' hi ⟨Fd, y3, y4, rfl, hlen, hmn, hgo⟩ ⟨rfl, rfl⟩
      refine ⟨_, rfl, fun D nD => ?_⟩
      rw [menuS]
      refine lc_pure (walk_txt menu) (σ := [some (.ref b), some (.int n), some (tx Fd), some (.int (0 + i)), y4, none]) (i := 5) id (fun v => match v with | .str z => !decide (z.cps.toList.headD 0 ∈ Fd) | _ => true) (by decide) nD (fun _ _ => trivial) ?_ ?_ ?_
      · intro x H3 Q hx _ h
        obtain ⟨c, hc, rfl⟩ := List.mem_map.mp hx
        exact ⟨_, rfl, _, rfl, c, _, rfl, rfl, _, rfl, by simpa using h⟩
      · intro x H3 Q hx _ _ h
        exact ⟨_, rfl, h H3 (Same.refl _)⟩
      · intro H3 s3 hD
        have bx3 : Bx H3 b m := hgo.1.same s3
        have hDb : D ≠ b := hgo.1.ne nD
        have eL : (((menu.map fun c => tx [c]).filter (fun v => match v with | .str z => !decide (z.cps.toList.headD 0 ∈ Fd) | _ => true)).map id) = (menu.filter (fun c => !decide (c ∈ Fd))).map one := by
          rw [List.map_id, List.filter_map]
          rfl
        rw [eL] at hD
        have hne := left_ne (F := Fd) (by rw [hlen]; omega)
        refine ⟨_, rfl, _, rfl, _, rfl, b, m, D, _, rfl, bx3, hD, hDb, (by simpa using hne), ?_, fun x H4 hx hT => ?_⟩
        · rw [List.length_map]
          have := List.length_filter_le (fun c => !decide (c ∈ Fd)) menu
          have e7 : menu.length = 7 := rfl
          omega
        · obtain ⟨c, hc, rfl⟩ := List.mem_map.mp hx
          have hcm : c ∈ menu := (List.mem_filter.mp hc).1
          refine ⟨_, _, rfl, rfl, ?_, Fd ++ [c], some (.int (0 + i)), some (.ref D), ?_, ?_, ?_, ?_⟩
          · rw [tx_len, tx_len]
            exact Nat.le_of_lt (small1000 (by simp; omega))
          · rw [SX.S_cat]
            rfl
          · rw [List.length_append, hlen]
            rfl
          · intro d hd
            rcases List.mem_append.mp hd with z | z
            · exact hmn d z
            · have e : d = c := by simpa using z
              rw [e]
              exact hcm
          · exact (hgo.trans (.of hgo.1 s3)).trans hT.go
    · rintro σ H2 ⟨Fd, y3, y4, rfl, hlen, hmn, hgo⟩
      refine ⟨_, rfl, q Fd H2 ?_ hmn hgo⟩
      rw [hlen]
      omega
/-! _law_some_word -/
def spSome : Sp := fun vs H Q _ => ∃ (b m : Addr) (L : List Nat) (most : Nat), vs = [.ref b, tx L, .int most] ∧ Bx H b m ∧ Lt L ∧ L ≠ [] ∧ most ≤ 100 ∧ ∀ wd H', wd.length ≤ most → (∀ c ∈ wd, c ∈ sg L) → BxGo H H' b m → Q (tx wd) H'
theorem ok_some {f fA fD fS : Addr} {fd fdA fdD fdS : FuncData} {k : Nat} (F : Fun K "_law_some_word" "_law_some_word" sSome f fd) (B : Bn mg) (GA : FnOk P w K mg base CX0 (k + 2) fA fdA ["_law_box", "_law_some"] spAny) (kA : PySem.W.keepIn K (.ref fA) = true) (bA : Binds K fdA ["_law_box", "_law_some"] []) (gA : mg "_law_any" = some (.ref fA))
    (GD : FnOk P w K mg base CX0 (k + 1) fD fdD ["_law_box", "_law_many"] spDraw) (kD : PySem.W.keepIn K (.ref fD) = true) (bD : Binds K fdD ["_law_box", "_law_many"] []) (gD : mg "_law_draw" = some (.ref fD))
    (GS : FnOk P w K mg base CX0 (k + 1) fS fdS ["_law_letters_here"] spSigns) (kS : PySem.W.keepIn K (.ref fS) = true) (bS : Binds K fdS ["_law_letters_here"] []) (gS : mg "_law_signs" = some (.ref fS)) :
    FnOk P w K mg base CX0 (k + 3) f fd ["_law_box", "_law_letters_here", "_law_most"] spSome := by
  refine F.ok scSome (fun vs H Q E h => ?_) (fun cdv A outer s H vs Q E hr h => ?_)
  · obtain ⟨b, m, L, n, rfl, _⟩ := h
    rfl
  · obtain ⟨b, m, L, n, rfl, hB, hL, hne, hn, q⟩ := h
    have hr1 : Room (k + 1) (A.deeper (envOfC "_law_some_word" (defScope sSome) s.heap.objs.size f cdv)) := hr.mono (by omega)
    refine ⟨_, pss_cons (ps_set (i := 3) scSome.nd rfl (.inr rfl) (pe_call GS hr1 (by rfl) gS kS bS .nil pass0 (pa_cons (pv 1) pa_nil)))
      (pss_one (ps_ret (pe_join pe_str (pe_lc (own := [("_law_k", 4)]) (g := gName 4) (tt := tYes)
        (te := tCall spAny [] E0 (tCons (tVar 0) (tCons (tCB (fun xs H Q => ∃ l : List Nat, xs = [tx l] ∧ l.length ≤ 1000 ∧ ∀ p, H p = none → Q (.ref p) (upd H p (.lst (l.map one)))) (tCons (tVar 3) tNil)) tNil)))
        rfl scSome.nd (pi_range1 (by rfl) B.range (pa_cons (pe_call GD hr1 (by rfl) gD kD bD .nil pass0 (pa_cons (pv 0) (pa_cons (pe_op op_add (pv 2) pe_int) pa_nil))) pa_nil))
        (blkOk_by (N := ["_law_box", "_law_letters_here", "_law_most", "_law_signs_here", "_law_k"]) (sc := defScope sSome) (by decide +kernel)) (fun _ _ _ _ _ => pg_name (i := 4) scSome.nd rfl (Or.inl rfl)) (fun _ _ _ _ _ => pts_nil)
        (fun _ _ _ _ _ => pe_call GA hr (by rfl) gA kA bA .nil pass0 (pa_cons (pv 0) (pa_cons (pe_callTy (c_listS rfl) (by rfl) B.list boot_list (pa_cons (pv 3) pa_nil)) pa_nil))))))), ?_⟩
    refine ⟨_, rfl, L, rfl, hL, fun H1 s1 => ?_⟩
    refine ⟨⟨_, rfl⟩, _, rfl, _, rfl, _, _, rfl, rfl, b, m, _, rfl, hB.same s1, by omega, by omega, fun d H2 d0 d1 hT => ?_⟩
    refine ⟨d, rfl, by omega, by omega, fun D nD => ?_⟩
    have hDb : D ≠ b := hT.1.ne nD
    have hDm : D ≠ m := hT.1.neM nD
    have hgo : BxGo H H2 b m := (BxGo.of hB s1).trans hT.go
    have hn1 : H1 D = none := by rw [← hT.2 D hDb]; exact nD
    have hn0 : H D = none := s1.free hn1
    have hsl : (sg L).length ≤ 1000 := by rw [sg_len]; have := hL.1; omega
    refine lc_it (walk_range (lo := 0) (n := d.toNat)) (fun i H3 => ∃ wd : List Nat, wd.length = i ∧ (∀ c ∈ wd, c ∈ sg L) ∧ Bx H3 b m ∧ (∀ x o, x ≠ b → H x = some o → H3 x = some o) ∧ H3 D = some (.lst (wd.map one)))
      ⟨[], rfl, (fun c hc => nomatch hc), hgo.1.same (same_new nD), fun x o hx e => same_new nD _ _ (hgo.2 x o hx e), upd_same⟩ (fun _ _ _ _ => trivial) ?_ ?_
    · rintro i x H3 H3' hi ⟨wd, hl, hw, bx, kp, hD⟩ ⟨rfl, rfl⟩
      refine ⟨rfl, ?_⟩
      dsimp only [tYes]
      rw [if_pos rfl]
      refine ⟨_, rfl, _, rfl, sg L, rfl, hsl, fun p np => ?_⟩
      have sp : Same H3' (upd H3' p (.lst ((sg L).map one))) := same_new np
      refine ⟨b, m, p, _, rfl, bx.same sp, upd_same, bx.ne np, ?_, ?_, fun x H4 hx hT4 => ?_⟩
      · intro e
        have e2 := congrArg List.length e
        rw [List.length_map, sg_len] at e2
        have e3 : 0 < L.length := List.length_pos_iff.mpr hne
        have e4 : ([] : List V).length = 0 := rfl
        omega
      · rw [List.length_map]
        omega
      · obtain ⟨c, hc, rfl⟩ := List.mem_map.mp hx
        have hD4 : H4 D = some (.lst (wd.map one)) := (hT4.2 D hDb).trans (sp _ _ hD)
        have nDb : b ≠ D := fun e => hDb e.symm
        refine ⟨_, hD4, ?_, wd ++ [c], ?_, ?_, ?_, ?_, ?_⟩
        · rw [List.length_map, hl]
          exact small1000 (by omega)
        · rw [List.length_append, hl]
          rfl
        · intro e he
          rcases List.mem_append.mp he with z | z
          · exact hw e z
          · have z2 : e = c := by simpa using z
            rw [z2]
            exact hc
        · exact hT4.1.upd hDb hDm
        · intro x o hx e
          rw [upd_ne (ne_of_none e hn0)]
          rw [hT4.2 x hx]
          exact sp _ _ (kp x o hx e)
        · rw [upd_same, List.map_append]
          rfl
    · rintro H3 ⟨wd, hl, hw, bx, kp, hD⟩
      refine join_signs (X := (cxOf CX0 P w K mg base ["_law_box", "_law_letters_here", "_law_most", "_law_signs_here", "_law_k"] "_law_some_word" (defScope sSome) f cdv A outer s H E).nox) (l := wd) (by omega) hD (q wd H3 (by omega) hw ⟨bx, kp⟩)
end
def Flat (x : V) : Prop := (∃ i, x = .int i) ∨ (∃ z, x = .str z) ∨ (∃ b, x = .bl b)
/-- two values that bear the same data, at most n deep -/
def Eqd : Nat → Hp → V → V → Prop
  | 0, _, x, y => x = y ∧ Flat x
  | n + 1, H, x, y => (x = y ∧ Flat x) ∨ ∃ (p q : Addr) (xs ys : List V), x = .ref p ∧ y = .ref q ∧ xs.length = ys.length ∧ xs.length ≤ 1000 ∧
      ((H p = some (.lst xs) ∧ H q = some (.lst ys)) ∨ (H p = some (.tup xs) ∧ H q = some (.tup ys))) ∧ ∀ (i : Nat) (u v : V), xs[i]? = some u → ys[i]? = some v → Eqd n H u v
theorem Eqd.same {H H' : Hp} (s : Same H H') : ∀ {n : Nat} {x y : V}, Eqd n H x y → Eqd n H' x y := by
  intro n
  induction n with
  | zero => exact fun h => h
  | succ n ih =>
    rintro x y (h | ⟨p, q, xs, ys, e1, e2, e3, e4, e5, e6⟩)
    · exact .inl h
    · refine .inr ⟨p, q, xs, ys, e1, e2, e3, e4, ?_, fun i u v h1 h2 => ih (e6 i u v h1 h2)⟩
      rcases e5 with ⟨a, b⟩ | ⟨a, b⟩
      · exact .inl ⟨s _ _ a, s _ _ b⟩
      · exact .inr ⟨s _ _ a, s _ _ b⟩
theorem Eqd.flat {H : Hp} {x : V} {n : Nat} (h : Flat x) : Eqd n H x x := by
  cases n with
  | zero => exact ⟨rfl, h⟩
  | succ n => exact .inl ⟨rfl, h⟩
section
variable {P : Program} {w : World} {K : PySem.W.Frag} {mg : Str → Option Value} {base : Heap}
def spSame (n : Nat) : Sp := fun vs H Q _ => ∃ x y : V, vs = [x, y] ∧ Eqd n H x y ∧ ∀ H', Same H H' → Q (.bl true) H'
abbrev N3 : List Str := ["_law_found", "_law_due", "_law_k"]
theorem same_flat {f : Addr} {k : Nat} (B : Bn mg) {cdv : Value} {A : Around} {outer : List Env} {s : Shared} {H : Hp} {Q : VK} {E : XK} :
    ∃ t2, PSs (cxOf CX0 P w K mg base N3 "_law_same" (defScope sSame) f cdv A outer s H E).nox ((defBody sSame).drop 1) t2 ∧
      ∀ (x : V) (H' : Hp), Flat x → Q (.bl true) H' → t2 { nx := fun _ H' => Q .non H', rt := Q } [some x, some x, none] H' := by
  refine ⟨_, pss_cons (ps_if (PW.pt (pw_or (pt_cmpR op_isN (pv 1) pe_non (nomark _)) (pw_or1 (pt_cmpR op_isN (pv 0) pe_non (nomark _))))) pss_never pss_nil)
    (pss_cons (ps_if (PW.pt (pw_or
        (pt_cmpR op_ne (pe_callB call_isi (by rfl) B.isinst boot_isinstance (pa_cons (pv 1) (pa_cons (pe_bltn (v := .ty "bool") (by rfl) B.bool PyProof.Rows.boot_bool rfl) pa_nil))) (pe_callB call_isi (by rfl) B.isinst boot_isinstance (pa_cons (pv 0) (pa_cons (pe_bltn (v := .ty "bool") (by rfl) B.bool PyProof.Rows.boot_bool rfl) pa_nil))) (nomark _))
        (pw_or1 (pt_cmpR op_ne (pe_callB call_isi (by rfl) B.isinst boot_isinstance (pa_cons (pv 1) (pa_cons (pe_bltn (v := .ty "int") (by rfl) B.int PyProof.Rows.boot_int rfl) pa_nil))) (pe_callB call_isi (by rfl) B.isinst boot_isinstance (pa_cons (pv 0) (pa_cons (pe_bltn (v := .ty "int") (by rfl) B.int PyProof.Rows.boot_int rfl) pa_nil))) (nomark _))))) pss_never pss_nil)
    (pss_one (ps_ret (pe_and (pe_cmpR op_eq (pe_callB call_isi (by rfl) B.isinst boot_isinstance (pa_cons (pv 1) (pa_cons (pe_bltn (v := .ty "str") (by rfl) B.str PyProof.Rows.boot_str rfl) pa_nil))) (pe_callB call_isi (by rfl) B.isinst boot_isinstance (pa_cons (pv 0) (pa_cons (pe_bltn (v := .ty "str") (by rfl) B.str PyProof.Rows.boot_str rfl) pa_nil))) (nomark _))
      (pe_one (pe_cmpR op_eq (pv 0) (pv 1) (nomark _))))))), fun x H' hx q => ?_⟩
  rcases hx with ⟨i, rfl⟩ | ⟨z, rfl⟩ | ⟨b, rfl⟩
  · refine ⟨_, rfl, rfl, false, rfl, iteF ⟨_, rfl, rfl, false, rfl, iteF ?_⟩⟩
    refine ⟨_, rfl, _, _, _, _, false, rfl, .ty _, .base (.int i), kit_ty (by decide +kernel), _, rfl, _, _, _, _, false, rfl, .ty _, .base (.int i), kit_ty (by decide +kernel), rfl, false, rfl, iteF ?_⟩
    refine ⟨_, rfl, _, _, _, _, true, rfl, .ty _, .base (.int i), kit_ty (by decide +kernel), _, rfl, _, _, _, _, true, rfl, .ty _, .base (.int i), kit_ty (by decide +kernel), rfl, false, rfl, iteF ?_⟩
    refine ⟨_, rfl, _, _, _, _, false, rfl, .ty _, .base (.int i), kit_ty (by decide +kernel), _, rfl, _, _, _, _, false, rfl, .ty _, .base (.int i), kit_ty (by decide +kernel), rfl, true, rfl, iteT ?_⟩
    refine ⟨_, rfl, _, rfl, rfl, ?_⟩
    rw [decide_eq_true rfl]
    exact q
  · refine ⟨_, rfl, rfl, false, rfl, iteF ⟨_, rfl, rfl, false, rfl, iteF ?_⟩⟩
    refine ⟨_, rfl, _, _, _, _, false, rfl, .ty _, .base (.str z), kit_ty (by decide +kernel), _, rfl, _, _, _, _, false, rfl, .ty _, .base (.str z), kit_ty (by decide +kernel), rfl, false, rfl, iteF ?_⟩
    refine ⟨_, rfl, _, _, _, _, false, rfl, .ty _, .base (.str z), kit_ty (by decide +kernel), _, rfl, _, _, _, _, false, rfl, .ty _, .base (.str z), kit_ty (by decide +kernel), rfl, false, rfl, iteF ?_⟩
    refine ⟨_, rfl, _, _, _, _, true, rfl, .ty _, .base (.str z), kit_ty (by decide +kernel), _, rfl, _, _, _, _, true, rfl, .ty _, .base (.str z), kit_ty (by decide +kernel), rfl, true, rfl, iteT ?_⟩
    refine ⟨_, rfl, _, rfl, rfl, ?_⟩
    rw [decide_eq_true rfl]
    exact q
  · refine ⟨_, rfl, rfl, false, rfl, iteF ⟨_, rfl, rfl, false, rfl, iteF ?_⟩⟩
    refine ⟨_, rfl, _, _, _, _, true, rfl, .ty _, .base (.bl b), kit_ty (by decide +kernel), _, rfl, _, _, _, _, true, rfl, .ty _, .base (.bl b), kit_ty (by decide +kernel), rfl, false, rfl, iteF ?_⟩
    refine ⟨_, rfl, _, _, _, _, true, rfl, .ty _, .base (.bl b), kit_ty (by decide +kernel), _, rfl, _, _, _, _, true, rfl, .ty _, .base (.bl b), kit_ty (by decide +kernel), rfl, false, rfl, iteF ?_⟩
    refine ⟨_, rfl, _, _, _, _, false, rfl, .ty _, .base (.bl b), kit_ty (by decide +kernel), _, rfl, _, _, _, _, false, rfl, .ty _, .base (.bl b), kit_ty (by decide +kernel), rfl, true, rfl, iteT ?_⟩
    refine ⟨_, rfl, _, rfl, rfl, ?_⟩
    rw [decide_eq_true rfl]
    exact q
theorem ty2 {t : Value} {b1 b2 b : Bool} (h1 : PySem.W.kitOne K t (.type "list") = some b1) (h2 : PySem.W.kitOne K t (.type "tuple") = some b2) (hb : b = (b1 || b2)) : PySem.W.kitAny K t [.type "list", .type "tuple"] = some b := by
  subst hb
  refine kitAny_cons h1 (fun e => ?_) (fun e => by rw [e]; rfl)
  subst e
  show PySem.W.kitAny K t [.type "tuple"] = some b2
  exact kitAny_cons h2 (fun e2 => by rw [e2]; rfl) (fun e2 => e2)
theorem ok_same {f : Addr} {fd : FuncData} (F : Fun K "_law_same" "_law_same" sSame f fd) (B : Bn mg) (b0 : Binds K fd ["_law_found", "_law_due"] []) (g0 : mg "_law_same" = some (.ref f)) :
    ∀ n : Nat, FnOk P w K mg base CX0 (n + 1) f fd ["_law_found", "_law_due"] (spSame n) := by
  intro n
  induction n with
  | zero =>
    refine F.ok scSame (fun vs H Q E h => ?_) (fun cdv A outer s H vs Q E hr h => ?_)
    · obtain ⟨x, y, rfl, _⟩ := h
      rfl
    · obtain ⟨x, y, rfl, ⟨rfl, hx⟩, q⟩ := h
      obtain ⟨t2, P2, R2⟩ := same_flat (P := P) (w := w) (K := K) (base := base) (f := f) (k := 0) B (cdv := cdv) (A := A) (outer := outer) (s := s) (H := H) (Q := Q) (E := E)
      refine ⟨_, pss_cons (ps_if (pt_val (pe_callB call_isiT (by rfl) B.isinst boot_isinstance (pa_cons (pv 1) (pa_cons (pe_tup (pa_cons (pe_bltn (v := .ty "list") (by rfl) B.list PyProof.Rows.boot_list rfl) (pa_cons (pe_bltn (v := .ty "tuple") (by rfl) B.tuple PyProof.Rows.boot_tuple rfl) pa_nil))) pa_nil)))) pss_never pss_nil) P2, ?_⟩
      refine ⟨_, rfl, (by show 2 ≤ sizeLine; decide), fun T nT => ?_⟩
      have cl : Paired ClsV [V.ty "list", V.ty "tuple"] [.type "list", .type "tuple"] := .cons (.ty _) (.cons (.ty _) .nil)
      have fin := R2 x (upd H T (.tup [.ty "list", .ty "tuple"])) hx (q _ (same_new nT))
      rcases hx with ⟨i, rfl⟩ | ⟨z, rfl⟩ | ⟨b, rfl⟩
      · exact ⟨_, T, _, _, _, false, rfl, upd_same, cl, .base (.int i), ty2 (kit_ty (r := false) (by decide +kernel)) (kit_ty (r := false) (by decide +kernel)) rfl, _, rfl, iteF fin⟩
      · exact ⟨_, T, _, _, _, false, rfl, upd_same, cl, .base (.str z), ty2 (kit_ty (r := false) (by decide +kernel)) (kit_ty (r := false) (by decide +kernel)) rfl, _, rfl, iteF fin⟩
      · exact ⟨_, T, _, _, _, false, rfl, upd_same, cl, .base (.bl b), ty2 (kit_ty (r := false) (by decide +kernel)) (kit_ty (r := false) (by decide +kernel)) rfl, _, rfl, iteF fin⟩
  | succ n ih =>
    refine F.ok scSame (fun vs H Q E h => ?_) (fun cdv A outer s H vs Q E hr h => ?_)
    · obtain ⟨x, y, rfl, _⟩ := h
      rfl
    · obtain ⟨x, y, rfl, hE, q⟩ := h
      obtain ⟨t2, P2, R2⟩ := same_flat (P := P) (w := w) (K := K) (base := base) (f := f) (k := 0) B (cdv := cdv) (A := A) (outer := outer) (s := s) (H := H) (Q := Q) (E := E)
      refine ⟨_, pss_cons (ps_if (pt_val (pe_callB call_isiT (by rfl) B.isinst boot_isinstance (pa_cons (pv 1) (pa_cons (pe_tup (pa_cons (pe_bltn (v := .ty "list") (by rfl) B.list PyProof.Rows.boot_list rfl) (pa_cons (pe_bltn (v := .ty "tuple") (by rfl) B.tuple PyProof.Rows.boot_tuple rfl) pa_nil))) pa_nil))))
        (pss_cons (ps_if (PW.pt (pw_or
          (pt_cmpR op_ne (pe_callB call_isi (by rfl) B.isinst boot_isinstance (pa_cons (pv 0) (pa_cons (pe_bltn (v := .ty "list") (by rfl) B.list PyProof.Rows.boot_list rfl) pa_nil))) (pe_callB call_isi (by rfl) B.isinst boot_isinstance (pa_cons (pv 1) (pa_cons (pe_bltn (v := .ty "list") (by rfl) B.list PyProof.Rows.boot_list rfl) pa_nil))) (nomark _))
          (pw_or1 (pt_cmpR op_ne (pe_callB call_isi (by rfl) B.isinst boot_isinstance (pa_cons (pv 0) (pa_cons (pe_bltn (v := .ty "tuple") (by rfl) B.tuple PyProof.Rows.boot_tuple rfl) pa_nil))) (pe_callB call_isi (by rfl) B.isinst boot_isinstance (pa_cons (pv 1) (pa_cons (pe_bltn (v := .ty "tuple") (by rfl) B.tuple PyProof.Rows.boot_tuple rfl) pa_nil))) (nomark _))))) pss_never pss_nil)
        (pss_one (ps_ret (pe_and (pe_cmpR op_eq (pe_callB call_len_seq (by rfl) B.len PySem.boot_len (pa_cons (pv 0) pa_nil)) (pe_callB call_len_seq (by rfl) B.len PySem.boot_len (pa_cons (pv 1) pa_nil)) (nomark _))
          (pe_one (pe_callB (cr_all rfl) (by rfl) B.all boot_all (pa_cons (pe_lc (own := [("_law_k", 2)]) (g := gName 2) (tt := tYes)
            (te := tCall (spSame n) [] E0 (tCons (tOp (rIx K) (tVar 0) (tVar 2)) (tCons (tOp (rIx K) (tVar 1) (tVar 2)) tNil)))
            rfl scSame.nd (pi_range1 (by rfl) B.range (pa_cons (pe_callB call_len_seq (by rfl) B.len PySem.boot_len (pa_cons (pv 1) pa_nil)) pa_nil))
            (blkOk_by (N := N3) (sc := defScope sSame) (by decide +kernel)) (fun _ _ _ _ _ => pg_name (i := 2) scSame.nd rfl (Or.inl rfl)) (fun _ _ _ _ _ => pts_nil)
            (fun _ _ _ _ _ => pe_call ih hr (by rfl) g0 F.kp b0 .nil pass0 (pa_cons (pe_ix ix_seq (pv 0) (pv 2) (fun _ _ => rfl)) (pa_cons (pe_ix ix_seq (pv 1) (pv 2) (fun _ _ => rfl)) pa_nil)))) pa_nil))))))) pss_nil) P2, ?_⟩
      refine ⟨_, rfl, (by show 2 ≤ sizeLine; decide), fun T nT => ?_⟩
      have cl : Paired ClsV [V.ty "list", V.ty "tuple"] [.type "list", .type "tuple"] := .cons (.ty _) (.cons (.ty _) .nil)
      have sT : Same H (upd H T (.tup [.ty "list", .ty "tuple"])) := same_new nT
      rcases hE with ⟨rfl, hx⟩ | ⟨p, p2, xs, ys, rfl, rfl, hl, hl2, hp, hi⟩
      · have fin := R2 x (upd H T (.tup [.ty "list", .ty "tuple"])) hx (q _ sT)
        rcases hx with ⟨i, rfl⟩ | ⟨z, rfl⟩ | ⟨b, rfl⟩
        · exact ⟨_, T, _, _, _, false, rfl, upd_same, cl, .base (.int i), ty2 (kit_ty (r := false) (by decide +kernel)) (kit_ty (r := false) (by decide +kernel)) rfl, _, rfl, iteF fin⟩
        · exact ⟨_, T, _, _, _, false, rfl, upd_same, cl, .base (.str z), ty2 (kit_ty (r := false) (by decide +kernel)) (kit_ty (r := false) (by decide +kernel)) rfl, _, rfl, iteF fin⟩
        · exact ⟨_, T, _, _, _, false, rfl, upd_same, cl, .base (.bl b), ty2 (kit_ty (r := false) (by decide +kernel)) (kit_ty (r := false) (by decide +kernel)) rfl, _, rfl, iteF fin⟩
      · have hlen : (xs.length : Int) = (ys.length : Int) := by rw [hl]
        -- the list part, for lists and for tuples
        have key : ∀ H1, Same H H1 → (SqL K H1 p xs ∨ SqT K H1 p xs) → (SqL K H1 p2 ys ∨ SqT K H1 p2 ys) → (∀ H2, Same H1 H2 → (SqL K H2 p xs ∧ SqL K H2 p2 ys) ∨ (SqT K H2 p xs ∧ SqT K H2 p2 ys)) →
            tRet (tAndV (tOp rEq (tCB (fun xs H Q => ∃ p ys, xs = [.ref p] ∧ (SqL K H p ys ∨ SqT K H p ys) ∧ Q (.int ys.length) H) (tCons (tVar 0) tNil)) (tCB (fun xs H Q => ∃ p ys, xs = [.ref p] ∧ (SqL K H p ys ∨ SqT K H p ys) ∧ Q (.int ys.length) H) (tCons (tVar 1) tNil)))
              (tCB (rAll K) (tCons (tLc (iRng1 (tCons (tCB (fun xs H Q => ∃ p ys, xs = [.ref p] ∧ (SqL K H p ys ∨ SqT K H p ys) ∧ Q (.int ys.length) H) (tCons (tVar 1) tNil)) tNil)) (gName 2) tYes
                (tCall (spSame n) [] E0 (tCons (tOp (rIx K) (tVar 0) (tVar 2)) (tCons (tOp (rIx K) (tVar 1) (tVar 2)) tNil))) [2]) tNil))) { nx := fun _ H' => Q .non H', rt := Q } [some (.ref p), some (.ref p2), none] H1 := by
          intro H1 s1 hp1 hp2 hall
          refine ⟨_, rfl, p, xs, rfl, hp1, _, rfl, p2, ys, rfl, hp2, rfl, true, ?_, iteT ?_⟩
          · rw [hlen]
            exact congrArg V.bl (decide_eq_true rfl)
          · refine ⟨_, rfl, p2, ys, rfl, hp2, _, rfl, by omega, by omega, fun D nD => ?_⟩
            rw [show ((ys.length : Int)).toNat = ys.length by omega]
            refine lc_it (walk_range (lo := 0) (n := ys.length)) (fun i H2 => Same H1 H2 ∧ H2 D = some (.lst ((List.replicate i true).map V.bl))) ⟨same_new nD, upd_same⟩ (fun _ _ _ _ => trivial) ?_ ?_
            · rintro i x H2 H2' hi2 ⟨s2, hD⟩ ⟨rfl, rfl⟩
              refine ⟨rfl, ?_⟩
              dsimp only [tYes]
              rw [if_pos rfl]
              have hx : i < xs.length := by omega
              have gx : xs[i]? = some xs[i] := List.getElem?_eq_getElem hx
              have gy : ys[i]? = some ys[i] := List.getElem?_eq_getElem hi2
              have ei : (0 : Int) + (i : Int) = ((i : Nat) : Int) := by omega
              have ax : atI xs (0 + (i : Int)) = some xs[i] := by rw [ei]; exact atI_nat gx
              have ay : atI ys (0 + (i : Int)) = some ys[i] := by rw [ei]; exact atI_nat gy
              have eq := (hi i _ _ gx gy).same (s1.trans s2)
              have fin : ∀ H3, Same H2' H3 → ∃ acc, H3 D = some (.lst acc) ∧ acc.length < sizeLine ∧ (Same H1 (upd H3 D (.lst (acc ++ [.bl true]))) ∧ upd H3 D (.lst (acc ++ [.bl true])) D = some (.lst ((List.replicate (i + 1) true).map V.bl))) := by
                intro H3 s3
                refine ⟨_, s3 _ _ hD, ?_, ?_, ?_⟩
                · rw [List.length_map, List.length_replicate]
                  exact small1000 (by omega)
                · intro b o e
                  rw [upd_ne (ne_of_none e nD)]
                  exact s3 _ _ (s2 _ _ e)
                · rw [upd_same, List.replicate_succ', List.map_append]
                  rfl
              rcases hall H2' s2 with ⟨z1, z2⟩ | ⟨z1, z2⟩
              · exact ⟨_, rfl, _, rfl, .inl ⟨p, xs, _, _, rfl, rfl, z1, ax, _, rfl, _, rfl, .inl ⟨p2, ys, _, _, rfl, rfl, z2, ay, _, _, rfl, eq, fin⟩⟩⟩
              · exact ⟨_, rfl, _, rfl, .inr (.inl ⟨p, xs, _, _, rfl, rfl, z1, ax, _, rfl, _, rfl, .inr (.inl ⟨p2, ys, _, _, rfl, rfl, z2, ay, _, _, rfl, eq, fin⟩)⟩)⟩
            · rintro H2 ⟨s2, hD⟩
              refine ⟨D, List.replicate ys.length true, rfl, SqL.of hD, ?_⟩
              have e : (List.replicate ys.length true).all id = true := by
                rw [List.all_eq_true]
                intro b hb
                exact List.eq_of_mem_replicate hb
              rw [e]
              exact q H2 (s1.trans s2)
        rcases hp with ⟨h1, h2⟩ | ⟨h1, h2⟩
        · refine ⟨_, T, _, _, _, true, rfl, upd_same, cl, .base (.lst (sT _ _ h2)), ty2 (kit_ty (r := true) (by decide +kernel)) (kit_ty (r := false) (by decide +kernel)) rfl, _, rfl, iteT ?_⟩
          refine ⟨_, rfl, _, _, _, _, true, rfl, .ty _, .base (.lst (sT _ _ h1)), kit_ty (by decide +kernel), _, rfl, _, _, _, _, true, rfl, .ty _, .base (.lst (sT _ _ h2)), kit_ty (by decide +kernel), rfl, false, rfl, iteF ?_⟩
          refine ⟨_, rfl, _, _, _, _, false, rfl, .ty _, .base (.lst (sT _ _ h1)), kit_ty (by decide +kernel), _, rfl, _, _, _, _, false, rfl, .ty _, .base (.lst (sT _ _ h2)), kit_ty (by decide +kernel), rfl, false, rfl, iteF ?_⟩
          exact key _ sT (.inl (SqL.of (sT _ _ h1))) (.inl (SqL.of (sT _ _ h2))) fun H2 s2 => .inl ⟨SqL.of (s2 _ _ (sT _ _ h1)), SqL.of (s2 _ _ (sT _ _ h2))⟩
        · refine ⟨_, T, _, _, _, true, rfl, upd_same, cl, .base (.tup (sT _ _ h2)), ty2 (kit_ty (r := false) (by decide +kernel)) (kit_ty (r := true) (by decide +kernel)) rfl, _, rfl, iteT ?_⟩
          refine ⟨_, rfl, _, _, _, _, false, rfl, .ty _, .base (.tup (sT _ _ h1)), kit_ty (by decide +kernel), _, rfl, _, _, _, _, false, rfl, .ty _, .base (.tup (sT _ _ h2)), kit_ty (by decide +kernel), rfl, false, rfl, iteF ?_⟩
          refine ⟨_, rfl, _, _, _, _, true, rfl, .ty _, .base (.tup (sT _ _ h1)), kit_ty (by decide +kernel), _, rfl, _, _, _, _, true, rfl, .ty _, .base (.tup (sT _ _ h2)), kit_ty (by decide +kernel), rfl, false, rfl, iteF ?_⟩
          exact key _ sT (.inr (SqT.of (sT _ _ h1))) (.inr (SqT.of (sT _ _ h2))) fun H2 s2 => .inr ⟨SqT.of (s2 _ _ (sT _ _ h1)), SqT.of (s2 _ _ (sT _ _ h2))⟩
end
end K9
set_option maxRecDepth 100000
set_option maxHeartbeats 2000000
namespace K9
open PySem PySem.Spec PyProof.Rows L2
/-! ### runs and their texts -/
theorem dropW_le {α : Type} (p : α → Bool) : ∀ l : List α, (l.dropWhile p).length ≤ l.length
  | [] => Nat.le_refl _
  | a :: r => by
    rw [List.dropWhile_cons]
    split
    · have := dropW_le p r
      simp only [List.length_cons]
      omega
    · exact Nat.le_refl _
theorem tw_eq (c : Nat) : ∀ l : List Nat, List.replicate (l.takeWhile (· == c)).length c = l.takeWhile (· == c)
  | [] => rfl
  | a :: r => by
    rw [List.takeWhile_cons]
    split
    · rename_i h
      have e : a = c := by simpa using h
      rw [List.length_cons, List.replicate_succ, tw_eq c r, e]
    · rfl
def rl (l : List Nat) : List (Nat × Nat) :=
  match l with
  | [] => []
  | c :: r => (c, 1 + (r.takeWhile (· == c)).length) :: rl (r.dropWhile (· == c))
termination_by l.length
decreasing_by
  have := dropW_le (· == c) r
  simp only [List.length_cons]
  omega
def exq (rs : List (Nat × Nat)) : List Nat := rs.flatMap fun q => List.replicate q.2 q.1
def dg (n : Nat) : List Nat := if n < 10 then [48 + n] else [48 + n / 10, 48 + n % 10]
def tk (q : Nat × Nat) : List Nat := if 65 ≤ q.1 ∧ q.1 ≤ 90 then [q.1 + 32, 94, 45] ++ dg q.2 else if 1 < q.2 then [q.1, 94] ++ dg q.2 else [q.1]
def txq (rs : List (Nat × Nat)) : List Nat := if rs = [] then [49] else TL.joinL [32] (rs.map tk)
theorem rl_nil : rl [] = [] := by rw [rl]
theorem rl_run {c n : Nat} {m : List Nat} (hn : 1 ≤ n) (hm : m.head? ≠ some c) : rl (List.replicate n c ++ m) = (c, n) :: rl m := by
  obtain ⟨k, rfl⟩ : ∃ k, n = k + 1 := ⟨n - 1, by omega⟩
  have key : ∀ k : Nat, ((List.replicate k c ++ m).takeWhile (· == c)).length = k ∧ (List.replicate k c ++ m).dropWhile (· == c) = m := by
    intro k
    induction k with
    | zero =>
      cases m with
      | nil => exact ⟨rfl, rfl⟩
      | cons d r =>
        have hd : (d == c) = false := by
          rw [beq_eq_false_iff_ne]
          intro e
          apply hm
          rw [e]
          rfl
        constructor
        · show ((d :: r).takeWhile (· == c)).length = 0
          rw [List.takeWhile_cons, hd]
          rfl
        · show (d :: r).dropWhile (· == c) = d :: r
          rw [List.dropWhile_cons, hd]
          rfl
    | succ k ih =>
      constructor
      · rw [List.replicate_succ, List.cons_append, List.takeWhile_cons, beq_self_eq_true]
        show _ + 1 = k + 1
        rw [ih.1]
      · rw [List.replicate_succ, List.cons_append, List.dropWhile_cons, beq_self_eq_true]
        exact ih.2
  rw [List.replicate_succ, List.cons_append, rl, (key k).1, (key k).2, Nat.add_comm 1 k]
/-- the run that begins at b -/
theorem drop_run {l : List Nat} {b n c : Nat} (h : ∀ j, b ≤ j → j < b + n → l[j]? = some c) : l.drop b = List.replicate n c ++ l.drop (b + n) := by
  induction n generalizing b with
  | zero => rfl
  | succ n ih =>
    have h0 := h b (Nat.le_refl _) (by omega)
    have e : l.drop b = c :: l.drop (b + 1) := by
      have hb : b < l.length := (List.getElem?_eq_some_iff.mp h0).1
      rw [List.drop_eq_getElem_cons hb]
      congr 1
      exact (List.getElem?_eq_some_iff.mp h0).2
    rw [e, List.replicate_succ, List.cons_append, ih (b := b + 1) (fun j h1 h2 => h j (by omega) (by omega)), show b + 1 + n = b + (n + 1) by omega]
theorem rl_at {l : List Nat} {b n c : Nat} (hn : 1 ≤ n) (h : ∀ j, b ≤ j → j < b + n → l[j]? = some c) (he : l[b + n]? ≠ some c) : rl (l.drop b) = (c, n) :: rl (l.drop (b + n)) := by
  rw [drop_run h]
  refine rl_run hn ?_
  rw [List.head?_drop]
  exact he
theorem exq_rl (l : List Nat) : exq (rl l) = l := by
  have key : ∀ (k : Nat) (l : List Nat), l.length ≤ k → exq (rl l) = l := by
    intro k
    induction k with
    | zero =>
      intro l h
      have : l = [] := List.length_eq_zero_iff.mp (by omega)
      subst this
      rw [rl_nil]
      rfl
    | succ k ih =>
      intro l h
      cases l with
      | nil =>
        rw [rl_nil]
        rfl
      | cons c r =>
        rw [rl]
        show List.replicate (1 + (r.takeWhile (· == c)).length) c ++ exq (rl (r.dropWhile (· == c))) = c :: r
        have hl := dropW_le (· == c) r
        simp only [List.length_cons] at h
        rw [ih _ (by omega), Nat.add_comm, List.replicate_succ, List.cons_append]
        congr 1
        rw [tw_eq c r, List.takeWhile_append_dropWhile]
  exact key l.length l (Nat.le_refl _)
theorem rl_mem {l : List Nat} {q : Nat × Nat} (h : q ∈ rl l) : q.1 ∈ l ∧ 1 ≤ q.2 := by
  have key : ∀ (k : Nat) (l : List Nat), l.length ≤ k → ∀ q ∈ rl l, q.1 ∈ l ∧ 1 ≤ q.2 := by
    intro k
    induction k with
    | zero =>
      intro l h q hq
      have : l = [] := List.length_eq_zero_iff.mp (by omega)
      subst this
      rw [rl_nil] at hq
      cases hq
    | succ k ih =>
      intro l h q hq
      cases l with
      | nil =>
        rw [rl_nil] at hq
        cases hq
      | cons c r =>
        rw [rl] at hq
        have hl := dropW_le (· == c) r
        simp only [List.length_cons] at h
        rcases List.mem_cons.mp hq with e | e
        · rw [e]
          exact ⟨List.mem_cons_self, by show 1 ≤ 1 + _; omega⟩
        · obtain ⟨h1, h2⟩ := ih _ (by omega) q e
          exact ⟨List.mem_cons_of_mem _ (List.dropWhile_sublist _ |>.subset h1), h2⟩
  exact key l.length l (Nat.le_refl _) q h
theorem exq_mem_len {rs : List (Nat × Nat)} {q : Nat × Nat} (h : q ∈ rs) : q.2 ≤ (exq rs).length := by
  induction rs with
  | nil => cases h
  | cons p r ih =>
    show q.2 ≤ (List.replicate p.2 p.1 ++ exq r).length
    rw [List.length_append, List.length_replicate]
    rcases List.mem_cons.mp h with e | e
    · rw [e]; omega
    · have := ih e; omega
theorem exq_app (a b : List (Nat × Nat)) : exq (a ++ b) = exq a ++ exq b := by
  unfold exq
  rw [List.flatMap_append]
/-! numbers -/
theorem dg_str : ∀ n, n < 100 → (toString ((n : Nat) : Int) : Str) = SX.S (dg n) := by decide +kernel
theorem dg_int : ∀ n, n < 100 → PySem.intText? (SX.S (dg n)) = some ((n : Nat) : Int) := by decide +kernel
theorem dg_len {n : Nat} : (dg n).length ≤ 2 := by
  unfold dg
  split <;> simp
theorem isup1 : ∀ c, c < 128 → Txt.isupper (SX.S [c]) = decide (65 ≤ c ∧ c ≤ 90) := by decide +kernel
theorem isdg1 : ∀ c, c < 128 → Txt.isdigit (SX.S [c]) = decide (48 ≤ c ∧ c ≤ 57) := by decide +kernel
theorem isdg0 : Txt.isdigit (SX.S []) = false := by decide +kernel
theorem tk_len {q : Nat × Nat} : (tk q).length ≤ 5 := by
  unfold tk
  have := dg_len (n := q.2)
  split
  · rw [List.length_append]; simp only [List.length_cons, List.length_nil]; omega
  · split
    · rw [List.length_append]; simp only [List.length_cons, List.length_nil]; omega
    · simp only [List.length_cons, List.length_nil]; omega
end K9
set_option maxRecDepth 100000
set_option maxHeartbeats 2000000
namespace K9
open PySem PySem.Spec PyProof.Rows L2
theorem fold_rep (c : Nat) : ∀ (n : Nat) (acc : Array Nat), (List.replicate n (SX.S [c]).cps).foldl (· ++ ·) acc = acc ++ (List.replicate n c).toArray
  | 0, acc => by simp
  | n + 1, acc => by
    rw [List.replicate_succ, List.foldl_cons, fold_rep c n]
    apply Array.toList_inj.mp
    simp [List.replicate_succ]
theorem o_mulS {X : Cx} : OpR X (binaryOp .Mult) (fun x y H Q => ∃ (c n : Nat), x = tx [c] ∧ y = .int (n : Int) ∧ 1 ≤ n ∧ n ≤ 100 ∧ Q (tx (List.replicate n c)) H) := by
  intro pins s σ H x y v u Q I rx ry h
  obtain ⟨c, n, rfl, rfl, h1, h2, q⟩ := h
  obtain ⟨t, rfl⟩ := rx
  obtain ⟨t', rfl⟩ := ry
  have hl : (SX.S [c]).length = 1 := tx_len [c]
  refine PySem.P.mul_str ?_ (fun _ _ => ?_) (fun _ _ => ?_) ?_
  · rw [decide_eq_false (by omega), decide_eq_false (by omega)]
    rfl
  · rw [hl]
    have : (1 : Int) ≤ (2 ^ 63 - 1) / (n : Int) := by
      rw [Int.le_ediv_iff_mul_le (by omega)]
      omega
    omega
  · rw [hl]
    exact short24 (by rw [Int.toNat_natCast]; omega)
  · rw [if_neg (by omega)]
    by_cases e : n = 1
    · subst e
      exact ⟨.str (SX.S [c]), H, I, ⟨_, rfl⟩, q⟩
    · have e2 : (((n : Int) == 1) || ((SX.S [c]).length == 0)) = false := by
        rw [hl]
        have : ((n : Int) == 1) = false := by rw [beq_eq_false_iff_ne]; omega
        rw [this]
        rfl
      rw [e2, if_neg Bool.false_ne_true, Int.toNat_natCast, fold_rep]
      have e3 : (#[] ++ (List.replicate n c).toArray : Array Nat) = (List.replicate n c).toArray := by simp
      rw [e3]
      refine ⟨?_, ⟨tx (List.replicate n c), H, I.tok _, ⟨_, rfl⟩, q⟩⟩
      show (SX.S (List.replicate n c)).length ≤ sizeLine
      exact asc_le (by rw [List.length_replicate]; omega)
section
variable {P : Program} {w : World} {K : PySem.W.Frag} {mg : Str → Option Value} {base : Heap}
/-! format_run -/
def spFr : Sp := fun vs H Q _ => ∃ (c n : Nat), vs = [tx [c], .int (n : Int)] ∧ c < 128 ∧ 1 ≤ n ∧ n < 100 ∧ Q (tx (tk (c, n))) H
theorem log_small {n : Nat} (h : n < 100) : ((n : Int)).natAbs.log2 < 1920 := by
  rw [Int.natAbs_natCast]
  have : n.log2 ≤ n := Nat.log2_le_self n
  omega
theorem ok_fr {f : Addr} {fd : FuncData} {k : Nat} (F : Fun K "format_run" "format_run" sFRun f fd) : FnOk P w K mg base CX0 (k + 1) f fd ["sign", "length"] spFr := by
  refine F.ok scFRun (fun vs H Q E h => ?_) (fun cdv A outer s H vs Q E hr h => ?_)
  · obtain ⟨c, n, rfl, _⟩ := h
    rfl
  · obtain ⟨c, n, rfl, hc, h1, h2, q⟩ := h
    refine ⟨_, pss_cons (ps_if (pt_val (pe_m0 PySem.F.slot_str_isupper PySem.F.type_str_isupper mt_isupper (pv 0))) (pss_one (ps_ret (pe_joined (.cons (pe_fmt (pe_lower (pv 0))) (.cons pe_str (.cons (pe_fmt (pv 1)) .nil)))))) pss_nil)
      (pss_cons (ps_if (pt_cmpR op_gt (pv 1) pe_int (nomark _)) (pss_one (ps_ret (pe_joined (.cons (pe_fmt (pv 0)) (.cons pe_str (.cons (pe_fmt (pv 1)) .nil)))))) pss_nil)
      (pss_one (ps_ret (pv 0)))), ?_⟩
    have hd := dg_len (n := n)
    have ee : Str.empty = SX.S [] := by decide
    have e1 : Str.ofString "^-" = SX.S [94, 45] := by decide
    have e2 : Str.ofString "^" = SX.S [94] := by decide
    refine ⟨_, rfl, ⟨_, rfl⟩, _, rfl, rfl, trivial, _, rfl, ?_⟩
    rw [isup1 c hc]
    refine ite2 (fun hu => ?_) (fun hu => ?_)
    · have hu' : 65 ≤ c ∧ c ≤ 90 := of_decide_eq_true hu
      have el : lo1 c = c + 32 := by unfold lo1; rw [if_pos hu']
      refine ⟨_, rfl, ⟨_, rfl⟩, _, rfl, rfl, asc1, .inl ⟨_, rfl, ?_, _, rfl, ?_, _, rfl, ?_, _, rfl, .inr ⟨_, rfl, log_small h2, _, rfl, ?_, ?_⟩⟩⟩
      · rw [lower1 hc]
        exact asc_le (w := [lo1 c]) (by show 1 ≤ 1000; decide)
      · rw [lower1 hc, ee, SX.S_cat]
        exact asc_le (w := [] ++ [lo1 c]) (by show 1 ≤ 1000; decide)
      · rw [lower1 hc, ee, e1, SX.S_cat, SX.S_cat]
        exact asc_le (w := [] ++ [lo1 c] ++ [94, 45]) (by show 3 ≤ 1000; decide)
      · rw [lower1 hc, ee, e1, dg_str n h2, SX.S_cat, SX.S_cat, SX.S_cat]
        exact asc_le (by rw [List.length_append]; simp only [List.length_append, List.length_cons, List.length_nil]; omega)
      · rw [lower1 hc, ee, e1, dg_str n h2, SX.S_cat, SX.S_cat, SX.S_cat, el]
        have e : tk (c, n) = [] ++ [c + 32] ++ [94, 45] ++ dg n := by
          unfold tk
          rw [if_pos hu']
          rfl
        rw [e] at q
        exact q
    · have hu' : ¬ (65 ≤ c ∧ c ≤ 90) := fun z => hu (decide_eq_true z)
      refine ⟨_, rfl, _, _, rfl, rfl, _, rfl, ite2 (fun hn => ?_) (fun hn => ?_)⟩
      · have hn' : 1 < n := by have z : (1 : Int) < (n : Int) := of_decide_eq_true hn; omega
        refine ⟨_, rfl, .inl ⟨_, rfl, asc_le (w := [c]) (by show 1 ≤ 1000; decide), _, rfl, ?_, _, rfl, ?_, _, rfl, .inr ⟨_, rfl, log_small h2, _, rfl, ?_, ?_⟩⟩⟩
        · rw [ee, SX.S_cat]
          exact asc_le (w := [] ++ [c]) (by show 1 ≤ 1000; decide)
        · rw [ee, e2, SX.S_cat, SX.S_cat]
          exact asc_le (w := [] ++ [c] ++ [94]) (by show 2 ≤ 1000; decide)
        · rw [ee, e2, dg_str n h2, SX.S_cat, SX.S_cat, SX.S_cat]
          exact asc_le (by rw [List.length_append]; simp only [List.length_append, List.length_cons, List.length_nil]; omega)
        · rw [ee, e2, dg_str n h2, SX.S_cat, SX.S_cat, SX.S_cat]
          have e : tk (c, n) = [] ++ [c] ++ [94] ++ dg n := by
            unfold tk
            rw [if_neg hu', if_pos hn']
            rfl
          rw [e] at q
          exact q
      · have hn' : ¬ 1 < n := fun z => hn (decide_eq_true (by omega))
        have e : tk (c, n) = [c] := by
          unfold tk
          rw [if_neg hu', if_neg hn']
        rw [e] at q
        exact ⟨_, rfl, q⟩
/-! runs_of -/
def RunAt (H : Hp) (v : V) (r : Nat × Nat) : Prop := ∃ a, v = .ref a ∧ H a = some (.tup [tx [r.1], .int (r.2 : Int)])
def RunsAt (H : Hp) (vs : List V) (rs : List (Nat × Nat)) : Prop := vs.length = rs.length ∧ ∀ (i : Nat) (v : V) (r : Nat × Nat), vs[i]? = some v → rs[i]? = some r → RunAt H v r
theorem RunsAt.same {H H' : Hp} {vs : List V} {rs : List (Nat × Nat)} (h : RunsAt H vs rs) (s : ∀ a xs, H a = some (.tup xs) → H' a = some (.tup xs)) : RunsAt H' vs rs :=
  ⟨h.1, fun i v r h1 h2 => by
    obtain ⟨a, e1, e2⟩ := h.2 i v r h1 h2
    exact ⟨a, e1, s _ _ e2⟩⟩
theorem RunsAt.snoc {H : Hp} {vs : List V} {rs : List (Nat × Nat)} {v : V} {r : Nat × Nat} (h : RunsAt H vs rs) (hr : RunAt H v r) : RunsAt H (vs ++ [v]) (rs ++ [r]) := by
  refine ⟨by rw [List.length_append, List.length_append, h.1]; rfl, fun i v' r' h1 h2 => ?_⟩
  by_cases hi : i < vs.length
  · rw [List.getElem?_append_left hi] at h1
    rw [List.getElem?_append_left (by rw [← h.1]; exact hi)] at h2
    exact h.2 i v' r' h1 h2
  · rw [List.getElem?_append_right (Nat.not_lt.mp hi)] at h1
    rw [List.getElem?_append_right (by rw [← h.1]; exact Nat.not_lt.mp hi), ← h.1] at h2
    cases hk : i - vs.length with
    | zero =>
      rw [hk] at h1 h2
      have e1 : v = v' := Option.some.inj h1
      have e2 : r = r' := Option.some.inj h2
      rw [← e1, ← e2]
      exact hr
    | succ k =>
      rw [hk] at h1
      cases h1
def spRuns : Sp := fun vs H Q _ => ∃ l : List Nat, vs = [tx l] ∧ 1 ≤ l.length ∧ l.length ≤ 1000 ∧ ∀ H' p ws, Same H H' → H p = none → H' p = some (.lst ws) → RunsAt H' ws (rl l) → Q (.ref p) H'
theorem atS {l : List Nat} {j c : Nat} (h : l[j]? = some c) : atI (SX.S l).cps.toList (j : Int) = some c := atI_nat (by simpa using h)
theorem ok_runs {f : Addr} {fd : FuncData} {k : Nat} (F : Fun K "runs_of" "runs_of" sRuns f fd) (B : Bn mg) : FnOk P w K mg base CX0 (k + 1) f fd ["word"] spRuns := by
  refine F.ok scRuns (fun vs H Q E h => ?_) (fun cdv A outer s H vs Q E hr h => ?_)
  · obtain ⟨l, rfl, _⟩ := h
    rfl
  · obtain ⟨l, rfl, hl1, hl, q⟩ := h
    refine ⟨_, pss_cons (ps_set (i := 1) scRuns.nd rfl (.inl rfl) (pe_lst pa_nil)) (pss_cons (ps_set (i := 2) scRuns.nd rfl (.inl rfl) pe_int)
      (pss_cons (ps_for PassesOwn.never rfl (pi_range2 (by rfl) B.range (pa_cons pe_int (pa_cons (pe_op op_add (pe_callB call_len (by rfl) B.len PySem.boot_len (pa_cons (pv 0) pa_nil)) pe_int) pa_nil))) (pg_name (i := 3) scRuns.nd rfl (Or.inl rfl))
        (pss_one (ps_if (PW.pt (pw_or (pt_cmpR op_eq (pv 3) (pe_callB call_len (by rfl) B.len PySem.boot_len (pa_cons (pv 0) pa_nil)) (nomark _)) (pw_or1 (pt_cmpR op_ne (pe_ix ix_str (pv 0) (pv 3) (fun _ _ => rfl)) (pe_ix ix_str (pv 0) (pv 2) (fun _ _ => rfl)) (nomark _)))))
          (pss_cons (ps_expr (pe_bm PySem.F.plainAttrs_list PySem.F.slot_list_append PySem.F.type_list_append mt_append (pv 1) (pa_cons (pe_tup (pa_cons (pe_ix ix_str (pv 0) (pv 2) (fun _ _ => rfl)) (pa_cons (pe_op op_sub (pv 3) (pv 2)) pa_nil))) pa_nil)))
          (pss_one (ps_set (i := 2) scRuns.nd rfl (.inl rfl) (pv 3)))) pss_nil)))
      (pss_one (ps_ret (pv 1))))), ?_⟩
    have hS := asc_le hl
    refine ⟨Nat.zero_le _, fun p np => ?_⟩
    refine ⟨_, rfl, _, _, rfl, ⟨hS, rfl⟩, _, _, rfl, rfl, 1, _, rfl, ⟨by decide, by decide, ?_, ?_⟩, ?_⟩
    · rw [tx_len]
      omega
    · rw [tx_len]
      omega
    · have en : (((SX.S l).length : Int) + 1 - 1).toNat = l.length := by
        rw [tx_len]
        omega
      rw [en]
      refine for_it (walk_range (lo := 1) (n := l.length)) (fun i σ H2 => ∃ (b : Nat) (ws : List V) (rs : List (Nat × Nat)) (y : Option V), σ = [some (tx l), some (.ref p), some (.int (b : Int)), y] ∧ Same H H2 ∧ H2 p = some (.lst ws) ∧ RunsAt H2 ws rs ∧ rl l = rs ++ rl (l.drop b) ∧ rs.length ≤ i ∧
          b ≤ i ∧ (b < l.length → ∀ j, b ≤ j → j ≤ i → j < l.length → l[j]? = l[b]?) ∧ (i < l.length → b < l.length) ∧ (i = l.length → b = l.length))
        ⟨0, [], [], none, rfl, same_new np, upd_same, ⟨rfl, fun i v r h => by cases h⟩, rfl, Nat.le_refl _, Nat.le_refl _, fun _ j h1 h2 _ => by rw [show j = 0 by omega], fun _ => by omega, fun h => by omega⟩ (fun _ _ _ _ _ => trivial) ?_ ?_
      · rintro i x σ H2 H2' hi ⟨b, ws, rs, y, rfl, sm, hp, hR, hrl, hle, hb, hrun, hbl, _⟩ ⟨rfl, hx⟩
        have hbl' := hbl hi
        have hrun' := hrun hbl'
        obtain ⟨cb, hcb⟩ : ∃ c, l[b]? = some c := ⟨_, List.getElem?_eq_getElem hbl'⟩
        have ei : (1 : Int) + (i : Int) = ((i + 1 : Nat) : Int) := by omega
        obtain rfl : x = .int ((i + 1 : Nat) : Int) := hx.trans (congrArg V.int ei)
        -- the run is closed
        have close : (l[i + 1]? ≠ some cb) → ∀ D : Ends, (∀ (ws' : List V) (rs' : List (Nat × Nat)) (H3 : Hp), Same H H3 → H3 p = some (.lst ws') → RunsAt H3 ws' rs' → rl l = rs' ++ rl (l.drop (i + 1)) → rs'.length ≤ i + 1 → D.nx [some (tx l), some (.ref p), some (.int ((i + 1 : Nat) : Int)), some (.int ((i + 1 : Nat) : Int))] H3) →
            tSeq (tDrop (tBM K "list" rAppend (tVar 1) (tCons (tTup (tCons (tOp rIxS (tVar 0) (tVar 2)) (tCons (tOp (rI0 fun i j => .int (i - j)) (tVar 3) (tVar 2)) tNil))) tNil))) (tAsg (tVar 3) (gName 2)) D [some (tx l), some (.ref p), some (.int (b : Int)), some (.int ((i + 1 : Nat) : Int))] H2' := by
          intro hne D nx
          refine ⟨_, rfl, .inl ⟨rfl, _, SqL.of hp⟩, _, rfl, _, rfl, _, _, cb, rfl, rfl, hS, atS hcb, _, rfl, _, rfl, _, _, rfl, rfl, (by show 2 ≤ sizeLine; decide), fun T nT => ?_⟩
          have sT : Same H2' (upd H2' T (.tup [tx [cb], .int (((i + 1 : Nat) : Int) - (b : Int))])) := same_new nT
          have hp2 := sT _ _ hp
          refine ⟨p, ws, _, rfl, rfl, hp2, ?_, ?_⟩
          · rw [hR.1]
            exact small1000 (by omega)
          · have nTp : T ≠ p := fun e => by
              rw [e, hp] at nT
              cases nT
            have keep : ∀ a xs, H2' a = some (.tup xs) → upd (upd H2' T (.tup [tx [cb], .int (((i + 1 : Nat) : Int) - (b : Int))])) p (.lst (ws ++ [.ref T])) a = some (.tup xs) := fun a xs e => by
              rw [upd_ne (fun z => by rw [z, hp] at e; cases e)]
              exact sT _ _ e
            refine ⟨_, rfl, nx (ws ++ [.ref T]) (rs ++ [(cb, i + 1 - b)]) _ (fun a o e => ?_) upd_same ((hR.same keep).snoc ⟨T, rfl, ?_⟩) ?_ ?_⟩
            · rw [upd_ne (ne_of_none e np)]
              exact sT _ _ (sm _ _ e)
            · rw [upd_ne nTp, upd_same]
              have e : ((i + 1 : Nat) : Int) - (b : Int) = ((i + 1 - b : Nat) : Int) := by omega
              rw [e]
            · rw [hrl, rl_at (l := l) (b := b) (n := i + 1 - b) (c := cb) (by omega) (fun j h1 h2 => (hrun' j h1 (by omega) (by omega)).trans hcb) (by rw [show b + (i + 1 - b) = i + 1 by omega]; exact hne), show b + (i + 1 - b) = i + 1 by omega, List.append_assoc]
              rfl
            · rw [List.length_append]
              show rs.length + 1 ≤ i + 1
              omega
        have fin : ∀ (ws' : List V) (rs' : List (Nat × Nat)) (H3 : Hp), Same H H3 → H3 p = some (.lst ws') → RunsAt H3 ws' rs' → rl l = rs' ++ rl (l.drop (i + 1)) → rs'.length ≤ i + 1 → ∃ (b : Nat) (ws : List V) (rs : List (Nat × Nat)) (y : Option V), [some (tx l), some (.ref p), some (.int ((i + 1 : Nat) : Int)), some (.int ((i + 1 : Nat) : Int))] = [some (tx l), some (.ref p), some (.int (b : Int)), y] ∧ Same H H3 ∧ H3 p = some (.lst ws) ∧ RunsAt H3 ws rs ∧ rl l = rs ++ rl (l.drop b) ∧ rs.length ≤ i + 1 ∧
            b ≤ i + 1 ∧ (b < l.length → ∀ j, b ≤ j → j ≤ i + 1 → j < l.length → l[j]? = l[b]?) ∧ (i + 1 < l.length → b < l.length) ∧ (i + 1 = l.length → b = l.length) :=
          fun ws' rs' H3 g1 g2 g3 g4 g5 => ⟨i + 1, ws', rs', _, rfl, g1, g2, g3, g4, g5, Nat.le_refl _, fun _ j h1 h2 _ => by rw [show j = i + 1 by omega], fun h => h, fun h => h⟩
        refine ⟨_, rfl, _, rfl, _, _, rfl, ⟨hS, rfl⟩, rfl, _, rfl, ite2 (fun e => ?_) (fun e => ?_)⟩
        · have e1 : i + 1 = l.length := by
            have z := V.int.inj (of_decide_eq_true e)
            rw [tx_len] at z
            omega
          exact iteT (close (by rw [List.getElem?_eq_none (by omega)]; exact fun z => by cases z) _ fin)
        · have e1 : i + 1 ≠ l.length := fun z => e (decide_eq_true (by rw [tx_len]; congr 1; omega))
          have hlt : i + 1 < l.length := by omega
          obtain ⟨ca, hca⟩ : ∃ c, l[i + 1]? = some c := ⟨_, List.getElem?_eq_getElem hlt⟩
          refine ⟨_, rfl, _, rfl, _, _, ca, rfl, rfl, hS, atS hca, _, rfl, _, rfl, _, _, cb, rfl, rfl, hS, atS hcb, rfl, _, rfl, ite2 (fun e2 => ?_) (fun e2 => ?_)⟩
          · refine close (fun z => ?_) _ fin
            rw [hca] at z
            cases z
            simp at e2
          · have e3 : ca = cb := by
              have z : ¬ (V.str ⟨#[ca]⟩ ≠ V.str ⟨#[cb]⟩) := fun hn => e2 (by simpa using hn)
              have z2 : tx [ca] = tx [cb] := Classical.not_not.mp z
              have z3 := SX.S_inj (V.str.inj z2)
              simpa using z3
            refine ⟨b, ws, rs, _, rfl, sm, hp, hR, hrl, by omega, by omega, fun _ j h1 h2 h3 => ?_, fun _ => hbl', fun z => absurd z e1⟩
            by_cases hj : j ≤ i
            · exact hrun' j h1 hj h3
            · rw [show j = i + 1 by omega, hca, hcb, e3]
      · rintro σ H2 ⟨b, ws, rs, y, rfl, sm, hp, hR, hrl, hle, hb, hrun, hbl, hend⟩
        have eb := hend rfl
        rw [eb, List.drop_length, rl_nil, List.append_nil] at hrl
        rw [← hrl] at hR
        exact ⟨_, rfl, q H2 p ws sm np hp hR⟩
end
end K9
set_option maxRecDepth 100000
set_option maxHeartbeats 2000000
namespace K9
open PySem PySem.Spec PyProof.Rows L2
theorem rl_len (l : List Nat) : (rl l).length ≤ l.length := by
  have key : ∀ (k : Nat) (l : List Nat), l.length ≤ k → (rl l).length ≤ l.length := by
    intro k
    induction k with
    | zero =>
      intro l h
      have : l = [] := List.length_eq_zero_iff.mp (by omega)
      subst this
      rw [rl_nil]
      exact Nat.le_refl _
    | succ k ih =>
      intro l h
      cases l with
      | nil =>
        rw [rl_nil]
        exact Nat.le_refl _
      | cons c r =>
        rw [rl]
        have hl := dropW_le (· == c) r
        simp only [List.length_cons] at h
        have := ih _ (show (r.dropWhile (· == c)).length ≤ k by omega)
        simp only [List.length_cons]
        omega
  exact key l.length l (Nat.le_refl _)
theorem rl_bound {l : List Nat} {q : Nat × Nat} (h : q ∈ rl l) (hl : l.length < 100) : q.2 < 100 := by
  have := exq_mem_len h
  rw [exq_rl] at this
  omega
theorem sum_le5 : ∀ rs : List (Nat × Nat), (((rs.map tk).map SX.S).map (·.length)).sum ≤ 5 * rs.length
  | [] => Nat.le_refl _
  | q :: r => by
    have := sum_le5 r
    have h := tk_len (q := q)
    simp only [List.map_cons, List.sum_cons, List.length_cons]
    rw [tx_len]
    omega
theorem join32 (ys : List (List Nat)) : Txt.join (Str.ofString " ") (ys.map SX.S) = SX.S (TL.joinL [32] ys) := by
  have e : Str.ofString " " = SX.S [32] := by decide
  rw [e, SX.join_S]
theorem len32 : (Str.ofString " ").length = 1 := by decide
theorem one49 : Str.ofString "1" = SX.S [49] := by decide
theorem rl_ne {l : List Nat} (h : l ≠ []) : rl l ≠ [] := by
  cases l with
  | nil => exact absurd rfl h
  | cons c r =>
    rw [rl]
    exact List.cons_ne_nil _ _
section
variable {P : Program} {w : World} {K : PySem.W.Frag} {mg : Str → Option Value} {base : Heap}
/-- ' '.join of the texts of runs -/
theorem join_toks {H : Hp} {D : Addr} {rs : List (Nat × Nat)} {Q : VK} (hl : rs.length ≤ 1000) (hne : rs ≠ []) (hD : H D = some (.lst (rs.map fun q => tx (tk q)))) (q : Q (tx (txq rs)) H) :
    ∃ a p, ∃ ys : List Str, V.str (Str.ofString " ") = .str a ∧ [V.ref D] = [.ref p] ∧ (SqL K H p (ys.map V.str) ∨ SqT K H p (ys.map V.str)) ∧ (ys.map (·.length)).sum + ys.length * a.length ≤ 16777216 ∧ Q (.str (Txt.join a ys)) H := by
  refine ⟨_, D, (rs.map tk).map SX.S, rfl, rfl, .inl (SqL.of ?_), ?_, ?_⟩
  · rw [hD, List.map_map, List.map_map]
    rfl
  · have := sum_le5 rs
    rw [len32, List.length_map, List.length_map]
    omega
  · rw [join32]
    have e : txq rs = TL.joinL [32] (rs.map tk) := if_neg hne
    rw [e] at q
    exact q
/-! format_word -/
def spFw : Sp := fun vs H Q _ => ∃ l : List Nat, vs = [tx l] ∧ l.length < 100 ∧ Asc l ∧ ∀ H', Same H H' → Q (tx (txq (rl l))) H'
theorem ok_fw {f fR fF : Addr} {fd fdR fdF : FuncData} {k : Nat} (F : Fun K "format_word" "format_word" sFWord f fd)
    (GR : FnOk P w K mg base CX0 (k + 1) fR fdR ["word"] spRuns) (kR : PySem.W.keepIn K (.ref fR) = true) (bR : Binds K fdR ["word"] []) (gR : mg "runs_of" = some (.ref fR))
    (GF : FnOk P w K mg base CX0 (k + 1) fF fdF ["sign", "length"] spFr) (kF : PySem.W.keepIn K (.ref fF) = true) (bF : Binds K fdF ["sign", "length"] []) (gF : mg "format_run" = some (.ref fF)) :
    FnOk P w K mg base CX0 (k + 2) f fd ["word"] spFw := by
  refine F.ok scFWord (fun vs H Q E h => ?_) (fun cdv A outer s H vs Q E hr h => ?_)
  · obtain ⟨l, rfl, _⟩ := h
    rfl
  · obtain ⟨l, rfl, hl, hA, q⟩ := h
    refine ⟨_, pss_cons (ps_if (pt_cmpR op_eq (pv 0) pe_str (nomark _)) (pss_one (ps_ret pe_str)) pss_nil)
      (pss_one (ps_ret (pe_join pe_str (pe_lc (own := [("sign", 1), ("length", 2)]) (g := gTup K 2 (gCons (gName 1) (gCons (gName 2) gNil))) (tt := tYes) (te := tCall spFr [] E0 (tCons (tVar 1) (tCons (tVar 2) tNil))) rfl scFWord.nd (pi_list (pe_call GR hr (by rfl) gR kR bR .nil pass0 (pa_cons (pv 0) pa_nil)))
        (blkOk_by (N := ["word", "sign", "length"]) (sc := defScope sFWord) (by decide +kernel)) (fun _ _ _ _ _ => pg_tup rfl (pgs_cons (pg_name (i := 1) scFWord.nd rfl (.inl rfl)) (pgs_cons (pg_name (i := 2) scFWord.nd rfl (.inl rfl)) pgs_nil))) (fun _ _ _ _ _ => pts_nil)
        (fun _ _ _ _ _ => pe_call GF hr (by rfl) gF kF bF .nil pass0 (pa_cons (pv 1) (pa_cons (pv 2) pa_nil))))))), ?_⟩
    refine ⟨_, rfl, rfl, _, rfl, ite2 (fun e => ?_) (fun e => ?_)⟩
    · have e1 : l = [] := by
        have z : tx l = .str (Str.ofString "") := of_decide_eq_true e
        rw [e0S] at z
        exact SX.S_inj (V.str.inj z)
      subst e1
      have z := q H (Same.refl _)
      rw [rl_nil] at z
      show Q (.str (Str.ofString "1")) H
      rw [one49]
      exact z
    · have hne : l ≠ [] := fun z => e (by rw [z, e0S]; exact decide_eq_true rfl)
      have hl1 : 1 ≤ l.length := List.length_pos_iff.mpr hne
      have hrl := rl_len l
      refine ⟨⟨_, rfl⟩, _, rfl, l, rfl, hl1, by omega, fun H1 p ws s1 np hp hR => ⟨p, rfl, ⟨_, SqL.of hp⟩, fun D nD => ?_⟩⟩
      refine lc_it (walk_list (K := K) (a := p) (xs := ws)) (fun i H2 => Same H1 H2 ∧ H2 D = some (.lst (((rl l).take i).map fun q => tx (tk q)))) ⟨same_new nD, upd_same⟩ (fun i H2 _ h => SqL.of (h.1 _ _ hp)) ?_ ?_
      · rintro i x H2 H2' hi ⟨s2, hD⟩ ⟨rfl, hx⟩
        have hi2 : i < (rl l).length := by rw [← hR.1]; exact hi
        have gr : (rl l)[i]? = some (rl l)[i] := List.getElem?_eq_getElem hi2
        obtain ⟨a, rfl, ha⟩ := hR.2 i x _ hx gr
        have hm := List.getElem_mem hi2
        have hb := rl_bound hm hl
        obtain ⟨h1, h2⟩ := rl_mem hm
        generalize (rl l)[i] = r at gr ha hb h1 h2
        refine ⟨a, _, rfl, SqT.of (s2 _ _ ha), rfl, _, _, rfl, _, _, rfl, rfl, rfl, ?_⟩
        dsimp only [tYes]
        rw [if_pos rfl]
        refine ⟨_, rfl, _, rfl, r.1, r.2, rfl, hA _ h1, h2, hb, _, hD, ?_, ?_, ?_⟩
        · rw [List.length_map, List.length_take]
          exact small1000 (by omega)
        · intro b o e
          rw [upd_ne (ne_of_none e nD)]
          exact s2 _ _ e
        · rw [upd_same, take_more gr, List.map_append]
          rfl
      · rintro H2 ⟨s2, hD⟩
        have e2 : ws.length = (rl l).length := hR.1
        rw [e2, List.take_length] at hD
        exact join_toks (by omega) (rl_ne hne) hD (q H2 (s1.trans s2))
end
end K9
set_option maxRecDepth 100000
set_option maxHeartbeats 2000000
namespace K9
open PySem PySem.Spec PyProof.Rows L2
theorem dw_drop (c : Nat) : ∀ r : List Nat, r.dropWhile (· == c) = r.drop (r.takeWhile (· == c)).length
  | [] => rfl
  | a :: r => by
    rw [List.dropWhile_cons, List.takeWhile_cons]
    split
    · rw [List.length_cons, List.drop_succ_cons]
      exact dw_drop c r
    · rfl
theorem strip_len (m : List Nat) (c : Nat) : (Txt.lstripChars (SX.S m) (SX.S [c])).length = m.length - (m.takeWhile (· == c)).length := by
  unfold Txt.lstripChars
  have eg : (SX.S [c]).cps.contains = fun d => d == c := by
    funext d
    by_cases h : d = c <;> simp [h]
  rw [stripBy_eq, eg]
  unfold stripLo stripHi
  rw [if_pos rfl, if_neg Bool.false_ne_true]
  have e1 : (SX.S m).cps.toList = m := rfl
  have hle : (m.takeWhile (· == c)).length ≤ m.length := (List.takeWhile_sublist _).length_le
  rw [e1, tx_len]
  unfold Builtin.Str.strSub
  simp [Str.length]
  try omega
theorem rl_step {l : List Nat} {a c : Nat} (h : l[a]? = some c) : rl (l.drop a) = (c, ((l.drop a).takeWhile (· == c)).length) :: rl (l.drop (a + ((l.drop a).takeWhile (· == c)).length)) ∧ 1 ≤ ((l.drop a).takeWhile (· == c)).length := by
  have ha : a < l.length := (List.getElem?_eq_some_iff.mp h).1
  have e : l.drop a = c :: l.drop (a + 1) := by
    rw [List.drop_eq_getElem_cons ha]
    congr 1
    exact (List.getElem?_eq_some_iff.mp h).2
  have e2 : ((l.drop a).takeWhile (· == c)).length = 1 + ((l.drop (a + 1)).takeWhile (· == c)).length := by
    rw [e, List.takeWhile_cons, beq_self_eq_true]
    show _ + 1 = _
    omega
  refine ⟨?_, by omega⟩
  rw [e2]
  rw [e, rl, dw_drop, List.drop_drop]
  congr 3
  omega
theorem cut_from (l : List Nat) (n : Nat) : cutS (SX.S l) (some (n : Int)) none = SX.S (l.drop n) := by
  unfold cutS
  rw [HT.sIx_none, HT.sIx_nat, tx_len]
  show SX.S ((l.drop (min n l.length)).take (l.length - min n l.length)) = SX.S (l.drop n)
  by_cases h : n ≤ l.length
  · rw [Nat.min_eq_left h, List.take_of_length_le (by rw [List.length_drop]; omega)]
  · rw [Nat.min_eq_right (by omega), List.drop_length, List.drop_eq_nil_of_le (by omega)]
    simp
theorem dpa {K : PySem.W.Frag} {H : Hp} : ∀ rs : List (Nat × Nat), DpAll K H (rs.map fun q => tx (tk q)) (rs.map fun q => PyData.str (SX.S (tk q)))
  | [] => .nil
  | q :: r => .cons (.str _) (dpa r)
theorem tk_asc {q : Nat × Nat} (h : q.1 < 128) (h2 : q.2 < 100) : Asc (tk q) := by
  have hd : Asc (dg q.2) := by
    intro c hc
    unfold dg at hc
    split at hc
    · have : c = 48 + q.2 := by simpa using hc
      omega
    · have : c = 48 + q.2 / 10 ∨ c = 48 + q.2 % 10 := by simpa using hc
      omega
  intro c hc
  unfold tk at hc
  split at hc
  · rcases List.mem_append.mp hc with z | z
    · have : c = q.1 + 32 ∨ c = 94 ∨ c = 45 := by simpa using z
      omega
    · exact hd c z
  · split at hc
    · rcases List.mem_append.mp hc with z | z
      · have : c = q.1 ∨ c = 94 := by simpa using z
        omega
      · exact hd c z
    · have : c = q.1 := by simpa using hc
      omega
theorem canLays : ∀ rs : List (Nat × Nat), (∀ q ∈ rs, Asc (tk q)) → PyData.canLayAll0 (rs.map fun q => PyData.str (SX.S (tk q))) = true
  | [], _ => rfl
  | q :: r, h => by
    show (PyData.canLay0 (.str (SX.S (tk q))) && _) = true
    rw [canLays r (fun p hp => h p (List.mem_cons_of_mem _ hp)), Bool.and_true]
    show ((SX.S (tk q)).cps.all (· < 0x110000)) = true
    rw [← Array.all_toList, List.all_eq_true]
    intro c hc
    have := h q List.mem_cons_self c hc
    exact decide_eq_true (by omega)
theorem depths : ∀ rs : List (Nat × Nat), (PyData.list (rs.map fun q => PyData.str (SX.S (tk q)))).depth ≤ 64 := by
  intro rs
  have e : PyData.depthAll (rs.map fun q => PyData.str (SX.S (tk q))) = 0 := by
    induction rs with
    | nil => rfl
    | cons q r ih =>
      show max 0 (PyData.depthAll (r.map fun q => PyData.str (SX.S (tk q)))) = 0
      rw [ih]
      rfl
  show PyData.depthAll _ + 1 ≤ 64
  rw [e]
  decide
section
variable {P : Program} {w : World} {K : PySem.W.Frag} {mg : Str → Option Value} {base : Heap}
/-! _law_text -/
def spTx : Sp := fun vs H Q _ => ∃ l : List Nat, vs = [tx l] ∧ l.length < 100 ∧ Asc l ∧ ∀ H', Same H H' → Q (tx (txq (rl l))) H'
theorem ok_tx {f : Addr} {fd : FuncData} {k : Nat} (F : Fun K "_law_text" "_law_text" sText f fd) (B : Bn mg) : FnOk P w K mg base CX0 (k + 1) f fd ["_law_one"] spTx := by
  refine F.ok scText (fun vs H Q E h => ?_) (fun cdv A outer s H vs Q E hr h => ?_)
  · obtain ⟨l, rfl, _⟩ := h
    rfl
  · obtain ⟨l, rfl, hl, hA, q⟩ := h
    refine ⟨_, pss_cons (ps_par (i := 1) (j := 2) (by rfl) scText.nd rfl rfl (by decide) rfl rfl (pa_cons (pe_lst pa_nil) (pa_cons pe_int pa_nil)) (by rfl))
      (pss_cons (ps_while PassesOwn.never (pt_cmpR op_lt (pv 2) (pe_callB call_len (by rfl) B.len PySem.boot_len (pa_cons (pv 0) pa_nil)) (nomark _))
        (pss_cons (ps_set (i := 3) scText.nd rfl (.inl rfl) (pe_op op_sub (pe_callB call_len (by rfl) B.len PySem.boot_len (pa_cons (pe_slice sl_str (pv 0) (po_some (pv 2)) po_none) pa_nil))
            (pe_callB call_len (by rfl) B.len PySem.boot_len (pa_cons (pe_m1 PySem.F.slot_str_lstrip PySem.F.type_str_lstrip mt_lstripChars (pe_slice sl_str (pv 0) (po_some (pv 2)) po_none) (pe_ix ix_str (pv 0) (pv 2) (fun _ _ => rfl))) pa_nil))))
        (pss_cons (ps_par (i := 4) (j := 5) (by rfl) scText.nd rfl rfl (by decide) rfl rfl (pa_cons (pe_lower (pe_ix ix_str (pv 0) (pv 2) (fun _ _ => rfl))) (pa_cons (pe_op op_add_str pe_str (pe_callTy call_str_int (by rfl) B.str PyProof.Rows.boot_str (pa_cons (pv 3) pa_nil))) pa_nil)) (by rfl))
        (pss_cons (ps_if (pt_cmpR op_ne (pe_ix ix_str (pv 0) (pv 2) (fun _ _ => rfl)) (pv 4) (nomark _))
            (pss_one (ps_set (i := 5) scText.nd rfl (.inl rfl) (pe_op op_add_str pe_str (pe_callTy call_str_int (by rfl) B.str PyProof.Rows.boot_str (pa_cons (pv 3) pa_nil)))))
            (pss_one (ps_if (pt_cmpR op_eq (pv 3) pe_int (nomark _)) (pss_one (ps_set (i := 5) scText.nd rfl (.inl rfl) pe_str)) pss_nil)))
        (pss_cons (ps_expr (pe_bm PySem.F.plainAttrs_list PySem.F.slot_list_append PySem.F.type_list_append mt_append (pv 1) (pa_cons (pe_op op_add_str (pv 4) (pv 5)) pa_nil)))
        (pss_one (ps_set (i := 2) scText.nd rfl (.inl rfl) (pe_op op_add (pv 2) (pv 3)))))))))
      (pss_one (ps_ret (pe_ifExp (pt_cmpR (op_neD hr.units) (pv 1) (pe_lst pa_nil) (nomark _)) (pe_join pe_str (pv 1)) pe_str)))), ?_⟩
    have hl1000 : l.length ≤ 1000 := by omega
    have hS := asc_le hl1000
    refine ⟨Nat.zero_le _, fun p np => ⟨_, _, rfl, ?_⟩⟩
    refine while_by (fun σ H2 => ∃ (a : Nat) (rs : List (Nat × Nat)) (y3 y4 y5 : Option V), σ = [some (tx l), some (.ref p), some (.int (a : Int)), y3, y4, y5] ∧ Same H H2 ∧ H2 p = some (.lst (rs.map fun q => tx (tk q))) ∧ rl l = rs ++ rl (l.drop a) ∧ a ≤ l.length)
      (fun σ _ => match σ with | [_, _, some (.int a), _, _, _] => l.length - a.toNat | _ => 0) ⟨0, [], none, none, none, rfl, same_new np, upd_same, rfl, Nat.zero_le _⟩ ?_ ?_
    · rintro σ H2 ⟨a, rs, y3, y4, y5, rfl, sm, hp, hrl, hal⟩
      refine ⟨_, rfl, _, rfl, _, _, rfl, ⟨hS, rfl⟩, _, _, rfl, rfl, _, rfl, ite2 (fun e => ?_) (fun e => ?_)⟩
      · have ha : a < l.length := by
          have z : (a : Int) < ((SX.S l).length : Int) := of_decide_eq_true e
          rw [tx_len] at z
          omega
        obtain ⟨c, hc⟩ : ∃ c, l[a]? = some c := ⟨_, List.getElem?_eq_getElem ha⟩
        have hc128 := hA c (List.mem_of_getElem? hc)
        obtain ⟨st, hk1⟩ := rl_step hc
        have hat : atI (SX.S l).cps.toList (a : Int) = some c := atS hc
        have hkl : ((l.drop a).takeWhile (· == c)).length ≤ (l.drop a).length := (List.takeWhile_sublist _).length_le
        have hdl : (l.drop a).length = l.length - a := List.length_drop
        have hsl := strip_len (l.drop a) c
        have hSd : (SX.S (l.drop a)).length ≤ sizeLine := asc_le (by omega)
        generalize hkd : ((l.drop a).takeWhile (· == c)).length = k0 at st hk1 hkl hsl
        have hrsl : rs.length ≤ 1000 := by
          have h1 := rl_len l
          rw [hrl, List.length_append] at h1
          omega
        have hk100 : k0 < 100 := by omega
        have hdgl := dg_len (n := k0)
        have ec : Str.ofString "^" = SX.S [94] := by decide
        have ec2 : Str.ofString "^-" = SX.S [94, 45] := by decide
        -- size
        refine ⟨_, rfl, _, rfl, _, rfl, _, rfl, hS, ?_⟩
        rw [cut_from]
        refine ⟨_, _, rfl, ⟨hSd, rfl⟩, _, rfl, _, rfl, _, rfl, _, rfl, hS, ?_⟩
        rw [cut_from]
        refine ⟨⟨_, rfl⟩, _, rfl, _, rfl, _, _, c, rfl, rfl, hS, hat, _, _, rfl, rfl, hSd, _, _, rfl, ⟨?_, rfl⟩, _, _, rfl, rfl, ?_⟩
        · show (Txt.lstripChars (SX.S (l.drop a)) (SX.S [c])).length ≤ sizeLine
          rw [hsl]
          exact Nat.le_of_lt (small1000 (by omega))
        · have esz : ((SX.S (l.drop a)).length : Int) - ((Txt.lstripChars (SX.S (l.drop a)) (SX.S [c])).length : Int) = (k0 : Int) := by
            rw [hsl, tx_len]
            omega
          have esz' : (fun i j => V.int (i - j)) ((SX.S (l.drop a)).length : Int) ((Txt.lstripChars (SX.S (l.drop a)) ⟨#[c]⟩).length : Int) = V.int (k0 : Int) := congrArg V.int esz
          rw [esz']
          -- letter, text
          refine ⟨_, rfl, _, rfl, _, _, c, rfl, rfl, hS, hat, ⟨_, rfl⟩, _, rfl, rfl, asc1, _, rfl, _, rfl, log_small hk100, _, _, rfl, rfl, ?_, _, _, rfl, ?_⟩
          · rw [dg_str k0 hk100, ec, tx_len, tx_len]
            exact Nat.le_of_lt (small1000 (by simp only [List.length_cons, List.length_nil]; omega))
          · rw [dg_str k0 hk100, ec, SX.S_cat]
            have el : Txt.lower ⟨#[c]⟩ = SX.S [lo1 c] := lower1 hc128
            rw [el]
            refine ⟨_, rfl, _, rfl, _, _, c, rfl, rfl, hS, hat, _, rfl, rfl, _, rfl, ite2 (fun e2 => ?_) (fun e2 => ?_)⟩
            · have hu : 65 ≤ c ∧ c ≤ 90 := by
                apply Classical.byContradiction
                intro hn
                have : lo1 c = c := by unfold lo1; rw [if_neg hn]
                rw [this] at e2
                simp at e2
              have elo : lo1 c = c + 32 := by unfold lo1; rw [if_pos hu]
              refine ⟨_, rfl, _, rfl, log_small hk100, _, _, rfl, rfl, ?_, ?_⟩
              · rw [dg_str k0 hk100, ec2, tx_len, tx_len]
                exact Nat.le_of_lt (small1000 (by simp only [List.length_cons, List.length_nil]; omega))
              · rw [dg_str k0 hk100, ec2, SX.S_cat]
                refine ⟨_, rfl, .inl ⟨rfl, _, SqL.of hp⟩, _, rfl, _, rfl, _, _, rfl, rfl, ?_, p, _, _, rfl, rfl, hp, ?_, ?_⟩
                · rw [tx_len, tx_len]
                  exact Nat.le_of_lt (small1000 (by simp only [List.length_append, List.length_cons, List.length_nil]; omega))
                · rw [List.length_map]
                  exact small1000 (by omega)
                · refine ⟨_, rfl, _, rfl, _, _, rfl, rfl, ⟨a + k0, rs ++ [(c, k0)], some (.int (k0 : Int)), some (tx [lo1 c]), some (tx ([94, 45] ++ dg k0)), ?_, ?_, ?_, ?_, by omega⟩, ?_⟩
                  · rfl
                  · intro b o e3
                    rw [upd_ne (ne_of_none e3 np)]
                    exact sm _ _ e3
                  · rw [upd_same, SX.S_cat, List.map_append]
                    have et : tk (c, k0) = [lo1 c] ++ ([94, 45] ++ dg k0) := by unfold tk; rw [if_pos hu, elo]; rfl
                    show some (HO.lst (_ ++ [tx ([lo1 c] ++ ([94, 45] ++ dg k0))])) = some (HO.lst (_ ++ [tx (tk (c, k0))]))
                    rw [et]
                  · rw [hrl, st, List.append_assoc]
                    rfl
                  · show l.length - ((a : Int) + (k0 : Int)).toNat < l.length - ((a : Int)).toNat
                    omega
            · have hu : ¬ (65 ≤ c ∧ c ≤ 90) := fun hu => by
                have elo : lo1 c = c + 32 := by unfold lo1; rw [if_pos hu]
                apply e2
                have z : V.str ⟨#[c]⟩ ≠ tx [lo1 c] := fun z => by
                  have z2 : tx [c] = tx [lo1 c] := z
                  have z3 := SX.S_inj (V.str.inj z2)
                  have z4 : c = lo1 c := by simpa using z3
                  omega
                simpa using z
              have elo : lo1 c = c := by unfold lo1; rw [if_neg hu]
              refine ⟨_, rfl, rfl, _, rfl, ite2 (fun e3 => ?_) (fun e3 => ?_)⟩
              · have ek : k0 = 1 := by
                  have z : (k0 : Int) = 1 := V.int.inj (of_decide_eq_true e3)
                  omega
                have e0 : (Str.ofString "") = SX.S [] := e0S
                show (tSeq _ _) _ (List.set _ 5 (some (.str (Str.ofString "")))) _
                rw [e0]
                refine ⟨_, rfl, .inl ⟨rfl, _, SqL.of hp⟩, _, rfl, _, rfl, _, _, rfl, rfl, ?_, p, _, _, rfl, rfl, hp, ?_, ?_⟩
                · rw [tx_len, tx_len]
                  exact Nat.le_of_lt (small1000 (by simp only [List.length_append, List.length_cons, List.length_nil]; omega))
                · rw [List.length_map]
                  exact small1000 (by omega)
                · refine ⟨_, rfl, _, rfl, _, _, rfl, rfl, ⟨a + k0, rs ++ [(c, k0)], some (.int (k0 : Int)), some (tx [lo1 c]), some (tx (([] : List Nat))), ?_, ?_, ?_, ?_, by omega⟩, ?_⟩
                  · rfl
                  · intro b o e3
                    rw [upd_ne (ne_of_none e3 np)]
                    exact sm _ _ e3
                  · rw [upd_same, SX.S_cat, List.map_append]
                    have et : tk (c, k0) = [lo1 c] ++ (([] : List Nat)) := by unfold tk; rw [if_neg hu, if_neg (show ¬ 1 < k0 by omega), elo]; rfl
                    show some (HO.lst (_ ++ [tx ([lo1 c] ++ (([] : List Nat)))])) = some (HO.lst (_ ++ [tx (tk (c, k0))]))
                    rw [et]
                  · rw [hrl, st, List.append_assoc]
                    rfl
                  · show l.length - ((a : Int) + (k0 : Int)).toNat < l.length - ((a : Int)).toNat
                    omega
              · have ek : 1 < k0 := by
                  have z : (k0 : Int) ≠ 1 := fun z => e3 (by rw [z]; exact decide_eq_true rfl)
                  omega
                refine ⟨_, rfl, .inl ⟨rfl, _, SqL.of hp⟩, _, rfl, _, rfl, _, _, rfl, rfl, ?_, p, _, _, rfl, rfl, hp, ?_, ?_⟩
                · rw [tx_len, tx_len]
                  exact Nat.le_of_lt (small1000 (by simp only [List.length_append, List.length_cons, List.length_nil]; omega))
                · rw [List.length_map]
                  exact small1000 (by omega)
                · refine ⟨_, rfl, _, rfl, _, _, rfl, rfl, ⟨a + k0, rs ++ [(c, k0)], some (.int (k0 : Int)), some (tx [lo1 c]), some (tx ([94] ++ dg k0)), ?_, ?_, ?_, ?_, by omega⟩, ?_⟩
                  · rfl
                  · intro b o e3
                    rw [upd_ne (ne_of_none e3 np)]
                    exact sm _ _ e3
                  · rw [upd_same, SX.S_cat, List.map_append]
                    have et : tk (c, k0) = [lo1 c] ++ ([94] ++ dg k0) := by unfold tk; rw [if_neg hu, if_pos ek, elo]; rfl
                    show some (HO.lst (_ ++ [tx ([lo1 c] ++ ([94] ++ dg k0))])) = some (HO.lst (_ ++ [tx (tk (c, k0))]))
                    rw [et]
                  · rw [hrl, st, List.append_assoc]
                    rfl
                  · show l.length - ((a : Int) + (k0 : Int)).toNat < l.length - ((a : Int)).toNat
                    omega
      · have ea : a = l.length := by
          have z : ¬ ((a : Int) < ((SX.S l).length : Int)) := fun z => e (decide_eq_true z)
          rw [tx_len] at z
          omega
        rw [ea, List.drop_length, rl_nil, List.append_nil] at hrl
        rw [← hrl] at hp
        have hm : ∀ q ∈ rl l, Asc (tk q) := fun q hq => tk_asc (hA _ (rl_mem hq).1) (rl_bound hq hl)
        have shp : SeqAt.shaped (.list ((rl l).map fun q => PyData.str (SX.S (tk q)))) = true := by
          unfold SeqAt.shaped
          rw [Bool.and_eq_true]
          exact ⟨canLays _ hm, decide_eq_true (depths _)⟩
        refine ⟨_, rfl, Nat.zero_le _, fun p2 np2 => ?_⟩
        have sp2 : Same H2 (upd H2 p2 (.lst [])) := same_new np2
        refine ⟨_, _, .lst (SqL.of (sp2 _ _ hp)) (dpa _), .lst (SqL.of upd_same) .nil, shp, by decide +kernel, ?_⟩
        cases hcs : rl l with
        | nil =>
          refine ⟨false, rfl, iteF ?_⟩
          have z := q _ (sm.trans sp2)
          rw [hcs] at z
          show Q (.str (Str.ofString "1")) _
          rw [one49]
          exact z
        | cons r0 rr =>
          refine ⟨true, rfl, iteT ⟨⟨_, rfl⟩, _, rfl, ?_⟩⟩
          have h1 := rl_len l
          refine join_toks (rs := rl l) (by omega) (by rw [hcs]; exact List.cons_ne_nil _ _) (sp2 _ _ hp) (q _ (sm.trans sp2))
    · rintro σ H Q Q' imp ⟨v, h1, v2, h2, x, n, e1, e2, i, j, e3, e4, k, e5, hq⟩
      exact ⟨v, h1, v2, h2, x, n, e1, e2, i, j, e3, e4, k, e5, imp _ _ hq⟩
end
end K9
set_option maxRecDepth 100000
set_option maxHeartbeats 2000000
namespace K9
open PySem PySem.Spec PyProof.Rows L2
theorem cut_to (l : List Nat) (n : Nat) : cutS (SX.S l) none (some (n : Int)) = SX.S (l.take n) := by
  unfold cutS
  rw [HT.sIx_none, List.drop_zero, Nat.sub_zero, HT.sIx_nat, tx_len]
  show SX.S (l.take (min n l.length)) = SX.S (l.take n)
  by_cases h : n ≤ l.length
  · rw [Nat.min_eq_left h]
  · rw [Nat.min_eq_right (by omega), List.take_length, List.take_of_length_le (by omega)]
theorem cut_two (l : List Nat) (a b : Nat) : cutS (SX.S l) (some (a : Int)) (some (b : Int)) = SX.S ((l.drop a).take (b - a)) := by
  unfold cutS
  rw [HT.sIx_nat, HT.sIx_nat, tx_len]
  show SX.S ((l.drop (min a l.length)).take (min b l.length - min a l.length)) = SX.S ((l.drop a).take (b - a))
  by_cases h : a ≤ l.length
  · rw [Nat.min_eq_left h]
    by_cases h2 : b ≤ l.length
    · rw [Nat.min_eq_left h2]
    · rw [Nat.min_eq_right (by omega), List.take_of_length_le (by rw [List.length_drop]; omega), List.take_of_length_le (by rw [List.length_drop]; omega)]
  · rw [Nat.min_eq_right (show l.length ≤ a by omega), List.drop_length, List.drop_eq_nil_of_le (by omega)]
    simp
/-- the mark at a place -/
def mk (t : List Nat) (a : Nat) : List Nat := (t.drop a).take 1
theorem mk_cases (t : List Nat) (a : Nat) : mk t a = [] ∨ ∃ c, mk t a = [c] := by
  unfold mk
  cases t.drop a with
  | nil => exact .inl rfl
  | cons c r => exact .inr ⟨c, rfl⟩
theorem e_never {X : Cx} {e : Expr} : PE X e (fun _ _ _ => False) := ⟨fun _ _ _ _ _ _ h => h.elim⟩
section
variable {P : Program} {w : World} {K : PySem.W.Frag} {mg : Str → Option Value} {base : Heap}
/-! cut -/
def spCut : Sp := fun vs H Q _ => ∃ l : List Nat, vs = [tx l] ∧ l.length ≤ 400 ∧ Q (tx l) H
theorem ok_cut {f : Addr} {fd : FuncData} {k : Nat} {tL : Tok} (F : Fun K "cut" "cut" sCut f fd) (mL : mg "LONGEST" = some (.int 400 tL)) : FnOk P w K mg base CX0 (k + 1) f fd ["word"] spCut := by
  refine F.ok scCut (fun vs H Q E h => ?_) (fun cdv A outer s H vs Q E hr h => ?_)
  · obtain ⟨l, rfl, _⟩ := h
    rfl
  · obtain ⟨l, rfl, hl, q⟩ := h
    refine ⟨_, pss_one (ps_ret (pe_slice sl_str (pv 0) po_none (po_some (pe_op op_add (pe_glob (v := .int 400) (by rfl) mL ⟨_, rfl⟩) pe_int)))), ?_⟩
    refine ⟨_, rfl, _, _, rfl, rfl, _, rfl, _, rfl, asc_le (by omega), ?_⟩
    have e : cutS (SX.S l) none (some (400 + 1 : Int)) = SX.S l := by
      have z := cut_to l 401
      rw [List.take_of_length_le (by omega)] at z
      exact z
    rw [e]
    exact q
/-! power -/
def spPow : Sp := fun vs H Q _ => ∃ (c n : Nat) (neg : Bool), vs = [tx [c], .int (if neg then -(n : Int) else (n : Int))] ∧ c < 128 ∧ 1 ≤ n ∧ n < 100 ∧ Q (tx (List.replicate n (if neg then sw c else c))) H
theorem ok_pow {f fC fO : Addr} {fd fdC fdO : FuncData} {k : Nat} (F : Fun K "power" "power" sPower f fd) (GC : FnOk P w K mg base CX0 (k + 1) fC fdC ["word"] spCut) (kC : PySem.W.keepIn K (.ref fC) = true) (bC : Binds K fdC ["word"] []) (gC : mg "cut" = some (.ref fC))
    (GO : FnOk P w K mg base CX0 (k + 1) fO fdO ["word"] spOpp) (kO : PySem.W.keepIn K (.ref fO) = true) (bO : Binds K fdO ["word"] []) (gO : mg "opposite" = some (.ref fO)) : FnOk P w K mg base CX0 (k + 2) f fd ["word", "exponent"] spPow := by
  refine F.ok scPower (fun vs H Q E h => ?_) (fun cdv A outer s H vs Q E hr h => ?_)
  · obtain ⟨c, n, neg, rfl, _⟩ := h
    rfl
  · obtain ⟨c, n, neg, rfl, hc, h1, h2, q⟩ := h
    refine ⟨_, pss_cons (ps_if (pt_cmpR op_lt (pv 1) pe_int (nomark _)) (pss_one (ps_ret (pe_call GC hr (by rfl) gC kC bC .nil pass0 (pa_cons (pe_op o_mulS (pe_call GO hr (by rfl) gO kO bO .nil pass0 (pa_cons (pv 0) pa_nil)) (pe_un un_neg (pv 1))) pa_nil)))) pss_nil)
      (pss_one (ps_ret (pe_call GC hr (by rfl) gC kC bC .nil pass0 (pa_cons (pe_op o_mulS (pv 0) (pv 1)) pa_nil)))), ?_⟩
    have ascc : Asc [c] := fun d hd => by
      have e : d = c := by simpa using hd
      omega
    cases neg with
    | true =>
      refine ⟨_, rfl, _, _, rfl, rfl, _, rfl, ite2 (fun _ => ?_) (fun e => absurd (decide_eq_true (show -(n : Int) < 0 by omega)) e)⟩
      refine ⟨_, rfl, [c], rfl, (by show 1 ≤ 1000; decide), ascc, _, rfl, _, rfl, sw c, n, rfl, ?_, h1, by omega, List.replicate n (sw c), rfl, by rw [List.length_replicate]; omega, q⟩
      show V.int (-(-(n : Int))) = V.int (n : Int)
      rw [Int.neg_neg]
    | false =>
      refine ⟨_, rfl, _, _, rfl, rfl, _, rfl, ite2 (fun e => ?_) (fun _ => ?_)⟩
      · have z : (n : Int) < 0 := of_decide_eq_true e
        omega
      · exact ⟨_, rfl, _, rfl, c, n, rfl, rfl, h1, by omega, List.replicate n c, rfl, by rw [List.length_replicate]; omega, q⟩
/-! mark_at -/
def spMk : Sp := fun vs H Q _ => ∃ (t : List Nat) (a : Nat), vs = [tx t, .int (a : Int)] ∧ t.length ≤ 1000 ∧ Q (tx (mk t a)) H
theorem ok_mk {f : Addr} {fd : FuncData} {k : Nat} (F : Fun K "mark_at" "mark_at" sMark f fd) : FnOk P w K mg base CX0 (k + 1) f fd ["text", "at"] spMk := by
  refine F.ok scMark (fun vs H Q E h => ?_) (fun cdv A outer s H vs Q E hr h => ?_)
  · obtain ⟨t, a, rfl, _⟩ := h
    rfl
  · obtain ⟨t, a, rfl, hl, q⟩ := h
    refine ⟨_, pss_one (ps_ret (pe_slice sl_str (pv 0) (po_some (pv 1)) (po_some (pe_op op_add (pv 1) pe_int)))), ?_⟩
    refine ⟨_, rfl, _, rfl, _, rfl, _, rfl, _, _, rfl, rfl, _, rfl, _, rfl, asc_le hl, ?_⟩
    have e : cutS (SX.S t) (some (a : Int)) (some ((a : Int) + 1)) = SX.S (mk t a) := by
      have z := cut_two t a (a + 1)
      rw [show a + 1 - a = 1 by omega] at z
      exact z
    rw [e]
    exact q
/-! behind_spaces -/
def spn (t : List Nat) (a : Nat) : Nat := ((t.drop a).takeWhile (· == 32)).length
def spBs : Sp := fun vs H Q _ => ∃ (t : List Nat) (a : Nat), vs = [tx t, .int (a : Int)] ∧ t.length ≤ 1000 ∧ Q (.int ((a + spn t a : Nat) : Int)) H
theorem spn_cons {t : List Nat} {a : Nat} (h : mk t a = [32]) : spn t a = 1 + spn t (a + 1) := by
  unfold mk at h
  unfold spn
  cases hd : t.drop a with
  | nil => rw [hd] at h; cases h
  | cons c r =>
    rw [hd] at h
    have e : c = 32 := by simpa using h
    have e2 : t.drop (a + 1) = r := by
      have : t.drop (a + 1) = (t.drop a).drop 1 := by rw [List.drop_drop]
      rw [this, hd]
      rfl
    rw [e2, e, List.takeWhile_cons, beq_self_eq_true]
    show _ + 1 = _
    omega
theorem spn_zero {t : List Nat} {a : Nat} (h : mk t a ≠ [32]) : spn t a = 0 := by
  unfold mk at h
  unfold spn
  cases hd : t.drop a with
  | nil => rfl
  | cons c r =>
    rw [hd] at h
    have e : (c == 32) = false := by
      rw [beq_eq_false_iff_ne]
      intro z
      apply h
      rw [z]
      rfl
    rw [List.takeWhile_cons, e]
    rfl
theorem sp32 : Str.ofString " " = SX.S [32] := by decide
theorem ok_bs {f fM : Addr} {fd fdM : FuncData} {k : Nat} (F : Fun K "behind_spaces" "behind_spaces" sSpaces f fd) (GM : FnOk P w K mg base CX0 (k + 1) fM fdM ["text", "at"] spMk) (kM : PySem.W.keepIn K (.ref fM) = true) (bM : Binds K fdM ["text", "at"] []) (gM : mg "mark_at" = some (.ref fM)) :
    FnOk P w K mg base CX0 (k + 2) f fd ["text", "at"] spBs := by
  refine F.ok scSpaces (fun vs H Q E h => ?_) (fun cdv A outer s H vs Q E hr h => ?_)
  · obtain ⟨t, a, rfl, _⟩ := h
    rfl
  · obtain ⟨t, a, rfl, hl, q⟩ := h
    refine ⟨_, pss_cons (ps_while PassesOwn.never (pt_cmpR op_eq (pe_call GM hr (by rfl) gM kM bM .nil pass0 (pa_cons (pv 0) (pa_cons (pv 1) pa_nil))) pe_str (nomark _)) (pss_one (ps_set (i := 1) scSpaces.nd rfl (.inl rfl) (pe_op op_add (pv 1) pe_int))))
      (pss_one (ps_ret (pv 1))), ?_⟩
    refine while_by (fun σ H2 => ∃ b : Nat, σ = [some (tx t), some (.int (b : Int))] ∧ H2 = H ∧ b + spn t b = a + spn t a) (fun σ _ => match σ with | [_, some (.int b)] => spn t b.toNat | _ => 0) ⟨a, rfl, rfl, rfl⟩ ?_ ?_
    · rintro σ H2 ⟨b, rfl, rfl, hb⟩
      refine ⟨_, rfl, _, rfl, t, b, rfl, hl, rfl, _, rfl, ite2 (fun e => ?_) (fun e => ?_)⟩
      · have e1 : mk t b = [32] := by
          have z : tx (mk t b) = .str (Str.ofString " ") := of_decide_eq_true e
          rw [sp32] at z
          exact SX.S_inj (V.str.inj z)
        have e2 := spn_cons e1
        refine ⟨_, rfl, _, _, rfl, rfl, ⟨b + 1, rfl, rfl, by omega⟩, ?_⟩
        show spn t ((b : Int) + 1).toNat < spn t ((b : Int)).toNat
        rw [show ((b : Int) + 1).toNat = b + 1 by omega, show ((b : Int)).toNat = b by omega]
        omega
      · have e1 : mk t b ≠ [32] := fun z => e (by rw [z, sp32]; exact decide_eq_true rfl)
        have e2 := spn_zero e1
        rw [← hb, e2, Nat.add_zero] at q
        exact ⟨_, rfl, q⟩
    · rintro σ H Q Q' imp ⟨v, h1, v2, h2, t', a', e1, e2, e3, k, e4, hq⟩
      exact ⟨v, h1, v2, h2, t', a', e1, e2, e3, k, e4, imp _ _ hq⟩
/-! check_no_digit -/
def spNd : Sp := fun vs H Q _ => ∃ (t : List Nat) (a : Nat), vs = [tx t, .int (a : Int)] ∧ t.length ≤ 1000 ∧ Txt.isdigit (SX.S (mk t a)) = false ∧ Q .non H
theorem ok_nd {f fM : Addr} {fd fdM : FuncData} {k : Nat} (F : Fun K "check_no_digit" "check_no_digit" sNoDigit f fd) (GM : FnOk P w K mg base CX0 (k + 1) fM fdM ["text", "at"] spMk) (kM : PySem.W.keepIn K (.ref fM) = true) (bM : Binds K fdM ["text", "at"] []) (gM : mg "mark_at" = some (.ref fM)) :
    FnOk P w K mg base CX0 (k + 2) f fd ["text", "at"] spNd := by
  refine F.ok scNoDigit (fun vs H Q E h => ?_) (fun cdv A outer s H vs Q E hr h => ?_)
  · obtain ⟨t, a, rfl, _⟩ := h
    rfl
  · obtain ⟨t, a, rfl, hl, hd, q⟩ := h
    refine ⟨_, pss_one (ps_if (pt_val (pe_m0 PySem.F.slot_str_isdigit PySem.F.type_str_isdigit mt_isdigit (pe_call GM hr (by rfl) gM kM bM .nil pass0 (pa_cons (pv 0) (pa_cons (pv 1) pa_nil))))) pss_never pss_nil), ?_⟩
    refine ⟨_, rfl, _, rfl, t, a, rfl, hl, ⟨_, rfl⟩, _, rfl, rfl, trivial, _, rfl, ?_⟩
    rw [hd]
    exact iteF q
/-! begins_atom -/
def spBa : Sp := fun vs H Q _ => ∃ (t L : List Nat) (a : Nat) (p : Addr) (d : Int), vs = [tx t, .ref p, .int (a : Int), .int d] ∧ t.length ≤ 1000 ∧ H p = some (.lst ((sg L).map one)) ∧
  ((∃ c, mk t a = [c] ∧ (c ∈ sg L ∨ c = 49)) → Q (.bl true) H) ∧ (mk t a = [] → ∀ H', Same H H' → Q (.bl false) H') ∧ (∀ c, mk t a = [c] → c ∉ sg L → c ≠ 49 → False)
theorem ok_ba {f fM : Addr} {fd fdM : FuncData} {k : Nat} (F : Fun K "begins_atom" "begins_atom" sBegins f fd) (GM : FnOk P w K mg base CX0 (k + 1) fM fdM ["text", "at"] spMk) (kM : PySem.W.keepIn K (.ref fM) = true) (bM : Binds K fdM ["text", "at"] []) (gM : mg "mark_at" = some (.ref fM)) :
    FnOk P w K mg base CX0 (k + 2) f fd ["text", "signs", "at", "depth"] spBa := by
  refine F.ok scBegins (fun vs H Q E h => ?_) (fun cdv A outer s H vs Q E hr h => ?_)
  · obtain ⟨t, L, a, p, d, rfl, _⟩ := h
    rfl
  · obtain ⟨t, L, a, p, d, rfl, hl, hp, q1, q2, q3⟩ := h
    refine ⟨_, pss_cons (ps_set (i := 4) scBegins.nd rfl (.inl rfl) (pe_call GM hr (by rfl) gM kM bM .nil pass0 (pa_cons (pv 0) (pa_cons (pv 2) pa_nil))))
      (pss_one (ps_ret (pe_or (pe_cmpR op_in_seq (pv 4) (pv 1) (by rfl)) (pe_or (pe_cmpR op_eq (pv 4) pe_str (nomark _)) (pe_one (pe_and (pe_cmpR op_in_seq (pv 4) (pe_tup (pa_cons pe_str (pa_cons pe_str pa_nil))) (by rfl)) (pe_one e_never))))))), ?_⟩
    have hall : ((sg L).map one).all flatV = true := by
      rw [List.all_eq_true]
      intro v hv
      obtain ⟨d, _, rfl⟩ := List.mem_map.mp hv
      rfl
    refine ⟨_, rfl, _, rfl, t, a, rfl, hl, ?_⟩
    rcases mk_cases t a with h0 | ⟨c, hc⟩
    · have q2 := q2 h0
      rw [h0]
      have hin : inV (tx []) ((sg L).map one) = false := by
        unfold inV
        rw [List.any_eq_false]
        intro v hv
        obtain ⟨d, _, rfl⟩ := List.mem_map.mp hv
        show ¬ ((SX.S [d] == SX.S []) = true)
        rw [SX.S_beq_eq]
        simp
      refine ⟨_, rfl, _, rfl, p, _, rfl, .inl (SqL.of hp), rfl, hall, _, rfl, ?_⟩
      rw [show (if false = true then !inV (tx []) ((sg L).map one) else inV (tx []) ((sg L).map one)) = false from hin]
      refine iteF ⟨_, rfl, rfl, false, congrArg V.bl (by rw [one49]; decide +kernel), iteF ?_⟩
      refine ⟨_, rfl, (by show 2 ≤ sizeLine; decide), fun T nT => ⟨T, _, rfl, .inr (SqT.of upd_same), rfl, rfl, false, congrArg V.bl (by decide +kernel), iteF ?_⟩⟩
      exact q2 _ (same_new nT)
    · rw [hc]
      refine ⟨_, rfl, _, rfl, p, _, rfl, .inl (SqL.of hp), rfl, hall, _, rfl, ?_⟩
      rw [show (if false = true then !inV (tx [c]) ((sg L).map one) else inV (tx [c]) ((sg L).map one)) = decide (c ∈ sg L) from mem_in (w := [])]
      refine ite2 (fun e => ?_) (fun e => ?_)
      · exact q1 ⟨c, hc, .inl (of_decide_eq_true e)⟩
      · by_cases h49 : c = 49
        · subst h49
          refine ⟨_, rfl, rfl, true, congrArg V.bl (by rw [one49]; decide +kernel), iteT ?_⟩
          exact q1 ⟨49, hc, .inr rfl⟩
        · exact (q3 c hc (fun z => e (decide_eq_true z)) h49).elim
end
end K9
set_option maxRecDepth 100000
set_option maxHeartbeats 2000000
namespace K9
open PySem PySem.Spec PyProof.Rows L2
theorem drop_app {t x y : List Nat} {b : Nat} (h : t.drop b = x ++ y) : t.drop (b + x.length) = y := by
  rw [← List.drop_drop, h, List.drop_left]
theorem mk_of {t x : List Nat} {b c : Nat} (h : t.drop b = c :: x) : mk t b = [c] := by
  unfold mk
  rw [h]
  rfl
theorem mk_nil {t : List Nat} {b : Nat} (h : t.drop b = []) : mk t b = [] := by
  unfold mk
  rw [h]
  rfl
/-- what may follow a factor -/
def Tl (tl : List Nat) : Prop := tl = [] ∨ ∃ r, tl = 32 :: r
theorem Tl.nodig {t tl : List Nat} {b : Nat} (h : Tl tl) (hd : t.drop b = tl) : Txt.isdigit (SX.S (mk t b)) = false := by
  rcases h with e | ⟨r, e⟩
  · rw [mk_nil (hd.trans e)]
    exact isdg0
  · rw [mk_of (hd.trans e), isdg1 32 (by decide)]
    decide
theorem dash : Str.ofString "-" = SX.S [45] := by decide
theorem zero48 : Str.ofString "0" = SX.S [48] := by decide
theorem tx_eq {a b : List Nat} : decide (tx a = tx b) = decide (a = b) := by
  by_cases h : a = b
  · subst h
    rw [decide_eq_true rfl, decide_eq_true rfl]
  · rw [decide_eq_false h, decide_eq_false (fun z => h (SX.S_inj (V.str.inj z)))]
section
variable {P : Program} {w : World} {K : PySem.W.Frag} {mg : Str → Option Value} {base : Heap}
/-! read_exponent -/
def spEx : Sp := fun vs H Q _ => ∃ (t tl : List Nat) (a n : Nat) (neg : Bool), vs = [tx t, .int (a : Int)] ∧ t.length ≤ 1000 ∧ t.drop a = (if neg then [45] else []) ++ (dg n ++ tl) ∧ 1 ≤ n ∧ n < 100 ∧ Tl tl ∧
  ∀ T, H T = none → Q (.ref T) (upd H T (.tup [.int (if neg then -(n : Int) else (n : Int)), .int ((a + (if neg then 1 else 0) + (dg n).length : Nat) : Int)]))
theorem ok_ex {f fM fN : Addr} {fd fdM fdN : FuncData} {k : Nat} (F : Fun K "read_exponent" "read_exponent" sRExp f fd) (B : Bn mg) (GM : FnOk P w K mg base CX0 (k + 1) fM fdM ["text", "at"] spMk) (kM : PySem.W.keepIn K (.ref fM) = true) (bM : Binds K fdM ["text", "at"] []) (gM : mg "mark_at" = some (.ref fM))
    (GN : FnOk P w K mg base CX0 (k + 2) fN fdN ["text", "at"] spNd) (kN : PySem.W.keepIn K (.ref fN) = true) (bN : Binds K fdN ["text", "at"] []) (gN : mg "check_no_digit" = some (.ref fN)) :
    FnOk P w K mg base CX0 (k + 3) f fd ["text", "at"] spEx := by
  refine F.ok scRExp (fun vs H Q E h => ?_) (fun cdv A outer s H vs Q E hr h => ?_)
  · obtain ⟨t, tl, a, n, neg, rfl, _⟩ := h
    rfl
  · obtain ⟨t, tl, a, n, neg, rfl, hl, hd, h1, h2, hT, q⟩ := h
    have r1 : Room (k + 1) (A.deeper (envOfC "read_exponent" (defScope sRExp) s.heap.objs.size f cdv)) := hr.mono (by omega)
    obtain ⟨t2, P2, R2⟩ : ∃ t2, PSs (cxOf CX0 P w K mg base ["text", "at", "minus", "begin", "first", "end", "number"] "read_exponent" (defScope sRExp) f cdv A outer s H E).nox ((defBody sRExp).drop 2) t2 ∧
        ∀ (b : Nat), t.drop b = dg n ++ tl → b + (dg n).length = a + (if neg then 1 else 0) + (dg n).length → t2 { nx := fun _ H' => Q .non H', rt := Q } [some (tx t), some (.int (a : Int)), some (.bl neg), some (.int (b : Int)), none, none, none] H := by
      refine ⟨_, pss_cons (ps_set (i := 4) scRExp.nd rfl (.inl rfl) (pe_call GM r1 (by rfl) gM kM bM .nil pass0 (pa_cons (pv 0) (pa_cons (pv 3) pa_nil))))
        (pss_cons (ps_if (PW.pt (pw_or (pt_not (pt_val (pe_m0 PySem.F.slot_str_isdigit PySem.F.type_str_isdigit mt_isdigit (pv 4)))) (pw_or1 (PW.pt (pw_and (pt_val (pv 2)) (pw_and1 (pt_cmpR op_eq (pv 4) pe_str (nomark _)))))))) pss_never pss_nil)
        (pss_cons (ps_set (i := 5) scRExp.nd rfl (.inl rfl) (pe_op op_add (pv 3) pe_int))
        (pss_cons (ps_if (PW.pt (pw_and (pt_cmpR op_ne (pv 4) pe_str (nomark _)) (pw_and1 (pt_val (pe_m0 PySem.F.slot_str_isdigit PySem.F.type_str_isdigit mt_isdigit (pe_call GM r1 (by rfl) gM kM bM .nil pass0 (pa_cons (pv 0) (pa_cons (pv 5) pa_nil)))))))) (pss_one (ps_set (i := 5) scRExp.nd rfl (.inl rfl) (pe_op op_add (pv 5) pe_int))) pss_nil)
        (pss_cons (ps_expr (pe_call GN hr (by rfl) gN kN bN .nil pass0 (pa_cons (pv 0) (pa_cons (pv 5) pa_nil))))
        (pss_cons (ps_set (i := 6) scRExp.nd rfl (.inl rfl) (pe_callTy call_int_str (by rfl) B.int boot_int (pa_cons (pe_slice sl_str (pv 0) (po_some (pv 3)) (po_some (pv 5))) pa_nil)))
        (pss_one (ps_ret (pe_tup (pa_cons (pe_ifExp (pt_val (pv 2)) (pe_un un_neg (pv 6)) (pv 6)) (pa_cons (pv 5) pa_nil)))))))))), ?_⟩
      intro b hb hbe
      -- the end: a number is read from b to e
      have fin : ∀ (e : Nat) (y4 : Option V) (D : Ends), D.rt = Q → e = b + (dg n).length →
          tSeq (tDrop (tCall spNd [] E0 (tCons (tVar 0) (tCons (tVar 5) tNil)))) (tSeq (tAsg (tCB (fun xs H Q => ∃ a n, xs = [.str a] ∧ PySem.intText? a = some n ∧ a.length ≤ 640 ∧ Q (.int n) H) (tCons (tSl rSlS (tVar 0) (tPart (tVar 3)) (tPart (tVar 5))) tNil)) (gName 6))
            (tRet (tTup (tCons (tIf (tB (tVar 2)) (tUn (rU fun i => .int (-i)) (tVar 6)) (tVar 6)) (tCons (tVar 5) tNil))))) D [some (tx t), some (.int (a : Int)), some (.bl neg), some (.int (b : Int)), y4, some (.int (e : Int)), none] H := by
        intro e y4 D hD he
        subst he
        refine ⟨_, rfl, _, rfl, t, _, rfl, hl, hT.nodig (drop_app hb), ?_⟩
        refine ⟨_, rfl, _, rfl, _, rfl, _, rfl, _, rfl, _, rfl, asc_le hl, ?_⟩
        have ec : cutS (SX.S t) (some (b : Int)) (some ((b + (dg n).length : Nat) : Int)) = SX.S (dg n) := by
          rw [cut_two, hb, show b + (dg n).length - b = (dg n).length by omega, List.take_left]
        rw [ec]
        have hdl := dg_len (n := n)
        refine ⟨_, _, rfl, dg_int n h2, by rw [tx_len]; omega, ?_⟩
        rw [hbe]
        have q' : ∀ T, H T = none → D.rt (.ref T) (upd H T (.tup [.int (if neg then -(n : Int) else (n : Int)), .int ((a + (if neg then 1 else 0) + (dg n).length : Nat) : Int)])) := by
          rw [hD]
          exact q
        cases neg with
        | true => exact ⟨_, rfl, true, rfl, iteT ⟨_, rfl, _, rfl, _, rfl, (by show 2 ≤ sizeLine; decide), q'⟩⟩
        | false => exact ⟨_, rfl, false, rfl, iteF ⟨_, rfl, _, rfl, (by show 2 ≤ sizeLine; decide), q'⟩⟩
      obtain ⟨f0, em, hfa, hfb, hdd⟩ : ∃ f0, mk t b = [f0] ∧ 49 ≤ f0 ∧ f0 ≤ 57 ∧ ((Txt.isdigit (SX.S (mk t (b + 1))) = false ∧ (dg n).length = 1) ∨ (Txt.isdigit (SX.S (mk t (b + 1))) = true ∧ (dg n).length = 2)) := by
        by_cases h10 : n < 10
        · have ed : dg n = [48 + n] := if_pos h10
          have hb' : t.drop b = (48 + n) :: tl := by rw [hb, ed]; rfl
          have hend : t.drop (b + 1) = tl := by
            have z := drop_app hb
            rw [ed] at z
            exact z
          exact ⟨48 + n, mk_of hb', by omega, by omega, .inl ⟨hT.nodig hend, by rw [ed]; rfl⟩⟩
        · have ed : dg n = [48 + n / 10, 48 + n % 10] := if_neg h10
          have hb' : t.drop b = (48 + n / 10) :: (48 + n % 10) :: tl := by rw [hb, ed]; rfl
          have hend : t.drop (b + 1) = (48 + n % 10) :: tl := drop_app (x := [48 + n / 10]) hb'
          refine ⟨48 + n / 10, mk_of hb', by omega, by omega, .inr ⟨?_, by rw [ed]; rfl⟩⟩
          rw [mk_of hend, isdg1 _ (by omega)]
          exact decide_eq_true (by omega)
      refine ⟨_, rfl, _, rfl, t, b, rfl, hl, ?_⟩
      rw [em]
      refine ⟨_, rfl, ⟨_, rfl⟩, _, rfl, rfl, trivial, true, congrArg V.bl (by rw [isdg1 _ (by omega)]; exact decide_eq_true (by omega)), iteF ?_⟩
      have h48 : decide (tx [f0] = tx [48]) = false := by
        rw [tx_eq]
        refine decide_eq_false fun z => ?_
        have e : f0 = 48 := by simpa using z
        omega
      have next : ∀ D : Ends, D.rt = Q → tSeq (tAsg (tOp (rI0 fun i j => .int (i + j)) (tVar 3) (tC (.int 1))) (gName 5)) (tSeq (tIfS (tAnd (tTest (tOp rNe (tVar 4) (tC (.str (Str.ofString "0"))))) (tB (tM0 (fun x xs H Q => ∃ a, x = .str a ∧ xs = [] ∧ True ∧ Q (.bl (Txt.isdigit a)) H) (tCall spMk [] E0 (tCons (tVar 0) (tCons (tVar 5) tNil)))))) (tAsg (tOp (rI0 fun i j => .int (i + j)) (tVar 5) (tC (.int 1))) (gName 5)) tNext)
          (tSeq (tDrop (tCall spNd [] E0 (tCons (tVar 0) (tCons (tVar 5) tNil)))) (tSeq (tAsg (tCB (fun xs H Q => ∃ a n, xs = [.str a] ∧ PySem.intText? a = some n ∧ a.length ≤ 640 ∧ Q (.int n) H) (tCons (tSl rSlS (tVar 0) (tPart (tVar 3)) (tPart (tVar 5))) tNil)) (gName 6))
          (tRet (tTup (tCons (tIf (tB (tVar 2)) (tUn (rU fun i => .int (-i)) (tVar 6)) (tVar 6)) (tCons (tVar 5) tNil))))))) D [some (tx t), some (.int (a : Int)), some (.bl neg), some (.int (b : Int)), some (tx [f0]), none, none] H := by
        intro D hD
        refine ⟨_, rfl, _, _, rfl, rfl, _, rfl, rfl, true, ?_, iteT ?_⟩
        · rw [zero48, h48]
          rfl
        · refine ⟨_, rfl, _, rfl, t, b + 1, rfl, hl, ⟨_, rfl⟩, _, rfl, rfl, trivial, _, rfl, ?_⟩
          rcases hdd with ⟨d1, d2⟩ | ⟨d1, d2⟩
          · rw [d1]
            exact iteF (fin (b + 1) _ _ hD (by rw [d2]))
          · rw [d1]
            refine iteT ⟨_, rfl, _, _, rfl, rfl, ?_⟩
            exact fin (b + 2) _ _ hD (by rw [d2])
      cases neg with
      | true =>
        refine ⟨_, rfl, true, rfl, iteT ⟨_, rfl, rfl, false, ?_, iteF ?_⟩⟩
        · rw [zero48]
          exact congrArg V.bl h48
        · exact next _ rfl
      | false => exact ⟨_, rfl, false, rfl, iteF (iteF (next _ rfl))⟩
    refine ⟨_, pss_cons (ps_set (i := 2) scRExp.nd rfl (.inl rfl) (pe_cmpR op_eq (pe_call GM r1 (by rfl) gM kM bM .nil pass0 (pa_cons (pv 0) (pa_cons (pv 1) pa_nil))) pe_str (nomark _)))
      (pss_cons (ps_set (i := 3) scRExp.nd rfl (.inl rfl) (pe_ifExp (pt_val (pv 2)) (pe_op op_add (pv 1) pe_int) (pv 1))) P2), ?_⟩
    refine ⟨_, rfl, _, rfl, t, a, rfl, hl, rfl, ?_⟩
    rw [dash]
    cases neg with
    | true =>
      have hd' : t.drop a = 45 :: (dg n ++ tl) := hd
      have e1 : decide (tx (mk t a) = tx [45]) = true := by
        rw [mk_of hd']
        exact decide_eq_true rfl
      rw [e1]
      refine ⟨_, rfl, true, rfl, iteT ⟨_, rfl, _, _, rfl, rfl, ?_⟩⟩
      exact R2 (a + 1) (drop_app (x := [45]) hd') rfl
    | false =>
      have hd' : t.drop a = dg n ++ tl := hd
      have e1 : decide (tx (mk t a) = tx [45]) = false := by
        rw [tx_eq]
        refine decide_eq_false fun z => ?_
        unfold mk at z
        rw [hd'] at z
        unfold dg at z
        split at z
        · have e : 48 + n = 45 := by simpa using z
          omega
        · have e : 48 + n / 10 = 45 := by simpa using z
          omega
      rw [e1]
      exact ⟨_, rfl, false, rfl, iteF ⟨_, rfl, R2 a hd' rfl⟩⟩
end
end K9
set_option maxRecDepth 100000
set_option maxHeartbeats 2000000
namespace K9
open PySem PySem.Spec PyProof.Rows L2
theorem menu_facts : ∀ c ∈ menu, c < 128 ∧ c ≠ 32 ∧ c ≠ 94 ∧ c ≠ 40 ∧ c ≠ 91 ∧ c ≠ 49 ∧ lo1 c = c ∧ lo1 (c - 32) = c ∧ sw c = c - 32 ∧ ¬ (65 ≤ c ∧ c ≤ 90) ∧ (65 ≤ c - 32 ∧ c - 32 ≤ 90) ∧ c - 32 + 32 = c := by decide
theorem sg_mem {L : List Nat} {x : Nat} (h : x ∈ sg L) : ∃ c ∈ L, x = c ∨ x = c - 32 := by
  obtain ⟨c, hc, hx⟩ := List.mem_flatMap.mp h
  exact ⟨c, hc, by simpa using hx⟩
theorem sg_in {L : List Nat} {c : Nat} (h : c ∈ L) : c ∈ sg L := List.mem_flatMap.mpr ⟨c, h, by simp⟩
theorem sg_asc {L : List Nat} (h : ∀ c ∈ L, c ∈ menu) {x : Nat} (hx : x ∈ sg L) : x < 128 := by
  obtain ⟨c, hc, e⟩ := sg_mem hx
  have := menu_asc c (h c hc)
  omega
/-- the text of a run: a letter alone, or a letter, a caret and an exponent -/
theorem tk_form {L : List Nat} (hL : ∀ c ∈ L, c ∈ menu) {c n : Nat} (hc : c ∈ sg L) (hn : 1 ≤ n) :
    ∃ x ∈ L, (tk (c, n) = [x] ∧ n = 1 ∧ c = x) ∨ ∃ neg : Bool, tk (c, n) = x :: 94 :: ((if neg then [45] else []) ++ dg n) ∧ c = (if neg then sw x else x) := by
  obtain ⟨x, hx, e⟩ := sg_mem hc
  obtain ⟨_, _, _, _, _, _, _, _, f9, f10, f11, f12⟩ := menu_facts x (hL x hx)
  refine ⟨x, hx, ?_⟩
  rcases e with e | e
  · subst e
    by_cases h1 : 1 < n
    · refine .inr ⟨false, ?_, rfl⟩
      unfold tk
      rw [if_neg f10, if_pos h1]
      rfl
    · refine .inl ⟨?_, by omega, rfl⟩
      unfold tk
      rw [if_neg f10, if_neg h1]
  · subst e
    refine .inr ⟨true, ?_, f9.symm⟩
    unfold tk
    rw [if_pos f11]
    show (x - 32 + 32) :: 94 :: 45 :: dg n = _
    rw [f12]
    rfl
def Tx (L tl : List Nat) : Prop := tl = [] ∨ ∃ x r, tl = 32 :: x :: r ∧ x ∈ L
theorem Tx.tl {L tl : List Nat} (h : Tx L tl) : Tl tl := by
  rcases h with h | ⟨x, r, h, _⟩
  · exact .inl h
  · exact .inr ⟨_, h⟩
/-- behind a factor: the spaces, then no caret -/
theorem Tx.skip {L tl t : List Nat} {b : Nat} (hL : ∀ c ∈ L, c ∈ menu) (h : Tx L tl) (hd : t.drop b = tl) : spn t b = (if tl = [] then 0 else 1) ∧ mk t (b + spn t b) ≠ [94] := by
  rcases h with h | ⟨x, r, h, hx⟩
  · subst h
    have e : spn t b = 0 := by unfold spn; rw [hd]; rfl
    refine ⟨by rw [e, if_pos rfl], ?_⟩
    rw [e, Nat.add_zero, mk_nil hd]
    exact fun z => by cases z
  · subst h
    obtain ⟨_, f2, f3, _⟩ := menu_facts x (hL x hx)
    have e : spn t b = 1 := by
      unfold spn
      rw [hd, List.takeWhile_cons, beq_self_eq_true]
      show ((x :: r).takeWhile (· == 32)).length + 1 = 1
      rw [List.takeWhile_cons, show (x == 32) = false by rw [beq_eq_false_iff_ne]; exact f2]
      rfl
    refine ⟨by rw [e, if_neg (List.cons_ne_nil _ _)], ?_⟩
    have hd2 : t.drop (b + 1) = x :: r := drop_app (x := [32]) hd
    rw [e, mk_of hd2]
    intro z
    exact f3 (by simpa using z)
theorem spn_no {t r : List Nat} {b c : Nat} (hd : t.drop b = c :: r) (hc : c ≠ 32) : spn t b = 0 := by
  refine spn_zero ?_
  rw [mk_of hd]
  intro z
  exact hc (by simpa using z)
theorem caret : Str.ofString "^" = SX.S [94] := by decide
theorem par40 : Str.ofString "(" = SX.S [40] := by decide
theorem par91 : Str.ofString "[" = SX.S [91] := by decide
section
variable {P : Program} {w : World} {K : PySem.W.Frag} {mg : Str → Option Value} {base : Heap}
/-! read_atom -/
def spAt : Sp := fun vs H Q _ => ∃ (t L : List Nat) (a : Nat) (p : Addr) (d : Int) (c : Nat) (r wd : List Nat), vs = [tx t, .ref p, .int (a : Int), .int d] ∧ t.length ≤ 1000 ∧ H p = some (.lst ((sg L).map one)) ∧ (∀ c ∈ L, c ∈ menu) ∧
  t.drop a = c :: r ∧ ((c ∈ L ∧ wd = [c]) ∨ (c = 49 ∧ r = [] ∧ wd = [])) ∧ ∀ T, H T = none → Q (.ref T) (upd H T (.tup [tx wd, .int ((a + 1 : Nat) : Int)]))
theorem ok_at {f fB fN : Addr} {fd fdB fdN : FuncData} {k : Nat} (F : Fun K "read_atom" "read_atom" sRAtom f fd) (GB : FnOk P w K mg base CX0 (k + 2) fB fdB ["text", "signs", "at", "depth"] spBa) (kB : PySem.W.keepIn K (.ref fB) = true) (bB : Binds K fdB ["text", "signs", "at", "depth"] []) (gB : mg "begins_atom" = some (.ref fB))
    (GN : FnOk P w K mg base CX0 (k + 2) fN fdN ["text", "at"] spNd) (kN : PySem.W.keepIn K (.ref fN) = true) (bN : Binds K fdN ["text", "at"] []) (gN : mg "check_no_digit" = some (.ref fN)) :
    FnOk P w K mg base CX0 (k + 3) f fd ["text", "signs", "at", "depth"] spAt := by
  refine F.ok scRAtom (fun vs H Q E h => ?_) (fun cdv A outer s H vs Q E hr h => ?_)
  · obtain ⟨t, L, a, p, d, c, r, wd, rfl, _⟩ := h
    rfl
  · obtain ⟨t, L, a, p, d, c, r, wd, rfl, hl, hp, hL, hd, hcs, q⟩ := h
    refine ⟨_, pss_cons (ps_if (pt_not (pt_val (pe_call GB hr (by rfl) gB kB bB .nil pass0 (pa_cons (pv 0) (pa_cons (pv 1) (pa_cons (pv 2) (pa_cons (pv 3) pa_nil))))))) pss_never pss_nil)
      (pss_cons (ps_set (i := 4) scRAtom.nd rfl (.inl rfl) (pe_ix ix_str (pv 0) (pv 2) (fun _ _ => rfl)))
      (pss_cons (ps_if (pt_cmpR op_eq (pv 4) pe_str (nomark _)) pss_never pss_nil)
      (pss_cons (ps_if (pt_cmpR op_eq (pv 4) pe_str (nomark _)) pss_never pss_nil)
      (pss_cons (ps_if (pt_cmpR op_eq (pv 4) pe_str (nomark _))
        (pss_cons (ps_expr (pe_call GN hr (by rfl) gN kN bN .nil pass0 (pa_cons (pv 0) (pa_cons (pe_op op_add (pv 2) pe_int) pa_nil)))) (pss_one (ps_ret (pe_tup (pa_cons pe_str (pa_cons (pe_op op_add (pv 2) pe_int) pa_nil)))))) pss_nil)
      (pss_one (ps_ret (pe_tup (pa_cons (pv 4) (pa_cons (pe_op op_add (pv 2) pe_int) pa_nil))))))))), ?_⟩
    have hm := mk_of hd
    have hat : atI (SX.S t).cps.toList (a : Int) = some c := by
      refine atS ?_
      have z : (t.drop a)[0]? = some c := by rw [hd]; rfl
      rw [List.getElem?_drop] at z
      exact z
    have n4091 : c ≠ 40 ∧ c ≠ 91 := by
      rcases hcs with ⟨h1, _⟩ | ⟨h1, _⟩
      · have := menu_facts c (hL c h1)
        omega
      · omega
    have hS := asc_le hl
    refine ⟨_, rfl, _, rfl, _, rfl, _, rfl, t, L, a, p, d, rfl, hl, hp, fun _ => ⟨true, rfl, iteF ?_⟩, fun h0 => ?_, fun c' hc' h1 h2 => ?_⟩
    · refine ⟨_, rfl, _, rfl, _, _, c, rfl, rfl, hS, hat, ?_⟩
      refine ⟨_, rfl, rfl, false, ?_, iteF ⟨_, rfl, rfl, false, ?_, iteF ?_⟩⟩
      · rw [par40]
        refine congrArg V.bl ((tx_eq (a := [c]) (b := [40])).trans (decide_eq_false fun z => n4091.1 (by simpa using z)))
      · rw [par91]
        refine congrArg V.bl ((tx_eq (a := [c]) (b := [91])).trans (decide_eq_false fun z => n4091.2 (by simpa using z)))
      · rcases hcs with ⟨h1, rfl⟩ | ⟨rfl, rfl, rfl⟩
        · have n49 := (menu_facts c (hL c h1)).2.2.2.2.2.1
          refine ⟨_, rfl, rfl, false, ?_, iteF ?_⟩
          · rw [one49]
            refine congrArg V.bl ((tx_eq (a := [c]) (b := [49])).trans (decide_eq_false fun z => n49 (by simpa using z)))
          · exact ⟨_, rfl, _, rfl, _, _, rfl, rfl, (by show 2 ≤ sizeLine; decide), q⟩
        · refine ⟨_, rfl, rfl, true, ?_, iteT ?_⟩
          · rw [one49]
            exact congrArg V.bl (decide_eq_true rfl)
          · have hd2 : t.drop (a + 1) = [] := drop_app (x := [49]) hd
            refine ⟨_, rfl, _, rfl, _, _, rfl, rfl, t, a + 1, rfl, hl, ?_, ?_⟩
            · rw [mk_nil hd2]
              exact isdg0
            · refine ⟨_, rfl, _, _, rfl, rfl, (by show 2 ≤ sizeLine; decide), ?_⟩
              rw [e0S]
              exact q
    · rw [hm] at h0
      cases h0
    · rw [hm] at hc'
      have e : c = c' := by simpa using hc'
      subst e
      rcases hcs with ⟨h3, _⟩ | ⟨h3, _⟩
      · exact h1 (sg_in h3)
      · exact h2 h3
/-! read_factor -/
def Fac (L t : List Nat) (a : Nat) (wd : List Nat) (e : Nat) : Prop := (t.drop a = [49] ∧ wd = [] ∧ e = a + 1) ∨
  ∃ (c n : Nat) (tl : List Nat), t.drop a = tk (c, n) ++ tl ∧ c ∈ sg L ∧ 1 ≤ n ∧ n < 100 ∧ Tx L tl ∧ wd = List.replicate n c ∧ e = a + (tk (c, n)).length + (if tl = [] then 0 else 1)
def spFa : Sp := fun vs H Q _ => ∃ (t L : List Nat) (a : Nat) (p : Addr) (d : Int) (wd : List Nat) (e : Nat), vs = [tx t, .ref p, .int (a : Int), .int d] ∧ t.length ≤ 1000 ∧ H p = some (.lst ((sg L).map one)) ∧ (∀ c ∈ L, c ∈ menu) ∧ Fac L t a wd e ∧
  ∀ H' T, Same H H' → H T = none → H' T = some (.tup [tx wd, .int (e : Int)]) → Q (.ref T) H'
theorem ok_fa {f fA fS fM fE fP : Addr} {fd fdA fdS fdM fdE fdP : FuncData} {k : Nat} (F : Fun K "read_factor" "read_factor" sRFactor f fd)
    (GA : FnOk P w K mg base CX0 (k + 3) fA fdA ["text", "signs", "at", "depth"] spAt) (kA : PySem.W.keepIn K (.ref fA) = true) (bA : Binds K fdA ["text", "signs", "at", "depth"] []) (gA : mg "read_atom" = some (.ref fA))
    (GS : FnOk P w K mg base CX0 (k + 2) fS fdS ["text", "at"] spBs) (kS : PySem.W.keepIn K (.ref fS) = true) (bS : Binds K fdS ["text", "at"] []) (gS : mg "behind_spaces" = some (.ref fS))
    (GM : FnOk P w K mg base CX0 (k + 1) fM fdM ["text", "at"] spMk) (kM : PySem.W.keepIn K (.ref fM) = true) (bM : Binds K fdM ["text", "at"] []) (gM : mg "mark_at" = some (.ref fM))
    (GE : FnOk P w K mg base CX0 (k + 3) fE fdE ["text", "at"] spEx) (kE : PySem.W.keepIn K (.ref fE) = true) (bE : Binds K fdE ["text", "at"] []) (gE : mg "read_exponent" = some (.ref fE))
    (GP : FnOk P w K mg base CX0 (k + 2) fP fdP ["word", "exponent"] spPow) (kP : PySem.W.keepIn K (.ref fP) = true) (bP : Binds K fdP ["word", "exponent"] []) (gP : mg "power" = some (.ref fP)) :
    FnOk P w K mg base CX0 (k + 4) f fd ["text", "signs", "at", "depth"] spFa := by
  refine F.ok scRFactor (fun vs H Q E h => ?_) (fun cdv A outer s H vs Q E hr h => ?_)
  · obtain ⟨t, L, a, p, d, wd, e, rfl, _⟩ := h
    rfl
  · obtain ⟨t, L, a, p, d, wd, e, rfl, hl, hp, hL, hF, q⟩ := h
    have r1 : Room (k + 1) (A.deeper (envOfC "read_factor" (defScope sRFactor) s.heap.objs.size f cdv)) := hr.mono (by omega)
    have r2 : Room (k + 2) (A.deeper (envOfC "read_factor" (defScope sRFactor) s.heap.objs.size f cdv)) := hr.mono (by omega)
    refine ⟨_, pss_cons (ps_asg (pe_call GA hr (by rfl) gA kA bA .nil pass0 (pa_cons (pv 0) (pa_cons (pv 1) (pa_cons (pv 2) (pa_cons (pv 3) pa_nil))))) (pg_tup rfl (pgs_cons (pg_name (i := 4) scRFactor.nd rfl (.inl rfl)) (pgs_cons (pg_name (i := 2) scRFactor.nd rfl (.inl rfl)) pgs_nil))))
      (pss_cons (ps_set (i := 2) scRFactor.nd rfl (.inl rfl) (pe_call GS r2 (by rfl) gS kS bS .nil pass0 (pa_cons (pv 0) (pa_cons (pv 2) pa_nil))))
      (pss_cons (ps_if (pt_cmpR op_ne (pe_call GM r1 (by rfl) gM kM bM .nil pass0 (pa_cons (pv 0) (pa_cons (pv 2) pa_nil))) pe_str (nomark _)) (pss_one (ps_ret (pe_tup (pa_cons (pv 4) (pa_cons (pv 2) pa_nil))))) pss_nil)
      (pss_cons (ps_asg (pe_call GE hr (by rfl) gE kE bE .nil pass0 (pa_cons (pv 0) (pa_cons (pe_call GS r2 (by rfl) gS kS bS .nil pass0 (pa_cons (pv 0) (pa_cons (pe_op op_add (pv 2) pe_int) pa_nil))) pa_nil))) (pg_tup rfl (pgs_cons (pg_name (i := 5) scRFactor.nd rfl (.inl rfl)) (pgs_cons (pg_name (i := 2) scRFactor.nd rfl (.inl rfl)) pgs_nil))))
      (pss_one (ps_ret (pe_tup (pa_cons (pe_call GP r2 (by rfl) gP kP bP .nil pass0 (pa_cons (pv 4) (pa_cons (pv 5) pa_nil))) (pa_cons (pe_call GS r2 (by rfl) gS kS bS .nil pass0 (pa_cons (pv 0) (pa_cons (pv 2) pa_nil))) pa_nil)))))))), ?_⟩
    rcases hF with ⟨hd, rfl, rfl⟩ | ⟨c, n, tl, hd, hc, hn, hn2, hT, rfl, rfl⟩
    · -- the atom 1
      refine ⟨_, rfl, _, rfl, _, rfl, _, rfl, t, L, a, p, d, 49, [], [], rfl, hl, hp, hL, hd, .inr ⟨rfl, rfl, rfl⟩, fun T nT => ?_⟩
      have hd2 : t.drop (a + 1) = [] := drop_app (x := [49]) hd
      have e0 : spn t (a + 1) = 0 := by unfold spn; rw [hd2]; rfl
      refine ⟨T, _, rfl, SqT.of upd_same, rfl, _, _, rfl, _, _, rfl, rfl, ?_⟩
      refine ⟨_, rfl, _, rfl, t, a + 1, rfl, hl, ?_⟩
      rw [e0, Nat.add_zero]
      refine ⟨_, rfl, _, rfl, t, a + 1, rfl, hl, rfl, true, ?_, iteT ?_⟩
      · rw [mk_nil hd2, caret]
        rfl
      · refine ⟨_, rfl, _, rfl, (by show 2 ≤ sizeLine; decide), fun T2 nT2 => ?_⟩
        exact q _ T2 ((same_new nT).trans (same_new nT2)) ((same_new nT).free nT2) upd_same
    · obtain ⟨x, hx, hform⟩ := tk_form hL hc hn
      obtain ⟨g1, g2, g3, _⟩ := menu_facts x (hL x hx)
      rcases hform with ⟨ht, rfl, rfl⟩ | ⟨neg, ht, hcx⟩
      · -- a letter alone
        rw [ht] at hd q
        refine ⟨_, rfl, _, rfl, _, rfl, _, rfl, t, L, a, p, d, c, tl, [c], rfl, hl, hp, hL, hd, .inl ⟨hx, rfl⟩, fun T nT => ?_⟩
        have hd2 : t.drop (a + 1) = tl := drop_app (x := [c]) hd
        obtain ⟨e0, ne⟩ := hT.skip hL hd2
        refine ⟨T, _, rfl, SqT.of upd_same, rfl, _, _, rfl, _, _, rfl, rfl, ?_⟩
        refine ⟨_, rfl, _, rfl, t, a + 1, rfl, hl, ?_⟩
        refine ⟨_, rfl, _, rfl, t, a + 1 + spn t (a + 1), rfl, hl, rfl, true, ?_, iteT ?_⟩
        · rw [caret]
          have z : decide (tx (mk t (a + 1 + spn t (a + 1))) = tx [94]) = false := by
            rw [tx_eq]
            exact decide_eq_false ne
          show V.bl (!decide (tx (mk t (a + 1 + spn t (a + 1))) = tx [94])) = V.bl true
          rw [z]
          rfl
        · refine ⟨_, rfl, _, rfl, (by show 2 ≤ sizeLine; decide), fun T2 nT2 => ?_⟩
          rw [e0]
          exact q _ T2 ((same_new nT).trans (same_new nT2)) ((same_new nT).free nT2) upd_same
      · -- a letter, a caret, an exponent
        rw [ht] at hd q
        have hd' : t.drop a = x :: (94 :: ((if neg then [45] else []) ++ (dg n ++ tl))) := by rw [hd]; simp
        refine ⟨_, rfl, _, rfl, _, rfl, _, rfl, t, L, a, p, d, x, _, [x], rfl, hl, hp, hL, hd', .inl ⟨hx, rfl⟩, fun T nT => ?_⟩
        have hd2 : t.drop (a + 1) = 94 :: ((if neg then [45] else []) ++ (dg n ++ tl)) := drop_app (x := [x]) hd'
        have hd3 : t.drop (a + 1 + 1) = (if neg then [45] else []) ++ (dg n ++ tl) := drop_app (x := [94]) hd2
        have e1 : spn t (a + 1) = 0 := spn_no hd2 (by decide)
        have e2 : spn t (a + 1 + 1) = 0 := by
          refine spn_zero fun z => ?_
          unfold mk at z
          rw [hd3] at z
          cases neg with
          | true => cases z
          | false =>
            unfold dg at z
            simp only [Bool.false_eq_true, if_false, List.nil_append] at z
            split at z
            · have e : 48 + n = 32 := by simpa using z
              omega
            · have e : 48 + n / 10 = 32 := by simpa using z
              omega
        refine ⟨T, _, rfl, SqT.of upd_same, rfl, _, _, rfl, _, _, rfl, rfl, ?_⟩
        refine ⟨_, rfl, _, rfl, t, a + 1, rfl, hl, ?_⟩
        rw [e1, Nat.add_zero]
        refine ⟨_, rfl, _, rfl, t, a + 1, rfl, hl, rfl, false, ?_, iteF ?_⟩
        · rw [mk_of hd2, caret]
          rfl
        · refine ⟨_, rfl, _, rfl, _, rfl, _, _, rfl, rfl, t, a + 1 + 1, rfl, hl, ?_⟩
          rw [e2, Nat.add_zero]
          refine ⟨t, tl, a + 1 + 1, n, neg, rfl, hl, hd3, hn, hn2, hT.tl, fun T2 nT2 => ?_⟩
          refine ⟨T2, _, rfl, SqT.of upd_same, rfl, _, _, rfl, _, _, rfl, rfl, ?_⟩
          have hend : t.drop (a + 1 + 1 + (if neg then 1 else 0) + (dg n).length) = tl := by
            have z : t.drop (a + 1 + 1 + (if neg then 1 else 0)) = dg n ++ tl := by
              cases neg with
              | true => exact drop_app (x := [45]) hd3
              | false => exact hd3
            exact drop_app z
          obtain ⟨e3, _⟩ := hT.skip hL hend
          refine ⟨_, rfl, _, rfl, x, n, neg, rfl, g1, hn, hn2, _, rfl, _, rfl, t, _, rfl, hl, (by show 2 ≤ sizeLine; decide), fun T3 nT3 => ?_⟩
          have sA := ((same_new (o := .tup [tx [x], .int ((a + 1 : Nat) : Int)]) nT).trans (same_new nT2 (o := .tup [.int (if neg then -(n : Int) else (n : Int)), .int ((a + 1 + 1 + (if neg then 1 else 0) + (dg n).length : Nat) : Int)])))
          refine q _ T3 (sA.trans (same_new nT3)) (sA.free nT3) ?_
          rw [upd_same, e3, ← hcx]
          congr 4
          have e4 : (x :: 94 :: ((if neg then [45] else []) ++ dg n)).length = 2 + (if neg then 1 else 0) + (dg n).length := by
            cases neg <;> simp <;> omega
          rw [e4]
          congr 2
          omega
end
end K9
set_option maxRecDepth 100000
set_option maxHeartbeats 2000000
namespace K9
open PySem PySem.Spec PyProof.Rows L2
/-- what is left of a text -/
def lf (rs : List (Nat × Nat)) : List Nat := if rs = [] then [] else TL.joinL [32] (rs.map tk)
def Rg (L : List Nat) (rs : List (Nat × Nat)) : Prop := ∀ q ∈ rs, q.1 ∈ sg L ∧ 1 ≤ q.2 ∧ q.2 < 100
theorem lf_head {L : List Nat} (hL : ∀ c ∈ L, c ∈ menu) {q : Nat × Nat} {r : List (Nat × Nat)} (h : Rg L (q :: r)) : ∃ x y, lf (q :: r) = x :: y ∧ x ∈ L := by
  obtain ⟨h1, h2, _⟩ := h q List.mem_cons_self
  obtain ⟨x, hx, hf⟩ := tk_form hL h1 h2
  have ht : ∃ y, tk q = x :: y := by
    rcases hf with ⟨e, _, _⟩ | ⟨neg, e, _⟩
    · exact ⟨[], e⟩
    · exact ⟨_, e⟩
  obtain ⟨y, ey⟩ := ht
  unfold lf
  rw [if_neg (List.cons_ne_nil _ _)]
  cases r with
  | nil => exact ⟨x, y, ey, hx⟩
  | cons q2 r2 =>
    refine ⟨x, y ++ ([32] ++ TL.joinL [32] ((q2 :: r2).map tk)), ?_, hx⟩
    show tk q ++ ([32] ++ TL.joinL [32] ((q2 :: r2).map tk)) = _
    rw [ey]
    rfl
theorem lf_cons {L : List Nat} (hL : ∀ c ∈ L, c ∈ menu) {q : Nat × Nat} {r : List (Nat × Nat)} (h : Rg L (q :: r)) : ∃ tl, lf (q :: r) = tk q ++ tl ∧ Tx L tl ∧ (if tl = [] then 0 else 1) + (lf r).length = tl.length ∧ (tl = [] → lf r = []) ∧ (tl ≠ [] → tl = 32 :: lf r) := by
  unfold lf
  rw [if_neg (List.cons_ne_nil _ _)]
  cases r with
  | nil => exact ⟨[], by simp [TL.joinL], .inl rfl, rfl, fun _ => rfl, fun z => absurd rfl z⟩
  | cons q2 r2 =>
    obtain ⟨x, y, e, hx⟩ := lf_head hL (q := q2) (r := r2) (fun p hp => h p (List.mem_cons_of_mem _ hp))
    unfold lf at e
    rw [if_neg (List.cons_ne_nil _ _)] at e
    rw [if_neg (List.cons_ne_nil _ _)]
    refine ⟨32 :: TL.joinL [32] ((q2 :: r2).map tk), rfl, .inr ⟨x, y, by rw [e], hx⟩, ?_, (fun z => by cases z), fun _ => rfl⟩
    rw [if_neg (List.cons_ne_nil _ _), List.length_cons]
    omega
theorem lf_step {L t : List Nat} (hL : ∀ c ∈ L, c ∈ menu) {q : Nat × Nat} {r : List (Nat × Nat)} {a : Nat} (h : Rg L (q :: r)) (hd : t.drop a = lf (q :: r)) :
    ∃ e, Fac L t a (List.replicate q.2 q.1) e ∧ t.drop e = lf r ∧ a < e := by
  obtain ⟨tl, e1, hT, _, e3, e4⟩ := lf_cons hL h
  obtain ⟨h1, h2, h3⟩ := h q List.mem_cons_self
  rw [e1] at hd
  have hd2 := drop_app hd
  have hpos : 1 ≤ (tk q).length := by
    obtain ⟨x, hx, hf⟩ := tk_form hL h1 h2
    rcases hf with ⟨e, _, _⟩ | ⟨neg, e, _⟩
    · have e' : tk q = [x] := e
      rw [e']
      exact Nat.le_refl _
    · have e' : tk q = x :: 94 :: ((if neg then [45] else []) ++ dg q.2) := e
      rw [e', List.length_cons]
      omega
  refine ⟨a + (tk q).length + (if tl = [] then 0 else 1), .inr ⟨q.1, q.2, tl, hd, h1, h2, h3, hT, rfl, rfl⟩, ?_, by omega⟩
  by_cases hz : tl = []
  · rw [if_pos hz, Nat.add_zero, hd2, hz, e3 hz]
  · rw [if_neg hz]
    have hd3 : t.drop (a + (tk q).length) = [32] ++ lf r := by rw [hd2, e4 hz]; rfl
    exact drop_app hd3
section
variable {P : Program} {w : World} {K : PySem.W.Frag} {mg : Str → Option Value} {base : Heap}
/-! read_phrase -/
def spPh : Sp := fun vs H Q _ => ∃ (t L : List Nat) (rs : List (Nat × Nat)) (p : Addr), vs = [tx t, .ref p, .int 0, .int 0] ∧ t = txq rs ∧ t.length ≤ 1000 ∧ H p = some (.lst ((sg L).map one)) ∧ (∀ c ∈ L, c ∈ menu) ∧ Rg L rs ∧ (exq rs).length ≤ 400 ∧
  ∀ H' T (e : Nat), Same H H' → t.length ≤ e → H T = none → H' T = some (.tup [tx (exq rs), .int (e : Int)]) → Q (.ref T) H'
theorem ok_ph {f fF fS fB fC : Addr} {fd fdF fdS fdB fdC : FuncData} {k : Nat} (F : Fun K "read_phrase" "read_phrase" sRPhrase f fd)
    (GF : FnOk P w K mg base CX0 (k + 4) fF fdF ["text", "signs", "at", "depth"] spFa) (kF : PySem.W.keepIn K (.ref fF) = true) (bF : Binds K fdF ["text", "signs", "at", "depth"] []) (gF : mg "read_factor" = some (.ref fF))
    (GS : FnOk P w K mg base CX0 (k + 2) fS fdS ["text", "at"] spBs) (kS : PySem.W.keepIn K (.ref fS) = true) (bS : Binds K fdS ["text", "at"] []) (gS : mg "behind_spaces" = some (.ref fS))
    (GB : FnOk P w K mg base CX0 (k + 2) fB fdB ["text", "signs", "at", "depth"] spBa) (kB : PySem.W.keepIn K (.ref fB) = true) (bB : Binds K fdB ["text", "signs", "at", "depth"] []) (gB : mg "begins_atom" = some (.ref fB))
    (GC : FnOk P w K mg base CX0 (k + 1) fC fdC ["word"] spCut) (kC : PySem.W.keepIn K (.ref fC) = true) (bC : Binds K fdC ["word"] []) (gC : mg "cut" = some (.ref fC)) :
    FnOk P w K mg base CX0 (k + 5) f fd ["text", "signs", "at", "depth"] spPh := by
  refine F.ok scRPhrase (fun vs H Q E h => ?_) (fun cdv A outer s H vs Q E hr h => ?_)
  · obtain ⟨t, L, rs, p, rfl, _⟩ := h
    rfl
  · obtain ⟨t, L, rs, p, rfl, htx, hl, hp, hL, hR, hx4, q⟩ := h
    have r1 : Room (k + 1) (A.deeper (envOfC "read_phrase" (defScope sRPhrase) s.heap.objs.size f cdv)) := hr.mono (by omega)
    have r2 : Room (k + 2) (A.deeper (envOfC "read_phrase" (defScope sRPhrase) s.heap.objs.size f cdv)) := hr.mono (by omega)
    obtain ⟨t2, P2, R2⟩ : ∃ t2, PSs (cxOf CX0 P w K mg base ["text", "signs", "at", "depth", "word", "factor"] "read_phrase" (defScope sRPhrase) f cdv A outer s H E).nox ((defBody sRPhrase).drop 1) t2 ∧
        ∀ (a : Nat) (dn re : List (Nat × Nat)) (H1 : Hp), Same H H1 → rs = dn ++ re → t.drop a = lf re → t2 { nx := fun _ H' => Q .non H', rt := Q } [some (tx t), some (.ref p), some (.int (a : Int)), some (.int 0), some (tx (exq dn)), none] H1 := by
      refine ⟨_, pss_cons (ps_while PassesOwn.never (pt_val (pe_call GB r2 (by rfl) gB kB bB .nil pass0 (pa_cons (pv 0) (pa_cons (pv 1) (pa_cons (pv 2) (pa_cons (pv 3) pa_nil))))))
          (pss_cons (ps_asg (pe_call GF hr (by rfl) gF kF bF .nil pass0 (pa_cons (pv 0) (pa_cons (pv 1) (pa_cons (pv 2) (pa_cons (pv 3) pa_nil))))) (pg_tup rfl (pgs_cons (pg_name (i := 5) scRPhrase.nd rfl (.inl rfl)) (pgs_cons (pg_name (i := 2) scRPhrase.nd rfl (.inl rfl)) pgs_nil))))
          (pss_one (ps_set (i := 4) scRPhrase.nd rfl (.inl rfl) (pe_call GC r1 (by rfl) gC kC bC .nil pass0 (pa_cons (pe_op op_add_str (pv 4) (pv 5)) pa_nil))))))
        (pss_one (ps_ret (pe_tup (pa_cons (pv 4) (pa_cons (pv 2) pa_nil))))), ?_⟩
      intro a dn re H1 s1 hrs hd
      refine while_by (fun σ H2 => ∃ (a : Nat) (dn re : List (Nat × Nat)) (y : Option V), σ = [some (tx t), some (.ref p), some (.int (a : Int)), some (.int 0), some (tx (exq dn)), y] ∧ Same H H2 ∧ rs = dn ++ re ∧ t.drop a = lf re)
        (fun σ _ => match σ with | [_, _, some (.int a), _, _, _] => t.length - a.toNat | _ => 0) ⟨a, dn, re, none, rfl, s1, hrs, hd⟩ ?_ ?_
      · rintro σ H2 ⟨a, dn, re, y, rfl, sm, hrs, hd⟩
        refine ⟨_, rfl, _, rfl, _, rfl, _, rfl, t, L, a, p, 0, rfl, hl, sm _ _ hp, ?_, ?_, ?_⟩
        · rintro ⟨c, hc, _⟩
          refine ⟨true, rfl, iteT ?_⟩
          cases re with
          | nil =>
            rw [mk_nil hd] at hc
            cases hc
          | cons q0 r0 =>
            have hR' : Rg L (q0 :: r0) := fun q1 hq1 => hR q1 (by rw [hrs]; exact List.mem_append_right _ hq1)
            obtain ⟨e, hF, hde, hlt⟩ := lf_step hL hR' hd
            have hexq : exq rs = exq dn ++ (List.replicate q0.2 q0.1 ++ exq r0) := by rw [hrs, exq_app]; rfl
            have hlen : (exq dn).length + q0.2 ≤ 400 := by
              rw [hexq, List.length_append, List.length_append, List.length_replicate] at hx4
              omega
            refine ⟨_, rfl, _, rfl, _, rfl, _, rfl, t, L, a, p, 0, _, e, rfl, hl, sm _ _ hp, hL, hF, fun H3 T s3 nT hT => ?_⟩
            refine ⟨T, _, rfl, SqT.of hT, rfl, _, _, rfl, _, _, rfl, rfl, ?_⟩
            refine ⟨_, rfl, _, rfl, _, _, rfl, rfl, ?_, exq dn ++ List.replicate q0.2 q0.1, ?_, ?_, ?_, ?_⟩
            · rw [tx_len, tx_len, List.length_replicate]
              exact Nat.le_of_lt (small1000 (by omega))
            · rw [SX.S_cat]
              rfl
            · rw [List.length_append, List.length_replicate]
              exact hlen
            · refine ⟨e, dn ++ [q0], r0, some (tx (List.replicate q0.2 q0.1)), ?_, sm.trans s3, ?_, hde⟩
              · rw [exq_app]
                have e2 : exq [q0] = List.replicate q0.2 q0.1 := by simp [exq]
                rw [e2]
                rfl
              · rw [hrs, List.append_assoc]
                rfl
            · have hal : a < t.length := by
                have z := congrArg List.length hd
                obtain ⟨x, y', e5, _⟩ := lf_head hL hR'
                rw [e5, List.length_drop, List.length_cons] at z
                omega
              show t.length - ((e : Int)).toNat < t.length - ((a : Int)).toNat
              omega
        · intro h0 H3 s3
          refine ⟨false, rfl, iteF ?_⟩
          have ere : re = [] := by
            cases re with
            | nil => rfl
            | cons q0 r0 =>
              obtain ⟨x, y', e5, _⟩ := lf_head hL (q := q0) (r := r0) (fun q1 hq1 => hR q1 (by rw [hrs]; exact List.mem_append_right _ hq1))
              rw [mk_of (hd.trans e5)] at h0
              cases h0
          subst ere
          rw [List.append_nil] at hrs
          have hal : t.length ≤ a := by
            have z := congrArg List.length hd
            rw [List.length_drop] at z
            have z2 : (lf []).length = 0 := rfl
            omega
          refine ⟨_, rfl, _, rfl, (by show 2 ≤ sizeLine; decide), fun T nT => ?_⟩
          have sA := sm.trans s3
          refine q _ T a (sA.trans (same_new nT)) hal (sA.free nT) ?_
          rw [upd_same, hrs]
        · intro c hc h1 h2
          cases re with
          | nil =>
            rw [mk_nil hd] at hc
            cases hc
          | cons q0 r0 =>
            obtain ⟨x, y', e5, hxL⟩ := lf_head hL (q := q0) (r := r0) (fun q1 hq1 => hR q1 (by rw [hrs]; exact List.mem_append_right _ hq1))
            rw [mk_of (hd.trans e5)] at hc
            have e6 : x = c := by simpa using hc
            rw [← e6] at h1
            exact h1 (sg_in hxL)
      · rintro σ H Q Q' imp ⟨v0, h0, v1, h1, v2, h2, v3, h3, t', L', a', p', d', e1, e2, e3, q1, q2, q3⟩
        refine ⟨v0, h0, v1, h1, v2, h2, v3, h3, t', L', a', p', d', e1, e2, e3, fun hc => ?_, fun hc H' s => ?_, q3⟩
        · obtain ⟨k, e, hq⟩ := q1 hc
          exact ⟨k, e, imp _ _ hq⟩
        · obtain ⟨k, e, hq⟩ := q2 hc H' s
          exact ⟨k, e, imp _ _ hq⟩
    refine ⟨_, pss_cons (ps_asg (pe_call GF hr (by rfl) gF kF bF .nil pass0 (pa_cons (pv 0) (pa_cons (pv 1) (pa_cons (pe_call GS r2 (by rfl) gS kS bS .nil pass0 (pa_cons (pv 0) (pa_cons (pv 2) pa_nil))) (pa_cons (pv 3) pa_nil))))) (pg_tup rfl (pgs_cons (pg_name (i := 4) scRPhrase.nd rfl (.inl rfl)) (pgs_cons (pg_name (i := 2) scRPhrase.nd rfl (.inl rfl)) pgs_nil)))) P2, ?_⟩
    obtain ⟨wd, e, dn, re, hF, hwd, hrs, hde, hs0⟩ : ∃ wd e dn re, Fac L t 0 wd e ∧ wd = exq dn ∧ rs = dn ++ re ∧ t.drop e = lf re ∧ spn t 0 = 0 := by
      cases hcs : rs with
      | nil =>
        have ht : t = [49] := by rw [htx, hcs]; rfl
        refine ⟨[], 1, [], [], .inl ⟨ht, rfl, rfl⟩, rfl, rfl, by rw [ht]; rfl, by rw [ht]; rfl⟩
      | cons q0 r0 =>
        have ht : t = lf (q0 :: r0) := by rw [htx, hcs]; rfl
        have hR' : Rg L (q0 :: r0) := fun q1 hq1 => hR q1 (by rw [hcs]; exact hq1)
        obtain ⟨e, hF, hde, _⟩ := lf_step (a := 0) (t := t) hL hR' ht
        obtain ⟨x, y', e5, hxL⟩ := lf_head hL hR'
        refine ⟨_, e, [q0], r0, hF, by simp [exq], rfl, hde, spn_no (c := x) (r := y') (ht.trans e5) (menu_facts x (hL x hxL)).2.1⟩
    refine ⟨_, rfl, _, rfl, _, rfl, _, rfl, t, 0, rfl, hl, ?_⟩
    rw [hs0]
    refine ⟨_, rfl, t, L, 0, p, 0, wd, e, rfl, hl, hp, hL, hF, fun H1 T s1 nT hT => ?_⟩
    refine ⟨T, _, rfl, SqT.of hT, rfl, _, _, rfl, _, _, rfl, rfl, ?_⟩
    rw [hwd]
    exact R2 e dn re H1 s1 hrs hde
/-! read_word -/
def spRw : Sp := fun vs H Q _ => ∃ (t L : List Nat) (rs : List (Nat × Nat)), vs = [tx t, tx L] ∧ t = txq rs ∧ t.length ≤ 1000 ∧ Lt L ∧ Rg L rs ∧ (exq rs).length ≤ 400 ∧ ∀ H', Same H H' → Q (tx (exq rs)) H'
theorem ok_rw {f fP fS : Addr} {fd fdP fdS : FuncData} {k : Nat} {tL : Tok} (F : Fun K "read_word" "read_word" sRWord f fd) (B : Bn mg) (mL : mg "LONGEST" = some (.int 400 tL))
    (GP : FnOk P w K mg base CX0 (k + 5) fP fdP ["text", "signs", "at", "depth"] spPh) (kP : PySem.W.keepIn K (.ref fP) = true) (bP : Binds K fdP ["text", "signs", "at", "depth"] []) (gP : mg "read_phrase" = some (.ref fP))
    (GS : FnOk P w K mg base CX0 (k + 1) fS fdS ["letters"] spSof) (kS : PySem.W.keepIn K (.ref fS) = true) (bS : Binds K fdS ["letters"] []) (gS : mg "signs_of" = some (.ref fS)) :
    FnOk P w K mg base CX0 (k + 6) f fd ["text", "letters"] spRw := by
  refine F.ok scRWord (fun vs H Q E h => ?_) (fun cdv A outer s H vs Q E hr h => ?_)
  · obtain ⟨t, L, rs, rfl, _⟩ := h
    rfl
  · obtain ⟨t, L, rs, rfl, htx, hl, hL, hR, hx4, q⟩ := h
    have r1 : Room (k + 1) (A.deeper (envOfC "read_word" (defScope sRWord) s.heap.objs.size f cdv)) := hr.mono (by omega)
    refine ⟨_, pss_cons (ps_asg (pe_call GP hr (by rfl) gP kP bP .nil pass0 (pa_cons (pv 0) (pa_cons (pe_call GS r1 (by rfl) gS kS bS .nil pass0 (pa_cons (pv 1) pa_nil)) (pa_cons pe_int (pa_cons pe_int pa_nil))))) (pg_tup rfl (pgs_cons (pg_name (i := 2) scRWord.nd rfl (.inl rfl)) (pgs_cons (pg_name (i := 3) scRWord.nd rfl (.inl rfl)) pgs_nil))))
      (pss_cons (ps_if (pt_cmpR op_lt (pv 3) (pe_callB call_len (by rfl) B.len PySem.boot_len (pa_cons (pv 0) pa_nil)) (nomark _)) pss_never pss_nil)
      (pss_cons (ps_if (pt_cmpR op_gt (pe_callB call_len (by rfl) B.len PySem.boot_len (pa_cons (pv 2) pa_nil)) (pe_glob (v := .int 400) (by rfl) mL ⟨_, rfl⟩) (nomark _)) pss_never pss_nil)
      (pss_one (ps_ret (pv 2))))), ?_⟩
    refine ⟨_, rfl, _, rfl, L, rfl, hL, fun H1 p s1 np hp => ⟨t, L, rs, p, rfl, htx, hl, hp, hL.2, hR, hx4, fun H2 T e s2 he nT hT => ?_⟩⟩
    refine ⟨T, _, rfl, SqT.of hT, rfl, _, _, rfl, _, _, rfl, rfl, ?_⟩
    refine ⟨_, rfl, _, rfl, _, _, rfl, ⟨asc_le hl, rfl⟩, _, _, rfl, rfl, false, congrArg V.bl (decide_eq_false ?_), iteF ?_⟩
    · rw [tx_len]
      omega
    · refine ⟨_, rfl, _, _, rfl, ⟨asc_le (by omega), rfl⟩, _, _, rfl, rfl, false, congrArg V.bl (decide_eq_false ?_), iteF ?_⟩
      · rw [tx_len]
        omega
      · exact ⟨_, rfl, q H2 (s1.trans s2)⟩
end
end K9
set_option maxRecDepth 100000
set_option maxHeartbeats 4000000
namespace K9
open PySem PySem.Spec PyProof.Rows L2
structure Cb (P : Program) (w : World) (K : PySem.W.Frag) (mg : Str → Option Value) (base : Heap) (CX : CXT) (k : Nat) (x : Str) (ps : List Str) (sp : Sp) (f : Addr) (fd : FuncData) : Prop where
  ok : FnOk P w K mg base CX k f fd ps sp
  kp : PySem.W.keepIn K (.ref f) = true
  b : Binds K fd ps []
  g : mg x = some (.ref f)
/-- f(k = v): keywords alone -/
theorem e_callK0 {X : Cx} {CX : CXT} {k : Nat} {f : Addr} {fd : FuncData} {ps ks : List Str} {sp : Sp} {E : XK} {x : Str} {p pos : Pos} {kws : List Keyword} {tk : TA} {g : List Value → List Value → List Value} {gV : List V → List V → List V}
    (F : FnOk X.prog X.w X.K X.mg X.base CX k f fd ps sp) (hr : Room k X.A) (hg : Gl X x) (hm : X.mg x = some (.ref f)) (hk : PySem.W.keepIn X.K (.ref f) = true) (hb : KBinds X.K fd ps ks g gV) (hx : Passes CX X E) (hkw : PK X kws tk)
    (hall : (backToKw pos (keywordEach kws X.env)).all (·.1.isSome) = true := by rfl) (hks : (backToKw pos (keywordEach kws X.env)).filterMap (·.1) = ks := by rfl) (hdb : (x == ("__debug__" : Str)) = false := by decide)
    (hpl : ((backTo pos (starEach [] X.env)).any (·.1) || (backToKw pos (keywordEach kws X.env)).any (·.1.isNone)) = false := by rfl) : PE X (.Call (.Name x p) [] kws pos) (tCallK sp gV E tNil tk) := by
  constructor
  intro pins s σ H Q I h
  refine wpAny_Call_Name_kw (ld_glob I hg hm (PySem.W.callWith_KW0 (h₀ := X.base) I.ok.mod.kin hk hall (thn (hkw.run pos pins s σ H _ I h) ?_) hpl) hdb)
  rintro ws s2 ⟨zs, H2, I2, rz, q2⟩
  refine ⟨I2.kIn, ?_⟩
  rw [hks]
  exact run_fnk (us := []) (vs := []) F hr hb hx I2 .nil rz q2
theorem jl_len : ∀ rs : List (Nat × Nat), (TL.joinL [32] (rs.map tk)).length ≤ 6 * rs.length
  | [] => Nat.le_refl _
  | [q] => by
    have := tk_len (q := q)
    show (tk q).length ≤ 6
    omega
  | q :: q2 :: r => by
    have := tk_len (q := q)
    have h := jl_len (q2 :: r)
    show (tk q ++ ([32] ++ TL.joinL [32] ((q2 :: r).map tk))).length ≤ _
    rw [List.length_append, List.length_append]
    simp only [List.length_cons, List.length_nil] at h ⊢
    omega
theorem txq_len (rs : List (Nat × Nat)) : (txq rs).length ≤ 6 * rs.length + 1 := by
  unfold txq
  split
  · exact Nat.le_add_left _ _
  · have := jl_len rs
    omega
abbrev NL : List Str := ["_law_script", "_law_box", "_law_turn", "_law_letters_here", "_law_first", "_law_one", "_law_sign"]
def forBody : Stmt → List Stmt
  | .For _ _ b _ _ => b
  | _ => []
def lb : List Stmt := forBody ((defBody sLaw).getD 1 (.Pass ⟨0, 0, 0, 0⟩))
abbrev lbs (i : Nat) : Stmt := lb.getD i (.Pass ⟨0, 0, 0, 0⟩)
theorem lb_is : lb = [lbs 0, lbs 1, lbs 2, lbs 3] := by rfl
def Lg (L : List Nat) : Prop := 1 ≤ L.length ∧ L.length ≤ 3 ∧ ∀ c ∈ L, c ∈ menu
theorem Lg.lt {L : List Nat} (h : Lg L) : Lt L := ⟨by have := h.2.1; omega, h.2.2⟩
def Wg (L : List Nat) (n : Nat) (l : List Nat) : Prop := l.length ≤ n ∧ ∀ c ∈ l, c ∈ sg L
theorem Bx.go {H H' : Hp} {b m : Addr} (x : Bx H b m) (g : BxGo H H' b m) : Bx H' b m := g.1
section
variable {P : Program} {w : World} {K : PySem.W.Frag} {mg : Str → Option Value} {base : Heap}
variable {f fBeg fD fA fLe fSo fFw fRw fTx fSa : Addr} {fdBeg fdD fdA fdLe fdSo fdFw fdRw fdTx fdSa : FuncData} {cdv : Value} {A : Around} {outer : List Env} {s : Shared} {H : Hp} {E : XK}
abbrev XL (P : Program) (w : World) (K : PySem.W.Frag) (mg : Str → Option Value) (base : Heap) (f : Addr) (cdv : Value) (A : Around) (outer : List Env) (s : Shared) (H : Hp) (E : XK) : Cx := (cxOf CX0 P w K mg base NL "law" (defScope sLaw) f cdv A outer s H E).nox
theorem s1 (cD : Cb P w K mg base CX0 1 "_law_draw" ["_law_box", "_law_many"] spDraw fD fdD) (cLe : Cb P w K mg base CX0 3 "_law_letters" ["_law_box", "_law_many"] spLet fLe fdLe) (hr : Room 7 (A.deeper (envOfC "law" (defScope sLaw) s.heap.objs.size f cdv))) :
    ∃ t, PS (XL P w K mg base f cdv A outer s H E) (lbs 0) t ∧ ∀ (b m a : Addr) (y2 y3 y4 y5 y6 : Option V) (D : Ends) (H0 : Hp), Bx H0 b m →
      (∀ L H', Lg L → Bx H' b m → D.nx [some (.ref a), some (.ref b), y2, some (tx L), y4, y5, y6] H') → t D [some (.ref a), some (.ref b), y2, y3, y4, y5, y6] H0 := by
  have r1 : Room 1 (A.deeper (envOfC "law" (defScope sLaw) s.heap.objs.size f cdv)) := hr.mono (by decide)
  have r3 : Room 3 (A.deeper (envOfC "law" (defScope sLaw) s.heap.objs.size f cdv)) := hr.mono (by decide)
  refine ⟨_, ps_set (i := 3) scLaw.nd rfl (.inl rfl) (pe_call cLe.ok r3 (by rfl) cLe.g cLe.kp cLe.b .nil pass0 (pa_cons (pv 1) (pa_cons (pe_op op_add pe_int (pe_call cD.ok r1 (by rfl) cD.g cD.kp cD.b .nil pass0 (pa_cons (pv 1) (pa_cons pe_int pa_nil)))) pa_nil))), ?_⟩
  intro b m a y2 y3 y4 y5 y6 D H0 z nx
  refine ⟨_, rfl, _, rfl, b, m, 3, rfl, z, by decide, by decide, fun d H1 d0 d1 hT1 => ⟨_, _, rfl, rfl, b, m, (1 + d).toNat, ?_, hT1.1, by omega, by omega, fun L H2 hl hm hG => ?_⟩⟩
  · rw [Int.toNat_of_nonneg (by omega)]
    rfl
  · exact nx L H2 ⟨by omega, by omega, hm⟩ hG.1
theorem s2 (cSo : Cb P w K mg base CX0 3 "_law_some_word" ["_law_box", "_law_letters_here", "_law_most"] spSome fSo fdSo) (hr : Room 7 (A.deeper (envOfC "law" (defScope sLaw) s.heap.objs.size f cdv))) :
    ∃ t, PS (XL P w K mg base f cdv A outer s H E) (lbs 1) t ∧ ∀ (b m a : Addr) (y2 y4 y5 y6 : Option V) (L : List Nat) (D : Ends) (H0 : Hp), Bx H0 b m → Lg L →
      (∀ l H', Wg L 5 l → Bx H' b m → D.nx [some (.ref a), some (.ref b), y2, some (tx L), some (tx l), y5, y6] H') → t D [some (.ref a), some (.ref b), y2, some (tx L), y4, y5, y6] H0 := by
  have r3 : Room 3 (A.deeper (envOfC "law" (defScope sLaw) s.heap.objs.size f cdv)) := hr.mono (by decide)
  refine ⟨_, ps_set (i := 4) scLaw.nd rfl (.inl rfl) (pe_call cSo.ok r3 (by rfl) cSo.g cSo.kp cSo.b .nil pass0 (pa_cons (pv 1) (pa_cons (pv 3) (pa_cons pe_int pa_nil)))), ?_⟩
  intro b m a y2 y4 y5 y6 L D H0 z hL nx
  refine ⟨_, rfl, _, rfl, b, m, L, 5, rfl, z, hL.lt, (fun e => by have := hL.1; rw [e] at this; cases this), by decide, fun l H3 hl hw hG => ?_⟩
  exact nx l H3 ⟨hl, hw⟩ hG.1
theorem s3 (cA : Cb P w K mg base CX0 2 "_law_any" ["_law_box", "_law_some"] spAny fA fdA) (hr : Room 7 (A.deeper (envOfC "law" (defScope sLaw) s.heap.objs.size f cdv))) :
    ∃ t, PS (XL P w K mg base f cdv A outer s H E) (lbs 2) t ∧ ∀ (b m a : Addr) (y2 y5 : Option V) (L l : List Nat) (D : Ends) (H0 : Hp), Bx H0 b m → Lg L → Wg L 5 l →
      (∀ l' H', Wg L 60 l' → Bx H' b m → D.nx [some (.ref a), some (.ref b), y2, some (tx L), some (tx l), some (tx l'), none] H') → t D [some (.ref a), some (.ref b), y2, some (tx L), some (tx l), y5, none] H0 := by
  have r2 : Room 2 (A.deeper (envOfC "law" (defScope sLaw) s.heap.objs.size f cdv)) := hr.mono (by decide)
  refine ⟨_, ps_set (i := 5) scLaw.nd rfl (.inl rfl) (pe_join pe_str (pe_lc (own := [("_law_sign", 6)]) (g := gName 6) (tt := tYes)
    (te := tOp (fun x y H Q => ∃ (c n : Nat), x = tx [c] ∧ y = .int (n : Int) ∧ 1 ≤ n ∧ n ≤ 100 ∧ Q (tx (List.replicate n c)) H) (tVar 6) (tCall spAny [] E0 (tCons (tVar 1) (tCons (tLst (tCons (tC (.int 1)) (tCons (tC (.int 1)) (tCons (tC (.int 2)) (tCons (tC (.int 12)) tNil))))) tNil))))
    rfl scLaw.nd (pi_str (pv 4)) (blkOk_by (N := NL) (sc := defScope sLaw) (by decide +kernel)) (fun _ _ _ _ _ => pg_name (i := 6) scLaw.nd rfl (Or.inl rfl)) (fun _ _ _ _ _ => pts_nil)
    (fun _ _ _ _ _ => pe_op o_mulS (pv 6) (pe_call cA.ok r2 (by rfl) cA.g cA.kp cA.b .nil pass0 (pa_cons (pv 1) (pa_cons (pe_lst (pa_cons pe_int (pa_cons pe_int (pa_cons pe_int (pa_cons pe_int pa_nil))))) pa_nil)))))), ?_⟩
  intro b m a y2 y5 L l D H0 z hL hW nx
  refine ⟨⟨_, rfl⟩, _, rfl, _, rfl, fun D0 nD => ?_⟩
  have hDb : D0 ≠ b := z.ne nD
  have hDm : D0 ≠ m := z.neM nD
  refine lc_it (walk_txt l) (fun i H2 => ∃ ws : List (List Nat), ws.length = i ∧ (∀ x ∈ ws, x.length ≤ 12) ∧ (∀ x ∈ ws, ∀ c ∈ x, c ∈ sg L) ∧ Bx H2 b m ∧ H2 D0 = some (.lst (ws.map tx))) ⟨[], rfl, (fun x hx => nomatch hx), (fun x hx => nomatch hx), z.same (same_new nD), upd_same⟩ (fun _ _ _ _ => trivial) ?_ ?_
  · rintro i x H2 H2' hi ⟨ws, hl, h12, hsg, bx, hD⟩ ⟨rfl, hx⟩
    rw [List.length_map] at hi
    obtain ⟨c, hc⟩ : ∃ c, l[i]? = some c := ⟨_, List.getElem?_eq_getElem hi⟩
    rw [List.getElem?_map, hc] at hx
    obtain rfl : tx [c] = x := Option.some.inj hx
    have hcs := hW.2 c (List.mem_of_getElem? hc)
    refine ⟨rfl, ?_⟩
    dsimp only [tYes]
    rw [if_pos rfl]
    refine ⟨_, rfl, _, rfl, (by show 4 ≤ sizeLine; decide), fun p np => ⟨b, m, p, _, rfl, bx.same (same_new np), upd_same, bx.ne np, (by simp), (by show 4 < 1000000; decide), fun y H3 hy hT => ?_⟩⟩
    obtain ⟨n, rfl, hn1, hn12⟩ : ∃ n : Nat, y = V.int (n : Int) ∧ 1 ≤ n ∧ n ≤ 12 := by
      have h2 : y = .int 1 ∨ y = .int 2 ∨ y = .int 12 := by simpa using hy
      rcases h2 with e | e | e
      · exact ⟨1, e, by decide, by decide⟩
      · exact ⟨2, e, by decide, by decide⟩
      · exact ⟨12, e, by decide, by decide⟩
    have hD3 : H3 D0 = some (.lst (ws.map tx)) := (hT.2 D0 hDb).trans ((same_new np) _ _ hD)
    have hll := hW.1
    refine ⟨c, n, rfl, rfl, hn1, by omega, _, hD3, ?_, ws ++ [List.replicate n c], ?_, ?_, ?_, hT.1.upd hDb hDm, ?_⟩
    · rw [List.length_map, hl]
      exact small1000 (by omega)
    · rw [List.length_append, hl]
      rfl
    · intro x hx
      rcases List.mem_append.mp hx with e | e
      · exact h12 x e
      · have e2 : x = List.replicate n c := by simpa using e
        rw [e2, List.length_replicate]
        exact hn12
    · intro x hx c' hc'
      rcases List.mem_append.mp hx with e | e
      · exact hsg x e c' hc'
      · have e2 : x = List.replicate n c := by simpa using e
        rw [e2] at hc'
        rw [List.eq_of_mem_replicate hc']
        exact hcs
    · rw [upd_same, List.map_append]
      rfl
  · rintro H2 ⟨ws, hl, h12, hsg, bx, hD⟩
    rw [List.length_map] at hl
    have hll := hW.1
    have hsum : ∀ ys : List (List Nat), (∀ x ∈ ys, x.length ≤ 12) → (((ys.map SX.S).map (·.length)).sum ≤ 12 * ys.length ∧ ys.flatten.length ≤ 12 * ys.length) := by
      intro ys
      induction ys with
      | nil => exact fun _ => ⟨Nat.le_refl _, Nat.le_refl _⟩
      | cons y r ih =>
        intro h
        have h1 := h y List.mem_cons_self
        obtain ⟨i1, i2⟩ := ih fun x hx => h x (List.mem_cons_of_mem _ hx)
        constructor
        · simp only [List.map_cons, List.sum_cons, List.length_cons]
          rw [tx_len]
          omega
        · rw [List.flatten_cons, List.length_append, List.length_cons]
          omega
    obtain ⟨i1, i2⟩ := hsum ws h12
    refine ⟨_, D0, ws.map SX.S, rfl, rfl, .inl (SqL.of ?_), ?_, ?_⟩
    · rw [hD, List.map_map]
      rfl
    · rw [len0, List.length_map]
      omega
    · rw [joinS]
      refine nx ws.flatten H2 ⟨by omega, fun c hc => ?_⟩ bx
      obtain ⟨x, hx, hcx⟩ := List.mem_flatten.mp hc
      exact hsg x hx c hcx
theorem s4 (cS1 : Cb P w K mg base CX0 2 "_law_same" ["_law_found", "_law_due"] (spSame 1) fSa fdSa) (cFw : Cb P w K mg base CX0 2 "format_word" ["word"] spFw fFw fdFw) (cRw : Cb P w K mg base CX0 6 "read_word" ["text", "letters"] spRw fRw fdRw) (cTx : Cb P w K mg base CX0 1 "_law_text" ["_law_one"] spTx fTx fdTx) (hr : Room 7 (A.deeper (envOfC "law" (defScope sLaw) s.heap.objs.size f cdv))) :
    ∃ t, PS (XL P w K mg base f cdv A outer s H E) (lbs 3) t ∧ ∀ (b m a : Addr) (y2 y4 y6 : Option V) (L l : List Nat) (D : Ends) (H0 : Hp), Bx H0 b m → Lg L → Wg L 60 l →
      (∀ H', Bx H' b m → D.nx [some (.ref a), some (.ref b), y2, some (tx L), y4, some (tx l), y6] H') → t D [some (.ref a), some (.ref b), y2, some (tx L), y4, some (tx l), y6] H0 := by
  have r1 : Room 1 (A.deeper (envOfC "law" (defScope sLaw) s.heap.objs.size f cdv)) := hr.mono (by decide)
  have r2 : Room 2 (A.deeper (envOfC "law" (defScope sLaw) s.heap.objs.size f cdv)) := hr.mono (by decide)
  have r6 : Room 6 (A.deeper (envOfC "law" (defScope sLaw) s.heap.objs.size f cdv)) := hr.mono (by decide)
  refine ⟨_, ps_if (pt_not (pt_val (pe_call cS1.ok r2 (by rfl) cS1.g cS1.kp cS1.b .nil pass0 (pa_cons (pe_lst (pa_cons (pe_call cFw.ok r2 (by rfl) cFw.g cFw.kp cFw.b .nil pass0 (pa_cons (pv 5) pa_nil)) (pa_cons (pe_call cRw.ok r6 (by rfl) cRw.g cRw.kp cRw.b .nil pass0 (pa_cons (pe_call cFw.ok r2 (by rfl) cFw.g cFw.kp cFw.b .nil pass0 (pa_cons (pv 5) pa_nil)) (pa_cons (pv 3) pa_nil))) pa_nil)))
    (pa_cons (pe_lst (pa_cons (pe_call cTx.ok r1 (by rfl) cTx.g cTx.kp cTx.b .nil pass0 (pa_cons (pv 5) pa_nil)) (pa_cons (pv 5) pa_nil))) pa_nil))))) pss_never pss_nil, ?_⟩
  intro b m a y2 y4 y6 L l D H0 z hL hW nx
  have hl := hW.1
  have hA : Asc l := fun c hc => sg_asc hL.2.2 (hW.2 c hc)
  have hR : Rg L (rl l) := fun q hq => ⟨hW.2 _ (rl_mem hq).1, (rl_mem hq).2, rl_bound hq (by omega)⟩
  have htl := txq_len (rl l)
  have hrl := rl_len l
  have hex := exq_rl l
  refine ⟨_, rfl, l, rfl, by omega, hA, fun H1 s1 => ⟨_, rfl, l, rfl, by omega, hA, fun H2 s2 => ⟨_, rfl, txq (rl l), L, rl l, rfl, rfl, by omega, hL.lt, hR, by rw [hex]; omega, fun H3 s3 => ⟨(by show 2 ≤ sizeLine; decide), fun p np => ?_⟩⟩⟩⟩
  rw [hex]
  refine ⟨_, rfl, l, rfl, by omega, hA, fun H4 s4 => ⟨_, rfl, (by show 2 ≤ sizeLine; decide), fun p2 np2 => ⟨_, _, rfl, ?_, fun H5 s5 => ⟨true, rfl, iteF ?_⟩⟩⟩⟩
  · refine .inr ⟨p, p2, [tx (txq (rl l)), tx l], [tx (txq (rl l)), tx l], rfl, rfl, rfl, (by show 2 ≤ 1000; decide), .inl ⟨(s4.trans (same_new np2)) _ _ upd_same, upd_same⟩, fun i u v h1 h2 => ?_⟩
    rw [h1] at h2
    cases h2
    refine ⟨rfl, ?_⟩
    have hm := List.mem_of_getElem? h1
    have h3 : u = tx (txq (rl l)) ∨ u = tx l := by simpa using hm
    rcases h3 with e | e <;> exact .inr (.inl ⟨_, e⟩)
  · exact nx H5 (z.same ((((s1.trans s2).trans s3).trans (same_new np)).trans ((s4.trans (same_new np2)).trans s5)))
theorem wA : Str.ofString "aaBBBa" = SX.S [97, 97, 66, 66, 66, 97] := by decide
theorem wB : Str.ofString "a^2 b^-3 a" = SX.S [97, 94, 50, 32, 98, 94, 45, 51, 32, 97] := by decide
theorem rlA : rl [97, 97, 66, 66, 66, 97] = [(97, 2), (66, 3), (97, 1)] := by
  have e1 := rl_run (c := 97) (n := 2) (m := [66, 66, 66, 97]) (by decide) (by decide)
  have e2 := rl_run (c := 66) (n := 3) (m := [97]) (by decide) (by decide)
  have e3 := rl_run (c := 97) (n := 1) (m := []) (by decide) (by decide)
  rw [rl_nil] at e3
  have e3' : rl [97] = [(97, 1)] := e3
  have e2' : rl [66, 66, 66, 97] = (66, 3) :: rl [97] := e2
  have e1' : rl [97, 97, 66, 66, 66, 97] = (97, 2) :: rl [66, 66, 66, 97] := e1
  rw [e1', e2', e3']
def spLaw (K : PySem.W.Frag) : Sp := fun vs H Q _ => ∃ (a : Addr) (ns : List Int), vs = [.ref a] ∧ SqL K H a (ns.map V.int) ∧ ns.length ≤ 63 ∧ ∀ H', Q (.bl true) H'
theorem ok_law {fd : FuncData} (F : Fun K "law" "law" sLaw f fd) (B : Bn mg)
    (cBeg : Cb P w K mg base CX0 1 "_law_begin" ["_law_script"] (spBegin K) fBeg fdBeg) (cD : Cb P w K mg base CX0 1 "_law_draw" ["_law_box", "_law_many"] spDraw fD fdD) (cA : Cb P w K mg base CX0 2 "_law_any" ["_law_box", "_law_some"] spAny fA fdA)
    (cLe : Cb P w K mg base CX0 3 "_law_letters" ["_law_box", "_law_many"] spLet fLe fdLe) (cSo : Cb P w K mg base CX0 3 "_law_some_word" ["_law_box", "_law_letters_here", "_law_most"] spSome fSo fdSo)
    (cS1 : Cb P w K mg base CX0 2 "_law_same" ["_law_found", "_law_due"] (spSame 1) fSa fdSa) (cFw : Cb P w K mg base CX0 2 "format_word" ["word"] spFw fFw fdFw) (cRw : Cb P w K mg base CX0 6 "read_word" ["text", "letters"] spRw fRw fdRw) (cTx : Cb P w K mg base CX0 1 "_law_text" ["_law_one"] spTx fTx fdTx)
    (kb : KBinds K fdFw ["word"] ["word"] (fun us ws => match us with | [] => ws | _ => []) (fun vs zs => match vs with | [] => zs | _ => [])) : FnOk P w K mg base CX0 8 f fd ["_law_script"] (spLaw K) := by
  refine F.ok scLaw (fun vs H Q E h => ?_) (fun cdv A outer s H vs Q E hr h => ?_)
  · obtain ⟨a, ns, rfl, _⟩ := h
    rfl
  · obtain ⟨a, ns, rfl, hS, hl, q⟩ := h
    have r1 : Room 1 (A.deeper (envOfC "law" (defScope sLaw) s.heap.objs.size f cdv)) := hr.mono (by decide)
    have r2 : Room 2 (A.deeper (envOfC "law" (defScope sLaw) s.heap.objs.size f cdv)) := hr.mono (by decide)
    obtain ⟨tb, PB, RB⟩ : ∃ tb, PSs (XL P w K mg base f cdv A outer s H E) lb tb ∧ ∀ (b m : Addr) (D : Ends) (y2 y3 y4 y5 : Option V) (H0 : Hp), Bx H0 b m → (∀ y2 y3 y4 y5 H', Bx H' b m → D.nx [some (.ref a), some (.ref b), y2, y3, y4, y5, none] H') → tb D [some (.ref a), some (.ref b), y2, y3, y4, y5, none] H0 := by
      obtain ⟨t0, p0, q0⟩ := s1 (base := base) (outer := outer) (H := H) (E := E) cD cLe hr
      obtain ⟨t1, p1, q1⟩ := s2 (base := base) (outer := outer) (H := H) (E := E) cSo hr
      obtain ⟨t2, p2, q2⟩ := s3 (base := base) (outer := outer) (H := H) (E := E) cA hr
      obtain ⟨t3, p3, q3⟩ := s4 (base := base) (outer := outer) (H := H) (E := E) cS1 cFw cRw cTx hr
      rw [lb_is]
      refine ⟨_, pss_cons p0 (pss_cons p1 (pss_cons p2 (pss_one p3))), ?_⟩
      intro b m D y2 y3 y4 y5 H0 bx nx
      refine q0 b m a y2 y3 y4 y5 none _ H0 bx fun L H1 hL z1 => ?_
      refine q1 b m a y2 y4 y5 none L _ H1 z1 hL fun l H2 hW z2 => ?_
      refine q2 b m a y2 y5 L l _ H2 z2 hL hW fun l' H3 hW' z3 => ?_
      refine q3 b m a y2 (some (tx l)) none L l' _ H3 z3 hL hW' fun H4 z4 => ?_
      exact nx _ _ _ _ H4 z4
    refine ⟨_, pss_cons (ps_set (i := 1) scLaw.nd rfl (.inr rfl) (pe_call cBeg.ok r1 (by rfl) cBeg.g cBeg.kp cBeg.b .nil pass0 (pa_cons (pv 0) pa_nil)))
      (pss_cons (ps_for PassesOwn.never rfl (pi_range1 (by rfl) B.range (pa_cons pe_int pa_nil)) (pg_name (i := 2) scLaw.nd rfl (Or.inl rfl)) PB)
      (pss_one (ps_ret (pe_and (pe_cmpR op_eq (pe_call cFw.ok r2 (by rfl) cFw.g cFw.kp cFw.b .nil pass0 (pa_cons pe_str pa_nil)) pe_str (nomark _))
        (pe_one (pe_cmpR op_eq (e_callK0 cFw.ok r2 (by rfl) cFw.g cFw.kp kb pass0 (pk_cons pe_str pk_nil)) pe_str (nomark _))))))), ?_⟩
    refine ⟨_, rfl, a, ns, rfl, hS, hl, fun H1 b m s1 nb bx => ?_⟩
    refine ⟨5, rfl, by decide, by decide, ?_⟩
    refine for_it (walk_range (lo := 0) (n := (5 : Int).toNat)) (fun i σ H2 => ∃ y2 y3 y4 y5 : Option V, σ = [some (.ref a), some (.ref b), y2, y3, y4, y5, none] ∧ Bx H2 b m) ⟨none, none, none, none, rfl, bx⟩ (fun _ _ _ _ _ => trivial) ?_ ?_
    · rintro i x σ H2 H2' hi ⟨y2, y3, y4, y5, rfl, bx2⟩ ⟨rfl, rfl⟩
      exact RB b m _ _ _ _ _ H2' bx2 fun y2 y3 y4 y5 H' bx' => ⟨_, _, _, _, rfl, bx'⟩
    · rintro σ H2 ⟨y2, y3, y4, y5, rfl, bx2⟩
      refine ⟨[97, 97, 66, 66, 66, 97], by rw [wA]; rfl, by decide, (by unfold Asc; decide), fun H3 s3 => ⟨rfl, true, ?_, iteT ?_⟩⟩
      · rw [rlA, wB]
        exact congrArg V.bl (by decide +kernel)
      · refine ⟨[], by rw [e0S], by decide, (fun c hc => nomatch hc), fun H4 s4 => ⟨rfl, ?_⟩⟩
        rw [rl_nil, one49]
        have e : decide (tx (txq []) = tx [49]) = true := decide_eq_true rfl
        rw [e]
        exact q _
end
end K9
set_option maxRecDepth 100000
set_option maxHeartbeats 0
namespace K9
open PySem PySem.Spec PyProof.Rows L2
def dD (x : Str) (st : Stmt) : He.DefD := ⟨(x, none), x, x, defArgs st, defBody st, defScope st, [], []⟩
def fn : List He.DefD := [dD "signs_of" sSignsOf, dD "opposite" sOpp, dD "read_word" sRWord, dD "read_phrase" sRPhrase, dD "read_factor" sRFactor, dD "read_atom" sRAtom, dD "read_exponent" sRExp, dD "begins_atom" sBegins, dD "mark_at" sMark, dD "behind_spaces" sSpaces, dD "check_no_digit" sNoDigit, dD "power" sPower, dD "cut" sCut, dD "format_word" sFWord, dD "runs_of" sRuns, dD "format_run" sFRun, dD "_law_begin" sBegin, dD "_law_draw" sDraw, dD "_law_any" sAny, dD "_law_same" sSame, dD "_law_letters" sLetters, dD "_law_signs" sSigns, dD "_law_some_word" sSome, dD "_law_text" sText, dD "law" sLaw]
def gl : List Str := ["signs_of", "opposite", "read_word", "read_phrase", "read_factor", "read_atom", "read_exponent", "begins_atom", "mark_at", "behind_spaces", "check_no_digit", "power", "cut", "format_word", "runs_of", "format_run", "_law_begin", "_law_draw", "_law_any", "_law_same", "_law_letters", "_law_signs", "_law_some_word", "_law_text", "law"]
def fr : List Str := ["len", "int", "isinstance", "list", "tuple", "all", "range", "bool", "str", "enumerate"]
def fa : List He.Fa := gl.map He.Fa.glo ++ (fr.map He.Fa.free ++ [He.Fa.int "LONGEST" 400])
abbrev R : PySem.W.OpenRow := PySem.W.OpenLaw.row PySem.Challenge.rw_roundswap_k09_texts_of_words
abbrev hk : PySem.W.Hook := He.hookX 5 fa fn [] [] (fun _ => true)
def ob (s : PySem.W.SharedT) : He.AlX := He.obsX 5 fa fn [] [] (fun _ => true) (HandSHeadRun.getT s)
theorem ob_eq (s : PySem.W.SharedT) : ob s = hk.obs s.abs := He.obsX_eq (HandSHeadRun.getT_eq s)
def loose : List Str := ["TownError", "ParseError", "TooLong", "LONGEST", "DEEPEST", "signs_of", "opposite", "read_word", "read_phrase", "read_factor", "read_atom", "read_group", "read_pair", "read_exponent", "begins_atom", "mark_at", "behind_spaces", "check_mark", "check_no_digit", "power", "cut", "format_word", "runs_of", "format_run", "_law_begin", "_law_draw", "_law_any", "_law_same", "_law_letters", "_law_signs", "_law_some_word", "_law_text"]
theorem run (w : World) : HandSHeadRun.RunEq R (PySem.W.view R.prog [36]) hk ob 4000 loose w := by
  intro os
  kernel_rfl
theorem fun_ofD {K : PySem.W.Frag} {x q : Str} {st : Stmt} {f : Addr} {fd : FuncData} (F : FunD K x q (defArgs st) (defBody st) (defScope st) [] [] f fd) : Fun K x q st f fd := by
  obtain ⟨⟨oc, od, dV, kV, doc, pm, an, cdv, ct, osl, e, lk, hcd, hd, _⟩, kp⟩ := F
  obtain rfl : dV = .none := hd.elim (fun z => z.2) (fun z => absurd rfl z.1)
  exact ⟨⟨oc, od, kV, doc, pm, an, cdv, ct, osl, e, lk, hcd⟩, kp⟩
theorem kb_of {K : PySem.W.Frag} {f : Addr} {fd : FuncData} (F : Fun K "format_word" "format_word" sFWord f fd) : KBinds K fd ["word"] ["word"] (fun us ws => match us with | [] => ws | _ => []) (fun vs zs => match vs with | [] => zs | _ => []) := by
  obtain ⟨oc, od, kV, doc, pm, an, cdv, ct, osl, rfl, lk, hcd⟩ := F.ex
  refine ⟨fun s us ws _ hl => ?_, fun {vs us zs ws} r rz => ?_⟩
  · match us, ws, hl with
    | [], [v], _ => exact .of_eq rfl
  · cases r with
    | nil => exact rz
    | cons _ _ => exact .nil
theorem facts {w : World} {K : PySem.W.Frag} {h : Heap} {mg : Str → Option Value} {fl : Addr} (X : K.In h) (G : h.Ns mainGlobals mg) (hfa : mg ("law" : Str) = some (.ref fl)) (c : He.SaysX fa fn [] [] (fun _ => true) w h K) :
    LamX.LawAtS PySem.Challenge.rw_roundswap_k09_texts_of_words w K CX0 8 63 "_law_script" mg fl h := by
  have cD := c.t.d
  have g : ∀ x ∈ gl, mg x = some (.ref (He.ga K x)) := fun x hx => He.glo_ok X G (cD.facts (List.mem_append_left _ (List.mem_map.mpr ⟨x, hx, rfl⟩)))
  have fz : ∀ x ∈ fr, mg x = none := fun x hx => He.free_ok X G (cD.facts (List.mem_append_right _ (List.mem_append_left _ (List.mem_map.mpr ⟨x, hx, rfl⟩))))
  obtain ⟨tL, mL⟩ := He.int_ok X G (x := "LONGEST") (i := 400) (cD.facts (List.mem_append_right _ (List.mem_append_right _ List.mem_cons_self)))
  have B : Bn mg := ⟨fz _ (by decide), fz _ (by decide), fz _ (by decide), fz _ (by decide), fz _ (by decide), fz _ (by decide), fz _ (by decide), fz _ (by decide), fz _ (by decide), fz _ (by decide)⟩
  obtain ⟨d0, F0'⟩ := cD.def_ 0 (d := dD "signs_of" sSignsOf) rfl
  have F0 : Fun K "signs_of" "signs_of" sSignsOf (He.ga K "signs_of") d0 := fun_ofD F0'
  have b0 : Binds K d0 ["letters"] [] := F0.binds fun _ _ _ _ _ _ us hl => match us, hl with | [_], _ => rfl
  have g0 : mg "signs_of" = some (.ref (He.ga K "signs_of")) := g _ (by decide)
  obtain ⟨d1, F1'⟩ := cD.def_ 1 (d := dD "opposite" sOpp) rfl
  have F1 : Fun K "opposite" "opposite" sOpp (He.ga K "opposite") d1 := fun_ofD F1'
  have b1 : Binds K d1 ["word"] [] := F1.binds fun _ _ _ _ _ _ us hl => match us, hl with | [_], _ => rfl
  have g1 : mg "opposite" = some (.ref (He.ga K "opposite")) := g _ (by decide)
  obtain ⟨d2, F2'⟩ := cD.def_ 2 (d := dD "read_word" sRWord) rfl
  have F2 : Fun K "read_word" "read_word" sRWord (He.ga K "read_word") d2 := fun_ofD F2'
  have b2 : Binds K d2 ["text", "letters"] [] := F2.binds fun _ _ _ _ _ _ us hl => match us, hl with | [_, _], _ => rfl
  have g2 : mg "read_word" = some (.ref (He.ga K "read_word")) := g _ (by decide)
  obtain ⟨d3, F3'⟩ := cD.def_ 3 (d := dD "read_phrase" sRPhrase) rfl
  have F3 : Fun K "read_phrase" "read_phrase" sRPhrase (He.ga K "read_phrase") d3 := fun_ofD F3'
  have b3 : Binds K d3 ["text", "signs", "at", "depth"] [] := F3.binds fun _ _ _ _ _ _ us hl => match us, hl with | [_, _, _, _], _ => rfl
  have g3 : mg "read_phrase" = some (.ref (He.ga K "read_phrase")) := g _ (by decide)
  obtain ⟨d4, F4'⟩ := cD.def_ 4 (d := dD "read_factor" sRFactor) rfl
  have F4 : Fun K "read_factor" "read_factor" sRFactor (He.ga K "read_factor") d4 := fun_ofD F4'
  have b4 : Binds K d4 ["text", "signs", "at", "depth"] [] := F4.binds fun _ _ _ _ _ _ us hl => match us, hl with | [_, _, _, _], _ => rfl
  have g4 : mg "read_factor" = some (.ref (He.ga K "read_factor")) := g _ (by decide)
  obtain ⟨d5, F5'⟩ := cD.def_ 5 (d := dD "read_atom" sRAtom) rfl
  have F5 : Fun K "read_atom" "read_atom" sRAtom (He.ga K "read_atom") d5 := fun_ofD F5'
  have b5 : Binds K d5 ["text", "signs", "at", "depth"] [] := F5.binds fun _ _ _ _ _ _ us hl => match us, hl with | [_, _, _, _], _ => rfl
  have g5 : mg "read_atom" = some (.ref (He.ga K "read_atom")) := g _ (by decide)
  obtain ⟨d6, F6'⟩ := cD.def_ 6 (d := dD "read_exponent" sRExp) rfl
  have F6 : Fun K "read_exponent" "read_exponent" sRExp (He.ga K "read_exponent") d6 := fun_ofD F6'
  have b6 : Binds K d6 ["text", "at"] [] := F6.binds fun _ _ _ _ _ _ us hl => match us, hl with | [_, _], _ => rfl
  have g6 : mg "read_exponent" = some (.ref (He.ga K "read_exponent")) := g _ (by decide)
  obtain ⟨d7, F7'⟩ := cD.def_ 7 (d := dD "begins_atom" sBegins) rfl
  have F7 : Fun K "begins_atom" "begins_atom" sBegins (He.ga K "begins_atom") d7 := fun_ofD F7'
  have b7 : Binds K d7 ["text", "signs", "at", "depth"] [] := F7.binds fun _ _ _ _ _ _ us hl => match us, hl with | [_, _, _, _], _ => rfl
  have g7 : mg "begins_atom" = some (.ref (He.ga K "begins_atom")) := g _ (by decide)
  obtain ⟨d8, F8'⟩ := cD.def_ 8 (d := dD "mark_at" sMark) rfl
  have F8 : Fun K "mark_at" "mark_at" sMark (He.ga K "mark_at") d8 := fun_ofD F8'
  have b8 : Binds K d8 ["text", "at"] [] := F8.binds fun _ _ _ _ _ _ us hl => match us, hl with | [_, _], _ => rfl
  have g8 : mg "mark_at" = some (.ref (He.ga K "mark_at")) := g _ (by decide)
  obtain ⟨d9, F9'⟩ := cD.def_ 9 (d := dD "behind_spaces" sSpaces) rfl
  have F9 : Fun K "behind_spaces" "behind_spaces" sSpaces (He.ga K "behind_spaces") d9 := fun_ofD F9'
  have b9 : Binds K d9 ["text", "at"] [] := F9.binds fun _ _ _ _ _ _ us hl => match us, hl with | [_, _], _ => rfl
  have g9 : mg "behind_spaces" = some (.ref (He.ga K "behind_spaces")) := g _ (by decide)
  obtain ⟨d10, F10'⟩ := cD.def_ 10 (d := dD "check_no_digit" sNoDigit) rfl
  have F10 : Fun K "check_no_digit" "check_no_digit" sNoDigit (He.ga K "check_no_digit") d10 := fun_ofD F10'
  have b10 : Binds K d10 ["text", "at"] [] := F10.binds fun _ _ _ _ _ _ us hl => match us, hl with | [_, _], _ => rfl
  have g10 : mg "check_no_digit" = some (.ref (He.ga K "check_no_digit")) := g _ (by decide)
  obtain ⟨d11, F11'⟩ := cD.def_ 11 (d := dD "power" sPower) rfl
  have F11 : Fun K "power" "power" sPower (He.ga K "power") d11 := fun_ofD F11'
  have b11 : Binds K d11 ["word", "exponent"] [] := F11.binds fun _ _ _ _ _ _ us hl => match us, hl with | [_, _], _ => rfl
  have g11 : mg "power" = some (.ref (He.ga K "power")) := g _ (by decide)
  obtain ⟨d12, F12'⟩ := cD.def_ 12 (d := dD "cut" sCut) rfl
  have F12 : Fun K "cut" "cut" sCut (He.ga K "cut") d12 := fun_ofD F12'
  have b12 : Binds K d12 ["word"] [] := F12.binds fun _ _ _ _ _ _ us hl => match us, hl with | [_], _ => rfl
  have g12 : mg "cut" = some (.ref (He.ga K "cut")) := g _ (by decide)
  obtain ⟨d13, F13'⟩ := cD.def_ 13 (d := dD "format_word" sFWord) rfl
  have F13 : Fun K "format_word" "format_word" sFWord (He.ga K "format_word") d13 := fun_ofD F13'
  have b13 : Binds K d13 ["word"] [] := F13.binds fun _ _ _ _ _ _ us hl => match us, hl with | [_], _ => rfl
  have g13 : mg "format_word" = some (.ref (He.ga K "format_word")) := g _ (by decide)
  obtain ⟨d14, F14'⟩ := cD.def_ 14 (d := dD "runs_of" sRuns) rfl
  have F14 : Fun K "runs_of" "runs_of" sRuns (He.ga K "runs_of") d14 := fun_ofD F14'
  have b14 : Binds K d14 ["word"] [] := F14.binds fun _ _ _ _ _ _ us hl => match us, hl with | [_], _ => rfl
  have g14 : mg "runs_of" = some (.ref (He.ga K "runs_of")) := g _ (by decide)
  obtain ⟨d15, F15'⟩ := cD.def_ 15 (d := dD "format_run" sFRun) rfl
  have F15 : Fun K "format_run" "format_run" sFRun (He.ga K "format_run") d15 := fun_ofD F15'
  have b15 : Binds K d15 ["sign", "length"] [] := F15.binds fun _ _ _ _ _ _ us hl => match us, hl with | [_, _], _ => rfl
  have g15 : mg "format_run" = some (.ref (He.ga K "format_run")) := g _ (by decide)
  obtain ⟨d16, F16'⟩ := cD.def_ 16 (d := dD "_law_begin" sBegin) rfl
  have F16 : Fun K "_law_begin" "_law_begin" sBegin (He.ga K "_law_begin") d16 := fun_ofD F16'
  have b16 : Binds K d16 ["_law_script"] [] := F16.binds fun _ _ _ _ _ _ us hl => match us, hl with | [_], _ => rfl
  have g16 : mg "_law_begin" = some (.ref (He.ga K "_law_begin")) := g _ (by decide)
  obtain ⟨d17, F17'⟩ := cD.def_ 17 (d := dD "_law_draw" sDraw) rfl
  have F17 : Fun K "_law_draw" "_law_draw" sDraw (He.ga K "_law_draw") d17 := fun_ofD F17'
  have b17 : Binds K d17 ["_law_box", "_law_many"] [] := F17.binds fun _ _ _ _ _ _ us hl => match us, hl with | [_, _], _ => rfl
  have g17 : mg "_law_draw" = some (.ref (He.ga K "_law_draw")) := g _ (by decide)
  obtain ⟨d18, F18'⟩ := cD.def_ 18 (d := dD "_law_any" sAny) rfl
  have F18 : Fun K "_law_any" "_law_any" sAny (He.ga K "_law_any") d18 := fun_ofD F18'
  have b18 : Binds K d18 ["_law_box", "_law_some"] [] := F18.binds fun _ _ _ _ _ _ us hl => match us, hl with | [_, _], _ => rfl
  have g18 : mg "_law_any" = some (.ref (He.ga K "_law_any")) := g _ (by decide)
  obtain ⟨d19, F19'⟩ := cD.def_ 19 (d := dD "_law_same" sSame) rfl
  have F19 : Fun K "_law_same" "_law_same" sSame (He.ga K "_law_same") d19 := fun_ofD F19'
  have b19 : Binds K d19 ["_law_found", "_law_due"] [] := F19.binds fun _ _ _ _ _ _ us hl => match us, hl with | [_, _], _ => rfl
  have g19 : mg "_law_same" = some (.ref (He.ga K "_law_same")) := g _ (by decide)
  obtain ⟨d20, F20'⟩ := cD.def_ 20 (d := dD "_law_letters" sLetters) rfl
  have F20 : Fun K "_law_letters" "_law_letters" sLetters (He.ga K "_law_letters") d20 := fun_ofD F20'
  have b20 : Binds K d20 ["_law_box", "_law_many"] [] := F20.binds fun _ _ _ _ _ _ us hl => match us, hl with | [_, _], _ => rfl
  have g20 : mg "_law_letters" = some (.ref (He.ga K "_law_letters")) := g _ (by decide)
  obtain ⟨d21, F21'⟩ := cD.def_ 21 (d := dD "_law_signs" sSigns) rfl
  have F21 : Fun K "_law_signs" "_law_signs" sSigns (He.ga K "_law_signs") d21 := fun_ofD F21'
  have b21 : Binds K d21 ["_law_letters_here"] [] := F21.binds fun _ _ _ _ _ _ us hl => match us, hl with | [_], _ => rfl
  have g21 : mg "_law_signs" = some (.ref (He.ga K "_law_signs")) := g _ (by decide)
  obtain ⟨d22, F22'⟩ := cD.def_ 22 (d := dD "_law_some_word" sSome) rfl
  have F22 : Fun K "_law_some_word" "_law_some_word" sSome (He.ga K "_law_some_word") d22 := fun_ofD F22'
  have b22 : Binds K d22 ["_law_box", "_law_letters_here", "_law_most"] [] := F22.binds fun _ _ _ _ _ _ us hl => match us, hl with | [_, _, _], _ => rfl
  have g22 : mg "_law_some_word" = some (.ref (He.ga K "_law_some_word")) := g _ (by decide)
  obtain ⟨d23, F23'⟩ := cD.def_ 23 (d := dD "_law_text" sText) rfl
  have F23 : Fun K "_law_text" "_law_text" sText (He.ga K "_law_text") d23 := fun_ofD F23'
  have b23 : Binds K d23 ["_law_one"] [] := F23.binds fun _ _ _ _ _ _ us hl => match us, hl with | [_], _ => rfl
  have g23 : mg "_law_text" = some (.ref (He.ga K "_law_text")) := g _ (by decide)
  obtain ⟨d24, F24'⟩ := cD.def_ 24 (d := dD "law" sLaw) rfl
  have F24 : Fun K "law" "law" sLaw (He.ga K "law") d24 := fun_ofD F24'
  have b24 : Binds K d24 ["_law_script"] [] := F24.binds fun _ _ _ _ _ _ us hl => match us, hl with | [_], _ => rfl
  have g24 : mg "law" = some (.ref (He.ga K "law")) := g _ (by decide)
  obtain rfl : fl = He.ga K "law" := by
    have e := hfa.symm.trans g24
    injection e with e
    injection e
  obtain ⟨oc, od, kV, doc, pm, an, cdv, ct, osl, rfl, lk, hcd⟩ := id F24.ex
  refine ⟨PySem.W.fnOf "law" "law" (defArgs sLaw) (defBody sLaw) (defScope sLaw) .none kV doc pm an cdv ct, [], spLaw K, (fun p hp => nomatch hp), (fun p hp => nomatch hp), (fun p hp => nomatch hp), (fun s u => .of_eq rfl), ?_, ?_⟩
  · intro H a ns hl _ hT hS
    exact ⟨a, ns, rfl, hS, hl, fun _ => rfl⟩
  · intro base KB NB TBs
    have GDr : FnOk PySem.Challenge.rw_roundswap_k09_texts_of_words.prog w K mg base CX0 1 _ d17 _ spDraw := ok_draw F17 B
    have GAn : FnOk PySem.Challenge.rw_roundswap_k09_texts_of_words.prog w K mg base CX0 2 _ d18 _ spAny := ok_any (k := 0) F18 B F17 b17 g17
    have GSg : FnOk PySem.Challenge.rw_roundswap_k09_texts_of_words.prog w K mg base CX0 1 _ d21 _ spSigns := ok_signs F21
    have GSo : FnOk PySem.Challenge.rw_roundswap_k09_texts_of_words.prog w K mg base CX0 1 _ d0 _ spSof := ok_sof F0
    have GOp : FnOk PySem.Challenge.rw_roundswap_k09_texts_of_words.prog w K mg base CX0 1 _ d1 _ spOpp := ok_opp F1
    have GCu : FnOk PySem.Challenge.rw_roundswap_k09_texts_of_words.prog w K mg base CX0 1 _ d12 _ spCut := ok_cut F12 mL
    have GMk : FnOk PySem.Challenge.rw_roundswap_k09_texts_of_words.prog w K mg base CX0 1 _ d8 _ spMk := ok_mk F8
    have GBs : FnOk PySem.Challenge.rw_roundswap_k09_texts_of_words.prog w K mg base CX0 2 _ d9 _ spBs := ok_bs (k := 0) F9 GMk F8.kp b8 g8
    have GNd : FnOk PySem.Challenge.rw_roundswap_k09_texts_of_words.prog w K mg base CX0 2 _ d10 _ spNd := ok_nd (k := 0) F10 GMk F8.kp b8 g8
    have GBa : FnOk PySem.Challenge.rw_roundswap_k09_texts_of_words.prog w K mg base CX0 2 _ d7 _ spBa := ok_ba (k := 0) F7 GMk F8.kp b8 g8
    have GEx : FnOk PySem.Challenge.rw_roundswap_k09_texts_of_words.prog w K mg base CX0 3 _ d6 _ spEx := ok_ex (k := 0) F6 B GMk F8.kp b8 g8 GNd F10.kp b10 g10
    have GPo : FnOk PySem.Challenge.rw_roundswap_k09_texts_of_words.prog w K mg base CX0 2 _ d11 _ spPow := ok_pow (k := 0) F11 GCu F12.kp b12 g12 GOp F1.kp b1 g1
    have GAt : FnOk PySem.Challenge.rw_roundswap_k09_texts_of_words.prog w K mg base CX0 3 _ d5 _ spAt := ok_at (k := 0) F5 GBa F7.kp b7 g7 GNd F10.kp b10 g10
    have GFa : FnOk PySem.Challenge.rw_roundswap_k09_texts_of_words.prog w K mg base CX0 4 _ d4 _ spFa := ok_fa (k := 0) F4 GAt F5.kp b5 g5 GBs F9.kp b9 g9 GMk F8.kp b8 g8 GEx F6.kp b6 g6 GPo F11.kp b11 g11
    have GPh : FnOk PySem.Challenge.rw_roundswap_k09_texts_of_words.prog w K mg base CX0 5 _ d3 _ spPh := ok_ph (k := 0) F3 GFa F4.kp b4 g4 GBs F9.kp b9 g9 GBa F7.kp b7 g7 GCu F12.kp b12 g12
    have GRw : FnOk PySem.Challenge.rw_roundswap_k09_texts_of_words.prog w K mg base CX0 6 _ d2 _ spRw := ok_rw (k := 0) F2 B mL GPh F3.kp b3 g3 GSo F0.kp b0 g0
    have GRu : FnOk PySem.Challenge.rw_roundswap_k09_texts_of_words.prog w K mg base CX0 1 _ d14 _ spRuns := ok_runs F14 B
    have GFr : FnOk PySem.Challenge.rw_roundswap_k09_texts_of_words.prog w K mg base CX0 1 _ d15 _ spFr := ok_fr F15
    have GFw : FnOk PySem.Challenge.rw_roundswap_k09_texts_of_words.prog w K mg base CX0 2 _ d13 _ spFw := ok_fw (k := 0) F13 GRu F14.kp b14 g14 GFr F15.kp b15 g15
    exact ok_law F24 B ⟨ok_begin F16 B, F16.kp, b16, g16⟩ ⟨GDr, F17.kp, b17, g17⟩ ⟨GAn, F18.kp, b18, g18⟩ ⟨ok_let (k := 0) F20 B GAn F18.kp b18 g18, F20.kp, b20, g20⟩
      ⟨ok_some (k := 0) F22 B GAn F18.kp b18 g18 GDr F17.kp b17 g17 GSg F21.kp b21 g21, F22.kp, b22, g22⟩ ⟨ok_same F19 B b19 g19 1, F19.kp, b19, g19⟩ ⟨GFw, F13.kp, b13, g13⟩ ⟨GRw, F2.kp, b2, g2⟩ ⟨ok_tx F23 B, F23.kp, b23, g23⟩ (kb_of F13)
end K9
open PySem PySem.W PySem.Calls PyProof.Rows
set_option maxRecDepth 100000 in
set_option maxHeartbeats 0 in
theorem PySem.Challenge.cw_roundswap_k09_texts_of_words_holds : PySem.Challenge.rw_roundswap_k09_texts_of_words.Holds := by
  w_on; o_law
  refine HandSHeadRun.head_any (r := OpenLaw.row PySem.Challenge.rw_roundswap_k09_texts_of_words) (q := view (OpenLaw.row PySem.Challenge.rw_roundswap_k09_texts_of_words).prog [36]) (H := K9.hk) (ob := K9.ob) (M := 4000) (loose := K9.loose) (d := HandSHeadRun.topDef (OpenLaw.row PySem.Challenge.rw_roundswap_k09_texts_of_words).prog 36) (kwd := []) K9.ob_eq
    (by kernel_rfl) (fun s => by kernel_rfl) K9.run (by kernel_rfl) (by kernel_rfl) (by kernel_rfl) (by rfl) (by first | assumption | decide +kernel) (by decide +kernel) ⟨rfl, rfl, rfl, rfl, rfl, by decide +kernel⟩ ?hw ?hc
  case hw => w_witness2
  case hc =>
    refine LamX.walk_ofTsE (l := PySem.Challenge.rw_roundswap_k09_texts_of_words) (n := 63) (k := 8) (x := "_law_script") (CX := fun _ => L2.CX0) rfl (by decide) (by kernel_rfl) ⟨rfl, by decide, by decide⟩ ?F (fun _ _ _ _ _ z => z)
    intro w mg fa h Y G hmg0
    obtain ⟨K, KX, c⟩ := Y
    have hmg : mg ("law" : PySem.Str) = some (.ref fa) := by
      have e : (HandSHeadRun.topDef (OpenLaw.row PySem.Challenge.rw_roundswap_k09_texts_of_words).prog 36).name = ("law" : PySem.Str) := by kernel_rfl
      rw [← e]
      exact hmg0
    exact ⟨K, KX, K9.facts KX G hmg c⟩
