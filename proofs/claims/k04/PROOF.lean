import PyProof.Rows.All
import Wide.All
import OpenK.AllK
import Wide.FinOn
import PyProof.EqAt
import PyProof.EqKinds
import PyProof.TupleCall
import HandS.ForMost
import HandS.Walk
import HandS.Style
import HandS.Exc
import HandS.HotCalls
import HandS.ExcField
import KE.KTryMore
import HandS.Lambda
import KE.KDflt
import KE.KSortKeySt
import HandS.Keys
import HandS.SortKw
import HandS.Wide
import HandS.Zip
import HandS.Words
import PyProof.StrBlock
import PyProof.StrLawsIn
import HandS.IsInst
import HandS.EndTab
import HandS.ExcInit
import HandS.Flow
import HandS.StrMore
import HandS.Codes
import HandS.WordsExc
import KE.KStateDown
import HandS.More
import HandS.Defaults
import HandS.Head0
import HandS.Head1
import HandS.Head2
import HandS.HeadEnd
import HandS.HeadHook1
import HandS.HeadHook2
import HandS.HeadHook3
import HandS.HeadHook4
import HandS.HeadWalk
import HandS.Comp
import HandS.OwnEq
import HandS.MakeKw
import HandS.Property
import KE.GoesMore
import HandS.FStr
import PySem.Challenge.RW_roundswap_k04_tables_and_their_normal_ro
set_option Elab.async false
set_option linter.all false
set_option maxRecDepth 100000
set_option maxHeartbeats 2000000
namespace Rs
open PySem PySem.Spec PyProof.Rows L2
section
variable {X : Cx}
/-! texts: swapcase, and [::-1] -/
theorem m_swapcase : MtR X "str.swapcase" (fun x xs H Q => ∃ a, x = .str a ∧ xs = [] ∧ a.length ≤ 5592405 ∧ Q (.str (Txt.swapcase a)) H) :=
  mt0 (C := fun a => a.length ≤ 5592405) (g := fun a => .str (Txt.swapcase a)) fun a _ s _ hc h => PySem.SC.swapcase (fit_swapcase hc) (h _ (s.toks + 1) ⟨_, rfl⟩)
def rv (z : Str) : Str := ⟨z.cps.reverse⟩
theorem rv_is (z : Str) (u : Tok) : Txt.sliceBy z none none (-1, u) = rv z := by
  have e := step_rev_list z u
  unfold rv
  have e2 : (Txt.sliceBy z none none (-1, u)).cps = z.cps.reverse := by
    apply Array.toList_inj.mp
    rw [e, Array.toList_reverse]
    apply List.ext_getElem?
    intro i
    rw [List.getElem?_map]
    by_cases h : i < z.cps.size
    · have hl : i < z.length := h
      rw [List.getElem?_range hl, List.getElem?_reverse (by simpa using h)]
      have h2 : z.length - 1 - i < z.cps.size := by show z.cps.size - 1 - i < _; omega
      show some _ = z.cps.toList[z.cps.size - 1 - i]?
      rw [Array.getElem?_toList]
      have h3 : z.cps.size - 1 - i < z.cps.size := h2
      rw [Array.getElem?_eq_getElem h3]
      congr 1
      show z.cps.getD (z.cps.size - 1 - i) 0 = _
      simp [Array.getD, h3]
    · have h1 : (List.range z.length)[i]? = none := by
        rw [List.getElem?_eq_none_iff, List.length_range]; exact Nat.not_lt.mp h
      rw [h1, List.getElem?_eq_none (by simpa using Nat.not_lt.mp h)]
      rfl
  cases hz : Txt.sliceBy z none none (-1, u)
  rw [hz] at e2
  dsimp only at e2
  rw [e2]
def tRevS (te : TE) : TE := fun σ H Q => te σ H fun x H1 => ∃ z, x = .str z ∧ z.length ≤ sizeLine ∧ Q (.str (rv z)) H1
theorem e_revS {e : Expr} {te : TE} {k : Nat} {p1 p2 p3 pos : Pos} (he : PE X e te) :
    PE X (.Subscript e (.Slice none none (some (.UnaryOp .USub (.Constant (.int 1) k p1) p2)) p3) pos) (tRevS te) := by
  constructor
  intro pins s σ H Q I h
  refine Subscript_ (thn (he.run pins s σ H _ I h) fun v s1 hh => ?_)
  obtain ⟨x, H1, I1, r1, z, ez, hz, q⟩ := hh
  subst ez
  obtain ⟨t, rfl⟩ := r1
  have hst : PO X (some (.UnaryOp .USub (.Constant (.int 1) k p1) p2)) (tPart (tUn (rU fun i => .int (-i)) (tC (.int 1)))) :=
    po_some (pe_un un_neg pe_int)
  refine wpAny_Slice (thn (po_none.run pins s1 σ H1 (fun o H2 => o = none ∧ H2 = H1) I1 ⟨rfl, rfl⟩) ?_)
  rintro vl s2 ⟨l, H2, I2, pl, rfl, rfl⟩
  refine thn (po_none.run pins s2 σ H2 (fun o H3 => o = none ∧ H3 = H2) I2 ⟨rfl, rfl⟩) ?_
  rintro vu s3 ⟨u, H3, I3, pu, rfl, rfl⟩
  refine thn (hst.run pins s3 σ H3 (fun o H4 => o = some (-1) ∧ H4 = H3) I3 ⟨1, rfl, -1, rfl, rfl, rfl⟩) ?_
  rintro vs s4 ⟨o, H4, I4, ps, rfl, rfl⟩
  obtain ⟨l', rfl, hl'⟩ := IsPart.raw pl
  obtain ⟨u', rfl, hu'⟩ := IsPart.raw pu
  obtain ⟨k', rfl, hk'⟩ := IsPart.raw ps
  cases l' with
  | some l' => cases hl'
  | none =>
  cases u' with
  | some u' => cases hu'
  | none =>
  cases k' with
  | none => cases hk'
  | some k' =>
  obtain ⟨kk, tk⟩ := k'
  have ek : kk = -1 := by simpa using hk'
  subst ek
  refine tail_any (ops := [.str z t, .ref s4.heap.objs.size]) (typeIs_str _ _ _) (F.slot_str_getitem.lookup) ?_ (by with_unfolding_all rfl)
  refine wpAny_getItem_str_slice (l := none) (u := none) (st := some (-1, tk)) ⟨_, Heap.get?_push_size _ rfl, rfl, rfl⟩ rfl ?_
  refine post_val_or_str ⟨Nat.le_trans (Txt.sliceBy_le z _ _ (-1, tk) (by show (-1 : Int) ≠ 0; decide)) hz, fun t' c => ?_⟩
  show EP X pins σ Q (.str (Txt.sliceBy z none none (-1, tk)) t') _
  rw [rv_is]
  exact ⟨.str (rv z), _, I4.kept fun b ob q => Heap.get?_push_of_some _ q, ⟨_, rfl⟩, q⟩
end
end Rs
set_option maxRecDepth 100000
set_option maxHeartbeats 2000000
namespace Rs
open PySem PySem.Spec PyProof.Rows L2
theorem fly_keeps {h h' Bh : Heap} {l : List Env} {a : Addr} {Z : Obj → Prop} (x : HandSPX.FlyingZ Bh l a Z h) (k : ∀ b o, h.get? b = some o → h'.get? b = some o) : HandSPX.FlyingZ Bh l a Z h' := by
  obtain ⟨x1, x2, x3, oe, vs, T, oT, ts, y1, y2, y3, y4, y5, y6, y7, y8, y9⟩ := x
  exact ⟨fun b o e => k b o (x1 b o e), x2, x3.of_keeps (fun b o e _ => ⟨o, k b o e, rfl⟩), oe, vs, T, oT, ts, k _ _ y1, y2, y3, y4, y5, y6, k _ _ y7, y8, y9⟩
/-- what «except (x1, x2, x3) as n» asks of an error of the body, where it is always one of the three -/
def wT (K : PySem.W.Frag) (cs : List Value) (i : Nat) (ts : Addr → Value → Option Addr → TS) (D : Ends) : WX := fun cls d σ H =>
  PySem.W.exmAny K cls cs = some true ∧ ∀ a, H a = none →
    ts a cls d { nx := fun σ' H' => D.nx (σ'.set i none) H', rt := D.rt, bk := fun σ' H' => D.bk (σ'.set i none) H', ct := fun σ' H' => D.ct (σ'.set i none) H' } (σ.set i (some (.ref a))) H
section
variable {X : Cx}
theorem s_try3 {x1 x2 x3 n : Str} {c1 c2 c3 : Value} {i k : Nat} {body suite : List Stmt} {b₀ : Stmt} {n1 n2 n3 tp pos pos' : Pos} {tb : WX → TS} {ts : Addr → Value → Option Addr → TS}
    (hs : X.stack = X.env :: X.outer) (hf : X.env.frame = some X.env.locals) (hN : X.N.Nodup) (hi : X.N[i]? = some n) (hln : X.env.kindOf n = some .local)
    (g1 : Gl X x1) (m1 : X.mg x1 = some c1) (g2 : Gl X x2) (m2 : X.mg x2 = some c2) (g3 : Gl X x3) (m3 : X.mg x3 = some c3)
    (hb : ∀ (W : WX) (pn : List (Addr × Obj)) (xe : Value → Shared → Prop), Takes (X.tr pn xe) W → PSs (X.tr pn xe) body (tb W))
    (hsu : ∀ (a : Addr) (oe : Obj) (cls : Value) (d : Option Addr) (pn : List (Addr × Obj)), Zc cls d oe → (∃ vs, oe.data = .fields vs) → PSs (X.suite a ((a, oe) :: pn)) (b₀ :: suite) (ts a cls d))
    (d1 : (x1 == ("__debug__" : Str)) = false := by decide) (d2 : (x2 == ("__debug__" : Str)) = false := by decide) (d3 : (x3 == ("__debug__" : Str)) = false := by decide) :
    PS X (.Try body [.ExceptHandler (some (.Tuple [.Name x1 n1, .Name x2 n2, .Name x3 n3] k tp)) (some n) (b₀ :: suite) pos'] [] [] pos) (fun D σ H => tb (wT X.K [c1, c2, c3] i ts D) D σ H) := by
  constructor
  intro pins s σ H D I h
  have ok := I.ok
  have hfra : X.A.frames = some (X.env :: X.outer) := by rw [ok.frames, hs]
  have hlc : Loc X.env.scope n := .inl hln
  refine wpAny_Try_except ?_
  refine wpAny_mono ((hb (wT X.K [c1, c2, c3] i ts D) (X.pn ++ pins)
    (fun e s₁ => wpAny (model X.prog X.w) X.A (noteFrame e X.env) (fun _ s₂ => wpAny (model X.prog X.w) X.A (setFlight e none)
      (fun _ s₃ => wpAny (model X.prog X.w) X.A (handleBy e X.env [.ExceptHandler (some (.Tuple [.Name x1 n1, .Name x2 n2, .Name x3 n3] k tp)) (some n) (b₀ :: suite) pos']) (SP X pins D) X.xe s₃) X.xe s₂) X.xe s₁)
    (fun u s' xx => ?_)).run [] s σ H D (I.toTry _) h) (fun f s1 hsp => ?_) (fun e s1 he => he)
  · obtain ⟨a, Bh, sIn, pins', σ', H', cls, d, rfl, Jt, nbk, up, sky, na, os, agn, hx, hyes⟩ := xx
    have J : Inv X pins σ' H' sIn := Jt.ofTry ok
    have skyB : Sky Bh (X.env :: X.outer) a (Zc cls d) X.env.locals s'.heap := hs ▸ sky
    show wpAny _ X.A (noteFrame (.ref a) X.env) _ _ _
    refine Sky.land Zc.steady hfra hf skyB fun hp3 fly3 ups3 => ?_
    have Jl : Inv X pins σ' H' { s' with heap := hp3 } := J.landed nbk fly3.1 (up.trans ups3) os agn
    obtain ⟨ob3, vb3, ge3, gz3, gd3⟩ := fly3.there
    have noFr : a ∉ frs (X.env :: X.outer) := fun hm => by
      obtain ⟨_, o', e', hnf⟩ := fly3.2.2.1.mem hm
      rw [ge3] at e'
      cases e'
      exact hnf _ gd3
    have noL : a ≠ X.env.locals := fun z => noFr (List.mem_filterMap.mpr ⟨X.env, List.mem_cons_self, by rw [hf, z]⟩)
    have noF : a ∉ X.fs := fun hm => by
      obtain ⟨en, hen, q⟩ := List.mem_filterMap.mp hm
      exact noFr (List.mem_filterMap.mpr ⟨en, List.mem_cons_of_mem _ hen, q⟩)
    have Su3 := Jl.suite ge3 gd3 na noL noF
    refine wpAny_handleBy_cons (codeAny_handlers_test ?_) (fun z => nomatch z)
    refine wpAny_Tuple_spliced ?_
    show wpAny _ _ (spliced [(false, eval (.Name x1 n1) X.env), (false, eval (.Name x2 n2) X.env), (false, eval (.Name x3 n3) X.env)]) _ _ _
    refine Calls.spliced_cons (ld_glob (X := X.suite a ((a, ob3) :: (X.pn ++ pins))) Su3 g1 m1 ?_ d1)
    refine Calls.spliced_cons (ld_glob (X := X.suite a ((a, ob3) :: (X.pn ++ pins))) Su3 g2 m2 ?_ d2)
    refine Calls.spliced_cons (ld_glob (X := X.suite a ((a, ob3) :: (X.pn ++ pins))) Su3 g3 m3 (Calls.spliced_nil ⟨by show 3 ≤ sizeLine; decide, ?_⟩) d3)
    have kp : ∀ b o, hp3.get? b = some o → (hp3.push { cls := .type "tuple", data := .seq [c1, c2, c3].toArray }).get? b = some o := fun b o e => Heap.get?_push_of_some _ e
    have fl4 := fly_keeps fly3 kp
    have he4 := kp _ _ ge3
    have LT : PySem.W.Looks (model X.prog X.w) (hp3.push { cls := .type "tuple", data := .seq [c1, c2, c3].toArray }) (typeOf (.ref a)) cls := fun A Q E s k q => wpAny_typeOf_ref (k _ _ he4) (by rw [gz3.1]; exact q)
    have LM := PySem.W.exm_tup3 (M := model X.prog X.w) (Jl.kIn.keeps kp) LT (Heap.get?_push_size _ rfl) hx
    refine LM.here ?_
    refine codeAny_handlers_suite_as (HandSPX.lands_againZ (s := { s' with heap := hp3.push { cls := .type "tuple", data := .seq [c1, c2, c3].toArray } }) fl4 fun h5 fl5 up5 => ?_)
    have J5 : Inv X pins σ' H' { s' with heap := h5 } := J.landed nbk fl5.1 (((up.trans ups3).trans (.of_keeps kp)).trans up5) os agn
    obtain ⟨oe5, vs5, he5, hz5, hd5⟩ := fl5.there
    have S5 := J5.suite he5 hd5 na noL noF
    refine store_ok (X := X.suite a ((a, oe5) :: (X.pn ++ pins))) (v := .ref a) S5 hN hi hlc rfl (fun s6 S6 => ?_) (.inr hln)
    refine wpAny_mono ((hsu a oe5 cls d (X.pn ++ pins) hz5 ⟨_, hd5⟩).run [] s6 _ H' _ S6 (hyes a na)) (fun f s7 hsp => ?_) (fun _ _ z => False.elim z)
    have fin : ∀ {σ7 : L2.St} {H7 : Hp} {Q : Shared → Prop}, Inv (X.suite a ((a, oe5) :: (X.pn ++ pins))) [] σ7 H7 s7 → (∀ s8, Inv X pins (σ7.set i none) H7 s8 → Q s8) →
        wpAny (model X.prog X.w) X.A (do bindName X.env n .none; unbindBehindTheSuite X.env n pos') (fun _ s8 => Q s8) X.xe s7 := fun S7 hq => gone_ok (S7.unsuite ok) hN hi hln hq
    cases f with
    | next =>
      obtain ⟨σ7, H7, S7, q7⟩ := hsp
      exact fin S7 fun s8 J8 => ⟨_, _, J8, q7⟩
    | brk =>
      obtain ⟨σ7, H7, S7, q7⟩ := hsp
      exact fin S7 fun s8 J8 => ⟨_, _, J8, q7⟩
    | cont =>
      obtain ⟨σ7, H7, S7, q7⟩ := hsp
      exact fin S7 fun s8 J8 => ⟨_, _, J8, q7⟩
    | ret u =>
      obtain ⟨v7, σ7, H7, S7, r7, q7⟩ := hsp
      exact fin S7 fun s8 J8 => ⟨_, _, _, J8, r7, q7⟩
  · cases f with
    | next =>
      obtain ⟨σ', H', Jt, q⟩ := hsp
      exact wpAny_execs_nil ⟨σ', H', Jt.ofTry ok, q⟩
    | brk =>
      obtain ⟨σ', H', Jt, q⟩ := hsp
      exact ⟨σ', H', Jt.ofTry ok, q⟩
    | cont =>
      obtain ⟨σ', H', Jt, q⟩ := hsp
      exact ⟨σ', H', Jt.ofTry ok, q⟩
    | ret u =>
      obtain ⟨v, σ', H', Jt, r, q⟩ := hsp
      exact ⟨v, σ', H', Jt.ofTry ok, r, q⟩
/-- err.f, err an error that the context holds by a pin -/
theorem e_xf {a C : Addr} {oe : Obj} {cls : Value} {d : Option Addr} {e : Expr} {te : TE} {pos : Pos} {n : Str} (T : XfC X.K C) (hno : PySem.W.findIn X.K (.ref C) n = some none)
    (hz : Zc cls d oe) (hf : ∃ vs, oe.data = .fields vs) (hp : (a, oe) ∈ X.pn) (he : PE X e te) (hb : attributeBase e n X.env (eval e X.env) = eval e X.env := by rfl) :
    PE X (.Attribute e n pos) (tXf a cls d C n te) := by
  constructor
  intro pins s σ H Q I h
  refine attr_of hb (thn (he.run pins s σ H _ I h) ?_)
  rintro u s1 ⟨x, H1, I1, rx, rfl, rfl, dd, fs, v, rfl, ea, l, q⟩
  obtain rfl : u = .ref a := rx
  obtain ⟨ha, _⟩ := I1.pin (a, oe) (List.mem_append_left _ hp)
  obtain ⟨vs, hd⟩ := hf
  obtain ⟨mAt, hnsp, hr⟩ := (show ObjOk X.prog X.w H1 s1.heap dd (.xd fs) from I1.hok dd _ ea)
  obtain ⟨odo, hod, hl⟩ := lookIn_ns hnsp
  obtain ⟨u, hu, ruv⟩ := RelO.some_of (v := v) (o := mAt n) (by rw [← l]; exact hr n)
  have J : PySem.W.InstAt s1.heap a oe C (some odo) := ⟨ha, hz.1, by unfold PySem.W.notCls; rw [hd] <;> rfl, by rw [hz.2]; exact hod⟩
  exact HandSPX.exc_get I1.kIn J T.ga T.gg T.exC (PySem.W.findObj_own T.hdC hno rfl (by rw [hl, hu])) (handed_of ruv) ⟨v, H1, I1.tok _, ruv, q⟩
end
/-- a def's promise where an error p is handled and handed on -/
structure FnPin (P : Program) (w : World) (K : PySem.W.Frag) (mg : Str → Option Value) (base : Heap) (k : Nat) (f : Addr) (fd : FuncData) (ps : List Str) (sp : Addr × Obj → Sp) : Prop where
  len : ∀ p vs H Q E, sp p vs H Q E → vs.length = ps.length
  run : ∀ (A : Around) (outer : List Env) (s : Shared) (H : Hp) (us : List Value) (vs : List V) (Q : VK) (p : Addr × Obj), L2H.RoomH k A → L2H.PinOk outer H s p → Env0 P w K mg base A outer s H →
    BindsTo s fd ⟨us, []⟩ (ps.zip us) → Vals vs us → sp p vs H Q E0 → codeAny (model P w) A (.call (.ref f) ⟨us, []⟩) (CR CX0 outer P w H s Q E0) s
theorem fn_pin {P : Program} {w : World} {K : PySem.W.Frag} {mg : Str → Option Value} {base : Heap} {k : Nat} {f : Addr} {fd : FuncData} {name : Str} {st : Stmt} {N ps : List Str} {sp : Addr × Obj → Sp} (F : Fun K name name st f fd) (S : FnScope N ps (defScope st))
    (len : ∀ p vs H Q E, sp p vs H Q E → vs.length = ps.length)
    (hbody : ∀ (cdv : Value) (A : Around) (outer : List Env) (s : Shared) (H : Hp) (vs : List V) (Q : VK) (p : Addr × Obj), L2H.RoomH k (A.deeper (envOfC name (defScope st) s.heap.objs.size f cdv)) → sp p vs H Q E0 →
      ∃ t, PSs (L2H.cxH CX0 P w K mg base N name (defScope st) f cdv A outer s H E0 p).nox (defBody st) t ∧ t { nx := fun _ H' => Q .non H', rt := Q } (L2.start N vs) H) :
    FnPin P w K mg base (k + 1) f fd ps sp := by
  obtain ⟨oc, odo, kV, doc, pm, an, cdv, ct, osl, rfl, lk, hcd⟩ := F.ex
  refine ⟨len, fun A outer s H us vs Q p hr hpin e0 hb r hsp => ?_⟩
  have hl := len _ _ _ _ _ hsp
  have Kin : K.In s.heap := e0.mod.kin.keeps fun b o e => (e0.bs b o e).1
  have lmt : s.heap.NoLimit := e0.mod.nolimit.keeps fun b o e => (e0.bs b o e).1
  have hkd : ∀ y ∈ ps.zip us, (defScope st).names.lookup y.1 = some .local ∨ ((defScope st).names.lookup y.1 = some .cell ∧ ((cellsFrom (s.heap.objs.size + 1) (defScope st).names []).lookup y.1).isSome = true) := by
    rintro ⟨n, v⟩ hy
    exact (S.par n (List.of_mem_zip hy).1).elim (fun q => .inl q) (fun q => .inr ⟨q, PySem.W.cellsFrom_some _ _ _ (.inl q)⟩)
  refine codeAny_call_function hr.depth (Kin _ _ lk) rfl S.co S.gen rfl (PySem.W.codeRec_of Kin hcd) (hb _ _ _ _ ?_)
  refine wpAny_newFunctionEnv_cells S.kind hkd fun env he s1 x => ?_
  subst he
  refine ⟨lmt.keeps x.toInCall.keep, codeAny_func ?_⟩
  obtain ⟨t, ht, hq⟩ := hbody cdv A outer s H vs Q p (hr.deeper _) hsp
  have I : Inv (L2H.cxH CX0 P w K mg base N name (defScope st) f cdv A outer s H E0 p) [] (L2.start N vs) H s1 := L2H.inv_startH S hpin e0 hl r x
  refine wpAny_mono (ht.nox.run [] s1 (L2.start N vs) H _ I hq) (fun fl s' hs => ?_) fun e s' hs => hs
  cases fl with
  | ret u =>
    obtain ⟨v, σ', H', Jn, rv, q⟩ := hs
    exact ⟨v, H', Jn.os, Jn.bare, Jn.base, Jn.hok, rv, q⟩
  | next =>
    obtain ⟨σ', H', J, q⟩ := hs
    exact ⟨.non, H', J.os, J.bare, J.base, J.hok, rfl, q⟩
  | brk =>
    obtain ⟨_, _, _, q⟩ := hs
    exact False.elim q
  | cont =>
    obtain ⟨_, _, _, q⟩ := hs
    exact False.elim q
theorem e_callP {X : Cx} {k : Nat} {f : Addr} {fd : FuncData} {ps : List Str} {sp : Addr × Obj → Sp} {p : Addr × Obj} {x : Str} {e : Expr} {es : List Expr} {t : TA} {q pos : Pos} (F : FnPin X.prog X.w X.K X.mg X.base k f fd ps sp) (hr : L2H.RoomH k X.A) (hp : p ∈ X.pn) (hg : Gl X x) (hm : X.mg x = some (.ref f))
    (hk : PySem.W.keepIn X.K (.ref f) = true) (hb : Binds X.K fd ps []) (ha : PA X (e :: es) t) (hdb : (x == ("__debug__" : Str)) = false := by decide)
    (he : starEach (e :: es) X.env = (false, eval e X.env) :: starEach es X.env := by rfl) (hpl : (backTo pos (starEach es X.env)).any (·.1) = false := by rfl) : PE X (.Call (.Name x q) (e :: es) [] pos) (tCall (sp p) [] E0 t) := by
  constructor
  intro pins s σ H Q I h
  refine wpAny_Call_Name_kw (ld_glob I hg hm (PySem.W.callWith_K (h₀ := X.base) I.ok.mod.kin hk (thn (ha.run pos pins s σ H _ I h) ?_) he hpl) hdb)
  rintro us s1 ⟨vs, H1, I1, r, q⟩
  refine ⟨I1.kIn, ?_⟩
  rw [List.append_nil] at q
  have hl : us.length = ps.length := by rw [← r.length]; exact F.len _ _ _ _ _ q
  have b := hb s1 us I1.kIn (by rw [List.append_nil]; exact hl)
  rw [List.append_nil] at b
  have P1 := I1.pin p (List.mem_append_left _ hp)
  have hpin : L2H.PinOk X.stack H1 s1 p := ⟨P1.1, P1.2.1, fun hm => (List.mem_cons.mp (I1.stkSub p.1 hm)).elim P1.2.2.1 P1.2.2.2.1, P1.2.2.2.2⟩
  refine wpAny_call (codeAny_mono (F.run X.A X.stack s1 H1 us vs Q p hr hpin I1.env0 b r q) fun r s' hq => ?_)
  cases r with
  | error er => exact False.elim hq
  | ok fl =>
    cases fl with
    | ret u => exact I1.after hq
    | next => exact False.elim hq
    | brk => exact False.elim hq
    | cont => exact False.elim hq
end Rs
set_option maxRecDepth 100000
set_option maxHeartbeats 2000000
namespace Rs
open PySem PySem.Spec PyProof.Rows L2
/-! a comprehension whose element knows what holds of the def around it -/
section
variable {X : Cx}
/-- whoever is right within the block is right for the def -/
def Up (X : Cx) (Z : Cx) (pins : List (Addr × Obj)) (σ : L2.St) : Prop := ∀ (pz : List (Addr × Obj)) (τ : L2.St) (G : Hp) (z : Shared), Inv Z pz τ G z → Inv X pins σ G z
theorem up_blk {pins : List (Addr × Obj)} {s : Shared} {σ : L2.St} {H : Hp} {sco : Scope} {ce : Env} {fp : List Addr} (I : Inv X pins σ H s) (ok : ∀ b ∈ fp, FpOk X pins H b ∧ b < s.heap.objs.size) : Up X (X.blk s H sco ce fp) pins σ := by
  intro pz τ G z J
  refine I.call' (ch := fp) J.os J.base J.hok J.bare fun b hb => ?_
  obtain ⟨⟨_, x2, _, x4, x5, x6⟩, _⟩ := ok b hb
  exact ⟨x4, x2, x5, x6⟩
/-- the block's own run: its list stands at D -/
theorem blk_run {pins : List (Addr × Obj)} {s : Shared} {σ : L2.St} {H : Hp} {Q : VK} {elt tg it0 : Expr} {cs : List Expr} {sco : Scope} {own : List (Str × Nat)} {pos : Pos} {J : It} {g : TG} {tt : TT} {te : TE} {it D : Addr} {fp : List Addr} {tn : Nat → Heap → Prop} {W : Nat → Nat → Hp → Prop} {m0 : Nat} {R : Result → Shared → Prop}
    (hc : X.calm = true) (nd : X.N.Nodup) (I : Inv X pins σ H s) (bo : BlkOk X.N X.env.scope sco own) (ok : ∀ b ∈ fp, FpOk X pins H b ∧ b < s.heap.objs.size) (T : Turn X.prog X.w X.K tg J fp it tn) (st : tn 0 s.heap) (w0 : W 0 m0 H)
    (hg : ∀ z G C cl fp, PG (X.blk z G sco (compEnvC sco cl C X.env) fp) tg g) (ht : ∀ z G C cl fp, PTs (X.blk z G sco (compEnvC sco cl C X.env) fp) cs tt)
    (he : ∀ z G C cl fp, Up X (X.blk z G sco (compEnvC sco cl C X.env) fp) pins σ → PE (X.blk z G sco (compEnvC sco cl C X.env) fp) elt te)
    (turn : ∀ i m G, W i m G → (J.stop i G ∧ Q (.ref D) G) ∨ (J.go i G ∧ ∃ Nx : Hp → Prop, (∀ G', Nx G' → ∃ m', m' < m ∧ W (i + 1) m' G') ∧ ∀ x G', J.yld i G x G' → g x (wipe σ (own.map (·.2))) G' fun τ G2 => wipe τ (own.map (·.2)) = wipe σ (own.map (·.2)) ∧ tt τ G2 fun b G3 =>
      if b = true then te τ G3 fun y G4 => ∃ acc, G4 D = some (.lst acc) ∧ acc.length < sizeLine ∧ Nx (upd G4 D (.lst (acc ++ [y]))) else Nx G3))
    (out : ∀ z m G, Inv X pins σ G z → Q (.ref D) G → z.heap.Ns s.heap.objs.size m → FpOk X pins G s.heap.objs.size → R (.ok .next) z) :
    codeAny (model X.prog X.w) X.A (.compStart (.ListComp elt [⟨tg, it0, cs, 0⟩] sco pos) 0 (.ref it) (.ref D) (compEnvC sco (cellsFrom (s.heap.objs.size + 1) sco.names (cloFrom X.env.cells sco.names [])) s.heap.objs.size X.env)) R
      { s with heap := pushCells (s.heap.push { cls := .type "dict", data := .dict #[] }) sco.names } := by
  have B0 := block_start I bo nd ok
  have st' : tn 0 (pushCells (s.heap.push { cls := .type "dict", data := .dict #[] }) sco.names) := T.keep _ _ _ st (by intro b _ o e; exact pushCells_keeps _ _ _ _ (Heap.get?_push_of_some _ e))
  have pg := hg s H s.heap.objs.size (cellsFrom (s.heap.objs.size + 1) sco.names (cloFrom X.env.cells sco.names [])) fp
  have pt := ht s H s.heap.objs.size (cellsFrom (s.heap.objs.size + 1) sco.names (cloFrom X.env.cells sco.names [])) fp
  have pe := he s H s.heap.objs.size (cellsFrom (s.heap.objs.size + 1) sco.names (cloFrom X.env.cells sco.names [])) fp (up_blk I ok)
  have eL : (compEnvC sco (cellsFrom (s.heap.objs.size + 1) sco.names (cloFrom X.env.cells sco.names [])) s.heap.objs.size X.env).locals = s.heap.objs.size := rfl
  generalize compEnvC sco (cellsFrom (s.heap.objs.size + 1) sco.names (cloFrom X.env.cells sco.names [])) s.heap.objs.size X.env = ce at *
  generalize hs4 : ({ s with heap := pushCells (s.heap.push { cls := .type "dict", data := .dict #[] }) sco.names } : Shared) = s4 at B0 ⊢
  have st4 : tn 0 s4.heap := by
    rw [← hs4]
    exact st'
  -- the iterator's objects, seen from the block
  have fit : ∀ {τ : L2.St} {G : Hp} {z : Shared}, Inv (X.blk s H sco ce fp) [] τ G z → (∀ b ∈ fp, G b = none) → ∀ b ∈ fp, FpOk (X.blk s H sco ce fp) [] G b := by
    intro τ G z Iz hn b hb
    have e1 := Iz.ok.exf b hb
    refine ⟨hn b hb, e1.1, Iz.ok.exfs b hb, .inl hb, fun x c => e1.2 x c, ?_⟩
    intro p hp
    cases hp
  have loop : codeAny (model X.prog X.w) X.A (.compLoop (.ListComp elt [⟨tg, it0, cs, 0⟩] sco pos) 0 (.ref it) (.ref D) ce) R s4 := by
    apply compLoop_any (fun n z => ∃ i G, Inv (X.blk s H sco ce fp) [] (wipe σ (own.map (·.2))) G z ∧ tn i z.heap ∧ (∀ b ∈ fp, G b = none) ∧ W i n G) _ m0 ⟨0, H, B0, st4, fun b hb => (ok b hb).1.1, w0⟩
    rintro n s5 ⟨i, G5, I5, st5, n5, w5⟩
    cases turn i n G5 w5 with
    | inl h =>
      have td := T.done (X.blk s H sco ce fp) rfl rfl rfl hc i [] s5 _ G5 (fun _ _ => False) I5 (fit I5 n5) st5 h.1
      refine thnF td ?_
      rintro r s6 ⟨rfl, I6⟩
      have nC : G5 s.heap.objs.size = none := by
        rw [← eL]
        exact I6.free
      obtain ⟨m, hm, _⟩ := I6.loc
      refine out s6 m G5 (up_blk I ok _ _ _ _ I6) h.2 ?_ (I.fpOk (Nat.le_refl _) nC)
      rw [← eL]
      exact hm
    | inr h =>
      obtain ⟨go, Nx, hNx, step⟩ := h
      have ti := T.item (X.blk s H sco ce fp) rfl rfl rfl hc i [] s5 _ G5 (fun _ _ => False) I5 (fit I5 n5) st5 go
      refine thnF ti ?_
      rintro r s6 ⟨u, rfl, h6⟩
      refine thnF h6 ?_
      rintro _ s7 ⟨x, G7, I7, r7, y7, st7, n7⟩
      refine thnF (pg.run _ s7 _ G7 x u _ (I7.pinned (fit I7 n7) (T.obj _ _ st7)) r7 (step x G7 y7)) ?_
      rintro _ s8 ⟨τ, G8, I8, ew, q8⟩
      refine thnF (pt.run _ s8 τ G8 _ I8 q8) ?_
      rintro b s9 ⟨G9, I9, q9⟩
      have fin : ∀ {z : Shared} {G : Hp}, Inv (X.blk s H sco ce fp) ([] ++ pinsAt fp s7.heap) τ G z → Nx G → ∃ m, m < n ∧ ∃ i G, Inv (X.blk s H sco ce fp) [] (wipe σ (own.map (·.2))) G z ∧ tn i z.heap ∧ (∀ b ∈ fp, G b = none) ∧ W i m G := by
        intro z G Iz nx
        obtain ⟨m', hm, w'⟩ := hNx G nx
        have pin : ∀ b ∈ fp, ∀ o, s7.heap.get? b = some o → z.heap.get? b = some o ∧ G b = none := by
          intro b hb o e
          have q := Iz.pin (b, o) (List.mem_append_right _ (List.mem_append_right _ (mem_pinsAt hb e)))
          exact ⟨q.1, q.2.1⟩
        refine ⟨m', hm, i + 1, G, ?_, T.keep _ _ _ st7 (fun b hb o e => (pin b hb o e).1), ?_, w'⟩
        · apply (Iz.unpinned (pins := [])).weak
          · rw [← ew, wipe_length]
          · intro j v e
            rw [← ew] at e
            exact (wipe_some e).1
        · intro b hb
          obtain ⟨o, e, _⟩ := T.obj _ _ st7 b hb
          exact (pin b hb o e).2
      cases b with
      | false =>
        rw [if_neg (by decide)] at q9 ⊢
        exact fin I9 q9
      | true =>
        rw [if_pos rfl] at q9 ⊢
        refine thnF (pe.run _ s9 τ G9 _ I9 q9) ?_
        rintro v s10 ⟨y, G10, I10, r10, acc, hD, hz, nx⟩
        exact app_ok (X := X.blk s H sco ce fp) I10 hD hz r10 fun s11 I11 => fin I11 nx
  exact codeAny_compStart_list loop (T.self X.A 0 _ _ _ st4 loop)
theorem lc_up {pins : List (Addr × Obj)} {s : Shared} {σ : L2.St} {H : Hp} {Q : VK} {elt tg it0 : Expr} {cs : List Expr} {sco : Scope} {own : List (Str × Nat)} {pos p2 : Pos} {wi : TI} {g : TG} {tt : TT} {te : TE} {use : Option (Value → Sem Unit)} {Qf : Value → Shared → Prop}
    (hc : X.calm = true) (nd : X.N.Nodup) (I : Inv X pins σ H s) (hi : PI X tg it0 wi) (bo : BlkOk X.N X.env.scope sco own)
    (hg : ∀ z G C cl fp, PG (X.blk z G sco (compEnvC sco cl C X.env) fp) tg g) (ht : ∀ z G C cl fp, PTs (X.blk z G sco (compEnvC sco cl C X.env) fp) cs tt)
    (he : ∀ z G C cl fp, Up X (X.blk z G sco (compEnvC sco cl C X.env) fp) pins σ → PE (X.blk z G sco (compEnvC sco cl C X.env) fp) elt te)
    (hs : ∀ x, foldedSetIterable it0 X.env x = pure x) (hq : tLc wi g tt te (own.map (·.2)) σ H Q)
    (out : ∀ D C z m G, Inv X pins σ G z → Q (.ref D) G → z.heap.Ns C m → FpOk X pins G C → compPost (model X.prog X.w) X.A X.xe use Qf (.ref D) C (.ok .next) z) :
    wpAny (model X.prog X.w) X.A (comprehension (.ListComp elt [⟨tg, it0, cs, 0⟩] sco pos) sco X.env p2 (newList []) false (eval it0 X.env) use) Qf X.xe s := by
  have fr : ∀ y ∈ sco.names, y.2 = .free → ∃ c, X.env.cells.lookup y.1 = some c := by
    intro y hy e
    exact (bo.free y hy e).elim (fun k => I.ok.has _ (.inl k)) (fun k => I.ok.has _ (.inr k))
  apply wpAny_comprehension_free (use := use) rfl hs (closure_ok fr) bo.kind (by intro y hy e; rw [bo.uniq y hy, e])
  refine thn (hi.run pins s σ H _ I hq) ?_
  intro xv s1 hx
  refine thn hx ?_
  rintro _ s2 ⟨it, fp, tn, J, H2, rfl, I2, T, st2, f2, q⟩
  refine wpAny_newObj_type (newEnv_comp ?_) (by show 0 ≤ sizeLine; decide)
  have nD : H2 s2.heap.objs.size = none := I2.hok.fresh (Nat.le_refl _)
  obtain ⟨W, ⟨m0, w0⟩, turn⟩ := q s2.heap.objs.size nD
  have I3 := I2.laid (t' := s2.toks) (h' := s2.heap.push { cls := .type "list", data := .seq ([] : List Value).toArray }) (a := s2.heap.objs.size) (o := .lst []) (fun b o e => Heap.get?_push_of_some _ e) (Nat.le_refl _) ⟨Nat.zero_le _, [], 0, .nil, Heap.get?_push_size _ rfl⟩
  have f3 : ∀ b ∈ fp, FpOk X pins (upd H2 s2.heap.objs.size (.lst [])) b ∧ b < (s2.heap.push { cls := .type "list", data := .seq ([] : List Value).toArray }).objs.size := by
    intro b hb
    obtain ⟨o, e, _⟩ := T.obj _ _ st2 b hb
    have hlt := Heap.lt_size e
    refine ⟨⟨?_, (f2 b hb).2⟩, by rw [Heap.size_push]; exact Nat.lt_succ_of_lt hlt⟩
    rw [upd_ne (Nat.ne_of_lt hlt)]
    exact (f2 b hb).1
  exact blk_run hc nd I3 bo f3 T (T.keep _ _ _ st2 fun b _ o e => Heap.get?_push_of_some _ e) w0 hg ht he turn (fun z m G Iz qz hm hf => out _ _ z m G Iz qz hm hf)
/-- as a value -/
theorem e_lcUp {elt tg it0 : Expr} {cs : List Expr} {sco : Scope} {own : List (Str × Nat)} {pos : Pos} {wi : TI} {g : TG} {tt : TT} {te : L2.St → TE} (hc : X.calm = true) (nd : X.N.Nodup) (hi : PI X tg it0 wi) (bo : BlkOk X.N X.env.scope sco own)
    (hg : ∀ z G C cl fp, PG (X.blk z G sco (compEnvC sco cl C X.env) fp) tg g) (ht : ∀ z G C cl fp, PTs (X.blk z G sco (compEnvC sco cl C X.env) fp) cs tt)
    (he : ∀ pins σ z G C cl fp, Up X (X.blk z G sco (compEnvC sco cl C X.env) fp) pins σ → PE (X.blk z G sco (compEnvC sco cl C X.env) fp) elt (te σ)) (hs : ∀ x, foldedSetIterable it0 X.env x = pure x := by intro _; rfl) :
    PE X (.ListComp elt [⟨tg, it0, cs, 0⟩] sco pos) (fun σ H Q => tLc wi g tt (te σ) (own.map (·.2)) σ H Q) := by
  constructor
  intro pins s σ H Q I hq
  rw [eval_ListComp]
  apply lc_up hc nd I hi bo hg ht (he pins σ) hs hq
  rintro D C z m G Iz qz hm ⟨f0, f1, _, f3, f4, f5⟩
  refine ⟨m, hm, fun h2 sb => ⟨.ref D, G, ?_, rfl, qz⟩⟩
  exact Iz.turned (t' := z.toks) (fun b o hb e => (sb.2 b hb).trans e) f0 f1 f3 f4 f5
end
end Rs
set_option maxRecDepth 100000
set_option maxHeartbeats 2000000
namespace Rs
open PySem PySem.Spec PyProof.Rows L2
/-! ### lambdas that are kept: their objects are told of the heap -/
/-- a function's object, held as it is -/
def FnO (f : Addr) (o : Obj) : HO := .ext fun h => h.get? f = some o
theorem fnO_tbl {f : Addr} {o : Obj} (ps : Array Value) : FnO f o ≠ .tbl ps := by
  intro z
  unfold FnO at z
  cases z
theorem fnO_ok {P : Program} {w : World} {H : Hp} {h : Heap} {f : Addr} {o : Obj} (e : h.get? f = some o) : ObjOk P w H h f (FnO f o) := ⟨e, ⟨o, e⟩, fun _ _ p st => st _ p⟩
/-- the names of a lambda: parameters that the def around has no slot for, captured ones, globals -/
structure LamQ (N : List Str) (sc scope : Scope) : Prop where
  kind : scope.kind = .function
  co : scope.isCoroutine = false
  gen : scope.isGenerator = false
  cel : ∀ y ∈ scope.names, y.2 ≠ .cell
  loc : ∀ y ∈ scope.names, y.2 = .local → y.1 ∉ N
  free : ∀ n ∈ scope.names, n.2 = .free →
    sc.names.lookup n.1 = some .cell ∨ sc.names.lookup n.1 = some .free
def lamQB (N : List Str) (sc scope : Scope) : Bool := decide (scope.kind = .function) && (!scope.isCoroutine && (!scope.isGenerator && scope.names.all fun y => decide (y.2 ≠ .cell) && (decide (y.2 = .local → y.1 ∉ N) && decide (y.2 = .free → (sc.names.lookup y.1 = some .cell ∨ sc.names.lookup y.1 = some .free)))))
theorem lamQ_by {N : List Str} {sc scope : Scope} (h : lamQB N sc scope = true) : LamQ N sc scope := by
  unfold lamQB at h
  rw [Bool.and_eq_true, Bool.and_eq_true, Bool.and_eq_true, List.all_eq_true] at h
  obtain ⟨h1, h2, h3, h4⟩ := h
  have q : ∀ y ∈ scope.names, y.2 ≠ .cell ∧ (y.2 = .local → y.1 ∉ N) ∧ (y.2 = .free → (sc.names.lookup y.1 = some .cell ∨ sc.names.lookup y.1 = some .free)) := by
    intro y hy
    have z := h4 y hy
    rw [Bool.and_eq_true, Bool.and_eq_true] at z
    exact ⟨of_decide_eq_true z.1, of_decide_eq_true z.2.1, of_decide_eq_true z.2.2⟩
  exact ⟨of_decide_eq_true h1, by simpa using h2, by simpa using h3, fun y hy => (q y hy).1, fun y hy => (q y hy).2.1, fun y hy => (q y hy).2.2⟩
/-- the defaults' tuple, in the heap and in what is told of it -/
def DflAt (params : Arguments) (dV : Value) (h : Heap) : Prop := (params.defaults = [] ∧ dV = .none) ∨ ∃ (t : Addr) (its : List Value), dV = .ref t ∧ IsTup h t its.toArray ∧ its.length = params.defaults.length ∧ params.defaults ≠ []
def DflH (params : Arguments) (dV : Value) (H : Hp) : Prop := (params.defaults = [] ∧ dV = .none) ∨ ∃ (t : Addr) (vs : List V), dV = .ref t ∧ H t = some (.tup vs) ∧ vs.length = params.defaults.length ∧ params.defaults ≠ []
/-- the lambda stands at f, made in the def of X -/
def LamAt (X : Cx) (params : Arguments) (body : Expr) (scope : Scope) (f : Addr) (H : Hp) : Prop := ∃ (c' : Addr) (dV doc pm ctv : Value),
  H f = some (FnO f (PySem.W.kdv_obj "<lambda>" (X.env.qual ++ "<lambda>") params (.expr body) scope (cloFrom X.env.cells scope.names []) dV doc pm c' ctv)) ∧ H c' = some (LamX.CodeO c' (X.env.qual ++ "<lambda>")) ∧ DflH params dV H
/-- all stays that is neither a table of code nor at b -/
def StN (b : Addr) (H H' : Hp) : Prop := ∀ x o, x ≠ b → H x = some o → (∀ ps, o ≠ .tbl ps) → H' x = some o
theorem LamAt.go {X : Cx} {params : Arguments} {body : Expr} {scope : Scope} {f : Addr} {H H' : Hp} (l : LamAt X params body scope f H) (e : ∀ x o, H x = some o → (∀ ps, o ≠ .tbl ps) → (∀ xs, o ≠ .lst xs) → H' x = some o) : LamAt X params body scope f H' := by
  obtain ⟨c', dV, doc, pm, ctv, h1, h2, h3⟩ := l
  refine ⟨c', dV, doc, pm, ctv, e _ _ h1 fnO_tbl (fun xs z => by unfold FnO at z; cases z), e _ _ h2 LamX.codeO_ne (fun xs z => by unfold LamX.CodeO at z; cases z), ?_⟩
  rcases h3 with h3 | ⟨t, vs, e1, e2, e3⟩
  · exact .inl h3
  · exact .inr ⟨t, vs, e1, e _ _ e2 (fun ps z => by cases z) (fun ps z => by cases z), e3⟩
section
variable {X : Cx} {s s1 : Shared} {H HZ : Hp} {σ : L2.St} {pins : List (Addr × Obj)}
/-- the lambda's frame, entered at s1; what the def around knew at s holds of the captured names -/
theorem lam_in {A : Around} {outer : List Env} {E : XK} {scope : Scope} {f c' : Addr} {h₁ : Heap} {tk : Nat} {m : Str → Option Value} (I : Inv X pins σ H s) (L : LamQ X.N X.env.scope scope) (e0 : Env0 X.prog X.w X.K X.mg X.base A outer s1 HZ) (hd : A.handled = none)
    (un : Un (frs X.stack) [] H HZ s.heap s1.heap) (hns : h₁.Ns s1.heap.objs.size m) (kp : ∀ b o, s1.heap.get? b = some o → h₁.get? b = some o) :
    Inv (LamX.lamCx X A outer s1 HZ E scope f c') [] σ HZ { s1 with heap := h₁, toks := tk } := by
  have fr : ∀ y ∈ scope.names, y.2 = .free → ∃ c, X.env.cells.lookup y.1 = some c := by
    intro y hy e
    exact (L.free y hy e).elim (fun k => I.ok.has _ (.inl k)) (fun k => I.ok.has _ (.inr k))
  have got : ∀ {y : Str} {c : Addr}, (cloFrom X.env.cells scope.names []).lookup y = some c → X.env.cells.lookup y = some c := by
    intro y c e
    have cm := cloFrom_mem (PySem.mem_of_lookup e)
    rcases cm with hm | ⟨h1, h2⟩
    · cases hm
    · obtain ⟨c1, hc1⟩ := fr _ h1 rfl
      dsimp only at hc1
      rw [hc1] at h2
      rw [hc1, h2]
      rfl
  have has : ∀ {y : Str}, scope.names.lookup y = some .free → ∃ c, (cloFrom X.env.cells scope.names []).lookup y = some c := by
    intro y hl
    exact mem_lookup (cloFrom_has (acc := []) (PySem.mem_of_lookup hl))
  have cel : ∀ {c : Addr} {v : Option Value}, H c = none → s.heap.IsCell c v → h₁.IsCell c v := by
    rintro c v n ⟨o, ho, hd⟩
    obtain ⟨sl, q⟩ := un.any ho n (by simp)
    exact ⟨_, kp _ _ q, hd⟩
  have none_ex : ∀ b : Addr, b ∉ (LamX.lamCx X A outer s1 HZ E scope f c').ex := by
    intro b hb
    cases hb
  constructor
  case ok =>
    constructor
    case mod => exact e0.mod
    case kind => exact L.kind
    case glob => rfl
    case blt => rfl
    case above => exact Nat.le_refl _
    case inj => exact fun y z c e1 e2 => I.ok.inj y z c (got e1) (got e2)
    case has =>
      intro y hy
      rcases hy with hy | hy
      · exact absurd rfl (L.cel _ (PySem.mem_of_lookup hy))
      · exact has hy
    case cab => exact fun y c z _ => nomatch (show false = true from z)
    case hd => exact fun _ => hd
    case frames => exact Around.frames_deeper e0.frames
    case stk => exact .inr ⟨rfl, rfl⟩
    case exf => exact fun b z => absurd z (none_ex b)
    case bs => exact e0.bs
    case bsz => exact e0.bsz
    case noex => exact fun b _ _ => none_ex b
    case exfs => exact fun b z => absurd z (none_ex b)
    case funs => exact e0.funs
    case frf => exact e0.frf
  case os => rfl
  case bare => exact e0.bare
  case base => exact Un.kept kp
  case loc =>
    refine ⟨m, hns, ?_⟩
    intro i y v e1 e2 e3
    rcases e3 with k | k | k
    · exact absurd (List.mem_of_getElem? e1) (L.loc _ (PySem.mem_of_lookup k) rfl)
    · exact absurd rfl (L.cel _ (PySem.mem_of_lookup k))
    · have kk : scope.names.lookup y = some .free := k
      have src := L.free _ (PySem.mem_of_lookup kk) rfl
      dsimp only at src
      obtain ⟨_, _, hl⟩ := I.loc
      obtain ⟨u, r, q⟩ := hl i y v e1 e2 (src.elim (fun k => .inr (.inl k)) (fun k => .inr (.inr k)))
      obtain ⟨c2, h2⟩ := has kk
      refine ⟨u, r, .inr ⟨.inr kk, c2, h2, ?_⟩⟩
      have c1 := got h2
      rcases q with ⟨k', _⟩ | ⟨_, c3, e', z⟩
      · have k' : X.env.scope.names.lookup y = some .local := k'
        rcases src with k2 | k2 <;> rw [k'] at k2 <;> cases k2
      · rw [c1] at e'
        cases e'
        exact cel (I.freeC y _ c1) z
  case cell =>
    intro y c e
    obtain ⟨u, z⟩ := I.cell y c (got e)
    exact ⟨u, cel (I.freeC y c (got e)) z⟩
  case free => exact e0.hok.fresh (Nat.le_refl _)
  case freeC =>
    intro y c e
    obtain ⟨v, o, ho, _⟩ := I.cell y c (got e)
    exact un.free c o ho (I.freeC y c (got e)) (by simp)
  case pin =>
    intro q hq
    cases hq
  case hok => exact e0.hok.kept kp
  case len => exact I.len
/-- how a lambda that is called without arguments binds its parameters -/
def LamBind (params : Arguments) (body : Expr) (scope : Scope) : Prop := ∀ (z : Shared) (q : Str) (cl : List (Str × Addr)) (dV doc pm cv ctv : Value), DflAt params dV z.heap →
  ∃ bs, BindsTo z (PySem.W.kdv_fn "<lambda>" q params (.expr body) scope cl dV doc pm cv ctv) ⟨[], []⟩ bs ∧ ∀ y ∈ bs, scope.names.lookup y.1 = some .local
/-- a(), in the def of the name qk that got the lambda: entered at s -/
theorem pe_actL {CXk : CXT} {Ek : XK} {Nk : List Str} {qk : Str} {sg : Scope} {g f : Addr} {cdk : Value} {params : Arguments} {body : Expr} {scope : Scope} {k i : Nat} {a : Str} {pn : List (Addr × Obj)} {xe : Value → Shared → Prop} {W : WX} {E : XK} {tb : TE} {p1 p2 : Pos}
    (I : Inv X pins σ H s) (L : LamQ X.N X.env.scope scope) (hb : LamBind params body scope)
    (tk : Takes ((cxOf CXk X.prog X.w X.K X.mg X.base Nk qk sg g cdk X.A X.stack s H Ek).tr pn xe) W) (hW : ∀ cls d τ G, E cls d G → W cls d τ G) (hr : Room (k + 1) (X.A.deeper (envOfC qk sg s.heap.objs.size g cdk)))
    (hbody : ∀ (A : Around) (outer : List Env) (z : Shared) (G : Hp) (c' : Addr), Room k (A.deeper (LamX.lamEnv X scope z.heap.objs.size f c')) → PE (LamX.lamCx X A outer z G E scope f c') body tb)
    (hN : Nk[i]? = some a) (hv : Vis sg a) (hd : (a == ("__debug__" : Str)) = false := by decide) (hcd : (a == ("__classdict__" : Str)) = false := by decide) :
    PE ((cxOf CXk X.prog X.w X.K X.mg X.base Nk qk sg g cdk X.A X.stack s H Ek).tr pn xe) (.Call (.Name a p1) [] [] p2)
      (fun τ G Q => τ[i]? = some (some (.ref f)) ∧ LamAt X params body scope f G ∧ tb σ G Q) := by
  constructor
  rintro pz z τ G Q IZ ⟨hs, ⟨c', dV, doc, pm, ctv, hf, hc, hdf⟩, ht⟩
  apply wpAny_Call_Name_kw
  refine thn ((pe_var (pos := p1) (i := i) hN hv hd hcd).run pz z τ G (fun v G1 => v = .ref f ∧ G1 = G) IZ ⟨.ref f, hs, rfl, rfl⟩) ?_
  rintro u z1 ⟨v, G1, I1, r1, rfl, rfl⟩
  obtain rfl : u = Value.ref f := r1
  have of1 : z1.heap.get? f = some _ := (I1.hok f _ hf).1
  apply PySem.W.callWith_F0 ⟨_, _, _, _, of1⟩
  have un : Un (frs X.stack) [] H G1 s.heap z1.heap := I1.base
  obtain ⟨⟨oc, vs, t, hoc, hdc, hvc⟩, _, _⟩ := I1.hok c' _ hc
  have hdf2 : DflAt params dV z1.heap := by
    rcases hdf with hdf | ⟨tt, vs, e1, e2, e3⟩
    · exact .inl hdf
    · obtain ⟨_, its, r, x⟩ := I1.hok tt _ e2
      exact .inr ⟨tt, its, e1, x, by rw [← e3.1]; exact r.length.symm, e3.2⟩
  obtain ⟨bs, hbs, hloc⟩ := hb z1 (X.env.qual ++ "<lambda>") (cloFrom X.env.cells scope.names []) dV doc pm (.ref c') ctv hdf2
  have rc : codeAny (model X.prog X.w) (X.A.deeper (envOfC qk sg s.heap.objs.size g cdk)) (.call (.ref f) ⟨[], []⟩) (CR (L2.CX X.prog X.w) (envOfC qk sg s.heap.objs.size g cdk :: X.stack) X.prog X.w G1 z1 Q E) z1 := by
    apply PySem.W.kla_callFunE hr.depth of1 rfl L.co L.gen rfl ⟨c', oc, vs, t, rfl, hoc, hdc, hvc⟩
    refine hbs _ _ _ _ (wpAny_newFunctionEnv L.cel hloc (fun h₁ hns hsb => ⟨I1.nolimit.fresh _ hsb, ?_⟩) L.kind)
    show codeAny _ _ (.expr body (LamX.lamEnv X scope z1.heap.objs.size f c')) _ _
    have kp : ∀ b o, z1.heap.get? b = some o → h₁.get? b = some o := by
      intro b o e
      exact hsb.extBut b o (Nat.ne_of_lt (Heap.lt_size e)) (Heap.get?_push_of_some _ e)
    have J := lam_in (E := E) (f := f) (c' := c') (tk := z1.toks + bs.length) I L I1.env0 hr.hd un hns kp
    apply PySem.W.kla_codeExpr
    refine wpAny_mono ((hbody _ _ z1 G1 c' (hr.deeper _)).run [] _ _ G1 Q J ht) ?_ (fun e s' hq => hq)
    rintro v s' ⟨y, H', J', rv, q⟩
    exact ⟨y, H', J'.os, J'.bare, J'.base, J'.hok, rv, q⟩
  have hx : Passes (L2.CX X.prog X.w) ((cxOf CXk X.prog X.w X.K X.mg X.base Nk qk sg g cdk X.A X.stack s H Ek).tr pn xe) E := passes_call tk hW
  refine wpAny_call (codeAny_mono rc ?_)
  intro r s' hq
  match r, hq with
  | .error e, hq => exact hx pz τ G1 z1 e s' I1 hq
  | .ok (.ret u), hq => exact I1.after hq
end
end Rs
set_option maxRecDepth 100000
set_option maxHeartbeats 2000000
namespace Rs
open PySem PySem.Spec PyProof.Rows L2
section
variable {X : Cx} {s : Shared} {H : Hp} {σ : L2.St} {pins : List (Addr × Obj)}
theorem tabs_new {T : List (Addr × Str)} {H : Hp} {p : Addr} {o : HO} (t : LamX.Tabs T H) (h : H p = none) : LamX.Tabs T (upd H p o) := t.ext fun b x e => by
  rw [upd_ne (ne_of_none e h)]
  exact e
theorem extN_new {H : Hp} {p : Addr} {o : HO} (h : H p = none) : LamX.ExtN H (upd H p o) := fun b x e _ => by
  rw [upd_ne (ne_of_none e h)]
  exact e
/-- the lambda's object is made, its defaults laid -/
theorem lam_tail {T : List (Addr × Str)} {c P : Addr} {params : Arguments} {body : Expr} {scope : Scope} {pos : Pos} {line : Nat} {dV : Value} {E : Value → Shared → Prop} {Q : Value → Shared → Prop} (I : Inv X pins σ H s) (TB : LamX.TabB X.base X.mg c P) (hcode : X.env.code = .ref c)
    (hm : (P, X.env.qual ++ "<lambda>") ∈ T) (hu : ∀ p ∈ T, p.1 = P → p.2 = X.env.qual ++ "<lambda>") (hT : LamX.Tabs T H) (L : LamQ X.N X.env.scope scope) (hdf : DflH params dV H)
    (h : ∀ (f : Addr) (H1 : Hp) (s' : Shared), Inv X pins σ H1 s' → LamX.ExtN H H1 → LamX.Tabs T H1 → H f = none → LamAt X params body scope f H1 → Q (.ref f) s') :
    wpAny (model X.prog X.w) X.A (makeTail "<lambda>" (X.env.qual ++ "<lambda>") params (.expr body) scope X.env dV .none none pos line) Q E s := by
  obtain ⟨ps, hP, ht, ha⟩ := hT _ hm
  have fr : ∀ y ∈ scope.names, y.2 = .free → ∃ c, X.env.cells.lookup y.1 = some c := by
    intro y hy e
    exact (L.free y hy e).elim (fun k => I.ok.has _ (.inl k)) (fun k => I.ok.has _ (.inr k))
  have bP : s.heap.BuiltinsAt X.mg P := TB.bm.keeps I.bk
  have oP : s.heap.get? P = some { cls := .none, data := .fields ps } := I.hok P _ hP
  have dfl : ∀ {H1 : Hp}, LamX.ExtN H H1 → DflH params dV H1 := by
    intro H1 e
    rcases hdf with q | ⟨t, vs, e1, e2, e3⟩
    · exact .inl q
    · exact .inr ⟨t, vs, e1, e _ _ e2 (fun ps z => by cases z), e3⟩
  cases hc : codeAmong pos ps.toList with
  | none =>
    apply PySem.W.kdv_makeTail (mg := X.mg) (c := c) (P := P) (ps := ps) (closure_ok fr) I.ok.glob (I.mod.glob.keeps I.bk) hcode (TB.code.keeps I.bk) oP ht hc TB.gP bP
    rintro c' ctv doc h' tk hx hge hlt ⟨c2, oc, vs, t, e2, hoc, hd, hv⟩ htb
    cases e2
    have hsz : s.heap.objs.size ≤ h'.objs.size := Nat.le_trans hge (Nat.le_of_lt hlt)
    have nC : H c' = none := I.hok.fresh hge
    have nF : H h'.objs.size = none := I.hok.fresh hsz
    have I1 := LamX.inv_table (t' := tk) (more := #[rawInt pos.line, rawInt pos.col, .ref c']) (h' := h') I hP (fun b o hb e => hx b o hb e) htb hge ⟨oc, vs, t, hoc, hd, hv⟩
    have e1 : LamX.ExtN H (upd (upd H P (.tbl (ps ++ #[rawInt pos.line, rawInt pos.col, .ref c']))) c' (LamX.CodeO c' (X.env.qual ++ "<lambda>"))) := by
      intro b o e n
      have nbP : b ≠ P := fun z => by
        rw [z, hP] at e
        exact n ps (Option.some.inj e).symm
      rw [upd_ne (ne_of_none e nC), upd_ne nbP]
      exact e
    have n1 : upd (upd H P (.tbl (ps ++ #[rawInt pos.line, rawInt pos.col, .ref c']))) c' (LamX.CodeO c' (X.env.qual ++ "<lambda>")) h'.objs.size = none := by
      rw [upd_ne (Nat.ne_of_gt hlt), upd_ne (fun z => by rw [z, hP] at nF; cases nF)]
      exact nF
    have T1 : LamX.Tabs T (upd (upd H P (.tbl (ps ++ #[rawInt pos.line, rawInt pos.col, .ref c']))) c' (LamX.CodeO c' (X.env.qual ++ "<lambda>"))) := by
      have apn : (ps ++ #[rawInt pos.line, rawInt pos.col, .ref c']).toList = ps.toList ++ [rawInt pos.line, rawInt pos.col, .ref c'] := by simp
      intro p hp
      by_cases hb : p.1 = P
      · rw [hu p hp hb, hb]
        refine ⟨_, by rw [upd_ne (ne_of_none hP nC), upd_same], by rw [apn]; exact PySem.TriplesOk_snoc _ _ _ _ ht, ?_⟩
        intro p' cv hcv
        rw [apn] at hcv
        rcases LamX.among_app _ ht hcv with z | z
        · obtain ⟨c0, g1, g2⟩ := ha p' cv z
          exact ⟨c0, g1, e1 _ _ g2 LamX.codeO_ne⟩
        · exact ⟨c', z, upd_same⟩
      · obtain ⟨ps', a1, a2, a3⟩ := hT p hp
        refine ⟨ps', by rw [upd_ne (ne_of_none a1 nC), upd_ne hb]; exact a1, a2, ?_⟩
        intro p' cv hcv
        obtain ⟨c0, g1, g2⟩ := a3 p' cv hcv
        exact ⟨c0, g1, e1 _ _ g2 LamX.codeO_ne⟩
    have I2 := I1.laid (t' := tk) (a := h'.objs.size) (o := FnO h'.objs.size (PySem.W.kdv_obj "<lambda>" (X.env.qual ++ "<lambda>") params (.expr body) scope (cloFrom X.env.cells scope.names []) dV doc ((X.mg "__name__").getD .none) c' ctv)) (h' := h'.push _) (fun b o e => Heap.get?_push_of_some _ e) (Nat.le_refl _) (fnO_ok (Heap.get?_push_size _ rfl))
    have e2 := e1.trans (extN_new (o := FnO h'.objs.size (PySem.W.kdv_obj "<lambda>" (X.env.qual ++ "<lambda>") params (.expr body) scope (cloFrom X.env.cells scope.names []) dV doc ((X.mg "__name__").getD .none) c' ctv)) n1)
    refine h _ _ _ I2 e2 (tabs_new T1 n1) nF ⟨c', dV, doc, _, ctv, upd_same, ?_, dfl e2⟩
    rw [upd_ne (Nat.ne_of_lt hlt), upd_same]
  | some cv =>
    obtain ⟨c', rfl, hco⟩ := ha pos cv hc
    apply PySem.W.kdv_makeTailHit (mg := X.mg) (c := c) (P := P) (ps := ps) (closure_ok fr) I.ok.glob (I.mod.glob.keeps I.bk) hcode (TB.code.keeps I.bk) oP ht hc bP
    intro ctv doc h' tk hx hsz
    have nF : H h'.objs.size = none := I.hok.fresh hsz
    have I1 := I.kept (t' := tk) hx
    have I2 := I1.laid (t' := tk) (a := h'.objs.size) (o := FnO h'.objs.size (PySem.W.kdv_obj "<lambda>" (X.env.qual ++ "<lambda>") params (.expr body) scope (cloFrom X.env.cells scope.names []) dV doc ((X.mg "__name__").getD .none) c' ctv)) (h' := h'.push _) (fun b o e => Heap.get?_push_of_some _ e) (Nat.le_refl _) (fnO_ok (Heap.get?_push_size _ rfl))
    have e2 := extN_new (o := FnO h'.objs.size (PySem.W.kdv_obj "<lambda>" (X.env.qual ++ "<lambda>") params (.expr body) scope (cloFrom X.env.cells scope.names []) dV doc ((X.mg "__name__").getD .none) c' ctv)) nF
    exact h _ _ _ I2 e2 (tabs_new hT nF) nF ⟨c', dV, doc, _, ctv, upd_same, e2 _ _ hco LamX.codeO_ne, dfl e2⟩
end
/-- a lambda made: it stands at f -/
def tMk (T : List (Addr × Str)) (A : Addr → Hp → Prop) : TE := fun _ H Q => LamX.Tabs T H ∧ ∀ f H1, LamX.ExtN H H1 → LamX.Tabs T H1 → H f = none → A f H1 → Q (.ref f) H1
section
variable {X : Cx}
theorem e_lam0 {T : List (Addr × Str)} {c P : Addr} {params : Arguments} {body : Expr} {scope : Scope} {pos : Pos} (TB : LamX.TabB X.base X.mg c P) (hcode : X.env.code = .ref c)
    (hm : (P, X.env.qual ++ "<lambda>") ∈ T) (hu : ∀ p ∈ T, p.1 = P → p.2 = X.env.qual ++ "<lambda>") (L : LamQ X.N X.env.scope scope) (h0 : params.defaults = []) (hdef : defaultsOf params X.env = ([], [])) :
    PE X (.Lambda params body scope pos) (tMk T (LamAt X params body scope)) := by
  constructor
  rintro pins s σ H Q I ⟨hT, q⟩
  apply PySem.W.kla_eval hdef
  rw [makeFunction_eq]
  simp only [List.zip_nil_right, List.filterMap_nil, List.isEmpty_nil, if_true, pure_bind]
  refine lam_tail I TB hcode hm hu hT L (.inl ⟨h0, rfl⟩) ?_
  intro f H1 s' I1 e T1 nf l
  exact ⟨.ref f, H1, I1, rfl, q f H1 e T1 nf l⟩
/-- one parameter with a default -/
theorem e_lam1 {T : List (Addr × Str)} {c P : Addr} {params : Arguments} {d body : Expr} {td : TE} {scope : Scope} {pos : Pos} (TB : LamX.TabB X.base X.mg c P) (hcode : X.env.code = .ref c)
    (hm : (P, X.env.qual ++ "<lambda>") ∈ T) (hu : ∀ p ∈ T, p.1 = P → p.2 = X.env.qual ++ "<lambda>") (L : LamQ X.N X.env.scope scope) (hd : params.defaults = [d]) (hk : params.kw_defaults = []) (pd : PE X d td) :
    PE X (.Lambda params body scope pos) (fun σ H Q => td σ H fun v H1 => tMk T (LamAt X params body scope) σ H1 Q) := by
  constructor
  intro pins s σ H Q I h
  apply PySem.W.kdv_lam (by rw [hd]; rfl) hk
  rw [hd]
  apply PySem.W.kdv_all1
  refine thn (pd.run pins s σ H _ I h) ?_
  rintro u s1 ⟨v, H1, I1, r1, hT, q⟩
  apply PySem.W.kdv_all0
  rw [makeFunction_eq]
  simp only [List.zip_nil_right, List.filterMap_nil, List.isEmpty_nil, List.isEmpty_cons, if_true, pure_bind, Bool.false_eq_true, if_false]
  refine wpAny_bind (wpAny_newTextTuple ?_)
  have nt : H1 s1.heap.objs.size = none := I1.hok.fresh (Nat.le_refl _)
  have I2 := I1.laid (t' := s1.toks) (a := s1.heap.objs.size) (o := .tup [v]) (h' := s1.heap.push { cls := .type "tuple", data := .seq [u].toArray }) (fun b o e => Heap.get?_push_of_some _ e) (Nat.le_refl _) ⟨by show 1 ≤ sizeLine; decide, [u], .cons r1 .nil, IsTup.new _ _⟩
  refine lam_tail I2 TB hcode hm hu (tabs_new hT nt) L (.inr ⟨_, [v], rfl, upd_same, by rw [hd]; rfl, by rw [hd]; exact List.cons_ne_nil _ _⟩) ?_
  intro f H3 s' I3 e T3 nf l
  refine ⟨.ref f, H3, I3, rfl, q f H3 ((extN_new nt).trans e) T3 ?_ l⟩
  cases hf : H1 f with
  | none => rfl
  | some o =>
    rw [upd_ne (ne_of_none hf nt), hf] at nf
    cases nf
end
/-! ### the def that is handed a lambda -/
/-- a: the lambda's name in the def; TT: what the def makes of the lambda's reading -/
def GivesL (X : Cx) (Nk : List Str) (x : Str) (sg : Scope) (g : Addr) (cdk : Value) (bk : List Stmt) (a : Str) (TT : (XK → Hp → VK → Prop) → Hp → VK → Prop) : Prop :=
  ∀ (f : Addr) (s : Shared) (H : Hp) (Q : VK) (tl : XK → Hp → VK → Prop) (cd : Hp → Prop),
    (∀ (W : WX) (pn : List (Addr × Obj)) (xe : Value → Shared → Prop) (E : XK) (p1 p2 : Pos), Takes ((cxOf C8.CX0 X.prog X.w X.K X.mg X.base Nk x sg g cdk X.A X.stack s H C8.E0).tr pn xe) W → (∀ cls d τ G, E cls d G → W cls d τ G) →
      PE ((cxOf C8.CX0 X.prog X.w X.K X.mg X.base Nk x sg g cdk X.A X.stack s H C8.E0).tr pn xe) (.Call (.Name a p1) [] [] p2) (fun τ G Q => τ[0]? = some (some (.ref f)) ∧ cd G ∧ tl E G Q)) →
    cd H → TT tl H Q →
    ∃ t, PSs (cxOf C8.CX0 X.prog X.w X.K X.mg X.base Nk x sg g cdk X.A X.stack s H C8.E0).nox bk t ∧ t { nx := fun _ H' => Q .non H', rt := Q } (L2.start Nk [.ref f]) H
/-- a lambda's reading in the def of X -/
structure LamB (X : Cx) (k : Nat) (params : Arguments) (body : Expr) (scope : Scope) (t : XK → TE) : Prop where
  L : LamQ X.N X.env.scope scope
  b : LamBind params body scope
  run : ∀ (A : Around) (outer : List Env) (z : Shared) (G : Hp) (E : XK) (f c' : Addr), Room k (A.deeper (LamX.lamEnv X scope z.heap.objs.size f c')) → PE (LamX.lamCx X A outer z G E scope f c') body (t E)
/-- x(e), e a lambda of the def of X; Z stands in X or is X -/
theorem e_giveL {X Z : Cx} {TT : (XK → Hp → VK → Prop) → Hp → VK → Prop} {x a : Str} {g : Addr} {k : Nat} {pk : Arguments} {bk : List Stmt} {sg : Scope} {dV kV doc pm cdv ct oc : Value} {an od : Option Addr} {osl : Array (Option Value)} {Nk : List Str} {pins : List (Addr × Obj)} {σ : L2.St}
    {e : Expr} {te : TE} {p pos : Pos} (up : Up X Z pins σ) (eZ : Z.prog = X.prog ∧ Z.w = X.w ∧ Z.K = X.K ∧ Z.mg = X.mg ∧ Z.base = X.base ∧ Z.A = X.A ∧ Z.stack = X.stack) (hg : Gl Z x) (hm : X.mg x = some (.ref g)) (hk : PySem.W.keepIn X.K (.ref g) = true)
    (lk : X.K.lookup g = some ⟨oc, od, .func (PySem.W.fnOf x x pk bk sg dV kV doc pm an cdv ct), osl⟩) (hcg : PySem.W.codeIn X.K cdv x = true) (hb : L2.Binds X.K (PySem.W.fnOf x x pk bk sg dV kV doc pm an cdv ct) [a] []) (Sg : FnScope Nk [a] sg) (hNg : Nk[0]? = some a) (hva : Vis sg a)
    (hG : GivesL X Nk x sg g cdv bk a TT) (hr : Room (k + 2) X.A) (he : PE Z e te)
    (hdb : (x == ("__debug__" : Str)) = false := by decide) (hd : (a == ("__debug__" : Str)) = false := by decide) (hcd : (a == ("__classdict__" : Str)) = false := by decide)
    (hst : starEach [e] Z.env = (false, eval e Z.env) :: starEach [] Z.env := by rfl) (hpl : (backTo pos (starEach [] Z.env)).any (·.1) = false := by rfl) :
    PE Z (.Call (.Name x p) [e] [] pos) (fun τ G Q => te τ G fun v G1 => ∃ (f : Addr) (params : Arguments) (body : Expr) (scope : Scope) (t : XK → TE), [v] = [V.ref f] ∧ LamB X k params body scope t ∧ LamAt X params body scope f G1 ∧ TT (fun E G' Q' => t E σ G' Q') G1 Q) := by
  constructor
  intro pz z τ G Q IZ h
  obtain ⟨e1, e2, e3, e4, e5, e6, e7⟩ := eZ
  have hm' : Z.mg x = some (.ref g) := by rw [e4]; exact hm
  have hk' : PySem.W.keepIn Z.K (.ref g) = true := by rw [e3]; exact hk
  apply wpAny_Call_Name_kw
  refine ld_glob IZ hg hm' ?_ hdb
  refine PySem.W.callWith_K (h₀ := Z.base) IZ.ok.mod.kin hk' ?_ hst hpl
  refine thn ((pa_cons he pa_nil hst).run pos pz z τ G (fun vs G1 => ∃ (f : Addr) (params : Arguments) (body : Expr) (scope : Scope) (t : XK → TE), vs = [.ref f] ∧ LamB X k params body scope t ∧ LamAt X params body scope f G1 ∧ TT (fun E G' Q' => t E σ G' Q') G1 Q) IZ h) ?_
  rintro us z1 ⟨vs, G1, I1, r1, f, params, body, scope, t, rfl, LB, LA, tt⟩
  obtain ⟨u, rfl, ru⟩ := vals1 r1
  obtain rfl : u = Value.ref f := ru
  refine ⟨I1.kIn, ?_⟩
  have J := up _ _ _ _ I1
  have rc : codeAny (model X.prog X.w) X.A (.call (.ref g) ⟨[.ref f], []⟩) (CR C8.CX0 X.stack X.prog X.w G1 z1 Q C8.E0) z1 := by
    refine LamX.run_ofS (N := Nk) (ps := [a]) (us := [.ref f]) (vs := [.ref f]) lk hcg Sg hr J.env0 (hb z1 [.ref f] J.kIn rfl) (.cons rfl .nil) rfl fun hr' => ?_
    obtain ⟨t', ht', hq'⟩ := hG f z1 G1 Q (fun E G' Q' => t E σ G' Q') (LamAt X params body scope f) (fun W pn xe E p1 p2 tk hW => pe_actL (i := 0) J LB.L LB.b tk hW hr' (fun A outer s H c' hr2 => LB.run A outer s H E f c' hr2) hNg hva hd hcd) LA tt
    exact ⟨t', ht'.nox, hq'⟩
  rw [← e1, ← e2, ← e6, ← e7] at rc
  refine wpAny_call (codeAny_mono rc ?_)
  intro r s2 hq
  match r, hq with
  | .error e, hq => exact (show False from hq).elim
  | .ok (.ret u), hq => exact I1.after hq
end Rs
set_option maxRecDepth 100000
set_option maxHeartbeats 2000000
namespace Rs
open PySem PySem.Spec PyProof.Rows L2
/-- f(k = v): keywords alone -/
theorem e_callK0 {X : Cx} {CX : CXT} {k : Nat} {f : Addr} {fd : FuncData} {ps ks : List Str} {sp : Sp} {E : XK} {x : Str} {p pos : Pos} {kws : List Keyword} {tk : TA} {g : List Value → List Value → List Value} {gV : List V → List V → List V}
    (F : FnOk X.prog X.w X.K X.mg X.base CX k f fd ps sp) (hr : Room k X.A) (hg : Gl X x) (hm : X.mg x = some (.ref f)) (hk : PySem.W.keepIn X.K (.ref f) = true) (hb : KBinds X.K fd ps ks g gV) (hx : Passes CX X E) (hkw : PK X kws tk)
    (hall : (backToKw pos (keywordEach kws X.env)).all (·.1.isSome) = true := by rfl)
    (hks : (backToKw pos (keywordEach kws X.env)).filterMap (·.1) = ks := by rfl) (hdb : (x == ("__debug__" : Str)) = false := by decide)
    (hpl : ((backTo pos (starEach [] X.env)).any (·.1) || (backToKw pos (keywordEach kws X.env)).any (·.1.isNone)) = false := by rfl) : PE X (.Call (.Name x p) [] kws pos) (tCallK sp gV E tNil tk) := by
  constructor
  intro pins s σ H Q I h
  refine wpAny_Call_Name_kw (ld_glob I hg hm (PySem.W.callWith_KW0 (h₀ := X.base) I.ok.mod.kin hk hall (thn (hkw.run pos pins s σ H _ I h) ?_) hpl) hdb)
  rintro ws s2 ⟨zs, H2, I2, rz, q2⟩
  refine ⟨I2.kIn, ?_⟩
  rw [hks]
  exact run_fnk (us := []) (vs := []) F hr hb hx I2 .nil rz q2
/-- three keywords in the reverse order of the parameters -/
def rev3 {α : Type} : List α → List α → List α
  | [], [x, y, z] => [z, y, x]
  | _, _ => []
theorem rev3_rel {vs : List V} {us : List Value} {zs : List V} {ws : List Value} (r : Vals vs us) (rz : Vals zs ws) : Vals (rev3 vs zs) (rev3 us ws) := by
  cases r with
  | cons _ _ => exact .nil
  | nil =>
    cases rz with
    | nil => exact .nil
    | cons r1 rz =>
      cases rz with
      | nil => exact .nil
      | cons r2 rz =>
        cases rz with
        | nil => exact .nil
        | cons r3 rz =>
          cases rz with
          | nil => exact .cons r3 (.cons r2 (.cons r1 .nil))
          | cons _ _ => exact .nil
end Rs
set_option maxRecDepth 100000
set_option maxHeartbeats 2000000
namespace Rs
open PySem PySem.Spec PyProof.Rows L2
theorem ss_or {X : Cx} {b : List Stmt} {t1 t2 : TS} (h1 : PSs X b t1) (h2 : PSs X b t2) : PSs X b (fun D σ H => t1 D σ H ∨ t2 D σ H) := ⟨fun pins s σ H D I h => h.elim (h1.run pins s σ H D I) (h2.run pins s σ H D I)⟩
theorem up_self {X : Cx} : ∀ (pz : List (Addr × Obj)) (τ : L2.St) (G : Hp) (z : Shared), Inv X pz τ G z → ∃ pins, Inv X pins (id τ) G z := fun pz _ _ _ I => ⟨pz, I⟩
/-- x(e), e a lambda of the def of X; Z stands in X, or is X: sl tells X's slots by Z's -/
theorem e_giveG {X Z : Cx} {TT : (XK → Hp → VK → Prop) → Hp → VK → Prop} {x a : Str} {g : Addr} {k : Nat} {pk : Arguments} {bk : List Stmt} {sg : Scope} {dV kV doc pm cdv ct oc : Value} {an od : Option Addr} {osl : Array (Option Value)} {Nk : List Str} {sl : L2.St → L2.St}
    {e : Expr} {te : TE} {p pos : Pos} (up : ∀ (pz : List (Addr × Obj)) (τ : L2.St) (G : Hp) (z : Shared), Inv Z pz τ G z → ∃ pins, Inv X pins (sl τ) G z) (eZ : Z.prog = X.prog ∧ Z.w = X.w ∧ Z.K = X.K ∧ Z.mg = X.mg ∧ Z.base = X.base ∧ Z.A = X.A ∧ Z.stack = X.stack) (hg : Gl Z x) (hm : X.mg x = some (.ref g)) (hk : PySem.W.keepIn X.K (.ref g) = true)
    (lk : X.K.lookup g = some ⟨oc, od, .func (PySem.W.fnOf x x pk bk sg dV kV doc pm an cdv ct), osl⟩) (hcg : PySem.W.codeIn X.K cdv x = true) (hb : L2.Binds X.K (PySem.W.fnOf x x pk bk sg dV kV doc pm an cdv ct) [a] []) (Sg : FnScope Nk [a] sg) (hNg : Nk[0]? = some a) (hva : Vis sg a)
    (hG : GivesL X Nk x sg g cdv bk a TT) (hr : Room (k + 2) X.A) (he : PE Z e te)
    (hdb : (x == ("__debug__" : Str)) = false := by decide) (hd : (a == ("__debug__" : Str)) = false := by decide) (hcd : (a == ("__classdict__" : Str)) = false := by decide)
    (hst : starEach [e] Z.env = (false, eval e Z.env) :: starEach [] Z.env := by rfl) (hpl : (backTo pos (starEach [] Z.env)).any (·.1) = false := by rfl) :
    PE Z (.Call (.Name x p) [e] [] pos) (fun τ G Q => te τ G fun v G1 => ∃ (f : Addr) (params : Arguments) (body : Expr) (scope : Scope) (t : XK → TE), [v] = [V.ref f] ∧ LamB X k params body scope t ∧ LamAt X params body scope f G1 ∧ TT (fun E G' Q' => t E (sl τ) G' Q') G1 Q) := by
  constructor
  intro pz z τ G Q IZ h
  obtain ⟨e1, e2, e3, e4, e5, e6, e7⟩ := eZ
  have hm' : Z.mg x = some (.ref g) := by rw [e4]; exact hm
  have hk' : PySem.W.keepIn Z.K (.ref g) = true := by rw [e3]; exact hk
  apply wpAny_Call_Name_kw
  refine ld_glob IZ hg hm' ?_ hdb
  refine PySem.W.callWith_K (h₀ := Z.base) IZ.ok.mod.kin hk' ?_ hst hpl
  refine thn ((pa_cons he pa_nil hst).run pos pz z τ G (fun vs G1 => ∃ (f : Addr) (params : Arguments) (body : Expr) (scope : Scope) (t : XK → TE), vs = [.ref f] ∧ LamB X k params body scope t ∧ LamAt X params body scope f G1 ∧ TT (fun E G' Q' => t E (sl τ) G' Q') G1 Q) IZ h) ?_
  rintro us z1 ⟨vs, G1, I1, r1, f, params, body, scope, t, rfl, LB, LA, tt⟩
  obtain ⟨u, rfl, ru⟩ := vals1 r1
  obtain rfl : u = Value.ref f := ru
  refine ⟨I1.kIn, ?_⟩
  obtain ⟨pins, J⟩ := up _ _ _ _ I1
  have rc : codeAny (model X.prog X.w) X.A (.call (.ref g) ⟨[.ref f], []⟩) (CR C8.CX0 X.stack X.prog X.w G1 z1 Q C8.E0) z1 := by
    refine LamX.run_ofS (N := Nk) (ps := [a]) (us := [.ref f]) (vs := [.ref f]) lk hcg Sg hr J.env0 (hb z1 [.ref f] J.kIn rfl) (.cons rfl .nil) rfl fun hr' => ?_
    obtain ⟨t', ht', hq'⟩ := hG f z1 G1 Q (fun E G' Q' => t E (sl τ) G' Q') (LamAt X params body scope f) (fun W pn xe E p1 p2 tk hW => pe_actL (i := 0) J LB.L LB.b tk hW hr' (fun A outer s H c' hr2 => LB.run A outer s H E f c' hr2) hNg hva hd hcd) LA tt
    exact ⟨t', ht'.nox, hq'⟩
  rw [← e1, ← e2, ← e6, ← e7] at rc
  refine wpAny_call (codeAny_mono rc ?_)
  intro r s2 hq
  match r, hq with
  | .error e, hq => exact (show False from hq).elim
  | .ok (.ret u), hq => exact I1.after hq
end Rs
set_option maxRecDepth 100000
set_option maxHeartbeats 1000000
/-! a lambda of one parameter, called by a built-in -/
namespace Rs
open PySem PySem.Spec PyProof.Rows L2
def lamCx1 (X : Cx) (y : Str) (A : Around) (outer : List Env) (s : Shared) (H : Hp) (E : XK) (scope : Scope) (f c' : Addr) : Cx := { LamX.lamCx X A outer s H E scope f c' with N := X.N ++ [y] }
section
variable {X : Cx} {s s1 : Shared} {H HZ : Hp} {σ : L2.St} {pins : List (Addr × Obj)}
theorem lam_in1 {A : Around} {outer : List Env} {E : XK} {scope : Scope} {f c' : Addr} {h₁ : Heap} {tk : Nat} {m : Str → Option Value} {y : Str} {v : V} {u : Value} (hy : scope.names.lookup y = some .local) (hm : m y = some u) (ru : RelV v u)
    (I : Inv X pins σ H s) (L : LamQ X.N X.env.scope scope) (e0 : Env0 X.prog X.w X.K X.mg X.base A outer s1 HZ) (hd : A.handled = none)
    (un : Un (frs X.stack) [] H HZ s.heap s1.heap) (hns : h₁.Ns s1.heap.objs.size m) (kp : ∀ b o, s1.heap.get? b = some o → h₁.get? b = some o) :
    Inv (lamCx1 X y A outer s1 HZ E scope f c') [] (σ ++ [some v]) HZ { s1 with heap := h₁, toks := tk } := by
  have J := lam_in (E := E) (f := f) (c' := c') (tk := tk) I L e0 hd un hns kp
  have o := J.ok
  refine ⟨⟨o.mod, o.kind, o.glob, o.blt, o.above, o.inj, o.has, o.cab, o.hd, o.frames, o.stk, o.exf, o.bs, o.bsz, o.noex, o.exfs, o.funs, o.frf⟩, J.os, J.bare, J.base, ?_, J.cell, J.free, J.freeC, J.pin, J.hok, ?_⟩
  · obtain ⟨m', _, hl⟩ := J.loc
    refine ⟨m, hns, fun i z v' e1 e2 e3 => ?_⟩
    have e1 : (X.N ++ [y])[i]? = some z := e1
    have ln : σ.length = X.N.length := I.len
    by_cases hi : i < X.N.length
    · rw [List.getElem?_append_left hi] at e1
      rw [List.getElem?_append_left (by omega)] at e2
      obtain ⟨u', r', q⟩ := hl i z v' e1 e2 e3
      rcases q with ⟨k, _⟩ | q
      · exact absurd (List.mem_of_getElem? e1) (L.loc _ (PySem.mem_of_lookup k) rfl)
      · exact ⟨u', r', .inr q⟩
    · have hi2 : i = X.N.length := by
        have := (List.getElem?_eq_some_iff.mp e1).1
        rw [List.length_append, List.length_singleton] at this
        omega
      subst hi2
      rw [List.getElem?_append_right (Nat.le_refl _), Nat.sub_self] at e1
      rw [List.getElem?_append_right (by omega), ln, Nat.sub_self] at e2
      injection e1 with e1
      injection e2 with e2
      injection e2 with e2
      rw [← e1, ← e2]
      exact ⟨u, ru, .inl ⟨hy, hm⟩⟩
  · show (σ ++ [some v]).length = (X.N ++ [y]).length
    rw [List.length_append, List.length_append, I.len]
    rfl
def LamBind1 (y : Str) (params : Arguments) (body : Expr) (scope : Scope) : Prop := params.defaults = [] ∧ ∀ (z : Shared) (q : Str) (cl : List (Str × Addr)) (doc pm cv ctv u : Value),
  BindsTo z (PySem.W.kdv_fn "<lambda>" q params (.expr body) scope cl .none doc pm cv ctv) ⟨[u], []⟩ [(y, u)]
/-- what the lambda needs to be called with one value -/
structure Lam1 (X : Cx) (k : Nat) (y : Str) (params : Arguments) (body : Expr) (scope : Scope) (t : TE) : Prop where
  L : LamQ X.N X.env.scope scope
  b : LamBind1 y params body scope
  hy : scope.names.lookup y = some .local
  run : ∀ (A : Around) (outer : List Env) (z : Shared) (G : Hp) (f c' : Addr), Room k (A.deeper (LamX.lamEnv X scope z.heap.objs.size f c')) → PE (lamCx1 X y A outer z G (fun _ _ _ => False) scope f c') body t
theorem call_lam1 {k : Nat} {y : Str} {params : Arguments} {body : Expr} {scope : Scope} {t : TE} {f : Addr} {v : V} {u : Value} {Q : VK} (I : Inv X pins σ H s) (LB : Lam1 X k y params body scope t) (LA : LamAt X params body scope f H) (hr : Room (k + 1) X.A.in1.in1) (ru : RelV v u) (ht : t (σ ++ [some v]) H Q) :
    wpAny (model X.prog X.w) X.A.in1.in1 (call (.ref f) [u]) (EP X pins σ Q) (fun _ _ => False) s := by
  obtain ⟨c', dV, doc, pm, ctv, hf, hc, hdf⟩ := LA
  have of1 : s.heap.get? f = some _ := (I.hok f _ hf).1
  obtain ⟨⟨oc, vs, tt, hoc, hdc, hvc⟩, _, _⟩ := I.hok c' _ hc
  obtain rfl : dV = .none := by
    rcases hdf with ⟨_, e⟩ | ⟨_, _, _, _, _, e⟩
    · exact e
    · exact absurd LB.b.1 e
  have hbs := LB.b.2 s (X.env.qual ++ "<lambda>") (cloFrom X.env.cells scope.names []) doc pm (.ref c') ctv u
  have e0 : Env0 X.prog X.w X.K X.mg X.base X.A.in1.in1 X.stack s H := ⟨I.env0.frames, I.env0.mod, I.env0.bs, I.env0.bsz, I.env0.funs, I.env0.frf, I.env0.hok, I.env0.bare⟩
  have rc : codeAny (model X.prog X.w) X.A.in1.in1 (.call (.ref f) ⟨[u], []⟩) (CR (L2.CX X.prog X.w) X.stack X.prog X.w H s Q (fun _ _ _ => False)) s := by
    apply PySem.W.kla_callFunE hr.depth of1 rfl LB.L.co LB.L.gen rfl ⟨c', oc, vs, tt, rfl, hoc, hdc, hvc⟩
    refine hbs _ _ _ _ (wpAny_newFunctionEnv LB.L.cel (fun x hx => ?_) (fun h₁ hns hsb => ⟨I.nolimit.fresh _ hsb, ?_⟩) LB.L.kind)
    · obtain rfl : x = (y, u) := by simpa using hx
      exact LB.hy
    show codeAny _ _ (.expr body (LamX.lamEnv X scope s.heap.objs.size f c')) _ _
    have kp : ∀ b o, s.heap.get? b = some o → h₁.get? b = some o := by
      intro b o e
      exact hsb.extBut b o (Nat.ne_of_lt (Heap.lt_size e)) (Heap.get?_push_of_some _ e)
    have J := lam_in1 (E := fun _ _ _ => False) (f := f) (c' := c') (tk := s.toks + 1) LB.hy (u := u) (by simp) ru I LB.L e0 hr.hd (Un.kept fun _ _ e => e) hns kp
    apply PySem.W.kla_codeExpr
    refine wpAny_mono ((LB.run _ _ s H f c' (hr.deeper _)).run [] _ _ H Q J ht) ?_ (fun e s' hq => hq)
    rintro w' s' ⟨z, H', J', rv, q⟩
    exact ⟨z, H', J'.os, J'.bare, J'.base, J'.hok, rv, q⟩
  refine wpAny_call (codeAny_mono rc ?_)
  intro r s' hq
  match r, hq with
  | .error e, hq =>
    obtain ⟨_, _, _, _, _, _, _, _, _, _, _, _, hE⟩ := hq
    exact hE.elim
  | .ok (.ret w'), hq => exact I.after hq
end
end Rs
set_option maxRecDepth 100000
set_option maxHeartbeats 1000000
/-! sorted by a key that a lambda tells -/
namespace Rs
open PySem PySem.Spec PyProof.Rows L2
section
variable {prog : Program} {w : World} {A : Around} {E : Value → Shared → Prop} {s : Shared} {a kS : Addr} {vs : List Value} {kz : List Int} {keys : Array Value} {e1 : Nat} {P : PySem.Fin → Shared → Prop}
/-- the keys are known: what is left is the order, and the end -/
theorem srt_end (hk : IntsAre keys.toList kz) (hlen : kz.length = vs.length) (hZ : vs.length ≤ sizeLine)
    (fin : ∀ st : SortSt, (arrOf st).Perm (keys.zip vs.toArray) → SortedTo (arrOf st) (arrOf st).size → failedOf st = none → wpAny (model prog w) A (ksk_tail a false e1 (.ref kS) st) P E s) :
    wpAny (model prog w) A (ksk_end a false vs.toArray e1 (.ref kS) keys) P E s := by
  have big := hZ
  rw [sizeLine_eq] at big
  have many : keys.size = vs.length := by
    have h1 := hk.length
    rw [Array.length_toList] at h1
    omega
  have both : (keys.zip vs.toArray).size = vs.length := by rw [Array.size_zip, many, List.size_toArray, Nat.min_self]
  unfold ksk_end
  simp only [Bool.false_eq_true, if_false]
  by_cases h2 : vs.toArray.size < 2
  · rw [if_pos h2, if_pos h2]
    refine wpAny_bind (wpAny_pure ?_)
    rw [StateT.run_pure]
    refine wpAny_bind (wpAny_pure ?_)
    refine fin (SortSt.mk' general' (keys.zip vs.toArray) #[] 7 none) (Array.Perm.refl _) ?_ rfl
    intro i j hij hj
    have hj2 : j < (keys.zip vs.toArray).size := hj
    rw [both] at hj2
    rw [List.size_toArray] at h2
    obtain rfl : i = j := by omega
    exact Int.le_refl _
  · rw [if_neg h2, if_neg h2]
    rw [List.size_toArray] at h2
    rw [ksk_kind hk (by rw [many]; omega)]
    refine wpAny_bind (wpAny_pure ?_)
    refine wpAny_bind (wpAny_mono (wpS_sortRunsSt (κ := intKind) (a₀ := keys.zip vs.toArray) (st := SortSt.mk' oneType' (keys.zip vs.toArray) #[] 7 none)
      (Q := fun _ st' => (arrOf st').Perm (keys.zip vs.toArray) ∧ failedOf st' = none ∧ SortedTo (arrOf st') (arrOf st').size)
      intKind_oneLt (ksk_keysOfInt (ksk_intKeys hk)) ⟨Array.Perm.refl _, rfl, rfl⟩ rfl (Stable.refl _) (by rw [both]; omega)
      fun st' a1 a2 a3 a4 => ⟨a1, a2, by rw [a1.size_eq]; exact sortedTo_of_int a3⟩) ?_ fun _ _ z => z)
    rintro ⟨⟨⟩, st'⟩ s' ⟨rfl, hp, hf, hs⟩
    exact fin st' hp hs hf
end
end Rs
set_option maxRecDepth 100000
set_option maxHeartbeats 2000000
namespace Rs
open PySem PySem.Spec PyProof.Rows L2
section
variable {X : Cx} {s : Shared} {H : Hp} {σ : L2.St} {pins : List (Addr × Obj)}
/-- ints told in the order of the keys -/
theorem keyed {xs : List V} {ks its : List Value} {ps : Array Keyed} {g : V → Int} (rv : Vals xs its) (rk : Vals (xs.map fun x => V.int (g x)) ks) (hp : ps.Perm (ks.toArray.zip its.toArray)) (hs : SortedTo ps ps.size) :
    ∃ ys : List V, Vals ys (ps.map (·.2)).toList ∧ ys.Perm xs ∧ ys.Pairwise (fun x y => g x ≤ g y) := by
  have hl : ps.toList.Perm (ks.zip its) := by
    have z := Array.perm_iff_toList_perm.mp hp
    rw [ksk_zip] at z
    exact z
  have hk : ks.length = its.length := by
    have h1 := rk.length
    have h2 := rv.length
    rw [List.length_map] at h1
    omega
  have pw : ps.toList.Pairwise (fun p q => numOf p.1 ≤ numOf q.1) := by
    rw [List.pairwise_iff_getElem]
    intro i j hi hj hij
    have hi' : i < ps.size := by simpa using hi
    have hj' : j < ps.size := by simpa using hj
    have h0 := hs i j (Nat.le_of_lt hij) hj'
    simpa [K, hi', hj'] using h0
  obtain ⟨ys, h1, h2, h3⟩ := sorted_liftR (r := numOf) (f := g) rv hk (fun j x kv hx hkv => by
    obtain ⟨u, hu, r⟩ := rk.get (show (xs.map fun x => V.int (g x))[j]? = some (V.int (g x)) by rw [List.getElem?_map, hx]; rfl)
    have e : u = kv := Option.some.inj (hu.symm.trans hkv)
    obtain ⟨t, rfl⟩ := r
    rw [← e]
    rfl) hl pw
  refine ⟨ys, ?_, h2, h3⟩
  rw [Array.toList_map]
  exact h1
theorem sorted_lam {k : Nat} {y : Str} {params : Arguments} {body : Expr} {scope : Scope} {t : TE} {f a : Addr} {xs : List V} {g : V → Int} {Q : VK} (I : Inv X pins σ H s) (hs : SqL X.K H a xs) (LB : Lam1 X k y params body scope t) (LA : LamAt X params body scope f H) (hr : Room (k + 3) X.A)
    (ht : ∀ x ∈ xs, ∀ G : Hp, (∀ b o, H b = some o → G b = some o) → t (σ ++ [some x]) G fun v G' => v = .int (g x) ∧ G' = G)
    (q : ∀ (ys : List V) (p : Addr) (H3 : Hp), ys.Perm xs → ys.Pairwise (fun x y => g x ≤ g y) → H p = none → (∀ b o, H b = some o → H3 b = some o) → H3 p = some (.lst ys) → Q (.ref p) H3) :
    wpAny (model X.prog X.w) X.A (call (.builtin "sorted") [.ref a] [(Str.ofString "key", .ref f)]) (EP X pins σ Q) X.xe s := by
  obtain ⟨its, rv, hl, hz⟩ := I.list hs
  have lv : xs.length = its.length := rv.length
  have hz2 : its.length ≤ sizeLine := by omega
  have hr2 : Room (k + 1) X.A.in1.in1 := hr.in1.in1
  refine call_function_entry_kw kind_sorted plain_sorted entry_sorted (ksk_s1 _ _) ?_
  unfold Builtin.«sorted»
  refine wpAny_bind (m := checkCount "sorted" 1 1 _) (wpAny_pure ?_)
  refine wpAny_bind (collect_list hl.isList ?_ hz2)
  refine wpAny_bind (wpAny_newList ?_ hz2)
  obtain ⟨h1, eh1⟩ : ∃ h1 : Heap, h1 = (s.heap.push (seqObj "list" #[] 0)).update s.heap.objs.size (Obj.mapSeq (· ++ its.toArray)) := ⟨_, rfl⟩
  have z1 : h1.objs.size = s.heap.objs.size + 1 := by rw [eh1, Heap.size_update, size_push']
  have k1 : ∀ b o, s.heap.get? b = some o → h1.get? b = some o := fun b o e => by
    rw [eh1, Heap.get?_update_ne _ _ _ _ (Nat.ne_of_lt (Heap.lt_size e))]
    exact Heap.get?_push_of_some _ e
  show wpAny _ _ _ _ _ { s with heap := ((s.heap.push (seqObj "list" #[] 0)).update s.heap.objs.size (Obj.mapSeq (· ++ its.toArray))).push (seqObj "list" its.toArray 0) }
  rw [← eh1]
  have ho : (h1.push (seqObj "list" its.toArray 0)).get? h1.objs.size = some (seqObj "list" its.toArray 0) := Heap.get?_push_size _ rfl
  obtain ⟨A1, eA⟩ : ∃ A1 : Addr, A1 = h1.objs.size := ⟨_, rfl⟩
  rw [← eA] at ho
  show wpAny _ _ (holding [.ref h1.objs.size] _ >>= _) _ _ _
  rw [← eA]
  refine wpAny_bind (wpAny_holding (wpAny_call_entry_kw slot_list_sort ⟨_, ho, rfl⟩ entry_list_sort ?_ (ksk_l1 _ _)))
  show wpAny (model X.prog X.w) X.A.in1.in1 (Builtin.«list.sort» ⟨[.ref A1], [(Str.ofString "key", .ref f)]⟩) _ _ _
  rw [ksk_t1]
  unfold ksk_tree
  refine wpAny_bind (listItems_at ho rfl ?_)
  refine wpAny_bind (listUpdate_at ho rfl ?_ (by rw [List.size_toArray]; exact hz2) (Nat.zero_le _))
  obtain ⟨h2, eh2⟩ : ∃ h2 : Heap, h2 = (h1.push (seqObj "list" its.toArray 0)).update A1 (Obj.mapSeq fun _ => (#[] : Array Value)) := ⟨_, rfl⟩
  obtain ⟨e1, ho1⟩ : ∃ e1, h2.get? A1 = some (seqObj "list" #[] e1) := by
    rw [eh2]
    exact ⟨_, get?_update_seq ho fun _ => #[]⟩
  have nA : s.heap.objs.size ≤ A1 := by rw [eA, z1]; exact Nat.le_succ _
  have k2 : ∀ b o, s.heap.get? b = some o → h2.get? b = some o := fun b o e => by
    have hb := Heap.lt_size (k1 b o e)
    rw [eh2, Heap.get?_update_ne _ _ _ _ (by rw [eA]; exact Nat.ne_of_lt hb)]
    exact Heap.get?_push_of_some _ (k1 b o e)
  show wpAny _ _ _ _ _ { s with heap := (h1.push (seqObj "list" its.toArray 0)).update A1 (Obj.mapSeq fun _ => (#[] : Array Value)) }
  rw [← eh2]
  refine wpAny_bind (seqEpoch_at ho1 rfl ?_)
  refine wpAny_bind (wpAny_newTuple ?_ hz2)
  refine wpAny_bind (wpAny_newList ?_ (Nat.zero_le _))
  refine wpAny_holding ?_
  have J1 := I.laid (t' := s.toks) (a := A1) (o := FnO A1 (seqObj "list" #[] e1)) (h' := h2) k2 nA (fnO_ok ho1)
  have J2 := J1.laid (t' := s.toks) (a := h2.objs.size) (o := .tup xs) (h' := h2.push { cls := .type "tuple", data := .seq its.toArray }) (fun b o e => Heap.get?_push_of_some _ e) (Nat.le_refl _) ⟨hz, its, rv, IsTup.new _ _⟩
  obtain ⟨h3, eh3⟩ : ∃ h3 : Heap, h3 = h2.push { cls := .type "tuple", data := .seq its.toArray } := ⟨_, rfl⟩
  rw [← eh3] at J2
  have J3 := J2.laid (t' := s.toks) (a := h3.objs.size) (o := .lst []) (h' := h3.push { cls := .type "list", data := .seq [].toArray }) (fun b o e => Heap.get?_push_of_some _ e) (Nat.le_refl _) ⟨Nat.zero_le _, [], 0, .nil, Heap.get?_push_size _ rfl⟩
  have nT : s.heap.objs.size ≤ h2.objs.size := by
    have := Heap.lt_size ho1
    exact Nat.le_trans nA (Nat.le_of_lt this)
  have nS : h2.objs.size < h3.objs.size := by rw [eh3, size_push']; exact Nat.lt_succ_self _
  have AT : A1 < h2.objs.size := Heap.lt_size ho1
  show wpAny _ _ (ksk_rest A1 (.ref f) false its.toArray e1 (.ref (h2.push { cls := .type "tuple", data := .seq its.toArray }).objs.size)) _ _ { s with heap := (h2.push { cls := .type "tuple", data := .seq its.toArray }).push { cls := .type "list", data := .seq [].toArray } }
  rw [← eh3]
  generalize h3.push { cls := .type "list", data := .seq [].toArray } = h4 at J3
  generalize h3.objs.size = kS at J3 nS
  generalize h2.objs.size = tA at J3 nT nS AT
  have n1 : H A1 = none := I.hok.fresh nA
  have n2 : H tA = none := I.hok.fresh nT
  have n3 : H kS = none := I.hok.fresh (Nat.le_trans nT (Nat.le_of_lt nS))
  obtain ⟨HB, eB⟩ : ∃ HB : Hp, HB = upd (upd H A1 (FnO A1 (seqObj "list" #[] e1))) tA (.tup xs) := ⟨_, rfl⟩
  rw [← eB] at J3
  have kA : A1 ≠ kS := Nat.ne_of_lt (Nat.lt_trans AT nS)
  have bA : HB A1 = some (FnO A1 (seqObj "list" #[] e1)) := by
    rw [eB, upd_ne (Nat.ne_of_lt AT)]
    exact upd_same
  have bE : ∀ b o, H b = some o → HB b = some o := fun b o e => by
    rw [eB, upd_ne (ne_of_none e n2), upd_ne (ne_of_none e n1)]
    exact e
  have bS : ∀ (u : HO) b o, H b = some o → upd HB kS u b = some o := fun u b o e => by
    rw [upd_ne (ne_of_none e n3)]
    exact bE b o e
  unfold ksk_rest
  refine wpAny_bind (wpAny_rule ?_)
  rw [List.forIn_toArray]
  refine wpAny_bind (ksk_fold (fun i s' => Inv X pins σ (upd HB kS (.lst ((xs.take i).map fun x => V.int (g x)))) s') its 0 _ J3 ?_ ?_)
  · intro j u s' hu J
    rw [Nat.zero_add] at J ⊢
    have hj : j < xs.length := by
      have := (List.getElem?_eq_some_iff.mp hu).1
      omega
    obtain ⟨u', hu', ru⟩ := rv.get (List.getElem?_eq_getElem hj)
    have eu : u' = u := Option.some.inj (hu'.symm.trans hu)
    subst eu
    have hx : xs[j] ∈ xs := List.getElem_mem hj
    have LA2 : LamAt X params body scope f (upd HB kS (.lst ((xs.take j).map fun x => V.int (g x)))) := LA.go fun b o e _ _ => bS _ b o e
    refine wpAny_bind (wpAny_attempt (wpAny_mono (call_lam1 J LB LA2 hr2 ru (ht _ hx _ (bS _))) (fun kv s2 he => ?_) fun _ _ hF => hF.elim))
    obtain ⟨kv', H', J', rk, rfl, rfl⟩ := he
    obtain ⟨hz3, kz, n, rz, eo⟩ := J'.hok kS _ upd_same
    obtain ⟨t2, rfl⟩ := rk
    have lz : kz.length ≤ j := by
      have h1 := rz.length
      rw [List.length_map, List.length_take] at h1
      omega
    have tk : xs.take (j + 1) = xs.take j ++ [xs[j]] := by rw [List.take_add_one, List.getElem?_eq_getElem hj]; rfl
    refine wpAny_bind (listUpdate_at eo rfl ?_ (by rw [List.size_toArray]; omega) (by rw [Array.size_push, List.size_toArray]; omega))
    refine wpAny_pure ⟨rfl, ?_⟩
    have J4 := J'.lset (t' := s2.toks) (its' := kz ++ [Value.int (g xs[j]) t2]) (f := (·.push (Value.int (g xs[j]) t2))) (ys := ((xs.take (j + 1)).map fun x => V.int (g x))) upd_same eo (by simp) (by
      rw [tk, List.map_append]
      exact rz.append (.cons ⟨t2, rfl⟩ .nil)) (by rw [List.length_map, List.length_take]; omega)
    rw [upd_upd] at J4
    exact J4
  · intro s' J
    rw [Nat.zero_add, List.take_of_length_le (by omega)] at J
    obtain ⟨hz3, kz, n, rz, eo⟩ := J.hok kS _ upd_same
    refine wpAny_bind (listItems_at eo rfl ?_)
    have ik : IntsAre kz (xs.map g) := by
      have e : (xs.map fun x => V.int (g x)) = (xs.map g).map V.int := by rw [List.map_map]; rfl
      rw [e] at rz
      exact rz.ints
    refine srt_end (kz := xs.map g) (by simpa using ik) (by rw [List.length_map]; exact lv) hz2 fun st hp hso hf => ?_
    have lk : kz.length = its.length := by
      have h1 := rz.length
      rw [List.length_map] at h1
      omega
    obtain ⟨ys, ry, py, oy⟩ := keyed rv rz hp hso
    have J4 := J.lset (t' := s'.toks) (its' := []) (f := fun _ => (#[] : Array Value)) (ys := []) upd_same eo rfl .nil (Nat.zero_le _)
    rw [upd_upd] at J4
    have fA : upd HB kS (.lst []) A1 = some (FnO A1 (seqObj "list" #[] e1)) := by
      rw [upd_ne kA]
      exact bA
    have oA := (J4.hok A1 _ fA).1
    unfold ksk_tail
    simp only [Bool.false_eq_true, if_false]
    refine wpAny_bind (listUpdate_at eo rfl ?_ (by rw [List.size_toArray]; omega) (Nat.zero_le _))
    refine wpAny_bind (wpAny_letGo ?_)
    refine wpAny_bind (seqEpoch_at oA rfl ?_)
    have mo : ((arrOf st).map (·.2)).size ≤ sizeLine := by
      have h1 : ys.length = ((arrOf st).map (·.2)).size := by rw [ry.length, Array.length_toList]
      have h2 := py.length_eq
      omega
    refine wpAny_bind (listUpdate_at oA rfl ?_ (Nat.zero_le _) (Nat.le_succ_of_le mo))
    rw [hf]
    simp only [bne_self_eq_false, Bool.false_eq_true, if_false]
    refine wpAny_pure ⟨_, rfl, wpAny_pure ⟨_, rfl, ?_⟩⟩
    obtain ⟨c2, hc2⟩ : ∃ c2, ((s'.heap.update kS (Obj.mapSeq fun _ => (#[] : Array Value))).update A1 (Obj.mapSeq fun _ => (arrOf st).map (·.2))).get? A1 = some (seqObj "list" ((arrOf st).map (·.2)) c2) := ⟨_, get?_update_seq oA fun _ => (arrOf st).map (·.2)⟩
    have J5 := J4.write (x := A1) (e := A1) (o := .lst ys) (t' := s'.toks) (h' := (s'.heap.update kS (Obj.mapSeq fun _ => (#[] : Array Value))).update A1 (Obj.mapSeq fun _ => (arrOf st).map (·.2))) (by rw [fA]; exact trivial) (.inl rfl)
      (fun b o hb e => (Heap.get?_update_ne _ _ _ _ hb).trans e) ⟨_, hc2⟩ ⟨by rw [py.length_eq]; exact hz, ((arrOf st).map (·.2)).toList, c2, ry, by rw [Array.toArray_toList]; exact hc2⟩
    refine ⟨.ref A1, _, J5, rfl, q ys A1 _ py oy n1 (fun b o e => ?_) upd_same⟩
    rw [upd_ne (ne_of_none e n1)]
    exact bS _ b o e
end
end Rs
set_option maxRecDepth 100000
set_option maxHeartbeats 1000000
namespace Rs
open PySem PySem.Spec PyProof.Rows L2
/-- sorted(e, key=lambda y: body): te tells e, t the lambda's body, with y behind the slots -/
def tSortL (X : Cx) (T : List (Addr × Str)) (params : Arguments) (body : Expr) (scope : Scope) (te t : TE) : TE := fun σ H Q => te σ H fun v H1 => ∃ (a : Addr) (xs : List V) (g : V → Int), [v] = [V.ref a] ∧ LamX.Tabs T H1 ∧ SqL X.K H1 a xs ∧
  (∀ x ∈ xs, ∀ G : Hp, LamX.ExtN H1 G → t (σ ++ [some x]) G fun v G' => v = .int (g x) ∧ G' = G) ∧
  ∀ (ys : List V) (p : Addr) (H3 : Hp), ys.Perm xs → ys.Pairwise (fun x y => g x ≤ g y) → (∀ o, H1 p = some o → ∃ ps, o = .tbl ps) → LamX.ExtN H1 H3 → LamX.Tabs T H3 → H3 p = some (.lst ys) → Q (.ref p) H3
theorem e_sortL {X : Cx} {T : List (Addr × Str)} {c P : Addr} {k : Nat} {y x : Str} {params : Arguments} {body e : Expr} {scope : Scope} {lpos p pos kpos : Pos} {nm : Option Str} {te t : TE} (hx : x = "sorted") (hg : Gl X x) (hm0 : X.mg x = none) (hv : bootBuiltins x = some (.builtin "sorted")) (he0 : PE X e te)
    (TB : LamX.TabB X.base X.mg c P) (hcode : X.env.code = .ref c) (hm : (P, X.env.qual ++ "<lambda>") ∈ T) (hu : ∀ p ∈ T, p.1 = P → p.2 = X.env.qual ++ "<lambda>") (hdef : defaultsOf params X.env = ([], []))
    (LB : Lam1 X k y params body scope t) (hr : Room (k + 3) X.A)
    (hst : starEach [e] X.env = (false, eval e X.env) :: starEach [] X.env := by rfl) (he : backTo pos (starEach [e] X.env) = (false, eval e X.env) :: backTo pos (starEach [] X.env) := by rfl) (hpl : (backTo pos (starEach [e] X.env)).any (·.1) = false := by rfl)
    (hall : (backToKw pos (keywordEach [⟨nm, .Lambda params body scope lpos, kpos⟩] X.env)).all (·.1.isSome) = true := by rfl) (hnone : (backToKw pos (keywordEach [⟨nm, .Lambda params body scope lpos, kpos⟩] X.env)).any (·.1.isNone) = false := by rfl) (hks : (backToKw pos (keywordEach [⟨nm, .Lambda params body scope lpos, kpos⟩] X.env)).filterMap (·.1) = [Str.ofString "key"] := by rfl) :
    PE X (.Call (.Name x p) [e] [⟨nm, .Lambda params body scope lpos, kpos⟩] pos) (tSortL X T params body scope te t) := by
  subst hx
  constructor
  intro pins s σ H Q I h
  refine wpAny_Call_Name_kw (ld_blt I hg hm0 hv ?_ (by decide) (by decide))
  have pk := pk_cons (nm := nm) (kpos := kpos) (e_lam0 (body := body) (pos := lpos) TB hcode hm hu LB.L LB.b.1 hdef) pk_nil
  refine PyProof.Rows.callWith_kw (thn ((pa_cons he0 pa_nil hst).run pos pins s σ H (fun vs H1 => ∃ (a : Addr) (xs : List V) (g : V → Int), vs = [V.ref a] ∧ LamX.Tabs T H1 ∧ SqL X.K H1 a xs ∧
    (∀ x ∈ xs, ∀ G : Hp, LamX.ExtN H1 G → t (σ ++ [some x]) G fun v G' => v = .int (g x) ∧ G' = G) ∧
    ∀ (ys : List V) (p : Addr) (H3 : Hp), ys.Perm xs → ys.Pairwise (fun x y => g x ≤ g y) → (∀ o, H1 p = some o → ∃ ps, o = .tbl ps) → LamX.ExtN H1 H3 → LamX.Tabs T H3 → H3 p = some (.lst ys) → Q (.ref p) H3) I ?_) fun us s1 h1 => ?_) he hpl hall hnone
  · exact h
  · obtain ⟨vs, H1, I1, r1, a, xs, g, rfl, hT, hs, ht, q⟩ := h1
    obtain ⟨u, rfl, ru⟩ := r1.one
    obtain rfl : u = Value.ref a := ru
    refine thn (pk.run pos pins s1 σ H1 (fun zs H2 => ∃ f, zs = [.ref f] ∧ LamX.ExtN H1 H2 ∧ LamX.Tabs T H2 ∧ H1 f = none ∧ LamAt X params body scope f H2) I1 ⟨hT, fun f H2 e2 T2 nf LA => ⟨f, rfl, e2, T2, nf, LA⟩⟩) fun ws s2 h2 => ?_
    obtain ⟨zs, H2, I2, r2, f, rfl, e2, T2, nf, LA⟩ := h2
    obtain ⟨w1, rfl, rw1⟩ := r2.one
    obtain rfl : w1 = Value.ref f := rw1
    rw [hks]
    have hs2 : SqL X.K H2 a xs := by
      rcases hs with hs | hs
      · refine .inl ?_
        rcases hs with hs | ⟨o, hs⟩
        · exact .inl (e2 _ _ hs (fun ps z => (nomatch z)))
        · exact .inr ⟨o, e2 _ _ hs (fun ps z => (nomatch z))⟩
      · exact .inr hs
    refine sorted_lam (g := g) I2 hs2 LB LA hr (fun x hx G eG => ht x hx G (e2.trans (.of eG))) fun ys p H3 py oy np e3 h3 => ?_
    refine q ys p H3 py oy (fun o ho => ?_) (e2.trans (.of e3)) (T2.ext e3) h3
    cases o with
    | tbl ps => exact ⟨ps, rfl⟩
    | _ =>
      exfalso
      have z := e2 _ _ ho (fun ps z => nomatch z)
      rw [np] at z
      cases z
end Rs
namespace Rs
open PySem PySem.Spec PyProof.Rows L2
/-- // by any divisor but zero, below 2 ^ 9000 -/
theorem op_fdivF {X : Cx} : OpR X (binaryOp .FloorDiv) (rI (fun _ j => j ≠ 0 ∧ j.natAbs.log2 < 9000) fun i j => .int (i.fdiv j)) := opI fun i j _ _ _ _ _ hc q => floordiv_int hc.1 q (.inl (PyProof.noPylong_of_log2 hc.2))
end Rs
namespace Rs
open PySem PySem.Spec PyProof.Rows L2
theorem sqT_ext {K : PySem.W.Frag} {H H' : Hp} {a : Addr} {xs : List V} (e : ∀ b o, H b = some o → H' b = some o) (h : SqT K H a xs) : SqT K H' a xs := by
  rcases h with (h | ⟨o, h⟩) | h
  · exact .inl (.inl (e _ _ h))
  · exact .inl (.inr ⟨o, e _ _ h⟩)
  · exact .inr h
theorem wipe2 {σ : L2.St} {i j : Nat} {x y : Option V} : wipe (((wipe σ [i, j]).set i x).set j y) [i, j] = wipe σ [i, j] := by
  refine List.ext_getElem? fun k => ?_
  simp only [wipe, List.getElem?_set, List.length_set]
  by_cases h1 : i = k
  · subst h1
    simp
  · by_cases h2 : j = k
    · subst h2
      simp [h1]
    · simp [h1, h2]
/-- [e for x, y in zip(t, u)], two tuples of one length, e pure -/
theorem lc_zipT {K : PySem.W.Frag} {a b : Addr} {xs ys : List V} (hl : xs.length = ys.length) {te : TE} {σ : L2.St} {i j : Nat} {H1 : Hp} {D : Addr} {Qd : Hp → Prop} (f : V → V → V) (hlen : xs.length < sizeLine) (hD : H1 D = none) (ha : SqT K H1 a xs) (hb : SqT K H1 b ys)
    (he : ∀ (n : Nat) (x y : V) (H2 : Hp) (Q : VK), xs[n]? = some x → ys[n]? = some y → (∀ b o, H1 b = some o → H2 b = some o) → (∀ H3 : Hp, (∀ b o, H2 b = some o → H3 b = some o) → Q (f x y) H3) → te (((wipe σ [i, j]).set i (some x)).set j (some y)) H2 Q)
    (hd : ∀ H2 : Hp, (∀ b o, H1 b = some o → H2 b = some o) → H2 D = some (.lst (List.zipWith f xs ys)) → Qd H2) :
    ∃ W : Nat → Nat → Hp → Prop, (∃ m, W 0 m (upd H1 D (.lst []))) ∧ ∀ n m H, W n m H →
      ((RZ.ItzT K a b).stop n H ∧ Qd H) ∨ ((RZ.ItzT K a b).go n H ∧ ∃ Nx : Hp → Prop, (∀ H', Nx H' → ∃ m', m' < m ∧ W (n + 1) m' H') ∧ ∀ x H', (RZ.ItzT K a b).yld n H x H' → gTup K 2 (gCons (gName i) (gCons (gName j) gNil)) x (wipe σ [i, j]) H' fun σ2 H2 => wipe σ2 [i, j] = wipe σ [i, j] ∧ tYes σ2 H2 fun b H3 =>
        if b = true then te σ2 H3 fun v H4 => ∃ ac, H4 D = some (.lst ac) ∧ ac.length < sizeLine ∧ Nx (upd H4 D (.lst (ac ++ [v]))) else Nx H3) := by
  refine ⟨fun n m H => m = xs.length - n ∧ n ≤ xs.length ∧ (∀ b o, H1 b = some o → H b = some o) ∧ H D = some (.lst (List.zipWith f (xs.take n) (ys.take n))), ⟨_, rfl, Nat.zero_le _, fun b o e => ?_, ?_⟩, ?_⟩
  · rw [upd_ne (ne_of_none e hD)]
    exact e
  · rw [upd_same]
    rfl
  · rintro n m H ⟨rfl, hn, sm, hq⟩
    have qa := sqT_ext sm ha
    have qb := sqT_ext sm hb
    by_cases hlt : n < xs.length
    · have hx : xs[n]? = some xs[n] := List.getElem?_eq_getElem hlt
      have hlt2 : n < ys.length := by omega
      have hy : ys[n]? = some ys[n] := List.getElem?_eq_getElem hlt2
      refine .inr ⟨⟨xs, ys, _, _, qa, qb, hx, hy⟩, fun H' => (∀ b o, H1 b = some o → H' b = some o) ∧ H' D = some (.lst (List.zipWith f (xs.take (n + 1)) (ys.take (n + 1)))), fun H' p => ⟨_, by omega, rfl, hlt, p.1, p.2⟩, ?_⟩
      rintro v H' ⟨T, x, y, rfl, hT, rfl, f1, f2⟩
      have ex := f1 xs qa
      have ey := f2 ys qb
      have sT : ∀ b o, H b = some o → upd H T (.tup [x, y]) b = some o := fun b o e => by
        rw [upd_ne (ne_of_none e hT)]
        exact e
      refine ⟨T, [x, y], rfl, SqT.of upd_same, rfl, x, [y], rfl, y, [], rfl, rfl, wipe2, ?_⟩
      dsimp only [tYes]
      rw [if_pos rfl]
      refine he n x y _ _ ex ey (fun b o e => sT b o (sm b o e)) fun H3 s3 => ⟨_, s3 _ _ (sT _ _ hq), ?_, ?_, ?_⟩
      · rw [List.length_zipWith, List.length_take, List.length_take]
        omega
      · intro b o e
        rw [upd_ne (ne_of_none e hD)]
        exact s3 _ _ (sT _ _ (sm _ _ e))
      · have e1 : xs.take (n + 1) = xs.take n ++ [x] := by rw [List.take_add_one, ex]; rfl
        have e2 : ys.take (n + 1) = ys.take n ++ [y] := by rw [List.take_add_one, ey]; rfl
        rw [upd_same, e1, e2, List.zipWith_append (by rw [List.length_take, List.length_take]; omega)]
        rfl
    · have e : n = xs.length := by omega
      subst e
      rw [List.take_length, hl, List.take_length] at hq
      exact .inl ⟨⟨xs, ys, qa, qb, .inl (Nat.le_refl _)⟩, hd H sm hq⟩
end Rs
/-! rows of numbers, their sums, and that normal rows are told by the sums -/
namespace Hm
abbrev Row := Nat → Int
def ls (r o : Row) (t : Int) : Row := fun j => r j - t * o j
/-- the sums of multiples of the rows R -/
inductive Sm (R : Row → Prop) : Row → Prop
  | zero : Sm R (fun _ => 0)
  | step {v r : Row} (t : Int) : Sm R v → R r → Sm R (ls v r t)
theorem ls_zero (v : Row) (t : Int) : ls v (fun _ => 0) t = v := by
  funext j
  simp [ls]
theorem ls_ls (v u r : Row) (t s : Int) : ls v (ls u r s) t = ls (ls v u t) r (-(t * s)) := by
  funext j
  show v j - t * (u j - s * r j) = v j - t * u j - -(t * s) * r j
  rw [Int.mul_sub, ← Int.mul_assoc, Int.neg_mul]
  omega
theorem Sm.ls {R : Row → Prop} {v u : Row} (hv : Sm R v) (hu : Sm R u) : ∀ t, Sm R (ls v u t) := by
  induction hu with
  | zero => intro t; rw [ls_zero]; exact hv
  | step s hu hr ih =>
    intro t
    rw [ls_ls]
    exact .step _ (ih t) hr
theorem Sm.of {R : Row → Prop} {r : Row} (h : R r) : Sm R r := by
  have z := Sm.step (R := R) (-1) .zero h
  have e : Hm.ls (fun _ => 0) r (-1) = r := by
    funext j
    simp [Hm.ls]
  rw [e] at z
  exact z
theorem Sm.mono {R R' : Row → Prop} (h : ∀ r, R r → Sm R' r) {v : Row} (hv : Sm R v) : Sm R' v := by
  induction hv with
  | zero => exact .zero
  | step t _ hr ih => exact ih.ls (h _ hr) t
/-- the normal rows p of the sums L: one for a column, or none -/
structure Piv (L : Row → Prop) (w : Nat) (p : Nat → Option Row) : Prop where
  yes : ∀ a, a < w → ∀ r, p a = some r → L r ∧ (∀ j, j < a → r j = 0) ∧ 0 < r a ∧ ∀ v, L v → (∀ j, j < a → v j = 0) → r a ∣ v a
  no : ∀ a, a < w → p a = none → ∀ v, L v → (∀ j, j < a → v j = 0) → v a = 0
  red : ∀ a b, a < b → b < w → ∀ r s, p a = some r → p b = some s → 0 ≤ r b ∧ r b < s b
  out : ∀ a r, p a = some r → ∀ j, w ≤ j → r j = 0
theorem dvd_eq {a b : Int} (ha : 0 < a) (hb : 0 < b) (h1 : a ∣ b) (h2 : b ∣ a) : a = b := Int.le_antisymm (Int.le_of_dvd hb h1) (Int.le_of_dvd ha h2)
theorem dvd_small {l x y : Int} (hx : 0 ≤ x) (hx2 : x < l) (hy : 0 ≤ y) (hy2 : y < l) (h : l ∣ x - y) : x - y = 0 := by
  by_cases h0 : x - y = 0
  · exact h0
  · have h1 := Int.natAbs_dvd_natAbs.mpr h
    have h2 := Nat.le_of_dvd (by omega) h1
    omega
section
variable {L : Row → Prop} {w : Nat} {p q : Nat → Option Row}
theorem Piv.lead (P : Piv L w p) (Q : Piv L w q) {a : Nat} (ha : a < w) : (p a = none ∧ q a = none) ∨ ∃ r s, p a = some r ∧ q a = some s ∧ r a = s a := by
  cases hp : p a with
  | none =>
    cases hq : q a with
    | none => exact .inl ⟨rfl, rfl⟩
    | some s =>
      obtain ⟨s1, s2, s3, _⟩ := Q.yes a ha s hq
      have := P.no a ha hp s s1 s2
      omega
  | some r =>
    obtain ⟨r1, r2, r3, r4⟩ := P.yes a ha r hp
    cases hq : q a with
    | none =>
      have := Q.no a ha hq r r1 r2
      omega
    | some s =>
      obtain ⟨s1, s2, s3, s4⟩ := Q.yes a ha s hq
      exact .inr ⟨r, s, rfl, rfl, dvd_eq r3 s3 (r4 s s1 s2) (s4 r r1 r2)⟩
theorem Piv.unique (hL : ∀ v u, L v → L u → L (ls v u 1)) (P : Piv L w p) (Q : Piv L w q) {a : Nat} (ha : a < w) : p a = q a := by
  rcases P.lead Q ha with ⟨h1, h2⟩ | ⟨r, s, h1, h2, e⟩
  · rw [h1, h2]
  · obtain ⟨r1, r2, r3, r4⟩ := P.yes a ha r h1
    obtain ⟨s1, s2, s3, s4⟩ := Q.yes a ha s h2
    have hd := hL r s r1 s1
    have dj : ∀ j, ls r s 1 j = r j - s j := fun j => by simp [ls]
    have key : ∀ n, n ≤ w → ∀ j, j < n → r j - s j = 0 := by
      intro n
      induction n with
      | zero => intro _ j hj; omega
      | succ n ih =>
        intro hn j hj
        have ihn := ih (by omega)
        by_cases hjn : j < n
        · exact ihn j hjn
        · obtain rfl : j = n := by omega
          by_cases h3 : j < a
          · rw [r2 j h3, s2 j h3]
            rfl
          · by_cases h4 : j = a
            · subst h4
              omega
            · have hz : ∀ i, i < j → ls r s 1 i = 0 := fun i hi => by
                rw [dj]
                exact ihn i hi
              rcases P.lead Q (a := j) (by omega) with ⟨g1, _⟩ | ⟨r', s', g1, g2, g3⟩
              · have := P.no j (by omega) g1 _ hd hz
                rw [dj] at this
                exact this
              · have d1 := (P.yes j (by omega) r' g1).2.2.2 _ hd hz
                rw [dj] at d1
                obtain ⟨x1, x2⟩ := P.red a j (by omega) (by omega) r r' h1 g1
                obtain ⟨y1, y2⟩ := Q.red a j (by omega) (by omega) s s' h2 g2
                exact dvd_small x1 x2 y1 (by omega) d1
    rw [h1, h2]
    congr 1
    funext j
    by_cases hj : j < w
    · have := key w (Nat.le_refl _) j hj
      omega
    · rw [P.out a r h1 j (by omega), Q.out a s h2 j (by omega)]
end
/-! rows in steps: the row of a column begins there -/
structure Ech (w : Nat) (E : Nat → Option Row) : Prop where
  z : ∀ a r, E a = some r → (∀ j, j < a → r j = 0) ∧ r a ≠ 0
def Of (w : Nat) (E : Nat → Option Row) (r : Row) : Prop := ∃ a, a < w ∧ E a = some r
def at0 (E : Nat → Option Row) (a : Nat) : Row := (E a).getD (fun _ => 0)
/-- the sum of so many rows with multiples -/
def cmb (E : Nat → Option Row) (k : Nat → Int) : Nat → Row
  | 0 => fun _ => 0
  | n + 1 => fun j => cmb E k n j + k n * at0 E n j
theorem cmb_sub (E : Nat → Option Row) (k l : Nat → Int) (t : Int) : ∀ n j, cmb E (fun i => k i - t * l i) n j = cmb E k n j - t * cmb E l n j
  | 0, j => by simp [cmb]
  | n + 1, j => by
    show cmb E (fun i => k i - t * l i) n j + (k n - t * l n) * at0 E n j = cmb E k n j + k n * at0 E n j - t * (cmb E l n j + l n * at0 E n j)
    rw [cmb_sub E k l t n j, Int.sub_mul, Int.mul_add, Int.mul_assoc]
    omega
theorem cmb_one (E : Nat → Option Row) (a : Nat) (j : Nat) : ∀ n, cmb E (fun i => if i = a then 1 else 0) n j = if a < n then at0 E a j else 0
  | 0 => by simp [cmb]
  | n + 1 => by
    show cmb E (fun i => if i = a then 1 else 0) n j + (if n = a then 1 else 0) * at0 E n j = _
    rw [cmb_one E a j n]
    by_cases h1 : n = a
    · subst h1
      simp
    · by_cases h2 : a < n
      · rw [if_pos h2, if_neg h1, if_pos (by omega)]
        omega
      · rw [if_neg h2, if_neg h1, if_neg (by omega)]
        omega
theorem cmb_of {w : Nat} {E : Nat → Option Row} {v : Row} (h : Sm (Of w E) v) : ∃ k, ∀ j, v j = cmb E k w j := by
  induction h with
  | zero =>
    refine ⟨fun _ => 0, fun j => ?_⟩
    have : ∀ n, cmb E (fun _ => 0) n j = 0 := by
      intro n
      induction n with
      | zero => rfl
      | succ n ih =>
        show cmb E (fun _ => 0) n j + 0 * at0 E n j = 0
        rw [ih]
        omega
    rw [this]
  | @step v r t _ hr ih =>
    obtain ⟨k, hk⟩ := ih
    obtain ⟨a, ha, hE⟩ := hr
    refine ⟨fun i => k i - t * (if i = a then 1 else 0), fun j => ?_⟩
    rw [cmb_sub, cmb_one, if_pos ha, ← hk]
    show v j - t * r j = v j - t * at0 E a j
    rw [at0, hE]
    rfl
/-- what stands in a column that is the first one without a zero -/
theorem cmb_col {w : Nat} {E : Nat → Option Row} (h : Ech w E) (k : Nat → Int) (a : Nat) (hz : ∀ j, j < a → cmb E k w j = 0) (ha : a ≤ w) : (∀ i, i < a → ∀ j, k i * at0 E i j = 0) := by
  have up : ∀ (i j : Nat), j < i → at0 E i j = 0 := by
    intro i j hij
    unfold at0
    cases hE : E i with
    | none => rfl
    | some r => exact (h.z i r hE).1 j hij
  have tail : ∀ n m j, j < m → m ≤ n → cmb E k n j = cmb E k m j := by
    intro n
    induction n with
    | zero => intro m j h1 h2; omega
    | succ n ih =>
      intro m j h1 h2
      by_cases e : m = n + 1
      · rw [e]
      · show cmb E k n j + k n * at0 E n j = _
        rw [ih m j h1 (by omega), up n j (by omega)]
        omega
  intro i
  induction i using Nat.strongRecOn with
  | _ i ih =>
    intro hi
    have low : ∀ m, m ≤ i → ∀ j, cmb E k m j = 0 := by
      intro m
      induction m with
      | zero => intro _ j; rfl
      | succ m im =>
        intro hm j
        show cmb E k m j + k m * at0 E m j = 0
        rw [im (by omega) j, ih m (by omega) (by omega) j]
        rfl
    have e1 := hz i hi
    rw [tail w (i + 1) i (by omega) (by omega)] at e1
    have e2 : cmb E k i i + k i * at0 E i i = 0 := e1
    rw [low i (Nat.le_refl _) i] at e2
    intro j
    cases hE : E i with
    | none =>
      unfold at0
      rw [hE]
      simp
    | some r =>
      have hr := (h.z i r hE).2
      have e3 : at0 E i i = r i := by
        unfold at0
        rw [hE]
        rfl
      rw [e3] at e2
      have : k i = 0 := by
        rcases Int.mul_eq_zero.mp (show k i * r i = 0 by omega) with h | h
        · exact h
        · exact absurd h hr
      rw [this]
      simp
theorem ech_col {w : Nat} {E : Nat → Option Row} (h : Ech w E) {v : Row} (hv : Sm (Of w E) v) {a : Nat} (ha : a < w) (hz : ∀ j, j < a → v j = 0) : ∃ t : Int, v a = t * at0 E a a := by
  obtain ⟨k, hk⟩ := cmb_of hv
  have low := cmb_col h k a (fun j hj => by rw [← hk]; exact hz j hj) (by omega)
  have up : ∀ (i j : Nat), j < i → at0 E i j = 0 := by
    intro i j hij
    unfold at0
    cases hE : E i with
    | none => rfl
    | some r => exact (h.z i r hE).1 j hij
  have lo : ∀ m, m ≤ a → cmb E k m a = 0 := by
    intro m
    induction m with
    | zero => intro _; rfl
    | succ m im =>
      intro hm
      show cmb E k m a + k m * at0 E m a = 0
      rw [im (by omega), low m (by omega) a]
      rfl
  have all : ∀ n, a + 1 ≤ n → cmb E k n a = k a * at0 E a a := by
    intro n
    induction n with
    | zero => intro h; omega
    | succ n ih =>
      intro hn
      show cmb E k n a + k n * at0 E n a = _
      by_cases e : n = a
      · subst e
        rw [lo n (Nat.le_refl _)]
        omega
      · rw [ih (by omega), up n a (by omega)]
        omega
  exact ⟨k a, by rw [hk, all w (by omega)]⟩
/-- rows in steps that are positive at their beginning and reduced are the normal rows of their sums -/
theorem piv_of {w : Nat} {E : Nat → Option Row} (h : Ech w E) (pos : ∀ a r, E a = some r → 0 < r a) (red : ∀ a b, a < b → b < w → ∀ r s, E a = some r → E b = some s → 0 ≤ r b ∧ r b < s b) (out : ∀ a r, E a = some r → ∀ j, w ≤ j → r j = 0) : Piv (Sm (Of w E)) w E := by
  refine ⟨fun a ha r hr => ⟨.of ⟨a, ha, hr⟩, (h.z a r hr).1, pos a r hr, fun v hv hz => ?_⟩, fun a ha hn v hv hz => ?_, red, out⟩
  · obtain ⟨t, ht⟩ := ech_col h hv ha hz
    rw [ht]
    unfold at0
    rw [hr]
    exact ⟨t, Int.mul_comm _ _⟩
  · obtain ⟨t, ht⟩ := ech_col h hv ha hz
    rw [ht]
    unfold at0
    rw [hn]
    simp
end Hm
namespace Hm
def Or' (A B : Row → Prop) : Row → Prop := fun r => A r ∨ B r
/-- one column after the other: E has the rows of the columns before a, R the rest -/
structure Col (w a : Nat) (L : Row → Prop) (E : Nat → Option Row) (R : Row → Prop) : Prop where
  le : a ≤ w
  no : ∀ c, a ≤ c → E c = none
  ech : Ech w E
  pos : ∀ c r, E c = some r → 0 < r c
  red : ∀ b c, b < c → c < w → ∀ r s, E b = some r → E c = some s → 0 ≤ r c ∧ r c < s c
  out : ∀ c r, E c = some r → ∀ j, w ≤ j → r j = 0
  low : ∀ r, R r → ∀ j, j < a → r j = 0
  rout : ∀ r, R r → ∀ j, w ≤ j → r j = 0
  sums : ∀ v, L v ↔ Sm (Or' (Of w E) R) v
theorem sm_low {R : Row → Prop} {j : Nat} (h : ∀ r, R r → r j = 0) {v : Row} (hv : Sm R v) : v j = 0 := by
  induction hv with
  | zero => rfl
  | step t _ hr ih =>
    show _ - t * _ = 0
    rw [ih, h _ hr]
    simp
theorem col_start {w : Nat} {R : Row → Prop} (h : ∀ r, R r → ∀ j, w ≤ j → r j = 0) : Col w 0 (Sm R) (fun _ => none) R := by
  refine ⟨Nat.zero_le _, fun _ _ => rfl, ⟨fun a r h => (nomatch h)⟩, fun c r h => (nomatch h), fun b c _ _ r s h => (nomatch h), fun c r h => (nomatch h), fun r _ j hj => by omega, h, fun v => ⟨?_, ?_⟩⟩
  · exact Sm.mono fun r hr => .of (.inr hr)
  · refine Sm.mono fun r hr => ?_
    rcases hr with ⟨a, _, h⟩ | hr
    · cases h
    · exact .of hr
/-- no row begins in the column -/
theorem Col.none {w a : Nat} {L : Row → Prop} {E : Nat → Option Row} {R C : Row → Prop} (h : Col w a L E R) (ha : a < w) (hC : ∀ r, C r → r a = 0) (h1 : ∀ r, C r → Sm R r) (h2 : ∀ r, R r → Sm C r) : Col w (a + 1) L E C := by
  have lowC : ∀ r, C r → ∀ j, j < a → r j = 0 := fun r hr j hj => sm_low (fun x hx => h.low x hx j hj) (h1 r hr)
  refine ⟨ha, fun c hc => h.no c (by omega), h.ech, h.pos, h.red, h.out, fun r hr j hj => ?_, fun r hr j hj => sm_low (fun x hx => h.rout x hx j hj) (h1 r hr), fun v => (h.sums v).trans ⟨?_, ?_⟩⟩
  · by_cases e : j = a
    · rw [e]
      exact hC r hr
    · exact lowC r hr j (by omega)
  · refine Sm.mono fun r hr => ?_
    rcases hr with hr | hr
    · exact .of (.inl hr)
    · exact (h2 r hr).mono fun x hx => .of (.inr hx)
  · refine Sm.mono fun r hr => ?_
    rcases hr with hr | hr
    · exact .of (.inl hr)
    · exact (h1 r hr).mono fun x hx => .of (.inr hx)
def redE (E : Nat → Option Row) (a : Nat) (l : Row) : Nat → Option Row := fun c => if c = a then some l else (E c).map fun r => ls r l (r a / l a)
theorem ls_back (r l : Row) (t : Int) : ls (ls r l t) l (-t) = r := by
  funext j
  show r j - t * l j - -t * l j = r j
  rw [Int.neg_mul]
  omega
/-- the row l begins in the column -/
theorem Col.some {w a : Nat} {L : Row → Prop} {E : Nat → Option Row} {R C : Row → Prop} {l : Row} (h : Col w a L E R) (ha : a < w) (hl : 0 < l a) (hC : ∀ r, C r → r a = 0) (hlR : Sm R l) (h1 : ∀ r, C r → Sm R r) (h2 : ∀ r, R r → Sm (Or' (fun x => x = l) C) r) : Col w (a + 1) L (redE E a l) C := by
  have lowC : ∀ r, C r → ∀ j, j < a → r j = 0 := fun r hr j hj => sm_low (fun x hx => h.low x hx j hj) (h1 r hr)
  have lowl : ∀ j, j < a → l j = 0 := fun j hj => sm_low (fun x hx => h.low x hx j hj) hlR
  have outl : ∀ j, w ≤ j → l j = 0 := fun j hj => sm_low (fun x hx => h.rout x hx j hj) hlR
  -- what stands in redE
  have ca : ∀ c r, redE E a l c = .some r → (c = a ∧ r = l) ∨ (c < a ∧ ∃ r0, E c = .some r0 ∧ r = ls r0 l (r0 a / l a)) := by
    intro c r hc
    unfold redE at hc
    by_cases e : c = a
    · rw [if_pos e] at hc
      injection hc with hc
      exact .inl ⟨e, hc.symm⟩
    · rw [if_neg e] at hc
      cases hE : E c with
      | none => rw [hE] at hc; cases hc
      | some r0 =>
        rw [hE] at hc
        injection hc with hc
        refine .inr ⟨?_, r0, rfl, hc.symm⟩
        by_cases g : c < a
        · exact g
        · have := h.no c (by omega)
          rw [hE] at this
          cases this
  have same : ∀ (r0 : Row) (q : Int) j, j < a → ls r0 l q j = r0 j := fun r0 q j hj => by
    show r0 j - q * l j = r0 j
    rw [lowl j hj]
    omega
  have rem : ∀ r0 : Row, ls r0 l (r0 a / l a) a = r0 a % l a := fun r0 => by
    show r0 a - r0 a / l a * l a = _
    rw [Int.emod_def, Int.mul_comm]
  refine ⟨ha, fun c hc => ?_, ⟨fun c r hc => ?_⟩, fun c r hc => ?_, fun b c hbc hcw r s hb hc => ?_, fun c r hc j hj => ?_, fun r hr j hj => ?_, fun r hr j hj => sm_low (fun x hx => h.rout x hx j hj) (h1 r hr), fun v => (h.sums v).trans ⟨?_, ?_⟩⟩
  · unfold redE
    rw [if_neg (by omega), h.no c (by omega)]
    rfl
  · rcases ca c r hc with ⟨rfl, rfl⟩ | ⟨hca, r0, h0, rfl⟩
    · exact ⟨lowl, by omega⟩
    · obtain ⟨z1, z2⟩ := h.ech.z c r0 h0
      refine ⟨fun j hj => ?_, ?_⟩
      · rw [same r0 _ j (by omega)]
        exact z1 j hj
      · rw [same r0 _ c hca]
        exact z2
  · rcases ca c r hc with ⟨rfl, rfl⟩ | ⟨hca, r0, h0, rfl⟩
    · exact hl
    · rw [same r0 _ c hca]
      exact h.pos c r0 h0
  · rcases ca c s hc with ⟨rfl, rfl⟩ | ⟨hca, s0, g0, rfl⟩
    · rcases ca b r hb with ⟨rfl, _⟩ | ⟨_, r0, h0, rfl⟩
      · omega
      · rw [rem r0]
        exact ⟨Int.emod_nonneg _ (by omega), Int.emod_lt_of_pos _ hl⟩
    · rcases ca b r hb with ⟨rfl, _⟩ | ⟨_, r0, h0, rfl⟩
      · omega
      · rw [same r0 _ c hca, same s0 _ c hca]
        exact h.red b c hbc hcw r0 s0 h0 g0
  · rcases ca c r hc with ⟨rfl, rfl⟩ | ⟨hca, r0, h0, rfl⟩
    · exact outl j hj
    · show r0 j - _ * l j = 0
      rw [outl j hj, h.out c r0 h0 j hj]
      simp
  · by_cases e : j = a
    · rw [e]
      exact hC r hr
    · exact lowC r hr j (by omega)
  · have inl : Sm (Or' (Of w (redE E a l)) C) l := .of (.inl ⟨a, ha, by unfold redE; rw [if_pos rfl]⟩)
    refine Sm.mono fun r hr => ?_
    rcases hr with ⟨c, hcw, hE⟩ | hr
    · have hca : c < a := by
        by_cases g : c < a
        · exact g
        · have := h.no c (by omega)
          rw [hE] at this
          cases this
      have z : Sm (Or' (Of w (redE E a l)) C) (ls r l (r a / l a)) := .of (.inl ⟨c, hcw, by unfold redE; rw [if_neg (by omega), hE]; rfl⟩)
      have z2 := z.ls inl (-(r a / l a))
      rw [ls_back] at z2
      exact z2
    · refine (h2 r hr).mono fun x hx => ?_
      rcases hx with rfl | hx
      · exact inl
      · exact .of (.inr hx)
  · have inl : Sm (Or' (Of w E) R) l := hlR.mono fun x hx => .of (.inr hx)
    refine Sm.mono fun r hr => ?_
    rcases hr with ⟨c, hcw, hE⟩ | hr
    · rcases ca c r hE with ⟨rfl, rfl⟩ | ⟨hca, r0, h0, rfl⟩
      · exact inl
      · exact (Sm.of (R := Or' (Of w E) R) (.inl ⟨c, hcw, h0⟩)).ls inl _
    · exact (h1 r hr).mono fun x hx => .of (.inr hx)
/-- behind the last column -/
theorem Col.piv {w : Nat} {L : Row → Prop} {E : Nat → Option Row} {R : Row → Prop} (h : Col w w L E R) : Piv L w E := by
  have e : L = Sm (Of w E) := by
    funext v
    refine propext ((h.sums v).trans ⟨?_, ?_⟩)
    · refine Sm.mono fun r hr => ?_
      rcases hr with hr | hr
      · exact .of hr
      · have : r = fun _ => 0 := by
          funext j
          by_cases hj : j < w
          · exact h.low r hr j hj
          · exact h.rout r hr j (by omega)
        rw [this]
        exact .zero
    · exact Sm.mono fun r hr => .of (.inl hr)
  rw [e]
  exact piv_of h.ech h.pos h.red h.out
/-- two ways to the normal rows of the same sums -/
theorem Col.same {w : Nat} {R R0 R' : Row → Prop} {E E' : Nat → Option Row} (h : Col w w (Sm R0) E R) (g : Col w w (Sm R0) E' R') {a : Nat} (ha : a < w) : E a = E' a := h.piv.unique (fun _ _ hv hu => hv.ls hu 1) g.piv ha
end Hm
namespace Hm
/-! the way of putting in one row at a time -/
def put (F : Nat → Option Row) (a : Nat) (r : Row) : Nat → Option Row := fun c => if c = a then some r else F c
theorem put_at (F : Nat → Option Row) (a : Nat) (r : Row) : put F a r a = some r := if_pos rfl
theorem put_ne {F : Nat → Option Row} {a c : Nat} {r : Row} (h : c ≠ a) : put F a r c = F c := if_neg h
/-- a row begins in a column -/
def Beg (r : Row) (a : Nat) : Prop := (∀ j, j < a → r j = 0) ∧ r a ≠ 0
theorem ech_put {w : Nat} {F : Nat → Option Row} (h : Ech w F) {a : Nat} {r : Row} (hr : Beg r a) : Ech w (put F a r) := by
  refine ⟨fun c s hs => ?_⟩
  by_cases e : c = a
  · subst e
    rw [put_at] at hs
    injection hs with hs
    subst hs
    exact hr
  · rw [put_ne e] at hs
    exact h.z c s hs
theorem of_put {w : Nat} {F : Nat → Option Row} {a : Nat} {r x : Row} (ha : a < w) : Of w (put F a r) x ↔ x = r ∨ ∃ c, c < w ∧ c ≠ a ∧ F c = some x := by
  constructor
  · rintro ⟨c, hc, h⟩
    by_cases e : c = a
    · rw [e, put_at] at h
      injection h with h
      exact .inl h.symm
    · rw [put_ne e] at h
      exact .inr ⟨c, hc, e, h⟩
  · rintro (rfl | ⟨c, hc, e, h⟩)
    · exact ⟨a, ha, put_at _ _ _⟩
    · exact ⟨c, hc, by rw [put_ne e]; exact h⟩
/-- the same sums -/
def Eqs (A B : Row → Prop) : Prop := ∀ v, Sm A v ↔ Sm B v
theorem Eqs.by {A B : Row → Prop} (h1 : ∀ r, A r → Sm B r) (h2 : ∀ r, B r → Sm A r) : Eqs A B := fun v => ⟨Sm.mono h1, Sm.mono h2⟩
theorem Eqs.trans {A B C : Row → Prop} (h1 : Eqs A B) (h2 : Eqs B C) : Eqs A C := fun v => (h1 v).trans (h2 v)
def In (ts : List Row) : Row → Prop := fun r => r ∈ ts
/-- a row of zeros is left out -/
theorem drop_zero {A : Row → Prop} {r : Row} {ts : List Row} (h : ∀ j, r j = 0) : Eqs (Or' A (In (r :: ts))) (Or' A (In ts)) := by
  refine .by (fun x hx => ?_) (fun x hx => ?_)
  · rcases hx with hx | hx
    · exact .of (.inl hx)
    · rcases List.mem_cons.mp hx with rfl | hx
      · rw [show x = fun _ => 0 from funext h]
        exact .zero
      · exact .of (.inr hx)
  · rcases hx with hx | hx
    · exact .of (.inl hx)
    · exact .of (.inr (List.mem_cons_of_mem _ hx))
/-- a row is kept in an empty column -/
theorem keep_row {w : Nat} {F : Nat → Option Row} {a : Nat} {r : Row} {ts : List Row} (ha : a < w) (hF : F a = none) : Eqs (Or' (Of w F) (In (r :: ts))) (Or' (Of w (put F a r)) (In ts)) := by
  refine .by (fun x hx => ?_) (fun x hx => ?_)
  · rcases hx with ⟨c, hc, h⟩ | hx
    · refine .of (.inl ((of_put ha).mpr (.inr ⟨c, hc, fun e => ?_, h⟩)))
      rw [e, hF] at h
      cases h
    · rcases List.mem_cons.mp hx with rfl | hx
      · exact .of (.inl ((of_put ha).mpr (.inl rfl)))
      · exact .of (.inr hx)
  · rcases hx with hx | hx
    · rcases (of_put ha).mp hx with rfl | ⟨c, hc, _, h⟩
      · exact .of (.inr List.mem_cons_self)
      · exact .of (.inl ⟨c, hc, h⟩)
    · exact .of (.inr (List.mem_cons_of_mem _ hx))
/-- a row and the one that is kept change places -/
theorem swap_row {w : Nat} {F : Nat → Option Row} {a : Nat} {r s : Row} {ts : List Row} (ha : a < w) (hF : F a = some s) : Eqs (Or' (Of w F) (In (r :: ts))) (Or' (Of w (put F a r)) (In (s :: ts))) := by
  refine .by (fun x hx => ?_) (fun x hx => ?_)
  · rcases hx with ⟨c, hc, h⟩ | hx
    · by_cases e : c = a
      · rw [e, hF] at h
        injection h with h
        rw [← h]
        exact .of (.inr List.mem_cons_self)
      · exact .of (.inl ((of_put ha).mpr (.inr ⟨c, hc, e, h⟩)))
    · rcases List.mem_cons.mp hx with rfl | hx
      · exact .of (.inl ((of_put ha).mpr (.inl rfl)))
      · exact .of (.inr (List.mem_cons_of_mem _ hx))
  · rcases hx with hx | hx
    · rcases (of_put ha).mp hx with rfl | ⟨c, hc, _, h⟩
      · exact .of (.inr List.mem_cons_self)
      · exact .of (.inl ⟨c, hc, h⟩)
    · rcases List.mem_cons.mp hx with rfl | hx
      · exact .of (.inl ⟨a, ha, hF⟩)
      · exact .of (.inr (List.mem_cons_of_mem _ hx))
/-- a row is reduced by one that is kept -/
theorem less_row {w : Nat} {F : Nat → Option Row} {a : Nat} {r s : Row} {ts : List Row} (ha : a < w) (hF : F a = some s) (t : Int) : Eqs (Or' (Of w F) (In (r :: ts))) (Or' (Of w F) (In (ls r s t :: ts))) := by
  refine .by (fun x hx => ?_) (fun x hx => ?_)
  · rcases hx with hx | hx
    · exact .of (.inl hx)
    · rcases List.mem_cons.mp hx with rfl | hx
      · have z := (Sm.of (R := Or' (Of w F) (In (ls x s t :: ts))) (.inr List.mem_cons_self)).ls (.of (.inl ⟨a, ha, hF⟩)) (-t)
        rw [ls_back] at z
        exact z
      · exact .of (.inr (List.mem_cons_of_mem _ hx))
  · rcases hx with hx | hx
    · exact .of (.inl hx)
    · rcases List.mem_cons.mp hx with rfl | hx
      · exact (Sm.of (R := Or' (Of w F) (In (r :: ts))) (.inr List.mem_cons_self)).ls (.of (.inl ⟨a, ha, hF⟩)) t
      · exact .of (.inr (List.mem_cons_of_mem _ hx))
/-! from rows in steps to normal rows -/
def Fro (w : Nat) (F : Nat → Option Row) (a : Nat) : Row → Prop := fun r => ∃ c, a ≤ c ∧ c < w ∧ F c = some r
def neg (r : Row) : Row := fun j => -1 * r j
def sgd (r : Row) (a : Nat) : Row := if 0 < r a then r else neg r
def nxt (F : Nat → Option Row) (a : Nat) (E : Nat → Option Row) : Nat → Option Row := match F a with
  | none => E
  | some r => redE E a (sgd r a)
theorem sm_neg {R : Row → Prop} {r : Row} (h : Sm R r) : Sm R (neg r) := by
  have z := Sm.zero.ls h 1
  have e : ls (fun _ => 0) r 1 = neg r := by
    funext j
    show 0 - 1 * r j = -1 * r j
    omega
  rw [e] at z
  exact z
theorem neg_neg (r : Row) : neg (neg r) = r := by
  funext j
  show -1 * (-1 * r j) = r j
  omega
theorem col_fro {w : Nat} {F : Nat → Option Row} (hF : Ech w F) {a : Nat} {L : Row → Prop} {E : Nat → Option Row} (h : Col w a L E (Fro w F a)) (ha : a < w) : Col w (a + 1) L (nxt F a E) (Fro w F (a + 1)) := by
  have z : ∀ r, Fro w F (a + 1) r → r a = 0 := fun r ⟨c, h1, _, h3⟩ => (hF.z c r h3).1 a (by omega)
  have s1 : ∀ r, Fro w F (a + 1) r → Sm (Fro w F a) r := fun r ⟨c, h1, h2, h3⟩ => .of ⟨c, by omega, h2, h3⟩
  unfold nxt
  cases hE : F a with
  | none =>
    refine h.none ha z s1 fun r ⟨c, h1, h2, h3⟩ => .of ⟨c, ?_, h2, h3⟩
    by_cases e : c = a
    · rw [e, hE] at h3
      cases h3
    · omega
  | some r =>
    have hr := (hF.z a r hE).2
    have inr' : Sm (Fro w F a) r := .of ⟨a, Nat.le_refl _, ha, hE⟩
    have sg : sgd r a = r ∨ sgd r a = neg r := by
      unfold sgd
      split
      · exact .inl rfl
      · exact .inr rfl
    refine h.some ha ?_ z ?_ s1 fun x ⟨c, h1, h2, h3⟩ => ?_
    · unfold sgd
      split
      · assumption
      · show 0 < -1 * r a
        omega
    · rcases sg with e | e
      · rw [e]
        exact inr'
      · rw [e]
        exact sm_neg inr'
    · by_cases e : c = a
      · rw [e, hE] at h3
        injection h3 with h3
        subst h3
        have y : Sm (Or' (fun x => x = sgd r a) (Fro w F (a + 1))) (sgd r a) := .of (.inl rfl)
        rcases sg with e | e
        · rw [e] at y ⊢
          exact y
        · have y2 := sm_neg y
          rw [e, neg_neg] at y2
          rw [e]
          exact y2
      · exact .of (.inr ⟨c, by omega, h2, h3⟩)
def nrm (F : Nat → Option Row) : Nat → Nat → Option Row
  | 0 => fun _ => none
  | a + 1 => nxt F a (nrm F a)
theorem col_nrm {w : Nat} {F : Nat → Option Row} (hF : Ech w F) (out : ∀ c r, F c = some r → ∀ j, w ≤ j → r j = 0) : ∀ a, a ≤ w → Col w a (Sm (Of w F)) (nrm F a) (Fro w F a)
  | 0, _ => by
    have e : Fro w F 0 = Of w F := by
      funext r
      refine propext ⟨fun ⟨c, _, h2, h3⟩ => ⟨c, h2, h3⟩, fun ⟨c, h2, h3⟩ => ⟨c, Nat.zero_le _, h2, h3⟩⟩
    rw [e]
    exact col_start fun r ⟨c, _, h⟩ => out c r h
  | a + 1, h => col_fro hF (col_nrm hF out a (by omega)) h
end Hm
namespace Hm
/-! the way of sweeping a column: all rows are reduced by the least one, round by round -/
def zro (a : Nat) (rs : List Row) : List Row := rs.filter fun r => decide (r a = 0)
def nzr (a : Nat) (rs : List Row) : List Row := rs.filter fun r => decide (r a ≠ 0)
theorem mem_zn {a : Nat} {rs : List Row} {r : Row} : r ∈ rs ↔ r ∈ zro a rs ∨ r ∈ nzr a rs := by
  unfold zro nzr
  rw [List.mem_filter, List.mem_filter]
  by_cases h : r a = 0
  · simp [h]
  · simp [h]
theorem Eqs.refl (A : Row → Prop) : Eqs A A := fun _ => Iff.rfl
theorem Eqs.symm {A B : Row → Prop} (h : Eqs A B) : Eqs B A := fun v => (h v).symm
theorem eqs_in {A B : List Row} (h : ∀ r, r ∈ A ↔ r ∈ B) : Eqs (In A) (In B) := .by (fun r hr => .of ((h r).mp hr)) (fun r hr => .of ((h r).mpr hr))
/-- the beginning: rows without and with a zero -/
theorem sweep0 (a : Nat) (rs : List Row) : Eqs (In rs) (In (zro a rs ++ nzr a rs)) := eqs_in fun r => by
  rw [List.mem_append]
  exact mem_zn
/-- a round -/
theorem sweep1 (a : Nat) (cl os : List Row) (l : Row) (q : Row → Int) : Eqs (In (cl ++ l :: os)) (In ((cl ++ zro a (os.map fun r => ls r l (q r))) ++ l :: nzr a (os.map fun r => ls r l (q r)))) := by
  have mv : ∀ x, x ∈ (os.map fun r => ls r l (q r)) → x ∈ ((cl ++ zro a (os.map fun r => ls r l (q r))) ++ l :: nzr a (os.map fun r => ls r l (q r))) := by
    intro x hx
    rcases (mem_zn (a := a)).mp hx with h | h
    · exact List.mem_append_left _ (List.mem_append_right _ h)
    · exact List.mem_append_right _ (List.mem_cons_of_mem _ h)
  have ml : In ((cl ++ zro a (os.map fun r => ls r l (q r))) ++ l :: nzr a (os.map fun r => ls r l (q r))) l := List.mem_append_right _ List.mem_cons_self
  refine .by (fun x hx => ?_) (fun x hx => ?_)
  · rcases List.mem_append.mp hx with hx | hx
    · exact .of (List.mem_append_left _ (List.mem_append_left _ hx))
    · rcases List.mem_cons.mp hx with rfl | hx
      · exact .of ml
      · have z := (Sm.of (mv _ (List.mem_map.mpr ⟨x, hx, rfl⟩))).ls (.of ml) (-(q x))
        rw [ls_back] at z
        exact z
  · have il : In (cl ++ l :: os) l := List.mem_append_right _ List.mem_cons_self
    have im : ∀ y, y ∈ (os.map fun r => ls r l (q r)) → Sm (In (cl ++ l :: os)) y := by
      intro y hy
      obtain ⟨r, hr, rfl⟩ := List.mem_map.mp hy
      exact (Sm.of (R := In (cl ++ l :: os)) (List.mem_append_right _ (List.mem_cons_of_mem _ hr))).ls (.of il) _
    rcases List.mem_append.mp hx with hx | hx
    · rcases List.mem_append.mp hx with hx | hx
      · exact .of (List.mem_append_left _ hx)
      · exact im x ((mem_zn (a := a)).mpr (.inl hx))
    · rcases List.mem_cons.mp hx with rfl | hx
      · exact .of il
      · exact im x ((mem_zn (a := a)).mpr (.inr hx))
/-- what is left of a column: nothing or one row, and rows with a zero there -/
def Swp (a : Nat) (R : List Row) (l : Option Row) (C : List Row) : Prop := (∀ r ∈ C, r a = 0) ∧ match l with
  | none => Eqs (In R) (In C)
  | some l => 0 < l a ∧ Eqs (In R) (In (l :: C))
theorem swp_none {a : Nat} {R C : List Row} (h : Eqs (In R) (In (C ++ []))) (hC : ∀ r ∈ C, r a = 0) : Swp a R none C := by
  rw [List.append_nil] at h
  exact ⟨hC, h⟩
theorem swp_one {a : Nat} {R C : List Row} {r : Row} (h : Eqs (In R) (In (C ++ [r]))) (hC : ∀ r ∈ C, r a = 0) (hr : r a ≠ 0) : Swp a R (some (sgd r a)) C := by
  refine ⟨hC, ?_, h.trans (.by (fun x hx => ?_) (fun x hx => ?_))⟩
  · unfold sgd
    split
    · assumption
    · show 0 < -1 * r a
      omega
  · rcases List.mem_append.mp hx with hx | hx
    · exact .of (List.mem_cons_of_mem _ hx)
    · obtain rfl := List.mem_singleton.mp hx
      have y : Sm (In (sgd x a :: C)) (sgd x a) := .of List.mem_cons_self
      unfold sgd at y ⊢
      split
      · rename_i h0
        rw [if_pos h0] at y
        exact y
      · rename_i h0
        rw [if_neg h0] at y
        have y2 := sm_neg y
        rw [neg_neg] at y2
        exact y2
  · rcases List.mem_cons.mp hx with rfl | hx
    · have y : Sm (In (C ++ [r])) r := .of (List.mem_append_right _ List.mem_cons_self)
      unfold sgd
      split
      · exact y
      · exact sm_neg y
    · exact .of (List.mem_append_left _ hx)
/-- what stands behind the column -/
def nxs (l : Option Row) (a : Nat) (E : Nat → Option Row) : Nat → Option Row := match l with
  | none => E
  | some l => redE E a l
theorem Col.swp {w a : Nat} {L : Row → Prop} {E : Nat → Option Row} {R C : List Row} {l : Option Row} (h : Col w a L E (In R)) (ha : a < w) (s : Swp a R l C) : Col w (a + 1) L (nxs l a E) (In C) := by
  obtain ⟨hC, hs⟩ := s
  cases l with
  | none => exact h.none ha hC (fun r hr => (hs r).mpr (.of hr)) (fun r hr => (hs r).mp (.of hr))
  | some l =>
    obtain ⟨hl, he⟩ := hs
    refine h.some ha hl hC ((he l).mpr (.of List.mem_cons_self)) (fun r hr => (he r).mpr (.of (List.mem_cons_of_mem _ hr))) (fun r hr => ((he r).mp (.of hr)).mono fun x hx => ?_)
    rcases List.mem_cons.mp hx with rfl | hx
    · exact .of (.inl rfl)
    · exact .of (.inr hx)
/-! lists of numbers as rows -/
def fn (r : List Int) : Row := fun j => r.getD j 0
theorem fn_out {w : Nat} {r : List Int} (h : r.length = w) : ∀ j, w ≤ j → fn r j = 0 := fun j hj => by
  unfold fn
  rw [List.getD_eq_getElem?_getD, List.getElem?_eq_none (by omega)]
  rfl
theorem fn_inj {r s : List Int} (hl : r.length = s.length) (h : fn r = fn s) : r = s := by
  refine List.ext_getElem? fun i => ?_
  have e := congrFun h i
  unfold fn at e
  rw [List.getD_eq_getElem?_getD, List.getD_eq_getElem?_getD] at e
  by_cases hi : i < r.length
  · rw [List.getElem?_eq_getElem hi, List.getElem?_eq_getElem (by omega)] at e ⊢
    exact congrArg some e
  · rw [List.getElem?_eq_none (by omega), List.getElem?_eq_none (by omega)]
/-- a row less a multiple of another one -/
def lsl (r o : List Int) (t : Int) : List Int := List.zipWith (fun x y => x - t * y) r o
theorem lsl_len {r o : List Int} {w : Nat} (hr : r.length = w) (ho : o.length = w) (t : Int) : (lsl r o t).length = w := by
  unfold lsl
  rw [List.length_zipWith]
  omega
theorem fn_lsl {r o : List Int} (h : r.length = o.length) (t : Int) : fn (lsl r o t) = ls (fn r) (fn o) t := by
  funext j
  show (lsl r o t).getD j 0 = r.getD j 0 - t * o.getD j 0
  unfold lsl
  rw [List.getD_eq_getElem?_getD, List.getD_eq_getElem?_getD, List.getD_eq_getElem?_getD, List.getElem?_zipWith]
  by_cases hj : j < r.length
  · rw [List.getElem?_eq_getElem hj, List.getElem?_eq_getElem (by omega)]
    rfl
  · rw [List.getElem?_eq_none (by omega), List.getElem?_eq_none (by omega)]
    simp
end Hm
namespace Hm
/-! the same with lists of numbers -/
def Gok (w : Nat) (G : Nat → Option (List Int)) : Prop := ∀ c r, G c = some r → r.length = w
def ofG (G : Nat → Option (List Int)) : Nat → Option Row := fun c => (G c).map fn
def redL (a : Nat) (l r : List Int) : List Int := lsl r l (r.getD a 0 / l.getD a 0)
def redG (G : Nat → Option (List Int)) (a : Nat) (l : List Int) : Nat → Option (List Int) := fun c => if c = a then some l else (G c).map (redL a l)
def nxG (G : Nat → Option (List Int)) (a : Nat) : Option (List Int) → Nat → Option (List Int)
  | none => G
  | some l => redG G a l
theorem redG_ok {w : Nat} {G : Nat → Option (List Int)} (h : Gok w G) {l : List Int} (hl : l.length = w) (a : Nat) : Gok w (redG G a l) := by
  intro c r hc
  unfold redG at hc
  by_cases e : c = a
  · rw [if_pos e] at hc
    injection hc with hc
    rw [← hc]
    exact hl
  · rw [if_neg e] at hc
    cases hG : G c with
    | none => rw [hG] at hc; cases hc
    | some r0 =>
      rw [hG] at hc
      injection hc with hc
      rw [← hc]
      exact lsl_len (h c r0 hG) hl _
theorem ofG_red {w : Nat} {G : Nat → Option (List Int)} (h : Gok w G) {l : List Int} (hl : l.length = w) (a : Nat) : ofG (redG G a l) = redE (ofG G) a (fn l) := by
  funext c
  unfold ofG redG redE
  by_cases e : c = a
  · rw [if_pos e, if_pos e]
    rfl
  · rw [if_neg e, if_neg e]
    dsimp only
    cases hG : G c with
    | none => rfl
    | some r =>
      show some (fn (redL a l r)) = some (ls (fn r) (fn l) (fn r a / fn l a))
      unfold redL
      rw [fn_lsl (by rw [h c r hG, hl])]
      rfl
theorem nxG_of {w : Nat} {G : Nat → Option (List Int)} (h : Gok w G) {l : Option (List Int)} (hl : ∀ r, l = some r → r.length = w) (a : Nat) : ofG (nxG G a l) = nxs (l.map fn) a (ofG G) ∧ Gok w (nxG G a l) := by
  cases l with
  | none => exact ⟨rfl, h⟩
  | some l => exact ⟨ofG_red h (hl l rfl) a, redG_ok h (hl l rfl) a⟩
theorem fm_congr {α β : Type} {f g : α → Option β} : ∀ {l : List α}, (∀ x ∈ l, f x = g x) → l.filterMap f = l.filterMap g
  | [], _ => rfl
  | x :: r, h => by
    rw [List.filterMap_cons, List.filterMap_cons, h x List.mem_cons_self, fm_congr fun y hy => h y (List.mem_cons_of_mem _ hy)]
/-- the rows of the columns before a, as a list -/
def lis (G : Nat → Option (List Int)) (a : Nat) : List (List Int) := (List.range a).filterMap G
theorem lis_red {G : Nat → Option (List Int)} {a : Nat} {l : List Int} : lis (redG G a l) (a + 1) = (lis G a).map (redL a l) ++ [l] := by
  unfold lis
  rw [List.range_succ, List.filterMap_append]
  have e1 : (List.range a).filterMap (redG G a l) = ((List.range a).filterMap G).map (redL a l) := by
    rw [List.map_filterMap]
    refine fm_congr fun c hc => ?_
    have : c < a := List.mem_range.mp hc
    unfold redG
    rw [if_neg (by omega)]
  rw [e1]
  congr 1
  simp [redG]
theorem lis_none {G : Nat → Option (List Int)} {a : Nat} (h : G a = none) : lis G (a + 1) = lis G a := by
  unfold lis
  rw [List.range_succ, List.filterMap_append]
  simp [h]
theorem lis_same {w : Nat} {G G' : Nat → Option (List Int)} (h : Gok w G) (h' : Gok w G') (e : ∀ a, a < w → ofG G a = ofG G' a) : lis G w = lis G' w := by
  unfold lis
  refine fm_congr fun c hc => ?_
  have e1 := e c (List.mem_range.mp hc)
  unfold ofG at e1
  cases hG : G c with
  | none =>
    rw [hG] at e1
    cases hG' : G' c with
    | none => rfl
    | some s => rw [hG'] at e1; cases e1
  | some r =>
    rw [hG] at e1
    cases hG' : G' c with
    | none => rw [hG'] at e1; cases e1
    | some s =>
      rw [hG'] at e1
      injection e1 with e1
      rw [fn_inj (by rw [h c r hG, h' c s hG']) e1]
/-- the rows of the table, column by column, with the rest rs -/
structure Nrm (w a : Nat) (rows found rest : List (List Int)) : Prop where
  ex : ∃ G, Gok w G ∧ found = lis G a ∧ Col w a (Sm (In (rows.map fn))) (ofG G) (In (rest.map fn))
theorem nrm_start {w : Nat} {rows : List (List Int)} (h : ∀ r ∈ rows, r.length = w) : Nrm w 0 rows [] rows := by
  refine ⟨fun _ => none, (fun c r hc => nomatch hc), rfl, ?_⟩
  refine col_start fun r hr => ?_
  obtain ⟨x, hx, rfl⟩ := List.mem_map.mp hr
  exact fn_out (h x hx)
theorem nrm_none {w a : Nat} {rows found rest cl : List (List Int)} (h : Nrm w a rows found rest) (ha : a < w) (s : Swp a (rest.map fn) none (cl.map fn)) : Nrm w (a + 1) rows found cl := by
  obtain ⟨G, g1, g2, g3⟩ := h.ex
  have hn : G a = none := by
    have := g3.no a (Nat.le_refl _)
    unfold ofG at this
    cases hG : G a with
    | none => rfl
    | some r => rw [hG] at this; cases this
  exact ⟨G, g1, by rw [lis_none hn]; exact g2, g3.swp ha s⟩
theorem nrm_some {w a : Nat} {rows found rest cl : List (List Int)} {l : List Int} (h : Nrm w a rows found rest) (ha : a < w) (hl : l.length = w) (s : Swp a (rest.map fn) (some (fn l)) (cl.map fn)) : Nrm w (a + 1) rows (found.map (redL a l) ++ [l]) cl := by
  obtain ⟨G, g1, g2, g3⟩ := h.ex
  refine ⟨redG G a l, redG_ok g1 hl a, by rw [lis_red, g2], ?_⟩
  rw [ofG_red g1 hl a]
  exact g3.swp ha s
/-- whatever the ways, and for all rows with the same sums: the normal rows are the same -/
theorem nrm_same {w : Nat} {rows rows' f1 f2 r1 r2 : List (List Int)} (h : Nrm w w rows f1 r1) (g : Nrm w w rows' f2 r2) (e : Eqs (In (rows.map fn)) (In (rows'.map fn))) : f1 = f2 := by
  obtain ⟨G, g1, g2, g3⟩ := h.ex
  obtain ⟨G', k1, k2, k3⟩ := g.ex
  have e2 : Sm (In (rows'.map fn)) = Sm (In (rows.map fn)) := funext fun v => propext (e v).symm
  rw [e2] at k3
  rw [g2, k2]
  exact lis_same g1 k1 fun a ha => g3.same k3 ha
end Hm
namespace Hm
/-! the rounds end: how much stands in a column -/
def mas (a : Nat) (rs : List Row) : Nat := (rs.map fun r => (r a).natAbs).sum
theorem fmod_small {x l : Int} (hl : l ≠ 0) : (x - x.fdiv l * l).natAbs < l.natAbs := by
  have h0 := Int.emod_nonneg x hl
  have h1 := Int.emod_lt x hl
  have e : x / l * l = x - x % l := by
    have := Int.emod_def x l
    rw [Int.mul_comm] at this
    omega
  rw [Int.fdiv_eq_ediv]
  by_cases hc : 0 ≤ l ∨ l ∣ x
  · rw [if_pos hc, Int.sub_zero, e]
    omega
  · rw [if_neg hc, Int.sub_mul, e]
    have h2 : x % l ≠ 0 := fun z => hc (.inr (Int.dvd_of_emod_eq_zero z))
    omega
theorem mas_nzr (a : Nat) : ∀ rs : List Row, mas a (nzr a rs) = mas a rs
  | [] => rfl
  | r :: rs => by
    have ih := mas_nzr a rs
    unfold mas nzr at ih ⊢
    rw [List.filter_cons]
    by_cases h : r a = 0
    · simp [h]
      simpa using ih
    · simp [h]
      simpa using ih
theorem mas_less {a : Nat} {l : Row} (hl : l a ≠ 0) : ∀ os : List Row, (∀ r ∈ os, (l a).natAbs ≤ (r a).natAbs) → mas a (os.map fun r => ls r l ((r a).fdiv (l a))) + os.length ≤ mas a os
  | [], _ => Nat.le_refl _
  | r :: os, h => by
    have ih := mas_less hl os fun x hx => h x (List.mem_cons_of_mem _ hx)
    have h1 := h r List.mem_cons_self
    have h2 : (ls r l ((r a).fdiv (l a)) a).natAbs < (l a).natAbs := fmod_small hl
    unfold mas at ih ⊢
    simp only [List.map_cons, List.sum_cons, List.length_cons, List.map_map] at ih ⊢
    omega
/-- a round takes something away -/
theorem mas_round {a : Nat} {l : Row} {os : List Row} (hl : l a ≠ 0) (h : ∀ r ∈ os, (l a).natAbs ≤ (r a).natAbs) (ho : os ≠ []) : mas a (l :: nzr a (os.map fun r => ls r l ((r a).fdiv (l a)))) < mas a (l :: os) := by
  have h1 := mas_less hl os h
  have h2 := mas_nzr a (os.map fun r => ls r l ((r a).fdiv (l a)))
  have h3 : 0 < os.length := List.length_pos_iff.mpr ho
  have e1 : ∀ rs, mas a (l :: rs) = (l a).natAbs + mas a rs := fun rs => by simp [mas]
  rw [e1, e1, h2]
  omega
end Hm
namespace Hm
/-- a way of steps that goes down has a number of steps -/
theorem steps {S : Type} (f : S → Option S) (r : S → S → Prop) (wf : WellFounded r) (h : ∀ s s', f s = some s' → r s' s) : ∃ n : S → Nat, ∀ s s', f s = some s' → n s' < n s := by
  have one : ∀ s, ∃ k : Nat, ∀ m, k ≤ m → ∃ t : List S, t.length ≤ m ∧ ∀ u, (Nat.repeat (fun o => o.bind f) (m + 1) (some s)) = u → u = none := by
    intro s
    induction s using wf.induction with
    | _ s ih =>
      cases hf : f s with
      | none =>
        refine ⟨0, fun m _ => ⟨[], Nat.zero_le _, fun u hu => ?_⟩⟩
        have z : ∀ n, Nat.repeat (fun o => o.bind f) (n + 1) (some s) = (none : Option S) := by
          intro n
          induction n with
          | zero => exact hf
          | succ n ihn =>
            show (Nat.repeat (fun o => o.bind f) (n + 1) (some s)).bind f = none
            rw [ihn]
            rfl
        rw [← hu]
        exact z m
      | some s' =>
        obtain ⟨k, hk⟩ := ih s' (h s s' hf)
        refine ⟨k + 1, fun m hm => ⟨[], Nat.zero_le _, fun u hu => ?_⟩⟩
        obtain ⟨_, _, e⟩ := hk (m - 1) (by omega)
        have sh : ∀ n, Nat.repeat (fun o => o.bind f) (n + 1) (some s) = Nat.repeat (fun o => o.bind f) n (some s') := by
          intro n
          induction n with
          | zero => exact hf
          | succ n ihn =>
            show (Nat.repeat (fun o => o.bind f) (n + 1) (some s)).bind f = (Nat.repeat (fun o => o.bind f) n (some s')).bind f
            rw [ihn]
        rw [← hu, sh m]
        have := e _ rfl
        rw [show m - 1 + 1 = m by omega] at this
        exact this
  -- the least number of steps
  have ex : ∀ s, ∃ k : Nat, Nat.repeat (fun o => o.bind f) k (some s) = (none : Option S) := fun s => by
    obtain ⟨k, hk⟩ := one s
    obtain ⟨_, _, e⟩ := hk k (Nat.le_refl _)
    exact ⟨k + 1, e _ rfl⟩
  refine ⟨fun s => Classical.choose (least (ex s)), fun s s' hs => ?_⟩
  have c1 := Classical.choose_spec (least (ex s))
  have c2 := Classical.choose_spec (least (ex s'))
  show Classical.choose (least (ex s')) < Classical.choose (least (ex s))
  generalize Classical.choose (least (ex s)) = n at c1 ⊢
  generalize Classical.choose (least (ex s')) = n' at c2 ⊢
  have sh : ∀ m, Nat.repeat (fun o => o.bind f) (m + 1) (some s) = Nat.repeat (fun o => o.bind f) m (some s') := by
    intro m
    induction m with
    | zero => exact hs
    | succ m ihm =>
      show (Nat.repeat (fun o => o.bind f) (m + 1) (some s)).bind f = (Nat.repeat (fun o => o.bind f) m (some s')).bind f
      rw [ihm]
  cases n with
  | zero =>
    have := c1.1
    cases this
  | succ n =>
    have := c1.1
    rw [sh] at this
    have := c2.2 n this
    omega
where
  least {p : Nat → Prop} (h : ∃ k, p k) : ∃ k, p k ∧ ∀ j, p j → k ≤ j := by
    obtain ⟨k, hk⟩ := h
    induction k using Nat.strongRecOn with
    | _ k ih =>
      by_cases g : ∃ j, j < k ∧ p j
      · obtain ⟨j, hj, pj⟩ := g
        exact ih j hj pj
      · exact ⟨k, hk, fun j pj => Nat.le_of_not_lt fun hj => g ⟨j, hj, pj⟩⟩
end Hm
namespace Hm
/-! how great the numbers become when a column is swept -/
/-- numbers of one sign: floor division as with what they are without it -/
theorem same_fdiv {x l : Int} (h : 0 < x * l) : x.fdiv l = ((x.natAbs / l.natAbs : Nat) : Int) ∧ (x - x.fdiv l * l).natAbs = x.natAbs % l.natAbs ∧ 0 ≤ (x - x.fdiv l * l) * l := by
  have pos : ∀ a b : Nat, 0 < b → ((a : Int).fdiv (b : Int) = ((a / b : Nat) : Int)) ∧ ((a : Int) - ((a / b : Nat) : Int) * (b : Int) = ((a % b : Nat) : Int)) := by
    intro a b hb
    refine ⟨by rw [Int.fdiv_eq_ediv_of_nonneg _ (by omega)]; rfl, ?_⟩
    have e := Nat.div_add_mod a b
    have e2 : ((b * (a / b) + a % b : Nat) : Int) = (a : Int) := by rw [e]
    rw [Int.natCast_add, Int.natCast_mul, Int.mul_comm] at e2
    omega
  have hl : l ≠ 0 := fun z => by rw [z, Int.mul_zero] at h; omega
  have hx : x ≠ 0 := fun z => by rw [z, Int.zero_mul] at h; omega
  rcases Int.lt_or_gt_of_ne hl with n | n
  · have nx : x < 0 := by
      rcases Int.lt_or_gt_of_ne hx with m | m
      · exact m
      · have := Int.mul_neg_of_pos_of_neg m n
        omega
    obtain ⟨a, rfl⟩ : ∃ a : Nat, x = -(a : Int) := ⟨x.natAbs, by omega⟩
    obtain ⟨b, rfl⟩ : ∃ b : Nat, l = -(b : Int) := ⟨l.natAbs, by omega⟩
    obtain ⟨p1, p2⟩ := pos a b (by omega)
    rw [Int.neg_fdiv_neg, p1, Int.natAbs_neg, Int.natAbs_neg, Int.natAbs_natCast, Int.natAbs_natCast]
    have e : (-(a : Int) - ((a / b : Nat) : Int) * -(b : Int)) = -((a % b : Nat) : Int) := by
      rw [Int.mul_neg]
      omega
    refine ⟨rfl, by rw [e, Int.natAbs_neg, Int.natAbs_natCast], ?_⟩
    rw [e, Int.neg_mul_neg]
    exact Int.mul_nonneg (Int.natCast_nonneg _) (Int.natCast_nonneg _)
  · have px : 0 < x := by
      rcases Int.lt_or_gt_of_ne hx with m | m
      · have := Int.mul_neg_of_neg_of_pos m n
        omega
      · exact m
    obtain ⟨a, rfl⟩ : ∃ a : Nat, x = (a : Int) := ⟨x.natAbs, by omega⟩
    obtain ⟨b, rfl⟩ : ∃ b : Nat, l = (b : Int) := ⟨l.natAbs, by omega⟩
    obtain ⟨p1, p2⟩ := pos a b (by omega)
    rw [p1, Int.natAbs_natCast, Int.natAbs_natCast]
    refine ⟨rfl, by rw [p2, Int.natAbs_natCast], ?_⟩
    rw [p2]
    exact Int.mul_nonneg (Int.natCast_nonneg _) (Int.natCast_nonneg _)
/-- a rest has the sign of what is divided by -/
theorem rest_sign {x l : Int} (hl : l ≠ 0) : 0 ≤ (x - x.fdiv l * l) * l ∧ (x - x.fdiv l * l).natAbs < l.natAbs ∧ (x.fdiv l).natAbs ≤ x.natAbs + 1 := by
  have h2 := fmod_small (x := x) hl
  have e : x - x.fdiv l * l = x.fmod l := by
    have := Int.fmod_def x l
    rw [Int.mul_comm] at this
    omega
  refine ⟨?_, h2, ?_⟩
  · rw [e]
    rcases Int.lt_or_gt_of_ne hl with n | n
    · have h : x.fmod l ≤ 0 := by
        have h0 := Int.emod_nonneg x hl
        have h1 := Int.emod_lt x hl
        have e5 : x / l * l = x - x % l := by
          have := Int.emod_def x l
          rw [Int.mul_comm] at this
          omega
        rw [← e, Int.fdiv_eq_ediv]
        by_cases hc : 0 ≤ l ∨ l ∣ x
        · rw [if_pos hc, Int.sub_zero, e5]
          have : x % l = 0 := Int.emod_eq_zero_of_dvd (hc.resolve_left (by omega))
          omega
        · rw [if_neg hc, Int.sub_mul, e5]
          omega
      exact Int.mul_nonneg_of_nonpos_of_nonpos h (by omega)
    · exact Int.mul_nonneg (Int.fmod_nonneg_of_pos x n) (by omega)
  · have h3 : (x.fdiv l * l).natAbs ≤ x.natAbs + l.natAbs := by omega
    rw [Int.natAbs_mul] at h3
    have h4 : 0 < l.natAbs := by omega
    generalize (x.fdiv l).natAbs = q at h3 ⊢
    generalize l.natAbs = b at h3 h4
    generalize x.natAbs = a at h3 ⊢
    apply Nat.le_of_not_lt
    intro hq
    have : (a + 1 + 1) * b ≤ q * b := Nat.mul_le_mul_right _ hq
    have e2 : (a + 1 + 1) * b = a * b + b + b := by rw [Nat.succ_mul, Nat.succ_mul]
    have e3 : a ≤ a * b := Nat.le_mul_of_pos_right _ h4
    omega
/-- the first row is the least of the round before; the others are its rests -/
structure Pot (a C M : Nat) (l' : Row) (os : List Row) : Prop where
  nz : l' a ≠ 0
  col : ∀ r, r ∈ l' :: os → ∀ j, a < j → (r j).natAbs ≤ M
  sgn : ∀ r ∈ os, 0 < r a * l' a ∧ (r a).natAbs < (l' a).natAbs
  le : M ≤ C
  pot : os ≠ [] → ∃ r ∈ os, M * (l' a).natAbs * (2 ^ os.length * (l' a).natAbs * (r a).natAbs) ≤ C
theorem sgn_trans {x y z : Int} (h1 : 0 < x * z) (h2 : 0 < y * z) : 0 < x * y := by
  have hz : z ≠ 0 := fun e => by rw [e, Int.mul_zero] at h1; omega
  rcases Int.lt_or_gt_of_ne hz with n | n
  · have a : x < 0 := by
      apply Int.lt_of_not_ge
      intro h
      have := Int.mul_nonpos_of_nonneg_of_nonpos h (Int.le_of_lt n)
      omega
    have b : y < 0 := by
      apply Int.lt_of_not_ge
      intro h
      have := Int.mul_nonpos_of_nonneg_of_nonpos h (Int.le_of_lt n)
      omega
    exact Int.mul_pos_of_neg_of_neg a b
  · have a : 0 < x := by
      apply Int.lt_of_not_ge
      intro h
      have := Int.mul_nonpos_of_nonpos_of_nonneg h (Int.le_of_lt n)
      omega
    have b : 0 < y := by
      apply Int.lt_of_not_ge
      intro h
      have := Int.mul_nonpos_of_nonpos_of_nonneg h (Int.le_of_lt n)
      omega
    exact Int.mul_pos a b
end Hm
namespace Hm
theorem abs_ls {r l : Row} {q : Int} {j M Q : Nat} (hr : (r j).natAbs ≤ M) (hl : (l j).natAbs ≤ M) (hq : q.natAbs ≤ Q) : (ls r l q j).natAbs ≤ M + Q * M := by
  show (r j - q * l j).natAbs ≤ _
  have h1 : (q * l j).natAbs ≤ Q * M := by
    rw [Int.natAbs_mul]
    exact Nat.mul_le_mul hq hl
  omega
theorem half {x l : Nat} (hl : 0 < l) (h : l ≤ x) : 2 * (x % l) ≤ x := by
  have h1 := Nat.mod_lt x hl
  have h2 := Nat.div_add_mod x l
  have h3 : 1 ≤ x / l := (Nat.one_le_div_iff hl).mpr h
  have h4 : l ≤ l * (x / l) := Nat.le_mul_of_pos_right _ h3
  omega
theorem nzr_mem {a : Nat} {rs : List Row} {r : Row} : r ∈ nzr a rs ↔ r ∈ rs ∧ r a ≠ 0 := by
  unfold nzr
  rw [List.mem_filter]
  simp
/-- a round: the greatest number grows, but not the potential -/
theorem pot_round {a C M : Nat} {l' l : Row} {os xs : List Row} (h : Pot a C M l' os) (ho : os ≠ []) (pm : (l :: xs).Perm (l' :: os)) (mn : ∀ r ∈ xs, (l a).natAbs ≤ (r a).natAbs) :
    ∃ M', Pot a C M' l (nzr a (xs.map fun r => ls r l ((r a).fdiv (l a)))) ∧ (∀ r ∈ xs, ∀ j, a < j → (ls r l ((r a).fdiv (l a)) j).natAbs ≤ M') ∧ M ≤ M' := by
  obtain ⟨s0, hs0, hp⟩ := h.pot ho
  have sq : 0 < l' a * l' a := by
    rcases Int.lt_or_gt_of_ne h.nz with n | n
    · exact Int.mul_pos_of_neg_of_neg n n
    · exact Int.mul_pos n n
  have all : ∀ r ∈ l' :: os, 0 < r a * l' a ∧ (r a).natAbs ≤ (l' a).natAbs := by
    intro r hr
    rcases List.mem_cons.mp hr with rfl | hr
    · exact ⟨sq, Nat.le_refl _⟩
    · exact ⟨(h.sgn r hr).1, Nat.le_of_lt (h.sgn r hr).2⟩
  have inx : ∀ r ∈ xs, r ∈ l' :: os := fun r hr => pm.mem_iff.mp (List.mem_cons_of_mem _ hr)
  have hl := all l (pm.mem_iff.mp List.mem_cons_self)
  have lz : l a ≠ 0 := fun z => by
    have := hl.1
    rw [z, Int.zero_mul] at this
    omega
  have l0 : 0 < (l a).natAbs := by omega
  have ls0 : (l a).natAbs ≤ (s0 a).natAbs := by
    rcases List.mem_cons.mp (pm.mem_iff.mpr (List.mem_cons_of_mem _ hs0)) with e | e
    · rw [e]
      exact Nat.le_refl _
    · exact mn s0 e
  have ll : (l a).natAbs < (l' a).natAbs := Nat.lt_of_le_of_lt ls0 (h.sgn s0 hs0).2
  have l'x : l' ∈ xs := by
    rcases List.mem_cons.mp (pm.mem_iff.mpr (List.mem_cons_self (a := l') (l := os))) with e | e
    · rw [e] at ll
      omega
    · exact e
  have len : xs.length = os.length := by
    have := pm.length_eq
    simpa using this
  have sd : ∀ r ∈ xs, 0 < r a * l a := fun r hr => sgn_trans (all r (inx r hr)).1 hl.1
  have colN : ∀ r ∈ xs, ∀ j, a < j → (ls r l ((r a).fdiv (l a)) j).natAbs ≤ M + (l' a).natAbs / (l a).natAbs * M := by
    intro r hr j hj
    refine abs_ls (h.col r (inx r hr) j hj) (h.col l (pm.mem_iff.mp List.mem_cons_self) j hj) ?_
    rw [(same_fdiv (sd r hr)).1, Int.natAbs_natCast]
    exact Nat.div_le_div_right (all r (inx r hr)).2
  have k1 : (M + (l' a).natAbs / (l a).natAbs * M) * (l a).natAbs ≤ 2 * (M * (l' a).natAbs) := by
    rw [Nat.add_mul, Nat.mul_right_comm]
    have h1 : M * (l a).natAbs ≤ M * (l' a).natAbs := Nat.mul_le_mul_left _ (Nat.le_of_lt ll)
    have h2 : (l' a).natAbs / (l a).natAbs * (l a).natAbs * M ≤ (l' a).natAbs * M := Nat.mul_le_mul_right _ (Nat.div_mul_le_self _ _)
    rw [Nat.mul_comm (l' a).natAbs M] at h2
    omega
  have rst : ∀ r ∈ xs, (ls r l ((r a).fdiv (l a)) a).natAbs = (r a).natAbs % (l a).natAbs := fun r hr => (same_fdiv (sd r hr)).2.1
  have n1 : 1 ≤ os.length := List.length_pos_iff.mpr ho
  have s1 : 1 ≤ (s0 a).natAbs := Nat.le_trans l0 ls0
  refine ⟨M + (l' a).natAbs / (l a).natAbs * M, ⟨lz, ?_, ?_, ?_, ?_⟩, colN, Nat.le_add_right _ _⟩
  · intro r hr j hj
    rcases List.mem_cons.mp hr with rfl | hr
    · exact Nat.le_trans (h.col r (pm.mem_iff.mp List.mem_cons_self) j hj) (Nat.le_add_right _ _)
    · obtain ⟨hm, _⟩ := nzr_mem.mp hr
      obtain ⟨x, hx, rfl⟩ := List.mem_map.mp hm
      exact colN x hx j hj
  · intro r hr
    obtain ⟨hm, hz⟩ := nzr_mem.mp hr
    obtain ⟨x, hx, rfl⟩ := List.mem_map.mp hm
    refine ⟨?_, by rw [rst x hx]; exact Nat.mod_lt _ l0⟩
    have g := (same_fdiv (sd x hx)).2.2
    have g2 : ls x l ((x a).fdiv (l a)) a * l a ≠ 0 := fun z => (Int.mul_eq_zero.mp z).elim hz lz
    have g3 : 0 ≤ ls x l ((x a).fdiv (l a)) a * l a := g
    omega
  · refine Nat.le_trans ?_ hp
    refine Nat.le_trans (Nat.le_mul_of_pos_right _ l0) (Nat.le_trans k1 ?_)
    rw [Nat.mul_comm]
    refine Nat.mul_le_mul_left _ ?_
    have p2 : 2 ≤ 2 ^ os.length := by
      have := Nat.pow_le_pow_right (n := 2) (by omega) n1
      simpa using this
    have l1 : 1 ≤ (l' a).natAbs := by omega
    calc 2 ≤ 2 ^ os.length := p2
      _ ≤ 2 ^ os.length * (l' a).natAbs := Nat.le_mul_of_pos_right _ l1
      _ ≤ _ := Nat.le_mul_of_pos_right _ s1
  · intro hne
    have grow : ∀ (m r0 : Nat), 2 * (2 ^ m * ((l a).natAbs * r0)) ≤ 2 ^ os.length * ((s0 a).natAbs * (l' a).natAbs) → (M + (l' a).natAbs / (l a).natAbs * M) * (l a).natAbs * (2 ^ m * (l a).natAbs * r0) ≤ C := by
      intro m r0 hm
      refine Nat.le_trans (Nat.mul_le_mul_right _ k1) (Nat.le_trans ?_ hp)
      rw [Nat.mul_comm 2, Nat.mul_assoc (M * (l' a).natAbs) 2]
      refine Nat.mul_le_mul_left _ ?_
      rw [Nat.mul_assoc (2 ^ m), Nat.mul_assoc (2 ^ os.length), Nat.mul_comm (l' a).natAbs]
      exact hm
    by_cases hlt : (nzr a (xs.map fun r => ls r l ((r a).fdiv (l a)))).length < os.length
    · obtain ⟨r0, hr0⟩ := List.exists_mem_of_ne_nil _ hne
      refine ⟨r0, hr0, grow _ _ ?_⟩
      obtain ⟨hm, _⟩ := nzr_mem.mp hr0
      obtain ⟨x, hx, rfl⟩ := List.mem_map.mp hm
      have e1 : (ls x l ((x a).fdiv (l a)) a).natAbs ≤ (l' a).natAbs := by
        rw [rst x hx]
        have := Nat.mod_lt (x a).natAbs l0
        omega
      rw [← Nat.mul_assoc, ← Nat.pow_succ']
      exact Nat.mul_le_mul (Nat.pow_le_pow_right (by omega) hlt) (Nat.mul_le_mul ls0 e1)
    · have full : (nzr a (xs.map fun r => ls r l ((r a).fdiv (l a)))).length = os.length := by
        have h1 : (nzr a (xs.map fun r => ls r l ((r a).fdiv (l a)))).length ≤ (xs.map fun r => ls r l ((r a).fdiv (l a))).length := List.length_filter_le _ _
        rw [List.length_map] at h1
        omega
      have none0 : ∀ r ∈ (xs.map fun r => ls r l ((r a).fdiv (l a))), r a ≠ 0 := by
        have e : (nzr a (xs.map fun r => ls r l ((r a).fdiv (l a)))).length = (xs.map fun r => ls r l ((r a).fdiv (l a))).length := by
          rw [List.length_map]
          omega
        intro r hr
        have := List.length_filter_eq_length_iff.mp e r hr
        simpa using this
      have lin : ls l' l ((l' a).fdiv (l a)) ∈ (xs.map fun r => ls r l ((r a).fdiv (l a))) := List.mem_map.mpr ⟨l', l'x, rfl⟩
      refine ⟨ls l' l ((l' a).fdiv (l a)), nzr_mem.mpr ⟨lin, none0 _ lin⟩, grow _ _ ?_⟩
      rw [full, Nat.mul_left_comm]
      refine Nat.mul_le_mul_left _ ?_
      rw [Nat.mul_left_comm, rst l' l'x]
      exact Nat.mul_le_mul ls0 (half l0 (Nat.le_of_lt ll))
end Hm
namespace Hm
/-- the first round: rows of any sign -/
theorem pot_first {a B M : Nat} {l : Row} {xs : List Row} (lz : l a ≠ 0) (hB : ∀ r ∈ l :: xs, (r a).natAbs ≤ B) (hM : ∀ r ∈ l :: xs, ∀ j, a < j → (r j).natAbs ≤ M) :
    Pot a ((M + (B + 1) * M) * B * (2 ^ xs.length * B * B)) (M + (B + 1) * M) l (nzr a (xs.map fun r => ls r l ((r a).fdiv (l a)))) ∧ ∀ r ∈ xs, ∀ j, a < j → (ls r l ((r a).fdiv (l a)) j).natAbs ≤ M + (B + 1) * M := by
  have colN : ∀ r ∈ xs, ∀ j, a < j → (ls r l ((r a).fdiv (l a)) j).natAbs ≤ M + (B + 1) * M := by
    intro r hr j hj
    refine abs_ls (hM r (List.mem_cons_of_mem _ hr) j hj) (hM l List.mem_cons_self j hj) ?_
    have h1 := (rest_sign (x := r a) lz).2.2
    have h2 := hB r (List.mem_cons_of_mem _ hr)
    omega
  have b1 : 1 ≤ B := by
    have := hB l List.mem_cons_self
    omega
  refine ⟨⟨lz, ?_, ?_, ?_, ?_⟩, colN⟩
  · intro r hr j hj
    rcases List.mem_cons.mp hr with rfl | hr
    · exact Nat.le_trans (hM r List.mem_cons_self j hj) (Nat.le_add_right _ _)
    · obtain ⟨hm, _⟩ := nzr_mem.mp hr
      obtain ⟨x, hx, rfl⟩ := List.mem_map.mp hm
      exact colN x hx j hj
  · intro r hr
    obtain ⟨hm, hz⟩ := nzr_mem.mp hr
    obtain ⟨x, hx, rfl⟩ := List.mem_map.mp hm
    obtain ⟨g, g1, _⟩ := rest_sign (x := x a) lz
    refine ⟨?_, g1⟩
    have g2 : ls x l ((x a).fdiv (l a)) a * l a ≠ 0 := fun z => (Int.mul_eq_zero.mp z).elim hz lz
    have g3 : 0 ≤ ls x l ((x a).fdiv (l a)) a * l a := g
    omega
  · have p : 0 < 2 ^ xs.length * B * B := Nat.mul_pos (Nat.mul_pos (Nat.pow_pos (by omega)) b1) b1
    exact Nat.le_trans (Nat.le_mul_of_pos_right _ b1) (Nat.le_mul_of_pos_right _ p)
  · intro hne
    obtain ⟨r0, hr0⟩ := List.exists_mem_of_ne_nil _ hne
    refine ⟨r0, hr0, ?_⟩
    obtain ⟨hm, _⟩ := nzr_mem.mp hr0
    obtain ⟨x, hx, rfl⟩ := List.mem_map.mp hm
    have e0 : (l a).natAbs ≤ B := hB l List.mem_cons_self
    have e1 : (ls x l ((x a).fdiv (l a)) a).natAbs ≤ B := by
      have := (rest_sign (x := x a) lz).2.1
      show (x a - (x a).fdiv (l a) * l a).natAbs ≤ B
      omega
    have e2 : (nzr a (xs.map fun r => ls r l ((r a).fdiv (l a)))).length ≤ xs.length := by
      have h1 : (nzr a (xs.map fun r => ls r l ((r a).fdiv (l a)))).length ≤ (xs.map fun r => ls r l ((r a).fdiv (l a))).length := List.length_filter_le _ _
      rw [List.length_map] at h1
      exact h1
    exact Nat.mul_le_mul (Nat.mul_le_mul_left _ e0) (Nat.mul_le_mul (Nat.mul_le_mul (Nat.pow_le_pow_right (by omega) e2) e0) e1)
/-! the law's way: one row is reduced by the one that is kept -/
/-- what stands crosswise in two rows -/
def crs (a j : Nat) (h r : Row) : Nat := (h j).natAbs * (r a).natAbs + (r j).natAbs * (h a).natAbs
theorem crs_swap (a j : Nat) (h r : Row) : crs a j h r = crs a j r h := Nat.add_comm _ _
/-- the multiple that is taken away: the row's number by the kept one's without its sign, with the kept one's sign -/
def tms (x h : Int) : Int := if 0 < h then x.fdiv (max 1 (h.natAbs : Int)) else -(x.fdiv (max 1 (h.natAbs : Int)))
theorem tms_abs {x h : Int} (hh : h ≠ 0) : (tms x h).natAbs = (x.fdiv (h.natAbs : Int)).natAbs ∧ x - tms x h * h = x - x.fdiv (h.natAbs : Int) * (h.natAbs : Int) := by
  have e : max 1 (h.natAbs : Int) = (h.natAbs : Int) := by omega
  unfold tms
  rw [e]
  by_cases hp : 0 < h
  · rw [if_pos hp]
    have e2 : (h.natAbs : Int) = h := by omega
    rw [e2]
    exact ⟨rfl, rfl⟩
  · rw [if_neg hp, Int.natAbs_neg]
    refine ⟨rfl, ?_⟩
    have e2 : (h.natAbs : Int) = -h := by omega
    rw [e2, Int.mul_neg, Int.neg_mul]
/-- a step at a row that leads with a positive number: what stands crosswise does not grow -/
theorem crs_pos {a j : Nat} {h r : Row} (hh : h a ≠ 0) (hr : 0 ≤ r a) : crs a j h (ls r h (tms (r a) (h a))) ≤ crs a j h r ∧ 0 ≤ ls r h (tms (r a) (h a)) a ∧ (ls r h (tms (r a) (h a)) a).natAbs < (h a).natAbs := by
  obtain ⟨t1, t2⟩ := tms_abs (x := r a) hh
  have h0 : 0 < (h a).natAbs := by omega
  obtain ⟨x, hx⟩ : ∃ x : Nat, r a = (x : Int) := ⟨(r a).natAbs, by omega⟩
  have fd : (r a).fdiv ((h a).natAbs : Int) = ((x / (h a).natAbs : Nat) : Int) := by
    rw [hx, Int.fdiv_eq_ediv_of_nonneg _ (by omega)]
    rfl
  have la : ls r h (tms (r a) (h a)) a = ((x % (h a).natAbs : Nat) : Int) := by
    show r a - tms (r a) (h a) * h a = _
    rw [t2, fd, hx]
    have e := Nat.div_add_mod x (h a).natAbs
    have e2 : (((h a).natAbs * (x / (h a).natAbs) + x % (h a).natAbs : Nat) : Int) = (x : Int) := by rw [e]
    rw [Int.natCast_add, Int.natCast_mul, Int.mul_comm] at e2
    omega
  refine ⟨?_, by rw [la]; exact Int.natCast_nonneg _, by rw [la, Int.natAbs_natCast]; exact Nat.mod_lt _ h0⟩
  unfold crs
  rw [la, Int.natAbs_natCast]
  have e3 : (ls r h (tms (r a) (h a)) j).natAbs ≤ (r j).natAbs + x / (h a).natAbs * (h j).natAbs := by
    show (r j - tms (r a) (h a) * h j).natAbs ≤ _
    have : (tms (r a) (h a) * h j).natAbs = x / (h a).natAbs * (h j).natAbs := by rw [Int.natAbs_mul, t1, fd, Int.natAbs_natCast]
    omega
  have e4 : (r a).natAbs = (h a).natAbs * (x / (h a).natAbs) + x % (h a).natAbs := by
    rw [hx, Int.natAbs_natCast]
    exact (Nat.div_add_mod _ _).symm
  rw [e4, Nat.mul_add]
  have e5 : (ls r h (tms (r a) (h a)) j).natAbs * (h a).natAbs ≤ ((r j).natAbs + x / (h a).natAbs * (h j).natAbs) * (h a).natAbs := Nat.mul_le_mul_right _ e3
  have e6 : ((r j).natAbs + x / (h a).natAbs * (h j).natAbs) * (h a).natAbs = (r j).natAbs * (h a).natAbs + (h j).natAbs * ((h a).natAbs * (x / (h a).natAbs)) := by
    rw [Nat.add_mul]
    congr 1
    rw [Nat.mul_comm (x / (h a).natAbs), Nat.mul_assoc, Nat.mul_comm (x / (h a).natAbs)]
  omega
end Hm
namespace Hm
/-- a step at a row that leads with a negative number: at most threefold, and it leads with a positive one (or zero) then -/
theorem crs_neg {a j : Nat} {h r : Row} (hh : h a ≠ 0) (hle : (h a).natAbs ≤ (r a).natAbs) (hr : r a < 0) : crs a j h (ls r h (tms (r a) (h a))) ≤ 3 * crs a j h r ∧ 0 ≤ ls r h (tms (r a) (h a)) a ∧ (ls r h (tms (r a) (h a)) a).natAbs < (h a).natAbs := by
  obtain ⟨t1, t2⟩ := tms_abs (x := r a) hh
  have hb : ((h a).natAbs : Int) ≠ 0 := by omega
  obtain ⟨g1, g2, _⟩ := rest_sign (x := r a) hb
  rw [Int.natAbs_natCast] at g2
  have la : ls r h (tms (r a) (h a)) a = r a - (r a).fdiv ((h a).natAbs : Int) * ((h a).natAbs : Int) := t2
  have nn : 0 ≤ r a - (r a).fdiv ((h a).natAbs : Int) * ((h a).natAbs : Int) := by
    apply Int.not_lt.mp
    intro z
    have := Int.mul_neg_of_neg_of_pos z (show (0 : Int) < ((h a).natAbs : Int) by omega)
    omega
  have qa : (tms (r a) (h a)).natAbs * (h a).natAbs ≤ (r a).natAbs + (h a).natAbs := by
    rw [t1]
    have e : ((r a).fdiv ((h a).natAbs : Int) * ((h a).natAbs : Int)).natAbs = ((r a).fdiv ((h a).natAbs : Int)).natAbs * (h a).natAbs := by rw [Int.natAbs_mul, Int.natAbs_natCast]
    rw [← e]
    omega
  refine ⟨?_, by rw [la]; exact nn, by rw [la]; exact g2⟩
  unfold crs
  have e1 : (ls r h (tms (r a) (h a)) a).natAbs ≤ (r a).natAbs := by rw [la]; omega
  have e3 : (ls r h (tms (r a) (h a)) j).natAbs ≤ (r j).natAbs + (tms (r a) (h a)).natAbs * (h j).natAbs := by
    show (r j - tms (r a) (h a) * h j).natAbs ≤ _
    have : (tms (r a) (h a) * h j).natAbs = (tms (r a) (h a)).natAbs * (h j).natAbs := Int.natAbs_mul _ _
    omega
  have e5 : (ls r h (tms (r a) (h a)) j).natAbs * (h a).natAbs ≤ (r j).natAbs * (h a).natAbs + (tms (r a) (h a)).natAbs * (h a).natAbs * (h j).natAbs := by
    have z := Nat.mul_le_mul_right (h a).natAbs e3
    rw [Nat.add_mul, Nat.mul_right_comm] at z
    exact z
  have e6 : (tms (r a) (h a)).natAbs * (h a).natAbs * (h j).natAbs ≤ ((r a).natAbs + (r a).natAbs) * (h j).natAbs := Nat.mul_le_mul_right _ (Nat.le_trans qa (Nat.add_le_add_left hle _))
  have e7 : (h j).natAbs * (ls r h (tms (r a) (h a)) a).natAbs ≤ (h j).natAbs * (r a).natAbs := Nat.mul_le_mul_left _ e1
  rw [Nat.add_mul, Nat.mul_comm (r a).natAbs] at e6
  omega
/-- how many of two numbers are negative -/
def ngs (x y : Int) : Nat := (if x < 0 then 1 else 0) + (if y < 0 then 1 else 0)
/-- the chain of two rows in a column -/
structure Chn (a D : Nat) (h r : Row) : Prop where
  hz : h a ≠ 0
  rz : r a ≠ 0
  cr : ∀ j, a < j → crs a j h r * 3 ^ ngs (h a) (r a) ≤ D
theorem Chn.swap {a D : Nat} {h r : Row} (c : Chn a D h r) : Chn a D r h := ⟨c.rz, c.hz, fun j hj => by
  have z := c.cr j hj
  rw [crs_swap, show ngs (h a) (r a) = ngs (r a) (h a) from Nat.add_comm _ _] at z
  exact z⟩
/-- what a chain's rows hold -/
theorem Chn.le {a D : Nat} {h r : Row} (c : Chn a D h r) {j : Nat} (hj : a < j) : (h j).natAbs ≤ D ∧ (r j).natAbs ≤ D := by
  have z := Nat.le_trans (Nat.le_mul_of_pos_right _ (Nat.pow_pos (n := ngs (h a) (r a)) (show 0 < 3 by omega))) (c.cr j hj)
  have h1 : 0 < (h a).natAbs := by have := c.hz; omega
  have r1 : 0 < (r a).natAbs := by have := c.rz; omega
  unfold crs at z
  have e1 : (h j).natAbs ≤ (h j).natAbs * (r a).natAbs := Nat.le_mul_of_pos_right _ r1
  have e2 : (r j).natAbs ≤ (r j).natAbs * (h a).natAbs := Nat.le_mul_of_pos_right _ h1
  omega
/-- a step of a chain: it goes on, or the row leaves the column -/
theorem Chn.step {a D : Nat} {h r : Row} (c : Chn a D h r) (hle : (h a).natAbs ≤ (r a).natAbs) :
    (∀ j, a < j → (ls r h (tms (r a) (h a)) j).natAbs ≤ D) ∧ (ls r h (tms (r a) (h a)) a).natAbs < (h a).natAbs ∧ (ls r h (tms (r a) (h a)) a ≠ 0 → Chn a D h (ls r h (tms (r a) (h a)))) := by
  have h1 : 0 < (h a).natAbs := by have := c.hz; omega
  have key : ∀ j, a < j → crs a j h (ls r h (tms (r a) (h a))) * 3 ^ ngs (h a) (ls r h (tms (r a) (h a)) a) ≤ D := by
    intro j hj
    refine Nat.le_trans ?_ (c.cr j hj)
    by_cases hr : r a < 0
    · obtain ⟨k1, k2, _⟩ := crs_neg (j := j) c.hz hle hr
      have e1 : ngs (h a) (r a) = (if h a < 0 then 1 else 0) + 1 := by unfold ngs; rw [if_pos hr]
      have n0 : ¬ (ls r h (tms (r a) (h a)) a < 0) := Int.not_lt.mpr k2
      have e2 : ngs (h a) (ls r h (tms (r a) (h a)) a) = (if h a < 0 then 1 else 0) := by unfold ngs; rw [if_neg n0, Nat.add_zero]
      rw [e1, e2, Nat.pow_succ, ← Nat.mul_assoc, Nat.mul_right_comm]
      refine Nat.mul_le_mul_right _ ?_
      omega
    · obtain ⟨k1, k2, _⟩ := crs_pos (j := j) c.hz (by omega : 0 ≤ r a)
      have n0 : ¬ (ls r h (tms (r a) (h a)) a < 0) := Int.not_lt.mpr k2
      have e2 : ngs (h a) (ls r h (tms (r a) (h a)) a) = ngs (h a) (r a) := by unfold ngs; rw [if_neg n0, if_neg hr]
      rw [e2]
      exact Nat.mul_le_mul_right _ k1
  have sm : (ls r h (tms (r a) (h a)) a).natAbs < (h a).natAbs := by
    by_cases hr : r a < 0
    · exact (crs_neg (j := a) c.hz hle hr).2.2
    · exact (crs_pos (j := a) c.hz (by omega)).2.2
  refine ⟨fun j hj => ?_, sm, fun hz => ⟨c.hz, hz, key⟩⟩
  have z := Nat.le_trans (Nat.le_mul_of_pos_right _ (Nat.pow_pos (n := ngs (h a) (ls r h (tms (r a) (h a)) a)) (show 0 < 3 by omega))) (key j hj)
  unfold crs at z
  have e2 : (ls r h (tms (r a) (h a)) j).natAbs ≤ (ls r h (tms (r a) (h a)) j).natAbs * (h a).natAbs := Nat.le_mul_of_pos_right _ h1
  omega
/-- a chain's beginning -/
theorem chn_start {a B M : Nat} {h r : Row} (hz : h a ≠ 0) (rz : r a ≠ 0) (h1 : (h a).natAbs ≤ B) (r1 : (r a).natAbs ≤ B) (hM : ∀ j, a < j → (h j).natAbs ≤ M ∧ (r j).natAbs ≤ M) : Chn a (18 * (B * M)) h r := by
  refine ⟨hz, rz, fun j hj => ?_⟩
  obtain ⟨m1, m2⟩ := hM j hj
  have c1 : crs a j h r ≤ 2 * (B * M) := by
    unfold crs
    have e1 : (h j).natAbs * (r a).natAbs ≤ M * B := Nat.mul_le_mul m1 r1
    have e2 : (r j).natAbs * (h a).natAbs ≤ M * B := Nat.mul_le_mul m2 h1
    rw [Nat.mul_comm M B] at e1 e2
    omega
  have c2 : 3 ^ ngs (h a) (r a) ≤ 9 := by
    have : ngs (h a) (r a) ≤ 2 := by
      unfold ngs
      split <;> split <;> omega
    exact Nat.le_trans (Nat.pow_le_pow_right (by omega) this) (by decide)
  have z := Nat.mul_le_mul c1 c2
  omega
end Hm
set_option maxRecDepth 100000
set_option maxHeartbeats 2000000
namespace K4
open PySem PySem.Spec PyProof.Rows L2
def top (i : Nat) : Stmt := PySem.Challenge.pw_roundswap_k04_tables_and_their_normal_ro.main.body.getD i (.Pass ⟨0, 0, 0, 0⟩)
abbrev sNormal : Stmt := top 14
abbrev sSwept : Stmt := top 15
abbrev sPositive : Stmt := top 16
abbrev sLess : Stmt := top 17
abbrev sLead : Stmt := top 19
abbrev sDiag : Stmt := top 20
abbrev sIndex : Stmt := top 21
theorem scLess : FnScope ["row", "other", "times", "number", "taken"] ["row", "other", "times"] (defScope sLess) := ⟨rfl, rfl, rfl, by decide +kernel, rfl, by decide +kernel, by decide +kernel⟩
theorem scPositive : FnScope ["row", "at", "number"] ["row", "at"] (defScope sPositive) := ⟨rfl, rfl, rfl, by decide +kernel, rfl, by decide +kernel, by decide +kernel⟩
theorem same_new {H : Hp} {p : Addr} {o : HO} (h : H p = none) : Same H (upd H p o) := fun b u e => by
  rw [upd_ne (ne_of_none e h)]
  exact e
structure Bn (mg : Str → Option Value) : Prop where
  tuple : mg "tuple" = none
  zip : mg "zip" = none
  abs : mg "abs" = none
  sorted : mg "sorted" = none
  range : mg "range" = none
  len : mg "len" = none
  list : mg "list" = none
/-- a row: a tuple of ints -/
def RowAt (K : PySem.W.Frag) (H : Hp) (a : Addr) (r : List Int) : Prop := SqT K H a (r.map V.int)
def spLess (K : PySem.W.Frag) : Sp := fun vs H Q _ => ∃ (a b : Addr) (r o : List Int) (t : Int), vs = [.ref a, .ref b, .int t] ∧ RowAt K H a r ∧ RowAt K H b o ∧ r.length = o.length ∧ r.length ≤ 3 ∧ (∀ y ∈ o, CMulW t y) ∧
  ∀ H' p, Same H H' → H p = none → H' p = some (.tup ((Hm.lsl r o t).map V.int)) → Q (.ref p) H'
section
variable {P : Program} {w : World} {K : PySem.W.Frag} {mg : Str → Option Value} {base : Heap}
theorem ok_less {f : Addr} {fd : FuncData} {k : Nat} (F : Fun K "less" "less" sLess f fd) (B : Bn mg) : FnOk P w K mg base CX0 (k + 1) f fd ["row", "other", "times"] (spLess K) := by
  refine F.ok scLess (fun vs H Q E h => ?_) (fun cdv A outer s H vs Q E hr h => ?_)
  · obtain ⟨a, b, r, o, t, rfl, _⟩ := h
    rfl
  · obtain ⟨a, b, r, o, t, rfl, ha, hb, hl, h3, hm, q⟩ := h
    refine ⟨_, pss_one (ps_ret (pe_callTy call_tuple_of (by rfl) B.tuple boot_tuple (pa_cons (pe_lc (own := [("number", 3), ("taken", 4)]) (g := gTup K 2 (gCons (gName 3) (gCons (gName 4) gNil))) (tt := tYes) rfl scLess.nd (RZ.pi_zipA (by rfl) B.zip (pa_cons (pv 0) (pa_cons (pv 1) pa_nil)))
      (blkOk_by (N := ["row", "other", "times", "number", "taken"]) (sc := defScope sLess) (by decide +kernel)) (fun _ _ _ _ _ => pg_tup rfl (pgs_cons (pg_name (i := 3) scLess.nd rfl (Or.inl rfl)) (pgs_cons (pg_name (i := 4) scLess.nd rfl (Or.inl rfl)) pgs_nil))) (fun _ _ _ _ _ => pts_nil)
      (fun _ _ _ _ _ => pe_op op_sub (pv 3) (pe_op op_mulW (pv 2) (pv 4)))) pa_nil))), ?_⟩
    refine ⟨_, rfl, _, rfl, a, b, _, _, rfl, .inr ⟨ha, hb, fun D nD => ?_⟩⟩
    refine Rs.lc_zipT (σ := [some (.ref a), some (.ref b), some (.int t), none, none]) (i := 3) (j := 4) (by rw [List.length_map, List.length_map, hl]) (fun x y => match x, y with | .int x, .int y => .int (x - t * y) | x, _ => x) (by rw [List.length_map]; exact Nat.lt_of_le_of_lt h3 (by decide)) nD ha hb ?_ ?_
    · intro n x y H2 Q2 hx hy _ h
      rw [List.getElem?_map] at hx hy
      obtain ⟨x0, hx0, rfl⟩ := Option.map_eq_some_iff.mp hx
      obtain ⟨y0, hy0, rfl⟩ := Option.map_eq_some_iff.mp hy
      exact ⟨_, rfl, _, rfl, _, rfl, _, _, rfl, rfl, hm y0 (List.mem_of_getElem? hy0), _, _, rfl, rfl, h H2 (fun _ _ e => e)⟩
    · intro H2 s2 hD
      have s2 : Same H H2 := s2
      refine ⟨D, _, rfl, .inl ⟨SqL.of hD, fun p2 np2 => ?_⟩⟩
      have e : ∀ r o : List Int, List.zipWith (fun x y => match x, y with | V.int x, V.int y => V.int (x - t * y) | x, _ => x) (r.map V.int) (o.map V.int) = (Hm.lsl r o t).map V.int := by
        intro r
        induction r with
        | nil => intro o; rfl
        | cons x r ih =>
          intro o
          cases o with
          | nil => rfl
          | cons y o =>
            show V.int (x - t * y) :: _ = V.int (x - t * y) :: _
            congr 1
            exact ih o
      rw [e]
      refine q _ p2 (s2.trans (same_new np2)) ?_ upd_same
      cases hp : H p2 with
      | none => rfl
      | some u =>
        rw [s2 _ _ hp] at np2
        cases np2
end
end K4
set_option maxRecDepth 100000
set_option maxHeartbeats 2000000
namespace K4
open PySem PySem.Spec PyProof.Rows L2
theorem take_more {α : Type} {l : List α} {i : Nat} {x : α} (h : l[i]? = some x) : l.take (i + 1) = l.take i ++ [x] := by
  rw [List.take_add_one, h]
  rfl
theorem lc_pure {J : It} {G : Hp → Prop} {xs : List V} (w : Walk J xs.length G (YAt xs)) {tt : TT} {te : TE} {σ : L2.St} {i : Nat} {H1 : Hp} {D : Addr} {Qd : Hp → Prop} (f : V → V) (keep : V → Bool) (hlen : xs.length < sizeLine) (hD : H1 D = none)
    (hG : ∀ H2, Same H1 H2 → G H2)
    (ht : ∀ x H2 Q, x ∈ xs → Same H1 H2 → Q (keep x) H2 → tt ((σ.set i none).set i (some x)) H2 Q)
    (he : ∀ x H2 Q, x ∈ xs → keep x = true → Same H1 H2 → (∀ H3, Same H2 H3 → Q (f x) H3) → te ((σ.set i none).set i (some x)) H2 Q)
    (hd : ∀ H2, Same H1 H2 → H2 D = some (.lst ((xs.filter keep).map f)) → Qd H2) :
    ∃ W : Nat → Nat → Hp → Prop, (∃ m, W 0 m (upd H1 D (.lst []))) ∧ ∀ j m H, W j m H →
      (J.stop j H ∧ Qd H) ∨ (J.go j H ∧ ∃ Nx : Hp → Prop, (∀ H', Nx H' → ∃ m', m' < m ∧ W (j + 1) m' H') ∧ ∀ x H', J.yld j H x H' → gName i x (wipe σ [i]) H' fun σ2 H2 => wipe σ2 [i] = wipe σ [i] ∧ tt σ2 H2 fun b H3 =>
        if b = true then te σ2 H3 fun v H4 => ∃ ac, H4 D = some (.lst ac) ∧ ac.length < sizeLine ∧ Nx (upd H4 D (.lst (ac ++ [v]))) else Nx H3) := by
  refine lc_it w (fun j H2 => Same H1 H2 ∧ H2 D = some (.lst (((xs.take j).filter keep).map f))) ⟨same_new hD, upd_same⟩ (fun j H2 _ h => hG H2 h.1) ?_ (fun H2 h => hd H2 h.1 (by have z := h.2; rw [List.take_length] at z; exact z))
  rintro j x H2 H2' hj ⟨sm, hd2⟩ ⟨rfl, hx⟩
  have hm : x ∈ xs := List.mem_of_getElem? hx
  refine ⟨?_, ?_⟩
  · show (((σ.set i none).set i (some x)).set i none) = σ.set i none
    rw [List.set_set, List.set_set]
  · refine ht x _ _ hm sm ?_
    have tk := take_more hx
    cases hk : keep x with
    | true =>
      refine iteT (he x _ _ hm hk sm fun H3 s3 => ⟨_, s3 _ _ hd2, ?_, ?_, ?_⟩)
      · rw [List.length_map]
        exact Nat.lt_of_le_of_lt (Nat.le_trans (List.length_filter_le _ _) (by rw [List.length_take]; omega)) hlen
      · intro b o e
        rw [upd_ne (ne_of_none e hD)]
        exact s3 _ _ (sm _ _ e)
      · rw [upd_same, tk, List.filter_append, List.map_append]
        simp [hk]
    | false =>
      refine iteF ⟨sm, ?_⟩
      rw [hd2, tk, List.filter_append]
      simp [hk]
/-- a row with its number at n positive -/
def sgl (r : List Int) (n : Nat) : List Int := if 0 < r.getD n 0 then r else r.map fun x => -x
theorem fn_sgl (r : List Int) (n : Nat) : Hm.fn (sgl r n) = Hm.sgd (Hm.fn r) n := by
  unfold sgl Hm.sgd
  have e : Hm.fn r n = r.getD n 0 := rfl
  rw [e]
  split
  · rfl
  · funext j
    show (r.map fun x => -x).getD j 0 = -1 * r.getD j 0
    rw [List.getD_eq_getElem?_getD, List.getD_eq_getElem?_getD, List.getElem?_map]
    cases r[j]? with
    | none => rfl
    | some x =>
      show -x = -1 * x
      omega
theorem sgl_len (r : List Int) (n : Nat) : (sgl r n).length = r.length := by
  unfold sgl
  split
  · rfl
  · rw [List.length_map]
theorem row_at {r : List Int} {n : Nat} (h : n < r.length) : atI (r.map V.int) (n : Int) = some (.int (r.getD n 0)) := by
  refine atI_nat ?_
  rw [List.getElem?_map, List.getElem?_eq_getElem h, List.getD_eq_getElem?_getD, List.getElem?_eq_getElem h]
  rfl
def spPos (K : PySem.W.Frag) : Sp := fun vs H Q _ => ∃ (a : Addr) (r : List Int) (n : Nat), vs = [.ref a, .int (n : Nat)] ∧ RowAt K H a r ∧ n < r.length ∧ r.length ≤ 3 ∧ ∀ H' p, Same H H' → RowAt K H' p (sgl r n) → Q (.ref p) H'
section
variable {P : Program} {w : World} {K : PySem.W.Frag} {mg : Str → Option Value} {base : Heap}
theorem ok_pos {f : Addr} {fd : FuncData} {k : Nat} (F : Fun K "with_positive" "with_positive" sPositive f fd) (B : Bn mg) : FnOk P w K mg base CX0 (k + 1) f fd ["row", "at"] (spPos K) := by
  refine F.ok scPositive (fun vs H Q E h => ?_) (fun cdv A outer s H vs Q E hr h => ?_)
  · obtain ⟨a, r, n, rfl, _⟩ := h
    rfl
  · obtain ⟨a, r, n, rfl, ha, hn, h3, q⟩ := h
    refine ⟨_, pss_cons (ps_if (pt_cmpR op_gt (pe_ix ix_tup (pv 0) (pv 1) (fun _ _ => rfl)) pe_int (nomark _)) (pss_one (ps_ret (pv 0))) pss_nil)
      (pss_one (ps_ret (pe_callTy call_tuple_of (by rfl) B.tuple boot_tuple (pa_cons (pe_lc (own := [("number", 2)]) (g := gName 2) (tt := tYes) rfl scPositive.nd (pi_tup (pv 0))
        (blkOk_by (N := ["row", "at", "number"]) (sc := defScope sPositive) (by decide +kernel)) (fun _ _ _ _ _ => pg_name (i := 2) scPositive.nd rfl (Or.inl rfl)) (fun _ _ _ _ _ => pts_nil)
        (fun _ _ _ _ _ => pe_un un_neg (pv 2))) pa_nil)))), ?_⟩
    refine ⟨_, rfl, _, rfl, a, _, (n : Int), _, rfl, rfl, ha, row_at hn, _, _, rfl, rfl, _, rfl, ?_⟩
    by_cases hp : 0 < r.getD n 0
    · rw [decide_eq_true hp]
      refine iteT ⟨_, rfl, ?_⟩
      refine q H a (Same.refl _) ?_
      unfold sgl
      rw [if_pos hp]
      exact ha
    · rw [decide_eq_false hp]
      refine iteF ?_
      refine ⟨_, rfl, a, rfl, ⟨_, ha⟩, fun D nD => ?_⟩
      refine lc_pure walk_tup (σ := [some (.ref a), some (.int (n : Nat)), none]) (i := 2) (fun v => match v with | .int x => .int (-x) | v => v) (fun _ => true) (by rw [List.length_map]; exact Nat.lt_of_le_of_lt h3 (by decide)) nD (fun H2 s2 => Rs.sqT_ext s2 ha) (fun x H2 Q _ _ h => h) ?_ ?_
      · intro x H2 Q2 hx _ _ h
        obtain ⟨c, hc, rfl⟩ := List.mem_map.mp hx
        exact ⟨_, rfl, _, rfl, h H2 (Same.refl _)⟩
      · intro H2 s2 hD
        refine ⟨D, _, rfl, .inl ⟨SqL.of hD, fun p2 np2 => ?_⟩⟩
        refine q _ p2 (s2.trans (same_new np2)) (SqT.of ?_)
        rw [upd_same, List.filter_eq_self.mpr (by simp), List.map_map]
        unfold sgl
        rw [if_neg hp, List.map_map]
        rfl
end
end K4
set_option maxRecDepth 100000
set_option maxHeartbeats 2000000
namespace K4
open PySem PySem.Spec PyProof.Rows L2
theorem scLead : FnScope ["row", "number"] ["row"] (defScope sLead) := ⟨rfl, rfl, rfl, by decide +kernel, rfl, by decide +kernel, by decide +kernel⟩
/-- a row begins at n -/
def BegL (r : List Int) (n : Nat) : Prop := n < r.length ∧ r.getD n 0 ≠ 0 ∧ ∀ m, m < n → r.getD m 0 = 0
def spLead (K : PySem.W.Frag) : Sp := fun vs H Q _ => ∃ (a : Addr) (r : List Int) (n : Nat), vs = [.ref a] ∧ RowAt K H a r ∧ BegL r n ∧ r.length ≤ 3 ∧ ∀ H', Same H H' → Q (.int (n : Nat)) H'
section
variable {P : Program} {w : World} {K : PySem.W.Frag} {mg : Str → Option Value} {base : Heap}
theorem ok_lead {f : Addr} {fd : FuncData} {k : Nat} (F : Fun K "lead_at" "lead_at" sLead f fd) : FnOk P w K mg base CX0 (k + 1) f fd ["row"] (spLead K) := by
  refine F.ok scLead (fun vs H Q E h => ?_) (fun cdv A outer s H vs Q E hr h => ?_)
  · obtain ⟨a, r, n, rfl, _⟩ := h
    rfl
  · obtain ⟨a, r, n, rfl, ha, hn, h3, q⟩ := h
    refine ⟨_, pss_one (ps_ret (pe_bm PySem.F.plainAttrs_list PySem.F.slot_list_index PySem.F.type_list_index mt_index (pe_lc (own := [("number", 1)]) (g := gName 1) (tt := tYes) rfl scLead.nd (pi_tup (pv 0))
        (blkOk_by (N := ["row", "number"]) (sc := defScope sLead) (by decide +kernel)) (fun _ _ _ _ _ => pg_name (i := 1) scLead.nd rfl (Or.inl rfl)) (fun _ _ _ _ _ => pts_nil)
        (fun _ _ _ _ _ => pe_cmpR op_ne (pv 1) pe_int (nomark _))) (pa_cons pe_bl pa_nil))), ?_⟩
    refine ⟨_, rfl, a, rfl, ⟨_, ha⟩, fun D nD => ?_⟩
    refine lc_pure walk_tup (σ := [some (.ref a), none]) (i := 1) (fun v => match v with | .int x => .bl (!decide (V.int x = V.int 0)) | v => v) (fun _ => true) (by rw [List.length_map]; exact Nat.lt_of_le_of_lt h3 (by decide)) nD (fun H2 s2 => Rs.sqT_ext s2 ha) (fun x H2 Q _ _ h => h) ?_ ?_
    · intro x H2 Q2 hx _ _ h
      obtain ⟨c, hc, rfl⟩ := List.mem_map.mp hx
      exact ⟨_, rfl, rfl, h H2 (Same.refl _)⟩
    · intro H2 s2 hD
      rw [List.filter_eq_self.mpr (by simp), List.map_map] at hD
      obtain ⟨n1, n2, n3⟩ := hn
      have at_ : ∀ m, m < r.length → (r.map ((fun v => match v with | V.int x => V.bl (!decide (V.int x = V.int 0)) | v => v) ∘ V.int))[m]? = some (V.bl (!decide (V.int (r.getD m 0) = V.int 0))) := by
        intro m hm
        rw [List.getElem?_map, List.getD_eq_getElem?_getD, List.getElem?_eq_getElem hm]
        rfl
      refine ⟨.inl ⟨rfl, _, SqL.of hD⟩, D, _, .bl true, n, _, rfl, rfl, SqL.of hD, rfl, ?_, at_ n n1, ?_, ?_, q H2 s2⟩
      · rw [List.all_eq_true]
        intro x hx
        obtain ⟨c, _, rfl⟩ := List.mem_map.mp hx
        rfl
      · have e : decide (V.int (r.getD n 0) = V.int 0) = false := decide_eq_false fun z => n2 (V.int.inj z)
        rw [e]
        rfl
      · intro m z hm hz
        rw [at_ m (by omega), n3 m hm] at hz
        obtain rfl := Option.some.inj hz
        rfl
end
end K4
set_option maxRecDepth 100000
set_option maxHeartbeats 2000000
namespace K4
open PySem PySem.Spec PyProof.Rows L2
/-- a comprehension whose items are told by their places -/
theorem lc_idx {J : It} {G : Hp → Prop} {xs : List V} (w : Walk J xs.length G (YAt xs)) {te : TE} {σ : L2.St} {i : Nat} {H1 : Hp} {D : Addr} {Qd : Hp → Prop} (ys : List V) (hy : ys.length = xs.length) (hlen : xs.length < sizeLine) (hD : H1 D = none)
    (hG : ∀ H2, Same H1 H2 → G H2)
    (he : ∀ (j : Nat) (x y : V) (H2 : Hp) (Q : VK), xs[j]? = some x → ys[j]? = some y → Same H1 H2 → (∀ H3, Same H2 H3 → Q y H3) → te ((σ.set i none).set i (some x)) H2 Q)
    (hd : ∀ H2, Same H1 H2 → H2 D = some (.lst ys) → Qd H2) :
    ∃ W : Nat → Nat → Hp → Prop, (∃ m, W 0 m (upd H1 D (.lst []))) ∧ ∀ j m H, W j m H →
      (J.stop j H ∧ Qd H) ∨ (J.go j H ∧ ∃ Nx : Hp → Prop, (∀ H', Nx H' → ∃ m', m' < m ∧ W (j + 1) m' H') ∧ ∀ x H', J.yld j H x H' → gName i x (wipe σ [i]) H' fun σ2 H2 => wipe σ2 [i] = wipe σ [i] ∧ tYes σ2 H2 fun b H3 =>
        if b = true then te σ2 H3 fun v H4 => ∃ ac, H4 D = some (.lst ac) ∧ ac.length < sizeLine ∧ Nx (upd H4 D (.lst (ac ++ [v]))) else Nx H3) := by
  refine lc_it w (fun j H2 => Same H1 H2 ∧ H2 D = some (.lst (ys.take j))) ⟨same_new hD, upd_same⟩ (fun j H2 _ h => hG H2 h.1) ?_ (fun H2 h => hd H2 h.1 (by have z := h.2; rw [← hy, List.take_length] at z; exact z))
  rintro j x H2 H2' hj ⟨sm, hd2⟩ ⟨rfl, hx⟩
  have hjy : j < ys.length := by omega
  have hyj : ys[j]? = some ys[j] := List.getElem?_eq_getElem hjy
  refine ⟨?_, ?_⟩
  · show (((σ.set i none).set i (some x)).set i none) = σ.set i none
    rw [List.set_set, List.set_set]
  · dsimp only [tYes]
    rw [if_pos rfl]
    refine he j x _ _ _ hx hyj sm fun H3 s3 => ⟨_, s3 _ _ hd2, ?_, ?_, ?_⟩
    · rw [List.length_take]
      omega
    · intro b o e
      rw [upd_ne (ne_of_none e hD)]
      exact s3 _ _ (sm _ _ e)
    · rw [upd_same, take_more hyj]
theorem scDiag : FnScope ["rows", "row"] ["rows"] (defScope sDiag) := ⟨rfl, rfl, rfl, by decide +kernel, rfl, by decide +kernel, by decide +kernel⟩
/-- rows in a list, each with the column where it begins -/
structure RowsAt (K : PySem.W.Frag) (H : Hp) (l : Addr) (rs : List (Addr × List Int)) : Prop where
  lst : SqL K H l (rs.map fun x => V.ref x.1)
  row : ∀ x ∈ rs, RowAt K H x.1 x.2
theorem sqL_ext {K : PySem.W.Frag} {H H' : Hp} {a : Addr} {xs : List V} (e : Same H H') (h : SqL K H a xs) : SqL K H' a xs := by
  rcases h with (h | ⟨o, h⟩) | h
  · exact .inl (.inl (e _ _ h))
  · exact .inl (.inr ⟨o, e _ _ h⟩)
  · exact .inr h
theorem RowsAt.ext {K : PySem.W.Frag} {H H' : Hp} {l : Addr} {rs : List (Addr × List Int)} (h : RowsAt K H l rs) (e : Same H H') : RowsAt K H' l rs := ⟨sqL_ext e h.lst, fun x hx => Rs.sqT_ext e (h.row x hx)⟩
def spDiag (K : PySem.W.Frag) : Sp := fun vs H Q _ => ∃ (l : Addr) (rs : List (Addr × List Int)) (g : List Int → Nat), vs = [.ref l] ∧ RowsAt K H l rs ∧ rs.length ≤ 3 ∧ (∀ x ∈ rs, BegL x.2 (g x.2) ∧ x.2.length ≤ 3) ∧
  ∀ H' p, Same H H' → H p = none → H' p = some (.tup (rs.map fun x => V.int (x.2.getD (g x.2) 0))) → Q (.ref p) H'
section
variable {P : Program} {w : World} {K : PySem.W.Frag} {mg : Str → Option Value} {base : Heap}
theorem ok_diag {f fL : Addr} {fd fdL : FuncData} {k : Nat} (F : Fun K "diagonal_of" "diagonal_of" sDiag f fd) (B : Bn mg) (GL : FnOk P w K mg base CX0 (k + 1) fL fdL ["row"] (spLead K)) (kL : PySem.W.keepIn K (.ref fL) = true) (bL : L2.Binds K fdL ["row"] []) (gL : mg "lead_at" = some (.ref fL)) :
    FnOk P w K mg base CX0 (k + 2) f fd ["rows"] (spDiag K) := by
  refine F.ok scDiag (fun vs H Q E h => ?_) (fun cdv A outer s H vs Q E hr h => ?_)
  · obtain ⟨l, rs, g, rfl, _⟩ := h
    rfl
  · obtain ⟨l, rs, g, rfl, hR, h3, hb, q⟩ := h
    refine ⟨_, pss_one (ps_ret (pe_callTy call_tuple_of (by rfl) B.tuple boot_tuple (pa_cons (pe_lc (own := [("row", 1)]) (g := gName 1) (tt := tYes) (te := fun σ H Q => tVar 1 σ H fun x H1 => tCall (spLead K) [] E0 (tCons (tVar 1) tNil) σ H1 fun y H2 => rIxT K x y H2 Q) rfl scDiag.nd (pi_list (pv 0))
        (blkOk_by (N := ["rows", "row"]) (sc := defScope sDiag) (by decide +kernel)) (fun _ _ _ _ _ => pg_name (i := 1) scDiag.nd rfl (Or.inl rfl)) (fun _ _ _ _ _ => pts_nil)
        (fun _ _ _ _ _ => pe_ix ix_tup (pv 1) (pe_call GL hr (by rfl) gL kL bL .nil pass0 (pa_cons (pv 1) pa_nil)) (fun _ _ => rfl))) pa_nil))), ?_⟩
    refine ⟨_, rfl, l, rfl, ⟨_, hR.lst⟩, fun D nD => ?_⟩
    refine lc_idx (walk_list (K := K) (a := l)) (te := fun σ H Q => tVar 1 σ H fun x H1 => tCall (spLead K) [] E0 (tCons (tVar 1) tNil) σ H1 fun y H2 => rIxT K x y H2 Q) (σ := [some (.ref l), none]) (i := 1) (rs.map fun x => V.int (x.2.getD (g x.2) 0)) (by rw [List.length_map, List.length_map]) (by rw [List.length_map]; exact Nat.lt_of_le_of_lt h3 (by decide)) nD (fun H2 s2 => sqL_ext s2 hR.lst) ?_ ?_
    · intro j x y H2 Q2 hx hy s2 h
      rw [List.getElem?_map] at hx hy
      obtain ⟨e0, he0, rfl⟩ := Option.map_eq_some_iff.mp hx
      rw [he0] at hy
      obtain rfl := Option.some.inj hy
      have m := List.mem_of_getElem? he0
      obtain ⟨b1, b2⟩ := hb _ m
      have ra : RowAt K H2 e0.1 e0.2 := Rs.sqT_ext s2 (hR.row _ m)
      exact ⟨_, rfl, _, rfl, e0.1, e0.2, g e0.2, rfl, ra, b1, b2, fun H3 s3 => ⟨e0.1, _, (g e0.2 : Nat), _, rfl, rfl, Rs.sqT_ext s3 ra, row_at b1.1, h H3 s3⟩⟩
    · intro H2 s2 hD
      refine ⟨D, _, rfl, .inl ⟨SqL.of hD, fun p2 np2 => ?_⟩⟩
      refine q _ p2 (s2.trans (same_new np2)) ?_ upd_same
      cases hp : H p2 with
      | none => rfl
      | some u =>
        rw [s2 _ _ hp] at np2
        cases np2
end
end K4
set_option maxRecDepth 100000
set_option maxHeartbeats 2000000
namespace K4
open PySem PySem.Spec PyProof.Rows L2
theorem scIndex : FnScope ["rows", "width", "index", "lead"] ["rows", "width"] (defScope sIndex) := ⟨rfl, rfl, rfl, by decide +kernel, rfl, by decide +kernel, by decide +kernel⟩
/-- a product, from the left -/
def prod (xs : List Int) : Int := xs.foldl (· * ·) 1
theorem prod_more {xs : List Int} {i : Nat} {x : Int} (h : xs[i]? = some x) : prod (xs.take (i + 1)) = prod (xs.take i) * x := by
  rw [take_more h]
  unfold prod
  rw [List.foldl_append]
  rfl
theorem prod_lt {xs : List Int} (h : ∀ x ∈ xs, x.natAbs < 2 ^ 9000) : ∀ i, i ≤ xs.length → (prod (xs.take i)).natAbs < 2 ^ (9000 * i + 1) := by
  intro i
  induction i with
  | zero =>
    intro _
    show (1 : Int).natAbs < 2
    decide
  | succ i ih =>
    intro hi
    have hx : xs[i]? = some xs[i] := List.getElem?_eq_getElem hi
    rw [prod_more hx]
    have z := wide_lt (ih (by omega)) (h _ (List.mem_of_getElem? hx))
    rw [show 9000 * i + 1 + 9000 = 9000 * (i + 1) + 1 by omega] at z
    exact z
def spIndex (K : PySem.W.Frag) : Sp := fun vs H Q _ => ∃ (l : Addr) (rs : List (Addr × List Int)) (g : List Int → Nat) (wd : Nat), vs = [.ref l, .int (wd : Nat)] ∧ RowsAt K H l rs ∧ rs.length ≤ 3 ∧ (∀ x ∈ rs, BegL x.2 (g x.2) ∧ x.2.length ≤ 3 ∧ (x.2.getD (g x.2) 0).natAbs < 2 ^ 9000) ∧
  ∀ H', Same H H' → Q (if rs.length < wd then .non else .int (prod (rs.map fun x => x.2.getD (g x.2) 0))) H'
section
variable {P : Program} {w : World} {K : PySem.W.Frag} {mg : Str → Option Value} {base : Heap}
theorem ok_index {f fD : Addr} {fd fdD : FuncData} {k : Nat} (F : Fun K "index_of" "index_of" sIndex f fd) (B : Bn mg) (GD : FnOk P w K mg base CX0 (k + 2) fD fdD ["rows"] (spDiag K)) (kD : PySem.W.keepIn K (.ref fD) = true) (bD : L2.Binds K fdD ["rows"] []) (gD : mg "diagonal_of" = some (.ref fD)) :
    FnOk P w K mg base CX0 (k + 3) f fd ["rows", "width"] (spIndex K) := by
  refine F.ok scIndex (fun vs H Q E h => ?_) (fun cdv A outer s H vs Q E hr h => ?_)
  · obtain ⟨l, rs, g, wd, rfl, _⟩ := h
    rfl
  · obtain ⟨l, rs, g, wd, rfl, hR, h3, hb, q⟩ := h
    refine ⟨_, pss_cons (ps_if (pt_cmpR op_lt (pe_callB call_len_seq (by rfl) B.len PySem.boot_len (pa_cons (pv 0) pa_nil)) (pv 1) (nomark _)) (pss_one (ps_ret pe_non)) pss_nil)
      (pss_cons (ps_set (i := 2) scIndex.nd rfl (.inl rfl) pe_int)
      (pss_cons (ps_for PassesOwn.never rfl (pi_tup (pe_call GD hr (by rfl) gD kD bD .nil pass0 (pa_cons (pv 0) pa_nil))) (pg_name (i := 3) scIndex.nd rfl (Or.inl rfl)) (pss_one (ps_set (i := 2) scIndex.nd rfl (.inl rfl) (pe_op op_mulW (pv 2) (pv 3)))))
      (pss_one (ps_ret (pv 2))))), ?_⟩
    refine ⟨_, rfl, l, _, rfl, .inl hR.lst, _, rfl, _, _, rfl, rfl, _, rfl, ?_⟩
    rw [List.length_map]
    by_cases hw : rs.length < wd
    · rw [decide_eq_true (by omega : (rs.length : Int) < (wd : Int))]
      refine iteT ?_
      have z := q H (Same.refl _)
      rw [if_pos hw] at z
      exact z
    · rw [decide_eq_false (by omega : ¬ (rs.length : Int) < (wd : Int))]
      refine iteF ?_
      have leads : ∀ x ∈ (rs.map fun x => x.2.getD (g x.2) 0), x.natAbs < 2 ^ 9000 := by
        intro x hx
        obtain ⟨y, hy, rfl⟩ := List.mem_map.mp hx
        exact (hb y hy).2.2
      refine ⟨_, rfl, l, rs, g, rfl, hR, h3, fun x hx => ⟨(hb x hx).1, (hb x hx).2.1⟩, fun H1 p s1 np hp => ?_⟩
      refine ⟨p, rfl, ⟨_, SqT.of hp⟩, ?_⟩
      refine for_it (walk_tup (K := K) (a := p)) (fun i σ H3 => ∃ y3 : Option V, σ = [some (.ref l), some (.int (wd : Nat)), some (.int (prod ((rs.map fun x => x.2.getD (g x.2) 0).take i))), y3] ∧ Same H H3 ∧ H3 p = some (.tup (rs.map fun x => V.int (x.2.getD (g x.2) 0)))) ⟨none, rfl, s1, hp⟩ (fun i σ H3 _ h => SqT.of h.choose_spec.2.2) ?_ ?_
      · rintro i x σ H3 H3' hi ⟨y3, rfl, sm, hq⟩ ⟨rfl, hx⟩
        rw [List.getElem?_map] at hx
        obtain ⟨e0, he0, rfl⟩ := Option.map_eq_some_iff.mp hx
        have hl : (rs.map fun x => x.2.getD (g x.2) 0)[i]? = some (e0.2.getD (g e0.2) 0) := by
          rw [List.getElem?_map, he0]
          rfl
        rw [List.length_map] at hi
        refine ⟨_, rfl, _, rfl, _, _, rfl, rfl, ?_, some (.int (e0.2.getD (g e0.2) 0)), ?_, sm, hq⟩
        · exact wide_mul (prod_lt leads i (by rw [List.length_map]; omega)) (leads _ (List.mem_of_getElem? hl)) (by omega) (by omega) (by omega)
        · rw [prod_more hl]
          rfl
      · rintro σ H3 ⟨y3, rfl, sm, hq⟩
        refine ⟨_, rfl, ?_⟩
        have z := q H3 sm
        rw [if_neg hw] at z
        rw [List.length_map, ← List.length_map (f := fun x : Addr × List Int => x.2.getD (g x.2) 0), List.take_length]
        exact z
end
end K4
set_option maxRecDepth 100000
set_option maxHeartbeats 1000000
namespace Rs
open PySem PySem.Spec PyProof.Rows L2
/-! the same def under other names of its slots: where the names differ, nothing is stored -/
def Cx.ren (X : Cx) (N' : List Str) : Cx := { X with N := N' }
def Ren (N N' : List Str) (σ : L2.St) : Prop := N'.length = N.length ∧ ∀ i : Nat, N'[i]? ≠ N[i]? → σ[i]? = some none
theorem inv_ren {X : Cx} {N' : List Str} {pins : List (Addr × Obj)} {σ : L2.St} {H : Hp} {s : Shared} (I : Inv X pins σ H s) (r : Ren X.N N' σ) : Inv (Cx.ren X N') pins σ H s := by
  have o := I.ok
  refine ⟨⟨o.mod, o.kind, o.glob, o.blt, o.above, o.inj, o.has, o.cab, o.hd, o.frames, o.stk, o.exf, o.bs, o.bsz, o.noex, o.exfs, o.funs, o.frf⟩, I.os, I.bare, I.base, ?_, I.cell, I.free, I.freeC, I.pin, I.hok, I.len.trans r.1.symm⟩
  obtain ⟨m, h1, h2⟩ := I.loc
  refine ⟨m, h1, fun i x v e1 e2 e3 => h2 i x v ?_ e2 e3⟩
  by_cases h : N'[i]? = X.N[i]?
  · rw [← h]
    exact e1
  · rw [r.2 i h] at e2
    cases e2
theorem inv_back {X : Cx} {N' : List Str} {pins : List (Addr × Obj)} {σ : L2.St} {H : Hp} {s : Shared} (I : Inv (Cx.ren X N') pins σ H s) (r : Ren X.N N' σ) : Inv X pins σ H s := by
  have z := inv_ren (N' := X.N) I ⟨r.1.symm, fun i h => r.2 i (fun e => h e.symm)⟩
  exact z
theorem pe_ren {X : Cx} (N' : List Str) {e : Expr} {t : TE} (h : PE (Cx.ren X N') e t) : PE X e (fun σ H Q => Ren X.N N' σ ∧ t σ H Q) := by
  refine ⟨fun pins s σ H Q I hq => ?_⟩
  refine wpAny_mono (h.run pins s σ H Q (inv_ren I hq.1) hq.2) ?_ (fun _ _ z => z)
  rintro u s' ⟨v, H', J, rv, q⟩
  exact ⟨v, H', inv_back J hq.1, rv, q⟩
end Rs
namespace Hm
/-! the rounds of a sweep, with lists of numbers -/
def zl (a : Nat) (rs : List (List Int)) : List (List Int) := rs.filter fun r => decide (fn r a = 0)
def nl (a : Nat) (rs : List (List Int)) : List (List Int) := rs.filter fun r => decide (fn r a ≠ 0)
theorem zl_fn (a : Nat) (rs : List (List Int)) : (zl a rs).map fn = zro a (rs.map fn) := by
  unfold zl zro
  rw [List.filter_map]
  rfl
theorem nl_fn (a : Nat) (rs : List (List Int)) : (nl a rs).map fn = nzr a (rs.map fn) := by
  unfold nl nzr
  rw [List.filter_map]
  rfl
theorem mem_zl {a : Nat} {rs : List (List Int)} {r : List Int} : r ∈ zl a rs ↔ r ∈ rs ∧ fn r a = 0 := by
  unfold zl
  rw [List.mem_filter]
  simp
theorem mem_nl {a : Nat} {rs : List (List Int)} {r : List Int} : r ∈ nl a rs ↔ r ∈ rs ∧ fn r a ≠ 0 := by
  unfold nl
  rw [List.mem_filter]
  simp
theorem zn_len (a : Nat) : ∀ rs : List (List Int), (zl a rs).length + (nl a rs).length = rs.length
  | [] => rfl
  | r :: rs => by
    have ih := zn_len a rs
    unfold zl nl at ih ⊢
    rw [List.filter_cons, List.filter_cons]
    by_cases h : fn r a = 0
    · simp only [h, decide_true, if_true, ne_eq, not_true_eq_false, decide_false, Bool.false_eq_true, if_false, List.length_cons]
      simp only [ne_eq] at ih
      omega
    · simp only [h, decide_false, Bool.false_eq_true, if_false, ne_eq, not_false_eq_true, decide_true, if_true, List.length_cons]
      simp only [ne_eq] at ih
      omega
theorem Pot.up {a C C' M : Nat} {l : Row} {os : List Row} (h : Pot a C M l os) (hc : C ≤ C') : Pot a C' M l os := ⟨h.nz, h.col, h.sgn, Nat.le_trans h.le hc, fun ho => by
  obtain ⟨r, h1, h2⟩ := h.pot ho
  exact ⟨r, h1, Nat.le_trans h2 hc⟩⟩
structure Swi (w a b n : Nat) (R cl rest : List (List Int)) : Prop where
  eqs : Eqs (In (R.map fn)) (In (cl.map fn ++ rest.map fn))
  len : ∀ r, r ∈ cl ∨ r ∈ rest → r.length = w
  low : ∀ r, r ∈ cl ∨ r ∈ rest → ∀ j, j < a → fn r j = 0
  cz : ∀ r ∈ cl, fn r a = 0
  rz : ∀ r ∈ rest, fn r a ≠ 0
  sz : cl.length + rest.length = R.length
  lead : ∀ r ∈ rest, (fn r a).natAbs ≤ 2 ^ b
  bd : (∀ r, r ∈ cl ∨ r ∈ rest → ∀ j, (fn r j).natAbs ≤ 2 ^ b) ∨ ((∀ r ∈ cl, ∀ j, a < j → (fn r j).natAbs ≤ 2 ^ (5 * b + n + 1)) ∧ ∃ l' os M, rest = l' :: os ∧ Pot a (2 ^ (5 * b + n + 1)) M (fn l') (os.map fn))
theorem swi_start {w a b n : Nat} {R : List (List Int)} (len : ∀ r ∈ R, r.length = w) (low : ∀ r ∈ R, ∀ j, j < a → fn r j = 0) (hb : ∀ r ∈ R, ∀ j, (fn r j).natAbs ≤ 2 ^ b) : Swi w a b n R (zl a R) (nl a R) := by
  have m : ∀ r, r ∈ zl a R ∨ r ∈ nl a R → r ∈ R := fun r h => h.elim (fun h => (mem_zl.mp h).1) (fun h => (mem_nl.mp h).1)
  refine ⟨?_, fun r h => len r (m r h), fun r h => low r (m r h), fun r h => (mem_zl.mp h).2, fun r h => (mem_nl.mp h).2, zn_len a R, fun r h => hb r (m r (.inr h)) a, .inl fun r h => hb r (m r h)⟩
  rw [zl_fn, nl_fn]
  exact sweep0 a _
theorem cap_le {b n k : Nat} (hb : 1 ≤ b) (hk : k ≤ n) : (2 ^ b + (2 ^ b + 1) * 2 ^ b) * 2 ^ b * (2 ^ k * 2 ^ b * 2 ^ b) ≤ 2 ^ (5 * b + n + 1) := by
  have h1 : 2 ^ b + (2 ^ b + 1) * 2 ^ b ≤ 2 ^ (2 * b + 1) := by
    have e : 2 ^ b + (2 ^ b + 1) * 2 ^ b = 2 ^ b * (2 ^ b + 2) := by
      rw [Nat.add_mul, Nat.mul_add]
      omega
    have h2 : 2 ^ b + 2 ≤ 2 ^ (b + 1) := by
      have : 2 ≤ 2 ^ b := by
        have := Nat.pow_le_pow_right (n := 2) (by omega) hb
        simpa using this
      rw [Nat.pow_succ]
      omega
    rw [e, show 2 * b + 1 = b + (b + 1) by omega, Nat.pow_add]
    exact Nat.mul_le_mul_left _ h2
  have h3 : 2 ^ k * 2 ^ b * 2 ^ b ≤ 2 ^ (n + 2 * b) := by
    rw [show n + 2 * b = n + b + b by omega, Nat.pow_add, Nat.pow_add]
    exact Nat.mul_le_mul_right _ (Nat.mul_le_mul_right _ (Nat.pow_le_pow_right (by omega) hk))
  rw [show 5 * b + n + 1 = 2 * b + 1 + b + (n + 2 * b) by omega, Nat.pow_add, Nat.pow_add]
  exact Nat.mul_le_mul (Nat.mul_le_mul_right _ h1) h3
theorem swi_bd {w a b n : Nat} {R cl rest : List (List Int)} (h : Swi w a b n R cl rest) : ∀ r, r ∈ cl ∨ r ∈ rest → ∀ j, (fn r j).natAbs ≤ 2 ^ (5 * b + n + 1) := by
  intro r hr j
  have pw : 2 ^ b ≤ 2 ^ (5 * b + n + 1) := Nat.pow_le_pow_right (by omega) (by omega)
  rcases h.bd with g | ⟨g1, l', os, M, e, g2⟩
  · exact Nat.le_trans (g r hr j) pw
  · rcases Nat.lt_trichotomy j a with hj | hj | hj
    · rw [h.low r hr j hj]
      exact Nat.zero_le _
    · subst hj
      rcases hr with hr | hr
      · rw [h.cz r hr]
        exact Nat.zero_le _
      · exact Nat.le_trans (h.lead r hr) pw
    · rcases hr with hr | hr
      · exact g1 r hr j hj
      · rw [e] at hr
        refine Nat.le_trans (g2.col (fn r) ?_ j hj) g2.le
        rcases List.mem_cons.mp hr with rfl | hr
        · exact List.mem_cons_self
        · exact List.mem_cons_of_mem _ (List.mem_map.mpr ⟨r, hr, rfl⟩)
/-- what the others become -/
def smr (a : Nat) (l : List Int) (xs : List (List Int)) : List (List Int) := xs.map fun r => lsl r l ((fn r a).fdiv (fn l a))
theorem smr_fn {w a : Nat} {l : List Int} {xs : List (List Int)} (hl : l.length = w) (hx : ∀ r ∈ xs, r.length = w) : (smr a l xs).map fn = (xs.map fn).map fun r => ls r (fn l) ((r a).fdiv (fn l a)) := by
  unfold smr
  rw [List.map_map, List.map_map]
  refine List.map_congr_left fun r hr => ?_
  show fn (lsl r l _) = _
  rw [fn_lsl (by rw [hx r hr, hl])]
  rfl
theorem swi_round {w a b n : Nat} {R cl rest xs : List (List Int)} {l : List Int} (hb : 1 ≤ b) (hn : R.length ≤ n) (h : Swi w a b n R cl rest) (pm : (l :: xs).Perm rest) (mn : ∀ r ∈ xs, (fn l a).natAbs ≤ (fn r a).natAbs) (hx : xs ≠ []) :
    Swi w a b n R (cl ++ zl a (smr a l xs)) (l :: nl a (smr a l xs)) ∧ mas a ((l :: nl a (smr a l xs)).map fn) < mas a (rest.map fn) := by
  have inr' : ∀ r, r ∈ l :: xs → r ∈ rest := fun r hr => pm.mem_iff.mp hr
  have ll : l.length = w := h.len l (.inr (inr' l List.mem_cons_self))
  have lx : ∀ r ∈ xs, r.length = w := fun r hr => h.len r (.inr (inr' r (List.mem_cons_of_mem _ hr)))
  have lz : fn l a ≠ 0 := h.rz l (inr' l List.mem_cons_self)
  have sf := smr_fn (a := a) ll lx
  have pmf : (fn l :: xs.map fn).Perm (rest.map fn) := by
    have := pm.map fn
    simpa using this
  have slen : ∀ r ∈ smr a l xs, r.length = w := by
    intro r hr
    obtain ⟨x, hx, rfl⟩ := List.mem_map.mp hr
    exact lsl_len (lx x hx) ll _
  have slow : ∀ r ∈ smr a l xs, ∀ j, j < a → fn r j = 0 := by
    intro r hr j hj
    obtain ⟨x, hx, rfl⟩ := List.mem_map.mp hr
    rw [fn_lsl (by rw [lx x hx, ll])]
    show fn x j - _ * fn l j = 0
    rw [h.low x (.inr (inr' x (List.mem_cons_of_mem _ hx))) j hj, h.low l (.inr (inr' l List.mem_cons_self)) j hj]
    simp
  have mnf : ∀ r ∈ xs.map fn, (fn l a).natAbs ≤ (r a).natAbs := by
    intro r hr
    obtain ⟨x, hx, rfl⟩ := List.mem_map.mp hr
    exact mn x hx
  have slead : ∀ r ∈ smr a l xs, (fn r a).natAbs < (fn l a).natAbs := by
    intro r hr
    obtain ⟨x, hx, rfl⟩ := List.mem_map.mp hr
    rw [fn_lsl (by rw [lx x hx, ll])]
    exact fmod_small lz
  have key : ∃ M, Pot a (2 ^ (5 * b + n + 1)) M (fn l) ((nl a (smr a l xs)).map fn) ∧ ∀ r ∈ smr a l xs, ∀ j, a < j → (fn r j).natAbs ≤ M := by
    rw [nl_fn, sf]
    rcases h.bd with g | ⟨g1, l', os, M, e, g2⟩
    · have q := pot_first (a := a) (B := 2 ^ b) (M := 2 ^ b) (l := fn l) (xs := xs.map fn) lz (fun r hr => by
        rcases List.mem_cons.mp hr with rfl | hr
        · exact g l (.inr (inr' l List.mem_cons_self)) a
        · obtain ⟨x, hx, rfl⟩ := List.mem_map.mp hr
          exact g x (.inr (inr' x (List.mem_cons_of_mem _ hx))) a) (fun r hr j _ => by
        rcases List.mem_cons.mp hr with rfl | hr
        · exact g l (.inr (inr' l List.mem_cons_self)) j
        · obtain ⟨x, hx, rfl⟩ := List.mem_map.mp hr
          exact g x (.inr (inr' x (List.mem_cons_of_mem _ hx))) j)
      refine ⟨_, q.1.up ?_, fun r hr j hj => ?_⟩
      · refine cap_le hb ?_
        rw [List.length_map]
        have h1 := pm.length_eq
        have h2 := h.sz
        rw [List.length_cons] at h1
        omega
      · obtain ⟨x, hx, rfl⟩ := List.mem_map.mp hr
        rw [fn_lsl (by rw [lx x hx, ll])]
        exact q.2 (fn x) (List.mem_map.mpr ⟨x, hx, rfl⟩) j hj
    · rw [e] at pmf
      have ho : os.map fn ≠ [] := by
        intro z
        have h1 := pmf.length_eq
        rw [List.map_cons, z, List.length_cons, List.length_map] at h1
        apply hx
        apply List.eq_nil_of_length_eq_zero
        simpa using h1
      obtain ⟨M', p1, p2, p3⟩ := pot_round g2 ho (by simpa using pmf) mnf
      refine ⟨M', p1, fun r hr j hj => ?_⟩
      obtain ⟨x, hx, rfl⟩ := List.mem_map.mp hr
      rw [fn_lsl (by rw [lx x hx, ll])]
      exact p2 (fn x) (List.mem_map.mpr ⟨x, hx, rfl⟩) j hj
  obtain ⟨M, pM, sM⟩ := key
  have clC : ∀ r ∈ cl, ∀ j, a < j → (fn r j).natAbs ≤ 2 ^ (5 * b + n + 1) := fun r hr j hj => swi_bd h r (.inl hr) j
  refine ⟨⟨?_, ?_, ?_, ?_, ?_, ?_, ?_, .inr ⟨?_, l, _, M, rfl, pM⟩⟩, ?_⟩
  · refine h.eqs.trans ?_
    have e1 : Eqs (In (cl.map fn ++ rest.map fn)) (In (cl.map fn ++ (fn l :: xs.map fn))) := eqs_in fun r => by
      rw [List.mem_append, List.mem_append, pmf.mem_iff]
    refine e1.trans ?_
    have e2 := sweep1 a (cl.map fn) (xs.map fn) (fn l) (fun r => (r a).fdiv (fn l a))
    rw [List.map_append, List.map_cons, zl_fn, nl_fn, sf]
    exact e2
  · rintro r (hr | hr)
    · rcases List.mem_append.mp hr with hr | hr
      · exact h.len r (.inl hr)
      · exact slen r (mem_zl.mp hr).1
    · rcases List.mem_cons.mp hr with rfl | hr
      · exact ll
      · exact slen r (mem_nl.mp hr).1
  · rintro r (hr | hr)
    · rcases List.mem_append.mp hr with hr | hr
      · exact h.low r (.inl hr)
      · exact slow r (mem_zl.mp hr).1
    · rcases List.mem_cons.mp hr with rfl | hr
      · exact h.low r (.inr (inr' r List.mem_cons_self))
      · exact slow r (mem_nl.mp hr).1
  · intro r hr
    rcases List.mem_append.mp hr with hr | hr
    · exact h.cz r hr
    · exact (mem_zl.mp hr).2
  · intro r hr
    rcases List.mem_cons.mp hr with rfl | hr
    · exact lz
    · exact (mem_nl.mp hr).2
  · have h1 := zn_len a (smr a l xs)
    have h2 := h.sz
    have h3 := pm.length_eq
    have h4 : (smr a l xs).length = xs.length := List.length_map _
    rw [List.length_append, List.length_cons]
    rw [List.length_cons] at h3
    omega
  · intro r hr
    rcases List.mem_cons.mp hr with rfl | hr
    · exact h.lead r (inr' r List.mem_cons_self)
    · have h1 := slead r (mem_nl.mp hr).1
      have h2 := h.lead l (inr' l List.mem_cons_self)
      omega
  · intro r hr j hj
    rcases List.mem_append.mp hr with hr | hr
    · exact clC r hr j hj
    · exact Nat.le_trans (sM r (mem_zl.mp hr).1 j hj) pM.le
  · have hx2 : xs.map fn ≠ [] := by simpa using hx
    have z := mas_round (a := a) (l := fn l) (os := xs.map fn) lz mnf hx2
    rw [List.map_cons, nl_fn, sf]
    refine Nat.lt_of_lt_of_le z (Nat.le_of_eq ?_)
    unfold mas
    exact (pmf.map _).sum_nat
theorem swi_none {w a b n : Nat} {R cl : List (List Int)} (h : Swi w a b n R cl []) : Swp a (R.map fn) none (cl.map fn) := swp_none h.eqs fun r hr => by
  obtain ⟨x, hx, rfl⟩ := List.mem_map.mp hr
  exact h.cz x hx
theorem swi_one {w a b n : Nat} {R cl : List (List Int)} {r : List Int} (h : Swi w a b n R cl [r]) : Swp a (R.map fn) (some (sgd (fn r) a)) (cl.map fn) := swp_one h.eqs (fun x hx => by
  obtain ⟨y, hy, rfl⟩ := List.mem_map.mp hx
  exact h.cz y hy) (h.rz r List.mem_cons_self)
end Hm
set_option maxRecDepth 100000
set_option maxHeartbeats 2000000
namespace K4
open PySem PySem.Spec PyProof.Rows L2
/-! rows that are told by their addresses -/
def RT (H : Hp) (x : Addr × List Int) : Prop := H x.1 = some (.tup (x.2.map V.int))
abbrev rf (rs : List (Addr × List Int)) : List V := rs.map fun x => V.ref x.1
abbrev rw_ (rs : List (Addr × List Int)) : List (List Int) := rs.map fun x => x.2
structure RL (H : Hp) (q : Addr) (rs : List (Addr × List Int)) : Prop where
  lst : H q = some (.lst (rf rs))
  row : ∀ x ∈ rs, RT H x
/-- a list or a tuple of rows -/
structure RI (K : PySem.W.Frag) (H : Hp) (q : Addr) (rs : List (Addr × List Int)) : Prop where
  seq : SqL K H q (rf rs) ∨ SqT K H q (rf rs)
  row : ∀ x ∈ rs, RT H x
theorem RL.ri {K : PySem.W.Frag} {H : Hp} {q : Addr} {rs : List (Addr × List Int)} (h : RL H q rs) : RI K H q rs := ⟨.inl (SqL.of h.lst), h.row⟩
theorem map_int_inj : ∀ {r s : List Int}, r.map V.int = s.map V.int → r = s
  | [], [], _ => rfl
  | [], _ :: _, h => nomatch h
  | _ :: _, [], h => nomatch h
  | x :: r, y :: s, h => by
    rw [List.map_cons, List.map_cons] at h
    injection h with h1 h2
    injection h1 with h1
    rw [h1, map_int_inj h2]
theorem RT.uniq {H : Hp} {x y : Addr × List Int} (h : RT H x) (g : RT H y) (e : x.1 = y.1) : x.2 = y.2 := by
  unfold RT at h g
  rw [e, g] at h
  injection h with h
  injection h with h
  exact (map_int_inj h).symm
theorem RT.ext {H H' : Hp} {x : Addr × List Int} (h : RT H x) (e : LamX.ExtN H H') : RT H' x := e _ _ h (fun ps z => nomatch z)
theorem RT.same {H H' : Hp} {x : Addr × List Int} (h : RT H x) (e : Same H H') : RT H' x := e _ _ h
theorem RL.ext {H H' : Hp} {q : Addr} {rs : List (Addr × List Int)} (h : RL H q rs) (e : LamX.ExtN H H') : RL H' q rs := ⟨e _ _ h.lst (fun ps z => nomatch z), fun x hx => (h.row x hx).ext e⟩
theorem RL.same {H H' : Hp} {q : Addr} {rs : List (Addr × List Int)} (h : RL H q rs) (e : Same H H') : RL H' q rs := ⟨e _ _ h.lst, fun x hx => (h.row x hx).same e⟩
theorem extN_of {H H' : Hp} (e : Same H H') : LamX.ExtN H H' := .of e
/-- what is new stays new before -/
theorem ext_free {H H' : Hp} (e : LamX.ExtN H H') {p : Addr} (h : H' p = none) : ∀ o, H p = some o → ∃ ps, o = .tbl ps := by
  intro o ho
  cases o with
  | tbl ps => exact ⟨ps, rfl⟩
  | _ =>
    exfalso
    have z := e _ _ ho (fun ps z => nomatch z)
    rw [h] at z
    cases z
/-- [e for x in xs if t]: both told by what x stands for -/
theorem lc_sel {α : Type} {rs : List α} {e out : α → V} {J : It} {G : Hp → Prop} (w : Walk J (rs.map e).length G (YAt (rs.map e))) {tt : TT} {te : TE} {σ : L2.St} {i : Nat} {H1 : Hp} {D : Addr} {Qd : Hp → Prop} (keep : α → Bool) (hlen : rs.length < sizeLine) (hD : H1 D = none)
    (hG : ∀ H2, Same H1 H2 → G H2)
    (ht : ∀ x H2 Q, x ∈ rs → Same H1 H2 → Q (keep x) H2 → tt ((σ.set i none).set i (some (e x))) H2 Q)
    (he : ∀ x H2 Q, x ∈ rs → keep x = true → Same H1 H2 → (∀ H3, Same H2 H3 → Q (out x) H3) → te ((σ.set i none).set i (some (e x))) H2 Q)
    (hd : ∀ H2, Same H1 H2 → H2 D = some (.lst ((rs.filter keep).map out)) → Qd H2) :
    ∃ W : Nat → Nat → Hp → Prop, (∃ m, W 0 m (upd H1 D (.lst []))) ∧ ∀ j m H, W j m H →
      (J.stop j H ∧ Qd H) ∨ (J.go j H ∧ ∃ Nx : Hp → Prop, (∀ H', Nx H' → ∃ m', m' < m ∧ W (j + 1) m' H') ∧ ∀ x H', J.yld j H x H' → gName i x (wipe σ [i]) H' fun σ2 H2 => wipe σ2 [i] = wipe σ [i] ∧ tt σ2 H2 fun b H3 =>
        if b = true then te σ2 H3 fun v H4 => ∃ ac, H4 D = some (.lst ac) ∧ ac.length < sizeLine ∧ Nx (upd H4 D (.lst (ac ++ [v]))) else Nx H3) := by
  refine lc_it w (fun j H2 => Same H1 H2 ∧ H2 D = some (.lst (((rs.take j).filter keep).map out))) ⟨same_new hD, upd_same⟩ (fun j H2 _ h => hG H2 h.1) ?_ (fun H2 h => hd H2 h.1 (by have z := h.2; rw [List.length_map, List.take_length] at z; exact z))
  rintro j v H2 H2' hj ⟨sm, hd2⟩ ⟨rfl, hx⟩
  rw [List.getElem?_map] at hx
  obtain ⟨x, hx0, rfl⟩ := Option.map_eq_some_iff.mp hx
  have hm : x ∈ rs := List.mem_of_getElem? hx0
  refine ⟨?_, ?_⟩
  · show (((σ.set i none).set i (some (e x))).set i none) = σ.set i none
    rw [List.set_set, List.set_set]
  · refine ht x _ _ hm sm ?_
    have tk := take_more hx0
    cases hk : keep x with
    | true =>
      refine iteT (he x _ _ hm hk sm fun H3 s3 => ⟨_, s3 _ _ hd2, ?_, ?_, ?_⟩)
      · rw [List.length_map]
        exact Nat.lt_of_le_of_lt (Nat.le_trans (List.length_filter_le _ _) (by rw [List.length_take]; omega)) hlen
      · intro b o e
        rw [upd_ne (ne_of_none e hD)]
        exact s3 _ _ (sm _ _ e)
      · rw [upd_same, tk, List.filter_append, List.map_append]
        simp [hk]
    | false =>
      refine iteF ⟨sm, ?_⟩
      rw [hd2, tk, List.filter_append]
      simp [hk]
/-- [e for x in xs], each e a new row -/
theorem lc_rows {α : Type} {rs : List α} {e : α → V} {J : It} {G : Hp → Prop} (w : Walk J (rs.map e).length G (YAt (rs.map e))) {te : TE} {σ : L2.St} {i : Nat} {H1 : Hp} {D : Addr} {Qd : Hp → Prop} (f : α → List Int) (hlen : rs.length < sizeLine) (hD : H1 D = none)
    (hG : ∀ H2, Same H1 H2 → G H2)
    (he : ∀ x H2 Q, x ∈ rs → Same H1 H2 → (∀ H3 p, Same H2 H3 → H3 p = some (.tup ((f x).map V.int)) → Q (.ref p) H3) → te ((σ.set i none).set i (some (e x))) H2 Q)
    (hd : ∀ H2 ys, Same H1 H2 → RL H2 D ys → rw_ ys = rs.map f → Qd H2) :
    ∃ W : Nat → Nat → Hp → Prop, (∃ m, W 0 m (upd H1 D (.lst []))) ∧ ∀ j m H, W j m H →
      (J.stop j H ∧ Qd H) ∨ (J.go j H ∧ ∃ Nx : Hp → Prop, (∀ H', Nx H' → ∃ m', m' < m ∧ W (j + 1) m' H') ∧ ∀ x H', J.yld j H x H' → gName i x (wipe σ [i]) H' fun σ2 H2 => wipe σ2 [i] = wipe σ [i] ∧ tYes σ2 H2 fun b H3 =>
        if b = true then te σ2 H3 fun v H4 => ∃ ac, H4 D = some (.lst ac) ∧ ac.length < sizeLine ∧ Nx (upd H4 D (.lst (ac ++ [v]))) else Nx H3) := by
  refine lc_it w (fun j H2 => Same H1 H2 ∧ ∃ ys, RL H2 D ys ∧ rw_ ys = (rs.take j).map f) ⟨same_new hD, [], ⟨upd_same, fun x hx => nomatch hx⟩, rfl⟩ (fun j H2 _ h => hG H2 h.1) ?_ (fun H2 h => by
    obtain ⟨h1, ys, h2, h3⟩ := h
    rw [List.length_map, List.take_length] at h3
    exact hd H2 ys h1 h2 h3)
  rintro j v H2 H2' hj ⟨sm, ys, hR, hy⟩ ⟨rfl, hx⟩
  rw [List.getElem?_map] at hx
  obtain ⟨x, hx0, rfl⟩ := Option.map_eq_some_iff.mp hx
  have hm : x ∈ rs := List.mem_of_getElem? hx0
  refine ⟨?_, ?_⟩
  · show (((σ.set i none).set i (some (e x))).set i none) = σ.set i none
    rw [List.set_set, List.set_set]
  · dsimp only [tYes]
    rw [if_pos rfl]
    refine he x _ _ hm sm fun H3 p s3 hp => ⟨_, s3 _ _ hR.lst, ?_, ?_, ys ++ [(p, f x)], ⟨?_, ?_⟩, ?_⟩
    · have h1 : (rw_ ys).length = ((rs.take j).map f).length := by rw [hy]
      rw [List.length_map, List.length_map, List.length_take] at h1
      rw [List.length_map]
      omega
    · intro b o e
      rw [upd_ne (ne_of_none e hD)]
      exact s3 _ _ (sm _ _ e)
    · rw [upd_same]
      show some (HO.lst (List.map (fun x => V.ref x.1) ys ++ [V.ref p])) = some (HO.lst (List.map (fun x => V.ref x.1) (ys ++ [(p, f x)])))
      rw [List.map_append]
      rfl
    · intro y hy2
      have at3 : RT H3 y := by
        rcases List.mem_append.mp hy2 with h | h
        · exact (hR.row y h).same s3
        · obtain rfl := List.mem_singleton.mp h
          exact hp
      have nD : y.1 ≠ D := by
        intro z
        have e1 := s3 _ _ hR.lst
        unfold RT at at3
        rw [z, e1] at at3
        cases at3
      unfold RT
      rw [upd_ne nD]
      exact at3
    · show List.map (fun x => x.2) (ys ++ [(p, f x)]) = _
      have hy : List.map (fun x => x.2) ys = (rs.take j).map f := hy
      rw [take_more hx0, List.map_append, List.map_append, hy]
      rfl
/-- a list in another order, as the things that it stands for -/
theorem perm_lift {α β : Type} {e : α → β} : ∀ {ys : List β} {zs : List β}, ys.Perm zs → ∀ rs : List α, zs = rs.map e → ∃ rs' : List α, rs'.Perm rs ∧ ys = rs'.map e := by
  intro ys zs h
  induction h with
  | nil => intro rs h; exact ⟨rs, .refl _, h⟩
  | cons x h ih =>
    intro rs hz
    cases rs with
    | nil => cases hz
    | cons r rs =>
      rw [List.map_cons] at hz
      injection hz with h1 h2
      obtain ⟨rs', p, q⟩ := ih rs h2
      exact ⟨r :: rs', p.cons _, by rw [List.map_cons, h1, q]⟩
  | swap x y l =>
    intro rs hz
    cases rs with
    | nil => cases hz
    | cons r rs =>
      cases rs with
      | nil => rw [List.map_cons] at hz; injection hz with _ h2; cases h2
      | cons s rs =>
        rw [List.map_cons, List.map_cons] at hz
        injection hz with h1 h2
        injection h2 with h2 h3
        exact ⟨s :: r :: rs, .swap _ _ _, by rw [List.map_cons, List.map_cons, h1, h2, h3]⟩
  | trans h1 h2 ih1 ih2 =>
    intro rs hz
    obtain ⟨r1, p1, q1⟩ := ih2 rs hz
    obtain ⟨r2, p2, q2⟩ := ih1 r1 q1
    exact ⟨r2, p2.trans p1, q2⟩
end K4
set_option maxRecDepth 100000
set_option maxHeartbeats 2000000
namespace K4
open PySem PySem.Spec PyProof.Rows L2
/-! a def that is called by its name -/
structure Cb (P : Program) (w : World) (K : PySem.W.Frag) (mg : Str → Option Value) (base : Heap) (CX : CXT) (k : Nat) (x : Str) (ps : List Str) (sp : Sp) (f : Addr) (fd : FuncData) : Prop where
  ok : FnOk P w K mg base CX k f fd ps sp
  kp : PySem.W.keepIn K (.ref f) = true
  b : Binds K fd ps []
  g : mg x = some (.ref f)
abbrev NS : List Str := ["rows", "at", "clear", "rest", "ordered", "least", "smaller", "row"]
abbrev NS' : List Str := ["rows", "at", "clear", "rest", "ordered", "least", "smaller", "-"]
theorem scSwept : FnScope NS ["rows", "at"] (defScope sSwept) := ⟨rfl, rfl, rfl, by decide +kernel, rfl, by decide +kernel, by decide +kernel⟩
def whileBody : Stmt → List Stmt
  | .While _ b _ _ => b
  | _ => []
abbrev sw (i : Nat) : Stmt := (defBody sSwept).getD i (.Pass ⟨0, 0, 0, 0⟩)
def swb : List Stmt := whileBody (sw 2)
abbrev sb (i : Nat) : Stmt := swb.getD i (.Pass ⟨0, 0, 0, 0⟩)
def qS : Str := (envOfC "swept" (defScope sSwept) 0 0 .none).qual ++ "<lambda>"
/-- the context of its body -/
abbrev XS (P : Program) (w : World) (K : PySem.W.Frag) (mg : Str → Option Value) (base : Heap) (f c : Addr) (A : Around) (outer : List Env) (s : Shared) (H : Hp) (E : XK) : Cx := (cxOf CX0 P w K mg base NS "swept" (defScope sSwept) f (.ref c) A outer s H E).nox
section
variable {P : Program} {w : World} {K : PySem.W.Frag} {mg : Str → Option Value} {base : Heap}
variable {f c Pt fL fP : Addr} {fdL fdP : FuncData} {A : Around} {outer : List Env} {s : Shared} {H : Hp} {E : XK} {T : List (Addr × Str)}
theorem w0 (kd : Bool) : ∃ t, PS (XS P w K mg base f c A outer s H E) (sw 0) t ∧ ∀ (D : Ends) (H0 : Hp) (l : Addr) (rs : List (Addr × List Int)) (a : Nat) (y2 y3 y4 y5 y6 : Option V), (if kd then SqL K H0 l (rf rs) else SqT K H0 l (rf rs)) → (∀ x ∈ rs, RT H0 x) → (∀ x ∈ rs, a < x.2.length) → rs.length ≤ 1000 →
    (∀ H' q, Same H0 H' → H0 q = none → RL H' q (rs.filter fun x => decide (Hm.fn x.2 a = 0)) → D.nx [some (.ref l), some (.int (a : Nat)), some (.ref q), y3, y4, y5, y6, none] H') → t D [some (.ref l), some (.int (a : Nat)), y2, y3, y4, y5, y6, none] H0 := by
  cases kd with
  | true =>
    refine ⟨_, ps_setLc (i := 2) (own := [("row", 7)]) (g := gName 7) (tt := tTest (tOp rEq (tOp (rIxT K) (tVar 7) (tVar 1)) (tC (.int 0)))) (te := tVar 7) rfl scSwept.nd rfl rfl (sw_true rfl rfl rfl (by decide +kernel)) (pi_list (pv 0))
      (blkOk_by (N := NS) (sc := defScope sSwept) (by decide +kernel)) (fun _ _ _ _ _ => pg_name (i := 7) scSwept.nd rfl (Or.inl rfl)) (fun _ _ _ _ _ => pts_one (pt_cmpR op_eq (pe_ix ix_tup (pv 7) (pv 1) (fun _ _ => rfl)) pe_int (nomark _)))
      (fun _ _ _ _ _ => pv 7), ?_⟩
    intro D H0 l rs a y2 y3 y4 y5 y6 hq hrow hlen h1000 nx
    have hq : SqL K H0 l (rf rs) := hq
    refine ⟨_, rfl, l, rfl, ⟨_, hq⟩, fun q nq => ?_⟩
    refine lc_sel (e := fun x => V.ref x.1) (out := fun x => V.ref x.1) (walk_list (K := K) (a := l)) (σ := [some (.ref l), some (.int (a : Nat)), y2, y3, y4, y5, y6, none]) (i := 7) (fun x => decide (Hm.fn x.2 a = 0)) (Nat.lt_of_le_of_lt h1000 (by decide)) nq (fun H2 s2 => sqL_ext s2 hq) ?_ ?_ ?_
    · intro x H2 Q hx s2 hQ
      refine ⟨_, rfl, _, rfl, x.1, _, (a : Int), _, rfl, rfl, SqT.of ((hrow x hx).same s2), row_at (hlen x hx), rfl, _, rfl, ?_⟩
      have e : decide (V.int (x.2.getD a 0) = V.int 0) = decide (Hm.fn x.2 a = 0) := by
        rw [dec_int]
        exact (Bool.beq_eq_decide_eq _ _)
      rw [e]
      exact hQ
    · intro x H2 Q hx _ s2 hQ
      exact ⟨_, rfl, hQ H2 (Same.refl _)⟩
    · intro H2 s2 hq2
      exact nx H2 q s2 nq ⟨hq2, fun x hx => (hrow x (List.mem_filter.mp hx).1).same s2⟩
  | false =>
    refine ⟨_, ps_setLc (i := 2) (own := [("row", 7)]) (g := gName 7) (tt := tTest (tOp rEq (tOp (rIxT K) (tVar 7) (tVar 1)) (tC (.int 0)))) (te := tVar 7) rfl scSwept.nd rfl rfl (sw_true rfl rfl rfl (by decide +kernel)) (pi_tup (pv 0))
      (blkOk_by (N := NS) (sc := defScope sSwept) (by decide +kernel)) (fun _ _ _ _ _ => pg_name (i := 7) scSwept.nd rfl (Or.inl rfl)) (fun _ _ _ _ _ => pts_one (pt_cmpR op_eq (pe_ix ix_tup (pv 7) (pv 1) (fun _ _ => rfl)) pe_int (nomark _)))
      (fun _ _ _ _ _ => pv 7), ?_⟩
    intro D H0 l rs a y2 y3 y4 y5 y6 hq hrow hlen h1000 nx
    have hq : SqT K H0 l (rf rs) := hq
    refine ⟨_, rfl, l, rfl, ⟨_, hq⟩, fun q nq => ?_⟩
    refine lc_sel (e := fun x => V.ref x.1) (out := fun x => V.ref x.1) (walk_tup (K := K) (a := l)) (σ := [some (.ref l), some (.int (a : Nat)), y2, y3, y4, y5, y6, none]) (i := 7) (fun x => decide (Hm.fn x.2 a = 0)) (Nat.lt_of_le_of_lt h1000 (by decide)) nq (fun H2 s2 => Rs.sqT_ext s2 hq) ?_ ?_ ?_
    · intro x H2 Q hx s2 hQ
      refine ⟨_, rfl, _, rfl, x.1, _, (a : Int), _, rfl, rfl, SqT.of ((hrow x hx).same s2), row_at (hlen x hx), rfl, _, rfl, ?_⟩
      have e : decide (V.int (x.2.getD a 0) = V.int 0) = decide (Hm.fn x.2 a = 0) := by
        rw [dec_int]
        exact (Bool.beq_eq_decide_eq _ _)
      rw [e]
      exact hQ
    · intro x H2 Q hx _ s2 hQ
      exact ⟨_, rfl, hQ H2 (Same.refl _)⟩
    · intro H2 s2 hq2
      exact nx H2 q s2 nq ⟨hq2, fun x hx => (hrow x (List.mem_filter.mp hx).1).same s2⟩
end
end K4
set_option maxRecDepth 100000
set_option maxHeartbeats 2000000
namespace K4
open PySem PySem.Spec PyProof.Rows L2
section
variable {P : Program} {w : World} {K : PySem.W.Frag} {mg : Str → Option Value} {base : Heap}
variable {f c Pt fL fP : Addr} {fdL fdP : FuncData} {A : Around} {outer : List Env} {s : Shared} {H : Hp} {E : XK} {T : List (Addr × Str)}
theorem w1 (kd : Bool) : ∃ t, PS (XS P w K mg base f c A outer s H E) (sw 1) t ∧ ∀ (D : Ends) (H0 : Hp) (l : Addr) (rs : List (Addr × List Int)) (a : Nat) (y2 y3 y4 y5 y6 : Option V), (if kd then SqL K H0 l (rf rs) else SqT K H0 l (rf rs)) → (∀ x ∈ rs, RT H0 x) → (∀ x ∈ rs, a < x.2.length) → rs.length ≤ 1000 →
    (∀ H' q, Same H0 H' → H0 q = none → RL H' q (rs.filter fun x => decide (Hm.fn x.2 a ≠ 0)) → D.nx [some (.ref l), some (.int (a : Nat)), y2, some (.ref q), y4, y5, y6, none] H') → t D [some (.ref l), some (.int (a : Nat)), y2, y3, y4, y5, y6, none] H0 := by
  cases kd with
  | true =>
    refine ⟨_, ps_setLc (i := 3) (own := [("row", 7)]) (g := gName 7) (tt := tTest (tOp rNe (tOp (rIxT K) (tVar 7) (tVar 1)) (tC (.int 0)))) (te := tVar 7) rfl scSwept.nd rfl rfl (sw_true rfl rfl rfl (by decide +kernel)) (pi_list (pv 0))
      (blkOk_by (N := NS) (sc := defScope sSwept) (by decide +kernel)) (fun _ _ _ _ _ => pg_name (i := 7) scSwept.nd rfl (Or.inl rfl)) (fun _ _ _ _ _ => pts_one (pt_cmpR op_ne (pe_ix ix_tup (pv 7) (pv 1) (fun _ _ => rfl)) pe_int (nomark _)))
      (fun _ _ _ _ _ => pv 7), ?_⟩
    intro D H0 l rs a y2 y3 y4 y5 y6 hq hrow hlen h1000 nx
    have hq : SqL K H0 l (rf rs) := hq
    refine ⟨_, rfl, l, rfl, ⟨_, hq⟩, fun q nq => ?_⟩
    refine lc_sel (e := fun x => V.ref x.1) (out := fun x => V.ref x.1) (walk_list (K := K) (a := l)) (σ := [some (.ref l), some (.int (a : Nat)), y2, y3, y4, y5, y6, none]) (i := 7) (fun x => decide (Hm.fn x.2 a ≠ 0)) (Nat.lt_of_le_of_lt h1000 (by decide)) nq (fun H2 s2 => sqL_ext s2 hq) ?_ ?_ ?_
    · intro x H2 Q hx s2 hQ
      refine ⟨_, rfl, _, rfl, x.1, _, (a : Int), _, rfl, rfl, SqT.of ((hrow x hx).same s2), row_at (hlen x hx), rfl, _, rfl, ?_⟩
      have e : (!decide (V.int (x.2.getD a 0) = V.int 0)) = decide (Hm.fn x.2 a ≠ 0) := by
        rw [dec_int]
        show (!(Hm.fn x.2 a == 0)) = _
        rw [Bool.beq_eq_decide_eq]
        exact (decide_not).symm
      rw [e]
      exact hQ
    · intro x H2 Q hx _ s2 hQ
      exact ⟨_, rfl, hQ H2 (Same.refl _)⟩
    · intro H2 s2 hq2
      exact nx H2 q s2 nq ⟨hq2, fun x hx => (hrow x (List.mem_filter.mp hx).1).same s2⟩
  | false =>
    refine ⟨_, ps_setLc (i := 3) (own := [("row", 7)]) (g := gName 7) (tt := tTest (tOp rNe (tOp (rIxT K) (tVar 7) (tVar 1)) (tC (.int 0)))) (te := tVar 7) rfl scSwept.nd rfl rfl (sw_true rfl rfl rfl (by decide +kernel)) (pi_tup (pv 0))
      (blkOk_by (N := NS) (sc := defScope sSwept) (by decide +kernel)) (fun _ _ _ _ _ => pg_name (i := 7) scSwept.nd rfl (Or.inl rfl)) (fun _ _ _ _ _ => pts_one (pt_cmpR op_ne (pe_ix ix_tup (pv 7) (pv 1) (fun _ _ => rfl)) pe_int (nomark _)))
      (fun _ _ _ _ _ => pv 7), ?_⟩
    intro D H0 l rs a y2 y3 y4 y5 y6 hq hrow hlen h1000 nx
    have hq : SqT K H0 l (rf rs) := hq
    refine ⟨_, rfl, l, rfl, ⟨_, hq⟩, fun q nq => ?_⟩
    refine lc_sel (e := fun x => V.ref x.1) (out := fun x => V.ref x.1) (walk_tup (K := K) (a := l)) (σ := [some (.ref l), some (.int (a : Nat)), y2, y3, y4, y5, y6, none]) (i := 7) (fun x => decide (Hm.fn x.2 a ≠ 0)) (Nat.lt_of_le_of_lt h1000 (by decide)) nq (fun H2 s2 => Rs.sqT_ext s2 hq) ?_ ?_ ?_
    · intro x H2 Q hx s2 hQ
      refine ⟨_, rfl, _, rfl, x.1, _, (a : Int), _, rfl, rfl, SqT.of ((hrow x hx).same s2), row_at (hlen x hx), rfl, _, rfl, ?_⟩
      have e : (!decide (V.int (x.2.getD a 0) = V.int 0)) = decide (Hm.fn x.2 a ≠ 0) := by
        rw [dec_int]
        show (!(Hm.fn x.2 a == 0)) = _
        rw [Bool.beq_eq_decide_eq]
        exact (decide_not).symm
      rw [e]
      exact hQ
    · intro x H2 Q hx _ s2 hQ
      exact ⟨_, rfl, hQ H2 (Same.refl _)⟩
    · intro H2 s2 hq2
      exact nx H2 q s2 nq ⟨hq2, fun x hx => (hrow x (List.mem_filter.mp hx).1).same s2⟩
def lamOf : Stmt → Expr
  | .Assign _ (.Call _ _ [⟨_, e, _⟩] _) _ => e
  | _ => .Name "" ⟨0, 0, 0, 0⟩
def lamP : Expr → Arguments
  | .Lambda p _ _ _ => p
  | _ => ⟨[], [], none, [], [], none, []⟩
def lamE : Expr → Expr
  | .Lambda _ b _ _ => b
  | e => e
def lamS : Expr → Scope
  | .Lambda _ _ s _ => s
  | _ => default
theorem bindR : Rs.LamBind1 "row" (lamP (lamOf (sb 0))) (lamE (lamOf (sb 0))) (lamS (lamOf (sb 0))) := ⟨rfl, fun z q cl doc pm cv ctv u => .of_eq rfl⟩
theorem lam_ok (B : Bn mg) : Rs.Lam1 (Rs.Cx.ren (XS P w K mg base f c A outer s H E) NS') 0 "row" (lamP (lamOf (sb 0))) (lamE (lamOf (sb 0))) (lamS (lamOf (sb 0))) (fun σ H Q => tOp (rIxT K) (tVar 8) (tVar 1) σ H fun v H1 => ∃ i, [v] = [V.int i] ∧ Q (.int (if i < 0 then -i else i)) H1) := by
  refine ⟨Rs.lamQ_by (N := NS') (sc := defScope sSwept) (by decide +kernel), bindR, rfl, fun A2 outer2 z G f2 c2 hr2 => ?_⟩
  exact pe_callB call_abs (by rfl) B.abs boot_abs (pa_cons (pe_ix (show IxR _ (rIxT K) from ix_tup) (pv 8) (pv 1) (fun _ _ => rfl)) pa_nil)
end
end K4
set_option maxRecDepth 100000
set_option maxHeartbeats 2000000
namespace K4
open PySem PySem.Spec PyProof.Rows L2
/-- the key of a row, by its address -/
def keyOf (rs : List (Addr × List Int)) (a : Nat) (v : V) : Int := match rs.find? (fun x => decide (V.ref x.1 = v)) with
  | some x => ((Hm.fn x.2 a).natAbs : Int)
  | none => 0
theorem key_at {H : Hp} {rs : List (Addr × List Int)} {a : Nat} {x : Addr × List Int} (hrow : ∀ x ∈ rs, RT H x) (hx : x ∈ rs) : keyOf rs a (.ref x.1) = ((Hm.fn x.2 a).natAbs : Int) := by
  unfold keyOf
  cases h : rs.find? (fun y => decide (V.ref y.1 = V.ref x.1)) with
  | none =>
    have := List.find?_eq_none.mp h x hx
    simp at this
  | some y =>
    have h1 := List.find?_some h
    have h2 := List.mem_of_find?_eq_some h
    have h3 : y.1 = x.1 := by
      have := of_decide_eq_true h1
      injection this
    dsimp only
    rw [RT.uniq (hrow y h2) (hrow x hx) h3]
theorem abs_nat (i : Int) : (if i < 0 then -i else i) = (i.natAbs : Int) := by
  split <;> omega
section
variable {P : Program} {w : World} {K : PySem.W.Frag} {mg : Str → Option Value} {base : Heap}
variable {f c Pt fL fP : Addr} {fdL fdP : FuncData} {A : Around} {outer : List Env} {s : Shared} {H : Hp} {E : XK} {T : List (Addr × Str)}
theorem b0 (B : Bn mg) (TB : LamX.TabB base mg c Pt) (hm : (Pt, qS) ∈ T) (hu : ∀ p ∈ T, p.1 = Pt → p.2 = qS) (hr : Room 3 (A.deeper (envOfC "swept" (defScope sSwept) s.heap.objs.size f (.ref c)))) :
    ∃ t, PS (XS P w K mg base f c A outer s H E) (sb 0) t ∧ ∀ (D : Ends) (H0 : Hp) (q : Addr) (rs : List (Addr × List Int)) (a : Nat) (y0 y2 y4 y5 y6 : Option V), LamX.Tabs T H0 → RL H0 q rs → (∀ x ∈ rs, a < x.2.length) →
      (∀ H' p rs', LamX.ExtN H0 H' → LamX.Tabs T H' → RL H' p rs' → rs'.Perm rs → rs'.Pairwise (fun x y => (Hm.fn x.2 a).natAbs ≤ (Hm.fn y.2 a).natAbs) → D.nx [y0, some (.int (a : Nat)), y2, some (.ref q), some (.ref p), y5, y6, none] H') →
      t D [y0, some (.int (a : Nat)), y2, some (.ref q), y4, y5, y6, none] H0 := by
  refine ⟨_, ps_set (i := 4) scSwept.nd rfl (.inl rfl) (Rs.pe_ren NS' (Rs.e_sortL (X := Rs.Cx.ren (XS P w K mg base f c A outer s H E) NS') (T := T) (c := c) (P := Pt) (k := 0) rfl (by rfl) B.sorted boot_sorted (pv 3) TB rfl hm hu rfl (lam_ok B) hr)), ?_⟩
  intro D H0 q rs a y0 y2 y4 y5 y6 hT hR hlen nx
  refine ⟨⟨rfl, fun i hi => ?_⟩, _, rfl, q, _, keyOf rs a, rfl, hT, SqL.of hR.lst, ?_, ?_⟩
  · match i, hi with
    | 0, h => exact absurd rfl h
    | 1, h => exact absurd rfl h
    | 2, h => exact absurd rfl h
    | 3, h => exact absurd rfl h
    | 4, h => exact absurd rfl h
    | 5, h => exact absurd rfl h
    | 6, h => exact absurd rfl h
    | 7, h => rfl
    | (n + 8), h => exact absurd rfl h
  · intro v hv G eG
    obtain ⟨x, hx, rfl⟩ := List.mem_map.mp hv
    have hxr := hR.row x hx
    refine ⟨_, rfl, _, rfl, x.1, _, (a : Int), _, rfl, rfl, SqT.of (hxr.ext eG), row_at (hlen x hx), _, rfl, ?_, rfl⟩
    rw [abs_nat, key_at hR.row hx]
    rfl
  · intro ys p H3 pm pw _ e3 t3 hp
    obtain ⟨rs', pm', rfl⟩ := perm_lift (e := fun x : Addr × List Int => V.ref x.1) pm rs rfl
    have row3 : ∀ x ∈ rs', RT H3 x := fun x hx => (hR.row x (pm'.mem_iff.mp hx)).ext e3
    refine nx H3 p rs' e3 t3 ⟨hp, row3⟩ pm' ?_
    rw [List.pairwise_map] at pw
    refine List.Pairwise.imp_of_mem ?_ pw
    intro x y hx hy h
    rw [key_at hR.row (pm'.mem_iff.mp hx), key_at hR.row (pm'.mem_iff.mp hy)] at h
    omega
theorem b1 : ∃ t, PS (XS P w K mg base f c A outer s H E) (sb 1) t ∧ ∀ (D : Ends) (H0 : Hp) (p : Addr) (x : Addr × List Int) (rs : List (Addr × List Int)) (y0 y1 y2 y3 y5 y6 : Option V), RL H0 p (x :: rs) →
      D.nx [y0, y1, y2, y3, some (.ref p), some (.ref x.1), y6, none] H0 → t D [y0, y1, y2, y3, some (.ref p), y5, y6, none] H0 := by
  refine ⟨_, ps_set (i := 5) scSwept.nd rfl (.inr rfl) (pe_ix ix_list (pv 4) pe_int (fun _ _ => rfl)), ?_⟩
  intro D H0 p x rs y0 y1 y2 y3 y5 y6 hR nx
  exact ⟨_, rfl, p, _, 0, _, rfl, rfl, SqL.of hR.lst, atI_nat (j := 0) rfl, nx⟩
theorem cut_tail (xs : List V) (x : V) : cutV (x :: xs) (some 1) none = xs := by
  unfold cutV
  rw [HT.sIx_none, show (1 : Int) = ((1 : Nat) : Int) from rfl, HT.sIx_nat, List.length_cons]
  have e : min 1 (xs.length + 1) = 1 := by omega
  rw [e]
  show (xs.take (xs.length + 1 - 1)) = xs
  rw [Nat.add_sub_cancel, List.take_length]
theorem b2 (cL : Cb P w K mg base CX0 1 "less" ["row", "other", "times"] (spLess K) fL fdL) (hr : Room 3 (A.deeper (envOfC "swept" (defScope sSwept) s.heap.objs.size f (.ref c)))) :
    ∃ t, PS (XS P w K mg base f c A outer s H E) (sb 2) t ∧ ∀ (D : Ends) (H0 : Hp) (p : Addr) (l : Addr × List Int) (rs : List (Addr × List Int)) (n a b : Nat) (y0 y2 y3 y6 : Option V), RL H0 p (l :: rs) → (∀ x ∈ l :: rs, x.2.length = n) → a < n → n ≤ 3 → b ≤ 8000 → (∀ x ∈ l :: rs, ∀ j, (Hm.fn x.2 j).natAbs < 2 ^ (b + 1)) → Hm.fn l.2 a ≠ 0 → rs.length ≤ 1000 →
      (∀ H' q ys, Same H0 H' → RL H' q ys → rw_ ys = Hm.smr a l.2 (rw_ rs) → D.nx [y0, some (.int (a : Nat)), y2, y3, some (.ref p), some (.ref l.1), some (.ref q), none] H') → t D [y0, some (.int (a : Nat)), y2, y3, some (.ref p), some (.ref l.1), y6, none] H0 := by
  have r1 : Room 1 (A.deeper (envOfC "swept" (defScope sSwept) s.heap.objs.size f (.ref c))) := hr.mono (by decide)
  refine ⟨_, ps_setLc (i := 6) (own := [("row", 7)]) (g := gName 7) (tt := tYes) (te := tCall (spLess K) [] E0 (tCons (tVar 7) (tCons (tVar 5) (tCons (tOp (rI (fun _ j => j ≠ 0 ∧ j.natAbs.log2 < 9000) fun i j => .int (i.fdiv j)) (tOp (rIxT K) (tVar 7) (tVar 1)) (tOp (rIxT K) (tVar 5) (tVar 1))) tNil)))) rfl scSwept.nd rfl rfl (sw_true rfl rfl rfl (by decide +kernel)) (pi_list (pe_slice sl_list (pv 4) (po_some pe_int) po_none))
      (blkOk_by (N := NS) (sc := defScope sSwept) (by decide +kernel)) (fun _ _ _ _ _ => pg_name (i := 7) scSwept.nd rfl (Or.inl rfl)) (fun _ _ _ _ _ => pts_nil)
      (fun _ _ _ _ _ => pe_call cL.ok r1 (by rfl) cL.g cL.kp cL.b .nil pass0 (pa_cons (pv 7) (pa_cons (pv 5) (pa_cons (pe_op Rs.op_fdivF (pe_ix ix_tup (pv 7) (pv 1) (fun _ _ => rfl)) (pe_ix ix_tup (pv 5) (pv 1) (fun _ _ => rfl))) pa_nil)))), ?_⟩
  intro D H0 p l rs n a b y0 y2 y3 y6 hR hlen ha hn hb hbd hz h1000 nx
  refine ⟨_, rfl, _, rfl, p, _, rfl, SqL.of hR.lst, fun q0 nq0 => ?_⟩
  have s0 := same_new (o := .lst (cutV (rf (l :: rs)) (some 1) none)) nq0
  have ec : cutV (rf (l :: rs)) (some 1) none = rf rs := cut_tail _ _
  rw [ec] at s0 ⊢
  refine ⟨q0, rfl, ⟨_, SqL.of upd_same⟩, fun D2 nD2 => ?_⟩
  have hl0 : RT H0 l := hR.row l List.mem_cons_self
  refine lc_rows (e := fun x : Addr × List Int => V.ref x.1) (walk_list (K := K) (a := q0)) (te := tCall (spLess K) [] E0 (tCons (tVar 7) (tCons (tVar 5) (tCons (tOp (rI (fun _ j => j ≠ 0 ∧ j.natAbs.log2 < 9000) fun i j => .int (i.fdiv j)) (tOp (rIxT K) (tVar 7) (tVar 1)) (tOp (rIxT K) (tVar 5) (tVar 1))) tNil)))) (σ := [y0, some (.int (a : Nat)), y2, y3, some (.ref p), some (.ref l.1), y6, none]) (i := 7) (fun x => Hm.lsl x.2 l.2 ((Hm.fn x.2 a).fdiv (Hm.fn l.2 a))) (Nat.lt_of_le_of_lt h1000 (by decide)) nD2 (fun H2 s2 => SqL.of (s2 _ _ upd_same)) ?_ ?_
  · intro x H2 Q hx s2 hQ
    have s02 : Same H0 H2 := s0.trans s2
    have hxm : x ∈ l :: rs := List.mem_cons_of_mem _ hx
    have hxr := (hR.row x hxm).same s02
    have hlr := hl0.same s02
    have lb : (Hm.fn l.2 a).natAbs < 2 ^ (b + 1) := hbd l List.mem_cons_self a
    refine ⟨_, rfl, _, rfl, _, rfl, _, rfl, x.1, _, (a : Int), _, rfl, rfl, SqT.of hxr, row_at (by rw [hlen x hxm]; exact ha), _, rfl, _, rfl, l.1, _, (a : Int), _, rfl, rfl, SqT.of hlr, row_at (by rw [hlen l List.mem_cons_self]; exact ha), _, _, rfl, rfl, ⟨hz, ?_⟩, x.1, l.1, x.2, l.2, (Hm.fn x.2 a).fdiv (Hm.fn l.2 a), rfl, SqT.of hxr, SqT.of hlr, ?_, ?_, ?_, fun H3 p3 s3 np3 hp3 => hQ H3 p3 s3 hp3⟩
    · exact Nat.lt_of_lt_of_le (PySem.Flt.log2_lt_of (by omega) lb) (by omega)
    · rw [hlen x hxm, hlen l List.mem_cons_self]
    · rw [hlen x hxm]
      exact hn
    · intro y hy
      have hq : ((Hm.fn x.2 a).fdiv (Hm.fn l.2 a)).natAbs < 2 ^ (b + 2) := by
        have h1 := (Hm.rest_sign (x := Hm.fn x.2 a) hz).2.2
        have h2 := hbd x hxm a
        have h3 : 2 ^ (b + 2) = 2 ^ (b + 1) + 2 ^ (b + 1) := by rw [Nat.pow_succ]; omega
        have h4 : 1 ≤ 2 ^ (b + 1) := Nat.pow_pos (by omega)
        omega
      have hy2 : y.natAbs < 2 ^ (b + 1) := by
        obtain ⟨j, hj⟩ := List.mem_iff_getElem?.mp hy
        have := hbd l List.mem_cons_self j
        unfold Hm.fn at this
        rw [List.getD_eq_getElem?_getD, hj] at this
        exact this
      exact wide_mul hq hy2 (by omega) (by omega) (by omega)
  · intro H2 ys s2 hR2 hy
    refine nx H2 D2 ys (s0.trans s2) hR2 ?_
    rw [hy]
    unfold Hm.smr
    rw [List.map_map]
    rfl
end
end K4
set_option maxRecDepth 100000
set_option maxHeartbeats 2000000
namespace K4
open PySem PySem.Spec PyProof.Rows L2
/-- while, by a word with a number that goes down -/
theorem while_m {c : TT} {tb : TS} {D : Ends} {σ : L2.St} {H : Hp} (Pv : Nat → L2.St → Hp → Prop) {m0 : Nat} (h0 : Pv m0 σ H)
    (hs : ∀ m σ H, Pv m σ H → c σ H fun b H1 => if b = true then tb { D with nx := fun σ' H' => ∃ m', m' < m ∧ Pv m' σ' H', ct := fun σ' H' => ∃ m', m' < m ∧ Pv m' σ' H', bk := D.nx } σ H1 else D.nx σ H1)
    (mono : ∀ σ H Q Q', (∀ b H1, Q b H1 → Q' b H1) → c σ H Q → c σ H Q') : tWhile c tb D σ H := by
  refine ⟨Pv, ⟨m0, h0⟩, ?_⟩
  intro m σ H p
  refine mono σ H _ _ (fun b H1 q => ?_) (hs m σ H p)
  cases b with
  | true => exact ⟨_, fun σ' H' h => h, q⟩
  | false => exact q
section
variable {P : Program} {w : World} {K : PySem.W.Frag} {mg : Str → Option Value} {base : Heap}
variable {f c Pt fL fP : Addr} {fdL fdP : FuncData} {A : Around} {outer : List Env} {s : Shared} {H : Hp} {E : XK} {T : List (Addr × Str)}
theorem b3 : ∃ t, PS (XS P w K mg base f c A outer s H E) (sb 3) t ∧ ∀ (D : Ends) (H0 : Hp) (qc q : Addr) (cl ys : List (Addr × List Int)) (a : Nat) (y0 y3 y4 y5 : Option V), RL H0 qc cl → RL H0 q ys → (∀ x ∈ ys, a < x.2.length) → cl.length ≤ 1000 → ys.length ≤ 1000 →
      (∀ H' p, Same H0 H' → RL H' p (cl ++ ys.filter fun x => decide (Hm.fn x.2 a = 0)) → D.nx [y0, some (.int (a : Nat)), some (.ref p), y3, y4, y5, some (.ref q), none] H') → t D [y0, some (.int (a : Nat)), some (.ref qc), y3, y4, y5, some (.ref q), none] H0 := by
  refine ⟨_, ps_set (i := 2) scSwept.nd rfl (.inl rfl) (pe_op op_cat (pv 2) (pe_lc (own := [("row", 7)]) (g := gName 7) (tt := tTest (tOp rEq (tOp (rIxT K) (tVar 7) (tVar 1)) (tC (.int 0)))) (te := tVar 7) rfl scSwept.nd (pi_list (pv 6))
      (blkOk_by (N := NS) (sc := defScope sSwept) (by decide +kernel)) (fun _ _ _ _ _ => pg_name (i := 7) scSwept.nd rfl (Or.inl rfl)) (fun _ _ _ _ _ => pts_one (pt_cmpR op_eq (pe_ix ix_tup (pv 7) (pv 1) (fun _ _ => rfl)) pe_int (nomark _)))
      (fun _ _ _ _ _ => pv 7))), ?_⟩
  intro D H0 qc q cl ys a y0 y3 y4 y5 hC hY hlen c1000 h1000 nx
  refine ⟨_, rfl, _, rfl, q, rfl, ⟨_, SqL.of hY.lst⟩, fun D2 nD2 => ?_⟩
  refine lc_sel (e := fun x => V.ref x.1) (out := fun x => V.ref x.1) (walk_list (K := K) (a := q)) (σ := [y0, some (.int (a : Nat)), some (.ref qc), y3, y4, y5, some (.ref q), none]) (i := 7) (fun x : Addr × List Int => decide (Hm.fn x.2 a = 0)) (Nat.lt_of_le_of_lt h1000 (by decide)) nD2 (fun H2 s2 => sqL_ext s2 (SqL.of hY.lst)) ?_ ?_ ?_
  · intro x H2 Q hx s2 hQ
    refine ⟨_, rfl, _, rfl, x.1, _, (a : Int), _, rfl, rfl, SqT.of ((hY.row x hx).same s2), row_at (hlen x hx), rfl, _, rfl, ?_⟩
    have e : decide (V.int (x.2.getD a 0) = V.int 0) = decide (Hm.fn x.2 a = 0) := by
      rw [dec_int]
      exact (Bool.beq_eq_decide_eq _ _)
    rw [e]
    exact hQ
  · intro x H2 Q hx _ s2 hQ
    exact ⟨_, rfl, hQ H2 (Same.refl _)⟩
  · intro H2 s2 hD2
    refine ⟨qc, D2, _, _, rfl, rfl, s2 _ _ hC.lst, hD2, ?_, fun p np => ?_⟩
    · have h1 : ((ys.filter fun x => decide (Hm.fn x.2 a = 0)).length) ≤ ys.length := List.length_filter_le _ _
      rw [List.length_map, List.length_map]
      exact Nat.le_trans (show cl.length + _ ≤ 2000 by omega) (by decide)
    · have sp := same_new (o := .lst (rf cl ++ (List.filter (fun x => decide (Hm.fn x.2 a = 0)) ys).map fun x => V.ref x.1)) np
      refine nx _ p (s2.trans sp) ⟨?_, fun x hx => ?_⟩
      · rw [upd_same]
        exact congrArg (fun z => some (HO.lst z)) (List.map_append).symm
      · refine RT.same ?_ (s2.trans sp)
        rcases List.mem_append.mp hx with hx | hx
        · exact hC.row x hx
        · exact hY.row x (List.mem_filter.mp hx).1
theorem b4 : ∃ t, PS (XS P w K mg base f c A outer s H E) (sb 4) t ∧ ∀ (D : Ends) (H0 : Hp) (q : Addr) (l : Addr × List Int) (ys : List (Addr × List Int)) (a : Nat) (y0 y2 y3 y4 : Option V), RT H0 l → RL H0 q ys → (∀ x ∈ ys, a < x.2.length) → ys.length ≤ 1000 →
      (∀ H' p, Same H0 H' → RL H' p (l :: ys.filter fun x => decide (Hm.fn x.2 a ≠ 0)) → D.nx [y0, some (.int (a : Nat)), y2, some (.ref p), y4, some (.ref l.1), some (.ref q), none] H') → t D [y0, some (.int (a : Nat)), y2, y3, y4, some (.ref l.1), some (.ref q), none] H0 := by
  refine ⟨_, ps_set (i := 3) scSwept.nd rfl (.inl rfl) (pe_op op_cat (pe_lst (pa_cons (pv 5) pa_nil)) (pe_lc (own := [("row", 7)]) (g := gName 7) (tt := tTest (tOp rNe (tOp (rIxT K) (tVar 7) (tVar 1)) (tC (.int 0)))) (te := tVar 7) rfl scSwept.nd (pi_list (pv 6))
      (blkOk_by (N := NS) (sc := defScope sSwept) (by decide +kernel)) (fun _ _ _ _ _ => pg_name (i := 7) scSwept.nd rfl (Or.inl rfl)) (fun _ _ _ _ _ => pts_one (pt_cmpR op_ne (pe_ix ix_tup (pv 7) (pv 1) (fun _ _ => rfl)) pe_int (nomark _)))
      (fun _ _ _ _ _ => pv 7))), ?_⟩
  intro D H0 q l ys a y0 y2 y3 y4 hl hY hlen h1000 nx
  refine ⟨_, rfl, (by show 1 ≤ sizeLine; decide), fun p1 np1 => ?_⟩
  have s1 := same_new (o := .lst [.ref l.1]) np1
  refine ⟨_, rfl, q, rfl, ⟨_, SqL.of (s1 _ _ hY.lst)⟩, fun D2 nD2 => ?_⟩
  refine lc_sel (e := fun x => V.ref x.1) (out := fun x => V.ref x.1) (walk_list (K := K) (a := q)) (σ := [y0, some (.int (a : Nat)), y2, y3, y4, some (.ref l.1), some (.ref q), none]) (i := 7) (fun x : Addr × List Int => decide (Hm.fn x.2 a ≠ 0)) (Nat.lt_of_le_of_lt h1000 (by decide)) nD2 (fun H2 s2 => sqL_ext (s1.trans s2) (SqL.of hY.lst)) ?_ ?_ ?_
  · intro x H2 Q hx s2 hQ
    refine ⟨_, rfl, _, rfl, x.1, _, (a : Int), _, rfl, rfl, SqT.of ((hY.row x hx).same (s1.trans s2)), row_at (hlen x hx), rfl, _, rfl, ?_⟩
    have e : (!decide (V.int (x.2.getD a 0) = V.int 0)) = decide (Hm.fn x.2 a ≠ 0) := by
      rw [dec_int]
      show (!(Hm.fn x.2 a == 0)) = _
      rw [Bool.beq_eq_decide_eq]
      exact (decide_not).symm
    rw [e]
    exact hQ
  · intro x H2 Q hx _ s2 hQ
    exact ⟨_, rfl, hQ H2 (Same.refl _)⟩
  · intro H2 s2 hD2
    refine ⟨p1, D2, _, _, rfl, rfl, s2 _ _ upd_same, hD2, ?_, fun p np => ?_⟩
    · have h1 : ((ys.filter fun x => decide (Hm.fn x.2 a ≠ 0)).length) ≤ ys.length := List.length_filter_le _ _
      rw [List.length_map]
      exact Nat.le_trans (show 1 + _ ≤ 2000 by omega) (by decide)
    · have sp := same_new (o := .lst ([.ref l.1] ++ (List.filter (fun x => decide (Hm.fn x.2 a ≠ 0)) ys).map fun x => V.ref x.1)) np
      refine nx _ p ((s1.trans s2).trans sp) ⟨?_, fun x hx => ?_⟩
      · rw [upd_same]
        rfl
      · refine RT.same ?_ ((s1.trans s2).trans sp)
        rcases List.mem_cons.mp hx with rfl | hx
        · exact hl
        · exact hY.row x (List.mem_filter.mp hx).1
end
/-- rows of a width, zero before a, with numbers up to 2 ^ b -/
def Rk (w a b : Nat) (r : List Int) : Prop := r.length = w ∧ (∀ j, j < a → Hm.fn r j = 0) ∧ ∀ j, (Hm.fn r j).natAbs ≤ 2 ^ b
def spSwept (K : PySem.W.Frag) (T : List (Addr × Str)) : Sp := fun vs H Q _ => ∃ (l : Addr) (rs : List (Addr × List Int)) (w a b n : Nat), vs = [.ref l, .int (a : Nat)] ∧ RI K H l rs ∧ LamX.Tabs T H ∧ a < w ∧ w ≤ 3 ∧ 1 ≤ b ∧ b ≤ 1200 ∧ rs.length ≤ n ∧ n ≤ 200 ∧ (∀ r ∈ rw_ rs, Rk w a b r) ∧
  ∀ (H' : Hp) (p q : Addr) (v : V) (cl : List (Addr × List Int)), LamX.ExtN H H' → LamX.Tabs T H' → H' p = some (.tup [v, .ref q]) → RL H' q cl → (∀ r ∈ rw_ cl, Rk w a (5 * b + n + 1) r) → cl.length ≤ rs.length →
    ((v = .non ∧ Hm.Swp a ((rw_ rs).map Hm.fn) none ((rw_ cl).map Hm.fn)) ∨ ∃ x : Addr × List Int, v = .ref x.1 ∧ RT H' x ∧ Rk w a (5 * b + n + 1) x.2 ∧ (Hm.fn x.2 a).natAbs ≤ 2 ^ b ∧ Hm.Swp a ((rw_ rs).map Hm.fn) (some (Hm.fn x.2)) ((rw_ cl).map Hm.fn)) → Q (.ref p) H'
end K4
set_option maxRecDepth 100000
set_option maxHeartbeats 2000000
namespace K4
open PySem PySem.Spec PyProof.Rows L2
theorem rw_zl (a : Nat) (ys : List (Addr × List Int)) : rw_ (ys.filter fun x => decide (Hm.fn x.2 a = 0)) = Hm.zl a (rw_ ys) := by
  unfold Hm.zl
  rw [List.filter_map]
  rfl
theorem rw_nl (a : Nat) (ys : List (Addr × List Int)) : rw_ (ys.filter fun x => decide (Hm.fn x.2 a ≠ 0)) = Hm.nl a (rw_ ys) := by
  unfold Hm.nl
  rw [List.filter_map]
  rfl
theorem rw_mem {rs : List (Addr × List Int)} {x : Addr × List Int} (h : x ∈ rs) : x.2 ∈ rw_ rs := List.mem_map.mpr ⟨x, h, rfl⟩
theorem swb_is : swb = [sb 0, sb 1, sb 2, sb 3, sb 4] := rfl
theorem sw_is : defBody sSwept = [sw 0, sw 1, sw 2, sw 3, sw 4] := rfl
section
variable {P : Program} {w : World} {K : PySem.W.Frag} {mg : Str → Option Value} {base : Heap}
variable {f c Pt fL fP : Addr} {fdL fdP : FuncData} {A : Around} {outer : List Env} {s : Shared} {H : Hp} {E : XK} {T : List (Addr × Str)}
/-- what holds at the while -/
def Wv (T : List (Addr × Str)) (l : Addr) (w a b n : Nat) (R : List (List Int)) (H0 : Hp) (m : Nat) (σ : L2.St) (H : Hp) : Prop := ∃ (qc qr : Addr) (cl rest : List (Addr × List Int)) (y4 y5 y6 : Option V),
  σ = [some (.ref l), some (.int (a : Nat)), some (.ref qc), some (.ref qr), y4, y5, y6, none] ∧ LamX.ExtN H0 H ∧ LamX.Tabs T H ∧ RL H qc cl ∧ RL H qr rest ∧ Hm.Swi w a b n R (rw_ cl) (rw_ rest) ∧ m = Hm.mas a ((rw_ rest).map Hm.fn)
theorem wbody (B : Bn mg) (TB : LamX.TabB base mg c Pt) (hm : (Pt, qS) ∈ T) (hu : ∀ p ∈ T, p.1 = Pt → p.2 = qS) (cL : Cb P w K mg base CX0 1 "less" ["row", "other", "times"] (spLess K) fL fdL) (hr : Room 3 (A.deeper (envOfC "swept" (defScope sSwept) s.heap.objs.size f (.ref c)))) :
    ∃ t, PSs (XS P w K mg base f c A outer s H E) swb t ∧ ∀ (D : Ends) (l : Addr) (wd a b n : Nat) (R : List (List Int)) (H0 H1 : Hp) (qc qr : Addr) (cl rest : List (Addr × List Int)) (y4 y5 y6 : Option V),
      LamX.ExtN H0 H1 → LamX.Tabs T H1 → RL H1 qc cl → RL H1 qr rest → Hm.Swi wd a b n R (rw_ cl) (rw_ rest) → 1 < rest.length → a < wd → wd ≤ 3 → 1 ≤ b → b ≤ 1200 → R.length ≤ n → n ≤ 200 →
      (∀ σ' H' m', m' < Hm.mas a ((rw_ rest).map Hm.fn) → Wv T l wd a b n R H0 m' σ' H' → D.nx σ' H') →
      t D [some (.ref l), some (.int (a : Nat)), some (.ref qc), some (.ref qr), y4, y5, y6, none] H1 := by
  obtain ⟨t0, p0, q0⟩ := b0 (P := P) (w := w) (K := K) (base := base) (outer := outer) (H := H) (E := E) B TB hm hu hr
  obtain ⟨t1, p1, q1⟩ := b1 (P := P) (w := w) (K := K) (mg := mg) (base := base) (f := f) (c := c) (A := A) (outer := outer) (s := s) (H := H) (E := E)
  obtain ⟨t2, p2, q2⟩ := b2 (c := c) (outer := outer) (H := H) (E := E) cL hr
  obtain ⟨t3, p3, q3⟩ := b3 (P := P) (w := w) (K := K) (mg := mg) (base := base) (f := f) (c := c) (A := A) (outer := outer) (s := s) (H := H) (E := E)
  obtain ⟨t4, p4, q4⟩ := b4 (P := P) (w := w) (K := K) (mg := mg) (base := base) (f := f) (c := c) (A := A) (outer := outer) (s := s) (H := H) (E := E)
  rw [swb_is]
  refine ⟨_, pss_cons p0 (pss_cons p1 (pss_cons p2 (pss_cons p3 (pss_one p4)))), ?_⟩
  intro D l wd a b n R H0 H1 qc qr cl rest y4 y5 y6 eX tb hC hR sI hlen ha hw hb hb2 hn hn2 nx
  have lens : ∀ x, x ∈ rest → x.2.length = wd := fun x hx => sI.len x.2 (.inr (rw_mem hx))
  have szs := sI.sz
  rw [List.length_map, List.length_map] at szs
  refine q0 _ H1 qr rest a _ _ y4 y5 y6 tb hR (fun x hx => by rw [lens x hx]; exact ha) fun H2 po rs' e2 tb2 hO pm pw => ?_
  obtain ⟨x0, xs, rfl⟩ : ∃ x0 xs, rs' = x0 :: xs := by
    cases rs' with
    | nil =>
      have := pm.length_eq
      simp at this
      omega
    | cons x0 xs => exact ⟨x0, xs, rfl⟩
  have lx : ∀ x ∈ x0 :: xs, x.2.length = wd := fun x hx => lens x (pm.mem_iff.mp hx)
  have pl := pm.length_eq
  rw [List.length_cons] at pl
  refine q1 _ H2 po x0 xs _ _ _ _ y5 y6 hO ?_
  have z0 : Hm.fn x0.2 a ≠ 0 := sI.rz x0.2 (rw_mem (pm.mem_iff.mp List.mem_cons_self))
  have bds : ∀ x ∈ x0 :: xs, ∀ j, (Hm.fn x.2 j).natAbs < 2 ^ (5 * b + n + 1 + 1) := fun x hx j => by
    have h1 := Hm.swi_bd sI x.2 (.inr (rw_mem (pm.mem_iff.mp hx))) j
    have h2 : 2 ^ (5 * b + n + 1) < 2 ^ (5 * b + n + 1 + 1) := Nat.pow_lt_pow_right (by omega) (by omega)
    omega
  refine q2 _ H2 po x0 xs wd a (5 * b + n + 1) _ _ _ y6 hO lx ha hw (by omega) bds z0 (by omega) fun H3 qm ys s3 hM hy => ?_
  have hC3 : RL H3 qc cl := (hC.ext e2).same s3
  have ly : ∀ x ∈ ys, a < x.2.length := by
    intro x hx
    have hm : x.2 ∈ Hm.smr a x0.2 (rw_ xs) := by
      rw [← hy]
      exact rw_mem hx
    obtain ⟨r, hr1, hr2⟩ := List.mem_map.mp hm
    obtain ⟨x1, hx1, rfl⟩ := List.mem_map.mp hr1
    rw [← hr2, Hm.lsl_len (lx x1 (List.mem_cons_of_mem _ hx1)) (lx x0 List.mem_cons_self)]
    exact ha
  have yl : ys.length = xs.length := by
    have h1 : (rw_ ys).length = (Hm.smr a x0.2 (rw_ xs)).length := by rw [hy]
    unfold Hm.smr at h1
    simpa using h1
  refine q3 _ H3 qc qm cl ys a _ _ _ _ hC3 hM ly (by omega) (by omega) fun H4 pc s4 hC4 => ?_
  refine q4 _ H4 qm x0 ys a _ _ _ _ (((hO.row x0 List.mem_cons_self).same s3).same s4) (hM.same s4) ly (by omega) fun H5 pr s5 hR5 => ?_
  have pm2 : (x0.2 :: rw_ xs).Perm (rw_ rest) := by
    have := pm.map (fun x : Addr × List Int => x.2)
    simpa using this
  have mn : ∀ r ∈ rw_ xs, (Hm.fn x0.2 a).natAbs ≤ (Hm.fn r a).natAbs := by
    intro r hr
    obtain ⟨x1, hx1, rfl⟩ := List.mem_map.mp hr
    exact (List.pairwise_cons.mp pw).1 x1 hx1
  have hne : rw_ xs ≠ [] := by
    intro z
    have h1 : (rw_ xs).length = 0 := by rw [z]; rfl
    rw [List.length_map] at h1
    omega
  obtain ⟨sI', lt⟩ := Hm.swi_round hb hn sI pm2 mn hne
  refine nx _ H5 _ lt ⟨pc, pr, _, _, _, _, _, rfl, ((eX.trans e2).trans (.of s3)).trans ((LamX.ExtN.of s4).trans (.of s5)), ((tb2.ext s3).ext s4).ext s5, hC4.same s5, hR5, ?_, ?_⟩
  · have e1 : rw_ (cl ++ ys.filter fun x => decide (Hm.fn x.2 a = 0)) = rw_ cl ++ Hm.zl a (Hm.smr a x0.2 (rw_ xs)) := by
      rw [← hy, ← rw_zl]
      exact List.map_append
    have e2 : rw_ (x0 :: ys.filter fun x => decide (Hm.fn x.2 a ≠ 0)) = x0.2 :: Hm.nl a (Hm.smr a x0.2 (rw_ xs)) := by
      rw [← hy, ← rw_nl]
      rfl
    rw [e1, e2]
    exact sI'
  · have e2 : rw_ (x0 :: ys.filter fun x => decide (Hm.fn x.2 a ≠ 0)) = x0.2 :: Hm.nl a (Hm.smr a x0.2 (rw_ xs)) := by
      rw [← hy, ← rw_nl]
      rfl
    rw [e2]
end
end K4
set_option maxRecDepth 100000
set_option maxHeartbeats 2000000
namespace K4
open PySem PySem.Spec PyProof.Rows L2
def spPosT (K : PySem.W.Frag) : Sp := fun vs H Q _ => ∃ (a : Addr) (r : List Int) (n : Nat), vs = [.ref a, .int (n : Nat)] ∧ RT H (a, r) ∧ n < r.length ∧ r.length ≤ 3 ∧ ∀ H' p, Same H H' → RT H' (p, sgl r n) → Q (.ref p) H'
section
variable {P : Program} {w : World} {K : PySem.W.Frag} {mg : Str → Option Value} {base : Heap}
theorem ok_posT {f : Addr} {fd : FuncData} {k : Nat} (F : Fun K "with_positive" "with_positive" sPositive f fd) (B : Bn mg) : FnOk P w K mg base CX0 (k + 1) f fd ["row", "at"] (spPosT K) := by
  refine F.ok scPositive (fun vs H Q E h => ?_) (fun cdv A outer s H vs Q E hr h => ?_)
  · obtain ⟨a, r, n, rfl, _⟩ := h
    rfl
  · obtain ⟨a, r, n, rfl, ha, hn, h3, q⟩ := h
    refine ⟨_, pss_cons (ps_if (pt_cmpR op_gt (pe_ix ix_tup (pv 0) (pv 1) (fun _ _ => rfl)) pe_int (nomark _)) (pss_one (ps_ret (pv 0))) pss_nil)
      (pss_one (ps_ret (pe_callTy call_tuple_of (by rfl) B.tuple boot_tuple (pa_cons (pe_lc (own := [("number", 2)]) (g := gName 2) (tt := tYes) rfl scPositive.nd (pi_tup (pv 0))
        (blkOk_by (N := ["row", "at", "number"]) (sc := defScope sPositive) (by decide +kernel)) (fun _ _ _ _ _ => pg_name (i := 2) scPositive.nd rfl (Or.inl rfl)) (fun _ _ _ _ _ => pts_nil)
        (fun _ _ _ _ _ => pe_un un_neg (pv 2))) pa_nil)))), ?_⟩
    refine ⟨_, rfl, _, rfl, a, _, (n : Int), _, rfl, rfl, SqT.of ha, row_at hn, _, _, rfl, rfl, _, rfl, ?_⟩
    by_cases hp : 0 < r.getD n 0
    · rw [decide_eq_true hp]
      refine iteT ⟨_, rfl, ?_⟩
      refine q H a (Same.refl _) ?_
      unfold sgl
      rw [if_pos hp]
      exact ha
    · rw [decide_eq_false hp]
      refine iteF ?_
      refine ⟨_, rfl, a, rfl, ⟨_, SqT.of ha⟩, fun D nD => ?_⟩
      refine lc_pure walk_tup (σ := [some (.ref a), some (.int (n : Nat)), none]) (i := 2) (fun v => match v with | .int x => .int (-x) | v => v) (fun _ => true) (by rw [List.length_map]; exact Nat.lt_of_le_of_lt h3 (by decide)) nD (fun H2 s2 => Rs.sqT_ext s2 (SqT.of ha)) (fun x H2 Q _ _ h => h) ?_ ?_
      · intro x H2 Q2 hx _ _ h
        obtain ⟨c, hc, rfl⟩ := List.mem_map.mp hx
        exact ⟨_, rfl, _, rfl, h H2 (Same.refl _)⟩
      · intro H2 s2 hD
        refine ⟨D, _, rfl, .inl ⟨SqL.of hD, fun p2 np2 => ?_⟩⟩
        refine q _ p2 (s2.trans (same_new np2)) ?_
        show upd _ p2 _ p2 = some (HO.tup (List.map V.int (sgl r n)))
        rw [upd_same, List.filter_eq_self.mpr (by simp), List.map_map]
        unfold sgl
        rw [if_neg hp, List.map_map]
        rfl
end
section
variable {P : Program} {w : World} {K : PySem.W.Frag} {mg : Str → Option Value} {base : Heap}
variable {f c Pt fL fP : Addr} {fdL fdP : FuncData} {A : Around} {outer : List Env} {s : Shared} {H : Hp} {E : XK} {T : List (Addr × Str)}
theorem w2 (B : Bn mg) (TB : LamX.TabB base mg c Pt) (hm : (Pt, qS) ∈ T) (hu : ∀ p ∈ T, p.1 = Pt → p.2 = qS) (cL : Cb P w K mg base CX0 1 "less" ["row", "other", "times"] (spLess K) fL fdL) (hr : Room 3 (A.deeper (envOfC "swept" (defScope sSwept) s.heap.objs.size f (.ref c)))) :
    ∃ t, PS (XS P w K mg base f c A outer s H E) (sw 2) t ∧ ∀ (D : Ends) (l : Addr) (wd a b n : Nat) (R : List (List Int)) (H0 H1 : Hp) (qc qr : Addr) (cl rest : List (Addr × List Int)) (y4 y5 y6 : Option V),
      LamX.ExtN H0 H1 → LamX.Tabs T H1 → RL H1 qc cl → RL H1 qr rest → Hm.Swi wd a b n R (rw_ cl) (rw_ rest) → a < wd → wd ≤ 3 → 1 ≤ b → b ≤ 1200 → R.length ≤ n → n ≤ 200 →
      (∀ (H' : Hp) (qc qr : Addr) (cl rest : List (Addr × List Int)) (y4 y5 y6 : Option V), LamX.ExtN H0 H' → LamX.Tabs T H' → RL H' qc cl → RL H' qr rest → Hm.Swi wd a b n R (rw_ cl) (rw_ rest) → rest.length ≤ 1 → D.nx [some (.ref l), some (.int (a : Nat)), some (.ref qc), some (.ref qr), y4, y5, y6, none] H') →
      t D [some (.ref l), some (.int (a : Nat)), some (.ref qc), some (.ref qr), y4, y5, y6, none] H1 := by
  obtain ⟨tb, pb, qb⟩ := wbody (P := P) (w := w) (K := K) (base := base) (outer := outer) (H := H) (E := E) B TB hm hu cL hr
  refine ⟨_, ps_while PassesOwn.never (pt_cmpR op_gt (pe_callB call_len_seq (by rfl) B.len PySem.boot_len (pa_cons (pv 3) pa_nil)) pe_int (nomark _)) pb, ?_⟩
  intro D l wd a b n R H0 H1 qc qr cl rest y4 y5 y6 eX tb1 hC hR sI ha hw hb hb2 hn hn2 nx
  refine while_m (Wv T l wd a b n R H0) (m0 := _) ⟨qc, qr, cl, rest, y4, y5, y6, rfl, eX, tb1, hC, hR, sI, rfl⟩ ?_ ?_
  · rintro m σ H2 ⟨qc2, qr2, cl2, rest2, z4, z5, z6, rfl, eX2, tb2, hC2, hR2, sI2, rfl⟩
    refine ⟨_, rfl, qr2, _, rfl, .inl (SqL.of hR2.lst), _, _, rfl, rfl, _, rfl, ?_⟩
    rw [List.length_map]
    by_cases h1 : 1 < rest2.length
    · rw [decide_eq_true (by omega : (1 : Int) < (rest2.length : Int))]
      refine iteT ?_
      exact qb _ l wd a b n R H0 H2 qc2 qr2 cl2 rest2 z4 z5 z6 eX2 tb2 hC2 hR2 sI2 h1 ha hw hb hb2 hn hn2 fun σ' H' m' hm' hW => ⟨m', hm', hW⟩
    · rw [decide_eq_false (by omega : ¬ (1 : Int) < (rest2.length : Int))]
      refine iteF ?_
      exact nx H2 qc2 qr2 cl2 rest2 z4 z5 z6 eX2 tb2 hC2 hR2 sI2 (by omega)
  · intro σ H Q Q' hQ h
    obtain ⟨v, hv, p, ys, e, hs, i, j, e1, e2, k, e3, q⟩ := h
    exact ⟨v, hv, p, ys, e, hs, i, j, e1, e2, k, e3, hQ _ _ q⟩
theorem w34 (cP : Cb P w K mg base CX0 1 "with_positive" ["row", "at"] (spPosT K) fP fdP) (hr : Room 3 (A.deeper (envOfC "swept" (defScope sSwept) s.heap.objs.size f (.ref c)))) :
    ∃ t, PSs (XS P w K mg base f c A outer s H E) [sw 3, sw 4] t ∧ ∀ (D : Ends) (l : Addr) (wd a b n : Nat) (R : List (List Int)) (H1 : Hp) (qc qr : Addr) (cl rest : List (Addr × List Int)) (y4 y5 y6 : Option V),
      RL H1 qc cl → RL H1 qr rest → Hm.Swi wd a b n R (rw_ cl) (rw_ rest) → a < wd → wd ≤ 3 → rest.length ≤ 1 →
      (∀ (H' : Hp) (p : Addr) (v : V), Same H1 H' → H' p = some (.tup [v, .ref qc]) → ((v = .non ∧ rest = []) ∨ ∃ (y : Addr × List Int) (x : Addr), rest = [y] ∧ v = .ref x ∧ RT H' (x, sgl y.2 a)) → D.rt (.ref p) H') →
      t D [some (.ref l), some (.int (a : Nat)), some (.ref qc), some (.ref qr), y4, y5, y6, none] H1 := by
  have r1 : Room 1 (A.deeper (envOfC "swept" (defScope sSwept) s.heap.objs.size f (.ref c))) := hr.mono (by decide)
  refine ⟨_, pss_cons (ps_if (pt_not (pt_truth (pv 3) (by intro _; rfl))) (pss_one (ps_ret (pe_tup (pa_cons pe_non (pa_cons (pv 2) pa_nil))))) pss_nil)
    (pss_one (ps_ret (pe_tup (pa_cons (pe_call cP.ok r1 (by rfl) cP.g cP.kp cP.b .nil pass0 (pa_cons (pe_ix ix_list (pv 3) pe_int (fun _ _ => rfl)) (pa_cons (pv 1) pa_nil))) (pa_cons (pv 2) pa_nil))))), ?_⟩
  intro D l wd a b n R H1 qc qr cl rest y4 y5 y6 hC hR sI ha hw h1 nx
  cases rest with
  | nil =>
    refine ⟨_, rfl, false, .inl ⟨_, SqL.of hR.lst, rfl⟩, ?_⟩
    refine iteT ⟨_, rfl, (by show 2 ≤ sizeLine; decide), fun p np => ?_⟩
    exact nx _ p .non (same_new np) upd_same (.inl ⟨rfl, rfl⟩)
  | cons y rest =>
    obtain rfl : rest = [] := by
      rw [List.length_cons] at h1
      exact List.eq_nil_of_length_eq_zero (by omega)
    refine ⟨_, rfl, true, .inl ⟨_, SqL.of hR.lst, rfl⟩, ?_⟩
    refine iteF ?_
    have ylen : y.2.length = wd := sI.len y.2 (.inr List.mem_cons_self)
    refine ⟨_, rfl, qr, _, 0, _, rfl, rfl, SqL.of hR.lst, atI_nat (j := 0) rfl, _, rfl, y.1, y.2, a, rfl, hR.row y List.mem_cons_self, by omega, by omega, fun H2 p2 s2 hp2 => ?_⟩
    refine ⟨_, rfl, (by show 2 ≤ sizeLine; decide), fun p np => ?_⟩
    exact nx _ p (.ref p2) (s2.trans (same_new np)) upd_same (.inr ⟨y, p2, rfl, rfl, hp2.same (same_new np)⟩)
end
end K4
set_option maxRecDepth 100000
set_option maxHeartbeats 2000000
namespace K4
open PySem PySem.Spec PyProof.Rows L2
theorem sgl_bd {r : List Int} {n j : Nat} : (Hm.fn (sgl r n) j).natAbs = (Hm.fn r j).natAbs := by
  rw [fn_sgl]
  unfold Hm.sgd
  split
  · rfl
  · show (-1 * Hm.fn r j).natAbs = _
    omega
section
variable {P : Program} {w : World} {K : PySem.W.Frag} {mg : Str → Option Value} {base : Heap}
variable {f c Pt fL fP : Addr} {fdL fdP : FuncData} {T : List (Addr × Str)}
theorem ok_swept {oc kV doc pm ct : Value} {an od : Option Addr} {osl : Array (Option Value)}
    (lk : K.lookup f = some ⟨oc, od, .func (PySem.W.fnOf "swept" "swept" (defArgs sSwept) (defBody sSwept) (defScope sSwept) .none kV doc pm an (.ref c) ct), osl⟩) (hcd : PySem.W.codeIn K (.ref c) "swept" = true) (B : Bn mg)
    (TB : LamX.TabB base mg c Pt) (hm : (Pt, qS) ∈ T) (hu : ∀ p ∈ T, p.1 = Pt → p.2 = qS) (cL : Cb P w K mg base CX0 1 "less" ["row", "other", "times"] (spLess K) fL fdL) (cP : Cb P w K mg base CX0 1 "with_positive" ["row", "at"] (spPosT K) fP fdP) :
    FnOk P w K mg base CX0 4 f (PySem.W.fnOf "swept" "swept" (defArgs sSwept) (defBody sSwept) (defScope sSwept) .none kV doc pm an (.ref c) ct) ["rows", "at"] (spSwept K T) := by
  refine fn_of lk hcd scSwept (fun vs H Q E h => ?_) (fun A outer s H vs Q E hr h => ?_)
  · obtain ⟨l, rs, wd, a, b, n, rfl, _⟩ := h
    rfl
  · obtain ⟨l, rs, wd, a, b, n, rfl, hI, hT, ha, hw, hb, hb2, hn, hn2, hk, q⟩ := h
    obtain ⟨kd, hq⟩ : ∃ kd : Bool, (if kd then SqL K H l (rf rs) else SqT K H l (rf rs)) := by
      rcases hI.seq with h | h
      · exact ⟨true, h⟩
      · exact ⟨false, h⟩
    obtain ⟨t0, p0, q0⟩ := w0 (P := P) (w := w) (K := K) (mg := mg) (base := base) (f := f) (c := c) (A := A) (outer := outer) (s := s) (H := H) (E := E) kd
    obtain ⟨t1, p1, q1⟩ := w1 (P := P) (w := w) (K := K) (mg := mg) (base := base) (f := f) (c := c) (A := A) (outer := outer) (s := s) (H := H) (E := E) kd
    obtain ⟨t2, p2, q2⟩ := w2 (P := P) (w := w) (K := K) (base := base) (outer := outer) (H := H) (E := E) B TB hm hu cL hr
    obtain ⟨t3, p3, q3⟩ := w34 (P := P) (w := w) (K := K) (base := base) (outer := outer) (H := H) (E := E) cP hr
    rw [sw_is]
    refine ⟨_, PSs.nox (pss_cons p0 (pss_cons p1 (pss_cons p2 p3))), ?_⟩
    have hlen : ∀ x ∈ rs, a < x.2.length := fun x hx => by
      rw [(hk x.2 (rw_mem hx)).1]
      exact ha
    refine q0 _ H l rs a none none none none none hq hI.row hlen (by omega) fun H1 qc s1 nc hC => ?_
    have hq1 : (if kd then SqL K H1 l (rf rs) else SqT K H1 l (rf rs)) := by
      cases kd with
      | true => exact sqL_ext s1 hq
      | false => exact Rs.sqT_ext s1 hq
    refine q1 _ H1 l rs a (some (.ref qc)) none none none none hq1 (fun x hx => (hI.row x hx).same s1) hlen (by omega) fun H2 qr s2 nr hR => ?_
    have sI : Hm.Swi wd a b n (rw_ rs) (rw_ (rs.filter fun x => decide (Hm.fn x.2 a = 0))) (rw_ (rs.filter fun x => decide (Hm.fn x.2 a ≠ 0))) := by
      rw [rw_zl, rw_nl]
      exact Hm.swi_start (fun r hr => (hk r hr).1) (fun r hr => (hk r hr).2.1) (fun r hr => (hk r hr).2.2)
    refine q2 _ l wd a b n (rw_ rs) H H2 qc qr _ _ none none none (.of (s1.trans s2)) ((hT.ext s1).ext s2) (hC.same s2) hR sI ha hw hb hb2 (by rw [List.length_map]; exact hn) hn2 fun H3 qc3 qr3 cl3 rest3 y4 y5 y6 e3 t3 hC3 hR3 sI3 h1 => ?_
    refine q3 _ l wd a b n (rw_ rs) H3 qc3 qr3 cl3 rest3 y4 y5 y6 hC3 hR3 sI3 ha hw h1 fun H4 p v s4 hp hv => ?_
    have sz := sI3.sz
    rw [List.length_map, List.length_map, List.length_map] at sz
    refine q H4 p qc3 v cl3 (e3.trans (.of s4)) (t3.ext s4) hp (hC3.same s4) (fun r hr => ⟨sI3.len r (.inl hr), sI3.low r (.inl hr), Hm.swi_bd sI3 r (.inl hr)⟩) (by omega) ?_
    rcases hv with ⟨rfl, rfl⟩ | ⟨y, x, rfl, rfl, hx⟩
    · exact .inl ⟨rfl, Hm.swi_none sI3⟩
    · have my : y.2 ∈ rw_ [y] := List.mem_cons_self
      refine .inr ⟨(x, sgl y.2 a), rfl, hx, ⟨?_, fun j hj => ?_, fun j => ?_⟩, ?_, ?_⟩
      · rw [sgl_len]
        exact sI3.len y.2 (.inr my)
      · have h2 := sI3.low y.2 (.inr my) j hj
        have h3 := sgl_bd (r := y.2) (n := a) (j := j)
        rw [h2] at h3
        show Hm.fn (sgl y.2 a) j = 0
        omega
      · show (Hm.fn (sgl y.2 a) j).natAbs ≤ _
        rw [sgl_bd]
        exact Hm.swi_bd sI3 y.2 (.inr my) j
      · show (Hm.fn (sgl y.2 a) a).natAbs ≤ _
        rw [sgl_bd]
        exact sI3.lead y.2 my
      · show Hm.Swp a _ (some (Hm.fn (sgl y.2 a))) _
        rw [fn_sgl]
        exact Hm.swi_one sI3
end
end K4
namespace Hm
/-! how great the numbers of the rows become, column by column -/
def bb (b n : Nat) : Nat → Nat
  | 0 => b
  | a + 1 => 5 * bb b n a + n + 1
theorem bb_pos {b n : Nat} (hb : 1 ≤ b) : ∀ a, 1 ≤ bb b n a
  | 0 => hb
  | a + 1 => by
    show 1 ≤ 5 * bb b n a + n + 1
    omega
theorem bb_le {b n a : Nat} (h : 25 * b + 6 * n + 6 ≤ 1200) (ha : a < 3) : bb b n a ≤ 1200 := by
  match a, ha with
  | 0, _ => show b ≤ 1200; omega
  | 1, _ => show 5 * b + n + 1 ≤ 1200; omega
  | 2, _ => show 5 * (5 * b + n + 1) + n + 1 ≤ 1200; omega
/-- a row that was found before column a -/
structure Fd (w b n a : Nat) (r : List Int) : Prop where
  len : r.length = w
  beg : ∃ c, c < a ∧ Beg (fn r) c ∧ 0 < fn r c ∧ (fn r c).natAbs ≤ 2 ^ bb b n c
  bd : ∀ j, (fn r j).natAbs < 2 ^ (7000 * a)
theorem two_pow_lt {x y : Nat} (h : x < y) : 2 ^ x < 2 ^ y := Nat.pow_lt_pow_right (by omega) h
theorem fd_lead {w b n a : Nat} {l : List Int} (hl : l.length = w) (low : ∀ j, j < a → fn l j = 0) (pos : 0 < fn l a) (hb : ∀ j, (fn l j).natAbs ≤ 2 ^ bb b n (a + 1)) (h1 : (fn l a).natAbs ≤ 2 ^ bb b n a) (cap : bb b n (a + 1) ≤ 6201) : Fd w b n (a + 1) l := by
  refine ⟨hl, ⟨a, by omega, ⟨low, by omega⟩, pos, h1⟩, fun j => ?_⟩
  have := two_pow_lt (show bb b n (a + 1) < 7000 * (a + 1) by omega)
  have := hb j
  omega
theorem fd_red {w b n a : Nat} {l r : List Int} (hl : l.length = w) (low : ∀ j, j < a → fn l j = 0) (pos : 0 < fn l a) (hb : ∀ j, (fn l j).natAbs ≤ 2 ^ bb b n (a + 1)) (cap : bb b n (a + 1) ≤ 6201) (h : Fd w b n a r) : Fd w b n (a + 1) (redL a l r) := by
  have ef : fn (redL a l r) = ls (fn r) (fn l) (fn r a / fn l a) := by
    unfold redL
    rw [fn_lsl (by rw [h.len, hl])]
    rfl
  obtain ⟨c, hc, ⟨g1, g2⟩, g3, g4⟩ := h.beg
  have same : ∀ j, j < a → fn (redL a l r) j = fn r j := by
    intro j hj
    rw [ef]
    show fn r j - _ * fn l j = _
    rw [low j hj]
    simp
  refine ⟨lsl_len h.len hl _, ⟨c, by omega, ⟨fun j hj => ?_, ?_⟩, ?_, ?_⟩, fun j => ?_⟩
  · rw [same j (by omega)]
    exact g1 j hj
  · rw [same c hc]
    exact g2
  · rw [same c hc]
    exact g3
  · rw [same c hc]
    exact g4
  · rw [ef]
    have h1 := h.bd j
    have h2 := h.bd a
    have h3 := hb j
    have hq : (fn r a / fn l a).natAbs ≤ (fn r a).natAbs + 1 := by
      have := (rest_sign (x := fn r a) (l := fn l a) (by omega)).2.2
      rw [Int.fdiv_eq_ediv_of_nonneg _ (by omega)] at this
      exact this
    have h4 : (fn r a / fn l a * fn l j).natAbs ≤ 2 ^ (7000 * a) * 2 ^ bb b n (a + 1) := by
      rw [Int.natAbs_mul]
      exact Nat.mul_le_mul (by omega) h3
    have h5 : (fn r j - fn r a / fn l a * fn l j).natAbs ≤ (fn r j).natAbs + (fn r a / fn l a * fn l j).natAbs := by omega
    show (fn r j - fn r a / fn l a * fn l j).natAbs < _
    rw [← Nat.pow_add] at h4
    have h6 := two_pow_lt (show 7000 * a + bb b n (a + 1) < 7000 * a + 6999 by omega)
    have h7 : 2 ^ (7000 * a) ≤ 2 ^ (7000 * a + 6999) := Nat.pow_le_pow_right (by omega) (by omega)
    have h8 : 2 ^ (7000 * (a + 1)) = 2 ^ (7000 * a + 6999) + 2 ^ (7000 * a + 6999) := by
      rw [show 7000 * (a + 1) = 7000 * a + 6999 + 1 by omega, Nat.pow_succ]
      omega
    omega
end Hm
set_option maxRecDepth 100000
set_option maxHeartbeats 2000000
namespace K4
open PySem PySem.Spec PyProof.Rows L2
abbrev NN : List Str := ["rows", "width", "found", "rest", "at", "lead", "row"]
theorem scNormal : FnScope NN ["rows", "width"] (defScope sNormal) := ⟨rfl, rfl, rfl, by decide +kernel, rfl, by decide +kernel, by decide +kernel⟩
abbrev XN (P : Program) (w : World) (K : PySem.W.Frag) (mg : Str → Option Value) (base : Heap) (f : Addr) (cdv : Value) (A : Around) (outer : List Env) (s : Shared) (H : Hp) (E : XK) : Cx := (cxOf CX0 P w K mg base NN "normal_rows" (defScope sNormal) f cdv A outer s H E).nox
def forBody : Stmt → List Stmt
  | .For _ _ b _ _ => b
  | _ => []
def nb : List Stmt := forBody ((defBody sNormal).getD 2 (.Pass ⟨0, 0, 0, 0⟩))
abbrev nbs (i : Nat) : Stmt := nb.getD i (.Pass ⟨0, 0, 0, 0⟩)
def ifBody : Stmt → List Stmt
  | .If _ b _ _ => b
  | _ => []
def nif : Stmt := (ifBody (nbs 1)).getD 0 (.Pass ⟨0, 0, 0, 0⟩)
/-- a number that is no tracked thing before -/
def New (H : Hp) (q : Addr) : Prop := ∀ o, H q = some o → ∃ ps, o = .tbl ps
def spNormal (K : PySem.W.Frag) (T : List (Addr × Str)) : Sp := fun vs H Q _ => ∃ (l : Addr) (rs : List (Addr × List Int)) (w b n : Nat), vs = [.ref l, .int (w : Nat)] ∧ RI K H l rs ∧ LamX.Tabs T H ∧ w ≤ 3 ∧ 1 ≤ b ∧ 25 * b + 6 * n + 6 ≤ 1200 ∧ rs.length ≤ n ∧ (∀ r ∈ rw_ rs, Rk w 0 b r) ∧
  ∀ (H' : Hp) (q : Addr) (fs : List (Addr × List Int)) (rest : List (List Int)), LamX.ExtN H H' → LamX.Tabs T H' → New H q → RL H' q fs → (∀ r ∈ rw_ fs, Hm.Fd w b n w r) → Hm.Nrm w w (rw_ rs) (rw_ fs) rest → fs.length ≤ w → Q (.ref q) H'
section
variable {P : Program} {w : World} {K : PySem.W.Frag} {mg : Str → Option Value} {base : Heap}
variable {f fL fS : Addr} {fdL fdS : FuncData} {A : Around} {outer : List Env} {s : Shared} {H : Hp} {E : XK} {T : List (Addr × Str)} {cdv : Value}
theorem nif1 (cL : Cb P w K mg base CX0 1 "less" ["row", "other", "times"] (spLess K) fL fdL) (hr : Room 4 (A.deeper (envOfC "normal_rows" (defScope sNormal) s.heap.objs.size f cdv))) :
    ∃ t, PS (XN P w K mg base f cdv A outer s H E) nif t ∧ ∀ (D : Ends) (H0 : Hp) (q : Addr) (fs : List (Addr × List Int)) (x : Addr × List Int) (wd b n a : Nat) (y0 y1 y3 : Option V), RL H0 q fs → RT H0 x → (∀ r ∈ rw_ fs, Hm.Fd wd b n a r) → x.2.length = wd → a < wd → wd ≤ 3 → 0 < Hm.fn x.2 a → (∀ j, (Hm.fn x.2 j).natAbs ≤ 2 ^ 6201) → fs.length ≤ 3 →
      (∀ (H' : Hp) (p : Addr) (ys : List (Addr × List Int)), Same H0 H' → H0 p = none → RL H' p (ys ++ [x]) → rw_ ys = (rw_ fs).map (Hm.redL a x.2) → D.nx [y0, y1, some (.ref p), y3, some (.int (a : Nat)), some (.ref x.1), none] H') →
      t D [y0, y1, some (.ref q), y3, some (.int (a : Nat)), some (.ref x.1), none] H0 := by
  have r1 : Room 1 (A.deeper (envOfC "normal_rows" (defScope sNormal) s.heap.objs.size f cdv)) := hr.mono (by decide)
  refine ⟨_, ps_set (i := 2) scNormal.nd rfl (.inl rfl) (pe_op op_cat (pe_lc (own := [("row", 6)]) (g := gName 6) (tt := tYes) (te := tCall (spLess K) [] E0 (tCons (tVar 6) (tCons (tVar 5) (tCons (tOp (rI (fun _ j => j ≠ 0 ∧ j.natAbs.log2 < 9000) fun i j => .int (i.fdiv j)) (tOp (rIxT K) (tVar 6) (tVar 4)) (tOp (rIxT K) (tVar 5) (tVar 4))) tNil)))) rfl scNormal.nd (pi_list (pv 2))
      (blkOk_by (N := NN) (sc := defScope sNormal) (by decide +kernel)) (fun _ _ _ _ _ => pg_name (i := 6) scNormal.nd rfl (Or.inl rfl)) (fun _ _ _ _ _ => pts_nil)
      (fun _ _ _ _ _ => pe_call cL.ok r1 (by rfl) cL.g cL.kp cL.b .nil pass0 (pa_cons (pv 6) (pa_cons (pv 5) (pa_cons (pe_op Rs.op_fdivF (pe_ix ix_tup (pv 6) (pv 4) (fun _ _ => rfl)) (pe_ix ix_tup (pv 5) (pv 4) (fun _ _ => rfl))) pa_nil)))))
    (pe_lst (pa_cons (pv 5) pa_nil))), ?_⟩
  intro D H0 q fs x wd b n a y0 y1 y3 hR hx hF hlen ha hw hpos hbd h3 nx
  refine ⟨_, rfl, q, rfl, ⟨_, SqL.of hR.lst⟩, fun D2 nD2 => ?_⟩
  refine lc_rows (e := fun x : Addr × List Int => V.ref x.1) (walk_list (K := K) (a := q)) (te := tCall (spLess K) [] E0 (tCons (tVar 6) (tCons (tVar 5) (tCons (tOp (rI (fun _ j => j ≠ 0 ∧ j.natAbs.log2 < 9000) fun i j => .int (i.fdiv j)) (tOp (rIxT K) (tVar 6) (tVar 4)) (tOp (rIxT K) (tVar 5) (tVar 4))) tNil)))) (σ := [y0, y1, some (.ref q), y3, some (.int (a : Nat)), some (.ref x.1), none]) (i := 6) (fun r => Hm.redL a x.2 r.2) (Nat.lt_of_le_of_lt h3 (by decide)) nD2 (fun H2 s2 => SqL.of (s2 _ _ hR.lst)) ?_ ?_
  · intro r H2 Q hr2 s2 hQ
    have hF2 := hF r.2 (rw_mem hr2)
    have hrr := (hR.row r hr2).same s2
    have hxr := hx.same s2
    refine ⟨_, rfl, _, rfl, _, rfl, _, rfl, r.1, _, (a : Int), _, rfl, rfl, SqT.of hrr, row_at (by rw [hF2.len]; exact ha), _, rfl, _, rfl, x.1, _, (a : Int), _, rfl, rfl, SqT.of hxr, row_at (by rw [hlen]; exact ha), _, _, rfl, rfl, ⟨?_, ?_⟩, r.1, x.1, r.2, x.2, (Hm.fn r.2 a).fdiv (Hm.fn x.2 a), rfl, SqT.of hrr, SqT.of hxr, ?_, ?_, ?_, fun H3 p3 s3 np3 hp3 => hQ H3 p3 s3 ?_⟩
    · show Hm.fn x.2 a ≠ 0
      omega
    · have h1 : (Hm.fn x.2 a).natAbs < 2 ^ 6202 := Nat.lt_of_le_of_lt (hbd a) (Hm.two_pow_lt (by omega))
      exact Nat.lt_of_lt_of_le (PySem.Flt.log2_lt_of (by omega) h1) (by omega)
    · rw [hF2.len, hlen]
    · rw [hF2.len]
      exact hw
    · intro y hy
      have hq : ((Hm.fn r.2 a).fdiv (Hm.fn x.2 a)).natAbs < 2 ^ (7000 * a + 1) := by
        have h1 := (Hm.rest_sign (x := Hm.fn r.2 a) (l := Hm.fn x.2 a) (by omega)).2.2
        have h2 := hF2.bd a
        have h4 : 2 ^ (7000 * a + 1) = 2 ^ (7000 * a) + 2 ^ (7000 * a) := by rw [Nat.pow_succ]; omega
        have h5 : 1 ≤ 2 ^ (7000 * a) := Nat.pow_pos (by omega)
        omega
      have hy2 : y.natAbs < 2 ^ 6202 := by
        obtain ⟨j, hj⟩ := List.mem_iff_getElem?.mp hy
        have h1 := hbd j
        unfold Hm.fn at h1
        rw [List.getD_eq_getElem?_getD, hj] at h1
        exact Nat.lt_of_le_of_lt h1 (Hm.two_pow_lt (by omega))
      exact wide_mul hq hy2 (by omega) (by omega) (by omega)
    · rw [hp3, Int.fdiv_eq_ediv_of_nonneg _ (by omega)]
      rfl
  · intro H2 ys s2 hR2 hy
    refine ⟨_, rfl, (by show 1 ≤ sizeLine; decide), fun p1 np1 => ?_⟩
    have s3 := same_new (o := .lst [.ref x.1]) np1
    refine ⟨D2, p1, _, _, rfl, rfl, s3 _ _ hR2.lst, upd_same, ?_, fun p np => ?_⟩
    · have h1 : (rw_ ys).length = (fs.map fun r => Hm.redL a x.2 r.2).length := by rw [hy]
      rw [List.length_map, List.length_map] at h1
      rw [List.length_map]
      exact Nat.le_trans (show ys.length + 1 ≤ 4 by omega) (by decide)
    · have s4 := same_new (o := .lst (rf ys ++ [.ref x.1])) np
      refine nx _ p ys ((s2.trans s3).trans s4) ((s2.trans s3).free np) ⟨?_, fun y hy2 => ?_⟩ ?_
      · rw [upd_same]
        exact congrArg (fun z => some (HO.lst z)) (List.map_append (l₁ := ys) (l₂ := [x]) (f := fun x : Addr × List Int => V.ref x.1)).symm
      · rcases List.mem_append.mp hy2 with h | h
        · exact ((hR2.row y h).same s3).same s4
        · obtain rfl := List.mem_singleton.mp h
          exact hx.same ((s2.trans s3).trans s4)
      · rw [hy, List.map_map]
        rfl
end
end K4
set_option maxRecDepth 100000
set_option maxHeartbeats 2000000
namespace K4
open PySem PySem.Spec PyProof.Rows L2
theorem sqL_extN {K : PySem.W.Frag} {H H' : Hp} {a : Addr} {xs : List V} (e : LamX.ExtN H H') (h : SqL K H a xs) : SqL K H' a xs := by
  rcases h with (h | ⟨o, h⟩) | h
  · exact .inl (.inl (e _ _ h (fun ps z => nomatch z)))
  · exact .inl (.inr ⟨o, e _ _ h (fun ps z => nomatch z)⟩)
  · exact .inr h
theorem sqT_extN {K : PySem.W.Frag} {H H' : Hp} {a : Addr} {xs : List V} (e : LamX.ExtN H H') (h : SqT K H a xs) : SqT K H' a xs := by
  rcases h with (h | ⟨o, h⟩) | h
  · exact .inl (.inl (e _ _ h (fun ps z => nomatch z)))
  · exact .inl (.inr ⟨o, e _ _ h (fun ps z => nomatch z)⟩)
  · exact .inr h
theorem RI.ext {K : PySem.W.Frag} {H H' : Hp} {q : Addr} {rs : List (Addr × List Int)} (h : RI K H q rs) (e : LamX.ExtN H H') : RI K H' q rs := ⟨h.seq.elim (fun h => .inl (sqL_extN e h)) (fun h => .inr (sqT_extN e h)), fun x hx => (h.row x hx).ext e⟩
theorem New.of {H : Hp} {q : Addr} (h : H q = none) : New H q := fun o ho => by
  rw [h] at ho
  cases ho
theorem New.ext {H H' : Hp} {q : Addr} (e : LamX.ExtN H H') (h : New H' q) : New H q := fun o ho => by
  by_cases ht : ∃ ps, o = .tbl ps
  · exact ht
  · exact h o (e _ _ ho (fun ps z => ht ⟨ps, z⟩))
theorem New.ne {H : Hp} {q p : Addr} {o : HO} (h : New H q) (hp : H p = some o) (ho : ∀ ps, o ≠ .tbl ps) : p ≠ q := by
  intro z
  rw [z] at hp
  obtain ⟨ps, e⟩ := h o hp
  exact ho ps e
theorem nb_is : nb = [nbs 0, nbs 1] := rfl
section
variable {P : Program} {w : World} {K : PySem.W.Frag} {mg : Str → Option Value} {base : Heap}
variable {f fL fS : Addr} {fdL fdS : FuncData} {A : Around} {outer : List Env} {s : Shared} {H : Hp} {E : XK} {T : List (Addr × Str)} {cdv : Value}
/-- what holds at column i -/
def Nv (K : PySem.W.Frag) (T : List (Addr × Str)) (l : Addr) (w b n : Nat) (R : List (List Int)) (H0 : Hp) (i : Nat) (σ : L2.St) (H : Hp) : Prop := ∃ (qf qr : Addr) (fs rest : List (Addr × List Int)) (y4 y5 : Option V),
  σ = [some (.ref l), some (.int (w : Nat)), some (.ref qf), some (.ref qr), y4, y5, none] ∧ LamX.ExtN H0 H ∧ LamX.Tabs T H ∧ New H0 qf ∧ RL H qf fs ∧ RI K H qr rest ∧ rest.length ≤ n ∧ (∀ r ∈ rw_ fs, Hm.Fd w b n i r) ∧ Hm.Nrm w i R (rw_ fs) (rw_ rest) ∧ (∀ r ∈ rw_ rest, Rk w i (Hm.bb b n i) r) ∧ fs.length ≤ i
theorem nbody (cL : Cb P w K mg base CX0 1 "less" ["row", "other", "times"] (spLess K) fL fdL) (cS : Cb P w K mg base CX0 4 "swept" ["rows", "at"] (spSwept K T) fS fdS) (hr : Room 4 (A.deeper (envOfC "normal_rows" (defScope sNormal) s.heap.objs.size f cdv))) :
    ∃ t, PSs (XN P w K mg base f cdv A outer s H E) nb t ∧ ∀ (D : Ends) (l : Addr) (wd b n i : Nat) (R : List (List Int)) (H0 H1 : Hp) (qf qr : Addr) (fs rest : List (Addr × List Int)) (y5 : Option V),
      wd ≤ 3 → i < wd → 1 ≤ b → 25 * b + 6 * n + 6 ≤ 1200 →
      LamX.ExtN H0 H1 → LamX.Tabs T H1 → New H0 qf → RL H1 qf fs → RI K H1 qr rest → rest.length ≤ n → (∀ r ∈ rw_ fs, Hm.Fd wd b n i r) → Hm.Nrm wd i R (rw_ fs) (rw_ rest) → (∀ r ∈ rw_ rest, Rk wd i (Hm.bb b n i) r) → fs.length ≤ i →
      (∀ σ' H', Nv K T l wd b n R H0 (i + 1) σ' H' → D.nx σ' H') →
      t D [some (.ref l), some (.int (wd : Nat)), some (.ref qf), some (.ref qr), some (.int (i : Nat)), y5, none] H1 := by
  obtain ⟨t1, p1, q1⟩ := nif1 (f := f) (cdv := cdv) (outer := outer) (H := H) (E := E) cL hr
  rw [nb_is]
  refine ⟨_, pss_cons (ps_asg (pe_call cS.ok hr (by rfl) cS.g cS.kp cS.b .nil pass0 (pa_cons (pv 3) (pa_cons (pv 4) pa_nil))) (pg_tup (by rfl) (pgs_cons (pg_name (i := 5) scNormal.nd rfl (.inr rfl)) (pgs_cons (pg_name (i := 3) scNormal.nd rfl (.inl rfl)) pgs_nil))))
    (pss_one (ps_if (pt_cmpR op_notN (pv 5) pe_non (nomark _)) (pss_one p1) pss_nil)), ?_⟩
  intro D l wd b n i R H0 H1 qf qr fs rest y5 hw hi hb cap eX tb hNew hF hR hrn hFd hN hRk hfi nx
  have bi := Hm.bb_le (a := i) cap (by omega)
  refine ⟨_, rfl, _, rfl, qr, rest, wd, i, Hm.bb b n i, n, rfl, hR, tb, hi, hw, Hm.bb_pos hb i, bi, hrn, by omega, hRk, ?_⟩
  intro H2 p q v cl e2 tb2 hp hC hCk hcl hv
  refine ⟨p, _, rfl, SqT.of hp, rfl, v, [.ref q], rfl, .ref q, [], rfl, rfl, ?_⟩
  have nrk : ∀ (lo : Option Hm.Row), Hm.Swp i ((rw_ rest).map Hm.fn) lo ((rw_ cl).map Hm.fn) → ∀ r ∈ rw_ cl, Rk wd (i + 1) (Hm.bb b n (i + 1)) r := by
    intro lo hs r hr
    obtain ⟨h1, h2, h3⟩ := hCk r hr
    refine ⟨h1, fun j hj => ?_, h3⟩
    by_cases e : j = i
    · rw [e]
      exact hs.1 (Hm.fn r) (List.mem_map.mpr ⟨r, hr, rfl⟩)
    · exact h2 j (by omega)
  rcases hv with ⟨rfl, hs⟩ | ⟨x, rfl, hx, hxk, hxl, hs⟩
  · refine ⟨_, rfl, rfl, _, rfl, ?_⟩
    refine iteF ?_
    refine nx _ H2 ⟨qf, q, fs, cl, _, _, rfl, eX.trans e2, tb2, hNew, hF.ext e2, hC.ri, by omega, fun r hr => ?_, Hm.nrm_none hN hi hs, nrk none hs, by omega⟩
    have z := hFd r hr
    refine ⟨z.len, ?_, fun j => ?_⟩
    · obtain ⟨c, hc, h⟩ := z.beg
      exact ⟨c, by omega, h⟩
    · exact Nat.lt_of_lt_of_le (z.bd j) (Nat.pow_le_pow_right (by omega) (by omega))
  · refine ⟨_, rfl, rfl, _, rfl, ?_⟩
    refine iteT ?_
    have hpos : 0 < Hm.fn x.2 i := hs.2.1
    have c6 : Hm.bb b n (i + 1) ≤ 6201 := by
      show 5 * Hm.bb b n i + n + 1 ≤ 6201
      omega
    refine q1 _ H2 qf fs x wd b n i _ _ _ (hF.ext e2) hx hFd hxk.1 hi hw hpos (fun j => Nat.le_trans (hxk.2.2 j) (Nat.pow_le_pow_right (by omega) c6)) (by omega) fun H3 p3 ys s3 np3 hR3 hy => ?_
    refine nx _ H3 ⟨p3, q, ys ++ [x], cl, _, _, rfl, (eX.trans e2).trans (.of s3), tb2.ext s3, New.ext (eX.trans e2) (.of np3), hR3, (hC.same s3).ri, by omega, ?_, ?_, nrk _ hs, ?_⟩
    · intro r hr
      have hr : r ∈ List.map (fun x : Addr × List Int => x.2) (ys ++ [x]) := hr
      rw [List.map_append] at hr
      rcases List.mem_append.mp hr with h | h
      · have h : r ∈ rw_ ys := h
        rw [hy] at h
        obtain ⟨r0, h0, rfl⟩ := List.mem_map.mp h
        exact Hm.fd_red hxk.1 hxk.2.1 hpos hxk.2.2 c6 (hFd r0 h0)
      · obtain rfl := List.mem_singleton.mp h
        exact Hm.fd_lead hxk.1 hxk.2.1 hpos hxk.2.2 hxl c6
    · have e : rw_ (ys ++ [x]) = (rw_ fs).map (Hm.redL i x.2) ++ [x.2] := by
        rw [← hy]
        exact List.map_append
      rw [e]
      exact Hm.nrm_some hN hi hxk.1 hs
    · have h1 : (rw_ ys).length = ((rw_ fs).map (Hm.redL i x.2)).length := by rw [hy]
      rw [List.length_map, List.length_map, List.length_map] at h1
      rw [List.length_append, List.length_singleton]
      omega
theorem ok_normal (F : Fun K "normal_rows" "normal_rows" sNormal f fd) (B : Bn mg) (cL : Cb P w K mg base CX0 1 "less" ["row", "other", "times"] (spLess K) fL fdL) (cS : Cb P w K mg base CX0 4 "swept" ["rows", "at"] (spSwept K T) fS fdS) :
    FnOk P w K mg base CX0 5 f fd ["rows", "width"] (spNormal K T) := by
  refine F.ok scNormal (fun vs H Q E h => ?_) (fun cdv A outer s H vs Q E hr h => ?_)
  · obtain ⟨l, rs, wd, b, n, rfl, _⟩ := h
    rfl
  · obtain ⟨l, rs, wd, b, n, rfl, hI, hT, hw, hb, cap, hn, hk, q⟩ := h
    obtain ⟨t1, p1, q1⟩ := nbody (f := f) (cdv := cdv) (outer := outer) (H := H) (E := E) cL cS hr
    refine ⟨_, pss_cons (ps_set (i := 2) scNormal.nd rfl (.inl rfl) (pe_lst pa_nil)) (pss_cons (ps_set (i := 3) scNormal.nd rfl (.inl rfl) (pv 0))
      (pss_cons (ps_for PassesOwn.never rfl (pi_range1 (by rfl) B.range (pa_cons (pv 1) pa_nil)) (pg_name (i := 4) scNormal.nd rfl (Or.inr rfl)) p1) (pss_one (ps_ret (pv 2))))), ?_⟩
    refine ⟨(by show 0 ≤ sizeLine; decide), fun q0 nq0 => ⟨_, rfl, _, rfl, (wd : Int), rfl, by omega, by omega, ?_⟩⟩
    have s0 := same_new (o := .lst []) nq0
    refine for_it (walk_range (lo := 0) (n := (wd : Int).toNat)) (fun i σ H2 => Nv K T l wd b n (rw_ rs) H i σ H2) ⟨q0, l, [], rs, none, none, rfl, .of s0, hT.ext s0, .of nq0, ⟨upd_same, fun x hx => nomatch hx⟩, hI.ext (.of s0), hn, (fun r hr => nomatch hr), Hm.nrm_start fun r hr => (hk r hr).1, hk, Nat.le_refl _⟩ (fun _ _ _ _ _ => trivial) ?_ ?_
    · rintro i x σ H2 H2' hi ⟨qf, qr, fs, rest, y4, y5, rfl, eX, tb, hNew, hF, hR, hrn, hFd, hN, hRk, hfi⟩ ⟨rfl, rfl⟩
      refine (?_ : gName 4 _ _ _ _)
      have e : (0 : Int) + (i : Nat) = (i : Nat) := by omega
      show t1 _ [some (.ref l), some (.int (wd : Nat)), some (.ref qf), some (.ref qr), some (.int (0 + (i : Nat))), y5, none] H2'
      rw [e]
      refine q1 _ l wd b n i (rw_ rs) H H2' qf qr fs rest y5 hw (by omega) hb cap eX tb hNew hF hR hrn hFd hN hRk hfi fun σ' H' h => h
    · rintro σ H2 ⟨qf, qr, fs, rest, y4, y5, rfl, eX, tb, hNew, hF, hR, hrn, hFd, hN, hRk, hfi⟩
      refine ⟨_, rfl, ?_⟩
      have e : (wd : Int).toNat = wd := rfl
      rw [e] at hFd hN hfi
      exact q H2 qf fs (rw_ rest) eX tb hNew hF hFd hN hfi
end
end K4
set_option maxRecDepth 100000
set_option maxHeartbeats 1000000
/-! == and != of instances by an own __eq__ that answers True or False; in a list of other things -/
namespace Rs
open PySem PySem.Spec PyProof.Rows L2
/-- what an own __eq__ promises: the answer k -/
def spEqB (R : Addr → V → Hp → Bool → Prop) : Sp := fun vs H Q _ => ∃ a y k, vs = [.ref a, y] ∧ R a y H k ∧ ∀ H', Ext H H' → Q (.bl k) H'
/-- the class C, its own __eq__ at f -/
structure EqCls (K : PySem.W.Frag) (C f : Addr) : Prop where
  eq : PySem.W.findIn K (.ref C) "__eq__" = some (some (.ref f))
  fn : PySem.W.isFn K (.ref f) = true
  ne : PySem.W.findIn K (.ref C) "__ne__" = some (some (.builtin "object.__ne__"))
  mro : PySem.W.mroIn K C (.type "object") = some true
  no : PySem.W.subIn K (.ref C) (.type "list") = some false
  nt : PySem.W.subIn K (.ref C) (.type "tuple") = some false
  nn : PySem.W.subIn K (.ref C) (.type "NoneType") = some false
  ni : PySem.W.subIn K (.ref C) (.type "int") = some false
  ns : PySem.W.subIn K (.ref C) (.type "str") = some false
section
variable {X : Cx} {n : Nat} {CX : CXT} {C f : Addr} {fd : FuncData} {ps : List Str} {R : Addr → V → Hp → Bool → Prop} {E : XK} {A : Around} {pins : List (Addr × Obj)} {s : Shared} {σ : L2.St} {H : Hp} {a : Addr} {y : V} {v : Value} {k : Bool}
theorem run_eqB (F : FnOk X.prog X.w X.K X.mg X.base CX n f fd ps (spEqB R)) (hb : Binds X.K fd ps []) (hx : Passes CX X E) (sb : Sub X n A) (I : Inv X pins σ H s) (ry : RelV y v) (hr : R a y H k) :
    wpAny (model X.prog X.w) A (call (.ref f) [.ref a, v]) (fun r s' => r = .bool k ∧ ∃ H', Inv X pins σ H' s' ∧ Ext H H') X.xe s := by
  have hsp : spEqB R [.ref a, y] H (fun v H' => v = .bl k ∧ Ext H H') E := ⟨a, y, k, rfl, hr, fun H' e => ⟨rfl, e⟩⟩
  have e0 : Env0 X.prog X.w X.K X.mg X.base A X.stack s H := by
    have e := I.env0
    exact ⟨by rw [sb.fr]; exact e.frames, e.mod, e.bs, e.bsz, e.funs, e.frf, e.hok, e.bare⟩
  have hl := F.len _ _ _ _ hsp
  have r2 : Vals [V.ref a, y] [Value.ref a, v] := .cons rfl (.cons ry .nil)
  refine wpAny_call (codeAny_mono (F.run A X.stack s H ⟨[.ref a, v], []⟩ [.ref a, v] [.ref a, y] _ E sb.room e0 (by
    have := hb s [.ref a, v] I.kIn (by simpa using hl)
    simpa using this) r2 hsp) fun r s' hq => ?_)
  cases r with
  | error e => exact hx pins σ H s e s' I hq
  | ok fl =>
    cases fl with
    | ret w =>
      obtain ⟨z, H', I', rz, ez, ex⟩ := I.after hq
      subst ez
      cases rz
      exact ⟨rfl, H', I', ex⟩
    | next => exact False.elim hq
    | brk => exact False.elim hq
    | cont => exact False.elim hq
def rEqI (C : Addr) (R : Addr → V → Hp → Bool → Prop) (neg : Bool) : R2 := fun x y H Q => ∃ a b dx dy fs gs k, x = .ref a ∧ y = .ref b ∧ H a = some (.ins C dx fs) ∧ H b = some (.ins C dy gs) ∧ R a (.ref b) H k ∧ ∀ H', Ext H H' → Q (.bl (if neg then !k else k)) H'
theorem op_eqI (G : FnOk X.prog X.w X.K X.mg X.base CX n f fd ps (spEqB R)) (T : EqCls X.K C f) (hb : Binds X.K fd ps []) (hx : Passes CX X E) (hr : Room n X.A) : OpR X (compareOp .Eq) (rEqI C R false) := by
  intro pins s σ H x y v u Q I rx ry hq
  obtain ⟨a, b, dx, dy, fs, gs, k, rfl, rfl, ha, hb', hR, q⟩ := hq
  cases rx
  cases ry
  show wpAny (model X.prog X.w) X.A (richCompare .Eq (.ref a) (.ref b)) (EP X pins σ Q) X.xe s
  obtain ⟨mA, J, _⟩ := ins_get I.hok ha
  obtain ⟨mB, J', _⟩ := ins_get I.hok hb'
  obtain ⟨od, J, _⟩ := J.look
  obtain ⟨od', J', _⟩ := J'.look
  obtain ⟨m, hF⟩ := I.fr
  refine PySem.W.cmp_K (op := .Eq) (tb := .ref C) hr.units0 hF I.ok.mod.kin J J'.type (by simp [PySem.W.notFirst]) T.eq T.fn ?_
  refine wpAny_mono (run_eqB G hb hx ⟨hr, rfl⟩ I (y := .ref b) rfl hR) (fun r s' z => ?_) (fun _ _ z => z)
  obtain ⟨rfl, H', I', e⟩ := z
  exact ⟨.bl k, H', I', rfl, q H' e⟩
theorem op_neI (G : FnOk X.prog X.w X.K X.mg X.base CX n f fd ps (spEqB R)) (T : EqCls X.K C f) (hb : Binds X.K fd ps []) (hx : Passes CX X E) (hr : Room (n + 1) X.A) : OpR X (compareOp .NotEq) (rEqI C R true) := by
  intro pins s σ H x y v u Q I rx ry hq
  obtain ⟨a, b, dx, dy, fs, gs, k, rfl, rfl, ha, hb', hR, q⟩ := hq
  cases rx
  cases ry
  show wpAny (model X.prog X.w) X.A (richCompare .NotEq (.ref a) (.ref b)) (EP X pins σ Q) X.xe s
  obtain ⟨mA, J, _⟩ := ins_get I.hok ha
  obtain ⟨mB, J', _⟩ := ins_get I.hok hb'
  obtain ⟨od, J, _⟩ := J.look
  obtain ⟨od', J', _⟩ := J'.look
  have KX := I.kIn
  have sb : Sub X n X.A.in1 := ⟨hr.in1, rfl⟩
  have inner : wpAny (model X.prog X.w) X.A (call (.builtin "object.__ne__") [.ref a, .ref b]) (fun r s' => r = .bool (!k) ∧ ∃ H', Inv X pins σ H' s' ∧ Ext H H') X.xe s := by
    refine wpAny_call (codeAny_call_builtin F.cmp_object.ne.plain F.cmpEntry_ne (PySem.W.check_slot F.cmpKind_ne F.cmpSplit_ne (J.type.andThen (PySem.W.looks_mroIn KX T.mro)) (F.cmpArgs_ne _ _) ?_))
    have hu1 : X.A.in1.units < cLine := sb.room.units0
    unfold Builtin.«object.__ne__»
    refine wpAny_bind (m := slotArgs "__ne__" 1 _) (wpAny_pure ?_)
    refine wpAny_bind (wpAny_cRoomFor hu1 ?_)
    refine wpAny_bind (PySem.W.ifBound_K KX J T.eq T.fn ?_)
    refine wpAny_mono (run_eqB G hb hx sb I (y := .ref b) rfl hR) ?_ (fun _ _ z => z)
    rintro r s' ⟨rfl, H', I', e⟩
    show wpAny _ _ (truthy (.bool k) >>= fun z => ret (.bool !z)) _ _ _
    refine wpAny_bind (wpAny_truthy_bool ?_)
    exact wpAny_pure ⟨rfl, H', I', e⟩
  have one : wpAny (model X.prog X.w) X.A (tryCompare (.ref a) "__ne__" (.ref b)) (fun r s' => r = some (.bool (!k)) ∧ ∃ H', Inv X pins σ H' s' ∧ Ext H H') X.xe s := by
    unfold tryCompare
    simp only [callSpecialIfBound?, bindSpecialIfBound?]
    refine wpAny_bind (wpAny_holding (wpAny_bind (wpAny_bind (wpAny_bind (J.type.here ((PySem.W.looks_findIn KX T.ne).here ?_))))))
    refine wpAny_bind (wpAny_askSetting (wpAny_ite ?_))
    have fin : ∀ {Q : Option Value → Shared → Prop}, (∀ s', (∃ H', Inv X pins σ H' s' ∧ Ext H H') → Q (some (.bool (!k))) s') → wpAny (model X.prog X.w) X.A (call (.builtin "object.__ne__") ([.ref a] ++ [.ref b]) >>= fun v => pure (some v)) Q X.xe s := by
      intro Q hq
      refine wpAny_bind (wpAny_mono inner (fun v s' h' => ?_) fun _ _ h' => h')
      obtain ⟨rfl, h'⟩ := h'
      exact wpAny_pure (hq s' h')
    split
    · exact wpAny_bind (wpAny_of_eq (F.cmp_object.ne.bind _) (wpAny_pure (fin fun s' h' => wpAny_pure ⟨rfl, h'⟩)))
    · exact wpAny_tryCatch (wpAny_bind (wpAny_of_eq (F.cmp_object.ne.bind _) (wpAny_pure (fin fun s' h' => wpAny_pure ⟨rfl, h'⟩))))
  simp only [richCompare, cmpInfo_NotEq, oneThing_ref]
  refine wpAny_holding (wpAny_bind (wpAny_cRoomFor (Nat.lt_of_succ_lt (show X.A.units + 1 < cLine from sb.room.units0)) ?_))
  refine wpAny_bind (J.type.here (wpAny_bind (J'.type.here ?_)))
  simp only [bne_self_eq_false, Bool.false_eq_true, if_false]
  refine wpAny_bind (wpAny_pure ?_)
  simp only [Bool.false_eq_true, if_false]
  refine wpAny_bind (m := tryCompare (.ref a) _ (.ref b)) (wpAny_mono one (fun r s' z => ?_) fun _ _ e => e)
  obtain ⟨rfl, H', I', e⟩ := z
  exact wpAny_pure ⟨.bl (!k), H', I', rfl, q H' e⟩
end
end Rs
set_option maxRecDepth 100000
set_option maxHeartbeats 1000000
namespace Rs
open PySem PySem.Spec PyProof.Rows L2
open PySem.MeetsSeq PySem.MeetsSeq2 PySem.SeqRoads2
open PySem.AutoSeq1 (wpAny_loadPart')
theorem int_declines_inst (b : Int) (u : Tok) (l : Addr) (c : Value) (dd : Option Addr) (sl : Array (Option Value)) :
    Meets (Builtin.«int.__eq__» ⟨[.int b u, .ref l], []⟩) (fun _ R s => s.heap.get? l = some { cls := c, dict := dd, data := .plain, slots := sl } ∧ R (.ok (.ret .notImplemented)) s) :=
  .of_wp fun prog w A R s h => by obtain ⟨hp, g, d, tk, os⟩ := s; obtain ⟨hl, h⟩ := h; wp_walk using wpAny_loadPart' hl, wpAny_load hl; exact ⟨_, rfl, h⟩
theorem str_declines_inst (b : Str) (u : Tok) (l : Addr) (c : Value) (dd : Option Addr) (sl : Array (Option Value)) :
    Meets (Builtin.«str.__eq__» ⟨[.str b u, .ref l], []⟩) (fun _ R s => s.heap.get? l = some { cls := c, dict := dd, data := .plain, slots := sl } ∧ R (.ok (.ret .notImplemented)) s) :=
  .of_wp fun prog w A R s h => by obtain ⟨hp, g, d, tk, os⟩ := s; obtain ⟨hl, h⟩ := h; wp_walk using wpAny_loadPart' hl, wpAny_load hl; exact ⟨_, rfl, h⟩
theorem list_declines_inst {K : PySem.W.Frag} {C : Addr} (l x : Addr) (ox : Obj) (od : Option Obj) (e : PySem.W.subIn K (.ref C) (.type "list") = some false) :
    Meets (Builtin.«list.__eq__» ⟨[.ref l, .ref x], []⟩) (fun _ R s => K.In s.heap ∧ PySem.W.InstAt s.heap x ox C od ∧ R (.ok (.ret .notImplemented)) s) :=
  .of_wp fun prog w A R s h => by
    obtain ⟨X, J, h⟩ := h
    have key : ∀ {Q : Bool → Shared → Prop} {E : Value → Shared → Prop}, Q false s → wpAny (model prog w) A.in1 (isInstance (.ref x) (.type "list")) Q E s := fun {Q E} hq => by
      unfold isInstance
      exact wpAny_bind (J.type.here ((PySem.W.looks_subIn X e).here hq))
    wp_walk using key
    exact ⟨_, rfl, h⟩
section
variable {X : Cx} {n : Nat} {CX : CXT} {C f : Addr} {fd : FuncData} {ps : List Str} {R : Addr → V → Hp → Bool → Prop} {E : XK} {A : Around} {pins : List (Addr × Obj)} {s : Shared} {σ : L2.St} {H : Hp} {a dx : Addr} {fs : List (Str × V)} {y : V} {v : Value} {k : Bool}
/-- the other one declines, so the own __eq__ is asked -/
theorem rc_back {T id : String} {od : Option Obj} {ox : Obj} (G : FnOk X.prog X.w X.K X.mg X.base CX n f fd ps (spEqB R)) (EC : EqCls X.K C f) (hb : Binds X.K fd ps []) (hx : Passes CX X E) (sb : Sub X n A) (I : Inv X pins σ H s)
    (J : PySem.W.InstAt s.heap a ox C od) (ry : RelV y v) (hT : s.TypeIs v T) (slot : Slot T "__eq__" id) (hsub : PySem.W.subIn X.K (.ref C) (.type T) = some false)
    (hd : ∀ Q' : Value → Shared → Prop, Q' .notImplemented s → wpAny (model X.prog X.w) A (call (.builtin id) [v, .ref a]) Q' X.xe s) (hR : R a y H k) :
    wpAny (model X.prog X.w) A (richCompare .Eq v (.ref a)) (fun r s' => r = .bool k ∧ ∃ H', Inv X pins σ H' s' ∧ Ext H H') X.xe s := by
  have KX := I.kIn
  have two : wpAny (model X.prog X.w) A (tryCompare (.ref a) "__eq__" v) (fun r s' => r = some (.bool k) ∧ ∃ H', Inv X pins σ H' s' ∧ Ext H H') X.xe s := by
    unfold tryCompare
    refine wpAny_bind (PySem.W.ifBound_K KX J EC.eq EC.fn (wpAny_mono (run_eqB G hb hx sb I ry hR) (fun r s' z => ?_) fun _ _ e => e))
    obtain ⟨rfl, z⟩ := z
    exact wpAny_pure ⟨rfl, z⟩
  simp only [richCompare, cmpInfo_Eq, hT.oneThing_none]
  refine wpAny_holding (wpAny_bind (wpAny_cRoomFor sb.room.units0 ?_))
  refine wpAny_bind (wpAny_typeOf hT (wpAny_bind (J.type.here ?_)))
  split
  · refine wpAny_bind ((PySem.W.looks_subIn KX hsub).here ?_)
    simp only [Bool.false_eq_true, if_false, Bool.not_false, if_true]
    refine wpAny_bind (m := tryCompare v _ (.ref a)) (wpAny_tryCompare_declines hT slot (hd _ ⟨rfl, ?_⟩))
    refine wpAny_bind (m := tryCompare (.ref a) _ v) (wpAny_mono two (fun r s' z => ?_) fun _ _ e => e)
    obtain ⟨rfl, z⟩ := z
    exact wpAny_pure ⟨rfl, z⟩
  · rename_i q
    exact absurd (by simp) q
/-- what is no instance: None, a number, a text, a list -/
def Fgn (H : Hp) (z : V) : Prop := z = .non ∨ (∃ i, z = .int i) ∨ (∃ t, z = .str t) ∨ ∃ l xs, z = .ref l ∧ H l = some (.lst xs)
theorem Fgn.ext {H H' : Hp} {z : V} (h : Fgn H z) (e : Ext H H') : Fgn H' z := by
  rcases h with h | h | h | ⟨l, xs, h1, h2⟩
  · exact .inl h
  · exact .inr (.inl h)
  · exact .inr (.inr (.inl h))
  · exact .inr (.inr (.inr ⟨l, xs, h1, e _ _ h2⟩))
theorem rc_fgn (G : FnOk X.prog X.w X.K X.mg X.base CX n f fd ps (spEqB R)) (EC : EqCls X.K C f) (hb : Binds X.K fd ps []) (hx : Passes CX X E) (sb : Sub X n A) (I : Inv X pins σ H s)
    (ha : H a = some (.ins C dx fs)) (ry : RelV y v) (hf : Fgn H y) (hR : R a y H k) :
    wpAny (model X.prog X.w) A (richCompare .Eq v (.ref a)) (fun r s' => r = .bool k ∧ ∃ H', Inv X pins σ H' s' ∧ Ext H H') X.xe s := by
  obtain ⟨mA, O, _⟩ := ins_get I.hok ha
  obtain ⟨od, J, _⟩ := O.look
  have at_ : s.heap.get? a = some { cls := .ref C, dict := some dx, data := .plain, slots := #[] } := J.at_
  rcases hf with rfl | ⟨i, rfl⟩ | ⟨t, rfl⟩ | ⟨l, xs, rfl, hl⟩
  · cases ry
    refine rc_back (T := "NoneType") G EC hb hx sb I J (y := .non) rfl rfl F.slot_NoneType_eq_refl EC.nn (fun Q' hq => ?_) hR
    exact call_gives F.slot_NoneType_eq_refl rfl F.entry_NoneType_eq (F.args_NoneType_eq_2 _ _) (PySem.SeqAt.NoneType___eq___none_ref_0 a) hq
  · obtain ⟨t, rfl⟩ := ry
    refine rc_back (T := "int") G EC hb hx sb I J (y := .int i) ⟨t, rfl⟩ rfl F.slot_int_eq EC.ni (fun Q' hq => ?_) hR
    exact call_meets F.slot_int_eq rfl F.entry_int_eq (F.args_int_eq_2 _ _) (int_declines_inst i t a _ _ _) ⟨at_, hq⟩
  · obtain ⟨u, rfl⟩ := ry
    refine rc_back (T := "str") G EC hb hx sb I J (y := .str t) ⟨u, rfl⟩ rfl F.slot_str_eq EC.ns (fun Q' hq => ?_) hR
    exact call_meets F.slot_str_eq rfl F.entry_str_eq (F.args_str_eq_2 _ _) (str_declines_inst t u a _ _ _) ⟨at_, hq⟩
  · cases ry
    obtain ⟨hz, its, m, rz, eo⟩ := I.hok l _ hl
    refine rc_back (T := "list") G EC hb hx sb I J (y := .ref l) rfl ⟨_, eo, rfl⟩ F.slot_list_eq EC.no (fun Q' hq => ?_) hR
    exact call_meets F.slot_list_eq ⟨_, eo, rfl⟩ F.entry_list_eq (F.args_list_eq_2 _ _) (list_declines_inst (K := X.K) l a _ _ EC.no) ⟨I.kIn, J, hq⟩
end
end Rs
set_option maxRecDepth 100000
set_option maxHeartbeats 1000000
namespace Rs
open PySem PySem.Spec PyProof.Rows L2
open PySem.MeetsSeq PySem.MeetsSeq2 PySem.SeqRoads2
open PySem.AutoSeq1 (wpAny_loadPart')
section
variable {prog : Program} {w : World} {A : Around} {R : Result → Shared → Prop}
/-- at each turn the list is read anew: none of its items is equal -/
def NoI (prog : Program) (w : World) (A : Around) (E : Value → Shared → Prop) (l : Addr) (x : Value) (N : Nat) (I : Nat → Shared → Prop) : Prop :=
  ∀ i s, I i s → ∃ (items : Array Value) (n : Nat), s.heap.get? l = some { cls := .type "list", data := .seq items n } ∧ items.size = N ∧
    ∀ (h1 : i < items.size), wpAny (model prog w) A.in1 (eqBool items[i] x) (fun r s' => r = false ∧ I (i + 1) s') E s
theorem in_loopG (l : Addr) (x : Value) (N : Nat) (I : Nat → Shared → Prop) (hl : NoI prog w A (fun e s' => R (.error e) s') l x N I)
    (fin : ∀ s, I N s → R (.ok (.ret (.bool false))) s) (k : Nat) :
    ∀ i : Nat, N - i = k → i ≤ N → ∀ s, I i s →
      wpAny (model prog w) A.in1 (Builtin.«list.__contains__.loop» ⟨[.ref l, x, rawInt i], []⟩) (GQ.FinOf prog w A R) (fun e s' => R (.error e) s') s := by
  induction k with
  | zero =>
    intro i hk hi s h
    obtain ⟨items, n, hl1, hs1, _⟩ := hl _ _ h
    have hi' : i = N := by omega
    have hR : R (.ok (.ret (.bool false))) s := fin s (hi' ▸ h)
    obtain ⟨hp, g, d, tk, os⟩ := s
    wp_walk using wpAny_loadPart' hl1
    have hi1 : items[((i : Nat) : Int).toNat]? = none := by simp; omega
    rw [hi1]
    wp_walk
    exact hR
  | succ k ih =>
    intro i hk hi s h
    obtain ⟨items, n, hl1, hs1, turn⟩ := hl _ _ h
    have hlt : i < items.size := by omega
    have ht := turn hlt
    obtain ⟨hp, g, d, tk, os⟩ := s
    wp_walk using wpAny_loadPart' hl1
    have hi1 : items[((i : Nat) : Int).toNat]? = some items[i] := by simp [hlt]
    have hc : ((i : Int) + 1) = ((i + 1 : Nat) : Int) := by omega
    rw [hi1]
    refine wpAny_bind (wpAny_mono ht (fun r s2 h2 => ?_) fun _ _ x => x)
    obtain ⟨hr, h2⟩ := h2
    subst hr
    have hrec := ih (i + 1) (by omega) (by omega) s2 h2
    obtain ⟨hp2, g2, d2, tk2, os2⟩ := s2
    wp_walk
    rw [hc]
    exact ⟨plainId_quiet plain_contains_loop _, codeAny_builtin entry_contains_loop (by
      rw [Around.under_plainId plain_contains_loop _]
      exact hrec)⟩
theorem list_inG (l : Addr) (x : Value) (N : Nat) (I : Nat → Shared → Prop) (hl : NoI prog w A (fun e s' => R (.error e) s') l x N I)
    (fin : ∀ s, I N s → R (.ok (.ret (.bool false))) s) {s : Shared} (h : I 0 s) :
    wpAny (model prog w) A.in1 (Builtin.«list.__contains__» ⟨[.ref l, x], []⟩) (GQ.FinOf prog w A R) (fun e s' => R (.error e) s') s := by
  obtain ⟨items, n, hl1, hs1, _⟩ := hl _ _ h
  have hrec := in_loopG (A := A) (R := R) l x N I hl fin _ 0 rfl (Nat.zero_le _) s h
  obtain ⟨hp, g, d, tk, os⟩ := s
  wp_walk using wpAny_loadPart' hl1
  exact ⟨plainId_quiet plain_contains_loop _, codeAny_builtin entry_contains_loop (by
    rw [Around.under_plainId plain_contains_loop _]
    exact hrec)⟩
end
section
variable {X : Cx} {n : Nat} {CX : CXT} {C f : Addr} {fd : FuncData} {ps : List Str} {R : Addr → V → Hp → Bool → Prop} {E : XK}
/-- x in l, x an instance, l a list of other things: False -/
def rInF (C : Addr) (R : Addr → V → Hp → Bool → Prop) : R2 := fun x y H Q => ∃ a l dx fs xs, x = .ref a ∧ y = .ref l ∧ H a = some (.ins C dx fs) ∧ H l = some (.lst xs) ∧ (∀ z ∈ xs, Fgn H z ∧ ∀ H', Ext H H' → R a z H' false) ∧ ∀ H', Ext H H' → Q (.bl false) H'
theorem op_inF (G : FnOk X.prog X.w X.K X.mg X.base CX n f fd ps (spEqB R)) (EC : EqCls X.K C f) (hb : Binds X.K fd ps []) (hx : Passes CX X E) (hr : Room (n + 1) X.A) : OpR X (compareOp .In) (rInF C R) := by
  intro pins s σ H x y v u Q I rx ry hq
  obtain ⟨a, l, dx, fs, xs, rfl, rfl, ha, hl, hz, q⟩ := hq
  cases rx
  cases ry
  have sb : Sub X n X.A.in1 := ⟨hr.in1, rfl⟩
  obtain ⟨_, its0, m0, rz0, eo0⟩ := I.hok l _ hl
  have nI : NoI X.prog X.w X.A X.xe l (.ref a) xs.length (fun i s' => ∃ H', Inv X pins σ H' s' ∧ Ext H H') := by
    rintro i s' ⟨H', I', e⟩
    obtain ⟨_, its, m, rz, eo⟩ := I'.hok l _ (e _ _ hl)
    have hlen : its.toArray.size = xs.length := by
      rw [List.size_toArray]
      exact rz.length.symm
    refine ⟨its.toArray, m, eo, hlen, fun h1 => ?_⟩
    have hi : i < xs.length := by omega
    have hi2 : i < its.length := by simpa using h1
    obtain ⟨u, hu, ru⟩ := rz.get (List.getElem?_eq_getElem hi)
    have eu : its.toArray[i] = u := by
      have : its[i]? = some its[i] := List.getElem?_eq_getElem hi2
      rw [this] at hu
      simpa using Option.some.inj hu
    rw [eu]
    obtain ⟨f1, f2⟩ := hz xs[i] (List.getElem_mem hi)
    have rc := rc_fgn G EC hb hx sb I' (e _ _ ha) ru (f1.ext e) (f2 H' e)
    have ne : ¬ ((u == Value.ref a) = true) := by
      intro hab
      have hab := eq_of_beq hab
      rcases f1 with z | ⟨i, z⟩ | ⟨t, z⟩ | ⟨l2, ys, z, h2⟩
      · rw [z] at ru; cases ru; cases hab
      · rw [z] at ru; obtain ⟨t, rfl⟩ := ru; cases hab
      · rw [z] at ru; obtain ⟨t, rfl⟩ := ru; cases hab
      · rw [z] at ru
        cases ru
        injection hab with hab
        rw [hab, ha] at h2
        cases h2
    unfold eqBool
    refine wpAny_holding ?_
    refine wpAny_ite_split (fun hab => absurd hab ne) (fun _ => ?_)
    have fin : wpAny (model X.prog X.w) X.A.in1 (richCompare .Eq u (.ref a) >>= fun r => truthOfDropped r) (fun r s' => r = false ∧ ∃ H', Inv X pins σ H' s' ∧ Ext H H') X.xe s' := by
      refine wpAny_bind (wpAny_mono rc (fun r s2 z => ?_) fun _ _ e => e)
      obtain ⟨rfl, H2, I2, e2⟩ := z
      exact wpAny_truthy_bool ⟨rfl, H2, I2, e.trans e2⟩
    rcases f1 with z | ⟨i, z⟩ | ⟨t, z⟩ | ⟨l2, ys, z, h2⟩
    · rw [z] at ru; cases ru; exact fin
    · rw [z] at ru; obtain ⟨t, rfl⟩ := ru; exact fin
    · rw [z] at ru; obtain ⟨t, rfl⟩ := ru; exact fin
    · rw [z] at ru; cases ru; exact fin
  show wpAny (model X.prog X.w) X.A (do return .bool (← contains (.ref l) (.ref a))) (EP X pins σ Q) X.xe s
  refine wpAny_bind (wpAny_contains_slot ⟨_, eo0, rfl⟩ F.slot_list_contains (GQ.call_here F.slot_list_contains ⟨_, eo0, rfl⟩ F.entry_list_contains (F.args_list_contains_2 _ _) ?_))
  refine list_inG l (.ref a) xs.length _ nI (fun s' z => ?_) ⟨H, I, Ext.rfl'⟩
  obtain ⟨H', I', e⟩ := z
  exact wpAny_truthy_bool (wpAny_pure ⟨.bl false, H', I', rfl, q H' e⟩)
end
end Rs
set_option maxRecDepth 100000
set_option maxHeartbeats 1000000
namespace Rs
open PySem PySem.Spec PyProof.Rows L2
section
variable {X : Cx} {CX : CXT} {k n : Nat} {f C : Addr} {fd : FuncData} {ps ks : List Str} {sp : Sp} {E : XK} {x : Str} {p pos : Pos} {kws : List Keyword} {tk : TA} {g : List Value → List Value → List Value} {gV : List V → List V → List V}
/-- C(k = v, ..): keywords alone -/
theorem e_makeK0 (M : Mk X.K C f) (F : FnOk X.prog X.w X.K X.mg X.base CX k f fd ps sp) (hr : Room (k + 1) X.A) (hg : Gl X x) (hm : X.mg x = some (.ref C)) (hb : KBn X.K fd ps 1 ks g gV) (hx : Passes CX X E)
    (hkw : PK X kws tk) (hall : (backToKw pos (keywordEach kws X.env)).all (·.1.isSome) = true := by rfl) (hks : (backToKw pos (keywordEach kws X.env)).filterMap (·.1) = ks := by rfl)
    (hdb : (x == ("__debug__" : Str)) = false := by decide)
    (hpl : ((backTo pos (starEach [] X.env)).any (·.1) || (backToKw pos (keywordEach kws X.env)).any (·.1.isNone)) = false := by rfl) :
    PE X (.Call (.Name x p) [] kws pos) (tMakeN C 0 ks.length sp gV E tNil tk) := by
  refine ⟨fun pins s σ H Q I h => ?_⟩
  refine wpAny_Call_Name_kw (ld_glob I hg hm (PySem.W.callWith_KW0 (h₀ := X.base) I.ok.mod.kin M.kp hall (thn (hkw.run pos pins s σ H _ I h) ?_) hpl) hdb)
  rintro ws s2 ⟨zs, H2, I2, rz, l1, l2, q2⟩
  refine ⟨I2.kIn, ?_⟩
  rw [hks]
  exact run_makeN (n := 0) (us := []) (vs := []) M F hr hb hx I2 .nil rz l1 l2 q2
/-- repr(o) by an own __repr__ -/
theorem call_reprI (F : FnOk X.prog X.w X.K X.mg X.base CX n f fd ps sp) (hf : PySem.W.findIn X.K (.ref C) "__repr__" = some (some (.ref f))) (fn : PySem.W.isFn X.K (.ref f) = true) (hb : Binds X.K fd ps []) (hx : Passes CX X E) (hr : Room (n + 1) X.A) :
    CallR X (.builtin "repr") (fun xs H Q => ∃ a dx fs, xs = [.ref a] ∧ H a = some (.ins C dx fs) ∧ sp [.ref a] H (fun v H' => ∃ t, v = .str t ∧ Q v H') E) := by
  intro pins s σ H xs us Q I r h
  obtain ⟨a, dx, fs, rfl, ha, hsp⟩ := h
  obtain ⟨u, rfl, ru⟩ := vals1 r
  obtain rfl : u = Value.ref a := ru
  obtain ⟨mA, O, _⟩ := ins_get I.hok ha
  obtain ⟨od, J, _⟩ := O.look
  obtain ⟨m, hF⟩ := I.fr
  refine PySem.W.repr_K hr.in1.units0 hF I.ok.mod.kin J hf fn ?_
  have hl := F.len _ _ _ _ hsp
  refine wpAny_call (codeAny_mono (F.run X.A.in1 X.stack s H ⟨[.ref a], []⟩ [.ref a] [.ref a] _ E hr.in1 I.env0.in1 (by
    have := hb s [.ref a] I.kIn (by simpa using hl)
    simpa using this) (.cons rfl .nil) hsp) fun r s' hq => ?_)
  cases r with
  | error e => exact hx pins σ H s e s' I hq
  | ok fl =>
    cases fl with
    | ret w =>
      obtain ⟨z, H', I', rz, t, rfl, q⟩ := I.after hq
      obtain ⟨tk, rfl⟩ := rz
      exact ⟨.str t, H', I', ⟨tk, rfl⟩, q⟩
    | next => exact False.elim hq
    | brk => exact False.elim hq
    | cont => exact False.elim hq
end
/-! a property that returns a field, by a look -/
def wfP (K : PySem.W.Frag) (C : Addr) (m : Str) : Addr := match PySem.W.recIn K (He.ma K C m) "property" with
  | some (.ref g :: _) => g
  | _ => 0
def gettB (K : PySem.W.Frag) (g : Addr) (q f : Str) : Bool := match K.lookup g with
  | some ⟨_, _, .func ⟨_, qual, ⟨[], [⟨a, none, _⟩], none, [], [], none, []⟩, .stmts [.Return (some (.Attribute (.Name s _) f' _)) _], scope, gl, [], .none, _, _, _, _, cdv, _, bn⟩, _⟩ =>
    decide (qual = q) && (decide (a = "self") && (decide (s = "self") && (decide (f' = f) && (decide (gl = mainGlobals) && (decide (bn = builtinsNs) && (PySem.W.codeIn K cdv q && (decide (scope.kind = .function) && (!scope.isCoroutine && (!scope.isGenerator && (decide (scope.names.lookup ("self" : Str) = some .local) && scope.names.all fun y => decide (y.2 ≠ .free)))))))))))
  | _ => false
def propB (K : PySem.W.Frag) (C : Addr) (q m f : Str) : Bool := He.eqO (PySem.W.findIn K (.ref C) m) (some (some (.ref (He.ma K C m)))) && (He.eqO (PySem.W.specialIn K (.ref (He.ma K C m)) "__get__") (some (some (.builtin "property.__get__"))) && (decide (PySem.W.takesIn K (.ref (He.ma K C m)) = some true) &&
  ((match PySem.W.recIn K (He.ma K C m) "property" with
    | some (.ref g :: _) => decide (g = wfP K C m)
    | _ => false) && gettB K (wfP K C m) q f)))
theorem gett_ok {K : PySem.W.Frag} {C g : Addr} {q f : Str} (h : gettB K g q f = true) (c : Cls K C) (n : NoAttr K C f) : ∃ fd, (∀ (P : Program) (w : World) (mg : Str → Option Value) (base : Heap) (CX : CXT) (k : Nat), FnOk P w K mg base CX (k + 1) g fd ["self"] (getSp C f)) ∧ Binds K fd ["self"] [] := by
  unfold gettB at h
  split at h
  · rename_i oc od nm qual a ap s sp f' fp rp scope gl kV doc pm an cdv ct bn osl lk
    obtain ⟨h1, h⟩ := He.ba h
    obtain ⟨h2, h⟩ := He.ba h
    obtain ⟨h3, h⟩ := He.ba h
    obtain ⟨h4, h⟩ := He.ba h
    obtain ⟨h5, h⟩ := He.ba h
    obtain ⟨h6, h⟩ := He.ba h
    obtain ⟨h7, h⟩ := He.ba h
    obtain ⟨h8, h⟩ := He.ba h
    obtain ⟨h9, h⟩ := He.ba h
    obtain ⟨h10, h⟩ := He.ba h
    obtain ⟨h11, h12⟩ := He.ba h
    obtain rfl := of_decide_eq_true h1
    obtain rfl := of_decide_eq_true h2
    obtain rfl := of_decide_eq_true h3
    obtain rfl := of_decide_eq_true h4
    obtain rfl := of_decide_eq_true h5
    obtain rfl := of_decide_eq_true h6
    have S : FnScope ["self"] ["self"] scope := ⟨of_decide_eq_true h8, by simpa using h9, by simpa using h10, by decide, rfl, fun x hx => by
      obtain rfl := List.mem_singleton.mp hx
      exact .inl (of_decide_eq_true h11), fun y hy => of_decide_eq_true (List.all_eq_true.mp h12 y hy)⟩
    refine ⟨_, fun P w mg base CX k => fn_getter (k := k) lk h7 S rfl rfl c n, ?_⟩
    exact .all fun us hl => match us, hl with | [_], _ => rfl
  · cases h
theorem prop_ok {K : PySem.W.Frag} {C : Addr} {q m f : Str} (h : propB K C q m f = true) (c : Cls K C) (n : NoAttr K C f) :
    PropOf K C m (He.ma K C m) (wfP K C m) ∧ ∃ fd, (∀ (P : Program) (w : World) (mg : Str → Option Value) (base : Heap) (CX : CXT) (k : Nat), FnOk P w K mg base CX (k + 1) (wfP K C m) fd ["self"] (getSp C f)) ∧ Binds K fd ["self"] [] := by
  obtain ⟨h1, h⟩ := He.ba h
  obtain ⟨h2, h⟩ := He.ba h
  obtain ⟨h3, h⟩ := He.ba h
  obtain ⟨h4, h5⟩ := He.ba h
  refine ⟨⟨He.eqO_ok h1, He.eqO_ok h2, of_decide_eq_true h3, ?_⟩, gett_ok h5 c n⟩
  split at h4
  · rename_i g rest e
    exact ⟨rest, by rw [e, of_decide_eq_true h4]⟩
  · cases h4
end Rs
set_option maxRecDepth 100000
set_option maxHeartbeats 1000000
/-! enumerate(tuple) -/
namespace Rs
open PySem PySem.Spec PyProof.Rows L2
open PySem.AutoSeq1 (wpAny_loadPart')
theorem meets_enumerate_newT (l : Addr) (items : Array Value) (n : Nat) (dct : Option Addr) (sl : Array (Option Value)) :
    Meets (Builtin.«enumerate.__new__» ⟨[.type "enumerate", .ref l], []⟩) (fun _ R s => s.heap.get? l = some { cls := .type "tuple", dict := dct, data := .seq items n, slots := sl } ∧
      R (.ok (.ret (.ref (s.heap.push { cls := .type "tuple_iterator", data := .fields #[.ref l, .int 0 0] }).objs.size)))
        { s with heap := (s.heap.push { cls := .type "tuple_iterator", data := .fields #[.ref l, .int 0 0] }).push { cls := .type "enumerate", data := .fields #[.none, .bool false, .ref s.heap.objs.size, rawInt 0, .none, .none] } }) :=
  .of_wp fun prog w A R s h => by
    obtain ⟨hp, g, d, tk, os⟩ := s; obtain ⟨hl, h⟩ := h
    have hsub := sub_enumerate
    have hL : Heap.IsTuple (Shared.heap ⟨hp, g, d, tk, os⟩) l items := ⟨_, hl, rfl, n, rfl⟩
    wp_walk using wpAny_loadPart' hl
    refine wpAny_stack_any fun st => wpAny_pure ?_
    split
    · rename_i c _ _ _ _ _
      cases (c == Value.type "enumerate")
      · wp_walk using wpAny_loadPart' hl, wpAny_pyIter_tuple hL
        exact ⟨_, rfl, h⟩
      · wp_walk using wpAny_loadPart' hl, wpAny_pyIter_tuple hL
        exact ⟨_, rfl, h⟩
    · wp_walk using wpAny_loadPart' hl, wpAny_pyIter_tuple hL
      exact ⟨_, rfl, h⟩
section
variable {prog : Program} {w : World} {A : Around} {E : Value → Shared → Prop} {s : Shared}
theorem call_enumerate_tuple {l : Addr} {items : Array Value} {Q : Value → Shared → Prop} (hL : s.heap.IsTuple l items)
    (h : ∀ h', IsEnum h' (s.heap.objs.size + 1) s.heap.objs.size 0 .none → h'.IsTupleIter s.heap.objs.size l 0 → h'.objs.size = s.heap.objs.size + 2 →
      (∀ b o, s.heap.get? b = some o → h'.get? b = some o) → Q (.ref (s.heap.objs.size + 1)) { s with heap := h' }) :
    wpAny (model prog w) A (call (.type "enumerate") [.ref l]) Q E s := by
  obtain ⟨⟨c, dct, dt, sl⟩, hl, hc, n, hd⟩ := hL
  replace hc : c = .type "tuple" := hc
  replace hd : dt = .seq items n := hd
  subst hc hd
  refine callType_new F.called_enumerate (by decide) (F.typeCall_enumerate_1 _) (F.newCall_enumerate_1 _) (fun obj => F.args_object_init_2 obj _) F.entry_enumerate_new
    (meets_enumerate_newT l items n dct sl) ⟨hl, ?_⟩
  have hz : (s.heap.push { cls := .type "tuple_iterator", data := .fields #[.ref l, .int 0 0] }).objs.size = s.heap.objs.size + 1 := Heap.size_push ..
  show _ ∧ _
  rw [hz]
  have he : IsEnum ((s.heap.push { cls := .type "tuple_iterator", data := .fields #[.ref l, .int 0 0] }).push
      { cls := .type "enumerate", data := .fields #[.none, .bool false, .ref s.heap.objs.size, rawInt 0, .none, .none] }) (s.heap.objs.size + 1) s.heap.objs.size 0 .none := by
    have := Heap.get?_push_size (s.heap.push { cls := .type "tuple_iterator", data := .fields #[.ref l, .int 0 0] })
      (o := { cls := .type "enumerate", data := .fields #[.none, .bool false, .ref s.heap.objs.size, rawInt 0, .none, .none] }) rfl
    rw [hz] at this; exact this
  refine ⟨⟨_, he, rfl⟩, h _ he ⟨_, Heap.get?_push_of_some _ (Heap.get?_push_size _ rfl), rfl, rfl⟩ (by rw [Heap.size_push, hz]) fun b o x => Heap.get?_push_of_some _ (Heap.get?_push_of_some _ x)⟩
end
/-- the tuple at a, each item in a new pair -/
def ItetT (K : PySem.W.Frag) (a : Addr) : It :=
  ⟨fun i H => ∃ (xs : List V) (x : V), SqT K H a xs ∧ xs[i]? = some x, fun i H v H' => ∃ T x, v = .ref T ∧ H T = none ∧ H' = upd H T (.tup [.int (i : Nat), x]) ∧ ∀ xs, SqT K H a xs → xs[i]? = some x, fun i H => ∃ xs : List V, SqT K H a xs ∧ xs.length ≤ i⟩
theorem turn_enumT {P : Program} {w : World} {K : PySem.W.Frag} {elts : List Expr} {kk : Nat} {tpos : Pos} (a e it : Addr) :
    Turn P w K (.Tuple elts kk tpos) (ItetT K a) [e, it] e (fun i h => (∃ old, IsEnum h e it ((i : Nat) : Int) old) ∧ h.IsTupleIter it a i ∧ e ≠ it) where
  mem := by simp
  obj := fun i h st b hb => by
    obtain ⟨⟨old, he⟩, ⟨o, ho, hc, hd⟩, _⟩ := st
    have e' : b = e ∨ b = it := by simpa using hb
    rcases e' with z | z
    · rw [z]; exact ⟨_, he, fun v q => nomatch q⟩
    · rw [z]; exact ⟨o, ho, fun v q => by rw [hd] at q; cases q⟩
  keep := fun i h h' st k => let ⟨⟨old, he⟩, hi, hne⟩ := st; ⟨⟨old, k e (by simp) _ he⟩, hi.at fun o q => k it (by simp) o q, hne⟩
  item := by
    intro X hP hw hK hc i pins s σ H E I hf st hg
    subst hP hw hK
    obtain ⟨⟨old, he⟩, hit, hne⟩ := st
    obtain ⟨xs, x, hq, hx⟩ := hg
    obtain ⟨its, rv, p, hz⟩ := I.tuple hq
    obtain ⟨u, hu, ru⟩ := rv.get hx
    have hel : e < s.heap.objs.size := Heap.lt_size he
    have hil : it < s.heap.objs.size := by obtain ⟨_, q, _⟩ := hit; exact Heap.lt_size q
    have ptu : s.heap.IsTuple a its.toArray := p
    have hai : a ≠ it := by
      intro z
      obtain ⟨o1, q1, c1, _⟩ := hit
      obtain ⟨o2, q2, c2, _⟩ := ptu
      rw [z, q1] at q2
      injection q2 with q2
      rw [q2, c2] at c1
      exact absurd (Value.type.inj c1) (by decide)
    have hae : e ≠ a := by
      intro z
      obtain ⟨o2, q2, c2, _⟩ := ptu
      have he2 : s.heap.get? e = _ := he
      rw [z, q2] at he2
      injection he2 with he2
      rw [he2] at c2
      exact absurd (Value.type.inj c2) (by decide)
    have hlt : i < its.toArray.size := by
      have := (List.getElem?_eq_some_iff.mp hu).1
      simpa using this
    refine wpAny_pyNext_enum_itemD (Draws.tuple (show X.A.in1.handled = none from I.ok.hd hc) it a hai its.toArray) he ⟨hit, ptu⟩ hlt hne (by simp [hne, hae]) fun x' h' tk hP ho hst hT hsz hk => ?_
    have ex : x' = u := by
      have hP : its.toArray[i]? = some x' := hP
      have hu2 : its.toArray[i]? = some u := by simpa using hu
      exact Option.some.inj (hP.symm.trans hu2)
    subst ex
    obtain ⟨hit', _⟩ := hst
    refine ⟨_, rfl, wpAny_letOwnedTupleGo_enum (s := { s with heap := h', toks := tk + 1 }) ho fun h'' he' sb => ?_⟩
    have hT2 : h''.get? s.heap.objs.size = some { cls := .type "tuple", data := .seq #[.int i tk, x'] } := (sb.2 _ (Nat.ne_of_gt hel)).trans hT
    have new : ObjOk X.prog X.w (upd H s.heap.objs.size (.tup [.int (i : Nat), x])) h'' s.heap.objs.size (.tup [.int (i : Nat), x]) :=
      ⟨by show 2 ≤ sizeLine; decide, [.int i tk, x'], .cons ⟨_, rfl⟩ (.cons ru .nil), ⟨_, hT2, rfl, _, rfl⟩⟩
    have I1 : Inv X pins σ (upd H s.heap.objs.size (.tup [.int (i : Nat), x])) { s with heap := h'', toks := tk + 1 } :=
      I.turnedNew (ch := [e, it]) (fun b ob hb q => (sb.2 b (fun z => hb (by simp [z]))).trans (hk b ob (fun z => hb (by simp [z])) (fun z => hb (by simp [z])) q)) hf (Nat.le_refl _) new
    refine ⟨.ref s.heap.objs.size, _, I1, rfl, ⟨_, x, rfl, I.hok.fresh (Nat.le_refl _), rfl, fun ys hy => by rw [I.tuple_inj hy hq]; exact hx⟩, ⟨⟨x', ?_⟩, hit'.at fun o q => (sb.2 it (Ne.symm hne)).trans q, hne⟩, fun b hb => ?_⟩
    · have e1 : ((i + 1 : Nat) : Int) = (i : Int) + 1 := by omega
      rw [e1]; exact he'
    · have hb' : b < s.heap.objs.size := by
        have e' : b = e ∨ b = it := by simpa using hb
        rcases e' with z | z
        · rw [z]; exact hel
        · rw [z]; exact hil
      rw [upd_ne (Nat.ne_of_lt hb')]
      exact (hf b hb).1
  done := by
    intro X hP hw hK hc i pins s σ H E I hf st hg
    subst hP hw hK
    obtain ⟨⟨old, he⟩, hit, hne⟩ := st
    obtain ⟨xs, hq, hx⟩ := hg
    obtain ⟨its, rv, p, hz⟩ := I.tuple hq
    obtain ⟨f0, f1, f2, f3, f4, f5⟩ := hf it (by simp)
    have hl := rv.length
    have ptu : s.heap.IsTuple a its.toArray := p
    have hT : s.TypeIs (.ref e) "enumerate" := ⟨_, he, rfl⟩
    unfold pyNext
    refine wpAny_bind (wpAny_attempt (wpAny_callSpecial?_slot (name := Str.ofString "__next__") hT F.slot_enumerate_next
      (wpAny_call_entry F.slot_enumerate_next hT F.entry_enumerate_next ?_ (F.args_enumerate_next_1 _))))
    show wpAny _ _ (field (.ref e) 2 >>= _) _ _ _
    refine wpAny_bind (wpAny_field he rfl (x := .ref it) rfl ?_)
    refine wpAny_bind (wpAny_nextOf_tuple_end (show X.A.in1.handled = none from I.ok.hd hc) hit ptu (by simp; omega) fun h' x he' hx' => ?_)
    obtain ⟨o, ho, hc'⟩ := hx'
    refine wpAny_bind (wpAny_isInstance (T := "StopIteration") (b := true) ⟨o, ho, hc'⟩ isSubtype_stop ?_)
    exact wpAny_pure ⟨rfl, I.turned (t' := s.toks) (fun b o hb q => he' b o hb q) f0 f1 f3 f4 f5⟩
  self := fun A i s Q E st h => let ⟨⟨_, he⟩, _⟩ := st; wpAny_pyIter_enum he h
def iEnumT (K : PySem.W.Frag) (ta : TA) : TI := fun σ H R => ta σ H fun vs H1 => ∃ a xs, vs = [.ref a] ∧ SqT K H1 a xs ∧ R (ItetT K a) H1
theorem pi_enumT {X : Cx} {e : Expr} {ta : TA} {p pos tpos : Pos} {elts : List Expr} {kk : Nat} (hg : Gl X "enumerate") (hm : X.mg "enumerate" = none) (ha : PA X [e] ta) (hs : starEach [e] X.env = [(false, eval e X.env)] := by rfl) :
    PI X (.Tuple elts kk tpos) (.Call (.Name "enumerate" p) [e] [] pos) (iEnumT X.K ta) := by
  refine ⟨fun pins s σ H R I h => ?_⟩
  refine Call_ (ld_blt I hg hm boot_enumerate (PyProof.Rows.callWith_type1 (thn (ha.run pos pins s σ H _ I h) fun us s1 ⟨vs, H1, I1, r1, q1⟩ => ?_) hs rfl))
  obtain ⟨a, xs, ex, hq, q⟩ := q1
  subst ex
  cases r1 with
  | cons r rr =>
    cases rr
    cases r
    obtain ⟨its, rv, p', hz⟩ := I1.tuple hq
    refine call_enumerate_tuple (show s1.heap.IsTuple a its.toArray from p') fun h' he hit hsz hk => wpAny_pyIter_enum he ?_
    have I2 : Inv X pins σ H1 { s1 with heap := h' } := I1.kept (t' := s1.toks) hk
    refine ⟨s1.heap.objs.size + 1, [s1.heap.objs.size + 1, s1.heap.objs.size], _, _, H1, rfl, I2, turn_enumT a (s1.heap.objs.size + 1) s1.heap.objs.size, ⟨⟨.none, he⟩, hit, Nat.succ_ne_self _⟩, fun b hb => ?_, q⟩
    have e' : b = s1.heap.objs.size + 1 ∨ b = s1.heap.objs.size := by simpa using hb
    have hle : s1.heap.objs.size ≤ b := by
      rcases e' with z | z
      · rw [z]; exact Nat.le_add_right _ _
      · rw [z]; exact Nat.le_refl _
    exact I1.fpOk hle (I1.hok.fresh hle)
theorem walk_enumT {K : PySem.W.Frag} {a : Addr} {xs : List V} : Walk (ItetT K a) xs.length (fun H => SqT K H a xs) (YPair (fun i => some (.int (i : Nat))) (fun i => xs[i]?)) := by
  refine ⟨fun i _ hi q => ⟨xs, xs[i], q, by simp [hi]⟩, fun _ q => ⟨xs, q, Nat.le_refl _⟩, fun i H v H' _ q y => ?_⟩
  obtain ⟨T, x, h1, h2, h3, h4⟩ := y
  exact ⟨T, .int (i : Nat), x, h1, h2, h3, rfl, h4 xs q⟩
end Rs
set_option maxRecDepth 100000
set_option maxHeartbeats 2000000
namespace K4
open PySem PySem.Spec PyProof.Rows L2
structure Bz (mg : Str → Option Value) : Prop where
  b : Bn mg
  isinst : mg "isinstance" = none
  int : mg "int" = none
  bool : mg "bool" = none
  str : mg "str" = none
  all : mg "all" = none
  enumerate : mg "enumerate" = none
  repr : mg "repr" = none
  max : mg "max" = none
abbrev sNum : Stmt := top 2
abbrev sNumF : Stmt := top 3
abbrev sNumT : Stmt := top 4
def inside (st : Stmt) (i : Nat) : Stmt := match st with
  | .ClassDef _ _ _ b _ _ _ _ _ _ _ => b.getD i (.Pass ⟨0, 0, 0, 0⟩)
  | s => s
abbrev sInit : Stmt := inside (top 13) 0
abbrev sRows : Stmt := inside (top 13) 3
abbrev sEq : Stmt := inside (top 13) 9
abbrev sRepr : Stmt := inside (top 13) 10
theorem scNum : FnScope ["value"] ["value"] (defScope sNum) := ⟨rfl, rfl, rfl, by decide +kernel, rfl, by decide +kernel, by decide +kernel⟩
theorem scNumF : FnScope ["value", "low", "high"] ["value", "low", "high"] (defScope sNumF) := ⟨rfl, rfl, rfl, by decide +kernel, rfl, by decide +kernel, by decide +kernel⟩
theorem scNumT : FnScope ["value", "width", "item"] ["value", "width"] (defScope sNumT) := ⟨rfl, rfl, rfl, by decide +kernel, rfl, by decide +kernel, by decide +kernel⟩
def spNum : Sp := fun vs H Q _ => ∃ i : Int, vs = [.int i] ∧ Q (.bl true) H
def spNumF : Sp := fun vs H Q _ => ∃ i lo hi : Int, vs = [.int i, .int lo, .int hi] ∧ Q (.bl (decide (lo ≤ i) && decide (i ≤ hi))) H
def spNumT : Sp := fun vs H Q _ => ∃ (x : Addr × List Int), vs = [.ref x.1, .int (x.2.length : Nat)] ∧ RT H x ∧ x.2.length ≤ 1000 ∧ ∀ H', Same H H' → Q (.bl true) H'
section
variable {P : Program} {w : World} {K : PySem.W.Frag} {mg : Str → Option Value} {base : Heap}
theorem ok_num {f : Addr} {fd : FuncData} {k : Nat} (F : Fun K "is_number" "is_number" sNum f fd) (B : Bz mg) : FnOk P w K mg base CX0 (k + 1) f fd ["value"] spNum := by
  refine F.ok scNum (fun vs H Q E h => ?_) (fun cdv A outer s H vs Q E hr h => ?_)
  · obtain ⟨i, rfl, _⟩ := h
    rfl
  · obtain ⟨i, rfl, q⟩ := h
    refine ⟨_, pss_one (ps_ret (pe_and (pe_callB call_isi (by rfl) B.isinst boot_isinstance (pa_cons (pv 0) (pa_cons (pe_bltn (v := .ty "int") (by rfl) B.int PyProof.Rows.boot_int rfl) pa_nil)))
      (pe_one (pe_not (pe_callB call_isi (by rfl) B.isinst boot_isinstance (pa_cons (pv 0) (pa_cons (pe_bltn (v := .ty "bool") (by rfl) B.bool PyProof.Rows.boot_bool rfl) pa_nil))))))), ?_⟩
    exact ⟨_, rfl, _, _, _, _, true, rfl, .ty _, .base (.int i), kit_ty (by decide +kernel), true, rfl, iteT ⟨_, rfl, _, _, _, _, false, rfl, .ty _, .base (.int i), kit_ty (by decide +kernel), false, rfl, q⟩⟩
theorem ok_numF {f fN : Addr} {fd fdN : FuncData} {k : Nat} (F : Fun K "is_number_from" "is_number_from" sNumF f fd) (cN : Cb P w K mg base CX0 (k + 1) "is_number" ["value"] spNum fN fdN) : FnOk P w K mg base CX0 (k + 2) f fd ["value", "low", "high"] spNumF := by
  refine F.ok scNumF (fun vs H Q E h => ?_) (fun cdv A outer s H vs Q E hr h => ?_)
  · obtain ⟨i, lo, hi, rfl, _⟩ := h
    rfl
  · obtain ⟨i, lo, hi, rfl, q⟩ := h
    refine ⟨_, pss_one (ps_ret (pe_and (pe_call cN.ok hr (by rfl) cN.g cN.kp cN.b .nil pass0 (pa_cons (pv 0) pa_nil)) (pe_one (pe_chain op_le op_le (pv 1) (pv 0) (pv 2))))), ?_⟩
    refine ⟨_, rfl, i, rfl, true, rfl, iteT ⟨_, rfl, _, rfl, _, _, rfl, rfl, _, rfl, ?_⟩⟩
    by_cases h1 : lo ≤ i
    · rw [decide_eq_true h1] at q ⊢
      exact iteT ⟨_, rfl, _, _, rfl, rfl, q⟩
    · rw [decide_eq_false h1] at q ⊢
      exact iteF q
theorem ok_numT {f fN : Addr} {fd fdN : FuncData} {k : Nat} (F : Fun K "is_number_tuple" "is_number_tuple" sNumT f fd) (B : Bz mg) (cN : Cb P w K mg base CX0 (k + 1) "is_number" ["value"] spNum fN fdN) : FnOk P w K mg base CX0 (k + 2) f fd ["value", "width"] spNumT := by
  refine F.ok scNumT (fun vs H Q E h => ?_) (fun cdv A outer s H vs Q E hr h => ?_)
  · obtain ⟨x, rfl, _⟩ := h
    rfl
  · obtain ⟨x, rfl, hx, h1000, q⟩ := h
    refine ⟨_, pss_one (ps_ret (pe_and (pe_callB call_isi (by rfl) B.isinst boot_isinstance (pa_cons (pv 0) (pa_cons (pe_bltn (v := .ty "tuple") (by rfl) B.b.tuple PyProof.Rows.boot_tuple rfl) pa_nil)))
      (pe_and (pe_cmpR op_eq (pe_callB call_len_seq (by rfl) B.b.len PySem.boot_len (pa_cons (pv 0) pa_nil)) (pv 1) (nomark _))
      (pe_one (pe_callB (cr_all rfl) (by rfl) B.all boot_all (pa_cons (pe_lc (own := [("item", 2)]) (g := gName 2) (tt := tYes) (te := tCall spNum [] E0 (tCons (tVar 2) tNil)) rfl scNumT.nd (pi_tup (pv 0))
        (blkOk_by (N := ["value", "width", "item"]) (sc := defScope sNumT) (by decide +kernel)) (fun _ _ _ _ _ => pg_name (i := 2) scNumT.nd rfl (Or.inl rfl)) (fun _ _ _ _ _ => pts_nil)
        (fun _ _ _ _ _ => pe_call cN.ok hr (by rfl) cN.g cN.kp cN.b .nil pass0 (pa_cons (pv 2) pa_nil))) pa_nil)))))), ?_⟩
    refine ⟨_, rfl, _, _, _, _, true, rfl, .ty _, .base (.tup hx), kit_ty (by decide +kernel), true, rfl, iteT ⟨_, rfl, x.1, _, rfl, .inr (SqT.of hx), _, rfl, rfl, true, ?_, iteT ?_⟩⟩
    · rw [List.length_map]
      exact congrArg V.bl (decide_eq_true rfl)
    · refine ⟨_, rfl, x.1, rfl, ⟨_, SqT.of hx⟩, fun D nD => ?_⟩
      refine lc_sel (e := V.int) (out := fun _ => V.bl true) (walk_tup (K := K) (a := x.1)) (tt := tYes) (te := tCall spNum [] E0 (tCons (tVar 2) tNil)) (σ := [some (.ref x.1), some (.int (x.2.length : Nat)), none]) (i := 2) (fun _ => true) (Nat.lt_of_le_of_lt h1000 (by decide)) nD (fun H2 s2 => SqT.of (s2 _ _ hx)) (fun x H2 Q _ _ h => h) ?_ ?_
      · intro i H2 Q2 hi _ s2 hQ
        exact ⟨_, rfl, i, rfl, hQ H2 (Same.refl _)⟩
      · intro H2 s2 hD
        rw [List.filter_eq_self.mpr (by simp)] at hD
        refine ⟨D, x.2.map fun _ => true, rfl, SqL.of (by rw [hD, List.map_map]; rfl), ?_⟩
        have e : (x.2.map fun _ => true).all id = true := by
          rw [List.all_eq_true]
          intro b hb
          obtain ⟨_, _, rfl⟩ := List.mem_map.mp hb
          rfl
        rw [e]
        exact q H2 s2
end
end K4
set_option maxRecDepth 100000
set_option maxHeartbeats 2000000
namespace K4
open PySem PySem.Spec PyProof.Rows L2
/-- where a row begins -/
def gI (r : List Int) : Nat := r.findIdx fun x => decide (x ≠ 0)
def ldr (r : List Int) : Int := r.getD (gI r) 0
def mny (w : Nat) (rs : List (List Int)) : V := if rs.length < w then .non else .int (prod (rs.map ldr))
theorem gI_of {r : List Int} {n : Nat} (h : BegL r n) : gI r = n := by
  obtain ⟨h1, h2, h3⟩ := h
  unfold gI
  rw [List.findIdx_eq h1]
  refine ⟨?_, fun j hj => ?_⟩
  · rw [List.getD_eq_getElem?_getD, List.getElem?_eq_getElem h1] at h2
    exact decide_eq_true h2
  · have := h3 j hj
    rw [List.getD_eq_getElem?_getD, List.getElem?_eq_getElem (by omega)] at this
    exact decide_eq_false (fun z => z this)
theorem fd_beg {w b n a : Nat} {r : List Int} (h : Hm.Fd w b n a r) (ha : a ≤ 3) (cap : 25 * b + 6 * n + 6 ≤ 1200) : BegL r (gI r) ∧ (ldr r).natAbs < 2 ^ 9000 ∧ 0 < ldr r := by
  obtain ⟨c, hc, ⟨g1, g2⟩, g3, g4⟩ := h.beg
  have hcl : c < r.length := by
    apply Nat.lt_of_not_le
    intro z
    apply g2
    unfold Hm.fn
    rw [List.getD_eq_getElem?_getD, List.getElem?_eq_none z]
    rfl
  have bg : BegL r c := ⟨hcl, g2, g1⟩
  have e := gI_of bg
  have el : ldr r = Hm.fn r c := by
    unfold ldr
    rw [e]
    rfl
  refine ⟨by rw [e]; exact bg, ?_, by rw [el]; exact g3⟩
  rw [el]
  exact Nat.lt_of_le_of_lt g4 (Hm.two_pow_lt (Nat.lt_of_le_of_lt (Hm.bb_le cap (by omega)) (by omega)))
/-- all stays but tables and the object at x -/
abbrev StN := Rs.StN
theorem StN.trans {x : Addr} {H H1 H2 : Hp} (a : StN x H H1) (b : StN x H1 H2) : StN x H H2 := fun c o hc h n => b c o hc (a c o hc h n) n
theorem StN.of {x : Addr} {H H' : Hp} (e : LamX.ExtN H H') : StN x H H' := fun c o _ h n => e c o h n
theorem StN.upd {x : Addr} {H : Hp} {o : HO} : StN x H (upd H x o) := fun c u hc h _ => by
  rw [upd_ne hc]
  exact h
theorem tabs_ins {T : List (Addr × Str)} {H : Hp} {x C dx : Addr} {fs : List (Str × V)} {o : HO} (t : LamX.Tabs T H) (hx : H x = some (.ins C dx fs)) : LamX.Tabs T (L2.upd H x o) := by
  intro p hp
  obtain ⟨ps, h1, h2, h3⟩ := t p hp
  refine ⟨ps, ?_, h2, fun pos cv hc => ?_⟩
  · rw [upd_ne (fun e => by rw [e, hx] at h1; cases h1)]
    exact h1
  · obtain ⟨c, e1, e2⟩ := h3 pos cv hc
    refine ⟨c, e1, ?_⟩
    rw [upd_ne (fun e => by rw [e, hx] at e2; unfold LamX.CodeO at e2; cases e2)]
    exact e2
theorem RT.st {x : Addr} {H H' : Hp} {y : Addr × List Int} (h : RT H y) (e : StN x H H') (hx : ∃ C dx fs, H x = some (.ins C dx fs)) : RT H' y := by
  refine e _ _ (fun z => ?_) h (fun ps z => nomatch z)
  obtain ⟨C, dx, fs, hx⟩ := hx
  unfold RT at h
  rw [z, hx] at h
  cases h
theorem RL.st {x q : Addr} {H H' : Hp} {rs : List (Addr × List Int)} (h : RL H q rs) (e : StN x H H') (hx : ∃ C dx fs, H x = some (.ins C dx fs)) : RL H' q rs := by
  refine ⟨e _ _ (fun z => ?_) h.lst (fun ps z => nomatch z), fun y hy => (h.row y hy).st e hx⟩
  obtain ⟨C, dx, fs, hx⟩ := hx
  have := h.lst
  rw [z, hx] at this
  cases this
theorem RI.st {K : PySem.W.Frag} {x q : Addr} {H H' : Hp} {rs : List (Addr × List Int)} (h : RI K H q rs) (e : StN x H H') (hx : ∃ C dx fs, H x = some (.ins C dx fs)) : RI K H' q rs := by
  refine ⟨?_, fun y hy => (h.row y hy).st e hx⟩
  obtain ⟨C, dx, fs, hx⟩ := hx
  rcases h.seq with ((h | ⟨o, h⟩) | h) | ((h | ⟨o, h⟩) | h)
  · exact .inl (.inl (.inl (e _ _ (fun z => by rw [z, hx] at h; cases h) h (fun ps z => nomatch z))))
  · exact .inl (.inl (.inr ⟨o, e _ _ (fun z => by rw [z, hx] at h; cases h) h (fun ps z => nomatch z)⟩))
  · exact .inl (.inr h)
  · exact .inr (.inl (.inl (e _ _ (fun z => by rw [z, hx] at h; cases h) h (fun ps z => nomatch z))))
  · exact .inr (.inl (.inr ⟨o, e _ _ (fun z => by rw [z, hx] at h; cases h) h (fun ps z => nomatch z)⟩))
  · exact .inr (.inr h)
abbrev NI : List Str := ["self", "width", "rows", "at", "row"]
theorem scInit : FnScope NI ["self", "width", "rows"] (defScope sInit) := ⟨rfl, rfl, rfl, by decide +kernel, rfl, by decide +kernel, by decide +kernel⟩
/-- the fields of a table -/
def flds (w : Nat) (q : Addr) (rs : List (List Int)) : List (Str × V) := [("wide", .int (w : Nat)), ("normal", .ref q), ("many", mny w rs)]
def spInit (K : PySem.W.Frag) (C : Addr) (T : List (Addr × Str)) : Sp := fun vs H Q _ => ∃ (x dx l : Addr) (rs : List (Addr × List Int)) (w b n : Nat), vs = [.ref x, .int (w : Nat), .ref l] ∧ H x = some (.ins C dx []) ∧ RI K H l rs ∧ LamX.Tabs T H ∧ 1 ≤ w ∧ w ≤ 3 ∧ 1 ≤ b ∧ 25 * b + 6 * n + 6 ≤ 1200 ∧ rs.length ≤ n ∧ (∀ r ∈ rw_ rs, Rk w 0 b r) ∧
  ∀ (H' : Hp) (q : Addr) (fs : List (Addr × List Int)) (rest : List (List Int)), StN x H H' → LamX.Tabs T H' → New H q → H' x = some (.ins C dx (flds w q (rw_ fs))) → RL H' q fs → (∀ r ∈ rw_ fs, Hm.Fd w b n w r) → Hm.Nrm w w (rw_ rs) (rw_ fs) rest → fs.length ≤ w → Q .non H'
structure TCls (K : PySem.W.Frag) (C : Addr) : Prop where
  cl : Cls K C
  wide : NoAttr K C "wide"
  normal : NoAttr K C "normal"
  many : NoAttr K C "many"
section
variable {P : Program} {w : World} {K : PySem.W.Frag} {mg : Str → Option Value} {base : Heap}
theorem ok_init {f C fF fT fN fX : Addr} {params : Arguments} {dvs : List V} {fd fdF fdT fdN fdX : FuncData} {T : List (Addr × Str)} {tk : Tok} (F : FunD K "__init__" "Table.__init__" (defArgs sInit) (defBody sInit) (defScope sInit) dvs [] f fd) (B : Bz mg) (TC : TCls K C) (mW : mg "WIDEST" = some (.int 3 tk))
    (cF : Cb P w K mg base CX0 2 "is_number_from" ["value", "low", "high"] spNumF fF fdF) (cT : Cb P w K mg base CX0 2 "is_number_tuple" ["value", "width"] spNumT fT fdT) (cN : Cb P w K mg base CX0 5 "normal_rows" ["rows", "width"] (spNormal K T) fN fdN) (cX : Cb P w K mg base CX0 3 "index_of" ["rows", "width"] (spIndex K) fX fdX) :
    FnOk P w K mg base CX0 6 f fd ["self", "width", "rows"] (spInit K C T) := by
  refine F.ok scInit (fun vs H Q E h => ?_) (fun cdv A outer s H vs Q E hr h => ?_)
  · obtain ⟨x, dx, l, rs, w, b, n, rfl, _⟩ := h
    rfl
  · obtain ⟨x, dx, l, rs, wd, b, n, rfl, hx, hI, hT, hw1, hw, hb, cap, hn, hk, q⟩ := h
    have r2 : Room 2 (A.deeper (envOfC "Table.__init__" (defScope sInit) s.heap.objs.size f cdv)) := hr.mono (by decide)
    have r3 : Room 3 (A.deeper (envOfC "Table.__init__" (defScope sInit) s.heap.objs.size f cdv)) := hr.mono (by decide)
    have dec1 : (decide ((1 : Int) ≤ (wd : Nat)) && decide (((wd : Nat) : Int) ≤ 3)) = true := by
      rw [decide_eq_true (by omega), decide_eq_true (by omega)]
      rfl
    -- what stands behind the loop
    obtain ⟨t2, p2, q2⟩ : ∃ t2, PSs (cxOf CX0 P w K mg base NI "Table.__init__" (defScope sInit) f cdv A outer s H E).nox ((defBody sInit).drop 2) t2 ∧ ∀ (H1 : Hp) (y3 y4 : Option V), Same H H1 → t2 { nx := fun _ H' => Q .non H', rt := Q } [some (.ref x), some (.int (wd : Nat)), some (.ref l), y3, y4] H1 := by
      refine ⟨_, pss_cons (ps_fld (pv 0) (pv 1) rfl) (pss_cons (ps_fld (pv 0) (pe_call cN.ok hr (by rfl) cN.g cN.kp cN.b .nil pass0 (pa_cons (pv 2) (pa_cons (pv 1) pa_nil))) rfl)
        (pss_one (ps_fld (pv 0) (pe_call cX.ok r3 (by rfl) cX.g cX.kp cX.b .nil pass0 (pa_cons (pe_fld (pv 0) rfl) (pa_cons (pv 1) pa_nil))) rfl))), ?_⟩
      intro H1 y3 y4 s1
      have hx1 := s1 _ _ hx
      refine ⟨_, rfl, _, rfl, x, C, dx, _, rfl, hx1, TC.cl, TC.wide, by decide, ?_⟩
      obtain ⟨H2, e2⟩ : ∃ H2, H2 = upd H1 x (.ins C dx (putF "wide" (.int (wd : Nat)) [])) := ⟨_, rfl⟩
      rw [← e2]
      have st2 : StN x H H2 := by
        rw [e2]
        exact (StN.of (.of s1)).trans StN.upd
      have hx2 : H2 x = some (.ins C dx [("wide", .int (wd : Nat))]) := by
        rw [e2]
        exact upd_same
      have hI2 : RI K H2 l rs := hI.st st2 ⟨C, dx, _, hx⟩
      have tb2 : LamX.Tabs T H2 := by
        rw [e2]
        exact tabs_ins (hT.ext s1) hx1
      refine ⟨_, rfl, _, rfl, l, rs, wd, b, n, rfl, hI2, tb2, hw, hb, cap, hn, hk, ?_⟩
      intro H3 qn fs rest e3 tb3 hNew hF hFd hN hlen
      have hx3 : H3 x = some (.ins C dx [("wide", .int (wd : Nat))]) := e3 _ _ hx2 (fun ps z => nomatch z)
      refine ⟨_, rfl, x, C, dx, _, rfl, hx3, TC.cl, TC.normal, (by show 1 < 1000; decide), ?_⟩
      obtain ⟨H4, e4⟩ : ∃ H4, H4 = upd H3 x (.ins C dx (putF "normal" (.ref qn) [("wide", .int (wd : Nat))])) := ⟨_, rfl⟩
      rw [← e4]
      have hx4 : H4 x = some (.ins C dx [("wide", .int (wd : Nat)), ("normal", .ref qn)]) := by
        rw [e4, upd_same]
        rfl
      have hF4 : RL H4 qn fs := by
        refine hF.st ?_ ⟨C, dx, _, hx3⟩
        rw [e4]
        exact StN.upd
      have tb4 : LamX.Tabs T H4 := by
        rw [e4]
        exact tabs_ins tb3 hx3
      refine ⟨_, rfl, x, C, dx, _, .ref qn, rfl, hx4, TC.cl, TC.normal, rfl, _, rfl, qn, fs, gI, wd, rfl, ⟨SqL.of hF4.lst, fun y hy => SqT.of (hF4.row y hy)⟩, by omega, fun y hy => ?_, ?_⟩
      · have z := fd_beg (hFd y.2 (rw_mem hy)) hw cap
        exact ⟨z.1, by rw [(hFd y.2 (rw_mem hy)).len]; exact hw, z.2.1⟩
      · intro H5 s5
        have hx5 := s5 _ _ hx4
        refine ⟨_, rfl, x, C, dx, _, rfl, hx5, TC.cl, TC.many, (by show 2 < 1000; decide), ?_⟩
        have em : (if fs.length < wd then V.non else V.int (prod (fs.map fun x => x.2.getD (gI x.2) 0))) = mny wd (rw_ fs) := by
          unfold mny
          rw [List.length_map, List.map_map]
          rfl
        rw [em]
        have st4 : StN x H H4 := by
          refine (st2.trans (StN.of e3)).trans ?_
          rw [e4]
          exact StN.upd
        have nw : New H qn := fun o ho => by
          by_cases ht : ∃ ps, o = .tbl ps
          · exact ht
          · by_cases hq : qn = x
            · have h6 := hF4.lst
              rw [hq, hx4] at h6
              cases h6
            · exact hNew o (st2 _ _ hq ho (fun ps z => ht ⟨ps, z⟩))
        refine q _ qn fs rest ((st4.trans (StN.of (.of s5))).trans StN.upd) (tabs_ins (tb4.ext s5) hx5) nw ?_ ((hF4.same s5).st StN.upd ⟨C, dx, _, hx5⟩) hFd hN hlen
        rw [upd_same]
        rfl
    have row_ok : ∀ y ∈ rs, y.2.length = wd := fun y hy => (hk y.2 (rw_mem hy)).1
    have bodyR : ∀ (j : Nat) (v : V) (H1 : Hp), (rf rs)[j]? = some v → Same H H1 → ∃ y : Addr × List Int, v = .ref y.1 ∧ y ∈ rs ∧ RT H1 y := by
      intro j v H1 hv s1
      rw [List.getElem?_map] at hv
      obtain ⟨y, hy, rfl⟩ := Option.map_eq_some_iff.mp hv
      exact ⟨y, rfl, List.mem_of_getElem? hy, (hI.row y (List.mem_of_getElem? hy)).same s1⟩
    rcases hI.seq with hL | hL
    · refine ⟨_, PSs.nox (pss_cons (ps_if (pt_not (pt_val (pe_call cF.ok r2 (by rfl) cF.g cF.kp cF.b .nil pass0 (pa_cons (pv 1) (pa_cons pe_int (pa_cons (pe_glob (v := .int 3) rfl mW ⟨_, rfl⟩) pa_nil)))))) pss_never pss_nil)
        (pss_cons (ps_for PassesOwn.never rfl (pi_enum (by rfl) B.enumerate (pa_cons (pv 2) pa_nil)) (pg_tup rfl (pgs_cons (pg_name (i := 3) scInit.nd rfl (.inl rfl)) (pgs_cons (pg_name (i := 4) scInit.nd rfl (.inl rfl)) pgs_nil)))
          (pss_one (ps_if (pt_not (pt_val (pe_call cT.ok r2 (by rfl) cT.g cT.kp cT.b .nil pass0 (pa_cons (pv 4) (pa_cons (pv 1) pa_nil))))) pss_never pss_nil))) p2)), ?_⟩
      refine ⟨_, rfl, _, _, _, rfl, _, rfl, ?_⟩
      rw [dec1]
      refine iteF ?_
      refine ⟨_, rfl, l, _, rfl, hL, ?_⟩
      refine for_it (walk_enum (K := K) (a := l)) (fun i σ H1 => ∃ y3 y4 : Option V, σ = [some (.ref x), some (.int (wd : Nat)), some (.ref l), y3, y4] ∧ Same H H1) ⟨none, none, rfl, Same.refl _⟩ (fun i σ H1 _ h => by obtain ⟨_, _, _, s1⟩ := h; exact sqL_ext s1 hL) ?_ ?_
      · rintro i v σ H1 H1' hi ⟨y3, y4, rfl, s1⟩ ⟨T1, a1, a2, rfl, nT1, rfl, e1, e2⟩
        obtain rfl : V.int (i : Nat) = a1 := Option.some.inj e1
        have sT := same_new (o := .tup [.int (i : Nat), a2]) nT1
        refine ⟨T1, _, rfl, SqT.of upd_same, rfl, .int (i : Nat), [a2], rfl, a2, [], rfl, rfl, ?_⟩
        obtain ⟨y, rfl, hy, hyr⟩ := bodyR i a2 _ e2 (s1.trans sT)
        refine ⟨_, rfl, _, rfl, y, ?_, hyr, by rw [row_ok y hy]; omega, fun H2 s2 => ⟨true, rfl, iteF ⟨_, _, rfl, (s1.trans sT).trans s2⟩⟩⟩
        rw [row_ok y hy]
        rfl
      · rintro σ H1 ⟨y3, y4, rfl, s1⟩
        exact q2 H1 y3 y4 s1
    · refine ⟨_, PSs.nox (pss_cons (ps_if (pt_not (pt_val (pe_call cF.ok r2 (by rfl) cF.g cF.kp cF.b .nil pass0 (pa_cons (pv 1) (pa_cons pe_int (pa_cons (pe_glob (v := .int 3) rfl mW ⟨_, rfl⟩) pa_nil)))))) pss_never pss_nil)
        (pss_cons (ps_for PassesOwn.never rfl (Rs.pi_enumT (by rfl) B.enumerate (pa_cons (pv 2) pa_nil)) (pg_tup rfl (pgs_cons (pg_name (i := 3) scInit.nd rfl (.inl rfl)) (pgs_cons (pg_name (i := 4) scInit.nd rfl (.inl rfl)) pgs_nil)))
          (pss_one (ps_if (pt_not (pt_val (pe_call cT.ok r2 (by rfl) cT.g cT.kp cT.b .nil pass0 (pa_cons (pv 4) (pa_cons (pv 1) pa_nil))))) pss_never pss_nil))) p2)), ?_⟩
      refine ⟨_, rfl, _, _, _, rfl, _, rfl, ?_⟩
      rw [dec1]
      refine iteF ?_
      refine ⟨_, rfl, l, _, rfl, hL, ?_⟩
      refine for_it (Rs.walk_enumT (K := K) (a := l)) (fun i σ H1 => ∃ y3 y4 : Option V, σ = [some (.ref x), some (.int (wd : Nat)), some (.ref l), y3, y4] ∧ Same H H1) ⟨none, none, rfl, Same.refl _⟩ (fun i σ H1 _ h => by obtain ⟨_, _, _, s1⟩ := h; exact Rs.sqT_ext s1 hL) ?_ ?_
      · rintro i v σ H1 H1' hi ⟨y3, y4, rfl, s1⟩ ⟨T1, a1, a2, rfl, nT1, rfl, e1, e2⟩
        obtain rfl : V.int (i : Nat) = a1 := Option.some.inj e1
        have sT := same_new (o := .tup [.int (i : Nat), a2]) nT1
        refine ⟨T1, _, rfl, SqT.of upd_same, rfl, .int (i : Nat), [a2], rfl, a2, [], rfl, rfl, ?_⟩
        obtain ⟨y, rfl, hy, hyr⟩ := bodyR i a2 _ e2 (s1.trans sT)
        refine ⟨_, rfl, _, rfl, y, ?_, hyr, by rw [row_ok y hy]; omega, fun H2 s2 => ⟨true, rfl, iteF ⟨_, _, rfl, (s1.trans sT).trans s2⟩⟩⟩
        rw [row_ok y hy]
        rfl
      · rintro σ H1 ⟨y3, y4, rfl, s1⟩
        exact q2 H1 y3 y4 s1
end
end K4
set_option maxRecDepth 100000
set_option maxHeartbeats 2000000
namespace K4
open PySem PySem.Spec PyProof.Rows L2
/-! rows as data -/
def dR (r : List Int) : PyData := .tuple (r.map .int)
def dRs (rs : List (List Int)) : PyData := .list (rs.map dR)
theorem lay_ints : ∀ r : List Int, PyData.canLayAll0 (r.map PyData.int) = true
  | [] => by simp [PyData.canLayAll0]
  | x :: r => by simp [PyData.canLayAll0, PyData.canLay0, lay_ints r]
theorem depth_ints : ∀ r : List Int, PyData.depthAll (r.map PyData.int) ≤ 1
  | [] => by simp [PyData.depthAll]
  | x :: r => by
    have h1 := depth_ints r
    simp only [List.map_cons, PyData.depthAll, PyData.depth]
    omega
theorem lay_rows : ∀ rs : List (List Int), PyData.canLayAll0 (rs.map dR) = true
  | [] => by simp [PyData.canLayAll0]
  | x :: r => by simp [PyData.canLayAll0, dR, PyData.canLay0, lay_ints x, lay_rows r]
theorem depth_rows : ∀ rs : List (List Int), PyData.depthAll (rs.map dR) ≤ 2
  | [] => by simp [PyData.depthAll]
  | x :: r => by
    have h1 := depth_rows r
    have h2 := depth_ints x
    simp only [List.map_cons, PyData.depthAll, PyData.depth, dR]
    omega
theorem shaped_rows (rs : List (List Int)) : SeqAt.shaped (dRs rs) = true := by
  have h1 := depth_rows rs
  have h2 : PyData.depth (dRs rs) ≤ 64 := by
    unfold dRs
    simp only [PyData.depth]
    omega
  show (PyData.canLay0 (dRs rs) && decide (PyData.depth (dRs rs) ≤ 64)) = true
  rw [Bool.and_eq_true]
  exact ⟨by unfold dRs; simp only [PyData.canLay0]; exact lay_rows rs, decide_eq_true h2⟩
theorem eqv_ints : ∀ r s : List Int, PyData.eqvAll (r.map PyData.int) (s.map PyData.int) = decide (r = s)
  | [], [] => by simp [PyData.eqvAll]
  | [], _ :: _ => by simp [PyData.eqvAll]
  | _ :: _, [] => by simp [PyData.eqvAll]
  | x :: r, y :: s => by
    rw [List.map_cons, List.map_cons]
    simp only [PyData.eqvAll, PyData.eqv]
    rw [eqv_ints r s]
    by_cases h1 : x = y
    · by_cases h2 : r = s
      · simp [h1, h2]
      · simp [h1, h2]
    · simp [h1]
theorem eqv_rowsL : ∀ r s : List (List Int), PyData.eqvAll (r.map dR) (s.map dR) = decide (r = s)
  | [], [] => by simp [PyData.eqvAll]
  | [], _ :: _ => by simp [PyData.eqvAll]
  | _ :: _, [] => by simp [PyData.eqvAll]
  | x :: r, y :: s => by
    rw [List.map_cons, List.map_cons]
    have e : PyData.eqv (dR x) (dR y) = decide (x = y) := by
      unfold dR
      simp only [PyData.eqv]
      exact eqv_ints x y
    simp only [PyData.eqvAll]
    rw [eqv_rowsL r s, e]
    by_cases h1 : x = y
    · by_cases h2 : r = s
      · simp [h1, h2]
      · simp [h1, h2]
    · simp [h1]
theorem eqv_rows (r s : List (List Int)) : PyData.eqv (dRs r) (dRs s) = decide (r = s) := by
  unfold dRs
  simp only [PyData.eqv]
  exact eqv_rowsL r s
theorem dp_ints {K : PySem.W.Frag} {H : Hp} : ∀ r : List Int, DpAll K H (r.map V.int) (r.map PyData.int)
  | [] => .nil
  | x :: r => .cons (.int x) (dp_ints r)
theorem dp_rowsL {K : PySem.W.Frag} {H : Hp} : ∀ rs : List (Addr × List Int), (∀ x ∈ rs, RT H x) → DpAll K H (rf rs) ((rw_ rs).map dR)
  | [], _ => .nil
  | x :: r, h => .cons (.tup (SqT.of (h x List.mem_cons_self)) (dp_ints x.2)) (dp_rowsL r fun y hy => h y (List.mem_cons_of_mem _ hy))
theorem dp_rows {K : PySem.W.Frag} {H : Hp} {q : Addr} {rs : List (Addr × List Int)} (h : RL H q rs) : Dp K H (.ref q) (dRs (rw_ rs)) := .lst (SqL.of h.lst) (dp_rowsL rs h.row)
/-- a table at x -/
structure TI (C : Addr) (H : Hp) (x : Addr) (w : Nat) (fs : List (Addr × List Int)) : Prop where
  ex : ∃ dx q, H x = some (.ins C dx (flds w q (rw_ fs))) ∧ RL H q fs
theorem TI.ext {C : Addr} {H H' : Hp} {x : Addr} {w : Nat} {fs : List (Addr × List Int)} (h : TI C H x w fs) (e : LamX.ExtN H H') : TI C H' x w fs := by
  obtain ⟨dx, q, h1, h2⟩ := h.ex
  exact ⟨dx, q, e _ _ h1 (fun ps z => nomatch z), h2.ext e⟩
theorem TI.same {C : Addr} {H H' : Hp} {x : Addr} {w : Nat} {fs : List (Addr × List Int)} (h : TI C H x w fs) (e : Same H H') : TI C H' x w fs := h.ext (.of e)
theorem scRows : FnScope ["self"] ["self"] (defScope sRows) := ⟨rfl, rfl, rfl, by decide +kernel, rfl, by decide +kernel, by decide +kernel⟩
theorem scEq : FnScope ["self", "other"] ["self", "other"] (defScope sEq) := ⟨rfl, rfl, rfl, by decide +kernel, rfl, by decide +kernel, by decide +kernel⟩
theorem scRepr : FnScope ["self"] ["self"] (defScope sRepr) := ⟨rfl, rfl, rfl, by decide +kernel, rfl, by decide +kernel, by decide +kernel⟩
def spRows (C : Addr) : Sp := fun vs H Q _ => ∃ (x : Addr) (w : Nat) (fs : List (Addr × List Int)), vs = [.ref x] ∧ TI C H x w fs ∧ ∀ H' p, Same H H' → H p = none → RL H' p fs → Q (.ref p) H'
/-- what == tells -/
def EqT (C : Addr) (a : Addr) (y : V) (H : Hp) (k : Bool) : Prop := ∃ (w : Nat) (fs : List (Addr × List Int)), TI C H a w fs ∧ ((∃ (b : Addr) (w' : Nat) (fs' : List (Addr × List Int)), y = .ref b ∧ TI C H b w' fs' ∧ k = (decide (w = w') && decide (rw_ fs = rw_ fs'))) ∨ (Rs.Fgn H y ∧ k = false))
def txR (w : Nat) (rs : List (List Int)) : Str := match mny w rs with
  | .int m => Str.empty ++ Str.ofString "Table(" ++ Str.ofString (toString ((w : Nat) : Int)) ++ Str.ofString " wide, " ++ Str.ofString (toString m) ++ Str.ofString " places)"
  | _ => Str.empty ++ Str.ofString "Table(" ++ Str.ofString (toString ((w : Nat) : Int)) ++ Str.ofString " wide, endless)"
def spRepr (C : Addr) : Sp := fun vs H Q _ => ∃ (x : Addr) (w : Nat) (fs : List (Addr × List Int)), vs = [.ref x] ∧ TI C H x w fs ∧ w ≤ 3 ∧ (∀ m, mny w (rw_ fs) = .int m → m.natAbs.log2 < 1920) ∧ Q (.str (txR w (rw_ fs))) H
/-- what isinstance asks of the class -/
structure ICls (K : PySem.W.Frag) (C : Addr) : Prop where
  ha : PySem.W.findIn K (.ref C) "__class__" = some (some (.builtin "object.__class__"))
  hn : PySem.W.specialIn K (.builtin "object.__class__") "__get__" = some (some (.builtin "getset_descriptor.__get__"))
  htk : PySem.W.takesIn K (.builtin "object.__class__") = some true
  hm : PySem.W.mroIn K C (.type "object") = some true
  kC : PySem.W.kitOne K (.ref C) (.ref C) = some true
  kN : PySem.W.kitOne K (.type "NoneType") (.ref C) = some false
  kI : PySem.W.kitOne K (.type "int") (.ref C) = some false
  kS : PySem.W.kitOne K (.type "str") (.ref C) = some false
  kL : PySem.W.kitOne K (.type "list") (.ref C) = some false
section
variable {P : Program} {w : World} {K : PySem.W.Frag} {mg : Str → Option Value} {base : Heap}
theorem ok_rows {f C : Addr} {fd : FuncData} {k : Nat} (F : Fun K "rows" "Table.rows" sRows f fd) (B : Bz mg) (TC : TCls K C) : FnOk P w K mg base CX0 (k + 1) f fd ["self"] (spRows C) := by
  refine F.ok scRows (fun vs H Q E h => ?_) (fun cdv A outer s H vs Q E hr h => ?_)
  · obtain ⟨x, w, fs, rfl, _⟩ := h
    rfl
  · obtain ⟨x, wd, fs, rfl, ⟨dx, q, hx, hq⟩, qq⟩ := h
    refine ⟨_, pss_one (ps_ret (pe_callTy call_list_of (by rfl) B.b.list boot_list (pa_cons (pe_fld (pv 0) rfl) pa_nil))), ?_⟩
    refine ⟨_, rfl, x, C, dx, _, .ref q, rfl, hx, TC.cl, TC.normal, rfl, q, _, rfl, .inl (SqL.of hq.lst), fun p np => ?_⟩
    exact qq _ p (same_new np) np ⟨upd_same, fun y hy => (hq.row y hy).same (same_new np)⟩
theorem ok_eq {f C : Addr} {fd : FuncData} {k : Nat} (F : Fun K "__eq__" "Table.__eq__" sEq f fd) (B : Bz mg) (TC : TCls K C) (gC : mg "Table" = some (.ref C)) (IC : ICls K C) :
    FnOk P w K mg base CX0 (k + 2) f fd ["self", "other"] (Rs.spEqB (EqT C)) := by
  refine F.ok scEq (fun vs H Q E h => ?_) (fun cdv A outer s H vs Q E hr h => ?_)
  · obtain ⟨a, y, k, rfl, _⟩ := h
    rfl
  · obtain ⟨a, y, kk, rfl, ⟨wd, fs, ⟨dx, q, hx, hq⟩, hy⟩, qq⟩ := h
    refine ⟨_, pss_one (ps_ret (pe_and (pe_callB call_isi (by rfl) B.isinst boot_isinstance (pa_cons (pv 1) (pa_cons (pe_glob (v := .ref C) rfl gC rfl) pa_nil)))
      (pe_and (pe_cmpR op_eq (pe_fld (pv 0) rfl) (pe_fld (pv 1) rfl) (nomark _)) (pe_one (pe_cmpR (op_eqD hr.units) (pe_fld (pv 0) rfl) (pe_fld (pv 1) rfl) (nomark _)))))), ?_⟩
    rcases hy with ⟨b, w', fs', rfl, ⟨dy, q', hy, hq'⟩, rfl⟩ | ⟨hf, rfl⟩
    · refine ⟨_, rfl, _, _, _, _, true, rfl, .own C, .base (.ins hy TC.cl IC.ha IC.hn IC.htk IC.hm), IC.kC, true, rfl, iteT ?_⟩
      refine ⟨_, rfl, a, C, dx, _, .int (wd : Nat), rfl, hx, TC.cl, TC.wide, rfl, _, rfl, b, C, dy, _, .int (w' : Nat), rfl, hy, TC.cl, TC.wide, rfl, rfl, _, rfl, ?_⟩
      have e1 : decide (V.int ((wd : Nat) : Int) = V.int ((w' : Nat) : Int)) = decide (wd = w') := by
        by_cases h : wd = w'
        · rw [h, decide_eq_true rfl, decide_eq_true rfl]
        · rw [decide_eq_false h, decide_eq_false]
          intro z
          injection z with z
          exact h (by omega)
      rw [e1]
      by_cases h : wd = w'
      · rw [decide_eq_true h] at qq ⊢
        refine iteT ?_
        refine ⟨_, rfl, a, C, dx, _, .ref q, rfl, hx, TC.cl, TC.normal, rfl, _, rfl, b, C, dy, _, .ref q', rfl, hy, TC.cl, TC.normal, rfl, _, _, dp_rows hq, dp_rows hq', shaped_rows _, shaped_rows _, ?_⟩
        rw [eqv_rows]
        exact qq H Ext.rfl'
      · rw [decide_eq_false h] at qq ⊢
        exact iteF (qq H Ext.rfl')
    · rcases hf with rfl | ⟨i, rfl⟩ | ⟨t, rfl⟩ | ⟨l, xs, rfl, hl⟩
      · exact ⟨_, rfl, _, _, _, _, false, rfl, .own C, .base .non, IC.kN, false, rfl, iteF (qq H Ext.rfl')⟩
      · exact ⟨_, rfl, _, _, _, _, false, rfl, .own C, .base (.int i), IC.kI, false, rfl, iteF (qq H Ext.rfl')⟩
      · exact ⟨_, rfl, _, _, _, _, false, rfl, .own C, .base (.str t), IC.kS, false, rfl, iteF (qq H Ext.rfl')⟩
      · exact ⟨_, rfl, _, _, _, _, false, rfl, .own C, .base (.lst hl), IC.kL, false, rfl, iteF (qq H Ext.rfl')⟩
theorem fit0 : Str.empty.length ≤ 0 := Nat.le_refl _
theorem fit2 {a b : Str} {m n k : Nat} (h1 : a.length ≤ m) (h2 : b.length ≤ n) (h : m + n ≤ k) : (a ++ b).length ≤ k := by
  show (a.cps ++ b.cps).size ≤ k
  rw [Array.size_append]
  have h1 : a.cps.size ≤ m := h1
  have h2 : b.cps.size ≤ n := h2
  omega
theorem fitI (i : Int) (h : i.natAbs.log2 < 1920) : (Str.ofString (toString i)).length ≤ 2000 := by
  have e := PySem.int_text_length_le (k := 1920) (by decide) h
  rw [PySem.ofString_length]
  omega
theorem fits {a : Str} {k : Nat} (h : a.length ≤ k) (hk : k ≤ 16777216) : a.length ≤ sizeLine := by
  rw [sizeLine_eq]
  omega
theorem small3 (n : Nat) (h : n ≤ 3) : ((n : Nat) : Int).natAbs.log2 < 1920 := by
  match n, h with
  | 0, _ => decide
  | 1, _ => decide
  | 2, _ => decide
  | 3, _ => decide
theorem ok_repr {f C : Addr} {fd : FuncData} {k : Nat} (F : Fun K "__repr__" "Table.__repr__" sRepr f fd) (TC : TCls K C) : FnOk P w K mg base CX0 (k + 1) f fd ["self"] (spRepr C) := by
  refine F.ok scRepr (fun vs H Q E h => ?_) (fun cdv A outer s H vs Q E hr h => ?_)
  · obtain ⟨x, w, fs, rfl, _⟩ := h
    rfl
  · obtain ⟨x, wd, fs, rfl, ⟨dx, q, hx, hq⟩, hw, hm, qq⟩ := h
    refine ⟨_, pss_cons (ps_if (pt_cmpR op_isN (pe_fld (pv 0) rfl) pe_non (nomark _)) (pss_one (ps_ret (pe_joined (.cons pe_str (.cons (pe_fmt (pe_fld (pv 0) rfl)) (.cons pe_str .nil)))))) pss_nil)
      (pss_one (ps_ret (pe_joined (.cons pe_str (.cons (pe_fmt (pe_fld (pv 0) rfl)) (.cons pe_str (.cons (pe_fmt (pe_fld (pv 0) rfl)) (.cons pe_str .nil)))))))), ?_⟩
    have lw := small3 wd hw
    have a0 : (Str.empty ++ Str.ofString "Table(").length ≤ 100 := fit2 (n := 100) fit0 (by decide +kernel) (by omega)
    have a1 := fit2 a0 (fitI _ lw) (Nat.le_refl _)
    refine ⟨_, rfl, x, C, dx, _, mny wd (rw_ fs), rfl, hx, TC.cl, TC.many, rfl, rfl, _, rfl, ?_⟩
    unfold txR at qq
    by_cases hl : (rw_ fs).length < wd
    · have e : mny wd (rw_ fs) = .non := by
        unfold mny
        rw [if_pos hl]
      rw [e] at qq ⊢
      have a2 := fit2 a1 (b := Str.ofString " wide, endless)") (n := 100) (by decide +kernel) (Nat.le_refl _)
      refine iteT ?_
      exact ⟨_, rfl, fits a0 (by decide), _, rfl, x, C, dx, _, .int (wd : Nat), rfl, hx, TC.cl, TC.wide, rfl, .inr ⟨_, rfl, lw, _, rfl, fits a1 (by decide), _, rfl, fits a2 (by decide), qq⟩⟩
    · have e : mny wd (rw_ fs) = .int (prod ((rw_ fs).map ldr)) := by
        unfold mny
        rw [if_neg hl]
      have lm := hm _ e
      have hx' := hx
      unfold flds at hx'
      rw [e] at qq hx' ⊢
      have a2 := fit2 a1 (b := Str.ofString " wide, ") (n := 100) (by decide +kernel) (Nat.le_refl _)
      have a3 := fit2 a2 (fitI _ lm) (Nat.le_refl _)
      have a4 := fit2 a3 (b := Str.ofString " places)") (n := 100) (by decide +kernel) (Nat.le_refl _)
      refine iteF ?_
      exact ⟨_, rfl, fits a0 (by decide), _, rfl, x, C, dx, _, .int (wd : Nat), rfl, hx', TC.cl, TC.wide, rfl, .inr ⟨_, rfl, lw, _, rfl, fits a1 (by decide), _, rfl, fits a2 (by decide), _, rfl, x, C, dx, _, .int (prod ((rw_ fs).map ldr)), rfl, hx', TC.cl, TC.many, rfl, .inr ⟨_, rfl, lm, _, rfl, fits a3 (by decide), _, rfl, fits a4 (by decide), qq⟩⟩⟩
end
end K4
set_option maxRecDepth 100000
set_option maxHeartbeats 2000000
namespace K4
open PySem PySem.Spec PyProof.Rows L2
abbrev sBegin : Stmt := top 24
abbrev sDraw : Stmt := top 25
abbrev sAny : Stmt := top 26
abbrev sSame : Stmt := top 27
abbrev sAdd : Stmt := top 28
abbrev sLessL : Stmt := top 29
abbrev sBy : Stmt := top 30
abbrev sUnit : Stmt := top 31
abbrev sFirst : Stmt := top 32
abbrev sNormL : Stmt := top 33
abbrev sIndexL : Stmt := top 34
abbrev sRowsL : Stmt := top 35
abbrev sLaw : Stmt := top 36
theorem scBegin : FnScope ["_law_script", "_law_cell", "_law_marks", "_law_seed"] ["_law_script"] (defScope sBegin) := ⟨rfl, rfl, rfl, by decide +kernel, rfl, by decide +kernel, by decide +kernel⟩
theorem scDraw : FnScope ["_law_box", "_law_many", "_law_cell", "_law_digit", "_law_seed"] ["_law_box", "_law_many"] (defScope sDraw) := ⟨rfl, rfl, rfl, by decide +kernel, rfl, by decide +kernel, by decide +kernel⟩
theorem scAny : FnScope ["_law_box", "_law_some"] ["_law_box", "_law_some"] (defScope sAny) := ⟨rfl, rfl, rfl, by decide +kernel, rfl, by decide +kernel, by decide +kernel⟩
theorem scSame : FnScope ["_law_found", "_law_due", "_law_k"] ["_law_found", "_law_due"] (defScope sSame) := ⟨rfl, rfl, rfl, by decide +kernel, rfl, by decide +kernel, by decide +kernel⟩
theorem scAdd : FnScope ["_law_one", "_law_other", "_law_a", "_law_b"] ["_law_one", "_law_other"] (defScope sAdd) := ⟨rfl, rfl, rfl, by decide +kernel, rfl, by decide +kernel, by decide +kernel⟩
theorem scLessL : FnScope ["_law_one", "_law_other", "_law_a", "_law_b"] ["_law_one", "_law_other"] (defScope sLessL) := ⟨rfl, rfl, rfl, by decide +kernel, rfl, by decide +kernel, by decide +kernel⟩
theorem scBy : FnScope ["_law_one", "_law_times", "_law_a"] ["_law_one", "_law_times"] (defScope sBy) := ⟨rfl, rfl, rfl, by decide +kernel, rfl, by decide +kernel, by decide +kernel⟩
theorem scUnit : FnScope ["_law_width_z", "_law_at", "_law_k"] ["_law_width_z", "_law_at"] (defScope sUnit) := ⟨rfl, rfl, rfl, by decide +kernel, rfl, by decide +kernel, by decide +kernel⟩
theorem scFirst : FnScope ["_law_row", "_law_spots", "_law_at"] ["_law_row"] (defScope sFirst) := ⟨rfl, rfl, rfl, by decide +kernel, rfl, by decide +kernel, by decide +kernel⟩
theorem scNormL : FnScope ["_law_width_z", "_law_rows_z", "_law_found", "_law_todo", "_law_row", "_law_at", "_law_held", "_law_times", "_law_steps", "_law_pivot"] ["_law_width_z", "_law_rows_z"] (defScope sNormL) := ⟨rfl, rfl, rfl, by decide +kernel, rfl, by decide +kernel, by decide +kernel⟩
theorem scIndexL : FnScope ["_law_rows_z", "_law_width_z", "_law_found", "_law_at"] ["_law_rows_z", "_law_width_z"] (defScope sIndexL) := ⟨rfl, rfl, rfl, by decide +kernel, rfl, by decide +kernel, by decide +kernel⟩
theorem scRowsL : FnScope ["_law_box", "_law_width_z", "_law_many", "_law_size", "_law_found", "_law_turn", "_law_k"] ["_law_box", "_law_width_z", "_law_many", "_law_size"] (defScope sRowsL) := ⟨rfl, rfl, rfl, by decide +kernel, rfl, by decide +kernel, by decide +kernel⟩
structure Bl (mg : Str → Option Value) : Prop where
  len : mg "len" = none
  int : mg "int" = none
  isinst : mg "isinstance" = none
  list : mg "list" = none
  tuple : mg "tuple" = none
  all : mg "all" = none
  range : mg "range" = none
  bool : mg "bool" = none
  str : mg "str" = none
theorem Bz.bl {mg : Str → Option Value} (B : Bz mg) : Bl mg := ⟨B.b.len, B.int, B.isinst, B.b.list, B.b.tuple, B.all, B.b.range, B.bool, B.str⟩
def Bx (H : Hp) (b m : Addr) : Prop := ∃ (ms : List Int) (i r s : Int), H b = some (.lst [.ref m, .int i, .int r, .int s]) ∧ H m = some (.lst (ms.map V.int)) ∧ 0 ≤ i ∧ 0 ≤ r ∧ 0 ≤ s ∧ s < 2147483647
def BxTo (H H' : Hp) (b m : Addr) : Prop := Bx H' b m ∧ ∀ x, x ≠ b → H' x = H x
theorem Bx.put {H : Hp} {b m : Addr} {ms : List Int} {i r s i' r' s' : Int} (h : H b = some (.lst [.ref m, .int i, .int r, .int s])) (hm : H m = some (.lst (ms.map V.int))) (h1 : 0 ≤ i') (h2 : 0 ≤ r') (h3 : 0 ≤ s') (h4 : s' < 2147483647) :
    BxTo H (upd H b (.lst [.ref m, .int i', .int r', .int s'])) b m := by
  have nm : m ≠ b := fun e => by
    subst e
    rw [h] at hm
    cases ms with
    | nil => cases hm
    | cons x r => cases hm
  exact ⟨⟨ms, i', r', s', upd_same, by rw [upd_ne nm]; exact hm, h1, h2, h3, h4⟩, fun x hx => upd_ne hx⟩
theorem BxTo.trans {H H1 H2 : Hp} {b m : Addr} (x : BxTo H H1 b m) (y : BxTo H1 H2 b m) : BxTo H H2 b m := ⟨y.1, fun z hz => (y.2 z hz).trans (x.2 z hz)⟩
theorem BxTo.refl {H : Hp} {b m : Addr} (x : Bx H b m) : BxTo H H b m := ⟨x, fun _ _ => rfl⟩
section
variable {P : Program} {w : World} {K : PySem.W.Frag} {mg : Str → Option Value} {base : Heap}
def spDraw : Sp := fun vs H Q _ => ∃ (b m : Addr) (many : Int), vs = [.ref b, .int many] ∧ Bx H b m ∧ 0 < many ∧ many < 10000000000000 ∧ ∀ d H', 0 ≤ d → d < many → BxTo H H' b m → Q (.int d) H'
theorem ok_draw {f : Addr} {fd : FuncData} {k : Nat} (F : Fun K "_law_draw" "_law_draw" sDraw f fd) (B : Bl mg) : FnOk P w K mg base CX0 (k + 1) f fd ["_law_box", "_law_many"] spDraw := by
  refine F.ok scDraw (fun vs H Q E h => ?_) (fun cdv A outer s H vs Q E hr h => ?_)
  · obtain ⟨b, m, n, rfl, _⟩ := h
    rfl
  · obtain ⟨b, m, n, rfl, hB, h1, h2, q⟩ := h
    obtain ⟨t2, P2, R2⟩ : ∃ t2, PSs (cxOf CX0 P w K mg base ["_law_box", "_law_many", "_law_cell", "_law_digit", "_law_seed"] "_law_draw" (defScope sDraw) f cdv A outer s H E).nox ((defBody sDraw).drop 1) t2 ∧
        ∀ (y : Option V) (H' : Hp), BxTo H H' b m → t2 { nx := fun _ H' => Q .non H', rt := Q } [some (.ref b), some (.int n), y, none, none] H' := by
      refine ⟨_, pss_cons (ps_if (pt_cmpR op_gt (pe_ix ix_list (pv 0) pe_int (fun _ _ => rfl)) pe_int (nomark _))
          (pss_cons (ps_set (i := 3) scDraw.nd rfl (.inl rfl) (pe_op op_mod (pe_callTy call_int1 (by rfl) B.int boot_int (pa_cons (pe_ix ix_list (pv 0) pe_int (fun _ _ => rfl)) pa_nil)) (pv 1)))
          (pss_cons (ps_asg (pe_op op_fdivW (pe_ix ix_list (pv 0) pe_int (fun _ _ => rfl)) (pv 1)) (pg_sub (pv 0) pe_int set_list))
          (pss_one (ps_ret (pv 3))))) pss_nil)
        (pss_cons (ps_set (i := 4) scDraw.nd rfl (.inl rfl) (pe_ix ix_list (pv 0) pe_int (fun _ _ => rfl)))
        (pss_cons (ps_asg (pe_op op_mod (pe_op op_add (pe_op op_add (pe_op op_mul (pv 4) (pv 4)) (pe_op op_mul (pv 4) pe_int)) pe_int) pe_int) (pg_sub (pv 0) pe_int set_list))
        (pss_one (ps_ret (pe_op op_mod (pe_op op_add (pe_op op_fdiv (pe_ix ix_list (pv 0) pe_int (fun _ _ => rfl)) pe_int)
          (pe_op op_mul (pe_op op_mod (pe_callTy call_int1 (by rfl) B.int boot_int (pa_cons (pe_ix ix_list (pv 0) pe_int (fun _ _ => rfl)) pa_nil)) pe_int) pe_int)) (pv 1)))))), fun y H' hT => ?_⟩
      obtain ⟨⟨ms, i, r, s, hb, hm, k1, k2, k3, k4⟩, kp⟩ := id hT
      refine ⟨.ref b, rfl, b, _, 2, _, rfl, rfl, SqL.of hb, rfl, _, _, rfl, rfl, _, rfl, ite2 (fun e => ?_) (fun e => ?_)⟩
      · have hr0 : 0 < r := of_decide_eq_true e
        refine ⟨.ref b, rfl, b, _, 2, _, rfl, rfl, SqL.of hb, rfl, .inl ⟨_, rfl, _, rfl, _, _, rfl, rfl, h1, ?_⟩⟩
        refine ⟨.ref b, rfl, b, _, 2, _, rfl, rfl, SqL.of hb, rfl, _, rfl, _, _, rfl, rfl, wide_div (b := 44) h1 (by omega) (by decide) (by decide), ?_⟩
        refine ⟨.ref b, rfl, b, _, 2, 2, rfl, rfl, hb, rfl, _, rfl, ?_⟩
        refine q _ _ (Int.emod_nonneg _ (by omega)) (Int.emod_lt_of_pos _ h1) (hT.trans ?_)
        exact Bx.put hb hm k1 (Int.ediv_nonneg k2 (by omega)) k3 k4
      · refine ⟨.ref b, rfl, b, _, 3, _, rfl, rfl, SqL.of hb, rfl, ?_⟩
        refine ⟨_, rfl, _, rfl, _, _, rfl, rfl, .inl ⟨by omega, by omega⟩, _, rfl, _, _, rfl, rfl, .inl ⟨by omega, by omega⟩, _, _, rfl, rfl, _, _, rfl, rfl, _, _, rfl, rfl, (by show (0 : Int) < _; decide), ?_⟩
        refine ⟨.ref b, rfl, b, _, 3, 3, rfl, rfl, hb, rfl, ?_⟩
        have g1 : 0 ≤ (s * s + s * 61001 + 911) % 2147483647 := Int.emod_nonneg _ (by decide)
        have g2 : (s * s + s * 61001 + 911) % 2147483647 < 2147483647 := Int.emod_lt_of_pos _ (by decide)
        have bx := Bx.put (i' := i) (r' := r) (s' := (s * s + s * 61001 + 911) % 2147483647) hb hm k1 k2 g1 g2
        refine ⟨.ref b, rfl, b, _, 3, _, rfl, rfl, SqL.of upd_same, rfl, _, _, rfl, rfl, ⟨by decide, by decide⟩, ?_⟩
        refine ⟨.ref b, rfl, b, _, 3, _, rfl, rfl, SqL.of upd_same, rfl, .inl ⟨_, rfl, _, _, rfl, rfl, (by show (0 : Int) < _; decide), _, _, rfl, rfl, .inl ⟨by omega, by omega⟩, _, _, rfl, rfl, _, rfl, _, _, rfl, rfl, h1, ?_⟩⟩
        exact q _ _ (Int.emod_nonneg _ (by omega)) (Int.emod_lt_of_pos _ h1) (hT.trans bx)
    obtain ⟨ms, i, r, s, hb, hm, k1, k2, k3, k4⟩ := id hB
    refine ⟨_, pss_cons (ps_if (PW.pt (pw_and (pt_cmpR op_eq (pe_ix ix_list (pv 0) pe_int (fun _ _ => rfl)) pe_int (nomark _))
          (pw_and1 (pt_cmpR op_lt (pe_ix ix_list (pv 0) pe_int (fun _ _ => rfl)) (pe_callB call_len_seq (by rfl) B.len PySem.boot_len (pa_cons (pe_ix ix_list (pv 0) pe_int (fun _ _ => rfl)) pa_nil)) (nomark _)))))
        (pss_cons (ps_set (i := 2) scDraw.nd rfl (.inl rfl) (pe_ix ix_list (pe_ix ix_list (pv 0) pe_int (fun _ _ => rfl)) (pe_ix ix_list (pv 0) pe_int (fun _ _ => rfl)) (fun _ _ => rfl)))
        (pss_cons (ps_asg (pe_op op_add (pe_ix ix_list (pv 0) pe_int (fun _ _ => rfl)) pe_int) (pg_sub (pv 0) pe_int set_list))
        (pss_one (ps_if (pt_cmpR op_ge (pv 2) (pe_op op_pow pe_int pe_int) (nomark _))
          (pss_one (ps_asg (pv 2) (pg_sub (pv 0) pe_int set_list)))
          (pss_one (ps_asg (pe_op op_mod (pe_op op_add (pe_op op_add (pe_op op_mul (pe_ix ix_list (pv 0) pe_int (fun _ _ => rfl)) pe_int)
            (pe_op op_mul (pe_op op_mod (pe_callTy call_int1 (by rfl) B.int boot_int (pa_cons (pv 2) pa_nil)) pe_int) pe_int)) pe_int) pe_int) (pg_sub (pv 0) pe_int set_list)))))))
        pss_nil) P2, ?_⟩
    refine ⟨.ref b, rfl, b, _, 2, _, rfl, rfl, SqL.of hb, rfl, rfl, _, rfl, ite2 (fun e => ?_) (fun e => ?_)⟩
    · refine ⟨.ref b, rfl, b, _, 1, _, rfl, rfl, SqL.of hb, rfl, .ref b, rfl, b, _, 0, _, rfl, rfl, SqL.of hb, rfl, m, _, rfl, .inl (SqL.of hm), _, _, rfl, rfl, _, rfl, ite2 (fun e2 => ?_) (fun e2 => ?_)⟩
      · have hl : i < (ms.map V.int).length := of_decide_eq_true e2
        have hl2 : i.toNat < ms.length := by
          rw [List.length_map] at hl
          omega
        have ei : ((i.toNat : Nat) : Int) = i := by omega
        have hat : atI (ms.map V.int) i = some (.int ms[i.toNat]) := by
          have z : (ms.map V.int)[i.toNat]? = some (.int ms[i.toNat]) := by
            rw [List.getElem?_map, List.getElem?_eq_getElem hl2]
            rfl
          have z2 := atI_nat z
          rw [ei] at z2
          exact z2
        refine ⟨.ref b, rfl, b, _, 0, _, rfl, rfl, SqL.of hb, rfl, .ref b, rfl, b, _, 1, _, rfl, rfl, SqL.of hb, rfl, m, _, i, _, rfl, rfl, SqL.of hm, hat, ?_⟩
        generalize ms[i.toNat] = cell
        refine ⟨.ref b, rfl, b, _, 1, _, rfl, rfl, SqL.of hb, rfl, _, _, rfl, rfl, .ref b, rfl, b, _, 1, 1, rfl, rfl, hb, rfl, ?_⟩
        have bx1 := Bx.put (i' := i + 1) (r' := r) (s' := s) hb hm (by omega) k2 k3 k4
        have hb1 : upd H b (.lst [.ref m, .int (i + 1), .int r, .int s]) b = _ := upd_same
        have hm1 : upd H b (.lst [.ref m, .int (i + 1), .int r, .int s]) m = some (.lst (ms.map V.int)) := by
          obtain ⟨_, z⟩ := Bx.put (i' := i + 1) (r' := r) (s' := s) hb hm (by omega) k2 k3 k4
          rw [z m (fun e => by subst e; rw [hb] at hm; cases ms <;> cases hm)]
          exact hm
        refine ⟨_, rfl, _, _, rfl, rfl, ⟨by decide, by decide, by decide⟩, _, _, rfl, rfl, _, rfl, ite2 (fun e3 => ?_) (fun e3 => ?_)⟩
        · have hc : (10 : Int) ^ (18 : Int).toNat ≤ cell := of_decide_eq_true e3
          have hc0 : (0 : Int) ≤ (10 : Int) ^ (18 : Int).toNat := by decide
          refine ⟨_, rfl, .ref b, rfl, b, _, 2, 2, rfl, rfl, hb1, rfl, ?_⟩
          exact R2 _ _ (bx1.trans (Bx.put hb1 hm1 (by omega) (by omega) k3 k4))
        · refine ⟨.ref b, rfl, b, _, 3, _, rfl, rfl, SqL.of hb1, rfl, _, _, rfl, rfl, .inl ⟨by omega, by omega⟩, _, rfl, .inl ⟨_, rfl, _, _, rfl, rfl, (by show (0 : Int) < _; decide), _, _, rfl, rfl, .inl ⟨by omega, by omega⟩, _, _, rfl, rfl, _, _, rfl, rfl, _, _, rfl, rfl, (by show (0 : Int) < _; decide), ?_⟩⟩
          refine ⟨.ref b, rfl, b, _, 3, 3, rfl, rfl, hb1, rfl, ?_⟩
          exact R2 _ _ (bx1.trans (Bx.put hb1 hm1 (by omega) k2 (by omega) (by omega)))
      · exact R2 _ _ (.refl hB)
    · exact R2 _ _ (.refl hB)
end
section
variable {P : Program} {w : World} {K : PySem.W.Frag} {mg : Str → Option Value} {base : Heap}
def spAny : Sp := fun vs H Q _ => ∃ (b m p : Addr) (xs : List V), vs = [.ref b, .ref p] ∧ Bx H b m ∧ H p = some (.lst xs) ∧ p ≠ b ∧ xs ≠ [] ∧ xs.length < 1000000 ∧ ∀ x H', x ∈ xs → BxTo H H' b m → Q x H'
theorem ok_any {f fD : Addr} {fd fdD : FuncData} {k : Nat} (F : Fun K "_law_any" "_law_any" sAny f fd) (B : Bl mg) (FD : Fun K "_law_draw" "_law_draw" sDraw fD fdD) (bD : Binds K fdD ["_law_box", "_law_many"] []) (gD : mg "_law_draw" = some (.ref fD)) :
    FnOk P w K mg base CX0 (k + 2) f fd ["_law_box", "_law_some"] spAny := by
  have GD : FnOk P w K mg base CX0 (k + 1) fD fdD ["_law_box", "_law_many"] spDraw := ok_draw FD B
  refine F.ok scAny (fun vs H Q E h => ?_) (fun cdv A outer s H vs Q E hr h => ?_)
  · obtain ⟨b, m, p, xs, rfl, _⟩ := h
    rfl
  · obtain ⟨b, m, p, xs, rfl, hB, hp, hpb, hne, hl, q⟩ := h
    refine ⟨_, pss_one (ps_ret (pe_ix ix_list (pv 1) (pe_call GD hr (by rfl) gD FD.kp bD .nil pass0 (pa_cons (pv 0) (pa_cons (pe_callB call_len_seq (by rfl) B.len PySem.boot_len (pa_cons (pv 1) pa_nil)) pa_nil))) (fun _ _ => rfl))), ?_⟩
    have h0 : 0 < xs.length := List.length_pos_iff.mpr hne
    refine ⟨.ref p, rfl, .ref b, rfl, .ref p, rfl, p, xs, rfl, .inl (SqL.of hp), b, m, (xs.length : Int), rfl, hB, by omega, by omega, fun d H' d0 d1 hT => ?_⟩
    have hd : d.toNat < xs.length := by omega
    have hat : atI xs d = some xs[d.toNat] := by
      have z := atI_nat (List.getElem?_eq_getElem hd)
      rw [show ((d.toNat : Nat) : Int) = d by omega] at z
      exact z
    exact ⟨p, xs, d, _, rfl, rfl, SqL.of ((hT.2 p hpb).trans hp), hat, q _ _ (List.getElem_mem hd) hT⟩
def spBegin (K : PySem.W.Frag) : Sp := fun vs H Q _ => ∃ (a : Addr) (ns : List Int), vs = [.ref a] ∧ SqL K H a (ns.map V.int) ∧ ns.length ≤ 63 ∧ ∀ H' b m, Same H H' → H b = none → Bx H' b m → Q (.ref b) H'
theorem ok_begin {f : Addr} {fd : FuncData} {k : Nat} (F : Fun K "_law_begin" "_law_begin" sBegin f fd) (B : Bl mg) : FnOk P w K mg base CX0 (k + 1) f fd ["_law_script"] (spBegin K) := by
  refine F.ok scBegin (fun vs H Q E h => ?_) (fun cdv A outer s H vs Q E hr h => ?_)
  · obtain ⟨a, ns, rfl, _⟩ := h
    rfl
  · obtain ⟨a, ns, rfl, hS, hl, q⟩ := h
    refine ⟨_, pss_cons (ps_setLc (i := 2) (own := [("_law_cell", 1)]) (g := gName 1) (tt := tYes) rfl scBegin.nd rfl rfl (sw_true rfl rfl rfl (by decide +kernel)) (pi_list (pe_slice sl_list (pv 0) po_none (po_some pe_int)))
        (blkOk_by (N := ["_law_script", "_law_cell", "_law_marks", "_law_seed"]) (sc := defScope sBegin) (by decide +kernel)) (fun _ _ _ _ _ => pg_name (i := 1) scBegin.nd rfl (Or.inl rfl)) (fun _ _ _ _ _ => pts_nil)
        (fun _ _ _ _ _ => pe_callTy call_int1 (by rfl) B.int boot_int (pa_cons (pv 1) pa_nil)))
      (pss_cons (ps_set (i := 3) scBegin.nd rfl (.inl rfl) (pe_op op_add pe_int (pe_op op_mul pe_int (pe_callB call_len_seq (by rfl) B.len PySem.boot_len (pa_cons (pv 2) pa_nil)))))
      (pss_cons (ps_for PassesOwn.never rfl (pi_list (pv 2)) (pg_name (i := 1) scBegin.nd rfl (Or.inl rfl))
        (pss_one (ps_set (i := 3) scBegin.nd rfl (.inl rfl) (pe_op op_mod (pe_op op_add (pe_op op_add (pe_op op_mul (pv 3) pe_int) (pe_op op_mod (pe_callTy call_int1 (by rfl) B.int boot_int (pa_cons (pv 1) pa_nil)) pe_int)) pe_int) pe_int))))
      (pss_one (ps_ret (pe_lst (pa_cons (pv 2) (pa_cons pe_int (pa_cons pe_int (pa_cons (pv 3) pa_nil))))))))), ?_⟩
    obtain ⟨ms, hms, hcut⟩ : ∃ ms : List Int, ms.length ≤ 63 ∧ cutV (ns.map V.int) none (some 63) = ms.map V.int := by
      refine ⟨ns.take (HT.sIx (ns.map V.int).length (ns.map V.int).length (some 63) - HT.sIx (ns.map V.int).length 0 none), ?_, ?_⟩
      · rw [List.length_take]
        omega
      · unfold cutV
        rw [HT.sIx_none, List.drop_zero, List.map_take]
    refine ⟨.ref a, rfl, 63, rfl, a, _, rfl, hS, fun c nc => ?_⟩
    rw [hcut]
    refine ⟨c, rfl, ⟨_, SqL.of upd_same⟩, fun D nD => ?_⟩
    have s1 : Same H (upd H c (.lst (ms.map V.int))) := same_new nc
    refine lc_pure (walk_list (K := K) (a := c) (xs := ms.map V.int)) (σ := [some (.ref a), none, none, none]) (i := 1) id (fun _ => true) (by rw [List.length_map]; exact small1000 (by omega)) nD (fun H2 e => SqL.of (e _ _ upd_same)) (fun x H2 Q _ _ h => h) ?_ ?_
    · intro x H2 Q hx _ _ h
      obtain ⟨z, _, rfl⟩ := List.mem_map.mp hx
      exact ⟨_, rfl, .inl ⟨z, rfl, h H2 (Same.refl _)⟩⟩
    · intro H2 s2 hD
      have hf : ((ms.map V.int).filter fun _ => true).map id = ms.map V.int := by simp
      rw [hf] at hD
      have sm : Same H H2 := s1.trans s2
      refine ⟨.ref D, rfl, D, _, rfl, .inl (SqL.of hD), _, _, rfl, rfl, .inl ⟨by decide, by decide⟩, _, _, rfl, rfl, ?_⟩
      refine ⟨.ref D, rfl, D, rfl, ⟨_, SqL.of hD⟩, ?_⟩
      refine for_it (walk_list (K := K) (a := D) (xs := ms.map V.int)) (fun i σ H3 => ∃ (y : Option V) (sd : Int), σ = [some (.ref a), y, some (.ref D), some (.int sd)] ∧ H3 = H2 ∧ 0 ≤ sd ∧ sd < 2147483647) ⟨none, _, rfl, rfl, ?_, ?_⟩ (fun i σ H3 _ h => ?_) ?_ ?_
      · simp only [List.length_map]
        omega
      · simp only [List.length_map]
        omega
      · obtain ⟨_, _, _, rfl, _⟩ := h
        exact SqL.of hD
      · rintro i x σ H3 H3' hi ⟨y, sd, rfl, rfl, g1, g2⟩ ⟨rfl, hx⟩
        obtain ⟨z, _, rfl⟩ := List.mem_map.mp (List.mem_of_getElem? hx)
        refine ⟨_, rfl, _, _, rfl, rfl, .inl ⟨by omega, by omega⟩, _, rfl, .inl ⟨z, rfl, _, _, rfl, rfl, (by show (0 : Int) < _; decide), _, _, rfl, rfl, _, _, rfl, rfl, _, _, rfl, rfl, (by show (0 : Int) < _; decide), ?_⟩⟩
        exact ⟨_, _, rfl, rfl, Int.emod_nonneg _ (by decide), Int.emod_lt_of_pos _ (by decide)⟩
      · rintro σ H3 ⟨y, sd, rfl, rfl, g1, g2⟩
        refine ⟨_, rfl, _, rfl, (by show 4 ≤ sizeLine; decide), fun b nb => ?_⟩
        refine q _ b D (sm.trans (same_new nb)) (sm.free nb) ⟨ms, 0, 0, sd, upd_same, ?_, by omega, by omega, g1, g2⟩
        rw [upd_ne (ne_of_none hD nb)]
        exact hD
end
def BxGo (H H' : Hp) (b m : Addr) : Prop := Bx H' b m ∧ ∀ x o, x ≠ b → H x = some o → H' x = some o
theorem BxTo.go {H H' : Hp} {b m : Addr} (h : BxTo H H' b m) : BxGo H H' b m := ⟨h.1, fun x o hx e => (h.2 x hx).trans e⟩
theorem BxGo.trans {H H1 H2 : Hp} {b m : Addr} (x : BxGo H H1 b m) (y : BxGo H1 H2 b m) : BxGo H H2 b m := ⟨y.1, fun z o hz e => y.2 z o hz (x.2 z o hz e)⟩
theorem BxGo.refl {H : Hp} {b m : Addr} (x : Bx H b m) : BxGo H H b m := ⟨x, fun _ _ _ e => e⟩
theorem Bx.same {H H' : Hp} {b m : Addr} (x : Bx H b m) (s : Same H H') : Bx H' b m := by
  obtain ⟨ms, i, r, t, h1, h2, h3⟩ := x
  exact ⟨ms, i, r, t, s _ _ h1, s _ _ h2, h3⟩
theorem BxGo.of {H H' : Hp} {b m : Addr} (x : Bx H b m) (s : Same H H') : BxGo H H' b m := ⟨x.same s, fun z o _ e => s _ _ e⟩
theorem Bx.some {H : Hp} {b m : Addr} (x : Bx H b m) : ∃ o, H b = some o := by
  obtain ⟨ms, i, r, t, h1, _⟩ := x
  exact ⟨_, h1⟩
theorem Bx.ne {H : Hp} {b m p : Addr} (x : Bx H b m) (h : H p = none) : p ≠ b := fun e => by
  obtain ⟨o, z⟩ := x.some
  rw [← e, h] at z
  cases z
theorem Bx.neM {H : Hp} {b m p : Addr} (x : Bx H b m) (h : H p = none) : p ≠ m := fun e => by
  obtain ⟨ms, i, r, t, _, h1, _⟩ := x
  rw [← e, h] at h1
  cases h1
theorem Bx.upd {H : Hp} {b m p : Addr} {o : HO} (x : Bx H b m) (h1 : p ≠ b) (h2 : p ≠ m) : Bx (upd H p o) b m := by
  obtain ⟨ms, i, r, t, e1, e2, e3⟩ := x
  exact ⟨ms, i, r, t, by rw [upd_ne (Ne.symm h1)]; exact e1, by rw [upd_ne (Ne.symm h2)]; exact e2, e3⟩
theorem BxGo.at {H H' : Hp} {b m p : Addr} {o : HO} (x : BxGo H H' b m) (hp : p ≠ b) (h : H p = some o) : H' p = some o := x.2 p o hp h
theorem BxGo.free {H H' : Hp} {b m p : Addr} (x : BxGo H H' b m) (h : H' p = none) : H p = none := by
  have hne := x.1.ne h
  cases e : H p with
  | none => rfl
  | some o => rw [x.2 p o hne e] at h; cases h
def Flat (x : V) : Prop := (∃ i, x = .int i) ∨ (∃ z, x = .str z) ∨ (∃ b, x = .bl b) ∨ x = .non
def Eqd : Nat → Hp → V → V → Prop
  | 0, _, x, y => x = y ∧ Flat x
  | n + 1, H, x, y => (x = y ∧ Flat x) ∨ ∃ (p q : Addr) (xs ys : List V), x = .ref p ∧ y = .ref q ∧ xs.length = ys.length ∧ xs.length ≤ 1000 ∧
      ((H p = some (.lst xs) ∧ H q = some (.lst ys)) ∨ (H p = some (.tup xs) ∧ H q = some (.tup ys))) ∧ ∀ (i : Nat) (u v : V), xs[i]? = some u → ys[i]? = some v → Eqd n H u v
theorem Eqd.same {H H' : Hp} (s : Same H H') : ∀ {n : Nat} {x y : V}, Eqd n H x y → Eqd n H' x y := by
  intro n
  induction n with
  | zero => exact fun h => h
  | succ n ih =>
    rintro x y (h | ⟨p, q, xs, ys, e1, e2, e3, e4, e5, e6⟩)
    · exact .inl h
    · refine .inr ⟨p, q, xs, ys, e1, e2, e3, e4, ?_, fun i u v h1 h2 => ih (e6 i u v h1 h2)⟩
      rcases e5 with ⟨a, b⟩ | ⟨a, b⟩
      · exact .inl ⟨s _ _ a, s _ _ b⟩
      · exact .inr ⟨s _ _ a, s _ _ b⟩
theorem Eqd.flat {H : Hp} {x : V} {n : Nat} (h : Flat x) : Eqd n H x x := by
  cases n with
  | zero => exact ⟨rfl, h⟩
  | succ n => exact .inl ⟨rfl, h⟩
section
variable {P : Program} {w : World} {K : PySem.W.Frag} {mg : Str → Option Value} {base : Heap}
def spSame (n : Nat) : Sp := fun vs H Q _ => ∃ x y : V, vs = [x, y] ∧ Eqd n H x y ∧ ∀ H', Same H H' → Q (.bl true) H'
abbrev N3 : List Str := ["_law_found", "_law_due", "_law_k"]
theorem same_flat {f : Addr} {k : Nat} (B : Bl mg) {cdv : Value} {A : Around} {outer : List Env} {s : Shared} {H : Hp} {Q : VK} {E : XK} :
    ∃ t2, PSs (cxOf CX0 P w K mg base N3 "_law_same" (defScope sSame) f cdv A outer s H E).nox ((defBody sSame).drop 1) t2 ∧
      ∀ (x : V) (H' : Hp), Flat x → Q (.bl true) H' → t2 { nx := fun _ H' => Q .non H', rt := Q } [some x, some x, none] H' := by
  refine ⟨_, pss_cons (ps_if (PW.pt (pw_or (pt_cmpR op_isN (pv 1) pe_non (nomark _)) (pw_or1 (pt_cmpR op_isN (pv 0) pe_non (nomark _))))) (pss_one (ps_ret (pe_and (pe_cmpR op_isN (pv 0) pe_non (nomark _)) (pe_one (pe_cmpR op_isN (pv 1) pe_non (nomark _)))))) pss_nil)
    (pss_cons (ps_if (PW.pt (pw_or
        (pt_cmpR op_ne (pe_callB call_isi (by rfl) B.isinst boot_isinstance (pa_cons (pv 1) (pa_cons (pe_bltn (v := .ty "bool") (by rfl) B.bool PyProof.Rows.boot_bool rfl) pa_nil))) (pe_callB call_isi (by rfl) B.isinst boot_isinstance (pa_cons (pv 0) (pa_cons (pe_bltn (v := .ty "bool") (by rfl) B.bool PyProof.Rows.boot_bool rfl) pa_nil))) (nomark _))
        (pw_or1 (pt_cmpR op_ne (pe_callB call_isi (by rfl) B.isinst boot_isinstance (pa_cons (pv 1) (pa_cons (pe_bltn (v := .ty "int") (by rfl) B.int PyProof.Rows.boot_int rfl) pa_nil))) (pe_callB call_isi (by rfl) B.isinst boot_isinstance (pa_cons (pv 0) (pa_cons (pe_bltn (v := .ty "int") (by rfl) B.int PyProof.Rows.boot_int rfl) pa_nil))) (nomark _))))) pss_never pss_nil)
    (pss_one (ps_ret (pe_and (pe_cmpR op_eq (pe_callB call_isi (by rfl) B.isinst boot_isinstance (pa_cons (pv 1) (pa_cons (pe_bltn (v := .ty "str") (by rfl) B.str PyProof.Rows.boot_str rfl) pa_nil))) (pe_callB call_isi (by rfl) B.isinst boot_isinstance (pa_cons (pv 0) (pa_cons (pe_bltn (v := .ty "str") (by rfl) B.str PyProof.Rows.boot_str rfl) pa_nil))) (nomark _))
      (pe_one (pe_cmpR op_eq (pv 0) (pv 1) (nomark _))))))), fun x H' hx q => ?_⟩
  rcases hx with ⟨i, rfl⟩ | ⟨z, rfl⟩ | ⟨b, rfl⟩ | rfl
  · refine ⟨_, rfl, rfl, false, rfl, iteF ⟨_, rfl, rfl, false, rfl, iteF ?_⟩⟩
    refine ⟨_, rfl, _, _, _, _, false, rfl, .ty _, .base (.int i), kit_ty (by decide +kernel), _, rfl, _, _, _, _, false, rfl, .ty _, .base (.int i), kit_ty (by decide +kernel), rfl, false, rfl, iteF ?_⟩
    refine ⟨_, rfl, _, _, _, _, true, rfl, .ty _, .base (.int i), kit_ty (by decide +kernel), _, rfl, _, _, _, _, true, rfl, .ty _, .base (.int i), kit_ty (by decide +kernel), rfl, false, rfl, iteF ?_⟩
    refine ⟨_, rfl, _, _, _, _, false, rfl, .ty _, .base (.int i), kit_ty (by decide +kernel), _, rfl, _, _, _, _, false, rfl, .ty _, .base (.int i), kit_ty (by decide +kernel), rfl, true, rfl, iteT ?_⟩
    refine ⟨_, rfl, _, rfl, rfl, ?_⟩
    rw [decide_eq_true rfl]
    exact q
  · refine ⟨_, rfl, rfl, false, rfl, iteF ⟨_, rfl, rfl, false, rfl, iteF ?_⟩⟩
    refine ⟨_, rfl, _, _, _, _, false, rfl, .ty _, .base (.str z), kit_ty (by decide +kernel), _, rfl, _, _, _, _, false, rfl, .ty _, .base (.str z), kit_ty (by decide +kernel), rfl, false, rfl, iteF ?_⟩
    refine ⟨_, rfl, _, _, _, _, false, rfl, .ty _, .base (.str z), kit_ty (by decide +kernel), _, rfl, _, _, _, _, false, rfl, .ty _, .base (.str z), kit_ty (by decide +kernel), rfl, false, rfl, iteF ?_⟩
    refine ⟨_, rfl, _, _, _, _, true, rfl, .ty _, .base (.str z), kit_ty (by decide +kernel), _, rfl, _, _, _, _, true, rfl, .ty _, .base (.str z), kit_ty (by decide +kernel), rfl, true, rfl, iteT ?_⟩
    refine ⟨_, rfl, _, rfl, rfl, ?_⟩
    rw [decide_eq_true rfl]
    exact q
  · refine ⟨_, rfl, rfl, false, rfl, iteF ⟨_, rfl, rfl, false, rfl, iteF ?_⟩⟩
    refine ⟨_, rfl, _, _, _, _, true, rfl, .ty _, .base (.bl b), kit_ty (by decide +kernel), _, rfl, _, _, _, _, true, rfl, .ty _, .base (.bl b), kit_ty (by decide +kernel), rfl, false, rfl, iteF ?_⟩
    refine ⟨_, rfl, _, _, _, _, true, rfl, .ty _, .base (.bl b), kit_ty (by decide +kernel), _, rfl, _, _, _, _, true, rfl, .ty _, .base (.bl b), kit_ty (by decide +kernel), rfl, false, rfl, iteF ?_⟩
    refine ⟨_, rfl, _, _, _, _, false, rfl, .ty _, .base (.bl b), kit_ty (by decide +kernel), _, rfl, _, _, _, _, false, rfl, .ty _, .base (.bl b), kit_ty (by decide +kernel), rfl, true, rfl, iteT ?_⟩
    refine ⟨_, rfl, _, rfl, rfl, ?_⟩
    rw [decide_eq_true rfl]
    exact q
  · exact ⟨_, rfl, rfl, true, rfl, iteT ⟨_, rfl, rfl, true, rfl, iteT ⟨_, rfl, rfl, q⟩⟩⟩
theorem ty2 {t : Value} {b1 b2 b : Bool} (h1 : PySem.W.kitOne K t (.type "list") = some b1) (h2 : PySem.W.kitOne K t (.type "tuple") = some b2) (hb : b = (b1 || b2)) : PySem.W.kitAny K t [.type "list", .type "tuple"] = some b := by
  subst hb
  refine kitAny_cons h1 (fun e => ?_) (fun e => by rw [e]; rfl)
  subst e
  show PySem.W.kitAny K t [.type "tuple"] = some b2
  exact kitAny_cons h2 (fun e2 => by rw [e2]; rfl) (fun e2 => e2)
theorem ok_same {f : Addr} {fd : FuncData} (F : Fun K "_law_same" "_law_same" sSame f fd) (B : Bl mg) (b0 : Binds K fd ["_law_found", "_law_due"] []) (g0 : mg "_law_same" = some (.ref f)) :
    ∀ n : Nat, FnOk P w K mg base CX0 (n + 1) f fd ["_law_found", "_law_due"] (spSame n) := by
  intro n
  induction n with
  | zero =>
    refine F.ok scSame (fun vs H Q E h => ?_) (fun cdv A outer s H vs Q E hr h => ?_)
    · obtain ⟨x, y, rfl, _⟩ := h
      rfl
    · obtain ⟨x, y, rfl, ⟨rfl, hx⟩, q⟩ := h
      obtain ⟨t2, P2, R2⟩ := same_flat (P := P) (w := w) (K := K) (base := base) (f := f) (k := 0) B (cdv := cdv) (A := A) (outer := outer) (s := s) (H := H) (Q := Q) (E := E)
      refine ⟨_, pss_cons (ps_if (pt_val (pe_callB call_isiT (by rfl) B.isinst boot_isinstance (pa_cons (pv 1) (pa_cons (pe_tup (pa_cons (pe_bltn (v := .ty "list") (by rfl) B.list PyProof.Rows.boot_list rfl) (pa_cons (pe_bltn (v := .ty "tuple") (by rfl) B.tuple PyProof.Rows.boot_tuple rfl) pa_nil))) pa_nil)))) pss_never pss_nil) P2, ?_⟩
      refine ⟨_, rfl, (by show 2 ≤ sizeLine; decide), fun T nT => ?_⟩
      have cl : Paired ClsV [V.ty "list", V.ty "tuple"] [.type "list", .type "tuple"] := .cons (.ty _) (.cons (.ty _) .nil)
      have fin := R2 x (upd H T (.tup [.ty "list", .ty "tuple"])) hx (q _ (same_new nT))
      rcases hx with ⟨i, rfl⟩ | ⟨z, rfl⟩ | ⟨b, rfl⟩ | rfl
      · exact ⟨_, T, _, _, _, false, rfl, upd_same, cl, .base (.int i), ty2 (kit_ty (r := false) (by decide +kernel)) (kit_ty (r := false) (by decide +kernel)) rfl, _, rfl, iteF fin⟩
      · exact ⟨_, T, _, _, _, false, rfl, upd_same, cl, .base (.str z), ty2 (kit_ty (r := false) (by decide +kernel)) (kit_ty (r := false) (by decide +kernel)) rfl, _, rfl, iteF fin⟩
      · exact ⟨_, T, _, _, _, false, rfl, upd_same, cl, .base (.bl b), ty2 (kit_ty (r := false) (by decide +kernel)) (kit_ty (r := false) (by decide +kernel)) rfl, _, rfl, iteF fin⟩
      · exact ⟨_, T, _, _, _, false, rfl, upd_same, cl, .base .non, ty2 (kit_ty (r := false) (by decide +kernel)) (kit_ty (r := false) (by decide +kernel)) rfl, _, rfl, iteF fin⟩
  | succ n ih =>
    refine F.ok scSame (fun vs H Q E h => ?_) (fun cdv A outer s H vs Q E hr h => ?_)
    · obtain ⟨x, y, rfl, _⟩ := h
      rfl
    · obtain ⟨x, y, rfl, hE, q⟩ := h
      obtain ⟨t2, P2, R2⟩ := same_flat (P := P) (w := w) (K := K) (base := base) (f := f) (k := 0) B (cdv := cdv) (A := A) (outer := outer) (s := s) (H := H) (Q := Q) (E := E)
      refine ⟨_, pss_cons (ps_if (pt_val (pe_callB call_isiT (by rfl) B.isinst boot_isinstance (pa_cons (pv 1) (pa_cons (pe_tup (pa_cons (pe_bltn (v := .ty "list") (by rfl) B.list PyProof.Rows.boot_list rfl) (pa_cons (pe_bltn (v := .ty "tuple") (by rfl) B.tuple PyProof.Rows.boot_tuple rfl) pa_nil))) pa_nil))))
        (pss_cons (ps_if (PW.pt (pw_or
          (pt_cmpR op_ne (pe_callB call_isi (by rfl) B.isinst boot_isinstance (pa_cons (pv 0) (pa_cons (pe_bltn (v := .ty "list") (by rfl) B.list PyProof.Rows.boot_list rfl) pa_nil))) (pe_callB call_isi (by rfl) B.isinst boot_isinstance (pa_cons (pv 1) (pa_cons (pe_bltn (v := .ty "list") (by rfl) B.list PyProof.Rows.boot_list rfl) pa_nil))) (nomark _))
          (pw_or1 (pt_cmpR op_ne (pe_callB call_isi (by rfl) B.isinst boot_isinstance (pa_cons (pv 0) (pa_cons (pe_bltn (v := .ty "tuple") (by rfl) B.tuple PyProof.Rows.boot_tuple rfl) pa_nil))) (pe_callB call_isi (by rfl) B.isinst boot_isinstance (pa_cons (pv 1) (pa_cons (pe_bltn (v := .ty "tuple") (by rfl) B.tuple PyProof.Rows.boot_tuple rfl) pa_nil))) (nomark _))))) pss_never pss_nil)
        (pss_one (ps_ret (pe_and (pe_cmpR op_eq (pe_callB call_len_seq (by rfl) B.len PySem.boot_len (pa_cons (pv 0) pa_nil)) (pe_callB call_len_seq (by rfl) B.len PySem.boot_len (pa_cons (pv 1) pa_nil)) (nomark _))
          (pe_one (pe_callB (cr_all rfl) (by rfl) B.all boot_all (pa_cons (pe_lc (own := [("_law_k", 2)]) (g := gName 2) (tt := tYes)
            (te := tCall (spSame n) [] E0 (tCons (tOp (rIx K) (tVar 0) (tVar 2)) (tCons (tOp (rIx K) (tVar 1) (tVar 2)) tNil)))
            rfl scSame.nd (pi_range1 (by rfl) B.range (pa_cons (pe_callB call_len_seq (by rfl) B.len PySem.boot_len (pa_cons (pv 1) pa_nil)) pa_nil))
            (blkOk_by (N := N3) (sc := defScope sSame) (by decide +kernel)) (fun _ _ _ _ _ => pg_name (i := 2) scSame.nd rfl (Or.inl rfl)) (fun _ _ _ _ _ => pts_nil)
            (fun _ _ _ _ _ => pe_call ih hr (by rfl) g0 F.kp b0 .nil pass0 (pa_cons (pe_ix ix_seq (pv 0) (pv 2) (fun _ _ => rfl)) (pa_cons (pe_ix ix_seq (pv 1) (pv 2) (fun _ _ => rfl)) pa_nil)))) pa_nil))))))) pss_nil) P2, ?_⟩
      refine ⟨_, rfl, (by show 2 ≤ sizeLine; decide), fun T nT => ?_⟩
      have cl : Paired ClsV [V.ty "list", V.ty "tuple"] [.type "list", .type "tuple"] := .cons (.ty _) (.cons (.ty _) .nil)
      have sT : Same H (upd H T (.tup [.ty "list", .ty "tuple"])) := same_new nT
      rcases hE with ⟨rfl, hx⟩ | ⟨p, p2, xs, ys, rfl, rfl, hl, hl2, hp, hi⟩
      · have fin := R2 x (upd H T (.tup [.ty "list", .ty "tuple"])) hx (q _ sT)
        rcases hx with ⟨i, rfl⟩ | ⟨z, rfl⟩ | ⟨b, rfl⟩ | rfl
        · exact ⟨_, T, _, _, _, false, rfl, upd_same, cl, .base (.int i), ty2 (kit_ty (r := false) (by decide +kernel)) (kit_ty (r := false) (by decide +kernel)) rfl, _, rfl, iteF fin⟩
        · exact ⟨_, T, _, _, _, false, rfl, upd_same, cl, .base (.str z), ty2 (kit_ty (r := false) (by decide +kernel)) (kit_ty (r := false) (by decide +kernel)) rfl, _, rfl, iteF fin⟩
        · exact ⟨_, T, _, _, _, false, rfl, upd_same, cl, .base (.bl b), ty2 (kit_ty (r := false) (by decide +kernel)) (kit_ty (r := false) (by decide +kernel)) rfl, _, rfl, iteF fin⟩
        · exact ⟨_, T, _, _, _, false, rfl, upd_same, cl, .base .non, ty2 (kit_ty (r := false) (by decide +kernel)) (kit_ty (r := false) (by decide +kernel)) rfl, _, rfl, iteF fin⟩
      · have hlen : (xs.length : Int) = (ys.length : Int) := by rw [hl]
        -- the list part, for lists and for tuples
        have key : ∀ H1, Same H H1 → (SqL K H1 p xs ∨ SqT K H1 p xs) → (SqL K H1 p2 ys ∨ SqT K H1 p2 ys) → (∀ H2, Same H1 H2 → (SqL K H2 p xs ∧ SqL K H2 p2 ys) ∨ (SqT K H2 p xs ∧ SqT K H2 p2 ys)) →
            tRet (tAndV (tOp rEq (tCB (fun xs H Q => ∃ p ys, xs = [.ref p] ∧ (SqL K H p ys ∨ SqT K H p ys) ∧ Q (.int ys.length) H) (tCons (tVar 0) tNil)) (tCB (fun xs H Q => ∃ p ys, xs = [.ref p] ∧ (SqL K H p ys ∨ SqT K H p ys) ∧ Q (.int ys.length) H) (tCons (tVar 1) tNil)))
              (tCB (rAll K) (tCons (tLc (iRng1 (tCons (tCB (fun xs H Q => ∃ p ys, xs = [.ref p] ∧ (SqL K H p ys ∨ SqT K H p ys) ∧ Q (.int ys.length) H) (tCons (tVar 1) tNil)) tNil)) (gName 2) tYes
                (tCall (spSame n) [] E0 (tCons (tOp (rIx K) (tVar 0) (tVar 2)) (tCons (tOp (rIx K) (tVar 1) (tVar 2)) tNil))) [2]) tNil))) { nx := fun _ H' => Q .non H', rt := Q } [some (.ref p), some (.ref p2), none] H1 := by
          intro H1 s1 hp1 hp2 hall
          refine ⟨_, rfl, p, xs, rfl, hp1, _, rfl, p2, ys, rfl, hp2, rfl, true, ?_, iteT ?_⟩
          · rw [hlen]
            exact congrArg V.bl (decide_eq_true rfl)
          · refine ⟨_, rfl, p2, ys, rfl, hp2, _, rfl, by omega, by omega, fun D nD => ?_⟩
            rw [show ((ys.length : Int)).toNat = ys.length by omega]
            refine lc_it (walk_range (lo := 0) (n := ys.length)) (fun i H2 => Same H1 H2 ∧ H2 D = some (.lst ((List.replicate i true).map V.bl))) ⟨same_new nD, upd_same⟩ (fun _ _ _ _ => trivial) ?_ ?_
            · rintro i x H2 H2' hi2 ⟨s2, hD⟩ ⟨rfl, rfl⟩
              refine ⟨rfl, ?_⟩
              dsimp only [tYes]
              rw [if_pos rfl]
              have hx : i < xs.length := by omega
              have gx : xs[i]? = some xs[i] := List.getElem?_eq_getElem hx
              have gy : ys[i]? = some ys[i] := List.getElem?_eq_getElem hi2
              have ei : (0 : Int) + (i : Int) = ((i : Nat) : Int) := by omega
              have ax : atI xs (0 + (i : Int)) = some xs[i] := by rw [ei]; exact atI_nat gx
              have ay : atI ys (0 + (i : Int)) = some ys[i] := by rw [ei]; exact atI_nat gy
              have eq := (hi i _ _ gx gy).same (s1.trans s2)
              have fin : ∀ H3, Same H2' H3 → ∃ acc, H3 D = some (.lst acc) ∧ acc.length < sizeLine ∧ (Same H1 (upd H3 D (.lst (acc ++ [.bl true]))) ∧ upd H3 D (.lst (acc ++ [.bl true])) D = some (.lst ((List.replicate (i + 1) true).map V.bl))) := by
                intro H3 s3
                refine ⟨_, s3 _ _ hD, ?_, ?_, ?_⟩
                · rw [List.length_map, List.length_replicate]
                  exact small1000 (by omega)
                · intro b o e
                  rw [upd_ne (ne_of_none e nD)]
                  exact s3 _ _ (s2 _ _ e)
                · rw [upd_same, List.replicate_succ', List.map_append]
                  rfl
              rcases hall H2' s2 with ⟨z1, z2⟩ | ⟨z1, z2⟩
              · exact ⟨_, rfl, _, rfl, .inl ⟨p, xs, _, _, rfl, rfl, z1, ax, _, rfl, _, rfl, .inl ⟨p2, ys, _, _, rfl, rfl, z2, ay, _, _, rfl, eq, fin⟩⟩⟩
              · exact ⟨_, rfl, _, rfl, .inr (.inl ⟨p, xs, _, _, rfl, rfl, z1, ax, _, rfl, _, rfl, .inr (.inl ⟨p2, ys, _, _, rfl, rfl, z2, ay, _, _, rfl, eq, fin⟩)⟩)⟩
            · rintro H2 ⟨s2, hD⟩
              refine ⟨D, List.replicate ys.length true, rfl, SqL.of hD, ?_⟩
              have e : (List.replicate ys.length true).all id = true := by
                rw [List.all_eq_true]
                intro b hb
                exact List.eq_of_mem_replicate hb
              rw [e]
              exact q H2 (s1.trans s2)
        rcases hp with ⟨h1, h2⟩ | ⟨h1, h2⟩
        · refine ⟨_, T, _, _, _, true, rfl, upd_same, cl, .base (.lst (sT _ _ h2)), ty2 (kit_ty (r := true) (by decide +kernel)) (kit_ty (r := false) (by decide +kernel)) rfl, _, rfl, iteT ?_⟩
          refine ⟨_, rfl, _, _, _, _, true, rfl, .ty _, .base (.lst (sT _ _ h1)), kit_ty (by decide +kernel), _, rfl, _, _, _, _, true, rfl, .ty _, .base (.lst (sT _ _ h2)), kit_ty (by decide +kernel), rfl, false, rfl, iteF ?_⟩
          refine ⟨_, rfl, _, _, _, _, false, rfl, .ty _, .base (.lst (sT _ _ h1)), kit_ty (by decide +kernel), _, rfl, _, _, _, _, false, rfl, .ty _, .base (.lst (sT _ _ h2)), kit_ty (by decide +kernel), rfl, false, rfl, iteF ?_⟩
          exact key _ sT (.inl (SqL.of (sT _ _ h1))) (.inl (SqL.of (sT _ _ h2))) fun H2 s2 => .inl ⟨SqL.of (s2 _ _ (sT _ _ h1)), SqL.of (s2 _ _ (sT _ _ h2))⟩
        · refine ⟨_, T, _, _, _, true, rfl, upd_same, cl, .base (.tup (sT _ _ h2)), ty2 (kit_ty (r := false) (by decide +kernel)) (kit_ty (r := true) (by decide +kernel)) rfl, _, rfl, iteT ?_⟩
          refine ⟨_, rfl, _, _, _, _, false, rfl, .ty _, .base (.tup (sT _ _ h1)), kit_ty (by decide +kernel), _, rfl, _, _, _, _, false, rfl, .ty _, .base (.tup (sT _ _ h2)), kit_ty (by decide +kernel), rfl, false, rfl, iteF ?_⟩
          refine ⟨_, rfl, _, _, _, _, true, rfl, .ty _, .base (.tup (sT _ _ h1)), kit_ty (by decide +kernel), _, rfl, _, _, _, _, true, rfl, .ty _, .base (.tup (sT _ _ h2)), kit_ty (by decide +kernel), rfl, false, rfl, iteF ?_⟩
          exact key _ sT (.inr (SqT.of (sT _ _ h1))) (.inr (SqT.of (sT _ _ h2))) fun H2 s2 => .inr ⟨SqT.of (s2 _ _ (sT _ _ h1)), SqT.of (s2 _ _ (sT _ _ h2))⟩
end
end K4
namespace Hm
/-! the law's loop: one row at a time, column by column -/
def el (b N : Nat) : Nat → Nat
  | 0 => b
  | c + 1 => el b N c + N * (el b N c + 5)
theorem el_le {b N : Nat} : ∀ {c d : Nat}, c ≤ d → el b N c ≤ el b N d := by
  intro c d h
  induction d with
  | zero =>
    obtain rfl : c = 0 := by omega
    exact Nat.le_refl _
  | succ d ih =>
    by_cases e : c = d + 1
    · rw [e]
      exact Nat.le_refl _
    · exact Nat.le_trans (ih (by omega)) (Nat.le_add_right _ _)
/-- the exponent of the other columns behind k rows -/
def ek (b N c k : Nat) : Nat := el b N c + k * (el b N c + 5)
theorem ek_le {b N c k k' : Nat} (h : k ≤ k') : ek b N c k ≤ ek b N c k' := Nat.add_le_add_left (Nat.mul_le_mul_right _ h) _
theorem ek_top {b N c k : Nat} (h : k ≤ N) : ek b N c k ≤ el b N (c + 1) := ek_le (k' := N) h
theorem pw {x y : Nat} (h : x ≤ y) : 2 ^ x ≤ 2 ^ y := Nat.pow_le_pow_right (by omega) h
structure FB (w b N c k : Nat) (h : List Int) : Prop where
  len : h.length = w
  beg : Beg (fn h) c
  lead : (fn h c).natAbs ≤ 2 ^ el b N c
  bd : ∀ j, c < j → (fn h j).natAbs ≤ 2 ^ ek b N c k
theorem FB.up {w b N c k k' : Nat} {h : List Int} (f : FB w b N c k h) (hk : k ≤ k') : FB w b N c k' h := ⟨f.len, f.beg, f.lead, fun j hj => Nat.le_trans (f.bd j hj) (pw (ek_le hk))⟩
def Ok (w b : Nat) (r : List Int) : Prop := r.length = w ∧ ∀ j, (fn r j).natAbs ≤ 2 ^ b
abbrev Fnd := Nat → Option (List Int)
def putG (F : Fnd) (a : Nat) (r : List Int) : Fnd := fun c => if c = a then some r else F c
theorem putG_at (F : Fnd) (a : Nat) (r : List Int) : putG F a r a = some r := if_pos rfl
theorem putG_ne {F : Fnd} {a c : Nat} {r : List Int} (h : c ≠ a) : putG F a r c = F c := if_neg h
theorem ofG_put (F : Fnd) (a : Nat) (r : List Int) : ofG (putG F a r) = put (ofG F) a (fn r) := by
  funext c
  unfold ofG putG put
  by_cases h : c = a
  · rw [if_pos h, if_pos h]
    rfl
  · rw [if_neg h, if_neg h]
structure Fresh (w b N k a : Nat) (F : Fnd) (r : List Int) : Prop where
  len : r.length = w
  low : ∀ j, j < a → fn r j = 0
  bd : ∀ j, (fn r j).natAbs ≤ 2 ^ el b N a
  lo : ∀ c h, F c = some h → c < a → FB w b N c (k + 1) h
  hi : ∀ c h, F c = some h → a ≤ c → FB w b N c k h
structure Chain (w b N k a : Nat) (F : Fnd) (h r : List Int) : Prop where
  aw : a < w
  len : r.length = w
  hlen : h.length = w
  low : ∀ j, j < a → fn r j = 0
  hlow : ∀ j, j < a → fn h j = 0
  at_ : F a = some h
  ch : Chn a (2 ^ ek b N a (k + 1)) (fn h) (fn r)
  lh : (fn h a).natAbs ≤ 2 ^ el b N a
  lr : (fn r a).natAbs ≤ 2 ^ el b N a
  lo : ∀ c h, F c = some h → c < a → FB w b N c (k + 1) h
  hi : ∀ c h, F c = some h → a < c → FB w b N c k h
def XX (b N : Nat) : Nat := 2 ^ (el b N 3 + 2)
/-- a row in work on top of the others -/
def Wrk (w b N k : Nat) (F : Fnd) (ts : List (List Int)) (r : List Int) (m : Nat) : Prop := ts.length + k + 1 ≤ N ∧ (∀ x ∈ ts, Ok w b x) ∧ ∃ a, a ≤ w ∧
  ((Fresh w b N k a F r ∧ (ts.length + 1) * (5 * XX b N) + (4 - a) * XX b N ≤ m) ∨ ∃ h, Chain w b N k a F h r ∧ (ts.length + 1) * (5 * XX b N) + (3 - a) * XX b N + ((fn r a).natAbs + (fn h a).natAbs) ≤ m)
def J (w b N : Nat) (F : Fnd) (ts : List (List Int)) (m : Nat) : Prop := (∀ c, w ≤ c → F c = none) ∧ ∃ k,
  ((∀ c h, F c = some h → FB w b N c k h) ∧ (∀ x ∈ ts, Ok w b x) ∧ ts.length + k ≤ N ∧ ts.length * (5 * XX b N) + 4 * XX b N ≤ m) ∨ ∃ ts' r, ts = ts' ++ [r] ∧ Wrk w b N k F ts' r m
theorem xx_pos (b N : Nat) : 0 < XX b N := Nat.pow_pos (by omega)
theorem J.wrk {w b N m : Nat} {F : Fnd} {ts : List (List Int)} {r : List Int} (j : J w b N F (ts ++ [r]) m) : ∃ k, Wrk w b N k F ts r m := by
  obtain ⟨_, k, h | ⟨ts', r', e, h⟩⟩ := j
  · obtain ⟨h1, h2, h3, h4⟩ := h
    rw [List.length_append, List.length_singleton] at h3 h4
    have o := h2 r (List.mem_append_right _ List.mem_cons_self)
    refine ⟨k, by omega, fun x hx => h2 x (List.mem_append_left _ hx), 0, Nat.zero_le _, .inl ⟨⟨o.1, fun j hj => by omega, o.2, fun c h _ hc => by omega, fun c h hF _ => h1 c h hF⟩, h4⟩⟩
  · obtain ⟨e1, e2⟩ := List.append_inj' e rfl
    injection e2 with e2
    rw [e1, e2]
    exact ⟨k, h⟩
/-- what is done: the row leaves -/
theorem j_next {w b N k m : Nat} {F : Fnd} {ts : List (List Int)} {r : List Int} (out : ∀ c, w ≤ c → F c = none) (hw : Wrk w b N k F ts r m) (hF : ∀ c h, F c = some h → FB w b N c (k + 1) h) : ∃ m', m' < m ∧ J w b N F ts m' := by
  obtain ⟨h1, h2, a, _, h3⟩ := hw
  refine ⟨_, ?_, out, k + 1, .inl ⟨hF, h2, by omega, Nat.le_refl _⟩⟩
  have x := xx_pos b N
  have e : (ts.length + 1) * (5 * XX b N) = ts.length * (5 * XX b N) + 5 * XX b N := Nat.succ_mul _ _
  rcases h3 with ⟨_, h⟩ | ⟨_, _, h⟩
  · omega
  · omega
theorem Wrk.fb {w b N k m : Nat} {F : Fnd} {ts : List (List Int)} {r : List Int} (hw : Wrk w b N k F ts r m) (nz : ∀ a h, F a = some h → Beg (fn r) a → False) : ∀ c h, F c = some h → FB w b N c (k + 1) h := by
  obtain ⟨h1, h2, a, _, ⟨f, _⟩ | ⟨h, c, _⟩⟩ := hw
  · intro c h hc
    by_cases hca : c < a
    · exact f.lo c h hc hca
    · exact (f.hi c h hc (by omega)).up (by omega)
  · exact (nz a h c.at_ ⟨c.low, c.ch.rz⟩).elim
/-- a row of zeros -/
theorem j_zero {w b N m : Nat} {F : Fnd} {ts : List (List Int)} {r : List Int} (j : J w b N F (ts ++ [r]) m) (hz : ∀ i, fn r i = 0) : ∃ m', m' < m ∧ J w b N F ts m' := by
  obtain ⟨k, hw⟩ := j.wrk
  exact j_next j.1 hw (hw.fb fun a h _ hb => hb.2 (hz a))
theorem beg_uniq {r : Row} {a c : Nat} (h : Beg r a) (g : Beg r c) : a = c := by
  rcases Nat.lt_trichotomy a c with l | l | l
  · exact absurd (g.1 a l) h.2
  · exact l
  · exact absurd (h.1 c l) g.2
/-- the column is empty -/
theorem j_put {w b N m a : Nat} {F : Fnd} {ts : List (List Int)} {r : List Int} (j : J w b N F (ts ++ [r]) m) (hb : Beg (fn r) a) (ha : a < w) (hF : F a = none) : ∃ m', m' < m ∧ J w b N (putG F a r) ts m' := by
  obtain ⟨k, hw⟩ := j.wrk
  have old := hw.fb fun c h hc hb' => by
    have := beg_uniq hb hb'
    rw [← this, hF] at hc
    cases hc
  have fr : FB w b N a (k + 1) r := by
    obtain ⟨h1, h2, a0, _, ⟨f, _⟩ | ⟨h, c, _⟩⟩ := hw
    · have le : a0 ≤ a := by
        apply Nat.le_of_not_lt
        intro z
        exact hb.2 (f.low a z)
      have e := el_le (b := b) (N := N) le
      exact ⟨f.len, hb, Nat.le_trans (f.bd a) (pw e), fun i _ => Nat.le_trans (f.bd i) (pw (Nat.le_trans e (Nat.le_add_right _ _)))⟩
    · have := beg_uniq hb ⟨c.low, c.ch.rz⟩
      rw [this, c.at_] at hF
      cases hF
  have out : ∀ c, w ≤ c → putG F a r c = none := fun c hc => by
    rw [putG_ne (by omega)]
    exact j.1 c hc
  have hF' : ∀ c h, putG F a r c = some h → FB w b N c (k + 1) h := by
    intro c h hc
    by_cases e : c = a
    · rw [e, putG_at] at hc
      injection hc with hc
      rw [← hc, e]
      exact fr
    · rw [putG_ne e] at hc
      exact old c h hc
  obtain ⟨h1, h2, a0, _, h3⟩ := hw
  refine ⟨_, ?_, out, k + 1, .inl ⟨hF', h2, by omega, Nat.le_refl _⟩⟩
  have x := xx_pos b N
  have e : (ts.length + 1) * (5 * XX b N) = ts.length * (5 * XX b N) + 5 * XX b N := Nat.succ_mul _ _
  rcases h3 with ⟨_, h⟩ | ⟨_, _, h⟩
  · omega
  · omega
/-- the chain begins, or goes on -/
theorem to_chain {w b N m a : Nat} {F : Fnd} {ts : List (List Int)} {r s : List Int} (hw3 : w ≤ 3) (j : J w b N F (ts ++ [r]) m) (hb : Beg (fn r) a) (ha : a < w) (hF : F a = some s) :
    ∃ k, ts.length + k + 1 ≤ N ∧ (∀ x ∈ ts, Ok w b x) ∧ Chain w b N k a F s r ∧ (ts.length + 1) * (5 * XX b N) + (3 - a) * XX b N + ((fn r a).natAbs + (fn s a).natAbs) ≤ m := by
  obtain ⟨k, h1, h2, a0, _, ⟨f, hm⟩ | ⟨h, c, hm⟩⟩ := j.wrk
  · refine ⟨k, h1, h2, ?_⟩
    have le : a0 ≤ a := by
      apply Nat.le_of_not_lt
      intro z
      exact hb.2 (f.low a z)
    have e := el_le (b := b) (N := N) le
    have fs := f.hi a s hF le
    have rb : ∀ i, (fn r i).natAbs ≤ 2 ^ el b N a := fun i => Nat.le_trans (f.bd i) (pw e)
    have ch := chn_start (a := a) (B := 2 ^ el b N a) (M := 2 ^ ek b N a k) fs.beg.2 hb.2 fs.lead (rb a) (fun i hi => ⟨fs.bd i hi, Nat.le_trans (rb i) (pw (Nat.le_add_right _ _))⟩)
    have cap : 18 * (2 ^ el b N a * 2 ^ ek b N a k) ≤ 2 ^ ek b N a (k + 1) := by
      have e2 : ek b N a (k + 1) = 5 + (el b N a + ek b N a k) := by
        unfold ek
        rw [Nat.succ_mul]
        omega
      rw [e2, Nat.pow_add, Nat.pow_add]
      exact Nat.mul_le_mul_right _ (by decide)
    refine ⟨⟨ha, f.len, fs.len, hb.1, fs.beg.1, hF, ⟨ch.hz, ch.rz, fun i hi => Nat.le_trans (ch.cr i hi) cap⟩, fs.lead, rb a, fun c h hc hca => ?_, fun c h hc hca => f.hi c h hc (by omega)⟩, ?_⟩
    · by_cases hca0 : c < a0
      · exact f.lo c h hc hca0
      · exact (f.hi c h hc (by omega)).up (by omega)
    · have l1 := rb a
      have l2 := fs.lead
      have l3 : 2 ^ el b N a ≤ 2 ^ el b N 3 := pw (el_le (by omega))
      have l4 : XX b N = 2 ^ el b N 3 * 4 := Nat.pow_add _ _ _
      have l5 : (4 - a0) * XX b N ≥ (3 - a) * XX b N + XX b N := by
        have : (3 - a + 1) * XX b N ≤ (4 - a0) * XX b N := Nat.mul_le_mul_right _ (by omega)
        rw [Nat.succ_mul] at this
        exact this
      omega
  · have ea := beg_uniq hb ⟨c.low, c.ch.rz⟩
    subst ea
    have es : h = s := by
      have := c.at_
      rw [hF] at this
      exact (Option.some.inj this).symm
    subst es
    exact ⟨k, h1, h2, c, hm⟩
/-- the greater row and the lesser one -/
def gtr (a : Nat) (r s : List Int) : List Int × List Int := if (fn r a).natAbs < (fn s a).natAbs then (s, r) else (r, s)
theorem gtr_cases (a : Nat) (r s : List Int) : (gtr a r s = (s, r) ∧ (fn r a).natAbs < (fn s a).natAbs) ∨ (gtr a r s = (r, s) ∧ (fn s a).natAbs ≤ (fn r a).natAbs) := by
  unfold gtr
  by_cases h : (fn r a).natAbs < (fn s a).natAbs
  · rw [if_pos h]
    exact .inl ⟨rfl, h⟩
  · rw [if_neg h]
    exact .inr ⟨rfl, by omega⟩
theorem j_less {w b N m a : Nat} {F : Fnd} {ts : List (List Int)} {r s : List Int} (hw3 : w ≤ 3) (j : J w b N F (ts ++ [r]) m) (hb : Beg (fn r) a) (ha : a < w) (hF : F a = some s) :
    ∃ m', m' < m ∧ J w b N (putG F a (gtr a r s).2) (ts ++ [lsl (gtr a r s).1 (gtr a r s).2 (tms (fn (gtr a r s).1 a) (fn (gtr a r s).2 a))]) m' := by
  obtain ⟨k, h1, h2, c, hm⟩ := to_chain hw3 j hb ha hF
  obtain ⟨row, held, eg, cN, hle, l1, l2, w1, w2, lo1, lo2, sm⟩ : ∃ row held, gtr a r s = (row, held) ∧ Chn a (2 ^ ek b N a (k + 1)) (fn held) (fn row) ∧ (fn held a).natAbs ≤ (fn row a).natAbs ∧ (fn row a).natAbs ≤ 2 ^ el b N a ∧ (fn held a).natAbs ≤ 2 ^ el b N a ∧ row.length = w ∧ held.length = w ∧
      (∀ i, i < a → fn row i = 0) ∧ (∀ i, i < a → fn held i = 0) ∧ (fn row a).natAbs + (fn held a).natAbs = (fn r a).natAbs + (fn s a).natAbs := by
    rcases gtr_cases a r s with ⟨e, h⟩ | ⟨e, h⟩
    · exact ⟨s, r, e, c.ch.swap, by omega, c.lh, c.lr, c.hlen, c.len, c.hlow, c.low, by omega⟩
    · exact ⟨r, s, e, c.ch, h, c.lr, c.lh, c.len, c.hlen, c.low, c.hlow, rfl⟩
  rw [eg]
  show ∃ m', m' < m ∧ J w b N (putG F a held) (ts ++ [lsl row held (tms (fn row a) (fn held a))]) m'
  have ef : fn (lsl row held (tms (fn row a) (fn held a))) = ls (fn row) (fn held) (tms (fn row a) (fn held a)) := fn_lsl (by rw [w1, w2]) _
  obtain ⟨s1, s2, s3⟩ := cN.step hle
  have out : ∀ c, w ≤ c → putG F a held c = none := fun c hc => by
    rw [putG_ne (by omega)]
    exact j.1 c hc
  have low' : ∀ i, i < a → fn (lsl row held (tms (fn row a) (fn held a))) i = 0 := by
    intro i hi
    rw [ef]
    show fn row i - _ * fn held i = 0
    rw [lo1 i hi, lo2 i hi]
    simp
  have lo' : ∀ c' h, putG F a held c' = some h → c' < a → FB w b N c' (k + 1) h := fun c' h hc hca => by
    rw [putG_ne (by omega)] at hc
    exact c.lo c' h hc hca
  have hi' : ∀ c' h, putG F a held c' = some h → a < c' → FB w b N c' k h := fun c' h hc hca => by
    rw [putG_ne (by omega)] at hc
    exact c.hi c' h hc hca
  by_cases z : ls (fn row) (fn held) (tms (fn row a) (fn held a)) a = 0
  · refine ⟨(ts.length + 1) * (5 * XX b N) + (4 - (a + 1)) * XX b N, ?_, out, k, .inr ⟨ts, _, rfl, h1, h2, a + 1, ha, .inl ⟨⟨lsl_len w1 w2 _, fun i hi => ?_, fun i => ?_, fun c' h hc hca => ?_, fun c' h hc hca => hi' c' h hc (by omega)⟩, Nat.le_refl _⟩⟩⟩
    · have : 0 < (fn s a).natAbs := by
        have := c.ch.hz
        omega
      rw [show 4 - (a + 1) = 3 - a by omega]
      omega
    · by_cases e : i = a
      · rw [e, ef]
        exact z
      · exact low' i (by omega)
    · rcases Nat.lt_trichotomy i a with l | l | l
      · rw [low' i l]
        exact Nat.zero_le _
      · rw [l, ef, z]
        exact Nat.zero_le _
      · rw [ef]
        exact Nat.le_trans (s1 i l) (pw (ek_top (by omega)))
    · by_cases e : c' = a
      · rw [e, putG_at] at hc
        injection hc with hc
        rw [← hc, e]
        exact ⟨w2, ⟨lo2, cN.hz⟩, l2, fun i hi => (cN.le hi).1⟩
      · exact lo' c' h hc (by omega)
  · refine ⟨(ts.length + 1) * (5 * XX b N) + (3 - a) * XX b N + ((ls (fn row) (fn held) (tms (fn row a) (fn held a)) a).natAbs + (fn held a).natAbs), ?_, out, k, .inr ⟨ts, _, rfl, h1, h2, a, by omega, .inr ⟨held, ⟨ha, lsl_len w1 w2 _, w2, low', lo2, putG_at _ _ _, ?_, l2, ?_, lo', hi'⟩, ?_⟩⟩⟩
    · omega
    · rw [ef]
      exact s3 z
    · rw [ef]
      omega
    · rw [ef]
      exact Nat.le_refl _
/-- how great the numbers are -/
theorem j_bd {w b N m a : Nat} {F : Fnd} {ts : List (List Int)} {r s : List Int} (hw3 : w ≤ 3) (j : J w b N F (ts ++ [r]) m) (hb : Beg (fn r) a) (ha : a < w) (hF : F a = some s) :
    (r.length = w ∧ s.length = w) ∧ (fn r a).natAbs ≤ 2 ^ el b N 2 ∧ (fn s a).natAbs ≤ 2 ^ el b N 2 ∧ (∀ i, (fn r i).natAbs ≤ 2 ^ el b N 3) ∧ (∀ i, (fn s i).natAbs ≤ 2 ^ el b N 3) ∧ fn s a ≠ 0 := by
  obtain ⟨k, h1, h2, c, hm⟩ := to_chain hw3 j hb ha hF
  have e2 : 2 ^ el b N a ≤ 2 ^ el b N 2 := pw (el_le (by omega))
  have e3 : 2 ^ el b N a ≤ 2 ^ el b N 3 := pw (el_le (by omega))
  have e4 : 2 ^ ek b N a (k + 1) ≤ 2 ^ el b N 3 := pw (Nat.le_trans (ek_top (by omega)) (el_le (by omega)))
  refine ⟨⟨c.len, c.hlen⟩, Nat.le_trans c.lr e2, Nat.le_trans c.lh e2, fun i => ?_, fun i => ?_, c.ch.hz⟩
  · rcases Nat.lt_trichotomy i a with l | l | l
    · rw [c.low i l]
      exact Nat.zero_le _
    · rw [l]
      exact Nat.le_trans c.lr e3
    · exact Nat.le_trans (c.ch.le l).2 e4
  · rcases Nat.lt_trichotomy i a with l | l | l
    · rw [c.hlow i l]
      exact Nat.zero_le _
    · rw [l]
      exact Nat.le_trans c.lh e3
    · exact Nat.le_trans (c.ch.le l).1 e4
theorem j_start {w b N : Nat} {ts : List (List Int)} (h : ∀ x ∈ ts, Ok w b x) (hN : ts.length ≤ N) : J w b N (fun _ => none) ts (ts.length * (5 * XX b N) + 4 * XX b N) := ⟨fun _ _ => rfl, 0, .inl ⟨(fun c h hc => nomatch hc), h, by omega, Nat.le_refl _⟩⟩
theorem j_len {w b N m : Nat} {F : Fnd} {ts : List (List Int)} {r : List Int} (j : J w b N F (ts ++ [r]) m) : r.length = w := by
  obtain ⟨k, h1, h2, a, _, ⟨f, _⟩ | ⟨h, c, _⟩⟩ := j.wrk
  · exact f.len
  · exact c.len
/-- behind the loop -/
theorem j_end {w b N m : Nat} {F : Fnd} (j : J w b N F [] m) : ∀ c h, F c = some h → FB w b N c N h := by
  obtain ⟨_, k, ⟨h1, _, h3, _⟩ | ⟨ts', r, e, _⟩⟩ := j
  · intro c h hc
    exact (h1 c h hc).up (by simpa using h3)
  · have := congrArg List.length e
    rw [List.length_append] at this
    simp at this
end Hm
namespace Hm
/-! the sums in the law's loop, and its end -/
def LE (w : Nat) (R : List (List Int)) (F : Fnd) (ts : List (List Int)) : Prop := Eqs (In (R.map fn)) (Or' (Of w (ofG F)) (In (ts.map fn)))
theorem or_cons {A : Row → Prop} {ts : List (List Int)} {r : List Int} : Eqs (Or' A (In ((ts ++ [r]).map fn))) (Or' A (In (fn r :: ts.map fn))) := by
  have m : ∀ x, x ∈ (ts ++ [r]).map fn ↔ x ∈ fn r :: ts.map fn := by
    intro x
    rw [List.map_append, List.mem_append, List.mem_cons]
    simp
    exact Or.comm
  refine .by (fun x hx => .of ?_) (fun x hx => .of ?_)
  · exact hx.elim .inl fun h => .inr ((m x).mp h)
  · exact hx.elim .inl fun h => .inr ((m x).mpr h)
theorem le_start (w : Nat) (R : List (List Int)) : LE w R (fun _ => none) R := by
  refine .by (fun x hx => .of (.inr hx)) (fun x hx => .of ?_)
  rcases hx with ⟨c, _, h⟩ | h
  · cases h
  · exact h
theorem le_zero {w : Nat} {R : List (List Int)} {F : Fnd} {ts : List (List Int)} {r : List Int} (h : LE w R F (ts ++ [r])) (hz : ∀ i, fn r i = 0) : LE w R F ts := (h.trans or_cons).trans (drop_zero hz)
theorem le_put {w a : Nat} {R : List (List Int)} {F : Fnd} {ts : List (List Int)} {r : List Int} (h : LE w R F (ts ++ [r])) (ha : a < w) (hF : F a = none) : LE w R (putG F a r) ts := by
  have z := (h.trans or_cons).trans (keep_row (w := w) (F := ofG F) (a := a) (r := fn r) (ts := ts.map fn) ha (by unfold ofG; rw [hF]; rfl))
  unfold LE
  rw [ofG_put]
  exact z
theorem le_less {w a : Nat} {R : List (List Int)} {F : Fnd} {ts : List (List Int)} {r s : List Int} (h : LE w R F (ts ++ [r])) (ha : a < w) (hF : F a = some s) (hr : r.length = w) (hs : s.length = w) (t : Int) :
    LE w R (putG F a (gtr a r s).2) (ts ++ [lsl (gtr a r s).1 (gtr a r s).2 t]) := by
  have eF : ofG F a = some (fn s) := by unfold ofG; rw [hF]; rfl
  unfold LE
  refine Eqs.trans ?_ or_cons.symm
  rcases gtr_cases a r s with ⟨e, _⟩ | ⟨e, _⟩
  · rw [e]
    show Eqs _ (Or' (Of w (ofG (putG F a r))) (In (fn (lsl s r t) :: ts.map fn)))
    rw [ofG_put, fn_lsl (by rw [hr, hs])]
    have z1 := (h.trans or_cons).trans (swap_row (w := w) (F := ofG F) (a := a) (r := fn r) (s := fn s) (ts := ts.map fn) ha eF)
    exact z1.trans (less_row (w := w) (F := put (ofG F) a (fn r)) (a := a) (r := fn s) (s := fn r) (ts := ts.map fn) ha (put_at _ _ _) t)
  · rw [e]
    show Eqs _ (Or' (Of w (ofG (putG F a s))) (In (fn (lsl r s t) :: ts.map fn)))
    have same : putG F a s = F := by
      funext c
      unfold putG
      by_cases hc : c = a
      · rw [if_pos hc, hc, hF]
      · rw [if_neg hc]
    rw [same, fn_lsl (by rw [hr, hs])]
    exact (h.trans or_cons).trans (less_row (w := w) (F := ofG F) (a := a) (r := fn r) (s := fn s) (ts := ts.map fn) ha eF t)
/-- the rows of the columns from a on -/
def frw (w : Nat) (F : Fnd) (a : Nat) : List (List Int) := (List.range' a (w - a)).filterMap F
theorem frw_none {w a : Nat} {F : Fnd} (ha : a < w) (hF : F a = none) : frw w F a = frw w F (a + 1) := by
  unfold frw
  rw [show w - a = (w - (a + 1)) + 1 by omega, List.range'_succ, List.filterMap_cons, hF]
theorem frw_some {w a : Nat} {F : Fnd} {h : List Int} (ha : a < w) (hF : F a = some h) : frw w F a = h :: frw w F (a + 1) := by
  unfold frw
  rw [show w - a = (w - (a + 1)) + 1 by omega, List.range'_succ, List.filterMap_cons, hF]
theorem mem_frw {w a : Nat} {F : Fnd} {r : List Int} : r ∈ frw w F a ↔ ∃ c, a ≤ c ∧ c < w ∧ F c = some r := by
  unfold frw
  rw [List.mem_filterMap]
  constructor
  · rintro ⟨c, hc, h⟩
    rw [List.mem_range'_1] at hc
    exact ⟨c, hc.1, by omega, h⟩
  · rintro ⟨c, h1, h2, h⟩
    exact ⟨c, by rw [List.mem_range'_1]; omega, h⟩
theorem le_end {w : Nat} {R : List (List Int)} {F : Fnd} (h : LE w R F []) : Eqs (In (R.map fn)) (In ((frw w F 0).map fn)) := by
  refine h.trans (.by (fun x hx => .of ?_) (fun x hx => .of ?_))
  · rcases hx with ⟨c, hc, hF⟩ | hx
    · unfold ofG at hF
      cases e : F c with
      | none => rw [e] at hF; cases hF
      | some r =>
        rw [e] at hF
        injection hF with hF
        exact List.mem_map.mpr ⟨r, mem_frw.mpr ⟨c, Nat.zero_le _, hc, e⟩, hF⟩
    · cases hx
  · obtain ⟨r, hr, rfl⟩ := List.mem_map.mp hx
    obtain ⟨c, _, hc, e⟩ := mem_frw.mp hr
    exact .inl ⟨c, hc, by unfold ofG; rw [e]; rfl⟩
theorem nrm0 {w b N k : Nat} {F : Fnd} (hF : ∀ c h, F c = some h → FB w b N c k h) : Nrm w 0 (frw w F 0) [] (frw w F 0) := nrm_start fun r hr => by
  obtain ⟨c, _, _, e⟩ := mem_frw.mp hr
  exact (hF c r e).len
theorem low_frw {w b N k a : Nat} {F : Fnd} (hF : ∀ c h, F c = some h → FB w b N c k h) : ∀ x ∈ (frw w F (a + 1)).map fn, x a = 0 := by
  intro x hx
  obtain ⟨r, hr, rfl⟩ := List.mem_map.mp hx
  obtain ⟨c, h1, _, e⟩ := mem_frw.mp hr
  exact (hF c r e).beg.1 a (by omega)
theorem nrm_step0 {w b N k a : Nat} {F : Fnd} {R0 found : List (List Int)} (hF : ∀ c h, F c = some h → FB w b N c k h) (h : Nrm w a R0 found (frw w F a)) (ha : a < w) (e : F a = none) : Nrm w (a + 1) R0 found (frw w F (a + 1)) := by
  rw [frw_none ha e] at h
  exact nrm_none h ha ⟨low_frw hF, Eqs.refl _⟩
theorem nrm_step1 {w b N k a : Nat} {F : Fnd} {R0 found : List (List Int)} {r l : List Int} (hF : ∀ c h, F c = some h → FB w b N c k h) (h : Nrm w a R0 found (frw w F a)) (ha : a < w) (e : F a = some r) (hl : l.length = w) (el : fn l = sgd (fn r) a) : Nrm w (a + 1) R0 (found.map (redL a l) ++ [l]) (frw w F (a + 1)) := by
  refine nrm_some h ha hl ?_
  rw [el]
  refine swp_one ?_ (low_frw hF) (hF a r e).beg.2
  rw [frw_some ha e]
  refine eqs_in fun x => ?_
  rw [List.map_cons, List.mem_append, List.mem_cons, List.mem_singleton]
  exact Or.comm
end Hm
set_option maxRecDepth 100000
set_option maxHeartbeats 2000000
namespace K4
open PySem PySem.Spec PyProof.Rows L2
def addl (r o : List Int) : List Int := List.zipWith (· + ·) r o
def subl (r o : List Int) : List Int := List.zipWith (· - ·) r o
def byl (r : List Int) (t : Int) : List Int := r.map (t * ·)
def unitl (w : Nat) (a : Int) : List Int := (List.range w).map fun k => if ((k : Nat) : Int) = a then 1 else 0
theorem subl_byl (r o : List Int) (t : Int) : subl r (byl o t) = Hm.lsl r o t := by
  unfold subl byl Hm.lsl
  rw [List.zipWith_map_right]
def spAddL : Sp := fun vs H Q _ => ∃ (x y : Addr × List Int), vs = [.ref x.1, .ref y.1] ∧ RT H x ∧ RT H y ∧ x.2.length = y.2.length ∧ x.2.length ≤ 3 ∧ ∀ H' p, Same H H' → H p = none → RT H' (p, addl x.2 y.2) → Q (.ref p) H'
def spLessL : Sp := fun vs H Q _ => ∃ (x y : Addr × List Int), vs = [.ref x.1, .ref y.1] ∧ RT H x ∧ RT H y ∧ x.2.length = y.2.length ∧ x.2.length ≤ 3 ∧ ∀ H' p, Same H H' → H p = none → RT H' (p, subl x.2 y.2) → Q (.ref p) H'
def spByL : Sp := fun vs H Q _ => ∃ (x : Addr × List Int) (t : Int), vs = [.ref x.1, .int t] ∧ RT H x ∧ x.2.length ≤ 3 ∧ (∀ y ∈ x.2, CMulW t y) ∧ ∀ H' p, Same H H' → H p = none → RT H' (p, byl x.2 t) → Q (.ref p) H'
def spUnitL : Sp := fun vs H Q _ => ∃ (w : Nat) (a : Int), vs = [.int (w : Nat), .int a] ∧ w ≤ 3 ∧ ∀ H' p, Same H H' → H p = none → RT H' (p, unitl w a) → Q (.ref p) H'
def spFirst : Sp := fun vs H Q _ => ∃ (x : Addr × List Int), vs = [.ref x.1] ∧ RT H x ∧ x.2.length ≤ 3 ∧ (∀ H', Same H H' → (∀ i, Hm.fn x.2 i = 0) → Q .non H') ∧ ∀ H' a, Same H H' → Hm.Beg (Hm.fn x.2) a → a < x.2.length → Q (.int (a : Nat)) H'
theorem zip_int {f : Int → Int → Int} (g : V → V → V) (hg : ∀ x y, g (.int x) (.int y) = .int (f x y)) : ∀ r o : List Int, List.zipWith g (r.map V.int) (o.map V.int) = (List.zipWith f r o).map V.int
  | [], _ => rfl
  | _ :: _, [] => rfl
  | x :: r, y :: o => by
    show g (.int x) (.int y) :: _ = V.int (f x y) :: _
    rw [hg]
    congr 1
    exact zip_int g hg r o
section
variable {P : Program} {w : World} {K : PySem.W.Frag} {mg : Str → Option Value} {base : Heap}
theorem ok_addl {f : Addr} {fd : FuncData} {k : Nat} (F : Fun K "_law_add" "_law_add" sAdd f fd) (B : Bz mg) : FnOk P w K mg base CX0 (k + 1) f fd ["_law_one", "_law_other"] spAddL := by
  refine F.ok scAdd (fun vs H Q E h => ?_) (fun cdv A outer s H vs Q E hr h => ?_)
  · obtain ⟨x, y, rfl, _⟩ := h
    rfl
  · obtain ⟨x, y, rfl, hx, hy, hl, h3, q⟩ := h
    refine ⟨_, pss_one (ps_ret (pe_callTy call_tuple_of (by rfl) B.b.tuple boot_tuple (pa_cons (pe_lc (own := [("_law_a", 2), ("_law_b", 3)]) (g := gTup K 2 (gCons (gName 2) (gCons (gName 3) gNil))) (tt := tYes) rfl scAdd.nd (RZ.pi_zipA (by rfl) B.b.zip (pa_cons (pv 0) (pa_cons (pv 1) pa_nil)))
      (blkOk_by (N := ["_law_one", "_law_other", "_law_a", "_law_b"]) (sc := defScope sAdd) (by decide +kernel)) (fun _ _ _ _ _ => pg_tup rfl (pgs_cons (pg_name (i := 2) scAdd.nd rfl (Or.inl rfl)) (pgs_cons (pg_name (i := 3) scAdd.nd rfl (Or.inl rfl)) pgs_nil))) (fun _ _ _ _ _ => pts_nil)
      (fun _ _ _ _ _ => pe_op op_add (pv 2) (pv 3))) pa_nil))), ?_⟩
    refine ⟨_, rfl, _, rfl, x.1, y.1, _, _, rfl, .inr ⟨SqT.of hx, SqT.of hy, fun D nD => ?_⟩⟩
    refine Rs.lc_zipT (σ := [some (.ref x.1), some (.ref y.1), none, none]) (i := 2) (j := 3) (by rw [List.length_map, List.length_map, hl]) (fun x y => match x, y with | .int x, .int y => .int (x + y) | x, _ => x) (by rw [List.length_map]; exact Nat.lt_of_le_of_lt h3 (by decide)) nD (SqT.of hx) (SqT.of hy) ?_ ?_
    · intro n a b H2 Q2 ha hb _ h
      rw [List.getElem?_map] at ha hb
      obtain ⟨a0, ha0, rfl⟩ := Option.map_eq_some_iff.mp ha
      obtain ⟨b0, hb0, rfl⟩ := Option.map_eq_some_iff.mp hb
      exact ⟨_, rfl, _, rfl, _, _, rfl, rfl, h H2 (fun _ _ e => e)⟩
    · intro H2 s2 hD
      have s2 : Same H H2 := s2
      refine ⟨D, _, rfl, .inl ⟨SqL.of hD, fun p2 np2 => ?_⟩⟩
      rw [zip_int (f := (· + ·)) _ (fun _ _ => rfl)]
      exact q _ p2 (s2.trans (same_new np2)) (s2.free np2) upd_same
theorem ok_lessl {f : Addr} {fd : FuncData} {k : Nat} (F : Fun K "_law_less" "_law_less" sLessL f fd) (B : Bz mg) : FnOk P w K mg base CX0 (k + 1) f fd ["_law_one", "_law_other"] spLessL := by
  refine F.ok scLessL (fun vs H Q E h => ?_) (fun cdv A outer s H vs Q E hr h => ?_)
  · obtain ⟨x, y, rfl, _⟩ := h
    rfl
  · obtain ⟨x, y, rfl, hx, hy, hl, h3, q⟩ := h
    refine ⟨_, pss_one (ps_ret (pe_callTy call_tuple_of (by rfl) B.b.tuple boot_tuple (pa_cons (pe_lc (own := [("_law_a", 2), ("_law_b", 3)]) (g := gTup K 2 (gCons (gName 2) (gCons (gName 3) gNil))) (tt := tYes) rfl scLessL.nd (RZ.pi_zipA (by rfl) B.b.zip (pa_cons (pv 0) (pa_cons (pv 1) pa_nil)))
      (blkOk_by (N := ["_law_one", "_law_other", "_law_a", "_law_b"]) (sc := defScope sLessL) (by decide +kernel)) (fun _ _ _ _ _ => pg_tup rfl (pgs_cons (pg_name (i := 2) scLessL.nd rfl (Or.inl rfl)) (pgs_cons (pg_name (i := 3) scLessL.nd rfl (Or.inl rfl)) pgs_nil))) (fun _ _ _ _ _ => pts_nil)
      (fun _ _ _ _ _ => pe_op op_sub (pv 2) (pv 3))) pa_nil))), ?_⟩
    refine ⟨_, rfl, _, rfl, x.1, y.1, _, _, rfl, .inr ⟨SqT.of hx, SqT.of hy, fun D nD => ?_⟩⟩
    refine Rs.lc_zipT (σ := [some (.ref x.1), some (.ref y.1), none, none]) (i := 2) (j := 3) (by rw [List.length_map, List.length_map, hl]) (fun x y => match x, y with | .int x, .int y => .int (x - y) | x, _ => x) (by rw [List.length_map]; exact Nat.lt_of_le_of_lt h3 (by decide)) nD (SqT.of hx) (SqT.of hy) ?_ ?_
    · intro n a b H2 Q2 ha hb _ h
      rw [List.getElem?_map] at ha hb
      obtain ⟨a0, ha0, rfl⟩ := Option.map_eq_some_iff.mp ha
      obtain ⟨b0, hb0, rfl⟩ := Option.map_eq_some_iff.mp hb
      exact ⟨_, rfl, _, rfl, _, _, rfl, rfl, h H2 (fun _ _ e => e)⟩
    · intro H2 s2 hD
      have s2 : Same H H2 := s2
      refine ⟨D, _, rfl, .inl ⟨SqL.of hD, fun p2 np2 => ?_⟩⟩
      rw [zip_int (f := (· - ·)) _ (fun _ _ => rfl)]
      exact q _ p2 (s2.trans (same_new np2)) (s2.free np2) upd_same
theorem ok_byl {f : Addr} {fd : FuncData} {k : Nat} (F : Fun K "_law_by" "_law_by" sBy f fd) (B : Bz mg) : FnOk P w K mg base CX0 (k + 1) f fd ["_law_one", "_law_times"] spByL := by
  refine F.ok scBy (fun vs H Q E h => ?_) (fun cdv A outer s H vs Q E hr h => ?_)
  · obtain ⟨x, t, rfl, _⟩ := h
    rfl
  · obtain ⟨x, t, rfl, hx, h3, hm, q⟩ := h
    refine ⟨_, pss_one (ps_ret (pe_callTy call_tuple_of (by rfl) B.b.tuple boot_tuple (pa_cons (pe_lc (own := [("_law_a", 2)]) (g := gName 2) (tt := tYes) rfl scBy.nd (pi_tup (pv 0))
      (blkOk_by (N := ["_law_one", "_law_times", "_law_a"]) (sc := defScope sBy) (by decide +kernel)) (fun _ _ _ _ _ => pg_name (i := 2) scBy.nd rfl (Or.inl rfl)) (fun _ _ _ _ _ => pts_nil)
      (fun _ _ _ _ _ => pe_op op_mulW (pv 1) (pv 2))) pa_nil))), ?_⟩
    refine ⟨_, rfl, x.1, rfl, ⟨_, SqT.of hx⟩, fun D nD => ?_⟩
    refine lc_sel (e := V.int) (out := fun a => V.int (t * a)) (walk_tup (K := K) (a := x.1)) (σ := [some (.ref x.1), some (.int t), none]) (i := 2) (fun _ => true) (Nat.lt_of_le_of_lt h3 (by decide)) nD (fun H2 s2 => SqT.of (s2 _ _ hx)) (fun x H2 Q _ _ h => h) ?_ ?_
    · intro a H2 Q2 ha _ _ h
      exact ⟨_, rfl, _, rfl, _, _, rfl, rfl, hm a ha, h H2 (Same.refl _)⟩
    · intro H2 s2 hD
      refine ⟨D, _, rfl, .inl ⟨SqL.of hD, fun p2 np2 => ?_⟩⟩
      refine q _ p2 (s2.trans (same_new np2)) (s2.free np2) ?_
      show upd _ p2 _ p2 = some (HO.tup (List.map V.int (byl x.2 t)))
      rw [upd_same, List.filter_eq_self.mpr (by simp)]
      unfold byl
      rw [List.map_map]
      rfl
theorem ok_unit {f : Addr} {fd : FuncData} {k : Nat} (F : Fun K "_law_unit" "_law_unit" sUnit f fd) (B : Bz mg) : FnOk P w K mg base CX0 (k + 1) f fd ["_law_width_z", "_law_at"] spUnitL := by
  refine F.ok scUnit (fun vs H Q E h => ?_) (fun cdv A outer s H vs Q E hr h => ?_)
  · obtain ⟨wd, a, rfl, _⟩ := h
    rfl
  · obtain ⟨wd, a, rfl, h3, q⟩ := h
    refine ⟨_, pss_one (ps_ret (pe_callTy call_tuple_of (by rfl) B.b.tuple boot_tuple (pa_cons (pe_lc (own := [("_law_k", 2)]) (g := gName 2) (tt := tYes) rfl scUnit.nd (pi_range1 (by rfl) B.b.range (pa_cons (pv 0) pa_nil))
      (blkOk_by (N := ["_law_width_z", "_law_at", "_law_k"]) (sc := defScope sUnit) (by decide +kernel)) (fun _ _ _ _ _ => pg_name (i := 2) scUnit.nd rfl (Or.inl rfl)) (fun _ _ _ _ _ => pts_nil)
      (fun _ _ _ _ _ => pe_callTy call_int1 (by rfl) B.int boot_int (pa_cons (pe_cmpR op_eq (pv 2) (pv 1) (nomark _)) pa_nil))) pa_nil))), ?_⟩
    refine ⟨_, rfl, (wd : Int), rfl, by omega, by omega, fun D nD => ?_⟩
    rw [show ((wd : Int)).toNat = wd from rfl]
    refine lc_it (walk_range (lo := 0) (n := wd)) (fun i H2 => Same H H2 ∧ H2 D = some (.lst ((unitl wd a).take i |>.map V.int))) ⟨same_new nD, upd_same⟩ (fun _ _ _ _ => trivial) ?_ ?_
    · rintro i v H2 H2' hi ⟨s2, hD⟩ ⟨rfl, rfl⟩
      refine ⟨rfl, ?_⟩
      dsimp only [tYes]
      rw [if_pos rfl]
      refine ⟨_, rfl, _, rfl, rfl, .inr ⟨_, rfl, _, hD, ?_, ?_, ?_⟩⟩
      · rw [List.length_map, List.length_take]
        unfold unitl
        rw [List.length_map, List.length_range]
        exact Nat.lt_of_le_of_lt (show min i wd ≤ 3 by omega) (by decide)
      · intro b o e
        rw [upd_ne (ne_of_none e nD)]
        exact s2 _ _ e
      · rw [upd_same]
        have hg : (unitl wd a)[i]? = some (if ((i : Nat) : Int) = a then 1 else 0) := by
          unfold unitl
          rw [List.getElem?_map, List.getElem?_range hi]
          rfl
        rw [take_more hg, List.map_append]
        congr 3
        show [V.int _] = [V.int _]
        congr 2
        show b2i (decide (V.int (0 + (i : Int)) = V.int a)) = _
        rw [dec_int, show (0 : Int) + (i : Int) = (i : Nat) by omega]
        by_cases h : ((i : Nat) : Int) = a
        · rw [if_pos h, beq_iff_eq.mpr h]
          rfl
        · rw [if_neg h, beq_eq_false_iff_ne.mpr h]
          rfl
    · rintro H2 ⟨s2, hD⟩
      have e : (unitl wd a).take wd = unitl wd a := by
        refine List.take_of_length_le ?_
        unfold unitl
        rw [List.length_map, List.length_range]
        exact Nat.le_refl _
      rw [e] at hD
      refine ⟨D, _, rfl, .inl ⟨SqL.of hD, fun p2 np2 => ?_⟩⟩
      exact q _ p2 (s2.trans (same_new np2)) (s2.free np2) upd_same
end
end K4
set_option maxRecDepth 100000
set_option maxHeartbeats 2000000
namespace K4
open PySem PySem.Spec PyProof.Rows L2
abbrev vN (k : Nat) : V := V.int (k : Nat)
theorem walk_rg (n : Nat) : Walk (Itr 0 n) ((List.range n).map vN).length (fun _ => True) (YAt ((List.range n).map vN)) := by
  have w := walk_range (lo := 0) (n := n)
  rw [show n = ((List.range n).map vN).length by simp] at w
  have e : ((List.range n).map vN).length = n := by simp
  rw [e] at w ⊢
  refine w.mono (fun _ h => h) (fun i H x H' hi _ y => ?_)
  obtain ⟨y1, y2⟩ := y
  refine ⟨y1, ?_⟩
  rw [List.getElem?_map, List.getElem?_range (by omega), y2]
  show some (V.int _) = some (V.int _)
  congr 2
  omega
/-- the columns without a zero -/
def nzc (r : List Int) : List Nat := (List.range r.length).filter fun k => decide (Hm.fn r k ≠ 0)
theorem nzc_nil {r : List Int} (h : nzc r = []) : ∀ i, Hm.fn r i = 0 := by
  intro i
  by_cases hi : i < r.length
  · have := List.filter_eq_nil_iff.mp h i (List.mem_range.mpr hi)
    simpa using this
  · unfold Hm.fn
    rw [List.getD_eq_getElem?_getD, List.getElem?_eq_none (by omega)]
    rfl
theorem nzc_cons {r : List Int} {a : Nat} {t : List Nat} (h : nzc r = a :: t) : Hm.Beg (Hm.fn r) a ∧ a < r.length := by
  have ma : a ∈ nzc r := by rw [h]; exact List.mem_cons_self
  have h1 := List.mem_filter.mp ma
  have hlt := List.mem_range.mp h1.1
  have hn : Hm.fn r a ≠ 0 := by simpa using h1.2
  refine ⟨⟨fun j hj => ?_, hn⟩, hlt⟩
  have srt : (nzc r).Pairwise (· < ·) := (List.pairwise_lt_range).filter _
  rw [h] at srt
  by_cases hz : Hm.fn r j = 0
  · exact hz
  · exfalso
    have mj : j ∈ nzc r := List.mem_filter.mpr ⟨List.mem_range.mpr (by omega), by simpa using hz⟩
    rw [h] at mj
    rcases List.mem_cons.mp mj with e | e
    · omega
    · have := (List.pairwise_cons.mp srt).1 j e
      omega
theorem dp_nats {K : PySem.W.Frag} {H : Hp} : ∀ r : List Nat, DpAll K H (r.map vN) ((r.map fun k => ((k : Nat) : Int)).map PyData.int)
  | [] => .nil
  | x :: r => .cons (.int _) (dp_nats r)
def dI (r : List Int) : PyData := .list (r.map .int)
theorem shaped_dI (r : List Int) : SeqAt.shaped (dI r) = true := by
  have h1 := depth_ints r
  have h2 : PyData.depth (dI r) ≤ 64 := by
    unfold dI
    simp only [PyData.depth]
    omega
  show (PyData.canLay0 (dI r) && decide (PyData.depth (dI r) ≤ 64)) = true
  rw [Bool.and_eq_true]
  exact ⟨by unfold dI; simp only [PyData.canLay0]; exact lay_ints r, decide_eq_true h2⟩
theorem eqv_dI (r s : List Int) : PyData.eqv (dI r) (dI s) = decide (r = s) := by
  unfold dI
  simp only [PyData.eqv]
  exact eqv_ints r s
section
variable {P : Program} {w : World} {K : PySem.W.Frag} {mg : Str → Option Value} {base : Heap}
theorem ok_first {f : Addr} {fd : FuncData} {k : Nat} (F : Fun K "_law_first_at" "_law_first_at" sFirst f fd) (B : Bz mg) : FnOk P w K mg base CX0 (k + 2) f fd ["_law_row"] spFirst := by
  refine F.ok scFirst (fun vs H Q E h => ?_) (fun cdv A outer s H vs Q E hr h => ?_)
  · obtain ⟨x, rfl, _⟩ := h
    rfl
  · obtain ⟨x, rfl, hx, h3, q0, q1⟩ := h
    refine ⟨_, pss_cons (ps_setLc (i := 1) (own := [("_law_at", 2)]) (g := gName 2) (tt := tTest (tOp rNe (tOp (rIxT K) (tVar 0) (tVar 2)) (tC (.int 0)))) (te := tVar 2) rfl scFirst.nd rfl rfl (sw_true rfl rfl rfl (by decide +kernel)) (pi_range1 (by rfl) B.b.range (pa_cons (pe_callB call_len_seq (by rfl) B.b.len PySem.boot_len (pa_cons (pv 0) pa_nil)) pa_nil))
        (blkOk_by (N := ["_law_row", "_law_spots", "_law_at"]) (sc := defScope sFirst) (by decide +kernel)) (fun _ _ _ _ _ => pg_name (i := 2) scFirst.nd rfl (Or.inl rfl)) (fun _ _ _ _ _ => pts_one (pt_cmpR op_ne (pe_ix ix_tup (pv 0) (pv 2) (fun _ _ => rfl)) pe_int (nomark _)))
        (fun _ _ _ _ _ => pv 2))
      (pss_one (ps_ret (pe_ifExp (pt_cmpR (op_neD hr.units) (pv 1) (pe_lst pa_nil) (nomark _)) (pe_ix ix_list (pv 1) pe_int (fun _ _ => rfl)) pe_non))), ?_⟩
    refine ⟨_, rfl, x.1, _, rfl, .inr (SqT.of hx), _, rfl, by rw [List.length_map]; omega, by rw [List.length_map]; omega, fun D nD => ?_⟩
    rw [List.length_map, show ((x.2.length : Nat) : Int).toNat = x.2.length from rfl]
    refine lc_sel (e := vN) (out := vN) (walk_rg x.2.length) (tt := tTest (tOp rNe (tOp (rIxT K) (tVar 0) (tVar 2)) (tC (.int 0)))) (te := tVar 2) (σ := [some (.ref x.1), none, none]) (i := 2) (fun k => decide (Hm.fn x.2 k ≠ 0)) (by rw [List.length_range]; exact Nat.lt_of_le_of_lt h3 (by decide)) nD (fun _ _ => trivial) ?_ ?_ ?_
    · intro n H2 Q2 hn s2 h
      refine ⟨_, rfl, _, rfl, x.1, _, (n : Int), _, rfl, rfl, SqT.of (hx.same s2), row_at (List.mem_range.mp hn), rfl, _, rfl, ?_⟩
      have e : (!decide (V.int (x.2.getD n 0) = V.int 0)) = decide (Hm.fn x.2 n ≠ 0) := by
        rw [dec_int]
        show (!(Hm.fn x.2 n == 0)) = _
        rw [Bool.beq_eq_decide_eq]
        exact (decide_not).symm
      rw [e]
      exact h
    · intro n H2 Q2 hn _ s2 h
      exact ⟨_, rfl, h H2 (Same.refl _)⟩
    · intro H2 s2 hD
      have hD : H2 D = some (.lst ((nzc x.2).map vN)) := hD
      refine ⟨_, rfl, (by show 0 ≤ sizeLine; decide), fun p np => ?_⟩
      have s3 := same_new (o := .lst []) np
      refine ⟨dI ((nzc x.2).map fun k => ((k : Nat) : Int)), dI [], .lst (SqL.of (s3 _ _ hD)) (dp_nats _), .lst (SqL.of upd_same) .nil, shaped_dI _, shaped_dI _, _, rfl, ?_⟩
      rw [eqv_dI]
      cases e : nzc x.2 with
      | nil =>
        refine iteF ?_
        exact q0 _ (s2.trans s3) (nzc_nil e)
      | cons a t =>
        refine iteT ?_
        obtain ⟨b1, b2⟩ := nzc_cons e
        rw [e] at hD
        exact ⟨_, rfl, D, _, 0, _, rfl, rfl, SqL.of (s3 _ _ hD), atI_nat (j := 0) rfl, q1 _ a (s2.trans s3) b1 b2⟩
end
end K4
set_option maxRecDepth 100000
set_option maxHeartbeats 2000000
namespace K4
open PySem PySem.Spec PyProof.Rows L2
abbrev Fa := Nat → Option (Addr × List Int)
def fv (F : Fa) (c : Nat) : V := match F c with
  | none => .non
  | some x => .ref x.1
def fl (w : Nat) (F : Fa) : List V := (List.range w).map (fv F)
def fd2 (F : Fa) : Hm.Fnd := fun c => (F c).map fun x => x.2
def putA (F : Fa) (a : Nat) (x : Addr × List Int) : Fa := fun c => if c = a then some x else F c
theorem fl_len (w : Nat) (F : Fa) : (fl w F).length = w := by
  unfold fl
  rw [List.length_map, List.length_range]
theorem fl_at {w a : Nat} {F : Fa} (h : a < w) : (fl w F)[a]? = some (fv F a) := by
  unfold fl
  rw [List.getElem?_map, List.getElem?_range h]
  rfl
theorem fl_set {w a : Nat} {F : Fa} {x : Addr × List Int} (h : a < w) : (fl w F).set a (.ref x.1) = fl w (putA F a x) := by
  refine List.ext_getElem? fun i => ?_
  rw [List.getElem?_set]
  by_cases hi : i < w
  · rw [fl_at (F := putA F a x) hi]
    by_cases e : a = i
    · subst e
      rw [if_pos rfl, fl_len, if_pos h]
      unfold fv putA
      rw [if_pos rfl]
    · rw [if_neg e, fl_at hi]
      unfold fv putA
      rw [if_neg (fun z => e z.symm)]
  · have e : a ≠ i := by omega
    rw [if_neg e, List.getElem?_eq_none (by rw [fl_len]; omega), List.getElem?_eq_none (by rw [fl_len]; omega)]
theorem fd2_put (F : Fa) (a : Nat) (x : Addr × List Int) : fd2 (putA F a x) = Hm.putG (fd2 F) a x.2 := by
  funext c
  unfold fd2 putA Hm.putG
  by_cases h : c = a
  · rw [if_pos h, if_pos h]
    rfl
  · rw [if_neg h, if_neg h]
theorem putA_same {F : Fa} {a : Nat} {x : Addr × List Int} (h : F a = some x) : putA F a x = F := by
  funext c
  unfold putA
  by_cases hc : c = a
  · rw [if_pos hc, hc, h]
  · rw [if_neg hc]
theorem mx (x : Int) : (if (if x < 0 then -x else x) > 1 then (if x < 0 then -x else x) else 1) = max 1 (x.natAbs : Int) := by
  rw [abs_nat]
  split <;> omega
/-- the found rows and those to do, at qf and qt -/
structure FT (H0 H : Hp) (w : Nat) (qf qt : Addr) (F : Fa) (ts : List (Addr × List Int)) : Prop where
  sm : Same H0 H
  nf : H0 qf = none
  nt : H0 qt = none
  ne : qf ≠ qt
  f : H qf = some (.lst (fl w F))
  t : H qt = some (.lst (rf ts))
  fr : ∀ c x, F c = some x → RT H x
  tr : ∀ x ∈ ts, RT H x
theorem RT.ne {H : Hp} {x : Addr × List Int} {q : Addr} {xs : List V} (h : RT H x) (hq : H q = some (.lst xs)) : x.1 ≠ q := by
  intro z
  unfold RT at h
  rw [z, hq] at h
  cases h
theorem RT.upd {H : Hp} {x : Addr × List Int} {q : Addr} {xs : List V} {o : HO} (h : RT H x) (hq : H q = some (.lst xs)) : RT (upd H q o) x := by
  unfold RT
  rw [upd_ne (h.ne hq)]
  exact h
theorem FT.same {H0 H H' : Hp} {w : Nat} {qf qt : Addr} {F : Fa} {ts : List (Addr × List Int)} (h : FT H0 H w qf qt F ts) (e : Same H H') : FT H0 H' w qf qt F ts := ⟨h.sm.trans e, h.nf, h.nt, h.ne, e _ _ h.f, e _ _ h.t, fun c x hx => (h.fr c x hx).same e, fun x hx => (h.tr x hx).same e⟩
theorem FT.setF {H0 H : Hp} {w a : Nat} {qf qt : Addr} {F : Fa} {ts : List (Addr × List Int)} {x : Addr × List Int} (h : FT H0 H w qf qt F ts) (hx : RT H x) (ha : a < w) : FT H0 (upd H qf (.lst ((fl w F).set a (.ref x.1)))) w qf qt (putA F a x) ts := by
  refine ⟨fun b o e => ?_, h.nf, h.nt, h.ne, ?_, ?_, fun c y hy => ?_, fun y hy => (h.tr y hy).upd h.f⟩
  · rw [upd_ne (ne_of_none e h.nf)]
    exact h.sm _ _ e
  · rw [upd_same, fl_set ha]
  · rw [upd_ne h.ne.symm]
    exact h.t
  · unfold putA at hy
    by_cases hc : c = a
    · rw [if_pos hc] at hy
      injection hy with hy
      rw [← hy]
      exact hx.upd h.f
    · rw [if_neg hc] at hy
      exact (h.fr c y hy).upd h.f
theorem FT.setT {H0 H : Hp} {w : Nat} {qf qt : Addr} {F : Fa} {ts ts' : List (Addr × List Int)} (h : FT H0 H w qf qt F ts) (hx : ∀ x ∈ ts', RT H x) : FT H0 (upd H qt (.lst (rf ts'))) w qf qt F ts' := by
  refine ⟨fun b o e => ?_, h.nf, h.nt, h.ne, ?_, upd_same, fun c y hy => (h.fr c y hy).upd h.t, fun y hy => (hx y hy).upd h.t⟩
  · rw [upd_ne (ne_of_none e h.nt)]
    exact h.sm _ _ e
  · rw [upd_ne h.ne]
    exact h.f
abbrev NM : List Str := ["_law_width_z", "_law_rows_z", "_law_found", "_law_todo", "_law_row", "_law_at", "_law_held", "_law_times", "_law_steps", "_law_pivot"]
abbrev XM (P : Program) (w : World) (K : PySem.W.Frag) (mg : Str → Option Value) (base : Heap) (f : Addr) (cdv : Value) (A : Around) (outer : List Env) (s : Shared) (H : Hp) (E : XK) : Cx := (cxOf CX0 P w K mg base NM "_law_normal" (defScope sNormL) f cdv A outer s H E).nox
abbrev sm (i : Nat) : Stmt := (defBody sNormL).getD i (.Pass ⟨0, 0, 0, 0⟩)
def mb : List Stmt := whileBody (sm 1)
abbrev mbs (i : Nat) : Stmt := mb.getD i (.Pass ⟨0, 0, 0, 0⟩)
def elseBody : Stmt → List Stmt
  | .If _ _ b _ => b
  | _ => []
def lessB : List Stmt := ifBody ((elseBody (mbs 2)).getD 0 (.Pass ⟨0, 0, 0, 0⟩))
abbrev lbS (i : Nat) : Stmt := lessB.getD i (.Pass ⟨0, 0, 0, 0⟩)
theorem rf_snoc (ts : List (Addr × List Int)) (p : Addr) (r : List Int) : rf ts ++ [.ref p] = rf (ts ++ [(p, r)]) := (List.map_append (l₁ := ts) (l₂ := [(p, r)]) (f := fun x : Addr × List Int => V.ref x.1)).symm
theorem fn_mem {r : List Int} {B : Nat} (h : ∀ i, (Hm.fn r i).natAbs ≤ B) : ∀ y ∈ r, y.natAbs ≤ B := by
  intro y hy
  obtain ⟨j, hj⟩ := List.mem_iff_getElem?.mp hy
  have h1 := h j
  unfold Hm.fn at h1
  rw [List.getD_eq_getElem?_getD, hj] at h1
  exact h1
section
variable {P : Program} {w : World} {K : PySem.W.Frag} {mg : Str → Option Value} {base : Heap}
variable {f fF fL fB : Addr} {fdF fdL fdB : FuncData} {A : Around} {outer : List Env} {s : Shared} {H : Hp} {E : XK} {cdv : Value}
/-- behind the exchange -/
theorem mtail (B : Bz mg) (cL : Cb P w K mg base CX0 1 "_law_less" ["_law_one", "_law_other"] spLessL fL fdL) (cB : Cb P w K mg base CX0 1 "_law_by" ["_law_one", "_law_times"] spByL fB fdB) (hr : Room 2 (A.deeper (envOfC "_law_normal" (defScope sNormL) s.heap.objs.size f cdv))) :
    ∃ t, PSs (XM P w K mg base f cdv A outer s H E) [lbS 1, lbS 2, lbS 3] t ∧ ∀ (D : Ends) (H0 H1 : Hp) (wd a e2 e3 : Nat) (l qf qt : Addr) (F : Fa) (ts : List (Addr × List Int)) (row held : Addr × List Int) (y6 y7 y8 y9 : Option V),
      FT H0 H1 wd qf qt F ts → RT H1 row → F a = some held → a < wd → wd ≤ 3 → row.2.length = wd → held.2.length = wd → (Hm.fn row.2 a).natAbs ≤ 2 ^ e2 → (Hm.fn held.2 a).natAbs ≤ 2 ^ e2 → (∀ i, (Hm.fn held.2 i).natAbs ≤ 2 ^ e3) → Hm.fn held.2 a ≠ 0 → e2 ≤ 8000 → e3 ≤ 100000 → ts.length ≤ 1000 →
      (∀ (H' : Hp) (p : Addr) (z6 z7 : Option V), FT H0 H' wd qf qt F (ts ++ [(p, Hm.lsl row.2 held.2 (Hm.tms (Hm.fn row.2 a) (Hm.fn held.2 a)))]) → D.nx [some (.int (wd : Nat)), some (.ref l), some (.ref qf), some (.ref qt), some (.ref row.1), some (.int (a : Nat)), z6, z7, y8, y9] H') →
      t D [some (.int (wd : Nat)), some (.ref l), some (.ref qf), some (.ref qt), some (.ref row.1), some (.int (a : Nat)), y6, y7, y8, y9] H1 := by
  have r1 : Room 1 (A.deeper (envOfC "_law_normal" (defScope sNormL) s.heap.objs.size f cdv)) := hr.mono (by decide)
  refine ⟨_, pss_cons (ps_set (i := 6) scNormL.nd rfl (.inl rfl) (pe_ix ix_list (pv 2) (pv 5) (fun _ _ => rfl)))
    (pss_cons (ps_set (i := 7) scNormL.nd rfl (.inl rfl) (pe_op Rs.op_fdivF (pe_ix ix_tup (pv 4) (pv 5) (fun _ _ => rfl)) (pe_callB (call_max2 rfl) (by rfl) B.max boot_max (pa_cons pe_int (pa_cons (pe_callB call_abs (by rfl) B.b.abs boot_abs (pa_cons (pe_ix ix_tup (pv 6) (pv 5) (fun _ _ => rfl)) pa_nil)) pa_nil)))))
    (pss_one (ps_expr (pe_bm PySem.F.plainAttrs_list PySem.F.slot_list_append PySem.F.type_list_append mt_append (pv 3) (pa_cons (pe_call cL.ok r1 (by rfl) cL.g cL.kp cL.b .nil pass0 (pa_cons (pv 4) (pa_cons (pe_call cB.ok r1 (by rfl) cB.g cB.kp cB.b .nil pass0 (pa_cons (pv 6) (pa_cons (pe_ifExp (pt_cmpR op_gt (pe_ix ix_tup (pv 6) (pv 5) (fun _ _ => rfl)) pe_int (nomark _)) (pv 7) (pe_un un_neg (pv 7))) pa_nil))) pa_nil))) pa_nil))))), ?_⟩
  intro D H0 H1 wd a e2 e3 l qf qt F ts row held y6 y7 y8 y9 ft hrow hF ha hw hlr hlh b1 b2 b3 hz c2 c3 h1000 nx
  have hheld := ft.fr a held hF
  have fva : (fl wd F)[a]? = some (.ref held.1) := by
    rw [fl_at ha]
    unfold fv
    rw [hF]
  have hab : atI (held.2.map V.int) (a : Int) = some (.int (held.2.getD a 0)) := row_at (by omega)
  have p2 : 1 ≤ 2 ^ e2 := Nat.pow_pos (by omega)
  have e2s : 2 ^ (e2 + 1) = 2 ^ e2 + 2 ^ e2 := by rw [Nat.pow_succ]; omega
  have dv : (max 1 ((Hm.fn held.2 a).natAbs : Int)) ≠ 0 := by omega
  have dl : (max 1 ((Hm.fn held.2 a).natAbs : Int)).natAbs < 2 ^ (e2 + 1) := by omega
  refine ⟨_, rfl, _, rfl, qf, _, (a : Int), _, rfl, rfl, SqL.of ft.f, atI_nat fva, ?_⟩
  refine ⟨_, rfl, _, rfl, row.1, _, (a : Int), _, rfl, rfl, SqT.of hrow, row_at (by omega), _, rfl, _, rfl, held.1, _, (a : Int), _, rfl, rfl, SqT.of hheld, hab, _, rfl, _, _, rfl, ?_⟩
  rw [mx]
  refine ⟨_, _, rfl, rfl, ⟨dv, Nat.lt_of_lt_of_le (PySem.Flt.log2_lt_of (by omega) dl) (by omega)⟩, ?_⟩
  refine ⟨_, rfl, .inl ⟨rfl, _, SqL.of ft.t⟩, _, rfl, _, rfl, _, rfl, _, rfl, held.1, _, (a : Int), _, rfl, rfl, SqT.of hheld, hab, _, _, rfl, rfl, _, rfl, ?_⟩
  have qb : ((Hm.fn row.2 a).fdiv (max 1 ((Hm.fn held.2 a).natAbs : Int))).natAbs < 2 ^ (e2 + 2) := by
    have h1 := (Hm.rest_sign (x := Hm.fn row.2 a) (l := max 1 ((Hm.fn held.2 a).natAbs : Int)) dv).2.2
    have h2 : 2 ^ (e2 + 2) = 2 ^ (e2 + 1) + 2 ^ (e2 + 1) := by rw [Nat.pow_succ]; omega
    omega
  have hb3 : ∀ y ∈ held.2, y.natAbs < 2 ^ (e3 + 1) := fun y hy => by
    have h1 := fn_mem b3 y hy
    have h2 := Hm.two_pow_lt (show e3 < e3 + 1 by omega)
    omega
  have hc : ∀ t : Int, t.natAbs < 2 ^ (e2 + 2) → ∀ y ∈ held.2, CMulW t y := fun t ht y hy => wide_mul ht (hb3 y hy) (by omega) (by omega) (by omega)
  have out : ∀ (t : Int), t = Hm.tms (Hm.fn row.2 a) (Hm.fn held.2 a) → ∀ (H2 H3 : Hp) (p p3 : Addr), Same H1 H2 → Same H2 H3 → RT H3 (p3, subl row.2 (byl held.2 t)) → H3 qt = some (.lst (rf ts)) ∧ (rf ts).length < sizeLine ∧ FT H0 (upd H3 qt (.lst (rf ts ++ [.ref p3]))) wd qf qt F (ts ++ [(p3, Hm.lsl row.2 held.2 (Hm.tms (Hm.fn row.2 a) (Hm.fn held.2 a)))]) := by
    intro t et H2 H3 p p3 s2 s3 hp3
    have ft3 := (ft.same s2).same s3
    refine ⟨ft3.t, ?_, ?_⟩
    · rw [List.length_map]
      exact Nat.lt_of_le_of_lt h1000 (by decide)
    · have e : rf ts ++ [.ref p3] = rf (ts ++ [(p3, Hm.lsl row.2 held.2 (Hm.tms (Hm.fn row.2 a) (Hm.fn held.2 a)))]) := rf_snoc _ _ _
      rw [e]
      refine ft3.setT fun x hx => ?_
      rcases List.mem_append.mp hx with h | h
      · exact ft3.tr x h
      · obtain rfl := List.mem_singleton.mp h
        rw [subl_byl, et] at hp3
        exact hp3
  have lby : ∀ t : Int, row.2.length = (byl held.2 t).length := fun t => by
    unfold byl
    rw [List.length_map, hlr, hlh]
  by_cases hp : 0 < Hm.fn held.2 a
  · have et : (Hm.fn row.2 a).fdiv (max 1 ((Hm.fn held.2 a).natAbs : Int)) = Hm.tms (Hm.fn row.2 a) (Hm.fn held.2 a) := by
      unfold Hm.tms
      rw [if_pos hp]
    have hp' : (0 : Int) < held.2.getD a 0 := hp
    rw [decide_eq_true hp']
    refine iteT ⟨_, rfl, held, _, rfl, hheld, by omega, hc _ qb, fun H2 p s2 np hp2 => ?_⟩
    refine ⟨row, (p, byl held.2 _), rfl, hrow.same s2, hp2, lby _, by omega, fun H3 p3 s3 np3 hp3 => ?_⟩
    obtain ⟨o1, o2, o3⟩ := out _ et H2 H3 p p3 s2 s3 hp3
    exact ⟨qt, _, _, rfl, rfl, o1, o2, nx _ p3 _ _ o3⟩
  · have et : -((Hm.fn row.2 a).fdiv (max 1 ((Hm.fn held.2 a).natAbs : Int))) = Hm.tms (Hm.fn row.2 a) (Hm.fn held.2 a) := by
      unfold Hm.tms
      rw [if_neg hp]
    have hp' : ¬ (0 : Int) < held.2.getD a 0 := hp
    rw [decide_eq_false hp']
    refine iteF ⟨_, rfl, _, rfl, held, _, rfl, hheld, by omega, hc _ (by rw [Int.natAbs_neg]; exact qb), fun H2 p s2 np hp2 => ?_⟩
    refine ⟨row, (p, byl held.2 _), rfl, hrow.same s2, hp2, lby _, by omega, fun H3 p3 s3 np3 hp3 => ?_⟩
    obtain ⟨o1, o2, o3⟩ := out _ et H2 H3 p p3 s2 s3 hp3
    exact ⟨qt, _, _, rfl, rfl, o1, o2, nx _ p3 _ _ o3⟩
end
end K4
set_option maxRecDepth 100000
set_option maxHeartbeats 2000000
namespace K4
open PySem PySem.Spec PyProof.Rows L2
theorem lessB_is : lessB = lbS 0 :: [lbS 1, lbS 2, lbS 3] := rfl
theorem mb_is : mb = [mbs 0, mbs 1, mbs 2] := rfl
theorem ixN_nat {n a : Nat} (h : a < n) : ixN n ((a : Nat) : Int) = some a := by
  have z : atI (List.range n) ((a : Nat) : Int) = some a := atI_nat (by rw [List.getElem?_range h])
  unfold atI at z
  rw [List.length_range] at z
  cases e : ixN n ((a : Nat) : Int) with
  | none => rw [e] at z; cases z
  | some j =>
    rw [e] at z
    have z : (List.range n)[j]? = some a := z
    have hj := (List.getElem?_eq_some_iff.mp z)
    obtain ⟨h1, h2⟩ := hj
    rw [List.getElem_range] at h2
    rw [h2]
section
variable {P : Program} {w : World} {K : PySem.W.Frag} {mg : Str → Option Value} {base : Heap}
variable {f fF fL fB : Addr} {fdF fdL fdB : FuncData} {A : Around} {outer : List Env} {s : Shared} {H : Hp} {E : XK} {cdv : Value}
/-- what holds at the while -/
def Mv (H0 : Hp) (wd b N : Nat) (R : List (List Int)) (l qf qt : Addr) (m : Nat) (σ : L2.St) (H : Hp) : Prop := ∃ (F : Fa) (ts : List (Addr × List Int)) (y4 y5 y6 y7 y8 y9 : Option V),
  σ = [some (.int (wd : Nat)), some (.ref l), some (.ref qf), some (.ref qt), y4, y5, y6, y7, y8, y9] ∧ FT H0 H wd qf qt F ts ∧ Hm.J wd b N (fd2 F) (rw_ ts) m ∧ Hm.LE wd R (fd2 F) (rw_ ts) ∧ ts.length ≤ 100
theorem mless (B : Bz mg) (cL : Cb P w K mg base CX0 1 "_law_less" ["_law_one", "_law_other"] spLessL fL fdL) (cB : Cb P w K mg base CX0 1 "_law_by" ["_law_one", "_law_times"] spByL fB fdB) (hr : Room 2 (A.deeper (envOfC "_law_normal" (defScope sNormL) s.heap.objs.size f cdv))) :
    ∃ t, PSs (XM P w K mg base f cdv A outer s H E) lessB t ∧ ∀ (D : Ends) (H0 H1 : Hp) (wd a b N m : Nat) (R : List (List Int)) (l qf qt : Addr) (F : Fa) (ts : List (Addr × List Int)) (x y : Addr × List Int) (y6 y7 y8 y9 : Option V),
      FT H0 H1 wd qf qt F ts → RT H1 x → F a = some y → a < wd → wd ≤ 3 → Hm.Beg (Hm.fn x.2) a → Hm.J wd b N (fd2 F) (rw_ ts ++ [x.2]) m → Hm.LE wd R (fd2 F) (rw_ ts ++ [x.2]) → Hm.el b N 2 ≤ 8000 → Hm.el b N 3 ≤ 100000 → ts.length < 100 →
      (∀ σ' H' m', m' < m → Mv H0 wd b N R l qf qt m' σ' H' → D.nx σ' H') →
      t D [some (.int (wd : Nat)), some (.ref l), some (.ref qf), some (.ref qt), some (.ref x.1), some (.int (a : Nat)), y6, y7, y8, y9] H1 := by
  obtain ⟨t1, p1, q1⟩ := mtail (f := f) (cdv := cdv) (outer := outer) (H := H) (E := E) B cL cB hr
  rw [lessB_is]
  refine ⟨_, pss_cons (ps_if (pt_cmpR op_lt (pe_callB call_abs (by rfl) B.b.abs boot_abs (pa_cons (pe_ix ix_tup (pv 4) (pv 5) (fun _ _ => rfl)) pa_nil)) (pe_callB call_abs (by rfl) B.b.abs boot_abs (pa_cons (pe_ix ix_tup (pe_ix ix_list (pv 2) (pv 5) (fun _ _ => rfl)) (pv 5) (fun _ _ => rfl)) pa_nil)) (nomark _))
    (pss_one (ps_asg (pe_tup (pa_cons (pe_ix ix_list (pv 2) (pv 5) (fun _ _ => rfl)) (pa_cons (pv 4) pa_nil))) (pg_tup (by rfl) (pgs_cons (pg_name (i := 4) scNormL.nd rfl (.inl rfl)) (pgs_cons (pg_sub (pv 2) (pv 5) set_list) pgs_nil))))) pss_nil) p1, ?_⟩
  intro D H0 H1 wd a b N m R l qf qt F ts x y y6 y7 y8 y9 ft hx hF ha hw hb j le c2 c3 h100 nx
  have hF2 : fd2 F a = some y.2 := by
    unfold fd2
    rw [hF]
    rfl
  have hy := ft.fr a y hF
  obtain ⟨⟨lx, ly⟩, d1, d2, d3, d4, d5⟩ := Hm.j_bd hw j hb ha hF2
  have fva : (fl wd F)[a]? = some (.ref y.1) := by
    rw [fl_at ha]
    unfold fv
    rw [hF]
  obtain ⟨m', hm', j'⟩ := Hm.j_less hw j hb ha hF2
  have le' := Hm.le_less le ha hF2 lx ly (Hm.tms (Hm.fn (Hm.gtr a x.2 y.2).1 a) (Hm.fn (Hm.gtr a x.2 y.2).2 a))
  refine ⟨_, rfl, _, rfl, x.1, _, (a : Int), _, rfl, rfl, SqT.of hx, row_at (by omega), _, rfl, _, rfl, _, rfl, qf, _, (a : Int), _, rfl, rfl, SqL.of ft.f, atI_nat fva, _, rfl, y.1, _, (a : Int), _, rfl, rfl, SqT.of hy, row_at (by omega), _, rfl, _, _, rfl, rfl, _, rfl, ?_⟩
  rw [abs_nat, abs_nat]
  rcases Hm.gtr_cases a x.2 y.2 with ⟨eg, hlt⟩ | ⟨eg, hle⟩
  · have hd : ((x.2.getD a 0).natAbs : Int) < ((y.2.getD a 0).natAbs : Int) := by
      have : (x.2.getD a 0).natAbs < (y.2.getD a 0).natAbs := hlt
      omega
    rw [decide_eq_true hd]
    refine iteT ?_
    refine ⟨_, rfl, _, rfl, qf, _, (a : Int), _, rfl, rfl, SqL.of ft.f, atI_nat fva, _, rfl, (by show 2 ≤ sizeLine; decide), fun T nT => ?_⟩
    have sT := same_new (o := .tup [.ref y.1, .ref x.1]) nT
    have ft1 := ft.same sT
    refine ⟨T, _, rfl, SqT.of upd_same, rfl, .ref y.1, [.ref x.1], rfl, .ref x.1, [], rfl, _, rfl, _, rfl, qf, _, (a : Int), a, rfl, rfl, ft1.f, by rw [fl_len]; exact ixN_nat ha, ?_⟩
    have ft2 := ft1.setF (hx.same sT) ha
    rw [eg] at j' le'
    refine ⟨rfl, q1 _ H0 _ wd a _ _ l qf qt (putA F a x) ts y x y6 y7 y8 y9 ft2 ((hy.same sT).upd ft1.f) (if_pos rfl) ha hw ly lx d2 d1 d3 hb.2 c2 c3 (by omega) fun H' p z6 z7 ft3 => ?_⟩
    refine nx _ H' m' hm' ⟨putA F a x, _, _, _, _, _, _, _, rfl, ft3, ?_, ?_, ?_⟩
    · rw [fd2_put]
      have e : rw_ (ts ++ [(p, Hm.lsl y.2 x.2 (Hm.tms (Hm.fn y.2 a) (Hm.fn x.2 a)))]) = rw_ ts ++ [Hm.lsl y.2 x.2 (Hm.tms (Hm.fn y.2 a) (Hm.fn x.2 a))] := List.map_append
      rw [e]
      exact j'
    · rw [fd2_put]
      have e : rw_ (ts ++ [(p, Hm.lsl y.2 x.2 (Hm.tms (Hm.fn y.2 a) (Hm.fn x.2 a)))]) = rw_ ts ++ [Hm.lsl y.2 x.2 (Hm.tms (Hm.fn y.2 a) (Hm.fn x.2 a))] := List.map_append
      rw [e]
      exact le'
    · rw [List.length_append, List.length_singleton]
      omega
  · have hd : ¬ ((x.2.getD a 0).natAbs : Int) < ((y.2.getD a 0).natAbs : Int) := by
      have : (y.2.getD a 0).natAbs ≤ (x.2.getD a 0).natAbs := hle
      omega
    rw [decide_eq_false hd]
    refine iteF ?_
    rw [eg] at j' le'
    refine q1 _ H0 _ wd a _ _ l qf qt F ts x y y6 y7 y8 y9 ft hx hF ha hw lx ly d1 d2 d4 d5 c2 c3 (by omega) fun H' p z6 z7 ft3 => ?_
    have ep : Hm.putG (fd2 F) a y.2 = fd2 F := by rw [← fd2_put, putA_same hF]
    have j' : Hm.J wd b N (Hm.putG (fd2 F) a y.2) (rw_ ts ++ [Hm.lsl x.2 y.2 (Hm.tms (Hm.fn x.2 a) (Hm.fn y.2 a))]) m' := j'
    have le' : Hm.LE wd R (Hm.putG (fd2 F) a y.2) (rw_ ts ++ [Hm.lsl x.2 y.2 (Hm.tms (Hm.fn x.2 a) (Hm.fn y.2 a))]) := le'
    rw [ep] at j' le'
    have e : rw_ (ts ++ [(p, Hm.lsl x.2 y.2 (Hm.tms (Hm.fn x.2 a) (Hm.fn y.2 a)))]) = rw_ ts ++ [Hm.lsl x.2 y.2 (Hm.tms (Hm.fn x.2 a) (Hm.fn y.2 a))] := List.map_append
    refine nx _ H' m' hm' ⟨F, _, _, _, _, _, _, _, rfl, ft3, ?_, ?_, ?_⟩
    · rw [e]
      exact j'
    · rw [e]
      exact le'
    · rw [List.length_append, List.length_singleton]
      omega
theorem mbody (B : Bz mg) (cF : Cb P w K mg base CX0 2 "_law_first_at" ["_law_row"] spFirst fF fdF) (cL : Cb P w K mg base CX0 1 "_law_less" ["_law_one", "_law_other"] spLessL fL fdL) (cB : Cb P w K mg base CX0 1 "_law_by" ["_law_one", "_law_times"] spByL fB fdB) (hr : Room 2 (A.deeper (envOfC "_law_normal" (defScope sNormL) s.heap.objs.size f cdv))) :
    ∃ t, PSs (XM P w K mg base f cdv A outer s H E) mb t ∧ ∀ (D : Ends) (H0 H1 : Hp) (wd b N m : Nat) (R : List (List Int)) (l qf qt : Addr) (F : Fa) (ts : List (Addr × List Int)) (y4 y5 y6 y7 y8 y9 : Option V),
      FT H0 H1 wd qf qt F ts → wd ≤ 3 → ts ≠ [] → Hm.J wd b N (fd2 F) (rw_ ts) m → Hm.LE wd R (fd2 F) (rw_ ts) → Hm.el b N 2 ≤ 8000 → Hm.el b N 3 ≤ 100000 → ts.length ≤ 100 →
      (∀ σ' H' m', m' < m → Mv H0 wd b N R l qf qt m' σ' H' → D.nx σ' H') →
      t D [some (.int (wd : Nat)), some (.ref l), some (.ref qf), some (.ref qt), y4, y5, y6, y7, y8, y9] H1 := by
  obtain ⟨t1, p1, q1⟩ := mless (f := f) (cdv := cdv) (outer := outer) (H := H) (E := E) B cL cB hr
  rw [mb_is]
  refine ⟨_, pss_cons (ps_set (i := 4) scNormL.nd rfl (.inl rfl) (pe_bm0 PySem.F.plainAttrs_list PySem.F.slot_list_pop PySem.F.type_list_pop mt_pop (pv 3)))
    (pss_cons (ps_set (i := 5) scNormL.nd rfl (.inr rfl) (pe_call cF.ok hr (by rfl) cF.g cF.kp cF.b .nil pass0 (pa_cons (pv 4) pa_nil)))
    (pss_one (ps_if (PW.pt (pw_and (pt_cmpR op_notN (pv 5) pe_non (nomark _)) (pw_and1 (pt_cmpR op_isN (pe_ix ix_list (pv 2) (pv 5) (fun _ _ => rfl)) pe_non (nomark _)))))
      (pss_one (ps_asg (pv 4) (pg_sub (pv 2) (pv 5) set_list)))
      (pss_one (ps_if (pt_cmpR op_notN (pv 5) pe_non (nomark _)) p1 pss_nil))))), ?_⟩
  intro D H0 H1 wd b N m R l qf qt F ts y4 y5 y6 y7 y8 y9 ft hw hne j le c2 c3 h100 nx
  obtain ⟨ts', x, rfl⟩ : ∃ ts' x, ts = ts' ++ [x] := ⟨ts.dropLast, ts.getLast hne, (List.dropLast_concat_getLast hne).symm⟩
  have er : rw_ (ts' ++ [x]) = rw_ ts' ++ [x.2] := List.map_append
  rw [er] at j le
  rw [List.length_append, List.length_singleton] at h100
  have hx := ft.tr x (List.mem_append_right _ List.mem_cons_self)
  have ef : rf (ts' ++ [x]) = rf ts' ++ [.ref x.1] := List.map_append
  have hd : (rf (ts' ++ [x])).dropLast = rf ts' := by rw [ef, List.dropLast_concat]
  have hl : (rf (ts' ++ [x]))[(rf (ts' ++ [x])).length - 1]? = some (.ref x.1) := by
    rw [ef, List.length_append, List.length_singleton, Nat.add_sub_cancel, List.getElem?_append_right (Nat.le_refl _), Nat.sub_self]
    rfl
  refine ⟨_, rfl, .inl ⟨rfl, _, SqL.of ft.t⟩, qt, _, _, rfl, rfl, ft.t, hl, ?_⟩
  rw [hd]
  have ft1 := ft.setT (ts' := ts') fun y hy => ft.tr y (List.mem_append_left _ hy)
  have hx1 : RT (upd H1 qt (.lst (rf ts'))) x := hx.upd ft.t
  have lx := Hm.j_len j
  refine ⟨_, rfl, x, rfl, hx1, by omega, fun H2 s2 hz => ?_, fun H2 a s2 hb ha => ?_⟩
  · obtain ⟨m', hm', j'⟩ := Hm.j_zero j hz
    refine ⟨_, rfl, rfl, _, rfl, iteF ?_⟩
    refine ⟨_, rfl, rfl, _, rfl, iteF ?_⟩
    exact nx _ H2 m' hm' ⟨F, ts', _, _, _, _, _, _, rfl, ft1.same s2, j', Hm.le_zero le hz, by omega⟩
  · rw [lx] at ha
    have ft2 := ft1.same s2
    have hx2 := hx1.same s2
    refine ⟨_, rfl, rfl, _, rfl, iteT ?_⟩
    cases hF : F a with
    | none =>
      have hF2 : fd2 F a = none := by
        unfold fd2
        rw [hF]
        rfl
      have fva : (fl wd F)[a]? = some .non := by
        rw [fl_at ha]
        unfold fv
        rw [hF]
      obtain ⟨m', hm', j'⟩ := Hm.j_put j hb ha hF2
      refine ⟨_, rfl, _, rfl, qf, _, (a : Int), _, rfl, rfl, SqL.of ft2.f, atI_nat fva, rfl, _, rfl, iteT ?_⟩
      refine ⟨_, rfl, _, rfl, _, rfl, qf, _, (a : Int), a, rfl, rfl, ft2.f, by rw [fl_len]; exact ixN_nat ha, ?_⟩
      refine nx _ _ m' hm' ⟨putA F a x, ts', _, _, _, _, _, _, rfl, ft2.setF hx2 ha, ?_, ?_, by omega⟩
      · rw [fd2_put]
        exact j'
      · rw [fd2_put]
        exact Hm.le_put le ha hF2
    | some y =>
      have fva : (fl wd F)[a]? = some (.ref y.1) := by
        rw [fl_at ha]
        unfold fv
        rw [hF]
      refine ⟨_, rfl, _, rfl, qf, _, (a : Int), _, rfl, rfl, SqL.of ft2.f, atI_nat fva, rfl, _, rfl, iteF ?_⟩
      refine ⟨_, rfl, rfl, _, rfl, iteT ?_⟩
      exact q1 _ H0 H2 wd a b N m R l qf qt F ts' x y _ _ _ _ ft2 hx2 hF ha hw hb j le c2 c3 (by omega) nx
end
end K4
set_option maxRecDepth 100000
set_option maxHeartbeats 2000000
namespace K4
open PySem PySem.Spec PyProof.Rows L2
def fb : List Stmt := forBody (sm 3)
abbrev fbi : List Stmt := ifBody (fb.getD 0 (.Pass ⟨0, 0, 0, 0⟩))
theorem fb_is : fb = [fb.getD 0 (.Pass ⟨0, 0, 0, 0⟩)] := rfl
theorem sm_is : defBody sNormL = [sm 0, sm 1, sm 2, sm 3, sm 4] := rfl
theorem fn_byl (r : List Int) : Hm.fn (byl r (-1)) = Hm.neg (Hm.fn r) := by
  funext j
  show (r.map (-1 * ·)).getD j 0 = -1 * r.getD j 0
  rw [List.getD_eq_getElem?_getD, List.getD_eq_getElem?_getD, List.getElem?_map]
  cases r[j]? with
  | none => rfl
  | some x => rfl
/-- a row of steps before column i, with numbers below 2 ^ ((e + 2) * i) -/
def Sb (wd e i : Nat) (r : List Int) : Prop := r.length = wd ∧ ∀ j, (Hm.fn r j).natAbs < 2 ^ ((e + 2) * i)
theorem sb_red {wd e i : Nat} {r l : List Int} (h : Sb wd e i r) (hl : l.length = wd) (pos : 0 < Hm.fn l i) (hb : ∀ j, (Hm.fn l j).natAbs ≤ 2 ^ e) : Sb wd e (i + 1) (Hm.redL i l r) := by
  have ef : Hm.fn (Hm.redL i l r) = Hm.ls (Hm.fn r) (Hm.fn l) (Hm.fn r i / Hm.fn l i) := by
    unfold Hm.redL
    rw [Hm.fn_lsl (by rw [h.1, hl])]
    rfl
  refine ⟨Hm.lsl_len h.1 hl _, fun j => ?_⟩
  rw [ef]
  have h1 := h.2 j
  have h2 := h.2 i
  have h3 := hb j
  have hq : (Hm.fn r i / Hm.fn l i).natAbs ≤ (Hm.fn r i).natAbs + 1 := by
    have := (Hm.rest_sign (x := Hm.fn r i) (l := Hm.fn l i) (by omega)).2.2
    rw [Int.fdiv_eq_ediv_of_nonneg _ (by omega)] at this
    exact this
  have h4 : (Hm.fn r i / Hm.fn l i * Hm.fn l j).natAbs ≤ 2 ^ ((e + 2) * i) * 2 ^ e := by
    rw [Int.natAbs_mul]
    exact Nat.mul_le_mul (by omega) h3
  show (Hm.fn r j - Hm.fn r i / Hm.fn l i * Hm.fn l j).natAbs < _
  rw [← Nat.pow_add] at h4
  have h7 : 2 ^ ((e + 2) * i) ≤ 2 ^ ((e + 2) * i + e) := Nat.pow_le_pow_right (by omega) (by omega)
  have h8 : 2 ^ ((e + 2) * (i + 1)) = 2 ^ ((e + 2) * i + e) * 4 := by
    rw [Nat.mul_succ, ← Nat.add_assoc, Nat.pow_add _ _ 2]
  have h9 : 0 < 2 ^ ((e + 2) * i + e) := Nat.pow_pos (by omega)
  omega
theorem sb_new {wd e i : Nat} {l : List Int} (hl : l.length = wd) (hb : ∀ j, (Hm.fn l j).natAbs ≤ 2 ^ e) : Sb wd e (i + 1) l := ⟨hl, fun j => by
  have h1 := hb j
  have h2 := Hm.two_pow_lt (show e < (e + 2) * (i + 1) by rw [Nat.mul_succ]; omega)
  omega⟩
theorem mx1 {x : Int} (h : 0 < x) : (if x > 1 then x else 1) = x := by
  split <;> omega
section
variable {P : Program} {w : World} {K : PySem.W.Frag} {mg : Str → Option Value} {base : Heap}
variable {f fF fL fB : Addr} {fdF fdL fdB : FuncData} {A : Around} {outer : List Env} {s : Shared} {H : Hp} {E : XK} {cdv : Value}
/-- the new steps -/
theorem sset (B : Bz mg) (cL : Cb P w K mg base CX0 1 "_law_less" ["_law_one", "_law_other"] spLessL fL fdL) (cB : Cb P w K mg base CX0 1 "_law_by" ["_law_one", "_law_times"] spByL fB fdB) (hr : Room 2 (A.deeper (envOfC "_law_normal" (defScope sNormL) s.heap.objs.size f cdv))) :
    ∃ t, PS (XM P w K mg base f cdv A outer s H E) (fbi.getD 1 (.Pass ⟨0, 0, 0, 0⟩)) t ∧ ∀ (D : Ends) (H1 : Hp) (wd a e : Nat) (qs : Addr) (ys : List (Addr × List Int)) (x : Addr × List Int) (y0 y1 y2 y3 y4 y6 y7 : Option V),
      RL H1 qs ys → RT H1 x → a < wd → wd ≤ 3 → x.2.length = wd → 0 < Hm.fn x.2 a → (∀ j, (Hm.fn x.2 j).natAbs ≤ 2 ^ e) → (Hm.fn x.2 a).natAbs < 2 ^ 8001 → e ≤ 100000 → (∀ r ∈ rw_ ys, Sb wd e a r) → ys.length ≤ 3 →
      (∀ (H' : Hp) (p : Addr) (zs : List (Addr × List Int)), Same H1 H' → H1 p = none → RL H' p (zs ++ [x]) → rw_ zs = (rw_ ys).map (Hm.redL a x.2) → D.nx [y0, y1, y2, y3, y4, some (.int (a : Nat)), y6, y7, some (.ref p), some (.ref x.1)] H') →
      t D [y0, y1, y2, y3, y4, some (.int (a : Nat)), y6, y7, some (.ref qs), some (.ref x.1)] H1 := by
  have r1 : Room 1 (A.deeper (envOfC "_law_normal" (defScope sNormL) s.heap.objs.size f cdv)) := hr.mono (by decide)
  refine ⟨_, ps_set (i := 8) scNormL.nd rfl (.inl rfl) (pe_op op_cat (pe_lc (own := [("_law_row", 4)]) (g := gName 4) (tt := tYes)
      (te := tCall spLessL [] E0 (tCons (tVar 4) (tCons (tCall spByL [] E0 (tCons (tVar 9) (tCons (tOp (rI (fun _ j => j ≠ 0 ∧ j.natAbs.log2 < 9000) fun i j => .int (i.fdiv j)) (tOp (rIxT K) (tVar 4) (tVar 5)) (tCB (fun xs H Q => ∃ i j, xs = [.int i, .int j] ∧ Q (.int (if j > i then j else i)) H) (tCons (tC (.int 1)) (tCons (tOp (rIxT K) (tVar 9) (tVar 5)) tNil)))) tNil))) tNil)))
      rfl scNormL.nd (pi_list (pv 8))
      (blkOk_by (N := NM) (sc := defScope sNormL) (by decide +kernel)) (fun _ _ _ _ _ => pg_name (i := 4) scNormL.nd rfl (Or.inl rfl)) (fun _ _ _ _ _ => pts_nil)
      (fun _ _ _ _ _ => pe_call cL.ok r1 (by rfl) cL.g cL.kp cL.b .nil pass0 (pa_cons (pv 4) (pa_cons (pe_call cB.ok r1 (by rfl) cB.g cB.kp cB.b .nil pass0 (pa_cons (pv 9) (pa_cons (pe_op Rs.op_fdivF (pe_ix ix_tup (pv 4) (pv 5) (fun _ _ => rfl)) (pe_callB (call_max2 rfl) (by rfl) B.max boot_max (pa_cons pe_int (pa_cons (pe_ix ix_tup (pv 9) (pv 5) (fun _ _ => rfl)) pa_nil)))) pa_nil))) pa_nil))))
    (pe_lst (pa_cons (pv 9) pa_nil))), ?_⟩
  intro D H1 wd a e qs ys x y0 y1 y2 y3 y4 y6 y7 hR hx ha hw hlen hpos hbd h8 he hSb h3 nx
  refine ⟨_, rfl, qs, rfl, ⟨_, SqL.of hR.lst⟩, fun D2 nD2 => ?_⟩
  refine lc_rows (e := fun x : Addr × List Int => V.ref x.1) (walk_list (K := K) (a := qs))
    (te := tCall spLessL [] E0 (tCons (tVar 4) (tCons (tCall spByL [] E0 (tCons (tVar 9) (tCons (tOp (rI (fun _ j => j ≠ 0 ∧ j.natAbs.log2 < 9000) fun i j => .int (i.fdiv j)) (tOp (rIxT K) (tVar 4) (tVar 5)) (tCB (fun xs H Q => ∃ i j, xs = [.int i, .int j] ∧ Q (.int (if j > i then j else i)) H) (tCons (tC (.int 1)) (tCons (tOp (rIxT K) (tVar 9) (tVar 5)) tNil)))) tNil))) tNil)))
    (σ := [y0, y1, y2, y3, y4, some (.int (a : Nat)), y6, y7, some (.ref qs), some (.ref x.1)]) (i := 4) (fun r => Hm.redL a x.2 r.2) (Nat.lt_of_le_of_lt h3 (by decide)) nD2 (fun H2 s2 => SqL.of (s2 _ _ hR.lst)) ?_ ?_
  · intro r H2 Q hr2 s2 hQ
    have hS2 := hSb r.2 (rw_mem hr2)
    have hrr := (hR.row r hr2).same s2
    have hxr := hx.same s2
    refine ⟨_, rfl, _, rfl, _, rfl, _, rfl, r.1, _, (a : Int), _, rfl, rfl, SqT.of hrr, row_at (by rw [hS2.1]; exact ha), _, rfl, _, rfl, x.1, _, (a : Int), _, rfl, rfl, SqT.of hxr, row_at (by rw [hlen]; exact ha), _, _, rfl, ?_⟩
    have hp' : (0 : Int) < x.2.getD a 0 := hpos
    rw [mx1 hp']
    refine ⟨_, _, rfl, rfl, ⟨by omega, ?_⟩, x, (Hm.fn r.2 a).fdiv (Hm.fn x.2 a), rfl, hxr, by omega, ?_, fun H3 p3 s3 np3 hp3 => ⟨r, (p3, byl x.2 ((Hm.fn r.2 a).fdiv (Hm.fn x.2 a))), rfl, hrr.same s3, hp3, ?_, by rw [hS2.1]; exact hw, fun H4 p4 s4 np4 hp4 => hQ H4 p4 (s3.trans s4) ?_⟩⟩
    · exact Nat.lt_of_lt_of_le (PySem.Flt.log2_lt_of (by omega) h8) (by omega)
    · intro y hy
      have hq : ((Hm.fn r.2 a).fdiv (Hm.fn x.2 a)).natAbs < 2 ^ ((e + 2) * a + 1) := by
        have h1 := (Hm.rest_sign (x := Hm.fn r.2 a) (l := Hm.fn x.2 a) (by omega)).2.2
        have h2 := hS2.2 a
        have h4 : 2 ^ ((e + 2) * a + 1) = 2 ^ ((e + 2) * a) + 2 ^ ((e + 2) * a) := by rw [Nat.pow_succ]; omega
        have h5 : 1 ≤ 2 ^ ((e + 2) * a) := Nat.pow_pos (by omega)
        omega
      have hy2 : y.natAbs < 2 ^ (e + 1) := Nat.lt_of_le_of_lt (fn_mem hbd y hy) (Hm.two_pow_lt (by omega))
      have hm2 : (e + 2) * a ≤ 300000 := Nat.le_trans (Nat.mul_le_mul (show e + 2 ≤ 100002 by omega) (show a ≤ 2 by omega)) (by decide)
      exact wide_mul hq hy2 (by omega) (by omega) (by omega)
    · show r.2.length = (byl x.2 _).length
      unfold byl
      rw [List.length_map, hS2.1, hlen]
    · have hp4 : RT H4 (p4, subl r.2 (byl x.2 ((Hm.fn r.2 a).fdiv (Hm.fn x.2 a)))) := hp4
      rw [subl_byl, Int.fdiv_eq_ediv_of_nonneg _ (by omega)] at hp4
      exact hp4
  · intro H2 zs s2 hR2 hz
    refine ⟨_, rfl, (by show 1 ≤ sizeLine; decide), fun p1 np1 => ?_⟩
    have s3 := same_new (o := .lst [.ref x.1]) np1
    refine ⟨D2, p1, _, _, rfl, rfl, s3 _ _ hR2.lst, upd_same, ?_, fun p np => ?_⟩
    · have h1 : (rw_ zs).length = (ys.map fun r => Hm.redL a x.2 r.2).length := by rw [hz]
      rw [List.length_map, List.length_map] at h1
      rw [List.length_map]
      exact Nat.le_trans (show zs.length + 1 ≤ 4 by omega) (by decide)
    · have s4 := same_new (o := .lst (rf zs ++ [.ref x.1])) np
      refine nx _ p zs ((s2.trans s3).trans s4) ((s2.trans s3).free np) ⟨?_, fun y hy2 => ?_⟩ ?_
      · rw [upd_same]
        exact congrArg (fun z => some (HO.lst z)) (List.map_append (l₁ := zs) (l₂ := [x]) (f := fun x : Addr × List Int => V.ref x.1)).symm
      · rcases List.mem_append.mp hy2 with h | h
        · exact ((hR2.row y h).same s3).same s4
        · obtain rfl := List.mem_singleton.mp h
          exact hx.same ((s2.trans s3).trans s4)
      · rw [hz, List.map_map]
        rfl
end
end K4
set_option maxRecDepth 100000
set_option maxHeartbeats 2000000
namespace K4
open PySem PySem.Spec PyProof.Rows L2
theorem fbi_is : fbi = [fbi.getD 0 (.Pass ⟨0, 0, 0, 0⟩), fbi.getD 1 (.Pass ⟨0, 0, 0, 0⟩)] := rfl
theorem rep_none (w : Nat) : (List.replicate w [V.non]).flatten = fl w (fun _ => none) := by
  refine List.ext_getElem? fun i => ?_
  have e : (List.replicate w [V.non]).flatten = List.replicate w V.non := by
    induction w with
    | zero => rfl
    | succ w ih =>
      rw [List.replicate_succ, List.flatten_cons, ih]
      rfl
  rw [e]
  by_cases hi : i < w
  · rw [fl_at hi, List.getElem?_replicate_of_lt hi]
    rfl
  · rw [List.getElem?_eq_none (by rw [List.length_replicate]; omega), List.getElem?_eq_none (by rw [fl_len]; omega)]
def spNormL : Sp := fun vs H Q _ => ∃ (l : Addr) (rs : List (Addr × List Int)) (w b N : Nat), vs = [.int (w : Nat), .ref l] ∧ RL H l rs ∧ w ≤ 3 ∧ rs.length ≤ N ∧ rs.length ≤ 100 ∧ (∀ r ∈ rw_ rs, Hm.Ok w b r) ∧ Hm.el b N 2 ≤ 8000 ∧ Hm.el b N 3 ≤ 100000 ∧
  ∀ (H' : Hp) (q : Addr) (ys : List (Addr × List Int)) (R0 rest : List (List Int)), Same H H' → H q = none → RL H' q ys → Hm.Nrm w w R0 (rw_ ys) rest → Hm.Eqs (Hm.In ((rw_ rs).map Hm.fn)) (Hm.In (R0.map Hm.fn)) → ys.length ≤ w → Q (.ref q) H'
section
variable {P : Program} {w : World} {K : PySem.W.Frag} {mg : Str → Option Value} {base : Heap}
variable {f fF fL fB : Addr} {fd fdF fdL fdB : FuncData} {A : Around} {outer : List Env} {s : Shared} {H : Hp} {E : XK} {cdv : Value}
/-- what holds at column i of the steps -/
def Sv (H0 : Hp) (wd e : Nat) (l qf qt : Addr) (F : Fa) (i : Nat) (σ : L2.St) (H : Hp) : Prop := ∃ (qs : Addr) (ys : List (Addr × List Int)) (y4 y5 y6 y7 y9 : Option V),
  σ = [some (.int (wd : Nat)), some (.ref l), some (.ref qf), some (.ref qt), y4, y5, y6, y7, some (.ref qs), y9] ∧ FT H0 H wd qf qt F [] ∧ H0 qs = none ∧ RL H qs ys ∧ Hm.Nrm wd i (Hm.frw wd (fd2 F) 0) (rw_ ys) (Hm.frw wd (fd2 F) i) ∧ (∀ r ∈ rw_ ys, Sb wd e i r) ∧ ys.length ≤ i
theorem fbody (B : Bz mg) (cL : Cb P w K mg base CX0 1 "_law_less" ["_law_one", "_law_other"] spLessL fL fdL) (cB : Cb P w K mg base CX0 1 "_law_by" ["_law_one", "_law_times"] spByL fB fdB) (hr : Room 2 (A.deeper (envOfC "_law_normal" (defScope sNormL) s.heap.objs.size f cdv))) :
    ∃ t, PSs (XM P w K mg base f cdv A outer s H E) fb t ∧ ∀ (D : Ends) (H0 H1 : Hp) (wd i b N : Nat) (l qf qt qs : Addr) (F : Fa) (ys : List (Addr × List Int)) (y4 y6 y7 y9 : Option V),
      FT H0 H1 wd qf qt F [] → H0 qs = none → RL H1 qs ys → Hm.Nrm wd i (Hm.frw wd (fd2 F) 0) (rw_ ys) (Hm.frw wd (fd2 F) i) → (∀ r ∈ rw_ ys, Sb wd (Hm.el b N 3) i r) → ys.length ≤ i → i < wd → wd ≤ 3 → (∀ c h, fd2 F c = some h → Hm.FB wd b N c N h) → Hm.el b N 2 ≤ 8000 → Hm.el b N 3 ≤ 100000 →
      (∀ σ' H', Sv H0 wd (Hm.el b N 3) l qf qt F (i + 1) σ' H' → D.nx σ' H') →
      t D [some (.int (wd : Nat)), some (.ref l), some (.ref qf), some (.ref qt), y4, some (.int (i : Nat)), y6, y7, some (.ref qs), y9] H1 := by
  obtain ⟨t1, p1, q1⟩ := sset (f := f) (cdv := cdv) (outer := outer) (H := H) (E := E) B cL cB hr
  have r1 : Room 1 (A.deeper (envOfC "_law_normal" (defScope sNormL) s.heap.objs.size f cdv)) := hr.mono (by decide)
  rw [fb_is]
  refine ⟨_, pss_one (ps_if (pt_cmpR op_notN (pe_ix ix_list (pv 2) (pv 5) (fun _ _ => rfl)) pe_non (nomark _))
    (show PSs _ fbi _ by
      rw [fbi_is]
      exact pss_cons (ps_set (i := 9) scNormL.nd rfl (.inr rfl) (pe_ifExp (pt_cmpR op_gt (pe_ix ix_tup (pe_ix ix_list (pv 2) (pv 5) (fun _ _ => rfl)) (pv 5) (fun _ _ => rfl)) pe_int (nomark _)) (pe_ix ix_list (pv 2) (pv 5) (fun _ _ => rfl))
        (pe_call cB.ok r1 (by rfl) cB.g cB.kp cB.b .nil pass0 (pa_cons (pe_ix ix_list (pv 2) (pv 5) (fun _ _ => rfl)) (pa_cons (pe_un un_neg pe_int) pa_nil))))) (pss_one p1)) pss_nil), ?_⟩
  intro D H0 H1 wd i b N l qf qt qs F ys y4 y6 y7 y9 ft nqs hR hN hSb hyi hi hw hFB c2 c3 nx
  cases hF : F i with
  | none =>
    have hF2 : fd2 F i = none := by
      unfold fd2
      rw [hF]
      rfl
    have fva : (fl wd F)[i]? = some .non := by
      rw [fl_at hi]
      unfold fv
      rw [hF]
    refine ⟨_, rfl, _, rfl, qf, _, (i : Int), _, rfl, rfl, SqL.of ft.f, atI_nat fva, rfl, _, rfl, iteF ?_⟩
    refine nx _ H1 ⟨qs, ys, _, _, _, _, _, rfl, ft, nqs, hR, Hm.nrm_step0 hFB hN hi hF2, fun r hr => ?_, by omega⟩
    have z := hSb r hr
    exact ⟨z.1, fun j => Nat.lt_of_lt_of_le (z.2 j) (Nat.pow_le_pow_right (by omega) (Nat.mul_le_mul_left _ (by omega)))⟩
  | some x =>
    have hF2 : fd2 F i = some x.2 := by
      unfold fd2
      rw [hF]
      rfl
    have fva : (fl wd F)[i]? = some (.ref x.1) := by
      rw [fl_at hi]
      unfold fv
      rw [hF]
    have hx := ft.fr i x hF
    have fbx := hFB i x.2 hF2
    have lx := fbx.len
    have at_ : atI (x.2.map V.int) (i : Int) = some (.int (x.2.getD i 0)) := row_at (by omega)
    have e3 : ∀ j, (Hm.fn x.2 j).natAbs ≤ 2 ^ Hm.el b N 3 := fun j => by
      rcases Nat.lt_trichotomy j i with h | h | h
      · rw [fbx.beg.1 j h]
        exact Nat.zero_le _
      · rw [h]
        exact Nat.le_trans fbx.lead (Hm.pw (Hm.el_le (by omega)))
      · exact Nat.le_trans (fbx.bd j h) (Hm.pw (Nat.le_trans (Hm.ek_top (Nat.le_refl _)) (Hm.el_le (by omega))))
    have e8 : (Hm.fn x.2 i).natAbs < 2 ^ 8001 := Nat.lt_of_le_of_lt (Nat.le_trans fbx.lead (Hm.pw (Nat.le_trans (Hm.el_le (show i ≤ 2 by omega)) c2))) (Hm.two_pow_lt (by omega))
    refine ⟨_, rfl, _, rfl, qf, _, (i : Int), _, rfl, rfl, SqL.of ft.f, atI_nat fva, rfl, _, rfl, iteT ?_⟩
    refine ⟨_, rfl, _, rfl, qf, _, (i : Int), _, rfl, rfl, SqL.of ft.f, atI_nat fva, _, rfl, x.1, _, (i : Int), _, rfl, rfl, SqT.of hx, at_, _, _, rfl, rfl, _, rfl, ?_⟩
    have go : ∀ (H2 : Hp) (l' : Addr × List Int), Same H1 H2 → RT H2 l' → l'.2.length = wd → Hm.fn l'.2 = Hm.sgd (Hm.fn x.2) i → t1 D [some (.int (wd : Nat)), some (.ref l), some (.ref qf), some (.ref qt), y4, some (.int (i : Nat)), y6, y7, some (.ref qs), some (.ref l'.1)] H2 := by
      intro H2 l' s2 hl' ll el
      have ab : ∀ j, (Hm.fn l'.2 j).natAbs = (Hm.fn x.2 j).natAbs := fun j => by
        rw [el]
        unfold Hm.sgd
        split
        · rfl
        · show (-1 * Hm.fn x.2 j).natAbs = _
          omega
      have pos : 0 < Hm.fn l'.2 i := by
        rw [el]
        unfold Hm.sgd
        have hz := fbx.beg.2
        split
        · assumption
        · show 0 < -1 * Hm.fn x.2 i
          omega
      refine q1 D H2 wd i (Hm.el b N 3) qs ys l' _ _ _ _ _ _ _ (hR.same s2) hl' hi hw ll pos (fun j => by rw [ab]; exact e3 j) (by rw [ab]; exact e8) c3 hSb (by omega) fun H3 p zs s3 np hR3 hz => ?_
      have er : rw_ (zs ++ [l']) = (rw_ ys).map (Hm.redL i l'.2) ++ [l'.2] := by
        rw [← hz]
        exact List.map_append
      refine nx _ H3 ⟨p, zs ++ [l'], _, _, _, _, _, rfl, (ft.same s2).same s3, ((ft.sm.trans s2)).free np, hR3, ?_, ?_, ?_⟩
      · rw [er]
        exact Hm.nrm_step1 hFB hN hi hF2 ll el
      · intro r hr
        rw [er] at hr
        rcases List.mem_append.mp hr with h | h
        · obtain ⟨r0, h0, rfl⟩ := List.mem_map.mp h
          exact sb_red (hSb r0 h0) ll pos (fun j => by rw [ab]; exact e3 j)
        · obtain rfl := List.mem_singleton.mp h
          exact sb_new ll (fun j => by rw [ab]; exact e3 j)
      · have h1 : (rw_ (zs ++ [l'])).length = ((rw_ ys).map (Hm.redL i l'.2) ++ [l'.2]).length := by rw [er]
        rw [List.length_map, List.length_append, List.length_append, List.length_map, List.length_map, List.length_singleton, List.length_singleton] at h1
        rw [List.length_append, List.length_singleton]
        omega
    by_cases hp : 0 < Hm.fn x.2 i
    · have hp' : (0 : Int) < x.2.getD i 0 := hp
      rw [decide_eq_true hp']
      refine iteT ⟨_, rfl, _, rfl, qf, _, (i : Int), _, rfl, rfl, SqL.of ft.f, atI_nat fva, ?_⟩
      refine go H1 x (Same.refl _) hx lx ?_
      unfold Hm.sgd
      rw [if_pos hp]
    · have hp' : ¬ (0 : Int) < x.2.getD i 0 := hp
      rw [decide_eq_false hp']
      refine iteF ⟨_, rfl, _, rfl, qf, _, (i : Int), _, rfl, rfl, SqL.of ft.f, atI_nat fva, _, rfl, x, -1, rfl, hx, by omega, fun y hy => ?_, fun H2 p s2 np hp2 => ?_⟩
      · have hy2 : y.natAbs < 2 ^ (Hm.el b N 3 + 1) := Nat.lt_of_le_of_lt (fn_mem e3 y hy) (Hm.two_pow_lt (by omega))
        exact wide_mul (a := 1) (by decide) hy2 (by omega) (by omega) (by omega)
      · refine go H2 (p, byl x.2 (-1)) s2 hp2 ?_ ?_
        · show (byl x.2 (-1)).length = wd
          unfold byl
          rw [List.length_map]
          exact lx
        · show Hm.fn (byl x.2 (-1)) = _
          rw [fn_byl]
          unfold Hm.sgd
          rw [if_neg hp]
theorem ok_norml (FN : Fun K "_law_normal" "_law_normal" sNormL f fd) (B : Bz mg) (cF : Cb P w K mg base CX0 2 "_law_first_at" ["_law_row"] spFirst fF fdF) (cL : Cb P w K mg base CX0 1 "_law_less" ["_law_one", "_law_other"] spLessL fL fdL) (cB : Cb P w K mg base CX0 1 "_law_by" ["_law_one", "_law_times"] spByL fB fdB) :
    FnOk P w K mg base CX0 3 f fd ["_law_width_z", "_law_rows_z"] spNormL := by
  refine FN.ok scNormL (fun vs H Q E h => ?_) (fun cdv A outer s H vs Q E hr h => ?_)
  · obtain ⟨l, rs, wd, b, N, rfl, _⟩ := h
    rfl
  · obtain ⟨l, rs, wd, b, N, rfl, hR, hw, hN, h100, hOk, c2, c3, q⟩ := h
    obtain ⟨t1, p1, q1⟩ := mbody (f := f) (cdv := cdv) (outer := outer) (H := H) (E := E) B cF cL cB hr
    obtain ⟨t3, p3, q3⟩ := fbody (f := f) (cdv := cdv) (outer := outer) (H := H) (E := E) B cL cB hr
    refine ⟨_, pss_cons (ps_par (i := 2) (j := 3) (by rfl) scNormL.nd rfl rfl (by decide) rfl rfl (pa_cons (pe_op op_rep (pe_lst (pa_cons pe_non pa_nil)) (pv 0)) (pa_cons (pe_callTy call_list_of (by rfl) B.b.list boot_list (pa_cons (pv 1) pa_nil)) pa_nil)) (by rfl))
      (pss_cons (ps_while PassesOwn.never (pt_cmpR (op_neD hr.units) (pv 3) (pe_lst pa_nil) (nomark _)) p1)
      (pss_cons (ps_set (i := 8) scNormL.nd rfl (.inl rfl) (pe_lst pa_nil))
      (pss_cons (ps_for PassesOwn.never rfl (pi_range1 (by rfl) B.b.range (pa_cons (pv 0) pa_nil)) (pg_name (i := 5) scNormL.nd rfl (Or.inr rfl)) p3)
      (pss_one (ps_ret (pv 8)))))), ?_⟩
    refine ⟨(by show 1 ≤ sizeLine; decide), fun p0 np0 => ⟨_, rfl, p0, _, _, rfl, rfl, upd_same, by omega, by omega, ?_, fun qf nqf => ?_⟩⟩
    · show 1 * ((wd : Nat) : Int).toNat ≤ sizeLine
      exact Nat.le_trans (show 1 * wd ≤ 3 by omega) (by decide)
    rw [show ((wd : Nat) : Int).toNat = wd from rfl, rep_none]
    have s0 := same_new (o := .lst [.non]) np0
    have s1 := same_new (o := .lst (fl wd fun _ => none)) nqf
    have hR1 := (hR.same s0).same s1
    refine ⟨_, rfl, l, _, rfl, .inl (SqL.of hR1.lst), fun qt nqt => ?_⟩
    have s2 := same_new (o := .lst (rf rs)) nqt
    refine ⟨_, _, rfl, ?_⟩
    have nf0 : H qf = none := s0.free nqf
    have nt0 : H qt = none := (s0.trans s1).free nqt
    have nft : qf ≠ qt := fun z => by
      rw [← z, upd_same] at nqt
      cases nqt
    have ft0 : FT H (upd (upd (upd H p0 (.lst [.non])) qf (.lst (fl wd fun _ => none))) qt (.lst (rf rs))) wd qf qt (fun _ => none) rs := by
      refine ⟨(s0.trans s1).trans s2, nf0, nt0, nft, ?_, upd_same, (fun c x h => nomatch h), fun x hx => (hR1.row x hx).same s2⟩
      rw [upd_ne nft]
      exact upd_same
    have j0 : Hm.J wd b N (fd2 fun _ => none) (rw_ rs) ((rw_ rs).length * (5 * Hm.XX b N) + 4 * Hm.XX b N) := Hm.j_start hOk (by rw [List.length_map]; exact hN)
    refine while_m (Mv H wd b N (rw_ rs) l qf qt) ⟨fun _ => none, rs, none, none, none, none, none, none, rfl, ft0, j0, Hm.le_start wd _, h100⟩ ?_ ?_
    · rintro m σ H1 ⟨F, ts, y4, y5, y6, y7, y8, y9, rfl, ft, j, le, hl⟩
      refine ⟨_, rfl, (by show 0 ≤ sizeLine; decide), fun p np => ?_⟩
      have s3 := same_new (o := .lst []) np
      have ft3 := ft.same s3
      refine ⟨dRs (rw_ ts), dRs [], .lst (SqL.of ft3.t) (dp_rowsL ts ft3.tr), .lst (SqL.of upd_same) .nil, shaped_rows _, shaped_rows _, _, rfl, ?_⟩
      rw [eqv_rows]
      cases ts with
      | nil =>
        refine iteF ?_
        have hFB := Hm.j_end j
        have hEq := Hm.le_end le
        refine ⟨(by show 0 ≤ sizeLine; decide), fun qs nqs => ⟨_, rfl, (wd : Int), rfl, by omega, by omega, ?_⟩⟩
        have s4 := same_new (o := .lst []) nqs
        refine for_it (walk_range (lo := 0) (n := (wd : Int).toNat)) (fun i σ H2 => Sv H wd (Hm.el b N 3) l qf qt F i σ H2) ⟨qs, [], _, _, _, _, _, rfl, ft3.same s4, ft3.sm.free nqs, ⟨upd_same, fun x hx => nomatch hx⟩, Hm.nrm0 hFB, (fun r hr => nomatch hr), Nat.le_refl _⟩ (fun _ _ _ _ _ => trivial) ?_ ?_
        · rintro i x σ H2 H2' hi ⟨qs2, ys2, z4, z5, z6, z7, z9, rfl, ft4, nq2, hR4, hN4, hS4, hy4⟩ ⟨rfl, rfl⟩
          have e : (0 : Int) + (i : Nat) = (i : Nat) := by omega
          show t3 _ [some (.int (wd : Nat)), some (.ref l), some (.ref qf), some (.ref qt), z4, some (.int (0 + (i : Nat))), z6, z7, some (.ref qs2), z9] H2'
          rw [e]
          exact q3 _ H H2' wd i b N l qf qt qs2 F ys2 z4 z6 z7 z9 ft4 nq2 hR4 hN4 hS4 hy4 hi hw hFB c2 c3 fun σ' H' h => h
        · rintro σ H2 ⟨qs2, ys2, z4, z5, z6, z7, z9, rfl, ft4, nq2, hR4, hN4, hS4, hy4⟩
          refine ⟨_, rfl, ?_⟩
          exact q H2 qs2 ys2 _ _ ft4.sm nq2 hR4 hN4 hEq hy4
      | cons x ts =>
        refine iteT ?_
        exact q1 _ H _ wd b N m (rw_ rs) l qf qt F (x :: ts) y4 y5 y6 y7 y8 y9 ft3 hw (List.cons_ne_nil _ _) j le c2 c3 hl fun σ' H' m' hm' hM => ⟨m', hm', hM⟩
    · intro σ H1 Q1 Q2 hQ h
      obtain ⟨v, hv, hz, g⟩ := h
      refine ⟨v, hv, hz, fun p np => ?_⟩
      obtain ⟨d, e, h1, h2, h3, h4, k, e2, q⟩ := g p np
      exact ⟨d, e, h1, h2, h3, h4, k, e2, hQ _ _ q⟩
end
end K4
namespace Hm
/-- as many rows as columns: the row with the index c begins in column c -/
theorem fm_full {α : Type} (G : Nat → Option α) : ∀ n, ((List.range n).filterMap G).length = n → ∀ c, c < n → ∃ r, G c = some r ∧ ((List.range n).filterMap G)[c]? = some r := by
  intro n
  induction n with
  | zero => intro _ c hc; omega
  | succ n ih =>
    intro h c hc
    rw [List.range_succ, List.filterMap_append] at h ⊢
    have l1 : ((List.range n).filterMap G).length ≤ n := by
      have := List.length_filterMap_le G (List.range n)
      rw [List.length_range] at this
      exact this
    cases hG : G n with
    | none =>
      rw [List.length_append] at h
      simp [hG] at h
      omega
    | some x =>
      rw [List.length_append] at h
      have e1 : (List.filterMap G [n]) = [x] := by simp [hG]
      rw [e1] at h ⊢
      rw [List.length_singleton] at h
      have l2 : ((List.range n).filterMap G).length = n := by omega
      by_cases e : c = n
      · subst e
        refine ⟨x, hG, ?_⟩
        rw [List.getElem?_append_right (by omega), l2, Nat.sub_self]
        rfl
      · obtain ⟨r, g1, g2⟩ := ih l2 c (by omega)
        refine ⟨r, g1, ?_⟩
        rw [List.getElem?_append_left (by omega)]
        exact g2
theorem nrm_full {w : Nat} {R found rest : List (List Int)} (h : Nrm w w R found rest) (hl : found.length = w) : ∀ c, c < w → ∃ r, found[c]? = some r ∧ Beg (fn r) c ∧ r.length = w := by
  obtain ⟨G, g1, g2, g3⟩ := h.ex
  intro c hc
  rw [g2] at hl ⊢
  obtain ⟨r, e1, e2⟩ := fm_full G w hl c hc
  refine ⟨r, e2, ?_, g1 c r e1⟩
  have := g3.ech.z c (fn r) (by unfold ofG; rw [e1]; rfl)
  exact this
end Hm
set_option maxRecDepth 100000
set_option maxHeartbeats 2000000
namespace K4
open PySem PySem.Spec PyProof.Rows L2
def dgl (rows : List (List Int)) (c : Nat) : Int := (rows.getD c []).getD c 0
def mnl (w : Nat) (rows : List (List Int)) : V := if rows.length < w then .non else .int (prod ((List.range w).map (dgl rows)))
theorem prod_lt2 {xs : List Int} {B : Nat} (h : ∀ x ∈ xs, x.natAbs < 2 ^ B) : ∀ i, i ≤ xs.length → (prod (xs.take i)).natAbs < 2 ^ (B * i + 1) := by
  intro i
  induction i with
  | zero =>
    intro _
    show (1 : Int).natAbs < 2
    decide
  | succ i ih =>
    intro hi
    have hx : xs[i]? = some xs[i] := List.getElem?_eq_getElem hi
    rw [prod_more hx]
    have z := wide_lt (ih (by omega)) (h _ (List.mem_of_getElem? hx))
    rw [show B * i + 1 + B = B * (i + 1) + 1 by rw [Nat.mul_succ]; omega] at z
    exact z
def spIndexL : Sp := fun vs H Q _ => ∃ (l : Addr) (ys : List (Addr × List Int)) (w : Nat), vs = [.ref l, .int (w : Nat)] ∧ RL H l ys ∧ w ≤ 3 ∧ (∀ r ∈ rw_ ys, r.length = w ∧ ∀ y ∈ r, y.natAbs < 2 ^ 100000) ∧ Q (mnl w (rw_ ys)) H
section
variable {P : Program} {w : World} {K : PySem.W.Frag} {mg : Str → Option Value} {base : Heap}
theorem ok_indexl {f : Addr} {fd : FuncData} {k : Nat} (F : Fun K "_law_index" "_law_index" sIndexL f fd) (B : Bz mg) : FnOk P w K mg base CX0 (k + 1) f fd ["_law_rows_z", "_law_width_z"] spIndexL := by
  refine F.ok scIndexL (fun vs H Q E h => ?_) (fun cdv A outer s H vs Q E hr h => ?_)
  · obtain ⟨l, ys, wd, rfl, _⟩ := h
    rfl
  · obtain ⟨l, ys, wd, rfl, hR, hw, hb, q⟩ := h
    refine ⟨_, pss_cons (ps_if (pt_cmpR op_lt (pe_callB call_len_seq (by rfl) B.b.len PySem.boot_len (pa_cons (pv 0) pa_nil)) (pv 1) (nomark _)) (pss_one (ps_ret pe_non)) pss_nil)
      (pss_cons (ps_set (i := 2) scIndexL.nd rfl (.inl rfl) pe_int)
      (pss_cons (ps_for PassesOwn.never rfl (pi_range1 (by rfl) B.b.range (pa_cons (pv 1) pa_nil)) (pg_name (i := 3) scIndexL.nd rfl (Or.inl rfl)) (pss_one (ps_set (i := 2) scIndexL.nd rfl (.inl rfl) (pe_op op_mulW (pv 2) (pe_ix ix_tup (pe_ix ix_list (pv 0) (pv 3) (fun _ _ => rfl)) (pv 3) (fun _ _ => rfl))))))
      (pss_one (ps_ret (pv 2))))), ?_⟩
    refine ⟨_, rfl, l, _, rfl, .inl (SqL.of hR.lst), _, rfl, _, _, rfl, rfl, _, rfl, ?_⟩
    rw [List.length_map]
    unfold mnl at q
    rw [List.length_map] at q
    by_cases hlt : ys.length < wd
    · rw [decide_eq_true (by omega : (ys.length : Int) < (wd : Int))]
      refine iteT ?_
      rw [if_pos hlt] at q
      exact q
    · rw [decide_eq_false (by omega : ¬ (ys.length : Int) < (wd : Int))]
      refine iteF ?_
      rw [if_neg hlt] at q
      have dg : ∀ c, c < wd → ∃ y, ys[c]? = some y ∧ dgl (rw_ ys) c = y.2.getD c 0 ∧ c < y.2.length := by
        intro c hc
        have hcl : c < ys.length := by omega
        refine ⟨ys[c], List.getElem?_eq_getElem hcl, ?_, ?_⟩
        · unfold dgl
          rw [List.getD_eq_getElem?_getD (l := rw_ ys), List.getElem?_map, List.getElem?_eq_getElem hcl]
          rfl
        · rw [(hb _ (rw_mem (List.getElem_mem hcl))).1]
          exact hc
      have bd : ∀ x ∈ (List.range wd).map (dgl (rw_ ys)), x.natAbs < 2 ^ 100000 := by
        intro x hx
        obtain ⟨c, hc, rfl⟩ := List.mem_map.mp hx
        obtain ⟨y, h1, h2, h3⟩ := dg c (List.mem_range.mp hc)
        rw [h2, List.getD_eq_getElem?_getD, List.getElem?_eq_getElem h3]
        exact (hb _ (rw_mem (List.mem_of_getElem? h1))).2 _ (List.getElem_mem h3)
      refine ⟨_, rfl, (wd : Int), rfl, by omega, by omega, ?_⟩
      rw [show ((wd : Nat) : Int).toNat = wd from rfl]
      refine for_it (walk_range (lo := 0) (n := wd)) (fun i σ H2 => ∃ y3 : Option V, σ = [some (.ref l), some (.int (wd : Nat)), some (.int (prod (((List.range wd).map (dgl (rw_ ys))).take i))), y3] ∧ H2 = H) ⟨none, rfl, rfl⟩ (fun _ _ _ _ _ => trivial) ?_ ?_
      · rintro i x σ H2 H2' hi ⟨y3, rfl, rfl⟩ ⟨rfl, rfl⟩
        have ei : (0 : Int) + (i : Nat) = (i : Nat) := by omega
        obtain ⟨y, h1, h2, h3⟩ := dg i hi
        have g1 : atI (rf ys) ((0 : Int) + (i : Nat)) = some (.ref y.1) := by
          rw [ei]
          refine atI_nat ?_
          rw [List.getElem?_map, h1]
          rfl
        have g2 : atI (y.2.map V.int) ((0 : Int) + (i : Nat)) = some (.int (y.2.getD i 0)) := by
          rw [ei]
          exact row_at h3
        have gd : ((List.range wd).map (dgl (rw_ ys)))[i]? = some (y.2.getD i 0) := by
          rw [List.getElem?_map, List.getElem?_range hi, ← h2]
          rfl
        refine ⟨_, rfl, _, rfl, _, rfl, l, _, _, _, rfl, rfl, SqL.of hR.lst, g1, _, rfl, y.1, _, _, _, rfl, rfl, SqT.of (hR.row y (List.mem_of_getElem? h1)), g2, _, _, rfl, rfl, ?_, some (.int (0 + (i : Nat))), ?_, rfl⟩
        · have z := prod_lt2 bd i (by rw [List.length_map, List.length_range]; omega)
          exact wide_mul z (bd _ (List.mem_of_getElem? gd)) (by omega) (by omega) (by omega)
        · rw [prod_more gd]
          rfl
      · rintro σ H2 ⟨y3, rfl, rfl⟩
        refine ⟨_, rfl, ?_⟩
        rw [List.take_of_length_le (by rw [List.length_map, List.length_range]; exact Nat.le_refl _)]
        exact q
end
def spRowsL : Sp := fun vs H Q _ => ∃ (b m : Addr) (w many : Nat) (size : Int), vs = [.ref b, .int (w : Nat), .int (many : Nat), .int size] ∧ Bx H b m ∧ w ≤ 3 ∧ many ≤ 1000 ∧ 0 < size ∧ size ≤ 1000000000000 ∧
  ∀ (H' : Hp) (q : Addr) (rs : List (Addr × List Int)), BxGo H H' b m → H q = none → RL H' q rs → rs.length ≤ many → (∀ r ∈ rw_ rs, r.length = w ∧ ∀ y ∈ r, y.natAbs ≤ size.natAbs) → Q (.ref q) H'
section
variable {P : Program} {w : World} {K : PySem.W.Frag} {mg : Str → Option Value} {base : Heap}
theorem ok_rowsl {f fD : Addr} {fd fdD : FuncData} {k : Nat} (F : Fun K "_law_rows" "_law_rows" sRowsL f fd) (B : Bz mg) (cD : Cb P w K mg base CX0 (k + 1) "_law_draw" ["_law_box", "_law_many"] spDraw fD fdD) : FnOk P w K mg base CX0 (k + 2) f fd ["_law_box", "_law_width_z", "_law_many", "_law_size"] spRowsL := by
  refine F.ok scRowsL (fun vs H Q E h => ?_) (fun cdv A outer s H vs Q E hr h => ?_)
  · obtain ⟨b, m, wd, many, size, rfl, _⟩ := h
    rfl
  · obtain ⟨b, m, wd, many, size, rfl, hB, hw, hm, h1, h2, q⟩ := h
    refine ⟨_, pss_cons (ps_set (i := 4) scRowsL.nd rfl (.inl rfl) (pe_lst pa_nil))
      (pss_cons (ps_for PassesOwn.never rfl (pi_range1 (by rfl) B.b.range (pa_cons (pe_call cD.ok hr (by rfl) cD.g cD.kp cD.b .nil pass0 (pa_cons (pv 0) (pa_cons (pe_op op_add (pv 2) pe_int) pa_nil))) pa_nil)) (pg_name (i := 5) scRowsL.nd rfl (Or.inl rfl))
        (pss_one (ps_expr (pe_bm PySem.F.plainAttrs_list PySem.F.slot_list_append PySem.F.type_list_append mt_append (pv 4) (pa_cons (pe_callTy call_tuple_of (by rfl) B.b.tuple boot_tuple (pa_cons (pe_lc (own := [("_law_k", 6)]) (g := gName 6) (tt := tYes)
          (te := tOp (rI0 fun i j => .int (i - j)) (tCall spDraw [] E0 (tCons (tVar 0) (tCons (tOp (rI0 fun i j => .int (i + j)) (tOp (rI CMul fun i j => .int (i * j)) (tC (.int 2)) (tVar 3)) (tC (.int 1))) tNil))) (tVar 3))
          rfl scRowsL.nd (pi_range1 (by rfl) B.b.range (pa_cons (pv 1) pa_nil))
          (blkOk_by (N := ["_law_box", "_law_width_z", "_law_many", "_law_size", "_law_found", "_law_turn", "_law_k"]) (sc := defScope sRowsL) (by decide +kernel)) (fun _ _ _ _ _ => pg_name (i := 6) scRowsL.nd rfl (Or.inl rfl)) (fun _ _ _ _ _ => pts_nil)
          (fun _ _ _ _ _ => pe_op op_sub (pe_call cD.ok hr (by rfl) cD.g cD.kp cD.b .nil pass0 (pa_cons (pv 0) (pa_cons (pe_op op_add (pe_op op_mul pe_int (pv 3)) pe_int) pa_nil))) (pv 3))) pa_nil)) pa_nil)))))
      (pss_one (ps_ret (pv 4)))), ?_⟩
    refine ⟨(by show 0 ≤ sizeLine; decide), fun q0 nq0 => ?_⟩
    have s0 := same_new (o := .lst []) nq0
    have nb : q0 ≠ b := hB.ne nq0
    refine ⟨_, rfl, _, rfl, _, _, rfl, rfl, b, m, _, rfl, hB.same s0, by omega, by omega, fun d H1 d0 d1 hT => ⟨d, rfl, by omega, by omega, ?_⟩⟩
    have hG1 : BxGo H H1 b m := (BxGo.of hB s0).trans hT.go
    have hq1 : H1 q0 = some (.lst []) := hT.go.2 _ _ nb upd_same
    refine for_it (walk_range (lo := 0) (n := d.toNat)) (fun i σ H2 => ∃ (y5 : Option V) (rs : List (Addr × List Int)), σ = [some (.ref b), some (.int (wd : Nat)), some (.int (many : Nat)), some (.int size), some (.ref q0), y5, none] ∧ BxGo H H2 b m ∧ RL H2 q0 rs ∧ rs.length = i ∧ ∀ r ∈ rw_ rs, r.length = wd ∧ ∀ y ∈ r, y.natAbs ≤ size.natAbs) ⟨none, [], rfl, hG1, ⟨hq1, fun x hx => nomatch hx⟩, rfl, fun r hr => nomatch hr⟩ (fun _ _ _ _ _ => trivial) ?_ ?_
    · rintro i x σ H2 H2' hi ⟨y5, rs, rfl, hG, hR, hi2, hok⟩ ⟨rfl, rfl⟩
      refine ⟨_, rfl, .inl ⟨rfl, _, SqL.of hR.lst⟩, _, rfl, (wd : Int), rfl, by omega, by omega, fun D nD => ?_⟩
      rw [show ((wd : Nat) : Int).toNat = wd from rfl]
      have hB2 := hG.1
      have Db : D ≠ b := hB2.ne nD
      have Dm : D ≠ m := hB2.neM nD
      refine lc_it (walk_range (lo := 0) (n := wd)) (fun j H3 => ∃ xs : List Int, BxGo H2' H3 b m ∧ H3 D = some (.lst (xs.map V.int)) ∧ xs.length = j ∧ ∀ y ∈ xs, y.natAbs ≤ size.natAbs) ⟨[], BxGo.of hB2 (same_new nD), upd_same, rfl, fun y hy => nomatch hy⟩ (fun _ _ _ _ => trivial) ?_ ?_
      · rintro j v H3 H3' hj ⟨xs, hG3, hD, hl, hbd⟩ ⟨rfl, rfl⟩
        refine ⟨rfl, ?_⟩
        dsimp only [tYes]
        rw [if_pos rfl]
        refine ⟨_, rfl, _, rfl, _, _, rfl, rfl, .inl ⟨by decide, by decide⟩, _, _, rfl, rfl, b, m, _, rfl, hG3.1, by omega, by omega, fun e H4 e0 e1 hT4 => ⟨_, rfl, _, _, rfl, rfl, _, hT4.go.2 _ _ Db hD, ?_, xs ++ [e - size], ?_, ?_, ?_, ?_⟩⟩
        · rw [List.length_map]
          exact Nat.lt_of_le_of_lt (show xs.length ≤ 3 by omega) (by decide)
        · refine ⟨(hT4.1).upd Db Dm, fun x o hx ho => ?_⟩
          rw [upd_ne (ne_of_none ho nD)]
          exact hT4.go.2 _ _ hx (hG3.2 _ _ hx ho)
        · rw [upd_same, List.map_append]
          rfl
        · rw [List.length_append, List.length_singleton, hl]
        · intro y hy
          rcases List.mem_append.mp hy with h | h
          · exact hbd y h
          · obtain rfl := List.mem_singleton.mp h
            omega
      · rintro H3 ⟨xs, hG3, hD, hl, hbd⟩
        refine ⟨D, _, rfl, .inl ⟨SqL.of hD, fun p np => ?_⟩⟩
        have s4 := same_new (o := .tup (xs.map V.int)) np
        have hR4 : RL (upd H3 p (.tup (xs.map V.int))) q0 rs := ⟨s4 _ _ (hG3.2 _ _ nb hR.lst), fun y hy => s4 _ _ (hG3.2 _ _ (fun z => by
          have h5 := hR.row y hy
          obtain ⟨ms, i1, i2, i3, hb5, _⟩ := hB2
          unfold RT at h5
          rw [z, hb5] at h5
          cases h5) (hR.row y hy))⟩
        refine ⟨q0, _, _, rfl, rfl, hR4.lst, ?_, _, rs ++ [(p, xs)], rfl, ?_, ⟨?_, ?_⟩, ?_, ?_⟩
        · rw [List.length_map]
          exact Nat.lt_of_le_of_lt (show rs.length ≤ 1000 by omega) (by decide)
        · have nq : H q0 = none := nq0
          have hGp : BxGo H (upd H3 p (.tup (xs.map V.int))) b m := (hG.trans hG3).trans (BxGo.of hG3.1 s4)
          refine ⟨hGp.1.upd nb (fun z => ?_), fun x o hx ho => ?_⟩
          · exact (hB.neM nq) z
          · rw [upd_ne (ne_of_none ho nq)]
            exact hGp.2 _ _ hx ho
        · rw [upd_same]
          exact congrArg (fun z => some (HO.lst z)) (rf_snoc rs p xs)
        · intro y hy
          rcases List.mem_append.mp hy with h | h
          · exact (hR4.row y h).upd hR4.lst
          · obtain rfl := List.mem_singleton.mp h
            exact (show RT (upd H3 p (.tup (xs.map V.int))) (p, xs) from upd_same).upd hR4.lst
        · rw [List.length_append, List.length_singleton, hi2]
        · intro r hr
          have e : rw_ (rs ++ [(p, xs)]) = rw_ rs ++ [xs] := List.map_append
          rw [e] at hr
          rcases List.mem_append.mp hr with h | h
          · exact hok r h
          · obtain rfl := List.mem_singleton.mp h
            exact ⟨hl, hbd⟩
    · rintro σ H2 ⟨y5, rs, rfl, hG, hR, hi2, hok⟩
      exact ⟨_, rfl, q H2 q0 rs hG nq0 hR (by omega) hok⟩
end
end K4
set_option maxRecDepth 100000
set_option maxHeartbeats 2000000
namespace K4
open PySem PySem.Spec PyProof.Rows L2
/-- a table at x, its rows at q -/
structure TJ (C : Addr) (H : Hp) (x : Addr) (w : Nat) (q : Addr) (fs : List (Addr × List Int)) : Prop where
  ins : ∃ dx, H x = some (.ins C dx (flds w q (rw_ fs)))
  rl : RL H q fs
theorem TJ.ti {C : Addr} {H : Hp} {x : Addr} {w : Nat} {q : Addr} {fs : List (Addr × List Int)} (h : TJ C H x w q fs) : TI C H x w fs := by
  obtain ⟨dx, e⟩ := h.ins
  exact ⟨dx, q, e, h.rl⟩
theorem TJ.ext {C : Addr} {H H' : Hp} {x : Addr} {w : Nat} {q : Addr} {fs : List (Addr × List Int)} (h : TJ C H x w q fs) (e : LamX.ExtN H H') : TJ C H' x w q fs := by
  obtain ⟨dx, h1⟩ := h.ins
  exact ⟨⟨dx, e _ _ h1 (fun ps z => nomatch z)⟩, h.rl.ext e⟩
/-- what the making of a table is asked for and tells -/
def MkT (K : PySem.W.Frag) (C : Addr) (T : List (Addr × Str)) (H : Hp) (l : Addr) (wd : Nat) (Q : VK) : Prop := ∃ (rs : List (Addr × List Int)) (b n : Nat), RI K H l rs ∧ LamX.Tabs T H ∧ 1 ≤ wd ∧ wd ≤ 3 ∧ 1 ≤ b ∧ 25 * b + 6 * n + 6 ≤ 1200 ∧ rs.length ≤ n ∧ (∀ r ∈ rw_ rs, Rk wd 0 b r) ∧
  ∀ (H' : Hp) (x q : Addr) (fs : List (Addr × List Int)) (rest : List (List Int)), LamX.ExtN H H' → LamX.Tabs T H' → New H q → TJ C H' x wd q fs → (∀ r ∈ rw_ fs, Hm.Fd wd b n wd r) → Hm.Nrm wd wd (rw_ rs) (rw_ fs) rest → fs.length ≤ wd → Q (.ref x) H'
theorem mk_read {K : PySem.W.Frag} {C : Addr} {T : List (Addr × Str)} {H : Hp} {l : Addr} {wd : Nat} {Q : VK} {E : XK} (h : MkT K C T H l wd Q) : ∀ x dx, H x = none → H dx = none → dx ≠ x → spInit K C T [.ref x, .int (wd : Nat), .ref l] (upd (upd H dx (.own x)) x (.ins C dx [])) (fun v H2 => v = .non ∧ Q (.ref x) H2) E := by
  intro x dx nx ndx ne
  obtain ⟨rs, b, n, hI, hT, h1, h3, hb, cap, hn, hk, q⟩ := h
  have s1 : Same H (upd (upd H dx (.own x)) x (.ins C dx [])) := fun a o e => by
    rw [upd_ne (ne_of_none e nx), upd_ne (ne_of_none e ndx)]
    exact e
  refine ⟨x, dx, l, rs, wd, b, n, rfl, upd_same, hI.ext (.of s1), hT.ext s1, h1, h3, hb, cap, hn, hk, ?_⟩
  intro H' qn fs rest st tb nw hx hR hFd hN hl
  have eX : LamX.ExtN H H' := fun a o e ht => st a o (ne_of_none e nx) (s1 _ _ e) ht
  exact ⟨rfl, q H' x qn fs rest eX tb (New.ext (.of s1) nw) ⟨⟨dx, hx⟩, hR⟩ hFd hN hl⟩
/-- numbers of the index -/
def sumTo (e : Nat → Nat) : Nat → Nat
  | 0 => 0
  | i + 1 => sumTo e i + e i
theorem prod_le {xs : List Int} {e : Nat → Nat} (h : ∀ i x, xs[i]? = some x → x.natAbs ≤ 2 ^ e i) : ∀ i, i ≤ xs.length → (prod (xs.take i)).natAbs ≤ 2 ^ sumTo e i := by
  intro i
  induction i with
  | zero =>
    intro _
    show (1 : Int).natAbs ≤ 1
    decide
  | succ i ih =>
    intro hi
    have hx : xs[i]? = some xs[i] := List.getElem?_eq_getElem hi
    rw [prod_more hx, Int.natAbs_mul]
    show _ ≤ 2 ^ (sumTo e i + e i)
    rw [Nat.pow_add]
    exact Nat.mul_le_mul (ih (by omega)) (h i _ hx)
theorem prod_bd {w b n : Nat} {R fs rest : List (List Int)} (hFd : ∀ r ∈ fs, Hm.Fd w b n w r) (hN : Hm.Nrm w w R fs rest) (hw : w ≤ 3) (hl : fs.length = w) : (prod (fs.map ldr)).natAbs ≤ 2 ^ (31 * b + 7 * n + 7) := by
  have full := Hm.nrm_full hN hl
  have h1 : ∀ i x, (fs.map ldr)[i]? = some x → x.natAbs ≤ 2 ^ Hm.bb b n i := by
    intro i x hx
    rw [List.getElem?_map] at hx
    obtain ⟨r, hr, rfl⟩ := Option.map_eq_some_iff.mp hx
    have hi : i < w := by
      have := (List.getElem?_eq_some_iff.mp hr).1
      omega
    obtain ⟨r', e1, bg, lr⟩ := full i hi
    rw [hr] at e1
    obtain rfl := Option.some.inj e1
    obtain ⟨c, hc, bc, g3, g4⟩ := (hFd r (List.mem_of_getElem? hr)).beg
    obtain rfl := Hm.beg_uniq bg bc
    have el : ldr r = Hm.fn r i := by
      unfold ldr
      rw [gI_of ⟨by omega, bg.2, bg.1⟩]
      rfl
    rw [el]
    exact g4
  have z := prod_le h1 (fs.map ldr).length (Nat.le_refl _)
  rw [List.take_length, List.length_map, hl] at z
  refine Nat.le_trans z (Nat.pow_le_pow_right (by omega) ?_)
  match w, hw with
  | 0, _ => show 0 ≤ _; omega
  | 1, _ => show 0 + b ≤ _; omega
  | 2, _ => show 0 + b + (5 * b + n + 1) ≤ _; omega
  | 3, _ => show 0 + b + (5 * b + n + 1) + (5 * (5 * b + n + 1) + n + 1) ≤ _; omega
theorem mny_bd {w b n : Nat} {R fs rest : List (List Int)} (hFd : ∀ r ∈ fs, Hm.Fd w b n w r) (hN : Hm.Nrm w w R fs rest) (hw : w ≤ 3) (hl : fs.length ≤ w) (cap : 31 * b + 7 * n + 8 < 1920) : ∀ m, mny w fs = .int m → m.natAbs.log2 < 1920 := by
  intro m hm
  unfold mny at hm
  by_cases h : fs.length < w
  · rw [if_pos h] at hm
    cases hm
  · rw [if_neg h] at hm
    injection hm with hm
    have z := prod_bd hFd hN hw (by omega)
    rw [hm] at z
    have z2 : m.natAbs < 2 ^ (31 * b + 7 * n + 8) := Nat.lt_of_le_of_lt z (Hm.two_pow_lt (by omega))
    exact Nat.lt_of_lt_of_le (PySem.Flt.log2_lt_of (by omega) z2) (by omega)
/-- the index, both ways -/
theorem idx_same {w : Nat} {R rows rest : List (List Int)} (h : Hm.Nrm w w R rows rest) (hl : rows.length ≤ w) : mny w rows = mnl w rows := by
  unfold mny mnl
  by_cases hlt : rows.length < w
  · rw [if_pos hlt, if_pos hlt]
  · rw [if_neg hlt, if_neg hlt]
    have el : rows.length = w := by omega
    have full := Hm.nrm_full h el
    congr 2
    refine List.ext_getElem? fun c => ?_
    rw [List.getElem?_map, List.getElem?_map]
    by_cases hc : c < w
    · obtain ⟨r, e1, bg, lr⟩ := full c hc
      rw [e1, List.getElem?_range hc]
      show some (ldr r) = some (dgl rows c)
      congr 1
      have bl : BegL r c := ⟨by omega, bg.2, bg.1⟩
      unfold ldr dgl
      rw [gI_of bl, List.getD_eq_getElem?_getD (l := rows), e1]
      rfl
    · rw [List.getElem?_eq_none (by omega), List.getElem?_eq_none (by rw [List.length_range]; omega)]
      rfl
end K4
set_option maxRecDepth 100000
set_option maxHeartbeats 2000000
namespace K4
open PySem PySem.Spec PyProof.Rows L2
abbrev NL : List Str := ["_law_script", "_law_box", "_law_turn", "_law_width_z", "_law_rows_z", "_law_due", "_law_handed", "_law_made", "_law_size", "_law_word", "_law_other", "_law_more", "_law_one"]
theorem scLaw : FnScope NL ["_law_script"] (defScope sLaw) := ⟨rfl, rfl, rfl, by decide +kernel, rfl, by decide +kernel, by decide +kernel⟩
abbrev XL (P : Program) (w : World) (K : PySem.W.Frag) (mg : Str → Option Value) (base : Heap) (f : Addr) (cdv : Value) (A : Around) (outer : List Env) (s : Shared) (H : Hp) (E : XK) : Cx := (cxOf CX0 P w K mg base NL "law" (defScope sLaw) f cdv A outer s H E).nox
def lb : List Stmt := forBody ((defBody sLaw).getD 1 (.Pass ⟨0, 0, 0, 0⟩))
abbrev ls (i : Nat) : Stmt := lb.getD i (.Pass ⟨0, 0, 0, 0⟩)
theorem lb_is : lb = [ls 0, ls 1, ls 2, ls 3, ls 4, ls 5, ls 6, ls 7, ls 8, ls 9, ls 10, ls 11, ls 12, ls 13] := rfl
def swp {α : Type} : List α → List α → List α
  | [x], [r, w] => [x, w, r]
  | _, _ => []
/-- what the law calls -/
structure Lc (P : Program) (w : World) (K : PySem.W.Frag) (mg : Str → Option Value) (base : Heap) : Type where
  C : Addr
  T : List (Addr × Str)
  e0 : Addr
  (fBeg fD fA fRl fNl fIx fSa fUn fAd fBy fI fR fE fP pw gw pz gz : Addr)
  (fdBeg fdD fdA fdRl fdNl fdIx fdSa fdUn fdAd fdBy fdI fdR fdE fdP fdw fdz : FuncData)
  ds : List Value
  g : List Value → List Value → List Value
  B : Bz mg
  cBeg : Cb P w K mg base CX0 1 "_law_begin" ["_law_script"] (spBegin K) fBeg fdBeg
  cD : Cb P w K mg base CX0 1 "_law_draw" ["_law_box", "_law_many"] spDraw fD fdD
  cA : Cb P w K mg base CX0 2 "_law_any" ["_law_box", "_law_some"] spAny fA fdA
  cRl : Cb P w K mg base CX0 2 "_law_rows" ["_law_box", "_law_width_z", "_law_many", "_law_size"] spRowsL fRl fdRl
  cNl : Cb P w K mg base CX0 3 "_law_normal" ["_law_width_z", "_law_rows_z"] spNormL fNl fdNl
  cIx : Cb P w K mg base CX0 1 "_law_index" ["_law_rows_z", "_law_width_z"] spIndexL fIx fdIx
  cS3 : Cb P w K mg base CX0 4 "_law_same" ["_law_found", "_law_due"] (spSame 3) fSa fdSa
  cS0 : Cb P w K mg base CX0 1 "_law_same" ["_law_found", "_law_due"] (spSame 0) fSa fdSa
  cUn : Cb P w K mg base CX0 1 "_law_unit" ["_law_width_z", "_law_at"] spUnitL fUn fdUn
  cAd : Cb P w K mg base CX0 1 "_law_add" ["_law_one", "_law_other"] spAddL fAd fdAd
  cBy : Cb P w K mg base CX0 1 "_law_by" ["_law_one", "_law_times"] spByL fBy fdBy
  TC : TCls K C
  gC : mg "Table" = some (.ref C)
  M : Mk K C fI
  GI : FnOk P w K mg base CX0 6 fI fdI ["self", "width", "rows"] (spInit K C T)
  bI : Binds K fdI ["self", "width", "rows"] []
  bI0 : Binds K fdI ["self", "width", "rows"] ds
  vI0 : Vals [V.ref e0] ds
  sq0 : ∀ H : Hp, SqT K H e0 []
  kI : KBn K fdI ["self", "width", "rows"] 1 ["rows", "width"] g swp
  MR : Meth K C "rows" fR
  GR : FnOk P w K mg base CX0 1 fR fdR ["self"] (spRows C)
  bR : Binds K fdR ["self"] []
  GE : FnOk P w K mg base CX0 2 fE fdE ["self", "other"] (Rs.spEqB (EqT C))
  EC : Rs.EqCls K C fE
  bE : Binds K fdE ["self", "other"] []
  GP : FnOk P w K mg base CX0 1 fP fdP ["self"] (spRepr C)
  rP : PySem.W.findIn K (.ref C) "__repr__" = some (some (.ref fP))
  nP : PySem.W.isFn K (.ref fP) = true
  bP : Binds K fdP ["self"] []
  pW : PropOf K C "width" pw gw
  GW : FnOk P w K mg base CX0 1 gw fdw ["self"] (getSp C "wide")
  bW : Binds K fdw ["self"] []
  pZ : PropOf K C "size" pz gz
  GZ : FnOk P w K mg base CX0 1 gz fdz ["self"] (getSp C "many")
  bZ : Binds K fdz ["self"] []
theorem tabs_go {T : List (Addr × Str)} {H H' : Hp} {b m : Addr} (t : LamX.Tabs T H) (hB : Bx H b m) (g : BxGo H H' b m) : LamX.Tabs T H' := by
  intro p hp
  obtain ⟨ms, i, r, s, hb, _⟩ := hB
  obtain ⟨ps, h1, h2, h3⟩ := t p hp
  refine ⟨ps, g.2 _ _ (fun e => ?_) h1, h2, fun pos cv hc => ?_⟩
  · rw [e, hb] at h1
    cases h1
  · obtain ⟨c, e1, e2⟩ := h3 pos cv hc
    refine ⟨c, e1, g.2 _ _ (fun e => ?_) e2⟩
    rw [e, hb] at e2
    cases e2
theorem bx_ext {H H' : Hp} {b m : Addr} (x : Bx H b m) (e : LamX.ExtN H H') : Bx H' b m := by
  obtain ⟨ms, i, r, s, h1, h2, h3⟩ := x
  exact ⟨ms, i, r, s, e _ _ h1 (fun ps z => nomatch z), e _ _ h2 (fun ps z => nomatch z), h3⟩
structure Zz (T : List (Addr × Str)) (b m : Addr) (H : Hp) : Prop where
  bx : Bx H b m
  tb : LamX.Tabs T H
theorem Zz.same {T : List (Addr × Str)} {b m : Addr} {H H' : Hp} (z : Zz T b m H) (s : Same H H') : Zz T b m H' := ⟨z.bx.same s, z.tb.ext s⟩
theorem Zz.go {T : List (Addr × Str)} {b m : Addr} {H H' : Hp} (z : Zz T b m H) (g : BxGo H H' b m) : Zz T b m H' := ⟨g.1, tabs_go z.tb z.bx g⟩
theorem RT.go {H H' : Hp} {b m : Addr} {x : Addr × List Int} (h : RT H x) (hB : Bx H b m) (g : BxGo H H' b m) : RT H' x := by
  obtain ⟨ms, i, r, s, hb, _⟩ := hB
  exact g.2 _ _ (h.ne hb) h
theorem RL.go {H H' : Hp} {b m q : Addr} {rs : List (Addr × List Int)} (h : RL H q rs) (hB : Bx H b m) (g : BxGo H H' b m) (hq : q ≠ b) : RL H' q rs := ⟨g.2 _ _ hq h.lst, fun x hx => (h.row x hx).go hB g⟩
/-- the rows of the law: at most five, with numbers up to 10 ^ 12 -/
def Rz (wd : Nat) (rs : List (List Int)) : Prop := rs.length ≤ 5 ∧ ∀ r ∈ rs, r.length = wd ∧ ∀ y ∈ r, y.natAbs ≤ 1000000000000
theorem rz_fn {r : List Int} {B : Nat} (h : ∀ y ∈ r, y.natAbs ≤ B) : ∀ j, (Hm.fn r j).natAbs ≤ B := by
  intro j
  unfold Hm.fn
  rw [List.getD_eq_getElem?_getD]
  cases e : r[j]? with
  | none => exact Nat.zero_le _
  | some y => exact h y (List.mem_of_getElem? e)
theorem p40 : 1000000000000 ≤ 2 ^ 40 := by decide
theorem Rz.ok {wd : Nat} {rs : List (List Int)} (h : Rz wd rs) : ∀ r ∈ rs, Hm.Ok wd 40 r := fun r hr => ⟨(h.2 r hr).1, fun j => Nat.le_trans (rz_fn (h.2 r hr).2 j) p40⟩
theorem Rz.rk {wd : Nat} {rs : List (List Int)} (h : Rz wd rs) : ∀ r ∈ rs, Rk wd 0 40 r := fun r hr => ⟨(h.2 r hr).1, (fun j hj => absurd hj (Nat.not_lt_zero _)), fun j => Nat.le_trans (rz_fn (h.2 r hr).2 j) p40⟩
section
variable {P : Program} {w : World} {K : PySem.W.Frag} {mg : Str → Option Value} {base : Heap}
variable {f : Addr} {A : Around} {outer : List Env} {s : Shared} {H : Hp} {E : XK} {cdv : Value}
theorem st0 (L : Lc P w K mg base) (hr : Room 7 (A.deeper (envOfC "law" (defScope sLaw) s.heap.objs.size f cdv))) :
    ∃ t, PS (XL P w K mg base f cdv A outer s H E) (ls 0) t ∧ ∀ (D : Ends) (H0 : Hp) (a b m : Addr) (y2 y3 y4 y5 y6 y7 y8 y9 y10 y11 y12 : Option V), Zz L.T b m H0 →
      (∀ (wd : Nat) H', 1 ≤ wd → wd ≤ 3 → Zz L.T b m H' → D.nx [some (.ref a), some (.ref b), y2, some (.int (wd : Nat)), y4, y5, y6, y7, y8, y9, y10, y11, y12] H') → t D [some (.ref a), some (.ref b), y2, y3, y4, y5, y6, y7, y8, y9, y10, y11, y12] H0 := by
  have r1 : Room 1 (A.deeper (envOfC "law" (defScope sLaw) s.heap.objs.size f cdv)) := hr.mono (by decide)
  refine ⟨_, ps_set (i := 3) scLaw.nd rfl (.inl rfl) (pe_op op_add pe_int (pe_call L.cD.ok r1 (by rfl) L.cD.g L.cD.kp L.cD.b .nil pass0 (pa_cons (pv 1) (pa_cons pe_int pa_nil)))), ?_⟩
  intro D H0 a b m y2 y3 y4 y5 y6 y7 y8 y9 y10 y11 y12 z nx
  refine ⟨_, rfl, b, m, 3, rfl, z.bx, by decide, by decide, fun d H1 d0 d1 hT => ⟨_, _, rfl, rfl, ?_⟩⟩
  have e : (1 + d) = (((1 + d).toNat : Nat) : Int) := by omega
  show D.nx [some (.ref a), some (.ref b), y2, some (.int (1 + d)), y4, y5, y6, y7, y8, y9, y10, y11, y12] H1
  rw [e]
  exact nx _ H1 (by omega) (by omega) (z.go hT.go)
theorem st1 (L : Lc P w K mg base) (hr : Room 7 (A.deeper (envOfC "law" (defScope sLaw) s.heap.objs.size f cdv))) :
    ∃ t, PS (XL P w K mg base f cdv A outer s H E) (ls 1) t ∧ ∀ (D : Ends) (H0 : Hp) (a b m : Addr) (wd : Nat) (y2 y4 y5 y6 y7 y8 y9 y10 y11 y12 : Option V), Zz L.T b m H0 → wd ≤ 3 →
      (∀ (qz : Addr) (rs : List (Addr × List Int)) H', Zz L.T b m H' → RL H' qz rs → Rz wd (rw_ rs) → qz ≠ b → D.nx [some (.ref a), some (.ref b), y2, some (.int (wd : Nat)), some (.ref qz), y5, y6, y7, y8, y9, y10, y11, y12] H') → t D [some (.ref a), some (.ref b), y2, some (.int (wd : Nat)), y4, y5, y6, y7, y8, y9, y10, y11, y12] H0 := by
  have r2 : Room 2 (A.deeper (envOfC "law" (defScope sLaw) s.heap.objs.size f cdv)) := hr.mono (by decide)
  refine ⟨_, ps_set (i := 4) scLaw.nd rfl (.inl rfl) (pe_call L.cRl.ok r2 (by rfl) L.cRl.g L.cRl.kp L.cRl.b .nil pass0 (pa_cons (pv 1) (pa_cons (pv 3) (pa_cons pe_int (pa_cons (pe_call L.cA.ok r2 (by rfl) L.cA.g L.cA.kp L.cA.b .nil pass0 (pa_cons (pv 1) (pa_cons (pe_lst (pa_cons pe_int (pa_cons pe_int (pa_cons (pe_op op_pow pe_int pe_int) pa_nil)))) pa_nil))) pa_nil))))), ?_⟩
  intro D H0 a b m wd y2 y4 y5 y6 y7 y8 y9 y10 y11 y12 z hw nx
  refine ⟨_, rfl, _, rfl, _, rfl, _, _, rfl, rfl, ⟨by decide, by decide, by decide⟩, (by show 3 ≤ sizeLine; decide), fun p np => ?_⟩
  have s1 := same_new (o := .lst [.int 2, .int 6, .int ((10 : Int) ^ (12 : Int).toNat)]) np
  have z1 := z.same s1
  refine ⟨b, m, p, _, rfl, z1.bx, upd_same, z.bx.ne np, (fun z => nomatch z), (by show 3 < 1000000; decide), fun x H1 hx hT => ?_⟩
  have z2 := z1.go hT.go
  obtain ⟨size, rfl, h0, h1⟩ : ∃ size : Int, x = .int size ∧ 0 < size ∧ size ≤ 1000000000000 := by
    rcases List.mem_cons.mp hx with rfl | hx
    · exact ⟨2, rfl, by decide, by decide⟩
    rcases List.mem_cons.mp hx with rfl | hx
    · exact ⟨6, rfl, by decide, by decide⟩
    · obtain rfl := List.mem_singleton.mp hx
      exact ⟨_, rfl, by decide, by decide⟩
  refine ⟨b, m, wd, 5, size, rfl, z2.bx, hw, by decide, h0, h1, fun H2 qz rs hG nq hR hl hok => ?_⟩
  refine nx qz rs H2 (z2.go hG) hR ⟨by rw [List.length_map]; exact hl, fun r hr => ⟨(hok r hr).1, fun y hy => Nat.le_trans ((hok r hr).2 y hy) (by omega)⟩⟩ (z2.bx.ne nq)
/-- what is known behind the making of the table -/
structure LS (C : Addr) (T : List (Addr × Str)) (H : Hp) (b m qz qd qh x q : Addr) (wd : Nat) (rs ys fs hs : List (Addr × List Int)) : Prop where
  z : Zz T b m H
  rz : RL H qz rs
  du : RL H qd ys
  ha : RL H qh hs
  ta : TJ C H x wd q fs
  nz : qz ≠ b
  nd : qd ≠ b
  nq : q ≠ b
  nh : qh ≠ b
  nm : qh ≠ m
  zh : qz ≠ qh
  dh : qd ≠ qh
  qqh : q ≠ qh
theorem LS.ext {C : Addr} {T : List (Addr × Str)} {H H' : Hp} {b m qz qd qh x q : Addr} {wd : Nat} {rs ys fs hs : List (Addr × List Int)} (h : LS C T H b m qz qd qh x q wd rs ys fs hs) (e : LamX.ExtN H H') (t : LamX.Tabs T H') : LS C T H' b m qz qd qh x q wd rs ys fs hs := ⟨⟨bx_ext h.z.bx e, t⟩, h.rz.ext e, h.du.ext e, h.ha.ext e, h.ta.ext e, h.nz, h.nd, h.nq, h.nh, h.nm, h.zh, h.dh, h.qqh⟩
theorem LS.same {C : Addr} {T : List (Addr × Str)} {H H' : Hp} {b m qz qd qh x q : Addr} {wd : Nat} {rs ys fs hs : List (Addr × List Int)} (h : LS C T H b m qz qd qh x q wd rs ys fs hs) (e : Same H H') : LS C T H' b m qz qd qh x q wd rs ys fs hs := h.ext (.of e) (h.z.tb.ext e)
theorem LS.go {C : Addr} {T : List (Addr × Str)} {H H' : Hp} {b m qz qd qh x q : Addr} {wd : Nat} {rs ys fs hs : List (Addr × List Int)} (h : LS C T H b m qz qd qh x q wd rs ys fs hs) (g : BxGo H H' b m) : LS C T H' b m qz qd qh x q wd rs ys fs hs := by
  have hB := h.z.bx
  refine ⟨h.z.go g, h.rz.go hB g h.nz, h.du.go hB g h.nd, h.ha.go hB g h.nh, ⟨?_, h.ta.rl.go hB g h.nq⟩, h.nz, h.nd, h.nq, h.nh, h.nm, h.zh, h.dh, h.qqh⟩
  obtain ⟨dx, e⟩ := h.ta.ins
  obtain ⟨ms, i, r, s, hb, _⟩ := hB
  exact ⟨dx, g.2 _ _ (fun z => by rw [z, hb] at e; cases e) e⟩
/-- the mathematics -/
structure PF (wd : Nat) (rs ys fs : List (List Int)) : Prop where
  w1 : 1 ≤ wd
  w3 : wd ≤ 3
  rz : Rz wd rs
  eq : ys = fs
  nrm : ∃ rest, Hm.Nrm wd wd rs fs rest
  le : fs.length ≤ wd
  idx : mny wd fs = mnl wd ys
  bd : ∀ m, mny wd fs = .int m → m.natAbs.log2 < 1920
theorem st23 (L : Lc P w K mg base) (hr : Room 7 (A.deeper (envOfC "law" (defScope sLaw) s.heap.objs.size f cdv))) :
    ∃ t2 t3, PS (XL P w K mg base f cdv A outer s H E) (ls 2) t2 ∧ PS (XL P w K mg base f cdv A outer s H E) (ls 3) t3 ∧ ∀ (D : Ends) (H0 : Hp) (a b m qz : Addr) (wd : Nat) (rs : List (Addr × List Int)) (y2 y5 y6 y7 y8 y9 y10 y11 y12 : Option V), Zz L.T b m H0 → 1 ≤ wd → wd ≤ 3 → RL H0 qz rs → Rz wd (rw_ rs) → qz ≠ b →
      (∀ (qd qh x q : Addr) (ys fs : List (Addr × List Int)) H', LS L.C L.T H' b m qz qd qh x q wd rs ys fs rs → PF wd (rw_ rs) (rw_ ys) (rw_ fs) → (∀ r ∈ rw_ ys, r.length = wd ∧ ∀ y ∈ r, y.natAbs < 2 ^ 100000) → D.nx [some (.ref a), some (.ref b), y2, some (.int (wd : Nat)), some (.ref qz), some (.ref qd), some (.ref qh), some (.ref x), y8, y9, y10, y11, y12] H') →
      tSeq t2 t3 D [some (.ref a), some (.ref b), y2, some (.int (wd : Nat)), some (.ref qz), y5, y6, y7, y8, y9, y10, y11, y12] H0 := by
  have r3 : Room 3 (A.deeper (envOfC "law" (defScope sLaw) s.heap.objs.size f cdv)) := hr.mono (by decide)
  refine ⟨_, _, (ps_par (i := 5) (j := 6) (by rfl) scLaw.nd rfl rfl (by decide) rfl rfl (pa_cons (pe_call L.cNl.ok r3 (by rfl) L.cNl.g L.cNl.kp L.cNl.b .nil pass0 (pa_cons (pv 3) (pa_cons (pv 4) pa_nil))) (pa_cons (pe_callTy call_list_of (by rfl) L.B.b.list boot_list (pa_cons (pv 4) pa_nil)) pa_nil)) (by rfl)),
    (ps_set (i := 7) scLaw.nd rfl (.inl rfl) (pe_make L.M L.GI hr (by rfl) L.gC L.bI .nil pass0 (pa_cons (pv 3) (pa_cons (pv 6) pa_nil)))), ?_⟩
  intro D H0 a b m qz wd rs y2 y5 y6 y7 y8 y9 y10 y11 y12 z w1 w3 hR hRz nqz nx
  have hl5 : rs.length ≤ 5 := by
    have := hRz.1
    rw [List.length_map] at this
    exact this
  refine ⟨_, rfl, _, rfl, qz, rs, wd, 40, 5, rfl, hR, w3, hl5, by omega, hRz.ok, (by decide), (by decide), fun H1 qd ys R0 rest0 s1 nqd hY hN0 hE0 hyl => ?_⟩
  have z1 := z.same s1
  have hR1 := hR.same s1
  refine ⟨_, rfl, qz, _, rfl, .inl (SqL.of hR1.lst), fun qh nqh => ⟨_, _, rfl, ?_⟩⟩
  have s2 := same_new (o := .lst (rf rs)) nqh
  have hH : RL (upd H1 qh (.lst (rf rs))) qh rs := ⟨upd_same, fun y hy => (hR1.row y hy).same s2⟩
  have z2 := z1.same s2
  refine ⟨_, rfl, _, rfl, mk_read (K := K) (C := L.C) (T := L.T) (l := qh) (wd := wd) (E := E0) (Q := fun v H2 => D.nx [some (.ref a), some (.ref b), y2, some (.int (wd : Nat)), some (.ref qz), some (.ref qd), some (.ref qh), some v, y8, y9, y10, y11, y12] H2) ⟨rs, 40, 5, hH.ri, z2.tb, w1, w3, by decide, by decide, hl5, hRz.rk, ?_⟩⟩
  intro H3 x q fs rest e3 t3 nw tj hFd hN hl
  have hzb : qd ≠ b := z.bx.ne nqd
  obtain ⟨ms, i1, i2, i3, hb2, _⟩ := z2.bx
  have nqb : q ≠ b := fun e => by
    have := nw.ne hb2 (fun ps z => nomatch z)
    exact this e.symm
  have nqh2 : q ≠ qh := fun e => (nw.ne hH.lst (fun ps z => nomatch z)) e.symm
  have eqn : rw_ ys = rw_ fs := (Hm.nrm_same hN hN0 hE0).symm
  have hN' := hN
  refine nx qd qh x q ys fs H3 ⟨⟨bx_ext z2.bx e3, t3⟩, (hR1.same s2).ext e3, (hY.same s2).ext e3, hH.ext e3, tj, nqz, hzb, nqb, z1.bx.ne nqh, z1.bx.neM nqh, ne_of_none hR1.lst nqh, ne_of_none hY.lst nqh, nqh2⟩ ⟨w1, w3, hRz, eqn, ⟨rest, hN⟩, by rw [List.length_map]; exact hl, ?_, mny_bd hFd hN w3 (by rw [List.length_map]; exact hl) (by decide)⟩ ?_
  · rw [eqn]
    exact idx_same hN (by rw [List.length_map]; exact hl)
  · rw [eqn]
    intro r hr
    have z := hFd r hr
    refine ⟨z.len, fun y hy => ?_⟩
    obtain ⟨j, hj⟩ := List.mem_iff_getElem?.mp hy
    have h1 := z.bd j
    unfold Hm.fn at h1
    rw [List.getD_eq_getElem?_getD, hj] at h1
    exact Nat.lt_of_lt_of_le h1 (Nat.pow_le_pow_right (by omega) (by omega))
end
end K4
set_option maxRecDepth 100000
set_option maxHeartbeats 2000000
namespace K4
open PySem PySem.Spec PyProof.Rows L2
theorem eqd_row {H : Hp} {x y : Addr × List Int} (hx : RT H x) (hy : RT H y) (e : x.2 = y.2) (h3 : x.2.length ≤ 3) : Eqd 1 H (.ref x.1) (.ref y.1) := by
  refine .inr ⟨x.1, y.1, x.2.map V.int, y.2.map V.int, rfl, rfl, by rw [e], by rw [List.length_map]; omega, .inr ⟨hx, hy⟩, fun i u v hu hv => ?_⟩
  rw [e] at hu
  rw [hu] at hv
  obtain rfl := Option.some.inj hv
  rw [List.getElem?_map] at hu
  obtain ⟨z, _, rfl⟩ := Option.map_eq_some_iff.mp hu
  exact .flat (.inl ⟨z, rfl⟩)
theorem eqd_rows {H : Hp} {p q : Addr} {xs ys : List (Addr × List Int)} (hp : RL H p xs) (hq : RL H q ys) (e : rw_ xs = rw_ ys) (hl : xs.length ≤ 3) (h3 : ∀ r ∈ rw_ xs, r.length ≤ 3) : Eqd 2 H (.ref p) (.ref q) := by
  have el : xs.length = ys.length := by
    have := congrArg List.length e
    rw [List.length_map, List.length_map] at this
    exact this
  refine .inr ⟨p, q, rf xs, rf ys, rfl, rfl, by rw [List.length_map, List.length_map, el], by rw [List.length_map]; omega, .inl ⟨hp.lst, hq.lst⟩, fun i u v hu hv => ?_⟩
  rw [List.getElem?_map] at hu hv
  obtain ⟨x, hx, rfl⟩ := Option.map_eq_some_iff.mp hu
  obtain ⟨y, hy, rfl⟩ := Option.map_eq_some_iff.mp hv
  have exy : x.2 = y.2 := by
    have z : (rw_ xs)[i]? = (rw_ ys)[i]? := by rw [e]
    rw [List.getElem?_map, List.getElem?_map, hx, hy] at z
    exact Option.some.inj z
  exact eqd_row (hp.row x (List.mem_of_getElem? hx)) (hq.row y (List.mem_of_getElem? hy)) exy (h3 _ (rw_mem (List.mem_of_getElem? hx)))
theorem flat_mnl (w : Nat) (rows : List (List Int)) : Flat (mnl w rows) := by
  unfold mnl
  split
  · exact .inr (.inr (.inr rfl))
  · exact .inl ⟨_, rfl⟩
section
variable {P : Program} {w : World} {K : PySem.W.Frag} {mg : Str → Option Value} {base : Heap}
variable {f : Addr} {A : Around} {outer : List Env} {s : Shared} {H : Hp} {E : XK} {cdv : Value}
theorem st4 (L : Lc P w K mg base) (hr : Room 7 (A.deeper (envOfC "law" (defScope sLaw) s.heap.objs.size f cdv))) :
    ∃ t, PS (XL P w K mg base f cdv A outer s H E) (ls 4) t ∧ ∀ (D : Ends) (H0 : Hp) (qd : Addr) (wd : Nat) (ys : List (Addr × List Int)) (y0 y1 y2 y4 y6 y7 y8 y9 y10 y11 y12 : Option V), RL H0 qd ys → wd ≤ 3 → (∀ r ∈ rw_ ys, r.length = wd ∧ ∀ y ∈ r, y.natAbs < 2 ^ 100000) →
      D.nx [y0, y1, y2, some (.int (wd : Nat)), y4, some (.ref qd), y6, y7, some (mnl wd (rw_ ys)), y9, y10, y11, y12] H0 → t D [y0, y1, y2, some (.int (wd : Nat)), y4, some (.ref qd), y6, y7, y8, y9, y10, y11, y12] H0 := by
  have r1 : Room 1 (A.deeper (envOfC "law" (defScope sLaw) s.heap.objs.size f cdv)) := hr.mono (by decide)
  refine ⟨_, ps_set (i := 8) scLaw.nd rfl (.inl rfl) (pe_call L.cIx.ok r1 (by rfl) L.cIx.g L.cIx.kp L.cIx.b .nil pass0 (pa_cons (pv 5) (pa_cons (pv 3) pa_nil))), ?_⟩
  intro D H0 qd wd ys y0 y1 y2 y4 y6 y7 y8 y9 y10 y11 y12 hR w3 hb nx
  exact ⟨_, rfl, _, rfl, qd, ys, wd, rfl, hR, w3, hb, nx⟩
theorem st5 (L : Lc P w K mg base) (hr : Room 7 (A.deeper (envOfC "law" (defScope sLaw) s.heap.objs.size f cdv))) :
    ∃ t, PS (XL P w K mg base f cdv A outer s H E) (ls 5) t ∧ ∀ (D : Ends) (H0 : Hp) (x q qd : Addr) (wd : Nat) (rs : List (List Int)) (ys fs : List (Addr × List Int)) (y0 y1 y2 y4 y6 y9 y10 y11 y12 : Option V), RL H0 qd ys → TJ L.C H0 x wd q fs → PF wd rs (rw_ ys) (rw_ fs) → (∀ r ∈ rw_ fs, r.length ≤ 3) →
      (∀ H', Same H0 H' → D.nx [y0, y1, y2, some (.int (wd : Nat)), y4, some (.ref qd), y6, some (.ref x), some (mnl wd (rw_ ys)), y9, y10, y11, y12] H') → t D [y0, y1, y2, some (.int (wd : Nat)), y4, some (.ref qd), y6, some (.ref x), some (mnl wd (rw_ ys)), y9, y10, y11, y12] H0 := by
  have r1 : Room 1 (A.deeper (envOfC "law" (defScope sLaw) s.heap.objs.size f cdv)) := hr.mono (by decide)
  have r2 : Room 2 (A.deeper (envOfC "law" (defScope sLaw) s.heap.objs.size f cdv)) := hr.mono (by decide)
  have r4 : Room 4 (A.deeper (envOfC "law" (defScope sLaw) s.heap.objs.size f cdv)) := hr.mono (by decide)
  refine ⟨_, ps_if (pt_not (pt_val (pe_call L.cS3.ok r4 (by rfl) L.cS3.g L.cS3.kp L.cS3.b .nil pass0 (pa_cons (pe_lst (pa_cons (pe_meth0 (pv 7) L.TC.cl L.MR L.GR r1 L.bR .nil pass0) (pa_cons (pe_prop (pv 7) L.TC.cl L.pW L.GW r2 L.bW .nil pass0 rfl) (pa_cons (pe_prop (pv 7) L.TC.cl L.pZ L.GZ r2 L.bZ .nil pass0 rfl) pa_nil))))
    (pa_cons (pe_lst (pa_cons (pv 5) (pa_cons (pv 3) (pa_cons (pv 8) pa_nil)))) pa_nil))))) pss_never pss_nil, ?_⟩
  intro D H0 x q qd wd rs ys fs y0 y1 y2 y4 y6 y9 y10 y11 y12 hD tj pf h3 nx
  obtain ⟨dx, hx⟩ := tj.ins
  refine ⟨_, rfl, x, dx, _, rfl, hx, rfl, x, wd, fs, rfl, tj.ti, fun H1 p s1 np hR => ?_⟩
  have hx1 := s1 _ _ hx
  refine ⟨_, rfl, x, dx, _, rfl, hx1, x, dx, _, .int (wd : Nat), rfl, hx1, rfl, _, rfl, x, dx, _, rfl, hx1, x, dx, _, mny wd (rw_ fs), rfl, hx1, rfl, (by show 3 ≤ sizeLine; decide), fun l1 nl1 => ?_⟩
  have s2 := same_new (o := .lst [.ref p, .int (wd : Nat), mny wd (rw_ fs)]) nl1
  refine ⟨_, rfl, _, rfl, _, rfl, (by show 3 ≤ sizeLine; decide), fun l2 nl2 => ?_⟩
  have s3 := same_new (o := .lst [.ref qd, .int (wd : Nat), mnl wd (rw_ ys)]) nl2
  have ss : Same H0 _ := (s1.trans s2).trans s3
  refine ⟨.ref l1, .ref l2, rfl, .inr ⟨l1, l2, [.ref p, .int (wd : Nat), mny wd (rw_ fs)], [.ref qd, .int (wd : Nat), mnl wd (rw_ ys)], rfl, rfl, rfl, (by show 3 ≤ _; decide), .inl ⟨s3 _ _ upd_same, upd_same⟩, ?_⟩, fun H4 s4 => ⟨true, rfl, iteF (nx H4 (ss.trans s4))⟩⟩
  have hfl : fs.length ≤ 3 := by
    have := pf.le
    rw [List.length_map] at this
    have := pf.w3
    omega
  intro i u v hu hv
  match i, hu, hv with
  | 0, hu, hv =>
    obtain rfl := Option.some.inj hu
    obtain rfl := Option.some.inj hv
    exact eqd_rows ((hR.same s2).same s3) (hD.same ss) pf.eq.symm hfl h3
  | 1, hu, hv =>
    obtain rfl := Option.some.inj hu
    obtain rfl := Option.some.inj hv
    exact .flat (.inl ⟨_, rfl⟩)
  | 2, hu, hv =>
    obtain rfl := Option.some.inj hu
    obtain rfl := Option.some.inj hv
    rw [pf.idx]
    exact .flat (flat_mnl _ _)
  | (n + 3), hu, hv => cases hu
theorem st6 (L : Lc P w K mg base) : ∃ t, PS (XL P w K mg base f cdv A outer s H E) (ls 6) t ∧ ∀ (D : Ends) (H0 : Hp) (v : V) (y0 y1 y2 y3 y4 y5 y6 y7 y9 y10 y11 y12 : Option V), (v = .non ∨ ∃ m : Int, v = .int m ∧ m.natAbs.log2 < 1920) →
      (v = .non → D.nx [y0, y1, y2, y3, y4, y5, y6, y7, some v, some (.str (Str.ofString "endless")), y10, y11, y12] H0) → (∀ m, v = .int m → D.nx [y0, y1, y2, y3, y4, y5, y6, y7, some v, some (.str (Str.ofString (toString m) ++ Str.ofString " places")), y10, y11, y12] H0) →
      t D [y0, y1, y2, y3, y4, y5, y6, y7, some v, y9, y10, y11, y12] H0 := by
  refine ⟨_, ps_set (i := 9) scLaw.nd rfl (.inl rfl) (pe_ifExp (pt_cmpR op_isN (pv 8) pe_non (nomark _)) pe_str (pe_op op_add_str (pe_callTy call_str_int (by rfl) L.B.str boot_str (pa_cons (pv 8) pa_nil)) pe_str)), ?_⟩
  intro D H0 v y0 y1 y2 y3 y4 y5 y6 y7 y9 y10 y11 y12 hv n1 n2
  rcases hv with rfl | ⟨m, rfl, hm⟩
  · exact ⟨_, rfl, rfl, _, rfl, iteT (n1 rfl)⟩
  · refine ⟨_, rfl, rfl, _, rfl, iteF ⟨_, rfl, m, rfl, hm, _, _, rfl, rfl, ?_, n2 m rfl⟩⟩
    have h1 := fitI m hm
    have h2 : (Str.ofString " places").length ≤ 100 := by decide +kernel
    show (Str.ofString (toString m)).length + (Str.ofString " places").length ≤ sizeLine
    rw [sizeLine_eq]
    omega
/-- the text of the law -/
def txL (wd : Nat) (wo : Str) : Str := Str.ofString "Table(" ++ Str.ofString (toString ((wd : Nat) : Int)) ++ Str.ofString " wide, " ++ wo ++ Str.ofString ")"
theorem str_ext {a b : Str} (h : a.cps = b.cps) : a = b := by
  cases a
  cases b
  exact congrArg Str.mk h
theorem cps_app (a b : Str) : (a ++ b).cps = a.cps ++ b.cps := rfl
theorem tx_non {w : Nat} {rs : List (List Int)} (h : mny w rs = .non) : txR w rs = txL w (Str.ofString "endless") := by
  unfold txR txL
  rw [h]
  have e : Str.ofString " wide, endless)" = Str.ofString " wide, " ++ Str.ofString "endless" ++ Str.ofString ")" := by decide +kernel
  dsimp only
  rw [e]
  apply str_ext
  simp only [cps_app, Array.append_assoc]
  show #[] ++ _ = _
  rw [Array.empty_append]
theorem tx_int {w : Nat} {rs : List (List Int)} {m : Int} (h : mny w rs = .int m) : txR w rs = txL w (Str.ofString (toString m) ++ Str.ofString " places") := by
  unfold txR txL
  rw [h]
  have e : Str.ofString " places)" = Str.ofString " places" ++ Str.ofString ")" := by decide +kernel
  dsimp only
  rw [e]
  apply str_ext
  simp only [cps_app, Array.append_assoc]
  show #[] ++ _ = _
  rw [Array.empty_append]
theorem st7 (L : Lc P w K mg base) (hr : Room 7 (A.deeper (envOfC "law" (defScope sLaw) s.heap.objs.size f cdv))) :
    ∃ t, PS (XL P w K mg base f cdv A outer s H E) (ls 7) t ∧ ∀ (D : Ends) (H0 : Hp) (x q : Addr) (wd : Nat) (fs : List (Addr × List Int)) (wo : Str) (y0 y1 y2 y4 y5 y6 y8 y10 y11 y12 : Option V), TJ L.C H0 x wd q fs → wd ≤ 3 → (∀ m, mny wd (rw_ fs) = .int m → m.natAbs.log2 < 1920) → txR wd (rw_ fs) = txL wd wo → wo.length ≤ 3000 →
      D.nx [y0, y1, y2, some (.int (wd : Nat)), y4, y5, y6, some (.ref x), y8, some (.str wo), y10, y11, y12] H0 → t D [y0, y1, y2, some (.int (wd : Nat)), y4, y5, y6, some (.ref x), y8, some (.str wo), y10, y11, y12] H0 := by
  have r2 : Room 2 (A.deeper (envOfC "law" (defScope sLaw) s.heap.objs.size f cdv)) := hr.mono (by decide)
  refine ⟨_, ps_if (pt_cmpR op_ne (pe_callB (Rs.call_reprI L.GP L.rP L.nP L.bP pass0 r2) (by rfl) L.B.repr boot_repr (pa_cons (pv 7) pa_nil))
    (pe_op op_add_str (pe_op op_add_str (pe_op op_add_str (pe_op op_add_str pe_str (pe_callTy call_str_int (by rfl) L.B.str boot_str (pa_cons (pv 3) pa_nil))) pe_str) (pv 9)) pe_str) (nomark _)) pss_never pss_nil, ?_⟩
  intro D H0 x q wd fs wo y0 y1 y2 y4 y5 y6 y8 y10 y11 y12 tj w3 hm ht hwo nx
  obtain ⟨dx, hx⟩ := tj.ins
  have lw := small3 wd w3
  have a0 : (Str.ofString "Table(").length ≤ 100 := by decide +kernel
  have a1 := fitI ((wd : Nat) : Int) lw
  have a2 : (Str.ofString " wide, ").length ≤ 100 := by decide +kernel
  have a3 : (Str.ofString ")").length ≤ 100 := by decide +kernel
  have b1 := fit2 a0 a1 (Nat.le_refl _)
  have b2 := fit2 b1 a2 (Nat.le_refl _)
  have b3 := fit2 b2 hwo (Nat.le_refl _)
  refine ⟨_, rfl, x, dx, _, rfl, hx, x, wd, fs, rfl, tj.ti, w3, hm, _, rfl, _, rfl, _, rfl, lw, _, _, rfl, rfl, ?_, _, _, rfl, rfl, ?_, _, rfl, _, _, rfl, rfl, ?_, _, _, rfl, rfl, ?_, rfl, _, rfl, ?_⟩
  · rw [sizeLine_eq]
    exact Nat.le_trans (Nat.add_le_add a0 a1) (by decide)
  · rw [sizeLine_eq]
    exact Nat.le_trans (Nat.add_le_add b1 a2) (by decide)
  · rw [sizeLine_eq]
    exact Nat.le_trans (Nat.add_le_add b2 hwo) (by decide)
  · rw [sizeLine_eq]
    exact Nat.le_trans (Nat.add_le_add b3 a3) (by decide)
  · rw [ht]
    have e : V.str (txL wd wo) = V.str (Str.ofString "Table(" ++ Str.ofString (toString ((wd : Nat) : Int)) ++ Str.ofString " wide, " ++ wo ++ Str.ofString ")") := rfl
    rw [decide_eq_true e]
    exact iteF nx
end
end K4
set_option maxRecDepth 100000
set_option maxHeartbeats 2000000
namespace K4
open PySem PySem.Spec PyProof.Rows L2
theorem tabs_lst {T : List (Addr × Str)} {H : Hp} {x : Addr} {xs : List V} {o : HO} (t : LamX.Tabs T H) (hx : H x = some (.lst xs)) : LamX.Tabs T (upd H x o) := by
  intro p hp
  obtain ⟨ps, h1, h2, h3⟩ := t p hp
  refine ⟨ps, ?_, h2, fun pos cv hc => ?_⟩
  · rw [upd_ne (fun e => by rw [e, hx] at h1; cases h1)]
    exact h1
  · obtain ⟨c, e1, e2⟩ := h3 pos cv hc
    refine ⟨c, e1, ?_⟩
    rw [upd_ne (fun e => by rw [e, hx] at e2; unfold LamX.CodeO at e2; cases e2)]
    exact e2
theorem RL.upd {H : Hp} {q p : Addr} {rs : List (Addr × List Int)} {xs : List V} {o : HO} (h : RL H q rs) (hp : H p = some (.lst xs)) (ne : q ≠ p) : RL (L2.upd H p o) q rs := ⟨by rw [upd_ne ne]; exact h.lst, fun x hx => (h.row x hx).upd hp⟩
theorem LS.app {C : Addr} {T : List (Addr × Str)} {H : Hp} {b m qz qd qh x q : Addr} {wd : Nat} {rs ys fs hs : List (Addr × List Int)} {y : Addr × List Int} (h : LS C T H b m qz qd qh x q wd rs ys fs hs) (hy : RT H y) : LS C T (L2.upd H qh (.lst (rf hs ++ [.ref y.1]))) b m qz qd qh x q wd rs ys fs (hs ++ [y]) := by
  have hl := h.ha.lst
  refine ⟨⟨h.z.bx.upd h.nh h.nm, tabs_lst h.z.tb hl⟩, h.rz.upd hl h.zh, h.du.upd hl h.dh, ⟨?_, fun z hz => ?_⟩, ⟨?_, h.ta.rl.upd hl h.qqh⟩, h.nz, h.nd, h.nq, h.nh, h.nm, h.zh, h.dh, h.qqh⟩
  · rw [upd_same]
    exact congrArg (fun z => some (HO.lst z)) (rf_snoc hs y.1 y.2)
  · rcases List.mem_append.mp hz with e | e
    · exact (h.ha.row z e).upd hl
    · obtain rfl := List.mem_singleton.mp e
      exact hy.upd hl
  · obtain ⟨dx, e⟩ := h.ta.ins
    exact ⟨dx, by rw [upd_ne (fun z => by rw [z, hl] at e; cases e)]; exact e⟩
/-- the rows for another table -/
def mor (rs : List (List Int)) : List (List Int) := rs.reverse ++ List.zipWith addl rs rs.tail
theorem cut_tail2 (xs : List V) : cutV xs (some 1) none = xs.tail := by
  cases xs with
  | nil => rfl
  | cons x xs => exact cut_tail xs x
section
variable {P : Program} {w : World} {K : PySem.W.Frag} {mg : Str → Option Value} {base : Heap}
variable {f : Addr} {A : Around} {outer : List Env} {s : Shared} {H : Hp} {E : XK} {cdv : Value}
theorem st8 (L : Lc P w K mg base) (hr : Room 7 (A.deeper (envOfC "law" (defScope sLaw) s.heap.objs.size f cdv))) :
    ∃ t, PS (XL P w K mg base f cdv A outer s H E) (ls 8) t ∧ ∀ (D : Ends) (H0 : Hp) (b m qz qd qh x q : Addr) (wd : Nat) (rs ys fs hs : List (Addr × List Int)) (y0 y1 y2 y4 y5 y7 y8 y9 y10 y11 y12 : Option V), LS L.C L.T H0 b m qz qd qh x q wd rs ys fs hs → wd ≤ 3 → hs.length ≤ 100 →
      (∀ H' hs', LS L.C L.T H' b m qz qd qh x q wd rs ys fs hs' → D.nx [y0, y1, y2, some (.int (wd : Nat)), y4, y5, some (.ref qh), y7, y8, y9, y10, y11, y12] H') → t D [y0, y1, y2, some (.int (wd : Nat)), y4, y5, some (.ref qh), y7, y8, y9, y10, y11, y12] H0 := by
  have r1 : Room 1 (A.deeper (envOfC "law" (defScope sLaw) s.heap.objs.size f cdv)) := hr.mono (by decide)
  refine ⟨_, ps_expr (pe_bm PySem.F.plainAttrs_list PySem.F.slot_list_append PySem.F.type_list_append mt_append (pv 6) (pa_cons (pe_call L.cUn.ok r1 (by rfl) L.cUn.g L.cUn.kp L.cUn.b .nil pass0 (pa_cons (pv 3) (pa_cons pe_int pa_nil))) pa_nil)), ?_⟩
  intro D H0 b m qz qd qh x q wd rs ys fs hs y0 y1 y2 y4 y5 y7 y8 y9 y10 y11 y12 l w3 h100 nx
  refine ⟨_, rfl, .inl ⟨rfl, _, SqL.of l.ha.lst⟩, _, rfl, wd, 0, rfl, w3, fun H1 p s1 np hp => ?_⟩
  have l1 := l.same s1
  refine ⟨qh, _, _, rfl, rfl, l1.ha.lst, ?_, nx _ _ (l1.app hp)⟩
  rw [List.length_map]
  exact Nat.lt_of_le_of_lt h100 (by decide)
theorem st9 (L : Lc P w K mg base) (hr : Room 7 (A.deeper (envOfC "law" (defScope sLaw) s.heap.objs.size f cdv))) :
    ∃ t, PS (XL P w K mg base f cdv A outer s H E) (ls 9) t ∧ ∀ (D : Ends) (H0 : Hp) (x q : Addr) (wd : Nat) (fs : List (Addr × List Int)) (y0 y1 y2 y4 y5 y6 y8 y9 y10 y11 y12 : Option V), TJ L.C H0 x wd q fs → wd ≤ 3 → fs.length ≤ 100 →
      (∀ H', Same H0 H' → D.nx [y0, y1, y2, some (.int (wd : Nat)), y4, y5, y6, some (.ref x), y8, y9, y10, y11, y12] H') → t D [y0, y1, y2, some (.int (wd : Nat)), y4, y5, y6, some (.ref x), y8, y9, y10, y11, y12] H0 := by
  have r1 : Room 1 (A.deeper (envOfC "law" (defScope sLaw) s.heap.objs.size f cdv)) := hr.mono (by decide)
  refine ⟨_, ps_expr (pe_bm PySem.F.plainAttrs_list PySem.F.slot_list_append PySem.F.type_list_append mt_append (pe_meth0 (pv 7) L.TC.cl L.MR L.GR r1 L.bR .nil pass0) (pa_cons (pe_call L.cUn.ok r1 (by rfl) L.cUn.g L.cUn.kp L.cUn.b .nil pass0 (pa_cons (pv 3) (pa_cons pe_int pa_nil))) pa_nil)), ?_⟩
  intro D H0 x q wd fs y0 y1 y2 y4 y5 y6 y8 y9 y10 y11 y12 tj w3 h100 nx
  obtain ⟨dx, hx⟩ := tj.ins
  refine ⟨_, rfl, x, dx, _, rfl, hx, rfl, x, wd, fs, rfl, tj.ti, fun H1 p s1 np hR => ?_⟩
  refine ⟨.inl ⟨rfl, _, SqL.of hR.lst⟩, _, rfl, wd, 0, rfl, w3, fun H2 p2 s2 np2 hp2 => ?_⟩
  refine ⟨p, _, _, rfl, rfl, s2 _ _ hR.lst, ?_, nx _ fun a o e => ?_⟩
  · rw [List.length_map]
    exact Nat.lt_of_le_of_lt h100 (by decide)
  · rw [upd_ne (ne_of_none e np)]
    exact s2 _ _ (s1 _ _ e)
theorem st10 (L : Lc P w K mg base) (hr : Room 7 (A.deeper (envOfC "law" (defScope sLaw) s.heap.objs.size f cdv))) :
    ∃ t, PS (XL P w K mg base f cdv A outer s H E) (ls 10) t ∧ ∀ (D : Ends) (H0 : Hp) (qz : Addr) (wd : Nat) (rs : List (Addr × List Int)) (y0 y1 y2 y3 y5 y6 y7 y8 y9 y10 y11 y12 : Option V), RL H0 qz rs → wd ≤ 3 → (∀ r ∈ rw_ rs, r.length = wd) → rs.length ≤ 5 →
      (∀ H' (p : Addr) (ms : List (Addr × List Int)), Same H0 H' → RL H' p ms → rw_ ms = mor (rw_ rs) → D.nx [y0, y1, y2, y3, some (.ref qz), y5, y6, y7, y8, y9, y10, some (.ref p), y12] H') → t D [y0, y1, y2, y3, some (.ref qz), y5, y6, y7, y8, y9, y10, y11, y12] H0 := by
  have r1 : Room 1 (A.deeper (envOfC "law" (defScope sLaw) s.heap.objs.size f cdv)) := hr.mono (by decide)
  refine ⟨_, ps_set (i := 11) scLaw.nd rfl (.inl rfl) (pe_op op_cat (pe_revL (pv 4)) (pe_lc (own := [("_law_one", 12), ("_law_other", 10)]) (g := gTup K 2 (gCons (gName 12) (gCons (gName 10) gNil))) (tt := tYes) (te := tCall spAddL [] E0 (tCons (tVar 12) (tCons (tVar 10) tNil))) rfl scLaw.nd
      (RZ.pi_zipA (by rfl) L.B.b.zip (pa_cons (pv 4) (pa_cons (pe_slice sl_list (pv 4) (po_some pe_int) po_none) pa_nil)))
      (blkOk_by (N := NL) (sc := defScope sLaw) (by decide +kernel)) (fun _ _ _ _ _ => pg_tup rfl (pgs_cons (pg_name (i := 12) scLaw.nd rfl (Or.inl rfl)) (pgs_cons (pg_name (i := 10) scLaw.nd rfl (Or.inl rfl)) pgs_nil))) (fun _ _ _ _ _ => pts_nil)
      (fun _ _ _ _ _ => pe_call L.cAd.ok r1 (by rfl) L.cAd.g L.cAd.kp L.cAd.b .nil pass0 (pa_cons (pv 12) (pa_cons (pv 10) pa_nil))))), ?_⟩
  intro D H0 qz wd rs y0 y1 y2 y3 y5 y6 y7 y8 y9 y10 y11 y12 hR w3 hlen h5 nx
  refine ⟨_, rfl, qz, _, rfl, SqL.of hR.lst, fun p1 np1 => ?_⟩
  have s1 := same_new (o := .lst (rf rs).reverse) np1
  have hR1 := hR.same s1
  refine ⟨_, rfl, _, rfl, _, rfl, qz, _, rfl, SqL.of hR1.lst, fun p2 np2 => ?_⟩
  rw [cut_tail2]
  have s2 := same_new (o := .lst (rf rs).tail) np2
  have hR2 := hR1.same s2
  have et : (rf rs).tail = rf rs.tail := by cases rs <;> rfl
  refine ⟨qz, p2, _, _, rfl, .inl ⟨SqL.of hR2.lst, SqL.of upd_same, fun D2 nD2 => ?_⟩⟩
  refine lc_it (walk_zip (K := K) (a := qz) (b := p2) (xs := rf rs) (ys := (rf rs).tail) rfl) (vs := [12, 10]) (σ := [y0, y1, y2, y3, some (.ref qz), y5, y6, y7, y8, y9, y10, y11, y12]) (te := tCall spAddL [] E0 (tCons (tVar 12) (tCons (tVar 10) tNil)))
    (fun j H3 => Same (upd (upd H0 p1 (.lst (rf rs).reverse)) p2 (.lst (rf rs).tail)) H3 ∧ ∃ zs, RL H3 D2 zs ∧ rw_ zs = (List.zipWith addl (rw_ rs) (rw_ rs).tail).take j) ⟨same_new nD2, [], ⟨upd_same, fun x hx => nomatch hx⟩, rfl⟩ (fun j H3 _ h => ⟨SqL.of (h.1 _ _ hR2.lst), SqL.of (h.1 _ _ upd_same)⟩) ?_ ?_
  · rintro j v H3 H3' hj ⟨sm, zs, hZ, hz⟩ ⟨T, u, v2, rfl, nT, rfl, hu, hv⟩
    have hu : (rf rs)[j]? = some u := hu
    have hv : (rf rs).tail[j]? = some v2 := hv
    rw [List.getElem?_map] at hu
    obtain ⟨x, hx, rfl⟩ := Option.map_eq_some_iff.mp hu
    rw [et, List.getElem?_map] at hv
    obtain ⟨y, hy, rfl⟩ := Option.map_eq_some_iff.mp hv
    have sT := same_new (o := .tup [.ref x.1, .ref y.1]) nT
    have mx := List.mem_of_getElem? hx
    have my : y ∈ rs := List.mem_of_mem_tail (List.mem_of_getElem? hy)
    have ss := (sm.trans sT)
    have lx := hlen _ (rw_mem mx)
    have ly := hlen _ (rw_mem my)
    refine ⟨T, _, rfl, SqT.of upd_same, rfl, .ref x.1, [.ref y.1], rfl, .ref y.1, [], rfl, rfl, Rs.wipe2, ?_⟩
    dsimp only [tYes]
    rw [if_pos rfl]
    refine ⟨_, rfl, _, rfl, x, y, rfl, (hR2.row x mx).same ss, (hR2.row y my).same ss, by rw [lx, ly], by rw [lx]; exact w3, fun H4 p4 s4 np4 hp4 => ?_⟩
    have hZ4 := (hZ.same sT).same s4
    refine ⟨_, hZ4.lst, ?_, fun a o e => ?_, zs ++ [(p4, addl x.2 y.2)], ⟨?_, fun z hz2 => ?_⟩, ?_⟩
    · have h1 : (rw_ zs).length ≤ j := by
        rw [hz, List.length_take]
        omega
      rw [List.length_map] at h1 ⊢
      have h2 : j < (rf rs).length := Nat.lt_of_lt_of_le hj (Nat.min_le_left _ _)
      rw [List.length_map] at h2
      exact Nat.lt_of_le_of_lt (show zs.length ≤ 5 by omega) (by decide)
    · rw [upd_ne (ne_of_none e nD2)]
      exact s4 _ _ (sT _ _ (sm _ _ e))
    · rw [upd_same]
      exact congrArg (fun z => some (HO.lst z)) (rf_snoc zs p4 _)
    · rcases List.mem_append.mp hz2 with h | h
      · exact (hZ4.row z h).upd hZ4.lst
      · obtain rfl := List.mem_singleton.mp h
        exact hp4.upd hZ4.lst
    · have e : rw_ (zs ++ [(p4, addl x.2 y.2)]) = rw_ zs ++ [addl x.2 y.2] := List.map_append
      have g : (List.zipWith addl (rw_ rs) (rw_ rs).tail)[j]? = some (addl x.2 y.2) := by
        have e1 : (rw_ rs)[j]? = some x.2 := by rw [List.getElem?_map, hx]; rfl
        have e2 : (rw_ rs).tail[j]? = some y.2 := by
          have : (rw_ rs).tail = rw_ rs.tail := by cases rs <;> rfl
          rw [this, List.getElem?_map, hy]
          rfl
        rw [List.getElem?_zipWith, e1, e2]
      rw [e, hz, take_more g]
  · rintro H3 ⟨sm, zs, hZ, hz⟩
    have hz2 : rw_ zs = List.zipWith addl (rw_ rs) (rw_ rs).tail := by
      rw [hz, List.take_of_length_le]
      rw [List.length_zipWith, List.length_tail, List.length_tail, List.length_map, List.length_map]
      exact Nat.le_refl _
    have h1 : H3 p1 = some (.lst (rf rs).reverse) := sm _ _ (s2 _ _ upd_same)
    refine ⟨p1, D2, _, _, rfl, rfl, h1, hZ.lst, ?_, fun p np => ?_⟩
    · have h3 : (rw_ zs).length ≤ 5 := by
        rw [hz2, List.length_zipWith, List.length_map]
        omega
      rw [List.length_map] at h3
      rw [List.length_reverse, List.length_map, List.length_map]
      exact Nat.le_trans (show rs.length + zs.length ≤ 10 by omega) (by decide)
    · have s4 := same_new (o := .lst ((rf rs).reverse ++ rf zs)) np
      have ef : (rf rs).reverse ++ rf zs = rf (rs.reverse ++ zs) := by
        show _ = List.map _ _
        rw [List.map_append, List.map_reverse]
      rw [ef] at s4 ⊢
      refine nx _ p (rs.reverse ++ zs) (((s1.trans s2).trans sm).trans s4) ⟨upd_same, fun z hz3 => ?_⟩ ?_
      · rcases List.mem_append.mp hz3 with h | h
        · exact ((hR2.row z (List.mem_reverse.mp h)).same sm).same s4
        · exact (hZ.row z h).same s4
      · show List.map _ _ = _
        unfold mor
        rw [← hz2, List.map_append, List.map_reverse]
end
end K4
set_option maxRecDepth 100000
set_option maxHeartbeats 2000000
namespace K4
open PySem PySem.Spec PyProof.Rows L2
theorem fn_addl {r o : List Int} (h : r.length = o.length) : Hm.fn (addl r o) = Hm.ls (Hm.fn r) (Hm.fn o) (-1) := by
  funext j
  show (addl r o).getD j 0 = r.getD j 0 - (-1) * o.getD j 0
  unfold addl
  rw [List.getD_eq_getElem?_getD, List.getD_eq_getElem?_getD, List.getD_eq_getElem?_getD, List.getElem?_zipWith]
  by_cases hj : j < r.length
  · rw [List.getElem?_eq_getElem hj, List.getElem?_eq_getElem (by omega)]
    show r[j] + o[j] = r[j] - (-1) * o[j]
    omega
  · rw [List.getElem?_eq_none (by omega), List.getElem?_eq_none (by omega)]
    rfl
theorem mem_zip {rs : List (List Int)} {z : List Int} (h : z ∈ List.zipWith addl rs rs.tail) : ∃ x ∈ rs, ∃ y ∈ rs, z = addl x y := by
  obtain ⟨j, hj⟩ := List.mem_iff_getElem?.mp h
  rw [List.getElem?_zipWith] at hj
  cases e1 : rs[j]? with
  | none => rw [e1] at hj; cases hj
  | some x =>
    cases e2 : rs.tail[j]? with
    | none => rw [e1, e2] at hj; cases hj
    | some y =>
      rw [e1, e2] at hj
      exact ⟨x, List.mem_of_getElem? e1, y, List.mem_of_mem_tail (List.mem_of_getElem? e2), (Option.some.inj hj).symm⟩
theorem mor_eqs {wd : Nat} {rs : List (List Int)} (h : ∀ r ∈ rs, r.length = wd) : Hm.Eqs (Hm.In ((mor rs).map Hm.fn)) (Hm.In (rs.map Hm.fn)) := by
  refine .by (fun x hx => ?_) (fun x hx => ?_)
  · obtain ⟨r, hr, rfl⟩ := List.mem_map.mp hx
    rcases List.mem_append.mp hr with hr | hr
    · exact .of (List.mem_map.mpr ⟨r, List.mem_reverse.mp hr, rfl⟩)
    · obtain ⟨a, ha, b, hb, rfl⟩ := mem_zip hr
      rw [fn_addl (by rw [h a ha, h b hb])]
      exact (Hm.Sm.of (R := Hm.In (rs.map Hm.fn)) (List.mem_map.mpr ⟨a, ha, rfl⟩)).ls (.of (List.mem_map.mpr ⟨b, hb, rfl⟩)) _
  · obtain ⟨r, hr, rfl⟩ := List.mem_map.mp hx
    exact .of (List.mem_map.mpr ⟨r, List.mem_append_left _ (List.mem_reverse.mpr hr), rfl⟩)
theorem mor_rk {wd : Nat} {rs : List (List Int)} (h : Rz wd rs) : ∀ r ∈ mor rs, Rk wd 0 41 r := by
  intro r hr
  have p41 : 2000000000000 ≤ 2 ^ 41 := by decide
  rcases List.mem_append.mp hr with hr | hr
  · have z := h.2 r (List.mem_reverse.mp hr)
    exact ⟨z.1, (fun j hj => absurd hj (Nat.not_lt_zero _)), fun j => Nat.le_trans (rz_fn z.2 j) (by omega)⟩
  · obtain ⟨a, ha, b, hb, rfl⟩ := mem_zip hr
    have za := h.2 a ha
    have zb := h.2 b hb
    refine ⟨?_, (fun j hj => absurd hj (Nat.not_lt_zero _)), fun j => ?_⟩
    · unfold addl
      rw [List.length_zipWith, za.1, zb.1, Nat.min_self]
    · rw [fn_addl (by rw [za.1, zb.1])]
      show (Hm.fn a j - -1 * Hm.fn b j).natAbs ≤ 2 ^ 41
      have h1 := rz_fn za.2 j
      have h2 := rz_fn zb.2 j
      omega
theorem mor_len {rs : List (List Int)} (h : rs.length ≤ 5) : (mor rs).length ≤ 9 := by
  unfold mor
  rw [List.length_append, List.length_reverse, List.length_zipWith, List.length_tail]
  omega
theorem unit_bd {wd : Nat} {d t : Int} (h1 : 1 ≤ t) (h2 : t ≤ 3) : ∀ y ∈ byl (unitl wd d) t, y.natAbs ≤ 3 := by
  intro y hy
  unfold byl unitl at hy
  rw [List.map_map] at hy
  obtain ⟨k, _, rfl⟩ := List.mem_map.mp hy
  show (t * (if ((k : Nat) : Int) = d then 1 else 0)).natAbs ≤ 3
  split <;> omega
theorem unit_len (wd : Nat) (d : Int) : (unitl wd d).length = wd := by
  unfold unitl
  rw [List.length_map, List.length_range]
theorem mk_read2 {K : PySem.W.Frag} {C : Addr} {T : List (Addr × Str)} {H : Hp} {l : Addr} {wd : Nat} {Q' : Addr → Hp → Prop} {E : XK} (h : MkT K C T H l wd (fun v H2 => ∀ x, v = .ref x → Q' x H2)) : ∀ x dx, H x = none → H dx = none → dx ≠ x → spInit K C T [.ref x, .int (wd : Nat), .ref l] (upd (upd H dx (.own x)) x (.ins C dx [])) (fun v H2 => v = .non ∧ Q' x H2) E := by
  intro x dx nx ndx ne
  obtain ⟨rs, b, n, hI, hT, h1, h3, hb, cap, hn, hk, q⟩ := h
  have s1 : Same H (upd (upd H dx (.own x)) x (.ins C dx [])) := fun a o e => by
    rw [upd_ne (ne_of_none e nx), upd_ne (ne_of_none e ndx)]
    exact e
  refine ⟨x, dx, l, rs, wd, b, n, rfl, upd_same, hI.ext (.of s1), hT.ext s1, h1, h3, hb, cap, hn, hk, ?_⟩
  intro H' qn fs rest st tb nw hx hR hFd hN hl
  have eX : LamX.ExtN H H' := fun a o e ht => st a o (ne_of_none e nx) (s1 _ _ e) ht
  exact ⟨rfl, q H' x qn fs rest eX tb (New.ext (.of s1) nw) ⟨⟨dx, hx⟩, hR⟩ hFd hN hl x rfl⟩
section
variable {P : Program} {w : World} {K : PySem.W.Frag} {mg : Str → Option Value} {base : Heap}
variable {f : Addr} {A : Around} {outer : List Env} {s : Shared} {H : Hp} {E : XK} {cdv : Value}
theorem st11 (L : Lc P w K mg base) (hr : Room 7 (A.deeper (envOfC "law" (defScope sLaw) s.heap.objs.size f cdv))) :
    ∃ t, PS (XL P w K mg base f cdv A outer s H E) (ls 11) t ∧ ∀ (D : Ends) (H0 : Hp) (b m qz qd qh x q pm : Addr) (wd : Nat) (rs ys fs hs ms : List (Addr × List Int)) (y0 y1 y2 y4 y6 y8 y9 y10 y12 : Option V), LS L.C L.T H0 b m qz qd qh x q wd rs ys fs hs → PF wd (rw_ rs) (rw_ ys) (rw_ fs) → RL H0 pm ms → rw_ ms = mor (rw_ rs) →
      (∀ H', LS L.C L.T H' b m qz qd qh x q wd rs ys fs hs → D.nx [y0, y1, y2, some (.int (wd : Nat)), y4, some (.ref qd), y6, some (.ref x), y8, y9, y10, some (.ref pm), y12] H') → t D [y0, y1, y2, some (.int (wd : Nat)), y4, some (.ref qd), y6, some (.ref x), y8, y9, y10, some (.ref pm), y12] H0 := by
  have r1 : Room 1 (A.deeper (envOfC "law" (defScope sLaw) s.heap.objs.size f cdv)) := hr.mono (by decide)
  have r2 : Room 2 (A.deeper (envOfC "law" (defScope sLaw) s.heap.objs.size f cdv)) := hr.mono (by decide)
  refine ⟨_, ps_if (PW.pt (pw_or (pt_cmpR (op_neD hr.units) (pe_meth0 (pv 7) L.TC.cl L.MR L.GR r1 L.bR .nil pass0) (pv 5) (nomark _))
    (pw_or1 (pt_not (pt_cmpR (Rs.op_eqI L.GE L.EC L.bE pass0 r2) (pv 7) (Rs.e_makeK0 L.M L.GI hr (by rfl) L.gC L.kI pass0 (pk_cons (pe_callTy call_tuple_of (by rfl) L.B.b.tuple boot_tuple (pa_cons (pv 11) pa_nil)) (pk_cons (pv 3) pk_nil))) (nomark _)))))) pss_never pss_nil, ?_⟩
  intro D H0 b m qz qd qh x q pm wd rs ys fs hs ms y0 y1 y2 y4 y6 y8 y9 y10 y12 l pf hM em nx
  obtain ⟨dx, hx⟩ := l.ta.ins
  refine ⟨_, rfl, x, dx, _, rfl, hx, rfl, x, wd, fs, rfl, l.ta.ti, fun H1 p s1 np hR => ?_⟩
  have l1 := l.same s1
  refine ⟨_, rfl, _, _, dp_rows hR, dp_rows l1.du, shaped_rows _, shaped_rows _, _, rfl, ?_⟩
  rw [eqv_rows, decide_eq_true pf.eq.symm]
  refine iteF ?_
  have hM1 := hM.same s1
  refine ⟨_, rfl, _, rfl, pm, _, rfl, .inl ⟨SqL.of hM1.lst, fun pt npt => ⟨_, rfl, rfl, rfl, ?_⟩⟩⟩
  have s2 := same_new (o := .tup (rf ms)) npt
  have l2 := l1.same s2
  have hlm : ms.length ≤ 9 := by
    have h1 : (rw_ ms).length ≤ 9 := by
      rw [em]
      exact mor_len pf.rz.1
    rw [List.length_map] at h1
    exact h1
  refine mk_read2 (K := K) (C := L.C) (T := L.T) (l := pt) (wd := wd) (E := E0) ⟨ms, 41, 9, ⟨.inr (SqT.of upd_same), fun z hz => (hM1.row z hz).same s2⟩, l2.z.tb, pf.w1, pf.w3, by decide, by decide, hlm, ?_, ?_⟩
  · rw [em]
    exact mor_rk pf.rz
  · rintro H3 x2 q2 fs2 rest2 e3 t3 nw tj hFd hN hl x2' ex
    obtain rfl : x2 = x2' := V.ref.inj ex
    have l3 := l2.ext e3 t3
    obtain ⟨dx1, hx1⟩ := l3.ta.ins
    obtain ⟨dx2, hx2⟩ := tj.ins
    obtain ⟨rest, hNr⟩ := pf.nrm
    have eqn : rw_ fs = rw_ fs2 := by
      have eq2 : Hm.Eqs (Hm.In ((rw_ rs).map Hm.fn)) (Hm.In ((rw_ ms).map Hm.fn)) := by
        rw [em]
        exact (mor_eqs fun r hr => (pf.rz.2 r hr).1).symm
      exact Hm.nrm_same hNr hN eq2
    refine ⟨x, x2, dx1, dx2, _, _, true, rfl, rfl, hx1, hx2, ⟨wd, fs, l3.ta.ti, .inl ⟨x2, wd, fs2, rfl, tj.ti, ?_⟩⟩, fun H4 e4 => ⟨_, rfl, iteF (nx H4 (l3.same e4))⟩⟩
    rw [decide_eq_true rfl, decide_eq_true eqn]
    rfl
theorem st12 (L : Lc P w K mg base) (hr : Room 7 (A.deeper (envOfC "law" (defScope sLaw) s.heap.objs.size f cdv))) :
    ∃ t, PS (XL P w K mg base f cdv A outer s H E) (ls 12) t ∧ ∀ (D : Ends) (H0 : Hp) (b m qz qd qh x q : Addr) (wd : Nat) (rs ys fs hs : List (Addr × List Int)) (y0 y2 y5 y6 y7 y8 y9 y10 y11 y12 : Option V), LS L.C L.T H0 b m qz qd qh x q wd rs ys fs hs → PF wd (rw_ rs) (rw_ ys) (rw_ fs) →
      (∀ H' (x2 q2 : Addr) (gs : List (Addr × List Int)), LS L.C L.T H' b m qz qd qh x q wd rs ys fs hs → TJ L.C H' x2 wd q2 gs → D.nx [y0, some (.ref b), y2, some (.int (wd : Nat)), some (.ref qz), y5, y6, y7, y8, y9, some (.ref x2), y11, y12] H') → t D [y0, some (.ref b), y2, some (.int (wd : Nat)), some (.ref qz), y5, y6, y7, y8, y9, y10, y11, y12] H0 := by
  have r1 : Room 1 (A.deeper (envOfC "law" (defScope sLaw) s.heap.objs.size f cdv)) := hr.mono (by decide)
  refine ⟨_, ps_set (i := 10) scLaw.nd rfl (.inl rfl) (pe_make L.M L.GI hr (by rfl) L.gC L.bI .nil pass0 (pa_cons (pv 3) (pa_cons (pe_op op_cat (pv 4) (pe_lst (pa_cons (pe_call L.cBy.ok r1 (by rfl) L.cBy.g L.cBy.kp L.cBy.b .nil pass0 (pa_cons
    (pe_call L.cUn.ok r1 (by rfl) L.cUn.g L.cUn.kp L.cUn.b .nil pass0 (pa_cons (pv 3) (pa_cons (pe_call L.cD.ok r1 (by rfl) L.cD.g L.cD.kp L.cD.b .nil pass0 (pa_cons (pv 1) (pa_cons (pv 3) pa_nil))) pa_nil)))
    (pa_cons (pe_op op_add pe_int (pe_call L.cD.ok r1 (by rfl) L.cD.g L.cD.kp L.cD.b .nil pass0 (pa_cons (pv 1) (pa_cons pe_int pa_nil)))) pa_nil))) pa_nil))) pa_nil))), ?_⟩
  intro D H0 b m qz qd qh x q wd rs ys fs hs y0 y2 y5 y6 y7 y8 y9 y10 y11 y12 l pf nx
  have w1 := pf.w1
  have w3 := pf.w3
  have hl5 : rs.length ≤ 5 := by
    have := pf.rz.1
    rw [List.length_map] at this
    exact this
  refine ⟨_, rfl, _, rfl, _, rfl, _, rfl, _, rfl, b, m, _, rfl, l.z.bx, by omega, by omega, fun d H1 d0 d1 hT1 => ?_⟩
  have l1 := l.go hT1.go
  refine ⟨wd, d, rfl, w3, fun H2 pu s2 npu hpu => ?_⟩
  have l2 := l1.same s2
  refine ⟨_, rfl, b, m, 3, rfl, l2.z.bx, by decide, by decide, fun d2 H3 e0 e1 hT3 => ⟨_, _, rfl, rfl, ?_⟩⟩
  have l3 := l2.go hT3.go
  have hpu3 : RT H3 (pu, unitl wd d) := hpu.go l2.z.bx hT3.go
  refine ⟨(pu, unitl wd d), 1 + d2, rfl, hpu3, by rw [unit_len]; exact w3, fun y hy => ?_, fun H4 pb s4 npb hpb => ?_⟩
  · have hy2 : y.natAbs < 2 ^ 2 := by
      unfold unitl at hy
      obtain ⟨k, _, rfl⟩ := List.mem_map.mp hy
      split <;> decide
    exact wide_mul (a := 3) (show (1 + d2).natAbs < 2 ^ 3 by omega) hy2 (by omega) (by omega) (by omega)
  have l4 := l3.same s4
  refine ⟨(by show 1 ≤ sizeLine; decide), fun p1 np1 => ?_⟩
  have s5 := same_new (o := .lst [.ref pb]) np1
  have l5 := l4.same s5
  refine ⟨qz, p1, _, _, rfl, rfl, l5.rz.lst, upd_same, ?_, fun p np => ?_⟩
  · rw [List.length_map]
    exact Nat.le_trans (show rs.length + 1 ≤ 6 by omega) (by decide)
  have s6 := same_new (o := .lst (rf rs ++ [.ref pb])) np
  have l6 := l5.same s6
  have hpb6 : RT _ (pb, byl (unitl wd d) (1 + d2)) := (hpb.same s5).same s6
  have hR6 : RL (upd (upd H4 p1 (.lst [.ref pb])) p (.lst (rf rs ++ [.ref pb]))) p (rs ++ [(pb, byl (unitl wd d) (1 + d2))]) := by
    refine ⟨?_, fun z hz => ?_⟩
    · rw [upd_same]
      exact congrArg (fun z => some (HO.lst z)) (rf_snoc rs pb _)
    · rcases List.mem_append.mp hz with h | h
      · exact l6.rz.row z h
      · obtain rfl := List.mem_singleton.mp h
        exact hpb6
  refine mk_read2 (K := K) (C := L.C) (T := L.T) (l := p) (wd := wd) (E := E0) ⟨_, 40, 6, hR6.ri, l6.z.tb, w1, w3, by decide, by decide, by rw [List.length_append, List.length_singleton]; omega, ?_, ?_⟩
  · intro r hr
    have e : rw_ (rs ++ [(pb, byl (unitl wd d) (1 + d2))]) = rw_ rs ++ [byl (unitl wd d) (1 + d2)] := List.map_append
    rw [e] at hr
    rcases List.mem_append.mp hr with h | h
    · exact pf.rz.rk r h
    · obtain rfl := List.mem_singleton.mp h
      refine ⟨?_, (fun j hj => absurd hj (Nat.not_lt_zero _)), fun j => Nat.le_trans (rz_fn (unit_bd (by omega) (by omega)) j) (by decide)⟩
      unfold byl
      rw [List.length_map]
      exact unit_len wd d
  · rintro H7 x2 q2 gs rest2 e7 t7 nw tj hFd hN hl x2' ex
    obtain rfl : x2 = x2' := V.ref.inj ex
    exact nx H7 x2 q2 gs (l6.ext e7 t7) tj
theorem st13 (L : Lc P w K mg base) (hr : Room 7 (A.deeper (envOfC "law" (defScope sLaw) s.heap.objs.size f cdv))) :
    ∃ t, PS (XL P w K mg base f cdv A outer s H E) (ls 13) t ∧ ∀ (D : Ends) (H0 : Hp) (b m qz qd qh x q x2 q2 : Addr) (wd : Nat) (rs ys fs hs gs : List (Addr × List Int)) (y0 y1 y2 y3 y4 y6 y8 y9 y11 y12 : Option V), LS L.C L.T H0 b m qz qd qh x q wd rs ys fs hs → PF wd (rw_ rs) (rw_ ys) (rw_ fs) → TJ L.C H0 x2 wd q2 gs →
      (∀ H', Zz L.T b m H' → D.nx [y0, y1, y2, y3, y4, some (.ref qd), y6, some (.ref x), y8, y9, some (.ref x2), y11, y12] H') → t D [y0, y1, y2, y3, y4, some (.ref qd), y6, some (.ref x), y8, y9, some (.ref x2), y11, y12] H0 := by
  have r1 : Room 1 (A.deeper (envOfC "law" (defScope sLaw) s.heap.objs.size f cdv)) := hr.mono (by decide)
  have r2 : Room 2 (A.deeper (envOfC "law" (defScope sLaw) s.heap.objs.size f cdv)) := hr.mono (by decide)
  have r3 : Room 3 (A.deeper (envOfC "law" (defScope sLaw) s.heap.objs.size f cdv)) := hr.mono (by decide)
  refine ⟨_, ps_if (PW.pt (pw_or (pt_not (pt_val (pe_call L.cS0.ok r1 (by rfl) L.cS0.g L.cS0.kp L.cS0.b .nil pass0 (pa_cons (pe_cmpR (Rs.op_eqI L.GE L.EC L.bE pass0 r2) (pv 7) (pv 10) (nomark _)) (pa_cons (pe_cmpR (op_eqD hr.units) (pe_meth0 (pv 10) L.TC.cl L.MR L.GR r1 L.bR .nil pass0) (pv 5) (nomark _)) pa_nil)))))
    (pw_or1 (pt_cmpR (Rs.op_inF L.GE L.EC L.bE pass0 r3) (pv 7) (pe_lst (pa_cons pe_non (pa_cons (pv 5) (pa_cons pe_int pa_nil)))) (by rfl))))) pss_never pss_nil, ?_⟩
  intro D H0 b m qz qd qh x q x2 q2 wd rs ys fs hs gs y0 y1 y2 y3 y4 y6 y8 y9 y11 y12 l pf tj nx
  obtain ⟨dx, hx⟩ := l.ta.ins
  obtain ⟨dx2, hx2⟩ := tj.ins
  refine ⟨_, rfl, _, rfl, x, x2, dx, dx2, _, _, _, rfl, rfl, hx, hx2, ⟨wd, fs, l.ta.ti, .inl ⟨x2, wd, gs, rfl, tj.ti, rfl⟩⟩, fun H1 e1 => ?_⟩
  have l1 := l.same e1
  have tj1 := tj.ext (.of e1)
  refine ⟨_, rfl, x2, dx2, _, rfl, e1 _ _ hx2, rfl, x2, wd, gs, rfl, tj1.ti, fun H2 p s2 np hR => ?_⟩
  have l2 := l1.same s2
  refine ⟨_, rfl, _, _, dp_rows hR, dp_rows l2.du, shaped_rows _, shaped_rows _, _, _, rfl, ⟨?_, .inr (.inr (.inl ⟨_, rfl⟩))⟩, fun H3 s3 => ?_⟩
  · rw [eqv_rows, pf.eq]
    show V.bl (decide (wd = wd) && decide (rw_ fs = rw_ gs)) = V.bl (decide (rw_ gs = rw_ fs))
    rw [decide_eq_true rfl, Bool.true_and]
    congr 1
    by_cases h : rw_ fs = rw_ gs
    · rw [decide_eq_true h, decide_eq_true h.symm]
    · rw [decide_eq_false h, decide_eq_false fun z => h z.symm]
  · have l3 := l2.same s3
    refine ⟨true, rfl, iteF ?_⟩
    refine ⟨_, rfl, _, rfl, (by show 3 ≤ sizeLine; decide), fun pl npl => ?_⟩
    have s4 := same_new (o := .lst [.non, .ref qd, .int 0]) npl
    have l4 := l3.same s4
    obtain ⟨dx4, hx4⟩ := l4.ta.ins
    refine ⟨x, pl, dx4, _, _, rfl, rfl, hx4, upd_same, fun z hz => ?_, fun H5 e5 => ⟨_, rfl, iteF (nx H5 (l4.same e5).z)⟩⟩
    have key : Rs.Fgn (upd H3 pl (.lst [.non, .ref qd, .int 0])) z := by
      rcases List.mem_cons.mp hz with rfl | hz
      · exact .inl rfl
      rcases List.mem_cons.mp hz with rfl | hz
      · exact .inr (.inr (.inr ⟨qd, _, rfl, l4.du.lst⟩))
      · obtain rfl := List.mem_singleton.mp hz
        exact .inr (.inl ⟨0, rfl⟩)
    exact ⟨key, fun H5 e5 => ⟨wd, fs, (l4.same e5).ta.ti, .inr ⟨key.ext e5, rfl⟩⟩⟩
end
end K4
set_option maxRecDepth 100000
set_option maxHeartbeats 2000000
namespace K4
open PySem PySem.Spec PyProof.Rows L2
theorem last_rows {fs rest : List (List Int)} (h : Hm.Nrm 2 2 [[4, 2], [2, -2]] fs rest) : fs = [[2, 4], [0, 6]] := by
  have n0 : Hm.Nrm 2 0 [[4, 2], [2, -2]] [] [[4, 2], [2, -2]] := Hm.nrm_start fun r hr => by
    rcases List.mem_cons.mp hr with rfl | hr
    · rfl
    · obtain rfl := List.mem_singleton.mp hr
      rfl
  have e1 : Hm.fn [0, 6] = Hm.ls (Hm.fn [4, 2]) (Hm.fn [2, -2]) 2 := by
    rw [← Hm.fn_lsl (by rfl)]
    rfl
  have e2 : Hm.fn [4, 2] = Hm.ls (Hm.fn [0, 6]) (Hm.fn [2, -2]) (-2) := by
    rw [← Hm.fn_lsl (by rfl)]
    rfl
  have s0 : Hm.Swp 0 ([[4, 2], [2, -2]].map Hm.fn) (some (Hm.fn [2, -2])) ([[0, 6]].map Hm.fn) := by
    refine ⟨fun r hr => ?_, by decide, .by (fun x hx => ?_) (fun x hx => ?_)⟩
    · obtain rfl := List.mem_singleton.mp hr
      rfl
    · rcases List.mem_cons.mp hx with rfl | hx
      · rw [e2]
        exact (Hm.Sm.of (R := Hm.In (Hm.fn [2, -2] :: [[0, 6]].map Hm.fn)) (List.mem_cons_of_mem _ List.mem_cons_self)).ls (.of List.mem_cons_self) _
      · obtain rfl := List.mem_singleton.mp hx
        exact .of List.mem_cons_self
    · rcases List.mem_cons.mp hx with rfl | hx
      · exact .of (List.mem_cons_of_mem _ List.mem_cons_self)
      · obtain rfl := List.mem_singleton.mp hx
        rw [e1]
        exact (Hm.Sm.of (R := Hm.In ([[4, 2], [2, -2]].map Hm.fn)) List.mem_cons_self).ls (.of (List.mem_cons_of_mem _ List.mem_cons_self)) _
  have n1 := Hm.nrm_some n0 (by decide) rfl s0
  have s1 : Hm.Swp 1 ([[0, 6]].map Hm.fn) (some (Hm.fn [0, 6])) (([] : List (List Int)).map Hm.fn) := ⟨(fun r hr => nomatch hr), by decide, Hm.Eqs.refl _⟩
  have n2 := Hm.nrm_some n1 (by decide) rfl s1
  have e := Hm.nrm_same h n2 (Hm.Eqs.refl _)
  rw [e]
  rfl
def spLaw (K : PySem.W.Frag) (Pt : Addr) : Sp := fun vs H Q _ => ∃ (a : Addr) (ns : List Int), vs = [.ref a] ∧ SqL K H a (ns.map V.int) ∧ ns.length ≤ 63 ∧ H Pt = some (.tbl #[]) ∧ ∀ H', Q (.bl true) H'
section
variable {P : Program} {w : World} {K : PySem.W.Frag} {mg : Str → Option Value} {base : Heap}
variable {f : Addr} {fd : FuncData} {A : Around} {outer : List Env} {s : Shared} {H : Hp} {E : XK} {cdv : Value}
theorem lbody (L : Lc P w K mg base) (hr : Room 7 (A.deeper (envOfC "law" (defScope sLaw) s.heap.objs.size f cdv))) :
    ∃ t, PSs (XL P w K mg base f cdv A outer s H E) lb t ∧ ∀ (D : Ends) (H0 : Hp) (a b m : Addr) (y2 y3 y4 y5 y6 y7 y8 y9 y10 y11 y12 : Option V), Zz L.T b m H0 →
      (∀ (H' : Hp) (z2 z3 z4 z5 z6 z7 z8 z9 z10 z11 z12 : Option V), Zz L.T b m H' → D.nx [some (.ref a), some (.ref b), z2, z3, z4, z5, z6, z7, z8, z9, z10, z11, z12] H') →
      t D [some (.ref a), some (.ref b), y2, y3, y4, y5, y6, y7, y8, y9, y10, y11, y12] H0 := by
  obtain ⟨t0, p0, q0⟩ := st0 (f := f) (cdv := cdv) (outer := outer) (H := H) (E := E) L hr
  obtain ⟨t1, p1, q1⟩ := st1 (f := f) (cdv := cdv) (outer := outer) (H := H) (E := E) L hr
  obtain ⟨t2, t3, p2, p3, q23⟩ := st23 (f := f) (cdv := cdv) (outer := outer) (H := H) (E := E) L hr
  obtain ⟨t4, p4, q4⟩ := st4 (f := f) (cdv := cdv) (outer := outer) (H := H) (E := E) L hr
  obtain ⟨t5, p5, q5⟩ := st5 (f := f) (cdv := cdv) (outer := outer) (H := H) (E := E) L hr
  obtain ⟨t6, p6, q6⟩ := st6 (f := f) (cdv := cdv) (A := A) (outer := outer) (s := s) (H := H) (E := E) L
  obtain ⟨t7, p7, q7⟩ := st7 (f := f) (cdv := cdv) (outer := outer) (H := H) (E := E) L hr
  obtain ⟨t8, p8, q8⟩ := st8 (f := f) (cdv := cdv) (outer := outer) (H := H) (E := E) L hr
  obtain ⟨t9, p9, q9⟩ := st9 (f := f) (cdv := cdv) (outer := outer) (H := H) (E := E) L hr
  obtain ⟨t10, p10, q10⟩ := st10 (f := f) (cdv := cdv) (outer := outer) (H := H) (E := E) L hr
  obtain ⟨t11, p11, q11⟩ := st11 (f := f) (cdv := cdv) (outer := outer) (H := H) (E := E) L hr
  obtain ⟨t12, p12, q12⟩ := st12 (f := f) (cdv := cdv) (outer := outer) (H := H) (E := E) L hr
  obtain ⟨t13, p13, q13⟩ := st13 (f := f) (cdv := cdv) (outer := outer) (H := H) (E := E) L hr
  rw [lb_is]
  refine ⟨_, pss_cons p0 (pss_cons p1 (pss_cons p2 (pss_cons p3 (pss_cons p4 (pss_cons p5 (pss_cons p6 (pss_cons p7 (pss_cons p8 (pss_cons p9 (pss_cons p10 (pss_cons p11 (pss_cons p12 (pss_one p13))))))))))))), ?_⟩
  intro D H0 a b m y2 y3 y4 y5 y6 y7 y8 y9 y10 y11 y12 z nx
  refine q0 _ H0 a b m y2 y3 y4 y5 y6 y7 y8 y9 y10 y11 y12 z fun wd H1 w1 w3 z1 => ?_
  refine q1 _ H1 a b m wd y2 y4 y5 y6 y7 y8 y9 y10 y11 y12 z1 w3 fun qz rs H2 z2 hR hRz nqz => ?_
  refine q23 { nx := _, rt := D.rt, bk := D.bk, ct := D.ct } H2 a b m qz wd rs y2 y5 y6 y7 y8 y9 y10 y11 y12 z2 w1 w3 hR hRz nqz fun qd qh x q ys fs H3 l3 pf hyb => ?_
  refine q4 _ H3 qd wd ys _ _ _ _ _ _ y8 y9 y10 y11 y12 l3.du w3 hyb ?_
  have h3 : ∀ r ∈ rw_ fs, r.length ≤ 3 := fun r hr => by
    rw [← pf.eq] at hr
    rw [(hyb r hr).1]
    exact w3
  refine q5 _ H3 x q qd wd (rw_ rs) ys fs _ _ _ _ _ y9 y10 y11 y12 l3.du l3.ta pf h3 fun H4 s4 => ?_
  have l4 := l3.same s4
  have hl5 : rs.length ≤ 5 := by
    have := hRz.1
    rw [List.length_map] at this
    exact this
  have hfl : fs.length ≤ 3 := by
    have := pf.le
    rw [List.length_map] at this
    omega
  have rest : ∀ (wo : Str), txR wd (rw_ fs) = txL wd wo → wo.length ≤ 3000 → ∀ v8 : Option V, tSeq t7 (tSeq t8 (tSeq t9 (tSeq t10 (tSeq t11 (tSeq t12 t13))))) D [some (.ref a), some (.ref b), y2, some (.int (wd : Nat)), some (.ref qz), some (.ref qd), some (.ref qh), some (.ref x), v8, some (.str wo), y10, y11, y12] H4 := by
    intro wo ht hwo v8
    refine q7 _ H4 x q wd fs wo _ _ _ _ _ _ _ _ _ _ l4.ta w3 pf.bd ht hwo ?_
    refine q8 _ H4 b m qz qd qh x q wd rs ys fs rs _ _ _ _ _ _ _ _ _ _ _ l4 w3 (by omega) fun H5 hs5 l5 => ?_
    refine q9 _ H5 x q wd fs _ _ _ _ _ _ _ _ _ _ _ l5.ta w3 (by omega) fun H6 s6 => ?_
    have l6 := l5.same s6
    refine q10 _ H6 qz wd rs _ _ _ _ _ _ _ _ _ _ _ _ l6.rz w3 (fun r hr => (hRz.2 r hr).1) hl5 fun H7 pm ms s7 hM em => ?_
    have l7 := l6.same s7
    refine q11 _ H7 b m qz qd qh x q pm wd rs ys fs hs5 ms _ _ _ _ _ _ _ _ _ l7 pf hM em fun H8 l8 => ?_
    refine q12 _ H8 b m qz qd qh x q wd rs ys fs hs5 _ _ _ _ _ _ _ _ _ _ l8 pf fun H9 x2 q2 gs l9 tj => ?_
    exact q13 _ H9 b m qz qd qh x q x2 q2 wd rs ys fs hs5 gs _ _ _ _ _ _ _ _ _ _ l9 pf tj fun H10 z10 => nx H10 _ _ _ _ _ _ _ _ _ _ _ z10
  by_cases hlt : (rw_ fs).length < wd
  · have em : mny wd (rw_ fs) = .non := by
      unfold mny
      rw [if_pos hlt]
    refine q6 _ H4 (mnl wd (rw_ ys)) _ _ _ _ _ _ _ _ _ _ _ _ (.inl (by rw [← pf.idx]; exact em)) (fun _ => rest _ (tx_non em) (by decide +kernel) _) (fun m hm => ?_)
    rw [← pf.idx, em] at hm
    cases hm
  · have em : mny wd (rw_ fs) = .int (prod ((rw_ fs).map ldr)) := by
      unfold mny
      rw [if_neg hlt]
    have lm := pf.bd _ em
    refine q6 _ H4 (mnl wd (rw_ ys)) _ _ _ _ _ _ _ _ _ _ _ _ (.inr ⟨_, by rw [← pf.idx]; exact em, lm⟩) (fun hm => ?_) (fun m hm => ?_)
    · rw [← pf.idx, em] at hm
      cases hm
    · have e2 : mny wd (rw_ fs) = .int m := by
        rw [pf.idx]
        exact hm
      refine rest _ (tx_int e2) ?_ _
      exact fit2 (fitI m (pf.bd m e2)) (show (Str.ofString " places").length ≤ 100 by decide +kernel) (by omega)
theorem ok_law (L : Lc P w K mg base) {Pt : Addr} (hT : L.T = [(Pt, qS)]) (F : Fun K "law" "law" sLaw f fd) : FnOk P w K mg base CX0 8 f fd ["_law_script"] (spLaw K Pt) := by
  refine F.ok scLaw (fun vs H Q E h => ?_) (fun cdv A outer s H vs Q E hr h => ?_)
  · obtain ⟨a, ns, rfl, _⟩ := h
    rfl
  · obtain ⟨a, ns, rfl, hS, hl, hP, q⟩ := h
    have r1 : Room 1 (A.deeper (envOfC "law" (defScope sLaw) s.heap.objs.size f cdv)) := hr.mono (by decide)
    have r3 : Room 3 (A.deeper (envOfC "law" (defScope sLaw) s.heap.objs.size f cdv)) := hr.mono (by decide)
    obtain ⟨tb, PB, RB⟩ := lbody (f := f) (cdv := cdv) (outer := outer) (H := H) (E := E) L hr
    refine ⟨_, pss_cons (ps_set (i := 1) scLaw.nd rfl (.inl rfl) (pe_call L.cBeg.ok r1 (by rfl) L.cBeg.g L.cBeg.kp L.cBeg.b .nil pass0 (pa_cons (pv 0) pa_nil)))
      (pss_cons (ps_for PassesOwn.never rfl (pi_range1 (by rfl) L.B.b.range (pa_cons pe_int pa_nil)) (pg_name (i := 2) scLaw.nd rfl (Or.inl rfl)) PB)
      (pss_one (ps_ret (pe_and (pe_cmpR (Rs.op_neI L.GE L.EC L.bE pass0 r3) (pe_make L.M L.GI hr (by rfl) L.gC L.bI0 L.vI0 pass0 (pa_cons pe_int pa_nil)) (pe_make L.M L.GI hr (by rfl) L.gC L.bI0 L.vI0 pass0 (pa_cons pe_int pa_nil)) (nomark _))
        (pe_one (pe_cmpR (op_eqD hr.units) (pe_meth0 (pe_make L.M L.GI hr (by rfl) L.gC L.bI .nil pass0 (pa_cons pe_int (pa_cons (pe_lst (pa_cons (pe_tup (pa_cons pe_int (pa_cons pe_int pa_nil))) (pa_cons (pe_tup (pa_cons pe_int (pa_cons (pe_un un_neg pe_int) pa_nil))) pa_nil))) pa_nil))) L.TC.cl L.MR L.GR r1 L.bR .nil pass0)
          (pe_lst (pa_cons (pe_tup (pa_cons pe_int (pa_cons pe_int pa_nil))) (pa_cons (pe_tup (pa_cons pe_int (pa_cons pe_int pa_nil))) pa_nil))) (nomark _))))))), ?_⟩
    refine ⟨_, rfl, a, ns, rfl, hS, hl, fun H1 b m s1 nb bx => ?_⟩
    have tb1 : LamX.Tabs L.T H1 := by
      intro p hp
      rw [hT] at hp
      have e : p = (Pt, qS) := by simpa using hp
      rw [e]
      exact LamX.TabS.nil (s1 _ _ hP)
    refine ⟨4, rfl, by decide, by decide, ?_⟩
    refine for_it (walk_range (lo := 0) (n := (4 : Int).toNat)) (fun i σ H2 => ∃ z2 z3 z4 z5 z6 z7 z8 z9 z10 z11 z12 : Option V, σ = [some (.ref a), some (.ref b), z2, z3, z4, z5, z6, z7, z8, z9, z10, z11, z12] ∧ Zz L.T b m H2) ⟨none, none, none, none, none, none, none, none, none, none, none, rfl, bx, tb1⟩ (fun _ _ _ _ _ => trivial) ?_ ?_
    · rintro i x σ H2 H2' hi ⟨z2, z3, z4, z5, z6, z7, z8, z9, z10, z11, z12, rfl, zz⟩ ⟨rfl, rfl⟩
      exact RB _ H2' a b m _ z3 z4 z5 z6 z7 z8 z9 z10 z11 z12 zz fun H' z2 z3 z4 z5 z6 z7 z8 z9 z10 z11 z12 zz' => ⟨_, _, _, _, _, _, _, _, _, _, _, rfl, zz'⟩
    · rintro σ H2 ⟨z2, z3, z4, z5, z6, z7, z8, z9, z10, z11, z12, rfl, zz⟩
      refine mk_read2 (K := K) (C := L.C) (T := L.T) (l := L.e0) (wd := 1) (E := E0) ⟨[], 1, 0, ⟨.inr (L.sq0 _), fun x hx => nomatch hx⟩, zz.tb, by decide, by decide, by decide, by decide, Nat.le_refl _, (fun r hr => nomatch hr), ?_⟩
      rintro H3 x1 q1 fs1 rest1 e3 t3 nw1 tj1 hFd1 hN1 hl1 x1' ex1
      obtain rfl : x1 = x1' := V.ref.inj ex1
      refine mk_read2 (K := K) (C := L.C) (T := L.T) (l := L.e0) (wd := 2) (E := E0) ⟨[], 1, 0, ⟨.inr (L.sq0 _), fun x hx => nomatch hx⟩, t3, by decide, by decide, by decide, by decide, Nat.le_refl _, (fun r hr => nomatch hr), ?_⟩
      rintro H4 x2 q2 fs2 rest2 e4 t4 nw2 tj2 hFd2 hN2 hl2 x2' ex2
      obtain rfl : x2 = x2' := V.ref.inj ex2
      have tj1' := tj1.ext e4
      obtain ⟨dx1, hx1⟩ := tj1'.ins
      obtain ⟨dx2, hx2⟩ := tj2.ins
      refine ⟨x1, x2, dx1, dx2, _, _, false, rfl, rfl, hx1, hx2, ⟨1, fs1, tj1'.ti, .inl ⟨x2, 2, fs2, rfl, tj2.ti, rfl⟩⟩, fun H5 e5 => ⟨_, rfl, iteT ?_⟩⟩
      have tb5 := t4.ext e5
      refine ⟨(by show 2 ≤ sizeLine; decide), fun p1 np1 => ⟨_, rfl, (by show 2 ≤ sizeLine; decide), fun p2 np2 => ⟨(by show 2 ≤ sizeLine; decide), fun pl npl => ?_⟩⟩⟩
      have s5 := same_new (H := H5) (o := .tup [.int 4, .int 2]) np1
      have s6 := same_new (H := upd H5 p1 (.tup [.int 4, .int 2])) (o := .tup [.int 2, .int (-2)]) np2
      have s7 := same_new (H := upd (upd H5 p1 (.tup [.int 4, .int 2])) p2 (.tup [.int 2, .int (-2)])) (o := .lst [.ref p1, .ref p2]) npl
      have hR : RL (upd (upd (upd H5 p1 (.tup [.int 4, .int 2])) p2 (.tup [.int 2, .int (-2)])) pl (.lst [.ref p1, .ref p2])) pl [(p1, [4, 2]), (p2, [2, -2])] := by
        refine ⟨upd_same, fun z hz => ?_⟩
        rcases List.mem_cons.mp hz with rfl | hz
        · exact s7 _ _ (s6 _ _ upd_same)
        · obtain rfl := List.mem_singleton.mp hz
          exact s7 _ _ upd_same
      have tb7 : LamX.Tabs L.T (upd (upd (upd H5 p1 (.tup [.int 4, .int 2])) p2 (.tup [.int 2, .int (-2)])) pl (.lst [.ref p1, .ref p2])) := ((tb5.ext s5).ext s6).ext s7
      refine mk_read2 (K := K) (C := L.C) (T := L.T) (l := pl) (wd := 2) (E := E0) ⟨_, 3, 2, hR.ri, tb7, by decide, by decide, by decide, by decide, Nat.le_refl _, ?_, ?_⟩
      · have key : ∀ x y : Int, x.natAbs ≤ 2 ^ 3 → y.natAbs ≤ 2 ^ 3 → Rk 2 0 3 [x, y] := fun x y hx hy => ⟨rfl, (fun j hj => absurd hj (Nat.not_lt_zero _)), fun j => match j with
          | 0 => hx
          | 1 => hy
          | n + 2 => Nat.zero_le _⟩
        intro r hr
        rcases List.mem_cons.mp hr with rfl | hr
        · exact key _ _ (by decide) (by decide)
        · obtain rfl := List.mem_singleton.mp hr
          exact key _ _ (by decide) (by decide)
      rintro H6 x3 q3 fs3 rest3 e6 t6 nw3 tj3 hFd3 hN3 hl3 x3' ex3
      obtain rfl : x3 = x3' := V.ref.inj ex3
      obtain ⟨dx3, hx3⟩ := tj3.ins
      have e3r := last_rows hN3
      refine ⟨x3, dx3, _, rfl, hx3, rfl, x3, 2, fs3, rfl, tj3.ti, fun H7 p s8 np hR7 => ?_⟩
      refine ⟨(by show 2 ≤ sizeLine; decide), fun u1 nu1 => ⟨(by show 2 ≤ sizeLine; decide), fun u2 nu2 => ⟨(by show 2 ≤ sizeLine; decide), fun ul nul => ?_⟩⟩⟩
      have v1 := same_new (H := H7) (o := .tup [.int 2, .int 4]) nu1
      have v2 := same_new (H := upd H7 u1 (.tup [.int 2, .int 4])) (o := .tup [.int 0, .int 6]) nu2
      have v3 := same_new (H := upd (upd H7 u1 (.tup [.int 2, .int 4])) u2 (.tup [.int 0, .int 6])) (o := .lst [.ref u1, .ref u2]) nul
      have hU : RL (upd (upd (upd H7 u1 (.tup [.int 2, .int 4])) u2 (.tup [.int 0, .int 6])) ul (.lst [.ref u1, .ref u2])) ul [(u1, [2, 4]), (u2, [0, 6])] := by
        refine ⟨upd_same, fun z hz => ?_⟩
        rcases List.mem_cons.mp hz with rfl | hz
        · exact v3 _ _ (v2 _ _ upd_same)
        · obtain rfl := List.mem_singleton.mp hz
          exact v3 _ _ upd_same
      have hR8 := ((hR7.same v1).same v2).same v3
      refine ⟨_, _, dp_rows hR8, dp_rows hU, shaped_rows _, shaped_rows _, ?_⟩
      rw [eqv_rows, e3r]
      exact q _
end
end K4
set_option maxRecDepth 100000
set_option maxHeartbeats 0
namespace K4
open PySem PySem.Spec PyProof.Rows L2
def dD (x : Str) (st : Stmt) : He.DefD := ⟨(x, none), x, x, defArgs st, defBody st, defScope st, [], []⟩
def dM (c m q : Str) (st : Stmt) : He.DefD := ⟨(c, some m), m, q, defArgs st, defBody st, defScope st, [], []⟩
def dIni : He.DefD := ⟨("Table", some "__init__"), "__init__", "Table.__init__", defArgs sInit, defBody sInit, defScope sInit, [.adr (He.dflAt ("Table", some "__init__") 0)], []⟩
def e0A (K : PySem.W.Frag) : Addr := He.dflAt ("Table", some "__init__") 0 K
/-- an empty tuple of the module -/
def et0 (K : PySem.W.Frag) (a : Addr) : Bool := match K.lookup a with
  | some ⟨.type c, _, .seq its _, _⟩ => decide (c = "tuple") && its.toList.isEmpty
  | _ => false
theorem et0_ok {K : PySem.W.Frag} {a : Addr} (h : et0 K a = true) (H : Hp) : SqT K H a [] := by
  unfold et0 at h
  split at h
  · rename_i c od its n osl e
    obtain ⟨h1, h2⟩ := He.ba h
    have e2 : its.toList = [] := List.isEmpty_iff.mp h2
    refine .inr ⟨_, its, n, e, congrArg Value.type (of_decide_eq_true h1), rfl, ?_, ?_⟩
    · have e3 : its.size = 0 := by rw [← Array.length_toList, e2]; rfl
      rw [e3]
      exact Nat.zero_le _
    · rw [e2]
      exact .nil
  · cases h
abbrev tA (K : PySem.W.Frag) : Addr := He.ga K "Table"
abbrev eqA (K : PySem.W.Frag) : Addr := He.ma K (tA K) "__eq__"
abbrev rpA (K : PySem.W.Frag) : Addr := He.ma K (tA K) "__repr__"
def exL (K : PySem.W.Frag) : List Bool := [
  He.eqO (PySem.W.findIn K (.ref (tA K)) "__eq__") (some (some (.ref (eqA K)))),
  PySem.W.isFn K (.ref (eqA K)),
  He.eqO (PySem.W.findIn K (.ref (tA K)) "__ne__") (some (some (.builtin "object.__ne__"))),
  decide (PySem.W.mroIn K (tA K) (.type "object") = some true),
  decide (PySem.W.subIn K (.ref (tA K)) (.type "list") = some false),
  decide (PySem.W.subIn K (.ref (tA K)) (.type "tuple") = some false),
  decide (PySem.W.subIn K (.ref (tA K)) (.type "NoneType") = some false),
  decide (PySem.W.subIn K (.ref (tA K)) (.type "int") = some false),
  decide (PySem.W.subIn K (.ref (tA K)) (.type "str") = some false),
  He.eqO (PySem.W.findIn K (.ref (tA K)) "__class__") (some (some (.builtin "object.__class__"))),
  He.eqO (PySem.W.specialIn K (.builtin "object.__class__") "__get__") (some (some (.builtin "getset_descriptor.__get__"))),
  decide (PySem.W.takesIn K (.builtin "object.__class__") = some true),
  decide (PySem.W.kitOne K (.ref (tA K)) (.ref (tA K)) = some true),
  decide (PySem.W.kitOne K (.type "NoneType") (.ref (tA K)) = some false),
  decide (PySem.W.kitOne K (.type "int") (.ref (tA K)) = some false),
  decide (PySem.W.kitOne K (.type "str") (.ref (tA K)) = some false),
  decide (PySem.W.kitOne K (.type "list") (.ref (tA K)) = some false),
  He.eqO (PySem.W.findIn K (.ref (tA K)) "__repr__") (some (some (.ref (rpA K)))),
  PySem.W.isFn K (.ref (rpA K)),
  Rs.propB K (tA K) "Table.width" "width" "wide",
  Rs.propB K (tA K) "Table.size" "size" "many",
  et0 K (e0A K)]
def exK (K : PySem.W.Frag) : Bool := (exL K).all id
theorem exK_at {K : PySem.W.Frag} (h : exK K = true) (i : Nat) {b : Bool} (e : (exL K)[i]? = some b) : b = true := List.all_eq_true.mp h b (List.mem_of_getElem? e)
theorem eqCls {K : PySem.W.Frag} (h : exK K = true) : Rs.EqCls K (tA K) (eqA K) :=
  ⟨He.eqO_ok (exK_at h 0 rfl), exK_at h 1 rfl, He.eqO_ok (exK_at h 2 rfl), of_decide_eq_true (exK_at h 3 rfl), of_decide_eq_true (exK_at h 4 rfl), of_decide_eq_true (exK_at h 5 rfl), of_decide_eq_true (exK_at h 6 rfl), of_decide_eq_true (exK_at h 7 rfl), of_decide_eq_true (exK_at h 8 rfl)⟩
theorem iCls {K : PySem.W.Frag} (h : exK K = true) : ICls K (tA K) :=
  ⟨He.eqO_ok (exK_at h 9 rfl), He.eqO_ok (exK_at h 10 rfl), of_decide_eq_true (exK_at h 11 rfl), of_decide_eq_true (exK_at h 3 rfl), of_decide_eq_true (exK_at h 12 rfl), of_decide_eq_true (exK_at h 13 rfl), of_decide_eq_true (exK_at h 14 rfl), of_decide_eq_true (exK_at h 15 rfl), of_decide_eq_true (exK_at h 16 rfl)⟩
def fn : List He.DefD := [dD "is_number" sNum, dD "is_number_from" sNumF, dD "is_number_tuple" sNumT, dD "normal_rows" sNormal, dD "swept" sSwept, dD "with_positive" sPositive, dD "less" sLess, dD "lead_at" sLead, dD "diagonal_of" sDiag, dD "index_of" sIndex, dD "_law_begin" sBegin, dD "_law_draw" sDraw, dD "_law_any" sAny, dD "_law_same" sSame, dD "_law_add" sAdd, dD "_law_less" sLessL, dD "_law_by" sBy, dD "_law_unit" sUnit, dD "_law_first_at" sFirst, dD "_law_normal" sNormL, dD "_law_index" sIndexL, dD "_law_rows" sRowsL, dD "law" sLaw, dIni, dM "Table" "rows" "Table.rows" sRows, dM "Table" "__eq__" "Table.__eq__" sEq, dM "Table" "__repr__" "Table.__repr__" sRepr]
def gl : List Str := (["is_number", "is_number_from", "is_number_tuple", "normal_rows", "swept", "with_positive", "less", "lead_at", "diagonal_of", "index_of", "_law_begin", "_law_draw", "_law_any", "_law_same", "_law_add", "_law_less", "_law_by", "_law_unit", "_law_first_at", "_law_normal"] : List Str) ++ (["_law_index", "_law_rows", "law", "Table"] : List Str)
def fr : List Str := ["tuple", "zip", "abs", "sorted", "range", "len", "list", "isinstance", "int", "bool", "str", "all", "enumerate", "repr", "max"]
def fo : List He.Fa := [.int "WIDEST" 3, .cls "Table", .noat "Table" "wide", .noat "Table" "normal", .noat "Table" "many", .meth "Table" "rows", .mkr "Table"]
def fa : List He.Fa := gl.map He.Fa.glo ++ (fr.map He.Fa.free ++ fo)
abbrev R : PySem.W.OpenRow := PySem.W.OpenLaw.row PySem.Challenge.rw_roundswap_k04_tables_and_their_normal_ro
abbrev tf : List He.Defn := [("swept", none)]
abbrev hk : PySem.W.Hook := He.hookX 5 fa fn [] tf exK
def ob8 (s : PySem.W.SharedT) : He.AlX := He.obsX 5 fa fn [] tf exK (HandSHeadRun.getT s)
theorem ob_eq (s : PySem.W.SharedT) : ob8 s = hk.obs s.abs := He.obsX_eq (HandSHeadRun.getT_eq s)
def loose : List Str := (["_wall", "TownError", "InvalidCounts", "InvalidTable", "InvalidNumber", "Endless", "WIDEST", "Table", "reduced", "tuples_below", "is_number", "is_number_from", "is_number_tuple", "normal_rows", "swept", "with_positive", "less", "lead_at", "diagonal_of", "index_of"] : List Str) ++ (["_law_begin", "_law_draw", "_law_any", "_law_same", "_law_add", "_law_less", "_law_by", "_law_unit", "_law_first_at", "_law_normal", "_law_index", "_law_rows"] : List Str)
end K4
set_option maxRecDepth 100000
set_option maxHeartbeats 0
namespace K4
open PySem PySem.Spec PyProof.Rows L2
theorem run (w : World) : HandSHeadRun.RunEq R (PySem.W.view R.prog [36]) hk ob8 4000 loose w := by
  intro os
  kernel_rfl
end K4
set_option maxRecDepth 100000
set_option maxHeartbeats 4000000
namespace K4
open PySem PySem.Spec PyProof.Rows L2
theorem vals_nil {ds : List Value} (h : Vals [] ds) : ds = [] := by
  cases h
  rfl
theorem swp_vals {vs zs : List V} {us ws : List Value} (h1 : Vals vs us) (h2 : Vals zs ws) : Vals (swp vs zs) (swp us ws) := by
  cases h1 with
  | nil => exact .nil
  | cons a h1 =>
    cases h1 with
    | nil =>
      cases h2 with
      | nil => exact .nil
      | cons b h2 =>
        cases h2 with
        | nil => exact .nil
        | cons c h2 =>
          cases h2 with
          | nil => exact .cons a (.cons c (.cons b .nil))
          | cons d h2 => exact .nil
    | cons b h1 => exact .nil
section
variable {K : PySem.W.Frag} {f : Addr} {fd : FuncData} {x : V}
theorem ini_b (F : FunD K "__init__" "Table.__init__" (defArgs sInit) (defBody sInit) (defScope sInit) [x] [] f fd) : Binds K fd ["self", "width", "rows"] [] := by
  obtain ⟨ds, v, b⟩ := F.binds1 (ps := ["self", "width", "rows"]) 3 1 (List.cons_ne_nil _ _) rfl fun T kV doc pm an cdv ct us its h1 h2 => match us, its, h1, h2 with
    | [_, _, _], [_], _, _ => ⟨_, rfl, rfl⟩
  rw [← vals_nil v]
  exact b
theorem ini_b0 (F : FunD K "__init__" "Table.__init__" (defArgs sInit) (defBody sInit) (defScope sInit) [x] [] f fd) : ∃ ds, Vals [x] ds ∧ Binds K fd ["self", "width", "rows"] ds :=
  F.binds1 (ps := ["self", "width", "rows"]) 2 0 (List.cons_ne_nil _ _) rfl fun T kV doc pm an cdv ct us its h1 h2 => match us, its, h1, h2 with
    | [_, _], [_], _, _ => ⟨_, rfl, rfl⟩
theorem ini_k (F : FunD K "__init__" "Table.__init__" (defArgs sInit) (defBody sInit) (defScope sInit) [x] [] f fd) : ∃ g, KBn K fd ["self", "width", "rows"] 1 ["rows", "width"] g swp := by
  obtain ⟨its, k⟩ := F.kbindsD (ps := ["self", "width", "rows"]) 1 ["rows", "width"] (fun us _ ws => swp us ws) (List.cons_ne_nil _ _) (fun h1 _ h2 => swp_vals h1 h2) fun T kV doc pm an cdv ct us its ws h1 h2 h3 => match us, its, ws, h1, h2, h3 with
    | [_], [_], [_, _], _, _, _ => ⟨_, rfl, rfl⟩
  exact ⟨_, k⟩
end
theorem fun_ofD {K : PySem.W.Frag} {x q : Str} {st : Stmt} {f : Addr} {fd : FuncData} (F : FunD K x q (defArgs st) (defBody st) (defScope st) [] [] f fd) : Fun K x q st f fd := by
  obtain ⟨⟨oc, od, dV, kV, doc, pm, an, cdv, ct, osl, e, lk, hcd, hd, _⟩, kp⟩ := F
  obtain rfl : dV = .none := by
    rcases hd with ⟨_, e2⟩ | ⟨e2, _⟩
    · exact e2
    · exact absurd rfl e2
  exact ⟨⟨oc, od, kV, doc, pm, an, cdv, ct, osl, e, lk, hcd⟩, kp⟩
theorem facts {w : World} {K : PySem.W.Frag} {h : Heap} {mg : Str → Option Value} {fl : Addr} (X : K.In h) (G : h.Ns mainGlobals mg) (hfa : mg ("law" : Str) = some (.ref fl)) (c : He.SaysX fa fn [] tf exK w h K) :
    LamX.LawAtS PySem.Challenge.rw_roundswap_k04_tables_and_their_normal_ro w K CX0 8 63 "_law_script" mg fl h := by
  have cD := c.t.d
  have g : ∀ x ∈ gl, mg x = some (.ref (He.ga K x)) := fun x hx => He.glo_ok X G (cD.facts (List.mem_append_left _ (List.mem_map.mpr ⟨x, hx, rfl⟩)))
  have fz : ∀ x ∈ fr, mg x = none := fun x hx => He.free_ok X G (cD.facts (List.mem_append_right _ (List.mem_append_left _ (List.mem_map.mpr ⟨x, hx, rfl⟩))))
  have fo_ : ∀ (i : Nat) {u : He.Fa}, fo[i]? = some u → u.ok K = true := fun i u hu => cD.facts (List.mem_append_right _ (List.mem_append_right _ (List.mem_of_getElem? hu)))
  obtain ⟨tk, mW⟩ := He.int_ok X G (x := "WIDEST") (i := 3) (fo_ 0 rfl)
  have Bn_ : Bn mg := ⟨fz _ (by decide), fz _ (by decide), fz _ (by decide), fz _ (by decide), fz _ (by decide), fz _ (by decide), fz _ (by decide)⟩
  have B : Bz mg := ⟨Bn_, fz _ (by decide), fz _ (by decide), fz _ (by decide), fz _ (by decide), fz _ (by decide), fz _ (by decide), fz _ (by decide), fz _ (by decide)⟩
  have xk := c.more
  have TC : TCls K (tA K) := ⟨He.cls_ok (fo_ 1 rfl), He.noat_ok (fo_ 2 rfl), He.noat_ok (fo_ 3 rfl), He.noat_ok (fo_ 4 rfl)⟩
  have MR := He.meth_ok (x := "Table") (m := "rows") (fo_ 5 rfl)
  have M := He.mkr_ok (x := "Table") (fo_ 6 rfl)
  have gT : mg "Table" = some (.ref (tA K)) := g _ (by decide)
  obtain ⟨pW, dw, GW, bW⟩ := Rs.prop_ok (exK_at xk 19 rfl) TC.cl TC.wide
  obtain ⟨pZ, dz, GZ, bZ⟩ := Rs.prop_ok (exK_at xk 20 rfl) TC.cl TC.many
  obtain ⟨d0, F0'⟩ := cD.def_ 0 (d := dD "is_number" sNum) rfl
  have F0 : Fun K "is_number" "is_number" sNum (He.ga K "is_number") d0 := fun_ofD F0'
  have b0 : Binds K d0 ["value"] [] := F0.binds fun _ _ _ _ _ _ us hl => match us, hl with | [_], _ => rfl
  have g0 : mg "is_number" = some (.ref (He.ga K "is_number")) := g _ (by decide)
  obtain ⟨d1, F1'⟩ := cD.def_ 1 (d := dD "is_number_from" sNumF) rfl
  have F1 : Fun K "is_number_from" "is_number_from" sNumF (He.ga K "is_number_from") d1 := fun_ofD F1'
  have b1 : Binds K d1 ["value", "low", "high"] [] := F1.binds fun _ _ _ _ _ _ us hl => match us, hl with | [_, _, _], _ => rfl
  have g1 : mg "is_number_from" = some (.ref (He.ga K "is_number_from")) := g _ (by decide)
  obtain ⟨d2, F2'⟩ := cD.def_ 2 (d := dD "is_number_tuple" sNumT) rfl
  have F2 : Fun K "is_number_tuple" "is_number_tuple" sNumT (He.ga K "is_number_tuple") d2 := fun_ofD F2'
  have b2 : Binds K d2 ["value", "width"] [] := F2.binds fun _ _ _ _ _ _ us hl => match us, hl with | [_, _], _ => rfl
  have g2 : mg "is_number_tuple" = some (.ref (He.ga K "is_number_tuple")) := g _ (by decide)
  obtain ⟨d3, F3'⟩ := cD.def_ 3 (d := dD "normal_rows" sNormal) rfl
  have F3 : Fun K "normal_rows" "normal_rows" sNormal (He.ga K "normal_rows") d3 := fun_ofD F3'
  have b3 : Binds K d3 ["rows", "width"] [] := F3.binds fun _ _ _ _ _ _ us hl => match us, hl with | [_, _], _ => rfl
  have g3 : mg "normal_rows" = some (.ref (He.ga K "normal_rows")) := g _ (by decide)
  obtain ⟨d4, F4'⟩ := cD.def_ 4 (d := dD "swept" sSwept) rfl
  have F4 : Fun K "swept" "swept" sSwept (He.ga K "swept") d4 := fun_ofD F4'
  have b4 : Binds K d4 ["rows", "at"] [] := F4.binds fun _ _ _ _ _ _ us hl => match us, hl with | [_, _], _ => rfl
  have g4 : mg "swept" = some (.ref (He.ga K "swept")) := g _ (by decide)
  obtain ⟨d5, F5'⟩ := cD.def_ 5 (d := dD "with_positive" sPositive) rfl
  have F5 : Fun K "with_positive" "with_positive" sPositive (He.ga K "with_positive") d5 := fun_ofD F5'
  have b5 : Binds K d5 ["row", "at"] [] := F5.binds fun _ _ _ _ _ _ us hl => match us, hl with | [_, _], _ => rfl
  have g5 : mg "with_positive" = some (.ref (He.ga K "with_positive")) := g _ (by decide)
  obtain ⟨d6, F6'⟩ := cD.def_ 6 (d := dD "less" sLess) rfl
  have F6 : Fun K "less" "less" sLess (He.ga K "less") d6 := fun_ofD F6'
  have b6 : Binds K d6 ["row", "other", "times"] [] := F6.binds fun _ _ _ _ _ _ us hl => match us, hl with | [_, _, _], _ => rfl
  have g6 : mg "less" = some (.ref (He.ga K "less")) := g _ (by decide)
  obtain ⟨d7, F7'⟩ := cD.def_ 7 (d := dD "lead_at" sLead) rfl
  have F7 : Fun K "lead_at" "lead_at" sLead (He.ga K "lead_at") d7 := fun_ofD F7'
  have b7 : Binds K d7 ["row"] [] := F7.binds fun _ _ _ _ _ _ us hl => match us, hl with | [_], _ => rfl
  have g7 : mg "lead_at" = some (.ref (He.ga K "lead_at")) := g _ (by decide)
  obtain ⟨d8, F8'⟩ := cD.def_ 8 (d := dD "diagonal_of" sDiag) rfl
  have F8 : Fun K "diagonal_of" "diagonal_of" sDiag (He.ga K "diagonal_of") d8 := fun_ofD F8'
  have b8 : Binds K d8 ["rows"] [] := F8.binds fun _ _ _ _ _ _ us hl => match us, hl with | [_], _ => rfl
  have g8 : mg "diagonal_of" = some (.ref (He.ga K "diagonal_of")) := g _ (by decide)
  obtain ⟨d9, F9'⟩ := cD.def_ 9 (d := dD "index_of" sIndex) rfl
  have F9 : Fun K "index_of" "index_of" sIndex (He.ga K "index_of") d9 := fun_ofD F9'
  have b9 : Binds K d9 ["rows", "width"] [] := F9.binds fun _ _ _ _ _ _ us hl => match us, hl with | [_, _], _ => rfl
  have g9 : mg "index_of" = some (.ref (He.ga K "index_of")) := g _ (by decide)
  obtain ⟨d10, F10'⟩ := cD.def_ 10 (d := dD "_law_begin" sBegin) rfl
  have F10 : Fun K "_law_begin" "_law_begin" sBegin (He.ga K "_law_begin") d10 := fun_ofD F10'
  have b10 : Binds K d10 ["_law_script"] [] := F10.binds fun _ _ _ _ _ _ us hl => match us, hl with | [_], _ => rfl
  have g10 : mg "_law_begin" = some (.ref (He.ga K "_law_begin")) := g _ (by decide)
  obtain ⟨d11, F11'⟩ := cD.def_ 11 (d := dD "_law_draw" sDraw) rfl
  have F11 : Fun K "_law_draw" "_law_draw" sDraw (He.ga K "_law_draw") d11 := fun_ofD F11'
  have b11 : Binds K d11 ["_law_box", "_law_many"] [] := F11.binds fun _ _ _ _ _ _ us hl => match us, hl with | [_, _], _ => rfl
  have g11 : mg "_law_draw" = some (.ref (He.ga K "_law_draw")) := g _ (by decide)
  obtain ⟨d12, F12'⟩ := cD.def_ 12 (d := dD "_law_any" sAny) rfl
  have F12 : Fun K "_law_any" "_law_any" sAny (He.ga K "_law_any") d12 := fun_ofD F12'
  have b12 : Binds K d12 ["_law_box", "_law_some"] [] := F12.binds fun _ _ _ _ _ _ us hl => match us, hl with | [_, _], _ => rfl
  have g12 : mg "_law_any" = some (.ref (He.ga K "_law_any")) := g _ (by decide)
  obtain ⟨d13, F13'⟩ := cD.def_ 13 (d := dD "_law_same" sSame) rfl
  have F13 : Fun K "_law_same" "_law_same" sSame (He.ga K "_law_same") d13 := fun_ofD F13'
  have b13 : Binds K d13 ["_law_found", "_law_due"] [] := F13.binds fun _ _ _ _ _ _ us hl => match us, hl with | [_, _], _ => rfl
  have g13 : mg "_law_same" = some (.ref (He.ga K "_law_same")) := g _ (by decide)
  obtain ⟨d14, F14'⟩ := cD.def_ 14 (d := dD "_law_add" sAdd) rfl
  have F14 : Fun K "_law_add" "_law_add" sAdd (He.ga K "_law_add") d14 := fun_ofD F14'
  have b14 : Binds K d14 ["_law_one", "_law_other"] [] := F14.binds fun _ _ _ _ _ _ us hl => match us, hl with | [_, _], _ => rfl
  have g14 : mg "_law_add" = some (.ref (He.ga K "_law_add")) := g _ (by decide)
  obtain ⟨d15, F15'⟩ := cD.def_ 15 (d := dD "_law_less" sLessL) rfl
  have F15 : Fun K "_law_less" "_law_less" sLessL (He.ga K "_law_less") d15 := fun_ofD F15'
  have b15 : Binds K d15 ["_law_one", "_law_other"] [] := F15.binds fun _ _ _ _ _ _ us hl => match us, hl with | [_, _], _ => rfl
  have g15 : mg "_law_less" = some (.ref (He.ga K "_law_less")) := g _ (by decide)
  obtain ⟨d16, F16'⟩ := cD.def_ 16 (d := dD "_law_by" sBy) rfl
  have F16 : Fun K "_law_by" "_law_by" sBy (He.ga K "_law_by") d16 := fun_ofD F16'
  have b16 : Binds K d16 ["_law_one", "_law_times"] [] := F16.binds fun _ _ _ _ _ _ us hl => match us, hl with | [_, _], _ => rfl
  have g16 : mg "_law_by" = some (.ref (He.ga K "_law_by")) := g _ (by decide)
  obtain ⟨d17, F17'⟩ := cD.def_ 17 (d := dD "_law_unit" sUnit) rfl
  have F17 : Fun K "_law_unit" "_law_unit" sUnit (He.ga K "_law_unit") d17 := fun_ofD F17'
  have b17 : Binds K d17 ["_law_width_z", "_law_at"] [] := F17.binds fun _ _ _ _ _ _ us hl => match us, hl with | [_, _], _ => rfl
  have g17 : mg "_law_unit" = some (.ref (He.ga K "_law_unit")) := g _ (by decide)
  obtain ⟨d18, F18'⟩ := cD.def_ 18 (d := dD "_law_first_at" sFirst) rfl
  have F18 : Fun K "_law_first_at" "_law_first_at" sFirst (He.ga K "_law_first_at") d18 := fun_ofD F18'
  have b18 : Binds K d18 ["_law_row"] [] := F18.binds fun _ _ _ _ _ _ us hl => match us, hl with | [_], _ => rfl
  have g18 : mg "_law_first_at" = some (.ref (He.ga K "_law_first_at")) := g _ (by decide)
  obtain ⟨d19, F19'⟩ := cD.def_ 19 (d := dD "_law_normal" sNormL) rfl
  have F19 : Fun K "_law_normal" "_law_normal" sNormL (He.ga K "_law_normal") d19 := fun_ofD F19'
  have b19 : Binds K d19 ["_law_width_z", "_law_rows_z"] [] := F19.binds fun _ _ _ _ _ _ us hl => match us, hl with | [_, _], _ => rfl
  have g19 : mg "_law_normal" = some (.ref (He.ga K "_law_normal")) := g _ (by decide)
  obtain ⟨d20, F20'⟩ := cD.def_ 20 (d := dD "_law_index" sIndexL) rfl
  have F20 : Fun K "_law_index" "_law_index" sIndexL (He.ga K "_law_index") d20 := fun_ofD F20'
  have b20 : Binds K d20 ["_law_rows_z", "_law_width_z"] [] := F20.binds fun _ _ _ _ _ _ us hl => match us, hl with | [_, _], _ => rfl
  have g20 : mg "_law_index" = some (.ref (He.ga K "_law_index")) := g _ (by decide)
  obtain ⟨d21, F21'⟩ := cD.def_ 21 (d := dD "_law_rows" sRowsL) rfl
  have F21 : Fun K "_law_rows" "_law_rows" sRowsL (He.ga K "_law_rows") d21 := fun_ofD F21'
  have b21 : Binds K d21 ["_law_box", "_law_width_z", "_law_many", "_law_size"] [] := F21.binds fun _ _ _ _ _ _ us hl => match us, hl with | [_, _, _, _], _ => rfl
  have g21 : mg "_law_rows" = some (.ref (He.ga K "_law_rows")) := g _ (by decide)
  obtain ⟨d22, F22'⟩ := cD.def_ 22 (d := dD "law" sLaw) rfl
  have F22 : Fun K "law" "law" sLaw (He.ga K "law") d22 := fun_ofD F22'
  have g22 : mg "law" = some (.ref (He.ga K "law")) := g _ (by decide)
  obtain rfl : fl = He.ga K "law" := by
    have e := hfa.symm.trans g22
    injection e with e
    injection e
  obtain ⟨dI, FI'⟩ := cD.def_ 23 (d := dIni) rfl
  have FI : FunD K "__init__" "Table.__init__" (defArgs sInit) (defBody sInit) (defScope sInit) [.ref (e0A K)] [] (He.ma K (tA K) "__init__") dI := FI'
  have bI := ini_b FI
  obtain ⟨ds, vI0, bI0⟩ := ini_b0 FI
  obtain ⟨gI, kI⟩ := ini_k FI
  obtain ⟨dR, FR'⟩ := cD.def_ 24 (d := dM "Table" "rows" "Table.rows" sRows) rfl
  have FR : Fun K "rows" "Table.rows" sRows (He.ma K (tA K) "rows") dR := fun_ofD FR'
  have bR : Binds K dR ["self"] [] := FR.binds fun _ _ _ _ _ _ us hl => match us, hl with | [_], _ => rfl
  obtain ⟨dE, FE'⟩ := cD.def_ 25 (d := dM "Table" "__eq__" "Table.__eq__" sEq) rfl
  have FE : Fun K "__eq__" "Table.__eq__" sEq (eqA K) dE := fun_ofD FE'
  have bE : Binds K dE ["self", "other"] [] := FE.binds fun _ _ _ _ _ _ us hl => match us, hl with | [_, _], _ => rfl
  obtain ⟨dP, FP'⟩ := cD.def_ 26 (d := dM "Table" "__repr__" "Table.__repr__" sRepr) rfl
  have FP : Fun K "__repr__" "Table.__repr__" sRepr (rpA K) dP := fun_ofD FP'
  have bP : Binds K dP ["self"] [] := FP.binds fun _ _ _ _ _ _ us hl => match us, hl with | [_], _ => rfl
  obtain ⟨oc, od, kV, doc, pm, an, cdv, ct, osl, rfl, lk, hcd⟩ := F4.ex
  obtain ⟨cc, rfl⟩ := He.codeIn_ref hcd
  have ec : He.codeOf K ("swept", none) = cc := He.codeOf_eq (p := ("swept", none)) lk rfl
  have mt : (("swept" : Str), (none : Option Str)) ∈ tf := List.mem_cons_self
  obtain ⟨oc2, od2, kV2, doc2, pm2, an2, cdv2, ct2, osl2, rfl, lk2, hcd2⟩ := F22.ex
  refine ⟨PySem.W.fnOf "law" "law" (defArgs sLaw) (defBody sLaw) (defScope sLaw) .none kV2 doc2 pm2 an2 cdv2 ct2, [He.cT K ("swept", none)], spLaw K (He.cT K ("swept", none)).2, ?_, ?_, ?_, ?_, ?_, ?_⟩
  · intro p hp
    have e : p = He.cT K ("swept", none) := by simpa using hp
    rw [e]
    exact c.empty _ mt
  · intro p hp
    have e : p = He.cT K ("swept", none) := by simpa using hp
    rw [e]
    exact c.out _ mt
  · intro p hp
    have e : p = He.cT K ("swept", none) := by simpa using hp
    rw [e]
    exact PySem.W.codeHd_of_K X (c.hd _ mt)
  · exact fun s u => .of_eq rfl
  · intro H a ns hl _ hT hS
    exact ⟨a, ns, rfl, hS, hl, hT _ List.mem_cons_self, fun _ => rfl⟩
  · intro base KB NB TBs
    have TB := TBs _ List.mem_cons_self
    have TB' : LamX.TabB base mg cc (He.cT K ("swept", none)).2 := by
      have e : (He.cT K ("swept", none)).1 = cc := ec
      rw [← e]
      exact TB
    have c6 : Cb PySem.Challenge.rw_roundswap_k04_tables_and_their_normal_ro.prog w K mg base CX0 1 "less" ["row", "other", "times"] (spLess K) (He.ga K "less") d6 := ⟨ok_less F6 Bn_, F6.kp, b6, g6⟩
    have c5 : Cb PySem.Challenge.rw_roundswap_k04_tables_and_their_normal_ro.prog w K mg base CX0 1 "with_positive" ["row", "at"] (spPosT K) (He.ga K "with_positive") d5 := ⟨ok_posT F5 Bn_, F5.kp, b5, g5⟩
    have c4 : Cb PySem.Challenge.rw_roundswap_k04_tables_and_their_normal_ro.prog w K mg base CX0 4 "swept" ["rows", "at"] (spSwept K [((He.cT K ("swept", none)).2, qS)]) (He.ga K "swept") _ := ⟨ok_swept lk hcd Bn_ TB' List.mem_cons_self (fun p hp _ => by rw [List.mem_singleton.mp hp]) c6 c5, F4.kp, b4, g4⟩
    have c3 : Cb PySem.Challenge.rw_roundswap_k04_tables_and_their_normal_ro.prog w K mg base CX0 5 "normal_rows" ["rows", "width"] (spNormal K [((He.cT K ("swept", none)).2, qS)]) (He.ga K "normal_rows") d3 := ⟨ok_normal F3 Bn_ c6 c4, F3.kp, b3, g3⟩
    have c7 : Cb PySem.Challenge.rw_roundswap_k04_tables_and_their_normal_ro.prog w K mg base CX0 1 "lead_at" ["row"] (spLead K) (He.ga K "lead_at") d7 := ⟨ok_lead F7, F7.kp, b7, g7⟩
    have c8 : Cb PySem.Challenge.rw_roundswap_k04_tables_and_their_normal_ro.prog w K mg base CX0 2 "diagonal_of" ["rows"] (spDiag K) (He.ga K "diagonal_of") d8 := ⟨ok_diag (k := 0) F8 Bn_ c7.ok c7.kp c7.b c7.g, F8.kp, b8, g8⟩
    have c9 : Cb PySem.Challenge.rw_roundswap_k04_tables_and_their_normal_ro.prog w K mg base CX0 3 "index_of" ["rows", "width"] (spIndex K) (He.ga K "index_of") d9 := ⟨ok_index (k := 0) F9 Bn_ c8.ok c8.kp c8.b c8.g, F9.kp, b9, g9⟩
    have c0 : Cb PySem.Challenge.rw_roundswap_k04_tables_and_their_normal_ro.prog w K mg base CX0 1 "is_number" ["value"] spNum (He.ga K "is_number") d0 := ⟨ok_num F0 B, F0.kp, b0, g0⟩
    have c1 : Cb PySem.Challenge.rw_roundswap_k04_tables_and_their_normal_ro.prog w K mg base CX0 2 "is_number_from" ["value", "low", "high"] spNumF (He.ga K "is_number_from") d1 := ⟨ok_numF (k := 0) F1 c0, F1.kp, b1, g1⟩
    have c2 : Cb PySem.Challenge.rw_roundswap_k04_tables_and_their_normal_ro.prog w K mg base CX0 2 "is_number_tuple" ["value", "width"] spNumT (He.ga K "is_number_tuple") d2 := ⟨ok_numT (k := 0) F2 B c0, F2.kp, b2, g2⟩
    have c10 : Cb PySem.Challenge.rw_roundswap_k04_tables_and_their_normal_ro.prog w K mg base CX0 1 "_law_begin" ["_law_script"] (spBegin K) (He.ga K "_law_begin") d10 := ⟨ok_begin F10 B.bl, F10.kp, b10, g10⟩
    have c11 : Cb PySem.Challenge.rw_roundswap_k04_tables_and_their_normal_ro.prog w K mg base CX0 1 "_law_draw" ["_law_box", "_law_many"] spDraw (He.ga K "_law_draw") d11 := ⟨ok_draw F11 B.bl, F11.kp, b11, g11⟩
    have c12 : Cb PySem.Challenge.rw_roundswap_k04_tables_and_their_normal_ro.prog w K mg base CX0 2 "_law_any" ["_law_box", "_law_some"] spAny (He.ga K "_law_any") d12 := ⟨ok_any (k := 0) F12 B.bl F11 b11 g11, F12.kp, b12, g12⟩
    have c21 : Cb PySem.Challenge.rw_roundswap_k04_tables_and_their_normal_ro.prog w K mg base CX0 2 "_law_rows" ["_law_box", "_law_width_z", "_law_many", "_law_size"] spRowsL (He.ga K "_law_rows") d21 := ⟨ok_rowsl (k := 0) F21 B c11, F21.kp, b21, g21⟩
    have c18 : Cb PySem.Challenge.rw_roundswap_k04_tables_and_their_normal_ro.prog w K mg base CX0 2 "_law_first_at" ["_law_row"] spFirst (He.ga K "_law_first_at") d18 := ⟨ok_first (k := 0) F18 B, F18.kp, b18, g18⟩
    have c15 : Cb PySem.Challenge.rw_roundswap_k04_tables_and_their_normal_ro.prog w K mg base CX0 1 "_law_less" ["_law_one", "_law_other"] spLessL (He.ga K "_law_less") d15 := ⟨ok_lessl F15 B, F15.kp, b15, g15⟩
    have c16 : Cb PySem.Challenge.rw_roundswap_k04_tables_and_their_normal_ro.prog w K mg base CX0 1 "_law_by" ["_law_one", "_law_times"] spByL (He.ga K "_law_by") d16 := ⟨ok_byl F16 B, F16.kp, b16, g16⟩
    have c19 : Cb PySem.Challenge.rw_roundswap_k04_tables_and_their_normal_ro.prog w K mg base CX0 3 "_law_normal" ["_law_width_z", "_law_rows_z"] spNormL (He.ga K "_law_normal") d19 := ⟨ok_norml F19 B c18 c15 c16, F19.kp, b19, g19⟩
    have c20 : Cb PySem.Challenge.rw_roundswap_k04_tables_and_their_normal_ro.prog w K mg base CX0 1 "_law_index" ["_law_rows_z", "_law_width_z"] spIndexL (He.ga K "_law_index") d20 := ⟨ok_indexl F20 B, F20.kp, b20, g20⟩
    have c17 : Cb PySem.Challenge.rw_roundswap_k04_tables_and_their_normal_ro.prog w K mg base CX0 1 "_law_unit" ["_law_width_z", "_law_at"] spUnitL (He.ga K "_law_unit") d17 := ⟨ok_unit F17 B, F17.kp, b17, g17⟩
    have c14 : Cb PySem.Challenge.rw_roundswap_k04_tables_and_their_normal_ro.prog w K mg base CX0 1 "_law_add" ["_law_one", "_law_other"] spAddL (He.ga K "_law_add") d14 := ⟨ok_addl F14 B, F14.kp, b14, g14⟩
    have c13 : Cb PySem.Challenge.rw_roundswap_k04_tables_and_their_normal_ro.prog w K mg base CX0 4 "_law_same" ["_law_found", "_law_due"] (spSame 3) (He.ga K "_law_same") d13 := ⟨ok_same F13 B.bl b13 g13 3, F13.kp, b13, g13⟩
    have cS0 : Cb PySem.Challenge.rw_roundswap_k04_tables_and_their_normal_ro.prog w K mg base CX0 1 "_law_same" ["_law_found", "_law_due"] (spSame 0) (He.ga K "_law_same") d13 := ⟨ok_same F13 B.bl b13 g13 0, F13.kp, b13, g13⟩
    have GI : FnOk PySem.Challenge.rw_roundswap_k04_tables_and_their_normal_ro.prog w K mg base CX0 6 _ dI _ (spInit K (tA K) [((He.cT K ("swept", none)).2, qS)]) := ok_init (params := defArgs sInit) FI B TC mW c1 c2 c3 c9
    exact ok_law (L := { fBeg := _, fD := _, fA := _, fRl := _, fNl := _, fIx := _, fSa := _, fUn := _, fAd := _, fBy := _, fI := _, fR := _, fE := _, fP := _, pw := _, gw := _, pz := _, gz := _, fdBeg := _, fdD := _, fdA := _, fdRl := _, fdNl := _, fdIx := _, fdSa := _, fdUn := _, fdAd := _, fdBy := _, fdI := _, fdR := _, fdE := _, fdP := _, fdw := _, fdz := _, C := tA K, T := [((He.cT K ("swept", none)).2, qS)], e0 := e0A K, ds := ds, g := gI, B := B, cBeg := c10, cD := c11, cA := c12, cRl := c21, cNl := c19, cIx := c20, cS3 := c13, cS0 := cS0, cUn := c17, cAd := c14, cBy := c16, TC := TC, gC := gT, M := M, GI := GI, bI := bI, bI0 := bI0, vI0 := vI0, sq0 := et0_ok (exK_at xk 21 rfl), kI := kI, MR := MR, GR := ok_rows (k := 0) FR B TC, bR := bR, GE := ok_eq (k := 0) FE B TC gT (iCls xk), EC := eqCls xk, bE := bE, GP := ok_repr (k := 0) FP TC, rP := He.eqO_ok (exK_at xk 17 rfl), nP := exK_at xk 18 rfl, bP := bP, pW := pW, GW := GW _ _ _ _ _ 0, bW := bW, pZ := pZ, GZ := GZ _ _ _ _ _ 0, bZ := bZ }) rfl F22
end K4
open PySem PySem.W PySem.Calls PyProof.Rows
set_option maxRecDepth 100000 in
set_option maxHeartbeats 0 in
theorem PySem.Challenge.cw_roundswap_k04_tables_and_their_normal_ro_holds : PySem.Challenge.rw_roundswap_k04_tables_and_their_normal_ro.Holds := by
  w_on; o_law
  refine HandSHeadRun.head_any (r := OpenLaw.row PySem.Challenge.rw_roundswap_k04_tables_and_their_normal_ro) (q := view (OpenLaw.row PySem.Challenge.rw_roundswap_k04_tables_and_their_normal_ro).prog [36]) (H := K4.hk) (ob := K4.ob8) (M := 4000) (loose := K4.loose) (d := HandSHeadRun.topDef (OpenLaw.row PySem.Challenge.rw_roundswap_k04_tables_and_their_normal_ro).prog 36) (kwd := []) K4.ob_eq
    (by kernel_rfl) (fun s => by kernel_rfl) K4.run (by kernel_rfl) (by kernel_rfl) (by kernel_rfl) (by rfl) (by first | assumption | decide +kernel) (by decide +kernel) ⟨rfl, rfl, rfl, rfl, rfl, by decide +kernel⟩ ?hw ?hc
  case hw => w_witness2
  case hc =>
    refine LamX.walk_ofTsE (l := PySem.Challenge.rw_roundswap_k04_tables_and_their_normal_ro) (n := 63) (k := 8) (x := "_law_script") (CX := fun _ => L2.CX0) rfl (by decide) (by kernel_rfl) ⟨rfl, by decide, by decide⟩ ?F (fun _ _ _ _ _ z => z)
    intro w mg fa h Y G hmg0
    obtain ⟨K, KX, c⟩ := Y
    have hmg : mg ("law" : PySem.Str) = some (.ref fa) := by
      have e : (HandSHeadRun.topDef (OpenLaw.row PySem.Challenge.rw_roundswap_k04_tables_and_their_normal_ro).prog 36).name = ("law" : PySem.Str) := by kernel_rfl
      rw [← e]
      exact hmg0
    exact ⟨K, KX, K4.facts KX G hmg c⟩
