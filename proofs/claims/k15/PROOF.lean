import PyProof.Rows.All
import Wide.All
import OpenK.AllK
import Wide.FinOn
import PyProof.EqAt
import PyProof.EqKinds
import PyProof.TupleCall
import HandS.ForMost
import HandS.Walk
import HandS.Style
import HandS.Exc
import HandS.HotCalls
import HandS.ExcField
import KE.KTryMore
import HandS.Lambda
import KE.KDflt
import HandS.HeadNt
import HandS.Head0
import HandS.Head1
import HandS.Head2
import HandS.HeadEnd
import HandS.HeadHook1
import HandS.HeadHook2
import HandS.HeadHook3
import HandS.HeadHook4
import HandS.HeadWalk
import HandS.Defaults
import HandS.More
import KE.KStateDown
import KE.KSortKeySt
import HandS.Keys
import HandS.SortKw
import HandS.Wide
import HandS.Zip
import HandS.Words
import PyProof.StrBlock
import PyProof.StrLawsIn
import HandS.IsInst
import HandS.EndTab
import HandS.ExcInit
import HandS.Flow
import HandS.StrMore
import HandS.Codes
import HandS.WordsExc
import HandS.Comp
import HandS.OwnEq
import HandS.MakeKw
import HandS.Property
import KE.GoesMore
import HandS.FStr
import HandS.EndBits
import PyProof.EnumMake
import PyProof.Draws
import HandS.Star
import HandS.ClsMeth
import HandS.TryOnly
import KE.KUnpackStar
import KE.GoesEnumKw
import HandS.CallLocal
import PySem.Challenge.RW_roundswap_k15_texts_of_towns
set_option Elab.async false
set_option linter.all false
set_option maxRecDepth 100000
set_option maxHeartbeats 2000000
namespace Rs
open PySem PySem.Spec PyProof.Rows L2
section
variable {X : Cx}
/-! texts: swapcase, and [::-1] -/
theorem m_swapcase : MtR X "str.swapcase" (fun x xs H Q => ∃ a, x = .str a ∧ xs = [] ∧ a.length ≤ 5592405 ∧ Q (.str (Txt.swapcase a)) H) :=
  mt0 (C := fun a => a.length ≤ 5592405) (g := fun a => .str (Txt.swapcase a)) fun a _ s _ hc h => PySem.SC.swapcase (fit_swapcase hc) (h _ (s.toks + 1) ⟨_, rfl⟩)
def rv (z : Str) : Str := ⟨z.cps.reverse⟩
theorem rv_is (z : Str) (u : Tok) : Txt.sliceBy z none none (-1, u) = rv z := by
  have e := step_rev_list z u
  unfold rv
  have e2 : (Txt.sliceBy z none none (-1, u)).cps = z.cps.reverse := by
    apply Array.toList_inj.mp
    rw [e, Array.toList_reverse]
    apply List.ext_getElem?
    intro i
    rw [List.getElem?_map]
    by_cases h : i < z.cps.size
    · have hl : i < z.length := h
      rw [List.getElem?_range hl, List.getElem?_reverse (by simpa using h)]
      have h2 : z.length - 1 - i < z.cps.size := by show z.cps.size - 1 - i < _; omega
      show some _ = z.cps.toList[z.cps.size - 1 - i]?
      rw [Array.getElem?_toList]
      have h3 : z.cps.size - 1 - i < z.cps.size := h2
      rw [Array.getElem?_eq_getElem h3]
      congr 1
      show z.cps.getD (z.cps.size - 1 - i) 0 = _
      simp [Array.getD, h3]
    · have h1 : (List.range z.length)[i]? = none := by
        rw [List.getElem?_eq_none_iff, List.length_range]; exact Nat.not_lt.mp h
      rw [h1, List.getElem?_eq_none (by simpa using Nat.not_lt.mp h)]
      rfl
  cases hz : Txt.sliceBy z none none (-1, u)
  rw [hz] at e2
  dsimp only at e2
  rw [e2]
def tRevS (te : TE) : TE := fun σ H Q => te σ H fun x H1 => ∃ z, x = .str z ∧ z.length ≤ sizeLine ∧ Q (.str (rv z)) H1
theorem e_revS {e : Expr} {te : TE} {k : Nat} {p1 p2 p3 pos : Pos} (he : PE X e te) :
    PE X (.Subscript e (.Slice none none (some (.UnaryOp .USub (.Constant (.int 1) k p1) p2)) p3) pos) (tRevS te) := by
  constructor
  intro pins s σ H Q I h
  refine Subscript_ (thn (he.run pins s σ H _ I h) fun v s1 hh => ?_)
  obtain ⟨x, H1, I1, r1, z, ez, hz, q⟩ := hh
  subst ez
  obtain ⟨t, rfl⟩ := r1
  have hst : PO X (some (.UnaryOp .USub (.Constant (.int 1) k p1) p2)) (tPart (tUn (rU fun i => .int (-i)) (tC (.int 1)))) :=
    po_some (pe_un un_neg pe_int)
  refine wpAny_Slice (thn (po_none.run pins s1 σ H1 (fun o H2 => o = none ∧ H2 = H1) I1 ⟨rfl, rfl⟩) ?_)
  rintro vl s2 ⟨l, H2, I2, pl, rfl, rfl⟩
  refine thn (po_none.run pins s2 σ H2 (fun o H3 => o = none ∧ H3 = H2) I2 ⟨rfl, rfl⟩) ?_
  rintro vu s3 ⟨u, H3, I3, pu, rfl, rfl⟩
  refine thn (hst.run pins s3 σ H3 (fun o H4 => o = some (-1) ∧ H4 = H3) I3 ⟨1, rfl, -1, rfl, rfl, rfl⟩) ?_
  rintro vs s4 ⟨o, H4, I4, ps, rfl, rfl⟩
  obtain ⟨l', rfl, hl'⟩ := IsPart.raw pl
  obtain ⟨u', rfl, hu'⟩ := IsPart.raw pu
  obtain ⟨k', rfl, hk'⟩ := IsPart.raw ps
  cases l' with
  | some l' => cases hl'
  | none =>
  cases u' with
  | some u' => cases hu'
  | none =>
  cases k' with
  | none => cases hk'
  | some k' =>
  obtain ⟨kk, tk⟩ := k'
  have ek : kk = -1 := by simpa using hk'
  subst ek
  refine tail_any (ops := [.str z t, .ref s4.heap.objs.size]) (typeIs_str _ _ _) (F.slot_str_getitem.lookup) ?_ (by with_unfolding_all rfl)
  refine wpAny_getItem_str_slice (l := none) (u := none) (st := some (-1, tk)) ⟨_, Heap.get?_push_size _ rfl, rfl, rfl⟩ rfl ?_
  refine post_val_or_str ⟨Nat.le_trans (Txt.sliceBy_le z _ _ (-1, tk) (by show (-1 : Int) ≠ 0; decide)) hz, fun t' c => ?_⟩
  show EP X pins σ Q (.str (Txt.sliceBy z none none (-1, tk)) t') _
  rw [rv_is]
  exact ⟨.str (rv z), _, I4.kept fun b ob q => Heap.get?_push_of_some _ q, ⟨_, rfl⟩, q⟩
end
end Rs
set_option maxRecDepth 100000
set_option maxHeartbeats 2000000
namespace Rs
open PySem PySem.Spec PyProof.Rows L2
theorem fly_keeps {h h' Bh : Heap} {l : List Env} {a : Addr} {Z : Obj → Prop} (x : HandSPX.FlyingZ Bh l a Z h) (k : ∀ b o, h.get? b = some o → h'.get? b = some o) : HandSPX.FlyingZ Bh l a Z h' := by
  obtain ⟨x1, x2, x3, oe, vs, T, oT, ts, y1, y2, y3, y4, y5, y6, y7, y8, y9⟩ := x
  exact ⟨fun b o e => k b o (x1 b o e), x2, x3.of_keeps (fun b o e _ => ⟨o, k b o e, rfl⟩), oe, vs, T, oT, ts, k _ _ y1, y2, y3, y4, y5, y6, k _ _ y7, y8, y9⟩
/-- what «except (x1, x2, x3) as n» asks of an error of the body, where it is always one of the three -/
def wT (K : PySem.W.Frag) (cs : List Value) (i : Nat) (ts : Addr → Value → Option Addr → TS) (D : Ends) : WX := fun cls d σ H =>
  PySem.W.exmAny K cls cs = some true ∧ ∀ a, H a = none →
    ts a cls d { nx := fun σ' H' => D.nx (σ'.set i none) H', rt := D.rt, bk := fun σ' H' => D.bk (σ'.set i none) H', ct := fun σ' H' => D.ct (σ'.set i none) H' } (σ.set i (some (.ref a))) H
section
variable {X : Cx}
theorem s_try3 {x1 x2 x3 n : Str} {c1 c2 c3 : Value} {i k : Nat} {body suite : List Stmt} {b₀ : Stmt} {n1 n2 n3 tp pos pos' : Pos} {tb : WX → TS} {ts : Addr → Value → Option Addr → TS}
    (hs : X.stack = X.env :: X.outer) (hf : X.env.frame = some X.env.locals) (hN : X.N.Nodup) (hi : X.N[i]? = some n) (hln : X.env.kindOf n = some .local)
    (g1 : Gl X x1) (m1 : X.mg x1 = some c1) (g2 : Gl X x2) (m2 : X.mg x2 = some c2) (g3 : Gl X x3) (m3 : X.mg x3 = some c3)
    (hb : ∀ (W : WX) (pn : List (Addr × Obj)) (xe : Value → Shared → Prop), Takes (X.tr pn xe) W → PSs (X.tr pn xe) body (tb W))
    (hsu : ∀ (a : Addr) (oe : Obj) (cls : Value) (d : Option Addr) (pn : List (Addr × Obj)), Zc cls d oe → (∃ vs, oe.data = .fields vs) → PSs (X.suite a ((a, oe) :: pn)) (b₀ :: suite) (ts a cls d))
    (d1 : (x1 == ("__debug__" : Str)) = false := by decide) (d2 : (x2 == ("__debug__" : Str)) = false := by decide) (d3 : (x3 == ("__debug__" : Str)) = false := by decide) :
    PS X (.Try body [.ExceptHandler (some (.Tuple [.Name x1 n1, .Name x2 n2, .Name x3 n3] k tp)) (some n) (b₀ :: suite) pos'] [] [] pos) (fun D σ H => tb (wT X.K [c1, c2, c3] i ts D) D σ H) := by
  constructor
  intro pins s σ H D I h
  have ok := I.ok
  have hfra : X.A.frames = some (X.env :: X.outer) := by rw [ok.frames, hs]
  have hlc : Loc X.env.scope n := .inl hln
  refine wpAny_Try_except ?_
  refine wpAny_mono ((hb (wT X.K [c1, c2, c3] i ts D) (X.pn ++ pins)
    (fun e s₁ => wpAny (model X.prog X.w) X.A (noteFrame e X.env) (fun _ s₂ => wpAny (model X.prog X.w) X.A (setFlight e none)
      (fun _ s₃ => wpAny (model X.prog X.w) X.A (handleBy e X.env [.ExceptHandler (some (.Tuple [.Name x1 n1, .Name x2 n2, .Name x3 n3] k tp)) (some n) (b₀ :: suite) pos']) (SP X pins D) X.xe s₃) X.xe s₂) X.xe s₁)
    (fun u s' xx => ?_)).run [] s σ H D (I.toTry _) h) (fun f s1 hsp => ?_) (fun e s1 he => he)
  · obtain ⟨a, Bh, sIn, pins', σ', H', cls, d, rfl, Jt, nbk, up, sky, na, os, agn, hx, hyes⟩ := xx
    have J : Inv X pins σ' H' sIn := Jt.ofTry ok
    have skyB : Sky Bh (X.env :: X.outer) a (Zc cls d) X.env.locals s'.heap := hs ▸ sky
    show wpAny _ X.A (noteFrame (.ref a) X.env) _ _ _
    refine Sky.land Zc.steady hfra hf skyB fun hp3 fly3 ups3 => ?_
    have Jl : Inv X pins σ' H' { s' with heap := hp3 } := J.landed nbk fly3.1 (up.trans ups3) os agn
    obtain ⟨ob3, vb3, ge3, gz3, gd3⟩ := fly3.there
    have noFr : a ∉ frs (X.env :: X.outer) := fun hm => by
      obtain ⟨_, o', e', hnf⟩ := fly3.2.2.1.mem hm
      rw [ge3] at e'
      cases e'
      exact hnf _ gd3
    have noL : a ≠ X.env.locals := fun z => noFr (List.mem_filterMap.mpr ⟨X.env, List.mem_cons_self, by rw [hf, z]⟩)
    have noF : a ∉ X.fs := fun hm => by
      obtain ⟨en, hen, q⟩ := List.mem_filterMap.mp hm
      exact noFr (List.mem_filterMap.mpr ⟨en, List.mem_cons_of_mem _ hen, q⟩)
    have Su3 := Jl.suite ge3 gd3 na noL noF
    refine wpAny_handleBy_cons (codeAny_handlers_test ?_) (fun z => nomatch z)
    refine wpAny_Tuple_spliced ?_
    show wpAny _ _ (spliced [(false, eval (.Name x1 n1) X.env), (false, eval (.Name x2 n2) X.env), (false, eval (.Name x3 n3) X.env)]) _ _ _
    refine Calls.spliced_cons (ld_glob (X := X.suite a ((a, ob3) :: (X.pn ++ pins))) Su3 g1 m1 ?_ d1)
    refine Calls.spliced_cons (ld_glob (X := X.suite a ((a, ob3) :: (X.pn ++ pins))) Su3 g2 m2 ?_ d2)
    refine Calls.spliced_cons (ld_glob (X := X.suite a ((a, ob3) :: (X.pn ++ pins))) Su3 g3 m3 (Calls.spliced_nil ⟨by show 3 ≤ sizeLine; decide, ?_⟩) d3)
    have kp : ∀ b o, hp3.get? b = some o → (hp3.push { cls := .type "tuple", data := .seq [c1, c2, c3].toArray }).get? b = some o := fun b o e => Heap.get?_push_of_some _ e
    have fl4 := fly_keeps fly3 kp
    have he4 := kp _ _ ge3
    have LT : PySem.W.Looks (model X.prog X.w) (hp3.push { cls := .type "tuple", data := .seq [c1, c2, c3].toArray }) (typeOf (.ref a)) cls := fun A Q E s k q => wpAny_typeOf_ref (k _ _ he4) (by rw [gz3.1]; exact q)
    have LM := PySem.W.exm_tup3 (M := model X.prog X.w) (Jl.kIn.keeps kp) LT (Heap.get?_push_size _ rfl) hx
    refine LM.here ?_
    refine codeAny_handlers_suite_as (HandSPX.lands_againZ (s := { s' with heap := hp3.push { cls := .type "tuple", data := .seq [c1, c2, c3].toArray } }) fl4 fun h5 fl5 up5 => ?_)
    have J5 : Inv X pins σ' H' { s' with heap := h5 } := J.landed nbk fl5.1 (((up.trans ups3).trans (.of_keeps kp)).trans up5) os agn
    obtain ⟨oe5, vs5, he5, hz5, hd5⟩ := fl5.there
    have S5 := J5.suite he5 hd5 na noL noF
    refine store_ok (X := X.suite a ((a, oe5) :: (X.pn ++ pins))) (v := .ref a) S5 hN hi hlc rfl (fun s6 S6 => ?_) (.inr hln)
    refine wpAny_mono ((hsu a oe5 cls d (X.pn ++ pins) hz5 ⟨_, hd5⟩).run [] s6 _ H' _ S6 (hyes a na)) (fun f s7 hsp => ?_) (fun _ _ z => False.elim z)
    have fin : ∀ {σ7 : L2.St} {H7 : Hp} {Q : Shared → Prop}, Inv (X.suite a ((a, oe5) :: (X.pn ++ pins))) [] σ7 H7 s7 → (∀ s8, Inv X pins (σ7.set i none) H7 s8 → Q s8) →
        wpAny (model X.prog X.w) X.A (do bindName X.env n .none; unbindBehindTheSuite X.env n pos') (fun _ s8 => Q s8) X.xe s7 := fun S7 hq => gone_ok (S7.unsuite ok) hN hi hln hq
    cases f with
    | next =>
      obtain ⟨σ7, H7, S7, q7⟩ := hsp
      exact fin S7 fun s8 J8 => ⟨_, _, J8, q7⟩
    | brk =>
      obtain ⟨σ7, H7, S7, q7⟩ := hsp
      exact fin S7 fun s8 J8 => ⟨_, _, J8, q7⟩
    | cont =>
      obtain ⟨σ7, H7, S7, q7⟩ := hsp
      exact fin S7 fun s8 J8 => ⟨_, _, J8, q7⟩
    | ret u =>
      obtain ⟨v7, σ7, H7, S7, r7, q7⟩ := hsp
      exact fin S7 fun s8 J8 => ⟨_, _, _, J8, r7, q7⟩
  · cases f with
    | next =>
      obtain ⟨σ', H', Jt, q⟩ := hsp
      exact wpAny_execs_nil ⟨σ', H', Jt.ofTry ok, q⟩
    | brk =>
      obtain ⟨σ', H', Jt, q⟩ := hsp
      exact ⟨σ', H', Jt.ofTry ok, q⟩
    | cont =>
      obtain ⟨σ', H', Jt, q⟩ := hsp
      exact ⟨σ', H', Jt.ofTry ok, q⟩
    | ret u =>
      obtain ⟨v, σ', H', Jt, r, q⟩ := hsp
      exact ⟨v, σ', H', Jt.ofTry ok, r, q⟩
/-- err.f, err an error that the context holds by a pin -/
theorem e_xf {a C : Addr} {oe : Obj} {cls : Value} {d : Option Addr} {e : Expr} {te : TE} {pos : Pos} {n : Str} (T : XfC X.K C) (hno : PySem.W.findIn X.K (.ref C) n = some none)
    (hz : Zc cls d oe) (hf : ∃ vs, oe.data = .fields vs) (hp : (a, oe) ∈ X.pn) (he : PE X e te) (hb : attributeBase e n X.env (eval e X.env) = eval e X.env := by rfl) :
    PE X (.Attribute e n pos) (tXf a cls d C n te) := by
  constructor
  intro pins s σ H Q I h
  refine attr_of hb (thn (he.run pins s σ H _ I h) ?_)
  rintro u s1 ⟨x, H1, I1, rx, rfl, rfl, dd, fs, v, rfl, ea, l, q⟩
  obtain rfl : u = .ref a := rx
  obtain ⟨ha, _⟩ := I1.pin (a, oe) (List.mem_append_left _ hp)
  obtain ⟨vs, hd⟩ := hf
  obtain ⟨mAt, hnsp, hr⟩ := (show ObjOk X.prog X.w H1 s1.heap dd (.xd fs) from I1.hok dd _ ea)
  obtain ⟨odo, hod, hl⟩ := lookIn_ns hnsp
  obtain ⟨u, hu, ruv⟩ := RelO.some_of (v := v) (o := mAt n) (by rw [← l]; exact hr n)
  have J : PySem.W.InstAt s1.heap a oe C (some odo) := ⟨ha, hz.1, by unfold PySem.W.notCls; rw [hd] <;> rfl, by rw [hz.2]; exact hod⟩
  exact HandSPX.exc_get I1.kIn J T.ga T.gg T.exC (PySem.W.findObj_own T.hdC hno rfl (by rw [hl, hu])) (handed_of ruv) ⟨v, H1, I1.tok _, ruv, q⟩
end
/-- a def's promise where an error p is handled and handed on -/
structure FnPin (P : Program) (w : World) (K : PySem.W.Frag) (mg : Str → Option Value) (base : Heap) (k : Nat) (f : Addr) (fd : FuncData) (ps : List Str) (sp : Addr × Obj → Sp) : Prop where
  len : ∀ p vs H Q E, sp p vs H Q E → vs.length = ps.length
  run : ∀ (A : Around) (outer : List Env) (s : Shared) (H : Hp) (us : List Value) (vs : List V) (Q : VK) (p : Addr × Obj), L2H.RoomH k A → L2H.PinOk outer H s p → Env0 P w K mg base A outer s H →
    BindsTo s fd ⟨us, []⟩ (ps.zip us) → Vals vs us → sp p vs H Q E0 → codeAny (model P w) A (.call (.ref f) ⟨us, []⟩) (CR CX0 outer P w H s Q E0) s
theorem fn_pin {P : Program} {w : World} {K : PySem.W.Frag} {mg : Str → Option Value} {base : Heap} {k : Nat} {f : Addr} {fd : FuncData} {name : Str} {st : Stmt} {N ps : List Str} {sp : Addr × Obj → Sp} (F : Fun K name name st f fd) (S : FnScope N ps (defScope st))
    (len : ∀ p vs H Q E, sp p vs H Q E → vs.length = ps.length)
    (hbody : ∀ (cdv : Value) (A : Around) (outer : List Env) (s : Shared) (H : Hp) (vs : List V) (Q : VK) (p : Addr × Obj), L2H.RoomH k (A.deeper (envOfC name (defScope st) s.heap.objs.size f cdv)) → sp p vs H Q E0 →
      ∃ t, PSs (L2H.cxH CX0 P w K mg base N name (defScope st) f cdv A outer s H E0 p).nox (defBody st) t ∧ t { nx := fun _ H' => Q .non H', rt := Q } (L2.start N vs) H) :
    FnPin P w K mg base (k + 1) f fd ps sp := by
  obtain ⟨oc, odo, kV, doc, pm, an, cdv, ct, osl, rfl, lk, hcd⟩ := F.ex
  refine ⟨len, fun A outer s H us vs Q p hr hpin e0 hb r hsp => ?_⟩
  have hl := len _ _ _ _ _ hsp
  have Kin : K.In s.heap := e0.mod.kin.keeps fun b o e => (e0.bs b o e).1
  have lmt : s.heap.NoLimit := e0.mod.nolimit.keeps fun b o e => (e0.bs b o e).1
  have hkd : ∀ y ∈ ps.zip us, (defScope st).names.lookup y.1 = some .local ∨ ((defScope st).names.lookup y.1 = some .cell ∧ ((cellsFrom (s.heap.objs.size + 1) (defScope st).names []).lookup y.1).isSome = true) := by
    rintro ⟨n, v⟩ hy
    exact (S.par n (List.of_mem_zip hy).1).elim (fun q => .inl q) (fun q => .inr ⟨q, PySem.W.cellsFrom_some _ _ _ (.inl q)⟩)
  refine codeAny_call_function hr.depth (Kin _ _ lk) rfl S.co S.gen rfl (PySem.W.codeRec_of Kin hcd) (hb _ _ _ _ ?_)
  refine wpAny_newFunctionEnv_cells S.kind hkd fun env he s1 x => ?_
  subst he
  refine ⟨lmt.keeps x.toInCall.keep, codeAny_func ?_⟩
  obtain ⟨t, ht, hq⟩ := hbody cdv A outer s H vs Q p (hr.deeper _) hsp
  have I : Inv (L2H.cxH CX0 P w K mg base N name (defScope st) f cdv A outer s H E0 p) [] (L2.start N vs) H s1 := L2H.inv_startH S hpin e0 hl r x
  refine wpAny_mono (ht.nox.run [] s1 (L2.start N vs) H _ I hq) (fun fl s' hs => ?_) fun e s' hs => hs
  cases fl with
  | ret u =>
    obtain ⟨v, σ', H', Jn, rv, q⟩ := hs
    exact ⟨v, H', Jn.os, Jn.bare, Jn.base, Jn.hok, rv, q⟩
  | next =>
    obtain ⟨σ', H', J, q⟩ := hs
    exact ⟨.non, H', J.os, J.bare, J.base, J.hok, rfl, q⟩
  | brk =>
    obtain ⟨_, _, _, q⟩ := hs
    exact False.elim q
  | cont =>
    obtain ⟨_, _, _, q⟩ := hs
    exact False.elim q
theorem e_callP {X : Cx} {k : Nat} {f : Addr} {fd : FuncData} {ps : List Str} {sp : Addr × Obj → Sp} {p : Addr × Obj} {x : Str} {e : Expr} {es : List Expr} {t : TA} {q pos : Pos} (F : FnPin X.prog X.w X.K X.mg X.base k f fd ps sp) (hr : L2H.RoomH k X.A) (hp : p ∈ X.pn) (hg : Gl X x) (hm : X.mg x = some (.ref f))
    (hk : PySem.W.keepIn X.K (.ref f) = true) (hb : Binds X.K fd ps []) (ha : PA X (e :: es) t) (hdb : (x == ("__debug__" : Str)) = false := by decide)
    (he : starEach (e :: es) X.env = (false, eval e X.env) :: starEach es X.env := by rfl) (hpl : (backTo pos (starEach es X.env)).any (·.1) = false := by rfl) : PE X (.Call (.Name x q) (e :: es) [] pos) (tCall (sp p) [] E0 t) := by
  constructor
  intro pins s σ H Q I h
  refine wpAny_Call_Name_kw (ld_glob I hg hm (PySem.W.callWith_K (h₀ := X.base) I.ok.mod.kin hk (thn (ha.run pos pins s σ H _ I h) ?_) he hpl) hdb)
  rintro us s1 ⟨vs, H1, I1, r, q⟩
  refine ⟨I1.kIn, ?_⟩
  rw [List.append_nil] at q
  have hl : us.length = ps.length := by rw [← r.length]; exact F.len _ _ _ _ _ q
  have b := hb s1 us I1.kIn (by rw [List.append_nil]; exact hl)
  rw [List.append_nil] at b
  have P1 := I1.pin p (List.mem_append_left _ hp)
  have hpin : L2H.PinOk X.stack H1 s1 p := ⟨P1.1, P1.2.1, fun hm => (List.mem_cons.mp (I1.stkSub p.1 hm)).elim P1.2.2.1 P1.2.2.2.1, P1.2.2.2.2⟩
  refine wpAny_call (codeAny_mono (F.run X.A X.stack s1 H1 us vs Q p hr hpin I1.env0 b r q) fun r s' hq => ?_)
  cases r with
  | error er => exact False.elim hq
  | ok fl =>
    cases fl with
    | ret u => exact I1.after hq
    | next => exact False.elim hq
    | brk => exact False.elim hq
    | cont => exact False.elim hq
end Rs
set_option maxRecDepth 100000
set_option maxHeartbeats 2000000
namespace Rs
open PySem PySem.Spec PyProof.Rows L2
/-! a comprehension whose element knows what holds of the def around it -/
section
variable {X : Cx}
/-- whoever is right within the block is right for the def -/
def Up (X : Cx) (Z : Cx) (pins : List (Addr × Obj)) (σ : L2.St) : Prop := ∀ (pz : List (Addr × Obj)) (τ : L2.St) (G : Hp) (z : Shared), Inv Z pz τ G z → Inv X pins σ G z
theorem up_blk {pins : List (Addr × Obj)} {s : Shared} {σ : L2.St} {H : Hp} {sco : Scope} {ce : Env} {fp : List Addr} (I : Inv X pins σ H s) (ok : ∀ b ∈ fp, FpOk X pins H b ∧ b < s.heap.objs.size) : Up X (X.blk s H sco ce fp) pins σ := by
  intro pz τ G z J
  refine I.call' (ch := fp) J.os J.base J.hok J.bare fun b hb => ?_
  obtain ⟨⟨_, x2, _, x4, x5, x6⟩, _⟩ := ok b hb
  exact ⟨x4, x2, x5, x6⟩
/-- the block's own run: its list stands at D -/
theorem blk_run {pins : List (Addr × Obj)} {s : Shared} {σ : L2.St} {H : Hp} {Q : VK} {elt tg it0 : Expr} {cs : List Expr} {sco : Scope} {own : List (Str × Nat)} {pos : Pos} {J : It} {g : TG} {tt : TT} {te : TE} {it D : Addr} {fp : List Addr} {tn : Nat → Heap → Prop} {W : Nat → Nat → Hp → Prop} {m0 : Nat} {R : Result → Shared → Prop}
    (hc : X.calm = true) (nd : X.N.Nodup) (I : Inv X pins σ H s) (bo : BlkOk X.N X.env.scope sco own) (ok : ∀ b ∈ fp, FpOk X pins H b ∧ b < s.heap.objs.size) (T : Turn X.prog X.w X.K tg J fp it tn) (st : tn 0 s.heap) (w0 : W 0 m0 H)
    (hg : ∀ z G C cl fp, PG (X.blk z G sco (compEnvC sco cl C X.env) fp) tg g) (ht : ∀ z G C cl fp, PTs (X.blk z G sco (compEnvC sco cl C X.env) fp) cs tt)
    (he : ∀ z G C cl fp, Up X (X.blk z G sco (compEnvC sco cl C X.env) fp) pins σ → PE (X.blk z G sco (compEnvC sco cl C X.env) fp) elt te)
    (turn : ∀ i m G, W i m G → (J.stop i G ∧ Q (.ref D) G) ∨ (J.go i G ∧ ∃ Nx : Hp → Prop, (∀ G', Nx G' → ∃ m', m' < m ∧ W (i + 1) m' G') ∧ ∀ x G', J.yld i G x G' → g x (wipe σ (own.map (·.2))) G' fun τ G2 => wipe τ (own.map (·.2)) = wipe σ (own.map (·.2)) ∧ tt τ G2 fun b G3 =>
      if b = true then te τ G3 fun y G4 => ∃ acc, G4 D = some (.lst acc) ∧ acc.length < sizeLine ∧ Nx (upd G4 D (.lst (acc ++ [y]))) else Nx G3))
    (out : ∀ z m G, Inv X pins σ G z → Q (.ref D) G → z.heap.Ns s.heap.objs.size m → FpOk X pins G s.heap.objs.size → R (.ok .next) z) :
    codeAny (model X.prog X.w) X.A (.compStart (.ListComp elt [⟨tg, it0, cs, 0⟩] sco pos) 0 (.ref it) (.ref D) (compEnvC sco (cellsFrom (s.heap.objs.size + 1) sco.names (cloFrom X.env.cells sco.names [])) s.heap.objs.size X.env)) R
      { s with heap := pushCells (s.heap.push { cls := .type "dict", data := .dict #[] }) sco.names } := by
  have B0 := block_start I bo nd ok
  have st' : tn 0 (pushCells (s.heap.push { cls := .type "dict", data := .dict #[] }) sco.names) := T.keep _ _ _ st (by intro b _ o e; exact pushCells_keeps _ _ _ _ (Heap.get?_push_of_some _ e))
  have pg := hg s H s.heap.objs.size (cellsFrom (s.heap.objs.size + 1) sco.names (cloFrom X.env.cells sco.names [])) fp
  have pt := ht s H s.heap.objs.size (cellsFrom (s.heap.objs.size + 1) sco.names (cloFrom X.env.cells sco.names [])) fp
  have pe := he s H s.heap.objs.size (cellsFrom (s.heap.objs.size + 1) sco.names (cloFrom X.env.cells sco.names [])) fp (up_blk I ok)
  have eL : (compEnvC sco (cellsFrom (s.heap.objs.size + 1) sco.names (cloFrom X.env.cells sco.names [])) s.heap.objs.size X.env).locals = s.heap.objs.size := rfl
  generalize compEnvC sco (cellsFrom (s.heap.objs.size + 1) sco.names (cloFrom X.env.cells sco.names [])) s.heap.objs.size X.env = ce at *
  generalize hs4 : ({ s with heap := pushCells (s.heap.push { cls := .type "dict", data := .dict #[] }) sco.names } : Shared) = s4 at B0 ⊢
  have st4 : tn 0 s4.heap := by
    rw [← hs4]
    exact st'
  -- the iterator's objects, seen from the block
  have fit : ∀ {τ : L2.St} {G : Hp} {z : Shared}, Inv (X.blk s H sco ce fp) [] τ G z → (∀ b ∈ fp, G b = none) → ∀ b ∈ fp, FpOk (X.blk s H sco ce fp) [] G b := by
    intro τ G z Iz hn b hb
    have e1 := Iz.ok.exf b hb
    refine ⟨hn b hb, e1.1, Iz.ok.exfs b hb, .inl hb, fun x c => e1.2 x c, ?_⟩
    intro p hp
    cases hp
  have loop : codeAny (model X.prog X.w) X.A (.compLoop (.ListComp elt [⟨tg, it0, cs, 0⟩] sco pos) 0 (.ref it) (.ref D) ce) R s4 := by
    apply compLoop_any (fun n z => ∃ i G, Inv (X.blk s H sco ce fp) [] (wipe σ (own.map (·.2))) G z ∧ tn i z.heap ∧ (∀ b ∈ fp, G b = none) ∧ W i n G) _ m0 ⟨0, H, B0, st4, fun b hb => (ok b hb).1.1, w0⟩
    rintro n s5 ⟨i, G5, I5, st5, n5, w5⟩
    cases turn i n G5 w5 with
    | inl h =>
      have td := T.done (X.blk s H sco ce fp) rfl rfl rfl hc i [] s5 _ G5 (fun _ _ => False) I5 (fit I5 n5) st5 h.1
      refine thnF td ?_
      rintro r s6 ⟨rfl, I6⟩
      have nC : G5 s.heap.objs.size = none := by
        rw [← eL]
        exact I6.free
      obtain ⟨m, hm, _⟩ := I6.loc
      refine out s6 m G5 (up_blk I ok _ _ _ _ I6) h.2 ?_ (I.fpOk (Nat.le_refl _) nC)
      rw [← eL]
      exact hm
    | inr h =>
      obtain ⟨go, Nx, hNx, step⟩ := h
      have ti := T.item (X.blk s H sco ce fp) rfl rfl rfl hc i [] s5 _ G5 (fun _ _ => False) I5 (fit I5 n5) st5 go
      refine thnF ti ?_
      rintro r s6 ⟨u, rfl, h6⟩
      refine thnF h6 ?_
      rintro _ s7 ⟨x, G7, I7, r7, y7, st7, n7⟩
      refine thnF (pg.run _ s7 _ G7 x u _ (I7.pinned (fit I7 n7) (T.obj _ _ st7)) r7 (step x G7 y7)) ?_
      rintro _ s8 ⟨τ, G8, I8, ew, q8⟩
      refine thnF (pt.run _ s8 τ G8 _ I8 q8) ?_
      rintro b s9 ⟨G9, I9, q9⟩
      have fin : ∀ {z : Shared} {G : Hp}, Inv (X.blk s H sco ce fp) ([] ++ pinsAt fp s7.heap) τ G z → Nx G → ∃ m, m < n ∧ ∃ i G, Inv (X.blk s H sco ce fp) [] (wipe σ (own.map (·.2))) G z ∧ tn i z.heap ∧ (∀ b ∈ fp, G b = none) ∧ W i m G := by
        intro z G Iz nx
        obtain ⟨m', hm, w'⟩ := hNx G nx
        have pin : ∀ b ∈ fp, ∀ o, s7.heap.get? b = some o → z.heap.get? b = some o ∧ G b = none := by
          intro b hb o e
          have q := Iz.pin (b, o) (List.mem_append_right _ (List.mem_append_right _ (mem_pinsAt hb e)))
          exact ⟨q.1, q.2.1⟩
        refine ⟨m', hm, i + 1, G, ?_, T.keep _ _ _ st7 (fun b hb o e => (pin b hb o e).1), ?_, w'⟩
        · apply (Iz.unpinned (pins := [])).weak
          · rw [← ew, wipe_length]
          · intro j v e
            rw [← ew] at e
            exact (wipe_some e).1
        · intro b hb
          obtain ⟨o, e, _⟩ := T.obj _ _ st7 b hb
          exact (pin b hb o e).2
      cases b with
      | false =>
        rw [if_neg (by decide)] at q9 ⊢
        exact fin I9 q9
      | true =>
        rw [if_pos rfl] at q9 ⊢
        refine thnF (pe.run _ s9 τ G9 _ I9 q9) ?_
        rintro v s10 ⟨y, G10, I10, r10, acc, hD, hz, nx⟩
        exact app_ok (X := X.blk s H sco ce fp) I10 hD hz r10 fun s11 I11 => fin I11 nx
  exact codeAny_compStart_list loop (T.self X.A 0 _ _ _ st4 loop)
theorem lc_up {pins : List (Addr × Obj)} {s : Shared} {σ : L2.St} {H : Hp} {Q : VK} {elt tg it0 : Expr} {cs : List Expr} {sco : Scope} {own : List (Str × Nat)} {pos p2 : Pos} {wi : TI} {g : TG} {tt : TT} {te : TE} {use : Option (Value → Sem Unit)} {Qf : Value → Shared → Prop}
    (hc : X.calm = true) (nd : X.N.Nodup) (I : Inv X pins σ H s) (hi : PI X tg it0 wi) (bo : BlkOk X.N X.env.scope sco own)
    (hg : ∀ z G C cl fp, PG (X.blk z G sco (compEnvC sco cl C X.env) fp) tg g) (ht : ∀ z G C cl fp, PTs (X.blk z G sco (compEnvC sco cl C X.env) fp) cs tt)
    (he : ∀ z G C cl fp, Up X (X.blk z G sco (compEnvC sco cl C X.env) fp) pins σ → PE (X.blk z G sco (compEnvC sco cl C X.env) fp) elt te)
    (hs : ∀ x, foldedSetIterable it0 X.env x = pure x) (hq : tLc wi g tt te (own.map (·.2)) σ H Q)
    (out : ∀ D C z m G, Inv X pins σ G z → Q (.ref D) G → z.heap.Ns C m → FpOk X pins G C → compPost (model X.prog X.w) X.A X.xe use Qf (.ref D) C (.ok .next) z) :
    wpAny (model X.prog X.w) X.A (comprehension (.ListComp elt [⟨tg, it0, cs, 0⟩] sco pos) sco X.env p2 (newList []) false (eval it0 X.env) use) Qf X.xe s := by
  have fr : ∀ y ∈ sco.names, y.2 = .free → ∃ c, X.env.cells.lookup y.1 = some c := by
    intro y hy e
    exact (bo.free y hy e).elim (fun k => I.ok.has _ (.inl k)) (fun k => I.ok.has _ (.inr k))
  apply wpAny_comprehension_free (use := use) rfl hs (closure_ok fr) bo.kind (by intro y hy e; rw [bo.uniq y hy, e])
  refine thn (hi.run pins s σ H _ I hq) ?_
  intro xv s1 hx
  refine thn hx ?_
  rintro _ s2 ⟨it, fp, tn, J, H2, rfl, I2, T, st2, f2, q⟩
  refine wpAny_newObj_type (newEnv_comp ?_) (by show 0 ≤ sizeLine; decide)
  have nD : H2 s2.heap.objs.size = none := I2.hok.fresh (Nat.le_refl _)
  obtain ⟨W, ⟨m0, w0⟩, turn⟩ := q s2.heap.objs.size nD
  have I3 := I2.laid (t' := s2.toks) (h' := s2.heap.push { cls := .type "list", data := .seq ([] : List Value).toArray }) (a := s2.heap.objs.size) (o := .lst []) (fun b o e => Heap.get?_push_of_some _ e) (Nat.le_refl _) ⟨Nat.zero_le _, [], 0, .nil, Heap.get?_push_size _ rfl⟩
  have f3 : ∀ b ∈ fp, FpOk X pins (upd H2 s2.heap.objs.size (.lst [])) b ∧ b < (s2.heap.push { cls := .type "list", data := .seq ([] : List Value).toArray }).objs.size := by
    intro b hb
    obtain ⟨o, e, _⟩ := T.obj _ _ st2 b hb
    have hlt := Heap.lt_size e
    refine ⟨⟨?_, (f2 b hb).2⟩, by rw [Heap.size_push]; exact Nat.lt_succ_of_lt hlt⟩
    rw [upd_ne (Nat.ne_of_lt hlt)]
    exact (f2 b hb).1
  exact blk_run hc nd I3 bo f3 T (T.keep _ _ _ st2 fun b _ o e => Heap.get?_push_of_some _ e) w0 hg ht he turn (fun z m G Iz qz hm hf => out _ _ z m G Iz qz hm hf)
/-- as a value -/
theorem e_lcUp {elt tg it0 : Expr} {cs : List Expr} {sco : Scope} {own : List (Str × Nat)} {pos : Pos} {wi : TI} {g : TG} {tt : TT} {te : L2.St → TE} (hc : X.calm = true) (nd : X.N.Nodup) (hi : PI X tg it0 wi) (bo : BlkOk X.N X.env.scope sco own)
    (hg : ∀ z G C cl fp, PG (X.blk z G sco (compEnvC sco cl C X.env) fp) tg g) (ht : ∀ z G C cl fp, PTs (X.blk z G sco (compEnvC sco cl C X.env) fp) cs tt)
    (he : ∀ pins σ z G C cl fp, Up X (X.blk z G sco (compEnvC sco cl C X.env) fp) pins σ → PE (X.blk z G sco (compEnvC sco cl C X.env) fp) elt (te σ)) (hs : ∀ x, foldedSetIterable it0 X.env x = pure x := by intro _; rfl) :
    PE X (.ListComp elt [⟨tg, it0, cs, 0⟩] sco pos) (fun σ H Q => tLc wi g tt (te σ) (own.map (·.2)) σ H Q) := by
  constructor
  intro pins s σ H Q I hq
  rw [eval_ListComp]
  apply lc_up hc nd I hi bo hg ht (he pins σ) hs hq
  rintro D C z m G Iz qz hm ⟨f0, f1, _, f3, f4, f5⟩
  refine ⟨m, hm, fun h2 sb => ⟨.ref D, G, ?_, rfl, qz⟩⟩
  exact Iz.turned (t' := z.toks) (fun b o hb e => (sb.2 b hb).trans e) f0 f1 f3 f4 f5
end
end Rs
set_option maxRecDepth 100000
set_option maxHeartbeats 2000000
namespace Rs
open PySem PySem.Spec PyProof.Rows L2
/-! ### lambdas that are kept: their objects are told of the heap -/
/-- a function's object, held as it is -/
def FnO (f : Addr) (o : Obj) : HO := .ext fun h => h.get? f = some o
theorem fnO_tbl {f : Addr} {o : Obj} (ps : Array Value) : FnO f o ≠ .tbl ps := by
  intro z
  unfold FnO at z
  cases z
theorem fnO_ok {P : Program} {w : World} {H : Hp} {h : Heap} {f : Addr} {o : Obj} (e : h.get? f = some o) : ObjOk P w H h f (FnO f o) := ⟨e, ⟨o, e⟩, fun _ _ p st => st _ p⟩
/-- the names of a lambda: parameters that the def around has no slot for, captured ones, globals -/
structure LamQ (N : List Str) (sc scope : Scope) : Prop where
  kind : scope.kind = .function
  co : scope.isCoroutine = false
  gen : scope.isGenerator = false
  cel : ∀ y ∈ scope.names, y.2 ≠ .cell
  loc : ∀ y ∈ scope.names, y.2 = .local → y.1 ∉ N
  free : ∀ n ∈ scope.names, n.2 = .free →
    sc.names.lookup n.1 = some .cell ∨ sc.names.lookup n.1 = some .free
def lamQB (N : List Str) (sc scope : Scope) : Bool := decide (scope.kind = .function) && (!scope.isCoroutine && (!scope.isGenerator && scope.names.all fun y => decide (y.2 ≠ .cell) && (decide (y.2 = .local → y.1 ∉ N) && decide (y.2 = .free → (sc.names.lookup y.1 = some .cell ∨ sc.names.lookup y.1 = some .free)))))
theorem lamQ_by {N : List Str} {sc scope : Scope} (h : lamQB N sc scope = true) : LamQ N sc scope := by
  unfold lamQB at h
  rw [Bool.and_eq_true, Bool.and_eq_true, Bool.and_eq_true, List.all_eq_true] at h
  obtain ⟨h1, h2, h3, h4⟩ := h
  have q : ∀ y ∈ scope.names, y.2 ≠ .cell ∧ (y.2 = .local → y.1 ∉ N) ∧ (y.2 = .free → (sc.names.lookup y.1 = some .cell ∨ sc.names.lookup y.1 = some .free)) := by
    intro y hy
    have z := h4 y hy
    rw [Bool.and_eq_true, Bool.and_eq_true] at z
    exact ⟨of_decide_eq_true z.1, of_decide_eq_true z.2.1, of_decide_eq_true z.2.2⟩
  exact ⟨of_decide_eq_true h1, by simpa using h2, by simpa using h3, fun y hy => (q y hy).1, fun y hy => (q y hy).2.1, fun y hy => (q y hy).2.2⟩
/-- the defaults' tuple, in the heap and in what is told of it -/
def DflAt (params : Arguments) (dV : Value) (h : Heap) : Prop := (params.defaults = [] ∧ dV = .none) ∨ ∃ (t : Addr) (its : List Value), dV = .ref t ∧ IsTup h t its.toArray ∧ its.length = params.defaults.length ∧ params.defaults ≠ []
def DflH (params : Arguments) (dV : Value) (H : Hp) : Prop := (params.defaults = [] ∧ dV = .none) ∨ ∃ (t : Addr) (vs : List V), dV = .ref t ∧ H t = some (.tup vs) ∧ vs.length = params.defaults.length ∧ params.defaults ≠ []
/-- the lambda stands at f, made in the def of X -/
def LamAt (X : Cx) (params : Arguments) (body : Expr) (scope : Scope) (f : Addr) (H : Hp) : Prop := ∃ (c' : Addr) (dV doc pm ctv : Value),
  H f = some (FnO f (PySem.W.kdv_obj "<lambda>" (X.env.qual ++ "<lambda>") params (.expr body) scope (cloFrom X.env.cells scope.names []) dV doc pm c' ctv)) ∧ H c' = some (LamX.CodeO c' (X.env.qual ++ "<lambda>")) ∧ DflH params dV H
/-- all stays that is neither a table of code nor at b -/
def StN (b : Addr) (H H' : Hp) : Prop := ∀ x o, x ≠ b → H x = some o → (∀ ps, o ≠ .tbl ps) → H' x = some o
theorem LamAt.go {X : Cx} {params : Arguments} {body : Expr} {scope : Scope} {f : Addr} {H H' : Hp} (l : LamAt X params body scope f H) (e : ∀ x o, H x = some o → (∀ ps, o ≠ .tbl ps) → (∀ xs, o ≠ .lst xs) → H' x = some o) : LamAt X params body scope f H' := by
  obtain ⟨c', dV, doc, pm, ctv, h1, h2, h3⟩ := l
  refine ⟨c', dV, doc, pm, ctv, e _ _ h1 fnO_tbl (fun xs z => by unfold FnO at z; cases z), e _ _ h2 LamX.codeO_ne (fun xs z => by unfold LamX.CodeO at z; cases z), ?_⟩
  rcases h3 with h3 | ⟨t, vs, e1, e2, e3⟩
  · exact .inl h3
  · exact .inr ⟨t, vs, e1, e _ _ e2 (fun ps z => by cases z) (fun ps z => by cases z), e3⟩
section
variable {X : Cx} {s s1 : Shared} {H HZ : Hp} {σ : L2.St} {pins : List (Addr × Obj)}
/-- the lambda's frame, entered at s1; what the def around knew at s holds of the captured names -/
theorem lam_in {A : Around} {outer : List Env} {E : XK} {scope : Scope} {f c' : Addr} {h₁ : Heap} {tk : Nat} {m : Str → Option Value} (I : Inv X pins σ H s) (L : LamQ X.N X.env.scope scope) (e0 : Env0 X.prog X.w X.K X.mg X.base A outer s1 HZ) (hd : A.handled = none)
    (un : Un (frs X.stack) [] H HZ s.heap s1.heap) (hns : h₁.Ns s1.heap.objs.size m) (kp : ∀ b o, s1.heap.get? b = some o → h₁.get? b = some o) :
    Inv (LamX.lamCx X A outer s1 HZ E scope f c') [] σ HZ { s1 with heap := h₁, toks := tk } := by
  have fr : ∀ y ∈ scope.names, y.2 = .free → ∃ c, X.env.cells.lookup y.1 = some c := by
    intro y hy e
    exact (L.free y hy e).elim (fun k => I.ok.has _ (.inl k)) (fun k => I.ok.has _ (.inr k))
  have got : ∀ {y : Str} {c : Addr}, (cloFrom X.env.cells scope.names []).lookup y = some c → X.env.cells.lookup y = some c := by
    intro y c e
    have cm := cloFrom_mem (PySem.mem_of_lookup e)
    rcases cm with hm | ⟨h1, h2⟩
    · cases hm
    · obtain ⟨c1, hc1⟩ := fr _ h1 rfl
      dsimp only at hc1
      rw [hc1] at h2
      rw [hc1, h2]
      rfl
  have has : ∀ {y : Str}, scope.names.lookup y = some .free → ∃ c, (cloFrom X.env.cells scope.names []).lookup y = some c := by
    intro y hl
    exact mem_lookup (cloFrom_has (acc := []) (PySem.mem_of_lookup hl))
  have cel : ∀ {c : Addr} {v : Option Value}, H c = none → s.heap.IsCell c v → h₁.IsCell c v := by
    rintro c v n ⟨o, ho, hd⟩
    obtain ⟨sl, q⟩ := un.any ho n (by simp)
    exact ⟨_, kp _ _ q, hd⟩
  have none_ex : ∀ b : Addr, b ∉ (LamX.lamCx X A outer s1 HZ E scope f c').ex := by
    intro b hb
    cases hb
  constructor
  case ok =>
    constructor
    case mod => exact e0.mod
    case kind => exact L.kind
    case glob => rfl
    case blt => rfl
    case above => exact Nat.le_refl _
    case inj => exact fun y z c e1 e2 => I.ok.inj y z c (got e1) (got e2)
    case has =>
      intro y hy
      rcases hy with hy | hy
      · exact absurd rfl (L.cel _ (PySem.mem_of_lookup hy))
      · exact has hy
    case cab => exact fun y c z _ => nomatch (show false = true from z)
    case hd => exact fun _ => hd
    case frames => exact Around.frames_deeper e0.frames
    case stk => exact .inr ⟨rfl, rfl⟩
    case exf => exact fun b z => absurd z (none_ex b)
    case bs => exact e0.bs
    case bsz => exact e0.bsz
    case noex => exact fun b _ _ => none_ex b
    case exfs => exact fun b z => absurd z (none_ex b)
    case funs => exact e0.funs
    case frf => exact e0.frf
  case os => rfl
  case bare => exact e0.bare
  case base => exact Un.kept kp
  case loc =>
    refine ⟨m, hns, ?_⟩
    intro i y v e1 e2 e3
    rcases e3 with k | k | k
    · exact absurd (List.mem_of_getElem? e1) (L.loc _ (PySem.mem_of_lookup k) rfl)
    · exact absurd rfl (L.cel _ (PySem.mem_of_lookup k))
    · have kk : scope.names.lookup y = some .free := k
      have src := L.free _ (PySem.mem_of_lookup kk) rfl
      dsimp only at src
      obtain ⟨_, _, hl⟩ := I.loc
      obtain ⟨u, r, q⟩ := hl i y v e1 e2 (src.elim (fun k => .inr (.inl k)) (fun k => .inr (.inr k)))
      obtain ⟨c2, h2⟩ := has kk
      refine ⟨u, r, .inr ⟨.inr kk, c2, h2, ?_⟩⟩
      have c1 := got h2
      rcases q with ⟨k', _⟩ | ⟨_, c3, e', z⟩
      · have k' : X.env.scope.names.lookup y = some .local := k'
        rcases src with k2 | k2 <;> rw [k'] at k2 <;> cases k2
      · rw [c1] at e'
        cases e'
        exact cel (I.freeC y _ c1) z
  case cell =>
    intro y c e
    obtain ⟨u, z⟩ := I.cell y c (got e)
    exact ⟨u, cel (I.freeC y c (got e)) z⟩
  case free => exact e0.hok.fresh (Nat.le_refl _)
  case freeC =>
    intro y c e
    obtain ⟨v, o, ho, _⟩ := I.cell y c (got e)
    exact un.free c o ho (I.freeC y c (got e)) (by simp)
  case pin =>
    intro q hq
    cases hq
  case hok => exact e0.hok.kept kp
  case len => exact I.len
/-- how a lambda that is called without arguments binds its parameters -/
def LamBind (params : Arguments) (body : Expr) (scope : Scope) : Prop := ∀ (z : Shared) (q : Str) (cl : List (Str × Addr)) (dV doc pm cv ctv : Value), DflAt params dV z.heap →
  ∃ bs, BindsTo z (PySem.W.kdv_fn "<lambda>" q params (.expr body) scope cl dV doc pm cv ctv) ⟨[], []⟩ bs ∧ ∀ y ∈ bs, scope.names.lookup y.1 = some .local
/-- a(), in the def of the name qk that got the lambda: entered at s -/
theorem pe_actL {CXk : CXT} {Ek : XK} {Nk : List Str} {qk : Str} {sg : Scope} {g f : Addr} {cdk : Value} {params : Arguments} {body : Expr} {scope : Scope} {k i : Nat} {a : Str} {pn : List (Addr × Obj)} {xe : Value → Shared → Prop} {W : WX} {E : XK} {tb : TE} {p1 p2 : Pos}
    (I : Inv X pins σ H s) (L : LamQ X.N X.env.scope scope) (hb : LamBind params body scope)
    (tk : Takes ((cxOf CXk X.prog X.w X.K X.mg X.base Nk qk sg g cdk X.A X.stack s H Ek).tr pn xe) W) (hW : ∀ cls d τ G, E cls d G → W cls d τ G) (hr : Room (k + 1) (X.A.deeper (envOfC qk sg s.heap.objs.size g cdk)))
    (hbody : ∀ (A : Around) (outer : List Env) (z : Shared) (G : Hp) (c' : Addr), Room k (A.deeper (LamX.lamEnv X scope z.heap.objs.size f c')) → PE (LamX.lamCx X A outer z G E scope f c') body tb)
    (hN : Nk[i]? = some a) (hv : Vis sg a) (hd : (a == ("__debug__" : Str)) = false := by decide) (hcd : (a == ("__classdict__" : Str)) = false := by decide) :
    PE ((cxOf CXk X.prog X.w X.K X.mg X.base Nk qk sg g cdk X.A X.stack s H Ek).tr pn xe) (.Call (.Name a p1) [] [] p2)
      (fun τ G Q => τ[i]? = some (some (.ref f)) ∧ LamAt X params body scope f G ∧ tb σ G Q) := by
  constructor
  rintro pz z τ G Q IZ ⟨hs, ⟨c', dV, doc, pm, ctv, hf, hc, hdf⟩, ht⟩
  apply wpAny_Call_Name_kw
  refine thn ((pe_var (pos := p1) (i := i) hN hv hd hcd).run pz z τ G (fun v G1 => v = .ref f ∧ G1 = G) IZ ⟨.ref f, hs, rfl, rfl⟩) ?_
  rintro u z1 ⟨v, G1, I1, r1, rfl, rfl⟩
  obtain rfl : u = Value.ref f := r1
  have of1 : z1.heap.get? f = some _ := (I1.hok f _ hf).1
  apply PySem.W.callWith_F0 ⟨_, _, _, _, of1⟩
  have un : Un (frs X.stack) [] H G1 s.heap z1.heap := I1.base
  obtain ⟨⟨oc, vs, t, hoc, hdc, hvc⟩, _, _⟩ := I1.hok c' _ hc
  have hdf2 : DflAt params dV z1.heap := by
    rcases hdf with hdf | ⟨tt, vs, e1, e2, e3⟩
    · exact .inl hdf
    · obtain ⟨_, its, r, x⟩ := I1.hok tt _ e2
      exact .inr ⟨tt, its, e1, x, by rw [← e3.1]; exact r.length.symm, e3.2⟩
  obtain ⟨bs, hbs, hloc⟩ := hb z1 (X.env.qual ++ "<lambda>") (cloFrom X.env.cells scope.names []) dV doc pm (.ref c') ctv hdf2
  have rc : codeAny (model X.prog X.w) (X.A.deeper (envOfC qk sg s.heap.objs.size g cdk)) (.call (.ref f) ⟨[], []⟩) (CR (L2.CX X.prog X.w) (envOfC qk sg s.heap.objs.size g cdk :: X.stack) X.prog X.w G1 z1 Q E) z1 := by
    apply PySem.W.kla_callFunE hr.depth of1 rfl L.co L.gen rfl ⟨c', oc, vs, t, rfl, hoc, hdc, hvc⟩
    refine hbs _ _ _ _ (wpAny_newFunctionEnv L.cel hloc (fun h₁ hns hsb => ⟨I1.nolimit.fresh _ hsb, ?_⟩) L.kind)
    show codeAny _ _ (.expr body (LamX.lamEnv X scope z1.heap.objs.size f c')) _ _
    have kp : ∀ b o, z1.heap.get? b = some o → h₁.get? b = some o := by
      intro b o e
      exact hsb.extBut b o (Nat.ne_of_lt (Heap.lt_size e)) (Heap.get?_push_of_some _ e)
    have J := lam_in (E := E) (f := f) (c' := c') (tk := z1.toks + bs.length) I L I1.env0 hr.hd un hns kp
    apply PySem.W.kla_codeExpr
    refine wpAny_mono ((hbody _ _ z1 G1 c' (hr.deeper _)).run [] _ _ G1 Q J ht) ?_ (fun e s' hq => hq)
    rintro v s' ⟨y, H', J', rv, q⟩
    exact ⟨y, H', J'.os, J'.bare, J'.base, J'.hok, rv, q⟩
  have hx : Passes (L2.CX X.prog X.w) ((cxOf CXk X.prog X.w X.K X.mg X.base Nk qk sg g cdk X.A X.stack s H Ek).tr pn xe) E := passes_call tk hW
  refine wpAny_call (codeAny_mono rc ?_)
  intro r s' hq
  match r, hq with
  | .error e, hq => exact hx pz τ G1 z1 e s' I1 hq
  | .ok (.ret u), hq => exact I1.after hq
end
end Rs
set_option maxRecDepth 100000
set_option maxHeartbeats 2000000
namespace Rs
open PySem PySem.Spec PyProof.Rows L2
section
variable {X : Cx} {s : Shared} {H : Hp} {σ : L2.St} {pins : List (Addr × Obj)}
theorem tabs_new {T : List (Addr × Str)} {H : Hp} {p : Addr} {o : HO} (t : LamX.Tabs T H) (h : H p = none) : LamX.Tabs T (upd H p o) := t.ext fun b x e => by
  rw [upd_ne (ne_of_none e h)]
  exact e
theorem extN_new {H : Hp} {p : Addr} {o : HO} (h : H p = none) : LamX.ExtN H (upd H p o) := fun b x e _ => by
  rw [upd_ne (ne_of_none e h)]
  exact e
/-- the lambda's object is made, its defaults laid -/
theorem lam_tail {T : List (Addr × Str)} {c P : Addr} {params : Arguments} {body : Expr} {scope : Scope} {pos : Pos} {line : Nat} {dV : Value} {E : Value → Shared → Prop} {Q : Value → Shared → Prop} (I : Inv X pins σ H s) (TB : LamX.TabB X.base X.mg c P) (hcode : X.env.code = .ref c)
    (hm : (P, X.env.qual ++ "<lambda>") ∈ T) (hu : ∀ p ∈ T, p.1 = P → p.2 = X.env.qual ++ "<lambda>") (hT : LamX.Tabs T H) (L : LamQ X.N X.env.scope scope) (hdf : DflH params dV H)
    (h : ∀ (f : Addr) (H1 : Hp) (s' : Shared), Inv X pins σ H1 s' → LamX.ExtN H H1 → LamX.Tabs T H1 → H f = none → LamAt X params body scope f H1 → Q (.ref f) s') :
    wpAny (model X.prog X.w) X.A (makeTail "<lambda>" (X.env.qual ++ "<lambda>") params (.expr body) scope X.env dV .none none pos line) Q E s := by
  obtain ⟨ps, hP, ht, ha⟩ := hT _ hm
  have fr : ∀ y ∈ scope.names, y.2 = .free → ∃ c, X.env.cells.lookup y.1 = some c := by
    intro y hy e
    exact (L.free y hy e).elim (fun k => I.ok.has _ (.inl k)) (fun k => I.ok.has _ (.inr k))
  have bP : s.heap.BuiltinsAt X.mg P := TB.bm.keeps I.bk
  have oP : s.heap.get? P = some { cls := .none, data := .fields ps } := I.hok P _ hP
  have dfl : ∀ {H1 : Hp}, LamX.ExtN H H1 → DflH params dV H1 := by
    intro H1 e
    rcases hdf with q | ⟨t, vs, e1, e2, e3⟩
    · exact .inl q
    · exact .inr ⟨t, vs, e1, e _ _ e2 (fun ps z => by cases z), e3⟩
  cases hc : codeAmong pos ps.toList with
  | none =>
    apply PySem.W.kdv_makeTail (mg := X.mg) (c := c) (P := P) (ps := ps) (closure_ok fr) I.ok.glob (I.mod.glob.keeps I.bk) hcode (TB.code.keeps I.bk) oP ht hc TB.gP bP
    rintro c' ctv doc h' tk hx hge hlt ⟨c2, oc, vs, t, e2, hoc, hd, hv⟩ htb
    cases e2
    have hsz : s.heap.objs.size ≤ h'.objs.size := Nat.le_trans hge (Nat.le_of_lt hlt)
    have nC : H c' = none := I.hok.fresh hge
    have nF : H h'.objs.size = none := I.hok.fresh hsz
    have I1 := LamX.inv_table (t' := tk) (more := #[rawInt pos.line, rawInt pos.col, .ref c']) (h' := h') I hP (fun b o hb e => hx b o hb e) htb hge ⟨oc, vs, t, hoc, hd, hv⟩
    have e1 : LamX.ExtN H (upd (upd H P (.tbl (ps ++ #[rawInt pos.line, rawInt pos.col, .ref c']))) c' (LamX.CodeO c' (X.env.qual ++ "<lambda>"))) := by
      intro b o e n
      have nbP : b ≠ P := fun z => by
        rw [z, hP] at e
        exact n ps (Option.some.inj e).symm
      rw [upd_ne (ne_of_none e nC), upd_ne nbP]
      exact e
    have n1 : upd (upd H P (.tbl (ps ++ #[rawInt pos.line, rawInt pos.col, .ref c']))) c' (LamX.CodeO c' (X.env.qual ++ "<lambda>")) h'.objs.size = none := by
      rw [upd_ne (Nat.ne_of_gt hlt), upd_ne (fun z => by rw [z, hP] at nF; cases nF)]
      exact nF
    have T1 : LamX.Tabs T (upd (upd H P (.tbl (ps ++ #[rawInt pos.line, rawInt pos.col, .ref c']))) c' (LamX.CodeO c' (X.env.qual ++ "<lambda>"))) := by
      have apn : (ps ++ #[rawInt pos.line, rawInt pos.col, .ref c']).toList = ps.toList ++ [rawInt pos.line, rawInt pos.col, .ref c'] := by simp
      intro p hp
      by_cases hb : p.1 = P
      · rw [hu p hp hb, hb]
        refine ⟨_, by rw [upd_ne (ne_of_none hP nC), upd_same], by rw [apn]; exact PySem.TriplesOk_snoc _ _ _ _ ht, ?_⟩
        intro p' cv hcv
        rw [apn] at hcv
        rcases LamX.among_app _ ht hcv with z | z
        · obtain ⟨c0, g1, g2⟩ := ha p' cv z
          exact ⟨c0, g1, e1 _ _ g2 LamX.codeO_ne⟩
        · exact ⟨c', z, upd_same⟩
      · obtain ⟨ps', a1, a2, a3⟩ := hT p hp
        refine ⟨ps', by rw [upd_ne (ne_of_none a1 nC), upd_ne hb]; exact a1, a2, ?_⟩
        intro p' cv hcv
        obtain ⟨c0, g1, g2⟩ := a3 p' cv hcv
        exact ⟨c0, g1, e1 _ _ g2 LamX.codeO_ne⟩
    have I2 := I1.laid (t' := tk) (a := h'.objs.size) (o := FnO h'.objs.size (PySem.W.kdv_obj "<lambda>" (X.env.qual ++ "<lambda>") params (.expr body) scope (cloFrom X.env.cells scope.names []) dV doc ((X.mg "__name__").getD .none) c' ctv)) (h' := h'.push _) (fun b o e => Heap.get?_push_of_some _ e) (Nat.le_refl _) (fnO_ok (Heap.get?_push_size _ rfl))
    have e2 := e1.trans (extN_new (o := FnO h'.objs.size (PySem.W.kdv_obj "<lambda>" (X.env.qual ++ "<lambda>") params (.expr body) scope (cloFrom X.env.cells scope.names []) dV doc ((X.mg "__name__").getD .none) c' ctv)) n1)
    refine h _ _ _ I2 e2 (tabs_new T1 n1) nF ⟨c', dV, doc, _, ctv, upd_same, ?_, dfl e2⟩
    rw [upd_ne (Nat.ne_of_lt hlt), upd_same]
  | some cv =>
    obtain ⟨c', rfl, hco⟩ := ha pos cv hc
    apply PySem.W.kdv_makeTailHit (mg := X.mg) (c := c) (P := P) (ps := ps) (closure_ok fr) I.ok.glob (I.mod.glob.keeps I.bk) hcode (TB.code.keeps I.bk) oP ht hc bP
    intro ctv doc h' tk hx hsz
    have nF : H h'.objs.size = none := I.hok.fresh hsz
    have I1 := I.kept (t' := tk) hx
    have I2 := I1.laid (t' := tk) (a := h'.objs.size) (o := FnO h'.objs.size (PySem.W.kdv_obj "<lambda>" (X.env.qual ++ "<lambda>") params (.expr body) scope (cloFrom X.env.cells scope.names []) dV doc ((X.mg "__name__").getD .none) c' ctv)) (h' := h'.push _) (fun b o e => Heap.get?_push_of_some _ e) (Nat.le_refl _) (fnO_ok (Heap.get?_push_size _ rfl))
    have e2 := extN_new (o := FnO h'.objs.size (PySem.W.kdv_obj "<lambda>" (X.env.qual ++ "<lambda>") params (.expr body) scope (cloFrom X.env.cells scope.names []) dV doc ((X.mg "__name__").getD .none) c' ctv)) nF
    exact h _ _ _ I2 e2 (tabs_new hT nF) nF ⟨c', dV, doc, _, ctv, upd_same, e2 _ _ hco LamX.codeO_ne, dfl e2⟩
end
/-- a lambda made: it stands at f -/
def tMk (T : List (Addr × Str)) (A : Addr → Hp → Prop) : TE := fun _ H Q => LamX.Tabs T H ∧ ∀ f H1, LamX.ExtN H H1 → LamX.Tabs T H1 → H f = none → A f H1 → Q (.ref f) H1
section
variable {X : Cx}
theorem e_lam0 {T : List (Addr × Str)} {c P : Addr} {params : Arguments} {body : Expr} {scope : Scope} {pos : Pos} (TB : LamX.TabB X.base X.mg c P) (hcode : X.env.code = .ref c)
    (hm : (P, X.env.qual ++ "<lambda>") ∈ T) (hu : ∀ p ∈ T, p.1 = P → p.2 = X.env.qual ++ "<lambda>") (L : LamQ X.N X.env.scope scope) (h0 : params.defaults = []) (hdef : defaultsOf params X.env = ([], [])) :
    PE X (.Lambda params body scope pos) (tMk T (LamAt X params body scope)) := by
  constructor
  rintro pins s σ H Q I ⟨hT, q⟩
  apply PySem.W.kla_eval hdef
  rw [makeFunction_eq]
  simp only [List.zip_nil_right, List.filterMap_nil, List.isEmpty_nil, if_true, pure_bind]
  refine lam_tail I TB hcode hm hu hT L (.inl ⟨h0, rfl⟩) ?_
  intro f H1 s' I1 e T1 nf l
  exact ⟨.ref f, H1, I1, rfl, q f H1 e T1 nf l⟩
/-- one parameter with a default -/
theorem e_lam1 {T : List (Addr × Str)} {c P : Addr} {params : Arguments} {d body : Expr} {td : TE} {scope : Scope} {pos : Pos} (TB : LamX.TabB X.base X.mg c P) (hcode : X.env.code = .ref c)
    (hm : (P, X.env.qual ++ "<lambda>") ∈ T) (hu : ∀ p ∈ T, p.1 = P → p.2 = X.env.qual ++ "<lambda>") (L : LamQ X.N X.env.scope scope) (hd : params.defaults = [d]) (hk : params.kw_defaults = []) (pd : PE X d td) :
    PE X (.Lambda params body scope pos) (fun σ H Q => td σ H fun v H1 => tMk T (LamAt X params body scope) σ H1 Q) := by
  constructor
  intro pins s σ H Q I h
  apply PySem.W.kdv_lam (by rw [hd]; rfl) hk
  rw [hd]
  apply PySem.W.kdv_all1
  refine thn (pd.run pins s σ H _ I h) ?_
  rintro u s1 ⟨v, H1, I1, r1, hT, q⟩
  apply PySem.W.kdv_all0
  rw [makeFunction_eq]
  simp only [List.zip_nil_right, List.filterMap_nil, List.isEmpty_nil, List.isEmpty_cons, if_true, pure_bind, Bool.false_eq_true, if_false]
  refine wpAny_bind (wpAny_newTextTuple ?_)
  have nt : H1 s1.heap.objs.size = none := I1.hok.fresh (Nat.le_refl _)
  have I2 := I1.laid (t' := s1.toks) (a := s1.heap.objs.size) (o := .tup [v]) (h' := s1.heap.push { cls := .type "tuple", data := .seq [u].toArray }) (fun b o e => Heap.get?_push_of_some _ e) (Nat.le_refl _) ⟨by show 1 ≤ sizeLine; decide, [u], .cons r1 .nil, IsTup.new _ _⟩
  refine lam_tail I2 TB hcode hm hu (tabs_new hT nt) L (.inr ⟨_, [v], rfl, upd_same, by rw [hd]; rfl, by rw [hd]; exact List.cons_ne_nil _ _⟩) ?_
  intro f H3 s' I3 e T3 nf l
  refine ⟨.ref f, H3, I3, rfl, q f H3 ((extN_new nt).trans e) T3 ?_ l⟩
  cases hf : H1 f with
  | none => rfl
  | some o =>
    rw [upd_ne (ne_of_none hf nt), hf] at nf
    cases nf
end
/-! ### the def that is handed a lambda -/
/-- a: the lambda's name in the def; TT: what the def makes of the lambda's reading -/
def GivesL (X : Cx) (Nk : List Str) (x : Str) (sg : Scope) (g : Addr) (cdk : Value) (bk : List Stmt) (a : Str) (TT : (XK → Hp → VK → Prop) → Hp → VK → Prop) : Prop :=
  ∀ (f : Addr) (s : Shared) (H : Hp) (Q : VK) (tl : XK → Hp → VK → Prop) (cd : Hp → Prop),
    (∀ (W : WX) (pn : List (Addr × Obj)) (xe : Value → Shared → Prop) (E : XK) (p1 p2 : Pos), Takes ((cxOf C8.CX0 X.prog X.w X.K X.mg X.base Nk x sg g cdk X.A X.stack s H C8.E0).tr pn xe) W → (∀ cls d τ G, E cls d G → W cls d τ G) →
      PE ((cxOf C8.CX0 X.prog X.w X.K X.mg X.base Nk x sg g cdk X.A X.stack s H C8.E0).tr pn xe) (.Call (.Name a p1) [] [] p2) (fun τ G Q => τ[0]? = some (some (.ref f)) ∧ cd G ∧ tl E G Q)) →
    cd H → TT tl H Q →
    ∃ t, PSs (cxOf C8.CX0 X.prog X.w X.K X.mg X.base Nk x sg g cdk X.A X.stack s H C8.E0).nox bk t ∧ t { nx := fun _ H' => Q .non H', rt := Q } (L2.start Nk [.ref f]) H
/-- a lambda's reading in the def of X -/
structure LamB (X : Cx) (k : Nat) (params : Arguments) (body : Expr) (scope : Scope) (t : XK → TE) : Prop where
  L : LamQ X.N X.env.scope scope
  b : LamBind params body scope
  run : ∀ (A : Around) (outer : List Env) (z : Shared) (G : Hp) (E : XK) (f c' : Addr), Room k (A.deeper (LamX.lamEnv X scope z.heap.objs.size f c')) → PE (LamX.lamCx X A outer z G E scope f c') body (t E)
/-- x(e), e a lambda of the def of X; Z stands in X or is X -/
theorem e_giveL {X Z : Cx} {TT : (XK → Hp → VK → Prop) → Hp → VK → Prop} {x a : Str} {g : Addr} {k : Nat} {pk : Arguments} {bk : List Stmt} {sg : Scope} {dV kV doc pm cdv ct oc : Value} {an od : Option Addr} {osl : Array (Option Value)} {Nk : List Str} {pins : List (Addr × Obj)} {σ : L2.St}
    {e : Expr} {te : TE} {p pos : Pos} (up : Up X Z pins σ) (eZ : Z.prog = X.prog ∧ Z.w = X.w ∧ Z.K = X.K ∧ Z.mg = X.mg ∧ Z.base = X.base ∧ Z.A = X.A ∧ Z.stack = X.stack) (hg : Gl Z x) (hm : X.mg x = some (.ref g)) (hk : PySem.W.keepIn X.K (.ref g) = true)
    (lk : X.K.lookup g = some ⟨oc, od, .func (PySem.W.fnOf x x pk bk sg dV kV doc pm an cdv ct), osl⟩) (hcg : PySem.W.codeIn X.K cdv x = true) (hb : L2.Binds X.K (PySem.W.fnOf x x pk bk sg dV kV doc pm an cdv ct) [a] []) (Sg : FnScope Nk [a] sg) (hNg : Nk[0]? = some a) (hva : Vis sg a)
    (hG : GivesL X Nk x sg g cdv bk a TT) (hr : Room (k + 2) X.A) (he : PE Z e te)
    (hdb : (x == ("__debug__" : Str)) = false := by decide) (hd : (a == ("__debug__" : Str)) = false := by decide) (hcd : (a == ("__classdict__" : Str)) = false := by decide)
    (hst : starEach [e] Z.env = (false, eval e Z.env) :: starEach [] Z.env := by rfl) (hpl : (backTo pos (starEach [] Z.env)).any (·.1) = false := by rfl) :
    PE Z (.Call (.Name x p) [e] [] pos) (fun τ G Q => te τ G fun v G1 => ∃ (f : Addr) (params : Arguments) (body : Expr) (scope : Scope) (t : XK → TE), [v] = [V.ref f] ∧ LamB X k params body scope t ∧ LamAt X params body scope f G1 ∧ TT (fun E G' Q' => t E σ G' Q') G1 Q) := by
  constructor
  intro pz z τ G Q IZ h
  obtain ⟨e1, e2, e3, e4, e5, e6, e7⟩ := eZ
  have hm' : Z.mg x = some (.ref g) := by rw [e4]; exact hm
  have hk' : PySem.W.keepIn Z.K (.ref g) = true := by rw [e3]; exact hk
  apply wpAny_Call_Name_kw
  refine ld_glob IZ hg hm' ?_ hdb
  refine PySem.W.callWith_K (h₀ := Z.base) IZ.ok.mod.kin hk' ?_ hst hpl
  refine thn ((pa_cons he pa_nil hst).run pos pz z τ G (fun vs G1 => ∃ (f : Addr) (params : Arguments) (body : Expr) (scope : Scope) (t : XK → TE), vs = [.ref f] ∧ LamB X k params body scope t ∧ LamAt X params body scope f G1 ∧ TT (fun E G' Q' => t E σ G' Q') G1 Q) IZ h) ?_
  rintro us z1 ⟨vs, G1, I1, r1, f, params, body, scope, t, rfl, LB, LA, tt⟩
  obtain ⟨u, rfl, ru⟩ := vals1 r1
  obtain rfl : u = Value.ref f := ru
  refine ⟨I1.kIn, ?_⟩
  have J := up _ _ _ _ I1
  have rc : codeAny (model X.prog X.w) X.A (.call (.ref g) ⟨[.ref f], []⟩) (CR C8.CX0 X.stack X.prog X.w G1 z1 Q C8.E0) z1 := by
    refine LamX.run_ofS (N := Nk) (ps := [a]) (us := [.ref f]) (vs := [.ref f]) lk hcg Sg hr J.env0 (hb z1 [.ref f] J.kIn rfl) (.cons rfl .nil) rfl fun hr' => ?_
    obtain ⟨t', ht', hq'⟩ := hG f z1 G1 Q (fun E G' Q' => t E σ G' Q') (LamAt X params body scope f) (fun W pn xe E p1 p2 tk hW => pe_actL (i := 0) J LB.L LB.b tk hW hr' (fun A outer s H c' hr2 => LB.run A outer s H E f c' hr2) hNg hva hd hcd) LA tt
    exact ⟨t', ht'.nox, hq'⟩
  rw [← e1, ← e2, ← e6, ← e7] at rc
  refine wpAny_call (codeAny_mono rc ?_)
  intro r s2 hq
  match r, hq with
  | .error e, hq => exact (show False from hq).elim
  | .ok (.ret u), hq => exact I1.after hq
end Rs
set_option maxRecDepth 100000
set_option maxHeartbeats 2000000
namespace Rs
open PySem PySem.Spec PyProof.Rows L2
/-- f(k = v): keywords alone -/
theorem e_callK0 {X : Cx} {CX : CXT} {k : Nat} {f : Addr} {fd : FuncData} {ps ks : List Str} {sp : Sp} {E : XK} {x : Str} {p pos : Pos} {kws : List Keyword} {tk : TA} {g : List Value → List Value → List Value} {gV : List V → List V → List V}
    (F : FnOk X.prog X.w X.K X.mg X.base CX k f fd ps sp) (hr : Room k X.A) (hg : Gl X x) (hm : X.mg x = some (.ref f)) (hk : PySem.W.keepIn X.K (.ref f) = true) (hb : KBinds X.K fd ps ks g gV) (hx : Passes CX X E) (hkw : PK X kws tk)
    (hall : (backToKw pos (keywordEach kws X.env)).all (·.1.isSome) = true := by rfl)
    (hks : (backToKw pos (keywordEach kws X.env)).filterMap (·.1) = ks := by rfl) (hdb : (x == ("__debug__" : Str)) = false := by decide)
    (hpl : ((backTo pos (starEach [] X.env)).any (·.1) || (backToKw pos (keywordEach kws X.env)).any (·.1.isNone)) = false := by rfl) : PE X (.Call (.Name x p) [] kws pos) (tCallK sp gV E tNil tk) := by
  constructor
  intro pins s σ H Q I h
  refine wpAny_Call_Name_kw (ld_glob I hg hm (PySem.W.callWith_KW0 (h₀ := X.base) I.ok.mod.kin hk hall (thn (hkw.run pos pins s σ H _ I h) ?_) hpl) hdb)
  rintro ws s2 ⟨zs, H2, I2, rz, q2⟩
  refine ⟨I2.kIn, ?_⟩
  rw [hks]
  exact run_fnk (us := []) (vs := []) F hr hb hx I2 .nil rz q2
/-- three keywords in the reverse order of the parameters -/
def rev3 {α : Type} : List α → List α → List α
  | [], [x, y, z] => [z, y, x]
  | _, _ => []
theorem rev3_rel {vs : List V} {us : List Value} {zs : List V} {ws : List Value} (r : Vals vs us) (rz : Vals zs ws) : Vals (rev3 vs zs) (rev3 us ws) := by
  cases r with
  | cons _ _ => exact .nil
  | nil =>
    cases rz with
    | nil => exact .nil
    | cons r1 rz =>
      cases rz with
      | nil => exact .nil
      | cons r2 rz =>
        cases rz with
        | nil => exact .nil
        | cons r3 rz =>
          cases rz with
          | nil => exact .cons r3 (.cons r2 (.cons r1 .nil))
          | cons _ _ => exact .nil
end Rs
set_option maxRecDepth 100000
set_option maxHeartbeats 2000000
namespace Rs
open PySem PySem.Spec PyProof.Rows L2
theorem ss_or {X : Cx} {b : List Stmt} {t1 t2 : TS} (h1 : PSs X b t1) (h2 : PSs X b t2) : PSs X b (fun D σ H => t1 D σ H ∨ t2 D σ H) := ⟨fun pins s σ H D I h => h.elim (h1.run pins s σ H D I) (h2.run pins s σ H D I)⟩
theorem up_self {X : Cx} : ∀ (pz : List (Addr × Obj)) (τ : L2.St) (G : Hp) (z : Shared), Inv X pz τ G z → ∃ pins, Inv X pins (id τ) G z := fun pz _ _ _ I => ⟨pz, I⟩
/-- x(e), e a lambda of the def of X; Z stands in X, or is X: sl tells X's slots by Z's -/
theorem e_giveG {X Z : Cx} {TT : (XK → Hp → VK → Prop) → Hp → VK → Prop} {x a : Str} {g : Addr} {k : Nat} {pk : Arguments} {bk : List Stmt} {sg : Scope} {dV kV doc pm cdv ct oc : Value} {an od : Option Addr} {osl : Array (Option Value)} {Nk : List Str} {sl : L2.St → L2.St}
    {e : Expr} {te : TE} {p pos : Pos} (up : ∀ (pz : List (Addr × Obj)) (τ : L2.St) (G : Hp) (z : Shared), Inv Z pz τ G z → ∃ pins, Inv X pins (sl τ) G z) (eZ : Z.prog = X.prog ∧ Z.w = X.w ∧ Z.K = X.K ∧ Z.mg = X.mg ∧ Z.base = X.base ∧ Z.A = X.A ∧ Z.stack = X.stack) (hg : Gl Z x) (hm : X.mg x = some (.ref g)) (hk : PySem.W.keepIn X.K (.ref g) = true)
    (lk : X.K.lookup g = some ⟨oc, od, .func (PySem.W.fnOf x x pk bk sg dV kV doc pm an cdv ct), osl⟩) (hcg : PySem.W.codeIn X.K cdv x = true) (hb : L2.Binds X.K (PySem.W.fnOf x x pk bk sg dV kV doc pm an cdv ct) [a] []) (Sg : FnScope Nk [a] sg) (hNg : Nk[0]? = some a) (hva : Vis sg a)
    (hG : GivesL X Nk x sg g cdv bk a TT) (hr : Room (k + 2) X.A) (he : PE Z e te)
    (hdb : (x == ("__debug__" : Str)) = false := by decide) (hd : (a == ("__debug__" : Str)) = false := by decide) (hcd : (a == ("__classdict__" : Str)) = false := by decide)
    (hst : starEach [e] Z.env = (false, eval e Z.env) :: starEach [] Z.env := by rfl) (hpl : (backTo pos (starEach [] Z.env)).any (·.1) = false := by rfl) :
    PE Z (.Call (.Name x p) [e] [] pos) (fun τ G Q => te τ G fun v G1 => ∃ (f : Addr) (params : Arguments) (body : Expr) (scope : Scope) (t : XK → TE), [v] = [V.ref f] ∧ LamB X k params body scope t ∧ LamAt X params body scope f G1 ∧ TT (fun E G' Q' => t E (sl τ) G' Q') G1 Q) := by
  constructor
  intro pz z τ G Q IZ h
  obtain ⟨e1, e2, e3, e4, e5, e6, e7⟩ := eZ
  have hm' : Z.mg x = some (.ref g) := by rw [e4]; exact hm
  have hk' : PySem.W.keepIn Z.K (.ref g) = true := by rw [e3]; exact hk
  apply wpAny_Call_Name_kw
  refine ld_glob IZ hg hm' ?_ hdb
  refine PySem.W.callWith_K (h₀ := Z.base) IZ.ok.mod.kin hk' ?_ hst hpl
  refine thn ((pa_cons he pa_nil hst).run pos pz z τ G (fun vs G1 => ∃ (f : Addr) (params : Arguments) (body : Expr) (scope : Scope) (t : XK → TE), vs = [.ref f] ∧ LamB X k params body scope t ∧ LamAt X params body scope f G1 ∧ TT (fun E G' Q' => t E (sl τ) G' Q') G1 Q) IZ h) ?_
  rintro us z1 ⟨vs, G1, I1, r1, f, params, body, scope, t, rfl, LB, LA, tt⟩
  obtain ⟨u, rfl, ru⟩ := vals1 r1
  obtain rfl : u = Value.ref f := ru
  refine ⟨I1.kIn, ?_⟩
  obtain ⟨pins, J⟩ := up _ _ _ _ I1
  have rc : codeAny (model X.prog X.w) X.A (.call (.ref g) ⟨[.ref f], []⟩) (CR C8.CX0 X.stack X.prog X.w G1 z1 Q C8.E0) z1 := by
    refine LamX.run_ofS (N := Nk) (ps := [a]) (us := [.ref f]) (vs := [.ref f]) lk hcg Sg hr J.env0 (hb z1 [.ref f] J.kIn rfl) (.cons rfl .nil) rfl fun hr' => ?_
    obtain ⟨t', ht', hq'⟩ := hG f z1 G1 Q (fun E G' Q' => t E (sl τ) G' Q') (LamAt X params body scope f) (fun W pn xe E p1 p2 tk hW => pe_actL (i := 0) J LB.L LB.b tk hW hr' (fun A outer s H c' hr2 => LB.run A outer s H E f c' hr2) hNg hva hd hcd) LA tt
    exact ⟨t', ht'.nox, hq'⟩
  rw [← e1, ← e2, ← e6, ← e7] at rc
  refine wpAny_call (codeAny_mono rc ?_)
  intro r s2 hq
  match r, hq with
  | .error e, hq => exact (show False from hq).elim
  | .ok (.ret u), hq => exact I1.after hq
end Rs
set_option maxRecDepth 100000
set_option maxHeartbeats 0
namespace K15
open PySem PySem.Spec PyProof.Rows L2
def hT (i : Nat) : Stmt := PySem.Challenge.pw_roundswap_k15_texts_of_towns.main.body.getD i (.Pass ⟨0, 0, 0, 0⟩)
def hIn (st : Stmt) (i : Nat) : Stmt := match st with
  | .ClassDef _ _ _ b _ _ _ _ _ _ _ => b.getD i (.Pass ⟨0, 0, 0, 0⟩)
  | _ => .Pass ⟨0, 0, 0, 0⟩
def oexB (K : PySem.W.Frag) (C : Addr) : Bool := (match K.lookup C with
  | some ⟨.type t, _, .cls cd, sl⟩ => decide (t = "type") && (match cd.mro, sl.toList with
    | .ref C' :: bm, [_, _, _, _, some (.builtin n), _] => decide (C' = C) && (decide (n = "ValueError.__new__") && (!cd.hasDel && (cd.hasDict && PySem.HandSPX.refsVE bm)))
    | _, _ => false)
  | _ => false) && (decide (PySem.W.findIn K (.ref C) "__setattr__" = some (some (.builtin "object.__setattr__"))) && (decide (PySem.W.subIn K (.ref C) (.type "BaseException") = some true) && (decide (PySem.W.typeIn K (.ref C) = some (.type "type")) && PySem.W.keepIn K (.ref C))))
def erB (K : PySem.W.Frag) (C : Addr) (fl : Str) : Bool := oexB K C && (xfB K C && (decide (PySem.W.findIn K (.ref C) fl = some none) && (decide (PySem.W.findIn K (.ref C) "tag" = some none) && (decide (PySem.W.findIn K (.ref C) "__init__" = some (some (.ref (He.ma K C "__init__")))) && decide (PySem.W.typeIn K (.ref (He.ma K C "__init__")) = some (.type "function"))))))
def cvalB (K : PySem.W.Frag) (C : Addr) : Bool := match PySem.W.findCls K (.ref C) (.type "type") "MOST" with
  | some (.val u) => He.relB (.int 6) u
  | _ => false
def dD (x : Str) (st : Stmt) : He.DefD := ⟨(x, none), x, x, defArgs st, defBody st, defScope st, [], []⟩
def dM (c m q : Str) (st : Stmt) : He.DefD := ⟨(c, some m), m, q, defArgs st, defBody st, defScope st, [], []⟩
def dIni : He.DefD := ⟨("Table", some "__init__"), "__init__", "Table.__init__", defArgs (hIn (hT 44) 0), defBody (hIn (hT 44) 0), defScope (hIn (hT 44) 0), [.adr (He.dflAt ("Table", some "__init__") 0)], []⟩
abbrev tA (K : PySem.W.Frag) : Addr := He.ga K "Town"
abbrev gA (K : PySem.W.Frag) : Addr := He.ga K "InvalidLetters"
abbrev uA (K : PySem.W.Frag) : Addr := He.ga K "InvalidRule"
abbrev pA (K : PySem.W.Frag) : Addr := He.ga K "ParseError"
abbrev lA (K : PySem.W.Frag) : Addr := He.ga K "TooLong"
def dRead : He5.DefA := { at_ := fun K => He5.wf K (tA K) "classmethod" "read", name := "read", qual := "Town.read", params := defArgs (hIn (hT 56) 2), body := defBody (hIn (hT 56) 2), scope := defScope (hIn (hT 56) 2) }
abbrev eqA (K : PySem.W.Frag) : Addr := He.ma K (tA K) "__eq__"
def exL (K : PySem.W.Frag) : List Bool := [
  He.eqO (PySem.W.findIn K (.ref (tA K)) "__eq__") (some (some (.ref (eqA K)))),
  PySem.W.isFn K (.ref (eqA K)),
  He.eqO (PySem.W.findIn K (.ref (tA K)) "__ne__") (some (some (.builtin "object.__ne__"))),
  decide (PySem.W.mroIn K (tA K) (.type "object") = some true),
  decide (PySem.W.subIn K (.ref (tA K)) (.type "list") = some false),
  decide (PySem.W.subIn K (.ref (tA K)) (.type "tuple") = some false),
  decide (PySem.W.subIn K (.ref (tA K)) (.type "NoneType") = some false),
  decide (PySem.W.subIn K (.ref (tA K)) (.type "int") = some false),
  decide (PySem.W.subIn K (.ref (tA K)) (.type "str") = some false),
  He.eqO (PySem.W.findIn K (.ref (tA K)) "__class__") (some (some (.builtin "object.__class__"))),
  He.eqO (PySem.W.specialIn K (.builtin "object.__class__") "__get__") (some (some (.builtin "getset_descriptor.__get__"))),
  decide (PySem.W.takesIn K (.builtin "object.__class__") = some true),
  decide (PySem.W.kitOne K (.ref (tA K)) (.ref (tA K)) = some true),
  decide (PySem.W.kitOne K (.type "NoneType") (.ref (tA K)) = some false),
  decide (PySem.W.kitOne K (.type "int") (.ref (tA K)) = some false),
  decide (PySem.W.kitOne K (.type "str") (.ref (tA K)) = some false),
  decide (PySem.W.kitOne K (.type "list") (.ref (tA K)) = some false),
  erB K (gA K) "at",
  erB K (uA K) "at",
  erB K (pA K) "at",
  erB K (lA K) "limit",
  decide (PySem.W.exmAny K (.ref (uA K)) [.ref (He.ga K "TownError"), .ref (He.ga K "Missing"), .ref (He.ga K "NothingLeft")] = some true),
  decide (PySem.W.exmAny K (.ref (lA K)) [.ref (He.ga K "TownError"), .ref (He.ga K "Missing"), .ref (He.ga K "NothingLeft")] = some true),
  He5.wrapB K (tA K) "classmethod" "classmethod.__get__" "read" && (PySem.W.fnIn K (dRead.at_ K) && dRead.ok K),
  PySem.W.readsIn K (tA K) (.type "type"),
  He.eqO (PySem.W.specialIn K (.ref (tA K)) "__getattribute__") (some (some (.builtin "type.__getattribute__"))),
  cvalB K (tA K),
  decide ((He.cT K ("swept", none)).2 ≠ (He.cT K ("law", none)).2)]
def exK (K : PySem.W.Frag) : Bool := (exL K).all id
/-! the Hook, over a list of addresses that is written out -/
def lit : List Addr := [3, 6, 4, 21, 28, 35, 40, 57, 77, 97, 116, 135, 154, 173, 192, 211, 230, 249, 257, 262, 269, 274, 281, 288, 295, 302, 309, 316, 323, 330, 337, 344, 351, 358, 365, 372, 377, 384, 391, 482, 491, 496, 501, 506, 513, 518, 523, 530, 537, 676, 687, 694, 699, 706, 713, 718, 725, 732, 737, 744, 751, 756, 763, 770, 775, 780, 787, 792, 797, 804, 811, 818, 825, 832, 839, 844, 851, 856, 0, 20, 27, 34, 39, 56, 76, 96, 115, 134, 153, 172, 191, 210, 229, 248, 256, 261, 268, 273, 280, 287, 294, 301, 308, 315, 322, 329, 336, 343, 350, 357, 364, 371, 376, 383, 390, 481, 490, 495, 500, 505, 512, 517, 522, 529, 536, 675, 686, 693, 698, 705, 712, 717, 724, 731, 736, 743, 750, 755, 762, 769, 774, 779, 786, 791, 796, 803, 810, 817, 824, 831, 838, 843, 850, 855, 15, 16, 17, 18, 19, 22, 23, 24, 25, 26, 29, 30, 31, 32, 33, 36, 37, 38, 54, 55, 58, 74, 75, 78, 94, 95, 113, 114, 132, 133, 151, 152, 170, 171, 189, 190, 208, 209, 227, 228, 246, 247, 250, 253, 254, 255, 258, 259, 260, 263, 264, 265, 266, 267, 270, 271, 272, 275, 276, 277, 278, 279, 282, 283, 284, 285, 286, 289, 290, 291, 292, 293, 296, 297, 298, 299, 300, 303, 304, 305, 306, 307, 310, 311, 312, 313, 314, 317, 318, 319, 320, 321, 324, 325, 326, 327, 328, 331, 332, 333, 334, 335, 338, 339, 340, 341, 342, 345, 346, 347, 348, 349, 352, 353, 354, 355, 356, 359, 360, 361, 362, 363, 366, 367, 368, 369, 370, 373, 374, 375, 378, 379, 380, 381, 382, 385, 386, 387, 388, 389, 407, 415, 423, 430, 437, 444, 451, 458, 465, 472, 479, 480, 483, 484, 487, 488, 489, 492, 493, 494, 497, 498, 499, 502, 503, 504, 507, 508, 509, 510, 511, 514, 515, 516, 519, 520, 521, 524, 525, 526, 527, 528, 531, 532, 533, 534, 535, 549, 558, 567, 575, 583, 590, 597, 604, 612, 619, 626, 633, 640, 647, 652, 659, 666, 673, 674, 677, 678, 681, 682, 683, 684, 685, 688, 689, 690, 691, 692, 695, 696, 697, 700, 701, 702, 703, 704, 707, 708, 709, 710, 711, 714, 715, 716, 719, 720, 721, 722, 723, 726, 727, 728, 729, 730, 733, 734, 735, 738, 739, 740, 741, 742, 745, 746, 747, 748, 749, 752, 753, 754, 757, 758, 759, 760, 761, 764, 765, 766, 767, 768, 771, 772, 773, 776, 777, 778, 781, 782, 783, 784, 785, 788, 789, 790, 793, 794, 795, 798, 799, 800, 801, 802, 805, 806, 807, 808, 809, 812, 813, 814, 815, 816, 819, 820, 821, 822, 823, 826, 827, 828, 829, 830, 833, 834, 835, 836, 837, 840, 841, 842, 845, 846, 847, 848, 849, 852, 853, 854, 53, 73, 93, 112, 131, 150, 169, 188, 207, 226, 245, 406, 400, 414, 422, 429, 436, 443, 450, 457, 464, 471, 478, 548, 556, 557, 566, 574, 582, 589, 596, 603, 611, 605, 618, 625, 632, 639, 646, 651, 658, 665, 672, 48, 49, 50, 51, 52, 68, 69, 70, 71, 72, 88, 89, 90, 91, 92, 107, 108, 109, 110, 111, 126, 127, 128, 129, 130, 145, 146, 147, 148, 149, 164, 165, 166, 167, 168, 183, 184, 185, 186, 187, 202, 203, 204, 205, 206, 221, 222, 223, 224, 225, 240, 241, 242, 243, 244, 401, 402, 403, 404, 405, 399, 413, 421, 424, 425, 426, 427, 428, 431, 432, 433, 434, 435, 438, 439, 440, 441, 442, 445, 446, 447, 448, 449, 452, 453, 454, 455, 456, 459, 460, 461, 462, 463, 466, 467, 468, 469, 470, 473, 474, 475, 476, 477, 545, 546, 547, 555, 559, 565, 573, 581, 584, 585, 586, 587, 588, 591, 592, 593, 594, 595, 598, 599, 600, 601, 602, 606, 607, 608, 609, 610, 613, 614, 615, 616, 617, 620, 621, 622, 623, 624, 627, 628, 629, 630, 631, 634, 635, 636, 637, 638, 641, 642, 643, 644, 645, 648, 649, 650, 653, 654, 655, 656, 657, 660, 661, 662, 663, 664, 667, 668, 669, 670, 671, 2]
def obsZ (as : List Addr) (fa : List He.Fa) (fn : List He.DefD) (tf : List He.Defn) (ex : PySem.W.Frag → Bool) (g : Addr → Option Obj) : He.AlX := (He.obsT fa fn [] (He.frT g as), ex (He.frT g as) && He.tabsB g tf (He.frT g as))
theorem saysZ {as : List Addr} {fa : List He.Fa} {fn : List He.DefD} {tf : List He.Defn} {ex : PySem.W.Frag → Bool} {w : World} {h : Heap} (e : obsZ as fa fn tf ex h.get? = He.valX fn [] w) : He.SaysX fa fn [] tf ex w h (He.frT h.get? as) := by
  have e1 := congrArg Prod.fst e
  have e2 := congrArg Prod.snd e
  change (_ && _) = true at e2
  rw [Bool.and_eq_true] at e2
  have at_ : ∀ p ∈ tf, ∃ o, h.get? (He.cT (He.frT h.get? as) p).2 = some o ∧ He.emptyTab o = true ∧ PySem.W.codeHdIn (He.frT h.get? as) (He.cT (He.frT h.get? as) p).1 (He.cT (He.frT h.get? as) p).2 = true := by
    intro p hp
    have z := List.all_eq_true.mp e2.2 p hp
    rw [Bool.and_eq_true] at z
    have z2 := z.2
    split at z2
    · rename_i o ho
      exact ⟨o, ho, z2, z.1⟩
    · cases z2
  exact { t := e1, more := e2.1, hd := fun p hp => let ⟨_, _, _, hh⟩ := at_ p hp; hh,
          out := fun p hp => let ⟨_, ho, ht, _⟩ := at_ p hp; He.frT_none ho ht,
          empty := fun p hp => let ⟨_, ho, ht, _⟩ := at_ p hp; by rw [ho, He.emptyTab_eq ht] }
def obsR (as : List Addr) (fa : List He.Fa) (fn : List He.DefD) (tf : List He.Defn) (ex : PySem.W.Frag → Bool) (g : Addr → Option Obj) : He.AlX × He5.FnW := (obsZ as fa fn tf ex g, He5.fnA (He.frT g as) (dRead.at_ (He.frT g as)))
def hookR (as : List Addr) (fa : List He.Fa) (fn : List He.DefD) (tf : List He.Defn) (ex : PySem.W.Frag → Bool) : PySem.W.Hook where
  α := He.AlX × He5.FnW
  obs s := obsR as fa fn tf ex s.heap.get?
  val w := (He.valX fn [] w, dRead.val)
  says w h := ∃ K : PySem.W.Frag, K.In h ∧ (He.SaysX fa fn [] tf ex w h K ∧ He5.fnA K (dRead.at_ K) = dRead.val)
  of _ _ e := ⟨_, He.frT_in, saysZ (congrArg Prod.fst e), congrArg Prod.snd e⟩
  keeps := fun _ _ _ ⟨K, hK, c, d⟩ k => ⟨K, hK.keeps k, { c with empty := fun p hp => k _ _ (c.empty p hp) }, d⟩
def fn : List He.DefD := [dD "is_number" (hT 2), dD "is_number_from" (hT 3), dD "is_number_tuple" (hT 4), dD "normal_rows" (hT 45), dD "swept" (hT 46), dD "with_positive" (hT 47), dD "less" (hT 48), dD "lead_at" (hT 50), dD "diagonal_of" (hT 51), dD "index_of" (hT 52), dD "signs_of" (hT 18), dD "is_word" (hT 19), dD "counts_of" (hT 21), dD "is_side" (hT 60), dD "is_rule" (hT 59), dD "difference" (hT 61), dD "check_letters" (hT 58), dD "_law_begin" (hT 66), dD "_law_draw" (hT 67), dD "_law_any" (hT 68), dD "_law_same" (hT 69), dD "_law_field" (hT 70), dD "_law_why" (hT 71), dD "_law_letters" (hT 72), dD "_law_signs" (hT 73), dD "_law_some_word" (hT 75), dD "_law_side" (hT 80), dD "_law_some_rules" (hT 81), dD "_law_town" (hT 82), dD "_law_is_side" (hT 83), dD "_law_bad_rule" (hT 84), dD "opposite" (hT 20), dD "read_word" (hT 25), dD "read_phrase" (hT 26), dD "read_factor" (hT 27), dD "read_atom" (hT 28), dD "read_group" (hT 29), dD "read_pair" (hT 30), dD "read_exponent" (hT 31), dD "begins_atom" (hT 32), dD "mark_at" (hT 33), dD "behind_spaces" (hT 34), dD "check_mark" (hT 35), dD "check_no_digit" (hT 36), dD "power" (hT 37), dD "cut" (hT 38), dD "format_word" (hT 39), dD "runs_of" (hT 40), dD "format_run" (hT 41), dD "parts_of_text" (hT 57), dD "read_rules" (hT 62), dD "read_rule" (hT 63), dD "read_side" (hT 64), dD "_law_back" (hT 74), dD "_law_gone_back" (hT 76), dD "_law_space" (hT 77), dD "_law_loose" (hT 78), dD "_law_text" (hT 79), dD "law" (hT 85), dIni, dM "Town" "rules" "Town.rules" (hIn (hT 56) 6), dM "Town" "__eq__" "Town.__eq__" (hIn (hT 56) 17), dM "InvalidLetters" "__init__" "InvalidLetters.__init__" (hIn (hT 8) 0), dM "InvalidRule" "__init__" "InvalidRule.__init__" (hIn (hT 11) 0), dM "Town" "__init__" "Town.__init__" (hIn (hT 56) 1), dM "Town" "with_rules" "Town.with_rules" (hIn (hT 56) 11), dM "Town" "text" "Town.text" (hIn (hT 56) 15), dM "ParseError" "__init__" "ParseError.__init__" (hIn (hT 13) 0), dM "TooLong" "__init__" "TooLong.__init__" (hIn (hT 14) 0)]
def gl : List Str := (["is_number", "is_number_from", "is_number_tuple", "normal_rows", "swept", "with_positive", "less", "lead_at", "diagonal_of", "index_of", "signs_of", "is_word", "counts_of", "is_side", "is_rule", "difference", "check_letters", "_law_begin", "_law_draw", "_law_any"] : List Str) ++ (["_law_same", "_law_field", "_law_why", "_law_letters", "_law_signs", "_law_some_word", "_law_side", "_law_some_rules", "_law_town", "_law_is_side", "_law_bad_rule", "opposite", "read_word", "read_phrase", "read_factor", "read_atom", "read_group", "read_pair", "read_exponent", "begins_atom"] : List Str) ++ (["mark_at", "behind_spaces", "check_mark", "check_no_digit", "power", "cut", "format_word", "runs_of", "format_run", "parts_of_text", "read_rules", "read_rule", "read_side", "_law_back", "_law_gone_back", "_law_space", "_law_loose", "_law_text", "law", "Table"] : List Str) ++ (["Town", "InvalidLetters", "InvalidRule", "ParseError", "TooLong", "TownError", "Missing", "NothingLeft"] : List Str)
def fr : List Str := ["sum", "len", "int", "isinstance", "list", "tuple", "all", "range", "bool", "str", "enumerate", "zip", "abs", "sorted", "repr", "max", "any"]
def fo : List He.Fa := [.int "WIDEST" 3, .cls "Table", .noat "Table" "wide", .noat "Table" "normal", .noat "Table" "many", .mkr "Table", .int "LONGEST_SIDE" 16, .cls "Town", .noat "Town" "alphabet", .noat "Town" "pairs", .noat "Town" "ground", .meth "Town" "rules", .meth "Town" "with_rules", .mkr "Town", .meth "Town" "text", .int "LONGEST" 400, .int "DEEPEST" 6, .exm "TooLong" "TooLong" true, .exm "ParseError" "TooLong" false]
def fa : List He.Fa := gl.map He.Fa.glo ++ (fr.map He.Fa.free ++ fo)
abbrev R : PySem.W.OpenRow := PySem.W.OpenLaw.row PySem.Challenge.rw_roundswap_k15_texts_of_towns
abbrev tf : List He.Defn := [("swept", none), ("law", none)]
abbrev hk : PySem.W.Hook := hookR lit fa fn tf exK
def ob8 (s : PySem.W.SharedT) : He.AlX × He5.FnW := obsR lit fa fn tf exK (HandSHeadRun.getT s)
theorem ob_eq (s : PySem.W.SharedT) : ob8 s = hk.obs s.abs := congrArg (obsR lit fa fn tf exK) (funext (HandSHeadRun.getT_eq s))
def loose : List Str := (["_wall", "TownError", "Missing", "InvalidLetters", "InvalidCounts", "InvalidTable", "InvalidRule", "InvalidNumber", "ParseError", "TooLong", "Endless", "NothingLeft", "LONGEST", "DEEPEST", "WIDEST", "Table", "reduced", "tuples_below", "LONGEST_SIDE", "Town"] : List Str) ++ (["is_number", "is_number_from", "is_number_tuple", "normal_rows", "swept", "with_positive", "less", "lead_at", "diagonal_of", "index_of", "signs_of", "is_word", "counts_of", "is_side", "is_rule", "difference", "check_letters", "_law_begin", "_law_draw", "_law_any"] : List Str) ++ (["_law_same", "_law_field", "_law_why", "_law_letters", "_law_signs", "_law_some_word", "_law_side", "_law_some_rules", "_law_town", "_law_is_side", "_law_bad_rule", "opposite", "read_word", "read_phrase", "read_factor", "read_atom", "read_group", "read_pair", "read_exponent", "begins_atom"] : List Str) ++ (["mark_at", "behind_spaces", "check_mark", "check_no_digit", "power", "cut", "format_word", "runs_of", "format_run", "parts_of_text", "read_rules", "read_rule", "read_side", "_law_back", "_law_gone_back", "_law_space", "_law_loose", "_law_text"] : List Str)
end K15
set_option maxRecDepth 100000
set_option maxHeartbeats 0
namespace K15
open PySem PySem.Spec PyProof.Rows L2
theorem run (w : World) : HandSHeadRun.RunEq R (PySem.W.view R.prog [85]) hk ob8 20000 loose w := by
  intro os
  kernel_rfl
end K15
set_option maxRecDepth 100000
set_option maxHeartbeats 1000000
/-! a lambda of one parameter, called by a built-in -/
namespace Rs
open PySem PySem.Spec PyProof.Rows L2
def lamCx1 (X : Cx) (y : Str) (A : Around) (outer : List Env) (s : Shared) (H : Hp) (E : XK) (scope : Scope) (f c' : Addr) : Cx := { LamX.lamCx X A outer s H E scope f c' with N := X.N ++ [y] }
section
variable {X : Cx} {s s1 : Shared} {H HZ : Hp} {σ : L2.St} {pins : List (Addr × Obj)}
theorem lam_in1 {A : Around} {outer : List Env} {E : XK} {scope : Scope} {f c' : Addr} {h₁ : Heap} {tk : Nat} {m : Str → Option Value} {y : Str} {v : V} {u : Value} (hy : scope.names.lookup y = some .local) (hm : m y = some u) (ru : RelV v u)
    (I : Inv X pins σ H s) (L : LamQ X.N X.env.scope scope) (e0 : Env0 X.prog X.w X.K X.mg X.base A outer s1 HZ) (hd : A.handled = none)
    (un : Un (frs X.stack) [] H HZ s.heap s1.heap) (hns : h₁.Ns s1.heap.objs.size m) (kp : ∀ b o, s1.heap.get? b = some o → h₁.get? b = some o) :
    Inv (lamCx1 X y A outer s1 HZ E scope f c') [] (σ ++ [some v]) HZ { s1 with heap := h₁, toks := tk } := by
  have J := lam_in (E := E) (f := f) (c' := c') (tk := tk) I L e0 hd un hns kp
  have o := J.ok
  refine ⟨⟨o.mod, o.kind, o.glob, o.blt, o.above, o.inj, o.has, o.cab, o.hd, o.frames, o.stk, o.exf, o.bs, o.bsz, o.noex, o.exfs, o.funs, o.frf⟩, J.os, J.bare, J.base, ?_, J.cell, J.free, J.freeC, J.pin, J.hok, ?_⟩
  · obtain ⟨m', _, hl⟩ := J.loc
    refine ⟨m, hns, fun i z v' e1 e2 e3 => ?_⟩
    have e1 : (X.N ++ [y])[i]? = some z := e1
    have ln : σ.length = X.N.length := I.len
    by_cases hi : i < X.N.length
    · rw [List.getElem?_append_left hi] at e1
      rw [List.getElem?_append_left (by omega)] at e2
      obtain ⟨u', r', q⟩ := hl i z v' e1 e2 e3
      rcases q with ⟨k, _⟩ | q
      · exact absurd (List.mem_of_getElem? e1) (L.loc _ (PySem.mem_of_lookup k) rfl)
      · exact ⟨u', r', .inr q⟩
    · have hi2 : i = X.N.length := by
        have := (List.getElem?_eq_some_iff.mp e1).1
        rw [List.length_append, List.length_singleton] at this
        omega
      subst hi2
      rw [List.getElem?_append_right (Nat.le_refl _), Nat.sub_self] at e1
      rw [List.getElem?_append_right (by omega), ln, Nat.sub_self] at e2
      injection e1 with e1
      injection e2 with e2
      injection e2 with e2
      rw [← e1, ← e2]
      exact ⟨u, ru, .inl ⟨hy, hm⟩⟩
  · show (σ ++ [some v]).length = (X.N ++ [y]).length
    rw [List.length_append, List.length_append, I.len]
    rfl
def LamBind1 (y : Str) (params : Arguments) (body : Expr) (scope : Scope) : Prop := params.defaults = [] ∧ ∀ (z : Shared) (q : Str) (cl : List (Str × Addr)) (doc pm cv ctv u : Value),
  BindsTo z (PySem.W.kdv_fn "<lambda>" q params (.expr body) scope cl .none doc pm cv ctv) ⟨[u], []⟩ [(y, u)]
/-- what the lambda needs to be called with one value -/
structure Lam1 (X : Cx) (k : Nat) (y : Str) (params : Arguments) (body : Expr) (scope : Scope) (t : TE) : Prop where
  L : LamQ X.N X.env.scope scope
  b : LamBind1 y params body scope
  hy : scope.names.lookup y = some .local
  run : ∀ (A : Around) (outer : List Env) (z : Shared) (G : Hp) (f c' : Addr), Room k (A.deeper (LamX.lamEnv X scope z.heap.objs.size f c')) → PE (lamCx1 X y A outer z G (fun _ _ _ => False) scope f c') body t
theorem call_lam1 {k : Nat} {y : Str} {params : Arguments} {body : Expr} {scope : Scope} {t : TE} {f : Addr} {v : V} {u : Value} {Q : VK} (I : Inv X pins σ H s) (LB : Lam1 X k y params body scope t) (LA : LamAt X params body scope f H) (hr : Room (k + 1) X.A.in1.in1) (ru : RelV v u) (ht : t (σ ++ [some v]) H Q) :
    wpAny (model X.prog X.w) X.A.in1.in1 (call (.ref f) [u]) (EP X pins σ Q) (fun _ _ => False) s := by
  obtain ⟨c', dV, doc, pm, ctv, hf, hc, hdf⟩ := LA
  have of1 : s.heap.get? f = some _ := (I.hok f _ hf).1
  obtain ⟨⟨oc, vs, tt, hoc, hdc, hvc⟩, _, _⟩ := I.hok c' _ hc
  obtain rfl : dV = .none := by
    rcases hdf with ⟨_, e⟩ | ⟨_, _, _, _, _, e⟩
    · exact e
    · exact absurd LB.b.1 e
  have hbs := LB.b.2 s (X.env.qual ++ "<lambda>") (cloFrom X.env.cells scope.names []) doc pm (.ref c') ctv u
  have e0 : Env0 X.prog X.w X.K X.mg X.base X.A.in1.in1 X.stack s H := ⟨I.env0.frames, I.env0.mod, I.env0.bs, I.env0.bsz, I.env0.funs, I.env0.frf, I.env0.hok, I.env0.bare⟩
  have rc : codeAny (model X.prog X.w) X.A.in1.in1 (.call (.ref f) ⟨[u], []⟩) (CR (L2.CX X.prog X.w) X.stack X.prog X.w H s Q (fun _ _ _ => False)) s := by
    apply PySem.W.kla_callFunE hr.depth of1 rfl LB.L.co LB.L.gen rfl ⟨c', oc, vs, tt, rfl, hoc, hdc, hvc⟩
    refine hbs _ _ _ _ (wpAny_newFunctionEnv LB.L.cel (fun x hx => ?_) (fun h₁ hns hsb => ⟨I.nolimit.fresh _ hsb, ?_⟩) LB.L.kind)
    · obtain rfl : x = (y, u) := by simpa using hx
      exact LB.hy
    show codeAny _ _ (.expr body (LamX.lamEnv X scope s.heap.objs.size f c')) _ _
    have kp : ∀ b o, s.heap.get? b = some o → h₁.get? b = some o := by
      intro b o e
      exact hsb.extBut b o (Nat.ne_of_lt (Heap.lt_size e)) (Heap.get?_push_of_some _ e)
    have J := lam_in1 (E := fun _ _ _ => False) (f := f) (c' := c') (tk := s.toks + 1) LB.hy (u := u) (by simp) ru I LB.L e0 hr.hd (Un.kept fun _ _ e => e) hns kp
    apply PySem.W.kla_codeExpr
    refine wpAny_mono ((LB.run _ _ s H f c' (hr.deeper _)).run [] _ _ H Q J ht) ?_ (fun e s' hq => hq)
    rintro w' s' ⟨z, H', J', rv, q⟩
    exact ⟨z, H', J'.os, J'.bare, J'.base, J'.hok, rv, q⟩
  refine wpAny_call (codeAny_mono rc ?_)
  intro r s' hq
  match r, hq with
  | .error e, hq =>
    obtain ⟨_, _, _, _, _, _, _, _, _, _, _, _, hE⟩ := hq
    exact hE.elim
  | .ok (.ret w'), hq => exact I.after hq
end
end Rs
set_option maxRecDepth 100000
set_option maxHeartbeats 1000000
/-! sorted by a key that a lambda tells -/
namespace Rs
open PySem PySem.Spec PyProof.Rows L2
section
variable {prog : Program} {w : World} {A : Around} {E : Value → Shared → Prop} {s : Shared} {a kS : Addr} {vs : List Value} {kz : List Int} {keys : Array Value} {e1 : Nat} {P : PySem.Fin → Shared → Prop}
/-- the keys are known: what is left is the order, and the end -/
theorem srt_end (hk : IntsAre keys.toList kz) (hlen : kz.length = vs.length) (hZ : vs.length ≤ sizeLine)
    (fin : ∀ st : SortSt, (arrOf st).Perm (keys.zip vs.toArray) → SortedTo (arrOf st) (arrOf st).size → failedOf st = none → wpAny (model prog w) A (ksk_tail a false e1 (.ref kS) st) P E s) :
    wpAny (model prog w) A (ksk_end a false vs.toArray e1 (.ref kS) keys) P E s := by
  have big := hZ
  rw [sizeLine_eq] at big
  have many : keys.size = vs.length := by
    have h1 := hk.length
    rw [Array.length_toList] at h1
    omega
  have both : (keys.zip vs.toArray).size = vs.length := by rw [Array.size_zip, many, List.size_toArray, Nat.min_self]
  unfold ksk_end
  simp only [Bool.false_eq_true, if_false]
  by_cases h2 : vs.toArray.size < 2
  · rw [if_pos h2, if_pos h2]
    refine wpAny_bind (wpAny_pure ?_)
    rw [StateT.run_pure]
    refine wpAny_bind (wpAny_pure ?_)
    refine fin (SortSt.mk' general' (keys.zip vs.toArray) #[] 7 none) (Array.Perm.refl _) ?_ rfl
    intro i j hij hj
    have hj2 : j < (keys.zip vs.toArray).size := hj
    rw [both] at hj2
    rw [List.size_toArray] at h2
    obtain rfl : i = j := by omega
    exact Int.le_refl _
  · rw [if_neg h2, if_neg h2]
    rw [List.size_toArray] at h2
    rw [ksk_kind hk (by rw [many]; omega)]
    refine wpAny_bind (wpAny_pure ?_)
    refine wpAny_bind (wpAny_mono (wpS_sortRunsSt (κ := intKind) (a₀ := keys.zip vs.toArray) (st := SortSt.mk' oneType' (keys.zip vs.toArray) #[] 7 none)
      (Q := fun _ st' => (arrOf st').Perm (keys.zip vs.toArray) ∧ failedOf st' = none ∧ SortedTo (arrOf st') (arrOf st').size)
      intKind_oneLt (ksk_keysOfInt (ksk_intKeys hk)) ⟨Array.Perm.refl _, rfl, rfl⟩ rfl (Stable.refl _) (by rw [both]; omega)
      fun st' a1 a2 a3 a4 => ⟨a1, a2, by rw [a1.size_eq]; exact sortedTo_of_int a3⟩) ?_ fun _ _ z => z)
    rintro ⟨⟨⟩, st'⟩ s' ⟨rfl, hp, hf, hs⟩
    exact fin st' hp hs hf
end
end Rs
set_option maxRecDepth 100000
set_option maxHeartbeats 2000000
namespace Rs
open PySem PySem.Spec PyProof.Rows L2
section
variable {X : Cx} {s : Shared} {H : Hp} {σ : L2.St} {pins : List (Addr × Obj)}
/-- ints told in the order of the keys -/
theorem keyed {xs : List V} {ks its : List Value} {ps : Array Keyed} {g : V → Int} (rv : Vals xs its) (rk : Vals (xs.map fun x => V.int (g x)) ks) (hp : ps.Perm (ks.toArray.zip its.toArray)) (hs : SortedTo ps ps.size) :
    ∃ ys : List V, Vals ys (ps.map (·.2)).toList ∧ ys.Perm xs ∧ ys.Pairwise (fun x y => g x ≤ g y) := by
  have hl : ps.toList.Perm (ks.zip its) := by
    have z := Array.perm_iff_toList_perm.mp hp
    rw [ksk_zip] at z
    exact z
  have hk : ks.length = its.length := by
    have h1 := rk.length
    have h2 := rv.length
    rw [List.length_map] at h1
    omega
  have pw : ps.toList.Pairwise (fun p q => numOf p.1 ≤ numOf q.1) := by
    rw [List.pairwise_iff_getElem]
    intro i j hi hj hij
    have hi' : i < ps.size := by simpa using hi
    have hj' : j < ps.size := by simpa using hj
    have h0 := hs i j (Nat.le_of_lt hij) hj'
    simpa [K, hi', hj'] using h0
  obtain ⟨ys, h1, h2, h3⟩ := sorted_liftR (r := numOf) (f := g) rv hk (fun j x kv hx hkv => by
    obtain ⟨u, hu, r⟩ := rk.get (show (xs.map fun x => V.int (g x))[j]? = some (V.int (g x)) by rw [List.getElem?_map, hx]; rfl)
    have e : u = kv := Option.some.inj (hu.symm.trans hkv)
    obtain ⟨t, rfl⟩ := r
    rw [← e]
    rfl) hl pw
  refine ⟨ys, ?_, h2, h3⟩
  rw [Array.toList_map]
  exact h1
theorem sorted_lam {k : Nat} {y : Str} {params : Arguments} {body : Expr} {scope : Scope} {t : TE} {f a : Addr} {xs : List V} {g : V → Int} {Q : VK} (I : Inv X pins σ H s) (hs : SqL X.K H a xs) (LB : Lam1 X k y params body scope t) (LA : LamAt X params body scope f H) (hr : Room (k + 3) X.A)
    (ht : ∀ x ∈ xs, ∀ G : Hp, (∀ b o, H b = some o → G b = some o) → t (σ ++ [some x]) G fun v G' => v = .int (g x) ∧ G' = G)
    (q : ∀ (ys : List V) (p : Addr) (H3 : Hp), ys.Perm xs → ys.Pairwise (fun x y => g x ≤ g y) → H p = none → (∀ b o, H b = some o → H3 b = some o) → H3 p = some (.lst ys) → Q (.ref p) H3) :
    wpAny (model X.prog X.w) X.A (call (.builtin "sorted") [.ref a] [(Str.ofString "key", .ref f)]) (EP X pins σ Q) X.xe s := by
  obtain ⟨its, rv, hl, hz⟩ := I.list hs
  have lv : xs.length = its.length := rv.length
  have hz2 : its.length ≤ sizeLine := by omega
  have hr2 : Room (k + 1) X.A.in1.in1 := hr.in1.in1
  refine call_function_entry_kw kind_sorted plain_sorted entry_sorted (ksk_s1 _ _) ?_
  unfold Builtin.«sorted»
  refine wpAny_bind (m := checkCount "sorted" 1 1 _) (wpAny_pure ?_)
  refine wpAny_bind (collect_list hl.isList ?_ hz2)
  refine wpAny_bind (wpAny_newList ?_ hz2)
  obtain ⟨h1, eh1⟩ : ∃ h1 : Heap, h1 = (s.heap.push (seqObj "list" #[] 0)).update s.heap.objs.size (Obj.mapSeq (· ++ its.toArray)) := ⟨_, rfl⟩
  have z1 : h1.objs.size = s.heap.objs.size + 1 := by rw [eh1, Heap.size_update, size_push']
  have k1 : ∀ b o, s.heap.get? b = some o → h1.get? b = some o := fun b o e => by
    rw [eh1, Heap.get?_update_ne _ _ _ _ (Nat.ne_of_lt (Heap.lt_size e))]
    exact Heap.get?_push_of_some _ e
  show wpAny _ _ _ _ _ { s with heap := ((s.heap.push (seqObj "list" #[] 0)).update s.heap.objs.size (Obj.mapSeq (· ++ its.toArray))).push (seqObj "list" its.toArray 0) }
  rw [← eh1]
  have ho : (h1.push (seqObj "list" its.toArray 0)).get? h1.objs.size = some (seqObj "list" its.toArray 0) := Heap.get?_push_size _ rfl
  obtain ⟨A1, eA⟩ : ∃ A1 : Addr, A1 = h1.objs.size := ⟨_, rfl⟩
  rw [← eA] at ho
  show wpAny _ _ (holding [.ref h1.objs.size] _ >>= _) _ _ _
  rw [← eA]
  refine wpAny_bind (wpAny_holding (wpAny_call_entry_kw slot_list_sort ⟨_, ho, rfl⟩ entry_list_sort ?_ (ksk_l1 _ _)))
  show wpAny (model X.prog X.w) X.A.in1.in1 (Builtin.«list.sort» ⟨[.ref A1], [(Str.ofString "key", .ref f)]⟩) _ _ _
  rw [ksk_t1]
  unfold ksk_tree
  refine wpAny_bind (listItems_at ho rfl ?_)
  refine wpAny_bind (listUpdate_at ho rfl ?_ (by rw [List.size_toArray]; exact hz2) (Nat.zero_le _))
  obtain ⟨h2, eh2⟩ : ∃ h2 : Heap, h2 = (h1.push (seqObj "list" its.toArray 0)).update A1 (Obj.mapSeq fun _ => (#[] : Array Value)) := ⟨_, rfl⟩
  obtain ⟨e1, ho1⟩ : ∃ e1, h2.get? A1 = some (seqObj "list" #[] e1) := by
    rw [eh2]
    exact ⟨_, get?_update_seq ho fun _ => #[]⟩
  have nA : s.heap.objs.size ≤ A1 := by rw [eA, z1]; exact Nat.le_succ _
  have k2 : ∀ b o, s.heap.get? b = some o → h2.get? b = some o := fun b o e => by
    have hb := Heap.lt_size (k1 b o e)
    rw [eh2, Heap.get?_update_ne _ _ _ _ (by rw [eA]; exact Nat.ne_of_lt hb)]
    exact Heap.get?_push_of_some _ (k1 b o e)
  show wpAny _ _ _ _ _ { s with heap := (h1.push (seqObj "list" its.toArray 0)).update A1 (Obj.mapSeq fun _ => (#[] : Array Value)) }
  rw [← eh2]
  refine wpAny_bind (seqEpoch_at ho1 rfl ?_)
  refine wpAny_bind (wpAny_newTuple ?_ hz2)
  refine wpAny_bind (wpAny_newList ?_ (Nat.zero_le _))
  refine wpAny_holding ?_
  have J1 := I.laid (t' := s.toks) (a := A1) (o := FnO A1 (seqObj "list" #[] e1)) (h' := h2) k2 nA (fnO_ok ho1)
  have J2 := J1.laid (t' := s.toks) (a := h2.objs.size) (o := .tup xs) (h' := h2.push { cls := .type "tuple", data := .seq its.toArray }) (fun b o e => Heap.get?_push_of_some _ e) (Nat.le_refl _) ⟨hz, its, rv, IsTup.new _ _⟩
  obtain ⟨h3, eh3⟩ : ∃ h3 : Heap, h3 = h2.push { cls := .type "tuple", data := .seq its.toArray } := ⟨_, rfl⟩
  rw [← eh3] at J2
  have J3 := J2.laid (t' := s.toks) (a := h3.objs.size) (o := .lst []) (h' := h3.push { cls := .type "list", data := .seq [].toArray }) (fun b o e => Heap.get?_push_of_some _ e) (Nat.le_refl _) ⟨Nat.zero_le _, [], 0, .nil, Heap.get?_push_size _ rfl⟩
  have nT : s.heap.objs.size ≤ h2.objs.size := by
    have := Heap.lt_size ho1
    exact Nat.le_trans nA (Nat.le_of_lt this)
  have nS : h2.objs.size < h3.objs.size := by rw [eh3, size_push']; exact Nat.lt_succ_self _
  have AT : A1 < h2.objs.size := Heap.lt_size ho1
  show wpAny _ _ (ksk_rest A1 (.ref f) false its.toArray e1 (.ref (h2.push { cls := .type "tuple", data := .seq its.toArray }).objs.size)) _ _ { s with heap := (h2.push { cls := .type "tuple", data := .seq its.toArray }).push { cls := .type "list", data := .seq [].toArray } }
  rw [← eh3]
  generalize h3.push { cls := .type "list", data := .seq [].toArray } = h4 at J3
  generalize h3.objs.size = kS at J3 nS
  generalize h2.objs.size = tA at J3 nT nS AT
  have n1 : H A1 = none := I.hok.fresh nA
  have n2 : H tA = none := I.hok.fresh nT
  have n3 : H kS = none := I.hok.fresh (Nat.le_trans nT (Nat.le_of_lt nS))
  obtain ⟨HB, eB⟩ : ∃ HB : Hp, HB = upd (upd H A1 (FnO A1 (seqObj "list" #[] e1))) tA (.tup xs) := ⟨_, rfl⟩
  rw [← eB] at J3
  have kA : A1 ≠ kS := Nat.ne_of_lt (Nat.lt_trans AT nS)
  have bA : HB A1 = some (FnO A1 (seqObj "list" #[] e1)) := by
    rw [eB, upd_ne (Nat.ne_of_lt AT)]
    exact upd_same
  have bE : ∀ b o, H b = some o → HB b = some o := fun b o e => by
    rw [eB, upd_ne (ne_of_none e n2), upd_ne (ne_of_none e n1)]
    exact e
  have bS : ∀ (u : HO) b o, H b = some o → upd HB kS u b = some o := fun u b o e => by
    rw [upd_ne (ne_of_none e n3)]
    exact bE b o e
  unfold ksk_rest
  refine wpAny_bind (wpAny_rule ?_)
  rw [List.forIn_toArray]
  refine wpAny_bind (ksk_fold (fun i s' => Inv X pins σ (upd HB kS (.lst ((xs.take i).map fun x => V.int (g x)))) s') its 0 _ J3 ?_ ?_)
  · intro j u s' hu J
    rw [Nat.zero_add] at J ⊢
    have hj : j < xs.length := by
      have := (List.getElem?_eq_some_iff.mp hu).1
      omega
    obtain ⟨u', hu', ru⟩ := rv.get (List.getElem?_eq_getElem hj)
    have eu : u' = u := Option.some.inj (hu'.symm.trans hu)
    subst eu
    have hx : xs[j] ∈ xs := List.getElem_mem hj
    have LA2 : LamAt X params body scope f (upd HB kS (.lst ((xs.take j).map fun x => V.int (g x)))) := LA.go fun b o e _ _ => bS _ b o e
    refine wpAny_bind (wpAny_attempt (wpAny_mono (call_lam1 J LB LA2 hr2 ru (ht _ hx _ (bS _))) (fun kv s2 he => ?_) fun _ _ hF => hF.elim))
    obtain ⟨kv', H', J', rk, rfl, rfl⟩ := he
    obtain ⟨hz3, kz, n, rz, eo⟩ := J'.hok kS _ upd_same
    obtain ⟨t2, rfl⟩ := rk
    have lz : kz.length ≤ j := by
      have h1 := rz.length
      rw [List.length_map, List.length_take] at h1
      omega
    have tk : xs.take (j + 1) = xs.take j ++ [xs[j]] := by rw [List.take_add_one, List.getElem?_eq_getElem hj]; rfl
    refine wpAny_bind (listUpdate_at eo rfl ?_ (by rw [List.size_toArray]; omega) (by rw [Array.size_push, List.size_toArray]; omega))
    refine wpAny_pure ⟨rfl, ?_⟩
    have J4 := J'.lset (t' := s2.toks) (its' := kz ++ [Value.int (g xs[j]) t2]) (f := (·.push (Value.int (g xs[j]) t2))) (ys := ((xs.take (j + 1)).map fun x => V.int (g x))) upd_same eo (by simp) (by
      rw [tk, List.map_append]
      exact rz.append (.cons ⟨t2, rfl⟩ .nil)) (by rw [List.length_map, List.length_take]; omega)
    rw [upd_upd] at J4
    exact J4
  · intro s' J
    rw [Nat.zero_add, List.take_of_length_le (by omega)] at J
    obtain ⟨hz3, kz, n, rz, eo⟩ := J.hok kS _ upd_same
    refine wpAny_bind (listItems_at eo rfl ?_)
    have ik : IntsAre kz (xs.map g) := by
      have e : (xs.map fun x => V.int (g x)) = (xs.map g).map V.int := by rw [List.map_map]; rfl
      rw [e] at rz
      exact rz.ints
    refine srt_end (kz := xs.map g) (by simpa using ik) (by rw [List.length_map]; exact lv) hz2 fun st hp hso hf => ?_
    have lk : kz.length = its.length := by
      have h1 := rz.length
      rw [List.length_map] at h1
      omega
    obtain ⟨ys, ry, py, oy⟩ := keyed rv rz hp hso
    have J4 := J.lset (t' := s'.toks) (its' := []) (f := fun _ => (#[] : Array Value)) (ys := []) upd_same eo rfl .nil (Nat.zero_le _)
    rw [upd_upd] at J4
    have fA : upd HB kS (.lst []) A1 = some (FnO A1 (seqObj "list" #[] e1)) := by
      rw [upd_ne kA]
      exact bA
    have oA := (J4.hok A1 _ fA).1
    unfold ksk_tail
    simp only [Bool.false_eq_true, if_false]
    refine wpAny_bind (listUpdate_at eo rfl ?_ (by rw [List.size_toArray]; omega) (Nat.zero_le _))
    refine wpAny_bind (wpAny_letGo ?_)
    refine wpAny_bind (seqEpoch_at oA rfl ?_)
    have mo : ((arrOf st).map (·.2)).size ≤ sizeLine := by
      have h1 : ys.length = ((arrOf st).map (·.2)).size := by rw [ry.length, Array.length_toList]
      have h2 := py.length_eq
      omega
    refine wpAny_bind (listUpdate_at oA rfl ?_ (Nat.zero_le _) (Nat.le_succ_of_le mo))
    rw [hf]
    simp only [bne_self_eq_false, Bool.false_eq_true, if_false]
    refine wpAny_pure ⟨_, rfl, wpAny_pure ⟨_, rfl, ?_⟩⟩
    obtain ⟨c2, hc2⟩ : ∃ c2, ((s'.heap.update kS (Obj.mapSeq fun _ => (#[] : Array Value))).update A1 (Obj.mapSeq fun _ => (arrOf st).map (·.2))).get? A1 = some (seqObj "list" ((arrOf st).map (·.2)) c2) := ⟨_, get?_update_seq oA fun _ => (arrOf st).map (·.2)⟩
    have J5 := J4.write (x := A1) (e := A1) (o := .lst ys) (t' := s'.toks) (h' := (s'.heap.update kS (Obj.mapSeq fun _ => (#[] : Array Value))).update A1 (Obj.mapSeq fun _ => (arrOf st).map (·.2))) (by rw [fA]; exact trivial) (.inl rfl)
      (fun b o hb e => (Heap.get?_update_ne _ _ _ _ hb).trans e) ⟨_, hc2⟩ ⟨by rw [py.length_eq]; exact hz, ((arrOf st).map (·.2)).toList, c2, ry, by rw [Array.toArray_toList]; exact hc2⟩
    refine ⟨.ref A1, _, J5, rfl, q ys A1 _ py oy n1 (fun b o e => ?_) upd_same⟩
    rw [upd_ne (ne_of_none e n1)]
    exact bS _ b o e
end
end Rs
set_option maxRecDepth 100000
set_option maxHeartbeats 1000000
namespace Rs
open PySem PySem.Spec PyProof.Rows L2
/-- sorted(e, key=lambda y: body): te tells e, t the lambda's body, with y behind the slots -/
def tSortL (X : Cx) (T : List (Addr × Str)) (params : Arguments) (body : Expr) (scope : Scope) (te t : TE) : TE := fun σ H Q => te σ H fun v H1 => ∃ (a : Addr) (xs : List V) (g : V → Int), [v] = [V.ref a] ∧ LamX.Tabs T H1 ∧ SqL X.K H1 a xs ∧
  (∀ x ∈ xs, ∀ G : Hp, LamX.ExtN H1 G → t (σ ++ [some x]) G fun v G' => v = .int (g x) ∧ G' = G) ∧
  ∀ (ys : List V) (p : Addr) (H3 : Hp), ys.Perm xs → ys.Pairwise (fun x y => g x ≤ g y) → (∀ o, H1 p = some o → ∃ ps, o = .tbl ps) → LamX.ExtN H1 H3 → LamX.Tabs T H3 → H3 p = some (.lst ys) → Q (.ref p) H3
theorem e_sortL {X : Cx} {T : List (Addr × Str)} {c P : Addr} {k : Nat} {y x : Str} {params : Arguments} {body e : Expr} {scope : Scope} {lpos p pos kpos : Pos} {nm : Option Str} {te t : TE} (hx : x = "sorted") (hg : Gl X x) (hm0 : X.mg x = none) (hv : bootBuiltins x = some (.builtin "sorted")) (he0 : PE X e te)
    (TB : LamX.TabB X.base X.mg c P) (hcode : X.env.code = .ref c) (hm : (P, X.env.qual ++ "<lambda>") ∈ T) (hu : ∀ p ∈ T, p.1 = P → p.2 = X.env.qual ++ "<lambda>") (hdef : defaultsOf params X.env = ([], []))
    (LB : Lam1 X k y params body scope t) (hr : Room (k + 3) X.A)
    (hst : starEach [e] X.env = (false, eval e X.env) :: starEach [] X.env := by rfl) (he : backTo pos (starEach [e] X.env) = (false, eval e X.env) :: backTo pos (starEach [] X.env) := by rfl) (hpl : (backTo pos (starEach [e] X.env)).any (·.1) = false := by rfl)
    (hall : (backToKw pos (keywordEach [⟨nm, .Lambda params body scope lpos, kpos⟩] X.env)).all (·.1.isSome) = true := by rfl) (hnone : (backToKw pos (keywordEach [⟨nm, .Lambda params body scope lpos, kpos⟩] X.env)).any (·.1.isNone) = false := by rfl) (hks : (backToKw pos (keywordEach [⟨nm, .Lambda params body scope lpos, kpos⟩] X.env)).filterMap (·.1) = [Str.ofString "key"] := by rfl) :
    PE X (.Call (.Name x p) [e] [⟨nm, .Lambda params body scope lpos, kpos⟩] pos) (tSortL X T params body scope te t) := by
  subst hx
  constructor
  intro pins s σ H Q I h
  refine wpAny_Call_Name_kw (ld_blt I hg hm0 hv ?_ (by decide) (by decide))
  have pk := pk_cons (nm := nm) (kpos := kpos) (e_lam0 (body := body) (pos := lpos) TB hcode hm hu LB.L LB.b.1 hdef) pk_nil
  refine PyProof.Rows.callWith_kw (thn ((pa_cons he0 pa_nil hst).run pos pins s σ H (fun vs H1 => ∃ (a : Addr) (xs : List V) (g : V → Int), vs = [V.ref a] ∧ LamX.Tabs T H1 ∧ SqL X.K H1 a xs ∧
    (∀ x ∈ xs, ∀ G : Hp, LamX.ExtN H1 G → t (σ ++ [some x]) G fun v G' => v = .int (g x) ∧ G' = G) ∧
    ∀ (ys : List V) (p : Addr) (H3 : Hp), ys.Perm xs → ys.Pairwise (fun x y => g x ≤ g y) → (∀ o, H1 p = some o → ∃ ps, o = .tbl ps) → LamX.ExtN H1 H3 → LamX.Tabs T H3 → H3 p = some (.lst ys) → Q (.ref p) H3) I ?_) fun us s1 h1 => ?_) he hpl hall hnone
  · exact h
  · obtain ⟨vs, H1, I1, r1, a, xs, g, rfl, hT, hs, ht, q⟩ := h1
    obtain ⟨u, rfl, ru⟩ := r1.one
    obtain rfl : u = Value.ref a := ru
    refine thn (pk.run pos pins s1 σ H1 (fun zs H2 => ∃ f, zs = [.ref f] ∧ LamX.ExtN H1 H2 ∧ LamX.Tabs T H2 ∧ H1 f = none ∧ LamAt X params body scope f H2) I1 ⟨hT, fun f H2 e2 T2 nf LA => ⟨f, rfl, e2, T2, nf, LA⟩⟩) fun ws s2 h2 => ?_
    obtain ⟨zs, H2, I2, r2, f, rfl, e2, T2, nf, LA⟩ := h2
    obtain ⟨w1, rfl, rw1⟩ := r2.one
    obtain rfl : w1 = Value.ref f := rw1
    rw [hks]
    have hs2 : SqL X.K H2 a xs := by
      rcases hs with hs | hs
      · refine .inl ?_
        rcases hs with hs | ⟨o, hs⟩
        · exact .inl (e2 _ _ hs (fun ps z => (nomatch z)))
        · exact .inr ⟨o, e2 _ _ hs (fun ps z => (nomatch z))⟩
      · exact .inr hs
    refine sorted_lam (g := g) I2 hs2 LB LA hr (fun x hx G eG => ht x hx G (e2.trans (.of eG))) fun ys p H3 py oy np e3 h3 => ?_
    refine q ys p H3 py oy (fun o ho => ?_) (e2.trans (.of e3)) (T2.ext e3) h3
    cases o with
    | tbl ps => exact ⟨ps, rfl⟩
    | _ =>
      exfalso
      have z := e2 _ _ ho (fun ps z => nomatch z)
      rw [np] at z
      cases z
end Rs
namespace Rs
open PySem PySem.Spec PyProof.Rows L2
/-- // by any divisor but zero, below 2 ^ 9000 -/
theorem op_fdivF {X : Cx} : OpR X (binaryOp .FloorDiv) (rI (fun _ j => j ≠ 0 ∧ j.natAbs.log2 < 9000) fun i j => .int (i.fdiv j)) := opI fun i j _ _ _ _ _ hc q => floordiv_int hc.1 q (.inl (PyProof.noPylong_of_log2 hc.2))
end Rs
namespace Rs
open PySem PySem.Spec PyProof.Rows L2
theorem sqT_ext {K : PySem.W.Frag} {H H' : Hp} {a : Addr} {xs : List V} (e : ∀ b o, H b = some o → H' b = some o) (h : SqT K H a xs) : SqT K H' a xs := by
  rcases h with (h | ⟨o, h⟩) | h
  · exact .inl (.inl (e _ _ h))
  · exact .inl (.inr ⟨o, e _ _ h⟩)
  · exact .inr h
theorem wipe2 {σ : L2.St} {i j : Nat} {x y : Option V} : wipe (((wipe σ [i, j]).set i x).set j y) [i, j] = wipe σ [i, j] := by
  refine List.ext_getElem? fun k => ?_
  simp only [wipe, List.getElem?_set, List.length_set]
  by_cases h1 : i = k
  · subst h1
    simp
  · by_cases h2 : j = k
    · subst h2
      simp [h1]
    · simp [h1, h2]
/-- [e for x, y in zip(t, u)], two tuples of one length, e pure -/
theorem lc_zipT {K : PySem.W.Frag} {a b : Addr} {xs ys : List V} (hl : xs.length = ys.length) {te : TE} {σ : L2.St} {i j : Nat} {H1 : Hp} {D : Addr} {Qd : Hp → Prop} (f : V → V → V) (hlen : xs.length < sizeLine) (hD : H1 D = none) (ha : SqT K H1 a xs) (hb : SqT K H1 b ys)
    (he : ∀ (n : Nat) (x y : V) (H2 : Hp) (Q : VK), xs[n]? = some x → ys[n]? = some y → (∀ b o, H1 b = some o → H2 b = some o) → (∀ H3 : Hp, (∀ b o, H2 b = some o → H3 b = some o) → Q (f x y) H3) → te (((wipe σ [i, j]).set i (some x)).set j (some y)) H2 Q)
    (hd : ∀ H2 : Hp, (∀ b o, H1 b = some o → H2 b = some o) → H2 D = some (.lst (List.zipWith f xs ys)) → Qd H2) :
    ∃ W : Nat → Nat → Hp → Prop, (∃ m, W 0 m (upd H1 D (.lst []))) ∧ ∀ n m H, W n m H →
      ((RZ.ItzT K a b).stop n H ∧ Qd H) ∨ ((RZ.ItzT K a b).go n H ∧ ∃ Nx : Hp → Prop, (∀ H', Nx H' → ∃ m', m' < m ∧ W (n + 1) m' H') ∧ ∀ x H', (RZ.ItzT K a b).yld n H x H' → gTup K 2 (gCons (gName i) (gCons (gName j) gNil)) x (wipe σ [i, j]) H' fun σ2 H2 => wipe σ2 [i, j] = wipe σ [i, j] ∧ tYes σ2 H2 fun b H3 =>
        if b = true then te σ2 H3 fun v H4 => ∃ ac, H4 D = some (.lst ac) ∧ ac.length < sizeLine ∧ Nx (upd H4 D (.lst (ac ++ [v]))) else Nx H3) := by
  refine ⟨fun n m H => m = xs.length - n ∧ n ≤ xs.length ∧ (∀ b o, H1 b = some o → H b = some o) ∧ H D = some (.lst (List.zipWith f (xs.take n) (ys.take n))), ⟨_, rfl, Nat.zero_le _, fun b o e => ?_, ?_⟩, ?_⟩
  · rw [upd_ne (ne_of_none e hD)]
    exact e
  · rw [upd_same]
    rfl
  · rintro n m H ⟨rfl, hn, sm, hq⟩
    have qa := sqT_ext sm ha
    have qb := sqT_ext sm hb
    by_cases hlt : n < xs.length
    · have hx : xs[n]? = some xs[n] := List.getElem?_eq_getElem hlt
      have hlt2 : n < ys.length := by omega
      have hy : ys[n]? = some ys[n] := List.getElem?_eq_getElem hlt2
      refine .inr ⟨⟨xs, ys, _, _, qa, qb, hx, hy⟩, fun H' => (∀ b o, H1 b = some o → H' b = some o) ∧ H' D = some (.lst (List.zipWith f (xs.take (n + 1)) (ys.take (n + 1)))), fun H' p => ⟨_, by omega, rfl, hlt, p.1, p.2⟩, ?_⟩
      rintro v H' ⟨T, x, y, rfl, hT, rfl, f1, f2⟩
      have ex := f1 xs qa
      have ey := f2 ys qb
      have sT : ∀ b o, H b = some o → upd H T (.tup [x, y]) b = some o := fun b o e => by
        rw [upd_ne (ne_of_none e hT)]
        exact e
      refine ⟨T, [x, y], rfl, SqT.of upd_same, rfl, x, [y], rfl, y, [], rfl, rfl, wipe2, ?_⟩
      dsimp only [tYes]
      rw [if_pos rfl]
      refine he n x y _ _ ex ey (fun b o e => sT b o (sm b o e)) fun H3 s3 => ⟨_, s3 _ _ (sT _ _ hq), ?_, ?_, ?_⟩
      · rw [List.length_zipWith, List.length_take, List.length_take]
        omega
      · intro b o e
        rw [upd_ne (ne_of_none e hD)]
        exact s3 _ _ (sT _ _ (sm _ _ e))
      · have e1 : xs.take (n + 1) = xs.take n ++ [x] := by rw [List.take_add_one, ex]; rfl
        have e2 : ys.take (n + 1) = ys.take n ++ [y] := by rw [List.take_add_one, ey]; rfl
        rw [upd_same, e1, e2, List.zipWith_append (by rw [List.length_take, List.length_take]; omega)]
        rfl
    · have e : n = xs.length := by omega
      subst e
      rw [List.take_length, hl, List.take_length] at hq
      exact .inl ⟨⟨xs, ys, qa, qb, .inl (Nat.le_refl _)⟩, hd H sm hq⟩
end Rs
/-! rows of numbers, their sums, and that normal rows are told by the sums -/
namespace Hm
abbrev Row := Nat → Int
def ls (r o : Row) (t : Int) : Row := fun j => r j - t * o j
/-- the sums of multiples of the rows R -/
inductive Sm (R : Row → Prop) : Row → Prop
  | zero : Sm R (fun _ => 0)
  | step {v r : Row} (t : Int) : Sm R v → R r → Sm R (ls v r t)
theorem ls_zero (v : Row) (t : Int) : ls v (fun _ => 0) t = v := by
  funext j
  simp [ls]
theorem ls_ls (v u r : Row) (t s : Int) : ls v (ls u r s) t = ls (ls v u t) r (-(t * s)) := by
  funext j
  show v j - t * (u j - s * r j) = v j - t * u j - -(t * s) * r j
  rw [Int.mul_sub, ← Int.mul_assoc, Int.neg_mul]
  omega
theorem Sm.ls {R : Row → Prop} {v u : Row} (hv : Sm R v) (hu : Sm R u) : ∀ t, Sm R (ls v u t) := by
  induction hu with
  | zero => intro t; rw [ls_zero]; exact hv
  | step s hu hr ih =>
    intro t
    rw [ls_ls]
    exact .step _ (ih t) hr
theorem Sm.of {R : Row → Prop} {r : Row} (h : R r) : Sm R r := by
  have z := Sm.step (R := R) (-1) .zero h
  have e : Hm.ls (fun _ => 0) r (-1) = r := by
    funext j
    simp [Hm.ls]
  rw [e] at z
  exact z
theorem Sm.mono {R R' : Row → Prop} (h : ∀ r, R r → Sm R' r) {v : Row} (hv : Sm R v) : Sm R' v := by
  induction hv with
  | zero => exact .zero
  | step t _ hr ih => exact ih.ls (h _ hr) t
/-- the normal rows p of the sums L: one for a column, or none -/
structure Piv (L : Row → Prop) (w : Nat) (p : Nat → Option Row) : Prop where
  yes : ∀ a, a < w → ∀ r, p a = some r → L r ∧ (∀ j, j < a → r j = 0) ∧ 0 < r a ∧ ∀ v, L v → (∀ j, j < a → v j = 0) → r a ∣ v a
  no : ∀ a, a < w → p a = none → ∀ v, L v → (∀ j, j < a → v j = 0) → v a = 0
  red : ∀ a b, a < b → b < w → ∀ r s, p a = some r → p b = some s → 0 ≤ r b ∧ r b < s b
  out : ∀ a r, p a = some r → ∀ j, w ≤ j → r j = 0
theorem dvd_eq {a b : Int} (ha : 0 < a) (hb : 0 < b) (h1 : a ∣ b) (h2 : b ∣ a) : a = b := Int.le_antisymm (Int.le_of_dvd hb h1) (Int.le_of_dvd ha h2)
theorem dvd_small {l x y : Int} (hx : 0 ≤ x) (hx2 : x < l) (hy : 0 ≤ y) (hy2 : y < l) (h : l ∣ x - y) : x - y = 0 := by
  by_cases h0 : x - y = 0
  · exact h0
  · have h1 := Int.natAbs_dvd_natAbs.mpr h
    have h2 := Nat.le_of_dvd (by omega) h1
    omega
section
variable {L : Row → Prop} {w : Nat} {p q : Nat → Option Row}
theorem Piv.lead (P : Piv L w p) (Q : Piv L w q) {a : Nat} (ha : a < w) : (p a = none ∧ q a = none) ∨ ∃ r s, p a = some r ∧ q a = some s ∧ r a = s a := by
  cases hp : p a with
  | none =>
    cases hq : q a with
    | none => exact .inl ⟨rfl, rfl⟩
    | some s =>
      obtain ⟨s1, s2, s3, _⟩ := Q.yes a ha s hq
      have := P.no a ha hp s s1 s2
      omega
  | some r =>
    obtain ⟨r1, r2, r3, r4⟩ := P.yes a ha r hp
    cases hq : q a with
    | none =>
      have := Q.no a ha hq r r1 r2
      omega
    | some s =>
      obtain ⟨s1, s2, s3, s4⟩ := Q.yes a ha s hq
      exact .inr ⟨r, s, rfl, rfl, dvd_eq r3 s3 (r4 s s1 s2) (s4 r r1 r2)⟩
theorem Piv.unique (hL : ∀ v u, L v → L u → L (ls v u 1)) (P : Piv L w p) (Q : Piv L w q) {a : Nat} (ha : a < w) : p a = q a := by
  rcases P.lead Q ha with ⟨h1, h2⟩ | ⟨r, s, h1, h2, e⟩
  · rw [h1, h2]
  · obtain ⟨r1, r2, r3, r4⟩ := P.yes a ha r h1
    obtain ⟨s1, s2, s3, s4⟩ := Q.yes a ha s h2
    have hd := hL r s r1 s1
    have dj : ∀ j, ls r s 1 j = r j - s j := fun j => by simp [ls]
    have key : ∀ n, n ≤ w → ∀ j, j < n → r j - s j = 0 := by
      intro n
      induction n with
      | zero => intro _ j hj; omega
      | succ n ih =>
        intro hn j hj
        have ihn := ih (by omega)
        by_cases hjn : j < n
        · exact ihn j hjn
        · obtain rfl : j = n := by omega
          by_cases h3 : j < a
          · rw [r2 j h3, s2 j h3]
            rfl
          · by_cases h4 : j = a
            · subst h4
              omega
            · have hz : ∀ i, i < j → ls r s 1 i = 0 := fun i hi => by
                rw [dj]
                exact ihn i hi
              rcases P.lead Q (a := j) (by omega) with ⟨g1, _⟩ | ⟨r', s', g1, g2, g3⟩
              · have := P.no j (by omega) g1 _ hd hz
                rw [dj] at this
                exact this
              · have d1 := (P.yes j (by omega) r' g1).2.2.2 _ hd hz
                rw [dj] at d1
                obtain ⟨x1, x2⟩ := P.red a j (by omega) (by omega) r r' h1 g1
                obtain ⟨y1, y2⟩ := Q.red a j (by omega) (by omega) s s' h2 g2
                exact dvd_small x1 x2 y1 (by omega) d1
    rw [h1, h2]
    congr 1
    funext j
    by_cases hj : j < w
    · have := key w (Nat.le_refl _) j hj
      omega
    · rw [P.out a r h1 j (by omega), Q.out a s h2 j (by omega)]
end
/-! rows in steps: the row of a column begins there -/
structure Ech (w : Nat) (E : Nat → Option Row) : Prop where
  z : ∀ a r, E a = some r → (∀ j, j < a → r j = 0) ∧ r a ≠ 0
def Of (w : Nat) (E : Nat → Option Row) (r : Row) : Prop := ∃ a, a < w ∧ E a = some r
def at0 (E : Nat → Option Row) (a : Nat) : Row := (E a).getD (fun _ => 0)
/-- the sum of so many rows with multiples -/
def cmb (E : Nat → Option Row) (k : Nat → Int) : Nat → Row
  | 0 => fun _ => 0
  | n + 1 => fun j => cmb E k n j + k n * at0 E n j
theorem cmb_sub (E : Nat → Option Row) (k l : Nat → Int) (t : Int) : ∀ n j, cmb E (fun i => k i - t * l i) n j = cmb E k n j - t * cmb E l n j
  | 0, j => by simp [cmb]
  | n + 1, j => by
    show cmb E (fun i => k i - t * l i) n j + (k n - t * l n) * at0 E n j = cmb E k n j + k n * at0 E n j - t * (cmb E l n j + l n * at0 E n j)
    rw [cmb_sub E k l t n j, Int.sub_mul, Int.mul_add, Int.mul_assoc]
    omega
theorem cmb_one (E : Nat → Option Row) (a : Nat) (j : Nat) : ∀ n, cmb E (fun i => if i = a then 1 else 0) n j = if a < n then at0 E a j else 0
  | 0 => by simp [cmb]
  | n + 1 => by
    show cmb E (fun i => if i = a then 1 else 0) n j + (if n = a then 1 else 0) * at0 E n j = _
    rw [cmb_one E a j n]
    by_cases h1 : n = a
    · subst h1
      simp
    · by_cases h2 : a < n
      · rw [if_pos h2, if_neg h1, if_pos (by omega)]
        omega
      · rw [if_neg h2, if_neg h1, if_neg (by omega)]
        omega
theorem cmb_of {w : Nat} {E : Nat → Option Row} {v : Row} (h : Sm (Of w E) v) : ∃ k, ∀ j, v j = cmb E k w j := by
  induction h with
  | zero =>
    refine ⟨fun _ => 0, fun j => ?_⟩
    have : ∀ n, cmb E (fun _ => 0) n j = 0 := by
      intro n
      induction n with
      | zero => rfl
      | succ n ih =>
        show cmb E (fun _ => 0) n j + 0 * at0 E n j = 0
        rw [ih]
        omega
    rw [this]
  | @step v r t _ hr ih =>
    obtain ⟨k, hk⟩ := ih
    obtain ⟨a, ha, hE⟩ := hr
    refine ⟨fun i => k i - t * (if i = a then 1 else 0), fun j => ?_⟩
    rw [cmb_sub, cmb_one, if_pos ha, ← hk]
    show v j - t * r j = v j - t * at0 E a j
    rw [at0, hE]
    rfl
/-- what stands in a column that is the first one without a zero -/
theorem cmb_col {w : Nat} {E : Nat → Option Row} (h : Ech w E) (k : Nat → Int) (a : Nat) (hz : ∀ j, j < a → cmb E k w j = 0) (ha : a ≤ w) : (∀ i, i < a → ∀ j, k i * at0 E i j = 0) := by
  have up : ∀ (i j : Nat), j < i → at0 E i j = 0 := by
    intro i j hij
    unfold at0
    cases hE : E i with
    | none => rfl
    | some r => exact (h.z i r hE).1 j hij
  have tail : ∀ n m j, j < m → m ≤ n → cmb E k n j = cmb E k m j := by
    intro n
    induction n with
    | zero => intro m j h1 h2; omega
    | succ n ih =>
      intro m j h1 h2
      by_cases e : m = n + 1
      · rw [e]
      · show cmb E k n j + k n * at0 E n j = _
        rw [ih m j h1 (by omega), up n j (by omega)]
        omega
  intro i
  induction i using Nat.strongRecOn with
  | _ i ih =>
    intro hi
    have low : ∀ m, m ≤ i → ∀ j, cmb E k m j = 0 := by
      intro m
      induction m with
      | zero => intro _ j; rfl
      | succ m im =>
        intro hm j
        show cmb E k m j + k m * at0 E m j = 0
        rw [im (by omega) j, ih m (by omega) (by omega) j]
        rfl
    have e1 := hz i hi
    rw [tail w (i + 1) i (by omega) (by omega)] at e1
    have e2 : cmb E k i i + k i * at0 E i i = 0 := e1
    rw [low i (Nat.le_refl _) i] at e2
    intro j
    cases hE : E i with
    | none =>
      unfold at0
      rw [hE]
      simp
    | some r =>
      have hr := (h.z i r hE).2
      have e3 : at0 E i i = r i := by
        unfold at0
        rw [hE]
        rfl
      rw [e3] at e2
      have : k i = 0 := by
        rcases Int.mul_eq_zero.mp (show k i * r i = 0 by omega) with h | h
        · exact h
        · exact absurd h hr
      rw [this]
      simp
theorem ech_col {w : Nat} {E : Nat → Option Row} (h : Ech w E) {v : Row} (hv : Sm (Of w E) v) {a : Nat} (ha : a < w) (hz : ∀ j, j < a → v j = 0) : ∃ t : Int, v a = t * at0 E a a := by
  obtain ⟨k, hk⟩ := cmb_of hv
  have low := cmb_col h k a (fun j hj => by rw [← hk]; exact hz j hj) (by omega)
  have up : ∀ (i j : Nat), j < i → at0 E i j = 0 := by
    intro i j hij
    unfold at0
    cases hE : E i with
    | none => rfl
    | some r => exact (h.z i r hE).1 j hij
  have lo : ∀ m, m ≤ a → cmb E k m a = 0 := by
    intro m
    induction m with
    | zero => intro _; rfl
    | succ m im =>
      intro hm
      show cmb E k m a + k m * at0 E m a = 0
      rw [im (by omega), low m (by omega) a]
      rfl
  have all : ∀ n, a + 1 ≤ n → cmb E k n a = k a * at0 E a a := by
    intro n
    induction n with
    | zero => intro h; omega
    | succ n ih =>
      intro hn
      show cmb E k n a + k n * at0 E n a = _
      by_cases e : n = a
      · subst e
        rw [lo n (Nat.le_refl _)]
        omega
      · rw [ih (by omega), up n a (by omega)]
        omega
  exact ⟨k a, by rw [hk, all w (by omega)]⟩
/-- rows in steps that are positive at their beginning and reduced are the normal rows of their sums -/
theorem piv_of {w : Nat} {E : Nat → Option Row} (h : Ech w E) (pos : ∀ a r, E a = some r → 0 < r a) (red : ∀ a b, a < b → b < w → ∀ r s, E a = some r → E b = some s → 0 ≤ r b ∧ r b < s b) (out : ∀ a r, E a = some r → ∀ j, w ≤ j → r j = 0) : Piv (Sm (Of w E)) w E := by
  refine ⟨fun a ha r hr => ⟨.of ⟨a, ha, hr⟩, (h.z a r hr).1, pos a r hr, fun v hv hz => ?_⟩, fun a ha hn v hv hz => ?_, red, out⟩
  · obtain ⟨t, ht⟩ := ech_col h hv ha hz
    rw [ht]
    unfold at0
    rw [hr]
    exact ⟨t, Int.mul_comm _ _⟩
  · obtain ⟨t, ht⟩ := ech_col h hv ha hz
    rw [ht]
    unfold at0
    rw [hn]
    simp
end Hm
namespace Hm
def Or' (A B : Row → Prop) : Row → Prop := fun r => A r ∨ B r
/-- one column after the other: E has the rows of the columns before a, R the rest -/
structure Col (w a : Nat) (L : Row → Prop) (E : Nat → Option Row) (R : Row → Prop) : Prop where
  le : a ≤ w
  no : ∀ c, a ≤ c → E c = none
  ech : Ech w E
  pos : ∀ c r, E c = some r → 0 < r c
  red : ∀ b c, b < c → c < w → ∀ r s, E b = some r → E c = some s → 0 ≤ r c ∧ r c < s c
  out : ∀ c r, E c = some r → ∀ j, w ≤ j → r j = 0
  low : ∀ r, R r → ∀ j, j < a → r j = 0
  rout : ∀ r, R r → ∀ j, w ≤ j → r j = 0
  sums : ∀ v, L v ↔ Sm (Or' (Of w E) R) v
theorem sm_low {R : Row → Prop} {j : Nat} (h : ∀ r, R r → r j = 0) {v : Row} (hv : Sm R v) : v j = 0 := by
  induction hv with
  | zero => rfl
  | step t _ hr ih =>
    show _ - t * _ = 0
    rw [ih, h _ hr]
    simp
theorem col_start {w : Nat} {R : Row → Prop} (h : ∀ r, R r → ∀ j, w ≤ j → r j = 0) : Col w 0 (Sm R) (fun _ => none) R := by
  refine ⟨Nat.zero_le _, fun _ _ => rfl, ⟨fun a r h => (nomatch h)⟩, fun c r h => (nomatch h), fun b c _ _ r s h => (nomatch h), fun c r h => (nomatch h), fun r _ j hj => by omega, h, fun v => ⟨?_, ?_⟩⟩
  · exact Sm.mono fun r hr => .of (.inr hr)
  · refine Sm.mono fun r hr => ?_
    rcases hr with ⟨a, _, h⟩ | hr
    · cases h
    · exact .of hr
/-- no row begins in the column -/
theorem Col.none {w a : Nat} {L : Row → Prop} {E : Nat → Option Row} {R C : Row → Prop} (h : Col w a L E R) (ha : a < w) (hC : ∀ r, C r → r a = 0) (h1 : ∀ r, C r → Sm R r) (h2 : ∀ r, R r → Sm C r) : Col w (a + 1) L E C := by
  have lowC : ∀ r, C r → ∀ j, j < a → r j = 0 := fun r hr j hj => sm_low (fun x hx => h.low x hx j hj) (h1 r hr)
  refine ⟨ha, fun c hc => h.no c (by omega), h.ech, h.pos, h.red, h.out, fun r hr j hj => ?_, fun r hr j hj => sm_low (fun x hx => h.rout x hx j hj) (h1 r hr), fun v => (h.sums v).trans ⟨?_, ?_⟩⟩
  · by_cases e : j = a
    · rw [e]
      exact hC r hr
    · exact lowC r hr j (by omega)
  · refine Sm.mono fun r hr => ?_
    rcases hr with hr | hr
    · exact .of (.inl hr)
    · exact (h2 r hr).mono fun x hx => .of (.inr hx)
  · refine Sm.mono fun r hr => ?_
    rcases hr with hr | hr
    · exact .of (.inl hr)
    · exact (h1 r hr).mono fun x hx => .of (.inr hx)
def redE (E : Nat → Option Row) (a : Nat) (l : Row) : Nat → Option Row := fun c => if c = a then some l else (E c).map fun r => ls r l (r a / l a)
theorem ls_back (r l : Row) (t : Int) : ls (ls r l t) l (-t) = r := by
  funext j
  show r j - t * l j - -t * l j = r j
  rw [Int.neg_mul]
  omega
/-- the row l begins in the column -/
theorem Col.some {w a : Nat} {L : Row → Prop} {E : Nat → Option Row} {R C : Row → Prop} {l : Row} (h : Col w a L E R) (ha : a < w) (hl : 0 < l a) (hC : ∀ r, C r → r a = 0) (hlR : Sm R l) (h1 : ∀ r, C r → Sm R r) (h2 : ∀ r, R r → Sm (Or' (fun x => x = l) C) r) : Col w (a + 1) L (redE E a l) C := by
  have lowC : ∀ r, C r → ∀ j, j < a → r j = 0 := fun r hr j hj => sm_low (fun x hx => h.low x hx j hj) (h1 r hr)
  have lowl : ∀ j, j < a → l j = 0 := fun j hj => sm_low (fun x hx => h.low x hx j hj) hlR
  have outl : ∀ j, w ≤ j → l j = 0 := fun j hj => sm_low (fun x hx => h.rout x hx j hj) hlR
  -- what stands in redE
  have ca : ∀ c r, redE E a l c = .some r → (c = a ∧ r = l) ∨ (c < a ∧ ∃ r0, E c = .some r0 ∧ r = ls r0 l (r0 a / l a)) := by
    intro c r hc
    unfold redE at hc
    by_cases e : c = a
    · rw [if_pos e] at hc
      injection hc with hc
      exact .inl ⟨e, hc.symm⟩
    · rw [if_neg e] at hc
      cases hE : E c with
      | none => rw [hE] at hc; cases hc
      | some r0 =>
        rw [hE] at hc
        injection hc with hc
        refine .inr ⟨?_, r0, rfl, hc.symm⟩
        by_cases g : c < a
        · exact g
        · have := h.no c (by omega)
          rw [hE] at this
          cases this
  have same : ∀ (r0 : Row) (q : Int) j, j < a → ls r0 l q j = r0 j := fun r0 q j hj => by
    show r0 j - q * l j = r0 j
    rw [lowl j hj]
    omega
  have rem : ∀ r0 : Row, ls r0 l (r0 a / l a) a = r0 a % l a := fun r0 => by
    show r0 a - r0 a / l a * l a = _
    rw [Int.emod_def, Int.mul_comm]
  refine ⟨ha, fun c hc => ?_, ⟨fun c r hc => ?_⟩, fun c r hc => ?_, fun b c hbc hcw r s hb hc => ?_, fun c r hc j hj => ?_, fun r hr j hj => ?_, fun r hr j hj => sm_low (fun x hx => h.rout x hx j hj) (h1 r hr), fun v => (h.sums v).trans ⟨?_, ?_⟩⟩
  · unfold redE
    rw [if_neg (by omega), h.no c (by omega)]
    rfl
  · rcases ca c r hc with ⟨rfl, rfl⟩ | ⟨hca, r0, h0, rfl⟩
    · exact ⟨lowl, by omega⟩
    · obtain ⟨z1, z2⟩ := h.ech.z c r0 h0
      refine ⟨fun j hj => ?_, ?_⟩
      · rw [same r0 _ j (by omega)]
        exact z1 j hj
      · rw [same r0 _ c hca]
        exact z2
  · rcases ca c r hc with ⟨rfl, rfl⟩ | ⟨hca, r0, h0, rfl⟩
    · exact hl
    · rw [same r0 _ c hca]
      exact h.pos c r0 h0
  · rcases ca c s hc with ⟨rfl, rfl⟩ | ⟨hca, s0, g0, rfl⟩
    · rcases ca b r hb with ⟨rfl, _⟩ | ⟨_, r0, h0, rfl⟩
      · omega
      · rw [rem r0]
        exact ⟨Int.emod_nonneg _ (by omega), Int.emod_lt_of_pos _ hl⟩
    · rcases ca b r hb with ⟨rfl, _⟩ | ⟨_, r0, h0, rfl⟩
      · omega
      · rw [same r0 _ c hca, same s0 _ c hca]
        exact h.red b c hbc hcw r0 s0 h0 g0
  · rcases ca c r hc with ⟨rfl, rfl⟩ | ⟨hca, r0, h0, rfl⟩
    · exact outl j hj
    · show r0 j - _ * l j = 0
      rw [outl j hj, h.out c r0 h0 j hj]
      simp
  · by_cases e : j = a
    · rw [e]
      exact hC r hr
    · exact lowC r hr j (by omega)
  · have inl : Sm (Or' (Of w (redE E a l)) C) l := .of (.inl ⟨a, ha, by unfold redE; rw [if_pos rfl]⟩)
    refine Sm.mono fun r hr => ?_
    rcases hr with ⟨c, hcw, hE⟩ | hr
    · have hca : c < a := by
        by_cases g : c < a
        · exact g
        · have := h.no c (by omega)
          rw [hE] at this
          cases this
      have z : Sm (Or' (Of w (redE E a l)) C) (ls r l (r a / l a)) := .of (.inl ⟨c, hcw, by unfold redE; rw [if_neg (by omega), hE]; rfl⟩)
      have z2 := z.ls inl (-(r a / l a))
      rw [ls_back] at z2
      exact z2
    · refine (h2 r hr).mono fun x hx => ?_
      rcases hx with rfl | hx
      · exact inl
      · exact .of (.inr hx)
  · have inl : Sm (Or' (Of w E) R) l := hlR.mono fun x hx => .of (.inr hx)
    refine Sm.mono fun r hr => ?_
    rcases hr with ⟨c, hcw, hE⟩ | hr
    · rcases ca c r hE with ⟨rfl, rfl⟩ | ⟨hca, r0, h0, rfl⟩
      · exact inl
      · exact (Sm.of (R := Or' (Of w E) R) (.inl ⟨c, hcw, h0⟩)).ls inl _
    · exact (h1 r hr).mono fun x hx => .of (.inr hx)
/-- behind the last column -/
theorem Col.piv {w : Nat} {L : Row → Prop} {E : Nat → Option Row} {R : Row → Prop} (h : Col w w L E R) : Piv L w E := by
  have e : L = Sm (Of w E) := by
    funext v
    refine propext ((h.sums v).trans ⟨?_, ?_⟩)
    · refine Sm.mono fun r hr => ?_
      rcases hr with hr | hr
      · exact .of hr
      · have : r = fun _ => 0 := by
          funext j
          by_cases hj : j < w
          · exact h.low r hr j hj
          · exact h.rout r hr j (by omega)
        rw [this]
        exact .zero
    · exact Sm.mono fun r hr => .of (.inl hr)
  rw [e]
  exact piv_of h.ech h.pos h.red h.out
/-- two ways to the normal rows of the same sums -/
theorem Col.same {w : Nat} {R R0 R' : Row → Prop} {E E' : Nat → Option Row} (h : Col w w (Sm R0) E R) (g : Col w w (Sm R0) E' R') {a : Nat} (ha : a < w) : E a = E' a := h.piv.unique (fun _ _ hv hu => hv.ls hu 1) g.piv ha
end Hm
namespace Hm
/-! the way of putting in one row at a time -/
def put (F : Nat → Option Row) (a : Nat) (r : Row) : Nat → Option Row := fun c => if c = a then some r else F c
theorem put_at (F : Nat → Option Row) (a : Nat) (r : Row) : put F a r a = some r := if_pos rfl
theorem put_ne {F : Nat → Option Row} {a c : Nat} {r : Row} (h : c ≠ a) : put F a r c = F c := if_neg h
/-- a row begins in a column -/
def Beg (r : Row) (a : Nat) : Prop := (∀ j, j < a → r j = 0) ∧ r a ≠ 0
theorem ech_put {w : Nat} {F : Nat → Option Row} (h : Ech w F) {a : Nat} {r : Row} (hr : Beg r a) : Ech w (put F a r) := by
  refine ⟨fun c s hs => ?_⟩
  by_cases e : c = a
  · subst e
    rw [put_at] at hs
    injection hs with hs
    subst hs
    exact hr
  · rw [put_ne e] at hs
    exact h.z c s hs
theorem of_put {w : Nat} {F : Nat → Option Row} {a : Nat} {r x : Row} (ha : a < w) : Of w (put F a r) x ↔ x = r ∨ ∃ c, c < w ∧ c ≠ a ∧ F c = some x := by
  constructor
  · rintro ⟨c, hc, h⟩
    by_cases e : c = a
    · rw [e, put_at] at h
      injection h with h
      exact .inl h.symm
    · rw [put_ne e] at h
      exact .inr ⟨c, hc, e, h⟩
  · rintro (rfl | ⟨c, hc, e, h⟩)
    · exact ⟨a, ha, put_at _ _ _⟩
    · exact ⟨c, hc, by rw [put_ne e]; exact h⟩
/-- the same sums -/
def Eqs (A B : Row → Prop) : Prop := ∀ v, Sm A v ↔ Sm B v
theorem Eqs.by {A B : Row → Prop} (h1 : ∀ r, A r → Sm B r) (h2 : ∀ r, B r → Sm A r) : Eqs A B := fun v => ⟨Sm.mono h1, Sm.mono h2⟩
theorem Eqs.trans {A B C : Row → Prop} (h1 : Eqs A B) (h2 : Eqs B C) : Eqs A C := fun v => (h1 v).trans (h2 v)
def In (ts : List Row) : Row → Prop := fun r => r ∈ ts
/-- a row of zeros is left out -/
theorem drop_zero {A : Row → Prop} {r : Row} {ts : List Row} (h : ∀ j, r j = 0) : Eqs (Or' A (In (r :: ts))) (Or' A (In ts)) := by
  refine .by (fun x hx => ?_) (fun x hx => ?_)
  · rcases hx with hx | hx
    · exact .of (.inl hx)
    · rcases List.mem_cons.mp hx with rfl | hx
      · rw [show x = fun _ => 0 from funext h]
        exact .zero
      · exact .of (.inr hx)
  · rcases hx with hx | hx
    · exact .of (.inl hx)
    · exact .of (.inr (List.mem_cons_of_mem _ hx))
/-- a row is kept in an empty column -/
theorem keep_row {w : Nat} {F : Nat → Option Row} {a : Nat} {r : Row} {ts : List Row} (ha : a < w) (hF : F a = none) : Eqs (Or' (Of w F) (In (r :: ts))) (Or' (Of w (put F a r)) (In ts)) := by
  refine .by (fun x hx => ?_) (fun x hx => ?_)
  · rcases hx with ⟨c, hc, h⟩ | hx
    · refine .of (.inl ((of_put ha).mpr (.inr ⟨c, hc, fun e => ?_, h⟩)))
      rw [e, hF] at h
      cases h
    · rcases List.mem_cons.mp hx with rfl | hx
      · exact .of (.inl ((of_put ha).mpr (.inl rfl)))
      · exact .of (.inr hx)
  · rcases hx with hx | hx
    · rcases (of_put ha).mp hx with rfl | ⟨c, hc, _, h⟩
      · exact .of (.inr List.mem_cons_self)
      · exact .of (.inl ⟨c, hc, h⟩)
    · exact .of (.inr (List.mem_cons_of_mem _ hx))
/-- a row and the one that is kept change places -/
theorem swap_row {w : Nat} {F : Nat → Option Row} {a : Nat} {r s : Row} {ts : List Row} (ha : a < w) (hF : F a = some s) : Eqs (Or' (Of w F) (In (r :: ts))) (Or' (Of w (put F a r)) (In (s :: ts))) := by
  refine .by (fun x hx => ?_) (fun x hx => ?_)
  · rcases hx with ⟨c, hc, h⟩ | hx
    · by_cases e : c = a
      · rw [e, hF] at h
        injection h with h
        rw [← h]
        exact .of (.inr List.mem_cons_self)
      · exact .of (.inl ((of_put ha).mpr (.inr ⟨c, hc, e, h⟩)))
    · rcases List.mem_cons.mp hx with rfl | hx
      · exact .of (.inl ((of_put ha).mpr (.inl rfl)))
      · exact .of (.inr (List.mem_cons_of_mem _ hx))
  · rcases hx with hx | hx
    · rcases (of_put ha).mp hx with rfl | ⟨c, hc, _, h⟩
      · exact .of (.inr List.mem_cons_self)
      · exact .of (.inl ⟨c, hc, h⟩)
    · rcases List.mem_cons.mp hx with rfl | hx
      · exact .of (.inl ⟨a, ha, hF⟩)
      · exact .of (.inr (List.mem_cons_of_mem _ hx))
/-- a row is reduced by one that is kept -/
theorem less_row {w : Nat} {F : Nat → Option Row} {a : Nat} {r s : Row} {ts : List Row} (ha : a < w) (hF : F a = some s) (t : Int) : Eqs (Or' (Of w F) (In (r :: ts))) (Or' (Of w F) (In (ls r s t :: ts))) := by
  refine .by (fun x hx => ?_) (fun x hx => ?_)
  · rcases hx with hx | hx
    · exact .of (.inl hx)
    · rcases List.mem_cons.mp hx with rfl | hx
      · have z := (Sm.of (R := Or' (Of w F) (In (ls x s t :: ts))) (.inr List.mem_cons_self)).ls (.of (.inl ⟨a, ha, hF⟩)) (-t)
        rw [ls_back] at z
        exact z
      · exact .of (.inr (List.mem_cons_of_mem _ hx))
  · rcases hx with hx | hx
    · exact .of (.inl hx)
    · rcases List.mem_cons.mp hx with rfl | hx
      · exact (Sm.of (R := Or' (Of w F) (In (r :: ts))) (.inr List.mem_cons_self)).ls (.of (.inl ⟨a, ha, hF⟩)) t
      · exact .of (.inr (List.mem_cons_of_mem _ hx))
/-! from rows in steps to normal rows -/
def Fro (w : Nat) (F : Nat → Option Row) (a : Nat) : Row → Prop := fun r => ∃ c, a ≤ c ∧ c < w ∧ F c = some r
def neg (r : Row) : Row := fun j => -1 * r j
def sgd (r : Row) (a : Nat) : Row := if 0 < r a then r else neg r
def nxt (F : Nat → Option Row) (a : Nat) (E : Nat → Option Row) : Nat → Option Row := match F a with
  | none => E
  | some r => redE E a (sgd r a)
theorem sm_neg {R : Row → Prop} {r : Row} (h : Sm R r) : Sm R (neg r) := by
  have z := Sm.zero.ls h 1
  have e : ls (fun _ => 0) r 1 = neg r := by
    funext j
    show 0 - 1 * r j = -1 * r j
    omega
  rw [e] at z
  exact z
theorem neg_neg (r : Row) : neg (neg r) = r := by
  funext j
  show -1 * (-1 * r j) = r j
  omega
theorem col_fro {w : Nat} {F : Nat → Option Row} (hF : Ech w F) {a : Nat} {L : Row → Prop} {E : Nat → Option Row} (h : Col w a L E (Fro w F a)) (ha : a < w) : Col w (a + 1) L (nxt F a E) (Fro w F (a + 1)) := by
  have z : ∀ r, Fro w F (a + 1) r → r a = 0 := fun r ⟨c, h1, _, h3⟩ => (hF.z c r h3).1 a (by omega)
  have s1 : ∀ r, Fro w F (a + 1) r → Sm (Fro w F a) r := fun r ⟨c, h1, h2, h3⟩ => .of ⟨c, by omega, h2, h3⟩
  unfold nxt
  cases hE : F a with
  | none =>
    refine h.none ha z s1 fun r ⟨c, h1, h2, h3⟩ => .of ⟨c, ?_, h2, h3⟩
    by_cases e : c = a
    · rw [e, hE] at h3
      cases h3
    · omega
  | some r =>
    have hr := (hF.z a r hE).2
    have inr' : Sm (Fro w F a) r := .of ⟨a, Nat.le_refl _, ha, hE⟩
    have sg : sgd r a = r ∨ sgd r a = neg r := by
      unfold sgd
      split
      · exact .inl rfl
      · exact .inr rfl
    refine h.some ha ?_ z ?_ s1 fun x ⟨c, h1, h2, h3⟩ => ?_
    · unfold sgd
      split
      · assumption
      · show 0 < -1 * r a
        omega
    · rcases sg with e | e
      · rw [e]
        exact inr'
      · rw [e]
        exact sm_neg inr'
    · by_cases e : c = a
      · rw [e, hE] at h3
        injection h3 with h3
        subst h3
        have y : Sm (Or' (fun x => x = sgd r a) (Fro w F (a + 1))) (sgd r a) := .of (.inl rfl)
        rcases sg with e | e
        · rw [e] at y ⊢
          exact y
        · have y2 := sm_neg y
          rw [e, neg_neg] at y2
          rw [e]
          exact y2
      · exact .of (.inr ⟨c, by omega, h2, h3⟩)
def nrm (F : Nat → Option Row) : Nat → Nat → Option Row
  | 0 => fun _ => none
  | a + 1 => nxt F a (nrm F a)
theorem col_nrm {w : Nat} {F : Nat → Option Row} (hF : Ech w F) (out : ∀ c r, F c = some r → ∀ j, w ≤ j → r j = 0) : ∀ a, a ≤ w → Col w a (Sm (Of w F)) (nrm F a) (Fro w F a)
  | 0, _ => by
    have e : Fro w F 0 = Of w F := by
      funext r
      refine propext ⟨fun ⟨c, _, h2, h3⟩ => ⟨c, h2, h3⟩, fun ⟨c, h2, h3⟩ => ⟨c, Nat.zero_le _, h2, h3⟩⟩
    rw [e]
    exact col_start fun r ⟨c, _, h⟩ => out c r h
  | a + 1, h => col_fro hF (col_nrm hF out a (by omega)) h
end Hm
namespace Hm
/-! the way of sweeping a column: all rows are reduced by the least one, round by round -/
def zro (a : Nat) (rs : List Row) : List Row := rs.filter fun r => decide (r a = 0)
def nzr (a : Nat) (rs : List Row) : List Row := rs.filter fun r => decide (r a ≠ 0)
theorem mem_zn {a : Nat} {rs : List Row} {r : Row} : r ∈ rs ↔ r ∈ zro a rs ∨ r ∈ nzr a rs := by
  unfold zro nzr
  rw [List.mem_filter, List.mem_filter]
  by_cases h : r a = 0
  · simp [h]
  · simp [h]
theorem Eqs.refl (A : Row → Prop) : Eqs A A := fun _ => Iff.rfl
theorem Eqs.symm {A B : Row → Prop} (h : Eqs A B) : Eqs B A := fun v => (h v).symm
theorem eqs_in {A B : List Row} (h : ∀ r, r ∈ A ↔ r ∈ B) : Eqs (In A) (In B) := .by (fun r hr => .of ((h r).mp hr)) (fun r hr => .of ((h r).mpr hr))
/-- the beginning: rows without and with a zero -/
theorem sweep0 (a : Nat) (rs : List Row) : Eqs (In rs) (In (zro a rs ++ nzr a rs)) := eqs_in fun r => by
  rw [List.mem_append]
  exact mem_zn
/-- a round -/
theorem sweep1 (a : Nat) (cl os : List Row) (l : Row) (q : Row → Int) : Eqs (In (cl ++ l :: os)) (In ((cl ++ zro a (os.map fun r => ls r l (q r))) ++ l :: nzr a (os.map fun r => ls r l (q r)))) := by
  have mv : ∀ x, x ∈ (os.map fun r => ls r l (q r)) → x ∈ ((cl ++ zro a (os.map fun r => ls r l (q r))) ++ l :: nzr a (os.map fun r => ls r l (q r))) := by
    intro x hx
    rcases (mem_zn (a := a)).mp hx with h | h
    · exact List.mem_append_left _ (List.mem_append_right _ h)
    · exact List.mem_append_right _ (List.mem_cons_of_mem _ h)
  have ml : In ((cl ++ zro a (os.map fun r => ls r l (q r))) ++ l :: nzr a (os.map fun r => ls r l (q r))) l := List.mem_append_right _ List.mem_cons_self
  refine .by (fun x hx => ?_) (fun x hx => ?_)
  · rcases List.mem_append.mp hx with hx | hx
    · exact .of (List.mem_append_left _ (List.mem_append_left _ hx))
    · rcases List.mem_cons.mp hx with rfl | hx
      · exact .of ml
      · have z := (Sm.of (mv _ (List.mem_map.mpr ⟨x, hx, rfl⟩))).ls (.of ml) (-(q x))
        rw [ls_back] at z
        exact z
  · have il : In (cl ++ l :: os) l := List.mem_append_right _ List.mem_cons_self
    have im : ∀ y, y ∈ (os.map fun r => ls r l (q r)) → Sm (In (cl ++ l :: os)) y := by
      intro y hy
      obtain ⟨r, hr, rfl⟩ := List.mem_map.mp hy
      exact (Sm.of (R := In (cl ++ l :: os)) (List.mem_append_right _ (List.mem_cons_of_mem _ hr))).ls (.of il) _
    rcases List.mem_append.mp hx with hx | hx
    · rcases List.mem_append.mp hx with hx | hx
      · exact .of (List.mem_append_left _ hx)
      · exact im x ((mem_zn (a := a)).mpr (.inl hx))
    · rcases List.mem_cons.mp hx with rfl | hx
      · exact .of il
      · exact im x ((mem_zn (a := a)).mpr (.inr hx))
/-- what is left of a column: nothing or one row, and rows with a zero there -/
def Swp (a : Nat) (R : List Row) (l : Option Row) (C : List Row) : Prop := (∀ r ∈ C, r a = 0) ∧ match l with
  | none => Eqs (In R) (In C)
  | some l => 0 < l a ∧ Eqs (In R) (In (l :: C))
theorem swp_none {a : Nat} {R C : List Row} (h : Eqs (In R) (In (C ++ []))) (hC : ∀ r ∈ C, r a = 0) : Swp a R none C := by
  rw [List.append_nil] at h
  exact ⟨hC, h⟩
theorem swp_one {a : Nat} {R C : List Row} {r : Row} (h : Eqs (In R) (In (C ++ [r]))) (hC : ∀ r ∈ C, r a = 0) (hr : r a ≠ 0) : Swp a R (some (sgd r a)) C := by
  refine ⟨hC, ?_, h.trans (.by (fun x hx => ?_) (fun x hx => ?_))⟩
  · unfold sgd
    split
    · assumption
    · show 0 < -1 * r a
      omega
  · rcases List.mem_append.mp hx with hx | hx
    · exact .of (List.mem_cons_of_mem _ hx)
    · obtain rfl := List.mem_singleton.mp hx
      have y : Sm (In (sgd x a :: C)) (sgd x a) := .of List.mem_cons_self
      unfold sgd at y ⊢
      split
      · rename_i h0
        rw [if_pos h0] at y
        exact y
      · rename_i h0
        rw [if_neg h0] at y
        have y2 := sm_neg y
        rw [neg_neg] at y2
        exact y2
  · rcases List.mem_cons.mp hx with rfl | hx
    · have y : Sm (In (C ++ [r])) r := .of (List.mem_append_right _ List.mem_cons_self)
      unfold sgd
      split
      · exact y
      · exact sm_neg y
    · exact .of (List.mem_append_left _ hx)
/-- what stands behind the column -/
def nxs (l : Option Row) (a : Nat) (E : Nat → Option Row) : Nat → Option Row := match l with
  | none => E
  | some l => redE E a l
theorem Col.swp {w a : Nat} {L : Row → Prop} {E : Nat → Option Row} {R C : List Row} {l : Option Row} (h : Col w a L E (In R)) (ha : a < w) (s : Swp a R l C) : Col w (a + 1) L (nxs l a E) (In C) := by
  obtain ⟨hC, hs⟩ := s
  cases l with
  | none => exact h.none ha hC (fun r hr => (hs r).mpr (.of hr)) (fun r hr => (hs r).mp (.of hr))
  | some l =>
    obtain ⟨hl, he⟩ := hs
    refine h.some ha hl hC ((he l).mpr (.of List.mem_cons_self)) (fun r hr => (he r).mpr (.of (List.mem_cons_of_mem _ hr))) (fun r hr => ((he r).mp (.of hr)).mono fun x hx => ?_)
    rcases List.mem_cons.mp hx with rfl | hx
    · exact .of (.inl rfl)
    · exact .of (.inr hx)
/-! lists of numbers as rows -/
def fn (r : List Int) : Row := fun j => r.getD j 0
theorem fn_out {w : Nat} {r : List Int} (h : r.length = w) : ∀ j, w ≤ j → fn r j = 0 := fun j hj => by
  unfold fn
  rw [List.getD_eq_getElem?_getD, List.getElem?_eq_none (by omega)]
  rfl
theorem fn_inj {r s : List Int} (hl : r.length = s.length) (h : fn r = fn s) : r = s := by
  refine List.ext_getElem? fun i => ?_
  have e := congrFun h i
  unfold fn at e
  rw [List.getD_eq_getElem?_getD, List.getD_eq_getElem?_getD] at e
  by_cases hi : i < r.length
  · rw [List.getElem?_eq_getElem hi, List.getElem?_eq_getElem (by omega)] at e ⊢
    exact congrArg some e
  · rw [List.getElem?_eq_none (by omega), List.getElem?_eq_none (by omega)]
/-- a row less a multiple of another one -/
def lsl (r o : List Int) (t : Int) : List Int := List.zipWith (fun x y => x - t * y) r o
theorem lsl_len {r o : List Int} {w : Nat} (hr : r.length = w) (ho : o.length = w) (t : Int) : (lsl r o t).length = w := by
  unfold lsl
  rw [List.length_zipWith]
  omega
theorem fn_lsl {r o : List Int} (h : r.length = o.length) (t : Int) : fn (lsl r o t) = ls (fn r) (fn o) t := by
  funext j
  show (lsl r o t).getD j 0 = r.getD j 0 - t * o.getD j 0
  unfold lsl
  rw [List.getD_eq_getElem?_getD, List.getD_eq_getElem?_getD, List.getD_eq_getElem?_getD, List.getElem?_zipWith]
  by_cases hj : j < r.length
  · rw [List.getElem?_eq_getElem hj, List.getElem?_eq_getElem (by omega)]
    rfl
  · rw [List.getElem?_eq_none (by omega), List.getElem?_eq_none (by omega)]
    simp
end Hm
namespace Hm
/-! the same with lists of numbers -/
def Gok (w : Nat) (G : Nat → Option (List Int)) : Prop := ∀ c r, G c = some r → r.length = w
def ofG (G : Nat → Option (List Int)) : Nat → Option Row := fun c => (G c).map fn
def redL (a : Nat) (l r : List Int) : List Int := lsl r l (r.getD a 0 / l.getD a 0)
def redG (G : Nat → Option (List Int)) (a : Nat) (l : List Int) : Nat → Option (List Int) := fun c => if c = a then some l else (G c).map (redL a l)
def nxG (G : Nat → Option (List Int)) (a : Nat) : Option (List Int) → Nat → Option (List Int)
  | none => G
  | some l => redG G a l
theorem redG_ok {w : Nat} {G : Nat → Option (List Int)} (h : Gok w G) {l : List Int} (hl : l.length = w) (a : Nat) : Gok w (redG G a l) := by
  intro c r hc
  unfold redG at hc
  by_cases e : c = a
  · rw [if_pos e] at hc
    injection hc with hc
    rw [← hc]
    exact hl
  · rw [if_neg e] at hc
    cases hG : G c with
    | none => rw [hG] at hc; cases hc
    | some r0 =>
      rw [hG] at hc
      injection hc with hc
      rw [← hc]
      exact lsl_len (h c r0 hG) hl _
theorem ofG_red {w : Nat} {G : Nat → Option (List Int)} (h : Gok w G) {l : List Int} (hl : l.length = w) (a : Nat) : ofG (redG G a l) = redE (ofG G) a (fn l) := by
  funext c
  unfold ofG redG redE
  by_cases e : c = a
  · rw [if_pos e, if_pos e]
    rfl
  · rw [if_neg e, if_neg e]
    dsimp only
    cases hG : G c with
    | none => rfl
    | some r =>
      show some (fn (redL a l r)) = some (ls (fn r) (fn l) (fn r a / fn l a))
      unfold redL
      rw [fn_lsl (by rw [h c r hG, hl])]
      rfl
theorem nxG_of {w : Nat} {G : Nat → Option (List Int)} (h : Gok w G) {l : Option (List Int)} (hl : ∀ r, l = some r → r.length = w) (a : Nat) : ofG (nxG G a l) = nxs (l.map fn) a (ofG G) ∧ Gok w (nxG G a l) := by
  cases l with
  | none => exact ⟨rfl, h⟩
  | some l => exact ⟨ofG_red h (hl l rfl) a, redG_ok h (hl l rfl) a⟩
theorem fm_congr {α β : Type} {f g : α → Option β} : ∀ {l : List α}, (∀ x ∈ l, f x = g x) → l.filterMap f = l.filterMap g
  | [], _ => rfl
  | x :: r, h => by
    rw [List.filterMap_cons, List.filterMap_cons, h x List.mem_cons_self, fm_congr fun y hy => h y (List.mem_cons_of_mem _ hy)]
/-- the rows of the columns before a, as a list -/
def lis (G : Nat → Option (List Int)) (a : Nat) : List (List Int) := (List.range a).filterMap G
theorem lis_red {G : Nat → Option (List Int)} {a : Nat} {l : List Int} : lis (redG G a l) (a + 1) = (lis G a).map (redL a l) ++ [l] := by
  unfold lis
  rw [List.range_succ, List.filterMap_append]
  have e1 : (List.range a).filterMap (redG G a l) = ((List.range a).filterMap G).map (redL a l) := by
    rw [List.map_filterMap]
    refine fm_congr fun c hc => ?_
    have : c < a := List.mem_range.mp hc
    unfold redG
    rw [if_neg (by omega)]
  rw [e1]
  congr 1
  simp [redG]
theorem lis_none {G : Nat → Option (List Int)} {a : Nat} (h : G a = none) : lis G (a + 1) = lis G a := by
  unfold lis
  rw [List.range_succ, List.filterMap_append]
  simp [h]
theorem lis_same {w : Nat} {G G' : Nat → Option (List Int)} (h : Gok w G) (h' : Gok w G') (e : ∀ a, a < w → ofG G a = ofG G' a) : lis G w = lis G' w := by
  unfold lis
  refine fm_congr fun c hc => ?_
  have e1 := e c (List.mem_range.mp hc)
  unfold ofG at e1
  cases hG : G c with
  | none =>
    rw [hG] at e1
    cases hG' : G' c with
    | none => rfl
    | some s => rw [hG'] at e1; cases e1
  | some r =>
    rw [hG] at e1
    cases hG' : G' c with
    | none => rw [hG'] at e1; cases e1
    | some s =>
      rw [hG'] at e1
      injection e1 with e1
      rw [fn_inj (by rw [h c r hG, h' c s hG']) e1]
/-- the rows of the table, column by column, with the rest rs -/
structure Nrm (w a : Nat) (rows found rest : List (List Int)) : Prop where
  ex : ∃ G, Gok w G ∧ found = lis G a ∧ Col w a (Sm (In (rows.map fn))) (ofG G) (In (rest.map fn))
theorem nrm_start {w : Nat} {rows : List (List Int)} (h : ∀ r ∈ rows, r.length = w) : Nrm w 0 rows [] rows := by
  refine ⟨fun _ => none, (fun c r hc => nomatch hc), rfl, ?_⟩
  refine col_start fun r hr => ?_
  obtain ⟨x, hx, rfl⟩ := List.mem_map.mp hr
  exact fn_out (h x hx)
theorem nrm_none {w a : Nat} {rows found rest cl : List (List Int)} (h : Nrm w a rows found rest) (ha : a < w) (s : Swp a (rest.map fn) none (cl.map fn)) : Nrm w (a + 1) rows found cl := by
  obtain ⟨G, g1, g2, g3⟩ := h.ex
  have hn : G a = none := by
    have := g3.no a (Nat.le_refl _)
    unfold ofG at this
    cases hG : G a with
    | none => rfl
    | some r => rw [hG] at this; cases this
  exact ⟨G, g1, by rw [lis_none hn]; exact g2, g3.swp ha s⟩
theorem nrm_some {w a : Nat} {rows found rest cl : List (List Int)} {l : List Int} (h : Nrm w a rows found rest) (ha : a < w) (hl : l.length = w) (s : Swp a (rest.map fn) (some (fn l)) (cl.map fn)) : Nrm w (a + 1) rows (found.map (redL a l) ++ [l]) cl := by
  obtain ⟨G, g1, g2, g3⟩ := h.ex
  refine ⟨redG G a l, redG_ok g1 hl a, by rw [lis_red, g2], ?_⟩
  rw [ofG_red g1 hl a]
  exact g3.swp ha s
/-- whatever the ways, and for all rows with the same sums: the normal rows are the same -/
theorem nrm_same {w : Nat} {rows rows' f1 f2 r1 r2 : List (List Int)} (h : Nrm w w rows f1 r1) (g : Nrm w w rows' f2 r2) (e : Eqs (In (rows.map fn)) (In (rows'.map fn))) : f1 = f2 := by
  obtain ⟨G, g1, g2, g3⟩ := h.ex
  obtain ⟨G', k1, k2, k3⟩ := g.ex
  have e2 : Sm (In (rows'.map fn)) = Sm (In (rows.map fn)) := funext fun v => propext (e v).symm
  rw [e2] at k3
  rw [g2, k2]
  exact lis_same g1 k1 fun a ha => g3.same k3 ha
end Hm
namespace Hm
/-! the rounds end: how much stands in a column -/
def mas (a : Nat) (rs : List Row) : Nat := (rs.map fun r => (r a).natAbs).sum
theorem fmod_small {x l : Int} (hl : l ≠ 0) : (x - x.fdiv l * l).natAbs < l.natAbs := by
  have h0 := Int.emod_nonneg x hl
  have h1 := Int.emod_lt x hl
  have e : x / l * l = x - x % l := by
    have := Int.emod_def x l
    rw [Int.mul_comm] at this
    omega
  rw [Int.fdiv_eq_ediv]
  by_cases hc : 0 ≤ l ∨ l ∣ x
  · rw [if_pos hc, Int.sub_zero, e]
    omega
  · rw [if_neg hc, Int.sub_mul, e]
    have h2 : x % l ≠ 0 := fun z => hc (.inr (Int.dvd_of_emod_eq_zero z))
    omega
theorem mas_nzr (a : Nat) : ∀ rs : List Row, mas a (nzr a rs) = mas a rs
  | [] => rfl
  | r :: rs => by
    have ih := mas_nzr a rs
    unfold mas nzr at ih ⊢
    rw [List.filter_cons]
    by_cases h : r a = 0
    · simp [h]
      simpa using ih
    · simp [h]
      simpa using ih
theorem mas_less {a : Nat} {l : Row} (hl : l a ≠ 0) : ∀ os : List Row, (∀ r ∈ os, (l a).natAbs ≤ (r a).natAbs) → mas a (os.map fun r => ls r l ((r a).fdiv (l a))) + os.length ≤ mas a os
  | [], _ => Nat.le_refl _
  | r :: os, h => by
    have ih := mas_less hl os fun x hx => h x (List.mem_cons_of_mem _ hx)
    have h1 := h r List.mem_cons_self
    have h2 : (ls r l ((r a).fdiv (l a)) a).natAbs < (l a).natAbs := fmod_small hl
    unfold mas at ih ⊢
    simp only [List.map_cons, List.sum_cons, List.length_cons, List.map_map] at ih ⊢
    omega
/-- a round takes something away -/
theorem mas_round {a : Nat} {l : Row} {os : List Row} (hl : l a ≠ 0) (h : ∀ r ∈ os, (l a).natAbs ≤ (r a).natAbs) (ho : os ≠ []) : mas a (l :: nzr a (os.map fun r => ls r l ((r a).fdiv (l a)))) < mas a (l :: os) := by
  have h1 := mas_less hl os h
  have h2 := mas_nzr a (os.map fun r => ls r l ((r a).fdiv (l a)))
  have h3 : 0 < os.length := List.length_pos_iff.mpr ho
  have e1 : ∀ rs, mas a (l :: rs) = (l a).natAbs + mas a rs := fun rs => by simp [mas]
  rw [e1, e1, h2]
  omega
end Hm
namespace Hm
/-- a way of steps that goes down has a number of steps -/
theorem steps {S : Type} (f : S → Option S) (r : S → S → Prop) (wf : WellFounded r) (h : ∀ s s', f s = some s' → r s' s) : ∃ n : S → Nat, ∀ s s', f s = some s' → n s' < n s := by
  have one : ∀ s, ∃ k : Nat, ∀ m, k ≤ m → ∃ t : List S, t.length ≤ m ∧ ∀ u, (Nat.repeat (fun o => o.bind f) (m + 1) (some s)) = u → u = none := by
    intro s
    induction s using wf.induction with
    | _ s ih =>
      cases hf : f s with
      | none =>
        refine ⟨0, fun m _ => ⟨[], Nat.zero_le _, fun u hu => ?_⟩⟩
        have z : ∀ n, Nat.repeat (fun o => o.bind f) (n + 1) (some s) = (none : Option S) := by
          intro n
          induction n with
          | zero => exact hf
          | succ n ihn =>
            show (Nat.repeat (fun o => o.bind f) (n + 1) (some s)).bind f = none
            rw [ihn]
            rfl
        rw [← hu]
        exact z m
      | some s' =>
        obtain ⟨k, hk⟩ := ih s' (h s s' hf)
        refine ⟨k + 1, fun m hm => ⟨[], Nat.zero_le _, fun u hu => ?_⟩⟩
        obtain ⟨_, _, e⟩ := hk (m - 1) (by omega)
        have sh : ∀ n, Nat.repeat (fun o => o.bind f) (n + 1) (some s) = Nat.repeat (fun o => o.bind f) n (some s') := by
          intro n
          induction n with
          | zero => exact hf
          | succ n ihn =>
            show (Nat.repeat (fun o => o.bind f) (n + 1) (some s)).bind f = (Nat.repeat (fun o => o.bind f) n (some s')).bind f
            rw [ihn]
        rw [← hu, sh m]
        have := e _ rfl
        rw [show m - 1 + 1 = m by omega] at this
        exact this
  -- the least number of steps
  have ex : ∀ s, ∃ k : Nat, Nat.repeat (fun o => o.bind f) k (some s) = (none : Option S) := fun s => by
    obtain ⟨k, hk⟩ := one s
    obtain ⟨_, _, e⟩ := hk k (Nat.le_refl _)
    exact ⟨k + 1, e _ rfl⟩
  refine ⟨fun s => Classical.choose (least (ex s)), fun s s' hs => ?_⟩
  have c1 := Classical.choose_spec (least (ex s))
  have c2 := Classical.choose_spec (least (ex s'))
  show Classical.choose (least (ex s')) < Classical.choose (least (ex s))
  generalize Classical.choose (least (ex s)) = n at c1 ⊢
  generalize Classical.choose (least (ex s')) = n' at c2 ⊢
  have sh : ∀ m, Nat.repeat (fun o => o.bind f) (m + 1) (some s) = Nat.repeat (fun o => o.bind f) m (some s') := by
    intro m
    induction m with
    | zero => exact hs
    | succ m ihm =>
      show (Nat.repeat (fun o => o.bind f) (m + 1) (some s)).bind f = (Nat.repeat (fun o => o.bind f) m (some s')).bind f
      rw [ihm]
  cases n with
  | zero =>
    have := c1.1
    cases this
  | succ n =>
    have := c1.1
    rw [sh] at this
    have := c2.2 n this
    omega
where
  least {p : Nat → Prop} (h : ∃ k, p k) : ∃ k, p k ∧ ∀ j, p j → k ≤ j := by
    obtain ⟨k, hk⟩ := h
    induction k using Nat.strongRecOn with
    | _ k ih =>
      by_cases g : ∃ j, j < k ∧ p j
      · obtain ⟨j, hj, pj⟩ := g
        exact ih j hj pj
      · exact ⟨k, hk, fun j pj => Nat.le_of_not_lt fun hj => g ⟨j, hj, pj⟩⟩
end Hm
namespace Hm
/-! how great the numbers become when a column is swept -/
/-- numbers of one sign: floor division as with what they are without it -/
theorem same_fdiv {x l : Int} (h : 0 < x * l) : x.fdiv l = ((x.natAbs / l.natAbs : Nat) : Int) ∧ (x - x.fdiv l * l).natAbs = x.natAbs % l.natAbs ∧ 0 ≤ (x - x.fdiv l * l) * l := by
  have pos : ∀ a b : Nat, 0 < b → ((a : Int).fdiv (b : Int) = ((a / b : Nat) : Int)) ∧ ((a : Int) - ((a / b : Nat) : Int) * (b : Int) = ((a % b : Nat) : Int)) := by
    intro a b hb
    refine ⟨by rw [Int.fdiv_eq_ediv_of_nonneg _ (by omega)]; rfl, ?_⟩
    have e := Nat.div_add_mod a b
    have e2 : ((b * (a / b) + a % b : Nat) : Int) = (a : Int) := by rw [e]
    rw [Int.natCast_add, Int.natCast_mul, Int.mul_comm] at e2
    omega
  have hl : l ≠ 0 := fun z => by rw [z, Int.mul_zero] at h; omega
  have hx : x ≠ 0 := fun z => by rw [z, Int.zero_mul] at h; omega
  rcases Int.lt_or_gt_of_ne hl with n | n
  · have nx : x < 0 := by
      rcases Int.lt_or_gt_of_ne hx with m | m
      · exact m
      · have := Int.mul_neg_of_pos_of_neg m n
        omega
    obtain ⟨a, rfl⟩ : ∃ a : Nat, x = -(a : Int) := ⟨x.natAbs, by omega⟩
    obtain ⟨b, rfl⟩ : ∃ b : Nat, l = -(b : Int) := ⟨l.natAbs, by omega⟩
    obtain ⟨p1, p2⟩ := pos a b (by omega)
    rw [Int.neg_fdiv_neg, p1, Int.natAbs_neg, Int.natAbs_neg, Int.natAbs_natCast, Int.natAbs_natCast]
    have e : (-(a : Int) - ((a / b : Nat) : Int) * -(b : Int)) = -((a % b : Nat) : Int) := by
      rw [Int.mul_neg]
      omega
    refine ⟨rfl, by rw [e, Int.natAbs_neg, Int.natAbs_natCast], ?_⟩
    rw [e, Int.neg_mul_neg]
    exact Int.mul_nonneg (Int.natCast_nonneg _) (Int.natCast_nonneg _)
  · have px : 0 < x := by
      rcases Int.lt_or_gt_of_ne hx with m | m
      · have := Int.mul_neg_of_neg_of_pos m n
        omega
      · exact m
    obtain ⟨a, rfl⟩ : ∃ a : Nat, x = (a : Int) := ⟨x.natAbs, by omega⟩
    obtain ⟨b, rfl⟩ : ∃ b : Nat, l = (b : Int) := ⟨l.natAbs, by omega⟩
    obtain ⟨p1, p2⟩ := pos a b (by omega)
    rw [p1, Int.natAbs_natCast, Int.natAbs_natCast]
    refine ⟨rfl, by rw [p2, Int.natAbs_natCast], ?_⟩
    rw [p2]
    exact Int.mul_nonneg (Int.natCast_nonneg _) (Int.natCast_nonneg _)
/-- a rest has the sign of what is divided by -/
theorem rest_sign {x l : Int} (hl : l ≠ 0) : 0 ≤ (x - x.fdiv l * l) * l ∧ (x - x.fdiv l * l).natAbs < l.natAbs ∧ (x.fdiv l).natAbs ≤ x.natAbs + 1 := by
  have h2 := fmod_small (x := x) hl
  have e : x - x.fdiv l * l = x.fmod l := by
    have := Int.fmod_def x l
    rw [Int.mul_comm] at this
    omega
  refine ⟨?_, h2, ?_⟩
  · rw [e]
    rcases Int.lt_or_gt_of_ne hl with n | n
    · have h : x.fmod l ≤ 0 := by
        have h0 := Int.emod_nonneg x hl
        have h1 := Int.emod_lt x hl
        have e5 : x / l * l = x - x % l := by
          have := Int.emod_def x l
          rw [Int.mul_comm] at this
          omega
        rw [← e, Int.fdiv_eq_ediv]
        by_cases hc : 0 ≤ l ∨ l ∣ x
        · rw [if_pos hc, Int.sub_zero, e5]
          have : x % l = 0 := Int.emod_eq_zero_of_dvd (hc.resolve_left (by omega))
          omega
        · rw [if_neg hc, Int.sub_mul, e5]
          omega
      exact Int.mul_nonneg_of_nonpos_of_nonpos h (by omega)
    · exact Int.mul_nonneg (Int.fmod_nonneg_of_pos x n) (by omega)
  · have h3 : (x.fdiv l * l).natAbs ≤ x.natAbs + l.natAbs := by omega
    rw [Int.natAbs_mul] at h3
    have h4 : 0 < l.natAbs := by omega
    generalize (x.fdiv l).natAbs = q at h3 ⊢
    generalize l.natAbs = b at h3 h4
    generalize x.natAbs = a at h3 ⊢
    apply Nat.le_of_not_lt
    intro hq
    have : (a + 1 + 1) * b ≤ q * b := Nat.mul_le_mul_right _ hq
    have e2 : (a + 1 + 1) * b = a * b + b + b := by rw [Nat.succ_mul, Nat.succ_mul]
    have e3 : a ≤ a * b := Nat.le_mul_of_pos_right _ h4
    omega
/-- the first row is the least of the round before; the others are its rests -/
structure Pot (a C M : Nat) (l' : Row) (os : List Row) : Prop where
  nz : l' a ≠ 0
  col : ∀ r, r ∈ l' :: os → ∀ j, a < j → (r j).natAbs ≤ M
  sgn : ∀ r ∈ os, 0 < r a * l' a ∧ (r a).natAbs < (l' a).natAbs
  le : M ≤ C
  pot : os ≠ [] → ∃ r ∈ os, M * (l' a).natAbs * (2 ^ os.length * (l' a).natAbs * (r a).natAbs) ≤ C
theorem sgn_trans {x y z : Int} (h1 : 0 < x * z) (h2 : 0 < y * z) : 0 < x * y := by
  have hz : z ≠ 0 := fun e => by rw [e, Int.mul_zero] at h1; omega
  rcases Int.lt_or_gt_of_ne hz with n | n
  · have a : x < 0 := by
      apply Int.lt_of_not_ge
      intro h
      have := Int.mul_nonpos_of_nonneg_of_nonpos h (Int.le_of_lt n)
      omega
    have b : y < 0 := by
      apply Int.lt_of_not_ge
      intro h
      have := Int.mul_nonpos_of_nonneg_of_nonpos h (Int.le_of_lt n)
      omega
    exact Int.mul_pos_of_neg_of_neg a b
  · have a : 0 < x := by
      apply Int.lt_of_not_ge
      intro h
      have := Int.mul_nonpos_of_nonpos_of_nonneg h (Int.le_of_lt n)
      omega
    have b : 0 < y := by
      apply Int.lt_of_not_ge
      intro h
      have := Int.mul_nonpos_of_nonpos_of_nonneg h (Int.le_of_lt n)
      omega
    exact Int.mul_pos a b
end Hm
namespace Hm
theorem abs_ls {r l : Row} {q : Int} {j M Q : Nat} (hr : (r j).natAbs ≤ M) (hl : (l j).natAbs ≤ M) (hq : q.natAbs ≤ Q) : (ls r l q j).natAbs ≤ M + Q * M := by
  show (r j - q * l j).natAbs ≤ _
  have h1 : (q * l j).natAbs ≤ Q * M := by
    rw [Int.natAbs_mul]
    exact Nat.mul_le_mul hq hl
  omega
theorem half {x l : Nat} (hl : 0 < l) (h : l ≤ x) : 2 * (x % l) ≤ x := by
  have h1 := Nat.mod_lt x hl
  have h2 := Nat.div_add_mod x l
  have h3 : 1 ≤ x / l := (Nat.one_le_div_iff hl).mpr h
  have h4 : l ≤ l * (x / l) := Nat.le_mul_of_pos_right _ h3
  omega
theorem nzr_mem {a : Nat} {rs : List Row} {r : Row} : r ∈ nzr a rs ↔ r ∈ rs ∧ r a ≠ 0 := by
  unfold nzr
  rw [List.mem_filter]
  simp
/-- a round: the greatest number grows, but not the potential -/
theorem pot_round {a C M : Nat} {l' l : Row} {os xs : List Row} (h : Pot a C M l' os) (ho : os ≠ []) (pm : (l :: xs).Perm (l' :: os)) (mn : ∀ r ∈ xs, (l a).natAbs ≤ (r a).natAbs) :
    ∃ M', Pot a C M' l (nzr a (xs.map fun r => ls r l ((r a).fdiv (l a)))) ∧ (∀ r ∈ xs, ∀ j, a < j → (ls r l ((r a).fdiv (l a)) j).natAbs ≤ M') ∧ M ≤ M' := by
  obtain ⟨s0, hs0, hp⟩ := h.pot ho
  have sq : 0 < l' a * l' a := by
    rcases Int.lt_or_gt_of_ne h.nz with n | n
    · exact Int.mul_pos_of_neg_of_neg n n
    · exact Int.mul_pos n n
  have all : ∀ r ∈ l' :: os, 0 < r a * l' a ∧ (r a).natAbs ≤ (l' a).natAbs := by
    intro r hr
    rcases List.mem_cons.mp hr with rfl | hr
    · exact ⟨sq, Nat.le_refl _⟩
    · exact ⟨(h.sgn r hr).1, Nat.le_of_lt (h.sgn r hr).2⟩
  have inx : ∀ r ∈ xs, r ∈ l' :: os := fun r hr => pm.mem_iff.mp (List.mem_cons_of_mem _ hr)
  have hl := all l (pm.mem_iff.mp List.mem_cons_self)
  have lz : l a ≠ 0 := fun z => by
    have := hl.1
    rw [z, Int.zero_mul] at this
    omega
  have l0 : 0 < (l a).natAbs := by omega
  have ls0 : (l a).natAbs ≤ (s0 a).natAbs := by
    rcases List.mem_cons.mp (pm.mem_iff.mpr (List.mem_cons_of_mem _ hs0)) with e | e
    · rw [e]
      exact Nat.le_refl _
    · exact mn s0 e
  have ll : (l a).natAbs < (l' a).natAbs := Nat.lt_of_le_of_lt ls0 (h.sgn s0 hs0).2
  have l'x : l' ∈ xs := by
    rcases List.mem_cons.mp (pm.mem_iff.mpr (List.mem_cons_self (a := l') (l := os))) with e | e
    · rw [e] at ll
      omega
    · exact e
  have len : xs.length = os.length := by
    have := pm.length_eq
    simpa using this
  have sd : ∀ r ∈ xs, 0 < r a * l a := fun r hr => sgn_trans (all r (inx r hr)).1 hl.1
  have colN : ∀ r ∈ xs, ∀ j, a < j → (ls r l ((r a).fdiv (l a)) j).natAbs ≤ M + (l' a).natAbs / (l a).natAbs * M := by
    intro r hr j hj
    refine abs_ls (h.col r (inx r hr) j hj) (h.col l (pm.mem_iff.mp List.mem_cons_self) j hj) ?_
    rw [(same_fdiv (sd r hr)).1, Int.natAbs_natCast]
    exact Nat.div_le_div_right (all r (inx r hr)).2
  have k1 : (M + (l' a).natAbs / (l a).natAbs * M) * (l a).natAbs ≤ 2 * (M * (l' a).natAbs) := by
    rw [Nat.add_mul, Nat.mul_right_comm]
    have h1 : M * (l a).natAbs ≤ M * (l' a).natAbs := Nat.mul_le_mul_left _ (Nat.le_of_lt ll)
    have h2 : (l' a).natAbs / (l a).natAbs * (l a).natAbs * M ≤ (l' a).natAbs * M := Nat.mul_le_mul_right _ (Nat.div_mul_le_self _ _)
    rw [Nat.mul_comm (l' a).natAbs M] at h2
    omega
  have rst : ∀ r ∈ xs, (ls r l ((r a).fdiv (l a)) a).natAbs = (r a).natAbs % (l a).natAbs := fun r hr => (same_fdiv (sd r hr)).2.1
  have n1 : 1 ≤ os.length := List.length_pos_iff.mpr ho
  have s1 : 1 ≤ (s0 a).natAbs := Nat.le_trans l0 ls0
  refine ⟨M + (l' a).natAbs / (l a).natAbs * M, ⟨lz, ?_, ?_, ?_, ?_⟩, colN, Nat.le_add_right _ _⟩
  · intro r hr j hj
    rcases List.mem_cons.mp hr with rfl | hr
    · exact Nat.le_trans (h.col r (pm.mem_iff.mp List.mem_cons_self) j hj) (Nat.le_add_right _ _)
    · obtain ⟨hm, _⟩ := nzr_mem.mp hr
      obtain ⟨x, hx, rfl⟩ := List.mem_map.mp hm
      exact colN x hx j hj
  · intro r hr
    obtain ⟨hm, hz⟩ := nzr_mem.mp hr
    obtain ⟨x, hx, rfl⟩ := List.mem_map.mp hm
    refine ⟨?_, by rw [rst x hx]; exact Nat.mod_lt _ l0⟩
    have g := (same_fdiv (sd x hx)).2.2
    have g2 : ls x l ((x a).fdiv (l a)) a * l a ≠ 0 := fun z => (Int.mul_eq_zero.mp z).elim hz lz
    have g3 : 0 ≤ ls x l ((x a).fdiv (l a)) a * l a := g
    omega
  · refine Nat.le_trans ?_ hp
    refine Nat.le_trans (Nat.le_mul_of_pos_right _ l0) (Nat.le_trans k1 ?_)
    rw [Nat.mul_comm]
    refine Nat.mul_le_mul_left _ ?_
    have p2 : 2 ≤ 2 ^ os.length := by
      have := Nat.pow_le_pow_right (n := 2) (by omega) n1
      simpa using this
    have l1 : 1 ≤ (l' a).natAbs := by omega
    calc 2 ≤ 2 ^ os.length := p2
      _ ≤ 2 ^ os.length * (l' a).natAbs := Nat.le_mul_of_pos_right _ l1
      _ ≤ _ := Nat.le_mul_of_pos_right _ s1
  · intro hne
    have grow : ∀ (m r0 : Nat), 2 * (2 ^ m * ((l a).natAbs * r0)) ≤ 2 ^ os.length * ((s0 a).natAbs * (l' a).natAbs) → (M + (l' a).natAbs / (l a).natAbs * M) * (l a).natAbs * (2 ^ m * (l a).natAbs * r0) ≤ C := by
      intro m r0 hm
      refine Nat.le_trans (Nat.mul_le_mul_right _ k1) (Nat.le_trans ?_ hp)
      rw [Nat.mul_comm 2, Nat.mul_assoc (M * (l' a).natAbs) 2]
      refine Nat.mul_le_mul_left _ ?_
      rw [Nat.mul_assoc (2 ^ m), Nat.mul_assoc (2 ^ os.length), Nat.mul_comm (l' a).natAbs]
      exact hm
    by_cases hlt : (nzr a (xs.map fun r => ls r l ((r a).fdiv (l a)))).length < os.length
    · obtain ⟨r0, hr0⟩ := List.exists_mem_of_ne_nil _ hne
      refine ⟨r0, hr0, grow _ _ ?_⟩
      obtain ⟨hm, _⟩ := nzr_mem.mp hr0
      obtain ⟨x, hx, rfl⟩ := List.mem_map.mp hm
      have e1 : (ls x l ((x a).fdiv (l a)) a).natAbs ≤ (l' a).natAbs := by
        rw [rst x hx]
        have := Nat.mod_lt (x a).natAbs l0
        omega
      rw [← Nat.mul_assoc, ← Nat.pow_succ']
      exact Nat.mul_le_mul (Nat.pow_le_pow_right (by omega) hlt) (Nat.mul_le_mul ls0 e1)
    · have full : (nzr a (xs.map fun r => ls r l ((r a).fdiv (l a)))).length = os.length := by
        have h1 : (nzr a (xs.map fun r => ls r l ((r a).fdiv (l a)))).length ≤ (xs.map fun r => ls r l ((r a).fdiv (l a))).length := List.length_filter_le _ _
        rw [List.length_map] at h1
        omega
      have none0 : ∀ r ∈ (xs.map fun r => ls r l ((r a).fdiv (l a))), r a ≠ 0 := by
        have e : (nzr a (xs.map fun r => ls r l ((r a).fdiv (l a)))).length = (xs.map fun r => ls r l ((r a).fdiv (l a))).length := by
          rw [List.length_map]
          omega
        intro r hr
        have := List.length_filter_eq_length_iff.mp e r hr
        simpa using this
      have lin : ls l' l ((l' a).fdiv (l a)) ∈ (xs.map fun r => ls r l ((r a).fdiv (l a))) := List.mem_map.mpr ⟨l', l'x, rfl⟩
      refine ⟨ls l' l ((l' a).fdiv (l a)), nzr_mem.mpr ⟨lin, none0 _ lin⟩, grow _ _ ?_⟩
      rw [full, Nat.mul_left_comm]
      refine Nat.mul_le_mul_left _ ?_
      rw [Nat.mul_left_comm, rst l' l'x]
      exact Nat.mul_le_mul ls0 (half l0 (Nat.le_of_lt ll))
end Hm
namespace Hm
/-- the first round: rows of any sign -/
theorem pot_first {a B M : Nat} {l : Row} {xs : List Row} (lz : l a ≠ 0) (hB : ∀ r ∈ l :: xs, (r a).natAbs ≤ B) (hM : ∀ r ∈ l :: xs, ∀ j, a < j → (r j).natAbs ≤ M) :
    Pot a ((M + (B + 1) * M) * B * (2 ^ xs.length * B * B)) (M + (B + 1) * M) l (nzr a (xs.map fun r => ls r l ((r a).fdiv (l a)))) ∧ ∀ r ∈ xs, ∀ j, a < j → (ls r l ((r a).fdiv (l a)) j).natAbs ≤ M + (B + 1) * M := by
  have colN : ∀ r ∈ xs, ∀ j, a < j → (ls r l ((r a).fdiv (l a)) j).natAbs ≤ M + (B + 1) * M := by
    intro r hr j hj
    refine abs_ls (hM r (List.mem_cons_of_mem _ hr) j hj) (hM l List.mem_cons_self j hj) ?_
    have h1 := (rest_sign (x := r a) lz).2.2
    have h2 := hB r (List.mem_cons_of_mem _ hr)
    omega
  have b1 : 1 ≤ B := by
    have := hB l List.mem_cons_self
    omega
  refine ⟨⟨lz, ?_, ?_, ?_, ?_⟩, colN⟩
  · intro r hr j hj
    rcases List.mem_cons.mp hr with rfl | hr
    · exact Nat.le_trans (hM r List.mem_cons_self j hj) (Nat.le_add_right _ _)
    · obtain ⟨hm, _⟩ := nzr_mem.mp hr
      obtain ⟨x, hx, rfl⟩ := List.mem_map.mp hm
      exact colN x hx j hj
  · intro r hr
    obtain ⟨hm, hz⟩ := nzr_mem.mp hr
    obtain ⟨x, hx, rfl⟩ := List.mem_map.mp hm
    obtain ⟨g, g1, _⟩ := rest_sign (x := x a) lz
    refine ⟨?_, g1⟩
    have g2 : ls x l ((x a).fdiv (l a)) a * l a ≠ 0 := fun z => (Int.mul_eq_zero.mp z).elim hz lz
    have g3 : 0 ≤ ls x l ((x a).fdiv (l a)) a * l a := g
    omega
  · have p : 0 < 2 ^ xs.length * B * B := Nat.mul_pos (Nat.mul_pos (Nat.pow_pos (by omega)) b1) b1
    exact Nat.le_trans (Nat.le_mul_of_pos_right _ b1) (Nat.le_mul_of_pos_right _ p)
  · intro hne
    obtain ⟨r0, hr0⟩ := List.exists_mem_of_ne_nil _ hne
    refine ⟨r0, hr0, ?_⟩
    obtain ⟨hm, _⟩ := nzr_mem.mp hr0
    obtain ⟨x, hx, rfl⟩ := List.mem_map.mp hm
    have e0 : (l a).natAbs ≤ B := hB l List.mem_cons_self
    have e1 : (ls x l ((x a).fdiv (l a)) a).natAbs ≤ B := by
      have := (rest_sign (x := x a) lz).2.1
      show (x a - (x a).fdiv (l a) * l a).natAbs ≤ B
      omega
    have e2 : (nzr a (xs.map fun r => ls r l ((r a).fdiv (l a)))).length ≤ xs.length := by
      have h1 : (nzr a (xs.map fun r => ls r l ((r a).fdiv (l a)))).length ≤ (xs.map fun r => ls r l ((r a).fdiv (l a))).length := List.length_filter_le _ _
      rw [List.length_map] at h1
      exact h1
    exact Nat.mul_le_mul (Nat.mul_le_mul_left _ e0) (Nat.mul_le_mul (Nat.mul_le_mul (Nat.pow_le_pow_right (by omega) e2) e0) e1)
/-! the law's way: one row is reduced by the one that is kept -/
/-- what stands crosswise in two rows -/
def crs (a j : Nat) (h r : Row) : Nat := (h j).natAbs * (r a).natAbs + (r j).natAbs * (h a).natAbs
theorem crs_swap (a j : Nat) (h r : Row) : crs a j h r = crs a j r h := Nat.add_comm _ _
/-- the multiple that is taken away: the row's number by the kept one's without its sign, with the kept one's sign -/
def tms (x h : Int) : Int := if 0 < h then x.fdiv (max 1 (h.natAbs : Int)) else -(x.fdiv (max 1 (h.natAbs : Int)))
theorem tms_abs {x h : Int} (hh : h ≠ 0) : (tms x h).natAbs = (x.fdiv (h.natAbs : Int)).natAbs ∧ x - tms x h * h = x - x.fdiv (h.natAbs : Int) * (h.natAbs : Int) := by
  have e : max 1 (h.natAbs : Int) = (h.natAbs : Int) := by omega
  unfold tms
  rw [e]
  by_cases hp : 0 < h
  · rw [if_pos hp]
    have e2 : (h.natAbs : Int) = h := by omega
    rw [e2]
    exact ⟨rfl, rfl⟩
  · rw [if_neg hp, Int.natAbs_neg]
    refine ⟨rfl, ?_⟩
    have e2 : (h.natAbs : Int) = -h := by omega
    rw [e2, Int.mul_neg, Int.neg_mul]
/-- a step at a row that leads with a positive number: what stands crosswise does not grow -/
theorem crs_pos {a j : Nat} {h r : Row} (hh : h a ≠ 0) (hr : 0 ≤ r a) : crs a j h (ls r h (tms (r a) (h a))) ≤ crs a j h r ∧ 0 ≤ ls r h (tms (r a) (h a)) a ∧ (ls r h (tms (r a) (h a)) a).natAbs < (h a).natAbs := by
  obtain ⟨t1, t2⟩ := tms_abs (x := r a) hh
  have h0 : 0 < (h a).natAbs := by omega
  obtain ⟨x, hx⟩ : ∃ x : Nat, r a = (x : Int) := ⟨(r a).natAbs, by omega⟩
  have fd : (r a).fdiv ((h a).natAbs : Int) = ((x / (h a).natAbs : Nat) : Int) := by
    rw [hx, Int.fdiv_eq_ediv_of_nonneg _ (by omega)]
    rfl
  have la : ls r h (tms (r a) (h a)) a = ((x % (h a).natAbs : Nat) : Int) := by
    show r a - tms (r a) (h a) * h a = _
    rw [t2, fd, hx]
    have e := Nat.div_add_mod x (h a).natAbs
    have e2 : (((h a).natAbs * (x / (h a).natAbs) + x % (h a).natAbs : Nat) : Int) = (x : Int) := by rw [e]
    rw [Int.natCast_add, Int.natCast_mul, Int.mul_comm] at e2
    omega
  refine ⟨?_, by rw [la]; exact Int.natCast_nonneg _, by rw [la, Int.natAbs_natCast]; exact Nat.mod_lt _ h0⟩
  unfold crs
  rw [la, Int.natAbs_natCast]
  have e3 : (ls r h (tms (r a) (h a)) j).natAbs ≤ (r j).natAbs + x / (h a).natAbs * (h j).natAbs := by
    show (r j - tms (r a) (h a) * h j).natAbs ≤ _
    have : (tms (r a) (h a) * h j).natAbs = x / (h a).natAbs * (h j).natAbs := by rw [Int.natAbs_mul, t1, fd, Int.natAbs_natCast]
    omega
  have e4 : (r a).natAbs = (h a).natAbs * (x / (h a).natAbs) + x % (h a).natAbs := by
    rw [hx, Int.natAbs_natCast]
    exact (Nat.div_add_mod _ _).symm
  rw [e4, Nat.mul_add]
  have e5 : (ls r h (tms (r a) (h a)) j).natAbs * (h a).natAbs ≤ ((r j).natAbs + x / (h a).natAbs * (h j).natAbs) * (h a).natAbs := Nat.mul_le_mul_right _ e3
  have e6 : ((r j).natAbs + x / (h a).natAbs * (h j).natAbs) * (h a).natAbs = (r j).natAbs * (h a).natAbs + (h j).natAbs * ((h a).natAbs * (x / (h a).natAbs)) := by
    rw [Nat.add_mul]
    congr 1
    rw [Nat.mul_comm (x / (h a).natAbs), Nat.mul_assoc, Nat.mul_comm (x / (h a).natAbs)]
  omega
end Hm
namespace Hm
/-- a step at a row that leads with a negative number: at most threefold, and it leads with a positive one (or zero) then -/
theorem crs_neg {a j : Nat} {h r : Row} (hh : h a ≠ 0) (hle : (h a).natAbs ≤ (r a).natAbs) (hr : r a < 0) : crs a j h (ls r h (tms (r a) (h a))) ≤ 3 * crs a j h r ∧ 0 ≤ ls r h (tms (r a) (h a)) a ∧ (ls r h (tms (r a) (h a)) a).natAbs < (h a).natAbs := by
  obtain ⟨t1, t2⟩ := tms_abs (x := r a) hh
  have hb : ((h a).natAbs : Int) ≠ 0 := by omega
  obtain ⟨g1, g2, _⟩ := rest_sign (x := r a) hb
  rw [Int.natAbs_natCast] at g2
  have la : ls r h (tms (r a) (h a)) a = r a - (r a).fdiv ((h a).natAbs : Int) * ((h a).natAbs : Int) := t2
  have nn : 0 ≤ r a - (r a).fdiv ((h a).natAbs : Int) * ((h a).natAbs : Int) := by
    apply Int.not_lt.mp
    intro z
    have := Int.mul_neg_of_neg_of_pos z (show (0 : Int) < ((h a).natAbs : Int) by omega)
    omega
  have qa : (tms (r a) (h a)).natAbs * (h a).natAbs ≤ (r a).natAbs + (h a).natAbs := by
    rw [t1]
    have e : ((r a).fdiv ((h a).natAbs : Int) * ((h a).natAbs : Int)).natAbs = ((r a).fdiv ((h a).natAbs : Int)).natAbs * (h a).natAbs := by rw [Int.natAbs_mul, Int.natAbs_natCast]
    rw [← e]
    omega
  refine ⟨?_, by rw [la]; exact nn, by rw [la]; exact g2⟩
  unfold crs
  have e1 : (ls r h (tms (r a) (h a)) a).natAbs ≤ (r a).natAbs := by rw [la]; omega
  have e3 : (ls r h (tms (r a) (h a)) j).natAbs ≤ (r j).natAbs + (tms (r a) (h a)).natAbs * (h j).natAbs := by
    show (r j - tms (r a) (h a) * h j).natAbs ≤ _
    have : (tms (r a) (h a) * h j).natAbs = (tms (r a) (h a)).natAbs * (h j).natAbs := Int.natAbs_mul _ _
    omega
  have e5 : (ls r h (tms (r a) (h a)) j).natAbs * (h a).natAbs ≤ (r j).natAbs * (h a).natAbs + (tms (r a) (h a)).natAbs * (h a).natAbs * (h j).natAbs := by
    have z := Nat.mul_le_mul_right (h a).natAbs e3
    rw [Nat.add_mul, Nat.mul_right_comm] at z
    exact z
  have e6 : (tms (r a) (h a)).natAbs * (h a).natAbs * (h j).natAbs ≤ ((r a).natAbs + (r a).natAbs) * (h j).natAbs := Nat.mul_le_mul_right _ (Nat.le_trans qa (Nat.add_le_add_left hle _))
  have e7 : (h j).natAbs * (ls r h (tms (r a) (h a)) a).natAbs ≤ (h j).natAbs * (r a).natAbs := Nat.mul_le_mul_left _ e1
  rw [Nat.add_mul, Nat.mul_comm (r a).natAbs] at e6
  omega
/-- how many of two numbers are negative -/
def ngs (x y : Int) : Nat := (if x < 0 then 1 else 0) + (if y < 0 then 1 else 0)
/-- the chain of two rows in a column -/
structure Chn (a D : Nat) (h r : Row) : Prop where
  hz : h a ≠ 0
  rz : r a ≠ 0
  cr : ∀ j, a < j → crs a j h r * 3 ^ ngs (h a) (r a) ≤ D
theorem Chn.swap {a D : Nat} {h r : Row} (c : Chn a D h r) : Chn a D r h := ⟨c.rz, c.hz, fun j hj => by
  have z := c.cr j hj
  rw [crs_swap, show ngs (h a) (r a) = ngs (r a) (h a) from Nat.add_comm _ _] at z
  exact z⟩
/-- what a chain's rows hold -/
theorem Chn.le {a D : Nat} {h r : Row} (c : Chn a D h r) {j : Nat} (hj : a < j) : (h j).natAbs ≤ D ∧ (r j).natAbs ≤ D := by
  have z := Nat.le_trans (Nat.le_mul_of_pos_right _ (Nat.pow_pos (n := ngs (h a) (r a)) (show 0 < 3 by omega))) (c.cr j hj)
  have h1 : 0 < (h a).natAbs := by have := c.hz; omega
  have r1 : 0 < (r a).natAbs := by have := c.rz; omega
  unfold crs at z
  have e1 : (h j).natAbs ≤ (h j).natAbs * (r a).natAbs := Nat.le_mul_of_pos_right _ r1
  have e2 : (r j).natAbs ≤ (r j).natAbs * (h a).natAbs := Nat.le_mul_of_pos_right _ h1
  omega
/-- a step of a chain: it goes on, or the row leaves the column -/
theorem Chn.step {a D : Nat} {h r : Row} (c : Chn a D h r) (hle : (h a).natAbs ≤ (r a).natAbs) :
    (∀ j, a < j → (ls r h (tms (r a) (h a)) j).natAbs ≤ D) ∧ (ls r h (tms (r a) (h a)) a).natAbs < (h a).natAbs ∧ (ls r h (tms (r a) (h a)) a ≠ 0 → Chn a D h (ls r h (tms (r a) (h a)))) := by
  have h1 : 0 < (h a).natAbs := by have := c.hz; omega
  have key : ∀ j, a < j → crs a j h (ls r h (tms (r a) (h a))) * 3 ^ ngs (h a) (ls r h (tms (r a) (h a)) a) ≤ D := by
    intro j hj
    refine Nat.le_trans ?_ (c.cr j hj)
    by_cases hr : r a < 0
    · obtain ⟨k1, k2, _⟩ := crs_neg (j := j) c.hz hle hr
      have e1 : ngs (h a) (r a) = (if h a < 0 then 1 else 0) + 1 := by unfold ngs; rw [if_pos hr]
      have n0 : ¬ (ls r h (tms (r a) (h a)) a < 0) := Int.not_lt.mpr k2
      have e2 : ngs (h a) (ls r h (tms (r a) (h a)) a) = (if h a < 0 then 1 else 0) := by unfold ngs; rw [if_neg n0, Nat.add_zero]
      rw [e1, e2, Nat.pow_succ, ← Nat.mul_assoc, Nat.mul_right_comm]
      refine Nat.mul_le_mul_right _ ?_
      omega
    · obtain ⟨k1, k2, _⟩ := crs_pos (j := j) c.hz (by omega : 0 ≤ r a)
      have n0 : ¬ (ls r h (tms (r a) (h a)) a < 0) := Int.not_lt.mpr k2
      have e2 : ngs (h a) (ls r h (tms (r a) (h a)) a) = ngs (h a) (r a) := by unfold ngs; rw [if_neg n0, if_neg hr]
      rw [e2]
      exact Nat.mul_le_mul_right _ k1
  have sm : (ls r h (tms (r a) (h a)) a).natAbs < (h a).natAbs := by
    by_cases hr : r a < 0
    · exact (crs_neg (j := a) c.hz hle hr).2.2
    · exact (crs_pos (j := a) c.hz (by omega)).2.2
  refine ⟨fun j hj => ?_, sm, fun hz => ⟨c.hz, hz, key⟩⟩
  have z := Nat.le_trans (Nat.le_mul_of_pos_right _ (Nat.pow_pos (n := ngs (h a) (ls r h (tms (r a) (h a)) a)) (show 0 < 3 by omega))) (key j hj)
  unfold crs at z
  have e2 : (ls r h (tms (r a) (h a)) j).natAbs ≤ (ls r h (tms (r a) (h a)) j).natAbs * (h a).natAbs := Nat.le_mul_of_pos_right _ h1
  omega
/-- a chain's beginning -/
theorem chn_start {a B M : Nat} {h r : Row} (hz : h a ≠ 0) (rz : r a ≠ 0) (h1 : (h a).natAbs ≤ B) (r1 : (r a).natAbs ≤ B) (hM : ∀ j, a < j → (h j).natAbs ≤ M ∧ (r j).natAbs ≤ M) : Chn a (18 * (B * M)) h r := by
  refine ⟨hz, rz, fun j hj => ?_⟩
  obtain ⟨m1, m2⟩ := hM j hj
  have c1 : crs a j h r ≤ 2 * (B * M) := by
    unfold crs
    have e1 : (h j).natAbs * (r a).natAbs ≤ M * B := Nat.mul_le_mul m1 r1
    have e2 : (r j).natAbs * (h a).natAbs ≤ M * B := Nat.mul_le_mul m2 h1
    rw [Nat.mul_comm M B] at e1 e2
    omega
  have c2 : 3 ^ ngs (h a) (r a) ≤ 9 := by
    have : ngs (h a) (r a) ≤ 2 := by
      unfold ngs
      split <;> split <;> omega
    exact Nat.le_trans (Nat.pow_le_pow_right (by omega) this) (by decide)
  have z := Nat.mul_le_mul c1 c2
  omega
end Hm
set_option maxRecDepth 100000
set_option maxHeartbeats 2000000
namespace KT
open PySem PySem.Spec PyProof.Rows L2
def top (i : Nat) : Stmt := PySem.Challenge.pw_roundswap_k15_texts_of_towns.main.body.getD i (.Pass ⟨0, 0, 0, 0⟩)
abbrev sNormal : Stmt := top 45
abbrev sSwept : Stmt := top 46
abbrev sPositive : Stmt := top 47
abbrev sLess : Stmt := top 48
abbrev sLead : Stmt := top 50
abbrev sDiag : Stmt := top 51
abbrev sIndex : Stmt := top 52
theorem scLess : FnScope ["row", "other", "times", "number", "taken"] ["row", "other", "times"] (defScope sLess) := ⟨rfl, rfl, rfl, by decide +kernel, rfl, by decide +kernel, by decide +kernel⟩
theorem scPositive : FnScope ["row", "at", "number"] ["row", "at"] (defScope sPositive) := ⟨rfl, rfl, rfl, by decide +kernel, rfl, by decide +kernel, by decide +kernel⟩
theorem same_new {H : Hp} {p : Addr} {o : HO} (h : H p = none) : Same H (upd H p o) := fun b u e => by
  rw [upd_ne (ne_of_none e h)]
  exact e
structure Bn (mg : Str → Option Value) : Prop where
  tuple : mg "tuple" = none
  zip : mg "zip" = none
  abs : mg "abs" = none
  sorted : mg "sorted" = none
  range : mg "range" = none
  len : mg "len" = none
  list : mg "list" = none
/-- a row: a tuple of ints -/
def RowAt (K : PySem.W.Frag) (H : Hp) (a : Addr) (r : List Int) : Prop := SqT K H a (r.map V.int)
def spLess (K : PySem.W.Frag) : Sp := fun vs H Q _ => ∃ (a b : Addr) (r o : List Int) (t : Int), vs = [.ref a, .ref b, .int t] ∧ RowAt K H a r ∧ RowAt K H b o ∧ r.length = o.length ∧ r.length ≤ 3 ∧ (∀ y ∈ o, CMulW t y) ∧
  ∀ H' p, Same H H' → H p = none → H' p = some (.tup ((Hm.lsl r o t).map V.int)) → Q (.ref p) H'
section
variable {P : Program} {w : World} {K : PySem.W.Frag} {mg : Str → Option Value} {base : Heap}
theorem ok_less {f : Addr} {fd : FuncData} {k : Nat} (F : Fun K "less" "less" sLess f fd) (B : Bn mg) : FnOk P w K mg base CX0 (k + 1) f fd ["row", "other", "times"] (spLess K) := by
  refine F.ok scLess (fun vs H Q E h => ?_) (fun cdv A outer s H vs Q E hr h => ?_)
  · obtain ⟨a, b, r, o, t, rfl, _⟩ := h
    rfl
  · obtain ⟨a, b, r, o, t, rfl, ha, hb, hl, h3, hm, q⟩ := h
    refine ⟨_, pss_one (ps_ret (pe_callTy call_tuple_of (by rfl) B.tuple boot_tuple (pa_cons (pe_lc (own := [("number", 3), ("taken", 4)]) (g := gTup K 2 (gCons (gName 3) (gCons (gName 4) gNil))) (tt := tYes) rfl scLess.nd (RZ.pi_zipA (by rfl) B.zip (pa_cons (pv 0) (pa_cons (pv 1) pa_nil)))
      (blkOk_by (N := ["row", "other", "times", "number", "taken"]) (sc := defScope sLess) (by decide +kernel)) (fun _ _ _ _ _ => pg_tup rfl (pgs_cons (pg_name (i := 3) scLess.nd rfl (Or.inl rfl)) (pgs_cons (pg_name (i := 4) scLess.nd rfl (Or.inl rfl)) pgs_nil))) (fun _ _ _ _ _ => pts_nil)
      (fun _ _ _ _ _ => pe_op op_sub (pv 3) (pe_op op_mulW (pv 2) (pv 4)))) pa_nil))), ?_⟩
    refine ⟨_, rfl, _, rfl, a, b, _, _, rfl, .inr ⟨ha, hb, fun D nD => ?_⟩⟩
    refine Rs.lc_zipT (σ := [some (.ref a), some (.ref b), some (.int t), none, none]) (i := 3) (j := 4) (by rw [List.length_map, List.length_map, hl]) (fun x y => match x, y with | .int x, .int y => .int (x - t * y) | x, _ => x) (by rw [List.length_map]; exact Nat.lt_of_le_of_lt h3 (by decide)) nD ha hb ?_ ?_
    · intro n x y H2 Q2 hx hy _ h
      rw [List.getElem?_map] at hx hy
      obtain ⟨x0, hx0, rfl⟩ := Option.map_eq_some_iff.mp hx
      obtain ⟨y0, hy0, rfl⟩ := Option.map_eq_some_iff.mp hy
      exact ⟨_, rfl, _, rfl, _, rfl, _, _, rfl, rfl, hm y0 (List.mem_of_getElem? hy0), _, _, rfl, rfl, h H2 (fun _ _ e => e)⟩
    · intro H2 s2 hD
      have s2 : Same H H2 := s2
      refine ⟨D, _, rfl, .inl ⟨SqL.of hD, fun p2 np2 => ?_⟩⟩
      have e : ∀ r o : List Int, List.zipWith (fun x y => match x, y with | V.int x, V.int y => V.int (x - t * y) | x, _ => x) (r.map V.int) (o.map V.int) = (Hm.lsl r o t).map V.int := by
        intro r
        induction r with
        | nil => intro o; rfl
        | cons x r ih =>
          intro o
          cases o with
          | nil => rfl
          | cons y o =>
            show V.int (x - t * y) :: _ = V.int (x - t * y) :: _
            congr 1
            exact ih o
      rw [e]
      refine q _ p2 (s2.trans (same_new np2)) ?_ upd_same
      cases hp : H p2 with
      | none => rfl
      | some u =>
        rw [s2 _ _ hp] at np2
        cases np2
end
end KT
set_option maxRecDepth 100000
set_option maxHeartbeats 2000000
namespace KT
open PySem PySem.Spec PyProof.Rows L2
theorem take_more {α : Type} {l : List α} {i : Nat} {x : α} (h : l[i]? = some x) : l.take (i + 1) = l.take i ++ [x] := by
  rw [List.take_add_one, h]
  rfl
theorem lc_pure {J : It} {G : Hp → Prop} {xs : List V} (w : Walk J xs.length G (YAt xs)) {tt : TT} {te : TE} {σ : L2.St} {i : Nat} {H1 : Hp} {D : Addr} {Qd : Hp → Prop} (f : V → V) (keep : V → Bool) (hlen : xs.length < sizeLine) (hD : H1 D = none)
    (hG : ∀ H2, Same H1 H2 → G H2)
    (ht : ∀ x H2 Q, x ∈ xs → Same H1 H2 → Q (keep x) H2 → tt ((σ.set i none).set i (some x)) H2 Q)
    (he : ∀ x H2 Q, x ∈ xs → keep x = true → Same H1 H2 → (∀ H3, Same H2 H3 → Q (f x) H3) → te ((σ.set i none).set i (some x)) H2 Q)
    (hd : ∀ H2, Same H1 H2 → H2 D = some (.lst ((xs.filter keep).map f)) → Qd H2) :
    ∃ W : Nat → Nat → Hp → Prop, (∃ m, W 0 m (upd H1 D (.lst []))) ∧ ∀ j m H, W j m H →
      (J.stop j H ∧ Qd H) ∨ (J.go j H ∧ ∃ Nx : Hp → Prop, (∀ H', Nx H' → ∃ m', m' < m ∧ W (j + 1) m' H') ∧ ∀ x H', J.yld j H x H' → gName i x (wipe σ [i]) H' fun σ2 H2 => wipe σ2 [i] = wipe σ [i] ∧ tt σ2 H2 fun b H3 =>
        if b = true then te σ2 H3 fun v H4 => ∃ ac, H4 D = some (.lst ac) ∧ ac.length < sizeLine ∧ Nx (upd H4 D (.lst (ac ++ [v]))) else Nx H3) := by
  refine lc_it w (fun j H2 => Same H1 H2 ∧ H2 D = some (.lst (((xs.take j).filter keep).map f))) ⟨same_new hD, upd_same⟩ (fun j H2 _ h => hG H2 h.1) ?_ (fun H2 h => hd H2 h.1 (by have z := h.2; rw [List.take_length] at z; exact z))
  rintro j x H2 H2' hj ⟨sm, hd2⟩ ⟨rfl, hx⟩
  have hm : x ∈ xs := List.mem_of_getElem? hx
  refine ⟨?_, ?_⟩
  · show (((σ.set i none).set i (some x)).set i none) = σ.set i none
    rw [List.set_set, List.set_set]
  · refine ht x _ _ hm sm ?_
    have tk := take_more hx
    cases hk : keep x with
    | true =>
      refine iteT (he x _ _ hm hk sm fun H3 s3 => ⟨_, s3 _ _ hd2, ?_, ?_, ?_⟩)
      · rw [List.length_map]
        exact Nat.lt_of_le_of_lt (Nat.le_trans (List.length_filter_le _ _) (by rw [List.length_take]; omega)) hlen
      · intro b o e
        rw [upd_ne (ne_of_none e hD)]
        exact s3 _ _ (sm _ _ e)
      · rw [upd_same, tk, List.filter_append, List.map_append]
        simp [hk]
    | false =>
      refine iteF ⟨sm, ?_⟩
      rw [hd2, tk, List.filter_append]
      simp [hk]
/-- a row with its number at n positive -/
def sgl (r : List Int) (n : Nat) : List Int := if 0 < r.getD n 0 then r else r.map fun x => -x
theorem fn_sgl (r : List Int) (n : Nat) : Hm.fn (sgl r n) = Hm.sgd (Hm.fn r) n := by
  unfold sgl Hm.sgd
  have e : Hm.fn r n = r.getD n 0 := rfl
  rw [e]
  split
  · rfl
  · funext j
    show (r.map fun x => -x).getD j 0 = -1 * r.getD j 0
    rw [List.getD_eq_getElem?_getD, List.getD_eq_getElem?_getD, List.getElem?_map]
    cases r[j]? with
    | none => rfl
    | some x =>
      show -x = -1 * x
      omega
theorem sgl_len (r : List Int) (n : Nat) : (sgl r n).length = r.length := by
  unfold sgl
  split
  · rfl
  · rw [List.length_map]
theorem row_at {r : List Int} {n : Nat} (h : n < r.length) : atI (r.map V.int) (n : Int) = some (.int (r.getD n 0)) := by
  refine atI_nat ?_
  rw [List.getElem?_map, List.getElem?_eq_getElem h, List.getD_eq_getElem?_getD, List.getElem?_eq_getElem h]
  rfl
def spPos (K : PySem.W.Frag) : Sp := fun vs H Q _ => ∃ (a : Addr) (r : List Int) (n : Nat), vs = [.ref a, .int (n : Nat)] ∧ RowAt K H a r ∧ n < r.length ∧ r.length ≤ 3 ∧ ∀ H' p, Same H H' → RowAt K H' p (sgl r n) → Q (.ref p) H'
section
variable {P : Program} {w : World} {K : PySem.W.Frag} {mg : Str → Option Value} {base : Heap}
theorem ok_pos {f : Addr} {fd : FuncData} {k : Nat} (F : Fun K "with_positive" "with_positive" sPositive f fd) (B : Bn mg) : FnOk P w K mg base CX0 (k + 1) f fd ["row", "at"] (spPos K) := by
  refine F.ok scPositive (fun vs H Q E h => ?_) (fun cdv A outer s H vs Q E hr h => ?_)
  · obtain ⟨a, r, n, rfl, _⟩ := h
    rfl
  · obtain ⟨a, r, n, rfl, ha, hn, h3, q⟩ := h
    refine ⟨_, pss_cons (ps_if (pt_cmpR op_gt (pe_ix ix_tup (pv 0) (pv 1) (fun _ _ => rfl)) pe_int (nomark _)) (pss_one (ps_ret (pv 0))) pss_nil)
      (pss_one (ps_ret (pe_callTy call_tuple_of (by rfl) B.tuple boot_tuple (pa_cons (pe_lc (own := [("number", 2)]) (g := gName 2) (tt := tYes) rfl scPositive.nd (pi_tup (pv 0))
        (blkOk_by (N := ["row", "at", "number"]) (sc := defScope sPositive) (by decide +kernel)) (fun _ _ _ _ _ => pg_name (i := 2) scPositive.nd rfl (Or.inl rfl)) (fun _ _ _ _ _ => pts_nil)
        (fun _ _ _ _ _ => pe_un un_neg (pv 2))) pa_nil)))), ?_⟩
    refine ⟨_, rfl, _, rfl, a, _, (n : Int), _, rfl, rfl, ha, row_at hn, _, _, rfl, rfl, _, rfl, ?_⟩
    by_cases hp : 0 < r.getD n 0
    · rw [decide_eq_true hp]
      refine iteT ⟨_, rfl, ?_⟩
      refine q H a (Same.refl _) ?_
      unfold sgl
      rw [if_pos hp]
      exact ha
    · rw [decide_eq_false hp]
      refine iteF ?_
      refine ⟨_, rfl, a, rfl, ⟨_, ha⟩, fun D nD => ?_⟩
      refine lc_pure walk_tup (σ := [some (.ref a), some (.int (n : Nat)), none]) (i := 2) (fun v => match v with | .int x => .int (-x) | v => v) (fun _ => true) (by rw [List.length_map]; exact Nat.lt_of_le_of_lt h3 (by decide)) nD (fun H2 s2 => Rs.sqT_ext s2 ha) (fun x H2 Q _ _ h => h) ?_ ?_
      · intro x H2 Q2 hx _ _ h
        obtain ⟨c, hc, rfl⟩ := List.mem_map.mp hx
        exact ⟨_, rfl, _, rfl, h H2 (Same.refl _)⟩
      · intro H2 s2 hD
        refine ⟨D, _, rfl, .inl ⟨SqL.of hD, fun p2 np2 => ?_⟩⟩
        refine q _ p2 (s2.trans (same_new np2)) (SqT.of ?_)
        rw [upd_same, List.filter_eq_self.mpr (by simp), List.map_map]
        unfold sgl
        rw [if_neg hp, List.map_map]
        rfl
end
end KT
set_option maxRecDepth 100000
set_option maxHeartbeats 2000000
namespace KT
open PySem PySem.Spec PyProof.Rows L2
theorem scLead : FnScope ["row", "number"] ["row"] (defScope sLead) := ⟨rfl, rfl, rfl, by decide +kernel, rfl, by decide +kernel, by decide +kernel⟩
/-- a row begins at n -/
def BegL (r : List Int) (n : Nat) : Prop := n < r.length ∧ r.getD n 0 ≠ 0 ∧ ∀ m, m < n → r.getD m 0 = 0
def spLead (K : PySem.W.Frag) : Sp := fun vs H Q _ => ∃ (a : Addr) (r : List Int) (n : Nat), vs = [.ref a] ∧ RowAt K H a r ∧ BegL r n ∧ r.length ≤ 3 ∧ ∀ H', Same H H' → Q (.int (n : Nat)) H'
section
variable {P : Program} {w : World} {K : PySem.W.Frag} {mg : Str → Option Value} {base : Heap}
theorem ok_lead {f : Addr} {fd : FuncData} {k : Nat} (F : Fun K "lead_at" "lead_at" sLead f fd) : FnOk P w K mg base CX0 (k + 1) f fd ["row"] (spLead K) := by
  refine F.ok scLead (fun vs H Q E h => ?_) (fun cdv A outer s H vs Q E hr h => ?_)
  · obtain ⟨a, r, n, rfl, _⟩ := h
    rfl
  · obtain ⟨a, r, n, rfl, ha, hn, h3, q⟩ := h
    refine ⟨_, pss_one (ps_ret (pe_bm PySem.F.plainAttrs_list PySem.F.slot_list_index PySem.F.type_list_index mt_index (pe_lc (own := [("number", 1)]) (g := gName 1) (tt := tYes) rfl scLead.nd (pi_tup (pv 0))
        (blkOk_by (N := ["row", "number"]) (sc := defScope sLead) (by decide +kernel)) (fun _ _ _ _ _ => pg_name (i := 1) scLead.nd rfl (Or.inl rfl)) (fun _ _ _ _ _ => pts_nil)
        (fun _ _ _ _ _ => pe_cmpR op_ne (pv 1) pe_int (nomark _))) (pa_cons pe_bl pa_nil))), ?_⟩
    refine ⟨_, rfl, a, rfl, ⟨_, ha⟩, fun D nD => ?_⟩
    refine lc_pure walk_tup (σ := [some (.ref a), none]) (i := 1) (fun v => match v with | .int x => .bl (!decide (V.int x = V.int 0)) | v => v) (fun _ => true) (by rw [List.length_map]; exact Nat.lt_of_le_of_lt h3 (by decide)) nD (fun H2 s2 => Rs.sqT_ext s2 ha) (fun x H2 Q _ _ h => h) ?_ ?_
    · intro x H2 Q2 hx _ _ h
      obtain ⟨c, hc, rfl⟩ := List.mem_map.mp hx
      exact ⟨_, rfl, rfl, h H2 (Same.refl _)⟩
    · intro H2 s2 hD
      rw [List.filter_eq_self.mpr (by simp), List.map_map] at hD
      obtain ⟨n1, n2, n3⟩ := hn
      have at_ : ∀ m, m < r.length → (r.map ((fun v => match v with | V.int x => V.bl (!decide (V.int x = V.int 0)) | v => v) ∘ V.int))[m]? = some (V.bl (!decide (V.int (r.getD m 0) = V.int 0))) := by
        intro m hm
        rw [List.getElem?_map, List.getD_eq_getElem?_getD, List.getElem?_eq_getElem hm]
        rfl
      refine ⟨.inl ⟨rfl, _, SqL.of hD⟩, D, _, .bl true, n, _, rfl, rfl, SqL.of hD, rfl, ?_, at_ n n1, ?_, ?_, q H2 s2⟩
      · rw [List.all_eq_true]
        intro x hx
        obtain ⟨c, _, rfl⟩ := List.mem_map.mp hx
        rfl
      · have e : decide (V.int (r.getD n 0) = V.int 0) = false := decide_eq_false fun z => n2 (V.int.inj z)
        rw [e]
        rfl
      · intro m z hm hz
        rw [at_ m (by omega), n3 m hm] at hz
        obtain rfl := Option.some.inj hz
        rfl
end
end KT
set_option maxRecDepth 100000
set_option maxHeartbeats 2000000
namespace KT
open PySem PySem.Spec PyProof.Rows L2
/-- a comprehension whose items are told by their places -/
theorem lc_idx {J : It} {G : Hp → Prop} {xs : List V} (w : Walk J xs.length G (YAt xs)) {te : TE} {σ : L2.St} {i : Nat} {H1 : Hp} {D : Addr} {Qd : Hp → Prop} (ys : List V) (hy : ys.length = xs.length) (hlen : xs.length < sizeLine) (hD : H1 D = none)
    (hG : ∀ H2, Same H1 H2 → G H2)
    (he : ∀ (j : Nat) (x y : V) (H2 : Hp) (Q : VK), xs[j]? = some x → ys[j]? = some y → Same H1 H2 → (∀ H3, Same H2 H3 → Q y H3) → te ((σ.set i none).set i (some x)) H2 Q)
    (hd : ∀ H2, Same H1 H2 → H2 D = some (.lst ys) → Qd H2) :
    ∃ W : Nat → Nat → Hp → Prop, (∃ m, W 0 m (upd H1 D (.lst []))) ∧ ∀ j m H, W j m H →
      (J.stop j H ∧ Qd H) ∨ (J.go j H ∧ ∃ Nx : Hp → Prop, (∀ H', Nx H' → ∃ m', m' < m ∧ W (j + 1) m' H') ∧ ∀ x H', J.yld j H x H' → gName i x (wipe σ [i]) H' fun σ2 H2 => wipe σ2 [i] = wipe σ [i] ∧ tYes σ2 H2 fun b H3 =>
        if b = true then te σ2 H3 fun v H4 => ∃ ac, H4 D = some (.lst ac) ∧ ac.length < sizeLine ∧ Nx (upd H4 D (.lst (ac ++ [v]))) else Nx H3) := by
  refine lc_it w (fun j H2 => Same H1 H2 ∧ H2 D = some (.lst (ys.take j))) ⟨same_new hD, upd_same⟩ (fun j H2 _ h => hG H2 h.1) ?_ (fun H2 h => hd H2 h.1 (by have z := h.2; rw [← hy, List.take_length] at z; exact z))
  rintro j x H2 H2' hj ⟨sm, hd2⟩ ⟨rfl, hx⟩
  have hjy : j < ys.length := by omega
  have hyj : ys[j]? = some ys[j] := List.getElem?_eq_getElem hjy
  refine ⟨?_, ?_⟩
  · show (((σ.set i none).set i (some x)).set i none) = σ.set i none
    rw [List.set_set, List.set_set]
  · dsimp only [tYes]
    rw [if_pos rfl]
    refine he j x _ _ _ hx hyj sm fun H3 s3 => ⟨_, s3 _ _ hd2, ?_, ?_, ?_⟩
    · rw [List.length_take]
      omega
    · intro b o e
      rw [upd_ne (ne_of_none e hD)]
      exact s3 _ _ (sm _ _ e)
    · rw [upd_same, take_more hyj]
theorem scDiag : FnScope ["rows", "row"] ["rows"] (defScope sDiag) := ⟨rfl, rfl, rfl, by decide +kernel, rfl, by decide +kernel, by decide +kernel⟩
/-- rows in a list, each with the column where it begins -/
structure RowsAt (K : PySem.W.Frag) (H : Hp) (l : Addr) (rs : List (Addr × List Int)) : Prop where
  lst : SqL K H l (rs.map fun x => V.ref x.1)
  row : ∀ x ∈ rs, RowAt K H x.1 x.2
theorem sqL_ext {K : PySem.W.Frag} {H H' : Hp} {a : Addr} {xs : List V} (e : Same H H') (h : SqL K H a xs) : SqL K H' a xs := by
  rcases h with (h | ⟨o, h⟩) | h
  · exact .inl (.inl (e _ _ h))
  · exact .inl (.inr ⟨o, e _ _ h⟩)
  · exact .inr h
theorem RowsAt.ext {K : PySem.W.Frag} {H H' : Hp} {l : Addr} {rs : List (Addr × List Int)} (h : RowsAt K H l rs) (e : Same H H') : RowsAt K H' l rs := ⟨sqL_ext e h.lst, fun x hx => Rs.sqT_ext e (h.row x hx)⟩
def spDiag (K : PySem.W.Frag) : Sp := fun vs H Q _ => ∃ (l : Addr) (rs : List (Addr × List Int)) (g : List Int → Nat), vs = [.ref l] ∧ RowsAt K H l rs ∧ rs.length ≤ 3 ∧ (∀ x ∈ rs, BegL x.2 (g x.2) ∧ x.2.length ≤ 3) ∧
  ∀ H' p, Same H H' → H p = none → H' p = some (.tup (rs.map fun x => V.int (x.2.getD (g x.2) 0))) → Q (.ref p) H'
section
variable {P : Program} {w : World} {K : PySem.W.Frag} {mg : Str → Option Value} {base : Heap}
theorem ok_diag {f fL : Addr} {fd fdL : FuncData} {k : Nat} (F : Fun K "diagonal_of" "diagonal_of" sDiag f fd) (B : Bn mg) (GL : FnOk P w K mg base CX0 (k + 1) fL fdL ["row"] (spLead K)) (kL : PySem.W.keepIn K (.ref fL) = true) (bL : L2.Binds K fdL ["row"] []) (gL : mg "lead_at" = some (.ref fL)) :
    FnOk P w K mg base CX0 (k + 2) f fd ["rows"] (spDiag K) := by
  refine F.ok scDiag (fun vs H Q E h => ?_) (fun cdv A outer s H vs Q E hr h => ?_)
  · obtain ⟨l, rs, g, rfl, _⟩ := h
    rfl
  · obtain ⟨l, rs, g, rfl, hR, h3, hb, q⟩ := h
    refine ⟨_, pss_one (ps_ret (pe_callTy call_tuple_of (by rfl) B.tuple boot_tuple (pa_cons (pe_lc (own := [("row", 1)]) (g := gName 1) (tt := tYes) (te := fun σ H Q => tVar 1 σ H fun x H1 => tCall (spLead K) [] E0 (tCons (tVar 1) tNil) σ H1 fun y H2 => rIxT K x y H2 Q) rfl scDiag.nd (pi_list (pv 0))
        (blkOk_by (N := ["rows", "row"]) (sc := defScope sDiag) (by decide +kernel)) (fun _ _ _ _ _ => pg_name (i := 1) scDiag.nd rfl (Or.inl rfl)) (fun _ _ _ _ _ => pts_nil)
        (fun _ _ _ _ _ => pe_ix ix_tup (pv 1) (pe_call GL hr (by rfl) gL kL bL .nil pass0 (pa_cons (pv 1) pa_nil)) (fun _ _ => rfl))) pa_nil))), ?_⟩
    refine ⟨_, rfl, l, rfl, ⟨_, hR.lst⟩, fun D nD => ?_⟩
    refine lc_idx (walk_list (K := K) (a := l)) (te := fun σ H Q => tVar 1 σ H fun x H1 => tCall (spLead K) [] E0 (tCons (tVar 1) tNil) σ H1 fun y H2 => rIxT K x y H2 Q) (σ := [some (.ref l), none]) (i := 1) (rs.map fun x => V.int (x.2.getD (g x.2) 0)) (by rw [List.length_map, List.length_map]) (by rw [List.length_map]; exact Nat.lt_of_le_of_lt h3 (by decide)) nD (fun H2 s2 => sqL_ext s2 hR.lst) ?_ ?_
    · intro j x y H2 Q2 hx hy s2 h
      rw [List.getElem?_map] at hx hy
      obtain ⟨e0, he0, rfl⟩ := Option.map_eq_some_iff.mp hx
      rw [he0] at hy
      obtain rfl := Option.some.inj hy
      have m := List.mem_of_getElem? he0
      obtain ⟨b1, b2⟩ := hb _ m
      have ra : RowAt K H2 e0.1 e0.2 := Rs.sqT_ext s2 (hR.row _ m)
      exact ⟨_, rfl, _, rfl, e0.1, e0.2, g e0.2, rfl, ra, b1, b2, fun H3 s3 => ⟨e0.1, _, (g e0.2 : Nat), _, rfl, rfl, Rs.sqT_ext s3 ra, row_at b1.1, h H3 s3⟩⟩
    · intro H2 s2 hD
      refine ⟨D, _, rfl, .inl ⟨SqL.of hD, fun p2 np2 => ?_⟩⟩
      refine q _ p2 (s2.trans (same_new np2)) ?_ upd_same
      cases hp : H p2 with
      | none => rfl
      | some u =>
        rw [s2 _ _ hp] at np2
        cases np2
end
end KT
set_option maxRecDepth 100000
set_option maxHeartbeats 2000000
namespace KT
open PySem PySem.Spec PyProof.Rows L2
theorem scIndex : FnScope ["rows", "width", "index", "lead"] ["rows", "width"] (defScope sIndex) := ⟨rfl, rfl, rfl, by decide +kernel, rfl, by decide +kernel, by decide +kernel⟩
/-- a product, from the left -/
def prod (xs : List Int) : Int := xs.foldl (· * ·) 1
theorem prod_more {xs : List Int} {i : Nat} {x : Int} (h : xs[i]? = some x) : prod (xs.take (i + 1)) = prod (xs.take i) * x := by
  rw [take_more h]
  unfold prod
  rw [List.foldl_append]
  rfl
theorem prod_lt {xs : List Int} (h : ∀ x ∈ xs, x.natAbs < 2 ^ 9000) : ∀ i, i ≤ xs.length → (prod (xs.take i)).natAbs < 2 ^ (9000 * i + 1) := by
  intro i
  induction i with
  | zero =>
    intro _
    show (1 : Int).natAbs < 2
    decide
  | succ i ih =>
    intro hi
    have hx : xs[i]? = some xs[i] := List.getElem?_eq_getElem hi
    rw [prod_more hx]
    have z := wide_lt (ih (by omega)) (h _ (List.mem_of_getElem? hx))
    rw [show 9000 * i + 1 + 9000 = 9000 * (i + 1) + 1 by omega] at z
    exact z
def spIndex (K : PySem.W.Frag) : Sp := fun vs H Q _ => ∃ (l : Addr) (rs : List (Addr × List Int)) (g : List Int → Nat) (wd : Nat), vs = [.ref l, .int (wd : Nat)] ∧ RowsAt K H l rs ∧ rs.length ≤ 3 ∧ (∀ x ∈ rs, BegL x.2 (g x.2) ∧ x.2.length ≤ 3 ∧ (x.2.getD (g x.2) 0).natAbs < 2 ^ 9000) ∧
  ∀ H', Same H H' → Q (if rs.length < wd then .non else .int (prod (rs.map fun x => x.2.getD (g x.2) 0))) H'
section
variable {P : Program} {w : World} {K : PySem.W.Frag} {mg : Str → Option Value} {base : Heap}
theorem ok_index {f fD : Addr} {fd fdD : FuncData} {k : Nat} (F : Fun K "index_of" "index_of" sIndex f fd) (B : Bn mg) (GD : FnOk P w K mg base CX0 (k + 2) fD fdD ["rows"] (spDiag K)) (kD : PySem.W.keepIn K (.ref fD) = true) (bD : L2.Binds K fdD ["rows"] []) (gD : mg "diagonal_of" = some (.ref fD)) :
    FnOk P w K mg base CX0 (k + 3) f fd ["rows", "width"] (spIndex K) := by
  refine F.ok scIndex (fun vs H Q E h => ?_) (fun cdv A outer s H vs Q E hr h => ?_)
  · obtain ⟨l, rs, g, wd, rfl, _⟩ := h
    rfl
  · obtain ⟨l, rs, g, wd, rfl, hR, h3, hb, q⟩ := h
    refine ⟨_, pss_cons (ps_if (pt_cmpR op_lt (pe_callB call_len_seq (by rfl) B.len PySem.boot_len (pa_cons (pv 0) pa_nil)) (pv 1) (nomark _)) (pss_one (ps_ret pe_non)) pss_nil)
      (pss_cons (ps_set (i := 2) scIndex.nd rfl (.inl rfl) pe_int)
      (pss_cons (ps_for PassesOwn.never rfl (pi_tup (pe_call GD hr (by rfl) gD kD bD .nil pass0 (pa_cons (pv 0) pa_nil))) (pg_name (i := 3) scIndex.nd rfl (Or.inl rfl)) (pss_one (ps_set (i := 2) scIndex.nd rfl (.inl rfl) (pe_op op_mulW (pv 2) (pv 3)))))
      (pss_one (ps_ret (pv 2))))), ?_⟩
    refine ⟨_, rfl, l, _, rfl, .inl hR.lst, _, rfl, _, _, rfl, rfl, _, rfl, ?_⟩
    rw [List.length_map]
    by_cases hw : rs.length < wd
    · rw [decide_eq_true (by omega : (rs.length : Int) < (wd : Int))]
      refine iteT ?_
      have z := q H (Same.refl _)
      rw [if_pos hw] at z
      exact z
    · rw [decide_eq_false (by omega : ¬ (rs.length : Int) < (wd : Int))]
      refine iteF ?_
      have leads : ∀ x ∈ (rs.map fun x => x.2.getD (g x.2) 0), x.natAbs < 2 ^ 9000 := by
        intro x hx
        obtain ⟨y, hy, rfl⟩ := List.mem_map.mp hx
        exact (hb y hy).2.2
      refine ⟨_, rfl, l, rs, g, rfl, hR, h3, fun x hx => ⟨(hb x hx).1, (hb x hx).2.1⟩, fun H1 p s1 np hp => ?_⟩
      refine ⟨p, rfl, ⟨_, SqT.of hp⟩, ?_⟩
      refine for_it (walk_tup (K := K) (a := p)) (fun i σ H3 => ∃ y3 : Option V, σ = [some (.ref l), some (.int (wd : Nat)), some (.int (prod ((rs.map fun x => x.2.getD (g x.2) 0).take i))), y3] ∧ Same H H3 ∧ H3 p = some (.tup (rs.map fun x => V.int (x.2.getD (g x.2) 0)))) ⟨none, rfl, s1, hp⟩ (fun i σ H3 _ h => SqT.of h.choose_spec.2.2) ?_ ?_
      · rintro i x σ H3 H3' hi ⟨y3, rfl, sm, hq⟩ ⟨rfl, hx⟩
        rw [List.getElem?_map] at hx
        obtain ⟨e0, he0, rfl⟩ := Option.map_eq_some_iff.mp hx
        have hl : (rs.map fun x => x.2.getD (g x.2) 0)[i]? = some (e0.2.getD (g e0.2) 0) := by
          rw [List.getElem?_map, he0]
          rfl
        rw [List.length_map] at hi
        refine ⟨_, rfl, _, rfl, _, _, rfl, rfl, ?_, some (.int (e0.2.getD (g e0.2) 0)), ?_, sm, hq⟩
        · exact wide_mul (prod_lt leads i (by rw [List.length_map]; omega)) (leads _ (List.mem_of_getElem? hl)) (by omega) (by omega) (by omega)
        · rw [prod_more hl]
          rfl
      · rintro σ H3 ⟨y3, rfl, sm, hq⟩
        refine ⟨_, rfl, ?_⟩
        have z := q H3 sm
        rw [if_neg hw] at z
        rw [List.length_map, ← List.length_map (f := fun x : Addr × List Int => x.2.getD (g x.2) 0), List.take_length]
        exact z
end
end KT
set_option maxRecDepth 100000
set_option maxHeartbeats 1000000
namespace Rs
open PySem PySem.Spec PyProof.Rows L2
/-! the same def under other names of its slots: where the names differ, nothing is stored -/
def Cx.ren (X : Cx) (N' : List Str) : Cx := { X with N := N' }
def Ren (N N' : List Str) (σ : L2.St) : Prop := N'.length = N.length ∧ ∀ i : Nat, N'[i]? ≠ N[i]? → σ[i]? = some none
theorem inv_ren {X : Cx} {N' : List Str} {pins : List (Addr × Obj)} {σ : L2.St} {H : Hp} {s : Shared} (I : Inv X pins σ H s) (r : Ren X.N N' σ) : Inv (Cx.ren X N') pins σ H s := by
  have o := I.ok
  refine ⟨⟨o.mod, o.kind, o.glob, o.blt, o.above, o.inj, o.has, o.cab, o.hd, o.frames, o.stk, o.exf, o.bs, o.bsz, o.noex, o.exfs, o.funs, o.frf⟩, I.os, I.bare, I.base, ?_, I.cell, I.free, I.freeC, I.pin, I.hok, I.len.trans r.1.symm⟩
  obtain ⟨m, h1, h2⟩ := I.loc
  refine ⟨m, h1, fun i x v e1 e2 e3 => h2 i x v ?_ e2 e3⟩
  by_cases h : N'[i]? = X.N[i]?
  · rw [← h]
    exact e1
  · rw [r.2 i h] at e2
    cases e2
theorem inv_back {X : Cx} {N' : List Str} {pins : List (Addr × Obj)} {σ : L2.St} {H : Hp} {s : Shared} (I : Inv (Cx.ren X N') pins σ H s) (r : Ren X.N N' σ) : Inv X pins σ H s := by
  have z := inv_ren (N' := X.N) I ⟨r.1.symm, fun i h => r.2 i (fun e => h e.symm)⟩
  exact z
theorem pe_ren {X : Cx} (N' : List Str) {e : Expr} {t : TE} (h : PE (Cx.ren X N') e t) : PE X e (fun σ H Q => Ren X.N N' σ ∧ t σ H Q) := by
  refine ⟨fun pins s σ H Q I hq => ?_⟩
  refine wpAny_mono (h.run pins s σ H Q (inv_ren I hq.1) hq.2) ?_ (fun _ _ z => z)
  rintro u s' ⟨v, H', J, rv, q⟩
  exact ⟨v, H', inv_back J hq.1, rv, q⟩
end Rs
namespace Hm
/-! the rounds of a sweep, with lists of numbers -/
def zl (a : Nat) (rs : List (List Int)) : List (List Int) := rs.filter fun r => decide (fn r a = 0)
def nl (a : Nat) (rs : List (List Int)) : List (List Int) := rs.filter fun r => decide (fn r a ≠ 0)
theorem zl_fn (a : Nat) (rs : List (List Int)) : (zl a rs).map fn = zro a (rs.map fn) := by
  unfold zl zro
  rw [List.filter_map]
  rfl
theorem nl_fn (a : Nat) (rs : List (List Int)) : (nl a rs).map fn = nzr a (rs.map fn) := by
  unfold nl nzr
  rw [List.filter_map]
  rfl
theorem mem_zl {a : Nat} {rs : List (List Int)} {r : List Int} : r ∈ zl a rs ↔ r ∈ rs ∧ fn r a = 0 := by
  unfold zl
  rw [List.mem_filter]
  simp
theorem mem_nl {a : Nat} {rs : List (List Int)} {r : List Int} : r ∈ nl a rs ↔ r ∈ rs ∧ fn r a ≠ 0 := by
  unfold nl
  rw [List.mem_filter]
  simp
theorem zn_len (a : Nat) : ∀ rs : List (List Int), (zl a rs).length + (nl a rs).length = rs.length
  | [] => rfl
  | r :: rs => by
    have ih := zn_len a rs
    unfold zl nl at ih ⊢
    rw [List.filter_cons, List.filter_cons]
    by_cases h : fn r a = 0
    · simp only [h, decide_true, if_true, ne_eq, not_true_eq_false, decide_false, Bool.false_eq_true, if_false, List.length_cons]
      simp only [ne_eq] at ih
      omega
    · simp only [h, decide_false, Bool.false_eq_true, if_false, ne_eq, not_false_eq_true, decide_true, if_true, List.length_cons]
      simp only [ne_eq] at ih
      omega
theorem Pot.up {a C C' M : Nat} {l : Row} {os : List Row} (h : Pot a C M l os) (hc : C ≤ C') : Pot a C' M l os := ⟨h.nz, h.col, h.sgn, Nat.le_trans h.le hc, fun ho => by
  obtain ⟨r, h1, h2⟩ := h.pot ho
  exact ⟨r, h1, Nat.le_trans h2 hc⟩⟩
structure Swi (w a b n : Nat) (R cl rest : List (List Int)) : Prop where
  eqs : Eqs (In (R.map fn)) (In (cl.map fn ++ rest.map fn))
  len : ∀ r, r ∈ cl ∨ r ∈ rest → r.length = w
  low : ∀ r, r ∈ cl ∨ r ∈ rest → ∀ j, j < a → fn r j = 0
  cz : ∀ r ∈ cl, fn r a = 0
  rz : ∀ r ∈ rest, fn r a ≠ 0
  sz : cl.length + rest.length = R.length
  lead : ∀ r ∈ rest, (fn r a).natAbs ≤ 2 ^ b
  bd : (∀ r, r ∈ cl ∨ r ∈ rest → ∀ j, (fn r j).natAbs ≤ 2 ^ b) ∨ ((∀ r ∈ cl, ∀ j, a < j → (fn r j).natAbs ≤ 2 ^ (5 * b + n + 1)) ∧ ∃ l' os M, rest = l' :: os ∧ Pot a (2 ^ (5 * b + n + 1)) M (fn l') (os.map fn))
theorem swi_start {w a b n : Nat} {R : List (List Int)} (len : ∀ r ∈ R, r.length = w) (low : ∀ r ∈ R, ∀ j, j < a → fn r j = 0) (hb : ∀ r ∈ R, ∀ j, (fn r j).natAbs ≤ 2 ^ b) : Swi w a b n R (zl a R) (nl a R) := by
  have m : ∀ r, r ∈ zl a R ∨ r ∈ nl a R → r ∈ R := fun r h => h.elim (fun h => (mem_zl.mp h).1) (fun h => (mem_nl.mp h).1)
  refine ⟨?_, fun r h => len r (m r h), fun r h => low r (m r h), fun r h => (mem_zl.mp h).2, fun r h => (mem_nl.mp h).2, zn_len a R, fun r h => hb r (m r (.inr h)) a, .inl fun r h => hb r (m r h)⟩
  rw [zl_fn, nl_fn]
  exact sweep0 a _
theorem cap_le {b n k : Nat} (hb : 1 ≤ b) (hk : k ≤ n) : (2 ^ b + (2 ^ b + 1) * 2 ^ b) * 2 ^ b * (2 ^ k * 2 ^ b * 2 ^ b) ≤ 2 ^ (5 * b + n + 1) := by
  have h1 : 2 ^ b + (2 ^ b + 1) * 2 ^ b ≤ 2 ^ (2 * b + 1) := by
    have e : 2 ^ b + (2 ^ b + 1) * 2 ^ b = 2 ^ b * (2 ^ b + 2) := by
      rw [Nat.add_mul, Nat.mul_add]
      omega
    have h2 : 2 ^ b + 2 ≤ 2 ^ (b + 1) := by
      have : 2 ≤ 2 ^ b := by
        have := Nat.pow_le_pow_right (n := 2) (by omega) hb
        simpa using this
      rw [Nat.pow_succ]
      omega
    rw [e, show 2 * b + 1 = b + (b + 1) by omega, Nat.pow_add]
    exact Nat.mul_le_mul_left _ h2
  have h3 : 2 ^ k * 2 ^ b * 2 ^ b ≤ 2 ^ (n + 2 * b) := by
    rw [show n + 2 * b = n + b + b by omega, Nat.pow_add, Nat.pow_add]
    exact Nat.mul_le_mul_right _ (Nat.mul_le_mul_right _ (Nat.pow_le_pow_right (by omega) hk))
  rw [show 5 * b + n + 1 = 2 * b + 1 + b + (n + 2 * b) by omega, Nat.pow_add, Nat.pow_add]
  exact Nat.mul_le_mul (Nat.mul_le_mul_right _ h1) h3
theorem swi_bd {w a b n : Nat} {R cl rest : List (List Int)} (h : Swi w a b n R cl rest) : ∀ r, r ∈ cl ∨ r ∈ rest → ∀ j, (fn r j).natAbs ≤ 2 ^ (5 * b + n + 1) := by
  intro r hr j
  have pw : 2 ^ b ≤ 2 ^ (5 * b + n + 1) := Nat.pow_le_pow_right (by omega) (by omega)
  rcases h.bd with g | ⟨g1, l', os, M, e, g2⟩
  · exact Nat.le_trans (g r hr j) pw
  · rcases Nat.lt_trichotomy j a with hj | hj | hj
    · rw [h.low r hr j hj]
      exact Nat.zero_le _
    · subst hj
      rcases hr with hr | hr
      · rw [h.cz r hr]
        exact Nat.zero_le _
      · exact Nat.le_trans (h.lead r hr) pw
    · rcases hr with hr | hr
      · exact g1 r hr j hj
      · rw [e] at hr
        refine Nat.le_trans (g2.col (fn r) ?_ j hj) g2.le
        rcases List.mem_cons.mp hr with rfl | hr
        · exact List.mem_cons_self
        · exact List.mem_cons_of_mem _ (List.mem_map.mpr ⟨r, hr, rfl⟩)
/-- what the others become -/
def smr (a : Nat) (l : List Int) (xs : List (List Int)) : List (List Int) := xs.map fun r => lsl r l ((fn r a).fdiv (fn l a))
theorem smr_fn {w a : Nat} {l : List Int} {xs : List (List Int)} (hl : l.length = w) (hx : ∀ r ∈ xs, r.length = w) : (smr a l xs).map fn = (xs.map fn).map fun r => ls r (fn l) ((r a).fdiv (fn l a)) := by
  unfold smr
  rw [List.map_map, List.map_map]
  refine List.map_congr_left fun r hr => ?_
  show fn (lsl r l _) = _
  rw [fn_lsl (by rw [hx r hr, hl])]
  rfl
theorem swi_round {w a b n : Nat} {R cl rest xs : List (List Int)} {l : List Int} (hb : 1 ≤ b) (hn : R.length ≤ n) (h : Swi w a b n R cl rest) (pm : (l :: xs).Perm rest) (mn : ∀ r ∈ xs, (fn l a).natAbs ≤ (fn r a).natAbs) (hx : xs ≠ []) :
    Swi w a b n R (cl ++ zl a (smr a l xs)) (l :: nl a (smr a l xs)) ∧ mas a ((l :: nl a (smr a l xs)).map fn) < mas a (rest.map fn) := by
  have inr' : ∀ r, r ∈ l :: xs → r ∈ rest := fun r hr => pm.mem_iff.mp hr
  have ll : l.length = w := h.len l (.inr (inr' l List.mem_cons_self))
  have lx : ∀ r ∈ xs, r.length = w := fun r hr => h.len r (.inr (inr' r (List.mem_cons_of_mem _ hr)))
  have lz : fn l a ≠ 0 := h.rz l (inr' l List.mem_cons_self)
  have sf := smr_fn (a := a) ll lx
  have pmf : (fn l :: xs.map fn).Perm (rest.map fn) := by
    have := pm.map fn
    simpa using this
  have slen : ∀ r ∈ smr a l xs, r.length = w := by
    intro r hr
    obtain ⟨x, hx, rfl⟩ := List.mem_map.mp hr
    exact lsl_len (lx x hx) ll _
  have slow : ∀ r ∈ smr a l xs, ∀ j, j < a → fn r j = 0 := by
    intro r hr j hj
    obtain ⟨x, hx, rfl⟩ := List.mem_map.mp hr
    rw [fn_lsl (by rw [lx x hx, ll])]
    show fn x j - _ * fn l j = 0
    rw [h.low x (.inr (inr' x (List.mem_cons_of_mem _ hx))) j hj, h.low l (.inr (inr' l List.mem_cons_self)) j hj]
    simp
  have mnf : ∀ r ∈ xs.map fn, (fn l a).natAbs ≤ (r a).natAbs := by
    intro r hr
    obtain ⟨x, hx, rfl⟩ := List.mem_map.mp hr
    exact mn x hx
  have slead : ∀ r ∈ smr a l xs, (fn r a).natAbs < (fn l a).natAbs := by
    intro r hr
    obtain ⟨x, hx, rfl⟩ := List.mem_map.mp hr
    rw [fn_lsl (by rw [lx x hx, ll])]
    exact fmod_small lz
  have key : ∃ M, Pot a (2 ^ (5 * b + n + 1)) M (fn l) ((nl a (smr a l xs)).map fn) ∧ ∀ r ∈ smr a l xs, ∀ j, a < j → (fn r j).natAbs ≤ M := by
    rw [nl_fn, sf]
    rcases h.bd with g | ⟨g1, l', os, M, e, g2⟩
    · have q := pot_first (a := a) (B := 2 ^ b) (M := 2 ^ b) (l := fn l) (xs := xs.map fn) lz (fun r hr => by
        rcases List.mem_cons.mp hr with rfl | hr
        · exact g l (.inr (inr' l List.mem_cons_self)) a
        · obtain ⟨x, hx, rfl⟩ := List.mem_map.mp hr
          exact g x (.inr (inr' x (List.mem_cons_of_mem _ hx))) a) (fun r hr j _ => by
        rcases List.mem_cons.mp hr with rfl | hr
        · exact g l (.inr (inr' l List.mem_cons_self)) j
        · obtain ⟨x, hx, rfl⟩ := List.mem_map.mp hr
          exact g x (.inr (inr' x (List.mem_cons_of_mem _ hx))) j)
      refine ⟨_, q.1.up ?_, fun r hr j hj => ?_⟩
      · refine cap_le hb ?_
        rw [List.length_map]
        have h1 := pm.length_eq
        have h2 := h.sz
        rw [List.length_cons] at h1
        omega
      · obtain ⟨x, hx, rfl⟩ := List.mem_map.mp hr
        rw [fn_lsl (by rw [lx x hx, ll])]
        exact q.2 (fn x) (List.mem_map.mpr ⟨x, hx, rfl⟩) j hj
    · rw [e] at pmf
      have ho : os.map fn ≠ [] := by
        intro z
        have h1 := pmf.length_eq
        rw [List.map_cons, z, List.length_cons, List.length_map] at h1
        apply hx
        apply List.eq_nil_of_length_eq_zero
        simpa using h1
      obtain ⟨M', p1, p2, p3⟩ := pot_round g2 ho (by simpa using pmf) mnf
      refine ⟨M', p1, fun r hr j hj => ?_⟩
      obtain ⟨x, hx, rfl⟩ := List.mem_map.mp hr
      rw [fn_lsl (by rw [lx x hx, ll])]
      exact p2 (fn x) (List.mem_map.mpr ⟨x, hx, rfl⟩) j hj
  obtain ⟨M, pM, sM⟩ := key
  have clC : ∀ r ∈ cl, ∀ j, a < j → (fn r j).natAbs ≤ 2 ^ (5 * b + n + 1) := fun r hr j hj => swi_bd h r (.inl hr) j
  refine ⟨⟨?_, ?_, ?_, ?_, ?_, ?_, ?_, .inr ⟨?_, l, _, M, rfl, pM⟩⟩, ?_⟩
  · refine h.eqs.trans ?_
    have e1 : Eqs (In (cl.map fn ++ rest.map fn)) (In (cl.map fn ++ (fn l :: xs.map fn))) := eqs_in fun r => by
      rw [List.mem_append, List.mem_append, pmf.mem_iff]
    refine e1.trans ?_
    have e2 := sweep1 a (cl.map fn) (xs.map fn) (fn l) (fun r => (r a).fdiv (fn l a))
    rw [List.map_append, List.map_cons, zl_fn, nl_fn, sf]
    exact e2
  · rintro r (hr | hr)
    · rcases List.mem_append.mp hr with hr | hr
      · exact h.len r (.inl hr)
      · exact slen r (mem_zl.mp hr).1
    · rcases List.mem_cons.mp hr with rfl | hr
      · exact ll
      · exact slen r (mem_nl.mp hr).1
  · rintro r (hr | hr)
    · rcases List.mem_append.mp hr with hr | hr
      · exact h.low r (.inl hr)
      · exact slow r (mem_zl.mp hr).1
    · rcases List.mem_cons.mp hr with rfl | hr
      · exact h.low r (.inr (inr' r List.mem_cons_self))
      · exact slow r (mem_nl.mp hr).1
  · intro r hr
    rcases List.mem_append.mp hr with hr | hr
    · exact h.cz r hr
    · exact (mem_zl.mp hr).2
  · intro r hr
    rcases List.mem_cons.mp hr with rfl | hr
    · exact lz
    · exact (mem_nl.mp hr).2
  · have h1 := zn_len a (smr a l xs)
    have h2 := h.sz
    have h3 := pm.length_eq
    have h4 : (smr a l xs).length = xs.length := List.length_map _
    rw [List.length_append, List.length_cons]
    rw [List.length_cons] at h3
    omega
  · intro r hr
    rcases List.mem_cons.mp hr with rfl | hr
    · exact h.lead r (inr' r List.mem_cons_self)
    · have h1 := slead r (mem_nl.mp hr).1
      have h2 := h.lead l (inr' l List.mem_cons_self)
      omega
  · intro r hr j hj
    rcases List.mem_append.mp hr with hr | hr
    · exact clC r hr j hj
    · exact Nat.le_trans (sM r (mem_zl.mp hr).1 j hj) pM.le
  · have hx2 : xs.map fn ≠ [] := by simpa using hx
    have z := mas_round (a := a) (l := fn l) (os := xs.map fn) lz mnf hx2
    rw [List.map_cons, nl_fn, sf]
    refine Nat.lt_of_lt_of_le z (Nat.le_of_eq ?_)
    unfold mas
    exact (pmf.map _).sum_nat
theorem swi_none {w a b n : Nat} {R cl : List (List Int)} (h : Swi w a b n R cl []) : Swp a (R.map fn) none (cl.map fn) := swp_none h.eqs fun r hr => by
  obtain ⟨x, hx, rfl⟩ := List.mem_map.mp hr
  exact h.cz x hx
theorem swi_one {w a b n : Nat} {R cl : List (List Int)} {r : List Int} (h : Swi w a b n R cl [r]) : Swp a (R.map fn) (some (sgd (fn r) a)) (cl.map fn) := swp_one h.eqs (fun x hx => by
  obtain ⟨y, hy, rfl⟩ := List.mem_map.mp hx
  exact h.cz y hy) (h.rz r List.mem_cons_self)
end Hm
set_option maxRecDepth 100000
set_option maxHeartbeats 2000000
namespace KT
open PySem PySem.Spec PyProof.Rows L2
/-! rows that are told by their addresses -/
def RT (H : Hp) (x : Addr × List Int) : Prop := H x.1 = some (.tup (x.2.map V.int))
abbrev rf (rs : List (Addr × List Int)) : List V := rs.map fun x => V.ref x.1
abbrev rw_ (rs : List (Addr × List Int)) : List (List Int) := rs.map fun x => x.2
structure RL (H : Hp) (q : Addr) (rs : List (Addr × List Int)) : Prop where
  lst : H q = some (.lst (rf rs))
  row : ∀ x ∈ rs, RT H x
/-- a list or a tuple of rows -/
structure RI (K : PySem.W.Frag) (H : Hp) (q : Addr) (rs : List (Addr × List Int)) : Prop where
  seq : SqL K H q (rf rs) ∨ SqT K H q (rf rs)
  row : ∀ x ∈ rs, RT H x
theorem RL.ri {K : PySem.W.Frag} {H : Hp} {q : Addr} {rs : List (Addr × List Int)} (h : RL H q rs) : RI K H q rs := ⟨.inl (SqL.of h.lst), h.row⟩
theorem map_int_inj : ∀ {r s : List Int}, r.map V.int = s.map V.int → r = s
  | [], [], _ => rfl
  | [], _ :: _, h => nomatch h
  | _ :: _, [], h => nomatch h
  | x :: r, y :: s, h => by
    rw [List.map_cons, List.map_cons] at h
    injection h with h1 h2
    injection h1 with h1
    rw [h1, map_int_inj h2]
theorem RT.uniq {H : Hp} {x y : Addr × List Int} (h : RT H x) (g : RT H y) (e : x.1 = y.1) : x.2 = y.2 := by
  unfold RT at h g
  rw [e, g] at h
  injection h with h
  injection h with h
  exact (map_int_inj h).symm
theorem RT.ext {H H' : Hp} {x : Addr × List Int} (h : RT H x) (e : LamX.ExtN H H') : RT H' x := e _ _ h (fun ps z => nomatch z)
theorem RT.same {H H' : Hp} {x : Addr × List Int} (h : RT H x) (e : Same H H') : RT H' x := e _ _ h
theorem RL.ext {H H' : Hp} {q : Addr} {rs : List (Addr × List Int)} (h : RL H q rs) (e : LamX.ExtN H H') : RL H' q rs := ⟨e _ _ h.lst (fun ps z => nomatch z), fun x hx => (h.row x hx).ext e⟩
theorem RL.same {H H' : Hp} {q : Addr} {rs : List (Addr × List Int)} (h : RL H q rs) (e : Same H H') : RL H' q rs := ⟨e _ _ h.lst, fun x hx => (h.row x hx).same e⟩
theorem extN_of {H H' : Hp} (e : Same H H') : LamX.ExtN H H' := .of e
/-- what is new stays new before -/
theorem ext_free {H H' : Hp} (e : LamX.ExtN H H') {p : Addr} (h : H' p = none) : ∀ o, H p = some o → ∃ ps, o = .tbl ps := by
  intro o ho
  cases o with
  | tbl ps => exact ⟨ps, rfl⟩
  | _ =>
    exfalso
    have z := e _ _ ho (fun ps z => nomatch z)
    rw [h] at z
    cases z
/-- [e for x in xs if t]: both told by what x stands for -/
theorem lc_sel {α : Type} {rs : List α} {e out : α → V} {J : It} {G : Hp → Prop} (w : Walk J (rs.map e).length G (YAt (rs.map e))) {tt : TT} {te : TE} {σ : L2.St} {i : Nat} {H1 : Hp} {D : Addr} {Qd : Hp → Prop} (keep : α → Bool) (hlen : rs.length < sizeLine) (hD : H1 D = none)
    (hG : ∀ H2, Same H1 H2 → G H2)
    (ht : ∀ x H2 Q, x ∈ rs → Same H1 H2 → Q (keep x) H2 → tt ((σ.set i none).set i (some (e x))) H2 Q)
    (he : ∀ x H2 Q, x ∈ rs → keep x = true → Same H1 H2 → (∀ H3, Same H2 H3 → Q (out x) H3) → te ((σ.set i none).set i (some (e x))) H2 Q)
    (hd : ∀ H2, Same H1 H2 → H2 D = some (.lst ((rs.filter keep).map out)) → Qd H2) :
    ∃ W : Nat → Nat → Hp → Prop, (∃ m, W 0 m (upd H1 D (.lst []))) ∧ ∀ j m H, W j m H →
      (J.stop j H ∧ Qd H) ∨ (J.go j H ∧ ∃ Nx : Hp → Prop, (∀ H', Nx H' → ∃ m', m' < m ∧ W (j + 1) m' H') ∧ ∀ x H', J.yld j H x H' → gName i x (wipe σ [i]) H' fun σ2 H2 => wipe σ2 [i] = wipe σ [i] ∧ tt σ2 H2 fun b H3 =>
        if b = true then te σ2 H3 fun v H4 => ∃ ac, H4 D = some (.lst ac) ∧ ac.length < sizeLine ∧ Nx (upd H4 D (.lst (ac ++ [v]))) else Nx H3) := by
  refine lc_it w (fun j H2 => Same H1 H2 ∧ H2 D = some (.lst (((rs.take j).filter keep).map out))) ⟨same_new hD, upd_same⟩ (fun j H2 _ h => hG H2 h.1) ?_ (fun H2 h => hd H2 h.1 (by have z := h.2; rw [List.length_map, List.take_length] at z; exact z))
  rintro j v H2 H2' hj ⟨sm, hd2⟩ ⟨rfl, hx⟩
  rw [List.getElem?_map] at hx
  obtain ⟨x, hx0, rfl⟩ := Option.map_eq_some_iff.mp hx
  have hm : x ∈ rs := List.mem_of_getElem? hx0
  refine ⟨?_, ?_⟩
  · show (((σ.set i none).set i (some (e x))).set i none) = σ.set i none
    rw [List.set_set, List.set_set]
  · refine ht x _ _ hm sm ?_
    have tk := take_more hx0
    cases hk : keep x with
    | true =>
      refine iteT (he x _ _ hm hk sm fun H3 s3 => ⟨_, s3 _ _ hd2, ?_, ?_, ?_⟩)
      · rw [List.length_map]
        exact Nat.lt_of_le_of_lt (Nat.le_trans (List.length_filter_le _ _) (by rw [List.length_take]; omega)) hlen
      · intro b o e
        rw [upd_ne (ne_of_none e hD)]
        exact s3 _ _ (sm _ _ e)
      · rw [upd_same, tk, List.filter_append, List.map_append]
        simp [hk]
    | false =>
      refine iteF ⟨sm, ?_⟩
      rw [hd2, tk, List.filter_append]
      simp [hk]
/-- [e for x in xs], each e a new row -/
theorem lc_rows {α : Type} {rs : List α} {e : α → V} {J : It} {G : Hp → Prop} (w : Walk J (rs.map e).length G (YAt (rs.map e))) {te : TE} {σ : L2.St} {i : Nat} {H1 : Hp} {D : Addr} {Qd : Hp → Prop} (f : α → List Int) (hlen : rs.length < sizeLine) (hD : H1 D = none)
    (hG : ∀ H2, Same H1 H2 → G H2)
    (he : ∀ x H2 Q, x ∈ rs → Same H1 H2 → (∀ H3 p, Same H2 H3 → H3 p = some (.tup ((f x).map V.int)) → Q (.ref p) H3) → te ((σ.set i none).set i (some (e x))) H2 Q)
    (hd : ∀ H2 ys, Same H1 H2 → RL H2 D ys → rw_ ys = rs.map f → Qd H2) :
    ∃ W : Nat → Nat → Hp → Prop, (∃ m, W 0 m (upd H1 D (.lst []))) ∧ ∀ j m H, W j m H →
      (J.stop j H ∧ Qd H) ∨ (J.go j H ∧ ∃ Nx : Hp → Prop, (∀ H', Nx H' → ∃ m', m' < m ∧ W (j + 1) m' H') ∧ ∀ x H', J.yld j H x H' → gName i x (wipe σ [i]) H' fun σ2 H2 => wipe σ2 [i] = wipe σ [i] ∧ tYes σ2 H2 fun b H3 =>
        if b = true then te σ2 H3 fun v H4 => ∃ ac, H4 D = some (.lst ac) ∧ ac.length < sizeLine ∧ Nx (upd H4 D (.lst (ac ++ [v]))) else Nx H3) := by
  refine lc_it w (fun j H2 => Same H1 H2 ∧ ∃ ys, RL H2 D ys ∧ rw_ ys = (rs.take j).map f) ⟨same_new hD, [], ⟨upd_same, fun x hx => nomatch hx⟩, rfl⟩ (fun j H2 _ h => hG H2 h.1) ?_ (fun H2 h => by
    obtain ⟨h1, ys, h2, h3⟩ := h
    rw [List.length_map, List.take_length] at h3
    exact hd H2 ys h1 h2 h3)
  rintro j v H2 H2' hj ⟨sm, ys, hR, hy⟩ ⟨rfl, hx⟩
  rw [List.getElem?_map] at hx
  obtain ⟨x, hx0, rfl⟩ := Option.map_eq_some_iff.mp hx
  have hm : x ∈ rs := List.mem_of_getElem? hx0
  refine ⟨?_, ?_⟩
  · show (((σ.set i none).set i (some (e x))).set i none) = σ.set i none
    rw [List.set_set, List.set_set]
  · dsimp only [tYes]
    rw [if_pos rfl]
    refine he x _ _ hm sm fun H3 p s3 hp => ⟨_, s3 _ _ hR.lst, ?_, ?_, ys ++ [(p, f x)], ⟨?_, ?_⟩, ?_⟩
    · have h1 : (rw_ ys).length = ((rs.take j).map f).length := by rw [hy]
      rw [List.length_map, List.length_map, List.length_take] at h1
      rw [List.length_map]
      omega
    · intro b o e
      rw [upd_ne (ne_of_none e hD)]
      exact s3 _ _ (sm _ _ e)
    · rw [upd_same]
      show some (HO.lst (List.map (fun x => V.ref x.1) ys ++ [V.ref p])) = some (HO.lst (List.map (fun x => V.ref x.1) (ys ++ [(p, f x)])))
      rw [List.map_append]
      rfl
    · intro y hy2
      have at3 : RT H3 y := by
        rcases List.mem_append.mp hy2 with h | h
        · exact (hR.row y h).same s3
        · obtain rfl := List.mem_singleton.mp h
          exact hp
      have nD : y.1 ≠ D := by
        intro z
        have e1 := s3 _ _ hR.lst
        unfold RT at at3
        rw [z, e1] at at3
        cases at3
      unfold RT
      rw [upd_ne nD]
      exact at3
    · show List.map (fun x => x.2) (ys ++ [(p, f x)]) = _
      have hy : List.map (fun x => x.2) ys = (rs.take j).map f := hy
      rw [take_more hx0, List.map_append, List.map_append, hy]
      rfl
/-- a list in another order, as the things that it stands for -/
theorem perm_lift {α β : Type} {e : α → β} : ∀ {ys : List β} {zs : List β}, ys.Perm zs → ∀ rs : List α, zs = rs.map e → ∃ rs' : List α, rs'.Perm rs ∧ ys = rs'.map e := by
  intro ys zs h
  induction h with
  | nil => intro rs h; exact ⟨rs, .refl _, h⟩
  | cons x h ih =>
    intro rs hz
    cases rs with
    | nil => cases hz
    | cons r rs =>
      rw [List.map_cons] at hz
      injection hz with h1 h2
      obtain ⟨rs', p, q⟩ := ih rs h2
      exact ⟨r :: rs', p.cons _, by rw [List.map_cons, h1, q]⟩
  | swap x y l =>
    intro rs hz
    cases rs with
    | nil => cases hz
    | cons r rs =>
      cases rs with
      | nil => rw [List.map_cons] at hz; injection hz with _ h2; cases h2
      | cons s rs =>
        rw [List.map_cons, List.map_cons] at hz
        injection hz with h1 h2
        injection h2 with h2 h3
        exact ⟨s :: r :: rs, .swap _ _ _, by rw [List.map_cons, List.map_cons, h1, h2, h3]⟩
  | trans h1 h2 ih1 ih2 =>
    intro rs hz
    obtain ⟨r1, p1, q1⟩ := ih2 rs hz
    obtain ⟨r2, p2, q2⟩ := ih1 r1 q1
    exact ⟨r2, p2.trans p1, q2⟩
end KT
set_option maxRecDepth 100000
set_option maxHeartbeats 2000000
namespace KT
open PySem PySem.Spec PyProof.Rows L2
/-! a def that is called by its name -/
structure Cb (P : Program) (w : World) (K : PySem.W.Frag) (mg : Str → Option Value) (base : Heap) (CX : CXT) (k : Nat) (x : Str) (ps : List Str) (sp : Sp) (f : Addr) (fd : FuncData) : Prop where
  ok : FnOk P w K mg base CX k f fd ps sp
  kp : PySem.W.keepIn K (.ref f) = true
  b : Binds K fd ps []
  g : mg x = some (.ref f)
abbrev NS : List Str := ["rows", "at", "clear", "rest", "ordered", "least", "smaller", "row"]
abbrev NS' : List Str := ["rows", "at", "clear", "rest", "ordered", "least", "smaller", "-"]
theorem scSwept : FnScope NS ["rows", "at"] (defScope sSwept) := ⟨rfl, rfl, rfl, by decide +kernel, rfl, by decide +kernel, by decide +kernel⟩
def whileBody : Stmt → List Stmt
  | .While _ b _ _ => b
  | _ => []
abbrev sw (i : Nat) : Stmt := (defBody sSwept).getD i (.Pass ⟨0, 0, 0, 0⟩)
def swb : List Stmt := whileBody (sw 2)
abbrev sb (i : Nat) : Stmt := swb.getD i (.Pass ⟨0, 0, 0, 0⟩)
def qS : Str := (envOfC "swept" (defScope sSwept) 0 0 .none).qual ++ "<lambda>"
/-- the context of its body -/
abbrev XS (P : Program) (w : World) (K : PySem.W.Frag) (mg : Str → Option Value) (base : Heap) (f c : Addr) (A : Around) (outer : List Env) (s : Shared) (H : Hp) (E : XK) : Cx := (cxOf CX0 P w K mg base NS "swept" (defScope sSwept) f (.ref c) A outer s H E).nox
section
variable {P : Program} {w : World} {K : PySem.W.Frag} {mg : Str → Option Value} {base : Heap}
variable {f c Pt fL fP : Addr} {fdL fdP : FuncData} {A : Around} {outer : List Env} {s : Shared} {H : Hp} {E : XK} {T : List (Addr × Str)}
theorem w0 (kd : Bool) : ∃ t, PS (XS P w K mg base f c A outer s H E) (sw 0) t ∧ ∀ (D : Ends) (H0 : Hp) (l : Addr) (rs : List (Addr × List Int)) (a : Nat) (y2 y3 y4 y5 y6 : Option V), (if kd then SqL K H0 l (rf rs) else SqT K H0 l (rf rs)) → (∀ x ∈ rs, RT H0 x) → (∀ x ∈ rs, a < x.2.length) → rs.length ≤ 1000 →
    (∀ H' q, Same H0 H' → H0 q = none → RL H' q (rs.filter fun x => decide (Hm.fn x.2 a = 0)) → D.nx [some (.ref l), some (.int (a : Nat)), some (.ref q), y3, y4, y5, y6, none] H') → t D [some (.ref l), some (.int (a : Nat)), y2, y3, y4, y5, y6, none] H0 := by
  cases kd with
  | true =>
    refine ⟨_, ps_setLc (i := 2) (own := [("row", 7)]) (g := gName 7) (tt := tTest (tOp rEq (tOp (rIxT K) (tVar 7) (tVar 1)) (tC (.int 0)))) (te := tVar 7) rfl scSwept.nd rfl rfl (sw_true rfl rfl rfl (by decide +kernel)) (pi_list (pv 0))
      (blkOk_by (N := NS) (sc := defScope sSwept) (by decide +kernel)) (fun _ _ _ _ _ => pg_name (i := 7) scSwept.nd rfl (Or.inl rfl)) (fun _ _ _ _ _ => pts_one (pt_cmpR op_eq (pe_ix ix_tup (pv 7) (pv 1) (fun _ _ => rfl)) pe_int (nomark _)))
      (fun _ _ _ _ _ => pv 7), ?_⟩
    intro D H0 l rs a y2 y3 y4 y5 y6 hq hrow hlen h1000 nx
    have hq : SqL K H0 l (rf rs) := hq
    refine ⟨_, rfl, l, rfl, ⟨_, hq⟩, fun q nq => ?_⟩
    refine lc_sel (e := fun x => V.ref x.1) (out := fun x => V.ref x.1) (walk_list (K := K) (a := l)) (σ := [some (.ref l), some (.int (a : Nat)), y2, y3, y4, y5, y6, none]) (i := 7) (fun x => decide (Hm.fn x.2 a = 0)) (Nat.lt_of_le_of_lt h1000 (by decide)) nq (fun H2 s2 => sqL_ext s2 hq) ?_ ?_ ?_
    · intro x H2 Q hx s2 hQ
      refine ⟨_, rfl, _, rfl, x.1, _, (a : Int), _, rfl, rfl, SqT.of ((hrow x hx).same s2), row_at (hlen x hx), rfl, _, rfl, ?_⟩
      have e : decide (V.int (x.2.getD a 0) = V.int 0) = decide (Hm.fn x.2 a = 0) := by
        rw [dec_int]
        exact (Bool.beq_eq_decide_eq _ _)
      rw [e]
      exact hQ
    · intro x H2 Q hx _ s2 hQ
      exact ⟨_, rfl, hQ H2 (Same.refl _)⟩
    · intro H2 s2 hq2
      exact nx H2 q s2 nq ⟨hq2, fun x hx => (hrow x (List.mem_filter.mp hx).1).same s2⟩
  | false =>
    refine ⟨_, ps_setLc (i := 2) (own := [("row", 7)]) (g := gName 7) (tt := tTest (tOp rEq (tOp (rIxT K) (tVar 7) (tVar 1)) (tC (.int 0)))) (te := tVar 7) rfl scSwept.nd rfl rfl (sw_true rfl rfl rfl (by decide +kernel)) (pi_tup (pv 0))
      (blkOk_by (N := NS) (sc := defScope sSwept) (by decide +kernel)) (fun _ _ _ _ _ => pg_name (i := 7) scSwept.nd rfl (Or.inl rfl)) (fun _ _ _ _ _ => pts_one (pt_cmpR op_eq (pe_ix ix_tup (pv 7) (pv 1) (fun _ _ => rfl)) pe_int (nomark _)))
      (fun _ _ _ _ _ => pv 7), ?_⟩
    intro D H0 l rs a y2 y3 y4 y5 y6 hq hrow hlen h1000 nx
    have hq : SqT K H0 l (rf rs) := hq
    refine ⟨_, rfl, l, rfl, ⟨_, hq⟩, fun q nq => ?_⟩
    refine lc_sel (e := fun x => V.ref x.1) (out := fun x => V.ref x.1) (walk_tup (K := K) (a := l)) (σ := [some (.ref l), some (.int (a : Nat)), y2, y3, y4, y5, y6, none]) (i := 7) (fun x => decide (Hm.fn x.2 a = 0)) (Nat.lt_of_le_of_lt h1000 (by decide)) nq (fun H2 s2 => Rs.sqT_ext s2 hq) ?_ ?_ ?_
    · intro x H2 Q hx s2 hQ
      refine ⟨_, rfl, _, rfl, x.1, _, (a : Int), _, rfl, rfl, SqT.of ((hrow x hx).same s2), row_at (hlen x hx), rfl, _, rfl, ?_⟩
      have e : decide (V.int (x.2.getD a 0) = V.int 0) = decide (Hm.fn x.2 a = 0) := by
        rw [dec_int]
        exact (Bool.beq_eq_decide_eq _ _)
      rw [e]
      exact hQ
    · intro x H2 Q hx _ s2 hQ
      exact ⟨_, rfl, hQ H2 (Same.refl _)⟩
    · intro H2 s2 hq2
      exact nx H2 q s2 nq ⟨hq2, fun x hx => (hrow x (List.mem_filter.mp hx).1).same s2⟩
end
end KT
set_option maxRecDepth 100000
set_option maxHeartbeats 2000000
namespace KT
open PySem PySem.Spec PyProof.Rows L2
section
variable {P : Program} {w : World} {K : PySem.W.Frag} {mg : Str → Option Value} {base : Heap}
variable {f c Pt fL fP : Addr} {fdL fdP : FuncData} {A : Around} {outer : List Env} {s : Shared} {H : Hp} {E : XK} {T : List (Addr × Str)}
theorem w1 (kd : Bool) : ∃ t, PS (XS P w K mg base f c A outer s H E) (sw 1) t ∧ ∀ (D : Ends) (H0 : Hp) (l : Addr) (rs : List (Addr × List Int)) (a : Nat) (y2 y3 y4 y5 y6 : Option V), (if kd then SqL K H0 l (rf rs) else SqT K H0 l (rf rs)) → (∀ x ∈ rs, RT H0 x) → (∀ x ∈ rs, a < x.2.length) → rs.length ≤ 1000 →
    (∀ H' q, Same H0 H' → H0 q = none → RL H' q (rs.filter fun x => decide (Hm.fn x.2 a ≠ 0)) → D.nx [some (.ref l), some (.int (a : Nat)), y2, some (.ref q), y4, y5, y6, none] H') → t D [some (.ref l), some (.int (a : Nat)), y2, y3, y4, y5, y6, none] H0 := by
  cases kd with
  | true =>
    refine ⟨_, ps_setLc (i := 3) (own := [("row", 7)]) (g := gName 7) (tt := tTest (tOp rNe (tOp (rIxT K) (tVar 7) (tVar 1)) (tC (.int 0)))) (te := tVar 7) rfl scSwept.nd rfl rfl (sw_true rfl rfl rfl (by decide +kernel)) (pi_list (pv 0))
      (blkOk_by (N := NS) (sc := defScope sSwept) (by decide +kernel)) (fun _ _ _ _ _ => pg_name (i := 7) scSwept.nd rfl (Or.inl rfl)) (fun _ _ _ _ _ => pts_one (pt_cmpR op_ne (pe_ix ix_tup (pv 7) (pv 1) (fun _ _ => rfl)) pe_int (nomark _)))
      (fun _ _ _ _ _ => pv 7), ?_⟩
    intro D H0 l rs a y2 y3 y4 y5 y6 hq hrow hlen h1000 nx
    have hq : SqL K H0 l (rf rs) := hq
    refine ⟨_, rfl, l, rfl, ⟨_, hq⟩, fun q nq => ?_⟩
    refine lc_sel (e := fun x => V.ref x.1) (out := fun x => V.ref x.1) (walk_list (K := K) (a := l)) (σ := [some (.ref l), some (.int (a : Nat)), y2, y3, y4, y5, y6, none]) (i := 7) (fun x => decide (Hm.fn x.2 a ≠ 0)) (Nat.lt_of_le_of_lt h1000 (by decide)) nq (fun H2 s2 => sqL_ext s2 hq) ?_ ?_ ?_
    · intro x H2 Q hx s2 hQ
      refine ⟨_, rfl, _, rfl, x.1, _, (a : Int), _, rfl, rfl, SqT.of ((hrow x hx).same s2), row_at (hlen x hx), rfl, _, rfl, ?_⟩
      have e : (!decide (V.int (x.2.getD a 0) = V.int 0)) = decide (Hm.fn x.2 a ≠ 0) := by
        rw [dec_int]
        show (!(Hm.fn x.2 a == 0)) = _
        rw [Bool.beq_eq_decide_eq]
        exact (decide_not).symm
      rw [e]
      exact hQ
    · intro x H2 Q hx _ s2 hQ
      exact ⟨_, rfl, hQ H2 (Same.refl _)⟩
    · intro H2 s2 hq2
      exact nx H2 q s2 nq ⟨hq2, fun x hx => (hrow x (List.mem_filter.mp hx).1).same s2⟩
  | false =>
    refine ⟨_, ps_setLc (i := 3) (own := [("row", 7)]) (g := gName 7) (tt := tTest (tOp rNe (tOp (rIxT K) (tVar 7) (tVar 1)) (tC (.int 0)))) (te := tVar 7) rfl scSwept.nd rfl rfl (sw_true rfl rfl rfl (by decide +kernel)) (pi_tup (pv 0))
      (blkOk_by (N := NS) (sc := defScope sSwept) (by decide +kernel)) (fun _ _ _ _ _ => pg_name (i := 7) scSwept.nd rfl (Or.inl rfl)) (fun _ _ _ _ _ => pts_one (pt_cmpR op_ne (pe_ix ix_tup (pv 7) (pv 1) (fun _ _ => rfl)) pe_int (nomark _)))
      (fun _ _ _ _ _ => pv 7), ?_⟩
    intro D H0 l rs a y2 y3 y4 y5 y6 hq hrow hlen h1000 nx
    have hq : SqT K H0 l (rf rs) := hq
    refine ⟨_, rfl, l, rfl, ⟨_, hq⟩, fun q nq => ?_⟩
    refine lc_sel (e := fun x => V.ref x.1) (out := fun x => V.ref x.1) (walk_tup (K := K) (a := l)) (σ := [some (.ref l), some (.int (a : Nat)), y2, y3, y4, y5, y6, none]) (i := 7) (fun x => decide (Hm.fn x.2 a ≠ 0)) (Nat.lt_of_le_of_lt h1000 (by decide)) nq (fun H2 s2 => Rs.sqT_ext s2 hq) ?_ ?_ ?_
    · intro x H2 Q hx s2 hQ
      refine ⟨_, rfl, _, rfl, x.1, _, (a : Int), _, rfl, rfl, SqT.of ((hrow x hx).same s2), row_at (hlen x hx), rfl, _, rfl, ?_⟩
      have e : (!decide (V.int (x.2.getD a 0) = V.int 0)) = decide (Hm.fn x.2 a ≠ 0) := by
        rw [dec_int]
        show (!(Hm.fn x.2 a == 0)) = _
        rw [Bool.beq_eq_decide_eq]
        exact (decide_not).symm
      rw [e]
      exact hQ
    · intro x H2 Q hx _ s2 hQ
      exact ⟨_, rfl, hQ H2 (Same.refl _)⟩
    · intro H2 s2 hq2
      exact nx H2 q s2 nq ⟨hq2, fun x hx => (hrow x (List.mem_filter.mp hx).1).same s2⟩
def lamOf : Stmt → Expr
  | .Assign _ (.Call _ _ [⟨_, e, _⟩] _) _ => e
  | _ => .Name "" ⟨0, 0, 0, 0⟩
def lamP : Expr → Arguments
  | .Lambda p _ _ _ => p
  | _ => ⟨[], [], none, [], [], none, []⟩
def lamE : Expr → Expr
  | .Lambda _ b _ _ => b
  | e => e
def lamS : Expr → Scope
  | .Lambda _ _ s _ => s
  | _ => default
theorem bindR : Rs.LamBind1 "row" (lamP (lamOf (sb 0))) (lamE (lamOf (sb 0))) (lamS (lamOf (sb 0))) := ⟨rfl, fun z q cl doc pm cv ctv u => .of_eq rfl⟩
theorem lam_ok (B : Bn mg) : Rs.Lam1 (Rs.Cx.ren (XS P w K mg base f c A outer s H E) NS') 0 "row" (lamP (lamOf (sb 0))) (lamE (lamOf (sb 0))) (lamS (lamOf (sb 0))) (fun σ H Q => tOp (rIxT K) (tVar 8) (tVar 1) σ H fun v H1 => ∃ i, [v] = [V.int i] ∧ Q (.int (if i < 0 then -i else i)) H1) := by
  refine ⟨Rs.lamQ_by (N := NS') (sc := defScope sSwept) (by decide +kernel), bindR, rfl, fun A2 outer2 z G f2 c2 hr2 => ?_⟩
  exact pe_callB call_abs (by rfl) B.abs boot_abs (pa_cons (pe_ix (show IxR _ (rIxT K) from ix_tup) (pv 8) (pv 1) (fun _ _ => rfl)) pa_nil)
end
end KT
set_option maxRecDepth 100000
set_option maxHeartbeats 2000000
namespace KT
open PySem PySem.Spec PyProof.Rows L2
/-- the key of a row, by its address -/
def keyOf (rs : List (Addr × List Int)) (a : Nat) (v : V) : Int := match rs.find? (fun x => decide (V.ref x.1 = v)) with
  | some x => ((Hm.fn x.2 a).natAbs : Int)
  | none => 0
theorem key_at {H : Hp} {rs : List (Addr × List Int)} {a : Nat} {x : Addr × List Int} (hrow : ∀ x ∈ rs, RT H x) (hx : x ∈ rs) : keyOf rs a (.ref x.1) = ((Hm.fn x.2 a).natAbs : Int) := by
  unfold keyOf
  cases h : rs.find? (fun y => decide (V.ref y.1 = V.ref x.1)) with
  | none =>
    have := List.find?_eq_none.mp h x hx
    simp at this
  | some y =>
    have h1 := List.find?_some h
    have h2 := List.mem_of_find?_eq_some h
    have h3 : y.1 = x.1 := by
      have := of_decide_eq_true h1
      injection this
    dsimp only
    rw [RT.uniq (hrow y h2) (hrow x hx) h3]
theorem abs_nat (i : Int) : (if i < 0 then -i else i) = (i.natAbs : Int) := by
  split <;> omega
section
variable {P : Program} {w : World} {K : PySem.W.Frag} {mg : Str → Option Value} {base : Heap}
variable {f c Pt fL fP : Addr} {fdL fdP : FuncData} {A : Around} {outer : List Env} {s : Shared} {H : Hp} {E : XK} {T : List (Addr × Str)}
theorem b0 (B : Bn mg) (TB : LamX.TabB base mg c Pt) (hm : (Pt, qS) ∈ T) (hu : ∀ p ∈ T, p.1 = Pt → p.2 = qS) (hr : Room 3 (A.deeper (envOfC "swept" (defScope sSwept) s.heap.objs.size f (.ref c)))) :
    ∃ t, PS (XS P w K mg base f c A outer s H E) (sb 0) t ∧ ∀ (D : Ends) (H0 : Hp) (q : Addr) (rs : List (Addr × List Int)) (a : Nat) (y0 y2 y4 y5 y6 : Option V), LamX.Tabs T H0 → RL H0 q rs → (∀ x ∈ rs, a < x.2.length) →
      (∀ H' p rs', LamX.ExtN H0 H' → LamX.Tabs T H' → RL H' p rs' → rs'.Perm rs → rs'.Pairwise (fun x y => (Hm.fn x.2 a).natAbs ≤ (Hm.fn y.2 a).natAbs) → D.nx [y0, some (.int (a : Nat)), y2, some (.ref q), some (.ref p), y5, y6, none] H') →
      t D [y0, some (.int (a : Nat)), y2, some (.ref q), y4, y5, y6, none] H0 := by
  refine ⟨_, ps_set (i := 4) scSwept.nd rfl (.inl rfl) (Rs.pe_ren NS' (Rs.e_sortL (X := Rs.Cx.ren (XS P w K mg base f c A outer s H E) NS') (T := T) (c := c) (P := Pt) (k := 0) rfl (by rfl) B.sorted boot_sorted (pv 3) TB rfl hm hu rfl (lam_ok B) hr)), ?_⟩
  intro D H0 q rs a y0 y2 y4 y5 y6 hT hR hlen nx
  refine ⟨⟨rfl, fun i hi => ?_⟩, _, rfl, q, _, keyOf rs a, rfl, hT, SqL.of hR.lst, ?_, ?_⟩
  · match i, hi with
    | 0, h => exact absurd rfl h
    | 1, h => exact absurd rfl h
    | 2, h => exact absurd rfl h
    | 3, h => exact absurd rfl h
    | 4, h => exact absurd rfl h
    | 5, h => exact absurd rfl h
    | 6, h => exact absurd rfl h
    | 7, h => rfl
    | (n + 8), h => exact absurd rfl h
  · intro v hv G eG
    obtain ⟨x, hx, rfl⟩ := List.mem_map.mp hv
    have hxr := hR.row x hx
    refine ⟨_, rfl, _, rfl, x.1, _, (a : Int), _, rfl, rfl, SqT.of (hxr.ext eG), row_at (hlen x hx), _, rfl, ?_, rfl⟩
    rw [abs_nat, key_at hR.row hx]
    rfl
  · intro ys p H3 pm pw _ e3 t3 hp
    obtain ⟨rs', pm', rfl⟩ := perm_lift (e := fun x : Addr × List Int => V.ref x.1) pm rs rfl
    have row3 : ∀ x ∈ rs', RT H3 x := fun x hx => (hR.row x (pm'.mem_iff.mp hx)).ext e3
    refine nx H3 p rs' e3 t3 ⟨hp, row3⟩ pm' ?_
    rw [List.pairwise_map] at pw
    refine List.Pairwise.imp_of_mem ?_ pw
    intro x y hx hy h
    rw [key_at hR.row (pm'.mem_iff.mp hx), key_at hR.row (pm'.mem_iff.mp hy)] at h
    omega
theorem b1 : ∃ t, PS (XS P w K mg base f c A outer s H E) (sb 1) t ∧ ∀ (D : Ends) (H0 : Hp) (p : Addr) (x : Addr × List Int) (rs : List (Addr × List Int)) (y0 y1 y2 y3 y5 y6 : Option V), RL H0 p (x :: rs) →
      D.nx [y0, y1, y2, y3, some (.ref p), some (.ref x.1), y6, none] H0 → t D [y0, y1, y2, y3, some (.ref p), y5, y6, none] H0 := by
  refine ⟨_, ps_set (i := 5) scSwept.nd rfl (.inr rfl) (pe_ix ix_list (pv 4) pe_int (fun _ _ => rfl)), ?_⟩
  intro D H0 p x rs y0 y1 y2 y3 y5 y6 hR nx
  exact ⟨_, rfl, p, _, 0, _, rfl, rfl, SqL.of hR.lst, atI_nat (j := 0) rfl, nx⟩
theorem cut_tail (xs : List V) (x : V) : cutV (x :: xs) (some 1) none = xs := by
  unfold cutV
  rw [HT.sIx_none, show (1 : Int) = ((1 : Nat) : Int) from rfl, HT.sIx_nat, List.length_cons]
  have e : min 1 (xs.length + 1) = 1 := by omega
  rw [e]
  show (xs.take (xs.length + 1 - 1)) = xs
  rw [Nat.add_sub_cancel, List.take_length]
theorem b2 (cL : Cb P w K mg base CX0 1 "less" ["row", "other", "times"] (spLess K) fL fdL) (hr : Room 3 (A.deeper (envOfC "swept" (defScope sSwept) s.heap.objs.size f (.ref c)))) :
    ∃ t, PS (XS P w K mg base f c A outer s H E) (sb 2) t ∧ ∀ (D : Ends) (H0 : Hp) (p : Addr) (l : Addr × List Int) (rs : List (Addr × List Int)) (n a b : Nat) (y0 y2 y3 y6 : Option V), RL H0 p (l :: rs) → (∀ x ∈ l :: rs, x.2.length = n) → a < n → n ≤ 3 → b ≤ 8000 → (∀ x ∈ l :: rs, ∀ j, (Hm.fn x.2 j).natAbs < 2 ^ (b + 1)) → Hm.fn l.2 a ≠ 0 → rs.length ≤ 1000 →
      (∀ H' q ys, Same H0 H' → RL H' q ys → rw_ ys = Hm.smr a l.2 (rw_ rs) → D.nx [y0, some (.int (a : Nat)), y2, y3, some (.ref p), some (.ref l.1), some (.ref q), none] H') → t D [y0, some (.int (a : Nat)), y2, y3, some (.ref p), some (.ref l.1), y6, none] H0 := by
  have r1 : Room 1 (A.deeper (envOfC "swept" (defScope sSwept) s.heap.objs.size f (.ref c))) := hr.mono (by decide)
  refine ⟨_, ps_setLc (i := 6) (own := [("row", 7)]) (g := gName 7) (tt := tYes) (te := tCall (spLess K) [] E0 (tCons (tVar 7) (tCons (tVar 5) (tCons (tOp (rI (fun _ j => j ≠ 0 ∧ j.natAbs.log2 < 9000) fun i j => .int (i.fdiv j)) (tOp (rIxT K) (tVar 7) (tVar 1)) (tOp (rIxT K) (tVar 5) (tVar 1))) tNil)))) rfl scSwept.nd rfl rfl (sw_true rfl rfl rfl (by decide +kernel)) (pi_list (pe_slice sl_list (pv 4) (po_some pe_int) po_none))
      (blkOk_by (N := NS) (sc := defScope sSwept) (by decide +kernel)) (fun _ _ _ _ _ => pg_name (i := 7) scSwept.nd rfl (Or.inl rfl)) (fun _ _ _ _ _ => pts_nil)
      (fun _ _ _ _ _ => pe_call cL.ok r1 (by rfl) cL.g cL.kp cL.b .nil pass0 (pa_cons (pv 7) (pa_cons (pv 5) (pa_cons (pe_op Rs.op_fdivF (pe_ix ix_tup (pv 7) (pv 1) (fun _ _ => rfl)) (pe_ix ix_tup (pv 5) (pv 1) (fun _ _ => rfl))) pa_nil)))), ?_⟩
  intro D H0 p l rs n a b y0 y2 y3 y6 hR hlen ha hn hb hbd hz h1000 nx
  refine ⟨_, rfl, _, rfl, p, _, rfl, SqL.of hR.lst, fun q0 nq0 => ?_⟩
  have s0 := same_new (o := .lst (cutV (rf (l :: rs)) (some 1) none)) nq0
  have ec : cutV (rf (l :: rs)) (some 1) none = rf rs := cut_tail _ _
  rw [ec] at s0 ⊢
  refine ⟨q0, rfl, ⟨_, SqL.of upd_same⟩, fun D2 nD2 => ?_⟩
  have hl0 : RT H0 l := hR.row l List.mem_cons_self
  refine lc_rows (e := fun x : Addr × List Int => V.ref x.1) (walk_list (K := K) (a := q0)) (te := tCall (spLess K) [] E0 (tCons (tVar 7) (tCons (tVar 5) (tCons (tOp (rI (fun _ j => j ≠ 0 ∧ j.natAbs.log2 < 9000) fun i j => .int (i.fdiv j)) (tOp (rIxT K) (tVar 7) (tVar 1)) (tOp (rIxT K) (tVar 5) (tVar 1))) tNil)))) (σ := [y0, some (.int (a : Nat)), y2, y3, some (.ref p), some (.ref l.1), y6, none]) (i := 7) (fun x => Hm.lsl x.2 l.2 ((Hm.fn x.2 a).fdiv (Hm.fn l.2 a))) (Nat.lt_of_le_of_lt h1000 (by decide)) nD2 (fun H2 s2 => SqL.of (s2 _ _ upd_same)) ?_ ?_
  · intro x H2 Q hx s2 hQ
    have s02 : Same H0 H2 := s0.trans s2
    have hxm : x ∈ l :: rs := List.mem_cons_of_mem _ hx
    have hxr := (hR.row x hxm).same s02
    have hlr := hl0.same s02
    have lb : (Hm.fn l.2 a).natAbs < 2 ^ (b + 1) := hbd l List.mem_cons_self a
    refine ⟨_, rfl, _, rfl, _, rfl, _, rfl, x.1, _, (a : Int), _, rfl, rfl, SqT.of hxr, row_at (by rw [hlen x hxm]; exact ha), _, rfl, _, rfl, l.1, _, (a : Int), _, rfl, rfl, SqT.of hlr, row_at (by rw [hlen l List.mem_cons_self]; exact ha), _, _, rfl, rfl, ⟨hz, ?_⟩, x.1, l.1, x.2, l.2, (Hm.fn x.2 a).fdiv (Hm.fn l.2 a), rfl, SqT.of hxr, SqT.of hlr, ?_, ?_, ?_, fun H3 p3 s3 np3 hp3 => hQ H3 p3 s3 hp3⟩
    · exact Nat.lt_of_lt_of_le (PySem.Flt.log2_lt_of (by omega) lb) (by omega)
    · rw [hlen x hxm, hlen l List.mem_cons_self]
    · rw [hlen x hxm]
      exact hn
    · intro y hy
      have hq : ((Hm.fn x.2 a).fdiv (Hm.fn l.2 a)).natAbs < 2 ^ (b + 2) := by
        have h1 := (Hm.rest_sign (x := Hm.fn x.2 a) hz).2.2
        have h2 := hbd x hxm a
        have h3 : 2 ^ (b + 2) = 2 ^ (b + 1) + 2 ^ (b + 1) := by rw [Nat.pow_succ]; omega
        have h4 : 1 ≤ 2 ^ (b + 1) := Nat.pow_pos (by omega)
        omega
      have hy2 : y.natAbs < 2 ^ (b + 1) := by
        obtain ⟨j, hj⟩ := List.mem_iff_getElem?.mp hy
        have := hbd l List.mem_cons_self j
        unfold Hm.fn at this
        rw [List.getD_eq_getElem?_getD, hj] at this
        exact this
      exact wide_mul hq hy2 (by omega) (by omega) (by omega)
  · intro H2 ys s2 hR2 hy
    refine nx H2 D2 ys (s0.trans s2) hR2 ?_
    rw [hy]
    unfold Hm.smr
    rw [List.map_map]
    rfl
end
end KT
set_option maxRecDepth 100000
set_option maxHeartbeats 2000000
namespace KT
open PySem PySem.Spec PyProof.Rows L2
/-- while, by a word with a number that goes down -/
theorem while_m {c : TT} {tb : TS} {D : Ends} {σ : L2.St} {H : Hp} (Pv : Nat → L2.St → Hp → Prop) {m0 : Nat} (h0 : Pv m0 σ H)
    (hs : ∀ m σ H, Pv m σ H → c σ H fun b H1 => if b = true then tb { D with nx := fun σ' H' => ∃ m', m' < m ∧ Pv m' σ' H', ct := fun σ' H' => ∃ m', m' < m ∧ Pv m' σ' H', bk := D.nx } σ H1 else D.nx σ H1)
    (mono : ∀ σ H Q Q', (∀ b H1, Q b H1 → Q' b H1) → c σ H Q → c σ H Q') : tWhile c tb D σ H := by
  refine ⟨Pv, ⟨m0, h0⟩, ?_⟩
  intro m σ H p
  refine mono σ H _ _ (fun b H1 q => ?_) (hs m σ H p)
  cases b with
  | true => exact ⟨_, fun σ' H' h => h, q⟩
  | false => exact q
section
variable {P : Program} {w : World} {K : PySem.W.Frag} {mg : Str → Option Value} {base : Heap}
variable {f c Pt fL fP : Addr} {fdL fdP : FuncData} {A : Around} {outer : List Env} {s : Shared} {H : Hp} {E : XK} {T : List (Addr × Str)}
theorem b3 : ∃ t, PS (XS P w K mg base f c A outer s H E) (sb 3) t ∧ ∀ (D : Ends) (H0 : Hp) (qc q : Addr) (cl ys : List (Addr × List Int)) (a : Nat) (y0 y3 y4 y5 : Option V), RL H0 qc cl → RL H0 q ys → (∀ x ∈ ys, a < x.2.length) → cl.length ≤ 1000 → ys.length ≤ 1000 →
      (∀ H' p, Same H0 H' → RL H' p (cl ++ ys.filter fun x => decide (Hm.fn x.2 a = 0)) → D.nx [y0, some (.int (a : Nat)), some (.ref p), y3, y4, y5, some (.ref q), none] H') → t D [y0, some (.int (a : Nat)), some (.ref qc), y3, y4, y5, some (.ref q), none] H0 := by
  refine ⟨_, ps_set (i := 2) scSwept.nd rfl (.inl rfl) (pe_op op_cat (pv 2) (pe_lc (own := [("row", 7)]) (g := gName 7) (tt := tTest (tOp rEq (tOp (rIxT K) (tVar 7) (tVar 1)) (tC (.int 0)))) (te := tVar 7) rfl scSwept.nd (pi_list (pv 6))
      (blkOk_by (N := NS) (sc := defScope sSwept) (by decide +kernel)) (fun _ _ _ _ _ => pg_name (i := 7) scSwept.nd rfl (Or.inl rfl)) (fun _ _ _ _ _ => pts_one (pt_cmpR op_eq (pe_ix ix_tup (pv 7) (pv 1) (fun _ _ => rfl)) pe_int (nomark _)))
      (fun _ _ _ _ _ => pv 7))), ?_⟩
  intro D H0 qc q cl ys a y0 y3 y4 y5 hC hY hlen c1000 h1000 nx
  refine ⟨_, rfl, _, rfl, q, rfl, ⟨_, SqL.of hY.lst⟩, fun D2 nD2 => ?_⟩
  refine lc_sel (e := fun x => V.ref x.1) (out := fun x => V.ref x.1) (walk_list (K := K) (a := q)) (σ := [y0, some (.int (a : Nat)), some (.ref qc), y3, y4, y5, some (.ref q), none]) (i := 7) (fun x : Addr × List Int => decide (Hm.fn x.2 a = 0)) (Nat.lt_of_le_of_lt h1000 (by decide)) nD2 (fun H2 s2 => sqL_ext s2 (SqL.of hY.lst)) ?_ ?_ ?_
  · intro x H2 Q hx s2 hQ
    refine ⟨_, rfl, _, rfl, x.1, _, (a : Int), _, rfl, rfl, SqT.of ((hY.row x hx).same s2), row_at (hlen x hx), rfl, _, rfl, ?_⟩
    have e : decide (V.int (x.2.getD a 0) = V.int 0) = decide (Hm.fn x.2 a = 0) := by
      rw [dec_int]
      exact (Bool.beq_eq_decide_eq _ _)
    rw [e]
    exact hQ
  · intro x H2 Q hx _ s2 hQ
    exact ⟨_, rfl, hQ H2 (Same.refl _)⟩
  · intro H2 s2 hD2
    refine ⟨qc, D2, _, _, rfl, rfl, s2 _ _ hC.lst, hD2, ?_, fun p np => ?_⟩
    · have h1 : ((ys.filter fun x => decide (Hm.fn x.2 a = 0)).length) ≤ ys.length := List.length_filter_le _ _
      rw [List.length_map, List.length_map]
      exact Nat.le_trans (show cl.length + _ ≤ 2000 by omega) (by decide)
    · have sp := same_new (o := .lst (rf cl ++ (List.filter (fun x => decide (Hm.fn x.2 a = 0)) ys).map fun x => V.ref x.1)) np
      refine nx _ p (s2.trans sp) ⟨?_, fun x hx => ?_⟩
      · rw [upd_same]
        exact congrArg (fun z => some (HO.lst z)) (List.map_append).symm
      · refine RT.same ?_ (s2.trans sp)
        rcases List.mem_append.mp hx with hx | hx
        · exact hC.row x hx
        · exact hY.row x (List.mem_filter.mp hx).1
theorem b4 : ∃ t, PS (XS P w K mg base f c A outer s H E) (sb 4) t ∧ ∀ (D : Ends) (H0 : Hp) (q : Addr) (l : Addr × List Int) (ys : List (Addr × List Int)) (a : Nat) (y0 y2 y3 y4 : Option V), RT H0 l → RL H0 q ys → (∀ x ∈ ys, a < x.2.length) → ys.length ≤ 1000 →
      (∀ H' p, Same H0 H' → RL H' p (l :: ys.filter fun x => decide (Hm.fn x.2 a ≠ 0)) → D.nx [y0, some (.int (a : Nat)), y2, some (.ref p), y4, some (.ref l.1), some (.ref q), none] H') → t D [y0, some (.int (a : Nat)), y2, y3, y4, some (.ref l.1), some (.ref q), none] H0 := by
  refine ⟨_, ps_set (i := 3) scSwept.nd rfl (.inl rfl) (pe_op op_cat (pe_lst (pa_cons (pv 5) pa_nil)) (pe_lc (own := [("row", 7)]) (g := gName 7) (tt := tTest (tOp rNe (tOp (rIxT K) (tVar 7) (tVar 1)) (tC (.int 0)))) (te := tVar 7) rfl scSwept.nd (pi_list (pv 6))
      (blkOk_by (N := NS) (sc := defScope sSwept) (by decide +kernel)) (fun _ _ _ _ _ => pg_name (i := 7) scSwept.nd rfl (Or.inl rfl)) (fun _ _ _ _ _ => pts_one (pt_cmpR op_ne (pe_ix ix_tup (pv 7) (pv 1) (fun _ _ => rfl)) pe_int (nomark _)))
      (fun _ _ _ _ _ => pv 7))), ?_⟩
  intro D H0 q l ys a y0 y2 y3 y4 hl hY hlen h1000 nx
  refine ⟨_, rfl, (by show 1 ≤ sizeLine; decide), fun p1 np1 => ?_⟩
  have s1 := same_new (o := .lst [.ref l.1]) np1
  refine ⟨_, rfl, q, rfl, ⟨_, SqL.of (s1 _ _ hY.lst)⟩, fun D2 nD2 => ?_⟩
  refine lc_sel (e := fun x => V.ref x.1) (out := fun x => V.ref x.1) (walk_list (K := K) (a := q)) (σ := [y0, some (.int (a : Nat)), y2, y3, y4, some (.ref l.1), some (.ref q), none]) (i := 7) (fun x : Addr × List Int => decide (Hm.fn x.2 a ≠ 0)) (Nat.lt_of_le_of_lt h1000 (by decide)) nD2 (fun H2 s2 => sqL_ext (s1.trans s2) (SqL.of hY.lst)) ?_ ?_ ?_
  · intro x H2 Q hx s2 hQ
    refine ⟨_, rfl, _, rfl, x.1, _, (a : Int), _, rfl, rfl, SqT.of ((hY.row x hx).same (s1.trans s2)), row_at (hlen x hx), rfl, _, rfl, ?_⟩
    have e : (!decide (V.int (x.2.getD a 0) = V.int 0)) = decide (Hm.fn x.2 a ≠ 0) := by
      rw [dec_int]
      show (!(Hm.fn x.2 a == 0)) = _
      rw [Bool.beq_eq_decide_eq]
      exact (decide_not).symm
    rw [e]
    exact hQ
  · intro x H2 Q hx _ s2 hQ
    exact ⟨_, rfl, hQ H2 (Same.refl _)⟩
  · intro H2 s2 hD2
    refine ⟨p1, D2, _, _, rfl, rfl, s2 _ _ upd_same, hD2, ?_, fun p np => ?_⟩
    · have h1 : ((ys.filter fun x => decide (Hm.fn x.2 a ≠ 0)).length) ≤ ys.length := List.length_filter_le _ _
      rw [List.length_map]
      exact Nat.le_trans (show 1 + _ ≤ 2000 by omega) (by decide)
    · have sp := same_new (o := .lst ([.ref l.1] ++ (List.filter (fun x => decide (Hm.fn x.2 a ≠ 0)) ys).map fun x => V.ref x.1)) np
      refine nx _ p ((s1.trans s2).trans sp) ⟨?_, fun x hx => ?_⟩
      · rw [upd_same]
        rfl
      · refine RT.same ?_ ((s1.trans s2).trans sp)
        rcases List.mem_cons.mp hx with rfl | hx
        · exact hl
        · exact hY.row x (List.mem_filter.mp hx).1
end
/-- rows of a width, zero before a, with numbers up to 2 ^ b -/
def Rk (w a b : Nat) (r : List Int) : Prop := r.length = w ∧ (∀ j, j < a → Hm.fn r j = 0) ∧ ∀ j, (Hm.fn r j).natAbs ≤ 2 ^ b
def spSwept (K : PySem.W.Frag) (T : List (Addr × Str)) : Sp := fun vs H Q _ => ∃ (l : Addr) (rs : List (Addr × List Int)) (w a b n : Nat), vs = [.ref l, .int (a : Nat)] ∧ RI K H l rs ∧ LamX.Tabs T H ∧ a < w ∧ w ≤ 3 ∧ 1 ≤ b ∧ b ≤ 1200 ∧ rs.length ≤ n ∧ n ≤ 200 ∧ (∀ r ∈ rw_ rs, Rk w a b r) ∧
  ∀ (H' : Hp) (p q : Addr) (v : V) (cl : List (Addr × List Int)), LamX.ExtN H H' → LamX.Tabs T H' → H' p = some (.tup [v, .ref q]) → RL H' q cl → (∀ r ∈ rw_ cl, Rk w a (5 * b + n + 1) r) → cl.length ≤ rs.length →
    ((v = .non ∧ Hm.Swp a ((rw_ rs).map Hm.fn) none ((rw_ cl).map Hm.fn)) ∨ ∃ x : Addr × List Int, v = .ref x.1 ∧ RT H' x ∧ Rk w a (5 * b + n + 1) x.2 ∧ (Hm.fn x.2 a).natAbs ≤ 2 ^ b ∧ Hm.Swp a ((rw_ rs).map Hm.fn) (some (Hm.fn x.2)) ((rw_ cl).map Hm.fn)) → Q (.ref p) H'
end KT
set_option maxRecDepth 100000
set_option maxHeartbeats 2000000
namespace KT
open PySem PySem.Spec PyProof.Rows L2
theorem rw_zl (a : Nat) (ys : List (Addr × List Int)) : rw_ (ys.filter fun x => decide (Hm.fn x.2 a = 0)) = Hm.zl a (rw_ ys) := by
  unfold Hm.zl
  rw [List.filter_map]
  rfl
theorem rw_nl (a : Nat) (ys : List (Addr × List Int)) : rw_ (ys.filter fun x => decide (Hm.fn x.2 a ≠ 0)) = Hm.nl a (rw_ ys) := by
  unfold Hm.nl
  rw [List.filter_map]
  rfl
theorem rw_mem {rs : List (Addr × List Int)} {x : Addr × List Int} (h : x ∈ rs) : x.2 ∈ rw_ rs := List.mem_map.mpr ⟨x, h, rfl⟩
theorem swb_is : swb = [sb 0, sb 1, sb 2, sb 3, sb 4] := rfl
theorem sw_is : defBody sSwept = [sw 0, sw 1, sw 2, sw 3, sw 4] := rfl
section
variable {P : Program} {w : World} {K : PySem.W.Frag} {mg : Str → Option Value} {base : Heap}
variable {f c Pt fL fP : Addr} {fdL fdP : FuncData} {A : Around} {outer : List Env} {s : Shared} {H : Hp} {E : XK} {T : List (Addr × Str)}
/-- what holds at the while -/
def Wv (T : List (Addr × Str)) (l : Addr) (w a b n : Nat) (R : List (List Int)) (H0 : Hp) (m : Nat) (σ : L2.St) (H : Hp) : Prop := ∃ (qc qr : Addr) (cl rest : List (Addr × List Int)) (y4 y5 y6 : Option V),
  σ = [some (.ref l), some (.int (a : Nat)), some (.ref qc), some (.ref qr), y4, y5, y6, none] ∧ LamX.ExtN H0 H ∧ LamX.Tabs T H ∧ RL H qc cl ∧ RL H qr rest ∧ Hm.Swi w a b n R (rw_ cl) (rw_ rest) ∧ m = Hm.mas a ((rw_ rest).map Hm.fn)
theorem wbody (B : Bn mg) (TB : LamX.TabB base mg c Pt) (hm : (Pt, qS) ∈ T) (hu : ∀ p ∈ T, p.1 = Pt → p.2 = qS) (cL : Cb P w K mg base CX0 1 "less" ["row", "other", "times"] (spLess K) fL fdL) (hr : Room 3 (A.deeper (envOfC "swept" (defScope sSwept) s.heap.objs.size f (.ref c)))) :
    ∃ t, PSs (XS P w K mg base f c A outer s H E) swb t ∧ ∀ (D : Ends) (l : Addr) (wd a b n : Nat) (R : List (List Int)) (H0 H1 : Hp) (qc qr : Addr) (cl rest : List (Addr × List Int)) (y4 y5 y6 : Option V),
      LamX.ExtN H0 H1 → LamX.Tabs T H1 → RL H1 qc cl → RL H1 qr rest → Hm.Swi wd a b n R (rw_ cl) (rw_ rest) → 1 < rest.length → a < wd → wd ≤ 3 → 1 ≤ b → b ≤ 1200 → R.length ≤ n → n ≤ 200 →
      (∀ σ' H' m', m' < Hm.mas a ((rw_ rest).map Hm.fn) → Wv T l wd a b n R H0 m' σ' H' → D.nx σ' H') →
      t D [some (.ref l), some (.int (a : Nat)), some (.ref qc), some (.ref qr), y4, y5, y6, none] H1 := by
  obtain ⟨t0, p0, q0⟩ := b0 (P := P) (w := w) (K := K) (base := base) (outer := outer) (H := H) (E := E) B TB hm hu hr
  obtain ⟨t1, p1, q1⟩ := b1 (P := P) (w := w) (K := K) (mg := mg) (base := base) (f := f) (c := c) (A := A) (outer := outer) (s := s) (H := H) (E := E)
  obtain ⟨t2, p2, q2⟩ := b2 (c := c) (outer := outer) (H := H) (E := E) cL hr
  obtain ⟨t3, p3, q3⟩ := b3 (P := P) (w := w) (K := K) (mg := mg) (base := base) (f := f) (c := c) (A := A) (outer := outer) (s := s) (H := H) (E := E)
  obtain ⟨t4, p4, q4⟩ := b4 (P := P) (w := w) (K := K) (mg := mg) (base := base) (f := f) (c := c) (A := A) (outer := outer) (s := s) (H := H) (E := E)
  rw [swb_is]
  refine ⟨_, pss_cons p0 (pss_cons p1 (pss_cons p2 (pss_cons p3 (pss_one p4)))), ?_⟩
  intro D l wd a b n R H0 H1 qc qr cl rest y4 y5 y6 eX tb hC hR sI hlen ha hw hb hb2 hn hn2 nx
  have lens : ∀ x, x ∈ rest → x.2.length = wd := fun x hx => sI.len x.2 (.inr (rw_mem hx))
  have szs := sI.sz
  rw [List.length_map, List.length_map] at szs
  refine q0 _ H1 qr rest a _ _ y4 y5 y6 tb hR (fun x hx => by rw [lens x hx]; exact ha) fun H2 po rs' e2 tb2 hO pm pw => ?_
  obtain ⟨x0, xs, rfl⟩ : ∃ x0 xs, rs' = x0 :: xs := by
    cases rs' with
    | nil =>
      have := pm.length_eq
      simp at this
      omega
    | cons x0 xs => exact ⟨x0, xs, rfl⟩
  have lx : ∀ x ∈ x0 :: xs, x.2.length = wd := fun x hx => lens x (pm.mem_iff.mp hx)
  have pl := pm.length_eq
  rw [List.length_cons] at pl
  refine q1 _ H2 po x0 xs _ _ _ _ y5 y6 hO ?_
  have z0 : Hm.fn x0.2 a ≠ 0 := sI.rz x0.2 (rw_mem (pm.mem_iff.mp List.mem_cons_self))
  have bds : ∀ x ∈ x0 :: xs, ∀ j, (Hm.fn x.2 j).natAbs < 2 ^ (5 * b + n + 1 + 1) := fun x hx j => by
    have h1 := Hm.swi_bd sI x.2 (.inr (rw_mem (pm.mem_iff.mp hx))) j
    have h2 : 2 ^ (5 * b + n + 1) < 2 ^ (5 * b + n + 1 + 1) := Nat.pow_lt_pow_right (by omega) (by omega)
    omega
  refine q2 _ H2 po x0 xs wd a (5 * b + n + 1) _ _ _ y6 hO lx ha hw (by omega) bds z0 (by omega) fun H3 qm ys s3 hM hy => ?_
  have hC3 : RL H3 qc cl := (hC.ext e2).same s3
  have ly : ∀ x ∈ ys, a < x.2.length := by
    intro x hx
    have hm : x.2 ∈ Hm.smr a x0.2 (rw_ xs) := by
      rw [← hy]
      exact rw_mem hx
    obtain ⟨r, hr1, hr2⟩ := List.mem_map.mp hm
    obtain ⟨x1, hx1, rfl⟩ := List.mem_map.mp hr1
    rw [← hr2, Hm.lsl_len (lx x1 (List.mem_cons_of_mem _ hx1)) (lx x0 List.mem_cons_self)]
    exact ha
  have yl : ys.length = xs.length := by
    have h1 : (rw_ ys).length = (Hm.smr a x0.2 (rw_ xs)).length := by rw [hy]
    unfold Hm.smr at h1
    simpa using h1
  refine q3 _ H3 qc qm cl ys a _ _ _ _ hC3 hM ly (by omega) (by omega) fun H4 pc s4 hC4 => ?_
  refine q4 _ H4 qm x0 ys a _ _ _ _ (((hO.row x0 List.mem_cons_self).same s3).same s4) (hM.same s4) ly (by omega) fun H5 pr s5 hR5 => ?_
  have pm2 : (x0.2 :: rw_ xs).Perm (rw_ rest) := by
    have := pm.map (fun x : Addr × List Int => x.2)
    simpa using this
  have mn : ∀ r ∈ rw_ xs, (Hm.fn x0.2 a).natAbs ≤ (Hm.fn r a).natAbs := by
    intro r hr
    obtain ⟨x1, hx1, rfl⟩ := List.mem_map.mp hr
    exact (List.pairwise_cons.mp pw).1 x1 hx1
  have hne : rw_ xs ≠ [] := by
    intro z
    have h1 : (rw_ xs).length = 0 := by rw [z]; rfl
    rw [List.length_map] at h1
    omega
  obtain ⟨sI', lt⟩ := Hm.swi_round hb hn sI pm2 mn hne
  refine nx _ H5 _ lt ⟨pc, pr, _, _, _, _, _, rfl, ((eX.trans e2).trans (.of s3)).trans ((LamX.ExtN.of s4).trans (.of s5)), ((tb2.ext s3).ext s4).ext s5, hC4.same s5, hR5, ?_, ?_⟩
  · have e1 : rw_ (cl ++ ys.filter fun x => decide (Hm.fn x.2 a = 0)) = rw_ cl ++ Hm.zl a (Hm.smr a x0.2 (rw_ xs)) := by
      rw [← hy, ← rw_zl]
      exact List.map_append
    have e2 : rw_ (x0 :: ys.filter fun x => decide (Hm.fn x.2 a ≠ 0)) = x0.2 :: Hm.nl a (Hm.smr a x0.2 (rw_ xs)) := by
      rw [← hy, ← rw_nl]
      rfl
    rw [e1, e2]
    exact sI'
  · have e2 : rw_ (x0 :: ys.filter fun x => decide (Hm.fn x.2 a ≠ 0)) = x0.2 :: Hm.nl a (Hm.smr a x0.2 (rw_ xs)) := by
      rw [← hy, ← rw_nl]
      rfl
    rw [e2]
end
end KT
set_option maxRecDepth 100000
set_option maxHeartbeats 2000000
namespace KT
open PySem PySem.Spec PyProof.Rows L2
def spPosT (K : PySem.W.Frag) : Sp := fun vs H Q _ => ∃ (a : Addr) (r : List Int) (n : Nat), vs = [.ref a, .int (n : Nat)] ∧ RT H (a, r) ∧ n < r.length ∧ r.length ≤ 3 ∧ ∀ H' p, Same H H' → RT H' (p, sgl r n) → Q (.ref p) H'
section
variable {P : Program} {w : World} {K : PySem.W.Frag} {mg : Str → Option Value} {base : Heap}
theorem ok_posT {f : Addr} {fd : FuncData} {k : Nat} (F : Fun K "with_positive" "with_positive" sPositive f fd) (B : Bn mg) : FnOk P w K mg base CX0 (k + 1) f fd ["row", "at"] (spPosT K) := by
  refine F.ok scPositive (fun vs H Q E h => ?_) (fun cdv A outer s H vs Q E hr h => ?_)
  · obtain ⟨a, r, n, rfl, _⟩ := h
    rfl
  · obtain ⟨a, r, n, rfl, ha, hn, h3, q⟩ := h
    refine ⟨_, pss_cons (ps_if (pt_cmpR op_gt (pe_ix ix_tup (pv 0) (pv 1) (fun _ _ => rfl)) pe_int (nomark _)) (pss_one (ps_ret (pv 0))) pss_nil)
      (pss_one (ps_ret (pe_callTy call_tuple_of (by rfl) B.tuple boot_tuple (pa_cons (pe_lc (own := [("number", 2)]) (g := gName 2) (tt := tYes) rfl scPositive.nd (pi_tup (pv 0))
        (blkOk_by (N := ["row", "at", "number"]) (sc := defScope sPositive) (by decide +kernel)) (fun _ _ _ _ _ => pg_name (i := 2) scPositive.nd rfl (Or.inl rfl)) (fun _ _ _ _ _ => pts_nil)
        (fun _ _ _ _ _ => pe_un un_neg (pv 2))) pa_nil)))), ?_⟩
    refine ⟨_, rfl, _, rfl, a, _, (n : Int), _, rfl, rfl, SqT.of ha, row_at hn, _, _, rfl, rfl, _, rfl, ?_⟩
    by_cases hp : 0 < r.getD n 0
    · rw [decide_eq_true hp]
      refine iteT ⟨_, rfl, ?_⟩
      refine q H a (Same.refl _) ?_
      unfold sgl
      rw [if_pos hp]
      exact ha
    · rw [decide_eq_false hp]
      refine iteF ?_
      refine ⟨_, rfl, a, rfl, ⟨_, SqT.of ha⟩, fun D nD => ?_⟩
      refine lc_pure walk_tup (σ := [some (.ref a), some (.int (n : Nat)), none]) (i := 2) (fun v => match v with | .int x => .int (-x) | v => v) (fun _ => true) (by rw [List.length_map]; exact Nat.lt_of_le_of_lt h3 (by decide)) nD (fun H2 s2 => Rs.sqT_ext s2 (SqT.of ha)) (fun x H2 Q _ _ h => h) ?_ ?_
      · intro x H2 Q2 hx _ _ h
        obtain ⟨c, hc, rfl⟩ := List.mem_map.mp hx
        exact ⟨_, rfl, _, rfl, h H2 (Same.refl _)⟩
      · intro H2 s2 hD
        refine ⟨D, _, rfl, .inl ⟨SqL.of hD, fun p2 np2 => ?_⟩⟩
        refine q _ p2 (s2.trans (same_new np2)) ?_
        show upd _ p2 _ p2 = some (HO.tup (List.map V.int (sgl r n)))
        rw [upd_same, List.filter_eq_self.mpr (by simp), List.map_map]
        unfold sgl
        rw [if_neg hp, List.map_map]
        rfl
end
section
variable {P : Program} {w : World} {K : PySem.W.Frag} {mg : Str → Option Value} {base : Heap}
variable {f c Pt fL fP : Addr} {fdL fdP : FuncData} {A : Around} {outer : List Env} {s : Shared} {H : Hp} {E : XK} {T : List (Addr × Str)}
theorem w2 (B : Bn mg) (TB : LamX.TabB base mg c Pt) (hm : (Pt, qS) ∈ T) (hu : ∀ p ∈ T, p.1 = Pt → p.2 = qS) (cL : Cb P w K mg base CX0 1 "less" ["row", "other", "times"] (spLess K) fL fdL) (hr : Room 3 (A.deeper (envOfC "swept" (defScope sSwept) s.heap.objs.size f (.ref c)))) :
    ∃ t, PS (XS P w K mg base f c A outer s H E) (sw 2) t ∧ ∀ (D : Ends) (l : Addr) (wd a b n : Nat) (R : List (List Int)) (H0 H1 : Hp) (qc qr : Addr) (cl rest : List (Addr × List Int)) (y4 y5 y6 : Option V),
      LamX.ExtN H0 H1 → LamX.Tabs T H1 → RL H1 qc cl → RL H1 qr rest → Hm.Swi wd a b n R (rw_ cl) (rw_ rest) → a < wd → wd ≤ 3 → 1 ≤ b → b ≤ 1200 → R.length ≤ n → n ≤ 200 →
      (∀ (H' : Hp) (qc qr : Addr) (cl rest : List (Addr × List Int)) (y4 y5 y6 : Option V), LamX.ExtN H0 H' → LamX.Tabs T H' → RL H' qc cl → RL H' qr rest → Hm.Swi wd a b n R (rw_ cl) (rw_ rest) → rest.length ≤ 1 → D.nx [some (.ref l), some (.int (a : Nat)), some (.ref qc), some (.ref qr), y4, y5, y6, none] H') →
      t D [some (.ref l), some (.int (a : Nat)), some (.ref qc), some (.ref qr), y4, y5, y6, none] H1 := by
  obtain ⟨tb, pb, qb⟩ := wbody (P := P) (w := w) (K := K) (base := base) (outer := outer) (H := H) (E := E) B TB hm hu cL hr
  refine ⟨_, ps_while PassesOwn.never (pt_cmpR op_gt (pe_callB call_len_seq (by rfl) B.len PySem.boot_len (pa_cons (pv 3) pa_nil)) pe_int (nomark _)) pb, ?_⟩
  intro D l wd a b n R H0 H1 qc qr cl rest y4 y5 y6 eX tb1 hC hR sI ha hw hb hb2 hn hn2 nx
  refine while_m (Wv T l wd a b n R H0) (m0 := _) ⟨qc, qr, cl, rest, y4, y5, y6, rfl, eX, tb1, hC, hR, sI, rfl⟩ ?_ ?_
  · rintro m σ H2 ⟨qc2, qr2, cl2, rest2, z4, z5, z6, rfl, eX2, tb2, hC2, hR2, sI2, rfl⟩
    refine ⟨_, rfl, qr2, _, rfl, .inl (SqL.of hR2.lst), _, _, rfl, rfl, _, rfl, ?_⟩
    rw [List.length_map]
    by_cases h1 : 1 < rest2.length
    · rw [decide_eq_true (by omega : (1 : Int) < (rest2.length : Int))]
      refine iteT ?_
      exact qb _ l wd a b n R H0 H2 qc2 qr2 cl2 rest2 z4 z5 z6 eX2 tb2 hC2 hR2 sI2 h1 ha hw hb hb2 hn hn2 fun σ' H' m' hm' hW => ⟨m', hm', hW⟩
    · rw [decide_eq_false (by omega : ¬ (1 : Int) < (rest2.length : Int))]
      refine iteF ?_
      exact nx H2 qc2 qr2 cl2 rest2 z4 z5 z6 eX2 tb2 hC2 hR2 sI2 (by omega)
  · intro σ H Q Q' hQ h
    obtain ⟨v, hv, p, ys, e, hs, i, j, e1, e2, k, e3, q⟩ := h
    exact ⟨v, hv, p, ys, e, hs, i, j, e1, e2, k, e3, hQ _ _ q⟩
theorem w34 (cP : Cb P w K mg base CX0 1 "with_positive" ["row", "at"] (spPosT K) fP fdP) (hr : Room 3 (A.deeper (envOfC "swept" (defScope sSwept) s.heap.objs.size f (.ref c)))) :
    ∃ t, PSs (XS P w K mg base f c A outer s H E) [sw 3, sw 4] t ∧ ∀ (D : Ends) (l : Addr) (wd a b n : Nat) (R : List (List Int)) (H1 : Hp) (qc qr : Addr) (cl rest : List (Addr × List Int)) (y4 y5 y6 : Option V),
      RL H1 qc cl → RL H1 qr rest → Hm.Swi wd a b n R (rw_ cl) (rw_ rest) → a < wd → wd ≤ 3 → rest.length ≤ 1 →
      (∀ (H' : Hp) (p : Addr) (v : V), Same H1 H' → H' p = some (.tup [v, .ref qc]) → ((v = .non ∧ rest = []) ∨ ∃ (y : Addr × List Int) (x : Addr), rest = [y] ∧ v = .ref x ∧ RT H' (x, sgl y.2 a)) → D.rt (.ref p) H') →
      t D [some (.ref l), some (.int (a : Nat)), some (.ref qc), some (.ref qr), y4, y5, y6, none] H1 := by
  have r1 : Room 1 (A.deeper (envOfC "swept" (defScope sSwept) s.heap.objs.size f (.ref c))) := hr.mono (by decide)
  refine ⟨_, pss_cons (ps_if (pt_not (pt_truth (pv 3) (by intro _; rfl))) (pss_one (ps_ret (pe_tup (pa_cons pe_non (pa_cons (pv 2) pa_nil))))) pss_nil)
    (pss_one (ps_ret (pe_tup (pa_cons (pe_call cP.ok r1 (by rfl) cP.g cP.kp cP.b .nil pass0 (pa_cons (pe_ix ix_list (pv 3) pe_int (fun _ _ => rfl)) (pa_cons (pv 1) pa_nil))) (pa_cons (pv 2) pa_nil))))), ?_⟩
  intro D l wd a b n R H1 qc qr cl rest y4 y5 y6 hC hR sI ha hw h1 nx
  cases rest with
  | nil =>
    refine ⟨_, rfl, false, .inl ⟨_, SqL.of hR.lst, rfl⟩, ?_⟩
    refine iteT ⟨_, rfl, (by show 2 ≤ sizeLine; decide), fun p np => ?_⟩
    exact nx _ p .non (same_new np) upd_same (.inl ⟨rfl, rfl⟩)
  | cons y rest =>
    obtain rfl : rest = [] := by
      rw [List.length_cons] at h1
      exact List.eq_nil_of_length_eq_zero (by omega)
    refine ⟨_, rfl, true, .inl ⟨_, SqL.of hR.lst, rfl⟩, ?_⟩
    refine iteF ?_
    have ylen : y.2.length = wd := sI.len y.2 (.inr List.mem_cons_self)
    refine ⟨_, rfl, qr, _, 0, _, rfl, rfl, SqL.of hR.lst, atI_nat (j := 0) rfl, _, rfl, y.1, y.2, a, rfl, hR.row y List.mem_cons_self, by omega, by omega, fun H2 p2 s2 hp2 => ?_⟩
    refine ⟨_, rfl, (by show 2 ≤ sizeLine; decide), fun p np => ?_⟩
    exact nx _ p (.ref p2) (s2.trans (same_new np)) upd_same (.inr ⟨y, p2, rfl, rfl, hp2.same (same_new np)⟩)
end
end KT
set_option maxRecDepth 100000
set_option maxHeartbeats 2000000
namespace KT
open PySem PySem.Spec PyProof.Rows L2
theorem sgl_bd {r : List Int} {n j : Nat} : (Hm.fn (sgl r n) j).natAbs = (Hm.fn r j).natAbs := by
  rw [fn_sgl]
  unfold Hm.sgd
  split
  · rfl
  · show (-1 * Hm.fn r j).natAbs = _
    omega
section
variable {P : Program} {w : World} {K : PySem.W.Frag} {mg : Str → Option Value} {base : Heap}
variable {f c Pt fL fP : Addr} {fdL fdP : FuncData} {T : List (Addr × Str)}
theorem ok_swept {oc kV doc pm ct : Value} {an od : Option Addr} {osl : Array (Option Value)}
    (lk : K.lookup f = some ⟨oc, od, .func (PySem.W.fnOf "swept" "swept" (defArgs sSwept) (defBody sSwept) (defScope sSwept) .none kV doc pm an (.ref c) ct), osl⟩) (hcd : PySem.W.codeIn K (.ref c) "swept" = true) (B : Bn mg)
    (TB : LamX.TabB base mg c Pt) (hm : (Pt, qS) ∈ T) (hu : ∀ p ∈ T, p.1 = Pt → p.2 = qS) (cL : Cb P w K mg base CX0 1 "less" ["row", "other", "times"] (spLess K) fL fdL) (cP : Cb P w K mg base CX0 1 "with_positive" ["row", "at"] (spPosT K) fP fdP) :
    FnOk P w K mg base CX0 4 f (PySem.W.fnOf "swept" "swept" (defArgs sSwept) (defBody sSwept) (defScope sSwept) .none kV doc pm an (.ref c) ct) ["rows", "at"] (spSwept K T) := by
  refine fn_of lk hcd scSwept (fun vs H Q E h => ?_) (fun A outer s H vs Q E hr h => ?_)
  · obtain ⟨l, rs, wd, a, b, n, rfl, _⟩ := h
    rfl
  · obtain ⟨l, rs, wd, a, b, n, rfl, hI, hT, ha, hw, hb, hb2, hn, hn2, hk, q⟩ := h
    obtain ⟨kd, hq⟩ : ∃ kd : Bool, (if kd then SqL K H l (rf rs) else SqT K H l (rf rs)) := by
      rcases hI.seq with h | h
      · exact ⟨true, h⟩
      · exact ⟨false, h⟩
    obtain ⟨t0, p0, q0⟩ := w0 (P := P) (w := w) (K := K) (mg := mg) (base := base) (f := f) (c := c) (A := A) (outer := outer) (s := s) (H := H) (E := E) kd
    obtain ⟨t1, p1, q1⟩ := w1 (P := P) (w := w) (K := K) (mg := mg) (base := base) (f := f) (c := c) (A := A) (outer := outer) (s := s) (H := H) (E := E) kd
    obtain ⟨t2, p2, q2⟩ := w2 (P := P) (w := w) (K := K) (base := base) (outer := outer) (H := H) (E := E) B TB hm hu cL hr
    obtain ⟨t3, p3, q3⟩ := w34 (P := P) (w := w) (K := K) (base := base) (outer := outer) (H := H) (E := E) cP hr
    rw [sw_is]
    refine ⟨_, PSs.nox (pss_cons p0 (pss_cons p1 (pss_cons p2 p3))), ?_⟩
    have hlen : ∀ x ∈ rs, a < x.2.length := fun x hx => by
      rw [(hk x.2 (rw_mem hx)).1]
      exact ha
    refine q0 _ H l rs a none none none none none hq hI.row hlen (by omega) fun H1 qc s1 nc hC => ?_
    have hq1 : (if kd then SqL K H1 l (rf rs) else SqT K H1 l (rf rs)) := by
      cases kd with
      | true => exact sqL_ext s1 hq
      | false => exact Rs.sqT_ext s1 hq
    refine q1 _ H1 l rs a (some (.ref qc)) none none none none hq1 (fun x hx => (hI.row x hx).same s1) hlen (by omega) fun H2 qr s2 nr hR => ?_
    have sI : Hm.Swi wd a b n (rw_ rs) (rw_ (rs.filter fun x => decide (Hm.fn x.2 a = 0))) (rw_ (rs.filter fun x => decide (Hm.fn x.2 a ≠ 0))) := by
      rw [rw_zl, rw_nl]
      exact Hm.swi_start (fun r hr => (hk r hr).1) (fun r hr => (hk r hr).2.1) (fun r hr => (hk r hr).2.2)
    refine q2 _ l wd a b n (rw_ rs) H H2 qc qr _ _ none none none (.of (s1.trans s2)) ((hT.ext s1).ext s2) (hC.same s2) hR sI ha hw hb hb2 (by rw [List.length_map]; exact hn) hn2 fun H3 qc3 qr3 cl3 rest3 y4 y5 y6 e3 t3 hC3 hR3 sI3 h1 => ?_
    refine q3 _ l wd a b n (rw_ rs) H3 qc3 qr3 cl3 rest3 y4 y5 y6 hC3 hR3 sI3 ha hw h1 fun H4 p v s4 hp hv => ?_
    have sz := sI3.sz
    rw [List.length_map, List.length_map, List.length_map] at sz
    refine q H4 p qc3 v cl3 (e3.trans (.of s4)) (t3.ext s4) hp (hC3.same s4) (fun r hr => ⟨sI3.len r (.inl hr), sI3.low r (.inl hr), Hm.swi_bd sI3 r (.inl hr)⟩) (by omega) ?_
    rcases hv with ⟨rfl, rfl⟩ | ⟨y, x, rfl, rfl, hx⟩
    · exact .inl ⟨rfl, Hm.swi_none sI3⟩
    · have my : y.2 ∈ rw_ [y] := List.mem_cons_self
      refine .inr ⟨(x, sgl y.2 a), rfl, hx, ⟨?_, fun j hj => ?_, fun j => ?_⟩, ?_, ?_⟩
      · rw [sgl_len]
        exact sI3.len y.2 (.inr my)
      · have h2 := sI3.low y.2 (.inr my) j hj
        have h3 := sgl_bd (r := y.2) (n := a) (j := j)
        rw [h2] at h3
        show Hm.fn (sgl y.2 a) j = 0
        omega
      · show (Hm.fn (sgl y.2 a) j).natAbs ≤ _
        rw [sgl_bd]
        exact Hm.swi_bd sI3 y.2 (.inr my) j
      · show (Hm.fn (sgl y.2 a) a).natAbs ≤ _
        rw [sgl_bd]
        exact sI3.lead y.2 my
      · show Hm.Swp a _ (some (Hm.fn (sgl y.2 a))) _
        rw [fn_sgl]
        exact Hm.swi_one sI3
end
end KT
namespace Hm
/-! how great the numbers of the rows become, column by column -/
def bb (b n : Nat) : Nat → Nat
  | 0 => b
  | a + 1 => 5 * bb b n a + n + 1
theorem bb_pos {b n : Nat} (hb : 1 ≤ b) : ∀ a, 1 ≤ bb b n a
  | 0 => hb
  | a + 1 => by
    show 1 ≤ 5 * bb b n a + n + 1
    omega
theorem bb_le {b n a : Nat} (h : 25 * b + 6 * n + 6 ≤ 1200) (ha : a < 3) : bb b n a ≤ 1200 := by
  match a, ha with
  | 0, _ => show b ≤ 1200; omega
  | 1, _ => show 5 * b + n + 1 ≤ 1200; omega
  | 2, _ => show 5 * (5 * b + n + 1) + n + 1 ≤ 1200; omega
/-- a row that was found before column a -/
structure Fd (w b n a : Nat) (r : List Int) : Prop where
  len : r.length = w
  beg : ∃ c, c < a ∧ Beg (fn r) c ∧ 0 < fn r c ∧ (fn r c).natAbs ≤ 2 ^ bb b n c
  bd : ∀ j, (fn r j).natAbs < 2 ^ (7000 * a)
theorem two_pow_lt {x y : Nat} (h : x < y) : 2 ^ x < 2 ^ y := Nat.pow_lt_pow_right (by omega) h
theorem fd_lead {w b n a : Nat} {l : List Int} (hl : l.length = w) (low : ∀ j, j < a → fn l j = 0) (pos : 0 < fn l a) (hb : ∀ j, (fn l j).natAbs ≤ 2 ^ bb b n (a + 1)) (h1 : (fn l a).natAbs ≤ 2 ^ bb b n a) (cap : bb b n (a + 1) ≤ 6201) : Fd w b n (a + 1) l := by
  refine ⟨hl, ⟨a, by omega, ⟨low, by omega⟩, pos, h1⟩, fun j => ?_⟩
  have := two_pow_lt (show bb b n (a + 1) < 7000 * (a + 1) by omega)
  have := hb j
  omega
theorem fd_red {w b n a : Nat} {l r : List Int} (hl : l.length = w) (low : ∀ j, j < a → fn l j = 0) (pos : 0 < fn l a) (hb : ∀ j, (fn l j).natAbs ≤ 2 ^ bb b n (a + 1)) (cap : bb b n (a + 1) ≤ 6201) (h : Fd w b n a r) : Fd w b n (a + 1) (redL a l r) := by
  have ef : fn (redL a l r) = ls (fn r) (fn l) (fn r a / fn l a) := by
    unfold redL
    rw [fn_lsl (by rw [h.len, hl])]
    rfl
  obtain ⟨c, hc, ⟨g1, g2⟩, g3, g4⟩ := h.beg
  have same : ∀ j, j < a → fn (redL a l r) j = fn r j := by
    intro j hj
    rw [ef]
    show fn r j - _ * fn l j = _
    rw [low j hj]
    simp
  refine ⟨lsl_len h.len hl _, ⟨c, by omega, ⟨fun j hj => ?_, ?_⟩, ?_, ?_⟩, fun j => ?_⟩
  · rw [same j (by omega)]
    exact g1 j hj
  · rw [same c hc]
    exact g2
  · rw [same c hc]
    exact g3
  · rw [same c hc]
    exact g4
  · rw [ef]
    have h1 := h.bd j
    have h2 := h.bd a
    have h3 := hb j
    have hq : (fn r a / fn l a).natAbs ≤ (fn r a).natAbs + 1 := by
      have := (rest_sign (x := fn r a) (l := fn l a) (by omega)).2.2
      rw [Int.fdiv_eq_ediv_of_nonneg _ (by omega)] at this
      exact this
    have h4 : (fn r a / fn l a * fn l j).natAbs ≤ 2 ^ (7000 * a) * 2 ^ bb b n (a + 1) := by
      rw [Int.natAbs_mul]
      exact Nat.mul_le_mul (by omega) h3
    have h5 : (fn r j - fn r a / fn l a * fn l j).natAbs ≤ (fn r j).natAbs + (fn r a / fn l a * fn l j).natAbs := by omega
    show (fn r j - fn r a / fn l a * fn l j).natAbs < _
    rw [← Nat.pow_add] at h4
    have h6 := two_pow_lt (show 7000 * a + bb b n (a + 1) < 7000 * a + 6999 by omega)
    have h7 : 2 ^ (7000 * a) ≤ 2 ^ (7000 * a + 6999) := Nat.pow_le_pow_right (by omega) (by omega)
    have h8 : 2 ^ (7000 * (a + 1)) = 2 ^ (7000 * a + 6999) + 2 ^ (7000 * a + 6999) := by
      rw [show 7000 * (a + 1) = 7000 * a + 6999 + 1 by omega, Nat.pow_succ]
      omega
    omega
end Hm
set_option maxRecDepth 100000
set_option maxHeartbeats 2000000
namespace KT
open PySem PySem.Spec PyProof.Rows L2
abbrev NN : List Str := ["rows", "width", "found", "rest", "at", "lead", "row"]
theorem scNormal : FnScope NN ["rows", "width"] (defScope sNormal) := ⟨rfl, rfl, rfl, by decide +kernel, rfl, by decide +kernel, by decide +kernel⟩
abbrev XN (P : Program) (w : World) (K : PySem.W.Frag) (mg : Str → Option Value) (base : Heap) (f : Addr) (cdv : Value) (A : Around) (outer : List Env) (s : Shared) (H : Hp) (E : XK) : Cx := (cxOf CX0 P w K mg base NN "normal_rows" (defScope sNormal) f cdv A outer s H E).nox
def forBody : Stmt → List Stmt
  | .For _ _ b _ _ => b
  | _ => []
def nb : List Stmt := forBody ((defBody sNormal).getD 2 (.Pass ⟨0, 0, 0, 0⟩))
abbrev nbs (i : Nat) : Stmt := nb.getD i (.Pass ⟨0, 0, 0, 0⟩)
def ifBody : Stmt → List Stmt
  | .If _ b _ _ => b
  | _ => []
def nif : Stmt := (ifBody (nbs 1)).getD 0 (.Pass ⟨0, 0, 0, 0⟩)
/-- a number that is no tracked thing before -/
def New (H : Hp) (q : Addr) : Prop := ∀ o, H q = some o → ∃ ps, o = .tbl ps
def spNormal (K : PySem.W.Frag) (T : List (Addr × Str)) : Sp := fun vs H Q _ => ∃ (l : Addr) (rs : List (Addr × List Int)) (w b n : Nat), vs = [.ref l, .int (w : Nat)] ∧ RI K H l rs ∧ LamX.Tabs T H ∧ w ≤ 3 ∧ 1 ≤ b ∧ 25 * b + 6 * n + 6 ≤ 1200 ∧ rs.length ≤ n ∧ (∀ r ∈ rw_ rs, Rk w 0 b r) ∧
  ∀ (H' : Hp) (q : Addr) (fs : List (Addr × List Int)) (rest : List (List Int)), LamX.ExtN H H' → LamX.Tabs T H' → New H q → RL H' q fs → (∀ r ∈ rw_ fs, Hm.Fd w b n w r) → Hm.Nrm w w (rw_ rs) (rw_ fs) rest → fs.length ≤ w → Q (.ref q) H'
section
variable {P : Program} {w : World} {K : PySem.W.Frag} {mg : Str → Option Value} {base : Heap}
variable {f fL fS : Addr} {fdL fdS : FuncData} {A : Around} {outer : List Env} {s : Shared} {H : Hp} {E : XK} {T : List (Addr × Str)} {cdv : Value}
theorem nif1 (cL : Cb P w K mg base CX0 1 "less" ["row", "other", "times"] (spLess K) fL fdL) (hr : Room 4 (A.deeper (envOfC "normal_rows" (defScope sNormal) s.heap.objs.size f cdv))) :
    ∃ t, PS (XN P w K mg base f cdv A outer s H E) nif t ∧ ∀ (D : Ends) (H0 : Hp) (q : Addr) (fs : List (Addr × List Int)) (x : Addr × List Int) (wd b n a : Nat) (y0 y1 y3 : Option V), RL H0 q fs → RT H0 x → (∀ r ∈ rw_ fs, Hm.Fd wd b n a r) → x.2.length = wd → a < wd → wd ≤ 3 → 0 < Hm.fn x.2 a → (∀ j, (Hm.fn x.2 j).natAbs ≤ 2 ^ 6201) → fs.length ≤ 3 →
      (∀ (H' : Hp) (p : Addr) (ys : List (Addr × List Int)), Same H0 H' → H0 p = none → RL H' p (ys ++ [x]) → rw_ ys = (rw_ fs).map (Hm.redL a x.2) → D.nx [y0, y1, some (.ref p), y3, some (.int (a : Nat)), some (.ref x.1), none] H') →
      t D [y0, y1, some (.ref q), y3, some (.int (a : Nat)), some (.ref x.1), none] H0 := by
  have r1 : Room 1 (A.deeper (envOfC "normal_rows" (defScope sNormal) s.heap.objs.size f cdv)) := hr.mono (by decide)
  refine ⟨_, ps_set (i := 2) scNormal.nd rfl (.inl rfl) (pe_op op_cat (pe_lc (own := [("row", 6)]) (g := gName 6) (tt := tYes) (te := tCall (spLess K) [] E0 (tCons (tVar 6) (tCons (tVar 5) (tCons (tOp (rI (fun _ j => j ≠ 0 ∧ j.natAbs.log2 < 9000) fun i j => .int (i.fdiv j)) (tOp (rIxT K) (tVar 6) (tVar 4)) (tOp (rIxT K) (tVar 5) (tVar 4))) tNil)))) rfl scNormal.nd (pi_list (pv 2))
      (blkOk_by (N := NN) (sc := defScope sNormal) (by decide +kernel)) (fun _ _ _ _ _ => pg_name (i := 6) scNormal.nd rfl (Or.inl rfl)) (fun _ _ _ _ _ => pts_nil)
      (fun _ _ _ _ _ => pe_call cL.ok r1 (by rfl) cL.g cL.kp cL.b .nil pass0 (pa_cons (pv 6) (pa_cons (pv 5) (pa_cons (pe_op Rs.op_fdivF (pe_ix ix_tup (pv 6) (pv 4) (fun _ _ => rfl)) (pe_ix ix_tup (pv 5) (pv 4) (fun _ _ => rfl))) pa_nil)))))
    (pe_lst (pa_cons (pv 5) pa_nil))), ?_⟩
  intro D H0 q fs x wd b n a y0 y1 y3 hR hx hF hlen ha hw hpos hbd h3 nx
  refine ⟨_, rfl, q, rfl, ⟨_, SqL.of hR.lst⟩, fun D2 nD2 => ?_⟩
  refine lc_rows (e := fun x : Addr × List Int => V.ref x.1) (walk_list (K := K) (a := q)) (te := tCall (spLess K) [] E0 (tCons (tVar 6) (tCons (tVar 5) (tCons (tOp (rI (fun _ j => j ≠ 0 ∧ j.natAbs.log2 < 9000) fun i j => .int (i.fdiv j)) (tOp (rIxT K) (tVar 6) (tVar 4)) (tOp (rIxT K) (tVar 5) (tVar 4))) tNil)))) (σ := [y0, y1, some (.ref q), y3, some (.int (a : Nat)), some (.ref x.1), none]) (i := 6) (fun r => Hm.redL a x.2 r.2) (Nat.lt_of_le_of_lt h3 (by decide)) nD2 (fun H2 s2 => SqL.of (s2 _ _ hR.lst)) ?_ ?_
  · intro r H2 Q hr2 s2 hQ
    have hF2 := hF r.2 (rw_mem hr2)
    have hrr := (hR.row r hr2).same s2
    have hxr := hx.same s2
    refine ⟨_, rfl, _, rfl, _, rfl, _, rfl, r.1, _, (a : Int), _, rfl, rfl, SqT.of hrr, row_at (by rw [hF2.len]; exact ha), _, rfl, _, rfl, x.1, _, (a : Int), _, rfl, rfl, SqT.of hxr, row_at (by rw [hlen]; exact ha), _, _, rfl, rfl, ⟨?_, ?_⟩, r.1, x.1, r.2, x.2, (Hm.fn r.2 a).fdiv (Hm.fn x.2 a), rfl, SqT.of hrr, SqT.of hxr, ?_, ?_, ?_, fun H3 p3 s3 np3 hp3 => hQ H3 p3 s3 ?_⟩
    · show Hm.fn x.2 a ≠ 0
      omega
    · have h1 : (Hm.fn x.2 a).natAbs < 2 ^ 6202 := Nat.lt_of_le_of_lt (hbd a) (Hm.two_pow_lt (by omega))
      exact Nat.lt_of_lt_of_le (PySem.Flt.log2_lt_of (by omega) h1) (by omega)
    · rw [hF2.len, hlen]
    · rw [hF2.len]
      exact hw
    · intro y hy
      have hq : ((Hm.fn r.2 a).fdiv (Hm.fn x.2 a)).natAbs < 2 ^ (7000 * a + 1) := by
        have h1 := (Hm.rest_sign (x := Hm.fn r.2 a) (l := Hm.fn x.2 a) (by omega)).2.2
        have h2 := hF2.bd a
        have h4 : 2 ^ (7000 * a + 1) = 2 ^ (7000 * a) + 2 ^ (7000 * a) := by rw [Nat.pow_succ]; omega
        have h5 : 1 ≤ 2 ^ (7000 * a) := Nat.pow_pos (by omega)
        omega
      have hy2 : y.natAbs < 2 ^ 6202 := by
        obtain ⟨j, hj⟩ := List.mem_iff_getElem?.mp hy
        have h1 := hbd j
        unfold Hm.fn at h1
        rw [List.getD_eq_getElem?_getD, hj] at h1
        exact Nat.lt_of_le_of_lt h1 (Hm.two_pow_lt (by omega))
      exact wide_mul hq hy2 (by omega) (by omega) (by omega)
    · rw [hp3, Int.fdiv_eq_ediv_of_nonneg _ (by omega)]
      rfl
  · intro H2 ys s2 hR2 hy
    refine ⟨_, rfl, (by show 1 ≤ sizeLine; decide), fun p1 np1 => ?_⟩
    have s3 := same_new (o := .lst [.ref x.1]) np1
    refine ⟨D2, p1, _, _, rfl, rfl, s3 _ _ hR2.lst, upd_same, ?_, fun p np => ?_⟩
    · have h1 : (rw_ ys).length = (fs.map fun r => Hm.redL a x.2 r.2).length := by rw [hy]
      rw [List.length_map, List.length_map] at h1
      rw [List.length_map]
      exact Nat.le_trans (show ys.length + 1 ≤ 4 by omega) (by decide)
    · have s4 := same_new (o := .lst (rf ys ++ [.ref x.1])) np
      refine nx _ p ys ((s2.trans s3).trans s4) ((s2.trans s3).free np) ⟨?_, fun y hy2 => ?_⟩ ?_
      · rw [upd_same]
        exact congrArg (fun z => some (HO.lst z)) (List.map_append (l₁ := ys) (l₂ := [x]) (f := fun x : Addr × List Int => V.ref x.1)).symm
      · rcases List.mem_append.mp hy2 with h | h
        · exact ((hR2.row y h).same s3).same s4
        · obtain rfl := List.mem_singleton.mp h
          exact hx.same ((s2.trans s3).trans s4)
      · rw [hy, List.map_map]
        rfl
end
end KT
set_option maxRecDepth 100000
set_option maxHeartbeats 2000000
namespace KT
open PySem PySem.Spec PyProof.Rows L2
theorem sqL_extN {K : PySem.W.Frag} {H H' : Hp} {a : Addr} {xs : List V} (e : LamX.ExtN H H') (h : SqL K H a xs) : SqL K H' a xs := by
  rcases h with (h | ⟨o, h⟩) | h
  · exact .inl (.inl (e _ _ h (fun ps z => nomatch z)))
  · exact .inl (.inr ⟨o, e _ _ h (fun ps z => nomatch z)⟩)
  · exact .inr h
theorem sqT_extN {K : PySem.W.Frag} {H H' : Hp} {a : Addr} {xs : List V} (e : LamX.ExtN H H') (h : SqT K H a xs) : SqT K H' a xs := by
  rcases h with (h | ⟨o, h⟩) | h
  · exact .inl (.inl (e _ _ h (fun ps z => nomatch z)))
  · exact .inl (.inr ⟨o, e _ _ h (fun ps z => nomatch z)⟩)
  · exact .inr h
theorem RI.ext {K : PySem.W.Frag} {H H' : Hp} {q : Addr} {rs : List (Addr × List Int)} (h : RI K H q rs) (e : LamX.ExtN H H') : RI K H' q rs := ⟨h.seq.elim (fun h => .inl (sqL_extN e h)) (fun h => .inr (sqT_extN e h)), fun x hx => (h.row x hx).ext e⟩
theorem New.of {H : Hp} {q : Addr} (h : H q = none) : New H q := fun o ho => by
  rw [h] at ho
  cases ho
theorem New.ext {H H' : Hp} {q : Addr} (e : LamX.ExtN H H') (h : New H' q) : New H q := fun o ho => by
  by_cases ht : ∃ ps, o = .tbl ps
  · exact ht
  · exact h o (e _ _ ho (fun ps z => ht ⟨ps, z⟩))
theorem New.ne {H : Hp} {q p : Addr} {o : HO} (h : New H q) (hp : H p = some o) (ho : ∀ ps, o ≠ .tbl ps) : p ≠ q := by
  intro z
  rw [z] at hp
  obtain ⟨ps, e⟩ := h o hp
  exact ho ps e
theorem nb_is : nb = [nbs 0, nbs 1] := rfl
section
variable {P : Program} {w : World} {K : PySem.W.Frag} {mg : Str → Option Value} {base : Heap}
variable {f fL fS : Addr} {fdL fdS : FuncData} {A : Around} {outer : List Env} {s : Shared} {H : Hp} {E : XK} {T : List (Addr × Str)} {cdv : Value}
/-- what holds at column i -/
def Nv (K : PySem.W.Frag) (T : List (Addr × Str)) (l : Addr) (w b n : Nat) (R : List (List Int)) (H0 : Hp) (i : Nat) (σ : L2.St) (H : Hp) : Prop := ∃ (qf qr : Addr) (fs rest : List (Addr × List Int)) (y4 y5 : Option V),
  σ = [some (.ref l), some (.int (w : Nat)), some (.ref qf), some (.ref qr), y4, y5, none] ∧ LamX.ExtN H0 H ∧ LamX.Tabs T H ∧ New H0 qf ∧ RL H qf fs ∧ RI K H qr rest ∧ rest.length ≤ n ∧ (∀ r ∈ rw_ fs, Hm.Fd w b n i r) ∧ Hm.Nrm w i R (rw_ fs) (rw_ rest) ∧ (∀ r ∈ rw_ rest, Rk w i (Hm.bb b n i) r) ∧ fs.length ≤ i
theorem nbody (cL : Cb P w K mg base CX0 1 "less" ["row", "other", "times"] (spLess K) fL fdL) (cS : Cb P w K mg base CX0 4 "swept" ["rows", "at"] (spSwept K T) fS fdS) (hr : Room 4 (A.deeper (envOfC "normal_rows" (defScope sNormal) s.heap.objs.size f cdv))) :
    ∃ t, PSs (XN P w K mg base f cdv A outer s H E) nb t ∧ ∀ (D : Ends) (l : Addr) (wd b n i : Nat) (R : List (List Int)) (H0 H1 : Hp) (qf qr : Addr) (fs rest : List (Addr × List Int)) (y5 : Option V),
      wd ≤ 3 → i < wd → 1 ≤ b → 25 * b + 6 * n + 6 ≤ 1200 →
      LamX.ExtN H0 H1 → LamX.Tabs T H1 → New H0 qf → RL H1 qf fs → RI K H1 qr rest → rest.length ≤ n → (∀ r ∈ rw_ fs, Hm.Fd wd b n i r) → Hm.Nrm wd i R (rw_ fs) (rw_ rest) → (∀ r ∈ rw_ rest, Rk wd i (Hm.bb b n i) r) → fs.length ≤ i →
      (∀ σ' H', Nv K T l wd b n R H0 (i + 1) σ' H' → D.nx σ' H') →
      t D [some (.ref l), some (.int (wd : Nat)), some (.ref qf), some (.ref qr), some (.int (i : Nat)), y5, none] H1 := by
  obtain ⟨t1, p1, q1⟩ := nif1 (f := f) (cdv := cdv) (outer := outer) (H := H) (E := E) cL hr
  rw [nb_is]
  refine ⟨_, pss_cons (ps_asg (pe_call cS.ok hr (by rfl) cS.g cS.kp cS.b .nil pass0 (pa_cons (pv 3) (pa_cons (pv 4) pa_nil))) (pg_tup (by rfl) (pgs_cons (pg_name (i := 5) scNormal.nd rfl (.inr rfl)) (pgs_cons (pg_name (i := 3) scNormal.nd rfl (.inl rfl)) pgs_nil))))
    (pss_one (ps_if (pt_cmpR op_notN (pv 5) pe_non (nomark _)) (pss_one p1) pss_nil)), ?_⟩
  intro D l wd b n i R H0 H1 qf qr fs rest y5 hw hi hb cap eX tb hNew hF hR hrn hFd hN hRk hfi nx
  have bi := Hm.bb_le (a := i) cap (by omega)
  refine ⟨_, rfl, _, rfl, qr, rest, wd, i, Hm.bb b n i, n, rfl, hR, tb, hi, hw, Hm.bb_pos hb i, bi, hrn, by omega, hRk, ?_⟩
  intro H2 p q v cl e2 tb2 hp hC hCk hcl hv
  refine ⟨p, _, rfl, SqT.of hp, rfl, v, [.ref q], rfl, .ref q, [], rfl, rfl, ?_⟩
  have nrk : ∀ (lo : Option Hm.Row), Hm.Swp i ((rw_ rest).map Hm.fn) lo ((rw_ cl).map Hm.fn) → ∀ r ∈ rw_ cl, Rk wd (i + 1) (Hm.bb b n (i + 1)) r := by
    intro lo hs r hr
    obtain ⟨h1, h2, h3⟩ := hCk r hr
    refine ⟨h1, fun j hj => ?_, h3⟩
    by_cases e : j = i
    · rw [e]
      exact hs.1 (Hm.fn r) (List.mem_map.mpr ⟨r, hr, rfl⟩)
    · exact h2 j (by omega)
  rcases hv with ⟨rfl, hs⟩ | ⟨x, rfl, hx, hxk, hxl, hs⟩
  · refine ⟨_, rfl, rfl, _, rfl, ?_⟩
    refine iteF ?_
    refine nx _ H2 ⟨qf, q, fs, cl, _, _, rfl, eX.trans e2, tb2, hNew, hF.ext e2, hC.ri, by omega, fun r hr => ?_, Hm.nrm_none hN hi hs, nrk none hs, by omega⟩
    have z := hFd r hr
    refine ⟨z.len, ?_, fun j => ?_⟩
    · obtain ⟨c, hc, h⟩ := z.beg
      exact ⟨c, by omega, h⟩
    · exact Nat.lt_of_lt_of_le (z.bd j) (Nat.pow_le_pow_right (by omega) (by omega))
  · refine ⟨_, rfl, rfl, _, rfl, ?_⟩
    refine iteT ?_
    have hpos : 0 < Hm.fn x.2 i := hs.2.1
    have c6 : Hm.bb b n (i + 1) ≤ 6201 := by
      show 5 * Hm.bb b n i + n + 1 ≤ 6201
      omega
    refine q1 _ H2 qf fs x wd b n i _ _ _ (hF.ext e2) hx hFd hxk.1 hi hw hpos (fun j => Nat.le_trans (hxk.2.2 j) (Nat.pow_le_pow_right (by omega) c6)) (by omega) fun H3 p3 ys s3 np3 hR3 hy => ?_
    refine nx _ H3 ⟨p3, q, ys ++ [x], cl, _, _, rfl, (eX.trans e2).trans (.of s3), tb2.ext s3, New.ext (eX.trans e2) (.of np3), hR3, (hC.same s3).ri, by omega, ?_, ?_, nrk _ hs, ?_⟩
    · intro r hr
      have hr : r ∈ List.map (fun x : Addr × List Int => x.2) (ys ++ [x]) := hr
      rw [List.map_append] at hr
      rcases List.mem_append.mp hr with h | h
      · have h : r ∈ rw_ ys := h
        rw [hy] at h
        obtain ⟨r0, h0, rfl⟩ := List.mem_map.mp h
        exact Hm.fd_red hxk.1 hxk.2.1 hpos hxk.2.2 c6 (hFd r0 h0)
      · obtain rfl := List.mem_singleton.mp h
        exact Hm.fd_lead hxk.1 hxk.2.1 hpos hxk.2.2 hxl c6
    · have e : rw_ (ys ++ [x]) = (rw_ fs).map (Hm.redL i x.2) ++ [x.2] := by
        rw [← hy]
        exact List.map_append
      rw [e]
      exact Hm.nrm_some hN hi hxk.1 hs
    · have h1 : (rw_ ys).length = ((rw_ fs).map (Hm.redL i x.2)).length := by rw [hy]
      rw [List.length_map, List.length_map, List.length_map] at h1
      rw [List.length_append, List.length_singleton]
      omega
theorem ok_normal (F : Fun K "normal_rows" "normal_rows" sNormal f fd) (B : Bn mg) (cL : Cb P w K mg base CX0 1 "less" ["row", "other", "times"] (spLess K) fL fdL) (cS : Cb P w K mg base CX0 4 "swept" ["rows", "at"] (spSwept K T) fS fdS) :
    FnOk P w K mg base CX0 5 f fd ["rows", "width"] (spNormal K T) := by
  refine F.ok scNormal (fun vs H Q E h => ?_) (fun cdv A outer s H vs Q E hr h => ?_)
  · obtain ⟨l, rs, wd, b, n, rfl, _⟩ := h
    rfl
  · obtain ⟨l, rs, wd, b, n, rfl, hI, hT, hw, hb, cap, hn, hk, q⟩ := h
    obtain ⟨t1, p1, q1⟩ := nbody (f := f) (cdv := cdv) (outer := outer) (H := H) (E := E) cL cS hr
    refine ⟨_, pss_cons (ps_set (i := 2) scNormal.nd rfl (.inl rfl) (pe_lst pa_nil)) (pss_cons (ps_set (i := 3) scNormal.nd rfl (.inl rfl) (pv 0))
      (pss_cons (ps_for PassesOwn.never rfl (pi_range1 (by rfl) B.range (pa_cons (pv 1) pa_nil)) (pg_name (i := 4) scNormal.nd rfl (Or.inr rfl)) p1) (pss_one (ps_ret (pv 2))))), ?_⟩
    refine ⟨(by show 0 ≤ sizeLine; decide), fun q0 nq0 => ⟨_, rfl, _, rfl, (wd : Int), rfl, by omega, by omega, ?_⟩⟩
    have s0 := same_new (o := .lst []) nq0
    refine for_it (walk_range (lo := 0) (n := (wd : Int).toNat)) (fun i σ H2 => Nv K T l wd b n (rw_ rs) H i σ H2) ⟨q0, l, [], rs, none, none, rfl, .of s0, hT.ext s0, .of nq0, ⟨upd_same, fun x hx => nomatch hx⟩, hI.ext (.of s0), hn, (fun r hr => nomatch hr), Hm.nrm_start fun r hr => (hk r hr).1, hk, Nat.le_refl _⟩ (fun _ _ _ _ _ => trivial) ?_ ?_
    · rintro i x σ H2 H2' hi ⟨qf, qr, fs, rest, y4, y5, rfl, eX, tb, hNew, hF, hR, hrn, hFd, hN, hRk, hfi⟩ ⟨rfl, rfl⟩
      refine (?_ : gName 4 _ _ _ _)
      have e : (0 : Int) + (i : Nat) = (i : Nat) := by omega
      show t1 _ [some (.ref l), some (.int (wd : Nat)), some (.ref qf), some (.ref qr), some (.int (0 + (i : Nat))), y5, none] H2'
      rw [e]
      refine q1 _ l wd b n i (rw_ rs) H H2' qf qr fs rest y5 hw (by omega) hb cap eX tb hNew hF hR hrn hFd hN hRk hfi fun σ' H' h => h
    · rintro σ H2 ⟨qf, qr, fs, rest, y4, y5, rfl, eX, tb, hNew, hF, hR, hrn, hFd, hN, hRk, hfi⟩
      refine ⟨_, rfl, ?_⟩
      have e : (wd : Int).toNat = wd := rfl
      rw [e] at hFd hN hfi
      exact q H2 qf fs (rw_ rest) eX tb hNew hF hFd hN hfi
end
end KT
set_option maxRecDepth 100000
set_option maxHeartbeats 1000000
/-! == and != of instances by an own __eq__ that answers True or False; in a list of other things -/
namespace Rs
open PySem PySem.Spec PyProof.Rows L2
/-- what an own __eq__ promises: the answer k -/
def spEqB (R : Addr → V → Hp → Bool → Prop) : Sp := fun vs H Q _ => ∃ a y k, vs = [.ref a, y] ∧ R a y H k ∧ ∀ H', Ext H H' → Q (.bl k) H'
/-- the class C, its own __eq__ at f -/
structure EqCls (K : PySem.W.Frag) (C f : Addr) : Prop where
  eq : PySem.W.findIn K (.ref C) "__eq__" = some (some (.ref f))
  fn : PySem.W.isFn K (.ref f) = true
  ne : PySem.W.findIn K (.ref C) "__ne__" = some (some (.builtin "object.__ne__"))
  mro : PySem.W.mroIn K C (.type "object") = some true
  no : PySem.W.subIn K (.ref C) (.type "list") = some false
  nt : PySem.W.subIn K (.ref C) (.type "tuple") = some false
  nn : PySem.W.subIn K (.ref C) (.type "NoneType") = some false
  ni : PySem.W.subIn K (.ref C) (.type "int") = some false
  ns : PySem.W.subIn K (.ref C) (.type "str") = some false
section
variable {X : Cx} {n : Nat} {CX : CXT} {C f : Addr} {fd : FuncData} {ps : List Str} {R : Addr → V → Hp → Bool → Prop} {E : XK} {A : Around} {pins : List (Addr × Obj)} {s : Shared} {σ : L2.St} {H : Hp} {a : Addr} {y : V} {v : Value} {k : Bool}
theorem run_eqB (F : FnOk X.prog X.w X.K X.mg X.base CX n f fd ps (spEqB R)) (hb : Binds X.K fd ps []) (hx : Passes CX X E) (sb : Sub X n A) (I : Inv X pins σ H s) (ry : RelV y v) (hr : R a y H k) :
    wpAny (model X.prog X.w) A (call (.ref f) [.ref a, v]) (fun r s' => r = .bool k ∧ ∃ H', Inv X pins σ H' s' ∧ Ext H H') X.xe s := by
  have hsp : spEqB R [.ref a, y] H (fun v H' => v = .bl k ∧ Ext H H') E := ⟨a, y, k, rfl, hr, fun H' e => ⟨rfl, e⟩⟩
  have e0 : Env0 X.prog X.w X.K X.mg X.base A X.stack s H := by
    have e := I.env0
    exact ⟨by rw [sb.fr]; exact e.frames, e.mod, e.bs, e.bsz, e.funs, e.frf, e.hok, e.bare⟩
  have hl := F.len _ _ _ _ hsp
  have r2 : Vals [V.ref a, y] [Value.ref a, v] := .cons rfl (.cons ry .nil)
  refine wpAny_call (codeAny_mono (F.run A X.stack s H ⟨[.ref a, v], []⟩ [.ref a, v] [.ref a, y] _ E sb.room e0 (by
    have := hb s [.ref a, v] I.kIn (by simpa using hl)
    simpa using this) r2 hsp) fun r s' hq => ?_)
  cases r with
  | error e => exact hx pins σ H s e s' I hq
  | ok fl =>
    cases fl with
    | ret w =>
      obtain ⟨z, H', I', rz, ez, ex⟩ := I.after hq
      subst ez
      cases rz
      exact ⟨rfl, H', I', ex⟩
    | next => exact False.elim hq
    | brk => exact False.elim hq
    | cont => exact False.elim hq
def rEqI (C : Addr) (R : Addr → V → Hp → Bool → Prop) (neg : Bool) : R2 := fun x y H Q => ∃ a b dx dy fs gs k, x = .ref a ∧ y = .ref b ∧ H a = some (.ins C dx fs) ∧ H b = some (.ins C dy gs) ∧ R a (.ref b) H k ∧ ∀ H', Ext H H' → Q (.bl (if neg then !k else k)) H'
theorem op_eqI (G : FnOk X.prog X.w X.K X.mg X.base CX n f fd ps (spEqB R)) (T : EqCls X.K C f) (hb : Binds X.K fd ps []) (hx : Passes CX X E) (hr : Room n X.A) : OpR X (compareOp .Eq) (rEqI C R false) := by
  intro pins s σ H x y v u Q I rx ry hq
  obtain ⟨a, b, dx, dy, fs, gs, k, rfl, rfl, ha, hb', hR, q⟩ := hq
  cases rx
  cases ry
  show wpAny (model X.prog X.w) X.A (richCompare .Eq (.ref a) (.ref b)) (EP X pins σ Q) X.xe s
  obtain ⟨mA, J, _⟩ := ins_get I.hok ha
  obtain ⟨mB, J', _⟩ := ins_get I.hok hb'
  obtain ⟨od, J, _⟩ := J.look
  obtain ⟨od', J', _⟩ := J'.look
  obtain ⟨m, hF⟩ := I.fr
  refine PySem.W.cmp_K (op := .Eq) (tb := .ref C) hr.units0 hF I.ok.mod.kin J J'.type (by simp [PySem.W.notFirst]) T.eq T.fn ?_
  refine wpAny_mono (run_eqB G hb hx ⟨hr, rfl⟩ I (y := .ref b) rfl hR) (fun r s' z => ?_) (fun _ _ z => z)
  obtain ⟨rfl, H', I', e⟩ := z
  exact ⟨.bl k, H', I', rfl, q H' e⟩
theorem op_neI (G : FnOk X.prog X.w X.K X.mg X.base CX n f fd ps (spEqB R)) (T : EqCls X.K C f) (hb : Binds X.K fd ps []) (hx : Passes CX X E) (hr : Room (n + 1) X.A) : OpR X (compareOp .NotEq) (rEqI C R true) := by
  intro pins s σ H x y v u Q I rx ry hq
  obtain ⟨a, b, dx, dy, fs, gs, k, rfl, rfl, ha, hb', hR, q⟩ := hq
  cases rx
  cases ry
  show wpAny (model X.prog X.w) X.A (richCompare .NotEq (.ref a) (.ref b)) (EP X pins σ Q) X.xe s
  obtain ⟨mA, J, _⟩ := ins_get I.hok ha
  obtain ⟨mB, J', _⟩ := ins_get I.hok hb'
  obtain ⟨od, J, _⟩ := J.look
  obtain ⟨od', J', _⟩ := J'.look
  have KX := I.kIn
  have sb : Sub X n X.A.in1 := ⟨hr.in1, rfl⟩
  have inner : wpAny (model X.prog X.w) X.A (call (.builtin "object.__ne__") [.ref a, .ref b]) (fun r s' => r = .bool (!k) ∧ ∃ H', Inv X pins σ H' s' ∧ Ext H H') X.xe s := by
    refine wpAny_call (codeAny_call_builtin F.cmp_object.ne.plain F.cmpEntry_ne (PySem.W.check_slot F.cmpKind_ne F.cmpSplit_ne (J.type.andThen (PySem.W.looks_mroIn KX T.mro)) (F.cmpArgs_ne _ _) ?_))
    have hu1 : X.A.in1.units < cLine := sb.room.units0
    unfold Builtin.«object.__ne__»
    refine wpAny_bind (m := slotArgs "__ne__" 1 _) (wpAny_pure ?_)
    refine wpAny_bind (wpAny_cRoomFor hu1 ?_)
    refine wpAny_bind (PySem.W.ifBound_K KX J T.eq T.fn ?_)
    refine wpAny_mono (run_eqB G hb hx sb I (y := .ref b) rfl hR) ?_ (fun _ _ z => z)
    rintro r s' ⟨rfl, H', I', e⟩
    show wpAny _ _ (truthy (.bool k) >>= fun z => ret (.bool !z)) _ _ _
    refine wpAny_bind (wpAny_truthy_bool ?_)
    exact wpAny_pure ⟨rfl, H', I', e⟩
  have one : wpAny (model X.prog X.w) X.A (tryCompare (.ref a) "__ne__" (.ref b)) (fun r s' => r = some (.bool (!k)) ∧ ∃ H', Inv X pins σ H' s' ∧ Ext H H') X.xe s := by
    unfold tryCompare
    simp only [callSpecialIfBound?, bindSpecialIfBound?]
    refine wpAny_bind (wpAny_holding (wpAny_bind (wpAny_bind (wpAny_bind (J.type.here ((PySem.W.looks_findIn KX T.ne).here ?_))))))
    refine wpAny_bind (wpAny_askSetting (wpAny_ite ?_))
    have fin : ∀ {Q : Option Value → Shared → Prop}, (∀ s', (∃ H', Inv X pins σ H' s' ∧ Ext H H') → Q (some (.bool (!k))) s') → wpAny (model X.prog X.w) X.A (call (.builtin "object.__ne__") ([.ref a] ++ [.ref b]) >>= fun v => pure (some v)) Q X.xe s := by
      intro Q hq
      refine wpAny_bind (wpAny_mono inner (fun v s' h' => ?_) fun _ _ h' => h')
      obtain ⟨rfl, h'⟩ := h'
      exact wpAny_pure (hq s' h')
    split
    · exact wpAny_bind (wpAny_of_eq (F.cmp_object.ne.bind _) (wpAny_pure (fin fun s' h' => wpAny_pure ⟨rfl, h'⟩)))
    · exact wpAny_tryCatch (wpAny_bind (wpAny_of_eq (F.cmp_object.ne.bind _) (wpAny_pure (fin fun s' h' => wpAny_pure ⟨rfl, h'⟩))))
  simp only [richCompare, cmpInfo_NotEq, oneThing_ref]
  refine wpAny_holding (wpAny_bind (wpAny_cRoomFor (Nat.lt_of_succ_lt (show X.A.units + 1 < cLine from sb.room.units0)) ?_))
  refine wpAny_bind (J.type.here (wpAny_bind (J'.type.here ?_)))
  simp only [bne_self_eq_false, Bool.false_eq_true, if_false]
  refine wpAny_bind (wpAny_pure ?_)
  simp only [Bool.false_eq_true, if_false]
  refine wpAny_bind (m := tryCompare (.ref a) _ (.ref b)) (wpAny_mono one (fun r s' z => ?_) fun _ _ e => e)
  obtain ⟨rfl, H', I', e⟩ := z
  exact wpAny_pure ⟨.bl (!k), H', I', rfl, q H' e⟩
end
end Rs
set_option maxRecDepth 100000
set_option maxHeartbeats 1000000
namespace Rs
open PySem PySem.Spec PyProof.Rows L2
open PySem.MeetsSeq PySem.MeetsSeq2 PySem.SeqRoads2
open PySem.AutoSeq1 (wpAny_loadPart')
theorem int_declines_inst (b : Int) (u : Tok) (l : Addr) (c : Value) (dd : Option Addr) (sl : Array (Option Value)) :
    Meets (Builtin.«int.__eq__» ⟨[.int b u, .ref l], []⟩) (fun _ R s => s.heap.get? l = some { cls := c, dict := dd, data := .plain, slots := sl } ∧ R (.ok (.ret .notImplemented)) s) :=
  .of_wp fun prog w A R s h => by obtain ⟨hp, g, d, tk, os⟩ := s; obtain ⟨hl, h⟩ := h; wp_walk using wpAny_loadPart' hl, wpAny_load hl; exact ⟨_, rfl, h⟩
theorem str_declines_inst (b : Str) (u : Tok) (l : Addr) (c : Value) (dd : Option Addr) (sl : Array (Option Value)) :
    Meets (Builtin.«str.__eq__» ⟨[.str b u, .ref l], []⟩) (fun _ R s => s.heap.get? l = some { cls := c, dict := dd, data := .plain, slots := sl } ∧ R (.ok (.ret .notImplemented)) s) :=
  .of_wp fun prog w A R s h => by obtain ⟨hp, g, d, tk, os⟩ := s; obtain ⟨hl, h⟩ := h; wp_walk using wpAny_loadPart' hl, wpAny_load hl; exact ⟨_, rfl, h⟩
theorem list_declines_inst {K : PySem.W.Frag} {C : Addr} (l x : Addr) (ox : Obj) (od : Option Obj) (e : PySem.W.subIn K (.ref C) (.type "list") = some false) :
    Meets (Builtin.«list.__eq__» ⟨[.ref l, .ref x], []⟩) (fun _ R s => K.In s.heap ∧ PySem.W.InstAt s.heap x ox C od ∧ R (.ok (.ret .notImplemented)) s) :=
  .of_wp fun prog w A R s h => by
    obtain ⟨X, J, h⟩ := h
    have key : ∀ {Q : Bool → Shared → Prop} {E : Value → Shared → Prop}, Q false s → wpAny (model prog w) A.in1 (isInstance (.ref x) (.type "list")) Q E s := fun {Q E} hq => by
      unfold isInstance
      exact wpAny_bind (J.type.here ((PySem.W.looks_subIn X e).here hq))
    wp_walk using key
    exact ⟨_, rfl, h⟩
section
variable {X : Cx} {n : Nat} {CX : CXT} {C f : Addr} {fd : FuncData} {ps : List Str} {R : Addr → V → Hp → Bool → Prop} {E : XK} {A : Around} {pins : List (Addr × Obj)} {s : Shared} {σ : L2.St} {H : Hp} {a dx : Addr} {fs : List (Str × V)} {y : V} {v : Value} {k : Bool}
/-- the other one declines, so the own __eq__ is asked -/
theorem rc_back {T id : String} {od : Option Obj} {ox : Obj} (G : FnOk X.prog X.w X.K X.mg X.base CX n f fd ps (spEqB R)) (EC : EqCls X.K C f) (hb : Binds X.K fd ps []) (hx : Passes CX X E) (sb : Sub X n A) (I : Inv X pins σ H s)
    (J : PySem.W.InstAt s.heap a ox C od) (ry : RelV y v) (hT : s.TypeIs v T) (slot : Slot T "__eq__" id) (hsub : PySem.W.subIn X.K (.ref C) (.type T) = some false)
    (hd : ∀ Q' : Value → Shared → Prop, Q' .notImplemented s → wpAny (model X.prog X.w) A (call (.builtin id) [v, .ref a]) Q' X.xe s) (hR : R a y H k) :
    wpAny (model X.prog X.w) A (richCompare .Eq v (.ref a)) (fun r s' => r = .bool k ∧ ∃ H', Inv X pins σ H' s' ∧ Ext H H') X.xe s := by
  have KX := I.kIn
  have two : wpAny (model X.prog X.w) A (tryCompare (.ref a) "__eq__" v) (fun r s' => r = some (.bool k) ∧ ∃ H', Inv X pins σ H' s' ∧ Ext H H') X.xe s := by
    unfold tryCompare
    refine wpAny_bind (PySem.W.ifBound_K KX J EC.eq EC.fn (wpAny_mono (run_eqB G hb hx sb I ry hR) (fun r s' z => ?_) fun _ _ e => e))
    obtain ⟨rfl, z⟩ := z
    exact wpAny_pure ⟨rfl, z⟩
  simp only [richCompare, cmpInfo_Eq, hT.oneThing_none]
  refine wpAny_holding (wpAny_bind (wpAny_cRoomFor sb.room.units0 ?_))
  refine wpAny_bind (wpAny_typeOf hT (wpAny_bind (J.type.here ?_)))
  split
  · refine wpAny_bind ((PySem.W.looks_subIn KX hsub).here ?_)
    simp only [Bool.false_eq_true, if_false, Bool.not_false, if_true]
    refine wpAny_bind (m := tryCompare v _ (.ref a)) (wpAny_tryCompare_declines hT slot (hd _ ⟨rfl, ?_⟩))
    refine wpAny_bind (m := tryCompare (.ref a) _ v) (wpAny_mono two (fun r s' z => ?_) fun _ _ e => e)
    obtain ⟨rfl, z⟩ := z
    exact wpAny_pure ⟨rfl, z⟩
  · rename_i q
    exact absurd (by simp) q
/-- what is no instance: None, a number, a text, a list -/
def Fgn (H : Hp) (z : V) : Prop := z = .non ∨ (∃ i, z = .int i) ∨ (∃ t, z = .str t) ∨ ∃ l xs, z = .ref l ∧ H l = some (.lst xs)
theorem Fgn.ext {H H' : Hp} {z : V} (h : Fgn H z) (e : Ext H H') : Fgn H' z := by
  rcases h with h | h | h | ⟨l, xs, h1, h2⟩
  · exact .inl h
  · exact .inr (.inl h)
  · exact .inr (.inr (.inl h))
  · exact .inr (.inr (.inr ⟨l, xs, h1, e _ _ h2⟩))
theorem rc_fgn (G : FnOk X.prog X.w X.K X.mg X.base CX n f fd ps (spEqB R)) (EC : EqCls X.K C f) (hb : Binds X.K fd ps []) (hx : Passes CX X E) (sb : Sub X n A) (I : Inv X pins σ H s)
    (ha : H a = some (.ins C dx fs)) (ry : RelV y v) (hf : Fgn H y) (hR : R a y H k) :
    wpAny (model X.prog X.w) A (richCompare .Eq v (.ref a)) (fun r s' => r = .bool k ∧ ∃ H', Inv X pins σ H' s' ∧ Ext H H') X.xe s := by
  obtain ⟨mA, O, _⟩ := ins_get I.hok ha
  obtain ⟨od, J, _⟩ := O.look
  have at_ : s.heap.get? a = some { cls := .ref C, dict := some dx, data := .plain, slots := #[] } := J.at_
  rcases hf with rfl | ⟨i, rfl⟩ | ⟨t, rfl⟩ | ⟨l, xs, rfl, hl⟩
  · cases ry
    refine rc_back (T := "NoneType") G EC hb hx sb I J (y := .non) rfl rfl F.slot_NoneType_eq_refl EC.nn (fun Q' hq => ?_) hR
    exact call_gives F.slot_NoneType_eq_refl rfl F.entry_NoneType_eq (F.args_NoneType_eq_2 _ _) (PySem.SeqAt.NoneType___eq___none_ref_0 a) hq
  · obtain ⟨t, rfl⟩ := ry
    refine rc_back (T := "int") G EC hb hx sb I J (y := .int i) ⟨t, rfl⟩ rfl F.slot_int_eq EC.ni (fun Q' hq => ?_) hR
    exact call_meets F.slot_int_eq rfl F.entry_int_eq (F.args_int_eq_2 _ _) (int_declines_inst i t a _ _ _) ⟨at_, hq⟩
  · obtain ⟨u, rfl⟩ := ry
    refine rc_back (T := "str") G EC hb hx sb I J (y := .str t) ⟨u, rfl⟩ rfl F.slot_str_eq EC.ns (fun Q' hq => ?_) hR
    exact call_meets F.slot_str_eq rfl F.entry_str_eq (F.args_str_eq_2 _ _) (str_declines_inst t u a _ _ _) ⟨at_, hq⟩
  · cases ry
    obtain ⟨hz, its, m, rz, eo⟩ := I.hok l _ hl
    refine rc_back (T := "list") G EC hb hx sb I J (y := .ref l) rfl ⟨_, eo, rfl⟩ F.slot_list_eq EC.no (fun Q' hq => ?_) hR
    exact call_meets F.slot_list_eq ⟨_, eo, rfl⟩ F.entry_list_eq (F.args_list_eq_2 _ _) (list_declines_inst (K := X.K) l a _ _ EC.no) ⟨I.kIn, J, hq⟩
end
end Rs
set_option maxRecDepth 100000
set_option maxHeartbeats 1000000
namespace Rs
open PySem PySem.Spec PyProof.Rows L2
open PySem.MeetsSeq PySem.MeetsSeq2 PySem.SeqRoads2
open PySem.AutoSeq1 (wpAny_loadPart')
section
variable {prog : Program} {w : World} {A : Around} {R : Result → Shared → Prop}
/-- at each turn the list is read anew: none of its items is equal -/
def NoI (prog : Program) (w : World) (A : Around) (E : Value → Shared → Prop) (l : Addr) (x : Value) (N : Nat) (I : Nat → Shared → Prop) : Prop :=
  ∀ i s, I i s → ∃ (items : Array Value) (n : Nat), s.heap.get? l = some { cls := .type "list", data := .seq items n } ∧ items.size = N ∧
    ∀ (h1 : i < items.size), wpAny (model prog w) A.in1 (eqBool items[i] x) (fun r s' => r = false ∧ I (i + 1) s') E s
theorem in_loopG (l : Addr) (x : Value) (N : Nat) (I : Nat → Shared → Prop) (hl : NoI prog w A (fun e s' => R (.error e) s') l x N I)
    (fin : ∀ s, I N s → R (.ok (.ret (.bool false))) s) (k : Nat) :
    ∀ i : Nat, N - i = k → i ≤ N → ∀ s, I i s →
      wpAny (model prog w) A.in1 (Builtin.«list.__contains__.loop» ⟨[.ref l, x, rawInt i], []⟩) (GQ.FinOf prog w A R) (fun e s' => R (.error e) s') s := by
  induction k with
  | zero =>
    intro i hk hi s h
    obtain ⟨items, n, hl1, hs1, _⟩ := hl _ _ h
    have hi' : i = N := by omega
    have hR : R (.ok (.ret (.bool false))) s := fin s (hi' ▸ h)
    obtain ⟨hp, g, d, tk, os⟩ := s
    wp_walk using wpAny_loadPart' hl1
    have hi1 : items[((i : Nat) : Int).toNat]? = none := by simp; omega
    rw [hi1]
    wp_walk
    exact hR
  | succ k ih =>
    intro i hk hi s h
    obtain ⟨items, n, hl1, hs1, turn⟩ := hl _ _ h
    have hlt : i < items.size := by omega
    have ht := turn hlt
    obtain ⟨hp, g, d, tk, os⟩ := s
    wp_walk using wpAny_loadPart' hl1
    have hi1 : items[((i : Nat) : Int).toNat]? = some items[i] := by simp [hlt]
    have hc : ((i : Int) + 1) = ((i + 1 : Nat) : Int) := by omega
    rw [hi1]
    refine wpAny_bind (wpAny_mono ht (fun r s2 h2 => ?_) fun _ _ x => x)
    obtain ⟨hr, h2⟩ := h2
    subst hr
    have hrec := ih (i + 1) (by omega) (by omega) s2 h2
    obtain ⟨hp2, g2, d2, tk2, os2⟩ := s2
    wp_walk
    rw [hc]
    exact ⟨plainId_quiet plain_contains_loop _, codeAny_builtin entry_contains_loop (by
      rw [Around.under_plainId plain_contains_loop _]
      exact hrec)⟩
theorem list_inG (l : Addr) (x : Value) (N : Nat) (I : Nat → Shared → Prop) (hl : NoI prog w A (fun e s' => R (.error e) s') l x N I)
    (fin : ∀ s, I N s → R (.ok (.ret (.bool false))) s) {s : Shared} (h : I 0 s) :
    wpAny (model prog w) A.in1 (Builtin.«list.__contains__» ⟨[.ref l, x], []⟩) (GQ.FinOf prog w A R) (fun e s' => R (.error e) s') s := by
  obtain ⟨items, n, hl1, hs1, _⟩ := hl _ _ h
  have hrec := in_loopG (A := A) (R := R) l x N I hl fin _ 0 rfl (Nat.zero_le _) s h
  obtain ⟨hp, g, d, tk, os⟩ := s
  wp_walk using wpAny_loadPart' hl1
  exact ⟨plainId_quiet plain_contains_loop _, codeAny_builtin entry_contains_loop (by
    rw [Around.under_plainId plain_contains_loop _]
    exact hrec)⟩
end
section
variable {X : Cx} {n : Nat} {CX : CXT} {C f : Addr} {fd : FuncData} {ps : List Str} {R : Addr → V → Hp → Bool → Prop} {E : XK}
/-- x in l, x an instance, l a list of other things: False -/
def rInF (C : Addr) (R : Addr → V → Hp → Bool → Prop) : R2 := fun x y H Q => ∃ a l dx fs xs, x = .ref a ∧ y = .ref l ∧ H a = some (.ins C dx fs) ∧ H l = some (.lst xs) ∧ (∀ z ∈ xs, Fgn H z ∧ ∀ H', Ext H H' → R a z H' false) ∧ ∀ H', Ext H H' → Q (.bl false) H'
theorem op_inF (G : FnOk X.prog X.w X.K X.mg X.base CX n f fd ps (spEqB R)) (EC : EqCls X.K C f) (hb : Binds X.K fd ps []) (hx : Passes CX X E) (hr : Room (n + 1) X.A) : OpR X (compareOp .In) (rInF C R) := by
  intro pins s σ H x y v u Q I rx ry hq
  obtain ⟨a, l, dx, fs, xs, rfl, rfl, ha, hl, hz, q⟩ := hq
  cases rx
  cases ry
  have sb : Sub X n X.A.in1 := ⟨hr.in1, rfl⟩
  obtain ⟨_, its0, m0, rz0, eo0⟩ := I.hok l _ hl
  have nI : NoI X.prog X.w X.A X.xe l (.ref a) xs.length (fun i s' => ∃ H', Inv X pins σ H' s' ∧ Ext H H') := by
    rintro i s' ⟨H', I', e⟩
    obtain ⟨_, its, m, rz, eo⟩ := I'.hok l _ (e _ _ hl)
    have hlen : its.toArray.size = xs.length := by
      rw [List.size_toArray]
      exact rz.length.symm
    refine ⟨its.toArray, m, eo, hlen, fun h1 => ?_⟩
    have hi : i < xs.length := by omega
    have hi2 : i < its.length := by simpa using h1
    obtain ⟨u, hu, ru⟩ := rz.get (List.getElem?_eq_getElem hi)
    have eu : its.toArray[i] = u := by
      have : its[i]? = some its[i] := List.getElem?_eq_getElem hi2
      rw [this] at hu
      simpa using Option.some.inj hu
    rw [eu]
    obtain ⟨f1, f2⟩ := hz xs[i] (List.getElem_mem hi)
    have rc := rc_fgn G EC hb hx sb I' (e _ _ ha) ru (f1.ext e) (f2 H' e)
    have ne : ¬ ((u == Value.ref a) = true) := by
      intro hab
      have hab := eq_of_beq hab
      rcases f1 with z | ⟨i, z⟩ | ⟨t, z⟩ | ⟨l2, ys, z, h2⟩
      · rw [z] at ru; cases ru; cases hab
      · rw [z] at ru; obtain ⟨t, rfl⟩ := ru; cases hab
      · rw [z] at ru; obtain ⟨t, rfl⟩ := ru; cases hab
      · rw [z] at ru
        cases ru
        injection hab with hab
        rw [hab, ha] at h2
        cases h2
    unfold eqBool
    refine wpAny_holding ?_
    refine wpAny_ite_split (fun hab => absurd hab ne) (fun _ => ?_)
    have fin : wpAny (model X.prog X.w) X.A.in1 (richCompare .Eq u (.ref a) >>= fun r => truthOfDropped r) (fun r s' => r = false ∧ ∃ H', Inv X pins σ H' s' ∧ Ext H H') X.xe s' := by
      refine wpAny_bind (wpAny_mono rc (fun r s2 z => ?_) fun _ _ e => e)
      obtain ⟨rfl, H2, I2, e2⟩ := z
      exact wpAny_truthy_bool ⟨rfl, H2, I2, e.trans e2⟩
    rcases f1 with z | ⟨i, z⟩ | ⟨t, z⟩ | ⟨l2, ys, z, h2⟩
    · rw [z] at ru; cases ru; exact fin
    · rw [z] at ru; obtain ⟨t, rfl⟩ := ru; exact fin
    · rw [z] at ru; obtain ⟨t, rfl⟩ := ru; exact fin
    · rw [z] at ru; cases ru; exact fin
  show wpAny (model X.prog X.w) X.A (do return .bool (← contains (.ref l) (.ref a))) (EP X pins σ Q) X.xe s
  refine wpAny_bind (wpAny_contains_slot ⟨_, eo0, rfl⟩ F.slot_list_contains (GQ.call_here F.slot_list_contains ⟨_, eo0, rfl⟩ F.entry_list_contains (F.args_list_contains_2 _ _) ?_))
  refine list_inG l (.ref a) xs.length _ nI (fun s' z => ?_) ⟨H, I, Ext.rfl'⟩
  obtain ⟨H', I', e⟩ := z
  exact wpAny_truthy_bool (wpAny_pure ⟨.bl false, H', I', rfl, q H' e⟩)
end
end Rs
set_option maxRecDepth 100000
set_option maxHeartbeats 1000000
namespace Rs
open PySem PySem.Spec PyProof.Rows L2
section
variable {X : Cx} {CX : CXT} {k n : Nat} {f C : Addr} {fd : FuncData} {ps ks : List Str} {sp : Sp} {E : XK} {x : Str} {p pos : Pos} {kws : List Keyword} {tk : TA} {g : List Value → List Value → List Value} {gV : List V → List V → List V}
/-- C(k = v, ..): keywords alone -/
theorem e_makeK0 (M : Mk X.K C f) (F : FnOk X.prog X.w X.K X.mg X.base CX k f fd ps sp) (hr : Room (k + 1) X.A) (hg : Gl X x) (hm : X.mg x = some (.ref C)) (hb : KBn X.K fd ps 1 ks g gV) (hx : Passes CX X E)
    (hkw : PK X kws tk) (hall : (backToKw pos (keywordEach kws X.env)).all (·.1.isSome) = true := by rfl) (hks : (backToKw pos (keywordEach kws X.env)).filterMap (·.1) = ks := by rfl)
    (hdb : (x == ("__debug__" : Str)) = false := by decide)
    (hpl : ((backTo pos (starEach [] X.env)).any (·.1) || (backToKw pos (keywordEach kws X.env)).any (·.1.isNone)) = false := by rfl) :
    PE X (.Call (.Name x p) [] kws pos) (tMakeN C 0 ks.length sp gV E tNil tk) := by
  refine ⟨fun pins s σ H Q I h => ?_⟩
  refine wpAny_Call_Name_kw (ld_glob I hg hm (PySem.W.callWith_KW0 (h₀ := X.base) I.ok.mod.kin M.kp hall (thn (hkw.run pos pins s σ H _ I h) ?_) hpl) hdb)
  rintro ws s2 ⟨zs, H2, I2, rz, l1, l2, q2⟩
  refine ⟨I2.kIn, ?_⟩
  rw [hks]
  exact run_makeN (n := 0) (us := []) (vs := []) M F hr hb hx I2 .nil rz l1 l2 q2
/-- repr(o) by an own __repr__ -/
theorem call_reprI (F : FnOk X.prog X.w X.K X.mg X.base CX n f fd ps sp) (hf : PySem.W.findIn X.K (.ref C) "__repr__" = some (some (.ref f))) (fn : PySem.W.isFn X.K (.ref f) = true) (hb : Binds X.K fd ps []) (hx : Passes CX X E) (hr : Room (n + 1) X.A) :
    CallR X (.builtin "repr") (fun xs H Q => ∃ a dx fs, xs = [.ref a] ∧ H a = some (.ins C dx fs) ∧ sp [.ref a] H (fun v H' => ∃ t, v = .str t ∧ Q v H') E) := by
  intro pins s σ H xs us Q I r h
  obtain ⟨a, dx, fs, rfl, ha, hsp⟩ := h
  obtain ⟨u, rfl, ru⟩ := vals1 r
  obtain rfl : u = Value.ref a := ru
  obtain ⟨mA, O, _⟩ := ins_get I.hok ha
  obtain ⟨od, J, _⟩ := O.look
  obtain ⟨m, hF⟩ := I.fr
  refine PySem.W.repr_K hr.in1.units0 hF I.ok.mod.kin J hf fn ?_
  have hl := F.len _ _ _ _ hsp
  refine wpAny_call (codeAny_mono (F.run X.A.in1 X.stack s H ⟨[.ref a], []⟩ [.ref a] [.ref a] _ E hr.in1 I.env0.in1 (by
    have := hb s [.ref a] I.kIn (by simpa using hl)
    simpa using this) (.cons rfl .nil) hsp) fun r s' hq => ?_)
  cases r with
  | error e => exact hx pins σ H s e s' I hq
  | ok fl =>
    cases fl with
    | ret w =>
      obtain ⟨z, H', I', rz, t, rfl, q⟩ := I.after hq
      obtain ⟨tk, rfl⟩ := rz
      exact ⟨.str t, H', I', ⟨tk, rfl⟩, q⟩
    | next => exact False.elim hq
    | brk => exact False.elim hq
    | cont => exact False.elim hq
end
/-! a property that returns a field, by a look -/
def wfP (K : PySem.W.Frag) (C : Addr) (m : Str) : Addr := match PySem.W.recIn K (He.ma K C m) "property" with
  | some (.ref g :: _) => g
  | _ => 0
def gettB (K : PySem.W.Frag) (g : Addr) (q f : Str) : Bool := match K.lookup g with
  | some ⟨_, _, .func ⟨_, qual, ⟨[], [⟨a, none, _⟩], none, [], [], none, []⟩, .stmts [.Return (some (.Attribute (.Name s _) f' _)) _], scope, gl, [], .none, _, _, _, _, cdv, _, bn⟩, _⟩ =>
    decide (qual = q) && (decide (a = "self") && (decide (s = "self") && (decide (f' = f) && (decide (gl = mainGlobals) && (decide (bn = builtinsNs) && (PySem.W.codeIn K cdv q && (decide (scope.kind = .function) && (!scope.isCoroutine && (!scope.isGenerator && (decide (scope.names.lookup ("self" : Str) = some .local) && scope.names.all fun y => decide (y.2 ≠ .free)))))))))))
  | _ => false
def propB (K : PySem.W.Frag) (C : Addr) (q m f : Str) : Bool := He.eqO (PySem.W.findIn K (.ref C) m) (some (some (.ref (He.ma K C m)))) && (He.eqO (PySem.W.specialIn K (.ref (He.ma K C m)) "__get__") (some (some (.builtin "property.__get__"))) && (decide (PySem.W.takesIn K (.ref (He.ma K C m)) = some true) &&
  ((match PySem.W.recIn K (He.ma K C m) "property" with
    | some (.ref g :: _) => decide (g = wfP K C m)
    | _ => false) && gettB K (wfP K C m) q f)))
theorem gett_ok {K : PySem.W.Frag} {C g : Addr} {q f : Str} (h : gettB K g q f = true) (c : Cls K C) (n : NoAttr K C f) : ∃ fd, (∀ (P : Program) (w : World) (mg : Str → Option Value) (base : Heap) (CX : CXT) (k : Nat), FnOk P w K mg base CX (k + 1) g fd ["self"] (getSp C f)) ∧ Binds K fd ["self"] [] := by
  unfold gettB at h
  split at h
  · rename_i oc od nm qual a ap s sp f' fp rp scope gl kV doc pm an cdv ct bn osl lk
    obtain ⟨h1, h⟩ := He.ba h
    obtain ⟨h2, h⟩ := He.ba h
    obtain ⟨h3, h⟩ := He.ba h
    obtain ⟨h4, h⟩ := He.ba h
    obtain ⟨h5, h⟩ := He.ba h
    obtain ⟨h6, h⟩ := He.ba h
    obtain ⟨h7, h⟩ := He.ba h
    obtain ⟨h8, h⟩ := He.ba h
    obtain ⟨h9, h⟩ := He.ba h
    obtain ⟨h10, h⟩ := He.ba h
    obtain ⟨h11, h12⟩ := He.ba h
    obtain rfl := of_decide_eq_true h1
    obtain rfl := of_decide_eq_true h2
    obtain rfl := of_decide_eq_true h3
    obtain rfl := of_decide_eq_true h4
    obtain rfl := of_decide_eq_true h5
    obtain rfl := of_decide_eq_true h6
    have S : FnScope ["self"] ["self"] scope := ⟨of_decide_eq_true h8, by simpa using h9, by simpa using h10, by decide, rfl, fun x hx => by
      obtain rfl := List.mem_singleton.mp hx
      exact .inl (of_decide_eq_true h11), fun y hy => of_decide_eq_true (List.all_eq_true.mp h12 y hy)⟩
    refine ⟨_, fun P w mg base CX k => fn_getter (k := k) lk h7 S rfl rfl c n, ?_⟩
    exact .all fun us hl => match us, hl with | [_], _ => rfl
  · cases h
theorem prop_ok {K : PySem.W.Frag} {C : Addr} {q m f : Str} (h : propB K C q m f = true) (c : Cls K C) (n : NoAttr K C f) :
    PropOf K C m (He.ma K C m) (wfP K C m) ∧ ∃ fd, (∀ (P : Program) (w : World) (mg : Str → Option Value) (base : Heap) (CX : CXT) (k : Nat), FnOk P w K mg base CX (k + 1) (wfP K C m) fd ["self"] (getSp C f)) ∧ Binds K fd ["self"] [] := by
  obtain ⟨h1, h⟩ := He.ba h
  obtain ⟨h2, h⟩ := He.ba h
  obtain ⟨h3, h⟩ := He.ba h
  obtain ⟨h4, h5⟩ := He.ba h
  refine ⟨⟨He.eqO_ok h1, He.eqO_ok h2, of_decide_eq_true h3, ?_⟩, gett_ok h5 c n⟩
  split at h4
  · rename_i g rest e
    exact ⟨rest, by rw [e, of_decide_eq_true h4]⟩
  · cases h4
end Rs
set_option maxRecDepth 100000
set_option maxHeartbeats 1000000
/-! enumerate(tuple) -/
namespace Rs
open PySem PySem.Spec PyProof.Rows L2
open PySem.AutoSeq1 (wpAny_loadPart')
theorem meets_enumerate_newT (l : Addr) (items : Array Value) (n : Nat) (dct : Option Addr) (sl : Array (Option Value)) :
    Meets (Builtin.«enumerate.__new__» ⟨[.type "enumerate", .ref l], []⟩) (fun _ R s => s.heap.get? l = some { cls := .type "tuple", dict := dct, data := .seq items n, slots := sl } ∧
      R (.ok (.ret (.ref (s.heap.push { cls := .type "tuple_iterator", data := .fields #[.ref l, .int 0 0] }).objs.size)))
        { s with heap := (s.heap.push { cls := .type "tuple_iterator", data := .fields #[.ref l, .int 0 0] }).push { cls := .type "enumerate", data := .fields #[.none, .bool false, .ref s.heap.objs.size, rawInt 0, .none, .none] } }) :=
  .of_wp fun prog w A R s h => by
    obtain ⟨hp, g, d, tk, os⟩ := s; obtain ⟨hl, h⟩ := h
    have hsub := sub_enumerate
    have hL : Heap.IsTuple (Shared.heap ⟨hp, g, d, tk, os⟩) l items := ⟨_, hl, rfl, n, rfl⟩
    wp_walk using wpAny_loadPart' hl
    refine wpAny_stack_any fun st => wpAny_pure ?_
    split
    · rename_i c _ _ _ _ _
      cases (c == Value.type "enumerate")
      · wp_walk using wpAny_loadPart' hl, wpAny_pyIter_tuple hL
        exact ⟨_, rfl, h⟩
      · wp_walk using wpAny_loadPart' hl, wpAny_pyIter_tuple hL
        exact ⟨_, rfl, h⟩
    · wp_walk using wpAny_loadPart' hl, wpAny_pyIter_tuple hL
      exact ⟨_, rfl, h⟩
section
variable {prog : Program} {w : World} {A : Around} {E : Value → Shared → Prop} {s : Shared}
theorem call_enumerate_tuple {l : Addr} {items : Array Value} {Q : Value → Shared → Prop} (hL : s.heap.IsTuple l items)
    (h : ∀ h', IsEnum h' (s.heap.objs.size + 1) s.heap.objs.size 0 .none → h'.IsTupleIter s.heap.objs.size l 0 → h'.objs.size = s.heap.objs.size + 2 →
      (∀ b o, s.heap.get? b = some o → h'.get? b = some o) → Q (.ref (s.heap.objs.size + 1)) { s with heap := h' }) :
    wpAny (model prog w) A (call (.type "enumerate") [.ref l]) Q E s := by
  obtain ⟨⟨c, dct, dt, sl⟩, hl, hc, n, hd⟩ := hL
  replace hc : c = .type "tuple" := hc
  replace hd : dt = .seq items n := hd
  subst hc hd
  refine callType_new F.called_enumerate (by decide) (F.typeCall_enumerate_1 _) (F.newCall_enumerate_1 _) (fun obj => F.args_object_init_2 obj _) F.entry_enumerate_new
    (meets_enumerate_newT l items n dct sl) ⟨hl, ?_⟩
  have hz : (s.heap.push { cls := .type "tuple_iterator", data := .fields #[.ref l, .int 0 0] }).objs.size = s.heap.objs.size + 1 := Heap.size_push ..
  show _ ∧ _
  rw [hz]
  have he : IsEnum ((s.heap.push { cls := .type "tuple_iterator", data := .fields #[.ref l, .int 0 0] }).push
      { cls := .type "enumerate", data := .fields #[.none, .bool false, .ref s.heap.objs.size, rawInt 0, .none, .none] }) (s.heap.objs.size + 1) s.heap.objs.size 0 .none := by
    have := Heap.get?_push_size (s.heap.push { cls := .type "tuple_iterator", data := .fields #[.ref l, .int 0 0] })
      (o := { cls := .type "enumerate", data := .fields #[.none, .bool false, .ref s.heap.objs.size, rawInt 0, .none, .none] }) rfl
    rw [hz] at this; exact this
  refine ⟨⟨_, he, rfl⟩, h _ he ⟨_, Heap.get?_push_of_some _ (Heap.get?_push_size _ rfl), rfl, rfl⟩ (by rw [Heap.size_push, hz]) fun b o x => Heap.get?_push_of_some _ (Heap.get?_push_of_some _ x)⟩
end
/-- the tuple at a, each item in a new pair -/
def ItetT (K : PySem.W.Frag) (a : Addr) : It :=
  ⟨fun i H => ∃ (xs : List V) (x : V), SqT K H a xs ∧ xs[i]? = some x, fun i H v H' => ∃ T x, v = .ref T ∧ H T = none ∧ H' = upd H T (.tup [.int (i : Nat), x]) ∧ ∀ xs, SqT K H a xs → xs[i]? = some x, fun i H => ∃ xs : List V, SqT K H a xs ∧ xs.length ≤ i⟩
theorem turn_enumT {P : Program} {w : World} {K : PySem.W.Frag} {elts : List Expr} {kk : Nat} {tpos : Pos} (a e it : Addr) :
    Turn P w K (.Tuple elts kk tpos) (ItetT K a) [e, it] e (fun i h => (∃ old, IsEnum h e it ((i : Nat) : Int) old) ∧ h.IsTupleIter it a i ∧ e ≠ it) where
  mem := by simp
  obj := fun i h st b hb => by
    obtain ⟨⟨old, he⟩, ⟨o, ho, hc, hd⟩, _⟩ := st
    have e' : b = e ∨ b = it := by simpa using hb
    rcases e' with z | z
    · rw [z]; exact ⟨_, he, fun v q => nomatch q⟩
    · rw [z]; exact ⟨o, ho, fun v q => by rw [hd] at q; cases q⟩
  keep := fun i h h' st k => let ⟨⟨old, he⟩, hi, hne⟩ := st; ⟨⟨old, k e (by simp) _ he⟩, hi.at fun o q => k it (by simp) o q, hne⟩
  item := by
    intro X hP hw hK hc i pins s σ H E I hf st hg
    subst hP hw hK
    obtain ⟨⟨old, he⟩, hit, hne⟩ := st
    obtain ⟨xs, x, hq, hx⟩ := hg
    obtain ⟨its, rv, p, hz⟩ := I.tuple hq
    obtain ⟨u, hu, ru⟩ := rv.get hx
    have hel : e < s.heap.objs.size := Heap.lt_size he
    have hil : it < s.heap.objs.size := by obtain ⟨_, q, _⟩ := hit; exact Heap.lt_size q
    have ptu : s.heap.IsTuple a its.toArray := p
    have hai : a ≠ it := by
      intro z
      obtain ⟨o1, q1, c1, _⟩ := hit
      obtain ⟨o2, q2, c2, _⟩ := ptu
      rw [z, q1] at q2
      injection q2 with q2
      rw [q2, c2] at c1
      exact absurd (Value.type.inj c1) (by decide)
    have hae : e ≠ a := by
      intro z
      obtain ⟨o2, q2, c2, _⟩ := ptu
      have he2 : s.heap.get? e = _ := he
      rw [z, q2] at he2
      injection he2 with he2
      rw [he2] at c2
      exact absurd (Value.type.inj c2) (by decide)
    have hlt : i < its.toArray.size := by
      have := (List.getElem?_eq_some_iff.mp hu).1
      simpa using this
    refine wpAny_pyNext_enum_itemD (Draws.tuple (show X.A.in1.handled = none from I.ok.hd hc) it a hai its.toArray) he ⟨hit, ptu⟩ hlt hne (by simp [hne, hae]) fun x' h' tk hP ho hst hT hsz hk => ?_
    have ex : x' = u := by
      have hP : its.toArray[i]? = some x' := hP
      have hu2 : its.toArray[i]? = some u := by simpa using hu
      exact Option.some.inj (hP.symm.trans hu2)
    subst ex
    obtain ⟨hit', _⟩ := hst
    refine ⟨_, rfl, wpAny_letOwnedTupleGo_enum (s := { s with heap := h', toks := tk + 1 }) ho fun h'' he' sb => ?_⟩
    have hT2 : h''.get? s.heap.objs.size = some { cls := .type "tuple", data := .seq #[.int i tk, x'] } := (sb.2 _ (Nat.ne_of_gt hel)).trans hT
    have new : ObjOk X.prog X.w (upd H s.heap.objs.size (.tup [.int (i : Nat), x])) h'' s.heap.objs.size (.tup [.int (i : Nat), x]) :=
      ⟨by show 2 ≤ sizeLine; decide, [.int i tk, x'], .cons ⟨_, rfl⟩ (.cons ru .nil), ⟨_, hT2, rfl, _, rfl⟩⟩
    have I1 : Inv X pins σ (upd H s.heap.objs.size (.tup [.int (i : Nat), x])) { s with heap := h'', toks := tk + 1 } :=
      I.turnedNew (ch := [e, it]) (fun b ob hb q => (sb.2 b (fun z => hb (by simp [z]))).trans (hk b ob (fun z => hb (by simp [z])) (fun z => hb (by simp [z])) q)) hf (Nat.le_refl _) new
    refine ⟨.ref s.heap.objs.size, _, I1, rfl, ⟨_, x, rfl, I.hok.fresh (Nat.le_refl _), rfl, fun ys hy => by rw [I.tuple_inj hy hq]; exact hx⟩, ⟨⟨x', ?_⟩, hit'.at fun o q => (sb.2 it (Ne.symm hne)).trans q, hne⟩, fun b hb => ?_⟩
    · have e1 : ((i + 1 : Nat) : Int) = (i : Int) + 1 := by omega
      rw [e1]; exact he'
    · have hb' : b < s.heap.objs.size := by
        have e' : b = e ∨ b = it := by simpa using hb
        rcases e' with z | z
        · rw [z]; exact hel
        · rw [z]; exact hil
      rw [upd_ne (Nat.ne_of_lt hb')]
      exact (hf b hb).1
  done := by
    intro X hP hw hK hc i pins s σ H E I hf st hg
    subst hP hw hK
    obtain ⟨⟨old, he⟩, hit, hne⟩ := st
    obtain ⟨xs, hq, hx⟩ := hg
    obtain ⟨its, rv, p, hz⟩ := I.tuple hq
    obtain ⟨f0, f1, f2, f3, f4, f5⟩ := hf it (by simp)
    have hl := rv.length
    have ptu : s.heap.IsTuple a its.toArray := p
    have hT : s.TypeIs (.ref e) "enumerate" := ⟨_, he, rfl⟩
    unfold pyNext
    refine wpAny_bind (wpAny_attempt (wpAny_callSpecial?_slot (name := Str.ofString "__next__") hT F.slot_enumerate_next
      (wpAny_call_entry F.slot_enumerate_next hT F.entry_enumerate_next ?_ (F.args_enumerate_next_1 _))))
    show wpAny _ _ (field (.ref e) 2 >>= _) _ _ _
    refine wpAny_bind (wpAny_field he rfl (x := .ref it) rfl ?_)
    refine wpAny_bind (wpAny_nextOf_tuple_end (show X.A.in1.handled = none from I.ok.hd hc) hit ptu (by simp; omega) fun h' x he' hx' => ?_)
    obtain ⟨o, ho, hc'⟩ := hx'
    refine wpAny_bind (wpAny_isInstance (T := "StopIteration") (b := true) ⟨o, ho, hc'⟩ isSubtype_stop ?_)
    exact wpAny_pure ⟨rfl, I.turned (t' := s.toks) (fun b o hb q => he' b o hb q) f0 f1 f3 f4 f5⟩
  self := fun A i s Q E st h => let ⟨⟨_, he⟩, _⟩ := st; wpAny_pyIter_enum he h
def iEnumT (K : PySem.W.Frag) (ta : TA) : TI := fun σ H R => ta σ H fun vs H1 => ∃ a xs, vs = [.ref a] ∧ SqT K H1 a xs ∧ R (ItetT K a) H1
theorem pi_enumT {X : Cx} {e : Expr} {ta : TA} {p pos tpos : Pos} {elts : List Expr} {kk : Nat} (hg : Gl X "enumerate") (hm : X.mg "enumerate" = none) (ha : PA X [e] ta) (hs : starEach [e] X.env = [(false, eval e X.env)] := by rfl) :
    PI X (.Tuple elts kk tpos) (.Call (.Name "enumerate" p) [e] [] pos) (iEnumT X.K ta) := by
  refine ⟨fun pins s σ H R I h => ?_⟩
  refine Call_ (ld_blt I hg hm boot_enumerate (PyProof.Rows.callWith_type1 (thn (ha.run pos pins s σ H _ I h) fun us s1 ⟨vs, H1, I1, r1, q1⟩ => ?_) hs rfl))
  obtain ⟨a, xs, ex, hq, q⟩ := q1
  subst ex
  cases r1 with
  | cons r rr =>
    cases rr
    cases r
    obtain ⟨its, rv, p', hz⟩ := I1.tuple hq
    refine call_enumerate_tuple (show s1.heap.IsTuple a its.toArray from p') fun h' he hit hsz hk => wpAny_pyIter_enum he ?_
    have I2 : Inv X pins σ H1 { s1 with heap := h' } := I1.kept (t' := s1.toks) hk
    refine ⟨s1.heap.objs.size + 1, [s1.heap.objs.size + 1, s1.heap.objs.size], _, _, H1, rfl, I2, turn_enumT a (s1.heap.objs.size + 1) s1.heap.objs.size, ⟨⟨.none, he⟩, hit, Nat.succ_ne_self _⟩, fun b hb => ?_, q⟩
    have e' : b = s1.heap.objs.size + 1 ∨ b = s1.heap.objs.size := by simpa using hb
    have hle : s1.heap.objs.size ≤ b := by
      rcases e' with z | z
      · rw [z]; exact Nat.le_add_right _ _
      · rw [z]; exact Nat.le_refl _
    exact I1.fpOk hle (I1.hok.fresh hle)
theorem walk_enumT {K : PySem.W.Frag} {a : Addr} {xs : List V} : Walk (ItetT K a) xs.length (fun H => SqT K H a xs) (YPair (fun i => some (.int (i : Nat))) (fun i => xs[i]?)) := by
  refine ⟨fun i _ hi q => ⟨xs, xs[i], q, by simp [hi]⟩, fun _ q => ⟨xs, q, Nat.le_refl _⟩, fun i H v H' _ q y => ?_⟩
  obtain ⟨T, x, h1, h2, h3, h4⟩ := y
  exact ⟨T, .int (i : Nat), x, h1, h2, h3, rfl, h4 xs q⟩
end Rs
set_option maxRecDepth 100000
set_option maxHeartbeats 2000000
namespace KT
open PySem PySem.Spec PyProof.Rows L2
structure Bz (mg : Str → Option Value) : Prop where
  b : Bn mg
  isinst : mg "isinstance" = none
  int : mg "int" = none
  bool : mg "bool" = none
  str : mg "str" = none
  all : mg "all" = none
  enumerate : mg "enumerate" = none
  repr : mg "repr" = none
  max : mg "max" = none
abbrev sNum : Stmt := top 2
abbrev sNumF : Stmt := top 3
abbrev sNumT : Stmt := top 4
def inside (st : Stmt) (i : Nat) : Stmt := match st with
  | .ClassDef _ _ _ b _ _ _ _ _ _ _ => b.getD i (.Pass ⟨0, 0, 0, 0⟩)
  | s => s
abbrev sInit : Stmt := inside (top 44) 0
abbrev sRows : Stmt := inside (top 44) 3
abbrev sEq : Stmt := inside (top 44) 9
abbrev sRepr : Stmt := inside (top 44) 10
theorem scNum : FnScope ["value"] ["value"] (defScope sNum) := ⟨rfl, rfl, rfl, by decide +kernel, rfl, by decide +kernel, by decide +kernel⟩
theorem scNumF : FnScope ["value", "low", "high"] ["value", "low", "high"] (defScope sNumF) := ⟨rfl, rfl, rfl, by decide +kernel, rfl, by decide +kernel, by decide +kernel⟩
theorem scNumT : FnScope ["value", "width", "item"] ["value", "width"] (defScope sNumT) := ⟨rfl, rfl, rfl, by decide +kernel, rfl, by decide +kernel, by decide +kernel⟩
def spNum : Sp := fun vs H Q _ => ∃ i : Int, vs = [.int i] ∧ Q (.bl true) H
def spNumF : Sp := fun vs H Q _ => ∃ i lo hi : Int, vs = [.int i, .int lo, .int hi] ∧ Q (.bl (decide (lo ≤ i) && decide (i ≤ hi))) H
def spNumT : Sp := fun vs H Q _ => ∃ (x : Addr × List Int), vs = [.ref x.1, .int (x.2.length : Nat)] ∧ RT H x ∧ x.2.length ≤ 1000 ∧ ∀ H', Same H H' → Q (.bl true) H'
section
variable {P : Program} {w : World} {K : PySem.W.Frag} {mg : Str → Option Value} {base : Heap}
theorem ok_num {f : Addr} {fd : FuncData} {k : Nat} (F : Fun K "is_number" "is_number" sNum f fd) (B : Bz mg) : FnOk P w K mg base CX0 (k + 1) f fd ["value"] spNum := by
  refine F.ok scNum (fun vs H Q E h => ?_) (fun cdv A outer s H vs Q E hr h => ?_)
  · obtain ⟨i, rfl, _⟩ := h
    rfl
  · obtain ⟨i, rfl, q⟩ := h
    refine ⟨_, pss_one (ps_ret (pe_and (pe_callB call_isi (by rfl) B.isinst boot_isinstance (pa_cons (pv 0) (pa_cons (pe_bltn (v := .ty "int") (by rfl) B.int PyProof.Rows.boot_int rfl) pa_nil)))
      (pe_one (pe_not (pe_callB call_isi (by rfl) B.isinst boot_isinstance (pa_cons (pv 0) (pa_cons (pe_bltn (v := .ty "bool") (by rfl) B.bool PyProof.Rows.boot_bool rfl) pa_nil))))))), ?_⟩
    exact ⟨_, rfl, _, _, _, _, true, rfl, .ty _, .base (.int i), kit_ty (by decide +kernel), true, rfl, iteT ⟨_, rfl, _, _, _, _, false, rfl, .ty _, .base (.int i), kit_ty (by decide +kernel), false, rfl, q⟩⟩
theorem ok_numF {f fN : Addr} {fd fdN : FuncData} {k : Nat} (F : Fun K "is_number_from" "is_number_from" sNumF f fd) (cN : Cb P w K mg base CX0 (k + 1) "is_number" ["value"] spNum fN fdN) : FnOk P w K mg base CX0 (k + 2) f fd ["value", "low", "high"] spNumF := by
  refine F.ok scNumF (fun vs H Q E h => ?_) (fun cdv A outer s H vs Q E hr h => ?_)
  · obtain ⟨i, lo, hi, rfl, _⟩ := h
    rfl
  · obtain ⟨i, lo, hi, rfl, q⟩ := h
    refine ⟨_, pss_one (ps_ret (pe_and (pe_call cN.ok hr (by rfl) cN.g cN.kp cN.b .nil pass0 (pa_cons (pv 0) pa_nil)) (pe_one (pe_chain op_le op_le (pv 1) (pv 0) (pv 2))))), ?_⟩
    refine ⟨_, rfl, i, rfl, true, rfl, iteT ⟨_, rfl, _, rfl, _, _, rfl, rfl, _, rfl, ?_⟩⟩
    by_cases h1 : lo ≤ i
    · rw [decide_eq_true h1] at q ⊢
      exact iteT ⟨_, rfl, _, _, rfl, rfl, q⟩
    · rw [decide_eq_false h1] at q ⊢
      exact iteF q
theorem ok_numT {f fN : Addr} {fd fdN : FuncData} {k : Nat} (F : Fun K "is_number_tuple" "is_number_tuple" sNumT f fd) (B : Bz mg) (cN : Cb P w K mg base CX0 (k + 1) "is_number" ["value"] spNum fN fdN) : FnOk P w K mg base CX0 (k + 2) f fd ["value", "width"] spNumT := by
  refine F.ok scNumT (fun vs H Q E h => ?_) (fun cdv A outer s H vs Q E hr h => ?_)
  · obtain ⟨x, rfl, _⟩ := h
    rfl
  · obtain ⟨x, rfl, hx, h1000, q⟩ := h
    refine ⟨_, pss_one (ps_ret (pe_and (pe_callB call_isi (by rfl) B.isinst boot_isinstance (pa_cons (pv 0) (pa_cons (pe_bltn (v := .ty "tuple") (by rfl) B.b.tuple PyProof.Rows.boot_tuple rfl) pa_nil)))
      (pe_and (pe_cmpR op_eq (pe_callB call_len_seq (by rfl) B.b.len PySem.boot_len (pa_cons (pv 0) pa_nil)) (pv 1) (nomark _))
      (pe_one (pe_callB (cr_all rfl) (by rfl) B.all boot_all (pa_cons (pe_lc (own := [("item", 2)]) (g := gName 2) (tt := tYes) (te := tCall spNum [] E0 (tCons (tVar 2) tNil)) rfl scNumT.nd (pi_tup (pv 0))
        (blkOk_by (N := ["value", "width", "item"]) (sc := defScope sNumT) (by decide +kernel)) (fun _ _ _ _ _ => pg_name (i := 2) scNumT.nd rfl (Or.inl rfl)) (fun _ _ _ _ _ => pts_nil)
        (fun _ _ _ _ _ => pe_call cN.ok hr (by rfl) cN.g cN.kp cN.b .nil pass0 (pa_cons (pv 2) pa_nil))) pa_nil)))))), ?_⟩
    refine ⟨_, rfl, _, _, _, _, true, rfl, .ty _, .base (.tup hx), kit_ty (by decide +kernel), true, rfl, iteT ⟨_, rfl, x.1, _, rfl, .inr (SqT.of hx), _, rfl, rfl, true, ?_, iteT ?_⟩⟩
    · rw [List.length_map]
      exact congrArg V.bl (decide_eq_true rfl)
    · refine ⟨_, rfl, x.1, rfl, ⟨_, SqT.of hx⟩, fun D nD => ?_⟩
      refine lc_sel (e := V.int) (out := fun _ => V.bl true) (walk_tup (K := K) (a := x.1)) (tt := tYes) (te := tCall spNum [] E0 (tCons (tVar 2) tNil)) (σ := [some (.ref x.1), some (.int (x.2.length : Nat)), none]) (i := 2) (fun _ => true) (Nat.lt_of_le_of_lt h1000 (by decide)) nD (fun H2 s2 => SqT.of (s2 _ _ hx)) (fun x H2 Q _ _ h => h) ?_ ?_
      · intro i H2 Q2 hi _ s2 hQ
        exact ⟨_, rfl, i, rfl, hQ H2 (Same.refl _)⟩
      · intro H2 s2 hD
        rw [List.filter_eq_self.mpr (by simp)] at hD
        refine ⟨D, x.2.map fun _ => true, rfl, SqL.of (by rw [hD, List.map_map]; rfl), ?_⟩
        have e : (x.2.map fun _ => true).all id = true := by
          rw [List.all_eq_true]
          intro b hb
          obtain ⟨_, _, rfl⟩ := List.mem_map.mp hb
          rfl
        rw [e]
        exact q H2 s2
end
end KT
set_option maxRecDepth 100000
set_option maxHeartbeats 2000000
namespace KT
open PySem PySem.Spec PyProof.Rows L2
/-- where a row begins -/
def gI (r : List Int) : Nat := r.findIdx fun x => decide (x ≠ 0)
def ldr (r : List Int) : Int := r.getD (gI r) 0
def mny (w : Nat) (rs : List (List Int)) : V := if rs.length < w then .non else .int (prod (rs.map ldr))
theorem gI_of {r : List Int} {n : Nat} (h : BegL r n) : gI r = n := by
  obtain ⟨h1, h2, h3⟩ := h
  unfold gI
  rw [List.findIdx_eq h1]
  refine ⟨?_, fun j hj => ?_⟩
  · rw [List.getD_eq_getElem?_getD, List.getElem?_eq_getElem h1] at h2
    exact decide_eq_true h2
  · have := h3 j hj
    rw [List.getD_eq_getElem?_getD, List.getElem?_eq_getElem (by omega)] at this
    exact decide_eq_false (fun z => z this)
theorem fd_beg {w b n a : Nat} {r : List Int} (h : Hm.Fd w b n a r) (ha : a ≤ 3) (cap : 25 * b + 6 * n + 6 ≤ 1200) : BegL r (gI r) ∧ (ldr r).natAbs < 2 ^ 9000 ∧ 0 < ldr r := by
  obtain ⟨c, hc, ⟨g1, g2⟩, g3, g4⟩ := h.beg
  have hcl : c < r.length := by
    apply Nat.lt_of_not_le
    intro z
    apply g2
    unfold Hm.fn
    rw [List.getD_eq_getElem?_getD, List.getElem?_eq_none z]
    rfl
  have bg : BegL r c := ⟨hcl, g2, g1⟩
  have e := gI_of bg
  have el : ldr r = Hm.fn r c := by
    unfold ldr
    rw [e]
    rfl
  refine ⟨by rw [e]; exact bg, ?_, by rw [el]; exact g3⟩
  rw [el]
  exact Nat.lt_of_le_of_lt g4 (Hm.two_pow_lt (Nat.lt_of_le_of_lt (Hm.bb_le cap (by omega)) (by omega)))
/-- all stays but tables and the object at x -/
abbrev StN := Rs.StN
theorem StN.trans {x : Addr} {H H1 H2 : Hp} (a : StN x H H1) (b : StN x H1 H2) : StN x H H2 := fun c o hc h n => b c o hc (a c o hc h n) n
theorem StN.of {x : Addr} {H H' : Hp} (e : LamX.ExtN H H') : StN x H H' := fun c o _ h n => e c o h n
theorem StN.upd {x : Addr} {H : Hp} {o : HO} : StN x H (upd H x o) := fun c u hc h _ => by
  rw [upd_ne hc]
  exact h
theorem tabs_ins {T : List (Addr × Str)} {H : Hp} {x C dx : Addr} {fs : List (Str × V)} {o : HO} (t : LamX.Tabs T H) (hx : H x = some (.ins C dx fs)) : LamX.Tabs T (L2.upd H x o) := by
  intro p hp
  obtain ⟨ps, h1, h2, h3⟩ := t p hp
  refine ⟨ps, ?_, h2, fun pos cv hc => ?_⟩
  · rw [upd_ne (fun e => by rw [e, hx] at h1; cases h1)]
    exact h1
  · obtain ⟨c, e1, e2⟩ := h3 pos cv hc
    refine ⟨c, e1, ?_⟩
    rw [upd_ne (fun e => by rw [e, hx] at e2; unfold LamX.CodeO at e2; cases e2)]
    exact e2
theorem RT.st {x : Addr} {H H' : Hp} {y : Addr × List Int} (h : RT H y) (e : StN x H H') (hx : ∃ C dx fs, H x = some (.ins C dx fs)) : RT H' y := by
  refine e _ _ (fun z => ?_) h (fun ps z => nomatch z)
  obtain ⟨C, dx, fs, hx⟩ := hx
  unfold RT at h
  rw [z, hx] at h
  cases h
theorem RL.st {x q : Addr} {H H' : Hp} {rs : List (Addr × List Int)} (h : RL H q rs) (e : StN x H H') (hx : ∃ C dx fs, H x = some (.ins C dx fs)) : RL H' q rs := by
  refine ⟨e _ _ (fun z => ?_) h.lst (fun ps z => nomatch z), fun y hy => (h.row y hy).st e hx⟩
  obtain ⟨C, dx, fs, hx⟩ := hx
  have := h.lst
  rw [z, hx] at this
  cases this
theorem RI.st {K : PySem.W.Frag} {x q : Addr} {H H' : Hp} {rs : List (Addr × List Int)} (h : RI K H q rs) (e : StN x H H') (hx : ∃ C dx fs, H x = some (.ins C dx fs)) : RI K H' q rs := by
  refine ⟨?_, fun y hy => (h.row y hy).st e hx⟩
  obtain ⟨C, dx, fs, hx⟩ := hx
  rcases h.seq with ((h | ⟨o, h⟩) | h) | ((h | ⟨o, h⟩) | h)
  · exact .inl (.inl (.inl (e _ _ (fun z => by rw [z, hx] at h; cases h) h (fun ps z => nomatch z))))
  · exact .inl (.inl (.inr ⟨o, e _ _ (fun z => by rw [z, hx] at h; cases h) h (fun ps z => nomatch z)⟩))
  · exact .inl (.inr h)
  · exact .inr (.inl (.inl (e _ _ (fun z => by rw [z, hx] at h; cases h) h (fun ps z => nomatch z))))
  · exact .inr (.inl (.inr ⟨o, e _ _ (fun z => by rw [z, hx] at h; cases h) h (fun ps z => nomatch z)⟩))
  · exact .inr (.inr h)
abbrev NI : List Str := ["self", "width", "rows", "at", "row"]
theorem scInit : FnScope NI ["self", "width", "rows"] (defScope sInit) := ⟨rfl, rfl, rfl, by decide +kernel, rfl, by decide +kernel, by decide +kernel⟩
/-- the fields of a table -/
def flds (w : Nat) (q : Addr) (rs : List (List Int)) : List (Str × V) := [("wide", .int (w : Nat)), ("normal", .ref q), ("many", mny w rs)]
def spInit (K : PySem.W.Frag) (C : Addr) (T : List (Addr × Str)) : Sp := fun vs H Q _ => ∃ (x dx l : Addr) (rs : List (Addr × List Int)) (w b n : Nat), vs = [.ref x, .int (w : Nat), .ref l] ∧ H x = some (.ins C dx []) ∧ RI K H l rs ∧ LamX.Tabs T H ∧ 1 ≤ w ∧ w ≤ 3 ∧ 1 ≤ b ∧ 25 * b + 6 * n + 6 ≤ 1200 ∧ rs.length ≤ n ∧ (∀ r ∈ rw_ rs, Rk w 0 b r) ∧
  ∀ (H' : Hp) (q : Addr) (fs : List (Addr × List Int)) (rest : List (List Int)), StN x H H' → LamX.Tabs T H' → New H q → H' x = some (.ins C dx (flds w q (rw_ fs))) → RL H' q fs → (∀ r ∈ rw_ fs, Hm.Fd w b n w r) → Hm.Nrm w w (rw_ rs) (rw_ fs) rest → fs.length ≤ w → Q .non H'
structure TCls (K : PySem.W.Frag) (C : Addr) : Prop where
  cl : Cls K C
  wide : NoAttr K C "wide"
  normal : NoAttr K C "normal"
  many : NoAttr K C "many"
section
variable {P : Program} {w : World} {K : PySem.W.Frag} {mg : Str → Option Value} {base : Heap}
theorem ok_init {f C fF fT fN fX : Addr} {params : Arguments} {dvs : List V} {fd fdF fdT fdN fdX : FuncData} {T : List (Addr × Str)} {tk : Tok} (F : FunD K "__init__" "Table.__init__" (defArgs sInit) (defBody sInit) (defScope sInit) dvs [] f fd) (B : Bz mg) (TC : TCls K C) (mW : mg "WIDEST" = some (.int 3 tk))
    (cF : Cb P w K mg base CX0 2 "is_number_from" ["value", "low", "high"] spNumF fF fdF) (cT : Cb P w K mg base CX0 2 "is_number_tuple" ["value", "width"] spNumT fT fdT) (cN : Cb P w K mg base CX0 5 "normal_rows" ["rows", "width"] (spNormal K T) fN fdN) (cX : Cb P w K mg base CX0 3 "index_of" ["rows", "width"] (spIndex K) fX fdX) :
    FnOk P w K mg base CX0 6 f fd ["self", "width", "rows"] (spInit K C T) := by
  refine F.ok scInit (fun vs H Q E h => ?_) (fun cdv A outer s H vs Q E hr h => ?_)
  · obtain ⟨x, dx, l, rs, w, b, n, rfl, _⟩ := h
    rfl
  · obtain ⟨x, dx, l, rs, wd, b, n, rfl, hx, hI, hT, hw1, hw, hb, cap, hn, hk, q⟩ := h
    have r2 : Room 2 (A.deeper (envOfC "Table.__init__" (defScope sInit) s.heap.objs.size f cdv)) := hr.mono (by decide)
    have r3 : Room 3 (A.deeper (envOfC "Table.__init__" (defScope sInit) s.heap.objs.size f cdv)) := hr.mono (by decide)
    have dec1 : (decide ((1 : Int) ≤ (wd : Nat)) && decide (((wd : Nat) : Int) ≤ 3)) = true := by
      rw [decide_eq_true (by omega), decide_eq_true (by omega)]
      rfl
    -- what stands behind the loop
    obtain ⟨t2, p2, q2⟩ : ∃ t2, PSs (cxOf CX0 P w K mg base NI "Table.__init__" (defScope sInit) f cdv A outer s H E).nox ((defBody sInit).drop 2) t2 ∧ ∀ (H1 : Hp) (y3 y4 : Option V), Same H H1 → t2 { nx := fun _ H' => Q .non H', rt := Q } [some (.ref x), some (.int (wd : Nat)), some (.ref l), y3, y4] H1 := by
      refine ⟨_, pss_cons (ps_fld (pv 0) (pv 1) rfl) (pss_cons (ps_fld (pv 0) (pe_call cN.ok hr (by rfl) cN.g cN.kp cN.b .nil pass0 (pa_cons (pv 2) (pa_cons (pv 1) pa_nil))) rfl)
        (pss_one (ps_fld (pv 0) (pe_call cX.ok r3 (by rfl) cX.g cX.kp cX.b .nil pass0 (pa_cons (pe_fld (pv 0) rfl) (pa_cons (pv 1) pa_nil))) rfl))), ?_⟩
      intro H1 y3 y4 s1
      have hx1 := s1 _ _ hx
      refine ⟨_, rfl, _, rfl, x, C, dx, _, rfl, hx1, TC.cl, TC.wide, by decide, ?_⟩
      obtain ⟨H2, e2⟩ : ∃ H2, H2 = upd H1 x (.ins C dx (putF "wide" (.int (wd : Nat)) [])) := ⟨_, rfl⟩
      rw [← e2]
      have st2 : StN x H H2 := by
        rw [e2]
        exact (StN.of (.of s1)).trans StN.upd
      have hx2 : H2 x = some (.ins C dx [("wide", .int (wd : Nat))]) := by
        rw [e2]
        exact upd_same
      have hI2 : RI K H2 l rs := hI.st st2 ⟨C, dx, _, hx⟩
      have tb2 : LamX.Tabs T H2 := by
        rw [e2]
        exact tabs_ins (hT.ext s1) hx1
      refine ⟨_, rfl, _, rfl, l, rs, wd, b, n, rfl, hI2, tb2, hw, hb, cap, hn, hk, ?_⟩
      intro H3 qn fs rest e3 tb3 hNew hF hFd hN hlen
      have hx3 : H3 x = some (.ins C dx [("wide", .int (wd : Nat))]) := e3 _ _ hx2 (fun ps z => nomatch z)
      refine ⟨_, rfl, x, C, dx, _, rfl, hx3, TC.cl, TC.normal, (by show 1 < 1000; decide), ?_⟩
      obtain ⟨H4, e4⟩ : ∃ H4, H4 = upd H3 x (.ins C dx (putF "normal" (.ref qn) [("wide", .int (wd : Nat))])) := ⟨_, rfl⟩
      rw [← e4]
      have hx4 : H4 x = some (.ins C dx [("wide", .int (wd : Nat)), ("normal", .ref qn)]) := by
        rw [e4, upd_same]
        rfl
      have hF4 : RL H4 qn fs := by
        refine hF.st ?_ ⟨C, dx, _, hx3⟩
        rw [e4]
        exact StN.upd
      have tb4 : LamX.Tabs T H4 := by
        rw [e4]
        exact tabs_ins tb3 hx3
      refine ⟨_, rfl, x, C, dx, _, .ref qn, rfl, hx4, TC.cl, TC.normal, rfl, _, rfl, qn, fs, gI, wd, rfl, ⟨SqL.of hF4.lst, fun y hy => SqT.of (hF4.row y hy)⟩, by omega, fun y hy => ?_, ?_⟩
      · have z := fd_beg (hFd y.2 (rw_mem hy)) hw cap
        exact ⟨z.1, by rw [(hFd y.2 (rw_mem hy)).len]; exact hw, z.2.1⟩
      · intro H5 s5
        have hx5 := s5 _ _ hx4
        refine ⟨_, rfl, x, C, dx, _, rfl, hx5, TC.cl, TC.many, (by show 2 < 1000; decide), ?_⟩
        have em : (if fs.length < wd then V.non else V.int (prod (fs.map fun x => x.2.getD (gI x.2) 0))) = mny wd (rw_ fs) := by
          unfold mny
          rw [List.length_map, List.map_map]
          rfl
        rw [em]
        have st4 : StN x H H4 := by
          refine (st2.trans (StN.of e3)).trans ?_
          rw [e4]
          exact StN.upd
        have nw : New H qn := fun o ho => by
          by_cases ht : ∃ ps, o = .tbl ps
          · exact ht
          · by_cases hq : qn = x
            · have h6 := hF4.lst
              rw [hq, hx4] at h6
              cases h6
            · exact hNew o (st2 _ _ hq ho (fun ps z => ht ⟨ps, z⟩))
        refine q _ qn fs rest ((st4.trans (StN.of (.of s5))).trans StN.upd) (tabs_ins (tb4.ext s5) hx5) nw ?_ ((hF4.same s5).st StN.upd ⟨C, dx, _, hx5⟩) hFd hN hlen
        rw [upd_same]
        rfl
    have row_ok : ∀ y ∈ rs, y.2.length = wd := fun y hy => (hk y.2 (rw_mem hy)).1
    have bodyR : ∀ (j : Nat) (v : V) (H1 : Hp), (rf rs)[j]? = some v → Same H H1 → ∃ y : Addr × List Int, v = .ref y.1 ∧ y ∈ rs ∧ RT H1 y := by
      intro j v H1 hv s1
      rw [List.getElem?_map] at hv
      obtain ⟨y, hy, rfl⟩ := Option.map_eq_some_iff.mp hv
      exact ⟨y, rfl, List.mem_of_getElem? hy, (hI.row y (List.mem_of_getElem? hy)).same s1⟩
    rcases hI.seq with hL | hL
    · refine ⟨_, PSs.nox (pss_cons (ps_if (pt_not (pt_val (pe_call cF.ok r2 (by rfl) cF.g cF.kp cF.b .nil pass0 (pa_cons (pv 1) (pa_cons pe_int (pa_cons (pe_glob (v := .int 3) rfl mW ⟨_, rfl⟩) pa_nil)))))) pss_never pss_nil)
        (pss_cons (ps_for PassesOwn.never rfl (pi_enum (by rfl) B.enumerate (pa_cons (pv 2) pa_nil)) (pg_tup rfl (pgs_cons (pg_name (i := 3) scInit.nd rfl (.inl rfl)) (pgs_cons (pg_name (i := 4) scInit.nd rfl (.inl rfl)) pgs_nil)))
          (pss_one (ps_if (pt_not (pt_val (pe_call cT.ok r2 (by rfl) cT.g cT.kp cT.b .nil pass0 (pa_cons (pv 4) (pa_cons (pv 1) pa_nil))))) pss_never pss_nil))) p2)), ?_⟩
      refine ⟨_, rfl, _, _, _, rfl, _, rfl, ?_⟩
      rw [dec1]
      refine iteF ?_
      refine ⟨_, rfl, l, _, rfl, hL, ?_⟩
      refine for_it (walk_enum (K := K) (a := l)) (fun i σ H1 => ∃ y3 y4 : Option V, σ = [some (.ref x), some (.int (wd : Nat)), some (.ref l), y3, y4] ∧ Same H H1) ⟨none, none, rfl, Same.refl _⟩ (fun i σ H1 _ h => by obtain ⟨_, _, _, s1⟩ := h; exact sqL_ext s1 hL) ?_ ?_
      · rintro i v σ H1 H1' hi ⟨y3, y4, rfl, s1⟩ ⟨T1, a1, a2, rfl, nT1, rfl, e1, e2⟩
        obtain rfl : V.int (i : Nat) = a1 := Option.some.inj e1
        have sT := same_new (o := .tup [.int (i : Nat), a2]) nT1
        refine ⟨T1, _, rfl, SqT.of upd_same, rfl, .int (i : Nat), [a2], rfl, a2, [], rfl, rfl, ?_⟩
        obtain ⟨y, rfl, hy, hyr⟩ := bodyR i a2 _ e2 (s1.trans sT)
        refine ⟨_, rfl, _, rfl, y, ?_, hyr, by rw [row_ok y hy]; omega, fun H2 s2 => ⟨true, rfl, iteF ⟨_, _, rfl, (s1.trans sT).trans s2⟩⟩⟩
        rw [row_ok y hy]
        rfl
      · rintro σ H1 ⟨y3, y4, rfl, s1⟩
        exact q2 H1 y3 y4 s1
    · refine ⟨_, PSs.nox (pss_cons (ps_if (pt_not (pt_val (pe_call cF.ok r2 (by rfl) cF.g cF.kp cF.b .nil pass0 (pa_cons (pv 1) (pa_cons pe_int (pa_cons (pe_glob (v := .int 3) rfl mW ⟨_, rfl⟩) pa_nil)))))) pss_never pss_nil)
        (pss_cons (ps_for PassesOwn.never rfl (Rs.pi_enumT (by rfl) B.enumerate (pa_cons (pv 2) pa_nil)) (pg_tup rfl (pgs_cons (pg_name (i := 3) scInit.nd rfl (.inl rfl)) (pgs_cons (pg_name (i := 4) scInit.nd rfl (.inl rfl)) pgs_nil)))
          (pss_one (ps_if (pt_not (pt_val (pe_call cT.ok r2 (by rfl) cT.g cT.kp cT.b .nil pass0 (pa_cons (pv 4) (pa_cons (pv 1) pa_nil))))) pss_never pss_nil))) p2)), ?_⟩
      refine ⟨_, rfl, _, _, _, rfl, _, rfl, ?_⟩
      rw [dec1]
      refine iteF ?_
      refine ⟨_, rfl, l, _, rfl, hL, ?_⟩
      refine for_it (Rs.walk_enumT (K := K) (a := l)) (fun i σ H1 => ∃ y3 y4 : Option V, σ = [some (.ref x), some (.int (wd : Nat)), some (.ref l), y3, y4] ∧ Same H H1) ⟨none, none, rfl, Same.refl _⟩ (fun i σ H1 _ h => by obtain ⟨_, _, _, s1⟩ := h; exact Rs.sqT_ext s1 hL) ?_ ?_
      · rintro i v σ H1 H1' hi ⟨y3, y4, rfl, s1⟩ ⟨T1, a1, a2, rfl, nT1, rfl, e1, e2⟩
        obtain rfl : V.int (i : Nat) = a1 := Option.some.inj e1
        have sT := same_new (o := .tup [.int (i : Nat), a2]) nT1
        refine ⟨T1, _, rfl, SqT.of upd_same, rfl, .int (i : Nat), [a2], rfl, a2, [], rfl, rfl, ?_⟩
        obtain ⟨y, rfl, hy, hyr⟩ := bodyR i a2 _ e2 (s1.trans sT)
        refine ⟨_, rfl, _, rfl, y, ?_, hyr, by rw [row_ok y hy]; omega, fun H2 s2 => ⟨true, rfl, iteF ⟨_, _, rfl, (s1.trans sT).trans s2⟩⟩⟩
        rw [row_ok y hy]
        rfl
      · rintro σ H1 ⟨y3, y4, rfl, s1⟩
        exact q2 H1 y3 y4 s1
end
end KT
namespace Hm
/-! the law's loop: one row at a time, column by column -/
def el (b N : Nat) : Nat → Nat
  | 0 => b
  | c + 1 => el b N c + N * (el b N c + 5)
theorem el_le {b N : Nat} : ∀ {c d : Nat}, c ≤ d → el b N c ≤ el b N d := by
  intro c d h
  induction d with
  | zero =>
    obtain rfl : c = 0 := by omega
    exact Nat.le_refl _
  | succ d ih =>
    by_cases e : c = d + 1
    · rw [e]
      exact Nat.le_refl _
    · exact Nat.le_trans (ih (by omega)) (Nat.le_add_right _ _)
/-- the exponent of the other columns behind k rows -/
def ek (b N c k : Nat) : Nat := el b N c + k * (el b N c + 5)
theorem ek_le {b N c k k' : Nat} (h : k ≤ k') : ek b N c k ≤ ek b N c k' := Nat.add_le_add_left (Nat.mul_le_mul_right _ h) _
theorem ek_top {b N c k : Nat} (h : k ≤ N) : ek b N c k ≤ el b N (c + 1) := ek_le (k' := N) h
theorem pw {x y : Nat} (h : x ≤ y) : 2 ^ x ≤ 2 ^ y := Nat.pow_le_pow_right (by omega) h
structure FB (w b N c k : Nat) (h : List Int) : Prop where
  len : h.length = w
  beg : Beg (fn h) c
  lead : (fn h c).natAbs ≤ 2 ^ el b N c
  bd : ∀ j, c < j → (fn h j).natAbs ≤ 2 ^ ek b N c k
theorem FB.up {w b N c k k' : Nat} {h : List Int} (f : FB w b N c k h) (hk : k ≤ k') : FB w b N c k' h := ⟨f.len, f.beg, f.lead, fun j hj => Nat.le_trans (f.bd j hj) (pw (ek_le hk))⟩
def Ok (w b : Nat) (r : List Int) : Prop := r.length = w ∧ ∀ j, (fn r j).natAbs ≤ 2 ^ b
abbrev Fnd := Nat → Option (List Int)
def putG (F : Fnd) (a : Nat) (r : List Int) : Fnd := fun c => if c = a then some r else F c
theorem putG_at (F : Fnd) (a : Nat) (r : List Int) : putG F a r a = some r := if_pos rfl
theorem putG_ne {F : Fnd} {a c : Nat} {r : List Int} (h : c ≠ a) : putG F a r c = F c := if_neg h
theorem ofG_put (F : Fnd) (a : Nat) (r : List Int) : ofG (putG F a r) = put (ofG F) a (fn r) := by
  funext c
  unfold ofG putG put
  by_cases h : c = a
  · rw [if_pos h, if_pos h]
    rfl
  · rw [if_neg h, if_neg h]
structure Fresh (w b N k a : Nat) (F : Fnd) (r : List Int) : Prop where
  len : r.length = w
  low : ∀ j, j < a → fn r j = 0
  bd : ∀ j, (fn r j).natAbs ≤ 2 ^ el b N a
  lo : ∀ c h, F c = some h → c < a → FB w b N c (k + 1) h
  hi : ∀ c h, F c = some h → a ≤ c → FB w b N c k h
structure Chain (w b N k a : Nat) (F : Fnd) (h r : List Int) : Prop where
  aw : a < w
  len : r.length = w
  hlen : h.length = w
  low : ∀ j, j < a → fn r j = 0
  hlow : ∀ j, j < a → fn h j = 0
  at_ : F a = some h
  ch : Chn a (2 ^ ek b N a (k + 1)) (fn h) (fn r)
  lh : (fn h a).natAbs ≤ 2 ^ el b N a
  lr : (fn r a).natAbs ≤ 2 ^ el b N a
  lo : ∀ c h, F c = some h → c < a → FB w b N c (k + 1) h
  hi : ∀ c h, F c = some h → a < c → FB w b N c k h
def XX (b N : Nat) : Nat := 2 ^ (el b N 3 + 2)
/-- a row in work on top of the others -/
def Wrk (w b N k : Nat) (F : Fnd) (ts : List (List Int)) (r : List Int) (m : Nat) : Prop := ts.length + k + 1 ≤ N ∧ (∀ x ∈ ts, Ok w b x) ∧ ∃ a, a ≤ w ∧
  ((Fresh w b N k a F r ∧ (ts.length + 1) * (5 * XX b N) + (4 - a) * XX b N ≤ m) ∨ ∃ h, Chain w b N k a F h r ∧ (ts.length + 1) * (5 * XX b N) + (3 - a) * XX b N + ((fn r a).natAbs + (fn h a).natAbs) ≤ m)
def J (w b N : Nat) (F : Fnd) (ts : List (List Int)) (m : Nat) : Prop := (∀ c, w ≤ c → F c = none) ∧ ∃ k,
  ((∀ c h, F c = some h → FB w b N c k h) ∧ (∀ x ∈ ts, Ok w b x) ∧ ts.length + k ≤ N ∧ ts.length * (5 * XX b N) + 4 * XX b N ≤ m) ∨ ∃ ts' r, ts = ts' ++ [r] ∧ Wrk w b N k F ts' r m
theorem xx_pos (b N : Nat) : 0 < XX b N := Nat.pow_pos (by omega)
theorem J.wrk {w b N m : Nat} {F : Fnd} {ts : List (List Int)} {r : List Int} (j : J w b N F (ts ++ [r]) m) : ∃ k, Wrk w b N k F ts r m := by
  obtain ⟨_, k, h | ⟨ts', r', e, h⟩⟩ := j
  · obtain ⟨h1, h2, h3, h4⟩ := h
    rw [List.length_append, List.length_singleton] at h3 h4
    have o := h2 r (List.mem_append_right _ List.mem_cons_self)
    refine ⟨k, by omega, fun x hx => h2 x (List.mem_append_left _ hx), 0, Nat.zero_le _, .inl ⟨⟨o.1, fun j hj => by omega, o.2, fun c h _ hc => by omega, fun c h hF _ => h1 c h hF⟩, h4⟩⟩
  · obtain ⟨e1, e2⟩ := List.append_inj' e rfl
    injection e2 with e2
    rw [e1, e2]
    exact ⟨k, h⟩
/-- what is done: the row leaves -/
theorem j_next {w b N k m : Nat} {F : Fnd} {ts : List (List Int)} {r : List Int} (out : ∀ c, w ≤ c → F c = none) (hw : Wrk w b N k F ts r m) (hF : ∀ c h, F c = some h → FB w b N c (k + 1) h) : ∃ m', m' < m ∧ J w b N F ts m' := by
  obtain ⟨h1, h2, a, _, h3⟩ := hw
  refine ⟨_, ?_, out, k + 1, .inl ⟨hF, h2, by omega, Nat.le_refl _⟩⟩
  have x := xx_pos b N
  have e : (ts.length + 1) * (5 * XX b N) = ts.length * (5 * XX b N) + 5 * XX b N := Nat.succ_mul _ _
  rcases h3 with ⟨_, h⟩ | ⟨_, _, h⟩
  · omega
  · omega
theorem Wrk.fb {w b N k m : Nat} {F : Fnd} {ts : List (List Int)} {r : List Int} (hw : Wrk w b N k F ts r m) (nz : ∀ a h, F a = some h → Beg (fn r) a → False) : ∀ c h, F c = some h → FB w b N c (k + 1) h := by
  obtain ⟨h1, h2, a, _, ⟨f, _⟩ | ⟨h, c, _⟩⟩ := hw
  · intro c h hc
    by_cases hca : c < a
    · exact f.lo c h hc hca
    · exact (f.hi c h hc (by omega)).up (by omega)
  · exact (nz a h c.at_ ⟨c.low, c.ch.rz⟩).elim
/-- a row of zeros -/
theorem j_zero {w b N m : Nat} {F : Fnd} {ts : List (List Int)} {r : List Int} (j : J w b N F (ts ++ [r]) m) (hz : ∀ i, fn r i = 0) : ∃ m', m' < m ∧ J w b N F ts m' := by
  obtain ⟨k, hw⟩ := j.wrk
  exact j_next j.1 hw (hw.fb fun a h _ hb => hb.2 (hz a))
theorem beg_uniq {r : Row} {a c : Nat} (h : Beg r a) (g : Beg r c) : a = c := by
  rcases Nat.lt_trichotomy a c with l | l | l
  · exact absurd (g.1 a l) h.2
  · exact l
  · exact absurd (h.1 c l) g.2
/-- the column is empty -/
theorem j_put {w b N m a : Nat} {F : Fnd} {ts : List (List Int)} {r : List Int} (j : J w b N F (ts ++ [r]) m) (hb : Beg (fn r) a) (ha : a < w) (hF : F a = none) : ∃ m', m' < m ∧ J w b N (putG F a r) ts m' := by
  obtain ⟨k, hw⟩ := j.wrk
  have old := hw.fb fun c h hc hb' => by
    have := beg_uniq hb hb'
    rw [← this, hF] at hc
    cases hc
  have fr : FB w b N a (k + 1) r := by
    obtain ⟨h1, h2, a0, _, ⟨f, _⟩ | ⟨h, c, _⟩⟩ := hw
    · have le : a0 ≤ a := by
        apply Nat.le_of_not_lt
        intro z
        exact hb.2 (f.low a z)
      have e := el_le (b := b) (N := N) le
      exact ⟨f.len, hb, Nat.le_trans (f.bd a) (pw e), fun i _ => Nat.le_trans (f.bd i) (pw (Nat.le_trans e (Nat.le_add_right _ _)))⟩
    · have := beg_uniq hb ⟨c.low, c.ch.rz⟩
      rw [this, c.at_] at hF
      cases hF
  have out : ∀ c, w ≤ c → putG F a r c = none := fun c hc => by
    rw [putG_ne (by omega)]
    exact j.1 c hc
  have hF' : ∀ c h, putG F a r c = some h → FB w b N c (k + 1) h := by
    intro c h hc
    by_cases e : c = a
    · rw [e, putG_at] at hc
      injection hc with hc
      rw [← hc, e]
      exact fr
    · rw [putG_ne e] at hc
      exact old c h hc
  obtain ⟨h1, h2, a0, _, h3⟩ := hw
  refine ⟨_, ?_, out, k + 1, .inl ⟨hF', h2, by omega, Nat.le_refl _⟩⟩
  have x := xx_pos b N
  have e : (ts.length + 1) * (5 * XX b N) = ts.length * (5 * XX b N) + 5 * XX b N := Nat.succ_mul _ _
  rcases h3 with ⟨_, h⟩ | ⟨_, _, h⟩
  · omega
  · omega
/-- the chain begins, or goes on -/
theorem to_chain {w b N m a : Nat} {F : Fnd} {ts : List (List Int)} {r s : List Int} (hw3 : w ≤ 3) (j : J w b N F (ts ++ [r]) m) (hb : Beg (fn r) a) (ha : a < w) (hF : F a = some s) :
    ∃ k, ts.length + k + 1 ≤ N ∧ (∀ x ∈ ts, Ok w b x) ∧ Chain w b N k a F s r ∧ (ts.length + 1) * (5 * XX b N) + (3 - a) * XX b N + ((fn r a).natAbs + (fn s a).natAbs) ≤ m := by
  obtain ⟨k, h1, h2, a0, _, ⟨f, hm⟩ | ⟨h, c, hm⟩⟩ := j.wrk
  · refine ⟨k, h1, h2, ?_⟩
    have le : a0 ≤ a := by
      apply Nat.le_of_not_lt
      intro z
      exact hb.2 (f.low a z)
    have e := el_le (b := b) (N := N) le
    have fs := f.hi a s hF le
    have rb : ∀ i, (fn r i).natAbs ≤ 2 ^ el b N a := fun i => Nat.le_trans (f.bd i) (pw e)
    have ch := chn_start (a := a) (B := 2 ^ el b N a) (M := 2 ^ ek b N a k) fs.beg.2 hb.2 fs.lead (rb a) (fun i hi => ⟨fs.bd i hi, Nat.le_trans (rb i) (pw (Nat.le_add_right _ _))⟩)
    have cap : 18 * (2 ^ el b N a * 2 ^ ek b N a k) ≤ 2 ^ ek b N a (k + 1) := by
      have e2 : ek b N a (k + 1) = 5 + (el b N a + ek b N a k) := by
        unfold ek
        rw [Nat.succ_mul]
        omega
      rw [e2, Nat.pow_add, Nat.pow_add]
      exact Nat.mul_le_mul_right _ (by decide)
    refine ⟨⟨ha, f.len, fs.len, hb.1, fs.beg.1, hF, ⟨ch.hz, ch.rz, fun i hi => Nat.le_trans (ch.cr i hi) cap⟩, fs.lead, rb a, fun c h hc hca => ?_, fun c h hc hca => f.hi c h hc (by omega)⟩, ?_⟩
    · by_cases hca0 : c < a0
      · exact f.lo c h hc hca0
      · exact (f.hi c h hc (by omega)).up (by omega)
    · have l1 := rb a
      have l2 := fs.lead
      have l3 : 2 ^ el b N a ≤ 2 ^ el b N 3 := pw (el_le (by omega))
      have l4 : XX b N = 2 ^ el b N 3 * 4 := Nat.pow_add _ _ _
      have l5 : (4 - a0) * XX b N ≥ (3 - a) * XX b N + XX b N := by
        have : (3 - a + 1) * XX b N ≤ (4 - a0) * XX b N := Nat.mul_le_mul_right _ (by omega)
        rw [Nat.succ_mul] at this
        exact this
      omega
  · have ea := beg_uniq hb ⟨c.low, c.ch.rz⟩
    subst ea
    have es : h = s := by
      have := c.at_
      rw [hF] at this
      exact (Option.some.inj this).symm
    subst es
    exact ⟨k, h1, h2, c, hm⟩
/-- the greater row and the lesser one -/
def gtr (a : Nat) (r s : List Int) : List Int × List Int := if (fn r a).natAbs < (fn s a).natAbs then (s, r) else (r, s)
theorem gtr_cases (a : Nat) (r s : List Int) : (gtr a r s = (s, r) ∧ (fn r a).natAbs < (fn s a).natAbs) ∨ (gtr a r s = (r, s) ∧ (fn s a).natAbs ≤ (fn r a).natAbs) := by
  unfold gtr
  by_cases h : (fn r a).natAbs < (fn s a).natAbs
  · rw [if_pos h]
    exact .inl ⟨rfl, h⟩
  · rw [if_neg h]
    exact .inr ⟨rfl, by omega⟩
theorem j_less {w b N m a : Nat} {F : Fnd} {ts : List (List Int)} {r s : List Int} (hw3 : w ≤ 3) (j : J w b N F (ts ++ [r]) m) (hb : Beg (fn r) a) (ha : a < w) (hF : F a = some s) :
    ∃ m', m' < m ∧ J w b N (putG F a (gtr a r s).2) (ts ++ [lsl (gtr a r s).1 (gtr a r s).2 (tms (fn (gtr a r s).1 a) (fn (gtr a r s).2 a))]) m' := by
  obtain ⟨k, h1, h2, c, hm⟩ := to_chain hw3 j hb ha hF
  obtain ⟨row, held, eg, cN, hle, l1, l2, w1, w2, lo1, lo2, sm⟩ : ∃ row held, gtr a r s = (row, held) ∧ Chn a (2 ^ ek b N a (k + 1)) (fn held) (fn row) ∧ (fn held a).natAbs ≤ (fn row a).natAbs ∧ (fn row a).natAbs ≤ 2 ^ el b N a ∧ (fn held a).natAbs ≤ 2 ^ el b N a ∧ row.length = w ∧ held.length = w ∧
      (∀ i, i < a → fn row i = 0) ∧ (∀ i, i < a → fn held i = 0) ∧ (fn row a).natAbs + (fn held a).natAbs = (fn r a).natAbs + (fn s a).natAbs := by
    rcases gtr_cases a r s with ⟨e, h⟩ | ⟨e, h⟩
    · exact ⟨s, r, e, c.ch.swap, by omega, c.lh, c.lr, c.hlen, c.len, c.hlow, c.low, by omega⟩
    · exact ⟨r, s, e, c.ch, h, c.lr, c.lh, c.len, c.hlen, c.low, c.hlow, rfl⟩
  rw [eg]
  show ∃ m', m' < m ∧ J w b N (putG F a held) (ts ++ [lsl row held (tms (fn row a) (fn held a))]) m'
  have ef : fn (lsl row held (tms (fn row a) (fn held a))) = ls (fn row) (fn held) (tms (fn row a) (fn held a)) := fn_lsl (by rw [w1, w2]) _
  obtain ⟨s1, s2, s3⟩ := cN.step hle
  have out : ∀ c, w ≤ c → putG F a held c = none := fun c hc => by
    rw [putG_ne (by omega)]
    exact j.1 c hc
  have low' : ∀ i, i < a → fn (lsl row held (tms (fn row a) (fn held a))) i = 0 := by
    intro i hi
    rw [ef]
    show fn row i - _ * fn held i = 0
    rw [lo1 i hi, lo2 i hi]
    simp
  have lo' : ∀ c' h, putG F a held c' = some h → c' < a → FB w b N c' (k + 1) h := fun c' h hc hca => by
    rw [putG_ne (by omega)] at hc
    exact c.lo c' h hc hca
  have hi' : ∀ c' h, putG F a held c' = some h → a < c' → FB w b N c' k h := fun c' h hc hca => by
    rw [putG_ne (by omega)] at hc
    exact c.hi c' h hc hca
  by_cases z : ls (fn row) (fn held) (tms (fn row a) (fn held a)) a = 0
  · refine ⟨(ts.length + 1) * (5 * XX b N) + (4 - (a + 1)) * XX b N, ?_, out, k, .inr ⟨ts, _, rfl, h1, h2, a + 1, ha, .inl ⟨⟨lsl_len w1 w2 _, fun i hi => ?_, fun i => ?_, fun c' h hc hca => ?_, fun c' h hc hca => hi' c' h hc (by omega)⟩, Nat.le_refl _⟩⟩⟩
    · have : 0 < (fn s a).natAbs := by
        have := c.ch.hz
        omega
      rw [show 4 - (a + 1) = 3 - a by omega]
      omega
    · by_cases e : i = a
      · rw [e, ef]
        exact z
      · exact low' i (by omega)
    · rcases Nat.lt_trichotomy i a with l | l | l
      · rw [low' i l]
        exact Nat.zero_le _
      · rw [l, ef, z]
        exact Nat.zero_le _
      · rw [ef]
        exact Nat.le_trans (s1 i l) (pw (ek_top (by omega)))
    · by_cases e : c' = a
      · rw [e, putG_at] at hc
        injection hc with hc
        rw [← hc, e]
        exact ⟨w2, ⟨lo2, cN.hz⟩, l2, fun i hi => (cN.le hi).1⟩
      · exact lo' c' h hc (by omega)
  · refine ⟨(ts.length + 1) * (5 * XX b N) + (3 - a) * XX b N + ((ls (fn row) (fn held) (tms (fn row a) (fn held a)) a).natAbs + (fn held a).natAbs), ?_, out, k, .inr ⟨ts, _, rfl, h1, h2, a, by omega, .inr ⟨held, ⟨ha, lsl_len w1 w2 _, w2, low', lo2, putG_at _ _ _, ?_, l2, ?_, lo', hi'⟩, ?_⟩⟩⟩
    · omega
    · rw [ef]
      exact s3 z
    · rw [ef]
      omega
    · rw [ef]
      exact Nat.le_refl _
/-- how great the numbers are -/
theorem j_bd {w b N m a : Nat} {F : Fnd} {ts : List (List Int)} {r s : List Int} (hw3 : w ≤ 3) (j : J w b N F (ts ++ [r]) m) (hb : Beg (fn r) a) (ha : a < w) (hF : F a = some s) :
    (r.length = w ∧ s.length = w) ∧ (fn r a).natAbs ≤ 2 ^ el b N 2 ∧ (fn s a).natAbs ≤ 2 ^ el b N 2 ∧ (∀ i, (fn r i).natAbs ≤ 2 ^ el b N 3) ∧ (∀ i, (fn s i).natAbs ≤ 2 ^ el b N 3) ∧ fn s a ≠ 0 := by
  obtain ⟨k, h1, h2, c, hm⟩ := to_chain hw3 j hb ha hF
  have e2 : 2 ^ el b N a ≤ 2 ^ el b N 2 := pw (el_le (by omega))
  have e3 : 2 ^ el b N a ≤ 2 ^ el b N 3 := pw (el_le (by omega))
  have e4 : 2 ^ ek b N a (k + 1) ≤ 2 ^ el b N 3 := pw (Nat.le_trans (ek_top (by omega)) (el_le (by omega)))
  refine ⟨⟨c.len, c.hlen⟩, Nat.le_trans c.lr e2, Nat.le_trans c.lh e2, fun i => ?_, fun i => ?_, c.ch.hz⟩
  · rcases Nat.lt_trichotomy i a with l | l | l
    · rw [c.low i l]
      exact Nat.zero_le _
    · rw [l]
      exact Nat.le_trans c.lr e3
    · exact Nat.le_trans (c.ch.le l).2 e4
  · rcases Nat.lt_trichotomy i a with l | l | l
    · rw [c.hlow i l]
      exact Nat.zero_le _
    · rw [l]
      exact Nat.le_trans c.lh e3
    · exact Nat.le_trans (c.ch.le l).1 e4
theorem j_start {w b N : Nat} {ts : List (List Int)} (h : ∀ x ∈ ts, Ok w b x) (hN : ts.length ≤ N) : J w b N (fun _ => none) ts (ts.length * (5 * XX b N) + 4 * XX b N) := ⟨fun _ _ => rfl, 0, .inl ⟨(fun c h hc => nomatch hc), h, by omega, Nat.le_refl _⟩⟩
theorem j_len {w b N m : Nat} {F : Fnd} {ts : List (List Int)} {r : List Int} (j : J w b N F (ts ++ [r]) m) : r.length = w := by
  obtain ⟨k, h1, h2, a, _, ⟨f, _⟩ | ⟨h, c, _⟩⟩ := j.wrk
  · exact f.len
  · exact c.len
/-- behind the loop -/
theorem j_end {w b N m : Nat} {F : Fnd} (j : J w b N F [] m) : ∀ c h, F c = some h → FB w b N c N h := by
  obtain ⟨_, k, ⟨h1, _, h3, _⟩ | ⟨ts', r, e, _⟩⟩ := j
  · intro c h hc
    exact (h1 c h hc).up (by simpa using h3)
  · have := congrArg List.length e
    rw [List.length_append] at this
    simp at this
end Hm
namespace Hm
/-! the sums in the law's loop, and its end -/
def LE (w : Nat) (R : List (List Int)) (F : Fnd) (ts : List (List Int)) : Prop := Eqs (In (R.map fn)) (Or' (Of w (ofG F)) (In (ts.map fn)))
theorem or_cons {A : Row → Prop} {ts : List (List Int)} {r : List Int} : Eqs (Or' A (In ((ts ++ [r]).map fn))) (Or' A (In (fn r :: ts.map fn))) := by
  have m : ∀ x, x ∈ (ts ++ [r]).map fn ↔ x ∈ fn r :: ts.map fn := by
    intro x
    rw [List.map_append, List.mem_append, List.mem_cons]
    simp
    exact Or.comm
  refine .by (fun x hx => .of ?_) (fun x hx => .of ?_)
  · exact hx.elim .inl fun h => .inr ((m x).mp h)
  · exact hx.elim .inl fun h => .inr ((m x).mpr h)
theorem le_start (w : Nat) (R : List (List Int)) : LE w R (fun _ => none) R := by
  refine .by (fun x hx => .of (.inr hx)) (fun x hx => .of ?_)
  rcases hx with ⟨c, _, h⟩ | h
  · cases h
  · exact h
theorem le_zero {w : Nat} {R : List (List Int)} {F : Fnd} {ts : List (List Int)} {r : List Int} (h : LE w R F (ts ++ [r])) (hz : ∀ i, fn r i = 0) : LE w R F ts := (h.trans or_cons).trans (drop_zero hz)
theorem le_put {w a : Nat} {R : List (List Int)} {F : Fnd} {ts : List (List Int)} {r : List Int} (h : LE w R F (ts ++ [r])) (ha : a < w) (hF : F a = none) : LE w R (putG F a r) ts := by
  have z := (h.trans or_cons).trans (keep_row (w := w) (F := ofG F) (a := a) (r := fn r) (ts := ts.map fn) ha (by unfold ofG; rw [hF]; rfl))
  unfold LE
  rw [ofG_put]
  exact z
theorem le_less {w a : Nat} {R : List (List Int)} {F : Fnd} {ts : List (List Int)} {r s : List Int} (h : LE w R F (ts ++ [r])) (ha : a < w) (hF : F a = some s) (hr : r.length = w) (hs : s.length = w) (t : Int) :
    LE w R (putG F a (gtr a r s).2) (ts ++ [lsl (gtr a r s).1 (gtr a r s).2 t]) := by
  have eF : ofG F a = some (fn s) := by unfold ofG; rw [hF]; rfl
  unfold LE
  refine Eqs.trans ?_ or_cons.symm
  rcases gtr_cases a r s with ⟨e, _⟩ | ⟨e, _⟩
  · rw [e]
    show Eqs _ (Or' (Of w (ofG (putG F a r))) (In (fn (lsl s r t) :: ts.map fn)))
    rw [ofG_put, fn_lsl (by rw [hr, hs])]
    have z1 := (h.trans or_cons).trans (swap_row (w := w) (F := ofG F) (a := a) (r := fn r) (s := fn s) (ts := ts.map fn) ha eF)
    exact z1.trans (less_row (w := w) (F := put (ofG F) a (fn r)) (a := a) (r := fn s) (s := fn r) (ts := ts.map fn) ha (put_at _ _ _) t)
  · rw [e]
    show Eqs _ (Or' (Of w (ofG (putG F a s))) (In (fn (lsl r s t) :: ts.map fn)))
    have same : putG F a s = F := by
      funext c
      unfold putG
      by_cases hc : c = a
      · rw [if_pos hc, hc, hF]
      · rw [if_neg hc]
    rw [same, fn_lsl (by rw [hr, hs])]
    exact (h.trans or_cons).trans (less_row (w := w) (F := ofG F) (a := a) (r := fn r) (s := fn s) (ts := ts.map fn) ha eF t)
/-- the rows of the columns from a on -/
def frw (w : Nat) (F : Fnd) (a : Nat) : List (List Int) := (List.range' a (w - a)).filterMap F
theorem frw_none {w a : Nat} {F : Fnd} (ha : a < w) (hF : F a = none) : frw w F a = frw w F (a + 1) := by
  unfold frw
  rw [show w - a = (w - (a + 1)) + 1 by omega, List.range'_succ, List.filterMap_cons, hF]
theorem frw_some {w a : Nat} {F : Fnd} {h : List Int} (ha : a < w) (hF : F a = some h) : frw w F a = h :: frw w F (a + 1) := by
  unfold frw
  rw [show w - a = (w - (a + 1)) + 1 by omega, List.range'_succ, List.filterMap_cons, hF]
theorem mem_frw {w a : Nat} {F : Fnd} {r : List Int} : r ∈ frw w F a ↔ ∃ c, a ≤ c ∧ c < w ∧ F c = some r := by
  unfold frw
  rw [List.mem_filterMap]
  constructor
  · rintro ⟨c, hc, h⟩
    rw [List.mem_range'_1] at hc
    exact ⟨c, hc.1, by omega, h⟩
  · rintro ⟨c, h1, h2, h⟩
    exact ⟨c, by rw [List.mem_range'_1]; omega, h⟩
theorem le_end {w : Nat} {R : List (List Int)} {F : Fnd} (h : LE w R F []) : Eqs (In (R.map fn)) (In ((frw w F 0).map fn)) := by
  refine h.trans (.by (fun x hx => .of ?_) (fun x hx => .of ?_))
  · rcases hx with ⟨c, hc, hF⟩ | hx
    · unfold ofG at hF
      cases e : F c with
      | none => rw [e] at hF; cases hF
      | some r =>
        rw [e] at hF
        injection hF with hF
        exact List.mem_map.mpr ⟨r, mem_frw.mpr ⟨c, Nat.zero_le _, hc, e⟩, hF⟩
    · cases hx
  · obtain ⟨r, hr, rfl⟩ := List.mem_map.mp hx
    obtain ⟨c, _, hc, e⟩ := mem_frw.mp hr
    exact .inl ⟨c, hc, by unfold ofG; rw [e]; rfl⟩
theorem nrm0 {w b N k : Nat} {F : Fnd} (hF : ∀ c h, F c = some h → FB w b N c k h) : Nrm w 0 (frw w F 0) [] (frw w F 0) := nrm_start fun r hr => by
  obtain ⟨c, _, _, e⟩ := mem_frw.mp hr
  exact (hF c r e).len
theorem low_frw {w b N k a : Nat} {F : Fnd} (hF : ∀ c h, F c = some h → FB w b N c k h) : ∀ x ∈ (frw w F (a + 1)).map fn, x a = 0 := by
  intro x hx
  obtain ⟨r, hr, rfl⟩ := List.mem_map.mp hx
  obtain ⟨c, h1, _, e⟩ := mem_frw.mp hr
  exact (hF c r e).beg.1 a (by omega)
theorem nrm_step0 {w b N k a : Nat} {F : Fnd} {R0 found : List (List Int)} (hF : ∀ c h, F c = some h → FB w b N c k h) (h : Nrm w a R0 found (frw w F a)) (ha : a < w) (e : F a = none) : Nrm w (a + 1) R0 found (frw w F (a + 1)) := by
  rw [frw_none ha e] at h
  exact nrm_none h ha ⟨low_frw hF, Eqs.refl _⟩
theorem nrm_step1 {w b N k a : Nat} {F : Fnd} {R0 found : List (List Int)} {r l : List Int} (hF : ∀ c h, F c = some h → FB w b N c k h) (h : Nrm w a R0 found (frw w F a)) (ha : a < w) (e : F a = some r) (hl : l.length = w) (el : fn l = sgd (fn r) a) : Nrm w (a + 1) R0 (found.map (redL a l) ++ [l]) (frw w F (a + 1)) := by
  refine nrm_some h ha hl ?_
  rw [el]
  refine swp_one ?_ (low_frw hF) (hF a r e).beg.2
  rw [frw_some ha e]
  refine eqs_in fun x => ?_
  rw [List.map_cons, List.mem_append, List.mem_cons, List.mem_singleton]
  exact Or.comm
end Hm
namespace Hm
/-- as many rows as columns: the row with the index c begins in column c -/
theorem fm_full {α : Type} (G : Nat → Option α) : ∀ n, ((List.range n).filterMap G).length = n → ∀ c, c < n → ∃ r, G c = some r ∧ ((List.range n).filterMap G)[c]? = some r := by
  intro n
  induction n with
  | zero => intro _ c hc; omega
  | succ n ih =>
    intro h c hc
    rw [List.range_succ, List.filterMap_append] at h ⊢
    have l1 : ((List.range n).filterMap G).length ≤ n := by
      have := List.length_filterMap_le G (List.range n)
      rw [List.length_range] at this
      exact this
    cases hG : G n with
    | none =>
      rw [List.length_append] at h
      simp [hG] at h
      omega
    | some x =>
      rw [List.length_append] at h
      have e1 : (List.filterMap G [n]) = [x] := by simp [hG]
      rw [e1] at h ⊢
      rw [List.length_singleton] at h
      have l2 : ((List.range n).filterMap G).length = n := by omega
      by_cases e : c = n
      · subst e
        refine ⟨x, hG, ?_⟩
        rw [List.getElem?_append_right (by omega), l2, Nat.sub_self]
        rfl
      · obtain ⟨r, g1, g2⟩ := ih l2 c (by omega)
        refine ⟨r, g1, ?_⟩
        rw [List.getElem?_append_left (by omega)]
        exact g2
theorem nrm_full {w : Nat} {R found rest : List (List Int)} (h : Nrm w w R found rest) (hl : found.length = w) : ∀ c, c < w → ∃ r, found[c]? = some r ∧ Beg (fn r) c ∧ r.length = w := by
  obtain ⟨G, g1, g2, g3⟩ := h.ex
  intro c hc
  rw [g2] at hl ⊢
  obtain ⟨r, e1, e2⟩ := fm_full G w hl c hc
  refine ⟨r, e2, ?_, g1 c r e1⟩
  have := g3.ech.z c (fn r) (by unfold ofG; rw [e1]; rfl)
  exact this
end Hm
set_option maxRecDepth 100000
set_option maxHeartbeats 2000000
namespace KT
open PySem PySem.Spec PyProof.Rows L2
/-- a table at x, its rows at q -/
structure TJ (C : Addr) (H : Hp) (x : Addr) (w : Nat) (q : Addr) (fs : List (Addr × List Int)) : Prop where
  ins : ∃ dx, H x = some (.ins C dx (flds w q (rw_ fs)))
  rl : RL H q fs
theorem TJ.ext {C : Addr} {H H' : Hp} {x : Addr} {w : Nat} {q : Addr} {fs : List (Addr × List Int)} (h : TJ C H x w q fs) (e : LamX.ExtN H H') : TJ C H' x w q fs := by
  obtain ⟨dx, h1⟩ := h.ins
  exact ⟨⟨dx, e _ _ h1 (fun ps z => nomatch z)⟩, h.rl.ext e⟩
/-- what the making of a table is asked for and tells -/
def MkT (K : PySem.W.Frag) (C : Addr) (T : List (Addr × Str)) (H : Hp) (l : Addr) (wd : Nat) (Q : VK) : Prop := ∃ (rs : List (Addr × List Int)) (b n : Nat), RI K H l rs ∧ LamX.Tabs T H ∧ 1 ≤ wd ∧ wd ≤ 3 ∧ 1 ≤ b ∧ 25 * b + 6 * n + 6 ≤ 1200 ∧ rs.length ≤ n ∧ (∀ r ∈ rw_ rs, Rk wd 0 b r) ∧
  ∀ (H' : Hp) (x q : Addr) (fs : List (Addr × List Int)) (rest : List (List Int)), LamX.ExtN H H' → LamX.Tabs T H' → New H q → TJ C H' x wd q fs → (∀ r ∈ rw_ fs, Hm.Fd wd b n wd r) → Hm.Nrm wd wd (rw_ rs) (rw_ fs) rest → fs.length ≤ wd → Q (.ref x) H'
theorem mk_read {K : PySem.W.Frag} {C : Addr} {T : List (Addr × Str)} {H : Hp} {l : Addr} {wd : Nat} {Q : VK} {E : XK} (h : MkT K C T H l wd Q) : ∀ x dx, H x = none → H dx = none → dx ≠ x → spInit K C T [.ref x, .int (wd : Nat), .ref l] (upd (upd H dx (.own x)) x (.ins C dx [])) (fun v H2 => v = .non ∧ Q (.ref x) H2) E := by
  intro x dx nx ndx ne
  obtain ⟨rs, b, n, hI, hT, h1, h3, hb, cap, hn, hk, q⟩ := h
  have s1 : Same H (upd (upd H dx (.own x)) x (.ins C dx [])) := fun a o e => by
    rw [upd_ne (ne_of_none e nx), upd_ne (ne_of_none e ndx)]
    exact e
  refine ⟨x, dx, l, rs, wd, b, n, rfl, upd_same, hI.ext (.of s1), hT.ext s1, h1, h3, hb, cap, hn, hk, ?_⟩
  intro H' qn fs rest st tb nw hx hR hFd hN hl
  have eX : LamX.ExtN H H' := fun a o e ht => st a o (ne_of_none e nx) (s1 _ _ e) ht
  exact ⟨rfl, q H' x qn fs rest eX tb (New.ext (.of s1) nw) ⟨⟨dx, hx⟩, hR⟩ hFd hN hl⟩
theorem mk_read2 {K : PySem.W.Frag} {C : Addr} {T : List (Addr × Str)} {H : Hp} {l : Addr} {wd : Nat} {Q' : Addr → Hp → Prop} {E : XK} (h : MkT K C T H l wd (fun v H2 => ∀ x, v = .ref x → Q' x H2)) : ∀ x dx, H x = none → H dx = none → dx ≠ x → spInit K C T [.ref x, .int (wd : Nat), .ref l] (upd (upd H dx (.own x)) x (.ins C dx [])) (fun v H2 => v = .non ∧ Q' x H2) E := by
  intro x dx nx ndx ne
  obtain ⟨rs, b, n, hI, hT, h1, h3, hb, cap, hn, hk, q⟩ := h
  have s1 : Same H (upd (upd H dx (.own x)) x (.ins C dx [])) := fun a o e => by
    rw [upd_ne (ne_of_none e nx), upd_ne (ne_of_none e ndx)]
    exact e
  refine ⟨x, dx, l, rs, wd, b, n, rfl, upd_same, hI.ext (.of s1), hT.ext s1, h1, h3, hb, cap, hn, hk, ?_⟩
  intro H' qn fs rest st tb nw hx hR hFd hN hl
  have eX : LamX.ExtN H H' := fun a o e ht => st a o (ne_of_none e nx) (s1 _ _ e) ht
  exact ⟨rfl, q H' x qn fs rest eX tb (New.ext (.of s1) nw) ⟨⟨dx, hx⟩, hR⟩ hFd hN hl x rfl⟩
end KT
set_option maxRecDepth 100000
set_option maxHeartbeats 2000000
namespace Cnt
open PySem PySem.StrLaws Builtin.Str
theorem loop (x : Str) (c : Nat) : ∀ (n lo : Nat) (acc : Array Nat) (free : Nat), free ≤ lo → lo + n = x.length + 1 → acc.size + n ≤ x.length + 1 →
    (forIn (List.range' lo n) (acc, free) (occBody x ⟨#[c]⟩ x.length (x.length + 1))).run.fst.size = acc.size + (x.cps.toList.drop lo).count c
  | 0, lo, acc, free, _, h2, _ => by
    have e : x.cps.toList.drop lo = [] := List.drop_eq_nil_of_le (by simp [Str.length] at h2 ⊢; omega)
    rw [e]
    rfl
  | n + 1, lo, acc, free, h1, h2, h3 => by
    rw [List.range'_succ, List.forIn_cons]
    unfold occBody
    by_cases hc : x.cps.toList[lo]? = some c
    · obtain ⟨z1, z2⟩ := (subAt_one x c lo).mpr hc
      have hp : ((acc.size < x.length + 1 ∧ free ≤ lo) ∧ lo + (⟨#[c]⟩ : Str).length ≤ x.length) ∧ subAt x ⟨#[c]⟩ lo = true := ⟨⟨⟨by omega, h1⟩, z1⟩, z2⟩
      rw [if_pos hp]
      have ih := loop x c n (lo + 1) (acc.push lo) (lo + 1) (Nat.le_refl _) (by omega) (by rw [Array.size_push]; omega)
      obtain ⟨hl, hv⟩ := List.getElem?_eq_some_iff.mp hc
      rw [List.drop_eq_getElem_cons hl, hv, List.count_cons_self]
      rw [Array.size_push] at ih
      refine Eq.trans ?_ (ih.trans (by omega))
      rfl
    · have hn : ¬ (((acc.size < x.length + 1 ∧ free ≤ lo) ∧ lo + (⟨#[c]⟩ : Str).length ≤ x.length) ∧ subAt x ⟨#[c]⟩ lo = true) := fun h => hc ((subAt_one x c lo).mp ⟨h.1.2, h.2⟩)
      rw [if_neg hn]
      have ih := loop x c n (lo + 1) acc free (by omega) (by omega) (by omega)
      have e : (x.cps.toList.drop lo).count c = (x.cps.toList.drop (lo + 1)).count c := by
        by_cases hl : lo < x.cps.toList.length
        · rw [List.drop_eq_getElem_cons hl, List.count_cons_of_ne]
          intro z
          exact hc (by rw [List.getElem?_eq_getElem hl, z])
        · rw [List.drop_eq_nil_of_le (by omega), List.drop_eq_nil_of_le (by omega)]
      rw [e]
      exact ih
theorem one (x : Str) (c : Nat) : Txt.count x ⟨#[c]⟩ = (x.cps.toList.count c : Nat) := by
  unfold Txt.count
  rw [occ_eq]
  have z := loop x c (x.length + 1) 0 #[] 0 (Nat.le_refl _) (by omega) (by simp)
  rw [Array.length_toList]
  rw [Nat.sub_zero]
  rw [z]
  simp
theorem more (x : Nat) (l : List Nat) : ∀ M : List Nat, (M.map fun c => (x :: l).count c).sum = (M.map fun c => l.count c).sum + M.count x
  | [] => rfl
  | c :: M => by
    have ih := more x l M
    simp only [List.map_cons, List.sum_cons]
    rw [ih]
    by_cases h : x = c
    · subst h
      rw [List.count_cons_self, List.count_cons_self]
      omega
    · rw [List.count_cons_of_ne h, List.count_cons_of_ne (Ne.symm h)]
      omega
theorem atmost {M : List Nat} (hM : M.Nodup) (x : Nat) : M.count x = if x ∈ M then 1 else 0 := by
  by_cases h : x ∈ M
  · rw [if_pos h]
    have h1 := List.nodup_iff_count.mp hM x
    have h2 := List.count_pos_iff.mpr h
    omega
  · rw [if_neg h]
    exact List.count_eq_zero.mpr h
theorem le {M : List Nat} (hM : M.Nodup) : ∀ l : List Nat, (M.map fun c => l.count c).sum ≤ l.length
  | [] => by
    have : ∀ M : List Nat, (M.map fun c => ([] : List Nat).count c).sum = 0 := fun M => by
      induction M with
      | nil => rfl
      | cons c M ih => simpa using ih
    rw [this]
    exact Nat.zero_le _
  | x :: l => by
    have ih := le hM l
    rw [more, atmost hM]
    simp only [List.length_cons]
    split <;> omega
/-- all signs of a text are among different ones exactly if these stand there as often as it is long -/
theorem all {M : List Nat} (hM : M.Nodup) : ∀ l : List Nat, ((M.map fun c => l.count c).sum = l.length) ↔ l.all (fun c => decide (c ∈ M)) = true
  | [] => by
    have h := le hM []
    simp at h ⊢
    omega
  | x :: l => by
    have ih := all hM l
    have h := le hM l
    rw [more, atmost hM, List.all_cons]
    simp only [List.length_cons]
    by_cases hx : x ∈ M
    · rw [if_pos hx, decide_eq_true hx, Bool.true_and, ← ih]
      omega
    · rw [if_neg hx, decide_eq_false hx, Bool.false_and]
      constructor
      · intro z; omega
      · intro z; cases z
theorem sumInt (f : Nat → Nat) : ∀ M : List Nat, (M.map fun c => ((f c : Nat) : Int)).sum = ((M.map f).sum : Nat)
  | [] => rfl
  | c :: M => by
    have ih := sumInt f M
    simp only [List.map_cons, List.sum_cons]
    rw [ih]
    omega
end Cnt
namespace KA
open PySem PySem.Spec PyProof.Rows L2
def top (i : Nat) : Stmt := PySem.Challenge.pw_roundswap_k15_texts_of_towns.main.body.getD i (.Pass ⟨0, 0, 0, 0⟩)
abbrev sSignsOf : Stmt := top 18
abbrev sIsWord : Stmt := top 19
abbrev sOpp : Stmt := top 20
abbrev sCountsOf : Stmt := top 21
abbrev sBegin : Stmt := top 66
abbrev sDraw : Stmt := top 67
abbrev sAny : Stmt := top 68
abbrev sSame : Stmt := top 69
abbrev sField : Stmt := top 70
abbrev sWhy : Stmt := top 71
abbrev sLetters : Stmt := top 72
abbrev sSigns : Stmt := top 73
abbrev sSome : Stmt := top 75
theorem scSignsOf : FnScope ["letters", "letter", "sign"] ["letters"] (defScope sSignsOf) := ⟨rfl, rfl, rfl, by decide +kernel, rfl, by decide +kernel, by decide +kernel⟩
theorem scIsWord : FnScope ["word", "letters", "sign"] ["word", "letters"] (defScope sIsWord) := ⟨rfl, rfl, rfl, by decide +kernel, rfl, by decide +kernel, by decide +kernel⟩
theorem scOpp : FnScope ["word"] ["word"] (defScope sOpp) := ⟨rfl, rfl, rfl, by decide +kernel, rfl, by decide +kernel, by decide +kernel⟩
theorem scCountsOf : FnScope ["word", "letters", "letter"] ["word", "letters"] (defScope sCountsOf) := ⟨rfl, rfl, rfl, by decide +kernel, rfl, by decide +kernel, by decide +kernel⟩
theorem scBegin : FnScope ["_law_script", "_law_cell", "_law_marks", "_law_seed"] ["_law_script"] (defScope sBegin) := ⟨rfl, rfl, rfl, by decide +kernel, rfl, by decide +kernel, by decide +kernel⟩
theorem scDraw : FnScope ["_law_box", "_law_many", "_law_cell", "_law_digit", "_law_seed"] ["_law_box", "_law_many"] (defScope sDraw) := ⟨rfl, rfl, rfl, by decide +kernel, rfl, by decide +kernel, by decide +kernel⟩
theorem scAny : FnScope ["_law_box", "_law_some"] ["_law_box", "_law_some"] (defScope sAny) := ⟨rfl, rfl, rfl, by decide +kernel, rfl, by decide +kernel, by decide +kernel⟩
theorem scSame : FnScope ["_law_found", "_law_due", "_law_k"] ["_law_found", "_law_due"] (defScope sSame) := ⟨rfl, rfl, rfl, by decide +kernel, rfl, by decide +kernel, by decide +kernel⟩
theorem scField : FnScope ["_law_e"] ["_law_e"] (defScope sField) := ⟨rfl, rfl, rfl, by decide +kernel, rfl, by decide +kernel, by decide +kernel⟩
theorem scWhy : FnScope ["_law_ask", "_law_e"] ["_law_ask"] (defScope sWhy) := ⟨rfl, rfl, rfl, by decide +kernel, rfl, by decide +kernel, by decide +kernel⟩
theorem scLetters : FnScope ["_law_box", "_law_many", "_law_found", "_law_k", "_law_left", "_law_letter"] ["_law_box", "_law_many"] (defScope sLetters) := ⟨rfl, rfl, rfl, by decide +kernel, rfl, by decide +kernel, by decide +kernel⟩
theorem scSigns : FnScope ["_law_letters_here", "_law_letter"] ["_law_letters_here"] (defScope sSigns) := ⟨rfl, rfl, rfl, by decide +kernel, rfl, by decide +kernel, by decide +kernel⟩
theorem scSome : FnScope ["_law_box", "_law_letters_here", "_law_most", "_law_signs_here", "_law_k"] ["_law_box", "_law_letters_here", "_law_most"] (defScope sSome) := ⟨rfl, rfl, rfl, by decide +kernel, rfl, by decide +kernel, by decide +kernel⟩
/-! the built-in names that the top leaves as they are -/
structure Bn (mg : Str → Option Value) : Prop where
  len : mg "len" = none
  int : mg "int" = none
  isinst : mg "isinstance" = none
  list : mg "list" = none
  tuple : mg "tuple" = none
  all : mg "all" = none
  range : mg "range" = none
  bool : mg "bool" = none
  str : mg "str" = none
  enum : mg "enumerate" = none
  sum : mg "sum" = none
/-! the box of draws: at m the marks -/
def Bx (H : Hp) (b m : Addr) : Prop := ∃ (ms : List Int) (i r s : Int), H b = some (.lst [.ref m, .int i, .int r, .int s]) ∧ H m = some (.lst (ms.map V.int)) ∧ 0 ≤ i ∧ 0 ≤ r ∧ 0 ≤ s ∧ s < 2147483647
def BxTo (H H' : Hp) (b m : Addr) : Prop := Bx H' b m ∧ ∀ x, x ≠ b → H' x = H x
theorem Bx.put {H : Hp} {b m : Addr} {ms : List Int} {i r s i' r' s' : Int} (h : H b = some (.lst [.ref m, .int i, .int r, .int s])) (hm : H m = some (.lst (ms.map V.int))) (h1 : 0 ≤ i') (h2 : 0 ≤ r') (h3 : 0 ≤ s') (h4 : s' < 2147483647) :
    BxTo H (upd H b (.lst [.ref m, .int i', .int r', .int s'])) b m := by
  have nm : m ≠ b := fun e => by
    subst e
    rw [h] at hm
    cases ms with
    | nil => cases hm
    | cons x r => cases hm
  exact ⟨⟨ms, i', r', s', upd_same, by rw [upd_ne nm]; exact hm, h1, h2, h3, h4⟩, fun x hx => upd_ne hx⟩
theorem BxTo.trans {H H1 H2 : Hp} {b m : Addr} (x : BxTo H H1 b m) (y : BxTo H1 H2 b m) : BxTo H H2 b m := ⟨y.1, fun z hz => (y.2 z hz).trans (x.2 z hz)⟩
theorem BxTo.refl {H : Hp} {b m : Addr} (x : Bx H b m) : BxTo H H b m := ⟨x, fun _ _ => rfl⟩
end KA
set_option maxRecDepth 100000
set_option maxHeartbeats 2000000
namespace KA
open PySem PySem.Spec PyProof.Rows L2
section
variable {P : Program} {w : World} {K : PySem.W.Frag} {mg : Str → Option Value} {base : Heap}
def spDraw : Sp := fun vs H Q _ => ∃ (b m : Addr) (many : Int), vs = [.ref b, .int many] ∧ Bx H b m ∧ 0 < many ∧ many < 1000000 ∧ ∀ d H', 0 ≤ d → d < many → BxTo H H' b m → Q (.int d) H'
theorem ok_draw {f : Addr} {fd : FuncData} {k : Nat} (F : Fun K "_law_draw" "_law_draw" sDraw f fd) (B : Bn mg) : FnOk P w K mg base CX0 (k + 1) f fd ["_law_box", "_law_many"] spDraw := by
  refine F.ok scDraw (fun vs H Q E h => ?_) (fun cdv A outer s H vs Q E hr h => ?_)
  · obtain ⟨b, m, n, rfl, _⟩ := h
    rfl
  · obtain ⟨b, m, n, rfl, hB, h1, h2, q⟩ := h
    obtain ⟨t2, P2, R2⟩ : ∃ t2, PSs (cxOf CX0 P w K mg base ["_law_box", "_law_many", "_law_cell", "_law_digit", "_law_seed"] "_law_draw" (defScope sDraw) f cdv A outer s H E).nox ((defBody sDraw).drop 1) t2 ∧
        ∀ (y : Option V) (H' : Hp), BxTo H H' b m → t2 { nx := fun _ H' => Q .non H', rt := Q } [some (.ref b), some (.int n), y, none, none] H' := by
      refine ⟨_, pss_cons (ps_if (pt_cmpR op_gt (pe_ix ix_list (pv 0) pe_int (fun _ _ => rfl)) pe_int (nomark _))
          (pss_cons (ps_set (i := 3) scDraw.nd rfl (.inl rfl) (pe_op op_mod (pe_callTy call_int1 (by rfl) B.int boot_int (pa_cons (pe_ix ix_list (pv 0) pe_int (fun _ _ => rfl)) pa_nil)) (pv 1)))
          (pss_cons (ps_asg (pe_op op_fdivW (pe_ix ix_list (pv 0) pe_int (fun _ _ => rfl)) (pv 1)) (pg_sub (pv 0) pe_int set_list))
          (pss_one (ps_ret (pv 3))))) pss_nil)
        (pss_cons (ps_set (i := 4) scDraw.nd rfl (.inl rfl) (pe_ix ix_list (pv 0) pe_int (fun _ _ => rfl)))
        (pss_cons (ps_asg (pe_op op_mod (pe_op op_add (pe_op op_add (pe_op op_mul (pv 4) (pv 4)) (pe_op op_mul (pv 4) pe_int)) pe_int) pe_int) (pg_sub (pv 0) pe_int set_list))
        (pss_one (ps_ret (pe_op op_mod (pe_op op_add (pe_op op_fdiv (pe_ix ix_list (pv 0) pe_int (fun _ _ => rfl)) pe_int)
          (pe_op op_mul (pe_op op_mod (pe_callTy call_int1 (by rfl) B.int boot_int (pa_cons (pe_ix ix_list (pv 0) pe_int (fun _ _ => rfl)) pa_nil)) pe_int) pe_int)) (pv 1)))))), fun y H' hT => ?_⟩
      obtain ⟨⟨ms, i, r, s, hb, hm, k1, k2, k3, k4⟩, kp⟩ := id hT
      refine ⟨.ref b, rfl, b, _, 2, _, rfl, rfl, SqL.of hb, rfl, _, _, rfl, rfl, _, rfl, ite2 (fun e => ?_) (fun e => ?_)⟩
      · have hr0 : 0 < r := of_decide_eq_true e
        refine ⟨.ref b, rfl, b, _, 2, _, rfl, rfl, SqL.of hb, rfl, .inl ⟨_, rfl, _, rfl, _, _, rfl, rfl, h1, ?_⟩⟩
        refine ⟨.ref b, rfl, b, _, 2, _, rfl, rfl, SqL.of hb, rfl, _, rfl, _, _, rfl, rfl, wide_div (b := 20) h1 (by omega) (by decide) (by decide), ?_⟩
        refine ⟨.ref b, rfl, b, _, 2, 2, rfl, rfl, hb, rfl, _, rfl, ?_⟩
        refine q _ _ (Int.emod_nonneg _ (by omega)) (Int.emod_lt_of_pos _ h1) (hT.trans ?_)
        exact Bx.put hb hm k1 (Int.ediv_nonneg k2 (by omega)) k3 k4
      · refine ⟨.ref b, rfl, b, _, 3, _, rfl, rfl, SqL.of hb, rfl, ?_⟩
        refine ⟨_, rfl, _, rfl, _, _, rfl, rfl, .inl ⟨by omega, by omega⟩, _, rfl, _, _, rfl, rfl, .inl ⟨by omega, by omega⟩, _, _, rfl, rfl, _, _, rfl, rfl, _, _, rfl, rfl, (by show (0 : Int) < _; decide), ?_⟩
        refine ⟨.ref b, rfl, b, _, 3, 3, rfl, rfl, hb, rfl, ?_⟩
        have g1 : 0 ≤ (s * s + s * 61001 + 911) % 2147483647 := Int.emod_nonneg _ (by decide)
        have g2 : (s * s + s * 61001 + 911) % 2147483647 < 2147483647 := Int.emod_lt_of_pos _ (by decide)
        have bx := Bx.put (i' := i) (r' := r) (s' := (s * s + s * 61001 + 911) % 2147483647) hb hm k1 k2 g1 g2
        refine ⟨.ref b, rfl, b, _, 3, _, rfl, rfl, SqL.of upd_same, rfl, _, _, rfl, rfl, ⟨by decide, by decide⟩, ?_⟩
        refine ⟨.ref b, rfl, b, _, 3, _, rfl, rfl, SqL.of upd_same, rfl, .inl ⟨_, rfl, _, _, rfl, rfl, (by show (0 : Int) < _; decide), _, _, rfl, rfl, .inl ⟨by omega, by omega⟩, _, _, rfl, rfl, _, rfl, _, _, rfl, rfl, h1, ?_⟩⟩
        exact q _ _ (Int.emod_nonneg _ (by omega)) (Int.emod_lt_of_pos _ h1) (hT.trans bx)
    obtain ⟨ms, i, r, s, hb, hm, k1, k2, k3, k4⟩ := id hB
    refine ⟨_, pss_cons (ps_if (PW.pt (pw_and (pt_cmpR op_eq (pe_ix ix_list (pv 0) pe_int (fun _ _ => rfl)) pe_int (nomark _))
          (pw_and1 (pt_cmpR op_lt (pe_ix ix_list (pv 0) pe_int (fun _ _ => rfl)) (pe_callB call_len_seq (by rfl) B.len PySem.boot_len (pa_cons (pe_ix ix_list (pv 0) pe_int (fun _ _ => rfl)) pa_nil)) (nomark _)))))
        (pss_cons (ps_set (i := 2) scDraw.nd rfl (.inl rfl) (pe_ix ix_list (pe_ix ix_list (pv 0) pe_int (fun _ _ => rfl)) (pe_ix ix_list (pv 0) pe_int (fun _ _ => rfl)) (fun _ _ => rfl)))
        (pss_cons (ps_asg (pe_op op_add (pe_ix ix_list (pv 0) pe_int (fun _ _ => rfl)) pe_int) (pg_sub (pv 0) pe_int set_list))
        (pss_one (ps_if (pt_cmpR op_ge (pv 2) (pe_op op_pow pe_int pe_int) (nomark _))
          (pss_one (ps_asg (pv 2) (pg_sub (pv 0) pe_int set_list)))
          (pss_one (ps_asg (pe_op op_mod (pe_op op_add (pe_op op_add (pe_op op_mul (pe_ix ix_list (pv 0) pe_int (fun _ _ => rfl)) pe_int)
            (pe_op op_mul (pe_op op_mod (pe_callTy call_int1 (by rfl) B.int boot_int (pa_cons (pv 2) pa_nil)) pe_int) pe_int)) pe_int) pe_int) (pg_sub (pv 0) pe_int set_list)))))))
        pss_nil) P2, ?_⟩
    refine ⟨.ref b, rfl, b, _, 2, _, rfl, rfl, SqL.of hb, rfl, rfl, _, rfl, ite2 (fun e => ?_) (fun e => ?_)⟩
    · refine ⟨.ref b, rfl, b, _, 1, _, rfl, rfl, SqL.of hb, rfl, .ref b, rfl, b, _, 0, _, rfl, rfl, SqL.of hb, rfl, m, _, rfl, .inl (SqL.of hm), _, _, rfl, rfl, _, rfl, ite2 (fun e2 => ?_) (fun e2 => ?_)⟩
      · have hl : i < (ms.map V.int).length := of_decide_eq_true e2
        have hl2 : i.toNat < ms.length := by
          rw [List.length_map] at hl
          omega
        have ei : ((i.toNat : Nat) : Int) = i := by omega
        have hat : atI (ms.map V.int) i = some (.int ms[i.toNat]) := by
          have z : (ms.map V.int)[i.toNat]? = some (.int ms[i.toNat]) := by
            rw [List.getElem?_map, List.getElem?_eq_getElem hl2]
            rfl
          have z2 := atI_nat z
          rw [ei] at z2
          exact z2
        refine ⟨.ref b, rfl, b, _, 0, _, rfl, rfl, SqL.of hb, rfl, .ref b, rfl, b, _, 1, _, rfl, rfl, SqL.of hb, rfl, m, _, i, _, rfl, rfl, SqL.of hm, hat, ?_⟩
        generalize ms[i.toNat] = cell
        refine ⟨.ref b, rfl, b, _, 1, _, rfl, rfl, SqL.of hb, rfl, _, _, rfl, rfl, .ref b, rfl, b, _, 1, 1, rfl, rfl, hb, rfl, ?_⟩
        have bx1 := Bx.put (i' := i + 1) (r' := r) (s' := s) hb hm (by omega) k2 k3 k4
        have hb1 : upd H b (.lst [.ref m, .int (i + 1), .int r, .int s]) b = _ := upd_same
        have hm1 : upd H b (.lst [.ref m, .int (i + 1), .int r, .int s]) m = some (.lst (ms.map V.int)) := by
          obtain ⟨_, z⟩ := Bx.put (i' := i + 1) (r' := r) (s' := s) hb hm (by omega) k2 k3 k4
          rw [z m (fun e => by subst e; rw [hb] at hm; cases ms <;> cases hm)]
          exact hm
        refine ⟨_, rfl, _, _, rfl, rfl, ⟨by decide, by decide, by decide⟩, _, _, rfl, rfl, _, rfl, ite2 (fun e3 => ?_) (fun e3 => ?_)⟩
        · have hc : (10 : Int) ^ (18 : Int).toNat ≤ cell := of_decide_eq_true e3
          have hc0 : (0 : Int) ≤ (10 : Int) ^ (18 : Int).toNat := by decide
          refine ⟨_, rfl, .ref b, rfl, b, _, 2, 2, rfl, rfl, hb1, rfl, ?_⟩
          exact R2 _ _ (bx1.trans (Bx.put hb1 hm1 (by omega) (by omega) k3 k4))
        · refine ⟨.ref b, rfl, b, _, 3, _, rfl, rfl, SqL.of hb1, rfl, _, _, rfl, rfl, .inl ⟨by omega, by omega⟩, _, rfl, .inl ⟨_, rfl, _, _, rfl, rfl, (by show (0 : Int) < _; decide), _, _, rfl, rfl, .inl ⟨by omega, by omega⟩, _, _, rfl, rfl, _, _, rfl, rfl, _, _, rfl, rfl, (by show (0 : Int) < _; decide), ?_⟩⟩
          refine ⟨.ref b, rfl, b, _, 3, 3, rfl, rfl, hb1, rfl, ?_⟩
          exact R2 _ _ (bx1.trans (Bx.put hb1 hm1 (by omega) k2 (by omega) (by omega)))
      · exact R2 _ _ (.refl hB)
    · exact R2 _ _ (.refl hB)
end
end KA
set_option maxRecDepth 100000
set_option maxHeartbeats 2000000
namespace KA
open PySem PySem.Spec PyProof.Rows L2
/-! texts as lists of codes -/
abbrev tx (l : List Nat) : V := .str (SX.S l)
theorem tx_len (l : List Nat) : (SX.S l).length = l.length := SX.S_len l
theorem joinNil : ∀ ys : List (List Nat), TL.joinL [] ys = ys.flatten
  | [] => rfl
  | [p] => by simp [TL.joinL]
  | p :: q :: r => by
    show p ++ ([] ++ TL.joinL [] (q :: r)) = _
    rw [joinNil (q :: r)]
    rfl
theorem walk_txt (l : List Nat) : Walk (Its (SX.S l)) (l.map fun c => tx [c]).length (fun _ => True) (YAt (l.map fun c => tx [c])) := by
  have e : (SX.S l).cps.size = (l.map fun c => tx [c]).length := by simp
  have w := walk_str (z := SX.S l)
  rw [e] at w
  refine w.mono (fun _ h => h) (fun i H x H' hi _ y => ?_)
  obtain ⟨y1, c, y2, y3⟩ := y
  refine ⟨y1, ?_⟩
  rw [List.getElem?_map]
  have y4 : l[i]? = some c := by simpa using y2
  rw [y4, y3]
  rfl
/-! heaps -/
theorem same_new {H : Hp} {p : Addr} {o : HO} (h : H p = none) : Same H (upd H p o) := fun b x e => by
  rw [upd_ne (ne_of_none e h)]
  exact e
theorem sqT_same {K : PySem.W.Frag} {H H' : Hp} {a : Addr} {xs : List V} (e : Same H H') (h : SqT K H a xs) : SqT K H' a xs := by
  rcases h with (h | ⟨o, h⟩) | h
  · exact .inl (.inl (e _ _ h))
  · exact .inl (.inr ⟨o, e _ _ h⟩)
  · exact .inr h
theorem take_more {α : Type} {l : List α} {i : Nat} {x : α} (h : l[i]? = some x) : l.take (i + 1) = l.take i ++ [x] := by
  rw [List.take_add_one, h]
  rfl
/-- a comprehension over xs whose test and element change nothing that stands -/
theorem lc_pure {J : It} {G : Hp → Prop} {xs : List V} (w : Walk J xs.length G (YAt xs)) {tt : TT} {te : TE} {σ : L2.St} {i : Nat} {H1 : Hp} {D : Addr} {Qd : Hp → Prop} (f : V → V) (keep : V → Bool) (hlen : xs.length < sizeLine) (hD : H1 D = none)
    (hG : ∀ H2, Same H1 H2 → G H2)
    (ht : ∀ x H2 Q, x ∈ xs → Same H1 H2 → Q (keep x) H2 → tt ((σ.set i none).set i (some x)) H2 Q)
    (he : ∀ x H2 Q, x ∈ xs → keep x = true → Same H1 H2 → (∀ H3, Same H2 H3 → Q (f x) H3) → te ((σ.set i none).set i (some x)) H2 Q)
    (hd : ∀ H2, Same H1 H2 → H2 D = some (.lst ((xs.filter keep).map f)) → Qd H2) :
    ∃ W : Nat → Nat → Hp → Prop, (∃ m, W 0 m (upd H1 D (.lst []))) ∧ ∀ j m H, W j m H →
      (J.stop j H ∧ Qd H) ∨ (J.go j H ∧ ∃ Nx : Hp → Prop, (∀ H', Nx H' → ∃ m', m' < m ∧ W (j + 1) m' H') ∧ ∀ x H', J.yld j H x H' → gName i x (wipe σ [i]) H' fun σ2 H2 => wipe σ2 [i] = wipe σ [i] ∧ tt σ2 H2 fun b H3 =>
        if b = true then te σ2 H3 fun v H4 => ∃ ac, H4 D = some (.lst ac) ∧ ac.length < sizeLine ∧ Nx (upd H4 D (.lst (ac ++ [v]))) else Nx H3) := by
  refine lc_it w (fun j H2 => Same H1 H2 ∧ H2 D = some (.lst (((xs.take j).filter keep).map f))) ⟨same_new hD, upd_same⟩ (fun j H2 _ h => hG H2 h.1) ?_ (fun H2 h => hd H2 h.1 (by have z := h.2; rw [List.take_length] at z; exact z))
  rintro j x H2 H2' hj ⟨sm, hd2⟩ ⟨rfl, hx⟩
  have hm : x ∈ xs := List.mem_of_getElem? hx
  refine ⟨?_, ?_⟩
  · show (((σ.set i none).set i (some x)).set i none) = σ.set i none
    rw [List.set_set, List.set_set]
  · refine ht x _ _ hm sm ?_
    have tk := take_more hx
    cases hk : keep x with
    | true =>
      refine iteT (he x _ _ hm hk sm fun H3 s3 => ⟨_, s3 _ _ hd2, ?_, ?_, ?_⟩)
      · rw [List.length_map]
        exact Nat.lt_of_le_of_lt (Nat.le_trans (List.length_filter_le _ _) (by rw [List.length_take]; omega)) hlen
      · intro b o e
        rw [upd_ne (ne_of_none e hD)]
        exact s3 _ _ (sm _ _ e)
      · rw [upd_same, tk, List.filter_append, List.map_append]
        simp [hk]
    | false =>
      refine iteF ⟨sm, ?_⟩
      rw [hd2, tk, List.filter_append]
      simp [hk]
section
variable {P : Program} {w : World} {K : PySem.W.Frag} {mg : Str → Option Value} {base : Heap}
/-! _law_any -/
def spAny : Sp := fun vs H Q _ => ∃ (b m p : Addr) (xs : List V), vs = [.ref b, .ref p] ∧ Bx H b m ∧ H p = some (.lst xs) ∧ p ≠ b ∧ xs ≠ [] ∧ xs.length < 1000000 ∧ ∀ x H', x ∈ xs → BxTo H H' b m → Q x H'
theorem ok_any {f fD : Addr} {fd fdD : FuncData} {k : Nat} (F : Fun K "_law_any" "_law_any" sAny f fd) (B : Bn mg) (FD : Fun K "_law_draw" "_law_draw" sDraw fD fdD) (bD : Binds K fdD ["_law_box", "_law_many"] []) (gD : mg "_law_draw" = some (.ref fD)) :
    FnOk P w K mg base CX0 (k + 2) f fd ["_law_box", "_law_some"] spAny := by
  have GD : FnOk P w K mg base CX0 (k + 1) fD fdD ["_law_box", "_law_many"] spDraw := ok_draw FD B
  refine F.ok scAny (fun vs H Q E h => ?_) (fun cdv A outer s H vs Q E hr h => ?_)
  · obtain ⟨b, m, p, xs, rfl, _⟩ := h
    rfl
  · obtain ⟨b, m, p, xs, rfl, hB, hp, hpb, hne, hl, q⟩ := h
    refine ⟨_, pss_one (ps_ret (pe_ix ix_list (pv 1) (pe_call GD hr (by rfl) gD FD.kp bD .nil pass0 (pa_cons (pv 0) (pa_cons (pe_callB call_len_seq (by rfl) B.len PySem.boot_len (pa_cons (pv 1) pa_nil)) pa_nil))) (fun _ _ => rfl))), ?_⟩
    have h0 : 0 < xs.length := List.length_pos_iff.mpr hne
    refine ⟨.ref p, rfl, .ref b, rfl, .ref p, rfl, p, xs, rfl, .inl (SqL.of hp), b, m, (xs.length : Int), rfl, hB, by omega, by omega, fun d H' d0 d1 hT => ?_⟩
    have hd : d.toNat < xs.length := by omega
    have hat : atI xs d = some xs[d.toNat] := by
      have z := atI_nat (List.getElem?_eq_getElem hd)
      rw [show ((d.toNat : Nat) : Int) = d by omega] at z
      exact z
    exact ⟨p, xs, d, _, rfl, rfl, SqL.of ((hT.2 p hpb).trans hp), hat, q _ _ (List.getElem_mem hd) hT⟩
/-! _law_begin -/
def spBegin (K : PySem.W.Frag) : Sp := fun vs H Q _ => ∃ (a : Addr) (ns : List Int), vs = [.ref a] ∧ SqL K H a (ns.map V.int) ∧ ns.length ≤ 63 ∧ ∀ H' b m, Same H H' → H b = none → Bx H' b m → Q (.ref b) H'
theorem ok_begin {f : Addr} {fd : FuncData} {k : Nat} (F : Fun K "_law_begin" "_law_begin" sBegin f fd) (B : Bn mg) : FnOk P w K mg base CX0 (k + 1) f fd ["_law_script"] (spBegin K) := by
  refine F.ok scBegin (fun vs H Q E h => ?_) (fun cdv A outer s H vs Q E hr h => ?_)
  · obtain ⟨a, ns, rfl, _⟩ := h
    rfl
  · obtain ⟨a, ns, rfl, hS, hl, q⟩ := h
    refine ⟨_, pss_cons (ps_setLc (i := 2) (own := [("_law_cell", 1)]) (g := gName 1) (tt := tYes) rfl scBegin.nd rfl rfl (sw_true rfl rfl rfl (by decide +kernel)) (pi_list (pe_slice sl_list (pv 0) po_none (po_some pe_int)))
        (blkOk_by (N := ["_law_script", "_law_cell", "_law_marks", "_law_seed"]) (sc := defScope sBegin) (by decide +kernel)) (fun _ _ _ _ _ => pg_name (i := 1) scBegin.nd rfl (Or.inl rfl)) (fun _ _ _ _ _ => pts_nil)
        (fun _ _ _ _ _ => pe_callTy call_int1 (by rfl) B.int boot_int (pa_cons (pv 1) pa_nil)))
      (pss_cons (ps_set (i := 3) scBegin.nd rfl (.inl rfl) (pe_op op_add pe_int (pe_op op_mul pe_int (pe_callB call_len_seq (by rfl) B.len PySem.boot_len (pa_cons (pv 2) pa_nil)))))
      (pss_cons (ps_for PassesOwn.never rfl (pi_list (pv 2)) (pg_name (i := 1) scBegin.nd rfl (Or.inl rfl))
        (pss_one (ps_set (i := 3) scBegin.nd rfl (.inl rfl) (pe_op op_mod (pe_op op_add (pe_op op_add (pe_op op_mul (pv 3) pe_int) (pe_op op_mod (pe_callTy call_int1 (by rfl) B.int boot_int (pa_cons (pv 1) pa_nil)) pe_int)) pe_int) pe_int))))
      (pss_one (ps_ret (pe_lst (pa_cons (pv 2) (pa_cons pe_int (pa_cons pe_int (pa_cons (pv 3) pa_nil))))))))), ?_⟩
    obtain ⟨ms, hms, hcut⟩ : ∃ ms : List Int, ms.length ≤ 63 ∧ cutV (ns.map V.int) none (some 63) = ms.map V.int := by
      refine ⟨ns.take (HT.sIx (ns.map V.int).length (ns.map V.int).length (some 63) - HT.sIx (ns.map V.int).length 0 none), ?_, ?_⟩
      · rw [List.length_take]
        omega
      · unfold cutV
        rw [HT.sIx_none, List.drop_zero, List.map_take]
    refine ⟨.ref a, rfl, 63, rfl, a, _, rfl, hS, fun c nc => ?_⟩
    rw [hcut]
    refine ⟨c, rfl, ⟨_, SqL.of upd_same⟩, fun D nD => ?_⟩
    have s1 : Same H (upd H c (.lst (ms.map V.int))) := same_new nc
    refine lc_pure (walk_list (K := K) (a := c) (xs := ms.map V.int)) (σ := [some (.ref a), none, none, none]) (i := 1) id (fun _ => true) (by rw [List.length_map]; exact small1000 (by omega)) nD (fun H2 e => SqL.of (e _ _ upd_same)) (fun x H2 Q _ _ h => h) ?_ ?_
    · intro x H2 Q hx _ _ h
      obtain ⟨z, _, rfl⟩ := List.mem_map.mp hx
      exact ⟨_, rfl, .inl ⟨z, rfl, h H2 (Same.refl _)⟩⟩
    · intro H2 s2 hD
      have hf : ((ms.map V.int).filter fun _ => true).map id = ms.map V.int := by simp
      rw [hf] at hD
      have sm : Same H H2 := s1.trans s2
      refine ⟨.ref D, rfl, D, _, rfl, .inl (SqL.of hD), _, _, rfl, rfl, .inl ⟨by decide, by decide⟩, _, _, rfl, rfl, ?_⟩
      refine ⟨.ref D, rfl, D, rfl, ⟨_, SqL.of hD⟩, ?_⟩
      refine for_it (walk_list (K := K) (a := D) (xs := ms.map V.int)) (fun i σ H3 => ∃ (y : Option V) (sd : Int), σ = [some (.ref a), y, some (.ref D), some (.int sd)] ∧ H3 = H2 ∧ 0 ≤ sd ∧ sd < 2147483647) ⟨none, _, rfl, rfl, ?_, ?_⟩ (fun i σ H3 _ h => ?_) ?_ ?_
      · simp only [List.length_map]
        omega
      · simp only [List.length_map]
        omega
      · obtain ⟨_, _, _, rfl, _⟩ := h
        exact SqL.of hD
      · rintro i x σ H3 H3' hi ⟨y, sd, rfl, rfl, g1, g2⟩ ⟨rfl, hx⟩
        obtain ⟨z, _, rfl⟩ := List.mem_map.mp (List.mem_of_getElem? hx)
        refine ⟨_, rfl, _, _, rfl, rfl, .inl ⟨by omega, by omega⟩, _, rfl, .inl ⟨z, rfl, _, _, rfl, rfl, (by show (0 : Int) < _; decide), _, _, rfl, rfl, _, _, rfl, rfl, _, _, rfl, rfl, (by show (0 : Int) < _; decide), ?_⟩⟩
        exact ⟨_, _, rfl, rfl, Int.emod_nonneg _ (by decide), Int.emod_lt_of_pos _ (by decide)⟩
      · rintro σ H3 ⟨y, sd, rfl, rfl, g1, g2⟩
        refine ⟨_, rfl, _, rfl, (by show 4 ≤ sizeLine; decide), fun b nb => ?_⟩
        refine q _ b D (sm.trans (same_new nb)) (sm.free nb) ⟨ms, 0, 0, sd, upd_same, ?_, by omega, by omega, g1, g2⟩
        rw [upd_ne (ne_of_none hD nb)]
        exact hD
end
end KA
set_option maxRecDepth 100000
set_option maxHeartbeats 2000000
namespace KA
open PySem PySem.Spec PyProof.Rows L2
/-! ### the mirror -/
def menu : List Nat := [97, 98, 109, 116, 120, 121, 122]
def sw (c : Nat) : Nat := if 65 ≤ c ∧ c ≤ 90 then c + 32 else if 97 ≤ c ∧ c ≤ 122 then c - 32 else c
def opp (w : List Nat) : List Nat := w.reverse.map sw
def sg (L : List Nat) : List Nat := L.flatMap fun c => [c, c - 32]
def stp (f : List Nat) (c : Nat) : List Nat := if f.getLast? = some (sw c) then f.dropLast else f ++ [c]
def sh (w : List Nat) : List Nat := w.foldl stp []
def Asc (w : List Nat) : Prop := ∀ c ∈ w, c < 128
def Lt (L : List Nat) : Prop := (L.length ≤ 100 ∧ L.Nodup) ∧ ∀ c ∈ L, 97 ≤ c ∧ c ≤ 122
theorem menu_lo : ∀ c ∈ menu, 97 ≤ c ∧ c ≤ 122 := by decide
theorem menu_asc (c : Nat) (h : 97 ≤ c ∧ c ≤ 122) : c < 128 := by omega
theorem menu_up (c : Nat) (h : 97 ≤ c ∧ c ≤ 122) : up1 c = c - 32 := by
  unfold up1
  rw [if_pos h]
theorem sg_len (L : List Nat) : (sg L).length = 2 * L.length := by
  induction L with
  | nil => rfl
  | cons c r ih =>
    show ([c, c - 32] ++ sg r).length = 2 * (r.length + 1)
    rw [List.length_append, ih]
    simp only [List.length_cons, List.length_nil]
    omega
theorem upper1 {c : Nat} (h : c < 128) : Txt.upper (SX.S [c]) = SX.S [up1 c] := by
  have e := upper_ascii (x := SX.S [c]) (fun d hd => by
    have : d = c := by simpa using hd
    omega)
  rw [e]
  simp
theorem lower1 {c : Nat} (h : c < 128) : Txt.lower (SX.S [c]) = SX.S [lo1 c] := by
  have e := lower_ascii (x := SX.S [c]) (fun d hd => by
    have : d = c := by simpa using hd
    omega)
  rw [e]
  simp
theorem upperM {c : Nat} (h : 97 ≤ c ∧ c ≤ 122) : Txt.upper (SX.S [c]) = SX.S [c - 32] := by
  rw [upper1 (menu_asc c h), menu_up c h]
theorem isUpper_ascii : ∀ c, c < 128 → Unicode.isUpper c = decide (65 ≤ c ∧ c ≤ 90) := by decide +kernel
theorem isLower_ascii : ∀ c, c < 128 → Unicode.isLower c = decide (97 ≤ c ∧ c ≤ 122) := by decide +kernel
theorem swapS {w : List Nat} (hA : Asc w) : Txt.swapcase (SX.S w) = SX.S (w.map sw) := by
  unfold Txt.swapcase
  rw [placed_single (SX.S w) _ sw fun i c hc => ?_]
  · simp
  · have hc0 : w[i]? = some c := by simpa using hc
    have hlt := hA c (List.mem_of_getElem? hc0)
    have hc' : (SX.S w).cps[i]? = some c := by simpa using hc
    rw [isUpper_ascii c hlt, isLower_ascii c hlt]
    unfold sw
    by_cases h1 : 65 ≤ c ∧ c ≤ 90
    · rw [decide_eq_true h1, if_pos rfl, if_pos h1]
      unfold Unicode.lowerAt
      rw [hc']
      have hne : (c == 0x3A3) = false := by rw [beq_eq_false_iff_ne]; omega
      simp only [hne, Bool.false_and, Bool.false_eq_true, if_false]
      rw [lowerOf_ascii c hlt]
      unfold lo1
      rw [if_pos h1]
    · rw [decide_eq_false h1, if_neg Bool.false_ne_true, if_neg h1]
      by_cases h2 : 97 ≤ c ∧ c ≤ 122
      · rw [decide_eq_true h2, if_pos rfl, if_pos h2, upperOf_ascii c hlt]
        unfold up1
        rw [if_pos h2]
      · rw [decide_eq_false h2, if_neg Bool.false_ne_true, if_neg h2]
theorem rvS (w : List Nat) : Rs.rv (SX.S w) = SX.S w.reverse := by
  unfold Rs.rv
  simp
theorem oppS {w : List Nat} (hA : Asc w) : Txt.swapcase (Rs.rv (SX.S w)) = SX.S (opp w) := by
  rw [rvS, swapS (fun c hc => hA c (List.mem_reverse.mp hc))]
  rfl
theorem sw_sw (c : Nat) : sw (sw c) = c := by
  unfold sw
  repeat' split
  all_goals omega
theorem sw_lt {c : Nat} (h : c < 128) : sw c < 128 := by
  unfold sw
  repeat' split
  all_goals omega
def Red (f : List Nat) : Prop := ∀ (a b : List Nat) (x y : Nat), f = a ++ x :: y :: b → x ≠ sw y
theorem red_nil : Red [] := fun a b x y e => by cases a <;> cases e
theorem red_stp {f : List Nat} (h : Red f) (c : Nat) : Red (stp f c) := by
  unfold stp
  split
  · intro a b x y e
    rcases List.eq_nil_or_concat f with rfl | ⟨g, z, rfl⟩
    · cases a <;> cases e
    · have e' : (g ++ [z]).dropLast = a ++ x :: y :: b := by simpa using e
      rw [List.dropLast_concat] at e'
      exact h a (b ++ [z]) x y (by rw [e']; simp)
  · rename_i hl
    intro a b x y e
    rcases List.eq_nil_or_concat b with rfl | ⟨b', z, rfl⟩
    · have e3 : f ++ [c] = (a ++ [x]) ++ [y] := by rw [e]; simp
      have e4 := List.append_inj' e3 rfl
      have e5 : c = y := by simpa using e4.2
      intro hxy
      apply hl
      rw [e4.1, List.getLast?_append]
      rw [e5, hxy]
      rfl
    · have e3 : f ++ [c] = (a ++ x :: y :: b') ++ [z] := by rw [e]; simp
      have e4 := List.append_inj' e3 rfl
      exact h a b' x y e4.1
theorem stp_stp {f : List Nat} (h : Red f) (c : Nat) : stp (stp f c) (sw c) = f := by
  unfold stp
  rw [sw_sw]
  by_cases hl : f.getLast? = some (sw c)
  · rw [if_pos hl]
    obtain ⟨g, rfl⟩ := List.getLast?_eq_some_iff.mp hl
    rw [List.dropLast_concat]
    have hn : ¬ (g.getLast? = some c) := by
      intro hg
      obtain ⟨g', rfl⟩ := List.getLast?_eq_some_iff.mp hg
      exact h g' [] c (sw c) (by simp) (sw_sw c).symm
    rw [if_neg hn]
  · rw [if_neg hl, if_pos (by simp)]
    simp
theorem foldl_red {f : List Nat} (h : Red f) : ∀ w : List Nat, Red (w.foldl stp f) := by
  intro w
  induction w generalizing f with
  | nil => exact h
  | cons c r ih => exact ih (red_stp h c)
theorem fold_opp {f : List Nat} (h : Red f) (w : List Nat) : (w ++ opp w).foldl stp f = f := by
  induction w generalizing f with
  | nil => rfl
  | cons c r ih =>
    have e : (c :: r) ++ opp (c :: r) = c :: ((r ++ opp r) ++ [sw c]) := by
      unfold opp
      simp
    rw [e, List.foldl_cons, List.foldl_append, ih (red_stp h c)]
    exact stp_stp h c
theorem sh_opp (w : List Nat) : sh (w ++ opp w) = [] := fold_opp red_nil w
theorem sh_more {w : List Nat} {i : Nat} {c : Nat} (h : w[i]? = some c) : sh (w.take (i + 1)) = stp (sh (w.take i)) c := by
  unfold sh
  rw [take_more h, List.foldl_append]
  rfl
theorem stp_mem {f : List Nat} {c x : Nat} (h : x ∈ stp f c) : x ∈ f ∨ x = c := by
  unfold stp at h
  split at h
  · exact .inl (List.dropLast_subset _ h)
  · rcases List.mem_append.mp h with z | z
    · exact .inl z
    · exact .inr (by simpa using z)
theorem sh_mem {w : List Nat} {x : Nat} (h : x ∈ sh w) : x ∈ w := by
  have key : ∀ (w f : List Nat), x ∈ w.foldl stp f → x ∈ f ∨ x ∈ w := by
    intro w
    induction w with
    | nil => exact fun f h => .inl h
    | cons c r ih =>
      intro f h
      rcases ih _ h with z | z
      · rcases stp_mem z with z | z
        · exact .inl z
        · exact .inr (by rw [z]; exact List.mem_cons_self ..)
      · exact .inr (List.mem_cons_of_mem _ z)
  rcases key w [] h with z | z
  · cases z
  · exact z
theorem stp_len (f : List Nat) (c : Nat) : (stp f c).length ≤ f.length + 1 := by
  unfold stp
  split
  · rw [List.length_dropLast]; omega
  · rw [List.length_append]; simp
theorem sh_len (w : List Nat) : (sh w).length ≤ w.length := by
  have key : ∀ (w f : List Nat), (w.foldl stp f).length ≤ f.length + w.length := by
    intro w
    induction w with
    | nil => exact fun f => Nat.le_refl _
    | cons c r ih =>
      intro f
      have := ih (stp f c)
      have := stp_len f c
      simp only [List.foldl_cons, List.length_cons]
      omega
  have z := key w []
  unfold sh
  simpa using z
theorem mem_in {w : List Nat} {c : Nat} {L : List Nat} : inV (tx [c]) (L.map fun d => tx [d]) = decide (c ∈ L) := by
  unfold inV
  induction L with
  | nil => rfl
  | cons d r ih =>
    rw [List.map_cons, List.any_cons, ih]
    show ((SX.S [d] == SX.S [c]) || _) = _
    rw [SX.S_beq_eq]
    by_cases h : d = c
    · subst h
      simp
    · have h2 : c ≠ d := fun e => h e.symm
      simp [h, h2]
theorem cut_last (l : List Nat) : cutS (SX.S l) none (some (-1)) = SX.S l.dropLast := by
  unfold cutS
  rw [HT.sIx_none, List.drop_zero, Nat.sub_zero]
  have e : HT.sIx (SX.S l).length (SX.S l).length (some (-1)) = l.length - 1 := by
    rw [tx_len]
    show (if (-1 : Int) < 0 then ((-1 : Int) + (l.length : Int)).toNat else min (-1 : Int).toNat l.length) = l.length - 1
    rw [if_pos (by decide)]
    omega
  rw [e, List.dropLast_eq_take]
theorem at_last {α : Type} {l : List α} {x : α} (h : l.getLast? = some x) : atI l (-1) = some x := by
  have hne : l ≠ [] := fun z => by subst z; cases h
  have hl : 0 < l.length := List.length_pos_iff.mpr hne
  unfold atI ixN
  rw [if_neg (by decide), if_pos (by omega)]
  show l[_]? = some x
  rw [List.getLast?_eq_getElem?] at h
  rw [← h]
  congr 1
  omega
end KA
set_option maxRecDepth 100000
set_option maxHeartbeats 2000000
namespace KA
open PySem PySem.Spec PyProof.Rows L2
theorem asc_le {w : List Nat} (h : w.length ≤ 1000) : (SX.S w).length ≤ sizeLine := by
  rw [tx_len]
  exact Nat.le_of_lt (small1000 h)
theorem asc_le2 {w : List Nat} (h : w.length ≤ 1000) : (SX.S w).length ≤ 5592405 := by
  rw [tx_len]
  omega
theorem asc1 {c : Nat} : (SX.S [c]).length ≤ 5592405 := asc_le2 (w := [c]) (by show 1 ≤ 1000; decide)
section
variable {P : Program} {w : World} {K : PySem.W.Frag} {mg : Str → Option Value} {base : Heap}
/-! opposite -/
def spOpp : Sp := fun vs H Q _ => ∃ l : List Nat, vs = [tx l] ∧ l.length ≤ 1000 ∧ Asc l ∧ Q (tx (opp l)) H
theorem ok_opp {f : Addr} {fd : FuncData} {k : Nat} (F : Fun K "opposite" "opposite" sOpp f fd) : FnOk P w K mg base CX0 (k + 1) f fd ["word"] spOpp := by
  refine F.ok scOpp (fun vs H Q E h => ?_) (fun cdv A outer s H vs Q E hr h => ?_)
  · obtain ⟨l, rfl, _⟩ := h
    rfl
  · obtain ⟨l, rfl, hl, hA, q⟩ := h
    refine ⟨_, pss_one (ps_ret (pe_m0 PySem.F.slot_str_swapcase PySem.F.type_str_swapcase Rs.m_swapcase (Rs.e_revS (pv 0)))), ?_⟩
    refine ⟨_, rfl, _, rfl, asc_le hl, ⟨_, rfl⟩, _, rfl, rfl, ?_, ?_⟩
    · rw [rvS]
      exact asc_le2 (by rw [List.length_reverse]; exact hl)
    · rw [oppS hA]
      exact q
/-! _law_back -/
/-! _law_signs -/
def spSigns : Sp := fun vs H Q _ => ∃ L : List Nat, vs = [tx L] ∧ Lt L ∧ ∀ H', Same H H' → Q (tx (sg L)) H'
theorem ok_signs {f : Addr} {fd : FuncData} {k : Nat} (F : Fun K "_law_signs" "_law_signs" sSigns f fd) : FnOk P w K mg base CX0 (k + 1) f fd ["_law_letters_here"] spSigns := by
  refine F.ok scSigns (fun vs H Q E h => ?_) (fun cdv A outer s H vs Q E hr h => ?_)
  · obtain ⟨l, rfl, _⟩ := h
    rfl
  · obtain ⟨L, rfl, hL, q⟩ := h
    refine ⟨_, pss_one (ps_ret (pe_join pe_str (pe_lc (own := [("_law_letter", 1)]) (g := gName 1) (tt := tYes) rfl scSigns.nd (pi_str (pv 0))
      (blkOk_by (N := ["_law_letters_here", "_law_letter"]) (sc := defScope sSigns) (by decide +kernel)) (fun _ _ _ _ _ => pg_name (i := 1) scSigns.nd rfl (Or.inl rfl)) (fun _ _ _ _ _ => pts_nil)
      (fun _ _ _ _ _ => pe_op op_add_str (pv 1) (pe_upper (pv 1)))))), ?_⟩
    refine ⟨⟨_, rfl⟩, _, rfl, _, rfl, fun D nD => ?_⟩
    refine lc_pure (walk_txt L) (σ := [some (tx L), none]) (i := 1) (fun v => match v with | .str z => .str (z ++ Txt.upper z) | v => v) (fun _ => true) (by rw [List.length_map]; exact small1000 (by have := hL.1; omega)) nD (fun _ _ => trivial) (fun x H2 Q _ _ h => h) ?_ ?_
    · intro x H2 Q hx _ _ h
      obtain ⟨c, hc, rfl⟩ := List.mem_map.mp hx
      refine ⟨_, rfl, _, rfl, ⟨_, rfl⟩, _, rfl, rfl, asc1, _, _, rfl, rfl, ?_, h H2 (Same.refl _)⟩
      rw [upperM (hL.2 c hc), tx_len, tx_len]
      show 2 ≤ sizeLine
      decide
    · intro H2 s2 hD
      refine ⟨_, D, (L.map fun c => [c, c - 32]).map SX.S, rfl, rfl, .inl (SqL.of ?_), ?_, ?_⟩
      · rw [hD]
        congr 2
        rw [List.filter_eq_self.mpr (by simp), List.map_map, List.map_map, List.map_map]
        refine List.map_congr_left fun c hc => ?_
        show V.str (SX.S [c] ++ Txt.upper (SX.S [c])) = V.str (SX.S [c, c - 32])
        rw [upperM (hL.2 c hc), SX.S_cat]
        rfl
      · rw [SX.lens, List.map_map]
        have e : ((List.length ∘ fun c => [c, c - 32]) : Nat → Nat) = fun _ => 2 := rfl
        have e3 : ∀ l : List Nat, (l.map fun _ => 2).sum = l.length * 2 := by
          intro l
          induction l with
          | nil => rfl
          | cons a r ih => rw [List.map_cons, List.sum_cons, ih, List.length_cons]; omega
        rw [e, e3]
        have h0 : (Str.ofString "").length = 0 := by decide
        rw [h0]
        have := hL.1
        simp only [Nat.mul_zero, Nat.add_zero]
        omega
      · have e := SX.join_S [] (L.map fun c => [c, c - 32])
        have e0 : (Str.ofString "") = SX.S [] := by decide
        rw [e0, e, joinNil]
        exact q H2 s2
end
end KA
set_option maxRecDepth 100000
set_option maxHeartbeats 2000000
namespace KA
open PySem PySem.Spec PyProof.Rows L2
theorem e0S : (Str.ofString "") = SX.S [] := by decide
theorem joinS (ys : List (List Nat)) : Txt.join (Str.ofString "") (ys.map SX.S) = SX.S ys.flatten := by
  rw [e0S, SX.join_S, joinNil]
theorem single_flat (w : List Nat) : (w.map fun c => [c]).flatten = w := by
  induction w with
  | nil => rfl
  | cons c r ih =>
    show [c] ++ (r.map fun c => [c]).flatten = c :: r
    rw [ih]
    rfl
theorem single_sum (w : List Nat) : (((w.map fun c => [c]).map SX.S).map (·.length)).sum = w.length := by
  rw [SX.lens, List.map_map]
  induction w with
  | nil => rfl
  | cons c r ih =>
    rw [List.map_cons, List.sum_cons, ih, List.length_cons]
    show 1 + r.length = _
    omega
theorem len0 : (Str.ofString "").length = 0 := by decide
section
variable {P : Program} {w : World} {K : PySem.W.Frag} {mg : Str → Option Value} {base : Heap}
/-- ''.join of single signs -/
theorem join_signs {X : Cx} {H : Hp} {D : Addr} {l : List Nat} {Q : VK} (hl : l.length ≤ 1000) (hD : H D = some (.lst (l.map fun c => tx [c]))) (q : Q (tx l) H) :
    ∃ a p, ∃ ys : List Str, V.str (Str.ofString "") = .str a ∧ [V.ref D] = [.ref p] ∧ (SqL K H p (ys.map V.str) ∨ SqT K H p (ys.map V.str)) ∧ (ys.map (·.length)).sum + ys.length * a.length ≤ 16777216 ∧ Q (.str (Txt.join a ys)) H := by
  refine ⟨_, D, (l.map fun c => [c]).map SX.S, rfl, rfl, .inl (SqL.of ?_), ?_, ?_⟩
  · rw [hD, List.map_map, List.map_map]
    rfl
  · rw [single_sum, len0]
    omega
  · rw [joinS, single_flat]
    exact q
/-! _law_gone_back -/
/-! _law_short -/
end
end KA
set_option maxRecDepth 100000
set_option maxHeartbeats 2000000
namespace KA
open PySem PySem.Spec PyProof.Rows L2
def one (c : Nat) : V := tx [c]
def cn (l L : List Nat) : List V := L.map fun c => .int (Txt.count (SX.S l) (SX.S [c]) - Txt.count (SX.S l) (SX.S [c - 32]))
section
variable {P : Program} {w : World} {K : PySem.W.Frag} {mg : Str → Option Value} {base : Heap}
/-! shortened -/
/-! _law_number_of -/
end
end KA
set_option maxRecDepth 100000
set_option maxHeartbeats 2000000
namespace KA
open PySem PySem.Spec PyProof.Rows L2
theorem sg_nodup : ∀ {L : List Nat}, L.Nodup → (∀ c ∈ L, 97 ≤ c ∧ c ≤ 122) → (sg L).Nodup
  | [], _, _ => List.nodup_nil
  | c :: L, hn, hm => by
    have hr : ∀ d ∈ c :: L, 97 ≤ d ∧ d ≤ 122 := hm
    have ih := sg_nodup (List.nodup_cons.mp hn).2 fun d hd => hm d (List.mem_cons_of_mem _ hd)
    have hc := hr c List.mem_cons_self
    have e : sg (c :: L) = c :: (c - 32) :: sg L := rfl
    have mem : ∀ x, x ∈ sg L → ∃ d ∈ L, x = d ∨ x = d - 32 := fun x hx => by
      unfold sg at hx
      obtain ⟨d, hd, h⟩ := List.mem_flatMap.mp hx
      exact ⟨d, hd, by simpa using h⟩
    rw [e, List.nodup_cons, List.nodup_cons]
    refine ⟨fun h => ?_, fun h => ?_, ih⟩
    · rcases List.mem_cons.mp h with z | z
      · omega
      · obtain ⟨d, hd, y⟩ := mem c z
        have := hr d (List.mem_cons_of_mem _ hd)
        rcases y with y | y
        · rw [y] at hn
          exact (List.nodup_cons.mp hn).1 hd
        · omega
    · obtain ⟨d, hd, y⟩ := mem _ h
      have := hr d (List.mem_cons_of_mem _ hd)
      rcases y with y | y
      · omega
      · have : c = d := by omega
        rw [this] at hn
        exact (List.nodup_cons.mp hn).1 hd
theorem sg_more {L : List Nat} {i c : Nat} (h : L[i]? = some c) : sg (L.take (i + 1)) = sg (L.take i) ++ [c, c - 32] := by
  unfold sg
  rw [take_more h, List.flatMap_append]
  simp
section
variable {P : Program} {w : World} {K : PySem.W.Frag} {mg : Str → Option Value} {base : Heap}
/-! signs_of -/
def spSof : Sp := fun vs H Q _ => ∃ L : List Nat, vs = [tx L] ∧ Lt L ∧ ∀ H' p, Same H H' → H p = none → H' p = some (.lst ((sg L).map one)) → Q (.ref p) H'
theorem ok_sof {f : Addr} {fd : FuncData} {k : Nat} (F : Fun K "signs_of" "signs_of" sSignsOf f fd) : FnOk P w K mg base CX0 (k + 1) f fd ["letters"] spSof := by
  refine F.ok scSignsOf (fun vs H Q E h => ?_) (fun cdv A outer s H vs Q E hr h => ?_)
  · obtain ⟨L, rfl, _⟩ := h
    rfl
  · obtain ⟨L, rfl, hL, q⟩ := h
    refine ⟨_, pss_one (ps_ret (pe_lc2 (own := [("letter", 1), ("sign", 2)]) (vs1 := [2]) (g := gName 1) (tt := tYes) (wi1 := iTup K (tTup (tCons (tVar 1) (tCons (tM0 (fun x xs H Q => ∃ a, x = .str a ∧ xs = [] ∧ a.length ≤ 5592405 ∧ Q (.str (Txt.upper a)) H) (tVar 1)) tNil)))) (g1 := gName 2) (tt1 := tYes) (te := tVar 2) rfl scSignsOf.nd (pi_str (pv 0))
      (blkOk_by (N := ["letters", "letter", "sign"]) (sc := defScope sSignsOf) (by decide +kernel)) (by decide) (fun _ _ _ _ _ => pg_name (i := 1) scSignsOf.nd rfl (Or.inl rfl)) (fun _ _ _ _ _ => pts_nil)
      (fun _ _ _ _ _ => pi_tup (pe_tup (pa_cons (pv 1) (pa_cons (pe_upper (pv 1)) pa_nil))))
      (fun _ _ _ _ _ => pg_name (i := 2) scSignsOf.nd rfl (Or.inl rfl)) (fun _ _ _ _ _ => pts_nil) (fun _ _ _ _ _ => pv 2))), ?_⟩
    refine ⟨_, rfl, _, rfl, fun D nD => ?_⟩
    refine ⟨fun i m H2 => m = L.length - i ∧ i ≤ L.length ∧ Same H H2 ∧ H2 D = some (.lst ((sg (L.take i)).map one)), ⟨_, rfl, Nat.zero_le _, same_new nD, upd_same⟩, ?_⟩
    rintro i m H2 ⟨rfl, hi, sm, hD⟩
    have w0 := walk_txt L
    by_cases hlt : i < L.length
    · have hlt' : i < (L.map fun c => tx [c]).length := by rw [List.length_map]; exact hlt
      refine .inr ⟨w0.goes i H2 hlt' trivial, fun H' => Same H H' ∧ H' D = some (.lst ((sg (L.take (i + 1))).map one)), fun H' h' => ⟨_, by omega, rfl, hlt, h'⟩, fun x H' y => ?_⟩
      obtain ⟨rfl, hx⟩ := w0.yields i H2 x H' hlt' trivial y
      rw [List.getElem?_map] at hx
      obtain ⟨c, hc⟩ : ∃ c, L[i]? = some c := ⟨_, List.getElem?_eq_getElem hlt⟩
      rw [hc] at hx
      obtain rfl : tx [c] = x := Option.some.inj hx
      have hcm := hL.2 c (List.mem_of_getElem? hc)
      refine ⟨rfl, ?_⟩
      dsimp only [tYes]
      rw [if_pos rfl]
      refine ⟨_, rfl, _, rfl, ⟨_, rfl⟩, _, rfl, rfl, asc1, (by show 2 ≤ sizeLine; decide), fun T nT => ?_⟩
      rw [upperM hcm]
      have hT : upd H' T (.tup [tx [c], tx [c - 32]]) T = some (.tup [one c, one (c - 32)]) := upd_same
      have sT : Same H' (upd H' T (.tup [tx [c], tx [c - 32]])) := same_new nT
      refine ⟨T, rfl, ⟨_, SqT.of hT⟩, ?_⟩
      have hll : (sg (L.take i)).length ≤ 200 := by
        rw [sg_len, List.length_take]
        have := hL.1
        omega
      refine ⟨fun j k H3 => k = 2 - j ∧ j ≤ 2 ∧ Same H H3 ∧ H3 T = some (.tup [one c, one (c - 32)]) ∧ H3 D = some (.lst ((sg (L.take i) ++ [c, c - 32].take j).map one)), ⟨_, rfl, by decide, sm.trans sT, hT, ?_⟩, ?_⟩
      · rw [sT _ _ hD]
        simp
      · rintro j k3 H3 ⟨rfl, hj, sm3, hT3, hD3⟩
        have w1 := walk_tup (K := K) (a := T) (xs := [one c, one (c - 32)])
        by_cases hj2 : j < 2
        · refine .inr ⟨w1.goes j H3 hj2 (SqT.of hT3), fun H' => Same H H' ∧ H' T = some (.tup [one c, one (c - 32)]) ∧ H' D = some (.lst ((sg (L.take i) ++ [c, c - 32].take (j + 1)).map one)), fun H' h' => ⟨_, by omega, rfl, hj2, h'⟩, fun x H4 y => ?_⟩
          obtain ⟨rfl, hx2⟩ := w1.yields j H3 x H4 hj2 (SqT.of hT3) y
          refine ⟨rfl, ?_⟩
          dsimp only
          rw [if_pos rfl]
          refine ⟨_, rfl, _, hD3, ?_, ?_, ?_, ?_⟩
          · rw [List.length_map, List.length_append]
            refine small1000 ?_
            have := List.length_take_le j [c, c - 32]
            have e2 : ([c, c - 32] : List Nat).length = 2 := rfl
            omega
          · intro b o e
            rw [upd_ne (ne_of_none e nD)]
            exact sm3 _ _ e
          · rw [upd_ne (ne_of hT3 hD3 (by intro z; cases z))]
            exact hT3
          · rw [upd_same]
            congr 2
            have hz : j = 0 ∨ j = 1 := by omega
            rcases hz with rfl | rfl
            · obtain rfl : one c = x := Option.some.inj hx2
              simp [one]
            · obtain rfl : one (c - 32) = x := Option.some.inj hx2
              simp [one]
        · have ej : j = 2 := by omega
          subst ej
          refine .inl ⟨w1.stops H3 (SqT.of hT3), sm3, ?_⟩
          rw [hD3, sg_more hc]
          rfl
    · have ei : i = L.length := by omega
      subst ei
      rw [List.take_length] at hD
      refine .inl ⟨?_, q H2 D sm nD hD⟩
      have z := w0.stops H2 trivial
      rw [List.length_map] at z
      exact z
/-! is_word -/
def isW (l L : List Nat) : Bool := l.all fun c => decide (c ∈ sg L)
def spIsW : Sp := fun vs H Q _ => ∃ l L : List Nat, vs = [tx l, tx L] ∧ l.length ≤ 1000 ∧ Lt L ∧ ∀ H', Same H H' → Q (.bl (isW l L)) H'
def nIn (l : List Nat) (v : V) : Int := match v with | .str z => Txt.count (SX.S l) z | _ => 0
theorem isW_sum {l L : List Nat} (hL : Lt L) : decide ((((sg L).map one).map (nIn l)).sum = (l.length : Nat)) = isW l L := by
  have e : ((sg L).map one).map (nIn l) = (sg L).map fun c => ((l.count c : Nat) : Int) := by
    rw [List.map_map]
    refine List.map_congr_left fun c _ => ?_
    show Txt.count (SX.S l) ⟨#[c]⟩ = _
    rw [Cnt.one]
  rw [e, Cnt.sumInt]
  have z := Cnt.all (sg_nodup hL.1.2 hL.2) l
  unfold isW
  rw [Bool.eq_iff_iff, decide_eq_true_eq, ← z]
  omega
theorem ok_isw {f fS : Addr} {fd fdS : FuncData} {k : Nat} (F : Fun K "is_word" "is_word" sIsWord f fd) (B : Bn mg) (FS : Fun K "signs_of" "signs_of" sSignsOf fS fdS) (bS : Binds K fdS ["letters"] []) (gS : mg "signs_of" = some (.ref fS)) :
    FnOk P w K mg base CX0 (k + 2) f fd ["word", "letters"] spIsW := by
  have GS : FnOk P w K mg base CX0 (k + 1) fS fdS ["letters"] spSof := ok_sof FS
  refine F.ok scIsWord (fun vs H Q E h => ?_) (fun cdv A outer s H vs Q E hr h => ?_)
  · obtain ⟨l, L, rfl, _⟩ := h
    rfl
  · obtain ⟨l, L, rfl, hl, hL, q⟩ := h
    refine ⟨_, pss_one (ps_ret (pe_cmpR op_eq (pe_callB (cr_sum rfl) (by rfl) B.sum boot_sum (pa_cons (pe_lc (own := [("sign", 2)]) (g := gName 2) (tt := tYes) rfl scIsWord.nd (pi_list (pe_call GS hr (by rfl) gS FS.kp bS .nil pass0 (pa_cons (pv 1) pa_nil)))
        (blkOk_by (N := ["word", "letters", "sign"]) (sc := defScope sIsWord) (by decide +kernel)) (fun _ _ _ _ _ => pg_name (i := 2) scIsWord.nd rfl (Or.inl rfl)) (fun _ _ _ _ _ => pts_nil)
        (fun _ _ _ _ _ => pe_m1 PySem.F.slot_str_count PySem.F.type_str_count mt_count (pv 0) (pv 2))) pa_nil)) (pe_callB call_len_str (by rfl) B.len PySem.boot_len (pa_cons (pv 0) pa_nil)) (nomark _))), ?_⟩
    refine ⟨_, rfl, L, rfl, hL, fun H1 p s1 np hp => ?_⟩
    refine ⟨p, rfl, ⟨_, SqL.of hp⟩, fun D nD => ?_⟩
    refine lc_pure (walk_list (K := K) (a := p) (xs := (sg L).map one)) (σ := [some (tx l), some (tx L), none]) (i := 2) (fun v => .int (nIn l v)) (fun _ => true) (by rw [List.length_map, sg_len]; exact small1000 (by have := hL.1.1; omega)) nD (fun H2 s2 => SqL.of (s2 _ _ hp)) (fun x H2 Q _ _ h => h) ?_ ?_
    · intro x H2 Q hx _ sm h
      obtain ⟨c, hc, rfl⟩ := List.mem_map.mp hx
      exact ⟨_, rfl, ⟨_, rfl⟩, _, rfl, _, _, rfl, rfl, h H2 (Same.refl _)⟩
    · intro H2 s2 hD
      refine ⟨D, ((sg L).map one).map (nIn l), rfl, SqL.of ?_, _, rfl, _, rfl, ?_, rfl, ?_⟩
      · rw [hD]
        congr 2
        rw [List.filter_eq_self.mpr (by simp), List.map_map, List.map_map, List.map_map]
        rfl
      · rw [tx_len]
        exact Nat.le_of_lt (small1000 hl)
      · have z := q H2 (s1.trans s2)
        rw [← isW_sum hL] at z
        have e : ∀ i j : Int, decide (V.int i = V.int j) = decide (i = j) := fun i j => by simp
        rw [tx_len, e]
        exact z
end
end KA
set_option maxRecDepth 100000
set_option maxHeartbeats 2000000
namespace KA
open PySem PySem.Spec PyProof.Rows L2
/-! list(text) -/
theorem vals_signs : ∀ (cs : List Nat) (us : List Value), cs.length = us.length → (∀ (j : Nat) (c : Nat) (v : Value), cs[j]? = some c → us[j]? = some v → ∃ t, v = .str ⟨#[c]⟩ t) → Vals (cs.map one) us
  | [], [], _, _ => .nil
  | c :: cs, v :: us, hl, h => by
    refine .cons ?_ (vals_signs cs us (by simpa using hl) fun j c' v' h1 h2 => h (j + 1) c' v' h1 h2)
    obtain ⟨t, e⟩ := h 0 c v rfl rfl
    rw [e]
    exact ⟨t, rfl⟩
theorem c_listS {X : Cx} (hc : X.calm = true) : CallR X (.type "list") (fun xs H Q => ∃ l : List Nat, xs = [tx l] ∧ l.length ≤ 1000 ∧ ∀ p, H p = none → Q (.ref p) (upd H p (.lst (l.map one)))) := by
  intro pins s σ H xs us Q I r h
  obtain ⟨l, rfl, hl, q⟩ := h
  obtain ⟨u, rfl, rx⟩ := vals1 r
  obtain ⟨t, rfl⟩ := rx
  have hsz : (SX.S l).cps.size ≤ sizeLine := asc_le hl
  refine PySem.call_list_str (I.ok.hd hc) (SX.S l) t (fun h' tk acc c' kp e it => ?_) hsz
  have hv : Vals (l.map one) acc.toList := by
    refine vals_signs l acc.toList ?_ fun j c v h1 h2 => ?_
    · have z := it.1
      simp only [List.size_toArray] at z
      have z2 : acc.toList.length = l.length := by simpa using z
      exact z2.symm
    · obtain ⟨c2, u, e1, e2⟩ := it.2 j v (by simpa using h2)
      have e3 : l[j]? = some c2 := by simpa using e1
      rw [h1] at e3
      cases e3
      exact ⟨u, e2⟩
  refine ⟨.ref s.heap.objs.size, _, I.laid (t' := tk) kp (Nat.le_refl _) (show ObjOk X.prog X.w _ h' _ (.lst (l.map one)) from ⟨by rw [List.length_map]; exact Nat.le_of_lt (small1000 hl), acc.toList, c', hv, by simpa using e⟩), rfl, q _ (I.hok.fresh (Nat.le_refl _))⟩
/-! the box goes on, all else stays, new things come -/
def BxGo (H H' : Hp) (b m : Addr) : Prop := Bx H' b m ∧ ∀ x o, x ≠ b → H x = some o → H' x = some o
theorem BxTo.go {H H' : Hp} {b m : Addr} (h : BxTo H H' b m) : BxGo H H' b m := ⟨h.1, fun x o hx e => (h.2 x hx).trans e⟩
theorem BxGo.trans {H H1 H2 : Hp} {b m : Addr} (x : BxGo H H1 b m) (y : BxGo H1 H2 b m) : BxGo H H2 b m := ⟨y.1, fun z o hz e => y.2 z o hz (x.2 z o hz e)⟩
theorem BxGo.refl {H : Hp} {b m : Addr} (x : Bx H b m) : BxGo H H b m := ⟨x, fun _ _ _ e => e⟩
theorem Bx.same {H H' : Hp} {b m : Addr} (x : Bx H b m) (s : Same H H') : Bx H' b m := by
  obtain ⟨ms, i, r, t, h1, h2, h3⟩ := x
  exact ⟨ms, i, r, t, s _ _ h1, s _ _ h2, h3⟩
theorem BxGo.of {H H' : Hp} {b m : Addr} (x : Bx H b m) (s : Same H H') : BxGo H H' b m := ⟨x.same s, fun z o _ e => s _ _ e⟩
theorem Bx.some {H : Hp} {b m : Addr} (x : Bx H b m) : ∃ o, H b = some o := by
  obtain ⟨ms, i, r, t, h1, _⟩ := x
  exact ⟨_, h1⟩
theorem Bx.ne {H : Hp} {b m p : Addr} (x : Bx H b m) (h : H p = none) : p ≠ b := fun e => by
  obtain ⟨o, z⟩ := x.some
  rw [← e, h] at z
  cases z
theorem Bx.neM {H : Hp} {b m p : Addr} (x : Bx H b m) (h : H p = none) : p ≠ m := fun e => by
  obtain ⟨ms, i, r, t, _, h1, _⟩ := x
  rw [← e, h] at h1
  cases h1
theorem Bx.upd {H : Hp} {b m p : Addr} {o : HO} (x : Bx H b m) (h1 : p ≠ b) (h2 : p ≠ m) : Bx (upd H p o) b m := by
  obtain ⟨ms, i, r, t, e1, e2, e3⟩ := x
  exact ⟨ms, i, r, t, by rw [upd_ne (Ne.symm h1)]; exact e1, by rw [upd_ne (Ne.symm h2)]; exact e2, e3⟩
/-- behind a step of the box a new thing stands -/
theorem BxGo.at {H H' : Hp} {b m p : Addr} {o : HO} (x : BxGo H H' b m) (hp : p ≠ b) (h : H p = some o) : H' p = some o := x.2 p o hp h
/-- an address that is new behind was new ahead -/
theorem BxGo.free {H H' : Hp} {b m p : Addr} (x : BxGo H H' b m) (h : H' p = none) : H p = none := by
  have hne := x.1.ne h
  cases e : H p with
  | none => rfl
  | some o => rw [x.2 p o hne e] at h; cases h
theorem menuS : Str.ofString "abmtxyz" = SX.S menu := by decide
theorem left_ne {F : List Nat} (h : F.length ≤ 2) : menu.filter (fun c => !decide (c ∈ F)) ≠ [] := by
  intro e
  have k : ∀ c ∈ menu, c ∈ F := fun c hc => by
    have z := List.filter_eq_nil_iff.mp e c hc
    simpa using z
  have k1 := k 97 (by decide)
  have k2 := k 98 (by decide)
  have k3 := k 109 (by decide)
  match F, h with
  | [], _ => cases k1
  | [a], _ =>
    have e1 : 97 = a := by simpa using k1
    have e2 : 98 = a := by simpa using k2
    omega
  | [a, c], _ =>
    have e1 : 97 = a ∨ 97 = c := by simpa using k1
    have e2 : 98 = a ∨ 98 = c := by simpa using k2
    have e3 : 109 = a ∨ 109 = c := by simpa using k3
    omega
section
variable {P : Program} {w : World} {K : PySem.W.Frag} {mg : Str → Option Value} {base : Heap}
/-! _law_letters -/
def spLet : Sp := fun vs H Q _ => ∃ (b m : Addr) (n : Nat), vs = [.ref b, .int n] ∧ Bx H b m ∧ 1 ≤ n ∧ n ≤ 3 ∧ ∀ L H', (L.length = n ∧ L.Nodup) → (∀ c ∈ L, c ∈ menu) → BxGo H H' b m → Q (tx L) H'
theorem ok_let {f fA : Addr} {fd fdA : FuncData} {k : Nat} (F : Fun K "_law_letters" "_law_letters" sLetters f fd) (B : Bn mg) (GA : FnOk P w K mg base CX0 (k + 2) fA fdA ["_law_box", "_law_some"] spAny) (kA : PySem.W.keepIn K (.ref fA) = true) (bA : Binds K fdA ["_law_box", "_law_some"] []) (gA : mg "_law_any" = some (.ref fA)) :
    FnOk P w K mg base CX0 (k + 3) f fd ["_law_box", "_law_many"] spLet := by
  refine F.ok scLetters (fun vs H Q E h => ?_) (fun cdv A outer s H vs Q E hr h => ?_)
  · obtain ⟨b, m, n, rfl, _⟩ := h
    rfl
  · obtain ⟨b, m, n, rfl, hB, h1, h3, q⟩ := h
    refine ⟨_, pss_cons (ps_set (i := 2) scLetters.nd rfl (.inr rfl) pe_str)
      (pss_cons (ps_for PassesOwn.never rfl (pi_range1 (by rfl) B.range (pa_cons (pv 1) pa_nil)) (pg_name (i := 3) scLetters.nd rfl (Or.inl rfl))
        (pss_cons (ps_setLc (i := 4) (own := [("_law_letter", 5)]) (g := gName 5) (tt := tTest (tOp (fun x y H Q => ∃ (c : Nat) (z : Str), x = .str ⟨#[c]⟩ ∧ y = .str z ∧ Q (.bl (!decide (c ∈ z.cps.toList))) H) (tVar 5) (tVar 2))) (te := tVar 5) rfl scLetters.nd rfl rfl (sw_true rfl rfl rfl (by decide +kernel)) (pi_str pe_str)
          (blkOk_by (N := ["_law_box", "_law_many", "_law_found", "_law_k", "_law_left", "_law_letter"]) (sc := defScope sLetters) (by decide +kernel)) (fun _ _ _ _ _ => pg_name (i := 5) scLetters.nd rfl (Or.inl rfl)) (fun _ _ _ _ _ => pts_one (pt_cmpR op_notIn_sign (pv 5) (pv 2) (by rfl)))
          (fun _ _ _ _ _ => pv 5))
        (pss_one (ps_set (i := 2) scLetters.nd rfl (.inr rfl) (pe_op op_add_str (pv 2) (pe_call GA hr (by rfl) gA kA bA .nil pass0 (pa_cons (pv 0) (pa_cons (pv 4) pa_nil))))))))
      (pss_one (ps_ret (pv 2)))), ?_⟩
    refine ⟨_, rfl, (n : Int), rfl, by omega, by omega, ?_⟩
    refine for_it (walk_range (lo := 0) (n := (n : Int).toNat)) (fun i σ H2 => ∃ (Fd : List Nat) (y3 y4 : Option V), σ = [some (.ref b), some (.int n), some (tx Fd), y3, y4, none] ∧ (Fd.length = i ∧ Fd.Nodup) ∧ (∀ c ∈ Fd, c ∈ menu) ∧ BxGo H H2 b m)
      ⟨[], none, none, ?_, ⟨rfl, List.nodup_nil⟩, (fun c hc => nomatch hc), .refl hB⟩ (fun _ _ _ _ _ => trivial) ?_ ?_
    · show [some (V.ref b), some (.int n), some (.str (Str.ofString "")), none, none, none] = _
      rw [e0S]
    · rintro i x σ H2 H2' hi ⟨Fd, y3, y4, rfl, ⟨hlen, hnd⟩, hmn, hgo⟩ ⟨rfl, rfl⟩
      refine ⟨_, rfl, fun D nD => ?_⟩
      rw [menuS]
      refine lc_pure (walk_txt menu) (σ := [some (.ref b), some (.int n), some (tx Fd), some (.int (0 + i)), y4, none]) (i := 5) id (fun v => match v with | .str z => !decide (z.cps.toList.headD 0 ∈ Fd) | _ => true) (by decide) nD (fun _ _ => trivial) ?_ ?_ ?_
      · intro x H3 Q hx _ h
        obtain ⟨c, hc, rfl⟩ := List.mem_map.mp hx
        exact ⟨_, rfl, _, rfl, c, _, rfl, rfl, _, rfl, by simpa using h⟩
      · intro x H3 Q hx _ _ h
        exact ⟨_, rfl, h H3 (Same.refl _)⟩
      · intro H3 s3 hD
        have bx3 : Bx H3 b m := hgo.1.same s3
        have hDb : D ≠ b := hgo.1.ne nD
        have eL : (((menu.map fun c => tx [c]).filter (fun v => match v with | .str z => !decide (z.cps.toList.headD 0 ∈ Fd) | _ => true)).map id) = (menu.filter (fun c => !decide (c ∈ Fd))).map one := by
          rw [List.map_id, List.filter_map]
          rfl
        rw [eL] at hD
        have hne := left_ne (F := Fd) (by rw [hlen]; omega)
        refine ⟨_, rfl, _, rfl, _, rfl, b, m, D, _, rfl, bx3, hD, hDb, (by simpa using hne), ?_, fun x H4 hx hT => ?_⟩
        · rw [List.length_map]
          have := List.length_filter_le (fun c => !decide (c ∈ Fd)) menu
          have e7 : menu.length = 7 := rfl
          omega
        · obtain ⟨c, hc, rfl⟩ := List.mem_map.mp hx
          have hcm : c ∈ menu := (List.mem_filter.mp hc).1
          refine ⟨_, _, rfl, rfl, ?_, Fd ++ [c], some (.int (0 + i)), some (.ref D), ?_, ?_, ?_, ?_⟩
          · rw [tx_len, tx_len]
            exact Nat.le_of_lt (small1000 (by simp; omega))
          · rw [SX.S_cat]
            rfl
          · refine ⟨by rw [List.length_append, hlen]; rfl, ?_⟩
            rw [List.nodup_append]
            refine ⟨hnd, List.nodup_cons.mpr ⟨by simp, List.nodup_nil⟩, fun a ha b hb e => ?_⟩
            have eb : b = c := by simpa using hb
            have hcF := (List.mem_filter.mp hc).2
            rw [e, eb] at ha
            simp [ha] at hcF
          · intro d hd
            rcases List.mem_append.mp hd with z | z
            · exact hmn d z
            · have e : d = c := by simpa using z
              rw [e]
              exact hcm
          · exact (hgo.trans (.of hgo.1 s3)).trans hT.go
    · rintro σ H2 ⟨Fd, y3, y4, rfl, ⟨hlen, hnd⟩, hmn, hgo⟩
      refine ⟨_, rfl, q Fd H2 ⟨?_, hnd⟩ hmn hgo⟩
      rw [hlen]
      omega
/-! _law_some_word -/
def spSome : Sp := fun vs H Q _ => ∃ (b m : Addr) (L : List Nat) (most : Nat), vs = [.ref b, tx L, .int most] ∧ Bx H b m ∧ Lt L ∧ L ≠ [] ∧ most ≤ 100 ∧ ∀ wd H', wd.length ≤ most → (∀ c ∈ wd, c ∈ sg L) → BxGo H H' b m → Q (tx wd) H'
theorem ok_some {f fA fD fS : Addr} {fd fdA fdD fdS : FuncData} {k : Nat} (F : Fun K "_law_some_word" "_law_some_word" sSome f fd) (B : Bn mg) (GA : FnOk P w K mg base CX0 (k + 2) fA fdA ["_law_box", "_law_some"] spAny) (kA : PySem.W.keepIn K (.ref fA) = true) (bA : Binds K fdA ["_law_box", "_law_some"] []) (gA : mg "_law_any" = some (.ref fA))
    (GD : FnOk P w K mg base CX0 (k + 1) fD fdD ["_law_box", "_law_many"] spDraw) (kD : PySem.W.keepIn K (.ref fD) = true) (bD : Binds K fdD ["_law_box", "_law_many"] []) (gD : mg "_law_draw" = some (.ref fD))
    (GS : FnOk P w K mg base CX0 (k + 1) fS fdS ["_law_letters_here"] spSigns) (kS : PySem.W.keepIn K (.ref fS) = true) (bS : Binds K fdS ["_law_letters_here"] []) (gS : mg "_law_signs" = some (.ref fS)) :
    FnOk P w K mg base CX0 (k + 3) f fd ["_law_box", "_law_letters_here", "_law_most"] spSome := by
  refine F.ok scSome (fun vs H Q E h => ?_) (fun cdv A outer s H vs Q E hr h => ?_)
  · obtain ⟨b, m, L, n, rfl, _⟩ := h
    rfl
  · obtain ⟨b, m, L, n, rfl, hB, hL, hne, hn, q⟩ := h
    have hr1 : Room (k + 1) (A.deeper (envOfC "_law_some_word" (defScope sSome) s.heap.objs.size f cdv)) := hr.mono (by omega)
    refine ⟨_, pss_cons (ps_set (i := 3) scSome.nd rfl (.inr rfl) (pe_call GS hr1 (by rfl) gS kS bS .nil pass0 (pa_cons (pv 1) pa_nil)))
      (pss_one (ps_ret (pe_join pe_str (pe_lc (own := [("_law_k", 4)]) (g := gName 4) (tt := tYes)
        (te := tCall spAny [] E0 (tCons (tVar 0) (tCons (tCB (fun xs H Q => ∃ l : List Nat, xs = [tx l] ∧ l.length ≤ 1000 ∧ ∀ p, H p = none → Q (.ref p) (upd H p (.lst (l.map one)))) (tCons (tVar 3) tNil)) tNil)))
        rfl scSome.nd (pi_range1 (by rfl) B.range (pa_cons (pe_call GD hr1 (by rfl) gD kD bD .nil pass0 (pa_cons (pv 0) (pa_cons (pe_op op_add (pv 2) pe_int) pa_nil))) pa_nil))
        (blkOk_by (N := ["_law_box", "_law_letters_here", "_law_most", "_law_signs_here", "_law_k"]) (sc := defScope sSome) (by decide +kernel)) (fun _ _ _ _ _ => pg_name (i := 4) scSome.nd rfl (Or.inl rfl)) (fun _ _ _ _ _ => pts_nil)
        (fun _ _ _ _ _ => pe_call GA hr (by rfl) gA kA bA .nil pass0 (pa_cons (pv 0) (pa_cons (pe_callTy (c_listS rfl) (by rfl) B.list boot_list (pa_cons (pv 3) pa_nil)) pa_nil))))))), ?_⟩
    refine ⟨_, rfl, L, rfl, hL, fun H1 s1 => ?_⟩
    refine ⟨⟨_, rfl⟩, _, rfl, _, rfl, _, _, rfl, rfl, b, m, _, rfl, hB.same s1, by omega, by omega, fun d H2 d0 d1 hT => ?_⟩
    refine ⟨d, rfl, by omega, by omega, fun D nD => ?_⟩
    have hDb : D ≠ b := hT.1.ne nD
    have hDm : D ≠ m := hT.1.neM nD
    have hgo : BxGo H H2 b m := (BxGo.of hB s1).trans hT.go
    have hn1 : H1 D = none := by rw [← hT.2 D hDb]; exact nD
    have hn0 : H D = none := s1.free hn1
    have hsl : (sg L).length ≤ 1000 := by rw [sg_len]; have := hL.1; omega
    refine lc_it (walk_range (lo := 0) (n := d.toNat)) (fun i H3 => ∃ wd : List Nat, wd.length = i ∧ (∀ c ∈ wd, c ∈ sg L) ∧ Bx H3 b m ∧ (∀ x o, x ≠ b → H x = some o → H3 x = some o) ∧ H3 D = some (.lst (wd.map one)))
      ⟨[], rfl, (fun c hc => nomatch hc), hgo.1.same (same_new nD), fun x o hx e => same_new nD _ _ (hgo.2 x o hx e), upd_same⟩ (fun _ _ _ _ => trivial) ?_ ?_
    · rintro i x H3 H3' hi ⟨wd, hl, hw, bx, kp, hD⟩ ⟨rfl, rfl⟩
      refine ⟨rfl, ?_⟩
      dsimp only [tYes]
      rw [if_pos rfl]
      refine ⟨_, rfl, _, rfl, sg L, rfl, hsl, fun p np => ?_⟩
      have sp : Same H3' (upd H3' p (.lst ((sg L).map one))) := same_new np
      refine ⟨b, m, p, _, rfl, bx.same sp, upd_same, bx.ne np, ?_, ?_, fun x H4 hx hT4 => ?_⟩
      · intro e
        have e2 := congrArg List.length e
        rw [List.length_map, sg_len] at e2
        have e3 : 0 < L.length := List.length_pos_iff.mpr hne
        have e4 : ([] : List V).length = 0 := rfl
        omega
      · rw [List.length_map]
        omega
      · obtain ⟨c, hc, rfl⟩ := List.mem_map.mp hx
        have hD4 : H4 D = some (.lst (wd.map one)) := (hT4.2 D hDb).trans (sp _ _ hD)
        have nDb : b ≠ D := fun e => hDb e.symm
        refine ⟨_, hD4, ?_, wd ++ [c], ?_, ?_, ?_, ?_, ?_⟩
        · rw [List.length_map, hl]
          exact small1000 (by omega)
        · rw [List.length_append, hl]
          rfl
        · intro e he
          rcases List.mem_append.mp he with z | z
          · exact hw e z
          · have z2 : e = c := by simpa using z
            rw [z2]
            exact hc
        · exact hT4.1.upd hDb hDm
        · intro x o hx e
          rw [upd_ne (ne_of_none e hn0)]
          rw [hT4.2 x hx]
          exact sp _ _ (kp x o hx e)
        · rw [upd_same, List.map_append]
          rfl
    · rintro H3 ⟨wd, hl, hw, bx, kp, hD⟩
      refine join_signs (X := (cxOf CX0 P w K mg base ["_law_box", "_law_letters_here", "_law_most", "_law_signs_here", "_law_k"] "_law_some_word" (defScope sSome) f cdv A outer s H E).nox) (l := wd) (by omega) hD (q wd H3 (by omega) hw ⟨bx, kp⟩)
end
end KA
set_option maxRecDepth 100000
set_option maxHeartbeats 2000000
namespace KA
open PySem PySem.Spec PyProof.Rows L2
def Flat (x : V) : Prop := (∃ i, x = .int i) ∨ (∃ z, x = .str z) ∨ (∃ b, x = .bl b)
/-- two values that bear the same data, at most n deep -/
def Eqd : Nat → Hp → V → V → Prop
  | 0, _, x, y => x = y ∧ Flat x
  | n + 1, H, x, y => (x = y ∧ Flat x) ∨ ∃ (p q : Addr) (xs ys : List V), x = .ref p ∧ y = .ref q ∧ xs.length = ys.length ∧ xs.length ≤ 1000 ∧
      ((H p = some (.lst xs) ∧ H q = some (.lst ys)) ∨ (H p = some (.tup xs) ∧ H q = some (.tup ys))) ∧ ∀ (i : Nat) (u v : V), xs[i]? = some u → ys[i]? = some v → Eqd n H u v
theorem Eqd.same {H H' : Hp} (s : Same H H') : ∀ {n : Nat} {x y : V}, Eqd n H x y → Eqd n H' x y := by
  intro n
  induction n with
  | zero => exact fun h => h
  | succ n ih =>
    rintro x y (h | ⟨p, q, xs, ys, e1, e2, e3, e4, e5, e6⟩)
    · exact .inl h
    · refine .inr ⟨p, q, xs, ys, e1, e2, e3, e4, ?_, fun i u v h1 h2 => ih (e6 i u v h1 h2)⟩
      rcases e5 with ⟨a, b⟩ | ⟨a, b⟩
      · exact .inl ⟨s _ _ a, s _ _ b⟩
      · exact .inr ⟨s _ _ a, s _ _ b⟩
theorem Eqd.flat {H : Hp} {x : V} {n : Nat} (h : Flat x) : Eqd n H x x := by
  cases n with
  | zero => exact ⟨rfl, h⟩
  | succ n => exact .inl ⟨rfl, h⟩
section
variable {P : Program} {w : World} {K : PySem.W.Frag} {mg : Str → Option Value} {base : Heap}
def spSame (n : Nat) : Sp := fun vs H Q _ => ∃ x y : V, vs = [x, y] ∧ Eqd n H x y ∧ ∀ H', Same H H' → Q (.bl true) H'
abbrev N3 : List Str := ["_law_found", "_law_due", "_law_k"]
theorem same_flat {f : Addr} {k : Nat} (B : Bn mg) {cdv : Value} {A : Around} {outer : List Env} {s : Shared} {H : Hp} {Q : VK} {E : XK} :
    ∃ t2, PSs (cxOf CX0 P w K mg base N3 "_law_same" (defScope sSame) f cdv A outer s H E).nox ((defBody sSame).drop 1) t2 ∧
      ∀ (x : V) (H' : Hp), Flat x → Q (.bl true) H' → t2 { nx := fun _ H' => Q .non H', rt := Q } [some x, some x, none] H' := by
  refine ⟨_, pss_cons (ps_if (PW.pt (pw_or (pt_cmpR op_isN (pv 1) pe_non (nomark _)) (pw_or1 (pt_cmpR op_isN (pv 0) pe_non (nomark _))))) pss_never pss_nil)
    (pss_cons (ps_if (PW.pt (pw_or
        (pt_cmpR op_ne (pe_callB call_isi (by rfl) B.isinst boot_isinstance (pa_cons (pv 1) (pa_cons (pe_bltn (v := .ty "bool") (by rfl) B.bool PyProof.Rows.boot_bool rfl) pa_nil))) (pe_callB call_isi (by rfl) B.isinst boot_isinstance (pa_cons (pv 0) (pa_cons (pe_bltn (v := .ty "bool") (by rfl) B.bool PyProof.Rows.boot_bool rfl) pa_nil))) (nomark _))
        (pw_or1 (pt_cmpR op_ne (pe_callB call_isi (by rfl) B.isinst boot_isinstance (pa_cons (pv 1) (pa_cons (pe_bltn (v := .ty "int") (by rfl) B.int PyProof.Rows.boot_int rfl) pa_nil))) (pe_callB call_isi (by rfl) B.isinst boot_isinstance (pa_cons (pv 0) (pa_cons (pe_bltn (v := .ty "int") (by rfl) B.int PyProof.Rows.boot_int rfl) pa_nil))) (nomark _))))) pss_never pss_nil)
    (pss_one (ps_ret (pe_and (pe_cmpR op_eq (pe_callB call_isi (by rfl) B.isinst boot_isinstance (pa_cons (pv 1) (pa_cons (pe_bltn (v := .ty "str") (by rfl) B.str PyProof.Rows.boot_str rfl) pa_nil))) (pe_callB call_isi (by rfl) B.isinst boot_isinstance (pa_cons (pv 0) (pa_cons (pe_bltn (v := .ty "str") (by rfl) B.str PyProof.Rows.boot_str rfl) pa_nil))) (nomark _))
      (pe_one (pe_cmpR op_eq (pv 0) (pv 1) (nomark _))))))), fun x H' hx q => ?_⟩
  rcases hx with ⟨i, rfl⟩ | ⟨z, rfl⟩ | ⟨b, rfl⟩
  · refine ⟨_, rfl, rfl, false, rfl, iteF ⟨_, rfl, rfl, false, rfl, iteF ?_⟩⟩
    refine ⟨_, rfl, _, _, _, _, false, rfl, .ty _, .base (.int i), kit_ty (by decide +kernel), _, rfl, _, _, _, _, false, rfl, .ty _, .base (.int i), kit_ty (by decide +kernel), rfl, false, rfl, iteF ?_⟩
    refine ⟨_, rfl, _, _, _, _, true, rfl, .ty _, .base (.int i), kit_ty (by decide +kernel), _, rfl, _, _, _, _, true, rfl, .ty _, .base (.int i), kit_ty (by decide +kernel), rfl, false, rfl, iteF ?_⟩
    refine ⟨_, rfl, _, _, _, _, false, rfl, .ty _, .base (.int i), kit_ty (by decide +kernel), _, rfl, _, _, _, _, false, rfl, .ty _, .base (.int i), kit_ty (by decide +kernel), rfl, true, rfl, iteT ?_⟩
    refine ⟨_, rfl, _, rfl, rfl, ?_⟩
    rw [decide_eq_true rfl]
    exact q
  · refine ⟨_, rfl, rfl, false, rfl, iteF ⟨_, rfl, rfl, false, rfl, iteF ?_⟩⟩
    refine ⟨_, rfl, _, _, _, _, false, rfl, .ty _, .base (.str z), kit_ty (by decide +kernel), _, rfl, _, _, _, _, false, rfl, .ty _, .base (.str z), kit_ty (by decide +kernel), rfl, false, rfl, iteF ?_⟩
    refine ⟨_, rfl, _, _, _, _, false, rfl, .ty _, .base (.str z), kit_ty (by decide +kernel), _, rfl, _, _, _, _, false, rfl, .ty _, .base (.str z), kit_ty (by decide +kernel), rfl, false, rfl, iteF ?_⟩
    refine ⟨_, rfl, _, _, _, _, true, rfl, .ty _, .base (.str z), kit_ty (by decide +kernel), _, rfl, _, _, _, _, true, rfl, .ty _, .base (.str z), kit_ty (by decide +kernel), rfl, true, rfl, iteT ?_⟩
    refine ⟨_, rfl, _, rfl, rfl, ?_⟩
    rw [decide_eq_true rfl]
    exact q
  · refine ⟨_, rfl, rfl, false, rfl, iteF ⟨_, rfl, rfl, false, rfl, iteF ?_⟩⟩
    refine ⟨_, rfl, _, _, _, _, true, rfl, .ty _, .base (.bl b), kit_ty (by decide +kernel), _, rfl, _, _, _, _, true, rfl, .ty _, .base (.bl b), kit_ty (by decide +kernel), rfl, false, rfl, iteF ?_⟩
    refine ⟨_, rfl, _, _, _, _, true, rfl, .ty _, .base (.bl b), kit_ty (by decide +kernel), _, rfl, _, _, _, _, true, rfl, .ty _, .base (.bl b), kit_ty (by decide +kernel), rfl, false, rfl, iteF ?_⟩
    refine ⟨_, rfl, _, _, _, _, false, rfl, .ty _, .base (.bl b), kit_ty (by decide +kernel), _, rfl, _, _, _, _, false, rfl, .ty _, .base (.bl b), kit_ty (by decide +kernel), rfl, true, rfl, iteT ?_⟩
    refine ⟨_, rfl, _, rfl, rfl, ?_⟩
    rw [decide_eq_true rfl]
    exact q
theorem ty2 {t : Value} {b1 b2 b : Bool} (h1 : PySem.W.kitOne K t (.type "list") = some b1) (h2 : PySem.W.kitOne K t (.type "tuple") = some b2) (hb : b = (b1 || b2)) : PySem.W.kitAny K t [.type "list", .type "tuple"] = some b := by
  subst hb
  refine kitAny_cons h1 (fun e => ?_) (fun e => by rw [e]; rfl)
  subst e
  show PySem.W.kitAny K t [.type "tuple"] = some b2
  exact kitAny_cons h2 (fun e2 => by rw [e2]; rfl) (fun e2 => e2)
theorem ok_same {f : Addr} {fd : FuncData} (F : Fun K "_law_same" "_law_same" sSame f fd) (B : Bn mg) (b0 : Binds K fd ["_law_found", "_law_due"] []) (g0 : mg "_law_same" = some (.ref f)) :
    ∀ n : Nat, FnOk P w K mg base CX0 (n + 1) f fd ["_law_found", "_law_due"] (spSame n) := by
  intro n
  induction n with
  | zero =>
    refine F.ok scSame (fun vs H Q E h => ?_) (fun cdv A outer s H vs Q E hr h => ?_)
    · obtain ⟨x, y, rfl, _⟩ := h
      rfl
    · obtain ⟨x, y, rfl, ⟨rfl, hx⟩, q⟩ := h
      obtain ⟨t2, P2, R2⟩ := same_flat (P := P) (w := w) (K := K) (base := base) (f := f) (k := 0) B (cdv := cdv) (A := A) (outer := outer) (s := s) (H := H) (Q := Q) (E := E)
      refine ⟨_, pss_cons (ps_if (pt_val (pe_callB call_isiT (by rfl) B.isinst boot_isinstance (pa_cons (pv 1) (pa_cons (pe_tup (pa_cons (pe_bltn (v := .ty "list") (by rfl) B.list PyProof.Rows.boot_list rfl) (pa_cons (pe_bltn (v := .ty "tuple") (by rfl) B.tuple PyProof.Rows.boot_tuple rfl) pa_nil))) pa_nil)))) pss_never pss_nil) P2, ?_⟩
      refine ⟨_, rfl, (by show 2 ≤ sizeLine; decide), fun T nT => ?_⟩
      have cl : Paired ClsV [V.ty "list", V.ty "tuple"] [.type "list", .type "tuple"] := .cons (.ty _) (.cons (.ty _) .nil)
      have fin := R2 x (upd H T (.tup [.ty "list", .ty "tuple"])) hx (q _ (same_new nT))
      rcases hx with ⟨i, rfl⟩ | ⟨z, rfl⟩ | ⟨b, rfl⟩
      · exact ⟨_, T, _, _, _, false, rfl, upd_same, cl, .base (.int i), ty2 (kit_ty (r := false) (by decide +kernel)) (kit_ty (r := false) (by decide +kernel)) rfl, _, rfl, iteF fin⟩
      · exact ⟨_, T, _, _, _, false, rfl, upd_same, cl, .base (.str z), ty2 (kit_ty (r := false) (by decide +kernel)) (kit_ty (r := false) (by decide +kernel)) rfl, _, rfl, iteF fin⟩
      · exact ⟨_, T, _, _, _, false, rfl, upd_same, cl, .base (.bl b), ty2 (kit_ty (r := false) (by decide +kernel)) (kit_ty (r := false) (by decide +kernel)) rfl, _, rfl, iteF fin⟩
  | succ n ih =>
    refine F.ok scSame (fun vs H Q E h => ?_) (fun cdv A outer s H vs Q E hr h => ?_)
    · obtain ⟨x, y, rfl, _⟩ := h
      rfl
    · obtain ⟨x, y, rfl, hE, q⟩ := h
      obtain ⟨t2, P2, R2⟩ := same_flat (P := P) (w := w) (K := K) (base := base) (f := f) (k := 0) B (cdv := cdv) (A := A) (outer := outer) (s := s) (H := H) (Q := Q) (E := E)
      refine ⟨_, pss_cons (ps_if (pt_val (pe_callB call_isiT (by rfl) B.isinst boot_isinstance (pa_cons (pv 1) (pa_cons (pe_tup (pa_cons (pe_bltn (v := .ty "list") (by rfl) B.list PyProof.Rows.boot_list rfl) (pa_cons (pe_bltn (v := .ty "tuple") (by rfl) B.tuple PyProof.Rows.boot_tuple rfl) pa_nil))) pa_nil))))
        (pss_cons (ps_if (PW.pt (pw_or
          (pt_cmpR op_ne (pe_callB call_isi (by rfl) B.isinst boot_isinstance (pa_cons (pv 0) (pa_cons (pe_bltn (v := .ty "list") (by rfl) B.list PyProof.Rows.boot_list rfl) pa_nil))) (pe_callB call_isi (by rfl) B.isinst boot_isinstance (pa_cons (pv 1) (pa_cons (pe_bltn (v := .ty "list") (by rfl) B.list PyProof.Rows.boot_list rfl) pa_nil))) (nomark _))
          (pw_or1 (pt_cmpR op_ne (pe_callB call_isi (by rfl) B.isinst boot_isinstance (pa_cons (pv 0) (pa_cons (pe_bltn (v := .ty "tuple") (by rfl) B.tuple PyProof.Rows.boot_tuple rfl) pa_nil))) (pe_callB call_isi (by rfl) B.isinst boot_isinstance (pa_cons (pv 1) (pa_cons (pe_bltn (v := .ty "tuple") (by rfl) B.tuple PyProof.Rows.boot_tuple rfl) pa_nil))) (nomark _))))) pss_never pss_nil)
        (pss_one (ps_ret (pe_and (pe_cmpR op_eq (pe_callB call_len_seq (by rfl) B.len PySem.boot_len (pa_cons (pv 0) pa_nil)) (pe_callB call_len_seq (by rfl) B.len PySem.boot_len (pa_cons (pv 1) pa_nil)) (nomark _))
          (pe_one (pe_callB (cr_all rfl) (by rfl) B.all boot_all (pa_cons (pe_lc (own := [("_law_k", 2)]) (g := gName 2) (tt := tYes)
            (te := tCall (spSame n) [] E0 (tCons (tOp (rIx K) (tVar 0) (tVar 2)) (tCons (tOp (rIx K) (tVar 1) (tVar 2)) tNil)))
            rfl scSame.nd (pi_range1 (by rfl) B.range (pa_cons (pe_callB call_len_seq (by rfl) B.len PySem.boot_len (pa_cons (pv 1) pa_nil)) pa_nil))
            (blkOk_by (N := N3) (sc := defScope sSame) (by decide +kernel)) (fun _ _ _ _ _ => pg_name (i := 2) scSame.nd rfl (Or.inl rfl)) (fun _ _ _ _ _ => pts_nil)
            (fun _ _ _ _ _ => pe_call ih hr (by rfl) g0 F.kp b0 .nil pass0 (pa_cons (pe_ix ix_seq (pv 0) (pv 2) (fun _ _ => rfl)) (pa_cons (pe_ix ix_seq (pv 1) (pv 2) (fun _ _ => rfl)) pa_nil)))) pa_nil))))))) pss_nil) P2, ?_⟩
      refine ⟨_, rfl, (by show 2 ≤ sizeLine; decide), fun T nT => ?_⟩
      have cl : Paired ClsV [V.ty "list", V.ty "tuple"] [.type "list", .type "tuple"] := .cons (.ty _) (.cons (.ty _) .nil)
      have sT : Same H (upd H T (.tup [.ty "list", .ty "tuple"])) := same_new nT
      rcases hE with ⟨rfl, hx⟩ | ⟨p, p2, xs, ys, rfl, rfl, hl, hl2, hp, hi⟩
      · have fin := R2 x (upd H T (.tup [.ty "list", .ty "tuple"])) hx (q _ sT)
        rcases hx with ⟨i, rfl⟩ | ⟨z, rfl⟩ | ⟨b, rfl⟩
        · exact ⟨_, T, _, _, _, false, rfl, upd_same, cl, .base (.int i), ty2 (kit_ty (r := false) (by decide +kernel)) (kit_ty (r := false) (by decide +kernel)) rfl, _, rfl, iteF fin⟩
        · exact ⟨_, T, _, _, _, false, rfl, upd_same, cl, .base (.str z), ty2 (kit_ty (r := false) (by decide +kernel)) (kit_ty (r := false) (by decide +kernel)) rfl, _, rfl, iteF fin⟩
        · exact ⟨_, T, _, _, _, false, rfl, upd_same, cl, .base (.bl b), ty2 (kit_ty (r := false) (by decide +kernel)) (kit_ty (r := false) (by decide +kernel)) rfl, _, rfl, iteF fin⟩
      · have hlen : (xs.length : Int) = (ys.length : Int) := by rw [hl]
        -- the list part, for lists and for tuples
        have key : ∀ H1, Same H H1 → (SqL K H1 p xs ∨ SqT K H1 p xs) → (SqL K H1 p2 ys ∨ SqT K H1 p2 ys) → (∀ H2, Same H1 H2 → (SqL K H2 p xs ∧ SqL K H2 p2 ys) ∨ (SqT K H2 p xs ∧ SqT K H2 p2 ys)) →
            tRet (tAndV (tOp rEq (tCB (fun xs H Q => ∃ p ys, xs = [.ref p] ∧ (SqL K H p ys ∨ SqT K H p ys) ∧ Q (.int ys.length) H) (tCons (tVar 0) tNil)) (tCB (fun xs H Q => ∃ p ys, xs = [.ref p] ∧ (SqL K H p ys ∨ SqT K H p ys) ∧ Q (.int ys.length) H) (tCons (tVar 1) tNil)))
              (tCB (rAll K) (tCons (tLc (iRng1 (tCons (tCB (fun xs H Q => ∃ p ys, xs = [.ref p] ∧ (SqL K H p ys ∨ SqT K H p ys) ∧ Q (.int ys.length) H) (tCons (tVar 1) tNil)) tNil)) (gName 2) tYes
                (tCall (spSame n) [] E0 (tCons (tOp (rIx K) (tVar 0) (tVar 2)) (tCons (tOp (rIx K) (tVar 1) (tVar 2)) tNil))) [2]) tNil))) { nx := fun _ H' => Q .non H', rt := Q } [some (.ref p), some (.ref p2), none] H1 := by
          intro H1 s1 hp1 hp2 hall
          refine ⟨_, rfl, p, xs, rfl, hp1, _, rfl, p2, ys, rfl, hp2, rfl, true, ?_, iteT ?_⟩
          · rw [hlen]
            exact congrArg V.bl (decide_eq_true rfl)
          · refine ⟨_, rfl, p2, ys, rfl, hp2, _, rfl, by omega, by omega, fun D nD => ?_⟩
            rw [show ((ys.length : Int)).toNat = ys.length by omega]
            refine lc_it (walk_range (lo := 0) (n := ys.length)) (fun i H2 => Same H1 H2 ∧ H2 D = some (.lst ((List.replicate i true).map V.bl))) ⟨same_new nD, upd_same⟩ (fun _ _ _ _ => trivial) ?_ ?_
            · rintro i x H2 H2' hi2 ⟨s2, hD⟩ ⟨rfl, rfl⟩
              refine ⟨rfl, ?_⟩
              dsimp only [tYes]
              rw [if_pos rfl]
              have hx : i < xs.length := by omega
              have gx : xs[i]? = some xs[i] := List.getElem?_eq_getElem hx
              have gy : ys[i]? = some ys[i] := List.getElem?_eq_getElem hi2
              have ei : (0 : Int) + (i : Int) = ((i : Nat) : Int) := by omega
              have ax : atI xs (0 + (i : Int)) = some xs[i] := by rw [ei]; exact atI_nat gx
              have ay : atI ys (0 + (i : Int)) = some ys[i] := by rw [ei]; exact atI_nat gy
              have eq := (hi i _ _ gx gy).same (s1.trans s2)
              have fin : ∀ H3, Same H2' H3 → ∃ acc, H3 D = some (.lst acc) ∧ acc.length < sizeLine ∧ (Same H1 (upd H3 D (.lst (acc ++ [.bl true]))) ∧ upd H3 D (.lst (acc ++ [.bl true])) D = some (.lst ((List.replicate (i + 1) true).map V.bl))) := by
                intro H3 s3
                refine ⟨_, s3 _ _ hD, ?_, ?_, ?_⟩
                · rw [List.length_map, List.length_replicate]
                  exact small1000 (by omega)
                · intro b o e
                  rw [upd_ne (ne_of_none e nD)]
                  exact s3 _ _ (s2 _ _ e)
                · rw [upd_same, List.replicate_succ', List.map_append]
                  rfl
              rcases hall H2' s2 with ⟨z1, z2⟩ | ⟨z1, z2⟩
              · exact ⟨_, rfl, _, rfl, .inl ⟨p, xs, _, _, rfl, rfl, z1, ax, _, rfl, _, rfl, .inl ⟨p2, ys, _, _, rfl, rfl, z2, ay, _, _, rfl, eq, fin⟩⟩⟩
              · exact ⟨_, rfl, _, rfl, .inr (.inl ⟨p, xs, _, _, rfl, rfl, z1, ax, _, rfl, _, rfl, .inr (.inl ⟨p2, ys, _, _, rfl, rfl, z2, ay, _, _, rfl, eq, fin⟩)⟩)⟩
            · rintro H2 ⟨s2, hD⟩
              refine ⟨D, List.replicate ys.length true, rfl, SqL.of hD, ?_⟩
              have e : (List.replicate ys.length true).all id = true := by
                rw [List.all_eq_true]
                intro b hb
                exact List.eq_of_mem_replicate hb
              rw [e]
              exact q H2 (s1.trans s2)
        rcases hp with ⟨h1, h2⟩ | ⟨h1, h2⟩
        · refine ⟨_, T, _, _, _, true, rfl, upd_same, cl, .base (.lst (sT _ _ h2)), ty2 (kit_ty (r := true) (by decide +kernel)) (kit_ty (r := false) (by decide +kernel)) rfl, _, rfl, iteT ?_⟩
          refine ⟨_, rfl, _, _, _, _, true, rfl, .ty _, .base (.lst (sT _ _ h1)), kit_ty (by decide +kernel), _, rfl, _, _, _, _, true, rfl, .ty _, .base (.lst (sT _ _ h2)), kit_ty (by decide +kernel), rfl, false, rfl, iteF ?_⟩
          refine ⟨_, rfl, _, _, _, _, false, rfl, .ty _, .base (.lst (sT _ _ h1)), kit_ty (by decide +kernel), _, rfl, _, _, _, _, false, rfl, .ty _, .base (.lst (sT _ _ h2)), kit_ty (by decide +kernel), rfl, false, rfl, iteF ?_⟩
          exact key _ sT (.inl (SqL.of (sT _ _ h1))) (.inl (SqL.of (sT _ _ h2))) fun H2 s2 => .inl ⟨SqL.of (s2 _ _ (sT _ _ h1)), SqL.of (s2 _ _ (sT _ _ h2))⟩
        · refine ⟨_, T, _, _, _, true, rfl, upd_same, cl, .base (.tup (sT _ _ h2)), ty2 (kit_ty (r := false) (by decide +kernel)) (kit_ty (r := true) (by decide +kernel)) rfl, _, rfl, iteT ?_⟩
          refine ⟨_, rfl, _, _, _, _, false, rfl, .ty _, .base (.tup (sT _ _ h1)), kit_ty (by decide +kernel), _, rfl, _, _, _, _, false, rfl, .ty _, .base (.tup (sT _ _ h2)), kit_ty (by decide +kernel), rfl, false, rfl, iteF ?_⟩
          refine ⟨_, rfl, _, _, _, _, true, rfl, .ty _, .base (.tup (sT _ _ h1)), kit_ty (by decide +kernel), _, rfl, _, _, _, _, true, rfl, .ty _, .base (.tup (sT _ _ h2)), kit_ty (by decide +kernel), rfl, false, rfl, iteF ?_⟩
          exact key _ sT (.inr (SqT.of (sT _ _ h1))) (.inr (SqT.of (sT _ _ h2))) fun H2 s2 => .inr ⟨SqT.of (s2 _ _ (sT _ _ h1)), SqT.of (s2 _ _ (sT _ _ h2))⟩
end
end KA
set_option maxRecDepth 100000
set_option maxHeartbeats 2000000
namespace KA
open PySem PySem.Spec PyProof.Rows L2
section
variable {P : Program} {w : World} {K : PySem.W.Frag} {mg : Str → Option Value} {base : Heap}
/-! check_words -/
/-! counts -/
def spCof : Sp := fun vs H Q _ => ∃ (l L : List Nat), vs = [tx l, tx L] ∧ Lt L ∧ ∀ H' p, Same H H' → H p = none → H' p = some (.tup (cn l L)) → Q (.ref p) H'
theorem ok_cof {f : Addr} {fd : FuncData} {k : Nat} (F : Fun K "counts_of" "counts_of" sCountsOf f fd) (B : Bn mg) : FnOk P w K mg base CX0 (k + 1) f fd ["word", "letters"] spCof := by
  refine F.ok scCountsOf (fun vs H Q E h => ?_) (fun cdv A outer s H vs Q E hr h => ?_)
  · obtain ⟨l, L, rfl, _⟩ := h
    rfl
  · obtain ⟨l, L, rfl, hL, q⟩ := h
    refine ⟨_, pss_one (ps_ret (pe_callTy call_tuple_of (by rfl) B.tuple boot_tuple (pa_cons (pe_lc (own := [("letter", 2)]) (g := gName 2) (tt := tYes) rfl scCountsOf.nd (pi_str (pv 1))
      (blkOk_by (N := ["word", "letters", "letter"]) (sc := defScope sCountsOf) (by decide +kernel)) (fun _ _ _ _ _ => pg_name (i := 2) scCountsOf.nd rfl (Or.inl rfl)) (fun _ _ _ _ _ => pts_nil)
      (fun _ _ _ _ _ => pe_op op_sub (pe_m1 PySem.F.slot_str_count PySem.F.type_str_count mt_count (pv 0) (pv 2)) (pe_m1 PySem.F.slot_str_count PySem.F.type_str_count mt_count (pv 0) (pe_upper (pv 2))))) pa_nil))), ?_⟩
    refine ⟨_, rfl, _, rfl, fun D nD => ?_⟩
    refine lc_pure (walk_txt L) (σ := [some (tx l), some (tx L), none]) (i := 2) (fun v => match v with | .str z => .int (Txt.count (SX.S l) z - Txt.count (SX.S l) (Txt.upper z)) | v => v) (fun _ => true) (by rw [List.length_map]; exact small1000 (by have := hL.1; omega)) nD (fun _ _ => trivial) (fun x H2 Q _ _ h => h) ?_ ?_
    · intro x H2 Q hx _ _ h
      obtain ⟨c, hc, rfl⟩ := List.mem_map.mp hx
      exact ⟨_, rfl, ⟨_, rfl⟩, _, rfl, _, _, rfl, rfl, _, rfl, ⟨_, rfl⟩, _, rfl, ⟨_, rfl⟩, _, rfl, rfl, asc1, _, _, rfl, rfl, _, _, rfl, rfl, h H2 (Same.refl _)⟩
    · intro H2 s2 hD
      refine ⟨D, _, rfl, .inl ⟨SqL.of hD, fun p2 np2 => ?_⟩⟩
      have e : ((L.map fun c => tx [c]).filter fun _ => true).map (fun v => match v with | .str z => .int (Txt.count (SX.S l) z - Txt.count (SX.S l) (Txt.upper z)) | v => v) = cn l L := by
        rw [List.filter_eq_self.mpr (by simp), List.map_map]
        refine List.map_congr_left fun c hc => ?_
        show V.int (Txt.count (SX.S l) (SX.S [c]) - Txt.count (SX.S l) (Txt.upper (SX.S [c]))) = _
        rw [upperM (hL.2 c hc)]
      rw [e]
      exact q _ p2 (s2.trans (same_new np2)) (s2.free np2) upd_same
end
end KA
set_option maxRecDepth 100000
set_option maxHeartbeats 4000000
namespace KA
open PySem PySem.Spec PyProof.Rows L2
abbrev sRWord : Stmt := top 25
abbrev sRPhrase : Stmt := top 26
abbrev sRFactor : Stmt := top 27
abbrev sRAtom : Stmt := top 28
abbrev sRGroup : Stmt := top 29
abbrev sRPair : Stmt := top 30
abbrev sRExp : Stmt := top 31
abbrev sBegins : Stmt := top 32
abbrev sMark : Stmt := top 33
abbrev sSpaces : Stmt := top 34
abbrev sChkM : Stmt := top 35
abbrev sNoDigit : Stmt := top 36
abbrev sPower : Stmt := top 37
abbrev sCut : Stmt := top 38
abbrev sBack : Stmt := top 74
abbrev sGone : Stmt := top 76
abbrev sSpace : Stmt := top 77
abbrev sLoose : Stmt := top 78
theorem scBack : FnScope ["_law_sign"] ["_law_sign"] (defScope sBack) := ⟨rfl, rfl, rfl, by decide +kernel, rfl, by decide +kernel, by decide +kernel⟩
theorem scGone : FnScope ["_law_one", "_law_sign"] ["_law_one"] (defScope sGone) := ⟨rfl, rfl, rfl, by decide +kernel, rfl, by decide +kernel, by decide +kernel⟩
theorem scRWord : FnScope ["text", "letters", "word", "at"] ["text", "letters"] (defScope sRWord) := ⟨rfl, rfl, rfl, by decide +kernel, rfl, by decide +kernel, by decide +kernel⟩
theorem scRPhrase : FnScope ["text", "signs", "at", "depth", "word", "factor"] ["text", "signs", "at", "depth"] (defScope sRPhrase) := ⟨rfl, rfl, rfl, by decide +kernel, rfl, by decide +kernel, by decide +kernel⟩
theorem scRFactor : FnScope ["text", "signs", "at", "depth", "word", "exponent"] ["text", "signs", "at", "depth"] (defScope sRFactor) := ⟨rfl, rfl, rfl, by decide +kernel, rfl, by decide +kernel, by decide +kernel⟩
theorem scRAtom : FnScope ["text", "signs", "at", "depth", "mark"] ["text", "signs", "at", "depth"] (defScope sRAtom) := ⟨rfl, rfl, rfl, by decide +kernel, rfl, by decide +kernel, by decide +kernel⟩
theorem scRGroup : FnScope ["text", "signs", "at", "depth", "word"] ["text", "signs", "at", "depth"] (defScope sRGroup) := ⟨rfl, rfl, rfl, by decide +kernel, rfl, by decide +kernel, by decide +kernel⟩
theorem scRPair : FnScope ["text", "signs", "at", "depth", "one", "other"] ["text", "signs", "at", "depth"] (defScope sRPair) := ⟨rfl, rfl, rfl, by decide +kernel, rfl, by decide +kernel, by decide +kernel⟩
theorem scRExp : FnScope ["text", "at", "minus", "begin", "first", "end", "number"] ["text", "at"] (defScope sRExp) := ⟨rfl, rfl, rfl, by decide +kernel, rfl, by decide +kernel, by decide +kernel⟩
theorem scBegins : FnScope ["text", "signs", "at", "depth", "mark"] ["text", "signs", "at", "depth"] (defScope sBegins) := ⟨rfl, rfl, rfl, by decide +kernel, rfl, by decide +kernel, by decide +kernel⟩
theorem scMark : FnScope ["text", "at"] ["text", "at"] (defScope sMark) := ⟨rfl, rfl, rfl, by decide +kernel, rfl, by decide +kernel, by decide +kernel⟩
theorem scSpaces : FnScope ["text", "at"] ["text", "at"] (defScope sSpaces) := ⟨rfl, rfl, rfl, by decide +kernel, rfl, by decide +kernel, by decide +kernel⟩
theorem scChkM : FnScope ["text", "at", "mark"] ["text", "at", "mark"] (defScope sChkM) := ⟨rfl, rfl, rfl, by decide +kernel, rfl, by decide +kernel, by decide +kernel⟩
theorem scNoDigit : FnScope ["text", "at"] ["text", "at"] (defScope sNoDigit) := ⟨rfl, rfl, rfl, by decide +kernel, rfl, by decide +kernel, by decide +kernel⟩
theorem scPower : FnScope ["word", "exponent"] ["word", "exponent"] (defScope sPower) := ⟨rfl, rfl, rfl, by decide +kernel, rfl, by decide +kernel, by decide +kernel⟩
theorem scCut : FnScope ["word"] ["word"] (defScope sCut) := ⟨rfl, rfl, rfl, by decide +kernel, rfl, by decide +kernel, by decide +kernel⟩
end KA
set_option maxRecDepth 100000
set_option maxHeartbeats 4000000
namespace KA
open PySem PySem.Spec PyProof.Rows L2
section
variable {P : Program} {w : World} {K : PySem.W.Frag} {mg : Str → Option Value} {base : Heap}
def spBack : Sp := fun vs H Q _ => ∃ c : Nat, vs = [tx [c]] ∧ c < 128 ∧ Q (tx [sw c]) H
theorem ok_back {f : Addr} {fd : FuncData} {k : Nat} (F : Fun K "_law_back" "_law_back" sBack f fd) : FnOk P w K mg base CX0 (k + 1) f fd ["_law_sign"] spBack := by
  refine F.ok scBack (fun vs H Q E h => ?_) (fun cdv A outer s H vs Q E hr h => ?_)
  · obtain ⟨l, rfl, _⟩ := h
    rfl
  · obtain ⟨c, rfl, hc, q⟩ := h
    refine ⟨_, pss_one (ps_ret (pe_ifExp (pt_cmpR op_eq (pv 0) (pe_lower (pv 0)) (nomark _)) (pe_upper (pv 0)) (pe_lower (pv 0)))), ?_⟩
    refine ⟨_, rfl, _, rfl, ⟨_, rfl⟩, _, rfl, rfl, asc1, rfl, _, rfl, ?_⟩
    rw [lower1 hc]
    refine ite2 (fun e => ?_) (fun e => ?_)
    · have e1 : c = lo1 c := by
        have z : tx [c] = tx [lo1 c] := of_decide_eq_true e
        have z2 := SX.S_inj (V.str.inj z)
        simpa using z2
      refine ⟨_, rfl, ⟨_, rfl⟩, _, rfl, rfl, asc1, ?_⟩
      rw [upper1 hc]
      have e2 : sw c = up1 c := by
        unfold sw up1
        unfold lo1 at e1
        repeat' split
        all_goals split at e1
        all_goals omega
      rw [← e2]
      exact q
    · have e1 : c ≠ lo1 c := fun z => e (by rw [← z]; exact decide_eq_true rfl)
      refine ⟨_, rfl, ⟨_, rfl⟩, _, rfl, rfl, asc1, ?_⟩
      rw [lower1 hc]
      have e2 : sw c = lo1 c := by
        unfold sw lo1
        unfold lo1 at e1
        split
        · rfl
        · split at e1
          · contradiction
          · exact absurd rfl e1
      rw [← e2]
      exact q
end
end KA
set_option maxRecDepth 100000
set_option maxHeartbeats 4000000
namespace KA
open PySem PySem.Spec PyProof.Rows L2
theorem big_lt {n : Nat} (h : n ≤ 100000) : n < sizeLine := by
  rw [PySem.sizeLine_eq]
  omega
theorem asc_big {w : List Nat} (h : w.length ≤ 100000) : (SX.S w).length ≤ sizeLine := by
  rw [tx_len]
  exact Nat.le_of_lt (big_lt h)
theorem isdg1 : ∀ c, c < 128 → Txt.isdigit (SX.S [c]) = decide (48 ≤ c ∧ c ≤ 57) := by decide +kernel
theorem isdg0 : Txt.isdigit (SX.S []) = false := by decide +kernel
theorem one49 : Str.ofString "1" = SX.S [49] := by decide
theorem dash : Str.ofString "-" = SX.S [45] := by decide
theorem zero48 : Str.ofString "0" = SX.S [48] := by decide
theorem caret : Str.ofString "^" = SX.S [94] := by decide
theorem par40 : Str.ofString "(" = SX.S [40] := by decide
theorem par91 : Str.ofString "[" = SX.S [91] := by decide
theorem par41 : Str.ofString ")" = SX.S [41] := by decide
theorem par93 : Str.ofString "]" = SX.S [93] := by decide
theorem com44 : Str.ofString "," = SX.S [44] := by decide
theorem atS {l : List Nat} {j c : Nat} (h : l[j]? = some c) : atI (SX.S l).cps.toList (j : Int) = some c := atI_nat (by simpa using h)
theorem tx_eq {a b : List Nat} : decide (tx a = tx b) = decide (a = b) := by
  by_cases h : a = b
  · subst h
    rw [decide_eq_true rfl, decide_eq_true rfl]
  · rw [decide_eq_false h, decide_eq_false (fun z => h (SX.S_inj (V.str.inj z)))]
def rep (n : Nat) (l : List Nat) : List Nat := (List.replicate n l).flatten
theorem rep_len (n : Nat) (l : List Nat) : (rep n l).length = n * l.length := by
  unfold rep
  rw [List.length_flatten, List.map_replicate, List.sum_replicate_nat]
theorem rep_asc {n : Nat} {l : List Nat} (h : Asc l) : Asc (rep n l) := fun c hc => by
  obtain ⟨x, hx, hcx⟩ := List.mem_flatten.mp hc
  rw [(List.mem_replicate.mp hx).2] at hcx
  exact h c hcx
theorem fold_rep (l : List Nat) : ∀ (n : Nat) (acc : Array Nat), (List.replicate n (SX.S l).cps).foldl (· ++ ·) acc = acc ++ (rep n l).toArray
  | 0, acc => by simp [rep]
  | n + 1, acc => by
    rw [List.replicate_succ, List.foldl_cons, fold_rep l n]
    apply Array.toList_inj.mp
    simp [rep, List.replicate_succ]
theorem o_mulS {X : Cx} : OpR X (binaryOp .Mult) (fun x y H Q => ∃ (l : List Nat) (n : Nat), x = tx l ∧ y = .int (n : Int) ∧ l.length ≤ 401 ∧ n ≤ 100 ∧ Q (tx (rep n l)) H) := by
  intro pins s σ H x y v u Q I rx ry h
  obtain ⟨l, n, rfl, rfl, h1, h2, q⟩ := h
  obtain ⟨t, rfl⟩ := rx
  obtain ⟨t', rfl⟩ := ry
  have hl : (SX.S l).length = l.length := tx_len l
  have hm : l.length * n ≤ 40100 := Nat.mul_le_mul (show l.length ≤ 401 from h1) (show n ≤ 100 from h2)
  refine PySem.P.mul_str ?_ (fun hn _ => ?_) (fun hn _ => ?_) ?_
  · rw [decide_eq_false (by omega), decide_eq_false (by omega)]
    rfl
  · rw [hl]
    have : (401 : Int) ≤ (2 ^ 63 - 1) / (n : Int) := by
      rw [Int.le_ediv_iff_mul_le (by omega)]
      omega
    omega
  · rw [hl]
    exact short24 (by rw [Int.toNat_natCast]; omega)
  · by_cases h0 : n = 0
    · subst h0
      rw [if_pos (by decide)]
      refine ⟨by decide, ⟨tx (rep 0 l), H, I.tok _, ⟨_, rfl⟩, q⟩⟩
    · rw [if_neg (by omega)]
      by_cases e : (((n : Int) == 1) || ((SX.S l).length == 0)) = true
      · rw [if_pos e]
        have e3 : rep n l = l := by
          rw [Bool.or_eq_true] at e
          rcases e with e | e
          · have : n = 1 := by
              have := eq_of_beq e
              omega
            subst this
            simp [rep]
          · rw [hl] at e
            have : l = [] := List.eq_nil_of_length_eq_zero (eq_of_beq e)
            subst this
            simp [rep]
        rw [e3] at q
        exact ⟨.str (SX.S l), H, I, ⟨_, rfl⟩, q⟩
      · rw [if_neg e, Int.toNat_natCast, fold_rep]
        have e3 : (#[] ++ (rep n l).toArray : Array Nat) = (rep n l).toArray := by simp
        rw [e3]
        refine ⟨?_, ⟨tx (rep n l), H, I.tok _, ⟨_, rfl⟩, q⟩⟩
        show (SX.S (rep n l)).length ≤ sizeLine
        refine asc_big ?_
        rw [rep_len, Nat.mul_comm]
        omega
theorem cut_to (l : List Nat) (n : Nat) : cutS (SX.S l) none (some (n : Int)) = SX.S (l.take n) := by
  unfold cutS
  rw [HT.sIx_none, List.drop_zero, Nat.sub_zero, HT.sIx_nat, tx_len]
  show SX.S (l.take (min n l.length)) = SX.S (l.take n)
  by_cases h : n ≤ l.length
  · rw [Nat.min_eq_left h]
  · rw [Nat.min_eq_right (by omega), List.take_length, List.take_of_length_le (by omega)]
theorem cut_two (l : List Nat) (a b : Nat) : cutS (SX.S l) (some (a : Int)) (some (b : Int)) = SX.S ((l.drop a).take (b - a)) := by
  unfold cutS
  rw [HT.sIx_nat, HT.sIx_nat, tx_len]
  show SX.S ((l.drop (min a l.length)).take (min b l.length - min a l.length)) = SX.S ((l.drop a).take (b - a))
  by_cases h : a ≤ l.length
  · rw [Nat.min_eq_left h]
    by_cases h2 : b ≤ l.length
    · rw [Nat.min_eq_left h2]
    · rw [Nat.min_eq_right (by omega), List.take_of_length_le (by rw [List.length_drop]; omega), List.take_of_length_le (by rw [List.length_drop]; omega)]
  · rw [Nat.min_eq_right (show l.length ≤ a by omega), List.drop_length, List.drop_eq_nil_of_le (by omega)]
    simp
def mk (t : List Nat) (a : Nat) : List Nat := (t.drop a).take 1
theorem mk_cases (t : List Nat) (a : Nat) : mk t a = [] ∨ ∃ c, mk t a = [c] := by
  unfold mk
  cases t.drop a with
  | nil => exact .inl rfl
  | cons c r => exact .inr ⟨c, rfl⟩
def ct (l : List Nat) : List Nat := l.take 401
theorem ct_len (l : List Nat) : (ct l).length ≤ 401 := List.length_take_le _ _
theorem ct_asc {l : List Nat} (h : Asc l) : Asc (ct l) := fun c hc => h c (List.mem_of_mem_take hc)
theorem sw_asc : ∀ c, c < 128 → sw c < 128 := by decide +kernel
theorem opp_asc {l : List Nat} (h : Asc l) : Asc (opp l) := fun c hc => by
  obtain ⟨d, hd, rfl⟩ := List.mem_map.mp hc
  exact sw_asc d (h d (List.mem_reverse.mp hd))
theorem opp_len (l : List Nat) : (opp l).length = l.length := by
  unfold opp
  rw [List.length_map, List.length_reverse]
def pw (l : List Nat) (e : Int) : List Nat := if e < 0 then ct (rep e.natAbs (opp l)) else ct (rep e.natAbs l)
theorem pw_len (l : List Nat) (e : Int) : (pw l e).length ≤ 401 := by
  unfold pw
  split <;> exact ct_len _
theorem pw_asc {l : List Nat} (h : Asc l) (e : Int) : Asc (pw l e) := by
  unfold pw
  split
  · exact ct_asc (rep_asc (opp_asc h))
  · exact ct_asc (rep_asc h)
section
variable {P : Program} {w : World} {K : PySem.W.Frag} {mg : Str → Option Value} {base : Heap}
def spCut : Sp := fun vs H Q _ => ∃ l : List Nat, vs = [tx l] ∧ l.length ≤ 100000 ∧ Q (tx (ct l)) H
theorem ok_cut {f : Addr} {fd : FuncData} {k : Nat} {tL : Tok} (F : Fun K "cut" "cut" sCut f fd) (mL : mg "LONGEST" = some (.int 400 tL)) : FnOk P w K mg base CX0 (k + 1) f fd ["word"] spCut := by
  refine F.ok scCut (fun vs H Q E h => ?_) (fun cdv A outer s H vs Q E hr h => ?_)
  · obtain ⟨l, rfl, _⟩ := h
    rfl
  · obtain ⟨l, rfl, hl, q⟩ := h
    refine ⟨_, pss_one (ps_ret (pe_slice sl_str (pv 0) po_none (po_some (pe_op op_add (pe_glob (v := .int 400) (by rfl) mL ⟨_, rfl⟩) pe_int)))), ?_⟩
    refine ⟨_, rfl, _, _, rfl, rfl, _, rfl, _, rfl, asc_big hl, ?_⟩
    have e : cutS (SX.S l) none (some (400 + 1 : Int)) = SX.S (ct l) := cut_to l 401
    rw [e]
    exact q
def spPow : Sp := fun vs H Q _ => ∃ (l : List Nat) (e : Int), vs = [tx l, .int e] ∧ l.length ≤ 401 ∧ Asc l ∧ e.natAbs ≤ 100 ∧ Q (tx (pw l e)) H
theorem ok_pow {f fC fO : Addr} {fd fdC fdO : FuncData} {k : Nat} (F : Fun K "power" "power" sPower f fd) (GC : FnOk P w K mg base CX0 (k + 1) fC fdC ["word"] spCut) (kC : PySem.W.keepIn K (.ref fC) = true) (bC : Binds K fdC ["word"] []) (gC : mg "cut" = some (.ref fC))
    (GO : FnOk P w K mg base CX0 (k + 1) fO fdO ["word"] spOpp) (kO : PySem.W.keepIn K (.ref fO) = true) (bO : Binds K fdO ["word"] []) (gO : mg "opposite" = some (.ref fO)) : FnOk P w K mg base CX0 (k + 2) f fd ["word", "exponent"] spPow := by
  refine F.ok scPower (fun vs H Q E h => ?_) (fun cdv A outer s H vs Q E hr h => ?_)
  · obtain ⟨l, e, rfl, _⟩ := h
    rfl
  · obtain ⟨l, e, rfl, hl, hA, he, q⟩ := h
    refine ⟨_, pss_cons (ps_if (pt_cmpR op_lt (pv 1) pe_int (nomark _)) (pss_one (ps_ret (pe_call GC hr (by rfl) gC kC bC .nil pass0 (pa_cons (pe_op o_mulS (pe_call GO hr (by rfl) gO kO bO .nil pass0 (pa_cons (pv 0) pa_nil)) (pe_un un_neg (pv 1))) pa_nil)))) pss_nil)
      (pss_one (ps_ret (pe_call GC hr (by rfl) gC kC bC .nil pass0 (pa_cons (pe_op o_mulS (pv 0) (pv 1)) pa_nil)))), ?_⟩
    have hm : e.natAbs * l.length ≤ 40100 := Nat.mul_le_mul (show e.natAbs ≤ 100 from he) (show l.length ≤ 401 from hl)
    refine ⟨_, rfl, _, _, rfl, rfl, _, rfl, ite2 (fun hz => ?_) (fun hz => ?_)⟩
    · have hn : e < 0 := of_decide_eq_true hz
      have ep : pw l e = ct (rep e.natAbs (opp l)) := if_pos hn
      rw [ep] at q
      refine ⟨_, rfl, l, rfl, by omega, hA, _, rfl, _, rfl, opp l, e.natAbs, rfl, ?_, by rw [opp_len]; exact hl, he, rep e.natAbs (opp l), rfl, ?_, q⟩
      · show V.int (-e) = V.int (e.natAbs : Int)
        congr 1
        omega
      · rw [rep_len, opp_len]
        omega
    · have hn : ¬ e < 0 := fun z => hz (decide_eq_true z)
      have ep : pw l e = ct (rep e.natAbs l) := if_neg hn
      rw [ep] at q
      refine ⟨_, rfl, _, rfl, l, e.natAbs, rfl, ?_, hl, he, rep e.natAbs l, rfl, ?_, q⟩
      · congr 1
        omega
      · rw [rep_len]
        omega
def spMk : Sp := fun vs H Q _ => ∃ (t : List Nat) (a : Nat), vs = [tx t, .int (a : Int)] ∧ t.length ≤ 9000 ∧ Q (tx (mk t a)) H
theorem ok_mk {f : Addr} {fd : FuncData} {k : Nat} (F : Fun K "mark_at" "mark_at" sMark f fd) : FnOk P w K mg base CX0 (k + 1) f fd ["text", "at"] spMk := by
  refine F.ok scMark (fun vs H Q E h => ?_) (fun cdv A outer s H vs Q E hr h => ?_)
  · obtain ⟨t, a, rfl, _⟩ := h
    rfl
  · obtain ⟨t, a, rfl, hl, q⟩ := h
    refine ⟨_, pss_one (ps_ret (pe_slice sl_str (pv 0) (po_some (pv 1)) (po_some (pe_op op_add (pv 1) pe_int)))), ?_⟩
    refine ⟨_, rfl, _, rfl, _, rfl, _, rfl, _, _, rfl, rfl, _, rfl, _, rfl, asc_big (by omega), ?_⟩
    have e : cutS (SX.S t) (some (a : Int)) (some ((a : Int) + 1)) = SX.S (mk t a) := by
      have z := cut_two t a (a + 1)
      rw [show a + 1 - a = 1 by omega] at z
      exact z
    rw [e]
    exact q
def spn (t : List Nat) (a : Nat) : Nat := ((t.drop a).takeWhile (· == 32)).length
def spBs : Sp := fun vs H Q _ => ∃ (t : List Nat) (a : Nat), vs = [tx t, .int (a : Int)] ∧ t.length ≤ 9000 ∧ Q (.int ((a + spn t a : Nat) : Int)) H
theorem spn_cons {t : List Nat} {a : Nat} (h : mk t a = [32]) : spn t a = 1 + spn t (a + 1) := by
  unfold mk at h
  unfold spn
  cases hd : t.drop a with
  | nil => rw [hd] at h; cases h
  | cons c r =>
    rw [hd] at h
    have e : c = 32 := by simpa using h
    have e2 : t.drop (a + 1) = r := by
      have : t.drop (a + 1) = (t.drop a).drop 1 := by rw [List.drop_drop]
      rw [this, hd]
      rfl
    rw [e2, e, List.takeWhile_cons, beq_self_eq_true]
    show _ + 1 = _
    omega
theorem spn_zero {t : List Nat} {a : Nat} (h : mk t a ≠ [32]) : spn t a = 0 := by
  unfold mk at h
  unfold spn
  cases hd : t.drop a with
  | nil => rfl
  | cons c r =>
    rw [hd] at h
    have e : (c == 32) = false := by
      rw [beq_eq_false_iff_ne]
      intro z
      apply h
      rw [z]
      rfl
    rw [List.takeWhile_cons, e]
    rfl
theorem sp32 : Str.ofString " " = SX.S [32] := by decide
theorem ok_bs {f fM : Addr} {fd fdM : FuncData} {k : Nat} (F : Fun K "behind_spaces" "behind_spaces" sSpaces f fd) (GM : FnOk P w K mg base CX0 (k + 1) fM fdM ["text", "at"] spMk) (kM : PySem.W.keepIn K (.ref fM) = true) (bM : Binds K fdM ["text", "at"] []) (gM : mg "mark_at" = some (.ref fM)) :
    FnOk P w K mg base CX0 (k + 2) f fd ["text", "at"] spBs := by
  refine F.ok scSpaces (fun vs H Q E h => ?_) (fun cdv A outer s H vs Q E hr h => ?_)
  · obtain ⟨t, a, rfl, _⟩ := h
    rfl
  · obtain ⟨t, a, rfl, hl, q⟩ := h
    refine ⟨_, pss_cons (ps_while PassesOwn.never (pt_cmpR op_eq (pe_call GM hr (by rfl) gM kM bM .nil pass0 (pa_cons (pv 0) (pa_cons (pv 1) pa_nil))) pe_str (nomark _)) (pss_one (ps_set (i := 1) scSpaces.nd rfl (.inl rfl) (pe_op op_add (pv 1) pe_int))))
      (pss_one (ps_ret (pv 1))), ?_⟩
    refine while_by (fun σ H2 => ∃ b : Nat, σ = [some (tx t), some (.int (b : Int))] ∧ H2 = H ∧ b + spn t b = a + spn t a) (fun σ _ => match σ with | [_, some (.int b)] => spn t b.toNat | _ => 0) ⟨a, rfl, rfl, rfl⟩ ?_ ?_
    · rintro σ H2 ⟨b, rfl, rfl, hb⟩
      refine ⟨_, rfl, _, rfl, t, b, rfl, hl, rfl, _, rfl, ite2 (fun e => ?_) (fun e => ?_)⟩
      · have e1 : mk t b = [32] := by
          have z : tx (mk t b) = .str (Str.ofString " ") := of_decide_eq_true e
          rw [sp32] at z
          exact SX.S_inj (V.str.inj z)
        have e2 := spn_cons e1
        refine ⟨_, rfl, _, _, rfl, rfl, ⟨b + 1, rfl, rfl, by omega⟩, ?_⟩
        show spn t ((b : Int) + 1).toNat < spn t ((b : Int)).toNat
        rw [show ((b : Int) + 1).toNat = b + 1 by omega, show ((b : Int)).toNat = b by omega]
        omega
      · have e1 : mk t b ≠ [32] := fun z => e (by rw [z, sp32]; exact decide_eq_true rfl)
        have e2 := spn_zero e1
        rw [← hb, e2, Nat.add_zero] at q
        exact ⟨_, rfl, q⟩
    · rintro σ H Q Q' imp ⟨v, h1, v2, h2, t', a', e1, e2, e3, k, e4, hq⟩
      exact ⟨v, h1, v2, h2, t', a', e1, e2, e3, k, e4, imp _ _ hq⟩
end
end KA
set_option maxRecDepth 100000
set_option maxHeartbeats 4000000
namespace KA
open PySem PySem.Spec PyProof.Rows L2
def inside (st : Stmt) (i : Nat) : Stmt := match st with
  | .ClassDef _ _ _ b _ _ _ _ _ _ _ => b.getD i (.Pass ⟨0, 0, 0, 0⟩)
  | _ => .Pass ⟨0, 0, 0, 0⟩
abbrev sIniP : Stmt := inside (top 13) 0
abbrev sIniL : Stmt := inside (top 14) 0
theorem scIniP : FnScope ["self", "at"] ["self", "at"] (defScope sIniP) := ⟨rfl, rfl, rfl, by decide +kernel, rfl, by decide +kernel, by decide +kernel⟩
theorem scIniL : FnScope ["self", "limit"] ["self", "limit"] (defScope sIniL) := ⟨rfl, rfl, rfl, by decide +kernel, rfl, by decide +kernel, by decide +kernel⟩
structure ErC (K : PySem.W.Frag) (mg : Str → Option Value) (nm fl : Str) (C fI : Addr) : Prop where
  ox : OexC K C
  gC : mg nm = some (.ref C)
  nF : PySem.W.findIn K (.ref C) fl = some none
  nTag : PySem.W.findIn K (.ref C) "tag" = some none
  iC : PySem.W.findIn K (.ref C) "__init__" = some (some (.ref fI))
  tI : PySem.W.typeIn K (.ref fI) = some (.type "function")
theorem s_weak {X : Cx} {st : Stmt} {t1 t2 : TS} (h : PS X st t1) (imp : ∀ D σ H, t2 D σ H → t1 D σ H) : PS X st t2 := ⟨fun pins s σ H D I hq => h.run pins s σ H D I (imp D σ H hq)⟩
section
variable {P : Program} {w : World} {K : PySem.W.Frag} {mg : Str → Option Value} {base : Heap}
def spIni (tg : V) (fl : Str) (C : Addr) : Sp := fun vs H Q _ => ∃ (a : Addr) (v : V), vs = [.ref a, v] ∧ H a = some (exo a C none) ∧
  ∀ dx, H dx = none → dx ≠ a → Q .non (upd (upd (upd H dx (exd dx [(fl, v)])) a (exo a C (some dx))) dx (exd dx [("tag", tg), (fl, v)]))
abbrev tagP : V := .str (Str.ofString "ParseError")
abbrev tagL : V := .str (Str.ofString "TooLong")
theorem ok_iniP {f C : Addr} {fd : FuncData} {k : Nat} (F : Fun K "__init__" "ParseError.__init__" sIniP f fd) (T : ErC K mg "ParseError" "at" C f) : FnOk P w K mg base CX0 (k + 1) f fd ["self", "at"] (spIni tagP "at" C) := by
  refine F.ok scIniP (fun vs H Q E h => ?_) (fun cdv A outer s H vs Q E hr h => ?_)
  · obtain ⟨a, v, rfl, _⟩ := h
    rfl
  · obtain ⟨a, v, rfl, hx, q⟩ := h
    refine ⟨_, pss_cons (ps_ost (pv 0) (pv 1)) (pss_one (ps_ost (pv 0) pe_str)), ?_⟩
    refine ⟨_, rfl, _, rfl, a, C, rfl, T.ox, T.nF, .inl ⟨hx, fun dx nd ne => ?_⟩⟩
    refine ⟨_, rfl, a, C, rfl, T.ox, T.nTag, .inr ⟨dx, _, upd_same, ?_, (by show 1 ≤ 900; decide), q dx nd ne⟩⟩
    rw [upd_ne ne]
    exact upd_same
theorem ok_iniL {f C : Addr} {fd : FuncData} {k : Nat} (F : Fun K "__init__" "TooLong.__init__" sIniL f fd) (T : ErC K mg "TooLong" "limit" C f) : FnOk P w K mg base CX0 (k + 1) f fd ["self", "limit"] (spIni tagL "limit" C) := by
  refine F.ok scIniL (fun vs H Q E h => ?_) (fun cdv A outer s H vs Q E hr h => ?_)
  · obtain ⟨a, v, rfl, _⟩ := h
    rfl
  · obtain ⟨a, v, rfl, hx, q⟩ := h
    refine ⟨_, pss_cons (ps_ost (pv 0) (pv 1)) (pss_one (ps_ost (pv 0) pe_str)), ?_⟩
    refine ⟨_, rfl, _, rfl, a, C, rfl, T.ox, T.nF, .inl ⟨hx, fun dx nd ne => ?_⟩⟩
    refine ⟨_, rfl, a, C, rfl, T.ox, T.nTag, .inr ⟨dx, _, upd_same, ?_, (by show 1 ≤ 900; decide), q dx nd ne⟩⟩
    rw [upd_ne ne]
    exact upd_same
def Fl (C : Addr) (tg : V) (fl : Str) (v : V) (H : Hp) (E : XK) : Prop := ∀ (H' : Hp) (d : Addr), Same H H' → H d = none → H' d = some (.xd [("tag", tg), (fl, v)]) → E (.ref C) (some d) H'
theorem Fl.of {C : Addr} {tg v : V} {fl : Str} {H H1 : Hp} {E : XK} (h : Fl C tg fl v H E) (s : Same H H1) : Fl C tg fl v H1 E := fun H' d s' nd hd => h H' d (s.trans s') (s.free nd) hd
theorem s_raise {X : Cx} {E : XK} {nm fl : Str} {tg : V} {C fI : Addr} {fdI : FuncData} {ps : List Str} {e : Expr} {te : TE} {p pos pos' : Pos} (T : ErC X.K X.mg nm fl C fI)
    (GI : FnOk X.prog X.w X.K X.mg X.base CX0 1 fI fdI ps (spIni tg fl C)) (bI : Binds X.K fdI ps []) (hr : Room 2 X.A) (hc : X.calm = true) (tk : Takes X (fun cls d _ H => E cls d H)) (hg : Gl X nm) (he : PE X e te) (hp0 : Passes CX0 X (fun _ _ _ => False))
    (mono : ∀ σ H (Q Q' : VK), (∀ v H1, Q v H1 → Q' v H1) → te σ H Q → te σ H Q')
    (hdb : (nm == ("__debug__" : Str)) = false := by decide) (hst : starEach [e] X.env = (false, eval e X.env) :: starEach [] X.env := by rfl) (hpl : (backTo pos (starEach [] X.env)).any (·.1) = false := by rfl) :
    PS X (.Raise (some (.Call (.Name nm p) [e] [] pos)) none pos') (fun _ σ H => te σ H fun v H1 => Fl C tg fl v H1 E) := by
  refine s_weak (ps_raise hc tk (pmk_oex T.ox T.iC T.tI GI hr bI .nil hp0 hg T.gC (pa_cons (hs := hst) he pa_nil) hdb hst hpl)) (fun D σ H h => ?_)
  refine mono σ H _ _ (fun v H1 q => ⟨(by show 1 ≤ 1000; decide), fun a na => ?_⟩) h
  refine ⟨a, _, rfl, upd_same, fun dx nd ne => ⟨rfl, dx, _, ?_, upd_same, ?_, ?_⟩⟩
  · rw [upd_ne (Ne.symm ne), upd_same]
  · have z : upd H1 a (exo a C none) dx = none := nd
    rw [upd_ne ne] at z
    exact z
  · have nd3 : H1 dx = none := by
      have z : upd H1 a (exo a C none) dx = none := nd
      rw [upd_ne ne] at z
      exact z
    refine q _ dx (fun b o e3 => ?_) nd3 upd_same
    have hb1 : b ≠ dx := ne_of_none e3 nd3
    have hb2 : b ≠ a := ne_of_none e3 na
    rw [upd_ne hb1, del_ne hb2, upd_ne hb1, upd_ne hb2, upd_ne hb1, upd_ne hb2]
    exact e3
theorem var_mono {i : Nat} : ∀ (σ : L2.St) (H : Hp) (Q Q' : VK), (∀ v H1, Q v H1 → Q' v H1) → tVar i σ H Q → tVar i σ H Q' := fun _ _ _ _ imp ⟨v, h, q⟩ => ⟨v, h, imp _ _ q⟩
theorem c_mono {v : V} : ∀ (σ : L2.St) (H : Hp) (Q Q' : VK), (∀ v H1, Q v H1 → Q' v H1) → tC v σ H Q → tC v σ H Q' := fun _ _ _ _ imp q => imp _ _ q
end
end KA
set_option maxRecDepth 100000
set_option maxHeartbeats 4000000
namespace KA
open PySem PySem.Spec PyProof.Rows L2
def dgt (t : List Nat) (a : Nat) : Bool := match mk t a with
  | [c] => decide (48 ≤ c ∧ c ≤ 57)
  | _ => false
theorem mk_asc {t : List Nat} {a c : Nat} (h : Asc t) (e : mk t a = [c]) : c < 128 := by
  refine h c ?_
  have hm : c ∈ mk t a := by rw [e]; simp
  exact List.mem_of_mem_drop (List.mem_of_mem_take hm)
theorem dgt_is {t : List Nat} {a : Nat} (h : Asc t) : Txt.isdigit (SX.S (mk t a)) = dgt t a := by
  unfold dgt
  rcases mk_cases t a with e | ⟨c, e⟩
  · rw [e]
    exact isdg0
  · rw [e]
    exact isdg1 c (mk_asc h e)
def beg (L t : List Nat) (a d : Nat) : Bool := match mk t a with
  | [c] => decide (c ∈ sg L) || (decide (c = 49) || (decide (c = 40 ∨ c = 91) && decide (d < 6)))
  | _ => false
structure Pe (P : Program) (w : World) (K : PySem.W.Frag) (mg : Str → Option Value) (base : Heap) (C fI : Addr) (fdI : FuncData) : Prop where
  T : ErC K mg "ParseError" "at" C fI
  G : FnOk P w K mg base CX0 1 fI fdI ["self", "at"] (spIni tagP "at" C)
  b : Binds K fdI ["self", "at"] []
abbrev FlP (C : Addr) (i : Nat) (H : Hp) (E : XK) : Prop := Fl C tagP "at" (.int (i : Int)) H E
section
variable {P : Program} {w : World} {K : PySem.W.Frag} {mg : Str → Option Value} {base : Heap}
def spNd (C : Addr) : Sp := fun vs H Q E => ∃ (t : List Nat) (a : Nat), vs = [tx t, .int (a : Int)] ∧ t.length ≤ 9000 ∧ Asc t ∧ (dgt t a = false → Q .non H) ∧ (dgt t a = true → FlP C a H E)
theorem ok_nd {f fM C fI : Addr} {fd fdM fdI : FuncData} {k : Nat} (F : Fun K "check_no_digit" "check_no_digit" sNoDigit f fd) (R : Pe P w K mg base C fI fdI) (GM : FnOk P w K mg base CX0 (k + 1) fM fdM ["text", "at"] spMk) (kM : PySem.W.keepIn K (.ref fM) = true) (bM : Binds K fdM ["text", "at"] []) (gM : mg "mark_at" = some (.ref fM)) :
    FnOk P w K mg base (L2.CX P w) (k + 3) f fd ["text", "at"] (spNd C) := by
  refine F.okX scNoDigit (fun vs H Q E h => ?_) (fun cdv A outer s H vs Q E hr h => ?_)
  · obtain ⟨t, a, rfl, _⟩ := h
    rfl
  · obtain ⟨t, a, rfl, hl, hA, q, qe⟩ := h
    have r1 : Room (k + 1) (A.deeper (envOfC "check_no_digit" (defScope sNoDigit) s.heap.objs.size f cdv)) := hr.mono (by omega)
    have r2 : Room 2 (A.deeper (envOfC "check_no_digit" (defScope sNoDigit) s.heap.objs.size f cdv)) := hr.mono (by omega)
    refine ⟨_, pss_one (ps_if (pt_val (pe_m0 PySem.F.slot_str_isdigit PySem.F.type_str_isdigit mt_isdigit (pe_call GM r1 (by rfl) gM kM bM .nil pass0 (pa_cons (pv 0) (pa_cons (pv 1) pa_nil)))))
      (pss_one (s_raise (E := E) R.T R.G R.b r2 rfl (takes_of rfl rfl rfl rfl) (by rfl) (pv 1) pass0 var_mono)) pss_nil), ?_⟩
    refine ⟨_, rfl, _, rfl, t, a, rfl, hl, ⟨_, rfl⟩, _, rfl, rfl, trivial, _, rfl, ?_⟩
    rw [dgt_is hA]
    cases hd : dgt t a with
    | true => exact iteT ⟨_, rfl, qe hd⟩
    | false => exact iteF (q hd)
def spCm (C : Addr) : Sp := fun vs H Q E => ∃ (t : List Nat) (a c : Nat), vs = [tx t, .int (a : Int), tx [c]] ∧ t.length ≤ 9000 ∧ (mk t a = [c] → Q .non H) ∧ (mk t a ≠ [c] → FlP C a H E)
theorem ok_cm {f fM C fI : Addr} {fd fdM fdI : FuncData} {k : Nat} (F : Fun K "check_mark" "check_mark" sChkM f fd) (R : Pe P w K mg base C fI fdI) (GM : FnOk P w K mg base CX0 (k + 1) fM fdM ["text", "at"] spMk) (kM : PySem.W.keepIn K (.ref fM) = true) (bM : Binds K fdM ["text", "at"] []) (gM : mg "mark_at" = some (.ref fM)) :
    FnOk P w K mg base (L2.CX P w) (k + 3) f fd ["text", "at", "mark"] (spCm C) := by
  refine F.okX scChkM (fun vs H Q E h => ?_) (fun cdv A outer s H vs Q E hr h => ?_)
  · obtain ⟨t, a, c, rfl, _⟩ := h
    rfl
  · obtain ⟨t, a, c, rfl, hl, q, qe⟩ := h
    have r1 : Room (k + 1) (A.deeper (envOfC "check_mark" (defScope sChkM) s.heap.objs.size f cdv)) := hr.mono (by omega)
    have r2 : Room 2 (A.deeper (envOfC "check_mark" (defScope sChkM) s.heap.objs.size f cdv)) := hr.mono (by omega)
    refine ⟨_, pss_one (ps_if (pt_cmpR op_ne (pe_call GM r1 (by rfl) gM kM bM .nil pass0 (pa_cons (pv 0) (pa_cons (pv 1) pa_nil))) (pv 2) (nomark _))
      (pss_one (s_raise (E := E) R.T R.G R.b r2 rfl (takes_of rfl rfl rfl rfl) (by rfl) (pv 1) pass0 var_mono)) pss_nil), ?_⟩
    refine ⟨_, rfl, _, rfl, t, a, rfl, hl, _, rfl, rfl, _, rfl, ?_⟩
    rw [tx_eq]
    by_cases hd : mk t a = [c]
    · rw [decide_eq_true hd]
      exact iteF (q hd)
    · rw [decide_eq_false hd]
      exact iteT ⟨_, rfl, qe hd⟩
def spBa : Sp := fun vs H Q _ => ∃ (t L : List Nat) (a : Nat) (p : Addr) (d : Nat), vs = [tx t, .ref p, .int (a : Int), .int (d : Int)] ∧ t.length ≤ 9000 ∧ H p = some (.lst ((sg L).map one)) ∧ ∀ H', Same H H' → Q (.bl (beg L t a d)) H'
theorem ok_ba {f fM : Addr} {fd fdM : FuncData} {k : Nat} {tD : Tok} (F : Fun K "begins_atom" "begins_atom" sBegins f fd) (mD : mg "DEEPEST" = some (.int 6 tD)) (GM : FnOk P w K mg base CX0 (k + 1) fM fdM ["text", "at"] spMk) (kM : PySem.W.keepIn K (.ref fM) = true) (bM : Binds K fdM ["text", "at"] []) (gM : mg "mark_at" = some (.ref fM)) :
    FnOk P w K mg base CX0 (k + 2) f fd ["text", "signs", "at", "depth"] spBa := by
  refine F.ok scBegins (fun vs H Q E h => ?_) (fun cdv A outer s H vs Q E hr h => ?_)
  · obtain ⟨t, L, a, p, d, rfl, _⟩ := h
    rfl
  · obtain ⟨t, L, a, p, d, rfl, hl, hp, q⟩ := h
    refine ⟨_, pss_cons (ps_set (i := 4) scBegins.nd rfl (.inl rfl) (pe_call GM hr (by rfl) gM kM bM .nil pass0 (pa_cons (pv 0) (pa_cons (pv 2) pa_nil))))
      (pss_one (ps_ret (pe_or (pe_cmpR op_in_seq (pv 4) (pv 1) (by rfl)) (pe_or (pe_cmpR op_eq (pv 4) pe_str (nomark _)) (pe_one (pe_and (pe_cmpR op_in_seq (pv 4) (pe_tup (pa_cons pe_str (pa_cons pe_str pa_nil))) (by rfl)) (pe_one (pe_cmpR op_lt (pv 3) (pe_glob (v := .int 6) (by rfl) mD ⟨_, rfl⟩) (nomark _))))))))), ?_⟩
    have hall : ((sg L).map one).all flatV = true := by
      rw [List.all_eq_true]
      intro v hv
      obtain ⟨d, _, rfl⟩ := List.mem_map.mp hv
      rfl
    refine ⟨_, rfl, _, rfl, t, a, rfl, hl, ?_⟩
    rcases mk_cases t a with h0 | ⟨c, hc⟩
    · have eb : beg L t a d = false := by unfold beg; rw [h0]
      rw [eb] at q
      rw [h0]
      have hin : inV (tx []) ((sg L).map one) = false := by
        unfold inV
        rw [List.any_eq_false]
        intro v hv
        obtain ⟨d, _, rfl⟩ := List.mem_map.mp hv
        show ¬ ((SX.S [d] == SX.S []) = true)
        rw [SX.S_beq_eq]
        simp
      refine ⟨_, rfl, _, rfl, p, _, rfl, .inl (SqL.of hp), rfl, hall, _, rfl, ?_⟩
      rw [show (if false = true then !inV (tx []) ((sg L).map one) else inV (tx []) ((sg L).map one)) = false from hin]
      refine iteF ⟨_, rfl, rfl, false, congrArg V.bl (by rw [one49]; decide +kernel), iteF ?_⟩
      refine ⟨_, rfl, (by show 2 ≤ sizeLine; decide), fun T nT => ⟨T, _, rfl, .inr (SqT.of upd_same), rfl, rfl, false, congrArg V.bl (by decide +kernel), iteF ?_⟩⟩
      exact q _ (same_new nT)
    · have eb : beg L t a d = (decide (c ∈ sg L) || (decide (c = 49) || (decide (c = 40 ∨ c = 91) && decide (d < 6)))) := by unfold beg; rw [hc]
      rw [hc]
      refine ⟨_, rfl, _, rfl, p, _, rfl, .inl (SqL.of hp), rfl, hall, _, rfl, ?_⟩
      rw [show (if false = true then !inV (tx [c]) ((sg L).map one) else inV (tx [c]) ((sg L).map one)) = decide (c ∈ sg L) from mem_in (w := [])]
      refine ite2 (fun e => ?_) (fun e => ?_)
      · rw [e, Bool.true_or] at eb
        rw [eb] at q
        exact q _ (Same.refl _)
      · rw [Bool.not_eq_true] at e
        rw [e, Bool.false_or] at eb
        by_cases h49 : c = 49
        · refine ⟨_, rfl, rfl, true, congrArg V.bl (by rw [one49]; exact (tx_eq (a := [c]) (b := [49])).trans (decide_eq_true (by rw [h49]))), iteT ?_⟩
          rw [decide_eq_true h49, Bool.true_or] at eb
          rw [eb] at q
          exact q _ (Same.refl _)
        · rw [decide_eq_false h49, Bool.false_or] at eb
          refine ⟨_, rfl, rfl, false, congrArg V.bl (by rw [one49]; exact (tx_eq (a := [c]) (b := [49])).trans (decide_eq_false (fun z => h49 (by simpa using z)))), iteF ?_⟩
          refine ⟨_, rfl, (by show 2 ≤ sizeLine; decide), fun T nT => ⟨T, _, rfl, .inr (SqT.of upd_same), rfl, rfl, _, rfl, ?_⟩⟩
          have hin : inV (tx [c]) [V.str (Str.ofString "("), V.str (Str.ofString "[")] = decide (c = 40 ∨ c = 91) := by
            rw [par40, par91]
            have z := mem_in (w := []) (c := c) (L := [40, 91])
            refine Eq.trans z ?_
            congr 1
            simp
          rw [show (if false = true then !inV (tx [c]) [V.str (Str.ofString "("), V.str (Str.ofString "[")] else inV (tx [c]) [V.str (Str.ofString "("), V.str (Str.ofString "[")]) = decide (c = 40 ∨ c = 91) from hin]
          refine ite2 (fun e2 => ?_) (fun e2 => ?_)
          · rw [e2, Bool.true_and] at eb
            rw [eb] at q
            refine ⟨_, rfl, _, _, rfl, rfl, ?_⟩
            have e6 : decide (((d : Nat) : Int) < 6) = decide (d < 6) := by
              by_cases hh : d < 6
              · rw [decide_eq_true hh, decide_eq_true (by omega)]
              · rw [decide_eq_false hh, decide_eq_false (by omega)]
            show Q (.bl (decide (((d : Nat) : Int) < 6))) _
            rw [e6]
            exact q _ (same_new nT)
          · rw [Bool.not_eq_true] at e2
            rw [e2, Bool.false_and] at eb
            rw [eb] at q
            exact q _ (same_new nT)
end
end KA
set_option maxRecDepth 100000
set_option maxHeartbeats 4000000
namespace KA
open PySem PySem.Spec PyProof.Rows L2
def num : List Nat → Nat
  | [c] => c - 48
  | [c, d] => 10 * (c - 48) + (d - 48)
  | _ => 0
theorem num_int1 : ∀ c, c < 58 → 48 ≤ c → PySem.intText? (SX.S [c]) = some ((num [c] : Nat) : Int) := by decide +kernel
theorem num_int2 : ∀ c, c < 58 → 48 ≤ c → ∀ d, d < 58 → 48 ≤ d → PySem.intText? (SX.S [c, d]) = some ((num [c, d] : Nat) : Int) := by decide +kernel
def rdE (t : List Nat) (a : Nat) : Except Nat (Int × Nat) :=
  let mi : Bool := decide (mk t a = [45])
  let b := if mi then a + 1 else a
  if dgt t b = false ∨ (mi = true ∧ mk t b = [48]) then .error b
  else
    let e := if mk t b ≠ [48] ∧ dgt t (b + 1) = true then b + 2 else b + 1
    if dgt t e = true then .error e
    else .ok (if mi then -((num ((t.drop b).take (e - b)) : Nat) : Int) else ((num ((t.drop b).take (e - b)) : Nat) : Int), e)
theorem dgt_mk {t : List Nat} {b : Nat} (h : dgt t b = true) : ∃ c r, t.drop b = c :: r ∧ 48 ≤ c ∧ c ≤ 57 ∧ mk t b = [c] := by
  unfold dgt at h
  rcases mk_cases t b with e | ⟨c, e⟩
  · rw [e] at h
    cases h
  · rw [e] at h
    have hc : 48 ≤ c ∧ c ≤ 57 := of_decide_eq_true h
    have e' := e
    unfold mk at e'
    cases hd : t.drop b with
    | nil => rw [hd] at e'; cases e'
    | cons x r =>
      rw [hd] at e'
      have : x = c := by simpa using e'
      subst this
      exact ⟨x, r, rfl, hc.1, hc.2, e⟩
theorem drop_next {t r : List Nat} {b c : Nat} (h : t.drop b = c :: r) : t.drop (b + 1) = r := by
  rw [← List.drop_drop, h]
  rfl
theorem num_read {t : List Nat} {b e : Nat} (h : dgt t b = true) (he : e = if mk t b ≠ [48] ∧ dgt t (b + 1) = true then b + 2 else b + 1) :
    PySem.intText? (SX.S ((t.drop b).take (e - b))) = some ((num ((t.drop b).take (e - b)) : Nat) : Int) ∧ num ((t.drop b).take (e - b)) < 100 ∧ ((t.drop b).take (e - b)).length ≤ 2 := by
  obtain ⟨c, r, hd, h1, h2, hm⟩ := dgt_mk h
  by_cases hz : mk t b ≠ [48] ∧ dgt t (b + 1) = true
  · rw [if_pos hz] at he
    obtain ⟨c2, r2, hd2, g1, g2, _⟩ := dgt_mk hz.2
    rw [drop_next hd] at hd2
    have ee : (t.drop b).take (e - b) = [c, c2] := by
      rw [he, show b + 2 - b = 2 by omega, hd, hd2]
      rfl
    rw [ee]
    refine ⟨num_int2 c (by omega) h1 c2 (by omega) g1, ?_, Nat.le_refl _⟩
    show 10 * (c - 48) + (c2 - 48) < 100
    omega
  · rw [if_neg hz] at he
    have ee : (t.drop b).take (e - b) = [c] := by
      rw [he, show b + 1 - b = 1 by omega, hd]
      rfl
    rw [ee]
    refine ⟨num_int1 c (by omega) h1, ?_, (by show 1 ≤ 2; decide)⟩
    show c - 48 < 100
    omega
section
variable {P : Program} {w : World} {K : PySem.W.Frag} {mg : Str → Option Value} {base : Heap}
def spEx (C : Addr) : Sp := fun vs H Q E => ∃ (t : List Nat) (a : Nat), vs = [tx t, .int (a : Int)] ∧ t.length ≤ 9000 ∧ Asc t ∧
  (∀ v e, rdE t a = .ok (v, e) → ∀ T, H T = none → Q (.ref T) (upd H T (.tup [.int v, .int (e : Int)]))) ∧ ∀ i, rdE t a = .error i → FlP C i H E
theorem ok_ex {f fM fN C fI : Addr} {fd fdM fdN fdI : FuncData} {k : Nat} (F : Fun K "read_exponent" "read_exponent" sRExp f fd) (B : Bn mg) (R : Pe P w K mg base C fI fdI) (GM : FnOk P w K mg base CX0 (k + 1) fM fdM ["text", "at"] spMk) (kM : PySem.W.keepIn K (.ref fM) = true) (bM : Binds K fdM ["text", "at"] []) (gM : mg "mark_at" = some (.ref fM))
    (GN : FnOk P w K mg base (L2.CX P w) (k + 3) fN fdN ["text", "at"] (spNd C)) (kN : PySem.W.keepIn K (.ref fN) = true) (bN : Binds K fdN ["text", "at"] []) (gN : mg "check_no_digit" = some (.ref fN)) :
    FnOk P w K mg base (L2.CX P w) (k + 4) f fd ["text", "at"] (spEx C) := by
  refine F.okX scRExp (fun vs H Q E h => ?_) (fun cdv A outer s H vs Q E hr h => ?_)
  · obtain ⟨t, a, rfl, _⟩ := h
    rfl
  · obtain ⟨t, a, rfl, hl, hA, q, qe⟩ := h
    have r1 : Room (k + 1) (A.deeper (envOfC "read_exponent" (defScope sRExp) s.heap.objs.size f cdv)) := hr.mono (by omega)
    have r2 : Room 2 (A.deeper (envOfC "read_exponent" (defScope sRExp) s.heap.objs.size f cdv)) := hr.mono (by omega)
    obtain ⟨t2, P2, R2⟩ : ∃ t2, PSs (cxOf (L2.CX P w) P w K mg base ["text", "at", "minus", "begin", "first", "end", "number"] "read_exponent" (defScope sRExp) f cdv A outer s H E) ((defBody sRExp).drop 2) t2 ∧
        t2 { nx := fun _ H' => Q .non H', rt := Q } [some (tx t), some (.int (a : Int)), some (.bl (decide (mk t a = [45]))), some (.int ((if decide (mk t a = [45]) = true then a + 1 else a : Nat) : Int)), none, none, none] H := by
      refine ⟨_, pss_cons (ps_set (i := 4) scRExp.nd rfl (.inl rfl) (pe_call GM r1 (by rfl) gM kM bM .nil pass0 (pa_cons (pv 0) (pa_cons (pv 3) pa_nil))))
        (pss_cons (ps_if (PW.pt (pw_or (pt_not (pt_val (pe_m0 PySem.F.slot_str_isdigit PySem.F.type_str_isdigit mt_isdigit (pv 4)))) (pw_or1 (PW.pt (pw_and (pt_val (pv 2)) (pw_and1 (pt_cmpR op_eq (pv 4) pe_str (nomark _))))))))
          (pss_one (s_raise (E := E) R.T R.G R.b r2 rfl (takes_of rfl rfl rfl rfl) (by rfl) (pv 3) pass0 var_mono)) pss_nil)
        (pss_cons (ps_set (i := 5) scRExp.nd rfl (.inl rfl) (pe_op op_add (pv 3) pe_int))
        (pss_cons (ps_if (PW.pt (pw_and (pt_cmpR op_ne (pv 4) pe_str (nomark _)) (pw_and1 (pt_val (pe_m0 PySem.F.slot_str_isdigit PySem.F.type_str_isdigit mt_isdigit (pe_call GM r1 (by rfl) gM kM bM .nil pass0 (pa_cons (pv 0) (pa_cons (pv 5) pa_nil)))))))) (pss_one (ps_set (i := 5) scRExp.nd rfl (.inl rfl) (pe_op op_add (pv 5) pe_int))) pss_nil)
        (pss_cons (ps_expr (pe_call GN hr (by rfl) gN kN bN .nil (passes_call (W := fun cls d _ H => E cls d H) (takes_of rfl rfl rfl rfl) (fun _ _ _ _ h => h)) (pa_cons (pv 0) (pa_cons (pv 5) pa_nil))))
        (pss_cons (ps_set (i := 6) scRExp.nd rfl (.inl rfl) (pe_callTy call_int_str (by rfl) B.int boot_int (pa_cons (pe_slice sl_str (pv 0) (po_some (pv 3)) (po_some (pv 5))) pa_nil)))
        (pss_one (ps_ret (pe_tup (pa_cons (pe_ifExp (pt_val (pv 2)) (pe_un un_neg (pv 6)) (pv 6)) (pa_cons (pv 5) pa_nil)))))))))), ?_⟩
      generalize hmi : decide (mk t a = [45]) = mi
      generalize hb : (if mi = true then a + 1 else a : Nat) = b
      have erd : rdE t a = if dgt t b = false ∨ (mi = true ∧ mk t b = [48]) then .error b else
          if dgt t (if mk t b ≠ [48] ∧ dgt t (b + 1) = true then b + 2 else b + 1) = true then .error (if mk t b ≠ [48] ∧ dgt t (b + 1) = true then b + 2 else b + 1)
          else .ok (if mi then -((num ((t.drop b).take ((if mk t b ≠ [48] ∧ dgt t (b + 1) = true then b + 2 else b + 1) - b)) : Nat) : Int) else ((num ((t.drop b).take ((if mk t b ≠ [48] ∧ dgt t (b + 1) = true then b + 2 else b + 1) - b)) : Nat) : Int), (if mk t b ≠ [48] ∧ dgt t (b + 1) = true then b + 2 else b + 1)) := by
        unfold rdE
        simp only [hmi, hb]
      have bad : (dgt t b = false ∨ (mi = true ∧ mk t b = [48])) → FlP C b H E := fun hx => qe b (by rw [erd, if_pos hx])
      have e48 : ∀ x : List Nat, decide (tx x = .str (Str.ofString "0")) = decide (x = [48]) := fun x => by rw [zero48]; exact tx_eq
      refine ⟨_, rfl, _, rfl, t, b, rfl, hl, ?_⟩
      refine ⟨_, rfl, ⟨_, rfl⟩, _, rfl, rfl, trivial, _, rfl, ?_⟩
      rw [dgt_is hA]
      -- the rest, once the first digit is there
      have next : dgt t b = true → ¬ (mi = true ∧ mk t b = [48]) → ∀ D : Ends, D.rt = Q → tSeq (tAsg (tOp (rI0 fun i j => .int (i + j)) (tVar 3) (tC (.int 1))) (gName 5)) (tSeq (tIfS (tAnd (tTest (tOp rNe (tVar 4) (tC (.str (Str.ofString "0"))))) (tB (tM0 (fun x xs H Q => ∃ a, x = .str a ∧ xs = [] ∧ True ∧ Q (.bl (Txt.isdigit a)) H) (tCall spMk [] E0 (tCons (tVar 0) (tCons (tVar 5) tNil)))))) (tAsg (tOp (rI0 fun i j => .int (i + j)) (tVar 5) (tC (.int 1))) (gName 5)) tNext)
          (tSeq (tDrop (tCall (spNd C) [] E (tCons (tVar 0) (tCons (tVar 5) tNil)))) (tSeq (tAsg (tCB (fun xs H Q => ∃ a n, xs = [.str a] ∧ PySem.intText? a = some n ∧ a.length ≤ 640 ∧ Q (.int n) H) (tCons (tSl rSlS (tVar 0) (tPart (tVar 3)) (tPart (tVar 5))) tNil)) (gName 6))
          (tRet (tTup (tCons (tIf (tB (tVar 2)) (tUn (rU fun i => .int (-i)) (tVar 6)) (tVar 6)) (tCons (tVar 5) tNil))))))) D [some (tx t), some (.int (a : Int)), some (.bl mi), some (.int (b : Int)), some (tx (mk t b)), none, none] H := by
        intro hdg hnm D hD
        have hnb : ¬ (dgt t b = false ∨ (mi = true ∧ mk t b = [48])) := fun z => z.elim (fun z => by rw [hdg] at z; cases z) hnm
        rw [if_neg hnb] at erd
        -- the end: read from b to e
        have fin : ∀ (e : Nat) (D : Ends), D.rt = Q → e = (if mk t b ≠ [48] ∧ dgt t (b + 1) = true then b + 2 else b + 1) →
            tSeq (tDrop (tCall (spNd C) [] E (tCons (tVar 0) (tCons (tVar 5) tNil)))) (tSeq (tAsg (tCB (fun xs H Q => ∃ a n, xs = [.str a] ∧ PySem.intText? a = some n ∧ a.length ≤ 640 ∧ Q (.int n) H) (tCons (tSl rSlS (tVar 0) (tPart (tVar 3)) (tPart (tVar 5))) tNil)) (gName 6))
              (tRet (tTup (tCons (tIf (tB (tVar 2)) (tUn (rU fun i => .int (-i)) (tVar 6)) (tVar 6)) (tCons (tVar 5) tNil))))) D [some (tx t), some (.int (a : Int)), some (.bl mi), some (.int (b : Int)), some (tx (mk t b)), some (.int (e : Int)), none] H := by
          intro e D hD he
          rw [← he] at erd
          refine ⟨_, rfl, _, rfl, t, e, rfl, hl, hA, fun hde => ?_, fun hde => ?_⟩
          · rw [hde, if_neg Bool.false_ne_true] at erd
            obtain ⟨n1, n2, n3⟩ := num_read hdg he
            refine ⟨_, rfl, _, rfl, _, rfl, _, rfl, _, rfl, _, rfl, asc_big (by omega), ?_⟩
            rw [cut_two]
            refine ⟨_, _, rfl, n1, by rw [tx_len]; omega, ?_⟩
            have q' := q _ _ erd
            cases mi with
            | true => exact ⟨_, rfl, true, rfl, iteT ⟨_, rfl, _, rfl, _, rfl, (by show 2 ≤ sizeLine; decide), by rw [hD]; exact q'⟩⟩
            | false => exact ⟨_, rfl, false, rfl, iteF ⟨_, rfl, _, rfl, (by show 2 ≤ sizeLine; decide), by rw [hD]; exact q'⟩⟩
          · rw [hde, if_pos rfl] at erd
            exact qe e erd
        refine ⟨_, rfl, _, _, rfl, rfl, _, rfl, rfl, _, rfl, ?_⟩
        rw [e48]
        by_cases h0 : mk t b = [48]
        · rw [decide_eq_true h0]
          refine iteF (iteF (fin (b + 1) _ hD ?_))
          rw [if_neg (fun z => z.1 h0)]
        · rw [decide_eq_false h0]
          refine iteT ⟨_, rfl, _, rfl, t, b + 1, rfl, hl, ⟨_, rfl⟩, _, rfl, rfl, trivial, _, rfl, ?_⟩
          rw [dgt_is hA]
          cases h1 : dgt t (b + 1) with
          | true =>
            refine iteT ⟨_, rfl, _, _, rfl, rfl, ?_⟩
            exact fin (b + 2) _ hD (by rw [if_pos ⟨h0, h1⟩])
          | false => exact iteF (fin (b + 1) _ hD (by rw [if_neg (fun z => by rw [h1] at z; cases z.2)]))
      cases hdg : dgt t b with
      | false => exact iteT (iteT ⟨_, rfl, bad (.inl hdg)⟩)
      | true =>
        refine iteF ⟨_, rfl, _, rfl, ?_⟩
        cases mi with
        | false => exact iteF (iteF (next hdg (fun z => by cases z.1) _ rfl))
        | true =>
          refine iteT ⟨_, rfl, rfl, _, rfl, ?_⟩
          rw [e48]
          by_cases h0 : mk t b = [48]
          · rw [decide_eq_true h0]
            exact iteT ⟨_, rfl, bad (.inr ⟨rfl, h0⟩)⟩
          · rw [decide_eq_false h0]
            exact iteF (next hdg (fun z => h0 z.2) _ rfl)
    refine ⟨_, pss_cons (ps_set (i := 2) scRExp.nd rfl (.inl rfl) (pe_cmpR op_eq (pe_call GM r1 (by rfl) gM kM bM .nil pass0 (pa_cons (pv 0) (pa_cons (pv 1) pa_nil))) pe_str (nomark _)))
      (pss_cons (ps_set (i := 3) scRExp.nd rfl (.inl rfl) (pe_ifExp (pt_val (pv 2)) (pe_op op_add (pv 1) pe_int) (pv 1))) P2), ?_⟩
    refine ⟨_, rfl, _, rfl, t, a, rfl, hl, rfl, ?_⟩
    rw [dash, tx_eq]
    cases hmi : decide (mk t a = [45]) with
    | true =>
      rw [hmi, if_pos rfl] at R2
      exact ⟨_, rfl, true, rfl, iteT ⟨_, rfl, _, _, rfl, rfl, R2⟩⟩
    | false =>
      rw [hmi, if_neg Bool.false_ne_true] at R2
      exact ⟨_, rfl, false, rfl, iteF ⟨_, rfl, R2⟩⟩
end
end KA
set_option maxRecDepth 100000
set_option maxHeartbeats 4000000
namespace KA
open PySem PySem.Spec PyProof.Rows L2
abbrev Rr := Except Nat (List Nat × Nat)
def grp (ph : Nat → Rr) (t : List Nat) (a : Nat) : Rr := match ph (a + 1) with
  | .error i => .error i
  | .ok (w, e) => if mk t e = [41] then .ok (w, e + 1) else .error e
def pr2 (ph : Nat → Rr) (t w1 : List Nat) (e1 : Nat) : Rr := match ph (e1 + 1) with
  | .error i => .error i
  | .ok (w2, e2) => if mk t e2 = [93] then .ok (ct (w1 ++ w2 ++ opp w1 ++ opp w2), e2 + 1) else .error e2
def pr (ph : Nat → Rr) (t : List Nat) (a : Nat) : Rr := match ph (a + 1) with
  | .error i => .error i
  | .ok (w1, e1) => if mk t e1 = [44] then pr2 ph t w1 e1 else .error e1
def rdA (ph : Nat → Rr) (L t : List Nat) (d a : Nat) : Rr :=
  if beg L t a d = false then .error a
  else if mk t a = [40] then grp ph t a
  else if mk t a = [91] then pr ph t a
  else if mk t a = [49] then (if dgt t (a + 1) = true then .error (a + 1) else .ok ([], a + 1))
  else .ok (mk t a, a + 1)
def fx (t w : List Nat) (e1 : Nat) : Rr := match rdE t (e1 + 1 + spn t (e1 + 1)) with
  | .error i => .error i
  | .ok (x, e2) => .ok (pw w x, e2 + spn t e2)
def rdF (ph : Nat → Rr) (L t : List Nat) (d a : Nat) : Rr := match rdA ph L t d a with
  | .error i => .error i
  | .ok (w, e) => if mk t (e + spn t e) = [94] then fx t w (e + spn t e) else .ok (w, e + spn t e)
def rdL (fa : Nat → Rr) (L t : List Nat) (d : Nat) : Nat → Nat → List Nat → Rr
  | 0, a, w => .ok (w, a)
  | n + 1, a, w => if beg L t a d = false then .ok (w, a) else match fa a with
    | .error i => .error i
    | .ok (f, e) => rdL fa L t d n e (ct (w ++ f))
def rdP0 (fa : Nat → Rr) (L t : List Nat) (d a : Nat) : Rr := match fa (a + spn t a) with
  | .error i => .error i
  | .ok (w, e) => rdL fa L t d (t.length + 2) e w
def rdP (L t : List Nat) : Nat → Nat → Rr
  | 0 => rdP0 (rdF (fun _ => .error 0) L t 6) L t 6
  | m + 1 => rdP0 (rdF (rdP L t m) L t (6 - (m + 1))) L t (6 - (m + 1))
def sub (L t : List Nat) : Nat → Nat → Rr
  | 0 => fun _ => .error 0
  | m + 1 => rdP L t m
theorem rdP_eq (L t : List Nat) (m : Nat) : rdP L t m = rdP0 (rdF (sub L t m) L t (6 - m)) L t (6 - m) := by
  cases m <;> rfl
def Gd (ph : Nat → Rr) : Prop := ∀ a w e, ph a = .ok (w, e) → a ≤ e ∧ w.length ≤ 401 ∧ Asc w
def Gd1 (ph : Nat → Rr) : Prop := ∀ a w e, ph a = .ok (w, e) → a < e ∧ w.length ≤ 401 ∧ Asc w
theorem rdE_ok {t : List Nat} {a e : Nat} {v : Int} (h : rdE t a = .ok (v, e)) : a < e ∧ v.natAbs ≤ 100 := by
  unfold rdE at h
  simp only at h
  generalize decide (mk t a = [45]) = mi at h
  generalize hb : (if mi = true then a + 1 else a : Nat) = b at h
  have hab : a ≤ b := by
    rw [← hb]
    split <;> omega
  by_cases h1 : dgt t b = false ∨ mi = true ∧ mk t b = [48]
  · rw [if_pos h1] at h
    cases h
  · rw [if_neg h1] at h
    have hdg : dgt t b = true := by
      cases hx : dgt t b with
      | true => rfl
      | false => exact absurd (.inl hx) h1
    generalize he : (if mk t b ≠ [48] ∧ dgt t (b + 1) = true then b + 2 else b + 1) = e0 at h
    obtain ⟨_, n2, _⟩ := num_read hdg he.symm
    have hbe : b < e0 := by
      rw [← he]
      split <;> omega
    by_cases h2 : dgt t e0 = true
    · rw [if_pos h2] at h
      cases h
    · rw [if_neg h2] at h
      injection h with h
      injection h with h3 h4
      subst h4
      refine ⟨by omega, ?_⟩
      rw [← h3]
      split <;> omega
theorem asc_app {x y : List Nat} (h : Asc x) (g : Asc y) : Asc (x ++ y) := fun c hc => (List.mem_append.mp hc).elim (h c) (g c)
theorem asc_nil : Asc [] := fun c hc => by cases hc
theorem mk_asc' {t : List Nat} (h : Asc t) (a : Nat) : Asc (mk t a) := fun c hc => h c (List.mem_of_mem_drop (List.mem_of_mem_take hc))
theorem grp_ok {ph : Nat → Rr} {t : List Nat} (g : Gd ph) : Gd1 (grp ph t) := by
  intro a w e h
  unfold grp at h
  cases hp : ph (a + 1) with
  | error i => rw [hp] at h; cases h
  | ok q =>
    obtain ⟨w1, e1⟩ := q
    rw [hp] at h
    obtain ⟨g1, g2, g3⟩ := g _ _ _ hp
    by_cases hm : mk t e1 = [41]
    · simp only [if_pos hm] at h
      injection h with h
      injection h with h3 h4
      subst h3
      exact ⟨by omega, g2, g3⟩
    · simp only [if_neg hm] at h
      cases h
theorem pr_ok {ph : Nat → Rr} {t : List Nat} (g : Gd ph) : Gd1 (pr ph t) := by
  intro a w e h
  unfold pr at h
  cases hp : ph (a + 1) with
  | error i => rw [hp] at h; cases h
  | ok q =>
    obtain ⟨w1, e1⟩ := q
    rw [hp] at h
    obtain ⟨g1, g2, g3⟩ := g _ _ _ hp
    by_cases hm : mk t e1 = [44]
    · simp only [if_pos hm] at h
      unfold pr2 at h
      cases hp2 : ph (e1 + 1) with
      | error i => rw [hp2] at h; cases h
      | ok q =>
        obtain ⟨w2, e2⟩ := q
        rw [hp2] at h
        obtain ⟨f1, f2, f3⟩ := g _ _ _ hp2
        by_cases hm2 : mk t e2 = [93]
        · simp only [if_pos hm2] at h
          injection h with h
          injection h with h3 h4
          subst h3
          exact ⟨by omega, ct_len _, ct_asc (asc_app (asc_app (asc_app g3 f3) (opp_asc g3)) (opp_asc f3))⟩
        · simp only [if_neg hm2] at h
          cases h
    · simp only [if_neg hm] at h
      cases h
theorem rdA_ok {ph : Nat → Rr} {L t : List Nat} {d : Nat} (hA : Asc t) (g : Gd ph) : Gd1 (rdA ph L t d) := by
  intro a w e h
  unfold rdA at h
  by_cases h1 : beg L t a d = false
  · rw [if_pos h1] at h
    cases h
  · rw [if_neg h1] at h
    by_cases h2 : mk t a = [40]
    · rw [if_pos h2] at h
      exact grp_ok g _ _ _ h
    · rw [if_neg h2] at h
      by_cases h3 : mk t a = [91]
      · rw [if_pos h3] at h
        exact pr_ok g _ _ _ h
      · rw [if_neg h3] at h
        by_cases h4 : mk t a = [49]
        · rw [if_pos h4] at h
          by_cases h5 : dgt t (a + 1) = true
          · rw [if_pos h5] at h
            cases h
          · rw [if_neg h5] at h
            injection h with h
            injection h with h6 h7
            subst h6
            exact ⟨by omega, by simp, asc_nil⟩
        · rw [if_neg h4] at h
          injection h with h
          injection h with h6 h7
          subst h6
          refine ⟨by omega, ?_, mk_asc' hA a⟩
          rcases mk_cases t a with z | ⟨c, z⟩
          · rw [z]; simp
          · rw [z]; simp
theorem rdF_ok {ph : Nat → Rr} {L t : List Nat} {d : Nat} (hA : Asc t) (g : Gd ph) : Gd1 (rdF ph L t d) := by
  intro a w e h
  unfold rdF at h
  cases hp : rdA ph L t d a with
  | error i => rw [hp] at h; cases h
  | ok q =>
    obtain ⟨w1, e1⟩ := q
    rw [hp] at h
    obtain ⟨g1, g2, g3⟩ := rdA_ok hA g _ _ _ hp
    by_cases hm : mk t (e1 + spn t e1) = [94]
    · simp only [if_pos hm] at h
      unfold fx at h
      cases hx : rdE t (e1 + spn t e1 + 1 + spn t (e1 + spn t e1 + 1)) with
      | error i => rw [hx] at h; cases h
      | ok q =>
        obtain ⟨x, e2⟩ := q
        rw [hx] at h
        obtain ⟨f1, _⟩ := rdE_ok hx
        injection h with h
        injection h with h3 h4
        subst h3
        exact ⟨by omega, pw_len _ _, pw_asc g3 _⟩
    · simp only [if_neg hm] at h
      injection h with h
      injection h with h3 h4
      subst h3
      exact ⟨by omega, g2, g3⟩
theorem rdL_ok {fa : Nat → Rr} {L t : List Nat} {d : Nat} (g : Gd1 fa) : ∀ (n a : Nat) (w : List Nat), w.length ≤ 401 → Asc w → ∀ w' e, rdL fa L t d n a w = .ok (w', e) → a ≤ e ∧ w'.length ≤ 401 ∧ Asc w'
  | 0, a, w, h1, h2, w', e, h => by
    injection h with h
    injection h with h3 h4
    subst h3
    exact ⟨by omega, h1, h2⟩
  | n + 1, a, w, h1, h2, w', e, h => by
    unfold rdL at h
    by_cases hb : beg L t a d = false
    · rw [if_pos hb] at h
      injection h with h
      injection h with h3 h4
      subst h3
      exact ⟨by omega, h1, h2⟩
    · rw [if_neg hb] at h
      cases hp : fa a with
      | error i => rw [hp] at h; cases h
      | ok q =>
        obtain ⟨f, e1⟩ := q
        rw [hp] at h
        obtain ⟨g1, g2, g3⟩ := g _ _ _ hp
        obtain ⟨k1, k2, k3⟩ := rdL_ok g n e1 (ct (w ++ f)) (ct_len _) (ct_asc (asc_app h2 g3)) w' e h
        exact ⟨by omega, k2, k3⟩
theorem rdP0_ok {fa : Nat → Rr} {L t : List Nat} {d : Nat} (g : Gd1 fa) : Gd (rdP0 fa L t d) := by
  intro a w e h
  unfold rdP0 at h
  cases hp : fa (a + spn t a) with
  | error i => rw [hp] at h; cases h
  | ok q =>
    obtain ⟨w1, e1⟩ := q
    rw [hp] at h
    obtain ⟨g1, g2, g3⟩ := g _ _ _ hp
    obtain ⟨k1, k2, k3⟩ := rdL_ok g _ _ _ g2 g3 _ _ h
    exact ⟨by omega, k2, k3⟩
theorem gd_none : Gd (fun _ => .error 0) := fun a w e h => by cases h
theorem rdP_ok {L t : List Nat} (hA : Asc t) : ∀ m, Gd (rdP L t m)
  | 0 => rdP0_ok (rdF_ok hA gd_none)
  | m + 1 => rdP0_ok (rdF_ok hA (rdP_ok hA m))
theorem sub_ok {L t : List Nat} (hA : Asc t) : ∀ m, Gd (sub L t m)
  | 0 => gd_none
  | m + 1 => rdP_ok hA m
end KA
set_option maxRecDepth 100000
set_option maxHeartbeats 4000000
namespace KA
open PySem PySem.Spec PyProof.Rows L2
def spR (C : Addr) (rd : List Nat → List Nat → Nat → Rr) (d : Nat) : Sp := fun vs H Q E => ∃ (t L : List Nat) (a : Nat) (p : Addr), vs = [tx t, .ref p, .int (a : Int), .int (d : Int)] ∧ t.length ≤ 9000 ∧ Asc t ∧ H p = some (.lst ((sg L).map one)) ∧ (∀ c ∈ L, 97 ≤ c ∧ c ≤ 122) ∧
  (∀ w e, rd L t a = .ok (w, e) → ∀ H' T, Same H H' → H T = none → H' T = some (.tup [tx w, .int (e : Int)]) → Q (.ref T) H') ∧ ∀ i, rd L t a = .error i → FlP C i H E
theorem S2_len {x y : List Nat} (h : x.length + y.length ≤ 100000) : (SX.S x).length + (SX.S y).length ≤ sizeLine := by
  rw [tx_len, tx_len]
  exact Nat.le_of_lt (big_lt h)
theorem grp_er {ph : Nat → Rr} {t : List Nat} {a i : Nat} (h : ph (a + 1) = .error i) : grp ph t a = .error i := by
  unfold grp
  rw [h]
theorem grp_y {ph : Nat → Rr} {t w : List Nat} {a e : Nat} (h : ph (a + 1) = .ok (w, e)) (hm : mk t e = [41]) : grp ph t a = .ok (w, e + 1) := by
  unfold grp
  rw [h]
  simp only [if_pos hm]
theorem grp_n {ph : Nat → Rr} {t w : List Nat} {a e : Nat} (h : ph (a + 1) = .ok (w, e)) (hm : mk t e ≠ [41]) : grp ph t a = .error e := by
  unfold grp
  rw [h]
  simp only [if_neg hm]
theorem pr_er {ph : Nat → Rr} {t : List Nat} {a i : Nat} (h : ph (a + 1) = .error i) : pr ph t a = .error i := by
  unfold pr
  rw [h]
theorem pr_n {ph : Nat → Rr} {t w : List Nat} {a e : Nat} (h : ph (a + 1) = .ok (w, e)) (hm : mk t e ≠ [44]) : pr ph t a = .error e := by
  unfold pr
  rw [h]
  simp only [if_neg hm]
theorem pr_y {ph : Nat → Rr} {t w : List Nat} {a e : Nat} (h : ph (a + 1) = .ok (w, e)) (hm : mk t e = [44]) : pr ph t a = pr2 ph t w e := by
  unfold pr
  rw [h]
  simp only [if_pos hm]
theorem pr2_er {ph : Nat → Rr} {t w : List Nat} {e i : Nat} (h : ph (e + 1) = .error i) : pr2 ph t w e = .error i := by
  unfold pr2
  rw [h]
theorem pr2_y {ph : Nat → Rr} {t w w2 : List Nat} {e e2 : Nat} (h : ph (e + 1) = .ok (w2, e2)) (hm : mk t e2 = [93]) : pr2 ph t w e = .ok (ct (w ++ w2 ++ opp w ++ opp w2), e2 + 1) := by
  unfold pr2
  rw [h]
  simp only [if_pos hm]
theorem pr2_n {ph : Nat → Rr} {t w w2 : List Nat} {e e2 : Nat} (h : ph (e + 1) = .ok (w2, e2)) (hm : mk t e2 ≠ [93]) : pr2 ph t w e = .error e2 := by
  unfold pr2
  rw [h]
  simp only [if_neg hm]
section
variable {P : Program} {w : World} {K : PySem.W.Frag} {mg : Str → Option Value} {base : Heap}
theorem ok_gr {f fP fC C : Addr} {fd fdP fdC : FuncData} {k j m : Nat} (F : Fun K "read_group" "read_group" sRGroup f fd) (hj : 3 ≤ j)
    (GP : FnOk P w K mg base (L2.CX P w) j fP fdP ["text", "signs", "at", "depth"] (spR C (fun L t => rdP L t m) (6 - m))) (kP : PySem.W.keepIn K (.ref fP) = true) (bP : Binds K fdP ["text", "signs", "at", "depth"] []) (gP : mg "read_phrase" = some (.ref fP))
    (GC : FnOk P w K mg base (L2.CX P w) 3 fC fdC ["text", "at", "mark"] (spCm C)) (kC : PySem.W.keepIn K (.ref fC) = true) (bC : Binds K fdC ["text", "at", "mark"] []) (gC : mg "check_mark" = some (.ref fC)) :
    FnOk P w K mg base (L2.CX P w) (j + 1) f fd ["text", "signs", "at", "depth"] (spR C (fun L t => grp (rdP L t m) t) (6 - m)) := by
  refine F.okX scRGroup (fun vs H Q E h => ?_) (fun cdv A outer s H vs Q E hr h => ?_)
  · obtain ⟨t, L, a, p, rfl, _⟩ := h
    rfl
  · obtain ⟨t, L, a, p, rfl, hl, hA, hp, hL, q, qe⟩ := h
    have r3 : Room 3 (A.deeper (envOfC "read_group" (defScope sRGroup) s.heap.objs.size f cdv)) := hr.mono (by omega)
    refine ⟨_, pss_cons (ps_asg (pe_call GP hr (by rfl) gP kP bP .nil (passes_call (W := fun cls d _ H => E cls d H) (takes_of rfl rfl rfl rfl) (fun _ _ _ _ h => h)) (pa_cons (pv 0) (pa_cons (pv 1) (pa_cons (pe_op op_add (pv 2) pe_int) (pa_cons (pv 3) pa_nil))))) (pg_tup rfl (pgs_cons (pg_name (i := 4) scRGroup.nd rfl (.inl rfl)) (pgs_cons (pg_name (i := 2) scRGroup.nd rfl (.inl rfl)) pgs_nil))))
      (pss_cons (ps_expr (pe_call GC r3 (by rfl) gC kC bC .nil (passes_call (W := fun cls d _ H => E cls d H) (takes_of rfl rfl rfl rfl) (fun _ _ _ _ h => h)) (pa_cons (pv 0) (pa_cons (pv 2) (pa_cons pe_str pa_nil)))))
      (pss_one (ps_ret (pe_tup (pa_cons (pv 4) (pa_cons (pe_op op_add (pv 2) pe_int) pa_nil)))))), ?_⟩
    refine ⟨_, rfl, _, rfl, _, rfl, _, _, rfl, rfl, _, rfl, t, L, a + 1, p, rfl, hl, hA, hp, hL, fun w e hrd H1 T s1 nT hT => ?_, fun i hi => qe i (grp_er hi)⟩
    refine ⟨T, _, rfl, SqT.of hT, rfl, _, _, rfl, _, _, rfl, rfl, ?_⟩
    refine ⟨_, rfl, _, rfl, t, e, 41, by rw [par41]; rfl, hl, fun hm => ?_, fun hm => (qe e (grp_n hrd hm)).of s1⟩
    refine ⟨_, rfl, _, rfl, _, _, rfl, rfl, (by show 2 ≤ sizeLine; decide), fun T2 nT2 => ?_⟩
    exact q w (e + 1) (grp_y hrd hm) _ T2 (s1.trans (same_new nT2)) (s1.free nT2) upd_same
theorem ok_pr {f fP fC fX fO C : Addr} {fd fdP fdC fdX fdO : FuncData} {k j m : Nat} (F : Fun K "read_pair" "read_pair" sRPair f fd) (hj : 3 ≤ j)
    (GP : FnOk P w K mg base (L2.CX P w) j fP fdP ["text", "signs", "at", "depth"] (spR C (fun L t => rdP L t m) (6 - m))) (kP : PySem.W.keepIn K (.ref fP) = true) (bP : Binds K fdP ["text", "signs", "at", "depth"] []) (gP : mg "read_phrase" = some (.ref fP))
    (GC : FnOk P w K mg base (L2.CX P w) 3 fC fdC ["text", "at", "mark"] (spCm C)) (kC : PySem.W.keepIn K (.ref fC) = true) (bC : Binds K fdC ["text", "at", "mark"] []) (gC : mg "check_mark" = some (.ref fC))
    (GX : FnOk P w K mg base CX0 1 fX fdX ["word"] spCut) (kX : PySem.W.keepIn K (.ref fX) = true) (bX : Binds K fdX ["word"] []) (gX : mg "cut" = some (.ref fX))
    (GO : FnOk P w K mg base CX0 1 fO fdO ["word"] spOpp) (kO : PySem.W.keepIn K (.ref fO) = true) (bO : Binds K fdO ["word"] []) (gO : mg "opposite" = some (.ref fO)) :
    FnOk P w K mg base (L2.CX P w) (j + 1) f fd ["text", "signs", "at", "depth"] (spR C (fun L t => pr (rdP L t m) t) (6 - m)) := by
  refine F.okX scRPair (fun vs H Q E h => ?_) (fun cdv A outer s H vs Q E hr h => ?_)
  · obtain ⟨t, L, a, p, rfl, _⟩ := h
    rfl
  · obtain ⟨t, L, a, p, rfl, hl, hA, hp, hL, q, qe⟩ := h
    have r3 : Room 3 (A.deeper (envOfC "read_pair" (defScope sRPair) s.heap.objs.size f cdv)) := hr.mono (by omega)
    have r1 : Room 1 (A.deeper (envOfC "read_pair" (defScope sRPair) s.heap.objs.size f cdv)) := hr.mono (by omega)
    refine ⟨_, pss_cons (ps_asg (pe_call GP hr (by rfl) gP kP bP .nil (passes_call (W := fun cls d _ H => E cls d H) (takes_of rfl rfl rfl rfl) (fun _ _ _ _ h => h)) (pa_cons (pv 0) (pa_cons (pv 1) (pa_cons (pe_op op_add (pv 2) pe_int) (pa_cons (pv 3) pa_nil))))) (pg_tup rfl (pgs_cons (pg_name (i := 4) scRPair.nd rfl (.inl rfl)) (pgs_cons (pg_name (i := 2) scRPair.nd rfl (.inl rfl)) pgs_nil))))
      (pss_cons (ps_expr (pe_call GC r3 (by rfl) gC kC bC .nil (passes_call (W := fun cls d _ H => E cls d H) (takes_of rfl rfl rfl rfl) (fun _ _ _ _ h => h)) (pa_cons (pv 0) (pa_cons (pv 2) (pa_cons pe_str pa_nil)))))
      (pss_cons (ps_asg (pe_call GP hr (by rfl) gP kP bP .nil (passes_call (W := fun cls d _ H => E cls d H) (takes_of rfl rfl rfl rfl) (fun _ _ _ _ h => h)) (pa_cons (pv 0) (pa_cons (pv 1) (pa_cons (pe_op op_add (pv 2) pe_int) (pa_cons (pv 3) pa_nil))))) (pg_tup rfl (pgs_cons (pg_name (i := 5) scRPair.nd rfl (.inl rfl)) (pgs_cons (pg_name (i := 2) scRPair.nd rfl (.inl rfl)) pgs_nil))))
      (pss_cons (ps_expr (pe_call GC r3 (by rfl) gC kC bC .nil (passes_call (W := fun cls d _ H => E cls d H) (takes_of rfl rfl rfl rfl) (fun _ _ _ _ h => h)) (pa_cons (pv 0) (pa_cons (pv 2) (pa_cons pe_str pa_nil)))))
      (pss_one (ps_ret (pe_tup (pa_cons (pe_call GX r1 (by rfl) gX kX bX .nil pass0 (pa_cons (pe_op op_add_str (pe_op op_add_str (pe_op op_add_str (pv 4) (pv 5)) (pe_call GO r1 (by rfl) gO kO bO .nil pass0 (pa_cons (pv 4) pa_nil))) (pe_call GO r1 (by rfl) gO kO bO .nil pass0 (pa_cons (pv 5) pa_nil))) pa_nil)) (pa_cons (pe_op op_add (pv 2) pe_int) pa_nil)))))))), ?_⟩
    refine ⟨_, rfl, _, rfl, _, rfl, _, _, rfl, rfl, _, rfl, t, L, a + 1, p, rfl, hl, hA, hp, hL, fun w1 e1 hrd H1 T s1 nT hT => ?_, fun i hi => qe i (pr_er hi)⟩
    refine ⟨T, _, rfl, SqT.of hT, rfl, _, _, rfl, _, _, rfl, rfl, ?_⟩
    refine ⟨_, rfl, _, rfl, t, e1, 44, by rw [com44]; rfl, hl, fun hm => ?_, fun hm => (qe e1 (pr_n hrd hm)).of s1⟩
    refine ⟨_, rfl, _, rfl, _, rfl, _, _, rfl, rfl, _, rfl, t, L, e1 + 1, p, rfl, hl, hA, s1 _ _ hp, hL, fun w2 e2 hrd2 H2 T2 s2 nT2 hT2 => ?_, fun i hi => (qe i ((pr_y hrd hm).trans (pr2_er hi))).of s1⟩
    have s12 := s1.trans s2
    refine ⟨T2, _, rfl, SqT.of hT2, rfl, _, _, rfl, _, _, rfl, rfl, ?_⟩
    refine ⟨_, rfl, _, rfl, t, e2, 93, by rw [par93]; rfl, hl, fun hm2 => ?_, fun hm2 => (qe e2 ((pr_y hrd hm).trans (pr2_n hrd2 hm2))).of s12⟩
    obtain ⟨_, g2, g3⟩ := rdP_ok hA m _ _ _ hrd
    obtain ⟨_, f2, f3⟩ := rdP_ok hA m _ _ _ hrd2
    refine ⟨_, rfl, _, rfl, _, _, rfl, rfl, S2_len (by omega), ?_⟩
    rw [SX.S_cat]
    refine ⟨_, rfl, w1, rfl, by omega, g3, _, _, rfl, rfl, S2_len (by rw [List.length_append, opp_len]; omega), ?_⟩
    rw [SX.S_cat]
    refine ⟨_, rfl, w2, rfl, by omega, f3, _, _, rfl, rfl, S2_len (by rw [List.length_append, List.length_append, opp_len, opp_len]; omega), ?_⟩
    rw [SX.S_cat]
    refine ⟨_, rfl, by rw [List.length_append, List.length_append, List.length_append, opp_len, opp_len]; omega, _, rfl, _, _, rfl, rfl, (by show 2 ≤ sizeLine; decide), fun T3 nT3 => ?_⟩
    exact q _ (e2 + 1) ((pr_y hrd hm).trans (pr2_y hrd2 hm2)) _ T3 (s12.trans (same_new nT3)) (s12.free nT3) upd_same
end
end KA
set_option maxRecDepth 100000
set_option maxHeartbeats 4000000
namespace KA
open PySem PySem.Spec PyProof.Rows L2
theorem menu_low : ∀ c ∈ menu, 97 ≤ c ∧ c ≤ 122 := by decide
theorem sg_no {L : List Nat} (hL : ∀ c ∈ L, 97 ≤ c ∧ c ≤ 122) {x : Nat} (h : x ∈ sg L) : x ≠ 40 ∧ x ≠ 91 ∧ x ≠ 49 := by
  obtain ⟨c, hc, hx⟩ := List.mem_flatMap.mp h
  have hm := hL c hc
  have hx : x = c ∨ x = c - 32 := by simpa using hx
  omega
theorem eqm {c d : Nat} {z : Str} (hz : z = SX.S [d]) : decide (tx [c] = V.str z) = decide (c = d) := by
  rw [hz]
  refine (tx_eq (a := [c]) (b := [d])).trans ?_
  simp
theorem rdA_b {ph : Nat → Rr} {L t : List Nat} {d a : Nat} (h : beg L t a d = false) : rdA ph L t d a = .error a := if_pos h
theorem rdA_t {ph : Nat → Rr} {L t : List Nat} {d a c : Nat} (h : beg L t a d = true) (hc : mk t a = [c]) :
    rdA ph L t d a = if c = 40 then grp ph t a else if c = 91 then pr ph t a else if c = 49 then (if dgt t (a + 1) = true then .error (a + 1) else .ok ([], a + 1)) else .ok ([c], a + 1) := by
  unfold rdA
  rw [h, hc]
  simp
theorem beg_mk {L t : List Nat} {a d : Nat} (h : beg L t a d = true) : ∃ c, mk t a = [c] ∧ (c ∈ sg L ∨ c = 49 ∨ ((c = 40 ∨ c = 91) ∧ d < 6)) := by
  unfold beg at h
  rcases mk_cases t a with e | ⟨c, e⟩
  · rw [e] at h
    cases h
  · rw [e] at h
    refine ⟨c, e, ?_⟩
    simpa using h
section
variable {P : Program} {w : World} {K : PySem.W.Frag} {mg : Str → Option Value} {base : Heap}
theorem ok_at0 {f fB fN fG fR C fI : Addr} {fd fdB fdN fdG fdR fdI : FuncData} (F : Fun K "read_atom" "read_atom" sRAtom f fd) (RR : Pe P w K mg base C fI fdI) (GB : FnOk P w K mg base CX0 2 fB fdB ["text", "signs", "at", "depth"] spBa) (kB : PySem.W.keepIn K (.ref fB) = true) (bB : Binds K fdB ["text", "signs", "at", "depth"] []) (gB : mg "begins_atom" = some (.ref fB))
    (GN : FnOk P w K mg base (L2.CX P w) 3 fN fdN ["text", "at"] (spNd C)) (kN : PySem.W.keepIn K (.ref fN) = true) (bN : Binds K fdN ["text", "at"] []) (gN : mg "check_no_digit" = some (.ref fN))  :
    FnOk P w K mg base (L2.CX P w) 4 f fd ["text", "signs", "at", "depth"] (spR C (fun L t => rdA (sub L t 0) L t (6 - 0)) (6 - 0)) := by
  refine F.okX scRAtom (fun vs H Q E h => ?_) (fun cdv A outer s H vs Q E hr h => ?_)
  · obtain ⟨t, L, a, p, rfl, _⟩ := h
    rfl
  · obtain ⟨t, L, a, p, rfl, hl, hA, hp, hL, q, qe⟩ := h
    have r3 : Room 3 (A.deeper (envOfC "read_atom" (defScope sRAtom) s.heap.objs.size f cdv)) := hr.mono (by omega)
    have r2 : Room 2 (A.deeper (envOfC "read_atom" (defScope sRAtom) s.heap.objs.size f cdv)) := hr.mono (by omega)
    refine ⟨_, pss_cons (ps_if (pt_not (pt_val (pe_call GB r2 (by rfl) gB kB bB .nil pass0 (pa_cons (pv 0) (pa_cons (pv 1) (pa_cons (pv 2) (pa_cons (pv 3) pa_nil))))))) (pss_one (s_raise (E := E) RR.T RR.G RR.b r2 rfl (takes_of rfl rfl rfl rfl) (by rfl) (pv 2) pass0 var_mono)) pss_nil)
      (pss_cons (ps_set (i := 4) scRAtom.nd rfl (.inl rfl) (pe_ix ix_str (pv 0) (pv 2) (fun _ _ => rfl)))
      (pss_cons (ps_if (pt_cmpR op_eq (pv 4) pe_str (nomark _)) pss_never pss_nil)
      (pss_cons (ps_if (pt_cmpR op_eq (pv 4) pe_str (nomark _)) pss_never pss_nil)
      (pss_cons (ps_if (pt_cmpR op_eq (pv 4) pe_str (nomark _))
        (pss_cons (ps_expr (pe_call GN r3 (by rfl) gN kN bN .nil (passes_call (W := fun cls d _ H => E cls d H) (takes_of rfl rfl rfl rfl) (fun _ _ _ _ h => h)) (pa_cons (pv 0) (pa_cons (pe_op op_add (pv 2) pe_int) pa_nil)))) (pss_one (ps_ret (pe_tup (pa_cons pe_str (pa_cons (pe_op op_add (pv 2) pe_int) pa_nil)))))) pss_nil)
      (pss_one (ps_ret (pe_tup (pa_cons (pv 4) (pa_cons (pe_op op_add (pv 2) pe_int) pa_nil))))))))), ?_⟩
    refine ⟨_, rfl, _, rfl, _, rfl, _, rfl, t, L, a, p, 6 - 0, rfl, hl, hp, fun H1 s1 => ⟨_, rfl, ?_⟩⟩
    cases hb : beg L t a (6 - 0) with
    | false => exact iteT ⟨_, rfl, (qe a (rdA_b hb)).of s1⟩
    | true =>
      obtain ⟨c, hc, hcs⟩ := beg_mk hb
      have erd := rdA_t (ph := sub L t 0) hb hc
      have hat : atI (SX.S t).cps.toList (a : Int) = some c := by
        refine atS ?_
        have z : (mk t a)[0]? = some c := by rw [hc]; rfl
        unfold mk at z
        rw [List.getElem?_take_of_lt (by decide), List.getElem?_drop] at z
        exact z
      refine iteF ⟨_, rfl, _, rfl, _, _, c, rfl, rfl, asc_big (by omega), hat, ?_⟩
      have hno : c ≠ 40 ∧ c ≠ 91 := by
        rcases hcs with h1 | h1 | h1
        · exact ⟨(sg_no hL h1).1, (sg_no hL h1).2.1⟩
        · omega
        · exact absurd h1.2 (by decide)
      rw [if_neg hno.1, if_neg hno.2] at erd
      refine ⟨_, rfl, rfl, false, congrArg V.bl ((eqm par40).trans (decide_eq_false hno.1)), iteF ?_⟩
      refine ⟨_, rfl, rfl, false, congrArg V.bl ((eqm par91).trans (decide_eq_false hno.2)), iteF ?_⟩
      refine ⟨_, rfl, rfl, _, rfl, ?_⟩
      rw [eqm one49]
      refine ite2 (fun e49 => ?_) (fun e49 => ?_)
      · rw [if_pos (of_decide_eq_true e49)] at erd
        refine ⟨_, rfl, _, rfl, _, _, rfl, rfl, t, a + 1, rfl, hl, hA, fun hd => ?_, fun hd => ?_⟩
        · rw [hd, if_neg Bool.false_ne_true] at erd
          refine ⟨_, rfl, _, _, rfl, rfl, (by show 2 ≤ sizeLine; decide), fun T nT => ?_⟩
          rw [e0S]
          exact q [] (a + 1) erd _ T (s1.trans (same_new nT)) (s1.free nT) upd_same
        · rw [hd, if_pos rfl] at erd
          exact (qe (a + 1) erd).of s1
      · rw [if_neg (fun z => e49 (decide_eq_true z))] at erd
        refine ⟨_, rfl, _, rfl, _, _, rfl, rfl, (by show 2 ≤ sizeLine; decide), fun T nT => ?_⟩
        exact q [c] (a + 1) erd _ T (s1.trans (same_new nT)) (s1.free nT) upd_same
theorem ok_atS {f fB fN fG fR C fI : Addr} {fd fdB fdN fdG fdR fdI : FuncData} {m j : Nat} (F : Fun K "read_atom" "read_atom" sRAtom f fd) (RR : Pe P w K mg base C fI fdI) (GB : FnOk P w K mg base CX0 2 fB fdB ["text", "signs", "at", "depth"] spBa) (kB : PySem.W.keepIn K (.ref fB) = true) (bB : Binds K fdB ["text", "signs", "at", "depth"] []) (gB : mg "begins_atom" = some (.ref fB))
    (GN : FnOk P w K mg base (L2.CX P w) 3 fN fdN ["text", "at"] (spNd C)) (kN : PySem.W.keepIn K (.ref fN) = true) (bN : Binds K fdN ["text", "at"] []) (gN : mg "check_no_digit" = some (.ref fN)) (hm : m + 1 ≤ 6) (hj : 3 ≤ j)
    (GG : FnOk P w K mg base (L2.CX P w) j fG fdG ["text", "signs", "at", "depth"] (spR C (fun L t => grp (rdP L t m) t) (6 - m))) (kG : PySem.W.keepIn K (.ref fG) = true) (bG : Binds K fdG ["text", "signs", "at", "depth"] []) (gG : mg "read_group" = some (.ref fG))
    (GR : FnOk P w K mg base (L2.CX P w) j fR fdR ["text", "signs", "at", "depth"] (spR C (fun L t => pr (rdP L t m) t) (6 - m))) (kR : PySem.W.keepIn K (.ref fR) = true) (bR : Binds K fdR ["text", "signs", "at", "depth"] []) (gR : mg "read_pair" = some (.ref fR)) :
    FnOk P w K mg base (L2.CX P w) (j + 1) f fd ["text", "signs", "at", "depth"] (spR C (fun L t => rdA (sub L t (m + 1)) L t (6 - (m + 1))) (6 - (m + 1))) := by
  refine F.okX scRAtom (fun vs H Q E h => ?_) (fun cdv A outer s H vs Q E hr h => ?_)
  · obtain ⟨t, L, a, p, rfl, _⟩ := h
    rfl
  · obtain ⟨t, L, a, p, rfl, hl, hA, hp, hL, q, qe⟩ := h
    have r3 : Room 3 (A.deeper (envOfC "read_atom" (defScope sRAtom) s.heap.objs.size f cdv)) := hr.mono (by omega)
    have r2 : Room 2 (A.deeper (envOfC "read_atom" (defScope sRAtom) s.heap.objs.size f cdv)) := hr.mono (by omega)
    refine ⟨_, pss_cons (ps_if (pt_not (pt_val (pe_call GB r2 (by rfl) gB kB bB .nil pass0 (pa_cons (pv 0) (pa_cons (pv 1) (pa_cons (pv 2) (pa_cons (pv 3) pa_nil))))))) (pss_one (s_raise (E := E) RR.T RR.G RR.b r2 rfl (takes_of rfl rfl rfl rfl) (by rfl) (pv 2) pass0 var_mono)) pss_nil)
      (pss_cons (ps_set (i := 4) scRAtom.nd rfl (.inl rfl) (pe_ix ix_str (pv 0) (pv 2) (fun _ _ => rfl)))
      (pss_cons (ps_if (pt_cmpR op_eq (pv 4) pe_str (nomark _)) (pss_one (ps_ret (pe_call GG hr (by rfl) gG kG bG .nil (passes_call (W := fun cls d _ H => E cls d H) (takes_of rfl rfl rfl rfl) (fun _ _ _ _ h => h)) (pa_cons (pv 0) (pa_cons (pv 1) (pa_cons (pv 2) (pa_cons (pe_op op_add (pv 3) pe_int) pa_nil))))))) pss_nil)
      (pss_cons (ps_if (pt_cmpR op_eq (pv 4) pe_str (nomark _)) (pss_one (ps_ret (pe_call GR hr (by rfl) gR kR bR .nil (passes_call (W := fun cls d _ H => E cls d H) (takes_of rfl rfl rfl rfl) (fun _ _ _ _ h => h)) (pa_cons (pv 0) (pa_cons (pv 1) (pa_cons (pv 2) (pa_cons (pe_op op_add (pv 3) pe_int) pa_nil))))))) pss_nil)
      (pss_cons (ps_if (pt_cmpR op_eq (pv 4) pe_str (nomark _))
        (pss_cons (ps_expr (pe_call GN r3 (by rfl) gN kN bN .nil (passes_call (W := fun cls d _ H => E cls d H) (takes_of rfl rfl rfl rfl) (fun _ _ _ _ h => h)) (pa_cons (pv 0) (pa_cons (pe_op op_add (pv 2) pe_int) pa_nil)))) (pss_one (ps_ret (pe_tup (pa_cons pe_str (pa_cons (pe_op op_add (pv 2) pe_int) pa_nil)))))) pss_nil)
      (pss_one (ps_ret (pe_tup (pa_cons (pv 4) (pa_cons (pe_op op_add (pv 2) pe_int) pa_nil))))))))), ?_⟩
    refine ⟨_, rfl, _, rfl, _, rfl, _, rfl, t, L, a, p, 6 - (m + 1), rfl, hl, hp, fun H1 s1 => ⟨_, rfl, ?_⟩⟩
    cases hb : beg L t a (6 - (m + 1)) with
    | false => exact iteT ⟨_, rfl, (qe a (rdA_b hb)).of s1⟩
    | true =>
      obtain ⟨c, hc, hcs⟩ := beg_mk hb
      have erd := rdA_t (ph := sub L t (m + 1)) hb hc
      have hat : atI (SX.S t).cps.toList (a : Int) = some c := by
        refine atS ?_
        have z : (mk t a)[0]? = some c := by rw [hc]; rfl
        unfold mk at z
        rw [List.getElem?_take_of_lt (by decide), List.getElem?_drop] at z
        exact z
      refine iteF ⟨_, rfl, _, rfl, _, _, c, rfl, rfl, asc_big (by omega), hat, ?_⟩
      have ed : (((6 - (m + 1) : Nat) : Int) + 1) = ((6 - m : Nat) : Int) := by omega
      refine ⟨_, rfl, rfl, _, rfl, ?_⟩
      rw [eqm par40]
      refine ite2 (fun e40 => ?_) (fun e40 => ?_)
      · have h40 : c = 40 := of_decide_eq_true e40
        rw [if_pos h40] at erd
        refine ⟨_, rfl, _, rfl, _, rfl, _, rfl, _, _, rfl, rfl, t, L, a, p, ?_, hl, hA, s1 _ _ hp, hL, fun w e hrd H2 T s2 nT hT => ?_, fun i hi => (qe i (erd.trans hi)).of s1⟩
        · show [tx t, V.ref p, V.int (a : Int), V.int (((6 - (m + 1) : Nat) : Int) + 1)] = _
          rw [ed]
        · exact q w e (erd.trans hrd) H2 T (s1.trans s2) (s1.free nT) hT
      have h40 : c ≠ 40 := fun z => e40 (decide_eq_true z)
      rw [if_neg h40] at erd
      refine ⟨_, rfl, rfl, _, rfl, ?_⟩
      rw [eqm par91]
      refine ite2 (fun e91 => ?_) (fun e91 => ?_)
      · have h91 : c = 91 := of_decide_eq_true e91
        rw [if_pos h91] at erd
        refine ⟨_, rfl, _, rfl, _, rfl, _, rfl, _, _, rfl, rfl, t, L, a, p, ?_, hl, hA, s1 _ _ hp, hL, fun w e hrd H2 T s2 nT hT => ?_, fun i hi => (qe i (erd.trans hi)).of s1⟩
        · show [tx t, V.ref p, V.int (a : Int), V.int (((6 - (m + 1) : Nat) : Int) + 1)] = _
          rw [ed]
        · exact q w e (erd.trans hrd) H2 T (s1.trans s2) (s1.free nT) hT
      have h91 : c ≠ 91 := fun z => e91 (decide_eq_true z)
      rw [if_neg h91] at erd
      refine ⟨_, rfl, rfl, _, rfl, ?_⟩
      rw [eqm one49]
      refine ite2 (fun e49 => ?_) (fun e49 => ?_)
      · rw [if_pos (of_decide_eq_true e49)] at erd
        refine ⟨_, rfl, _, rfl, _, _, rfl, rfl, t, a + 1, rfl, hl, hA, fun hd => ?_, fun hd => ?_⟩
        · rw [hd, if_neg Bool.false_ne_true] at erd
          refine ⟨_, rfl, _, _, rfl, rfl, (by show 2 ≤ sizeLine; decide), fun T nT => ?_⟩
          rw [e0S]
          exact q [] (a + 1) erd _ T (s1.trans (same_new nT)) (s1.free nT) upd_same
        · rw [hd, if_pos rfl] at erd
          exact (qe (a + 1) erd).of s1
      · rw [if_neg (fun z => e49 (decide_eq_true z))] at erd
        refine ⟨_, rfl, _, rfl, _, _, rfl, rfl, (by show 2 ≤ sizeLine; decide), fun T nT => ?_⟩
        exact q [c] (a + 1) erd _ T (s1.trans (same_new nT)) (s1.free nT) upd_same
end
end KA
set_option maxRecDepth 100000
set_option maxHeartbeats 4000000
namespace KA
open PySem PySem.Spec PyProof.Rows L2
theorem rdF_er {ph : Nat → Rr} {L t : List Nat} {d a i : Nat} (h : rdA ph L t d a = .error i) : rdF ph L t d a = .error i := by
  unfold rdF
  rw [h]
theorem rdF_n {ph : Nat → Rr} {L t w : List Nat} {d a e : Nat} (h : rdA ph L t d a = .ok (w, e)) (hm : mk t (e + spn t e) ≠ [94]) : rdF ph L t d a = .ok (w, e + spn t e) := by
  unfold rdF
  rw [h]
  simp only [if_neg hm]
theorem rdF_y {ph : Nat → Rr} {L t w : List Nat} {d a e : Nat} (h : rdA ph L t d a = .ok (w, e)) (hm : mk t (e + spn t e) = [94]) : rdF ph L t d a = fx t w (e + spn t e) := by
  unfold rdF
  rw [h]
  simp only [if_pos hm]
theorem fx_er {t w : List Nat} {e i : Nat} (h : rdE t (e + 1 + spn t (e + 1)) = .error i) : fx t w e = .error i := by
  unfold fx
  rw [h]
theorem fx_ok {t w : List Nat} {e e2 : Nat} {x : Int} (h : rdE t (e + 1 + spn t (e + 1)) = .ok (x, e2)) : fx t w e = .ok (pw w x, e2 + spn t e2) := by
  unfold fx
  rw [h]
theorem rdL_stop {fa : Nat → Rr} {L t : List Nat} {d a : Nat} {w : List Nat} (h : beg L t a d = false) : ∀ n, rdL fa L t d n a w = .ok (w, a)
  | 0 => rfl
  | n + 1 => if_pos h
theorem rdL_er {fa : Nat → Rr} {L t : List Nat} {d a n i : Nat} {w : List Nat} (h : beg L t a d = true) (hf : fa a = .error i) : rdL fa L t d (n + 1) a w = .error i := by
  unfold rdL
  rw [h, if_neg (by decide), hf]
theorem rdL_ok2 {fa : Nat → Rr} {L t : List Nat} {d a n e : Nat} {w f : List Nat} (h : beg L t a d = true) (hf : fa a = .ok (f, e)) : rdL fa L t d (n + 1) a w = rdL fa L t d n e (ct (w ++ f)) := by
  conv => lhs; unfold rdL
  rw [h, if_neg (by decide), hf]
theorem rdP0_er {fa : Nat → Rr} {L t : List Nat} {d a i : Nat} (h : fa (a + spn t a) = .error i) : rdP0 fa L t d a = .error i := by
  unfold rdP0
  rw [h]
theorem rdP0_y {fa : Nat → Rr} {L t w : List Nat} {d a e : Nat} (h : fa (a + spn t a) = .ok (w, e)) : rdP0 fa L t d a = rdL fa L t d (t.length + 2) e w := by
  unfold rdP0
  rw [h]
section
variable {P : Program} {w : World} {K : PySem.W.Frag} {mg : Str → Option Value} {base : Heap}
theorem ok_fa {f fA fS fM fE fW C : Addr} {fd fdA fdS fdM fdE fdW : FuncData} {m j : Nat} (F : Fun K "read_factor" "read_factor" sRFactor f fd) (hj : 4 ≤ j)
    (GA : FnOk P w K mg base (L2.CX P w) j fA fdA ["text", "signs", "at", "depth"] (spR C (fun L t => rdA (sub L t m) L t (6 - m)) (6 - m))) (kA : PySem.W.keepIn K (.ref fA) = true) (bA : Binds K fdA ["text", "signs", "at", "depth"] []) (gA : mg "read_atom" = some (.ref fA))
    (GS : FnOk P w K mg base CX0 2 fS fdS ["text", "at"] spBs) (kS : PySem.W.keepIn K (.ref fS) = true) (bS : Binds K fdS ["text", "at"] []) (gS : mg "behind_spaces" = some (.ref fS))
    (GM : FnOk P w K mg base CX0 1 fM fdM ["text", "at"] spMk) (kM : PySem.W.keepIn K (.ref fM) = true) (bM : Binds K fdM ["text", "at"] []) (gM : mg "mark_at" = some (.ref fM))
    (GE : FnOk P w K mg base (L2.CX P w) 4 fE fdE ["text", "at"] (spEx C)) (kE : PySem.W.keepIn K (.ref fE) = true) (bE : Binds K fdE ["text", "at"] []) (gE : mg "read_exponent" = some (.ref fE))
    (GW : FnOk P w K mg base CX0 2 fW fdW ["word", "exponent"] spPow) (kW : PySem.W.keepIn K (.ref fW) = true) (bW : Binds K fdW ["word", "exponent"] []) (gW : mg "power" = some (.ref fW)) :
    FnOk P w K mg base (L2.CX P w) (j + 1) f fd ["text", "signs", "at", "depth"] (spR C (fun L t => rdF (sub L t m) L t (6 - m)) (6 - m)) := by
  refine F.okX scRFactor (fun vs H Q E h => ?_) (fun cdv A outer s H vs Q E hr h => ?_)
  · obtain ⟨t, L, a, p, rfl, _⟩ := h
    rfl
  · obtain ⟨t, L, a, p, rfl, hl, hA, hp, hL, q, qe⟩ := h
    have r1 : Room 1 (A.deeper (envOfC "read_factor" (defScope sRFactor) s.heap.objs.size f cdv)) := hr.mono (by omega)
    have r2 : Room 2 (A.deeper (envOfC "read_factor" (defScope sRFactor) s.heap.objs.size f cdv)) := hr.mono (by omega)
    have r4 : Room 4 (A.deeper (envOfC "read_factor" (defScope sRFactor) s.heap.objs.size f cdv)) := hr.mono (by omega)
    refine ⟨_, pss_cons (ps_asg (pe_call GA hr (by rfl) gA kA bA .nil (passes_call (W := fun cls d _ H => E cls d H) (takes_of rfl rfl rfl rfl) (fun _ _ _ _ h => h)) (pa_cons (pv 0) (pa_cons (pv 1) (pa_cons (pv 2) (pa_cons (pv 3) pa_nil))))) (pg_tup rfl (pgs_cons (pg_name (i := 4) scRFactor.nd rfl (.inl rfl)) (pgs_cons (pg_name (i := 2) scRFactor.nd rfl (.inl rfl)) pgs_nil))))
      (pss_cons (ps_set (i := 2) scRFactor.nd rfl (.inl rfl) (pe_call GS r2 (by rfl) gS kS bS .nil pass0 (pa_cons (pv 0) (pa_cons (pv 2) pa_nil))))
      (pss_cons (ps_if (pt_cmpR op_ne (pe_call GM r1 (by rfl) gM kM bM .nil pass0 (pa_cons (pv 0) (pa_cons (pv 2) pa_nil))) pe_str (nomark _)) (pss_one (ps_ret (pe_tup (pa_cons (pv 4) (pa_cons (pv 2) pa_nil))))) pss_nil)
      (pss_cons (ps_asg (pe_call GE r4 (by rfl) gE kE bE .nil (passes_call (W := fun cls d _ H => E cls d H) (takes_of rfl rfl rfl rfl) (fun _ _ _ _ h => h)) (pa_cons (pv 0) (pa_cons (pe_call GS r2 (by rfl) gS kS bS .nil pass0 (pa_cons (pv 0) (pa_cons (pe_op op_add (pv 2) pe_int) pa_nil))) pa_nil))) (pg_tup rfl (pgs_cons (pg_name (i := 5) scRFactor.nd rfl (.inl rfl)) (pgs_cons (pg_name (i := 2) scRFactor.nd rfl (.inl rfl)) pgs_nil))))
      (pss_one (ps_ret (pe_tup (pa_cons (pe_call GW r2 (by rfl) gW kW bW .nil pass0 (pa_cons (pv 4) (pa_cons (pv 5) pa_nil))) (pa_cons (pe_call GS r2 (by rfl) gS kS bS .nil pass0 (pa_cons (pv 0) (pa_cons (pv 2) pa_nil))) pa_nil)))))))), ?_⟩
    refine ⟨_, rfl, _, rfl, _, rfl, _, rfl, t, L, a, p, rfl, hl, hA, hp, hL, fun w e hrd H1 T s1 nT hT => ?_, fun i hi => qe i (rdF_er hi)⟩
    obtain ⟨_, g2, g3⟩ := rdA_ok hA (sub_ok hA m) _ _ _ hrd
    refine ⟨T, _, rfl, SqT.of hT, rfl, _, _, rfl, _, _, rfl, rfl, ?_⟩
    refine ⟨_, rfl, _, rfl, t, e, rfl, hl, ?_⟩
    refine ⟨_, rfl, _, rfl, t, e + spn t e, rfl, hl, rfl, _, rfl, ?_⟩
    rw [caret, tx_eq]
    by_cases hm : mk t (e + spn t e) = [94]
    · rw [decide_eq_true hm]
      refine iteF ⟨_, rfl, _, rfl, _, rfl, _, _, rfl, rfl, t, e + spn t e + 1, rfl, hl, t, _, rfl, hl, hA, fun x e2 hx T2 nT2 => ?_, fun i hi => (qe i ((rdF_y hrd hm).trans (fx_er hi))).of s1⟩
      obtain ⟨_, hx2⟩ := rdE_ok hx
      refine ⟨T2, _, rfl, SqT.of upd_same, rfl, _, _, rfl, _, _, rfl, rfl, ?_⟩
      refine ⟨_, rfl, _, rfl, w, x, rfl, g2, g3, hx2, _, rfl, _, rfl, t, e2, rfl, hl, (by show 2 ≤ sizeLine; decide), fun T3 nT3 => ?_⟩
      have s2 := s1.trans (same_new (o := .tup [.int x, .int (e2 : Int)]) nT2)
      exact q _ _ ((rdF_y hrd hm).trans (fx_ok hx)) _ T3 (s2.trans (same_new nT3)) (s2.free nT3) upd_same
    · rw [decide_eq_false hm]
      refine iteT ⟨_, rfl, _, rfl, (by show 2 ≤ sizeLine; decide), fun T2 nT2 => ?_⟩
      exact q _ _ (rdF_n hrd hm) _ T2 (s1.trans (same_new nT2)) (s1.free nT2) upd_same
theorem ok_ph {f fF fS fB fX C : Addr} {fd fdF fdS fdB fdX : FuncData} {m j : Nat} (F : Fun K "read_phrase" "read_phrase" sRPhrase f fd) (hj : 4 ≤ j)
    (GF : FnOk P w K mg base (L2.CX P w) j fF fdF ["text", "signs", "at", "depth"] (spR C (fun L t => rdF (sub L t m) L t (6 - m)) (6 - m))) (kF : PySem.W.keepIn K (.ref fF) = true) (bF : Binds K fdF ["text", "signs", "at", "depth"] []) (gF : mg "read_factor" = some (.ref fF))
    (GS : FnOk P w K mg base CX0 2 fS fdS ["text", "at"] spBs) (kS : PySem.W.keepIn K (.ref fS) = true) (bS : Binds K fdS ["text", "at"] []) (gS : mg "behind_spaces" = some (.ref fS))
    (GB : FnOk P w K mg base CX0 2 fB fdB ["text", "signs", "at", "depth"] spBa) (kB : PySem.W.keepIn K (.ref fB) = true) (bB : Binds K fdB ["text", "signs", "at", "depth"] []) (gB : mg "begins_atom" = some (.ref fB))
    (GX : FnOk P w K mg base CX0 1 fX fdX ["word"] spCut) (kX : PySem.W.keepIn K (.ref fX) = true) (bX : Binds K fdX ["word"] []) (gX : mg "cut" = some (.ref fX)) :
    FnOk P w K mg base (L2.CX P w) (j + 1) f fd ["text", "signs", "at", "depth"] (spR C (fun L t => rdP L t m) (6 - m)) := by
  refine F.okX scRPhrase (fun vs H Q E h => ?_) (fun cdv A outer s H vs Q E hr h => ?_)
  · obtain ⟨t, L, a, p, rfl, _⟩ := h
    rfl
  · obtain ⟨t, L, a, p, rfl, hl, hA, hp, hL, q, qe⟩ := h
    have r1 : Room 1 (A.deeper (envOfC "read_phrase" (defScope sRPhrase) s.heap.objs.size f cdv)) := hr.mono (by omega)
    have r2 : Room 2 (A.deeper (envOfC "read_phrase" (defScope sRPhrase) s.heap.objs.size f cdv)) := hr.mono (by omega)
    have eP : rdP L t m a = rdP0 (rdF (sub L t m) L t (6 - m)) L t (6 - m) a := congrFun (rdP_eq L t m) a
    have hGd : Gd1 (rdF (sub L t m) L t (6 - m)) := rdF_ok hA (sub_ok hA m)
    have q : ∀ w e, rdP L t m a = .ok (w, e) → ∀ H' T, Same H H' → H T = none → H' T = some (.tup [tx w, .int (e : Int)]) → Q (.ref T) H' := q
    have qe : ∀ i, rdP L t m a = .error i → FlP C i H E := qe
    generalize hd : 6 - m = d at *
    obtain ⟨t2, P2, R2⟩ : ∃ t2, PSs (cxOf (L2.CX P w) P w K mg base ["text", "signs", "at", "depth", "word", "factor"] "read_phrase" (defScope sRPhrase) f cdv A outer s H E) ((defBody sRPhrase).drop 1) t2 ∧
        ∀ (a1 : Nat) (w1 : List Nat) (H1 : Hp), Same H H1 → w1.length ≤ 401 → Asc w1 → rdL (rdF (sub L t m) L t d) L t d (t.length + 2) a1 w1 = rdP L t m a → t2 { nx := fun _ H' => Q .non H', rt := Q } [some (tx t), some (.ref p), some (.int (a1 : Int)), some (.int (d : Int)), some (tx w1), none] H1 := by
      refine ⟨_, pss_cons (ps_while (passes_of rfl) (pt_val (pe_call GB r2 (by rfl) gB kB bB .nil pass0 (pa_cons (pv 0) (pa_cons (pv 1) (pa_cons (pv 2) (pa_cons (pv 3) pa_nil))))))
          (pss_cons (ps_asg (pe_call GF hr (by rfl) gF kF bF .nil (passes_call (W := fun cls d _ H => E cls d H) (takes_of rfl rfl rfl rfl) (fun _ _ _ _ h => h)) (pa_cons (pv 0) (pa_cons (pv 1) (pa_cons (pv 2) (pa_cons (pv 3) pa_nil))))) (pg_tup rfl (pgs_cons (pg_name (i := 5) scRPhrase.nd rfl (.inl rfl)) (pgs_cons (pg_name (i := 2) scRPhrase.nd rfl (.inl rfl)) pgs_nil))))
          (pss_one (ps_set (i := 4) scRPhrase.nd rfl (.inl rfl) (pe_call GX r1 (by rfl) gX kX bX .nil pass0 (pa_cons (pe_op op_add_str (pv 4) (pv 5)) pa_nil))))))
        (pss_one (ps_ret (pe_tup (pa_cons (pv 4) (pa_cons (pv 2) pa_nil))))), ?_⟩
      intro a1 w1 H1 s1 hw1 hA1 hr1
      refine while_by (fun σ H2 => ∃ (b n : Nat) (w2 : List Nat) (y : Option V), σ = [some (tx t), some (.ref p), some (.int (b : Int)), some (.int (d : Int)), some (tx w2), y] ∧ Same H H2 ∧ t.length < n + b ∧ w2.length ≤ 401 ∧ Asc w2 ∧ rdL (rdF (sub L t m) L t d) L t d n b w2 = rdP L t m a)
        (fun σ _ => match σ with | [_, _, some (.int b), _, _, _] => t.length - b.toNat | _ => 0) ⟨a1, t.length + 2, w1, none, rfl, s1, by omega, hw1, hA1, hr1⟩ ?_ ?_
      · rintro σ H2 ⟨b, n, w2, y, rfl, sm, hn, hw2, hA2, hrl⟩
        refine ⟨_, rfl, _, rfl, _, rfl, _, rfl, t, L, b, p, d, rfl, hl, sm _ _ hp, fun H3 s3 => ⟨_, rfl, ?_⟩⟩
        have s03 := sm.trans s3
        cases hb : beg L t b d with
        | false =>
          refine iteF ?_
          rw [rdL_stop hb] at hrl
          refine ⟨_, rfl, _, rfl, (by show 2 ≤ sizeLine; decide), fun T nT => ?_⟩
          exact q w2 b hrl.symm _ T (s03.trans (same_new nT)) (s03.free nT) upd_same
        | true =>
          refine iteT ?_
          have hbl : b < t.length := by
            obtain ⟨c, hc, _⟩ := beg_mk hb
            unfold mk at hc
            by_cases hlt : b < t.length
            · exact hlt
            · rw [List.drop_eq_nil_of_le (by omega)] at hc
              cases hc
          cases n with
          | zero => omega
          | succ n =>
            refine ⟨_, rfl, _, rfl, _, rfl, _, rfl, t, L, b, p, rfl, hl, hA, s03 _ _ hp, hL, fun f1 e hrd H4 T s4 nT hT => ?_, fun i hi => (qe i (hrl.symm.trans (rdL_er hb hi))).of s03⟩
            obtain ⟨k1, k2, k3⟩ := hGd _ _ _ hrd
            have s04 := s03.trans s4
            refine ⟨T, _, rfl, SqT.of hT, rfl, _, _, rfl, _, _, rfl, rfl, ?_⟩
            refine ⟨_, rfl, _, rfl, _, _, rfl, rfl, S2_len (by omega), ?_⟩
            rw [SX.S_cat]
            refine ⟨w2 ++ f1, rfl, by rw [List.length_append]; omega, ⟨e, n, ct (w2 ++ f1), _, rfl, s04, by omega, ct_len _, ct_asc (asc_app hA2 k3), ?_⟩, ?_⟩
            · rw [← hrl]
              exact (rdL_ok2 hb hrd).symm
            · show t.length - ((e : Int)).toNat < t.length - ((b : Int)).toNat
              omega
      · rintro σ H Q Q' imp ⟨v0, h0, v1, h1, v2, h2, v3, h3, t', L', a', p', d', e1, e2, e3, q1⟩
        refine ⟨v0, h0, v1, h1, v2, h2, v3, h3, t', L', a', p', d', e1, e2, e3, fun H' sx => ?_⟩
        obtain ⟨k, e, hq⟩ := q1 H' sx
        exact ⟨k, e, imp _ _ hq⟩
    refine ⟨_, pss_cons (ps_asg (pe_call GF hr (by rfl) gF kF bF .nil (passes_call (W := fun cls d _ H => E cls d H) (takes_of rfl rfl rfl rfl) (fun _ _ _ _ h => h)) (pa_cons (pv 0) (pa_cons (pv 1) (pa_cons (pe_call GS r2 (by rfl) gS kS bS .nil pass0 (pa_cons (pv 0) (pa_cons (pv 2) pa_nil))) (pa_cons (pv 3) pa_nil))))) (pg_tup rfl (pgs_cons (pg_name (i := 4) scRPhrase.nd rfl (.inl rfl)) (pgs_cons (pg_name (i := 2) scRPhrase.nd rfl (.inl rfl)) pgs_nil)))) P2, ?_⟩
    refine ⟨_, rfl, _, rfl, _, rfl, _, rfl, t, a, rfl, hl, _, rfl, t, L, a + spn t a, p, rfl, hl, hA, hp, hL, fun w1 e hrd H1 T s1 nT hT => ?_, fun i hi => qe i (eP.trans (rdP0_er hi))⟩
    obtain ⟨_, k2, k3⟩ := hGd _ _ _ hrd
    refine ⟨T, _, rfl, SqT.of hT, rfl, _, _, rfl, _, _, rfl, rfl, ?_⟩
    exact R2 e w1 H1 s1 k2 k3 ((rdP0_y hrd).symm.trans eP.symm)
end
end KA
set_option maxRecDepth 100000
set_option maxHeartbeats 4000000
namespace KA
open PySem PySem.Spec PyProof.Rows L2
structure Tp (K : PySem.W.Frag) (mg : Str → Option Value) (x : Str) (st : Stmt) (ps : List Str) (f : Addr) (fd : FuncData) : Prop where
  F : Fun K x x st f fd
  b : Binds K fd ps []
  g : mg x = some (.ref f)
structure Rdr (K : PySem.W.Frag) (mg : Str → Option Value) (fP fF fA fG fR fE fB fM fS fC fN fW fX fO : Addr) (fdP fdF fdA fdG fdR fdE fdB fdM fdS fdC fdN fdW fdX fdO : FuncData) : Prop where
  P : Tp K mg "read_phrase" sRPhrase ["text", "signs", "at", "depth"] fP fdP
  F : Tp K mg "read_factor" sRFactor ["text", "signs", "at", "depth"] fF fdF
  A : Tp K mg "read_atom" sRAtom ["text", "signs", "at", "depth"] fA fdA
  G : Tp K mg "read_group" sRGroup ["text", "signs", "at", "depth"] fG fdG
  R : Tp K mg "read_pair" sRPair ["text", "signs", "at", "depth"] fR fdR
  E : Tp K mg "read_exponent" sRExp ["text", "at"] fE fdE
  B : Tp K mg "begins_atom" sBegins ["text", "signs", "at", "depth"] fB fdB
  M : Tp K mg "mark_at" sMark ["text", "at"] fM fdM
  S : Tp K mg "behind_spaces" sSpaces ["text", "at"] fS fdS
  C : Tp K mg "check_mark" sChkM ["text", "at", "mark"] fC fdC
  N : Tp K mg "check_no_digit" sNoDigit ["text", "at"] fN fdN
  W : Tp K mg "power" sPower ["word", "exponent"] fW fdW
  X : Tp K mg "cut" sCut ["word"] fX fdX
  O : Tp K mg "opposite" sOpp ["word"] fO fdO
section
variable {P : Program} {w : World} {K : PySem.W.Frag} {mg : Str → Option Value} {base : Heap}
variable {fP fF fA fG fR fE fB fM fS fC fN fW fX fO Ce fI : Addr} {fdP fdF fdA fdG fdR fdE fdB fdM fdS fdC fdN fdW fdX fdO fdI : FuncData} {tL tD : Tok}
theorem ok_lev (D : Rdr K mg fP fF fA fG fR fE fB fM fS fC fN fW fX fO fdP fdF fdA fdG fdR fdE fdB fdM fdS fdC fdN fdW fdX fdO) (B : Bn mg) (R : Pe P w K mg base Ce fI fdI) (mL : mg "LONGEST" = some (.int 400 tL)) (mD : mg "DEEPEST" = some (.int 6 tD)) :
    ∀ m, m ≤ 6 → FnOk P w K mg base (L2.CX P w) (6 + 4 * m) fP fdP ["text", "signs", "at", "depth"] (spR Ce (fun L t => rdP L t m) (6 - m)) := by
  have GM : FnOk P w K mg base CX0 1 fM fdM ["text", "at"] spMk := ok_mk (k := 0) D.M.F
  have GS : FnOk P w K mg base CX0 2 fS fdS ["text", "at"] spBs := ok_bs (k := 0) D.S.F GM D.M.F.kp D.M.b D.M.g
  have GB : FnOk P w K mg base CX0 2 fB fdB ["text", "signs", "at", "depth"] spBa := ok_ba (k := 0) D.B.F mD GM D.M.F.kp D.M.b D.M.g
  have GN : FnOk P w K mg base (L2.CX P w) 3 fN fdN ["text", "at"] (spNd Ce) := ok_nd (k := 0) D.N.F R GM D.M.F.kp D.M.b D.M.g
  have GC : FnOk P w K mg base (L2.CX P w) 3 fC fdC ["text", "at", "mark"] (spCm Ce) := ok_cm (k := 0) D.C.F R GM D.M.F.kp D.M.b D.M.g
  have GX : FnOk P w K mg base CX0 1 fX fdX ["word"] spCut := ok_cut (k := 0) D.X.F mL
  have GO : FnOk P w K mg base CX0 1 fO fdO ["word"] spOpp := ok_opp (k := 0) D.O.F
  have GW : FnOk P w K mg base CX0 2 fW fdW ["word", "exponent"] spPow := ok_pow (k := 0) D.W.F GX D.X.F.kp D.X.b D.X.g GO D.O.F.kp D.O.b D.O.g
  have GE : FnOk P w K mg base (L2.CX P w) 4 fE fdE ["text", "at"] (spEx Ce) := ok_ex (k := 0) D.E.F B R GM D.M.F.kp D.M.b D.M.g GN D.N.F.kp D.N.b D.N.g
  have up : ∀ {m j : Nat}, 4 ≤ j → FnOk P w K mg base (L2.CX P w) j fA fdA ["text", "signs", "at", "depth"] (spR Ce (fun L t => rdA (sub L t m) L t (6 - m)) (6 - m)) → FnOk P w K mg base (L2.CX P w) (j + 2) fP fdP ["text", "signs", "at", "depth"] (spR Ce (fun L t => rdP L t m) (6 - m)) := by
    intro m j hj GA
    have GF := ok_fa D.F.F hj GA D.A.F.kp D.A.b D.A.g GS D.S.F.kp D.S.b D.S.g GM D.M.F.kp D.M.b D.M.g GE D.E.F.kp D.E.b D.E.g GW D.W.F.kp D.W.b D.W.g
    exact ok_ph D.P.F (by omega) GF D.F.F.kp D.F.b D.F.g GS D.S.F.kp D.S.b D.S.g GB D.B.F.kp D.B.b D.B.g GX D.X.F.kp D.X.b D.X.g
  intro m
  induction m with
  | zero =>
    intro _
    exact up (m := 0) (by decide) (ok_at0 (fG := 0) (fR := 0) (fdG := fdP) (fdR := fdP) D.A.F R GB D.B.F.kp D.B.b D.B.g GN D.N.F.kp D.N.b D.N.g)
  | succ m ih =>
    intro hm
    have GP := ih (by omega)
    have GG := ok_gr (k := 0) D.G.F (by omega) GP D.P.F.kp D.P.b D.P.g GC D.C.F.kp D.C.b D.C.g
    have GR := ok_pr (k := 0) D.R.F (by omega) GP D.P.F.kp D.P.b D.P.g GC D.C.F.kp D.C.b D.C.g GX D.X.F.kp D.X.b D.X.g GO D.O.F.kp D.O.b D.O.g
    have GA := ok_atS D.A.F R GB D.B.F.kp D.B.b D.B.g GN D.N.F.kp D.N.b D.N.g hm (by omega) GG D.G.F.kp D.G.b D.G.g GR D.R.F.kp D.R.b D.R.g
    exact up (m := m + 1) (j := 6 + 4 * m + 1 + 1) (by omega) GA
def rdW (L t : List Nat) : Except (Option Nat) (List Nat) := match rdP L t 6 0 with
  | .error i => .error (some i)
  | .ok (w, e) => if e < t.length then .error (some e) else if 400 < w.length then .error none else .ok w
structure Pl (P : Program) (w : World) (K : PySem.W.Frag) (mg : Str → Option Value) (base : Heap) (C fI : Addr) (fdI : FuncData) : Prop where
  T : ErC K mg "TooLong" "limit" C fI
  G : FnOk P w K mg base CX0 1 fI fdI ["self", "limit"] (spIni tagL "limit" C)
  b : Binds K fdI ["self", "limit"] []
abbrev FlL (C : Addr) (H : Hp) (E : XK) : Prop := Fl C tagL "limit" (.int 400) H E
def spRw (Ce Cl : Addr) : Sp := fun vs H Q E => ∃ t L : List Nat, vs = [tx t, tx L] ∧ t.length ≤ 9000 ∧ Asc t ∧ Lt L ∧ (∀ w, rdW L t = .ok w → ∀ H', Same H H' → Q (tx w) H') ∧ (∀ i, rdW L t = .error (some i) → FlP Ce i H E) ∧ (rdW L t = .error none → FlL Cl H E)
theorem ok_rw {f fZ Cl fJ : Addr} {fd fdZ fdJ : FuncData} (F : Fun K "read_word" "read_word" sRWord f fd) (B : Bn mg) (R : Pe P w K mg base Ce fI fdI) (RL : Pl P w K mg base Cl fJ fdJ) (mL : mg "LONGEST" = some (.int 400 tL))
    (GP : FnOk P w K mg base (L2.CX P w) 30 fP fdP ["text", "signs", "at", "depth"] (spR Ce (fun L t => rdP L t 6) (6 - 6))) (kP : PySem.W.keepIn K (.ref fP) = true) (bP : Binds K fdP ["text", "signs", "at", "depth"] []) (gP : mg "read_phrase" = some (.ref fP))
    (GZ : FnOk P w K mg base CX0 1 fZ fdZ ["letters"] spSof) (kZ : PySem.W.keepIn K (.ref fZ) = true) (bZ : Binds K fdZ ["letters"] []) (gZ : mg "signs_of" = some (.ref fZ)) :
    FnOk P w K mg base (L2.CX P w) 31 f fd ["text", "letters"] (spRw Ce Cl) := by
  refine F.okX scRWord (fun vs H Q E h => ?_) (fun cdv A outer s H vs Q E hr h => ?_)
  · obtain ⟨t, L, rfl, _⟩ := h
    rfl
  · obtain ⟨t, L, rfl, hl, hA, hL, q, qe, ql⟩ := h
    have r1 : Room 1 (A.deeper (envOfC "read_word" (defScope sRWord) s.heap.objs.size f cdv)) := hr.mono (by omega)
    have r2 : Room 2 (A.deeper (envOfC "read_word" (defScope sRWord) s.heap.objs.size f cdv)) := hr.mono (by omega)
    refine ⟨_, pss_cons (ps_asg (pe_call GP hr (by rfl) gP kP bP .nil (passes_call (W := fun cls d _ H => E cls d H) (takes_of rfl rfl rfl rfl) (fun _ _ _ _ h => h)) (pa_cons (pv 0) (pa_cons (pe_call GZ r1 (by rfl) gZ kZ bZ .nil pass0 (pa_cons (pv 1) pa_nil)) (pa_cons pe_int (pa_cons pe_int pa_nil))))) (pg_tup rfl (pgs_cons (pg_name (i := 2) scRWord.nd rfl (.inl rfl)) (pgs_cons (pg_name (i := 3) scRWord.nd rfl (.inl rfl)) pgs_nil))))
      (pss_cons (ps_if (pt_cmpR op_lt (pv 3) (pe_callB call_len (by rfl) B.len PySem.boot_len (pa_cons (pv 0) pa_nil)) (nomark _)) (pss_one (s_raise (E := E) R.T R.G R.b r2 rfl (takes_of rfl rfl rfl rfl) (by rfl) (pv 3) pass0 var_mono)) pss_nil)
      (pss_cons (ps_if (pt_cmpR op_gt (pe_callB call_len (by rfl) B.len PySem.boot_len (pa_cons (pv 2) pa_nil)) (pe_glob (v := .int 400) (by rfl) mL ⟨_, rfl⟩) (nomark _))
        (pss_one (s_raise (E := E) RL.T RL.G RL.b r2 rfl (takes_of rfl rfl rfl rfl) (by rfl) (pe_glob (v := .int 400) (by rfl) mL ⟨_, rfl⟩) pass0 c_mono)) pss_nil)
      (pss_one (ps_ret (pv 2))))), ?_⟩
    refine ⟨_, rfl, _, rfl, L, rfl, hL, fun H1 p s1 np hp => ⟨t, L, 0, p, rfl, hl, hA, hp, hL.2, fun w e hrd H2 T s2 nT hT => ?_, fun i hi => (qe i ?_).of s1⟩⟩
    · have s02 := s1.trans s2
      have hrd : rdP L t 6 0 = .ok (w, e) := hrd
      obtain ⟨_, g2, _⟩ := rdP_ok hA 6 _ _ _ hrd
      have eW : rdW L t = if e < t.length then .error (some e) else if 400 < w.length then .error none else .ok w := by
        unfold rdW
        rw [hrd]
      refine ⟨T, _, rfl, SqT.of hT, rfl, _, _, rfl, _, _, rfl, rfl, ?_⟩
      refine ⟨_, rfl, _, rfl, _, _, rfl, ⟨asc_big (by omega), rfl⟩, _, _, rfl, rfl, _, rfl, ite2 (fun e1 => ?_) (fun e1 => ?_)⟩
      · have h1 : e < t.length := by
          have z : (e : Int) < ((SX.S t).length : Int) := of_decide_eq_true e1
          rw [tx_len] at z
          omega
        rw [if_pos h1] at eW
        exact ⟨_, rfl, (qe e eW).of s02⟩
      · have h1 : ¬ e < t.length := fun z => e1 (decide_eq_true (by rw [tx_len]; omega))
        rw [if_neg h1] at eW
        refine ⟨_, rfl, _, _, rfl, ⟨asc_big (by omega), rfl⟩, _, _, rfl, rfl, _, rfl, ite2 (fun e2 => ?_) (fun e2 => ?_)⟩
        · have h2 : 400 < w.length := by
            have z : ((SX.S w).length : Int) > 400 := of_decide_eq_true e2
            rw [tx_len] at z
            omega
          rw [if_pos h2] at eW
          exact (ql eW).of s02
        · have h2 : ¬ 400 < w.length := fun z => e2 (decide_eq_true (by rw [tx_len]; omega))
          rw [if_neg h2] at eW
          exact ⟨_, rfl, q w eW H2 s02⟩
    · have hi : rdP L t 6 0 = .error i := hi
      unfold rdW
      rw [hi]
end
end KA
set_option maxRecDepth 100000
set_option maxHeartbeats 4000000
namespace KA
open PySem PySem.Spec PyProof.Rows L2
section
variable {P : Program} {w : World} {K : PySem.W.Frag} {mg : Str → Option Value} {base : Heap}
theorem join_big {X : Cx} {H : Hp} {D : Addr} {l : List Nat} {Q : VK} (hl : l.length ≤ 100000) (hD : H D = some (.lst (l.map fun c => tx [c]))) (q : Q (tx l) H) :
    ∃ a p, ∃ ys : List Str, V.str (Str.ofString "") = .str a ∧ [V.ref D] = [.ref p] ∧ (SqL K H p (ys.map V.str) ∨ SqT K H p (ys.map V.str)) ∧ (ys.map (·.length)).sum + ys.length * a.length ≤ 16777216 ∧ Q (.str (Txt.join a ys)) H := by
  refine ⟨_, D, (l.map fun c => [c]).map SX.S, rfl, rfl, .inl (SqL.of ?_), ?_, ?_⟩
  · rw [hD, List.map_map, List.map_map]
    rfl
  · rw [single_sum, len0]
    omega
  · rw [joinS, single_flat]
    exact q
def spGone : Sp := fun vs H Q _ => ∃ l : List Nat, vs = [tx l] ∧ l.length ≤ 100000 ∧ Asc l ∧ ∀ H', Same H H' → Q (tx (opp l)) H'
theorem ok_gone {f fB : Addr} {fd fdB : FuncData} {k : Nat} (F : Fun K "_law_gone_back" "_law_gone_back" sGone f fd) (FB : Fun K "_law_back" "_law_back" sBack fB fdB) (bB : Binds K fdB ["_law_sign"] []) (gB : mg "_law_back" = some (.ref fB)) :
    FnOk P w K mg base CX0 (k + 2) f fd ["_law_one"] spGone := by
  have GB : FnOk P w K mg base CX0 (k + 1) fB fdB ["_law_sign"] spBack := ok_back FB
  refine F.ok scGone (fun vs H Q E h => ?_) (fun cdv A outer s H vs Q E hr h => ?_)
  · obtain ⟨l, rfl, _⟩ := h
    rfl
  · obtain ⟨l, rfl, hl, hA, q⟩ := h
    refine ⟨_, pss_one (ps_ret (pe_join pe_str (pe_lc (own := [("_law_sign", 1)]) (g := gName 1) (tt := tYes) rfl scGone.nd (pi_str (Rs.e_revS (pv 0)))
      (blkOk_by (N := ["_law_one", "_law_sign"]) (sc := defScope sGone) (by decide +kernel)) (fun _ _ _ _ _ => pg_name (i := 1) scGone.nd rfl (Or.inl rfl)) (fun _ _ _ _ _ => pts_nil)
      (fun _ _ _ _ _ => pe_call GB hr (by rfl) gB FB.kp bB .nil pass0 (pa_cons (pv 1) pa_nil))))), ?_⟩
    refine ⟨⟨_, rfl⟩, _, rfl, _, rfl, asc_big (by omega), _, rfl, fun D nD => ?_⟩
    rw [rvS]
    refine lc_pure (walk_txt l.reverse) (σ := [some (tx l), none]) (i := 1) (fun v => match v with | .str z => tx (z.cps.toList.map sw) | v => v) (fun _ => true) (by rw [List.length_map, List.length_reverse]; exact big_lt (by omega)) nD (fun _ _ => trivial) (fun x H2 Q _ _ h => h) ?_ ?_
    · intro x H2 Q hx _ _ h
      obtain ⟨c, hc, rfl⟩ := List.mem_map.mp hx
      exact ⟨_, rfl, c, rfl, hA c (List.mem_reverse.mp hc), h H2 (Same.refl _)⟩
    · intro H2 s2 hD
      refine join_big (X := (cxOf CX0 P w K mg base ["_law_one", "_law_sign"] "_law_gone_back" (defScope sGone) f cdv A outer s H E).nox) (l := opp l) (by unfold opp; rw [List.length_map, List.length_reverse]; exact hl) ?_ (q H2 s2)
      rw [hD]
      congr 2
      rw [List.filter_eq_self.mpr (by simp), List.map_map]
      unfold opp
      rw [List.map_map]
      rfl
end
end KA
set_option maxRecDepth 100000
set_option maxHeartbeats 4000000
namespace KA
open PySem PySem.Spec PyProof.Rows L2
theorem rdE_is {t : List Nat} {a b : Nat} {mi : Bool} (hmi : decide (mk t a = [45]) = mi) (hb : (if mi = true then a + 1 else a : Nat) = b) :
    rdE t a = if dgt t b = false ∨ (mi = true ∧ mk t b = [48]) then .error b else
      if dgt t (if mk t b ≠ [48] ∧ dgt t (b + 1) = true then b + 2 else b + 1) = true then .error (if mk t b ≠ [48] ∧ dgt t (b + 1) = true then b + 2 else b + 1)
      else .ok (if mi then -((num ((t.drop b).take ((if mk t b ≠ [48] ∧ dgt t (b + 1) = true then b + 2 else b + 1) - b)) : Nat) : Int) else ((num ((t.drop b).take ((if mk t b ≠ [48] ∧ dgt t (b + 1) = true then b + 2 else b + 1) - b)) : Nat) : Int), (if mk t b ≠ [48] ∧ dgt t (b + 1) = true then b + 2 else b + 1)) := by
  unfold rdE
  simp only [hmi, hb]
end KA
set_option maxRecDepth 100000
set_option maxHeartbeats 4000000
namespace KA
open PySem PySem.Spec PyProof.Rows L2
abbrev Lr := Except Nat (Nat × Option (List Nat) × Nat)
def moV : Option (List Nat) → V
  | none => .non
  | some W => tx W
def lrV : Lr → List V
  | .error i => [.str (Str.ofString "no"), .int (i : Int)]
  | .ok (n, mo, e) => [.str (Str.ofString "ok"), .int (n : Int), moV mo, .int (e : Int)]
def pwr (l : List Nat) (x : Int) : List Nat := if x < 0 then rep x.natAbs (opp l) else rep x.natAbs l
def mo2 (T : Nat) (x : Int) : Option (List Nat) → Option (List Nat) → Option (List Nat)
  | some M, some w1 => if 2000 < T then none else some (M ++ pwr w1 x)
  | _, _ => none
def lwL (at' : Nat → Nat → Lr) (t stop : List Nat) : Nat → Nat → Nat → Option (List Nat) → Nat → Lr
  | 0, _, _, _, _ => .error t.length
  | n + 1, a, T, M, k => match mk t a with
    | [c] =>
      if c = 32 then lwL at' t stop n (a + 1) T M k
      else if 0 < k ∧ stop = [c] then .ok (T, M, a)
      else match at' a c with
        | .error i => .error i
        | .ok (n1, m1, e) =>
          if mk t (e + spn t e) = [94] then
            match rdE t (e + spn t e + 1 + spn t (e + spn t e + 1)) with
            | .error i => .error i
            | .ok (x, e2) => lwL at' t stop n e2 (T + n1 * x.natAbs) (if x = 0 then M else mo2 (T + n1 * x.natAbs) x M m1) (k + 1)
          else lwL at' t stop n e (T + n1) (mo2 (T + n1) 1 M m1) (k + 1)
    | _ => if stop = [] ∧ 0 < k then .ok (T, M, a) else .error t.length
end KA
set_option maxRecDepth 100000
set_option maxHeartbeats 4000000
namespace KA
open PySem PySem.Spec PyProof.Rows L2
theorem ct_id {l : List Nat} (h : l.length ≤ 401) : ct l = l := List.take_of_length_le h
theorem ct_full {l : List Nat} (h : 401 ≤ l.length) : (ct l).length = 401 := by
  unfold ct
  rw [List.length_take]
  omega
theorem pw_lt {l : List Nat} {x : Int} : (pw l x).length = min (x.natAbs * l.length) 401 := by
  unfold pw ct
  split
  · rw [List.length_take, rep_len, opp_len]
    omega
  · rw [List.length_take, rep_len]
    omega
theorem pw_small {l : List Nat} {x : Int} (h : x.natAbs * l.length ≤ 401) : pw l x = pwr l x := by
  unfold pw pwr
  split
  · exact ct_id (by rw [rep_len, opp_len]; exact h)
  · exact ct_id (by rw [rep_len]; exact h)
end KA
set_option maxRecDepth 100000
set_option maxHeartbeats 4000000
namespace KA
open PySem PySem.Spec PyProof.Rows L2
def fin (t stop : List Nat) : Rr → Rr
  | .error i => .error i
  | .ok (w, e) => if mk t e = stop then .ok (w, e) else .error e
theorem sg_let {L : List Nat} (hL : ∀ c ∈ L, 97 ≤ c ∧ c ≤ 122) {x : Nat} (h : x ∈ sg L) : 65 ≤ x ∧ x ≤ 122 ∧ x ≠ 91 ∧ x ≠ 93 := by
  obtain ⟨c, hc, hx⟩ := List.mem_flatMap.mp h
  have hm := hL c hc
  have hx : x = c ∨ x = c - 32 := by simpa using hx
  omega
theorem beg_is {L t : List Nat} {a d c : Nat} (hc : mk t a = [c]) : beg L t a d = (decide (c ∈ sg L) || (decide (c = 49) || (decide (c = 40 ∨ c = 91) && decide (d < 6)))) := by
  unfold beg
  rw [hc]
end KA
set_option maxRecDepth 100000
set_option maxHeartbeats 4000000
namespace KA
open PySem PySem.Spec PyProof.Rows L2
theorem o_mulB {X : Cx} : OpR X (binaryOp .Mult) (fun x y H Q => ∃ (l : List Nat) (n : Nat), x = tx l ∧ y = .int (n : Int) ∧ l.length ≤ 100000 ∧ n ≤ 100 ∧ l.length * n ≤ 100000 ∧ Q (tx (rep n l)) H) := by
  intro pins s σ H x y v u Q I rx ry h
  obtain ⟨l, n, rfl, rfl, h1, h2, hm, q⟩ := h
  obtain ⟨t, rfl⟩ := rx
  obtain ⟨t', rfl⟩ := ry
  have hl : (SX.S l).length = l.length := tx_len l
  refine PySem.P.mul_str ?_ (fun hn _ => ?_) (fun hn _ => ?_) ?_
  · rw [decide_eq_false (by omega), decide_eq_false (by omega)]
    rfl
  · rw [hl]
    have : (100000 : Int) ≤ (2 ^ 63 - 1) / (n : Int) := by
      rw [Int.le_ediv_iff_mul_le (by omega)]
      omega
    omega
  · rw [hl]
    exact short24 (by rw [Int.toNat_natCast]; omega)
  · by_cases h0 : n = 0
    · subst h0
      rw [if_pos (by decide)]
      refine ⟨by decide, ⟨tx (rep 0 l), H, I.tok _, ⟨_, rfl⟩, q⟩⟩
    · rw [if_neg (by omega)]
      by_cases e : (((n : Int) == 1) || ((SX.S l).length == 0)) = true
      · rw [if_pos e]
        have e3 : rep n l = l := by
          rw [Bool.or_eq_true] at e
          rcases e with e | e
          · have : n = 1 := by
              have := eq_of_beq e
              omega
            subst this
            simp [rep]
          · rw [hl] at e
            have : l = [] := List.eq_nil_of_length_eq_zero (eq_of_beq e)
            subst this
            simp [rep]
        rw [e3] at q
        exact ⟨.str (SX.S l), H, I, ⟨_, rfl⟩, q⟩
      · rw [if_neg e, Int.toNat_natCast, fold_rep]
        have e3 : (#[] ++ (rep n l).toArray : Array Nat) = (rep n l).toArray := by simp
        rw [e3]
        refine ⟨?_, ⟨tx (rep n l), H, I.tok _, ⟨_, rfl⟩, q⟩⟩
        show (SX.S (rep n l)).length ≤ sizeLine
        refine asc_big ?_
        rw [rep_len, Nat.mul_comm]
        omega
def Mg (n : Nat) (mo : Option (List Nat)) : Prop := ∀ W, mo = some W → W.length = n ∧ n ≤ 2000 ∧ Asc W
def Lgd (t : List Nat) (a : Nat) (r : Lr) : Prop := ∀ n mo e, r = .ok (n, mo, e) → a ≤ e ∧ e ≤ t.length ∧ Mg n mo
theorem Lgd.mono {t : List Nat} {a b : Nat} {r : Lr} (h : Lgd t b r) (hb : a ≤ b) : Lgd t a r := fun n mo e hr => by
  obtain ⟨h1, h2, h3⟩ := h n mo e hr
  exact ⟨by omega, h2, h3⟩
theorem pwr_len (l : List Nat) (x : Int) : (pwr l x).length = x.natAbs * l.length := by
  unfold pwr
  split
  · rw [rep_len, opp_len]
  · rw [rep_len]
theorem pwr_asc {l : List Nat} (h : Asc l) (x : Int) : Asc (pwr l x) := by
  unfold pwr
  split
  · exact rep_asc (opp_asc h)
  · exact rep_asc h
end KA
set_option maxRecDepth 100000
set_option maxHeartbeats 4000000
namespace KA
open PySem PySem.Spec PyProof.Rows L2
def Tpl (H : Hp) (r : Lr) (Q : VK) : Prop := ∀ H' T, Same H H' → H T = none → H' T = some (.tup (lrV r)) → Q (.ref T) H'
theorem Tpl.of {H H1 : Hp} {r : Lr} {Q : VK} (h : Tpl H r Q) (s : Same H H1) : Tpl H1 r Q := fun H' T s' n e => h H' T (s.trans s') (s.free n) e
end KA
set_option maxRecDepth 100000
set_option maxHeartbeats 4000000
namespace KA
open PySem PySem.Spec PyProof.Rows L2
abbrev S13 (t S stop : List Nat) (a : Nat) (d : Nat) (T : Nat) (M : Option (List Nat)) (k : Nat) (y8 y9 y10 y11 y12 : Option V) : L2.St :=
  [some (tx t), some (tx S), some (.int (a : Int)), some (tx stop), some (.int (d : Int)), some (.int (T : Int)), some (moV M), some (.int (k : Int)), y8, y9, y10, y11, y12]
end KA
set_option maxRecDepth 100000
set_option maxHeartbeats 4000000
namespace KA
open PySem PySem.Spec PyProof.Rows L2
theorem cut_from (l : List Nat) (n : Nat) : cutS (SX.S l) (some (n : Int)) none = SX.S (l.drop n) := by
  unfold cutS
  rw [HT.sIx_none, HT.sIx_nat, tx_len]
  show SX.S ((l.drop (min n l.length)).take (l.length - min n l.length)) = SX.S (l.drop n)
  by_cases h : n ≤ l.length
  · rw [Nat.min_eq_left h, List.take_of_length_le (by rw [List.length_drop]; omega)]
  · rw [Nat.min_eq_right (by omega), List.drop_length, List.drop_eq_nil_of_le (by omega)]
    simp
section
variable {P : Program} {w : World} {K : PySem.W.Frag} {mg : Str → Option Value} {base : Heap}
variable {f fA fG fW : Addr} {fd fdA fdG fdW : FuncData} {cdv : Value} {A : Around} {outer : List Env} {s : Shared} {H : Hp} {E : XK}
def Nxt (AT : Nat → Nat → Lr) (t S stop : List Nat) (d a n : Nat) (r : Lr) (H0 : Hp) (D : Ends) : Prop := ∀ (H' : Hp) (a' T' : Nat) (M' : Option (List Nat)) (k' : Nat) (y8 y9 y10 y11 y12 : Option V), Same H0 H' → a < a' → a' ≤ t.length → Mg T' M' → lwL AT t stop n a' T' M' k' = r →
  D.nx (S13 t S stop a' d T' M' k' y8 y9 y10 y11 y12) H' ∧ D.ct (S13 t S stop a' d T' M' k' y8 y9 y10 y11 y12) H'
theorem Nxt.of {AT : Nat → Nat → Lr} {t S stop : List Nat} {d a n : Nat} {r : Lr} {H0 H1 : Hp} {D : Ends} (h : Nxt AT t S stop d a n r H0 D) (s : Same H0 H1) : Nxt AT t S stop d a n r H1 D := fun H' a' T' M' k' y8 y9 y10 y11 y12 s' => h H' a' T' M' k' y8 y9 y10 y11 y12 (s.trans s')
end
end KA
set_option maxRecDepth 100000
set_option maxHeartbeats 4000000
namespace KA
open PySem PySem.Spec PyProof.Rows L2
def sp (n : Nat) : List Nat := List.replicate n 32
def tm5 : List Int := [1, 2, -1, 0, -2]
def tm7 : List Int := [1, 2, -1, 0, -2, 13, -10]
def nt (x : Int) : List Nat := if x = 1 then [49] else if x = 2 then [50] else if x = -1 then [45, 49] else if x = 0 then [48] else if x = -2 then [45, 50] else if x = 13 then [49, 51] else [45, 49, 48]
theorem nt_is : ∀ x ∈ tm7, Str.ofString (toString x) = SX.S (nt x) := by decide +kernel
theorem nt_len : ∀ x ∈ tm7, (nt x).length ≤ 3 ∧ x.natAbs ≤ 13 := by decide
theorem nt_asc : ∀ x ∈ tm7, ∀ c ∈ nt x, c < 128 := by decide
theorem tm57 : ∀ x ∈ tm5, x ∈ tm7 ∧ x.natAbs ≤ 2 := by decide
def AtmS (L p c : List Nat) : Prop := ∃ x ∈ sg L, p = [x] ∧ c = [x]
def AtmC (Lo Lo0 : List Nat → List Nat → Prop) (p c : List Nat) : Prop := (p = [49] ∧ c = []) ∨ (∃ T1 W1 T2 W2, Lo T1 W1 ∧ Lo0 T2 W2 ∧ p = [91] ++ T1 ++ [44] ++ T2 ++ [93] ∧ c = W1 ++ W2 ++ opp W1 ++ opp W2) ∨ (∃ T1 W1, Lo T1 W1 ∧ p = [40] ++ T1 ++ [41] ∧ c = W1)
def Atm (L : List Nat) (C : List Nat → List Nat → Prop) (p c : List Nat) (x : Int) : Prop := (AtmS L p c ∧ x ∈ tm7) ∨ (C p c ∧ x ∈ tm5)
def Pwd (p : List Nat) (x : Int) (F : List Nat) : Prop := (x = 1 ∧ p ≠ [49] ∧ F = p) ∨ ∃ s3 s4, s3 ≤ 2 ∧ s4 ≤ 2 ∧ F = p ++ sp s3 ++ [94] ++ sp s4 ++ nt x
def Fac (L : List Nat) (C : List Nat → List Nat → Prop) (F V : List Nat) : Prop := ∃ (p c G : List Nat) (x : Int) (s1 s2 : Nat), Atm L C p c x ∧ Pwd p x G ∧ s1 ≤ 2 ∧ 1 ≤ s2 ∧ s2 ≤ 2 ∧ V = pwr c x ∧ F = sp s1 ++ G ++ sp s2
def Cat (Fc : List Nat → List Nat → Prop) (l : List (List Nat × List Nat)) : Prop := ∀ q ∈ l, Fc q.1 q.2
def txt (l : List (List Nat × List Nat)) : List Nat := (l.map (·.1)).flatten
def wrd (l : List (List Nat × List Nat)) : List Nat := (l.map (·.2)).flatten
def Phr (Fc : List Nat → List Nat → Prop) (T W : List Nat) : Prop := ∃ l, 1 ≤ l.length ∧ l.length ≤ 3 ∧ Cat Fc l ∧ T = txt l ∧ W = wrd l
def Cmp (L : List Nat) : Nat → List Nat → List Nat → Prop
  | 0 => fun _ _ => False
  | d + 1 => AtmC (fun T W => Phr (Fac L (Cmp L d)) T W) (fun T W => Phr (Fac L fun _ _ => False) T W)
def Loo (L : List Nat) (d : Nat) (T W : List Nat) : Prop := Phr (Fac L (Cmp L d)) T W
def tb : Nat → Nat
  | 0 => 39
  | d + 1 => 3 * (tb d + 54)
def wb : Nat → Nat
  | 0 => 42
  | d + 1 => 12 * (wb d + 42)
def pn : Nat → Nat
  | 0 => 1
  | d + 1 => tb d + 42
def pk : Nat → Nat
  | 0 => 7
  | d + 1 => 2 * (wb d + 42)
theorem tb_is (d : Nat) : 3 * (pn d + 12) = tb d := by cases d <;> rfl
theorem wb_is (d : Nat) : 3 * (2 * pk d) = wb d := by
  cases d with
  | zero => rfl
  | succ d =>
    show 3 * (2 * (2 * (wb d + 42))) = 12 * (wb d + 42)
    omega
theorem pn_pos (d : Nat) : 1 ≤ pn d := by
  cases d with
  | zero => exact Nat.le_refl _
  | succ d =>
    show 1 ≤ tb d + 42
    omega
theorem pk_pos (d : Nat) : 13 ≤ 2 * pk d := by
  cases d with
  | zero => decide
  | succ d =>
    show 13 ≤ 2 * (2 * (wb d + 42))
    omega
def Ok2 (n k : Nat) (T W : List Nat) : Prop := T.length ≤ n ∧ W.length ≤ k ∧ Asc T ∧ Asc W
theorem sp_len (n : Nat) : (sp n).length = n := List.length_replicate
theorem sp_asc (n : Nat) : Asc (sp n) := fun c hc => by rw [(List.mem_replicate.mp hc).2]; decide
theorem flat_len {α : Type} (f : α → List Nat) (n : Nat) : ∀ l : List α, (∀ q ∈ l, (f q).length ≤ n) → (l.map f).flatten.length ≤ l.length * n
  | [], _ => Nat.zero_le _
  | q :: r, h => by
    have ih := flat_len f n r fun q hq => h q (List.mem_cons_of_mem _ hq)
    have h1 := h q List.mem_cons_self
    rw [List.map_cons, List.flatten_cons, List.length_append, List.length_cons, Nat.add_mul]
    omega
theorem flat_asc {α : Type} (f : α → List Nat) (l : List α) (h : ∀ q ∈ l, Asc (f q)) : Asc (l.map f).flatten := by
  intro c hc
  obtain ⟨x, hx, hcx⟩ := List.mem_flatten.mp hc
  obtain ⟨q, hq, rfl⟩ := List.mem_map.mp hx
  exact h q hq c hcx
theorem pwd_ok {p F : List Nat} {x : Int} (h : Pwd p x F) (hx : x ∈ tm7) (hp : Asc p) : F.length ≤ p.length + 8 ∧ Asc F := by
  rcases h with ⟨_, _, rfl⟩ | ⟨s3, s4, h3, h4, rfl⟩
  · exact ⟨by omega, hp⟩
  · have := (nt_len x hx).1
    refine ⟨?_, asc_app (asc_app (asc_app (asc_app hp (sp_asc _)) (by unfold Asc; decide)) (sp_asc _)) (nt_asc x hx)⟩
    rw [List.length_append, List.length_append, List.length_append, List.length_append, sp_len, sp_len]
    simp only [List.length_cons, List.length_nil]
    omega
theorem fac_ok {L : List Nat} {C : List Nat → List Nat → Prop} {n k : Nat} (hL : ∀ c ∈ L, 97 ≤ c ∧ c ≤ 122) (hn : 1 ≤ n) (hk : 13 ≤ 2 * k) (hC : ∀ p c, C p c → Ok2 n k p c) {F V : List Nat} (h : Fac L C F V) : Ok2 (n + 12) (2 * k) F V := by
  obtain ⟨p, c, G, x, s1, s2, ha, hp, h1, _, h2, rfl, rfl⟩ := h
  have key : p.length ≤ n ∧ (pwr c x).length ≤ 2 * k ∧ Asc p ∧ Asc c ∧ x ∈ tm7 := by
    rcases ha with ⟨⟨y, hy, rfl, rfl⟩, hx⟩ | ⟨hc, hx⟩
    · have hy2 := sg_let hL hy
      have ha : Asc [y] := fun z hz => by rw [List.mem_singleton.mp hz]; omega
      refine ⟨by simpa using hn, ?_, ha, ha, hx⟩
      rw [pwr_len]
      have := (nt_len x hx).2
      simp only [List.length_cons, List.length_nil]
      omega
    · obtain ⟨q1, q2, q3, q4⟩ := hC p c hc
      have := tm57 x hx
      refine ⟨q1, ?_, q3, q4, this.1⟩
      rw [pwr_len]
      exact Nat.mul_le_mul this.2 q2
  obtain ⟨k1, k2, k3, k4, k5⟩ := key
  obtain ⟨g1, g2⟩ := pwd_ok hp k5 k3
  refine ⟨?_, k2, asc_app (asc_app (sp_asc _) g2) (sp_asc _), pwr_asc k4 x⟩
  rw [List.length_append, List.length_append, sp_len, sp_len]
  omega
theorem phr_ok {Fc : List Nat → List Nat → Prop} {n k : Nat} (hF : ∀ F V, Fc F V → Ok2 n k F V) {T W : List Nat} (h : Phr Fc T W) : Ok2 (3 * n) (3 * k) T W := by
  obtain ⟨l, _, h3, hc, rfl, rfl⟩ := h
  refine ⟨?_, ?_, flat_asc _ l fun q hq => (hF _ _ (hc q hq)).2.2.1, flat_asc _ l fun q hq => (hF _ _ (hc q hq)).2.2.2⟩
  · exact Nat.le_trans (flat_len _ n l fun q hq => (hF _ _ (hc q hq)).1) (Nat.mul_le_mul h3 (Nat.le_refl _))
  · exact Nat.le_trans (flat_len _ k l fun q hq => (hF _ _ (hc q hq)).2.1) (Nat.mul_le_mul h3 (Nat.le_refl _))
theorem loo0_ok {L : List Nat} (hL : ∀ c ∈ L, 97 ≤ c ∧ c ≤ 122) {T W : List Nat} (h : Phr (Fac L fun _ _ => False) T W) : Ok2 39 42 T W :=
  phr_ok (n := 13) (k := 14) (fun F V hF => fac_ok (n := 1) (k := 7) hL (by decide) (by decide) (fun _ _ z => z.elim) hF) h
theorem cmp_ok {L : List Nat} (hL : ∀ c ∈ L, 97 ≤ c ∧ c ≤ 122) : ∀ (d : Nat) (p c : List Nat), Cmp L d p c → Ok2 (pn d) (pk d) p c
  | 0, p, c, h => h.elim
  | d + 1, p, c, h => by
    have lo : ∀ T W, Phr (Fac L (Cmp L d)) T W → Ok2 (tb d) (wb d) T W := fun T W hT => by
      have z := phr_ok (fun F V hF => fac_ok hL (pn_pos d) (pk_pos d) (cmp_ok hL d) hF) hT
      rw [tb_is, wb_is] at z
      exact z
    rcases h with ⟨rfl, rfl⟩ | ⟨T1, W1, T2, W2, h1, h2, rfl, rfl⟩ | ⟨T1, W1, h1, rfl, rfl⟩
    · refine ⟨pn_pos (d + 1), Nat.zero_le _, by unfold Asc; decide, asc_nil⟩
    · obtain ⟨a1, a2, a3, a4⟩ := lo _ _ h1
      obtain ⟨b1, b2, b3, b4⟩ := loo0_ok hL h2
      refine ⟨?_, ?_, asc_app (asc_app (asc_app (asc_app (by unfold Asc; decide) a3) (by unfold Asc; decide)) b3) (by unfold Asc; decide), asc_app (asc_app (asc_app a4 b4) (opp_asc a4)) (opp_asc b4)⟩
      · show _ ≤ tb d + 42
        simp only [List.length_append, List.length_cons, List.length_nil]
        omega
      · show _ ≤ 2 * (wb d + 42)
        simp only [List.length_append, opp_len]
        omega
    · obtain ⟨a1, a2, a3, a4⟩ := lo _ _ h1
      refine ⟨?_, ?_, asc_app (asc_app (by unfold Asc; decide) a3) (by unfold Asc; decide), a4⟩
      · show _ ≤ tb d + 42
        simp only [List.length_append, List.length_cons, List.length_nil]
        omega
      · show _ ≤ 2 * (wb d + 42)
        omega
theorem loo_fac {L : List Nat} (hL : ∀ c ∈ L, 97 ≤ c ∧ c ≤ 122) (d : Nat) {F V : List Nat} (h : Fac L (Cmp L d) F V) : Ok2 (pn d + 12) (2 * pk d) F V := fac_ok hL (pn_pos d) (pk_pos d) (cmp_ok hL d) h
theorem loo_ok {L : List Nat} (hL : ∀ c ∈ L, 97 ≤ c ∧ c ≤ 122) (d : Nat) {T W : List Nat} (h : Loo L d T W) : Ok2 (tb d) (wb d) T W := by
  have z := phr_ok (fun F V hF => loo_fac hL d hF) h
  rw [tb_is, wb_is] at z
  exact z
theorem bd3 {d : Nat} (h : d ≤ 3) : pn d ≤ 1100 ∧ pk d ≤ 26000 ∧ tb d ≤ 3200 ∧ wb d ≤ 152000 := by
  match d, h with
  | 0, _ => decide
  | 1, _ => decide
  | 2, _ => decide
  | 3, _ => decide
end KA
set_option maxRecDepth 100000
set_option maxHeartbeats 4000000
namespace KA
open PySem PySem.Spec PyProof.Rows L2
theorem scSpace : FnScope ["_law_box"] ["_law_box"] (defScope sSpace) := ⟨rfl, rfl, rfl, by decide +kernel, rfl, by decide +kernel, by decide +kernel⟩
abbrev NO : List Str := ["_law_box", "_law_letters_here", "_law_deep", "_law_some", "_law_one", "_law_k", "_law_way", "_law_times", "_law_sign", "_law_part", "_law_piece", "_law_left", "_law_right", "_law_inner", "_law_back_here"]
theorem scLoose : FnScope NO ["_law_box", "_law_letters_here", "_law_deep"] (defScope sLoose) := ⟨rfl, rfl, rfl, by decide +kernel, rfl, by decide +kernel, by decide +kernel⟩
def forBody : Stmt → List Stmt
  | .For _ _ b _ _ => b
  | _ => []
def ob : List Stmt := forBody ((defBody sLoose).getD 1 (.Pass ⟨0, 0, 0, 0⟩))
abbrev obs (i : Nat) : Stmt := ob.getD i (.Pass ⟨0, 0, 0, 0⟩)
theorem sp2S : Str.ofString "  " = SX.S [32, 32] := by decide
section
variable {P : Program} {w : World} {K : PySem.W.Frag} {mg : Str → Option Value} {base : Heap}
variable {f fA fD fS fG fZ fL : Addr} {fd fdA fdD fdS fdG fdZ fdL : FuncData} {cdv : Value} {A : Around} {outer : List Env} {s : Shared} {H : Hp} {E : XK}
def spSpace : Sp := fun vs H Q _ => ∃ (b m : Addr), vs = [.ref b] ∧ Bx H b m ∧ ∀ n H', n ≤ 2 → BxGo H H' b m → Q (tx (sp n)) H'
theorem ok_space {f : Addr} {fd : FuncData} {k : Nat} (F : Fun K "_law_space" "_law_space" sSpace f fd) (GA : FnOk P w K mg base CX0 (k + 2) fA fdA ["_law_box", "_law_some"] spAny) (kA : PySem.W.keepIn K (.ref fA) = true) (bA : Binds K fdA ["_law_box", "_law_some"] []) (gA : mg "_law_any" = some (.ref fA)) :
    FnOk P w K mg base CX0 (k + 3) f fd ["_law_box"] spSpace := by
  refine F.ok scSpace (fun vs H Q E h => ?_) (fun cdv A outer s H vs Q E hr h => ?_)
  · obtain ⟨b, m, rfl, _⟩ := h
    rfl
  · obtain ⟨b, m, rfl, hB, q⟩ := h
    refine ⟨_, pss_one (ps_ret (pe_call GA hr (by rfl) gA kA bA .nil pass0 (pa_cons (pv 0) (pa_cons (pe_lst (pa_cons pe_str (pa_cons pe_str (pa_cons pe_str (pa_cons pe_str pa_nil))))) pa_nil)))), ?_⟩
    refine ⟨_, rfl, (by show 4 ≤ sizeLine; decide), fun p np => ⟨b, m, p, _, rfl, hB.same (same_new np), upd_same, hB.ne np, (by simp), (by show 4 < 1000000; decide), fun x H1 hx hT => ?_⟩⟩
    have g : BxGo H H1 b m := (BxGo.of hB (same_new np)).trans hT.go
    have hx2 : x = tx (sp 0) ∨ x = tx (sp 1) ∨ x = tx (sp 2) := by
      have h2 : x = V.str (SX.S []) ∨ x = V.str (SX.S [32]) ∨ x = V.str (SX.S [32, 32]) := by
        rw [e0S, sp32, sp2S] at hx
        simpa using hx
      exact h2
    rcases hx2 with rfl | rfl | rfl
    · exact q 0 H1 (by decide) g
    · exact q 1 H1 (by decide) g
    · exact q 2 H1 (by decide) g
abbrev XO (P : Program) (w : World) (K : PySem.W.Frag) (mg : Str → Option Value) (base : Heap) (f : Addr) (cdv : Value) (A : Around) (outer : List Env) (s : Shared) (H : Hp) (E : XK) : Cx := (cxOf CX0 P w K mg base NO "_law_loose" (defScope sLoose) f cdv A outer s H E).nox
abbrev S15 (b : Addr) (L : List Nat) (d : Nat) (ps : Addr) (W : List Nat) (y5 y6 y7 y8 y9 y10 y11 y12 y13 y14 : Option V) : L2.St := [some (.ref b), some (tx L), some (.int (d : Int)), some (.ref ps), some (tx W), y5, y6, y7, y8, y9, y10, y11, y12, y13, y14]
theorem o0 (cD : FnOk P w K mg base CX0 1 fD fdD ["_law_box", "_law_many"] spDraw) (kD : PySem.W.keepIn K (.ref fD) = true) (bD : Binds K fdD ["_law_box", "_law_many"] []) (gD : mg "_law_draw" = some (.ref fD))
    (GA : FnOk P w K mg base CX0 2 fA fdA ["_law_box", "_law_some"] spAny) (kA : PySem.W.keepIn K (.ref fA) = true) (bA : Binds K fdA ["_law_box", "_law_some"] []) (gA : mg "_law_any" = some (.ref fA)) (hr : Room 3 (A.deeper (envOfC "_law_loose" (defScope sLoose) s.heap.objs.size f cdv))) :
    ∃ t, PS (XO P w K mg base f cdv A outer s H E) (obs 0) t ∧ ∀ (b m : Addr) (L : List Nat) (d : Nat) (ps : Addr) (W : List Nat) (y5 y6 y7 y8 y9 y10 y11 y12 y13 y14 : Option V) (D : Ends) (H0 : Hp), Bx H0 b m →
      (∀ (wy x : Int) H', 0 ≤ wy → x ∈ tm5 → BxGo H0 H' b m → D.nx (S15 b L d ps W y5 (some (.int wy)) (some (.int x)) y8 y9 y10 y11 y12 y13 y14) H') → t D (S15 b L d ps W y5 y6 y7 y8 y9 y10 y11 y12 y13 y14) H0 := by
  have r1 : Room 1 (A.deeper (envOfC "_law_loose" (defScope sLoose) s.heap.objs.size f cdv)) := hr.mono (by decide)
  have r2 : Room 2 (A.deeper (envOfC "_law_loose" (defScope sLoose) s.heap.objs.size f cdv)) := hr.mono (by decide)
  refine ⟨_, ps_par (i := 6) (j := 7) (by rfl) scLoose.nd rfl rfl (by decide) rfl rfl (pa_cons (pe_call cD r1 (by rfl) gD kD bD .nil pass0 (pa_cons (pv 0) (pa_cons pe_int pa_nil)))
    (pa_cons (pe_call GA r2 (by rfl) gA kA bA .nil pass0 (pa_cons (pv 0) (pa_cons (pe_lst (pa_cons pe_int (pa_cons pe_int (pa_cons pe_int (pa_cons (pe_un un_neg pe_int) (pa_cons pe_int (pa_cons (pe_un un_neg pe_int) pa_nil))))))) pa_nil))) pa_nil)) (by rfl), ?_⟩
  intro b m L d ps W y5 y6 y7 y8 y9 y10 y11 y12 y13 y14 D H0 hB nx
  refine ⟨_, rfl, b, m, 5, rfl, hB, by decide, by decide, fun wy H1 w0 w1 hT => ⟨_, rfl, _, rfl, _, rfl, (by show 6 ≤ sizeLine; decide), fun p np => ⟨b, m, p, _, rfl, hT.1.same (same_new np), upd_same, hT.1.ne np, (by simp), (by show 6 < 1000000; decide), fun x H2 hx hT2 => ?_⟩⟩⟩
  have g : BxGo H0 H2 b m := (hT.go.trans (BxGo.of hT.1 (same_new np))).trans hT2.go
  obtain ⟨z, rfl, hz⟩ : ∃ z, x = V.int z ∧ z ∈ tm5 := by
    have h2 : x = .int 1 ∨ x = .int 2 ∨ x = .int (-1) ∨ x = .int 0 ∨ x = .int (-2) := by simpa using hx
    rcases h2 with h | h | h | h | h <;> exact ⟨_, h, by decide⟩
  exact ⟨_, _, rfl, nx wy z H2 w0 hz g⟩
theorem o2 (B : Bn mg) (GZ : FnOk P w K mg base CX0 3 fZ fdZ ["_law_box"] spSpace) (kZ : PySem.W.keepIn K (.ref fZ) = true) (bZ : Binds K fdZ ["_law_box"] []) (gZ : mg "_law_space" = some (.ref fZ)) (hr : Room 3 (A.deeper (envOfC "_law_loose" (defScope sLoose) s.heap.objs.size f cdv))) :
    ∃ t, PS (XO P w K mg base f cdv A outer s H E) (obs 2) t ∧ ∀ (b m : Addr) (L : List Nat) (d : Nat) (ps : Addr) (W p : List Nat) (x : Int) (y5 y6 y8 y10 y11 y12 y13 y14 : Option V) (D : Ends) (H0 : Hp), Bx H0 b m → x ∈ tm7 → p.length ≤ 2000 →
      (∀ F H', Pwd p x F → BxGo H0 H' b m → D.nx (S15 b L d ps W y5 y6 (some (.int x)) y8 (some (tx F)) y10 y11 y12 y13 y14) H') → t D (S15 b L d ps W y5 y6 (some (.int x)) y8 (some (tx p)) y10 y11 y12 y13 y14) H0 := by
  refine ⟨_, ps_if (PW.pt (pw_or (pt_cmpR op_ne (pv 7) pe_int (nomark _)) (pw_or1 (pt_cmpR op_eq (pv 9) pe_str (nomark _)))))
    (pss_one (ps_set (i := 9) scLoose.nd rfl (.inl rfl) (pe_op op_add_str (pe_op op_add_str (pe_op op_add_str (pe_op op_add_str (pv 9) (pe_call GZ hr (by rfl) gZ kZ bZ .nil pass0 (pa_cons (pv 0) pa_nil))) pe_str) (pe_call GZ hr (by rfl) gZ kZ bZ .nil pass0 (pa_cons (pv 0) pa_nil))) (pe_callTy call_str_int (by rfl) B.str (by decide +kernel) (pa_cons (pv 7) pa_nil))))) pss_nil, ?_⟩
  intro b m L d ps W p x y5 y6 y8 y10 y11 y12 y13 y14 D H0 hB hx hp nx
  have yes : (tAsg (tOp (fun x y H Q => ∃ i j, x = V.str i ∧ y = V.str j ∧ i.length + j.length ≤ sizeLine ∧ Q (V.str (i ++ j)) H) (tOp (fun x y H Q => ∃ i j, x = V.str i ∧ y = V.str j ∧ i.length + j.length ≤ sizeLine ∧ Q (V.str (i ++ j)) H) (tOp (fun x y H Q => ∃ i j, x = V.str i ∧ y = V.str j ∧ i.length + j.length ≤ sizeLine ∧ Q (V.str (i ++ j)) H) (tOp (fun x y H Q => ∃ i j, x = V.str i ∧ y = V.str j ∧ i.length + j.length ≤ sizeLine ∧ Q (V.str (i ++ j)) H) (tVar 9) (tCall spSpace [] E0 (tCons (tVar 0) tNil))) (tC (.str (Str.ofString "^")))) (tCall spSpace [] E0 (tCons (tVar 0) tNil)))
      (tCB (fun xs H Q => ∃ i, xs = [.int i] ∧ i.natAbs.log2 < 1920 ∧ Q (.str (toString i)) H) (tCons (tVar 7) tNil))) (gName 9)) D (S15 b L d ps W y5 y6 (some (.int x)) y8 (some (tx p)) y10 y11 y12 y13 y14) H0 := by
    refine ⟨_, rfl, _, rfl, b, m, rfl, hB, fun n1 H1 hn1 g1 => ⟨_, _, rfl, rfl, ?_, ?_⟩⟩
    · rw [tx_len, tx_len, sp_len]
      exact Nat.le_of_lt (big_lt (by omega))
    rw [SX.S_cat, caret]
    refine ⟨_, _, rfl, rfl, ?_, ?_⟩
    · rw [tx_len, tx_len, List.length_append, sp_len]
      exact Nat.le_of_lt (big_lt (by simp only [List.length_cons, List.length_nil]; omega))
    rw [SX.S_cat]
    refine ⟨_, rfl, b, m, rfl, g1.1, fun n2 H2 hn2 g2 => ⟨_, _, rfl, rfl, ?_, ?_⟩⟩
    · rw [tx_len, tx_len, List.length_append, List.length_append, sp_len, sp_len]
      exact Nat.le_of_lt (big_lt (by simp only [List.length_cons, List.length_nil]; omega))
    rw [SX.S_cat]
    have hnl := nt_len x hx
    refine ⟨_, rfl, x, rfl, ?_, _, _, rfl, rfl, ?_, ?_⟩
    · have h2 : ∀ x ∈ tm7, x.natAbs.log2 < 1920 := by decide
      exact h2 x hx
    · rw [nt_is x hx, tx_len, tx_len, List.length_append, List.length_append, List.length_append, sp_len, sp_len]
      exact Nat.le_of_lt (big_lt (by simp only [List.length_cons, List.length_nil]; omega))
    rw [nt_is x hx, SX.S_cat]
    exact nx _ H2 (.inr ⟨n1, n2, hn1, hn2, rfl⟩) (g1.trans g2)
  refine ⟨_, rfl, rfl, _, rfl, ?_⟩
  by_cases h1 : x = 1
  · subst h1
    have ed : decide (V.int 1 = V.int 1) = true := decide_eq_true rfl
    rw [ed]
    refine iteF ⟨_, rfl, rfl, _, rfl, ?_⟩
    rw [one49, tx_eq]
    by_cases hp1 : p = [49]
    · rw [decide_eq_true hp1]
      exact iteT yes
    · rw [decide_eq_false hp1]
      exact iteF (nx p H0 (.inl ⟨rfl, hp1, rfl⟩) (.refl hB))
  · have ed : decide (V.int x = V.int 1) = false := decide_eq_false (fun z => h1 (by injection z))
    rw [ed]
    exact iteT (iteT yes)
end
end KA
set_option maxRecDepth 100000
set_option maxHeartbeats 4000000
namespace KA
open PySem PySem.Spec PyProof.Rows L2
def Lg (L : List Nat) : Prop := (1 ≤ L.length ∧ L.Nodup) ∧ L.length ≤ 3 ∧ ∀ c ∈ L, 97 ≤ c ∧ c ≤ 122
theorem Lg.lt {L : List Nat} (h : Lg L) : Lt L := ⟨⟨by have := h.2.1; omega, h.1.2⟩, h.2.2⟩
theorem sg_ne {L : List Nat} (h : Lg L) : sg L ≠ [] := by
  intro e
  have h1 := sg_len L
  rw [e] at h1
  have h2 := h.1.1
  have h3 : ([] : List Nat).length = 0 := rfl
  omega
theorem wb2 {d : Nat} (h : d ≤ 2) : wb d ≤ 13000 := by
  match d, h with
  | 0, _ => decide
  | 1, _ => decide
  | 2, _ => decide
def spLoose (d : Nat) : Sp := fun vs H Q _ => ∃ (b m : Addr) (L : List Nat), vs = [.ref b, tx L, .int (d : Int)] ∧ Bx H b m ∧ Lg L ∧ ∀ T W H' p, Loo L d T W → BxGo H H' b m → H p = none → p ≠ b → H' p = some (.tup [tx T, tx W]) → Q (.ref p) H'
section
variable {P : Program} {w : World} {K : PySem.W.Frag} {mg : Str → Option Value} {base : Heap}
variable {f fA fD fS fG fZ fL : Addr} {fd fdA fdD fdS fdG fdZ fdL : FuncData} {cdv : Value} {A : Around} {outer : List Env} {s : Shared} {H : Hp} {E : XK}
def thenS : Stmt → List Stmt
  | .If _ b _ _ => b
  | _ => []
def Atx (L : List Nat) (C : List Nat → List Nat → Prop) (b m : Addr) (d : Nat) (ps : Addr) (W : List Nat) (y5 : Option V) (H0 : Hp) (D : Ends) : Prop := ∀ (p c : List Nat) (x : Int) H' (y6 y8 y11 y12 y13 y14 : Option V), Atm L C p c x → BxGo H0 H' b m → D.nx (S15 b L d ps W y5 y6 (some (.int x)) y8 (some (tx p)) (some (tx c)) y11 y12 y13 y14) H'
theorem Atx.of {L : List Nat} {C : List Nat → List Nat → Prop} {b m : Addr} {d : Nat} {ps : Addr} {W : List Nat} {y5 : Option V} {H0 H1 : Hp} {D : Ends} (h : Atx L C b m d ps W y5 H0 D) (g : BxGo H0 H1 b m) : Atx L C b m d ps W y5 H1 D := fun p c x H' y6 y8 y11 y12 y13 y14 ha hg => h p c x H' y6 y8 y11 y12 y13 y14 ha (g.trans hg)
theorem o_sign (B : Bn mg) (GS : FnOk P w K mg base CX0 1 fS fdS ["_law_letters_here"] spSigns) (kS : PySem.W.keepIn K (.ref fS) = true) (bS : Binds K fdS ["_law_letters_here"] []) (gS : mg "_law_signs" = some (.ref fS))
    (GA : FnOk P w K mg base CX0 2 fA fdA ["_law_box", "_law_some"] spAny) (kA : PySem.W.keepIn K (.ref fA) = true) (bA : Binds K fdA ["_law_box", "_law_some"] []) (gA : mg "_law_any" = some (.ref fA)) (hr : Room 3 (A.deeper (envOfC "_law_loose" (defScope sLoose) s.heap.objs.size f cdv))) :
    ∃ t, PSs (XO P w K mg base f cdv A outer s H E) (thenS (obs 1)) t ∧ ∀ (C : List Nat → List Nat → Prop) (b m : Addr) (L : List Nat) (d : Nat) (ps : Addr) (W : List Nat) (x : Int) (y5 y6 y8 y9 y10 y11 y12 y13 y14 : Option V) (D : Ends) (H0 : Hp), Bx H0 b m → Lg L → x ∈ tm5 →
      Atx L C b m d ps W y5 H0 D → t D (S15 b L d ps W y5 y6 (some (.int x)) y8 y9 y10 y11 y12 y13 y14) H0 := by
  have r1 : Room 1 (A.deeper (envOfC "_law_loose" (defScope sLoose) s.heap.objs.size f cdv)) := hr.mono (by decide)
  have r2 : Room 2 (A.deeper (envOfC "_law_loose" (defScope sLoose) s.heap.objs.size f cdv)) := hr.mono (by decide)
  refine ⟨_, pss_cons (ps_set (i := 8) scLoose.nd rfl (.inl rfl) (pe_call GA r2 (by rfl) gA kA bA .nil pass0 (pa_cons (pv 0) (pa_cons (pe_callTy (c_listS rfl) (by rfl) B.list PyProof.Rows.boot_list (pa_cons (pe_call GS r1 (by rfl) gS kS bS .nil pass0 (pa_cons (pv 1) pa_nil)) pa_nil)) pa_nil))))
    (pss_one (ps_par3 (i := 9) (j := 10) (l := 7) (by rfl) scLoose.nd rfl rfl rfl (by decide) (by decide) (by decide) rfl rfl rfl (pa_cons (pv 8) (pa_cons (pv 8) (pa_cons (pe_call GA r2 (by rfl) gA kA bA .nil pass0 (pa_cons (pv 0) (pa_cons (pe_lst (pa_cons (pv 7) (pa_cons pe_int (pa_cons pe_int (pa_cons (pe_un un_neg pe_int) (pa_cons pe_int pa_nil)))))) pa_nil))) pa_nil))) (by rfl))), ?_⟩
  intro C b m L d ps W x y5 y6 y8 y9 y10 y11 y12 y13 y14 D H0 hB hL hx nx
  have hsl : (sg L).length ≤ 6 := by
    rw [sg_len]
    have := hL.2.1
    omega
  refine ⟨_, rfl, _, rfl, L, rfl, hL.lt, fun H1 s1 => ⟨sg L, rfl, by omega, fun p np => ⟨b, m, p, _, rfl, (hB.same s1).same (same_new np), upd_same, (hB.same s1).ne np, ?_, ?_, fun v H2 hv hT => ?_⟩⟩⟩
  · intro e
    exact sg_ne hL (List.map_eq_nil_iff.mp e)
  · rw [List.length_map]
    omega
  obtain ⟨c, hc, rfl⟩ := List.mem_map.mp hv
  have g : BxGo H0 H2 b m := (BxGo.of hB (s1.trans (same_new np))).trans hT.go
  refine ⟨_, rfl, _, rfl, _, rfl, _, rfl, _, rfl, (by show 5 ≤ sizeLine; decide), fun q nq => ⟨b, m, q, _, rfl, g.1.same (same_new nq), upd_same, g.1.ne nq, (by simp), (by show 5 < 1000000; decide), fun v H3 hv hT3 => ?_⟩⟩
  obtain ⟨z, rfl, hz⟩ : ∃ z, v = V.int z ∧ z ∈ tm7 := by
    have h2 : v = .int x ∨ v = .int 1 ∨ v = .int 13 ∨ v = .int (-10) ∨ v = .int 0 := by simpa using hv
    rcases h2 with h | h | h | h | h
    · exact ⟨_, h, (tm57 x hx).1⟩
    all_goals exact ⟨_, h, by decide⟩
  refine ⟨_, _, _, rfl, ?_⟩
  exact nx [c] [c] z H3 _ _ _ _ _ _ (.inl ⟨⟨c, hc, rfl, rfl⟩, hz⟩) ((g.trans (BxGo.of g.1 (same_new nq))).trans hT3.go)
theorem o1z (B : Bn mg) (GS : FnOk P w K mg base CX0 1 fS fdS ["_law_letters_here"] spSigns) (kS : PySem.W.keepIn K (.ref fS) = true) (bS : Binds K fdS ["_law_letters_here"] []) (gS : mg "_law_signs" = some (.ref fS))
    (GA : FnOk P w K mg base CX0 2 fA fdA ["_law_box", "_law_some"] spAny) (kA : PySem.W.keepIn K (.ref fA) = true) (bA : Binds K fdA ["_law_box", "_law_some"] []) (gA : mg "_law_any" = some (.ref fA)) (hr : Room 3 (A.deeper (envOfC "_law_loose" (defScope sLoose) s.heap.objs.size f cdv))) :
    ∃ t, PS (XO P w K mg base f cdv A outer s H E) (obs 1) t ∧ ∀ (b m : Addr) (L : List Nat) (ps : Addr) (W : List Nat) (wy x : Int) (y5 y8 y9 y10 y11 y12 y13 y14 : Option V) (D : Ends) (H0 : Hp), Bx H0 b m → Lg L → x ∈ tm5 →
      Atx L (Cmp L 0) b m 0 ps W y5 H0 D → t D (S15 b L 0 ps W y5 (some (.int wy)) (some (.int x)) y8 y9 y10 y11 y12 y13 y14) H0 := by
  obtain ⟨t1, P1, R1⟩ := o_sign (P := P) (w := w) (f := f) (cdv := cdv) (outer := outer) (s := s) (H := H) (E := E) (A := A) B GS kS bS gS GA kA bA gA hr
  refine ⟨_, ps_if (PW.pt (pw_or (pt_cmpR op_eq (pv 6) pe_int (nomark _)) (pw_or1 (pt_cmpR op_eq (pv 2) pe_int (nomark _))))) P1 pss_never, ?_⟩
  intro b m L ps W wy x y5 y8 y9 y10 y11 y12 y13 y14 D H0 hB hL hx nx
  have go := R1 (Cmp L 0) b m L 0 ps W x y5 (some (.int wy)) y8 y9 y10 y11 y12 y13 y14 D H0 hB hL hx nx
  refine ⟨_, rfl, rfl, _, rfl, ite2 (fun _ => iteT go) (fun _ => ?_)⟩
  exact ⟨_, rfl, rfl, true, rfl, iteT go⟩
theorem o1s {d j : Nat} (hd : d ≤ 2) (hj : 4 ≤ j) (B : Bn mg) (GS : FnOk P w K mg base CX0 1 fS fdS ["_law_letters_here"] spSigns) (kS : PySem.W.keepIn K (.ref fS) = true) (bS : Binds K fdS ["_law_letters_here"] []) (gS : mg "_law_signs" = some (.ref fS))
    (GA : FnOk P w K mg base CX0 2 fA fdA ["_law_box", "_law_some"] spAny) (kA : PySem.W.keepIn K (.ref fA) = true) (bA : Binds K fdA ["_law_box", "_law_some"] []) (gA : mg "_law_any" = some (.ref fA))
    (GG : FnOk P w K mg base CX0 2 fG fdG ["_law_one"] spGone) (kG : PySem.W.keepIn K (.ref fG) = true) (bG : Binds K fdG ["_law_one"] []) (gG : mg "_law_gone_back" = some (.ref fG))
    (GL : FnOk P w K mg base CX0 j fL fdL ["_law_box", "_law_letters_here", "_law_deep"] (spLoose d)) (GL0 : FnOk P w K mg base CX0 4 fL fdL ["_law_box", "_law_letters_here", "_law_deep"] (spLoose 0)) (kL : PySem.W.keepIn K (.ref fL) = true) (bL : Binds K fdL ["_law_box", "_law_letters_here", "_law_deep"] []) (gL : mg "_law_loose" = some (.ref fL))
    (hr : Room j (A.deeper (envOfC "_law_loose" (defScope sLoose) s.heap.objs.size f cdv))) :
    ∃ t, PS (XO P w K mg base f cdv A outer s H E) (obs 1) t ∧ ∀ (b m : Addr) (L : List Nat) (ps : Addr) (W : List Nat) (wy x : Int) (y5 y8 y9 y10 y11 y12 y13 y14 : Option V) (D : Ends) (H0 : Hp), Bx H0 b m → Lg L → x ∈ tm5 →
      Atx L (Cmp L (d + 1)) b m (d + 1) ps W y5 H0 D → t D (S15 b L (d + 1) ps W y5 (some (.int wy)) (some (.int x)) y8 y9 y10 y11 y12 y13 y14) H0 := by
  have r3 : Room 3 (A.deeper (envOfC "_law_loose" (defScope sLoose) s.heap.objs.size f cdv)) := hr.mono (by omega)
  have r2 : Room 2 (A.deeper (envOfC "_law_loose" (defScope sLoose) s.heap.objs.size f cdv)) := hr.mono (by omega)
  have r4 : Room 4 (A.deeper (envOfC "_law_loose" (defScope sLoose) s.heap.objs.size f cdv)) := hr.mono (by omega)
  obtain ⟨t1, P1, R1⟩ := o_sign (P := P) (w := w) (f := f) (cdv := cdv) (outer := outer) (s := s) (H := H) (E := E) (A := A) B GS kS bS gS GA kA bA gA r3
  refine ⟨_, ps_if (PW.pt (pw_or (pt_cmpR op_eq (pv 6) pe_int (nomark _)) (pw_or1 (pt_cmpR op_eq (pv 2) pe_int (nomark _))))) P1
    (pss_one (ps_if (pt_cmpR op_eq (pv 6) pe_int (nomark _)) (pss_one (ps_asg (pe_tup (pa_cons pe_str (pa_cons pe_str pa_nil))) (pg_tup rfl (pgs_cons (pg_name (i := 9) scLoose.nd rfl (.inl rfl)) (pgs_cons (pg_name (i := 10) scLoose.nd rfl (.inl rfl)) pgs_nil)))))
    (pss_one (ps_if (pt_cmpR op_eq (pv 6) pe_int (nomark _))
      (pss_cons (ps_par (i := 11) (j := 12) (by rfl) scLoose.nd rfl rfl (by decide) rfl rfl (pa_cons (pe_call GL hr (by rfl) gL kL bL .nil pass0 (pa_cons (pv 0) (pa_cons (pv 1) (pa_cons (pe_op op_sub (pv 2) pe_int) pa_nil)))) (pa_cons (pe_call GL0 r4 (by rfl) gL kL bL .nil pass0 (pa_cons (pv 0) (pa_cons (pv 1) (pa_cons pe_int pa_nil)))) pa_nil)) (by rfl))
      (pss_cons (ps_set (i := 9) scLoose.nd rfl (.inl rfl) (pe_op op_add_str (pe_op op_add_str (pe_op op_add_str (pe_op op_add_str pe_str (pe_ix ix_tup (pv 11) pe_int (fun _ _ => rfl))) pe_str) (pe_ix ix_tup (pv 12) pe_int (fun _ _ => rfl))) pe_str))
      (pss_one (ps_set (i := 10) scLoose.nd rfl (.inl rfl) (pe_op op_add_str (pe_op op_add_str (pe_op op_add_str (pe_ix ix_tup (pv 11) pe_int (fun _ _ => rfl)) (pe_ix ix_tup (pv 12) pe_int (fun _ _ => rfl))) (pe_call GG r2 (by rfl) gG kG bG .nil pass0 (pa_cons (pe_ix ix_tup (pv 11) pe_int (fun _ _ => rfl)) pa_nil))) (pe_call GG r2 (by rfl) gG kG bG .nil pass0 (pa_cons (pe_ix ix_tup (pv 12) pe_int (fun _ _ => rfl)) pa_nil)))))))
      (pss_cons (ps_set (i := 13) scLoose.nd rfl (.inl rfl) (pe_call GL hr (by rfl) gL kL bL .nil pass0 (pa_cons (pv 0) (pa_cons (pv 1) (pa_cons (pe_op op_sub (pv 2) pe_int) pa_nil)))))
      (pss_one (ps_par (i := 9) (j := 10) (by rfl) scLoose.nd rfl rfl (by decide) rfl rfl (pa_cons (pe_op op_add_str (pe_op op_add_str pe_str (pe_ix ix_tup (pv 13) pe_int (fun _ _ => rfl))) pe_str) (pa_cons (pe_ix ix_tup (pv 13) pe_int (fun _ _ => rfl)) pa_nil)) (by rfl)))))))), ?_⟩
  intro b m L ps W wy x y5 y8 y9 y10 y11 y12 y13 y14 D H0 hB hL hx nx
  have go := R1 (Cmp L (d + 1)) b m L (d + 1) ps W x y5 (some (.int wy)) y8 y9 y10 y11 y12 y13 y14 D H0 hB hL hx nx
  have bd := bd3 (d := d) (by omega)
  have ed : ((d + 1 : Nat) : Int) - 1 = (d : Int) := by omega
  have e0 : decide (V.int ((d + 1 : Nat) : Int) = V.int 0) = false := decide_eq_false (fun z => by injection z with z; omega)
  have wdb : ∀ T W, Loo L d T W → W.length ≤ 13000 := by
    intro T W h
    have z := (loo_ok hL.2.2 d h).2.1
    have := wb2 hd
    omega
  refine ⟨_, rfl, rfl, _, rfl, ite2 (fun _ => iteT go) (fun _ => ⟨_, rfl, rfl, _, rfl, ?_⟩)⟩
  rw [e0]
  refine iteF ⟨_, rfl, rfl, _, rfl, ite2 (fun _ => ?_) (fun _ => ?_)⟩
  · refine ⟨(by show 2 ≤ sizeLine; decide), fun T0 nT => ⟨T0, _, rfl, SqT.of upd_same, rfl, _, _, rfl, _, _, rfl, rfl, ?_⟩⟩
    have z := nx [49] [] x _ (some (.int wy)) y8 y11 y12 y13 y14 (.inr ⟨.inl ⟨rfl, rfl⟩, hx⟩) (BxGo.of hB (same_new nT (o := .tup [.str (Str.ofString "1"), .str (Str.ofString "")])))
    rw [one49, e0S] at z ⊢
    exact z
  · refine ⟨_, rfl, rfl, _, rfl, ite2 (fun _ => ?_) (fun _ => ?_)⟩
    · refine ⟨_, rfl, _, rfl, _, rfl, _, _, rfl, rfl, b, m, L, ?_, hB, hL, fun T1 W1 H1 p1 l1 g1 np1 nb1 hp1 => ?_⟩
      · dsimp only
        rw [ed]
        rfl
      refine ⟨_, rfl, _, rfl, b, m, L, rfl, g1.1, hL, fun T2 W2 H2 p2 l2 g2 np2 nb2 hp2 => ⟨_, _, rfl, ?_⟩⟩
      have hp12 : H2 p1 = some (.tup [tx T1, tx W1]) := g2.2 _ _ nb1 hp1
      obtain ⟨a1, a2, a3, a4⟩ := loo_ok hL.2.2 d l1
      obtain ⟨c1, c2, c3, c4⟩ := loo_ok hL.2.2 0 l2
      have c1' : T2.length ≤ 39 := c1
      have c2' : W2.length ≤ 42 := c2
      have wd1 := wdb T1 W1 l1
      refine ⟨_, rfl, p1, _, 0, _, rfl, rfl, SqT.of hp12, rfl, _, _, rfl, rfl, ?_, ?_⟩
      · rw [par91, tx_len, tx_len]
        exact Nat.le_of_lt (big_lt (by simp only [List.length_cons, List.length_nil]; omega))
      rw [par91, SX.S_cat, com44]
      refine ⟨_, _, rfl, rfl, ?_, ?_⟩
      · rw [tx_len, tx_len, List.length_append]
        exact Nat.le_of_lt (big_lt (by simp only [List.length_cons, List.length_nil]; omega))
      rw [SX.S_cat]
      refine ⟨_, rfl, p2, _, 0, _, rfl, rfl, SqT.of hp2, rfl, _, _, rfl, rfl, ?_, ?_⟩
      · rw [tx_len, tx_len, List.length_append, List.length_append]
        exact Nat.le_of_lt (big_lt (by simp only [List.length_cons, List.length_nil]; omega))
      rw [SX.S_cat, par93]
      refine ⟨_, _, rfl, rfl, ?_, ?_⟩
      · rw [tx_len, tx_len, List.length_append, List.length_append, List.length_append]
        exact Nat.le_of_lt (big_lt (by simp only [List.length_cons, List.length_nil]; omega))
      rw [SX.S_cat]
      refine ⟨_, rfl, p1, _, 1, _, rfl, rfl, SqT.of hp12, rfl, _, rfl, p2, _, 1, _, rfl, rfl, SqT.of hp2, rfl, _, _, rfl, rfl, ?_, ?_⟩
      · rw [tx_len, tx_len]
        exact Nat.le_of_lt (big_lt (by omega))
      rw [SX.S_cat]
      refine ⟨_, rfl, p1, _, 1, _, rfl, rfl, SqT.of hp12, rfl, W1, rfl, by omega, a4, fun H3 s3 => ⟨_, _, rfl, rfl, ?_, ?_⟩⟩
      · rw [tx_len, tx_len, opp_len, List.length_append]
        exact Nat.le_of_lt (big_lt (by omega))
      rw [SX.S_cat]
      refine ⟨_, rfl, p2, _, 1, _, rfl, rfl, SqT.of (s3 _ _ hp2), rfl, W2, rfl, by omega, c4, fun H4 s4 => ⟨_, _, rfl, rfl, ?_, ?_⟩⟩
      · rw [tx_len, tx_len, opp_len, List.length_append, List.length_append, opp_len]
        exact Nat.le_of_lt (big_lt (by omega))
      rw [SX.S_cat]
      have g4 : BxGo H0 H4 b m := (g1.trans g2).trans (BxGo.of (g1.trans g2).1 (s3.trans s4))
      exact nx _ _ x H4 _ _ _ _ _ _ (.inr ⟨.inr (.inl ⟨T1, W1, T2, W2, l1, l2, rfl, rfl⟩), hx⟩) g4
    · refine ⟨_, rfl, _, rfl, _, rfl, _, _, rfl, rfl, b, m, L, ?_, hB, hL, fun T1 W1 H1 p1 l1 g1 np1 nb1 hp1 => ?_⟩
      · dsimp only
        rw [ed]
        rfl
      obtain ⟨a1, a2, a3, a4⟩ := loo_ok hL.2.2 d l1
      refine ⟨_, rfl, p1, _, 0, _, rfl, rfl, SqT.of hp1, rfl, _, _, rfl, rfl, ?_, ?_⟩
      · rw [par40, tx_len, tx_len]
        exact Nat.le_of_lt (big_lt (by simp only [List.length_cons, List.length_nil]; omega))
      rw [par40, SX.S_cat, par41]
      refine ⟨_, _, rfl, rfl, ?_, ?_⟩
      · rw [tx_len, tx_len, List.length_append]
        exact Nat.le_of_lt (big_lt (by simp only [List.length_cons, List.length_nil]; omega))
      rw [SX.S_cat]
      refine ⟨_, rfl, p1, _, 1, _, rfl, rfl, SqT.of hp1, rfl, _, _, rfl, ?_⟩
      exact nx _ _ x H1 _ _ _ _ _ _ (.inr ⟨.inr (.inr ⟨T1, W1, l1, rfl, rfl⟩), hx⟩) g1
end
end KA
set_option maxRecDepth 100000
set_option maxHeartbeats 4000000
namespace KA
open PySem PySem.Spec PyProof.Rows L2
section
variable {P : Program} {w : World} {K : PySem.W.Frag} {mg : Str → Option Value} {base : Heap}
variable {f fA fD fS fG fZ fL : Addr} {fd fdA fdD fdS fdG fdZ fdL : FuncData} {cdv : Value} {A : Around} {outer : List Env} {s : Shared} {H : Hp} {E : XK}
def Go2 (ps b m : Addr) (H H' : Hp) : Prop := Bx H' b m ∧ ∀ x o, x ≠ b → x ≠ ps → H x = some o → H' x = some o
theorem o3 (GZ : FnOk P w K mg base CX0 3 fZ fdZ ["_law_box"] spSpace) (kZ : PySem.W.keepIn K (.ref fZ) = true) (bZ : Binds K fdZ ["_law_box"] []) (gZ : mg "_law_space" = some (.ref fZ))
    (GA : FnOk P w K mg base CX0 2 fA fdA ["_law_box", "_law_some"] spAny) (kA : PySem.W.keepIn K (.ref fA) = true) (bA : Binds K fdA ["_law_box", "_law_some"] []) (gA : mg "_law_any" = some (.ref fA)) (hr : Room 3 (A.deeper (envOfC "_law_loose" (defScope sLoose) s.heap.objs.size f cdv))) :
    ∃ t, PS (XO P w K mg base f cdv A outer s H E) (obs 3) t ∧ ∀ (b m : Addr) (L : List Nat) (d : Nat) (ps : Addr) (W F : List Nat) (ts : List (List Nat)) (y5 y6 y7 y8 y10 y11 y12 y13 y14 : Option V) (D : Ends) (H0 : Hp), Bx H0 b m → H0 ps = some (.lst (ts.map tx)) → ps ≠ b → ps ≠ m → ts.length ≤ 100 → F.length ≤ 3000 →
      (∀ s1 s2 H', s1 ≤ 2 → 1 ≤ s2 → s2 ≤ 2 → Go2 ps b m H0 H' → H' ps = some (.lst ((ts ++ [sp s1 ++ F ++ sp s2]).map tx)) → D.nx (S15 b L d ps W y5 y6 y7 y8 (some (tx F)) y10 y11 y12 y13 y14) H') → t D (S15 b L d ps W y5 y6 y7 y8 (some (tx F)) y10 y11 y12 y13 y14) H0 := by
  have r2 : Room 2 (A.deeper (envOfC "_law_loose" (defScope sLoose) s.heap.objs.size f cdv)) := hr.mono (by decide)
  refine ⟨_, ps_expr (pe_bm PySem.F.plainAttrs_list PySem.F.slot_list_append PySem.F.type_list_append mt_append (pv 3) (pa_cons (pe_op op_add_str (pe_op op_add_str (pe_call GZ hr (by rfl) gZ kZ bZ .nil pass0 (pa_cons (pv 0) pa_nil)) (pv 9)) (pe_call GA r2 (by rfl) gA kA bA .nil pass0 (pa_cons (pv 0) (pa_cons (pe_lst (pa_cons pe_str (pa_cons pe_str pa_nil))) pa_nil)))) pa_nil)), ?_⟩
  intro b m L d ps W F ts y5 y6 y7 y8 y10 y11 y12 y13 y14 D H0 hB hps nb nm hts hF nx
  refine ⟨_, rfl, .inl ⟨rfl, _, SqL.of hps⟩, _, rfl, b, m, rfl, hB, fun s1 H1 h1 g1 => ⟨_, rfl, _, _, rfl, rfl, ?_, ?_⟩⟩
  · rw [tx_len, tx_len, sp_len]
    exact Nat.le_of_lt (big_lt (by omega))
  rw [SX.S_cat]
  refine ⟨_, rfl, (by show 2 ≤ sizeLine; decide), fun q nq => ⟨b, m, q, _, rfl, g1.1.same (same_new nq), upd_same, g1.1.ne nq, (by simp), (by show 2 < 1000000; decide), fun x H2 hx hT => ?_⟩⟩
  have g2 : BxGo H0 H2 b m := (g1.trans (BxGo.of g1.1 (same_new nq))).trans hT.go
  have hps2 : H2 ps = some (.lst (ts.map tx)) := g2.2 _ _ nb hps
  obtain ⟨s2, rfl, k1, k2⟩ : ∃ s2, x = tx (sp s2) ∧ 1 ≤ s2 ∧ s2 ≤ 2 := by
    have h2 : x = V.str (SX.S [32]) ∨ x = V.str (SX.S [32, 32]) := by
      rw [sp32, sp2S] at hx
      simpa using hx
    rcases h2 with h | h
    · exact ⟨1, h, by decide, by decide⟩
    · exact ⟨2, h, by decide, by decide⟩
  refine ⟨_, _, rfl, rfl, ?_, ?_⟩
  · rw [tx_len, tx_len, List.length_append, sp_len, sp_len]
    exact Nat.le_of_lt (big_lt (by omega))
  rw [SX.S_cat]
  refine ⟨ps, _, _, rfl, rfl, hps2, ?_, ?_⟩
  · rw [List.length_map]
    exact big_lt (by omega)
  refine nx s1 s2 _ h1 k1 k2 ⟨g2.1.upd nb nm, fun x o hx1 hx2 e => ?_⟩ ?_
  · rw [upd_ne hx2]
    exact g2.2 _ _ hx1 e
  · rw [upd_same, List.map_append]
    rfl
theorem o45 (GG : FnOk P w K mg base CX0 2 fG fdG ["_law_one"] spGone) (kG : PySem.W.keepIn K (.ref fG) = true) (bG : Binds K fdG ["_law_one"] []) (gG : mg "_law_gone_back" = some (.ref fG)) (hr : Room 3 (A.deeper (envOfC "_law_loose" (defScope sLoose) s.heap.objs.size f cdv))) :
    ∃ t, PSs (XO P w K mg base f cdv A outer s H E) (ob.drop 4) t ∧ ∀ (b : Addr) (L : List Nat) (d : Nat) (ps : Addr) (W c : List Nat) (x : Int) (y5 y6 y8 y9 y11 y12 y13 y14 : Option V) (D : Ends) (H0 : Hp), x ∈ tm7 → c.length ≤ 30000 → Asc c → c.length * x.natAbs ≤ 60000 → W.length ≤ 200000 →
      (∀ H' y14', Same H0 H' → D.nx (S15 b L d ps (W ++ pwr c x) y5 y6 (some (.int x)) y8 y9 (some (tx c)) y11 y12 y13 y14') H') → t D (S15 b L d ps W y5 y6 (some (.int x)) y8 y9 (some (tx c)) y11 y12 y13 y14) H0 := by
  have r2 : Room 2 (A.deeper (envOfC "_law_loose" (defScope sLoose) s.heap.objs.size f cdv)) := hr.mono (by decide)
  refine ⟨_, pss_cons (ps_set (i := 14) scLoose.nd rfl (.inl rfl) (pe_call GG r2 (by rfl) gG kG bG .nil pass0 (pa_cons (pv 10) pa_nil)))
    (pss_one (ps_set (i := 4) scLoose.nd rfl (.inl rfl) (pe_op op_add_str (pv 4) (pe_ifExp (pt_cmpR op_gt (pv 7) pe_int (nomark _)) (pe_op o_mulB (pv 10) (pv 7)) (pe_op o_mulB (pv 14) (pe_un un_neg (pv 7))))))), ?_⟩
  intro b L d ps W c x y5 y6 y8 y9 y11 y12 y13 y14 D H0 hx hc hcA hcx hW nx
  have h13 := (nt_len x hx).2
  have big : ∀ k : Nat, k ≤ 300000 → k ≤ sizeLine := fun k hk => Nat.le_trans hk (by decide)
  refine ⟨_, rfl, c, rfl, by omega, hcA, fun H1 s1 => ⟨_, rfl, _, rfl, _, _, rfl, rfl, _, rfl, ?_⟩⟩
  by_cases hpos : 0 < x
  · have ex : decide (x > 0) = true := decide_eq_true hpos
    rw [ex]
    refine iteT ⟨_, rfl, _, rfl, c, x.natAbs, rfl, ?_, by omega, by omega, by omega, _, _, rfl, rfl, ?_, ?_⟩
    · rw [show ((x.natAbs : Nat) : Int) = x by omega]
    · rw [tx_len, tx_len, rep_len, Nat.mul_comm]
      exact big _ (by omega)
    · rw [SX.S_cat]
      have ep : pwr c x = rep x.natAbs c := if_neg (by omega)
      rw [ep] at nx
      exact nx H1 _ s1
  · have ex : decide (x > 0) = false := decide_eq_false hpos
    rw [ex]
    refine iteF ⟨_, rfl, _, rfl, _, rfl, opp c, x.natAbs, rfl, ?_, by rw [opp_len]; omega, by omega, by rw [opp_len]; omega, _, _, rfl, rfl, ?_, ?_⟩
    · rw [show ((x.natAbs : Nat) : Int) = -x by omega]
    · rw [tx_len, tx_len, rep_len, opp_len, Nat.mul_comm]
      exact big _ (by omega)
    · rw [SX.S_cat]
      have ep : pwr c x = rep x.natAbs (opp c) := by
        unfold pwr
        by_cases h0 : x < 0
        · rw [if_pos h0]
        · have : x = 0 := by omega
          subst this
          rw [if_neg h0]
          rfl
      rw [ep] at nx
      exact nx H1 _ s1
end
end KA
set_option maxRecDepth 100000
set_option maxHeartbeats 4000000
namespace KA
open PySem PySem.Spec PyProof.Rows L2
theorem atm_ok {L : List Nat} (hL : ∀ c ∈ L, 97 ≤ c ∧ c ≤ 122) {d : Nat} (hd : d ≤ 3) {p c : List Nat} {x : Int} (h : Atm L (Cmp L d) p c x) : x ∈ tm7 ∧ p.length ≤ 1100 ∧ Asc p ∧ c.length ≤ 26000 ∧ Asc c ∧ c.length * x.natAbs ≤ 60000 := by
  have bd := bd3 hd
  rcases h with ⟨⟨y, hy, rfl, rfl⟩, hx⟩ | ⟨hc, hx⟩
  · have hy2 := sg_let hL hy
    have ha : Asc [y] := fun z hz => by rw [List.mem_singleton.mp hz]; omega
    have := (nt_len x hx).2
    refine ⟨hx, by show 1 ≤ 1100; decide, ha, by show 1 ≤ 26000; decide, ha, ?_⟩
    show 1 * x.natAbs ≤ 60000
    omega
  · obtain ⟨q1, q2, q3, q4⟩ := cmp_ok hL d p c hc
    have hx2 := tm57 x hx
    refine ⟨hx2.1, by omega, q3, by omega, q4, ?_⟩
    have := Nat.mul_le_mul (show c.length ≤ 26000 by omega) hx2.2
    omega
theorem cat_nil {Fc : List Nat → List Nat → Prop} : Cat Fc [] := fun q hq => by cases hq
theorem sum_txt (l : List (List Nat × List Nat)) : (((l.map (·.1)).map SX.S).map (·.length)).sum = (txt l).length := by
  unfold txt
  induction l with
  | nil => rfl
  | cons q r ih =>
    rw [List.map_cons, List.map_cons, List.map_cons, List.sum_cons, ih, List.flatten_cons, List.length_append, tx_len]
section
variable {P : Program} {w : World} {K : PySem.W.Frag} {mg : Str → Option Value} {base : Heap}
variable {f fA fD fS fG fZ fL : Addr} {fd fdA fdD fdS fdG fdZ fdL : FuncData} {cdv : Value} {A : Around} {outer : List Env} {s : Shared} {H : Hp} {E : XK}
theorem loose_body {d : Nat} (hd : d ≤ 3) (B : Bn mg) (GD : FnOk P w K mg base CX0 1 fD fdD ["_law_box", "_law_many"] spDraw) (kD : PySem.W.keepIn K (.ref fD) = true) (bD : Binds K fdD ["_law_box", "_law_many"] []) (gD : mg "_law_draw" = some (.ref fD))
    (GA : FnOk P w K mg base CX0 2 fA fdA ["_law_box", "_law_some"] spAny) (kA : PySem.W.keepIn K (.ref fA) = true) (bA : Binds K fdA ["_law_box", "_law_some"] []) (gA : mg "_law_any" = some (.ref fA))
    (GG : FnOk P w K mg base CX0 2 fG fdG ["_law_one"] spGone) (kG : PySem.W.keepIn K (.ref fG) = true) (bG : Binds K fdG ["_law_one"] []) (gG : mg "_law_gone_back" = some (.ref fG))
    (GZ : FnOk P w K mg base CX0 3 fZ fdZ ["_law_box"] spSpace) (kZ : PySem.W.keepIn K (.ref fZ) = true) (bZ : Binds K fdZ ["_law_box"] []) (gZ : mg "_law_space" = some (.ref fZ)) (hr : Room 3 (A.deeper (envOfC "_law_loose" (defScope sLoose) s.heap.objs.size f cdv)))
    {t1 : TS} (P1 : PS (XO P w K mg base f cdv A outer s H E) (obs 1) t1) (R1 : ∀ (b m : Addr) (L : List Nat) (ps : Addr) (W : List Nat) (wy x : Int) (y5 y8 y9 y10 y11 y12 y13 y14 : Option V) (D : Ends) (H0 : Hp), Bx H0 b m → Lg L → x ∈ tm5 →
      Atx L (Cmp L d) b m d ps W y5 H0 D → t1 D (S15 b L d ps W y5 (some (.int wy)) (some (.int x)) y8 y9 y10 y11 y12 y13 y14) H0) {vs : List V} {Q : VK} (h : spLoose d vs H Q E) :
    ∃ t, PSs (XO P w K mg base f cdv A outer s H E) (defBody sLoose) t ∧ t { nx := fun _ H' => Q .non H', rt := Q } (L2.start NO vs) H := by
  obtain ⟨b, m, L, rfl, hB, hL, q⟩ := h
  have r1 : Room 1 (A.deeper (envOfC "_law_loose" (defScope sLoose) s.heap.objs.size f cdv)) := hr.mono (by decide)
  obtain ⟨t0, P0, R0⟩ := o0 (P := P) (w := w) (f := f) (cdv := cdv) (outer := outer) (s := s) (H := H) (E := E) (A := A) GD kD bD gD GA kA bA gA hr
  obtain ⟨t2, P2, R2⟩ := o2 (P := P) (w := w) (f := f) (cdv := cdv) (outer := outer) (s := s) (H := H) (E := E) (A := A) B GZ kZ bZ gZ hr
  obtain ⟨t3, P3, R3⟩ := o3 (P := P) (w := w) (f := f) (cdv := cdv) (outer := outer) (s := s) (H := H) (E := E) (A := A) GZ kZ bZ gZ GA kA bA gA hr
  obtain ⟨t4, P4, R4⟩ := o45 (P := P) (w := w) (f := f) (cdv := cdv) (outer := outer) (s := s) (H := H) (E := E) (A := A) GG kG bG gG hr
  have PB : PSs (XO P w K mg base f cdv A outer s H E) ob (tSeq t0 (tSeq t1 (tSeq t2 (tSeq t3 t4)))) := by
    have e : ob = obs 0 :: obs 1 :: obs 2 :: obs 3 :: ob.drop 4 := by rfl
    rw [e]
    exact pss_cons P0 (pss_cons P1 (pss_cons P2 (pss_cons P3 P4)))
  refine ⟨_, pss_cons (ps_par (i := 3) (j := 4) (by rfl) scLoose.nd rfl rfl (by decide) rfl rfl (pa_cons (pe_lst pa_nil) (pa_cons pe_str pa_nil)) (by rfl))
    (pss_cons (ps_for PassesOwn.never rfl (pi_range1 (by rfl) B.range (pa_cons (pe_op op_add pe_int (pe_call GD r1 (by rfl) gD kD bD .nil pass0 (pa_cons (pv 0) (pa_cons pe_int pa_nil)))) pa_nil)) (pg_name (i := 5) scLoose.nd rfl (Or.inl rfl)) PB)
    (pss_one (ps_ret (pe_tup (pa_cons (pe_join pe_str (pv 3)) (pa_cons (pv 4) pa_nil)))))), ?_⟩
  refine ⟨Nat.zero_le _, fun ps nps => ⟨_, _, rfl, ?_⟩⟩
  have nb : ps ≠ b := hB.ne nps
  have nm : ps ≠ m := hB.neM nps
  have hB1 : Bx (upd H ps (.lst [])) b m := hB.same (same_new nps)
  refine ⟨_, rfl, b, m, 3, rfl, hB1, by decide, by decide, fun e H1 e0 e1 hT => ⟨_, _, rfl, rfl, (1 + e : Int), rfl, by omega, by omega, ?_⟩⟩
  have g1 : BxGo H H1 b m := (BxGo.of hB (same_new nps)).trans hT.go
  have hps1 : H1 ps = some (.lst []) := (hT.2 ps nb).trans upd_same
  have pkd := (bd3 hd).2.1
  have facs : ∀ l : List (List Nat × List Nat), Cat (Fac L (Cmp L d)) l → l.length ≤ 3 → (wrd l).length ≤ 160000 := by
    intro l hl h3
    have z := flat_len (fun q : List Nat × List Nat => q.2) (2 * pk d) l fun q hq => (loo_fac hL.2.2 d (hl q hq)).2.1
    have z2 := Nat.mul_le_mul h3 (Nat.le_refl (2 * pk d))
    have z3 : (wrd l).length ≤ l.length * (2 * pk d) := z
    omega
  refine for_it (walk_range (lo := 0) (n := (1 + e : Int).toNat)) (fun i σ H2 => ∃ (l : List (List Nat × List Nat)) (y5 y6 y7 y8 y9 y10 y11 y12 y13 y14 : Option V), σ = S15 b L d ps (wrd l) y5 y6 y7 y8 y9 y10 y11 y12 y13 y14 ∧ l.length = i ∧ Cat (Fac L (Cmp L d)) l ∧ BxGo H H2 b m ∧ H2 ps = some (.lst ((l.map (·.1)).map tx)))
    ⟨[], none, none, none, none, none, none, none, none, none, none, ?_, rfl, cat_nil, g1, hps1⟩ (fun _ _ _ _ _ => trivial) ?_ ?_
  · rw [e0S]
    rfl
  · rintro i x σ H2 H2' hi ⟨l, y5, y6, y7, y8, y9, y10, y11, y12, y13, y14, rfl, hl, hc, g, hps⟩ ⟨rfl, rfl⟩
    have hi3 : l.length ≤ 2 := by omega
    refine R0 b m L d ps (wrd l) _ y6 y7 y8 y9 y10 y11 y12 y13 y14 _ H2' g.1 fun wy x0 H3 w0 hx0 g3 => ?_
    refine R1 b m L ps (wrd l) wy x0 _ y8 y9 y10 y11 y12 y13 y14 _ H3 g3.1 hL hx0 fun p c xx H4 y6 y8 y11 y12 y13 y14 ha g4 => ?_
    obtain ⟨k1, k2, k3, k4, k5, k6⟩ := atm_ok hL.2.2 hd ha
    refine R2 b m L d ps (wrd l) p xx _ y6 y8 _ y11 y12 y13 y14 _ H4 g4.1 k1 (by omega) fun F H5 hF g5 => ?_
    have hps5 : H5 ps = some (.lst ((l.map (·.1)).map tx)) := ((g3.trans g4).trans g5).2 _ _ nb hps
    have hFl := pwd_ok hF k1 k3
    refine R3 b m L d ps (wrd l) F (l.map (·.1)) _ y6 _ y8 _ y11 y12 y13 y14 _ H5 g5.1 hps5 nb nm (by rw [List.length_map]; omega) (by omega) fun s1 s2 H6 h1 h2 h2' g6 hps6 => ?_
    refine R4 b L d ps (wrd l) c xx _ y6 y8 _ y11 y12 y13 y14 _ H6 k1 (by omega) k5 k6 (by have := facs l hc (by omega); omega) fun H7 y14' s7 => ?_
    have ew : wrd (l ++ [(sp s1 ++ F ++ sp s2, pwr c xx)]) = wrd l ++ pwr c xx := by
      unfold wrd
      simp
    refine ⟨l ++ [(sp s1 ++ F ++ sp s2, pwr c xx)], some (.int (0 + (i : Int))), y6, some (.int xx), y8, some (tx F), some (tx c), y11, y12, y13, y14', by rw [ew], by rw [List.length_append, hl]; rfl, ?_, ?_, ?_⟩
    · intro q hq
      rcases List.mem_append.mp hq with hq | hq
      · exact hc q hq
      · rw [List.mem_singleton.mp hq]
        exact ⟨p, c, F, xx, s1, s2, ha, hF, h1, h2, h2', rfl, rfl⟩
    · have gA : BxGo H H5 b m := ((g.trans g3).trans g4).trans g5
      refine ⟨g6.1.same s7, fun y o hy e => s7 _ _ (g6.2 y o hy (ne_of_none e nps) (gA.2 y o hy e))⟩
    · rw [s7 _ _ hps6]
      congr 2
      simp
  · rintro σ H2 ⟨l, y5, y6, y7, y8, y9, y10, y11, y12, y13, y14, rfl, hl, hc, g, hps⟩
    have lo : Loo L d (txt l) (wrd l) := ⟨l, by omega, by omega, hc, rfl, rfl⟩
    have hb := loo_ok hL.2.2 d lo
    have tbd := (bd3 hd).2.2.1
    refine ⟨⟨_, rfl⟩, _, rfl, _, ps, (l.map (·.1)).map SX.S, rfl, rfl, .inl (SqL.of ?_), ?_, ?_⟩
    · rw [hps, List.map_map, List.map_map, List.map_map]
      rfl
    · rw [sum_txt, len0]
      have := hb.1
      omega
    · rw [joinS]
      refine ⟨_, rfl, (by show 2 ≤ sizeLine; decide), fun T nT => ?_⟩
      exact q (txt l) (wrd l) _ T lo (g.trans (BxGo.of g.1 (same_new nT))) (g.free nT) (g.1.ne nT) upd_same
theorem ok_loose {f : Addr} {fd : FuncData} (F : Fun K "_law_loose" "_law_loose" sLoose f fd) (bL : Binds K fd ["_law_box", "_law_letters_here", "_law_deep"] []) (gL : mg "_law_loose" = some (.ref f)) (B : Bn mg) (GD : FnOk P w K mg base CX0 1 fD fdD ["_law_box", "_law_many"] spDraw) (kD : PySem.W.keepIn K (.ref fD) = true) (bD : Binds K fdD ["_law_box", "_law_many"] []) (gD : mg "_law_draw" = some (.ref fD))
    (GA : FnOk P w K mg base CX0 2 fA fdA ["_law_box", "_law_some"] spAny) (kA : PySem.W.keepIn K (.ref fA) = true) (bA : Binds K fdA ["_law_box", "_law_some"] []) (gA : mg "_law_any" = some (.ref fA))
    (GG : FnOk P w K mg base CX0 2 fG fdG ["_law_one"] spGone) (kG : PySem.W.keepIn K (.ref fG) = true) (bG : Binds K fdG ["_law_one"] []) (gG : mg "_law_gone_back" = some (.ref fG))
    (GZ : FnOk P w K mg base CX0 3 fZ fdZ ["_law_box"] spSpace) (kZ : PySem.W.keepIn K (.ref fZ) = true) (bZ : Binds K fdZ ["_law_box"] []) (gZ : mg "_law_space" = some (.ref fZ))
    (GS : FnOk P w K mg base CX0 1 fS fdS ["_law_letters_here"] spSigns) (kS : PySem.W.keepIn K (.ref fS) = true) (bS : Binds K fdS ["_law_letters_here"] []) (gS : mg "_law_signs" = some (.ref fS)) :
    ∀ d, d ≤ 3 → FnOk P w K mg base CX0 (4 + d) f fd ["_law_box", "_law_letters_here", "_law_deep"] (spLoose d) := by
  have len : ∀ (d : Nat) (vs : List V) (H : Hp) (Q : VK) (E : XK), spLoose d vs H Q E → vs.length = ["_law_box", "_law_letters_here", "_law_deep"].length := by
    intro d vs H Q E h
    obtain ⟨b, m, L, rfl, _⟩ := h
    rfl
  intro d
  induction d with
  | zero =>
    intro _
    refine F.ok scLoose (fun vs H Q E h => len 0 vs H Q E h) (fun cdv A outer s H vs Q E hr h => ?_)
    obtain ⟨t1, P1, R1⟩ := o1z (P := P) (w := w) (f := f) (cdv := cdv) (outer := outer) (s := s) (H := H) (E := E) (A := A) B GS kS bS gS GA kA bA gA hr
    exact loose_body (by decide) B GD kD bD gD GA kA bA gA GG kG bG gG GZ kZ bZ gZ hr P1 R1 h
  | succ d ih =>
    intro hd
    have G0 : FnOk P w K mg base CX0 4 f fd ["_law_box", "_law_letters_here", "_law_deep"] (spLoose 0) := by
      refine F.ok scLoose (fun vs H Q E h => len 0 vs H Q E h) (fun cdv A outer s H vs Q E hr h => ?_)
      obtain ⟨t1, P1, R1⟩ := o1z (P := P) (w := w) (f := f) (cdv := cdv) (outer := outer) (s := s) (H := H) (E := E) (A := A) B GS kS bS gS GA kA bA gA hr
      exact loose_body (by decide) B GD kD bD gD GA kA bA gA GG kG bG gG GZ kZ bZ gZ hr P1 R1 h
    have Gd := ih (by omega)
    refine F.ok (k := 4 + d) scLoose (fun vs H Q E h => len (d + 1) vs H Q E h) (fun cdv A outer s H vs Q E hr h => ?_)
    obtain ⟨t1, P1, R1⟩ := o1s (P := P) (w := w) (f := f) (cdv := cdv) (outer := outer) (s := s) (H := H) (E := E) (A := A) (d := d) (j := 4 + d) (by omega) (by omega) B GS kS bS gS GA kA bA gA GG kG bG gG Gd G0 F.kp bL gL hr
    exact loose_body hd B GD kD bD gD GA kA bA gA GG kG bG gG GZ kZ bZ gZ (hr.mono (by omega)) P1 R1 h
end
end KA
set_option maxRecDepth 100000
set_option maxHeartbeats 4000000
namespace KA
open PySem PySem.Spec PyProof.Rows L2
def Rw (w c : List Nat) : Prop := (c.length ≤ 400 → w = c) ∧ (400 < c.length → w.length = 401)
theorem Rw.len {w c : List Nat} (h : Rw w c) : w.length = min c.length 401 := by
  by_cases hc : c.length ≤ 400
  · rw [h.1 hc]
    omega
  · rw [h.2 (by omega)]
    omega
theorem rw_refl {c : List Nat} (h : c.length ≤ 400) : Rw c c := ⟨fun _ => rfl, fun z => by omega⟩
theorem rw_pair {w1 w2 c1 c2 : List Nat} (h1 : Rw w1 c1) (h2 : Rw w2 c2) : Rw (ct (w1 ++ w2 ++ opp w1 ++ opp w2)) (c1 ++ c2 ++ opp c1 ++ opp c2) := by
  have l1 := h1.len
  have l2 := h2.len
  have lc : (c1 ++ c2 ++ opp c1 ++ opp c2).length = 2 * c1.length + 2 * c2.length := by
    simp only [List.length_append, opp_len]
    omega
  have lw : (w1 ++ w2 ++ opp w1 ++ opp w2).length = 2 * w1.length + 2 * w2.length := by
    simp only [List.length_append, opp_len]
    omega
  refine ⟨fun hc => ?_, fun hc => ?_⟩
  · rw [h1.1 (by omega), h2.1 (by omega)]
    exact ct_id (by omega)
  · exact ct_full (by omega)
theorem rw_pow {w c : List Nat} (h : Rw w c) {x : Int} : (pw w x).length = min (x.natAbs * c.length) 401 ∧ (x.natAbs * c.length ≤ 400 → pw w x = pwr c x) := by
  have l1 := h.len
  refine ⟨?_, fun hc => ?_⟩
  · rw [pw_lt, l1]
    by_cases h0 : x.natAbs = 0
    · rw [h0]
      simp
    · by_cases hc : c.length ≤ 401
      · rw [Nat.min_eq_left hc]
      · have k1 : x.natAbs * min c.length 401 ≥ 401 := by
          rw [Nat.min_eq_right (by omega)]
          exact Nat.le_mul_of_pos_left 401 (by omega)
        have k2 : x.natAbs * c.length ≥ 401 := Nat.le_trans (by omega) (Nat.le_mul_of_pos_left c.length (by omega))
        omega
  · by_cases h0 : x.natAbs = 0
    · have e : x = 0 := by omega
      subst e
      unfold pw pwr
      rw [if_neg (by decide), if_neg (by decide)]
      rfl
    · have hc2 : c.length ≤ 400 := Nat.le_trans (Nat.le_mul_of_pos_left c.length (by omega)) hc
      rw [h.1 hc2]
      exact pw_small (by omega)
theorem rw_pw {w1 c : List Nat} (h1 : Rw w1 c) {x : Int} : Rw (pw w1 x) (pwr c x) := by
  obtain ⟨k1, k2⟩ := rw_pow h1 (x := x)
  have lc := pwr_len c x
  exact ⟨fun hc => k2 (by omega), fun hc => by omega⟩
theorem mk_hd {t Y : List Nat} {a c : Nat} (h : t.drop a = c :: Y) : mk t a = [c] := by
  unfold mk
  rw [h]
  rfl
theorem mk_nl {t : List Nat} {a : Nat} (h : t.drop a = []) : mk t a = [] := by
  unfold mk
  rw [h]
  rfl
theorem dr {t X Y : List Nat} {a n : Nat} (h : t.drop a = X ++ Y) (hn : n = X.length) : t.drop (a + n) = Y := by
  subst hn
  rw [← List.drop_drop, h, List.drop_left]
theorem dr1 {t Y : List Nat} {a c : Nat} (h : t.drop a = c :: Y) : t.drop (a + 1) = Y := dr (X := [c]) h rfl
theorem sp_succ (k : Nat) (Y : List Nat) : sp (k + 1) ++ Y = 32 :: (sp k ++ Y) := rfl
theorem spn_sp {t Y : List Nat} : ∀ {k a : Nat}, t.drop a = sp k ++ Y → spn t a = k + spn t (a + k)
  | 0, a, h => by simp
  | k + 1, a, h => by
    rw [sp_succ] at h
    rw [spn_cons (mk_hd h), spn_sp (k := k) (dr1 h)]
    rw [show a + 1 + k = a + (k + 1) by omega]
    omega
theorem spn_no {t Y : List Nat} {a c : Nat} (h : t.drop a = c :: Y) (hc : c ≠ 32) : spn t a = 0 := spn_zero (by
  rw [mk_hd h]
  intro e
  exact hc (by simpa using e))
theorem spn_nl {t : List Nat} {a : Nat} (h : t.drop a = []) : spn t a = 0 := spn_zero (by
  rw [mk_nl h]
  intro e
  cases e)
theorem dgt_no {t Y : List Nat} {a c : Nat} (h : t.drop a = c :: Y) (hc : c < 48 ∨ 57 < c) : dgt t a = false := by
  unfold dgt
  rw [mk_hd h]
  show (decide _ : Bool) = false
  exact decide_eq_false (by omega)
theorem dgt_yes {t Y : List Nat} {a c : Nat} (h : t.drop a = c :: Y) (h1 : 48 ≤ c) (h2 : c ≤ 57) : dgt t a = true := by
  unfold dgt
  rw [mk_hd h]
  exact decide_eq_true ⟨h1, h2⟩
end KA
set_option maxRecDepth 100000
set_option maxHeartbeats 4000000
namespace KA
open PySem PySem.Spec PyProof.Rows L2
theorem mk_ne {t Y : List Nat} {a c d : Nat} (h : t.drop a = c :: Y) (hc : c ≠ d) : mk t a ≠ [d] := by
  rw [mk_hd h]
  intro e
  exact hc (by simpa using e)
theorem rd_one {t Y : List Nat} {a c : Nat} (h : t.drop a = c :: 32 :: Y) (h1 : 48 ≤ c) (h2 : c ≤ 57) : rdE t a = .ok (((num [c] : Nat) : Int), a + 1) := by
  have d1 := dr1 h
  have n1 := dgt_no d1 (.inl (by decide))
  rw [rdE_is (mi := false) (b := a) (decide_eq_false (mk_ne h (by omega))) (if_neg (by decide))]
  have e0 : (if mk t a ≠ [48] ∧ dgt t (a + 1) = true then a + 2 else a + 1) = a + 1 := by
    rw [n1]
    simp
  rw [e0, n1, dgt_yes h h1 h2, if_neg (by simp), if_neg (by decide)]
  rw [h, show a + 1 - a = 1 by omega]
  rfl
theorem rd_two {t Y : List Nat} {a c d : Nat} (h : t.drop a = c :: d :: 32 :: Y) (h1 : 49 ≤ c) (h2 : c ≤ 57) (g1 : 48 ≤ d) (g2 : d ≤ 57) : rdE t a = .ok (((num [c, d] : Nat) : Int), a + 2) := by
  have d1 := dr1 h
  have d2 := dr1 d1
  have n1 := dgt_yes d1 g1 g2
  have n2 : dgt t (a + 2) = false := dgt_no d2 (.inl (by decide))
  rw [rdE_is (mi := false) (b := a) (decide_eq_false (mk_ne h (by omega))) (if_neg (by decide))]
  have e0 : (if mk t a ≠ [48] ∧ dgt t (a + 1) = true then a + 2 else a + 1) = a + 2 := if_pos ⟨mk_ne h (by omega), n1⟩
  rw [e0, n2, dgt_yes h (by omega) h2, if_neg (by simp), if_neg (by decide)]
  rw [h, show a + 2 - a = 2 by omega]
  rfl
theorem rd_neg1 {t Y : List Nat} {a c : Nat} (h : t.drop a = 45 :: c :: 32 :: Y) (h1 : 49 ≤ c) (h2 : c ≤ 57) : rdE t a = .ok (-((num [c] : Nat) : Int), a + 2) := by
  have d1 := dr1 h
  have d2 := dr1 d1
  have n2 : dgt t (a + 1 + 1) = false := dgt_no d2 (.inl (by decide))
  rw [rdE_is (mi := true) (b := a + 1) (decide_eq_true (mk_hd h)) (if_pos rfl)]
  have e0 : (if mk t (a + 1) ≠ [48] ∧ dgt t (a + 1 + 1) = true then a + 1 + 2 else a + 1 + 1) = a + 2 := by
    rw [n2]
    simp
  have n3 : dgt t (a + 2) = false := n2
  rw [e0, n3, dgt_yes d1 (by omega) h2, if_neg (by intro z; rcases z with z | z; cases z; exact mk_ne d1 (by omega) z.2), if_neg (by decide)]
  rw [d1, show a + 2 - (a + 1) = 1 by omega]
  rfl
theorem rd_neg2 {t Y : List Nat} {a c d : Nat} (h : t.drop a = 45 :: c :: d :: 32 :: Y) (h1 : 49 ≤ c) (h2 : c ≤ 57) (g1 : 48 ≤ d) (g2 : d ≤ 57) : rdE t a = .ok (-((num [c, d] : Nat) : Int), a + 3) := by
  have d1 := dr1 h
  have d2 := dr1 d1
  have d3 := dr1 d2
  have n2 : dgt t (a + 1 + 1) = true := dgt_yes d2 g1 g2
  have n3 : dgt t (a + 3) = false := dgt_no d3 (.inl (by decide))
  rw [rdE_is (mi := true) (b := a + 1) (decide_eq_true (mk_hd h)) (if_pos rfl)]
  have e0 : (if mk t (a + 1) ≠ [48] ∧ dgt t (a + 1 + 1) = true then a + 1 + 2 else a + 1 + 1) = a + 3 := if_pos ⟨mk_ne d1 (by omega), n2⟩
  rw [e0, n3, dgt_yes d1 (by omega) h2, if_neg (by intro z; rcases z with z | z; cases z; exact mk_ne d1 (by omega) z.2), if_neg (by decide)]
  rw [d1, show a + 3 - (a + 1) = 2 by omega]
  rfl
theorem rd_nt {t Y : List Nat} {a : Nat} {x : Int} (hx : x ∈ tm7) (h : t.drop a = nt x ++ 32 :: Y) : rdE t a = .ok (x, a + (nt x).length) := by
  have c7 : x = 1 ∨ x = 2 ∨ x = -1 ∨ x = 0 ∨ x = -2 ∨ x = 13 ∨ x = -10 := by simpa [tm7] using hx
  rcases c7 with rfl | rfl | rfl | rfl | rfl | rfl | rfl
  · exact rd_one (c := 49) h (by decide) (by decide)
  · exact rd_one (c := 50) h (by decide) (by decide)
  · exact rd_neg1 (c := 49) h (by decide) (by decide)
  · exact rd_one (c := 48) h (by decide) (by decide)
  · exact rd_neg1 (c := 50) h (by decide) (by decide)
  · exact rd_two (c := 49) (d := 51) h (by decide) (by decide) (by decide) (by decide)
  · exact rd_neg2 (c := 49) (d := 48) h (by decide) (by decide) (by decide) (by decide)
def Stp (Y : List Nat) : Prop := Y = [] ∨ ∃ c r, Y = c :: r ∧ (c = 41 ∨ c = 44 ∨ c = 93)
def Rdg (t : List Nat) (ph : Nat → Rr) (Lo : List Nat → List Nat → Prop) : Prop := ∀ (T W : List Nat) (a : Nat) (Y : List Nat), Lo T W → t.drop a = T ++ Y → Stp Y → ∃ w, ph a = .ok (w, a + T.length) ∧ Rw w W
section
variable {L t : List Nat} {m : Nat}
theorem atm_hd {C : List Nat → List Nat → Prop} {p c : List Nat} {x : Int} (hL : ∀ c ∈ L, 97 ≤ c ∧ c ≤ 122) (hC : ∀ p c, C p c → ∃ y r, p = y :: r ∧ (y = 49 ∨ y = 40 ∨ y = 91)) (h : Atm L C p c x) : ∃ y r, p = y :: r ∧ y ≠ 32 ∧ (y ∈ sg L ∨ y = 49 ∨ y = 40 ∨ y = 91) ∧ (y ∉ sg L → y ≠ 49 → ∃ q, C q c) := by
  rcases h with ⟨⟨y, hy, rfl, rfl⟩, _⟩ | ⟨hc, _⟩
  · have := sg_let hL hy
    exact ⟨y, [], rfl, by omega, .inl hy, fun z => absurd hy z⟩
  · obtain ⟨y, r, rfl, hy⟩ := hC p c hc
    exact ⟨y, r, rfl, by omega, .inr hy, fun _ _ => ⟨_, hc⟩⟩
theorem rd_atom {C : List Nat → List Nat → Prop} {ph : Nat → Rr} {d' : Nat} {Lo Lo0 : List Nat → List Nat → Prop} (hL : ∀ c ∈ L, 97 ≤ c ∧ c ≤ 122) (hC : ∀ p c, C p c → d' < 6 ∧ AtmC Lo Lo0 p c) (h1 : Rdg t ph Lo) (h0 : Rdg t ph Lo0) {p c Y : List Nat} {x : Int} {a z : Nat} (ha : Atm L C p c x) (hd : t.drop a = p ++ z :: Y) (hz : z = 32 ∨ z = 94) :
    ∃ w, rdA ph L t d' a = .ok (w, a + p.length) ∧ Rw w c ∧ beg L t a d' = true := by
  have bt : ∀ {y : Nat} {r : List Nat}, t.drop a = y :: r → (y ∈ sg L ∨ y = 49 ∨ ((y = 40 ∨ y = 91) ∧ d' < 6)) → beg L t a d' = true := by
    intro y r hy h
    rw [beg_is (mk_hd hy)]
    rcases h with h | h | ⟨h, h'⟩
    · rw [decide_eq_true h]
      rfl
    · rw [decide_eq_true h]
      simp
    · rw [decide_eq_true h, decide_eq_true h']
      simp
  rcases ha with ⟨⟨y, hy, rfl, rfl⟩, _⟩ | ⟨hc, _⟩
  · have hs := sg_let hL hy
    have b1 := bt hd (.inl hy)
    refine ⟨[y], ?_, rw_refl (show 1 ≤ 400 by decide), b1⟩
    unfold rdA
    rw [b1, if_neg (by decide), if_neg (mk_ne hd (by omega)), if_neg (mk_ne hd (by omega)), if_neg (mk_ne hd (by omega)), mk_hd hd]
    rfl
  · obtain ⟨hd6, hcc⟩ := hC p c hc
    rcases hcc with ⟨rfl, rfl⟩ | ⟨T1, W1, T2, W2, l1, l2, rfl, rfl⟩ | ⟨T1, W1, l1, rfl, rfl⟩
    · have b1 := bt hd (.inr (.inl rfl))
      refine ⟨[], ?_, rw_refl (by decide), b1⟩
      have d1 := dr1 (show t.drop a = 49 :: (z :: Y) from hd)
      unfold rdA
      rw [b1, if_neg (by decide), if_neg (mk_ne hd (by decide)), if_neg (mk_ne hd (by decide)), if_pos (mk_hd hd), dgt_no d1 (by omega), if_neg (by decide)]
      rfl
    · have hd2 : t.drop a = 91 :: (T1 ++ (44 :: (T2 ++ (93 :: z :: Y)))) := by
        rw [hd]
        simp
      have b1 := bt hd2 (.inr (.inr ⟨.inr rfl, hd6⟩))
      have d1 := dr1 hd2
      obtain ⟨w1, e1, q1⟩ := h1 T1 W1 (a + 1) _ l1 d1 (.inr ⟨44, _, rfl, .inr (.inl rfl)⟩)
      have d2 := dr d1 rfl
      have d3 := dr1 d2
      obtain ⟨w2, e2, q2⟩ := h0 T2 W2 (a + 1 + T1.length + 1) _ l2 d3 (.inr ⟨93, _, rfl, .inr (.inr rfl)⟩)
      have d4 := dr d3 rfl
      refine ⟨ct (w1 ++ w2 ++ opp w1 ++ opp w2), ?_, rw_pair q1 q2, b1⟩
      unfold rdA
      rw [b1, if_neg (by decide), if_neg (mk_ne hd2 (by decide)), if_pos (mk_hd hd2)]
      unfold pr
      rw [e1]
      show (if mk t (a + 1 + T1.length) = [44] then pr2 ph t w1 (a + 1 + T1.length) else .error (a + 1 + T1.length)) = _
      rw [if_pos (mk_hd d2)]
      unfold pr2
      rw [e2]
      show (if mk t (a + 1 + T1.length + 1 + T2.length) = [93] then Except.ok (ct (w1 ++ w2 ++ opp w1 ++ opp w2), a + 1 + T1.length + 1 + T2.length + 1) else .error _) = _
      rw [if_pos (mk_hd d4)]
      congr 2
      simp only [List.length_append, List.length_cons, List.length_nil]
      omega
    · have hd2 : t.drop a = 40 :: (T1 ++ (41 :: z :: Y)) := by
        rw [hd]
        simp
      have b1 := bt hd2 (.inr (.inr ⟨.inl rfl, hd6⟩))
      have d1 := dr1 hd2
      obtain ⟨w1, e1, q1⟩ := h1 T1 _ (a + 1) _ l1 d1 (.inr ⟨41, _, rfl, .inl rfl⟩)
      have d2 := dr d1 rfl
      refine ⟨w1, ?_, q1, b1⟩
      unfold rdA
      rw [b1, if_neg (by decide), if_pos (mk_hd hd2)]
      unfold grp
      rw [e1]
      show (if mk t (a + 1 + T1.length) = [41] then Except.ok (w1, a + 1 + T1.length + 1) else .error _) = _
      rw [if_pos (mk_hd d2)]
      congr 2
      simp only [List.length_append, List.length_cons, List.length_nil]
      omega
end
end KA
set_option maxRecDepth 100000
set_option maxHeartbeats 4000000
namespace KA
open PySem PySem.Spec PyProof.Rows L2
theorem rw_app {w W f V : List Nat} (h : Rw w W) (h1 : Rw f V) : Rw (ct (w ++ f)) (W ++ V) := by
  have l := h.len
  have l1 := h1.len
  have lc : (W ++ V).length = W.length + V.length := List.length_append
  have lw : (w ++ f).length = w.length + f.length := List.length_append
  refine ⟨fun hc => ?_, fun hc => ?_⟩
  · rw [h.1 (by omega), h1.1 (by omega)]
    exact ct_id (by omega)
  · exact ct_full (by omega)
theorem pwr_one (c : List Nat) : pwr c 1 = c := by
  unfold pwr
  rw [if_neg (by decide)]
  show rep 1 c = c
  simp [rep]
theorem sg_94 {L : List Nat} (hL : ∀ c ∈ L, 97 ≤ c ∧ c ≤ 122) {x : Nat} (h : x ∈ sg L) : x ≠ 94 := by
  obtain ⟨c, hc, hx⟩ := List.mem_flatMap.mp h
  have hm := hL c hc
  have hx : x = c ∨ x = c - 32 := by simpa using hx
  omega
theorem pwd_hd {p G : List Nat} {x : Int} (h : Pwd p x G) : ∃ R, G = p ++ R := by
  rcases h with ⟨_, _, rfl⟩ | ⟨s3, s4, _, _, rfl⟩
  · exact ⟨[], by simp⟩
  · exact ⟨sp s3 ++ [94] ++ sp s4 ++ nt x, by simp⟩
def Hds (C : List Nat → List Nat → Prop) : Prop := ∀ p c, C p c → ∃ y r, p = y :: r ∧ (y = 49 ∨ y = 40 ∨ y = 91)
theorem fac_hd {L : List Nat} {C : List Nat → List Nat → Prop} (hL : ∀ c ∈ L, 97 ≤ c ∧ c ≤ 122) (hC : Hds C) {p c G : List Nat} {x : Int} (ha : Atm L C p c x) (hp : Pwd p x G) : ∃ y R, G = y :: R ∧ y ≠ 32 ∧ y ≠ 94 := by
  obtain ⟨R, rfl⟩ := pwd_hd hp
  obtain ⟨y, r, rfl, h1, h2, _⟩ := atm_hd hL hC ha
  refine ⟨y, r ++ R, rfl, h1, ?_⟩
  rcases h2 with h2 | h2
  · exact sg_94 hL h2
  · omega
theorem stp_hd {t Y : List Nat} {a : Nat} (hY : Stp Y) (hd : t.drop a = Y) : spn t a = 0 ∧ (mk t a = [] ∨ ∃ c, mk t a = [c] ∧ (c = 41 ∨ c = 44 ∨ c = 93)) := by
  rcases hY with rfl | ⟨c, r, rfl, hc⟩
  · exact ⟨spn_nl hd, .inl (mk_nl hd)⟩
  · exact ⟨spn_no hd (by omega), .inr ⟨c, mk_hd hd, hc⟩⟩
theorem nx {L t : List Nat} {C : List Nat → List Nat → Prop} (hL : ∀ c ∈ L, 97 ≤ c ∧ c ≤ 122) (hC : Hds C) {l : List (List Nat × List Nat)} (hl : Cat (Fac L C) l) {a : Nat} {Y : List Nat} (hd : t.drop a = txt l ++ Y) (hY : Stp Y) : mk t (a + spn t a) ≠ [94] := by
  cases l with
  | nil =>
    obtain ⟨h1, h2⟩ := stp_hd hY (show t.drop a = Y from hd)
    rw [h1]
    rcases h2 with h2 | ⟨c, h2, hc⟩
    · show mk t a ≠ [94]
      rw [h2]
      intro e
      cases e
    · show mk t a ≠ [94]
      rw [h2]
      intro e
      injection e with e
      omega
  | cons q r =>
    obtain ⟨F, V⟩ := q
    obtain ⟨p, c, G, x, s1, s2, ha, hp, _, _, _, _, rfl⟩ := hl _ List.mem_cons_self
    obtain ⟨y, R, rfl, hy, hy2⟩ := fac_hd hL hC ha hp
    have hd2 : t.drop a = sp s1 ++ (y :: (R ++ sp s2 ++ txt r ++ Y)) := by
      rw [hd]
      simp [txt]
    have d1 := dr hd2 (sp_len s1).symm
    rw [spn_sp hd2, spn_no d1 hy]
    exact mk_ne d1 hy2
section
variable {L t : List Nat}
theorem rd_fac {C : List Nat → List Nat → Prop} {ph : Nat → Rr} {d' : Nat} {Lo Lo0 : List Nat → List Nat → Prop} (hL : ∀ c ∈ L, 97 ≤ c ∧ c ≤ 122) (hC : ∀ p c, C p c → d' < 6 ∧ AtmC Lo Lo0 p c) (h1 : Rdg t ph Lo) (h0 : Rdg t ph Lo0) {p c G Z : List Nat} {x : Int} {b s2 q : Nat} (ha : Atm L C p c x) (hp : Pwd p x G) (h2 : 1 ≤ s2) (hd : t.drop b = G ++ (sp s2 ++ Z)) (hq : q = b + G.length + s2) (hn : mk t (q + spn t q) ≠ [94]) :
    ∃ f, rdF ph L t d' b = .ok (f, q + spn t q) ∧ Rw f (pwr c x) ∧ beg L t b d' = true := by
  obtain ⟨k, rfl⟩ : ∃ k, s2 = k + 1 := ⟨s2 - 1, by omega⟩
  rcases hp with ⟨rfl, _, rfl⟩ | ⟨s3, s4, h3, h4, rfl⟩
  · obtain ⟨w, e1, q1, b1⟩ := rd_atom hL hC h1 h0 ha (show t.drop b = G ++ 32 :: (sp k ++ Z) from hd) (.inl rfl)
    have d1 := dr hd rfl
    have s1 := spn_sp d1
    have e2 : b + G.length + spn t (b + G.length) = q + spn t q := by
      rw [s1, hq]
      omega
    refine ⟨w, ?_, ?_, b1⟩
    · unfold rdF
      rw [e1]
      show (if mk t (b + G.length + spn t (b + G.length)) = [94] then _ else Except.ok (w, b + G.length + spn t (b + G.length))) = _
      rw [e2, if_neg hn]
    · rw [pwr_one]
      exact q1
  · have hx : x ∈ tm7 := by
      rcases ha with ⟨_, hx⟩ | ⟨_, hx⟩
      · exact hx
      · exact (tm57 x hx).1
    have hd2 : t.drop b = p ++ (sp s3 ++ 94 :: (sp s4 ++ (nt x ++ 32 :: (sp k ++ Z)))) := by
      rw [hd]
      simp [sp_succ]
    have key : ∃ w, rdA ph L t d' b = .ok (w, b + p.length) ∧ Rw w c ∧ beg L t b d' = true := by
      cases s3 with
      | zero => exact rd_atom hL hC h1 h0 ha (show t.drop b = p ++ 94 :: _ from hd2) (.inr rfl)
      | succ j => exact rd_atom hL hC h1 h0 ha (show t.drop b = p ++ 32 :: (sp j ++ _) from hd2) (.inl rfl)
    obtain ⟨w, e1, q1, b1⟩ := key
    have d1 := dr hd2 rfl
    have d2 := dr d1 (sp_len s3).symm
    have d3 := dr1 d2
    have d4 := dr d3 (sp_len s4).symm
    have d5 := dr d4 rfl
    have n1 : spn t (b + p.length) = s3 := by rw [spn_sp d1, spn_no d2 (by decide)]; rfl
    have n2 : spn t (b + p.length + s3 + 1) = s4 := by
      rw [spn_sp d3]
      have : spn t (b + p.length + s3 + 1 + s4) = 0 := by
        have c7 : x = 1 ∨ x = 2 ∨ x = -1 ∨ x = 0 ∨ x = -2 ∨ x = 13 ∨ x = -10 := by simpa [tm7] using hx
        rcases c7 with rfl | rfl | rfl | rfl | rfl | rfl | rfl
        · exact spn_no (c := 49) d4 (by decide)
        · exact spn_no (c := 50) d4 (by decide)
        · exact spn_no (c := 45) d4 (by decide)
        · exact spn_no (c := 48) d4 (by decide)
        · exact spn_no (c := 45) d4 (by decide)
        · exact spn_no (c := 49) d4 (by decide)
        · exact spn_no (c := 45) d4 (by decide)
      omega
    have n3 := spn_sp (k := k + 1) (Y := Z) (show t.drop (b + p.length + s3 + 1 + s4 + (nt x).length) = sp (k + 1) ++ Z from d5)
    have eq : b + p.length + s3 + 1 + s4 + (nt x).length + (k + 1) = q := by
      rw [hq]
      simp only [List.length_append, List.length_cons, List.length_nil, sp_len]
      omega
    refine ⟨pw w x, ?_, rw_pw q1, b1⟩
    unfold rdF
    rw [e1]
    show (if mk t (b + p.length + spn t (b + p.length)) = [94] then fx t w (b + p.length + spn t (b + p.length)) else _) = _
    rw [n1, if_pos (mk_hd d2)]
    unfold fx
    rw [n2, rd_nt hx d4]
    show Except.ok (pw w x, b + p.length + s3 + 1 + s4 + (nt x).length + spn t (b + p.length + s3 + 1 + s4 + (nt x).length)) = _
    rw [n3, eq, ← eq]
    congr 2
    omega
theorem hds_of {C : List Nat → List Nat → Prop} {d' : Nat} {Lo Lo0 : List Nat → List Nat → Prop} (hC : ∀ p c, C p c → d' < 6 ∧ AtmC Lo Lo0 p c) : Hds C := by
  intro p c h
  obtain ⟨_, h⟩ := hC p c h
  rcases h with ⟨rfl, rfl⟩ | ⟨T1, W1, T2, W2, _, _, rfl, rfl⟩ | ⟨T1, W1, _, rfl, rfl⟩
  · exact ⟨49, [], rfl, .inl rfl⟩
  · exact ⟨91, T1 ++ [44] ++ T2 ++ [93], by simp, .inr (.inr rfl)⟩
  · exact ⟨40, T1 ++ [41], by simp, .inr (.inl rfl)⟩
theorem rd_hd {C : List Nat → List Nat → Prop} {ph : Nat → Rr} {d' : Nat} {Lo Lo0 : List Nat → List Nat → Prop} (hL : ∀ c ∈ L, 97 ≤ c ∧ c ≤ 122) (hC : ∀ p c, C p c → d' < 6 ∧ AtmC Lo Lo0 p c) (h1 : Rdg t ph Lo) (h0 : Rdg t ph Lo0) {F V Y : List Nat} {r : List (List Nat × List Nat)} (hl : Cat (Fac L C) ((F, V) :: r)) {a : Nat} (hd : t.drop a = txt ((F, V) :: r) ++ Y) (hY : Stp Y) :
    ∃ f, rdF ph L t d' (a + spn t a) = .ok (f, a + F.length + spn t (a + F.length)) ∧ Rw f V ∧ beg L t (a + spn t a) d' = true ∧ t.drop (a + F.length) = txt r ++ Y ∧ Cat (Fac L C) r := by
  have hH := hds_of hC
  have hr : Cat (Fac L C) r := fun q hq => hl q (List.mem_cons_of_mem _ hq)
  have dF : t.drop (a + F.length) = txt r ++ Y := dr (X := F) (by rw [hd]; simp [txt]) rfl
  have hn := nx hL hH hr dF hY
  obtain ⟨p, c, G, x, s1, s2, ha, hp, _, hs, _, hV, hF⟩ := hl _ List.mem_cons_self
  simp only at hV hF
  obtain ⟨y, R, hG, hy, _⟩ := fac_hd hL hH ha hp
  have hd2 : t.drop a = sp s1 ++ (G ++ (sp s2 ++ (txt r ++ Y))) := by
    rw [hd, txt, List.map_cons, List.flatten_cons, hF]
    simp [txt]
  have d1 := dr hd2 (sp_len s1).symm
  have n1 : spn t a = s1 := by
    rw [spn_sp hd2, spn_no (c := y) (Y := R ++ (sp s2 ++ (txt r ++ Y))) (by rw [d1, hG]; rfl) hy]
    rfl
  have lF : a + F.length = a + s1 + G.length + s2 := by
    rw [hF]
    simp only [List.length_append, sp_len]
    omega
  obtain ⟨f, g1, g2, g3⟩ := rd_fac hL hC h1 h0 ha hp hs d1 lF hn
  rw [n1, hV]
  exact ⟨f, g1, g2, g3, dF, hr⟩
theorem rd_loop {C : List Nat → List Nat → Prop} {ph : Nat → Rr} {d' : Nat} {Lo Lo0 : List Nat → List Nat → Prop} (hL : ∀ c ∈ L, 97 ≤ c ∧ c ≤ 122) (hC : ∀ p c, C p c → d' < 6 ∧ AtmC Lo Lo0 p c) (h1 : Rdg t ph Lo) (h0 : Rdg t ph Lo0) {Y : List Nat} (hY : Stp Y) : ∀ (l : List (List Nat × List Nat)) (n a : Nat) (w W : List Nat), l.length ≤ n → Cat (Fac L C) l → t.drop a = txt l ++ Y → Rw w W → ∃ w', rdL (rdF ph L t d') L t d' n (a + spn t a) w = .ok (w', a + (txt l).length) ∧ Rw w' (W ++ wrd l)
  | [], n, a, w, W, hn, hl, hd, hw => by
    obtain ⟨s, h2⟩ := stp_hd hY (show t.drop a = Y from hd)
    have hb : beg L t a d' = false := by
      rcases h2 with h2 | ⟨c, h2, hc⟩
      · unfold beg
        rw [h2]
      · rw [beg_is h2, decide_eq_false (fun z => by have := sg_let hL z; omega), decide_eq_false (by omega), decide_eq_false (by omega)]
        rfl
    refine ⟨w, ?_, ?_⟩
    · rw [s]
      cases n with
      | zero => rfl
      | succ n =>
        unfold rdL
        rw [Nat.add_zero, if_pos hb]
        rfl
    · show Rw w (W ++ [])
      rw [List.append_nil]
      exact hw
  | (F, V) :: r, 0, a, w, W, hn, hl, hd, hw => by
    simp at hn
  | (F, V) :: r, n + 1, a, w, W, hn, hl, hd, hw => by
    obtain ⟨f, g1, g2, g3, g4, g5⟩ := rd_hd hL hC h1 h0 hl hd hY
    obtain ⟨w', k1, k2⟩ := rd_loop hL hC h1 h0 hY r n (a + F.length) (ct (w ++ f)) (W ++ V) (by simpa using hn) g5 g4 (rw_app hw g2)
    refine ⟨w', ?_, ?_⟩
    · unfold rdL
      rw [g3, if_neg (by decide), g1]
      show rdL (rdF ph L t d') L t d' n (a + F.length + spn t (a + F.length)) (ct (w ++ f)) = _
      rw [k1]
      congr 2
      simp [txt]
      omega
    · have : W ++ wrd ((F, V) :: r) = W ++ V ++ wrd r := by simp [wrd]
      rw [this]
      exact k2
theorem rd_phr {C : List Nat → List Nat → Prop} {ph : Nat → Rr} {d' : Nat} {Lo Lo0 : List Nat → List Nat → Prop} (hL : ∀ c ∈ L, 97 ≤ c ∧ c ≤ 122) (hC : ∀ p c, C p c → d' < 6 ∧ AtmC Lo Lo0 p c) (h1 : Rdg t ph Lo) (h0 : Rdg t ph Lo0) : Rdg t (rdP0 (rdF ph L t d') L t d') (Phr (Fac L C)) := by
  intro T W a Y hT hd hY
  obtain ⟨l, l1, l3, hl, rfl, rfl⟩ := hT
  cases l with
  | nil => simp at l1
  | cons q r =>
    obtain ⟨F, V⟩ := q
    obtain ⟨f, g1, g2, g3, g4, g5⟩ := rd_hd hL hC h1 h0 hl hd hY
    obtain ⟨w', k1, k2⟩ := rd_loop hL hC h1 h0 hY r (t.length + 2) (a + F.length) f V (by simp only [List.length_cons] at l3; omega) g5 g4 g2
    refine ⟨w', ?_, ?_⟩
    · unfold rdP0
      rw [g1]
      show rdL (rdF ph L t d') L t d' (t.length + 2) (a + F.length + spn t (a + F.length)) f = _
      rw [k1]
      congr 2
      simp [txt]
      omega
    · have : wrd ((F, V) :: r) = V ++ wrd r := by simp [wrd]
      rw [this]
      exact k2
theorem rd_none (ph : Nat → Rr) : Rdg t ph (fun _ _ => False) := fun _ _ _ _ h => h.elim
theorem rd_loo0 (hL : ∀ c ∈ L, 97 ≤ c ∧ c ≤ 122) (m : Nat) : Rdg t (rdP L t m) (fun T W => Phr (Fac L fun _ _ => False) T W) := by
  rw [rdP_eq]
  exact rd_phr (C := fun _ _ => False) (Lo := fun _ _ => False) (Lo0 := fun _ _ => False) hL (fun p c h => h.elim) (rd_none _) (rd_none _)
theorem rd_loo (hL : ∀ c ∈ L, 97 ≤ c ∧ c ≤ 122) : ∀ (d m : Nat), d ≤ m → m ≤ 6 → Rdg t (rdP L t m) (Loo L d)
  | 0, m, _, _ => rd_loo0 hL m
  | d + 1, m, h, h6 => by
    obtain ⟨j, rfl⟩ : ∃ j, m = j + 1 := ⟨m - 1, by omega⟩
    rw [rdP_eq]
    exact rd_phr (C := Cmp L (d + 1)) (Lo := fun T W => Phr (Fac L (Cmp L d)) T W) (Lo0 := fun T W => Phr (Fac L fun _ _ => False) T W) hL (fun p c hc => ⟨by omega, hc⟩) (rd_loo hL d j (by omega) (by omega)) (rd_loo0 hL j)
theorem rdW_loo (hL : ∀ c ∈ L, 97 ≤ c ∧ c ≤ 122) {d : Nat} (hd : d ≤ 6) {T W : List Nat} (h : Loo L d T W) : rdW L T = if W.length ≤ 400 then .ok W else .error none := by
  obtain ⟨w, e, q⟩ := rd_loo (t := T) hL d 6 hd (Nat.le_refl _) T W 0 [] h (by simp) (.inl rfl)
  unfold rdW
  rw [e]
  show (if 0 + T.length < T.length then _ else if 400 < w.length then Except.error none else Except.ok w) = _
  rw [if_neg (by omega)]
  by_cases hc : W.length ≤ 400
  · rw [if_pos hc, q.1 hc, if_neg (by omega)]
  · rw [if_neg hc, if_pos (by rw [q.2 (by omega)]; decide)]
end
end KA
set_option maxRecDepth 100000
set_option maxHeartbeats 4000000
namespace KA
open PySem PySem.Spec PyProof.Rows L2
abbrev sFWord : Stmt := top 39
abbrev sRuns : Stmt := top 40
abbrev sFRun : Stmt := top 41
abbrev sText : Stmt := top 79
theorem scFWord : FnScope ["word", "sign", "length"] ["word"] (defScope sFWord) := ⟨rfl, rfl, rfl, by decide +kernel, rfl, by decide +kernel, by decide +kernel⟩
theorem scRuns : FnScope ["word", "runs", "begin", "at"] ["word"] (defScope sRuns) := ⟨rfl, rfl, rfl, by decide +kernel, rfl, by decide +kernel, by decide +kernel⟩
theorem scFRun : FnScope ["sign", "length"] ["sign", "length"] (defScope sFRun) := ⟨rfl, rfl, rfl, by decide +kernel, rfl, by decide +kernel, by decide +kernel⟩
theorem scText : FnScope ["_law_one", "_law_parts", "_law_at", "_law_size", "_law_letter", "_law_text_z"] ["_law_one"] (defScope sText) := ⟨rfl, rfl, rfl, by decide +kernel, rfl, by decide +kernel, by decide +kernel⟩
end KA
set_option maxRecDepth 100000
set_option maxHeartbeats 4000000
namespace KA
open PySem PySem.Spec PyProof.Rows L2
theorem dropW_le {α : Type} (p : α → Bool) : ∀ l : List α, (l.dropWhile p).length ≤ l.length
  | [] => Nat.le_refl _
  | a :: r => by
    rw [List.dropWhile_cons]
    split
    · have := dropW_le p r
      simp only [List.length_cons]
      omega
    · exact Nat.le_refl _
theorem tw_eq (c : Nat) : ∀ l : List Nat, List.replicate (l.takeWhile (· == c)).length c = l.takeWhile (· == c)
  | [] => rfl
  | a :: r => by
    rw [List.takeWhile_cons]
    split
    · rename_i h
      have e : a = c := by simpa using h
      rw [List.length_cons, List.replicate_succ, tw_eq c r, e]
    · rfl
def rl (l : List Nat) : List (Nat × Nat) :=
  match l with
  | [] => []
  | c :: r => (c, 1 + (r.takeWhile (· == c)).length) :: rl (r.dropWhile (· == c))
termination_by l.length
decreasing_by
  have := dropW_le (· == c) r
  simp only [List.length_cons]
  omega
def exq (rs : List (Nat × Nat)) : List Nat := rs.flatMap fun q => List.replicate q.2 q.1
def dg (n : Nat) : List Nat := if n < 10 then [48 + n] else [48 + n / 10, 48 + n % 10]
def tk (q : Nat × Nat) : List Nat := if 65 ≤ q.1 ∧ q.1 ≤ 90 then [q.1 + 32, 94, 45] ++ dg q.2 else if 1 < q.2 then [q.1, 94] ++ dg q.2 else [q.1]
def txq (rs : List (Nat × Nat)) : List Nat := if rs = [] then [49] else TL.joinL [32] (rs.map tk)
theorem rl_nil : rl [] = [] := by rw [rl]
theorem rl_run {c n : Nat} {m : List Nat} (hn : 1 ≤ n) (hm : m.head? ≠ some c) : rl (List.replicate n c ++ m) = (c, n) :: rl m := by
  obtain ⟨k, rfl⟩ : ∃ k, n = k + 1 := ⟨n - 1, by omega⟩
  have key : ∀ k : Nat, ((List.replicate k c ++ m).takeWhile (· == c)).length = k ∧ (List.replicate k c ++ m).dropWhile (· == c) = m := by
    intro k
    induction k with
    | zero =>
      cases m with
      | nil => exact ⟨rfl, rfl⟩
      | cons d r =>
        have hd : (d == c) = false := by
          rw [beq_eq_false_iff_ne]
          intro e
          apply hm
          rw [e]
          rfl
        constructor
        · show ((d :: r).takeWhile (· == c)).length = 0
          rw [List.takeWhile_cons, hd]
          rfl
        · show (d :: r).dropWhile (· == c) = d :: r
          rw [List.dropWhile_cons, hd]
          rfl
    | succ k ih =>
      constructor
      · rw [List.replicate_succ, List.cons_append, List.takeWhile_cons, beq_self_eq_true]
        show _ + 1 = k + 1
        rw [ih.1]
      · rw [List.replicate_succ, List.cons_append, List.dropWhile_cons, beq_self_eq_true]
        exact ih.2
  rw [List.replicate_succ, List.cons_append, rl, (key k).1, (key k).2, Nat.add_comm 1 k]
theorem drop_run {l : List Nat} {b n c : Nat} (h : ∀ j, b ≤ j → j < b + n → l[j]? = some c) : l.drop b = List.replicate n c ++ l.drop (b + n) := by
  induction n generalizing b with
  | zero => rfl
  | succ n ih =>
    have h0 := h b (Nat.le_refl _) (by omega)
    have e : l.drop b = c :: l.drop (b + 1) := by
      have hb : b < l.length := (List.getElem?_eq_some_iff.mp h0).1
      rw [List.drop_eq_getElem_cons hb]
      congr 1
      exact (List.getElem?_eq_some_iff.mp h0).2
    rw [e, List.replicate_succ, List.cons_append, ih (b := b + 1) (fun j h1 h2 => h j (by omega) (by omega)), show b + 1 + n = b + (n + 1) by omega]
theorem rl_at {l : List Nat} {b n c : Nat} (hn : 1 ≤ n) (h : ∀ j, b ≤ j → j < b + n → l[j]? = some c) (he : l[b + n]? ≠ some c) : rl (l.drop b) = (c, n) :: rl (l.drop (b + n)) := by
  rw [drop_run h]
  refine rl_run hn ?_
  rw [List.head?_drop]
  exact he
theorem exq_rl (l : List Nat) : exq (rl l) = l := by
  have key : ∀ (k : Nat) (l : List Nat), l.length ≤ k → exq (rl l) = l := by
    intro k
    induction k with
    | zero =>
      intro l h
      have : l = [] := List.length_eq_zero_iff.mp (by omega)
      subst this
      rw [rl_nil]
      rfl
    | succ k ih =>
      intro l h
      cases l with
      | nil =>
        rw [rl_nil]
        rfl
      | cons c r =>
        rw [rl]
        show List.replicate (1 + (r.takeWhile (· == c)).length) c ++ exq (rl (r.dropWhile (· == c))) = c :: r
        have hl := dropW_le (· == c) r
        simp only [List.length_cons] at h
        rw [ih _ (by omega), Nat.add_comm, List.replicate_succ, List.cons_append]
        congr 1
        rw [tw_eq c r, List.takeWhile_append_dropWhile]
  exact key l.length l (Nat.le_refl _)
theorem rl_mem {l : List Nat} {q : Nat × Nat} (h : q ∈ rl l) : q.1 ∈ l ∧ 1 ≤ q.2 := by
  have key : ∀ (k : Nat) (l : List Nat), l.length ≤ k → ∀ q ∈ rl l, q.1 ∈ l ∧ 1 ≤ q.2 := by
    intro k
    induction k with
    | zero =>
      intro l h q hq
      have : l = [] := List.length_eq_zero_iff.mp (by omega)
      subst this
      rw [rl_nil] at hq
      cases hq
    | succ k ih =>
      intro l h q hq
      cases l with
      | nil =>
        rw [rl_nil] at hq
        cases hq
      | cons c r =>
        rw [rl] at hq
        have hl := dropW_le (· == c) r
        simp only [List.length_cons] at h
        rcases List.mem_cons.mp hq with e | e
        · rw [e]
          exact ⟨List.mem_cons_self, by show 1 ≤ 1 + _; omega⟩
        · obtain ⟨h1, h2⟩ := ih _ (by omega) q e
          exact ⟨List.mem_cons_of_mem _ (List.dropWhile_sublist _ |>.subset h1), h2⟩
  exact key l.length l (Nat.le_refl _) q h
theorem exq_mem_len {rs : List (Nat × Nat)} {q : Nat × Nat} (h : q ∈ rs) : q.2 ≤ (exq rs).length := by
  induction rs with
  | nil => cases h
  | cons p r ih =>
    show q.2 ≤ (List.replicate p.2 p.1 ++ exq r).length
    rw [List.length_append, List.length_replicate]
    rcases List.mem_cons.mp h with e | e
    · rw [e]; omega
    · have := ih e; omega
theorem dg_str : ∀ n, n < 100 → (toString ((n : Nat) : Int) : Str) = SX.S (dg n) := by decide +kernel
theorem dg_len {n : Nat} : (dg n).length ≤ 2 := by
  unfold dg
  split <;> simp
theorem isup1 : ∀ c, c < 128 → Txt.isupper (SX.S [c]) = decide (65 ≤ c ∧ c ≤ 90) := by decide +kernel
theorem tk_len {q : Nat × Nat} : (tk q).length ≤ 5 := by
  unfold tk
  have := dg_len (n := q.2)
  split
  · rw [List.length_append]; simp only [List.length_cons, List.length_nil]; omega
  · split
    · rw [List.length_append]; simp only [List.length_cons, List.length_nil]; omega
    · simp only [List.length_cons, List.length_nil]; omega
end KA
set_option maxRecDepth 100000
set_option maxHeartbeats 4000000
namespace KA
open PySem PySem.Spec PyProof.Rows L2
section
variable {P : Program} {w : World} {K : PySem.W.Frag} {mg : Str → Option Value} {base : Heap}
def spFr : Sp := fun vs H Q _ => ∃ (c n : Nat), vs = [tx [c], .int (n : Int)] ∧ c < 128 ∧ 1 ≤ n ∧ n < 100 ∧ Q (tx (tk (c, n))) H
theorem log_small {n : Nat} (h : n < 100) : ((n : Int)).natAbs.log2 < 1920 := by
  rw [Int.natAbs_natCast]
  have : n.log2 ≤ n := Nat.log2_le_self n
  omega
theorem ok_fr {f : Addr} {fd : FuncData} {k : Nat} (F : Fun K "format_run" "format_run" sFRun f fd) : FnOk P w K mg base CX0 (k + 1) f fd ["sign", "length"] spFr := by
  refine F.ok scFRun (fun vs H Q E h => ?_) (fun cdv A outer s H vs Q E hr h => ?_)
  · obtain ⟨c, n, rfl, _⟩ := h
    rfl
  · obtain ⟨c, n, rfl, hc, h1, h2, q⟩ := h
    refine ⟨_, pss_cons (ps_if (pt_val (pe_m0 PySem.F.slot_str_isupper PySem.F.type_str_isupper mt_isupper (pv 0))) (pss_one (ps_ret (pe_joined (.cons (pe_fmt (pe_lower (pv 0))) (.cons pe_str (.cons (pe_fmt (pv 1)) .nil)))))) pss_nil)
      (pss_cons (ps_if (pt_cmpR op_gt (pv 1) pe_int (nomark _)) (pss_one (ps_ret (pe_joined (.cons (pe_fmt (pv 0)) (.cons pe_str (.cons (pe_fmt (pv 1)) .nil)))))) pss_nil)
      (pss_one (ps_ret (pv 0)))), ?_⟩
    have hd := dg_len (n := n)
    have ee : Str.empty = SX.S [] := by decide
    have e1 : Str.ofString "^-" = SX.S [94, 45] := by decide
    have e2 : Str.ofString "^" = SX.S [94] := by decide
    refine ⟨_, rfl, ⟨_, rfl⟩, _, rfl, rfl, trivial, _, rfl, ?_⟩
    rw [isup1 c hc]
    refine ite2 (fun hu => ?_) (fun hu => ?_)
    · have hu' : 65 ≤ c ∧ c ≤ 90 := of_decide_eq_true hu
      have el : lo1 c = c + 32 := by unfold lo1; rw [if_pos hu']
      refine ⟨_, rfl, ⟨_, rfl⟩, _, rfl, rfl, asc1, .inl ⟨_, rfl, ?_, _, rfl, ?_, _, rfl, ?_, _, rfl, .inr ⟨_, rfl, log_small h2, _, rfl, ?_, ?_⟩⟩⟩
      · rw [lower1 hc]
        exact asc_le (w := [lo1 c]) (by show 1 ≤ 1000; decide)
      · rw [lower1 hc, ee, SX.S_cat]
        exact asc_le (w := [] ++ [lo1 c]) (by show 1 ≤ 1000; decide)
      · rw [lower1 hc, ee, e1, SX.S_cat, SX.S_cat]
        exact asc_le (w := [] ++ [lo1 c] ++ [94, 45]) (by show 3 ≤ 1000; decide)
      · rw [lower1 hc, ee, e1, dg_str n h2, SX.S_cat, SX.S_cat, SX.S_cat]
        exact asc_le (by rw [List.length_append]; simp only [List.length_append, List.length_cons, List.length_nil]; omega)
      · rw [lower1 hc, ee, e1, dg_str n h2, SX.S_cat, SX.S_cat, SX.S_cat, el]
        have e : tk (c, n) = [] ++ [c + 32] ++ [94, 45] ++ dg n := by
          unfold tk
          rw [if_pos hu']
          rfl
        rw [e] at q
        exact q
    · have hu' : ¬ (65 ≤ c ∧ c ≤ 90) := fun z => hu (decide_eq_true z)
      refine ⟨_, rfl, _, _, rfl, rfl, _, rfl, ite2 (fun hn => ?_) (fun hn => ?_)⟩
      · have hn' : 1 < n := by have z : (1 : Int) < (n : Int) := of_decide_eq_true hn; omega
        refine ⟨_, rfl, .inl ⟨_, rfl, asc_le (w := [c]) (by show 1 ≤ 1000; decide), _, rfl, ?_, _, rfl, ?_, _, rfl, .inr ⟨_, rfl, log_small h2, _, rfl, ?_, ?_⟩⟩⟩
        · rw [ee, SX.S_cat]
          exact asc_le (w := [] ++ [c]) (by show 1 ≤ 1000; decide)
        · rw [ee, e2, SX.S_cat, SX.S_cat]
          exact asc_le (w := [] ++ [c] ++ [94]) (by show 2 ≤ 1000; decide)
        · rw [ee, e2, dg_str n h2, SX.S_cat, SX.S_cat, SX.S_cat]
          exact asc_le (by rw [List.length_append]; simp only [List.length_append, List.length_cons, List.length_nil]; omega)
        · rw [ee, e2, dg_str n h2, SX.S_cat, SX.S_cat, SX.S_cat]
          have e : tk (c, n) = [] ++ [c] ++ [94] ++ dg n := by
            unfold tk
            rw [if_neg hu', if_pos hn']
            rfl
          rw [e] at q
          exact q
      · have hn' : ¬ 1 < n := fun z => hn (decide_eq_true (by omega))
        have e : tk (c, n) = [c] := by
          unfold tk
          rw [if_neg hu', if_neg hn']
        rw [e] at q
        exact ⟨_, rfl, q⟩
def RunAt (H : Hp) (v : V) (r : Nat × Nat) : Prop := ∃ a, v = .ref a ∧ H a = some (.tup [tx [r.1], .int (r.2 : Int)])
def RunsAt (H : Hp) (vs : List V) (rs : List (Nat × Nat)) : Prop := vs.length = rs.length ∧ ∀ (i : Nat) (v : V) (r : Nat × Nat), vs[i]? = some v → rs[i]? = some r → RunAt H v r
theorem RunsAt.same {H H' : Hp} {vs : List V} {rs : List (Nat × Nat)} (h : RunsAt H vs rs) (s : ∀ a xs, H a = some (.tup xs) → H' a = some (.tup xs)) : RunsAt H' vs rs :=
  ⟨h.1, fun i v r h1 h2 => by
    obtain ⟨a, e1, e2⟩ := h.2 i v r h1 h2
    exact ⟨a, e1, s _ _ e2⟩⟩
theorem RunsAt.snoc {H : Hp} {vs : List V} {rs : List (Nat × Nat)} {v : V} {r : Nat × Nat} (h : RunsAt H vs rs) (hr : RunAt H v r) : RunsAt H (vs ++ [v]) (rs ++ [r]) := by
  refine ⟨by rw [List.length_append, List.length_append, h.1]; rfl, fun i v' r' h1 h2 => ?_⟩
  by_cases hi : i < vs.length
  · rw [List.getElem?_append_left hi] at h1
    rw [List.getElem?_append_left (by rw [← h.1]; exact hi)] at h2
    exact h.2 i v' r' h1 h2
  · rw [List.getElem?_append_right (Nat.not_lt.mp hi)] at h1
    rw [List.getElem?_append_right (by rw [← h.1]; exact Nat.not_lt.mp hi), ← h.1] at h2
    cases hk : i - vs.length with
    | zero =>
      rw [hk] at h1 h2
      have e1 : v = v' := Option.some.inj h1
      have e2 : r = r' := Option.some.inj h2
      rw [← e1, ← e2]
      exact hr
    | succ k =>
      rw [hk] at h1
      cases h1
def spRuns : Sp := fun vs H Q _ => ∃ l : List Nat, vs = [tx l] ∧ 1 ≤ l.length ∧ l.length ≤ 1000 ∧ ∀ H' p ws, Same H H' → H p = none → H' p = some (.lst ws) → RunsAt H' ws (rl l) → Q (.ref p) H'
theorem ok_runs {f : Addr} {fd : FuncData} {k : Nat} (F : Fun K "runs_of" "runs_of" sRuns f fd) (B : Bn mg) : FnOk P w K mg base CX0 (k + 1) f fd ["word"] spRuns := by
  refine F.ok scRuns (fun vs H Q E h => ?_) (fun cdv A outer s H vs Q E hr h => ?_)
  · obtain ⟨l, rfl, _⟩ := h
    rfl
  · obtain ⟨l, rfl, hl1, hl, q⟩ := h
    refine ⟨_, pss_cons (ps_set (i := 1) scRuns.nd rfl (.inl rfl) (pe_lst pa_nil)) (pss_cons (ps_set (i := 2) scRuns.nd rfl (.inl rfl) pe_int)
      (pss_cons (ps_for PassesOwn.never rfl (pi_range2 (by rfl) B.range (pa_cons pe_int (pa_cons (pe_op op_add (pe_callB call_len (by rfl) B.len PySem.boot_len (pa_cons (pv 0) pa_nil)) pe_int) pa_nil))) (pg_name (i := 3) scRuns.nd rfl (Or.inl rfl))
        (pss_one (ps_if (PW.pt (pw_or (pt_cmpR op_eq (pv 3) (pe_callB call_len (by rfl) B.len PySem.boot_len (pa_cons (pv 0) pa_nil)) (nomark _)) (pw_or1 (pt_cmpR op_ne (pe_ix ix_str (pv 0) (pv 3) (fun _ _ => rfl)) (pe_ix ix_str (pv 0) (pv 2) (fun _ _ => rfl)) (nomark _)))))
          (pss_cons (ps_expr (pe_bm PySem.F.plainAttrs_list PySem.F.slot_list_append PySem.F.type_list_append mt_append (pv 1) (pa_cons (pe_tup (pa_cons (pe_ix ix_str (pv 0) (pv 2) (fun _ _ => rfl)) (pa_cons (pe_op op_sub (pv 3) (pv 2)) pa_nil))) pa_nil)))
          (pss_one (ps_set (i := 2) scRuns.nd rfl (.inl rfl) (pv 3)))) pss_nil)))
      (pss_one (ps_ret (pv 1))))), ?_⟩
    have hS := asc_le hl
    refine ⟨Nat.zero_le _, fun p np => ?_⟩
    refine ⟨_, rfl, _, _, rfl, ⟨hS, rfl⟩, _, _, rfl, rfl, 1, _, rfl, ⟨by decide, by decide, ?_, ?_⟩, ?_⟩
    · rw [tx_len]
      omega
    · rw [tx_len]
      omega
    · have en : (((SX.S l).length : Int) + 1 - 1).toNat = l.length := by
        rw [tx_len]
        omega
      rw [en]
      refine for_it (walk_range (lo := 1) (n := l.length)) (fun i σ H2 => ∃ (b : Nat) (ws : List V) (rs : List (Nat × Nat)) (y : Option V), σ = [some (tx l), some (.ref p), some (.int (b : Int)), y] ∧ Same H H2 ∧ H2 p = some (.lst ws) ∧ RunsAt H2 ws rs ∧ rl l = rs ++ rl (l.drop b) ∧ rs.length ≤ i ∧
          b ≤ i ∧ (b < l.length → ∀ j, b ≤ j → j ≤ i → j < l.length → l[j]? = l[b]?) ∧ (i < l.length → b < l.length) ∧ (i = l.length → b = l.length))
        ⟨0, [], [], none, rfl, same_new np, upd_same, ⟨rfl, fun i v r h => by cases h⟩, rfl, Nat.le_refl _, Nat.le_refl _, fun _ j h1 h2 _ => by rw [show j = 0 by omega], fun _ => by omega, fun h => by omega⟩ (fun _ _ _ _ _ => trivial) ?_ ?_
      · rintro i x σ H2 H2' hi ⟨b, ws, rs, y, rfl, sm, hp, hR, hrl, hle, hb, hrun, hbl, _⟩ ⟨rfl, hx⟩
        have hbl' := hbl hi
        have hrun' := hrun hbl'
        obtain ⟨cb, hcb⟩ : ∃ c, l[b]? = some c := ⟨_, List.getElem?_eq_getElem hbl'⟩
        have ei : (1 : Int) + (i : Int) = ((i + 1 : Nat) : Int) := by omega
        obtain rfl : x = .int ((i + 1 : Nat) : Int) := hx.trans (congrArg V.int ei)
        -- the run is closed
        have close : (l[i + 1]? ≠ some cb) → ∀ D : Ends, (∀ (ws' : List V) (rs' : List (Nat × Nat)) (H3 : Hp), Same H H3 → H3 p = some (.lst ws') → RunsAt H3 ws' rs' → rl l = rs' ++ rl (l.drop (i + 1)) → rs'.length ≤ i + 1 → D.nx [some (tx l), some (.ref p), some (.int ((i + 1 : Nat) : Int)), some (.int ((i + 1 : Nat) : Int))] H3) →
            tSeq (tDrop (tBM K "list" rAppend (tVar 1) (tCons (tTup (tCons (tOp rIxS (tVar 0) (tVar 2)) (tCons (tOp (rI0 fun i j => .int (i - j)) (tVar 3) (tVar 2)) tNil))) tNil))) (tAsg (tVar 3) (gName 2)) D [some (tx l), some (.ref p), some (.int (b : Int)), some (.int ((i + 1 : Nat) : Int))] H2' := by
          intro hne D nx
          refine ⟨_, rfl, .inl ⟨rfl, _, SqL.of hp⟩, _, rfl, _, rfl, _, _, cb, rfl, rfl, hS, atS hcb, _, rfl, _, rfl, _, _, rfl, rfl, (by show 2 ≤ sizeLine; decide), fun T nT => ?_⟩
          have sT : Same H2' (upd H2' T (.tup [tx [cb], .int (((i + 1 : Nat) : Int) - (b : Int))])) := same_new nT
          have hp2 := sT _ _ hp
          refine ⟨p, ws, _, rfl, rfl, hp2, ?_, ?_⟩
          · rw [hR.1]
            exact small1000 (by omega)
          · have nTp : T ≠ p := fun e => by
              rw [e, hp] at nT
              cases nT
            have keep : ∀ a xs, H2' a = some (.tup xs) → upd (upd H2' T (.tup [tx [cb], .int (((i + 1 : Nat) : Int) - (b : Int))])) p (.lst (ws ++ [.ref T])) a = some (.tup xs) := fun a xs e => by
              rw [upd_ne (fun z => by rw [z, hp] at e; cases e)]
              exact sT _ _ e
            refine ⟨_, rfl, nx (ws ++ [.ref T]) (rs ++ [(cb, i + 1 - b)]) _ (fun a o e => ?_) upd_same ((hR.same keep).snoc ⟨T, rfl, ?_⟩) ?_ ?_⟩
            · rw [upd_ne (ne_of_none e np)]
              exact sT _ _ (sm _ _ e)
            · rw [upd_ne nTp, upd_same]
              have e : ((i + 1 : Nat) : Int) - (b : Int) = ((i + 1 - b : Nat) : Int) := by omega
              rw [e]
            · rw [hrl, rl_at (l := l) (b := b) (n := i + 1 - b) (c := cb) (by omega) (fun j h1 h2 => (hrun' j h1 (by omega) (by omega)).trans hcb) (by rw [show b + (i + 1 - b) = i + 1 by omega]; exact hne), show b + (i + 1 - b) = i + 1 by omega, List.append_assoc]
              rfl
            · rw [List.length_append]
              show rs.length + 1 ≤ i + 1
              omega
        have fin : ∀ (ws' : List V) (rs' : List (Nat × Nat)) (H3 : Hp), Same H H3 → H3 p = some (.lst ws') → RunsAt H3 ws' rs' → rl l = rs' ++ rl (l.drop (i + 1)) → rs'.length ≤ i + 1 → ∃ (b : Nat) (ws : List V) (rs : List (Nat × Nat)) (y : Option V), [some (tx l), some (.ref p), some (.int ((i + 1 : Nat) : Int)), some (.int ((i + 1 : Nat) : Int))] = [some (tx l), some (.ref p), some (.int (b : Int)), y] ∧ Same H H3 ∧ H3 p = some (.lst ws) ∧ RunsAt H3 ws rs ∧ rl l = rs ++ rl (l.drop b) ∧ rs.length ≤ i + 1 ∧
            b ≤ i + 1 ∧ (b < l.length → ∀ j, b ≤ j → j ≤ i + 1 → j < l.length → l[j]? = l[b]?) ∧ (i + 1 < l.length → b < l.length) ∧ (i + 1 = l.length → b = l.length) :=
          fun ws' rs' H3 g1 g2 g3 g4 g5 => ⟨i + 1, ws', rs', _, rfl, g1, g2, g3, g4, g5, Nat.le_refl _, fun _ j h1 h2 _ => by rw [show j = i + 1 by omega], fun h => h, fun h => h⟩
        refine ⟨_, rfl, _, rfl, _, _, rfl, ⟨hS, rfl⟩, rfl, _, rfl, ite2 (fun e => ?_) (fun e => ?_)⟩
        · have e1 : i + 1 = l.length := by
            have z := V.int.inj (of_decide_eq_true e)
            rw [tx_len] at z
            omega
          exact iteT (close (by rw [List.getElem?_eq_none (by omega)]; exact fun z => by cases z) _ fin)
        · have e1 : i + 1 ≠ l.length := fun z => e (decide_eq_true (by rw [tx_len]; congr 1; omega))
          have hlt : i + 1 < l.length := by omega
          obtain ⟨ca, hca⟩ : ∃ c, l[i + 1]? = some c := ⟨_, List.getElem?_eq_getElem hlt⟩
          refine ⟨_, rfl, _, rfl, _, _, ca, rfl, rfl, hS, atS hca, _, rfl, _, rfl, _, _, cb, rfl, rfl, hS, atS hcb, rfl, _, rfl, ite2 (fun e2 => ?_) (fun e2 => ?_)⟩
          · refine close (fun z => ?_) _ fin
            rw [hca] at z
            cases z
            simp at e2
          · have e3 : ca = cb := by
              have z : ¬ (V.str ⟨#[ca]⟩ ≠ V.str ⟨#[cb]⟩) := fun hn => e2 (by simpa using hn)
              have z2 : tx [ca] = tx [cb] := Classical.not_not.mp z
              have z3 := SX.S_inj (V.str.inj z2)
              simpa using z3
            refine ⟨b, ws, rs, _, rfl, sm, hp, hR, hrl, by omega, by omega, fun _ j h1 h2 h3 => ?_, fun _ => hbl', fun z => absurd z e1⟩
            by_cases hj : j ≤ i
            · exact hrun' j h1 hj h3
            · rw [show j = i + 1 by omega, hca, hcb, e3]
      · rintro σ H2 ⟨b, ws, rs, y, rfl, sm, hp, hR, hrl, hle, hb, hrun, hbl, hend⟩
        have eb := hend rfl
        rw [eb, List.drop_length, rl_nil, List.append_nil] at hrl
        rw [← hrl] at hR
        exact ⟨_, rfl, q H2 p ws sm np hp hR⟩
end
end KA
set_option maxRecDepth 100000
set_option maxHeartbeats 4000000
namespace KA
open PySem PySem.Spec PyProof.Rows L2
theorem rl_len (l : List Nat) : (rl l).length ≤ l.length := by
  have key : ∀ (k : Nat) (l : List Nat), l.length ≤ k → (rl l).length ≤ l.length := by
    intro k
    induction k with
    | zero =>
      intro l h
      have : l = [] := List.length_eq_zero_iff.mp (by omega)
      subst this
      rw [rl_nil]
      exact Nat.le_refl _
    | succ k ih =>
      intro l h
      cases l with
      | nil =>
        rw [rl_nil]
        exact Nat.le_refl _
      | cons c r =>
        rw [rl]
        have hl := dropW_le (· == c) r
        simp only [List.length_cons] at h
        have := ih _ (show (r.dropWhile (· == c)).length ≤ k by omega)
        simp only [List.length_cons]
        omega
  exact key l.length l (Nat.le_refl _)
theorem rl_bound {l : List Nat} {q : Nat × Nat} (h : q ∈ rl l) (hl : l.length < 100) : q.2 < 100 := by
  have := exq_mem_len h
  rw [exq_rl] at this
  omega
theorem sum_le5 : ∀ rs : List (Nat × Nat), (((rs.map tk).map SX.S).map (·.length)).sum ≤ 5 * rs.length
  | [] => Nat.le_refl _
  | q :: r => by
    have := sum_le5 r
    have h := tk_len (q := q)
    simp only [List.map_cons, List.sum_cons, List.length_cons]
    rw [tx_len]
    omega
theorem join32 (ys : List (List Nat)) : Txt.join (Str.ofString " ") (ys.map SX.S) = SX.S (TL.joinL [32] ys) := by
  have e : Str.ofString " " = SX.S [32] := by decide
  rw [e, SX.join_S]
theorem len32 : (Str.ofString " ").length = 1 := by decide
theorem rl_ne {l : List Nat} (h : l ≠ []) : rl l ≠ [] := by
  cases l with
  | nil => exact absurd rfl h
  | cons c r =>
    rw [rl]
    exact List.cons_ne_nil _ _
section
variable {P : Program} {w : World} {K : PySem.W.Frag} {mg : Str → Option Value} {base : Heap}
theorem join_toks {H : Hp} {D : Addr} {rs : List (Nat × Nat)} {Q : VK} (hl : rs.length ≤ 1000) (hne : rs ≠ []) (hD : H D = some (.lst (rs.map fun q => tx (tk q)))) (q : Q (tx (txq rs)) H) :
    ∃ a p, ∃ ys : List Str, V.str (Str.ofString " ") = .str a ∧ [V.ref D] = [.ref p] ∧ (SqL K H p (ys.map V.str) ∨ SqT K H p (ys.map V.str)) ∧ (ys.map (·.length)).sum + ys.length * a.length ≤ 16777216 ∧ Q (.str (Txt.join a ys)) H := by
  refine ⟨_, D, (rs.map tk).map SX.S, rfl, rfl, .inl (SqL.of ?_), ?_, ?_⟩
  · rw [hD, List.map_map, List.map_map]
    rfl
  · have := sum_le5 rs
    rw [len32, List.length_map, List.length_map]
    omega
  · rw [join32]
    have e : txq rs = TL.joinL [32] (rs.map tk) := if_neg hne
    rw [e] at q
    exact q
def spFw : Sp := fun vs H Q _ => ∃ l : List Nat, vs = [tx l] ∧ l.length < 100 ∧ Asc l ∧ ∀ H', Same H H' → Q (tx (txq (rl l))) H'
theorem ok_fw {f fR fF : Addr} {fd fdR fdF : FuncData} {k : Nat} (F : Fun K "format_word" "format_word" sFWord f fd)
    (GR : FnOk P w K mg base CX0 (k + 1) fR fdR ["word"] spRuns) (kR : PySem.W.keepIn K (.ref fR) = true) (bR : Binds K fdR ["word"] []) (gR : mg "runs_of" = some (.ref fR))
    (GF : FnOk P w K mg base CX0 (k + 1) fF fdF ["sign", "length"] spFr) (kF : PySem.W.keepIn K (.ref fF) = true) (bF : Binds K fdF ["sign", "length"] []) (gF : mg "format_run" = some (.ref fF)) :
    FnOk P w K mg base CX0 (k + 2) f fd ["word"] spFw := by
  refine F.ok scFWord (fun vs H Q E h => ?_) (fun cdv A outer s H vs Q E hr h => ?_)
  · obtain ⟨l, rfl, _⟩ := h
    rfl
  · obtain ⟨l, rfl, hl, hA, q⟩ := h
    refine ⟨_, pss_cons (ps_if (pt_cmpR op_eq (pv 0) pe_str (nomark _)) (pss_one (ps_ret pe_str)) pss_nil)
      (pss_one (ps_ret (pe_join pe_str (pe_lc (own := [("sign", 1), ("length", 2)]) (g := gTup K 2 (gCons (gName 1) (gCons (gName 2) gNil))) (tt := tYes) (te := tCall spFr [] E0 (tCons (tVar 1) (tCons (tVar 2) tNil))) rfl scFWord.nd (pi_list (pe_call GR hr (by rfl) gR kR bR .nil pass0 (pa_cons (pv 0) pa_nil)))
        (blkOk_by (N := ["word", "sign", "length"]) (sc := defScope sFWord) (by decide +kernel)) (fun _ _ _ _ _ => pg_tup rfl (pgs_cons (pg_name (i := 1) scFWord.nd rfl (.inl rfl)) (pgs_cons (pg_name (i := 2) scFWord.nd rfl (.inl rfl)) pgs_nil))) (fun _ _ _ _ _ => pts_nil)
        (fun _ _ _ _ _ => pe_call GF hr (by rfl) gF kF bF .nil pass0 (pa_cons (pv 1) (pa_cons (pv 2) pa_nil))))))), ?_⟩
    refine ⟨_, rfl, rfl, _, rfl, ite2 (fun e => ?_) (fun e => ?_)⟩
    · have e1 : l = [] := by
        have z : tx l = .str (Str.ofString "") := of_decide_eq_true e
        rw [e0S] at z
        exact SX.S_inj (V.str.inj z)
      subst e1
      have z := q H (Same.refl _)
      rw [rl_nil] at z
      show Q (.str (Str.ofString "1")) H
      rw [one49]
      exact z
    · have hne : l ≠ [] := fun z => e (by rw [z, e0S]; exact decide_eq_true rfl)
      have hl1 : 1 ≤ l.length := List.length_pos_iff.mpr hne
      have hrl := rl_len l
      refine ⟨⟨_, rfl⟩, _, rfl, l, rfl, hl1, by omega, fun H1 p ws s1 np hp hR => ⟨p, rfl, ⟨_, SqL.of hp⟩, fun D nD => ?_⟩⟩
      refine lc_it (walk_list (K := K) (a := p) (xs := ws)) (fun i H2 => Same H1 H2 ∧ H2 D = some (.lst (((rl l).take i).map fun q => tx (tk q)))) ⟨same_new nD, upd_same⟩ (fun i H2 _ h => SqL.of (h.1 _ _ hp)) ?_ ?_
      · rintro i x H2 H2' hi ⟨s2, hD⟩ ⟨rfl, hx⟩
        have hi2 : i < (rl l).length := by rw [← hR.1]; exact hi
        have gr : (rl l)[i]? = some (rl l)[i] := List.getElem?_eq_getElem hi2
        obtain ⟨a, rfl, ha⟩ := hR.2 i x _ hx gr
        have hm := List.getElem_mem hi2
        have hb := rl_bound hm hl
        obtain ⟨h1, h2⟩ := rl_mem hm
        generalize (rl l)[i] = r at gr ha hb h1 h2
        refine ⟨a, _, rfl, SqT.of (s2 _ _ ha), rfl, _, _, rfl, _, _, rfl, rfl, rfl, ?_⟩
        dsimp only [tYes]
        rw [if_pos rfl]
        refine ⟨_, rfl, _, rfl, r.1, r.2, rfl, hA _ h1, h2, hb, _, hD, ?_, ?_, ?_⟩
        · rw [List.length_map, List.length_take]
          exact small1000 (by omega)
        · intro b o e
          rw [upd_ne (ne_of_none e nD)]
          exact s2 _ _ e
        · rw [upd_same, take_more gr, List.map_append]
          rfl
      · rintro H2 ⟨s2, hD⟩
        have e2 : ws.length = (rl l).length := hR.1
        rw [e2, List.take_length] at hD
        exact join_toks (by omega) (rl_ne hne) hD (q H2 (s1.trans s2))
end
end KA
set_option maxRecDepth 100000
set_option maxHeartbeats 4000000
namespace KA
open PySem PySem.Spec PyProof.Rows L2
theorem dw_drop (c : Nat) : ∀ r : List Nat, r.dropWhile (· == c) = r.drop (r.takeWhile (· == c)).length
  | [] => rfl
  | a :: r => by
    rw [List.dropWhile_cons, List.takeWhile_cons]
    split
    · rw [List.length_cons, List.drop_succ_cons]
      exact dw_drop c r
    · rfl
theorem strip_len (m : List Nat) (c : Nat) : (Txt.lstripChars (SX.S m) (SX.S [c])).length = m.length - (m.takeWhile (· == c)).length := by
  unfold Txt.lstripChars
  have eg : (SX.S [c]).cps.contains = fun d => d == c := by
    funext d
    by_cases h : d = c <;> simp [h]
  rw [stripBy_eq, eg]
  unfold stripLo stripHi
  rw [if_pos rfl, if_neg Bool.false_ne_true]
  have e1 : (SX.S m).cps.toList = m := rfl
  have hle : (m.takeWhile (· == c)).length ≤ m.length := (List.takeWhile_sublist _).length_le
  rw [e1, tx_len]
  unfold Builtin.Str.strSub
  simp [Str.length]
  try omega
theorem rl_step {l : List Nat} {a c : Nat} (h : l[a]? = some c) : rl (l.drop a) = (c, ((l.drop a).takeWhile (· == c)).length) :: rl (l.drop (a + ((l.drop a).takeWhile (· == c)).length)) ∧ 1 ≤ ((l.drop a).takeWhile (· == c)).length := by
  have ha : a < l.length := (List.getElem?_eq_some_iff.mp h).1
  have e : l.drop a = c :: l.drop (a + 1) := by
    rw [List.drop_eq_getElem_cons ha]
    congr 1
    exact (List.getElem?_eq_some_iff.mp h).2
  have e2 : ((l.drop a).takeWhile (· == c)).length = 1 + ((l.drop (a + 1)).takeWhile (· == c)).length := by
    rw [e, List.takeWhile_cons, beq_self_eq_true]
    show _ + 1 = _
    omega
  refine ⟨?_, by omega⟩
  rw [e2]
  rw [e, rl, dw_drop, List.drop_drop]
  congr 3
  omega
theorem dpa {K : PySem.W.Frag} {H : Hp} : ∀ rs : List (Nat × Nat), DpAll K H (rs.map fun q => tx (tk q)) (rs.map fun q => PyData.str (SX.S (tk q)))
  | [] => .nil
  | q :: r => .cons (.str _) (dpa r)
theorem tk_asc {q : Nat × Nat} (h : q.1 < 128) (h2 : q.2 < 100) : Asc (tk q) := by
  have hd : Asc (dg q.2) := by
    intro c hc
    unfold dg at hc
    split at hc
    · have : c = 48 + q.2 := by simpa using hc
      omega
    · have : c = 48 + q.2 / 10 ∨ c = 48 + q.2 % 10 := by simpa using hc
      omega
  intro c hc
  unfold tk at hc
  split at hc
  · rcases List.mem_append.mp hc with z | z
    · have : c = q.1 + 32 ∨ c = 94 ∨ c = 45 := by simpa using z
      omega
    · exact hd c z
  · split at hc
    · rcases List.mem_append.mp hc with z | z
      · have : c = q.1 ∨ c = 94 := by simpa using z
        omega
      · exact hd c z
    · have : c = q.1 := by simpa using hc
      omega
theorem canLays : ∀ rs : List (Nat × Nat), (∀ q ∈ rs, Asc (tk q)) → PyData.canLayAll0 (rs.map fun q => PyData.str (SX.S (tk q))) = true
  | [], _ => rfl
  | q :: r, h => by
    show (PyData.canLay0 (.str (SX.S (tk q))) && _) = true
    rw [canLays r (fun p hp => h p (List.mem_cons_of_mem _ hp)), Bool.and_true]
    show ((SX.S (tk q)).cps.all (· < 0x110000)) = true
    rw [← Array.all_toList, List.all_eq_true]
    intro c hc
    have := h q List.mem_cons_self c hc
    exact decide_eq_true (by omega)
theorem depths : ∀ rs : List (Nat × Nat), (PyData.list (rs.map fun q => PyData.str (SX.S (tk q)))).depth ≤ 64 := by
  intro rs
  have e : PyData.depthAll (rs.map fun q => PyData.str (SX.S (tk q))) = 0 := by
    induction rs with
    | nil => rfl
    | cons q r ih =>
      show max 0 (PyData.depthAll (r.map fun q => PyData.str (SX.S (tk q)))) = 0
      rw [ih]
      rfl
  show PyData.depthAll _ + 1 ≤ 64
  rw [e]
  decide
section
variable {P : Program} {w : World} {K : PySem.W.Frag} {mg : Str → Option Value} {base : Heap}
def spTx : Sp := fun vs H Q _ => ∃ l : List Nat, vs = [tx l] ∧ l.length < 100 ∧ Asc l ∧ ∀ H', Same H H' → Q (tx (txq (rl l))) H'
theorem ok_tx {f : Addr} {fd : FuncData} {k : Nat} (F : Fun K "_law_text" "_law_text" sText f fd) (B : Bn mg) : FnOk P w K mg base CX0 (k + 1) f fd ["_law_one"] spTx := by
  refine F.ok scText (fun vs H Q E h => ?_) (fun cdv A outer s H vs Q E hr h => ?_)
  · obtain ⟨l, rfl, _⟩ := h
    rfl
  · obtain ⟨l, rfl, hl, hA, q⟩ := h
    refine ⟨_, pss_cons (ps_par (i := 1) (j := 2) (by rfl) scText.nd rfl rfl (by decide) rfl rfl (pa_cons (pe_lst pa_nil) (pa_cons pe_int pa_nil)) (by rfl))
      (pss_cons (ps_while PassesOwn.never (pt_cmpR op_lt (pv 2) (pe_callB call_len (by rfl) B.len PySem.boot_len (pa_cons (pv 0) pa_nil)) (nomark _))
        (pss_cons (ps_set (i := 3) scText.nd rfl (.inl rfl) (pe_op op_sub (pe_callB call_len (by rfl) B.len PySem.boot_len (pa_cons (pe_slice sl_str (pv 0) (po_some (pv 2)) po_none) pa_nil))
            (pe_callB call_len (by rfl) B.len PySem.boot_len (pa_cons (pe_m1 PySem.F.slot_str_lstrip PySem.F.type_str_lstrip mt_lstripChars (pe_slice sl_str (pv 0) (po_some (pv 2)) po_none) (pe_ix ix_str (pv 0) (pv 2) (fun _ _ => rfl))) pa_nil))))
        (pss_cons (ps_par (i := 4) (j := 5) (by rfl) scText.nd rfl rfl (by decide) rfl rfl (pa_cons (pe_lower (pe_ix ix_str (pv 0) (pv 2) (fun _ _ => rfl))) (pa_cons (pe_op op_add_str pe_str (pe_callTy call_str_int (by rfl) B.str PyProof.Rows.boot_str (pa_cons (pv 3) pa_nil))) pa_nil)) (by rfl))
        (pss_cons (ps_if (pt_cmpR op_ne (pe_ix ix_str (pv 0) (pv 2) (fun _ _ => rfl)) (pv 4) (nomark _))
            (pss_one (ps_set (i := 5) scText.nd rfl (.inl rfl) (pe_op op_add_str pe_str (pe_callTy call_str_int (by rfl) B.str PyProof.Rows.boot_str (pa_cons (pv 3) pa_nil)))))
            (pss_one (ps_if (pt_cmpR op_eq (pv 3) pe_int (nomark _)) (pss_one (ps_set (i := 5) scText.nd rfl (.inl rfl) pe_str)) pss_nil)))
        (pss_cons (ps_expr (pe_bm PySem.F.plainAttrs_list PySem.F.slot_list_append PySem.F.type_list_append mt_append (pv 1) (pa_cons (pe_op op_add_str (pv 4) (pv 5)) pa_nil)))
        (pss_one (ps_set (i := 2) scText.nd rfl (.inl rfl) (pe_op op_add (pv 2) (pv 3)))))))))
      (pss_one (ps_ret (pe_ifExp (pt_cmpR (op_neD hr.units) (pv 1) (pe_lst pa_nil) (nomark _)) (pe_join pe_str (pv 1)) pe_str)))), ?_⟩
    have hl1000 : l.length ≤ 1000 := by omega
    have hS := asc_le hl1000
    refine ⟨Nat.zero_le _, fun p np => ⟨_, _, rfl, ?_⟩⟩
    refine while_by (fun σ H2 => ∃ (a : Nat) (rs : List (Nat × Nat)) (y3 y4 y5 : Option V), σ = [some (tx l), some (.ref p), some (.int (a : Int)), y3, y4, y5] ∧ Same H H2 ∧ H2 p = some (.lst (rs.map fun q => tx (tk q))) ∧ rl l = rs ++ rl (l.drop a) ∧ a ≤ l.length)
      (fun σ _ => match σ with | [_, _, some (.int a), _, _, _] => l.length - a.toNat | _ => 0) ⟨0, [], none, none, none, rfl, same_new np, upd_same, rfl, Nat.zero_le _⟩ ?_ ?_
    · rintro σ H2 ⟨a, rs, y3, y4, y5, rfl, sm, hp, hrl, hal⟩
      refine ⟨_, rfl, _, rfl, _, _, rfl, ⟨hS, rfl⟩, _, _, rfl, rfl, _, rfl, ite2 (fun e => ?_) (fun e => ?_)⟩
      · have ha : a < l.length := by
          have z : (a : Int) < ((SX.S l).length : Int) := of_decide_eq_true e
          rw [tx_len] at z
          omega
        obtain ⟨c, hc⟩ : ∃ c, l[a]? = some c := ⟨_, List.getElem?_eq_getElem ha⟩
        have hc128 := hA c (List.mem_of_getElem? hc)
        obtain ⟨st, hk1⟩ := rl_step hc
        have hat : atI (SX.S l).cps.toList (a : Int) = some c := atS hc
        have hkl : ((l.drop a).takeWhile (· == c)).length ≤ (l.drop a).length := (List.takeWhile_sublist _).length_le
        have hdl : (l.drop a).length = l.length - a := List.length_drop
        have hsl := strip_len (l.drop a) c
        have hSd : (SX.S (l.drop a)).length ≤ sizeLine := asc_le (by omega)
        generalize hkd : ((l.drop a).takeWhile (· == c)).length = k0 at st hk1 hkl hsl
        have hrsl : rs.length ≤ 1000 := by
          have h1 := rl_len l
          rw [hrl, List.length_append] at h1
          omega
        have hk100 : k0 < 100 := by omega
        have hdgl := dg_len (n := k0)
        have ec : Str.ofString "^" = SX.S [94] := by decide
        have ec2 : Str.ofString "^-" = SX.S [94, 45] := by decide
        -- size
        refine ⟨_, rfl, _, rfl, _, rfl, _, rfl, hS, ?_⟩
        rw [cut_from]
        refine ⟨_, _, rfl, ⟨hSd, rfl⟩, _, rfl, _, rfl, _, rfl, _, rfl, hS, ?_⟩
        rw [cut_from]
        refine ⟨⟨_, rfl⟩, _, rfl, _, rfl, _, _, c, rfl, rfl, hS, hat, _, _, rfl, rfl, hSd, _, _, rfl, ⟨?_, rfl⟩, _, _, rfl, rfl, ?_⟩
        · show (Txt.lstripChars (SX.S (l.drop a)) (SX.S [c])).length ≤ sizeLine
          rw [hsl]
          exact Nat.le_of_lt (small1000 (by omega))
        · have esz : ((SX.S (l.drop a)).length : Int) - ((Txt.lstripChars (SX.S (l.drop a)) (SX.S [c])).length : Int) = (k0 : Int) := by
            rw [hsl, tx_len]
            omega
          have esz' : (fun i j => V.int (i - j)) ((SX.S (l.drop a)).length : Int) ((Txt.lstripChars (SX.S (l.drop a)) ⟨#[c]⟩).length : Int) = V.int (k0 : Int) := congrArg V.int esz
          rw [esz']
          -- letter, text
          refine ⟨_, rfl, _, rfl, _, _, c, rfl, rfl, hS, hat, ⟨_, rfl⟩, _, rfl, rfl, asc1, _, rfl, _, rfl, log_small hk100, _, _, rfl, rfl, ?_, _, _, rfl, ?_⟩
          · rw [dg_str k0 hk100, ec, tx_len, tx_len]
            exact Nat.le_of_lt (small1000 (by simp only [List.length_cons, List.length_nil]; omega))
          · rw [dg_str k0 hk100, ec, SX.S_cat]
            have el : Txt.lower ⟨#[c]⟩ = SX.S [lo1 c] := lower1 hc128
            rw [el]
            refine ⟨_, rfl, _, rfl, _, _, c, rfl, rfl, hS, hat, _, rfl, rfl, _, rfl, ite2 (fun e2 => ?_) (fun e2 => ?_)⟩
            · have hu : 65 ≤ c ∧ c ≤ 90 := by
                apply Classical.byContradiction
                intro hn
                have : lo1 c = c := by unfold lo1; rw [if_neg hn]
                rw [this] at e2
                simp at e2
              have elo : lo1 c = c + 32 := by unfold lo1; rw [if_pos hu]
              refine ⟨_, rfl, _, rfl, log_small hk100, _, _, rfl, rfl, ?_, ?_⟩
              · rw [dg_str k0 hk100, ec2, tx_len, tx_len]
                exact Nat.le_of_lt (small1000 (by simp only [List.length_cons, List.length_nil]; omega))
              · rw [dg_str k0 hk100, ec2, SX.S_cat]
                refine ⟨_, rfl, .inl ⟨rfl, _, SqL.of hp⟩, _, rfl, _, rfl, _, _, rfl, rfl, ?_, p, _, _, rfl, rfl, hp, ?_, ?_⟩
                · rw [tx_len, tx_len]
                  exact Nat.le_of_lt (small1000 (by simp only [List.length_append, List.length_cons, List.length_nil]; omega))
                · rw [List.length_map]
                  exact small1000 (by omega)
                · refine ⟨_, rfl, _, rfl, _, _, rfl, rfl, ⟨a + k0, rs ++ [(c, k0)], some (.int (k0 : Int)), some (tx [lo1 c]), some (tx ([94, 45] ++ dg k0)), ?_, ?_, ?_, ?_, by omega⟩, ?_⟩
                  · rfl
                  · intro b o e3
                    rw [upd_ne (ne_of_none e3 np)]
                    exact sm _ _ e3
                  · rw [upd_same, SX.S_cat, List.map_append]
                    have et : tk (c, k0) = [lo1 c] ++ ([94, 45] ++ dg k0) := by unfold tk; rw [if_pos hu, elo]; rfl
                    show some (HO.lst (_ ++ [tx ([lo1 c] ++ ([94, 45] ++ dg k0))])) = some (HO.lst (_ ++ [tx (tk (c, k0))]))
                    rw [et]
                  · rw [hrl, st, List.append_assoc]
                    rfl
                  · show l.length - ((a : Int) + (k0 : Int)).toNat < l.length - ((a : Int)).toNat
                    omega
            · have hu : ¬ (65 ≤ c ∧ c ≤ 90) := fun hu => by
                have elo : lo1 c = c + 32 := by unfold lo1; rw [if_pos hu]
                apply e2
                have z : V.str ⟨#[c]⟩ ≠ tx [lo1 c] := fun z => by
                  have z2 : tx [c] = tx [lo1 c] := z
                  have z3 := SX.S_inj (V.str.inj z2)
                  have z4 : c = lo1 c := by simpa using z3
                  omega
                simpa using z
              have elo : lo1 c = c := by unfold lo1; rw [if_neg hu]
              refine ⟨_, rfl, rfl, _, rfl, ite2 (fun e3 => ?_) (fun e3 => ?_)⟩
              · have ek : k0 = 1 := by
                  have z : (k0 : Int) = 1 := V.int.inj (of_decide_eq_true e3)
                  omega
                have e0 : (Str.ofString "") = SX.S [] := e0S
                show (tSeq _ _) _ (List.set _ 5 (some (.str (Str.ofString "")))) _
                rw [e0]
                refine ⟨_, rfl, .inl ⟨rfl, _, SqL.of hp⟩, _, rfl, _, rfl, _, _, rfl, rfl, ?_, p, _, _, rfl, rfl, hp, ?_, ?_⟩
                · rw [tx_len, tx_len]
                  exact Nat.le_of_lt (small1000 (by simp only [List.length_append, List.length_cons, List.length_nil]; omega))
                · rw [List.length_map]
                  exact small1000 (by omega)
                · refine ⟨_, rfl, _, rfl, _, _, rfl, rfl, ⟨a + k0, rs ++ [(c, k0)], some (.int (k0 : Int)), some (tx [lo1 c]), some (tx (([] : List Nat))), ?_, ?_, ?_, ?_, by omega⟩, ?_⟩
                  · rfl
                  · intro b o e3
                    rw [upd_ne (ne_of_none e3 np)]
                    exact sm _ _ e3
                  · rw [upd_same, SX.S_cat, List.map_append]
                    have et : tk (c, k0) = [lo1 c] ++ (([] : List Nat)) := by unfold tk; rw [if_neg hu, if_neg (show ¬ 1 < k0 by omega), elo]; rfl
                    show some (HO.lst (_ ++ [tx ([lo1 c] ++ (([] : List Nat)))])) = some (HO.lst (_ ++ [tx (tk (c, k0))]))
                    rw [et]
                  · rw [hrl, st, List.append_assoc]
                    rfl
                  · show l.length - ((a : Int) + (k0 : Int)).toNat < l.length - ((a : Int)).toNat
                    omega
              · have ek : 1 < k0 := by
                  have z : (k0 : Int) ≠ 1 := fun z => e3 (by rw [z]; exact decide_eq_true rfl)
                  omega
                refine ⟨_, rfl, .inl ⟨rfl, _, SqL.of hp⟩, _, rfl, _, rfl, _, _, rfl, rfl, ?_, p, _, _, rfl, rfl, hp, ?_, ?_⟩
                · rw [tx_len, tx_len]
                  exact Nat.le_of_lt (small1000 (by simp only [List.length_append, List.length_cons, List.length_nil]; omega))
                · rw [List.length_map]
                  exact small1000 (by omega)
                · refine ⟨_, rfl, _, rfl, _, _, rfl, rfl, ⟨a + k0, rs ++ [(c, k0)], some (.int (k0 : Int)), some (tx [lo1 c]), some (tx ([94] ++ dg k0)), ?_, ?_, ?_, ?_, by omega⟩, ?_⟩
                  · rfl
                  · intro b o e3
                    rw [upd_ne (ne_of_none e3 np)]
                    exact sm _ _ e3
                  · rw [upd_same, SX.S_cat, List.map_append]
                    have et : tk (c, k0) = [lo1 c] ++ ([94] ++ dg k0) := by unfold tk; rw [if_neg hu, if_pos ek, elo]; rfl
                    show some (HO.lst (_ ++ [tx ([lo1 c] ++ ([94] ++ dg k0))])) = some (HO.lst (_ ++ [tx (tk (c, k0))]))
                    rw [et]
                  · rw [hrl, st, List.append_assoc]
                    rfl
                  · show l.length - ((a : Int) + (k0 : Int)).toNat < l.length - ((a : Int)).toNat
                    omega
      · have ea : a = l.length := by
          have z : ¬ ((a : Int) < ((SX.S l).length : Int)) := fun z => e (decide_eq_true z)
          rw [tx_len] at z
          omega
        rw [ea, List.drop_length, rl_nil, List.append_nil] at hrl
        rw [← hrl] at hp
        have hm : ∀ q ∈ rl l, Asc (tk q) := fun q hq => tk_asc (hA _ (rl_mem hq).1) (rl_bound hq hl)
        have shp : SeqAt.shaped (.list ((rl l).map fun q => PyData.str (SX.S (tk q)))) = true := by
          unfold SeqAt.shaped
          rw [Bool.and_eq_true]
          exact ⟨canLays _ hm, decide_eq_true (depths _)⟩
        refine ⟨_, rfl, Nat.zero_le _, fun p2 np2 => ?_⟩
        have sp2 : Same H2 (upd H2 p2 (.lst [])) := same_new np2
        refine ⟨_, _, .lst (SqL.of (sp2 _ _ hp)) (dpa _), .lst (SqL.of upd_same) .nil, shp, by decide +kernel, ?_⟩
        cases hcs : rl l with
        | nil =>
          refine ⟨false, rfl, iteF ?_⟩
          have z := q _ (sm.trans sp2)
          rw [hcs] at z
          show Q (.str (Str.ofString "1")) _
          rw [one49]
          exact z
        | cons r0 rr =>
          refine ⟨true, rfl, iteT ⟨⟨_, rfl⟩, _, rfl, ?_⟩⟩
          have h1 := rl_len l
          refine join_toks (rs := rl l) (by omega) (by rw [hcs]; exact List.cons_ne_nil _ _) (sp2 _ _ hp) (q _ (sm.trans sp2))
    · rintro σ H Q Q' imp ⟨v, h1, v2, h2, x, n, e1, e2, i, j, e3, e4, k, e5, hq⟩
      exact ⟨v, h1, v2, h2, x, n, e1, e2, i, j, e3, e4, k, e5, imp _ _ hq⟩
end
end KA
set_option maxRecDepth 100000
set_option maxHeartbeats 2000000
namespace KA
open PySem PySem.Spec PyProof.Rows L2
/-! a written text is read as its word -/
/-- a number's end -/
def Nd (Y : List Nat) : Prop := Y = [] ∨ ∃ r, Y = 32 :: r
theorem dgt_nd {t Y : List Nat} {a : Nat} (h : t.drop a = Y) (n : Nd Y) : dgt t a = false := by
  rcases n with rfl | ⟨r, rfl⟩
  · unfold dgt
    rw [mk_nl h]
  · exact dgt_no h (.inl (by decide))
theorem dg_cases {n : Nat} (h1 : 1 ≤ n) (h : n < 100) : (∃ c, dg n = [c] ∧ 49 ≤ c ∧ c ≤ 57 ∧ num [c] = n) ∨ ∃ c d, dg n = [c, d] ∧ 49 ≤ c ∧ c ≤ 57 ∧ 48 ≤ d ∧ d ≤ 57 ∧ num [c, d] = n := by
  unfold dg
  by_cases h10 : n < 10
  · rw [if_pos h10]
    exact .inl ⟨48 + n, rfl, by omega, by omega, by show 48 + n - 48 = n; omega⟩
  · rw [if_neg h10]
    exact .inr ⟨48 + n / 10, 48 + n % 10, rfl, by omega, by omega, by omega, by omega, by show 10 * (48 + n / 10 - 48) + (48 + n % 10 - 48) = n; omega⟩
theorem rd_dg {t Y : List Nat} {a n : Nat} (h1 : 1 ≤ n) (h2 : n < 100) (nd : Nd Y) (h : t.drop a = dg n ++ Y) : rdE t a = .ok ((n : Int), a + (dg n).length) := by
  rcases dg_cases h1 h2 with ⟨c, e, c1, c2, hn⟩ | ⟨c, d, e, c1, c2, g1, g2, hn⟩
  · rw [e] at h ⊢
    have h : t.drop a = c :: Y := h
    have d1 := dr1 h
    have n1 := dgt_nd d1 nd
    rw [rdE_is (mi := false) (b := a) (decide_eq_false (mk_ne h (by omega))) (if_neg (by decide))]
    have e0 : (if mk t a ≠ [48] ∧ dgt t (a + 1) = true then a + 2 else a + 1) = a + 1 := by
      rw [n1]
      simp
    rw [e0, n1, dgt_yes h (by omega) c2, if_neg (by simp), if_neg (by decide)]
    rw [h, show a + 1 - a = 1 by omega, ← hn]
    rfl
  · rw [e] at h ⊢
    have h : t.drop a = c :: d :: Y := h
    have d1 := dr1 h
    have d2 := dr1 d1
    have n1 := dgt_yes d1 g1 g2
    have n2 : dgt t (a + 2) = false := dgt_nd d2 nd
    rw [rdE_is (mi := false) (b := a) (decide_eq_false (mk_ne h (by omega))) (if_neg (by decide))]
    have e0 : (if mk t a ≠ [48] ∧ dgt t (a + 1) = true then a + 2 else a + 1) = a + 2 := if_pos ⟨mk_ne h (by omega), n1⟩
    rw [e0, n2, dgt_yes h (by omega) c2, if_neg (by simp), if_neg (by decide)]
    rw [h, show a + 2 - a = 2 by omega, ← hn]
    rfl
theorem rd_dgn {t Y : List Nat} {a n : Nat} (h1 : 1 ≤ n) (h2 : n < 100) (nd : Nd Y) (h : t.drop a = 45 :: (dg n ++ Y)) : rdE t a = .ok (-(n : Int), a + 1 + (dg n).length) := by
  rcases dg_cases h1 h2 with ⟨c, e, c1, c2, hn⟩ | ⟨c, d, e, c1, c2, g1, g2, hn⟩
  · rw [e] at h ⊢
    have h : t.drop a = 45 :: c :: Y := h
    have d1 := dr1 h
    have d2 := dr1 d1
    have n2 : dgt t (a + 1 + 1) = false := dgt_nd d2 nd
    rw [rdE_is (mi := true) (b := a + 1) (decide_eq_true (mk_hd h)) (if_pos rfl)]
    have e0 : (if mk t (a + 1) ≠ [48] ∧ dgt t (a + 1 + 1) = true then a + 1 + 2 else a + 1 + 1) = a + 2 := by
      rw [n2]
      simp
    have n3 : dgt t (a + 2) = false := n2
    rw [e0, n3, dgt_yes d1 (by omega) c2, if_neg (by intro z; rcases z with z | z; cases z; exact mk_ne d1 (by omega) z.2), if_neg (by decide)]
    rw [d1, show a + 2 - (a + 1) = 1 by omega, ← hn]
    rfl
  · rw [e] at h ⊢
    have h : t.drop a = 45 :: c :: d :: Y := h
    have d1 := dr1 h
    have d2 := dr1 d1
    have d3 := dr1 d2
    have n2 : dgt t (a + 1 + 1) = true := dgt_yes d2 g1 g2
    have n3 : dgt t (a + 3) = false := dgt_nd d3 nd
    rw [rdE_is (mi := true) (b := a + 1) (decide_eq_true (mk_hd h)) (if_pos rfl)]
    have e0 : (if mk t (a + 1) ≠ [48] ∧ dgt t (a + 1 + 1) = true then a + 1 + 2 else a + 1 + 1) = a + 3 := if_pos ⟨mk_ne d1 (by omega), n2⟩
    rw [e0, n3, dgt_yes d1 (by omega) c2, if_neg (by intro z; rcases z with z | z; cases z; exact mk_ne d1 (by omega) z.2), if_neg (by decide)]
    rw [d1, show a + 3 - (a + 1) = 2 by omega, ← hn]
    rfl
section
variable {L t : List Nat}
theorem rd_let (hL : ∀ c ∈ L, 97 ≤ c ∧ c ≤ 122) {ph : Nat → Rr} {d a y : Nat} {r : List Nat} (h : t.drop a = y :: r) (hy : y ∈ sg L) : rdA ph L t d a = .ok ([y], a + 1) ∧ beg L t a d = true := by
  have hs := sg_let hL hy
  have b1 : beg L t a d = true := by
    rw [beg_is (mk_hd h), decide_eq_true hy]
    rfl
  refine ⟨?_, b1⟩
  unfold rdA
  rw [b1, if_neg (by decide), if_neg (mk_ne h (by omega)), if_neg (mk_ne h (by omega)), if_neg (mk_ne h (by omega)), mk_hd h]
end
end KA
set_option maxRecDepth 100000
set_option maxHeartbeats 2000000
namespace KA
open PySem PySem.Spec PyProof.Rows L2
/-- the runs written one behind the other, and spaces -/
def bdy (z : Nat) : List (Nat × Nat) → List Nat
  | [] => []
  | [q] => tk q ++ sp z
  | q :: r => tk q ++ 32 :: bdy z r
theorem bdy_join (z : Nat) : ∀ rs : List (Nat × Nat), rs ≠ [] → bdy z rs = TL.joinL [32] (rs.map tk) ++ sp z
  | [], h => absurd rfl h
  | [q], _ => rfl
  | q :: r :: rs, _ => by
    have ih := bdy_join z (r :: rs) (List.cons_ne_nil _ _)
    show tk q ++ 32 :: bdy z (r :: rs) = (tk q ++ ([32] ++ TL.joinL [32] ((r :: rs).map tk))) ++ sp z
    rw [ih]
    simp
theorem tk_pos (q : Nat × Nat) : 1 ≤ (tk q).length := by
  unfold tk
  repeat' split
  all_goals simp
theorem bdy_len (z : Nat) : ∀ rs : List (Nat × Nat), rs.length ≤ (bdy z rs).length
  | [] => Nat.zero_le _
  | [q] => by
    show 1 ≤ (tk q ++ sp z).length
    rw [List.length_append]
    have := tk_pos q
    omega
  | q :: r :: rs => by
    have ih := bdy_len z (r :: rs)
    show (r :: rs).length + 1 ≤ (tk q ++ 32 :: bdy z (r :: rs)).length
    rw [List.length_append, List.length_cons (as := bdy z (r :: rs))]
    omega
theorem tk_hd {L : List Nat} (hL : ∀ c ∈ L, 97 ≤ c ∧ c ≤ 122) {q : Nat × Nat} (hq : q.1 ∈ sg L) : ∃ y r, tk q = y :: r ∧ y ∈ sg L ∧ y ≠ 32 ∧ y ≠ 94 := by
  obtain ⟨c, hc, hx⟩ := List.mem_flatMap.mp hq
  have hm := hL c hc
  have hx : q.1 = c ∨ q.1 = c - 32 := by simpa using hx
  unfold tk
  by_cases hu : 65 ≤ q.1 ∧ q.1 ≤ 90
  · rw [if_pos hu]
    have e : q.1 + 32 = c := by omega
    refine ⟨q.1 + 32, [94, 45] ++ dg q.2, rfl, ?_, by omega, by omega⟩
    rw [e]
    exact List.mem_flatMap.mpr ⟨c, hc, List.mem_cons_self⟩
  · rw [if_neg hu]
    split
    · exact ⟨q.1, [94] ++ dg q.2, rfl, hq, by omega, by omega⟩
    · exact ⟨q.1, [], rfl, hq, by omega, by omega⟩
section
variable {L t : List Nat}
/-- one run is read -/
theorem rd_run (hL : ∀ c ∈ L, 97 ≤ c ∧ c ≤ 122) {ph : Nat → Rr} {d a e : Nat} {q : Nat × Nat} {Y : List Nat} (hq : q.1 ∈ sg L) (h1 : 1 ≤ q.2) (h2 : q.2 < 100) (nd : Nd Y) (hd : t.drop a = tk q ++ Y) (he : e = a + (tk q).length) (hn : mk t (e + spn t e) ≠ [94]) :
    rdF ph L t d a = .ok (List.replicate q.2 q.1, e + spn t e) ∧ beg L t a d = true := by
  obtain ⟨c, hc, hx⟩ := List.mem_flatMap.mp hq
  have hm := hL c hc
  have hx : q.1 = c ∨ q.1 = c - 32 := by simpa using hx
  have one : ∀ x : Nat, ([x] : List Nat).length = 1 := fun _ => rfl
  by_cases hu : 65 ≤ q.1 ∧ q.1 ≤ 90
  · have et : tk q = [q.1 + 32, 94, 45] ++ dg q.2 := by unfold tk; rw [if_pos hu]
    rw [et] at hd he
    have hd : t.drop a = (q.1 + 32) :: 94 :: 45 :: (dg q.2 ++ Y) := hd
    have ec : q.1 + 32 = c := by omega
    have hy : q.1 + 32 ∈ sg L := by
      rw [ec]
      exact List.mem_flatMap.mpr ⟨c, hc, List.mem_cons_self⟩
    obtain ⟨e1, b1⟩ := rd_let hL (ph := ph) (d := d) hd hy
    have d1 := dr1 hd
    have d2 := dr1 d1
    have n1 := spn_no d1 (by decide)
    have n2 := spn_no d2 (by decide)
    have g := rd_dgn h1 h2 nd d2
    refine ⟨?_, b1⟩
    unfold rdF
    rw [e1]
    show (if mk t (a + 1 + spn t (a + 1)) = [94] then fx t [q.1 + 32] (a + 1 + spn t (a + 1)) else _) = _
    rw [n1, Nat.add_zero, if_pos (mk_hd d1)]
    unfold fx
    rw [n2, Nat.add_zero, g]
    have ee : a + 1 + 1 + 1 + (dg q.2).length = e := by
      rw [he]
      simp only [List.length_append, List.length_cons, List.length_nil]
      omega
    show Except.ok (pw [q.1 + 32] (-(q.2 : Int)), a + 1 + 1 + 1 + (dg q.2).length + spn t (a + 1 + 1 + 1 + (dg q.2).length)) = _
    rw [ee, pw_small (by rw [one]; omega)]
    unfold pwr
    rw [if_pos (by omega), show (-(q.2 : Int)).natAbs = q.2 by omega]
    have eo : opp [q.1 + 32] = [q.1] := by
      show [sw (q.1 + 32)] = [q.1]
      unfold sw
      rw [if_neg (by omega), if_pos (by omega), Nat.add_sub_cancel]
    rw [eo]
    unfold rep
    rw [List.flatten_replicate_singleton]
  · by_cases h12 : 1 < q.2
    · have et : tk q = [q.1, 94] ++ dg q.2 := by unfold tk; rw [if_neg hu, if_pos h12]
      rw [et] at hd he
      have hd : t.drop a = q.1 :: 94 :: (dg q.2 ++ Y) := hd
      obtain ⟨e1, b1⟩ := rd_let hL (ph := ph) (d := d) hd hq
      have d1 := dr1 hd
      have d2 := dr1 d1
      have n1 := spn_no d1 (by decide)
      have n2 : spn t (a + 1 + 1) = 0 := by
        rcases dg_cases h1 h2 with ⟨c', e', c1, c2, _⟩ | ⟨c', d', e', c1, c2, _⟩
        · rw [e'] at d2
          exact spn_no (c := c') d2 (by omega)
        · rw [e'] at d2
          exact spn_no (c := c') d2 (by omega)
      have g := rd_dg h1 h2 nd d2
      refine ⟨?_, b1⟩
      unfold rdF
      rw [e1]
      show (if mk t (a + 1 + spn t (a + 1)) = [94] then fx t [q.1] (a + 1 + spn t (a + 1)) else _) = _
      rw [n1, Nat.add_zero, if_pos (mk_hd d1)]
      unfold fx
      rw [n2, Nat.add_zero, g]
      have ee : a + 1 + 1 + (dg q.2).length = e := by
        rw [he]
        simp only [List.length_append, List.length_cons, List.length_nil]
        omega
      show Except.ok (pw [q.1] (q.2 : Int), a + 1 + 1 + (dg q.2).length + spn t (a + 1 + 1 + (dg q.2).length)) = _
      rw [ee, pw_small (by rw [one]; omega)]
      unfold pwr
      rw [if_neg (by omega), show ((q.2 : Nat) : Int).natAbs = q.2 by omega]
      unfold rep
      rw [List.flatten_replicate_singleton]
    · have et : tk q = [q.1] := by unfold tk; rw [if_neg hu, if_neg h12]
      rw [et] at hd he
      have hd : t.drop a = q.1 :: Y := hd
      obtain ⟨e1, b1⟩ := rd_let hL (ph := ph) (d := d) hd hq
      have ee : a + 1 = e := he.symm
      refine ⟨?_, b1⟩
      unfold rdF
      rw [e1]
      show (if mk t (a + 1 + spn t (a + 1)) = [94] then fx t [q.1] (a + 1 + spn t (a + 1)) else Except.ok ([q.1], a + 1 + spn t (a + 1))) = _
      rw [ee, if_neg hn, show q.2 = 1 by omega]
      rfl
/-- what stands behind a run -/
theorem bdy_step (hL : ∀ c ∈ L, 97 ≤ c ∧ c ≤ 122) {z a : Nat} {q : Nat × Nat} {r : List (Nat × Nat)} (hr : ∀ p ∈ r, p.1 ∈ sg L) (hd : t.drop a = bdy z (q :: r)) :
    ∃ Y, t.drop a = tk q ++ Y ∧ Nd Y ∧ mk t (a + (tk q).length + spn t (a + (tk q).length)) ≠ [94] ∧ t.drop (a + (tk q).length + spn t (a + (tk q).length)) = bdy z r := by
  cases r with
  | nil =>
    have h : t.drop a = tk q ++ sp z := hd
    have d1 := dr h rfl
    have d1' : t.drop (a + (tk q).length) = sp z ++ [] := by rw [d1, List.append_nil]
    have s1 := spn_sp d1'
    have d2 := dr d1' (sp_len z).symm
    have s2 := spn_nl d2
    rw [s2, Nat.add_zero] at s1
    refine ⟨sp z, h, ?_, ?_, ?_⟩
    · cases z with
      | zero => exact .inl rfl
      | succ k => exact .inr ⟨sp k, rfl⟩
    · rw [s1, mk_nl d2]
      exact fun e => nomatch e
    · rw [s1]
      exact d2
  | cons p r =>
    have h : t.drop a = tk q ++ 32 :: bdy z (p :: r) := hd
    have d1 := dr h rfl
    obtain ⟨y, u, ey, _, n32, n94⟩ := tk_hd hL (hr p List.mem_cons_self)
    obtain ⟨R, eR⟩ : ∃ R, bdy z (p :: r) = y :: R := by
      cases r with
      | nil => exact ⟨u ++ sp z, by show tk p ++ sp z = _; rw [ey]; rfl⟩
      | cons _ _ => exact ⟨_, by show tk p ++ _ = _; rw [ey]; rfl⟩
    have d2 := dr1 d1
    have s1 : spn t (a + (tk q).length) = 1 := by
      have z1 := spn_sp (k := 1) (Y := bdy z (p :: r)) d1
      have d2' := d2
      rw [eR] at d2'
      rw [z1, spn_no d2' n32]
    refine ⟨_, h, .inr ⟨_, rfl⟩, ?_, ?_⟩
    · rw [s1]
      rw [eR] at d2
      exact mk_ne d2 n94
    · rw [s1]
      exact d2
theorem rd_runs (hL : ∀ c ∈ L, 97 ≤ c ∧ c ≤ 122) {ph : Nat → Rr} {d z : Nat} : ∀ (rs : List (Nat × Nat)) (n a : Nat) (w : List Nat), rs.length ≤ n → (∀ q ∈ rs, q.1 ∈ sg L ∧ 1 ≤ q.2 ∧ q.2 < 100) → t.drop a = bdy z rs → w.length + (exq rs).length ≤ 400 →
    ∃ e, rdL (rdF ph L t d) L t d n a w = .ok (w ++ exq rs, e) ∧ t.drop e = []
  | [], n, a, w, hn, hr, hd, hw => by
    have hb : beg L t a d = false := by
      unfold beg
      rw [mk_nl hd]
    refine ⟨a, ?_, hd⟩
    show _ = Except.ok (w ++ [], a)
    rw [List.append_nil]
    cases n with
    | zero => rfl
    | succ n =>
      unfold rdL
      rw [if_pos hb]
  | q :: r, 0, a, w, hn, hr, hd, hw => by simp at hn
  | q :: r, n + 1, a, w, hn, hr, hd, hw => by
    obtain ⟨Y, h1, nd, hne, h2⟩ := bdy_step hL (fun p hp => (hr p (List.mem_cons_of_mem _ hp)).1) hd
    obtain ⟨q1, q2, q3⟩ := hr q List.mem_cons_self
    obtain ⟨g1, g2⟩ := rd_run hL (ph := ph) (d := d) q1 q2 q3 nd h1 rfl hne
    have ex : exq (q :: r) = List.replicate q.2 q.1 ++ exq r := rfl
    rw [ex, List.length_append, List.length_replicate] at hw
    have hct : ct (w ++ List.replicate q.2 q.1) = w ++ List.replicate q.2 q.1 := ct_id (by rw [List.length_append, List.length_replicate]; omega)
    obtain ⟨e, k1, k2⟩ := rd_runs hL r n _ (w ++ List.replicate q.2 q.1) (by simpa using hn) (fun p hp => hr p (List.mem_cons_of_mem _ hp)) h2 (by rw [List.length_append, List.length_replicate]; omega)
    refine ⟨e, ?_, k2⟩
    unfold rdL
    rw [g2, if_neg (by decide), g1]
    show rdL (rdF ph L t d) L t d n _ (ct (w ++ List.replicate q.2 q.1)) = _
    rw [hct, k1, ex, List.append_assoc]
end
/-- a written word among spaces is read as itself -/
theorem rdW_fw {L l : List Nat} (hL : ∀ c ∈ L, 97 ≤ c ∧ c ≤ 122) (hl : ∀ c ∈ l, c ∈ sg L) (h100 : l.length < 100) (y z : Nat) : rdW L (sp y ++ (txq (rl l) ++ sp z)) = .ok l := by
  obtain ⟨t, et⟩ : ∃ t, t = sp y ++ (txq (rl l) ++ sp z) := ⟨_, rfl⟩
  rw [← et]
  have fin : ∀ e, t.drop e = [] → rdP L t 6 0 = .ok (l, e) → rdW L t = .ok l := fun e he h => by
    have hle := List.drop_eq_nil_iff.mp he
    unfold rdW
    rw [h]
    show (if e < t.length then _ else if 400 < l.length then Except.error none else Except.ok l) = _
    rw [if_neg (by omega), if_neg (by omega)]
  have d0 : t.drop 0 = sp y ++ (txq (rl l) ++ sp z) := by rw [List.drop_zero]; exact et
  have sy := spn_sp d0
  have dy := dr d0 (sp_len y).symm
  rw [Nat.zero_add] at sy dy
  by_cases hne : l = []
  · subst hne
    rw [rl_nil] at dy
    have dy : t.drop y = 49 :: (sp z ++ []) := by rw [dy]; simp [txq]
    have s0 : spn t 0 = y := by rw [sy, spn_no dy (by decide)]; rfl
    have d1 := dr1 dy
    have d2 := dr d1 (sp_len z).symm
    have s2 := spn_nl d2
    have s1 : spn t (y + 1) = z := by
      have q := spn_sp d1
      omega
    have nd : Nd (sp z ++ []) := by
      cases z with
      | zero => exact .inl rfl
      | succ k => exact .inr ⟨sp k ++ [], rfl⟩
    have b1 : beg L t y 0 = true := by
      rw [beg_is (mk_hd dy)]
      simp
    have b2 : beg L t (y + 1 + z) 0 = false := by
      unfold beg
      rw [mk_nl d2]
    refine fin (y + 1 + z) d2 ?_
    rw [rdP_eq]
    show rdP0 (rdF (sub L t 6) L t 0) L t 0 0 = _
    unfold rdP0
    rw [s0, Nat.zero_add]
    have ha : rdA (sub L t 6) L t 0 y = .ok ([], y + 1) := by
      unfold rdA
      rw [b1, if_neg (by decide), if_neg (mk_ne dy (by decide)), if_neg (mk_ne dy (by decide)), if_pos (mk_hd dy), dgt_nd d1 nd, if_neg (by decide)]
    have hf : rdF (sub L t 6) L t 0 y = .ok ([], y + 1 + z) := by
      unfold rdF
      rw [ha]
      show (if mk t (y + 1 + spn t (y + 1)) = [94] then _ else Except.ok ([], y + 1 + spn t (y + 1))) = _
      rw [s1, mk_nl d2, if_neg (fun e => nomatch e)]
    rw [hf]
    show rdL (rdF (sub L t 6) L t 0) L t 0 (t.length + 1 + 1) (y + 1 + z) [] = _
    unfold rdL
    rw [if_pos b2]
  · have hr := rl_ne hne
    obtain ⟨q, r, eqr⟩ : ∃ q r, rl l = q :: r := by
      cases e : rl l with
      | nil => exact absurd e hr
      | cons q r => exact ⟨q, r, rfl⟩
    have eb : txq (rl l) ++ sp z = bdy z (rl l) := by
      rw [bdy_join z _ hr]
      unfold txq
      rw [if_neg hr]
    have all : ∀ p ∈ rl l, p.1 ∈ sg L ∧ 1 ≤ p.2 ∧ p.2 < 100 := fun p hp => ⟨hl _ (rl_mem hp).1, (rl_mem hp).2, rl_bound hp h100⟩
    rw [eb, eqr] at dy
    rw [eqr] at all
    obtain ⟨Y, h1, nd, hne2, h2⟩ := bdy_step hL (fun p hp => (all p (List.mem_cons_of_mem _ hp)).1) dy
    obtain ⟨q1, q2, q3⟩ := all q List.mem_cons_self
    obtain ⟨g1, g2⟩ := rd_run hL (ph := sub L t 6) (d := 0) q1 q2 q3 nd h1 rfl hne2
    obtain ⟨y0, u, ey, _, n32, _⟩ := tk_hd hL q1
    have s0 : spn t 0 = y := by
      rw [ey] at h1
      rw [sy, spn_no h1 n32]
      rfl
    have ex : exq (rl l) = l := exq_rl l
    rw [eqr] at ex
    have ex2 : List.replicate q.2 q.1 ++ exq r = l := ex
    have lx := congrArg List.length ex2
    rw [List.length_append, List.length_replicate] at lx
    have lr := rl_len l
    rw [eqr] at lr
    have lt : r.length + 1 ≤ t.length := by
      have b := bdy_len z (q :: r)
      rw [← dy, List.length_drop, List.length_cons] at b
      omega
    obtain ⟨e, k1, k2⟩ := rd_runs hL (ph := sub L t 6) (d := 0) (z := z) r (t.length + 2) _ (List.replicate q.2 q.1) (by omega) (fun p hp => all p (List.mem_cons_of_mem _ hp)) h2 (by rw [List.length_replicate]; omega)
    refine fin e k2 ?_
    rw [rdP_eq]
    show rdP0 (rdF (sub L t 6) L t 0) L t 0 0 = _
    unfold rdP0
    rw [s0, Nat.zero_add, g1]
    show rdL (rdF (sub L t 6) L t 0) L t 0 (t.length + 2) _ _ = _
    rw [k1, ex2]
end KA
set_option maxRecDepth 100000
set_option maxHeartbeats 1000000
/-! enumerate(text), an ASCII text -/
namespace Rs
open PySem PySem.Spec PyProof.Rows L2
def ItetS (x : Str) : It :=
  ⟨fun i _ => i < x.cps.size, fun i H v H' => ∃ T c, v = .ref T ∧ H T = none ∧ x.cps[i]? = some c ∧ H' = upd H T (.tup [.int (i : Nat), .str ⟨#[c]⟩]), fun i _ => x.cps.size ≤ i⟩
theorem turn_enumS {P : Program} {w : World} {K : PySem.W.Frag} {elts : List Expr} {kk : Nat} {tpos : Pos} (x : Str) (t : Tok) (e it : Addr) :
    Turn P w K (.Tuple elts kk tpos) (ItetS x) [e, it] e (fun i h => (∃ old, IsEnum h e it ((i : Nat) : Int) old) ∧ h.IsStrIter it "str_ascii_iterator" x t i ∧ e ≠ it) where
  mem := by simp
  obj := fun i h st b hb => by
    obtain ⟨⟨old, he⟩, ⟨o, ho, hc, hd⟩, _⟩ := st
    have e' : b = e ∨ b = it := by simpa using hb
    rcases e' with z | z
    · rw [z]; exact ⟨_, he, fun v q => nomatch q⟩
    · rw [z]; exact ⟨o, ho, fun v q => by rw [hd] at q; cases q⟩
  keep := fun i h h' st k => let ⟨⟨old, he⟩, ⟨o, ho, r⟩, hne⟩ := st; ⟨⟨old, k e (by simp) _ he⟩, ⟨o, k it (by simp) _ ho, r⟩, hne⟩
  item := by
    intro X hP hw hK hc i pins s σ H E I hf st hg
    subst hP hw hK
    obtain ⟨⟨old, he⟩, hit, hne⟩ := st
    have hel : e < s.heap.objs.size := Heap.lt_size he
    have hil : it < s.heap.objs.size := by obtain ⟨_, q, _⟩ := hit; exact Heap.lt_size q
    refine wpAny_pyNext_enum_itemD (Draws.strAscii (show X.A.in1.handled = none from I.ok.hd hc) it x t) he hit hg hne (by simp [hne]) fun x' h' tk hP ho hst hT hsz hk => ?_
    obtain ⟨c, u, hcx, rfl⟩ := hP
    refine ⟨_, rfl, wpAny_letOwnedTupleGo_enum (s := { s with heap := h', toks := tk + 1 }) ho fun h'' he' sb => ?_⟩
    have hT2 : h''.get? s.heap.objs.size = some { cls := .type "tuple", data := .seq #[.int i tk, .str ⟨#[c]⟩ u] } := (sb.2 _ (Nat.ne_of_gt hel)).trans hT
    have new : ObjOk X.prog X.w (upd H s.heap.objs.size (.tup [.int (i : Nat), .str ⟨#[c]⟩])) h'' s.heap.objs.size (.tup [.int (i : Nat), .str ⟨#[c]⟩]) :=
      ⟨by show 2 ≤ sizeLine; decide, [.int i tk, .str ⟨#[c]⟩ u], .cons ⟨_, rfl⟩ (.cons ⟨_, rfl⟩ .nil), ⟨_, hT2, rfl, _, rfl⟩⟩
    have I1 : Inv X pins σ (upd H s.heap.objs.size (.tup [.int (i : Nat), .str ⟨#[c]⟩])) { s with heap := h'', toks := tk + 1 } :=
      I.turnedNew (ch := [e, it]) (fun b ob hb q => (sb.2 b (fun z => hb (by simp [z]))).trans (hk b ob (fun z => hb (by simp [z])) (fun z => hb (by simp [z])) q)) hf (Nat.le_refl _) new
    obtain ⟨oi, hoi, ri⟩ := hst
    refine ⟨.ref s.heap.objs.size, _, I1, rfl, ⟨_, c, rfl, I.hok.fresh (Nat.le_refl _), hcx, rfl⟩, ⟨⟨.str ⟨#[c]⟩ u, ?_⟩, ⟨oi, (sb.2 it (Ne.symm hne)).trans hoi, ri⟩, hne⟩, fun b hb => ?_⟩
    · have e1 : ((i + 1 : Nat) : Int) = (i : Int) + 1 := by omega
      rw [e1]; exact he'
    · have hb' : b < s.heap.objs.size := by
        have e' : b = e ∨ b = it := by simpa using hb
        rcases e' with z | z
        · rw [z]; exact hel
        · rw [z]; exact hil
      rw [upd_ne (Nat.ne_of_lt hb')]
      exact (hf b hb).1
  done := by
    intro X hP hw hK hc i pins s σ H E I hf st hg
    subst hP hw hK
    obtain ⟨⟨old, he⟩, hit, hne⟩ := st
    obtain ⟨f0, f1, f2, f3, f4, f5⟩ := hf it (by simp)
    have hT : s.TypeIs (.ref e) "enumerate" := ⟨_, he, rfl⟩
    unfold pyNext
    refine wpAny_bind (wpAny_attempt (wpAny_callSpecial?_slot (name := Str.ofString "__next__") hT F.slot_enumerate_next
      (wpAny_call_entry F.slot_enumerate_next hT F.entry_enumerate_next ?_ (F.args_enumerate_next_1 _))))
    show wpAny _ _ (field (.ref e) 2 >>= _) _ _ _
    refine wpAny_bind (wpAny_field he rfl (x := .ref it) rfl ?_)
    refine wpAny_bind (wpAny_nextOf_ascii_end (show X.A.in1.handled = none from I.ok.hd hc) hit (Array.getElem?_eq_none hg) fun h' x he' hx' => ?_)
    obtain ⟨o, ho, hc'⟩ := hx'
    refine wpAny_bind (wpAny_isInstance (T := "StopIteration") (b := true) ⟨o, ho, hc'⟩ isSubtype_stop ?_)
    exact wpAny_pure ⟨rfl, I.turned (t' := s.toks) (fun b o hb q => he' b o hb q) f0 f1 f3 f4 f5⟩
  self := fun A i s Q E st h => let ⟨⟨_, he⟩, _⟩ := st; wpAny_pyIter_enum he h
def iEnumS (ta : TA) : TI := fun σ H R => ta σ H fun vs H1 => ∃ x, vs = [.str x] ∧ x.cps.all (· < 128) = true ∧ R (ItetS x) H1
theorem pi_enumS {X : Cx} {e : Expr} {ta : TA} {p pos tpos : Pos} {elts : List Expr} {kk : Nat} (hg : Gl X "enumerate") (hm : X.mg "enumerate" = none) (ha : PA X [e] ta) (hs : starEach [e] X.env = [(false, eval e X.env)] := by rfl) :
    PI X (.Tuple elts kk tpos) (.Call (.Name "enumerate" p) [e] [] pos) (iEnumS ta) := by
  refine ⟨fun pins s σ H R I h => ?_⟩
  refine Call_ (ld_blt I hg hm boot_enumerate (PyProof.Rows.callWith_type1 (thn (ha.run pos pins s σ H _ I h) fun us s1 ⟨vs, H1, I1, r1, q1⟩ => ?_) hs rfl))
  obtain ⟨x, ex, hx, q⟩ := q1
  subst ex
  cases r1 with
  | cons r rr =>
    cases rr
    obtain ⟨t, rfl⟩ := r
    refine call_enumerate_str fun h' he hit hsz hk => wpAny_pyIter_enum he ?_
    have hit : h'.IsStrIter s1.heap.objs.size "str_ascii_iterator" x t 0 := by
      have e : strIterType x = "str_ascii_iterator" := by unfold strIterType; rw [if_pos hx]
      rw [e] at hit
      exact hit
    have I2 : Inv X pins σ H1 { s1 with heap := h' } := I1.kept (t' := s1.toks) hk
    refine ⟨s1.heap.objs.size + 1, [s1.heap.objs.size + 1, s1.heap.objs.size], _, _, H1, rfl, I2, turn_enumS x t (s1.heap.objs.size + 1) s1.heap.objs.size, ⟨⟨.none, he⟩, hit, Nat.succ_ne_self _⟩, fun b hb => ?_, q⟩
    have e' : b = s1.heap.objs.size + 1 ∨ b = s1.heap.objs.size := by simpa using hb
    have hle : s1.heap.objs.size ≤ b := by
      rcases e' with z | z
      · rw [z]; exact Nat.le_add_right _ _
      · rw [z]; exact Nat.le_refl _
    exact I1.fpOk hle (I1.hok.fresh hle)
theorem walk_enumS {x : Str} : Walk (ItetS x) x.cps.size (fun _ => True) (YPair (fun i => some (.int (i : Nat))) (fun i => (x.cps[i]?).map fun c => V.str ⟨#[c]⟩)) := by
  refine ⟨fun i _ hi q => hi, fun _ q => Nat.le_refl _, fun i H v H' _ q y => ?_⟩
  obtain ⟨T, c, h1, h2, h3, h4⟩ := y
  exact ⟨T, .int (i : Nat), .str ⟨#[c]⟩, h1, h2, h4, rfl, by show (x.cps[i]?).map _ = _; rw [h3]; rfl⟩
end Rs
set_option maxRecDepth 100000
set_option maxHeartbeats 1000000
namespace Rs
open PySem PySem.Spec PyProof.Rows L2
section
variable {X : Cx} {CX : CXT} {k n : Nat} {f C : Addr} {fd : FuncData} {ps : List Str} {sp : Sp} {E : XK} {x : Str} {e : Expr} {es : List Expr} {t : TA} {p pos : Pos}
/-- C(e, .., *y) -/
theorem pe_makeS (M : Mk X.K C f) (F : FnR X.prog X.w X.K X.mg X.base CX k f sp) (hr : Room (k + 1) X.A) (hg : Gl X x) (hm : X.mg x = some (.ref C)) (hx : Passes CX X E) (ha : PA X (e :: es) t) (hdb : (x == ("__debug__" : Str)) = false := by decide)
    (he : starEach (e :: es) X.env = (false, eval e X.env) :: starEach es X.env := by rfl) (hst : (backTo pos (starEach es X.env)).any (·.1) = true := by rfl) : PE X (.Call (.Name x p) (e :: es) [] pos) (StX.tMakeR C sp E t) := by
  refine ⟨fun pins s σ H Q I h => ?_⟩
  refine wpAny_Call_Name_kw (ld_glob I hg hm ?_ hdb)
  refine PySem.W.callWith_S2 (h₀ := X.base) I.ok.mod.kin M.kp (thn (ha.run pos pins s σ H _ I h) fun us s1 ⟨vs, H1, I1, r, q⟩ => ⟨I1.kIn, ?_⟩) he hst
  exact StX.run_makeR M F hr hx I1 r q
/-- len(o) by an own __len__ -/
theorem call_lenI (F : FnOk X.prog X.w X.K X.mg X.base CX n f fd ps sp) (hf : PySem.W.findIn X.K (.ref C) "__len__" = some (some (.ref f))) (fn : PySem.W.isFn X.K (.ref f) = true) (hb : Binds X.K fd ps []) (hx : Passes CX X E) (hr : Room (n + 1) X.A) :
    CallR X (.builtin "len") (fun xs H Q => ∃ a dx fs, xs = [.ref a] ∧ H a = some (.ins C dx fs) ∧ sp [.ref a] H (fun v H' => ∃ i : Nat, v = .int (i : Nat) ∧ i < 1000000 ∧ Q v H') E) := by
  intro pins s σ H xs us Q I r h
  obtain ⟨a, dx, fs, rfl, ha, hsp⟩ := h
  obtain ⟨u, rfl, ru⟩ := vals1 r
  obtain rfl : u = Value.ref a := ru
  obtain ⟨mA, O, _⟩ := ins_get I.hok ha
  obtain ⟨od, J, _⟩ := O.look
  obtain ⟨m, hF⟩ := I.fr
  refine PySem.W.len_K hF I.ok.mod.kin J hf fn ?_
  have hl := F.len _ _ _ _ hsp
  refine wpAny_call (codeAny_mono (F.run X.A.in1 X.stack s H ⟨[.ref a], []⟩ [.ref a] [.ref a] _ E hr.in1 I.env0.in1 (by
    have := hb s [.ref a] I.kIn (by simpa using hl)
    simpa using this) (.cons rfl .nil) hsp) fun r s' hq => ?_)
  cases r with
  | error e => exact hx pins σ H s e s' I hq
  | ok fl =>
    cases fl with
    | ret w =>
      obtain ⟨z, H', I', rz, i, rfl, hi, q⟩ := I.after hq
      obtain ⟨tk, rfl⟩ := rz
      exact ⟨⟨by omega, by omega⟩, .int (i : Nat), H', I'.tok _, ⟨_, rfl⟩, q⟩
    | next => exact False.elim hq
    | brk => exact False.elim hq
    | cont => exact False.elim hq
end
end Rs
set_option maxRecDepth 100000
set_option maxHeartbeats 2000000
namespace K15
open PySem PySem.Spec PyProof.Rows L2 KA
abbrev sSide : Stmt := top 60
abbrev sRule : Stmt := top 59
abbrev sDiff : Stmt := top 61
abbrev sChkL : Stmt := top 58
theorem scSide : FnScope ["word", "letters"] ["word", "letters"] (defScope sSide) := ⟨rfl, rfl, rfl, by decide +kernel, rfl, by decide +kernel, by decide +kernel⟩
theorem scRule : FnScope ["rule", "letters", "word"] ["rule", "letters"] (defScope sRule) := ⟨rfl, rfl, rfl, by decide +kernel, rfl, by decide +kernel, by decide +kernel⟩
theorem scDiff : FnScope ["rule", "letters", "one", "other"] ["rule", "letters"] (defScope sDiff) := ⟨rfl, rfl, rfl, by decide +kernel, rfl, by decide +kernel, by decide +kernel⟩
theorem scChkL : FnScope ["letters", "at", "letter"] ["letters"] (defScope sChkL) := ⟨rfl, rfl, rfl, by decide +kernel, rfl, by decide +kernel, by decide +kernel⟩
/-- a side that a rule may have -/
def sd (l L : List Nat) : Bool := decide (l.length ≤ 16) && isW l L
/-- a rule that a town may have -/
def okR (L : List Nat) (ws : List (List Nat)) : Bool := decide (ws.length = 2) && ws.all fun l => sd l L
def spSide : Sp := fun vs H Q _ => ∃ l L : List Nat, vs = [tx l, tx L] ∧ l.length ≤ 1000 ∧ Lt L ∧ ∀ H', Same H H' → Q (.bl (sd l L)) H'
/-- a tuple of words -/
def TW (H : Hp) (x : Addr × List (List Nat)) : Prop := H x.1 = some (.tup (x.2.map tx))
theorem TW.same {H H' : Hp} {x : Addr × List (List Nat)} (h : TW H x) (s : Same H H') : TW H' x := s _ _ h
def spRule : Sp := fun vs H Q _ => ∃ (x : Addr × List (List Nat)) (L : List Nat), vs = [.ref x.1, tx L] ∧ TW H x ∧ x.2.length ≤ 1000 ∧ (∀ l ∈ x.2, l.length ≤ 1000) ∧ Lt L ∧ ∀ H', Same H H' → Q (.bl (okR L x.2)) H'
section
variable {P : Program} {w : World} {K : PySem.W.Frag} {mg : Str → Option Value} {base : Heap}
theorem ok_side {f fW : Addr} {fd fdW : FuncData} {tk : Tok} {k : Nat} (F : Fun K "is_side" "is_side" sSide f fd) (B : Bn mg) (m16 : mg "LONGEST_SIDE" = some (.int 16 tk)) (cW : KT.Cb P w K mg base CX0 (k + 2) "is_word" ["word", "letters"] spIsW fW fdW) : FnOk P w K mg base CX0 (k + 3) f fd ["word", "letters"] spSide := by
  refine F.ok scSide (fun vs H Q E h => ?_) (fun cdv A outer s H vs Q E hr h => ?_)
  · obtain ⟨l, L, rfl, _⟩ := h
    rfl
  · obtain ⟨l, L, rfl, hl, hL, q⟩ := h
    refine ⟨_, pss_one (ps_ret (pe_and (pe_cmpR op_le (pe_callB call_len_str (by rfl) B.len PySem.boot_len (pa_cons (pv 0) pa_nil)) (pe_glob (v := .int 16) (by rfl) m16 ⟨_, rfl⟩) (nomark _)) (pe_one (pe_call cW.ok hr (by rfl) cW.g cW.kp cW.b .nil pass0 (pa_cons (pv 0) (pa_cons (pv 1) pa_nil)))))), ?_⟩
    refine ⟨_, rfl, _, rfl, ?_⟩
    refine ⟨asc_le hl, _, _, rfl, rfl, _, rfl, ?_⟩
    rw [tx_len]
    by_cases h16 : l.length ≤ 16
    · rw [decide_eq_true (by omega)]
      refine iteT ⟨_, rfl, _, rfl, l, L, rfl, hl, hL, fun H1 s1 => ?_⟩
      have e : sd l L = isW l L := by
        unfold sd
        rw [decide_eq_true h16]
        rfl
      rw [← e]
      exact q H1 s1
    · rw [decide_eq_false (by omega)]
      refine iteF ?_
      have e : sd l L = false := by
        unfold sd
        rw [decide_eq_false h16]
        rfl
      have z := q H (Same.refl _)
      rw [e] at z
      exact z
theorem ok_rule {f fW : Addr} {fd fdW : FuncData} {k : Nat} (F : Fun K "is_rule" "is_rule" sRule f fd) (B : Bn mg) (cW : KT.Cb P w K mg base CX0 (k + 3) "is_side" ["word", "letters"] spSide fW fdW) : FnOk P w K mg base CX0 (k + 4) f fd ["rule", "letters"] spRule := by
  refine F.ok scRule (fun vs H Q E h => ?_) (fun cdv A outer s H vs Q E hr h => ?_)
  · obtain ⟨x, L, rfl, _⟩ := h
    rfl
  · obtain ⟨x, L, rfl, hx, h1000, hle, hL, q⟩ := h
    have hx' : H x.1 = some (.tup (x.2.map tx)) := hx
    refine ⟨_, pss_one (ps_ret (pe_and (pe_callB call_isi (by rfl) B.isinst boot_isinstance (pa_cons (pv 0) (pa_cons (pe_bltn (v := .ty "tuple") (by rfl) B.tuple PyProof.Rows.boot_tuple rfl) pa_nil)))
      (pe_and (pe_cmpR op_eq (pe_callB call_len_seq (by rfl) B.len PySem.boot_len (pa_cons (pv 0) pa_nil)) pe_int (nomark _))
      (pe_one (pe_callB (cr_all rfl) (by rfl) B.all boot_all (pa_cons (pe_lc (own := [("word", 2)]) (g := gName 2) (tt := tYes) (te := tCall spSide [] E0 (tCons (tVar 2) (tCons (tVar 1) tNil))) rfl scRule.nd (pi_tup (pv 0))
        (blkOk_by (N := ["rule", "letters", "word"]) (sc := defScope sRule) (by decide +kernel)) (fun _ _ _ _ _ => pg_name (i := 2) scRule.nd rfl (Or.inl rfl)) (fun _ _ _ _ _ => pts_nil)
        (fun _ _ _ _ _ => pe_call cW.ok hr (by rfl) cW.g cW.kp cW.b .nil pass0 (pa_cons (pv 2) (pa_cons (pv 1) pa_nil)))) pa_nil)))))), ?_⟩
    refine ⟨_, rfl, _, _, _, _, true, rfl, .ty _, .base (.tup hx'), kit_ty (by decide +kernel), true, rfl, iteT ⟨_, rfl, x.1, _, rfl, .inr (SqT.of hx'), rfl, ?_⟩⟩
    rw [List.length_map]
    by_cases h2 : x.2.length = 2
    · refine ⟨true, congrArg V.bl (decide_eq_true (show V.int (x.2.length : Nat) = V.int 2 by rw [h2]; rfl)), iteT ?_⟩
      refine ⟨_, rfl, x.1, rfl, ⟨_, SqT.of hx'⟩, fun D nD => ?_⟩
      refine KT.lc_sel (e := tx) (out := fun l => V.bl (sd l L)) (walk_tup (K := K) (a := x.1)) (tt := tYes) (te := tCall spSide [] E0 (tCons (tVar 2) (tCons (tVar 1) tNil))) (σ := [some (.ref x.1), some (tx L), none]) (i := 2) (fun _ => true) (Nat.lt_of_le_of_lt h1000 (by decide)) nD (fun H2 s2 => SqT.of (s2 _ _ hx')) (fun x H2 Q _ _ h => h) ?_ ?_
      · intro l H2 Q2 hl _ s2 hQ
        exact ⟨_, rfl, _, rfl, l, L, rfl, hle l hl, hL, fun H3 s3 => hQ H3 s3⟩
      · intro H2 s2 hD
        rw [List.filter_eq_self.mpr (by simp)] at hD
        refine ⟨D, x.2.map fun l => sd l L, rfl, SqL.of (by rw [hD, List.map_map]; rfl), ?_⟩
        have e : (x.2.map fun l => sd l L).all id = okR L x.2 := by
          unfold okR
          rw [decide_eq_true h2, List.all_map]
          rfl
        rw [e]
        exact q H2 s2
    · refine ⟨false, congrArg V.bl (decide_eq_false fun z : V.int (x.2.length : Nat) = V.int 2 => h2 (by injection z with z; omega)), iteF ?_⟩
      have e : okR L x.2 = false := by
        unfold okR
        rw [decide_eq_false h2]
        rfl
      have z := q H (Same.refl _)
      rw [e] at z
      exact z
/-! difference -/
def cnI (l L : List Nat) : List Int := L.map fun c => Txt.count (SX.S l) (SX.S [c]) - Txt.count (SX.S l) (SX.S [c - 32])
theorem cn_I (l L : List Nat) : cn l L = (cnI l L).map V.int := by
  unfold cn cnI
  rw [List.map_map]
  rfl
theorem cnI_len (l L : List Nat) : (cnI l L).length = L.length := by
  unfold cnI
  rw [List.length_map]
theorem cnI_bd {l L : List Nat} : ∀ y ∈ cnI l L, y.natAbs ≤ l.length := by
  intro y hy
  obtain ⟨c, _, rfl⟩ := List.mem_map.mp hy
  have h : ∀ d, Txt.count (SX.S l) (SX.S [d]) = ((l.count d : Nat) : Int) := fun d => by
    have z := Cnt.one (SX.S l) d
    exact z
  rw [h, h]
  have h1 := List.count_le_length (a := c) (l := l)
  have h2 := List.count_le_length (a := c - 32) (l := l)
  omega
/-- what the two sides of a rule differ by -/
def df (L : List Nat) (ws : List (List Nat)) : List Int := Hm.lsl (cnI (ws.getD 0 []) L) (cnI (ws.getD 1 []) L) 1
def spDiff : Sp := fun vs H Q _ => ∃ (x : Addr × List (List Nat)) (L : List Nat), vs = [.ref x.1, tx L] ∧ TW H x ∧ okR L x.2 = true ∧ Lt L ∧ L.length ≤ 3 ∧ ∀ H' p, Same H H' → H p = none → H' p = some (.tup ((df L x.2).map V.int)) → Q (.ref p) H'
theorem okR_two {L : List Nat} {ws : List (List Nat)} (h : okR L ws = true) : ∃ a b, ws = [a, b] ∧ a.length ≤ 16 ∧ b.length ≤ 16 ∧ isW a L = true ∧ isW b L = true := by
  unfold okR at h
  obtain ⟨h1, h2⟩ := He.ba h
  have h1 := of_decide_eq_true h1
  match ws, h1 with
  | [a, b], _ =>
    have ha := List.all_eq_true.mp h2 a List.mem_cons_self
    have hb := List.all_eq_true.mp h2 b (List.mem_cons_of_mem _ List.mem_cons_self)
    obtain ⟨a1, a2⟩ := He.ba ha
    obtain ⟨b1, b2⟩ := He.ba hb
    exact ⟨a, b, rfl, of_decide_eq_true a1, of_decide_eq_true b1, a2, b2⟩
theorem ok_diff {f fC fL : Addr} {fd fdC fdL : FuncData} {k : Nat} (F : Fun K "difference" "difference" sDiff f fd) (cC : KT.Cb P w K mg base CX0 (k + 1) "counts_of" ["word", "letters"] spCof fC fdC) (cL : KT.Cb P w K mg base CX0 (k + 1) "less" ["row", "other", "times"] (KT.spLess K) fL fdL) : FnOk P w K mg base CX0 (k + 2) f fd ["rule", "letters"] spDiff := by
  refine F.ok scDiff (fun vs H Q E h => ?_) (fun cdv A outer s H vs Q E hr h => ?_)
  · obtain ⟨x, L, rfl, _⟩ := h
    rfl
  · obtain ⟨⟨p, ws⟩, L, rfl, hx, hok, hL, h3, q⟩ := h
    obtain ⟨a, b, rfl, ha, hb, wa, wb⟩ := okR_two hok
    have hx' : H p = some (.tup [tx a, tx b]) := hx
    refine ⟨_, pss_cons (ps_asg (pv 0) (pg_tup rfl (pgs_cons (pg_name (i := 2) scDiff.nd rfl (.inl rfl)) (pgs_cons (pg_name (i := 3) scDiff.nd rfl (.inl rfl)) pgs_nil)))) (pss_one (ps_ret (pe_call cL.ok hr (by rfl) cL.g cL.kp cL.b .nil pass0 (pa_cons (pe_call cC.ok hr (by rfl) cC.g cC.kp cC.b .nil pass0 (pa_cons (pv 2) (pa_cons (pv 1) pa_nil))) (pa_cons (pe_call cC.ok hr (by rfl) cC.g cC.kp cC.b .nil pass0 (pa_cons (pv 3) (pa_cons (pv 1) pa_nil))) (pa_cons pe_int pa_nil)))))), ?_⟩
    refine ⟨_, rfl, p, _, rfl, SqT.of hx', rfl, _, _, rfl, _, _, rfl, rfl, ?_⟩
    refine ⟨_, rfl, _, rfl, a, L, rfl, hL, fun H1 pa s1 na ha1 => ⟨_, rfl, _, rfl, b, L, rfl, hL, fun H2 pb s2 nb hb2 => ?_⟩⟩
    refine ⟨pa, pb, cnI a L, cnI b L, 1, rfl, SqT.of ?_, SqT.of ?_, by rw [cnI_len, cnI_len], by rw [cnI_len]; exact h3, fun y hy => ?_, fun H3 pr s3 nr hpr => ?_⟩
    · rw [← cn_I]
      exact s2 _ _ ha1
    · rw [← cn_I]
      exact hb2
    · have hy2 : y.natAbs < 2 ^ 5 := Nat.lt_of_le_of_lt (Nat.le_trans (cnI_bd y hy) hb) (by decide)
      exact wide_mul (a := 1) (show (1 : Int).natAbs < 2 ^ 1 by decide) hy2 (by omega) (by omega) (by omega)
    · exact q H3 pr ((s1.trans s2).trans s3) ((s1.trans s2).free nr) hpr
end
end K15
set_option maxRecDepth 100000
set_option maxHeartbeats 2000000
namespace K15
open PySem PySem.Spec PyProof.Rows L2 KA
/-- what the written part says of an error class with one field -/
structure ErC (K : PySem.W.Frag) (mg : Str → Option Value) (nm fl : Str) (C fI : Addr) : Prop where
  ox : OexC K C
  gC : mg nm = some (.ref C)
  nF : PySem.W.findIn K (.ref C) fl = some none
  nTag : PySem.W.findIn K (.ref C) "tag" = some none
  iC : PySem.W.findIn K (.ref C) "__init__" = some (some (.ref fI))
  tI : PySem.W.typeIn K (.ref fI) = some (.type "function")
theorem s_weak {X : Cx} {st : Stmt} {t1 t2 : TS} (h : PS X st t1) (imp : ∀ D σ H, t2 D σ H → t1 D σ H) : PS X st t2 := ⟨fun pins s σ H D I hq => h.run pins s σ H D I (imp D σ H hq)⟩
section
variable {P : Program} {w : World} {K : PySem.W.Frag} {mg : Str → Option Value} {base : Heap}
def spIni (tg : V) (fl : Str) (C : Addr) : Sp := fun vs H Q _ => ∃ (a : Addr) (v : V), vs = [.ref a, v] ∧ H a = some (exo a C none) ∧
  ∀ dx, H dx = none → dx ≠ a → Q .non (upd (upd (upd H dx (exd dx [(fl, v)])) a (exo a C (some dx))) dx (exd dx [("tag", tg), (fl, v)]))
/-- an error of this class flies, with this field, all else being the same -/
def Fl (C : Addr) (tg : V) (fl : Str) (v : V) (H : Hp) (E : XK) : Prop := ∀ (H' : Hp) (d : Addr), Same H H' → H d = none → H' d = some (.xd [("tag", tg), (fl, v)]) → E (.ref C) (some d) H'
theorem Fl.of {C : Addr} {tg v : V} {fl : Str} {H H1 : Hp} {E : XK} (h : Fl C tg fl v H E) (s : Same H H1) : Fl C tg fl v H1 E := fun H' d s' nd hd => h H' d (s.trans s') (s.free nd) hd
/-- raise nm(e) -/
theorem s_raise {X : Cx} {E : XK} {nm fl : Str} {tg : V} {C fI : Addr} {fdI : FuncData} {ps : List Str} {e : Expr} {te : TE} {p pos pos' : Pos} (T : ErC X.K X.mg nm fl C fI)
    (GI : FnOk X.prog X.w X.K X.mg X.base CX0 1 fI fdI ps (spIni tg fl C)) (bI : Binds X.K fdI ps []) (hr : Room 2 X.A) (hc : X.calm = true) (tk : Takes X (fun cls d _ H => E cls d H)) (hg : Gl X nm) (he : PE X e te) (hp0 : Passes CX0 X (fun _ _ _ => False))
    (mono : ∀ σ H (Q Q' : VK), (∀ v H1, Q v H1 → Q' v H1) → te σ H Q → te σ H Q')
    (hdb : (nm == ("__debug__" : Str)) = false := by decide) (hst : starEach [e] X.env = (false, eval e X.env) :: starEach [] X.env := by rfl) (hpl : (backTo pos (starEach [] X.env)).any (·.1) = false := by rfl) :
    PS X (.Raise (some (.Call (.Name nm p) [e] [] pos)) none pos') (fun _ σ H => te σ H fun v H1 => Fl C tg fl v H1 E) := by
  refine s_weak (ps_raise hc tk (pmk_oex T.ox T.iC T.tI GI hr bI .nil hp0 hg T.gC (pa_cons (hs := hst) he pa_nil) hdb hst hpl)) (fun D σ H h => ?_)
  refine mono σ H _ _ (fun v H1 q => ⟨(by show 1 ≤ 1000; decide), fun a na => ?_⟩) h
  refine ⟨a, _, rfl, upd_same, fun dx nd ne => ⟨rfl, dx, _, ?_, upd_same, ?_, ?_⟩⟩
  · rw [upd_ne (Ne.symm ne), upd_same]
  · have z : upd H1 a (exo a C none) dx = none := nd
    rw [upd_ne ne] at z
    exact z
  · have nd3 : H1 dx = none := by
      have z : upd H1 a (exo a C none) dx = none := nd
      rw [upd_ne ne] at z
      exact z
    refine q _ dx (fun b o e3 => ?_) nd3 upd_same
    have hb1 : b ≠ dx := ne_of_none e3 nd3
    have hb2 : b ≠ a := ne_of_none e3 na
    rw [upd_ne hb1, del_ne hb2, upd_ne hb1, upd_ne hb2, upd_ne hb1, upd_ne hb2]
    exact e3
theorem var_mono {i : Nat} : ∀ (σ : L2.St) (H : Hp) (Q Q' : VK), (∀ v H1, Q v H1 → Q' v H1) → tVar i σ H Q → tVar i σ H Q' := fun _ _ _ _ imp ⟨v, h, q⟩ => ⟨v, h, imp _ _ q⟩
theorem c_mono {v : V} : ∀ (σ : L2.St) (H : Hp) (Q Q' : VK), (∀ v H1, Q v H1 → Q' v H1) → tC v σ H Q → tC v σ H Q' := fun _ _ _ _ imp q => imp _ _ q
abbrev sIniG : Stmt := KT.inside (top 8) 0
abbrev sIniU : Stmt := KT.inside (top 11) 0
abbrev tagG : V := .str (Str.ofString "InvalidLetters")
abbrev tagU : V := .str (Str.ofString "InvalidRule")
theorem scIniG : FnScope ["self", "at"] ["self", "at"] (defScope sIniG) := ⟨rfl, rfl, rfl, by decide +kernel, rfl, by decide +kernel, by decide +kernel⟩
theorem scIniU : FnScope ["self", "at"] ["self", "at"] (defScope sIniU) := ⟨rfl, rfl, rfl, by decide +kernel, rfl, by decide +kernel, by decide +kernel⟩
theorem ok_iniG {f C : Addr} {fd : FuncData} {k : Nat} (F : Fun K "__init__" "InvalidLetters.__init__" sIniG f fd) (T : ErC K mg "InvalidLetters" "at" C f) : FnOk P w K mg base CX0 (k + 1) f fd ["self", "at"] (spIni tagG "at" C) := by
  refine F.ok scIniG (fun vs H Q E h => ?_) (fun cdv A outer s H vs Q E hr h => ?_)
  · obtain ⟨a, v, rfl, _⟩ := h
    rfl
  · obtain ⟨a, v, rfl, hx, q⟩ := h
    refine ⟨_, pss_cons (ps_ost (pv 0) (pv 1)) (pss_one (ps_ost (pv 0) pe_str)), ?_⟩
    refine ⟨_, rfl, _, rfl, a, C, rfl, T.ox, T.nF, .inl ⟨hx, fun dx nd ne => ?_⟩⟩
    refine ⟨_, rfl, a, C, rfl, T.ox, T.nTag, .inr ⟨dx, _, upd_same, ?_, (by show 1 ≤ 900; decide), q dx nd ne⟩⟩
    rw [upd_ne ne]
    exact upd_same
theorem ok_iniU {f C : Addr} {fd : FuncData} {k : Nat} (F : Fun K "__init__" "InvalidRule.__init__" sIniU f fd) (T : ErC K mg "InvalidRule" "at" C f) : FnOk P w K mg base CX0 (k + 1) f fd ["self", "at"] (spIni tagU "at" C) := by
  refine F.ok scIniU (fun vs H Q E h => ?_) (fun cdv A outer s H vs Q E hr h => ?_)
  · obtain ⟨a, v, rfl, _⟩ := h
    rfl
  · obtain ⟨a, v, rfl, hx, q⟩ := h
    refine ⟨_, pss_cons (ps_ost (pv 0) (pv 1)) (pss_one (ps_ost (pv 0) pe_str)), ?_⟩
    refine ⟨_, rfl, _, rfl, a, C, rfl, T.ox, T.nF, .inl ⟨hx, fun dx nd ne => ?_⟩⟩
    refine ⟨_, rfl, a, C, rfl, T.ox, T.nTag, .inr ⟨dx, _, upd_same, ?_, (by show 1 ≤ 900; decide), q dx nd ne⟩⟩
    rw [upd_ne ne]
    exact upd_same
/-- an error class with the field at, and its __init__ -/
structure Er (P : Program) (w : World) (K : PySem.W.Frag) (mg : Str → Option Value) (base : Heap) (nm : Str) (tg : V) (C fI : Addr) (fdI : FuncData) : Prop where
  T : ErC K mg nm "at" C fI
  G : FnOk P w K mg base CX0 1 fI fdI ["self", "at"] (spIni tg "at" C)
  b : Binds K fdI ["self", "at"] []
theorem cut_to (l : List Nat) (n : Nat) : cutS (SX.S l) none (some (n : Int)) = SX.S (l.take n) := by
  unfold cutS
  rw [HT.sIx_none, List.drop_zero, Nat.sub_zero, HT.sIx_nat, tx_len]
  show SX.S (l.take (min n l.length)) = SX.S (l.take n)
  by_cases h : n ≤ l.length
  · rw [Nat.min_eq_left h]
  · rw [Nat.min_eq_right (by omega), List.take_length, List.take_of_length_le (by omega)]
theorem cut_from (l : List Nat) (n : Nat) : cutS (SX.S l) (some (n : Int)) none = SX.S (l.drop n) := by
  unfold cutS
  rw [HT.sIx_none, HT.sIx_nat, tx_len]
  show SX.S ((l.drop (min n l.length)).take (l.length - min n l.length)) = SX.S (l.drop n)
  by_cases h : n ≤ l.length
  · rw [Nat.min_eq_left h, List.take_of_length_le (by rw [List.length_drop]; omega)]
  · rw [Nat.min_eq_right (by omega), List.drop_length, List.drop_eq_nil_of_le (by omega)]
    simp
theorem lexle (c d : Nat) : (!decide (([c] : List Nat) < [d])) = decide (d ≤ c) := by
  by_cases h : d ≤ c
  · rw [decide_eq_true h, decide_eq_false]
    · rfl
    · intro z
      rw [List.cons_lt_cons_iff] at z
      rcases z with z | ⟨_, z⟩
      · omega
      · exact absurd z (List.lt_irrefl _)
  · rw [decide_eq_false h, decide_eq_true]
    · rfl
    · exact List.cons_lt_cons_iff.mpr (.inl (by omega))
theorem sgA (c : Nat) : (!decide ((SX.S [c]).cps.toList < (Str.ofString "a").cps.toList)) = decide (97 ≤ c) := lexle c 97
theorem sgZ (c : Nat) : (!decide ((Str.ofString "z").cps.toList < (SX.S [c]).cps.toList)) = decide (c ≤ 122) := lexle 122 c
/-! check_letters -/
def badL (L : List Nat) (i : Nat) : Bool := decide (i = 3) || (decide (L.getD i 0 ∈ L.take i) || !(decide (97 ≤ L.getD i 0) && decide (L.getD i 0 ≤ 122)))
/-- what is wrong with the letters -/
def Wrong (L : List Nat) (i : Nat) : Prop := (L = [] ∧ i = 0) ∨ (i < L.length ∧ badL L i = true ∧ ∀ j, j < i → badL L j = false)
def spChkL (C : Addr) : Sp := fun vs H Q E => ∃ L : List Nat, vs = [tx L] ∧ L.length ≤ 1000 ∧ Asc L ∧ (L ≠ [] → (∀ i, i < L.length → badL L i = false) → ∀ H', Same H H' → Q .non H') ∧ ∀ i, Wrong L i → Fl C tagG "at" (.int (i : Nat)) H E
theorem asc_all {L : List Nat} (h : Asc L) : (SX.S L).cps.all (· < 128) = true := by
  rw [Array.all_eq_true']
  intro c hc
  have hc2 : c ∈ L := by
    have : c ∈ (SX.S L).cps.toList := by simpa using hc
    exact this
  exact decide_eq_true (h c hc2)
theorem ok_chkL {f C fI : Addr} {fd fdI : FuncData} {tk : Tok} {k : Nat} (F : Fun K "check_letters" "check_letters" sChkL f fd) (B : Bn mg) (mW : mg "WIDEST" = some (.int 3 tk)) (R : Er P w K mg base "InvalidLetters" tagG C fI fdI) :
    FnOk P w K mg base (L2.CX P w) (k + 3) f fd ["letters"] (spChkL C) := by
  refine F.okX scChkL (fun vs H Q E h => ?_) (fun cdv A outer s H vs Q E hr h => ?_)
  · obtain ⟨L, rfl, _⟩ := h
    rfl
  · obtain ⟨L, rfl, hl, hA, q, qe⟩ := h
    have r2 : Room 2 (A.deeper (envOfC "check_letters" (defScope sChkL) s.heap.objs.size f cdv)) := hr.mono (by omega)
    refine ⟨_, pss_cons (ps_if (pt_cmpR op_eq (pv 0) pe_str (nomark _)) (pss_one (s_raise (E := E) R.T R.G R.b r2 rfl (takes_of rfl rfl rfl rfl) (by rfl) pe_int pass0 c_mono)) pss_nil)
      (pss_one (ps_for (passes_of rfl) rfl (Rs.pi_enumS (by rfl) B.enum (pa_cons (pv 0) pa_nil))
        (pg_tup rfl (pgs_cons (pg_name (i := 1) scChkL.nd rfl (.inl rfl)) (pgs_cons (pg_name (i := 2) scChkL.nd rfl (.inl rfl)) pgs_nil)))
        (pss_one (ps_if (PW.pt (pw_or (pt_cmpR op_eq (pv 1) (pe_glob (v := .int 3) (by rfl) mW ⟨_, rfl⟩) (nomark _)) (pw_or (pt_cmpR op_in_sign (pv 2) (pe_slice sl_str (pv 0) po_none (po_some (pv 1))) (by rfl)) (pw_or1 (pt_not (pt_chain op_le_str op_le_str pe_str (pv 2) pe_str))))))
          (pss_one (s_raise (E := E) R.T R.G R.b r2 rfl (takes_of rfl rfl rfl rfl) (by rfl) (pv 1) pass0 var_mono))
          pss_nil)))), ?_⟩
    have em : L = [] ↔ tx L = V.str (Str.ofString "") := by
      rw [e0S]
      constructor
      · intro e
        rw [e]
      · intro e
        injection e with e
        exact SX.S_inj e
    refine ⟨_, rfl, rfl, ?_⟩
    by_cases h0 : L = []
    · exact ⟨true, congrArg V.bl (decide_eq_true (em.mp h0)), iteT (qe 0 (.inl ⟨h0, rfl⟩))⟩
    refine ⟨false, congrArg V.bl (decide_eq_false fun z => h0 (em.mpr z)), iteF ?_⟩
    refine ⟨_, rfl, SX.S L, rfl, asc_all hA, ?_⟩
    have hsz : (SX.S L).cps.size = L.length := by
      have z := SX.S_len L
      exact z
    refine for_it (Rs.walk_enumS (x := SX.S L)) (fun i σ H2 => ∃ y1 y2, σ = [some (tx L), y1, y2] ∧ Same H H2 ∧ ∀ j, j < i → badL L j = false)
      ⟨none, none, rfl, Same.refl _, fun j hj => absurd hj (Nat.not_lt_zero _)⟩ (fun _ _ _ _ _ => trivial) ?_ ?_
    · rintro i x σ H2 H2' hi ⟨y1, y2, rfl, sm, hok⟩ ⟨Tp, x1, x2, rfl, nT, rfl, e1, e2⟩
      obtain rfl : V.int (i : Nat) = x1 := Option.some.inj e1
      rw [hsz] at hi
      have gl : L[i]? = some L[i] := List.getElem?_eq_getElem hi
      have gd : L.getD i 0 = L[i] := by rw [List.getD_eq_getElem?_getD, gl]; rfl
      obtain rfl : tx [L[i]] = x2 := by
        have z : ((SX.S L).cps[i]?).map (fun c => V.str ⟨#[c]⟩) = some x2 := e2
        have z2 : (SX.S L).cps[i]? = some L[i] := by
          rw [← Array.getElem?_toList]
          exact gl
        rw [z2] at z
        exact Option.some.inj z
      have hc := hA _ (List.getElem_mem hi)
      generalize L[i] = c at gl gd hc
      have sT : Same H2 (upd H2 Tp (.tup [.int (i : Nat), tx [c]])) := same_new nT
      have sm2 := sm.trans sT
      have raise : badL L i = true → Fl C tagG "at" (.int (i : Nat)) (upd H2 Tp (.tup [.int (i : Nat), tx [c]])) E := fun hb => (qe i (.inr ⟨hi, hb, hok⟩)).of sm2
      refine ⟨Tp, _, rfl, SqT.of upd_same, rfl, _, _, rfl, _, _, rfl, rfl, ?_⟩
      refine ⟨_, rfl, rfl, ?_⟩
      by_cases h3 : i = 3
      · refine ⟨true, congrArg V.bl (decide_eq_true (by rw [h3]; rfl)), iteT (iteT ⟨_, rfl, raise ?_⟩)⟩
        unfold badL
        rw [decide_eq_true h3]
        rfl
      refine ⟨false, congrArg V.bl (decide_eq_false fun z => h3 (by injection z with z; omega)), iteF ?_⟩
      have next : badL L i = false → ∀ j, j < i + 1 → badL L j = false := fun hb j hj => by
        by_cases hj2 : j < i
        · exact hok j hj2
        · have ej : j = i := by omega
          rw [ej]
          exact hb
      have cut : cutS (SX.S L) none (some ((i : Nat) : Int)) = SX.S (L.take i) := cut_to L i
      refine ⟨_, rfl, _, rfl, _, rfl, _, rfl, SX.S L, rfl, asc_le hl, c, _, rfl, rfl, ?_⟩
      rw [cut]
      by_cases hm : c ∈ L.take i
      · refine ⟨true, congrArg V.bl (decide_eq_true hm), iteT (iteT ⟨_, rfl, raise ?_⟩)⟩
        unfold badL
        rw [gd, decide_eq_true hm]
        cases decide (i = 3) <;> rfl
      refine ⟨false, congrArg V.bl (decide_eq_false hm), iteF ?_⟩
      have bd : badL L i = !(decide (97 ≤ c) && decide (c ≤ 122)) := by
        unfold badL
        rw [gd, decide_eq_false hm, decide_eq_false h3]
        rfl
      refine ⟨_, rfl, _, _, rfl, rfl, _, congrArg V.bl (sgA c), ?_⟩
      by_cases ha : 97 ≤ c
      · rw [decide_eq_true ha]
        refine iteT ⟨_, _, rfl, rfl, _, congrArg V.bl (sgZ c), ?_⟩
        by_cases hz : c ≤ 122
        · rw [decide_eq_true hz]
          refine iteF ⟨_, _, rfl, sm2, next ?_⟩
          rw [bd, decide_eq_true ha, decide_eq_true hz]
          rfl
        · rw [decide_eq_false hz]
          refine iteT ⟨_, rfl, raise ?_⟩
          rw [bd, decide_eq_false hz, Bool.and_false]
          rfl
      · rw [decide_eq_false ha]
        refine iteF ⟨_, rfl, iteT ⟨_, rfl, raise ?_⟩⟩
        rw [bd, decide_eq_false ha]
        rfl
    · rintro σ H2 ⟨y1, y2, rfl, sm, hok⟩
      refine q h0 (fun i hi => hok i ?_) H2 sm
      rw [hsz]
      exact hi
end
end K15
set_option maxRecDepth 100000
set_option maxHeartbeats 2000000
namespace K15
open PySem PySem.Spec PyProof.Rows L2 KA
abbrev NT : List Str := ["self", "letters", "rules", "at", "rule"]
abbrev sTI : Stmt := KT.inside (top 56) 1
theorem scTI : FnScope NT ((["self", "letters"] : List Str) ++ (["rules"] : List Str)) (defScope sTI) := ⟨rfl, rfl, rfl, by decide +kernel, rfl, by decide +kernel, by decide +kernel⟩
abbrev Rls := List (Addr × List (List Nat))
abbrev rfs (rs : Rls) : List V := rs.map fun x => .ref x.1
abbrev wds (rs : Rls) : List (List (List Nat)) := rs.map fun x => x.2
/-- the fields of a town -/
def fTown (L : List Nat) (q t : Addr) : List (Str × V) := [("alphabet", tx L), ("pairs", .ref q), ("ground", .ref t)]
def badU (L : List Nat) (ws : List (List (List Nat))) (i : Nat) : Bool := decide (i = 6) || !(okR L (ws.getD i []))
def GoodL (L : List Nat) : Prop := L ≠ [] ∧ ∀ i, i < L.length → badL L i = false
theorem GoodL.len {L : List Nat} (h : GoodL L) : 1 ≤ L.length ∧ L.length ≤ 3 := by
  refine ⟨?_, ?_⟩
  · cases L with
    | nil => exact absurd rfl h.1
    | cons a l => exact Nat.succ_le_succ (Nat.zero_le _)
  · by_cases h3 : 3 < L.length
    · have z := h.2 3 h3
      have e : badL L 3 = true := rfl
      rw [e] at z
      cases z
    · omega
/-- tuples of words, in a heap -/
def Tws (H : Hp) (rs : Rls) : Prop := ∀ r ∈ rs, TW H r ∧ r.2.length ≤ 1000 ∧ ∀ l ∈ r.2, l.length ≤ 1000
theorem Tws.same {H H' : Hp} {rs : Rls} (h : Tws H rs) (s : Same H H') : Tws H' rs := fun r hr => ⟨(h r hr).1.same s, (h r hr).2⟩
/-- all rules may stand -/
def GoodU (L : List Nat) (ws : List (List (List Nat))) : Prop := ∀ i, i < ws.length → badU L ws i = false
def spTB (K : PySem.W.Frag) (C CG CU : Addr) (T : List (Addr × Str)) : Sp := fun vs H Q E => ∃ (x dx p : Addr) (L : List Nat) (rs : Rls), vs = [.ref x, tx L, .ref p] ∧ H x = some (.ins C dx []) ∧ H p = some (.tup (rfs rs)) ∧ Tws H rs ∧ rs.length ≤ 100 ∧ LamX.Tabs T H ∧ L.length ≤ 1000 ∧ Asc L ∧ (GoodL L → Lt L) ∧
  (∀ i, Wrong L i → Fl CG tagG "at" (.int (i : Nat)) H E) ∧ (GoodL L → ∀ i, i < rs.length → badU L (wds rs) i = true → (∀ j, j < i → badU L (wds rs) j = false) → Fl CU tagU "at" (.int (i : Nat)) H E) ∧
  (GoodL L → GoodU L (wds rs) → ∀ (H' : Hp) (q t : Addr), KT.StN x H H' → LamX.Tabs T H' → KT.New H q → H' q = some (.lst (rfs rs)) → H' x = some (.ins C dx (fTown L q t)) → Q .non H')
structure TwC (K : PySem.W.Frag) (C : Addr) : Prop where
  cl : Cls K C
  al : NoAttr K C "alphabet"
  pa : NoAttr K C "pairs"
  gr : NoAttr K C "ground"
theorem good_ok {L : List Nat} {rs : Rls} (h : GoodU L (wds rs)) : ∀ r ∈ rs, okR L r.2 = true := by
  intro r hr
  obtain ⟨i, hi⟩ := List.mem_iff_getElem?.mp hr
  have hl : i < rs.length := (List.getElem?_eq_some_iff.mp hi).1
  have z := h i (by rw [List.length_map]; exact hl)
  unfold badU at z
  have e : (wds rs).getD i [] = r.2 := by
    rw [List.getD_eq_getElem?_getD, List.getElem?_map, hi]
    rfl
  rw [e] at z
  have z2 := (Bool.or_eq_false_iff.mp z).2
  simpa using z2
theorem good_six {L : List Nat} {ws : List (List (List Nat))} (h : GoodU L ws) : ws.length ≤ 6 := by
  by_cases h6 : 6 < ws.length
  · have z := h 6 h6
    have e : badU L ws 6 = true := rfl
    rw [e] at z
    cases z
  · omega
theorem df_len {L : List Nat} {ws : List (List Nat)} : (df L ws).length = L.length := by
  unfold df
  have e : (cnI (ws.getD 0 []) L).length = (cnI (ws.getD 1 []) L).length := by rw [cnI_len, cnI_len]
  exact Hm.lsl_len (cnI_len _ _) (cnI_len _ _) 1
theorem df_bd {L : List Nat} {ws : List (List Nat)} (h : okR L ws = true) : KT.Rk L.length 0 6 (df L ws) := by
  obtain ⟨a, b, rfl, ha, hb, _, _⟩ := okR_two h
  refine ⟨df_len, (fun j hj => absurd hj (Nat.not_lt_zero _)), fun j => ?_⟩
  have bd : ∀ (l : List Nat) (j : Nat), l.length ≤ 16 → (Hm.fn (cnI l L) j).natAbs ≤ 16 := fun l j hl => by
    unfold Hm.fn
    rw [List.getD_eq_getElem?_getD]
    cases e : (cnI l L)[j]? with
    | none => exact Nat.zero_le _
    | some y => exact Nat.le_trans (cnI_bd y (List.mem_of_getElem? e)) hl
  have e : Hm.fn (df L [a, b]) = Hm.ls (Hm.fn (cnI a L)) (Hm.fn (cnI b L)) 1 := by
    have e2 : (cnI a L).length = (cnI b L).length := by rw [cnI_len, cnI_len]
    exact Hm.fn_lsl e2 1
  rw [e]
  show (Hm.fn (cnI a L) j - 1 * Hm.fn (cnI b L) j).natAbs ≤ 2 ^ 6
  have h1 := bd a j ha
  have h2 := bd b j hb
  omega
section
variable {P : Program} {w : World} {K : PySem.W.Frag} {mg : Str → Option Value} {base : Heap}
variable {f : Addr} {A : Around} {outer : List Env} {s : Shared} {H : Hp} {E : XK} {cdv : Value} {C fT CT fDf : Addr} {fdT fdDf : FuncData} {T : List (Addr × Str)}
abbrev XT (P : Program) (w : World) (K : PySem.W.Frag) (mg : Str → Option Value) (base : Heap) (f : Addr) (cdv : Value) (A : Around) (outer : List Env) (s : Shared) (H : Hp) (E : XK) : Cx := cxOf (L2.CX P w) P w K mg base NT "Town.__init__" (defScope sTI) f cdv A outer s H E
theorem ti_tail (B : Bn mg) (TC : TwC K C) (M : Mk K CT fT) (gT : mg "Table" = some (.ref CT)) (GI : FnOk P w K mg base CX0 6 fT fdT ["self", "width", "rows"] (KT.spInit K CT T)) (bI : Binds K fdT ["self", "width", "rows"] []) (cDf : KT.Cb P w K mg base CX0 2 "difference" ["rule", "letters"] spDiff fDf fdDf)
    (hr : Room 7 (A.deeper (envOfC "Town.__init__" (defScope sTI) s.heap.objs.size f cdv))) :
    ∃ t, PSs (XT P w K mg base f cdv A outer s H E) ((defBody sTI).drop 2) t ∧ ∀ (D : Ends) (H1 : Hp) (x dx p : Addr) (L : List Nat) (rs : Rls) (y3 y4 : Option V), H1 x = some (.ins C dx []) → H1 p = some (.tup (rfs rs)) → Tws H1 rs → LamX.Tabs T H1 → Lt L → L.length ≤ 1000 → GoodL L → GoodU L (wds rs) →
      (∀ (H' : Hp) (q t : Addr) (σ : L2.St), KT.StN x H1 H' → LamX.Tabs T H' → KT.New H1 q → H' q = some (.lst (rfs rs)) → H' x = some (.ins C dx (fTown L q t)) → D.nx σ H') → t D [some (.ref x), some (tx L), some (.ref p), y3, y4] H1 := by
  have r2 : Room 2 (A.deeper (envOfC "Town.__init__" (defScope sTI) s.heap.objs.size f cdv)) := hr.mono (by decide)
  refine ⟨_, pss_cons (ps_fld (pv 0) (pv 1) rfl) (pss_cons (ps_fld (pv 0) (pe_callTy call_list_of (by rfl) B.list boot_list (pa_cons (pv 2) pa_nil)) rfl)
    (pss_one (ps_fld (pv 0) (pe_make M GI hr (by rfl) gT bI .nil pass0 (pa_cons (pe_callB call_len_str (by rfl) B.len PySem.boot_len (pa_cons (pv 1) pa_nil))
      (pa_cons (pe_lc (own := [("rule", 4)]) (g := gName 4) (tt := tYes) (te := tCall spDiff [] E0 (tCons (tVar 4) (tCons (tVar 1) tNil))) rfl scTI.nd (pi_tup (pv 2))
        (blkOk_by (N := NT) (sc := defScope sTI) (by decide +kernel)) (fun _ _ _ _ _ => pg_name (i := 4) scTI.nd rfl (Or.inl rfl)) (fun _ _ _ _ _ => pts_nil)
        (fun _ _ _ _ _ => pe_call cDf.ok r2 (by rfl) cDf.g cDf.kp cDf.b .nil pass0 (pa_cons (pv 4) (pa_cons (pv 1) pa_nil)))) pa_nil))) rfl))), ?_⟩
  intro D H1 x dx p L rs y3 y4 hx hp hT tb hL hl gL gU nx
  have gl := gL.len
  have g6 := good_six gU
  rw [List.length_map] at g6
  have gok := good_ok gU
  refine ⟨_, rfl, _, rfl, x, C, dx, _, rfl, hx, TC.cl, TC.al, by decide, ?_⟩
  obtain ⟨H2, e2⟩ : ∃ H2, H2 = upd H1 x (.ins C dx (putF "alphabet" (tx L) [])) := ⟨_, rfl⟩
  rw [← e2]
  have st2 : KT.StN x H1 H2 := by
    rw [e2]
    exact KT.StN.upd
  have hx2 : H2 x = some (.ins C dx [("alphabet", tx L)]) := by
    rw [e2]
    exact upd_same
  have np : p ≠ x := fun z => by
    rw [z, hx] at hp
    cases hp
  have hp2 : H2 p = some (.tup (rfs rs)) := st2 _ _ np hp (fun ps z => nomatch z)
  have hT2 : Tws H2 rs := fun r hr => by
    obtain ⟨h1, h2⟩ := hT r hr
    have h1' : H1 r.1 = some (.tup (r.2.map tx)) := h1
    have nr : r.1 ≠ x := fun z => by
      rw [z, hx] at h1'
      cases h1'
    exact ⟨st2 _ _ nr h1' (fun ps z => nomatch z), h2⟩
  have tb2 : LamX.Tabs T H2 := by
    rw [e2]
    exact KT.tabs_ins tb hx
  refine ⟨_, rfl, p, _, rfl, .inr (SqT.of hp2), fun q nq => ?_⟩
  have s3 := same_new (o := .lst (rfs rs)) nq
  have hx3 := s3 _ _ hx2
  refine ⟨_, rfl, x, C, dx, _, rfl, hx3, TC.cl, TC.pa, (by show 1 < 1000; decide), ?_⟩
  obtain ⟨H4, e4⟩ : ∃ H4, H4 = upd (upd H2 q (.lst (rfs rs))) x (.ins C dx (putF "pairs" (.ref q) [("alphabet", tx L)])) := ⟨_, rfl⟩
  rw [← e4]
  have qx : q ≠ x := fun z => by
    rw [z, hx2] at nq
    cases nq
  have hx4 : H4 x = some (.ins C dx [("alphabet", tx L), ("pairs", .ref q)]) := by
    rw [e4, upd_same]
    rfl
  have hq4 : H4 q = some (.lst (rfs rs)) := by
    rw [e4, upd_ne qx]
    exact upd_same
  have st4 : KT.StN x H2 H4 := by
    rw [e4]
    exact (KT.StN.of (.of s3)).trans KT.StN.upd
  have hp4 : H4 p = some (.tup (rfs rs)) := st4 _ _ np hp2 (fun ps z => nomatch z)
  have hT4 : Tws H4 rs := fun r hr => by
    obtain ⟨h1, h2⟩ := hT2 r hr
    have h1' : H2 r.1 = some (.tup (r.2.map tx)) := h1
    have nr : r.1 ≠ x := fun z => by
      rw [z, hx2] at h1'
      cases h1'
    exact ⟨st4 _ _ nr h1' (fun ps z => nomatch z), h2⟩
  have tb4 : LamX.Tabs T H4 := by
    rw [e4]
    exact KT.tabs_ins (tb2.ext s3) hx3
  have nwq : KT.New H1 q := fun o ho => by
    by_cases ht : ∃ ps, o = .tbl ps
    · exact ht
    · have z := st2 _ _ qx ho (fun ps z => ht ⟨ps, z⟩)
      rw [nq] at z
      cases z
  refine ⟨_, rfl, SX.S L, rfl, asc_le hl, ?_⟩
  rw [tx_len]
  refine ⟨_, rfl, p, rfl, ⟨_, SqT.of hp4⟩, fun Dl nD => ?_⟩
  refine KT.lc_rows (e := fun r : Addr × List (List Nat) => V.ref r.1) (walk_tup (K := K) (a := p)) (te := tCall spDiff [] E0 (tCons (tVar 4) (tCons (tVar 1) tNil))) (σ := [some (.ref x), some (tx L), some (.ref p), y3, y4]) (i := 4) (fun r => df L r.2) (Nat.lt_of_le_of_lt (Nat.le_trans g6 (by decide : 6 ≤ 100)) (by decide)) nD (fun H5 s5 => SqT.of (s5 _ _ hp4)) ?_ ?_
  · intro r H5 Q5 hr5 s5 hQ
    exact ⟨_, rfl, _, rfl, r, L, rfl, ((hT4 r hr5).1.same s5), gok r hr5, hL, gl.2, fun H6 pr s6 nr hpr => hQ H6 pr s6 hpr⟩
  · intro H5 ys s5 hR ey
    have hx5 := s5 _ _ hx4
    have ely : ys.length = rs.length := by
      have z := congrArg List.length ey
      rw [List.length_map, List.length_map] at z
      exact z
    have tb5 := tb4.ext s5
    refine KT.mk_read2 (K := K) (C := CT) (T := T) (l := Dl) (wd := L.length) (E := E0) ⟨ys, 6, 6, hR.ri, tb5, gl.1, gl.2, by decide, by decide, by omega, ?_, ?_⟩
    · intro r hr5
      rw [ey] at hr5
      obtain ⟨z, hz, rfl⟩ := List.mem_map.mp hr5
      exact df_bd (gok z hz)
    · rintro H6 xt qt fs rest e6 t6 nw6 tj hFd hN hl6 xt' ext
      have hx6 := e6 _ _ hx5 (fun ps z => nomatch z)
      refine ⟨_, rfl, x, C, dx, _, rfl, hx6, TC.cl, TC.gr, (by show 2 < 1000; decide), ?_⟩
      have st6 : KT.StN x H4 H6 := (KT.StN.of (.of s5)).trans (KT.StN.of e6)
      have hq6 : H6 q = some (.lst (rfs rs)) := e6 _ _ (s5 _ _ hq4) (fun ps z => nomatch z)
      refine nx _ q xt' _ (((st2.trans st4).trans st6).trans KT.StN.upd) (KT.tabs_ins t6 hx6) nwq ?_ ?_
      · rw [upd_ne qx]
        exact hq6
      · rw [upd_same]
        rfl
end
end K15
set_option maxRecDepth 100000
set_option maxHeartbeats 2000000
namespace K15
open PySem PySem.Spec PyProof.Rows L2 KA
/-- what Town.__init__ is told, by positional values -/
def spTown (K : PySem.W.Frag) (C CG CU : Addr) (T : List (Addr × Str)) : Sp := fun vs H Q E => ∃ (ws rest : List V), vs = ws ++ rest ∧ ws.length = 2 ∧ rest.length ≤ sizeLine ∧ ∀ p, H p = Option.none → spTB K C CG CU T (ws ++ [V.ref p]) (upd H p (.tup rest)) Q E
/-- what Town.__init__ calls -/
structure Ti (P : Program) (w : World) (K : PySem.W.Frag) (mg : Str → Option Value) (base : Heap) (C CG CU CT fG fU fT fCk fRu fDf : Addr) (fdG fdU fdT fdCk fdRu fdDf : FuncData) (T : List (Addr × Str)) (mc u6 : Value) : Prop where
  B : Bn mg
  TC : TwC K C
  gC : mg "Town" = some (.ref C)
  rd : ClX.CRead K C mc
  m6 : ClX.CVal K C mc "MOST" (.int 6) u6
  RU : Er P w K mg base "InvalidRule" tagU CU fU fdU
  ck : KT.Cb P w K mg base (L2.CX P w) 3 "check_letters" ["letters"] (spChkL CG) fCk fdCk
  ru : KT.Cb P w K mg base CX0 4 "is_rule" ["rule", "letters"] spRule fRu fdRu
  M : Mk K CT fT
  gT : mg "Table" = some (.ref CT)
  GI : FnOk P w K mg base CX0 6 fT fdT ["self", "width", "rows"] (KT.spInit K CT T)
  bI : Binds K fdT ["self", "width", "rows"] []
  df : KT.Cb P w K mg base CX0 2 "difference" ["rule", "letters"] spDiff fDf fdDf
section
variable {P : Program} {w : World} {K : PySem.W.Frag} {mg : Str → Option Value} {base : Heap}
variable {f C CG CU CT fG fU fT fCk fRu fDf : Addr} {fdG fdU fdT fdCk fdRu fdDf : FuncData} {T : List (Addr × Str)} {mc u6 : Value}
theorem ok_town {oc kV doc pm ct cdv : Value} {an od : Option Addr} {osl : Array (Option Value)} (lk : K.lookup f = some ⟨oc, od, .func (PySem.W.fnOf "__init__" "Town.__init__" (defArgs sTI) (defBody sTI) (defScope sTI) .none kV doc pm an cdv ct), osl⟩) (hcd : PySem.W.codeIn K cdv "Town.__init__" = true)
    (I : Ti P w K mg base C CG CU CT fG fU fT fCk fRu fDf fdG fdU fdT fdCk fdRu fdDf T mc u6) : FnR P w K mg base (L2.CX P w) 8 f (spTown K C CG CU T) := by
  refine StX.fn_star (ps := ["self", "letters"]) (pv := "rules") (N := NT) lk hcd scTI StX.cxUp (StX.bind_star2 (B := fun us => bindArgs (PySem.W.fnOf "__init__" "Town.__init__" (defArgs sTI) (defBody sTI) (defScope sTI) .none kV doc pm an cdv ct) ⟨us, []⟩) (fun a b => rfl) (fun a b r rs => by kernel_rfl)) (fun A outer s H vs Q E hr h => ?_)
  obtain ⟨x, dx, p, L, rs, rfl, hx, hp, hT, h100, tb, hl, hA, hLt, qG, qU, q⟩ := h
  have r2 : Room 2 (A.deeper (envOfC "Town.__init__" (defScope sTI) s.heap.objs.size f cdv)) := hr.mono (by decide)
  have r3 : Room 3 (A.deeper (envOfC "Town.__init__" (defScope sTI) s.heap.objs.size f cdv)) := hr.mono (by decide)
  have r4 : Room 4 (A.deeper (envOfC "Town.__init__" (defScope sTI) s.heap.objs.size f cdv)) := hr.mono (by decide)
  obtain ⟨t2, p2, q2⟩ := ti_tail (f := f) (cdv := cdv) (outer := outer) (H := H) (E := E) I.B I.TC I.M I.gT I.GI I.bI I.df hr
  refine ⟨_, pss_cons (ps_expr (pe_call I.ck.ok r3 (by rfl) I.ck.g I.ck.kp I.ck.b .nil (passes_call (W := fun cls d _ H => E cls d H) (takes_of rfl rfl rfl rfl) (fun _ _ _ _ h => h)) (pa_cons (pv 1) pa_nil)))
    (pss_cons (ps_for (passes_of rfl) rfl (Rs.pi_enumT (by rfl) I.B.enum (pa_cons (pv 2) pa_nil))
      (pg_tup rfl (pgs_cons (pg_name (i := 3) scTI.nd rfl (.inl rfl)) (pgs_cons (pg_name (i := 4) scTI.nd rfl (.inl rfl)) pgs_nil)))
      (pss_one (ps_if (PW.pt (pw_or (pt_cmpR op_eq (pv 3) (ClX.pe_cval (pe_glob (v := .ref C) (by rfl) I.gC rfl)) (nomark _)) (pw_or1 (pt_not (pt_val (pe_call I.ru.ok r4 (by rfl) I.ru.g I.ru.kp I.ru.b .nil pass0 (pa_cons (pv 4) (pa_cons (pv 1) pa_nil))))))))
        (pss_one (s_raise (E := E) I.RU.T I.RU.G I.RU.b r2 rfl (takes_of rfl rfl rfl rfl) (by rfl) (pv 3) pass0 var_mono)) pss_nil))) p2), ?_⟩
  refine ⟨_, rfl, L, rfl, hl, hA, fun h0 hg H1 s1 => ?_, fun i hw => qG i hw⟩
  have gL : GoodL L := ⟨h0, hg⟩
  have hL := hLt gL
  have hp1 := s1 _ _ hp
  refine ⟨_, rfl, p, _, rfl, SqT.of hp1, ?_⟩
  refine for_it (Rs.walk_enumT (K := K) (a := p) (xs := rfs rs)) (fun i σ H2 => ∃ y3 y4, σ = [some (.ref x), some (tx L), some (.ref p), y3, y4] ∧ Same H H2 ∧ ∀ j, j < i → badU L (wds rs) j = false)
    ⟨none, none, rfl, s1, fun j hj => absurd hj (Nat.not_lt_zero _)⟩ (fun i σ H2 _ h => ?_) ?_ ?_
  · obtain ⟨_, _, _, sm, _⟩ := h
    exact SqT.of (sm _ _ hp)
  · rintro i v σ H2 H2' hi ⟨y3, y4, rfl, sm, hok⟩ ⟨Tp, x1, x2, rfl, nT, rfl, e1, e2⟩
    obtain rfl : V.int (i : Nat) = x1 := Option.some.inj e1
    rw [List.length_map] at hi
    have gl : rs[i]? = some rs[i] := List.getElem?_eq_getElem hi
    obtain rfl : V.ref rs[i].1 = x2 := by
      have z : (rfs rs)[i]? = some x2 := e2
      rw [List.getElem?_map, gl] at z
      exact Option.some.inj z
    have hm : rs[i] ∈ rs := List.getElem_mem hi
    have gd : (wds rs).getD i [] = rs[i].2 := by
      rw [List.getD_eq_getElem?_getD, List.getElem?_map, gl]
      rfl
    generalize rs[i] = r at gl hm gd
    have sT : Same H2 (upd H2 Tp (.tup [.int (i : Nat), .ref r.1])) := same_new nT
    have sm2 := sm.trans sT
    have raise : ∀ H3, Same H H3 → badU L (wds rs) i = true → Fl CU tagU "at" (.int (i : Nat)) H3 E := fun H3 s3 hb => (qU gL i hi hb hok).of s3
    have next : badU L (wds rs) i = false → ∀ j, j < i + 1 → badU L (wds rs) j = false := fun hb j hj => by
      by_cases hj2 : j < i
      · exact hok j hj2
      · have ej : j = i := by omega
        rw [ej]
        exact hb
    refine ⟨Tp, _, rfl, SqT.of upd_same, rfl, _, _, rfl, _, _, rfl, rfl, ?_⟩
    refine ⟨_, rfl, C, mc, _, u6, rfl, I.rd, I.m6, rfl, ?_⟩
    by_cases h6 : i = 6
    · refine ⟨true, congrArg V.bl (decide_eq_true (by rw [h6]; rfl)), iteT (iteT ⟨_, rfl, raise _ sm2 ?_⟩)⟩
      unfold badU
      rw [decide_eq_true h6]
      rfl
    refine ⟨false, congrArg V.bl (decide_eq_false fun z => h6 (by injection z with z; omega)), iteF ?_⟩
    have hr2 := (hT.same sm2) r hm
    refine ⟨_, rfl, _, rfl, r, L, rfl, hr2.1, hr2.2.1, hr2.2.2, hL, fun H3 s3 => ⟨_, rfl, ?_⟩⟩
    have bd : badU L (wds rs) i = !(okR L r.2) := by
      unfold badU
      rw [gd, decide_eq_false h6]
      rfl
    cases ho : okR L r.2 with
    | true =>
      refine iteF ⟨_, _, rfl, sm2.trans s3, next ?_⟩
      rw [bd, ho]
      rfl
    | false =>
      refine iteT ⟨_, rfl, raise _ (sm2.trans s3) ?_⟩
      rw [bd, ho]
      rfl
  · rintro σ H2 ⟨y3, y4, rfl, sm, hok⟩
    have gU : GoodU L (wds rs) := fun i hi => hok i (by rw [List.length_map] at hi ⊢; exact hi)
    refine q2 _ H2 x dx p L rs y3 y4 (sm _ _ hx) (sm _ _ hp) (hT.same sm) (tb.ext sm) hL hl gL gU fun H' q' t' σ' st tb' nw hq hx' => ?_
    refine q gL gU H' q' t' ((KT.StN.of (.of sm)).trans st) tb' (KT.New.ext (.of sm) nw) hq hx'
end
end K15
set_option maxRecDepth 100000
set_option maxHeartbeats 2000000
namespace K15
open PySem PySem.Spec PyProof.Rows L2 KA
/-! rules as data -/
def dW (r : List (List Nat)) : PyData := .tuple (r.map fun l => .str (SX.S l))
def dWs (rs : List (List (List Nat))) : PyData := .list (rs.map dW)
theorem str_ok {l : List Nat} (h : Asc l) : PyData.strOk (SX.S l) = true := by
  unfold PyData.strOk
  rw [Array.all_eq_true']
  intro c hc
  have hc2 : c ∈ l := by
    have : c ∈ (SX.S l).cps.toList := by simpa using hc
    exact this
  have := h c hc2
  exact decide_eq_true (by omega)
theorem lay_wds : ∀ r : List (List Nat), (∀ l ∈ r, Asc l) → PyData.canLayAll0 (r.map fun l => PyData.str (SX.S l)) = true
  | [], _ => by simp [PyData.canLayAll0]
  | x :: r, h => by simp [PyData.canLayAll0, PyData.canLay0, str_ok (h x List.mem_cons_self), lay_wds r fun l hl => h l (List.mem_cons_of_mem _ hl)]
theorem depth_wds : ∀ r : List (List Nat), PyData.depthAll (r.map fun l => PyData.str (SX.S l)) ≤ 1
  | [] => by simp [PyData.depthAll]
  | x :: r => by
    have h1 := depth_wds r
    simp only [List.map_cons, PyData.depthAll, PyData.depth]
    omega
theorem lay_rls : ∀ rs : List (List (List Nat)), (∀ r ∈ rs, ∀ l ∈ r, Asc l) → PyData.canLayAll0 (rs.map dW) = true
  | [], _ => by simp [PyData.canLayAll0]
  | x :: r, h => by simp [PyData.canLayAll0, dW, PyData.canLay0, lay_wds x (h x List.mem_cons_self), lay_rls r fun z hz => h z (List.mem_cons_of_mem _ hz)]
theorem depth_rls : ∀ rs : List (List (List Nat)), PyData.depthAll (rs.map dW) ≤ 2
  | [] => by simp [PyData.depthAll]
  | x :: r => by
    have h1 := depth_rls r
    have h2 := depth_wds x
    simp only [List.map_cons, PyData.depthAll, PyData.depth, dW]
    omega
theorem shaped_rls {rs : List (List (List Nat))} (h : ∀ r ∈ rs, ∀ l ∈ r, Asc l) : SeqAt.shaped (dWs rs) = true := by
  have h1 := depth_rls rs
  have h2 : PyData.depth (dWs rs) ≤ 64 := by
    unfold dWs
    simp only [PyData.depth]
    omega
  show (PyData.canLay0 (dWs rs) && decide (PyData.depth (dWs rs) ≤ 64)) = true
  rw [Bool.and_eq_true]
  exact ⟨by unfold dWs; simp only [PyData.canLay0]; exact lay_rls rs h, decide_eq_true h2⟩
theorem str_eqv (a b : List Nat) : PyData.eqv (.str (SX.S a)) (.str (SX.S b)) = decide (a = b) := by
  simp only [PyData.eqv]
  rw [SX.S_beq_eq]
theorem eqv_wds : ∀ r s : List (List Nat), PyData.eqvAll (r.map fun l => PyData.str (SX.S l)) (s.map fun l => PyData.str (SX.S l)) = decide (r = s)
  | [], [] => by simp [PyData.eqvAll]
  | [], _ :: _ => by simp [PyData.eqvAll]
  | _ :: _, [] => by simp [PyData.eqvAll]
  | x :: r, y :: s => by
    rw [List.map_cons, List.map_cons]
    simp only [PyData.eqvAll]
    rw [eqv_wds r s, str_eqv]
    by_cases h1 : x = y
    · by_cases h2 : r = s
      · simp [h1, h2]
      · simp [h1, h2]
    · simp [h1]
theorem eqv_rlsL : ∀ r s : List (List (List Nat)), PyData.eqvAll (r.map dW) (s.map dW) = decide (r = s)
  | [], [] => by simp [PyData.eqvAll]
  | [], _ :: _ => by simp [PyData.eqvAll]
  | _ :: _, [] => by simp [PyData.eqvAll]
  | x :: r, y :: s => by
    rw [List.map_cons, List.map_cons]
    have e : PyData.eqv (dW x) (dW y) = decide (x = y) := by
      unfold dW
      simp only [PyData.eqv]
      exact eqv_wds x y
    simp only [PyData.eqvAll]
    rw [eqv_rlsL r s, e]
    by_cases h1 : x = y
    · by_cases h2 : r = s
      · simp [h1, h2]
      · simp [h1, h2]
    · simp [h1]
theorem eqv_rls (r s : List (List (List Nat))) : PyData.eqv (dWs r) (dWs s) = decide (r = s) := by
  unfold dWs
  simp only [PyData.eqv]
  exact eqv_rlsL r s
theorem dp_wds {K : PySem.W.Frag} {H : Hp} : ∀ r : List (List Nat), DpAll K H (r.map tx) (r.map fun l => PyData.str (SX.S l))
  | [] => .nil
  | x :: r => .cons (.str _) (dp_wds r)
theorem dp_rlsL {K : PySem.W.Frag} {H : Hp} : ∀ rs : Rls, (∀ x ∈ rs, TW H x) → DpAll K H (rfs rs) ((wds rs).map dW)
  | [], _ => .nil
  | x :: r, h => .cons (.tup (SqT.of (h x List.mem_cons_self)) (dp_wds x.2)) (dp_rlsL r fun y hy => h y (List.mem_cons_of_mem _ hy))
theorem dp_rls {K : PySem.W.Frag} {H : Hp} {q : Addr} {rs : Rls} (h : H q = some (.lst (rfs rs))) (hT : ∀ x ∈ rs, TW H x) : Dp K H (.ref q) (dWs (wds rs)) := .lst (SqL.of h) (dp_rlsL rs hT)
/-- a town at x -/
structure Tn (C : Addr) (H : Hp) (x : Addr) (L : List Nat) (q : Addr) (rs : Rls) : Prop where
  ins : ∃ dx t, H x = some (.ins C dx (fTown L q t))
  lst : H q = some (.lst (rfs rs))
  row : ∀ r ∈ rs, TW H r
  sz : rs.length ≤ 6
  lz : L.length ≤ 3
  as : ∀ r ∈ wds rs, ∀ l ∈ r, Asc l
theorem Tn.ext {C : Addr} {H H' : Hp} {x q : Addr} {L : List Nat} {rs : Rls} (h : Tn C H x L q rs) (e : LamX.ExtN H H') : Tn C H' x L q rs := by
  obtain ⟨dx, t, h1⟩ := h.ins
  refine ⟨⟨dx, t, e _ _ h1 (fun ps z => nomatch z)⟩, e _ _ h.lst (fun ps z => nomatch z), fun r hr => ?_, h.sz, h.lz, h.as⟩
  have z : H r.1 = some (.tup (r.2.map tx)) := h.row r hr
  exact e _ _ z (fun ps z => nomatch z)
theorem Tn.same {C : Addr} {H H' : Hp} {x q : Addr} {L : List Nat} {rs : Rls} (h : Tn C H x L q rs) (s : Same H H') : Tn C H' x L q rs := h.ext (.of s)
abbrev sTW : Stmt := KT.inside (top 56) 4
abbrev sTR : Stmt := KT.inside (top 56) 6
abbrev sTwr : Stmt := KT.inside (top 56) 11
abbrev sTL : Stmt := KT.inside (top 56) 16
abbrev sTE : Stmt := KT.inside (top 56) 17
abbrev sTP : Stmt := KT.inside (top 56) 18
theorem scTW : FnScope ["self"] ["self"] (defScope sTW) := ⟨rfl, rfl, rfl, by decide +kernel, rfl, by decide +kernel, by decide +kernel⟩
theorem scTR : FnScope ["self"] ["self"] (defScope sTR) := ⟨rfl, rfl, rfl, by decide +kernel, rfl, by decide +kernel, by decide +kernel⟩
theorem scTL : FnScope ["self"] ["self"] (defScope sTL) := ⟨rfl, rfl, rfl, by decide +kernel, rfl, by decide +kernel, by decide +kernel⟩
theorem scTE : FnScope ["self", "other"] ["self", "other"] (defScope sTE) := ⟨rfl, rfl, rfl, by decide +kernel, rfl, by decide +kernel, by decide +kernel⟩
theorem scTP : FnScope ["self"] ["self"] (defScope sTP) := ⟨rfl, rfl, rfl, by decide +kernel, rfl, by decide +kernel, by decide +kernel⟩
def spTW (C : Addr) : Sp := fun vs H Q _ => ∃ (x q : Addr) (L : List Nat) (rs : Rls), vs = [.ref x] ∧ Tn C H x L q rs ∧ Q (.int (L.length : Nat)) H
def spTL (C : Addr) : Sp := fun vs H Q _ => ∃ (x q : Addr) (L : List Nat) (rs : Rls), vs = [.ref x] ∧ Tn C H x L q rs ∧ Q (.int (rs.length : Nat)) H
def spTR (C : Addr) : Sp := fun vs H Q _ => ∃ (x q : Addr) (L : List Nat) (rs : Rls), vs = [.ref x] ∧ Tn C H x L q rs ∧ ∀ l, H l = none → Q (.ref l) (upd H l (.lst (rfs rs)))
/-- what == tells -/
def EqTn (C : Addr) (a : Addr) (y : V) (H : Hp) (k : Bool) : Prop := ∃ (q : Addr) (L : List Nat) (rs : Rls), Tn C H a L q rs ∧ ((∃ (b q' : Addr) (L' : List Nat) (rs' : Rls), y = .ref b ∧ Tn C H b L' q' rs' ∧ k = (decide (L = L') && decide (wds rs = wds rs'))) ∨ (Rs.Fgn H y ∧ k = false))
def txT (n m : Nat) : Str := Str.empty ++ Str.ofString "Town(" ++ Str.ofString (toString ((n : Nat) : Int)) ++ Str.ofString " letters, " ++ Str.ofString (toString ((m : Nat) : Int)) ++ Str.ofString " rules)"
def spTP (C : Addr) : Sp := fun vs H Q _ => ∃ (x q : Addr) (L : List Nat) (rs : Rls), vs = [.ref x] ∧ Tn C H x L q rs ∧ Q (.str (txT L.length rs.length)) H
/-- what isinstance asks of the class -/
structure ICl (K : PySem.W.Frag) (C : Addr) : Prop where
  ha : PySem.W.findIn K (.ref C) "__class__" = some (some (.builtin "object.__class__"))
  hn : PySem.W.specialIn K (.builtin "object.__class__") "__get__" = some (some (.builtin "getset_descriptor.__get__"))
  htk : PySem.W.takesIn K (.builtin "object.__class__") = some true
  hm : PySem.W.mroIn K C (.type "object") = some true
  kC : PySem.W.kitOne K (.ref C) (.ref C) = some true
  kN : PySem.W.kitOne K (.type "NoneType") (.ref C) = some false
  kI : PySem.W.kitOne K (.type "int") (.ref C) = some false
  kS : PySem.W.kitOne K (.type "str") (.ref C) = some false
  kL : PySem.W.kitOne K (.type "list") (.ref C) = some false
section
variable {P : Program} {w : World} {K : PySem.W.Frag} {mg : Str → Option Value} {base : Heap}
theorem ok_tw {f C : Addr} {fd : FuncData} {k : Nat} (F : Fun K "width" "Town.width" sTW f fd) (B : Bn mg) (TC : TwC K C) : FnOk P w K mg base CX0 (k + 1) f fd ["self"] (spTW C) := by
  refine F.ok scTW (fun vs H Q E h => ?_) (fun cdv A outer s H vs Q E hr h => ?_)
  · obtain ⟨x, q, L, rs, rfl, _⟩ := h
    rfl
  · obtain ⟨x, q, L, rs, rfl, hT, qq⟩ := h
    obtain ⟨dx, t, hx⟩ := hT.ins
    refine ⟨_, pss_one (ps_ret (pe_callB call_len_str (by rfl) B.len PySem.boot_len (pa_cons (pe_fld (pv 0) rfl) pa_nil))), ?_⟩
    refine ⟨_, rfl, x, C, dx, _, tx L, rfl, hx, TC.cl, TC.al, rfl, SX.S L, rfl, asc_le (by have := hT.lz; omega), ?_⟩
    rw [tx_len]
    exact qq
theorem ok_tl {f C : Addr} {fd : FuncData} {k : Nat} (F : Fun K "__len__" "Town.__len__" sTL f fd) (B : Bn mg) (TC : TwC K C) : FnOk P w K mg base CX0 (k + 1) f fd ["self"] (spTL C) := by
  refine F.ok scTL (fun vs H Q E h => ?_) (fun cdv A outer s H vs Q E hr h => ?_)
  · obtain ⟨x, q, L, rs, rfl, _⟩ := h
    rfl
  · obtain ⟨x, q, L, rs, rfl, hT, qq⟩ := h
    obtain ⟨dx, t, hx⟩ := hT.ins
    refine ⟨_, pss_one (ps_ret (pe_callB call_len_seq (by rfl) B.len PySem.boot_len (pa_cons (pe_fld (pv 0) rfl) pa_nil))), ?_⟩
    refine ⟨_, rfl, x, C, dx, _, .ref q, rfl, hx, TC.cl, TC.pa, rfl, q, _, rfl, .inl (SqL.of hT.lst), ?_⟩
    rw [List.length_map]
    exact qq
theorem ok_tr {f C : Addr} {fd : FuncData} {k : Nat} (F : Fun K "rules" "Town.rules" sTR f fd) (B : Bn mg) (TC : TwC K C) : FnOk P w K mg base CX0 (k + 1) f fd ["self"] (spTR C) := by
  refine F.ok scTR (fun vs H Q E h => ?_) (fun cdv A outer s H vs Q E hr h => ?_)
  · obtain ⟨x, q, L, rs, rfl, _⟩ := h
    rfl
  · obtain ⟨x, q, L, rs, rfl, hT, qq⟩ := h
    obtain ⟨dx, t, hx⟩ := hT.ins
    refine ⟨_, pss_one (ps_ret (pe_callTy call_list_of (by rfl) B.list boot_list (pa_cons (pe_fld (pv 0) rfl) pa_nil))), ?_⟩
    exact ⟨_, rfl, x, C, dx, _, .ref q, rfl, hx, TC.cl, TC.pa, rfl, q, _, rfl, .inl (SqL.of hT.lst), qq⟩
theorem ok_te {f C : Addr} {fd : FuncData} {k : Nat} (F : Fun K "__eq__" "Town.__eq__" sTE f fd) (B : Bn mg) (TC : TwC K C) (gC : mg "Town" = some (.ref C)) (IC : ICl K C) :
    FnOk P w K mg base CX0 (k + 2) f fd ["self", "other"] (Rs.spEqB (EqTn C)) := by
  refine F.ok scTE (fun vs H Q E h => ?_) (fun cdv A outer s H vs Q E hr h => ?_)
  · obtain ⟨a, y, k, rfl, _⟩ := h
    rfl
  · obtain ⟨a, y, kk, rfl, ⟨q, L, rs, hT, hy⟩, qq⟩ := h
    obtain ⟨dx, t, hx⟩ := hT.ins
    refine ⟨_, pss_one (ps_ret (pe_and (pe_callB call_isi (by rfl) B.isinst boot_isinstance (pa_cons (pv 1) (pa_cons (pe_glob (v := .ref C) rfl gC rfl) pa_nil)))
      (pe_and (pe_cmpR op_eq (pe_fld (pv 0) rfl) (pe_fld (pv 1) rfl) (nomark _)) (pe_one (pe_cmpR (op_eqD hr.units) (pe_fld (pv 0) rfl) (pe_fld (pv 1) rfl) (nomark _)))))), ?_⟩
    rcases hy with ⟨b, q', L', rs', rfl, hT', rfl⟩ | ⟨hf, rfl⟩
    · obtain ⟨dy, t', hy⟩ := hT'.ins
      refine ⟨_, rfl, _, _, _, _, true, rfl, .own C, .base (.ins hy TC.cl IC.ha IC.hn IC.htk IC.hm), IC.kC, true, rfl, iteT ?_⟩
      refine ⟨_, rfl, a, C, dx, _, tx L, rfl, hx, TC.cl, TC.al, rfl, _, rfl, b, C, dy, _, tx L', rfl, hy, TC.cl, TC.al, rfl, rfl, _, rfl, ?_⟩
      have e1 : decide (tx L = tx L') = decide (L = L') := by
        by_cases h : L = L'
        · rw [h, decide_eq_true rfl, decide_eq_true rfl]
        · rw [decide_eq_false h, decide_eq_false]
          intro z
          injection z with z
          exact h (SX.S_inj z)
      rw [e1]
      by_cases h : L = L'
      · rw [decide_eq_true h] at qq ⊢
        refine iteT ?_
        refine ⟨_, rfl, a, C, dx, _, .ref q, rfl, hx, TC.cl, TC.pa, rfl, _, rfl, b, C, dy, _, .ref q', rfl, hy, TC.cl, TC.pa, rfl, _, _, dp_rls hT.lst hT.row, dp_rls hT'.lst hT'.row, shaped_rls hT.as, shaped_rls hT'.as, ?_⟩
        rw [eqv_rls]
        exact qq H Ext.rfl'
      · rw [decide_eq_false h] at qq ⊢
        exact iteF (qq H Ext.rfl')
    · rcases hf with rfl | ⟨i, rfl⟩ | ⟨t, rfl⟩ | ⟨l, xs, rfl, hl⟩
      · exact ⟨_, rfl, _, _, _, _, false, rfl, .own C, .base .non, IC.kN, false, rfl, iteF (qq H Ext.rfl')⟩
      · exact ⟨_, rfl, _, _, _, _, false, rfl, .own C, .base (.int i), IC.kI, false, rfl, iteF (qq H Ext.rfl')⟩
      · exact ⟨_, rfl, _, _, _, _, false, rfl, .own C, .base (.str t), IC.kS, false, rfl, iteF (qq H Ext.rfl')⟩
      · exact ⟨_, rfl, _, _, _, _, false, rfl, .own C, .base (.lst hl), IC.kL, false, rfl, iteF (qq H Ext.rfl')⟩
theorem fit0 : Str.empty.length ≤ 0 := Nat.le_refl _
theorem fit2 {a b : Str} {m n k : Nat} (h1 : a.length ≤ m) (h2 : b.length ≤ n) (h : m + n ≤ k) : (a ++ b).length ≤ k := by
  show (a.cps ++ b.cps).size ≤ k
  rw [Array.size_append]
  have h1 : a.cps.size ≤ m := h1
  have h2 : b.cps.size ≤ n := h2
  omega
theorem fitI (i : Int) (h : i.natAbs.log2 < 1920) : (Str.ofString (toString i)).length ≤ 2000 := by
  have e := PySem.int_text_length_le (k := 1920) (by decide) h
  rw [PySem.ofString_length]
  omega
theorem fits {a : Str} {k : Nat} (h : a.length ≤ k) (hk : k ≤ 16777216) : a.length ≤ sizeLine := by
  rw [sizeLine_eq]
  omega
theorem small8 (n : Nat) (h : n ≤ 8) : ((n : Nat) : Int).natAbs.log2 < 1920 := by
  match n, h with
  | 0, _ => decide
  | 1, _ => decide
  | 2, _ => decide
  | 3, _ => decide
  | 4, _ => decide
  | 5, _ => decide
  | 6, _ => decide
  | 7, _ => decide
  | 8, _ => decide
theorem ok_tp {f C : Addr} {fd : FuncData} {k : Nat} (F : Fun K "__repr__" "Town.__repr__" sTP f fd) (B : Bn mg) (TC : TwC K C) : FnOk P w K mg base CX0 (k + 1) f fd ["self"] (spTP C) := by
  refine F.ok scTP (fun vs H Q E h => ?_) (fun cdv A outer s H vs Q E hr h => ?_)
  · obtain ⟨x, q, L, rs, rfl, _⟩ := h
    rfl
  · obtain ⟨x, q, L, rs, rfl, hT, qq⟩ := h
    obtain ⟨dx, t, hx⟩ := hT.ins
    have z3 := hT.lz
    have z6 := hT.sz
    refine ⟨_, pss_one (ps_ret (pe_joined (.cons pe_str (.cons (pe_fmt (pe_callB call_len_str (by rfl) B.len PySem.boot_len (pa_cons (pe_fld (pv 0) rfl) pa_nil))) (.cons pe_str (.cons (pe_fmt (pe_callB call_len_seq (by rfl) B.len PySem.boot_len (pa_cons (pe_fld (pv 0) rfl) pa_nil))) (.cons pe_str .nil))))))), ?_⟩
    have lw := small8 L.length (by omega)
    have lm := small8 rs.length (by omega)
    have a0 : (Str.empty ++ Str.ofString "Town(").length ≤ 100 := fit2 (n := 100) fit0 (by decide +kernel) (by omega)
    have a1 := fit2 a0 (fitI _ lw) (Nat.le_refl _)
    have a2 := fit2 a1 (b := Str.ofString " letters, ") (n := 100) (by decide +kernel) (Nat.le_refl _)
    have a3 := fit2 a2 (fitI _ lm) (Nat.le_refl _)
    have a4 := fit2 a3 (b := Str.ofString " rules)") (n := 100) (by decide +kernel) (Nat.le_refl _)
    refine ⟨_, rfl, fits a0 (by decide), _, rfl, x, C, dx, _, tx L, rfl, hx, TC.cl, TC.al, rfl, SX.S L, rfl, asc_le (by omega), ?_⟩
    rw [tx_len]
    refine .inr ⟨_, rfl, lw, _, rfl, fits a1 (by decide), _, rfl, fits a2 (by decide), _, rfl, x, C, dx, _, .ref q, rfl, hx, TC.cl, TC.pa, rfl, q, _, rfl, .inl (SqL.of hT.lst), ?_⟩
    rw [List.length_map]
    exact .inr ⟨_, rfl, lm, _, rfl, fits a3 (by decide), _, rfl, fits a4 (by decide), qq⟩
end
end K15
set_option maxRecDepth 100000
set_option maxHeartbeats 2000000
namespace K15
open PySem PySem.Spec PyProof.Rows L2 KA
/-- what the making of a town is asked for and tells -/
structure MkTn (C CG CU : Addr) (T : List (Addr × Str)) (H : Hp) (L : List Nat) (rs : Rls) (E : XK) (Q' : Addr → Hp → Prop) : Prop where
  tws : Tws H rs
  asw : ∀ r ∈ wds rs, ∀ l ∈ r, Asc l
  len : rs.length ≤ 100
  tab : LamX.Tabs T H
  ll : L.length ≤ 1000
  la : Asc L
  lt : GoodL L → Lt L
  eG : ∀ i, Wrong L i → Fl CG tagG "at" (.int (i : Nat)) H E
  eU : GoodL L → ∀ i, i < rs.length → badU L (wds rs) i = true → (∀ j, j < i → badU L (wds rs) j = false) → Fl CU tagU "at" (.int (i : Nat)) H E
  ok : GoodL L → GoodU L (wds rs) → ∀ (H' : Hp) (x q : Addr), LamX.ExtN H H' → LamX.Tabs T H' → KT.New H q → Tn C H' x L q rs → Q' x H'
theorem mk_town {K : PySem.W.Frag} {C CG CU : Addr} {T : List (Addr × Str)} {H : Hp} {L : List Nat} {rs : Rls} {E : XK} {Q' : Addr → Hp → Prop} (h : MkTn C CG CU T H L rs E Q') : ∀ x dx, H x = Option.none → H dx = Option.none → dx ≠ x →
    spTown K C CG CU T (V.ref x :: tx L :: rfs rs) (upd (upd H dx (.own x)) x (.ins C dx [])) (fun v H2 => v = .non ∧ Q' x H2) E := by
  intro x dx nx ndx ne
  have s1 : Same H (upd (upd H dx (.own x)) x (.ins C dx [])) := fun a o e => by
    rw [upd_ne (ne_of_none e nx), upd_ne (ne_of_none e ndx)]
    exact e
  refine ⟨[V.ref x, tx L], rfs rs, rfl, rfl, ?_, fun p np => ?_⟩
  · rw [List.length_map]
    exact Nat.le_trans h.len (by decide)
  have s2 := same_new (o := .tup (rfs rs)) np
  have s3 := s1.trans s2
  refine ⟨x, dx, p, L, rs, rfl, s2 _ _ upd_same, upd_same, h.tws.same s3, h.len, h.tab.ext s3, h.ll, h.la, h.lt, fun i hw => (h.eG i hw).of s3, fun gL i hi hb hj => (h.eU gL i hi hb hj).of s3, fun gL gU H' q t st tb nw hq hx => ⟨rfl, ?_⟩⟩
  have eX : LamX.ExtN H H' := fun a o e ht => st a o (ne_of_none e nx) (s3 _ _ e) ht
  have g6 := good_six gU
  rw [List.length_map] at g6
  refine h.ok gL gU H' x q eX tb (KT.New.ext (.of s3) nw) ⟨⟨dx, t, hx⟩, hq, fun r hr => ?_, g6, gL.len.2, h.asw⟩
  have z : H r.1 = some (.tup (r.2.map tx)) := (h.tws r hr).1
  exact eX _ _ z (fun ps z => nomatch z)
/-- rules that may stand, more or fewer, in any order -/
theorem good_of {L : List Nat} {ws : List (List (List Nat))} (h6 : ws.length ≤ 6) (h : ∀ r ∈ ws, okR L r = true) : GoodU L ws := by
  intro i hi
  unfold badU
  have e : ws.getD i [] = ws[i] := by
    rw [List.getD_eq_getElem?_getD, List.getElem?_eq_getElem hi]
    rfl
  rw [e, h _ (List.getElem_mem hi), decide_eq_false (by omega)]
  rfl
theorem good_all {L : List Nat} {ws : List (List (List Nat))} (h : GoodU L ws) : ∀ r ∈ ws, okR L r = true := by
  intro r hr
  obtain ⟨i, hi, rfl⟩ := List.getElem_of_mem hr
  have z := h i hi
  unfold badU at z
  have e : ws.getD i [] = ws[i] := by
    rw [List.getD_eq_getElem?_getD, List.getElem?_eq_getElem hi]
    rfl
  rw [e] at z
  simpa using (Bool.or_eq_false_iff.mp z).2
theorem good_no {L : List Nat} {ws : List (List (List Nat))} {i : Nat} {p : Prop} (h : GoodU L ws) (hi : i < ws.length) (hb : badU L ws i = true) : p := by
  rw [h i hi] at hb
  cases hb
theorem good_nw {L : List Nat} {i : Nat} {p : Prop} (h : GoodL L) (hw : Wrong L i) : p := by
  rcases hw with ⟨e, _⟩ | ⟨h1, h2, _⟩
  · exact absurd e h.1
  · rw [h.2 i h1] at h2
    cases h2
theorem MkTn.same {C CG CU : Addr} {T : List (Addr × Str)} {H H1 : Hp} {L : List Nat} {rs : Rls} {E : XK} {Q' : Addr → Hp → Prop} (h : MkTn C CG CU T H L rs E Q') (s : Same H H1) : MkTn C CG CU T H1 L rs E Q' :=
  ⟨h.tws.same s, h.asw, h.len, h.tab.ext s, h.ll, h.la, h.lt, fun i hw => (h.eG i hw).of s, fun gL i hi hb hj => (h.eU gL i hi hb hj).of s, fun gL gU H' x q eX tb nw hT => h.ok gL gU H' x q (LamX.ExtN.trans (.of s) eX) tb (KT.New.ext (.of s) nw) hT⟩
theorem Tws.ext {H H' : Hp} {rs : Rls} (h : Tws H rs) (e : LamX.ExtN H H') : Tws H' rs := fun r hr => by
  have z : H r.1 = some (.tup (r.2.map tx)) := (h r hr).1
  exact ⟨e _ _ z (fun ps z => nomatch z), (h r hr).2⟩
theorem take_more {α : Type} {l : List α} {i : Nat} {x : α} (h : l[i]? = some x) : l.take (i + 1) = l.take i ++ [x] := by
  rw [List.take_add_one, h]
  rfl
end K15
set_option maxRecDepth 100000
set_option maxHeartbeats 2000000
namespace K15
open PySem PySem.Spec PyProof.Rows L2 KA
theorem ln_no {n k : Nat} (h : n ≠ k) : decide (V.int ((n : Nat) : Int) = V.int ((k : Nat) : Int)) = false := decide_eq_false fun z => h (by injection z with z; omega)
theorem ln_yes {n : Nat} : decide (V.int ((n : Nat) : Int) = V.int ((n : Nat) : Int)) = true := decide_eq_true rfl
abbrev sLSide : Stmt := top 80
abbrev sLIs : Stmt := top 83
abbrev sBad : Stmt := top 84
abbrev NB : List Str := ["_law_rules_now", "_law_letters_here", "_law_at", "_law_rule"]
theorem scLSide : FnScope ["_law_box", "_law_letters_here", "_law_most"] ["_law_box", "_law_letters_here", "_law_most"] (defScope sLSide) := ⟨rfl, rfl, rfl, by decide +kernel, rfl, by decide +kernel, by decide +kernel⟩
theorem scLIs : FnScope ["_law_one", "_law_letters_here", "_law_sign"] ["_law_one", "_law_letters_here"] (defScope sLIs) := ⟨rfl, rfl, rfl, by decide +kernel, rfl, by decide +kernel, by decide +kernel⟩
theorem scBad : FnScope NB ["_law_rules_now", "_law_letters_here"] (defScope sBad) := ⟨rfl, rfl, rfl, by decide +kernel, rfl, by decide +kernel, by decide +kernel⟩
def spBad : Sp := fun vs H Q _ => ∃ (l : Addr) (L : List Nat) (rs : Rls), vs = [.ref l, tx L] ∧ H l = some (.lst (rfs rs)) ∧ Tws H rs ∧ rs.length ≤ 7 ∧ Lt L ∧ (GoodU L (wds rs) → ∀ H', Same H H' → Q .non H') ∧
  ∀ i, i < rs.length → badU L (wds rs) i = true → (∀ j, j < i → badU L (wds rs) j = false) → ∀ H', Same H H' → Q (.int (i : Nat)) H'
section
variable {P : Program} {w : World} {K : PySem.W.Frag} {mg : Str → Option Value} {base : Heap}
theorem ok_lside {f fS : Addr} {fd fdS : FuncData} {k : Nat} (F : Fun K "_law_side" "_law_side" sLSide f fd) (cS : KT.Cb P w K mg base CX0 (k + 3) "_law_some_word" ["_law_box", "_law_letters_here", "_law_most"] spSome fS fdS) : FnOk P w K mg base CX0 (k + 4) f fd ["_law_box", "_law_letters_here", "_law_most"] spSome := by
  refine F.ok scLSide (fun vs H Q E h => ?_) (fun cdv A outer s H vs Q E hr h => ?_)
  · obtain ⟨b, m, L, most, rfl, _⟩ := h
    rfl
  · obtain ⟨b, m, L, most, rfl, h⟩ := h
    refine ⟨_, pss_one (ps_ret (pe_call cS.ok hr (by rfl) cS.g cS.kp cS.b .nil pass0 (pa_cons (pv 0) (pa_cons (pv 1) (pa_cons (pv 2) pa_nil))))), ?_⟩
    exact ⟨_, rfl, _, rfl, _, rfl, b, m, L, most, rfl, h⟩
theorem ok_lis {f fS : Addr} {fd fdS : FuncData} {k : Nat} (F : Fun K "_law_is_side" "_law_is_side" sLIs f fd) (B : Bn mg) (cS : KT.Cb P w K mg base CX0 (k + 1) "_law_signs" ["_law_letters_here"] spSigns fS fdS) : FnOk P w K mg base CX0 (k + 2) f fd ["_law_one", "_law_letters_here"] spSide := by
  refine F.ok scLIs (fun vs H Q E h => ?_) (fun cdv A outer s H vs Q E hr h => ?_)
  · obtain ⟨l, L, rfl, _⟩ := h
    rfl
  · obtain ⟨l, L, rfl, hl, hL, q⟩ := h
    refine ⟨_, pss_one (ps_ret (pe_and (pe_cmpR op_le (pe_callB call_len_str (by rfl) B.len PySem.boot_len (pa_cons (pv 0) pa_nil)) pe_int (nomark _))
      (pe_one (pe_callB (cr_all rfl) (by rfl) B.all boot_all (pa_cons (pe_lc (own := [("_law_sign", 2)]) (g := gName 2) (tt := tYes)
        (te := tOp (fun x y H Q => ∃ (c : Nat) (z : Str), x = .str ⟨#[c]⟩ ∧ y = .str z ∧ Q (.bl (decide (c ∈ z.cps.toList))) H) (tVar 2) (tCall spSigns [] E0 (tCons (tVar 1) tNil))) rfl scLIs.nd (pi_str (pv 0))
        (blkOk_by (N := ["_law_one", "_law_letters_here", "_law_sign"]) (sc := defScope sLIs) (by decide +kernel)) (fun _ _ _ _ _ => pg_name (i := 2) scLIs.nd rfl (Or.inl rfl)) (fun _ _ _ _ _ => pts_nil)
        (fun _ _ _ _ _ => pe_cmpR op_in_sign (pv 2) (pe_call cS.ok hr (by rfl) cS.g cS.kp cS.b .nil pass0 (pa_cons (pv 1) pa_nil)) (by rfl))) pa_nil))))), ?_⟩
    refine ⟨_, rfl, _, rfl, asc_le hl, _, _, rfl, rfl, _, rfl, ?_⟩
    rw [tx_len]
    by_cases h16 : l.length ≤ 16
    · rw [decide_eq_true (by omega)]
      refine iteT ⟨_, rfl, _, rfl, fun D nD => ?_⟩
      refine KT.lc_sel (e := fun c => tx [c]) (out := fun c => V.bl (decide (c ∈ sg L))) (walk_txt l) (tt := tYes) (te := tOp (fun x y H Q => ∃ (c : Nat) (z : Str), x = .str ⟨#[c]⟩ ∧ y = .str z ∧ Q (.bl (decide (c ∈ z.cps.toList))) H) (tVar 2) (tCall spSigns [] E0 (tCons (tVar 1) tNil))) (σ := [some (tx l), some (tx L), none]) (i := 2) (fun _ => true) (Nat.lt_of_le_of_lt hl (by decide)) nD (fun _ _ => trivial) (fun x H2 Q _ _ h => h) ?_ ?_
      · intro c H2 Q2 hc _ s2 hQ
        exact ⟨_, rfl, _, rfl, L, rfl, hL, fun H3 s3 => ⟨c, _, rfl, rfl, hQ H3 s3⟩⟩
      · intro H2 s2 hD
        rw [List.filter_eq_self.mpr (by simp)] at hD
        refine ⟨D, l.map fun c => decide (c ∈ sg L), rfl, SqL.of (by rw [hD, List.map_map]; rfl), ?_⟩
        have e : (l.map fun c => decide (c ∈ sg L)).all id = sd l L := by
          unfold sd isW
          rw [decide_eq_true h16, List.all_map]
          rfl
        rw [e]
        exact q H2 s2
    · rw [decide_eq_false (by omega)]
      refine iteF ?_
      have e : sd l L = false := by
        unfold sd
        rw [decide_eq_false h16]
        rfl
      have z := q H (Same.refl _)
      rw [e] at z
      exact z
theorem ok_bad {f fS : Addr} {fd fdS : FuncData} {k : Nat} (F : Fun K "_law_bad_rule" "_law_bad_rule" sBad f fd) (B : Bn mg) (cS : KT.Cb P w K mg base CX0 (k + 2) "_law_is_side" ["_law_one", "_law_letters_here"] spSide fS fdS) : FnOk P w K mg base CX0 (k + 3) f fd ["_law_rules_now", "_law_letters_here"] spBad := by
  refine F.ok scBad (fun vs H Q E h => ?_) (fun cdv A outer s H vs Q E hr h => ?_)
  · obtain ⟨l, L, rs, rfl, _⟩ := h
    rfl
  · obtain ⟨l, L, rs, rfl, hl, tw, h7, hL, qN, qI⟩ := h
    refine ⟨_, pss_cons (ps_for PassesOwn.never rfl (pi_range1 (by rfl) B.range (pa_cons (pe_callB call_len_seq (by rfl) B.len PySem.boot_len (pa_cons (pv 0) pa_nil)) pa_nil)) (pg_name (i := 2) scBad.nd rfl (Or.inl rfl))
        (pss_cons (ps_set (i := 3) scBad.nd rfl (.inl rfl) (pe_ix ix_list (pv 0) (pv 2) (fun _ _ => rfl)))
        (pss_cons (ps_if (PW.pt (pw_or (pt_cmpR op_gt (pv 2) pe_int (nomark _)) (pw_or1 (pt_cmpR op_ne (pe_callB call_len_seq (by rfl) B.len PySem.boot_len (pa_cons (pv 3) pa_nil)) pe_int (nomark _))))) (pss_one (ps_ret (pv 2))) pss_nil)
        (pss_one (ps_if (PW.pt (pw_or (pt_not (pt_val (pe_call cS.ok hr (by rfl) cS.g cS.kp cS.b .nil pass0 (pa_cons (pe_ix ix_tup (pv 3) pe_int (fun _ _ => rfl)) (pa_cons (pv 1) pa_nil))))) (pw_or1 (pt_not (pt_val (pe_call cS.ok hr (by rfl) cS.g cS.kp cS.b .nil pass0 (pa_cons (pe_ix ix_tup (pv 3) pe_int (fun _ _ => rfl)) (pa_cons (pv 1) pa_nil)))))))) (pss_one (ps_ret (pv 2))) pss_nil)))))
      (pss_one (ps_ret pe_non)), ?_⟩
    refine ⟨_, rfl, l, _, rfl, .inl (SqL.of hl), _, rfl, by omega, ?_, ?_⟩
    · rw [List.length_map]
      omega
    have en : (((rfs rs).length : Nat) : Int).toNat = rs.length := by
      rw [List.length_map]
      rfl
    refine for_it (walk_range (lo := 0) (n := (((rfs rs).length : Nat) : Int).toNat)) (fun i σ H2 => ∃ y2 y3 : Option V, σ = [some (.ref l), some (tx L), y2, y3] ∧ Same H H2 ∧ ∀ j, j < i → badU L (wds rs) j = false)
      ⟨none, none, rfl, Same.refl _, fun j hj => absurd hj (Nat.not_lt_zero _)⟩ (fun _ _ _ _ _ => trivial) ?_ ?_
    · rintro i x σ H2 H2' hi ⟨y2, y3, rfl, sm, hok⟩ ⟨rfl, rfl⟩
      rw [en] at hi
      have gl : rs[i]? = some rs[i] := List.getElem?_eq_getElem hi
      have hm : rs[i] ∈ rs := List.getElem_mem hi
      have gd : (wds rs).getD i [] = rs[i].2 := by
        rw [List.getD_eq_getElem?_getD, List.getElem?_map, gl]
        rfl
      have hat : atI (rfs rs) (0 + (i : Int)) = some (.ref rs[i].1) := by
        rw [Int.zero_add]
        refine atI_nat ?_
        rw [List.getElem?_map, gl]
        rfl
      generalize rs[i] = r at gl hm gd hat
      have hl2 := sm _ _ hl
      obtain ⟨tr, t1, t2⟩ := (tw.same sm) r hm
      have tr' : H2' r.1 = some (.tup (r.2.map tx)) := tr
      have next : badU L (wds rs) i = false → ∀ j, j < i + 1 → badU L (wds rs) j = false := fun hb j hj => by
        by_cases hj2 : j < i
        · exact hok j hj2
        · have ej : j = i := by omega
          rw [ej]
          exact hb
      have give : badU L (wds rs) i = true → ∀ H3, Same H H3 → Q (.int (0 + (i : Int))) H3 := fun hb H3 s3 => by
        rw [Int.zero_add]
        exact qI i hi hb hok H3 s3
      refine ⟨_, rfl, _, rfl, l, _, _, _, rfl, rfl, SqL.of hl2, hat, ?_⟩
      refine ⟨_, rfl, _, _, rfl, rfl, ?_⟩
      by_cases h5 : (5 : Int) < 0 + (i : Int)
      · refine ⟨true, congrArg V.bl (decide_eq_true h5), iteT (iteT ⟨_, rfl, give ?_ _ sm⟩)⟩
        unfold badU
        rw [decide_eq_true (show i = 6 by omega)]
        rfl
      refine ⟨false, congrArg V.bl (decide_eq_false h5), iteF ?_⟩
      refine ⟨_, rfl, r.1, _, rfl, .inr (SqT.of tr'), rfl, ?_⟩
      rw [List.length_map]
      have bd : badU L (wds rs) i = !(okR L r.2) := by
        unfold badU
        rw [gd, decide_eq_false (show ¬ i = 6 by omega)]
        rfl
      by_cases h2 : r.2.length = 2
      · refine ⟨false, congrArg V.bl (show (!decide (V.int ((r.2.length : Nat) : Int) = V.int 2)) = false by rw [h2]; rfl), iteF ?_⟩
        obtain ⟨p, ws⟩ := r
        match ws, h2 with
        | [a, b], _ =>
          have eo : okR L [a, b] = (sd a L && sd b L) := by
            unfold okR
            simp
          rw [eo] at bd
          have ha := t2 a List.mem_cons_self
          have hb := t2 b (List.mem_cons_of_mem _ List.mem_cons_self)
          refine ⟨_, rfl, p, _, (0 : Int), _, rfl, rfl, SqT.of tr', rfl, _, rfl, a, L, rfl, ha, hL, fun H3 s3 => ⟨_, rfl, ?_⟩⟩
          cases hsa : sd a L with
          | false =>
            refine iteT (iteT ⟨_, rfl, give ?_ _ (sm.trans s3)⟩)
            rw [bd, hsa]
            rfl
          | true =>
            refine iteF ?_
            refine ⟨_, rfl, p, _, (1 : Int), _, rfl, rfl, SqT.of (s3 _ _ tr'), rfl, _, rfl, b, L, rfl, hb, hL, fun H4 s4 => ⟨_, rfl, ?_⟩⟩
            cases hsb : sd b L with
            | false =>
              refine iteT ⟨_, rfl, give ?_ _ ((sm.trans s3).trans s4)⟩
              rw [bd, hsa, hsb]
              rfl
            | true =>
              refine iteF ⟨_, _, rfl, (sm.trans s3).trans s4, next ?_⟩
              rw [bd, hsa, hsb]
              rfl
      · refine ⟨true, congrArg V.bl (show (!decide (V.int ((r.2.length : Nat) : Int) = V.int 2)) = true by rw [decide_eq_false fun z => h2 (by injection z with z; omega)]; rfl), iteT ⟨_, rfl, give ?_ _ sm⟩⟩
        rw [bd]
        unfold okR
        rw [decide_eq_false h2]
        rfl
    · rintro σ H2 ⟨y2, y3, rfl, sm, hok⟩
      rw [en] at hok
      exact qN (fun i hi => hok i (by rw [List.length_map] at hi; exact hi)) H2 sm
end
end K15
set_option maxRecDepth 100000
set_option maxHeartbeats 1000000
namespace Rs
open PySem PySem.Spec PyProof.Rows L2
section
variable {X : Cx} {CX : CXT} {k : Nat} {f C fI : Addr} {fd : FuncData} {ps ks : List Str} {sp : Sp} {E : XK} {x m : Str} {o : Expr} {ta : TE} {p pos apos : Pos} {kws : List Keyword} {tk : TA} {g : List Value → List Value → List Value} {gV : List V → List V → List V}
/-- o.m(k = v, ..): keywords alone -/
def tMethK (C : Addr) (m : Str) (sp : Sp) (gV : List V → List V → List V) (E : XK) (ta : TE) (tk : TA) : TE := fun σ H Q => ta σ H fun x H1 => ∃ a dx fs, x = .ref a ∧ H1 a = some (.ins C dx fs) ∧ fs.lookup m = none ∧ tk σ H1 fun zs H2 => sp (gV [.ref a] zs) H2 Q E
theorem e_methK {pl : Sem Bool} (ho : PE X o ta) (c : Cls X.K C) (hm : Meth X.K C m f) (F : FnOk X.prog X.w X.K X.mg X.base CX k f fd ps sp) (hr : Room k X.A) (hb : KBinds X.K fd ps ks g gV) (hx : Passes CX X E) (hkw : PK X kws tk)
    (hall : (backToKw pos (keywordEach kws X.env)).all (·.1.isSome) = true := by rfl) (hks : (backToKw pos (keywordEach kws X.env)).filterMap (·.1) = ks := by rfl)
    (hpl : ((backTo pos (starEach [] X.env)).any (·.1) || (backToKw pos (keywordEach kws X.env)).any (·.1.isNone)) = false := by rfl)
    (ht : eval (.Call (.Attribute o m apos) [] kws pos) X.env = (do let ov ← eval o X.env; standAt apos.atName; let (f, first) ← holding [ov] (getMethod ov m pl); callWith pos f first (backTo pos (starEach [] X.env)) (backToKw pos (keywordEach kws X.env))) := by rfl) :
    PE X (.Call (.Attribute o m apos) [] kws pos) (tMethK C m sp gV E ta tk) := by
  refine ⟨fun pins s σ H Q I h => PySem.W.methodCall_KW (pl := pl) (thn (ho.run pins s σ H _ I h) fun u s1 ⟨y, H1, I1, ry, a, dx, fs, ey, ea, l, q⟩ => ?_) ht⟩
  subst ey
  obtain rfl : u = Value.ref a := ry
  refine getmeth_ok I1 ea c hm l (PySem.W.callWith_KW0 (first := [.ref a]) (h₀ := X.base) I.ok.mod.kin hm.kp hall (thn (hkw.run pos pins s1 σ H1 _ I1 q) ?_) hpl)
  rintro ws s2 ⟨zs, H2, I2, rz, q2⟩
  refine ⟨I2.kIn, ?_⟩
  rw [hks]
  exact run_fnk (us := [.ref a]) (vs := [.ref a]) F hr hb hx I2 (.cons rfl .nil) rz q2
/-- o.m() by a positional promise -/
theorem e_methR0 {pl : Sem Bool} (ho : PE X o ta) (c : Cls X.K C) (hm : Meth X.K C m f) (F : FnR X.prog X.w X.K X.mg X.base CX k f sp) (hr : Room k X.A) (hx : Passes CX X E)
    (ht : eval (.Call (.Attribute o m apos) [] [] pos) X.env = (do let ov ← eval o X.env; standAt apos.atName; let (f, first) ← holding [ov] (getMethod ov m pl); callWith pos f first (backTo pos (starEach [] X.env)) (backToKw pos (keywordEach [] X.env))) := by rfl) :
    PE X (.Call (.Attribute o m apos) [] [] pos) (tMethR C m sp E ta tNil) := by
  refine ⟨fun pins s σ H Q I h => PySem.W.methodCall_KW (pl := pl) (thn (ho.run pins s σ H _ I h) fun u s1 ⟨y, H1, I1, ry, a, dx, fs, ey, ea, l, q⟩ => ?_) ht⟩
  subst ey
  obtain rfl : u = Value.ref a := ry
  refine getmeth_ok I1 ea c hm l (PySem.W.callWith_K0 (first := [.ref a]) I1.kIn hm.kp ?_)
  exact wpAny_call (run_fnR (us := [.ref a]) (vs := [.ref a]) F hr hx I1 (.cons rfl .nil) q)
/-- self and one keyword -/
def two {α : Type} : List α → List α → List α
  | [x], [y] => [x, y]
  | _, _ => []
theorem two_rel {vs : List V} {us : List Value} {zs : List V} {ws : List Value} (r : Vals vs us) (rz : Vals zs ws) : Vals (two vs zs) (two us ws) := by
  match r, rz with
  | .cons r1 .nil, .cons r2 .nil => exact .cons r1 (.cons r2 .nil)
  | .nil, _ => exact .nil
  | .cons _ .nil, .nil => exact .nil
  | .cons _ .nil, .cons _ (.cons _ _) => exact .nil
  | .cons _ (.cons _ _), _ => exact .nil
/-- an own exception without arguments -/
theorem mk_oex0 (T : OexC X.K C) (iC : PySem.W.findIn X.K (.ref C) "__init__" = some (some (.ref fI))) (tI : PySem.W.typeIn X.K (.ref fI) = some (.type "function")) (F : FnOk X.prog X.w X.K X.mg X.base CX k fI fd ps sp) (hr : Room (k + 1) X.A) (hb : Binds X.K fd ps [])
    (hx : Passes CX X (fun _ _ _ => False)) (hg : Gl X x) (hm : X.mg x = some (.ref C)) (hdb : (x == ("__debug__" : Str)) = false := by decide) : PMk X (.Call (.Name x p) [] [] pos) (tMkO C sp [] tNil) := by
  rintro pins ⟨hp, g, dr, tk, os⟩ σ H Q I h
  obtain ⟨_, q1⟩ := h
  obtain ⟨n0, n1, N, n3, bm, n5, n6, n7, n8, n9, j0, j1, j2, j3, j5, hC, hbm⟩ := T.cls
  refine wpAny_Call_Name_kw (ld_glob I hg hm (PySem.W.callWith_K0 I.kIn T.kC ?_) hdb)
  have le1 : hp.objs.size ≤ hp.objs.size + 1 := by omega
  have hq := q1 (hp.objs.size + 1) (I.hok.fresh le1)
  have kk : ∀ b o, hp.get? b = some o → ((hp.push (PySem.W.kdv_tup [])).push (PySem.HandSPX.excO C hp.objs.size)).get? b = some o := fun b o e => Heap.get?_push_of_some _ (Heap.get?_push_of_some _ e)
  have gt : ((hp.push (PySem.W.kdv_tup [])).push (PySem.HandSPX.excO C hp.objs.size)).get? (hp.objs.size + 1) = some (PySem.HandSPX.excO C hp.objs.size) := by heap_get
  have I2 : Inv X pins σ (upd H (hp.objs.size + 1) (exo (hp.objs.size + 1) C none)) ⟨(hp.push (PySem.W.kdv_tup [])).push (PySem.HandSPX.excO C hp.objs.size), g, dr, tk, os⟩ := I.laid (a := hp.objs.size + 1) kk le1 (exo_ok gt)
  have rr : Vals [V.ref (hp.objs.size + 1)] [Value.ref (hp.objs.size + 1)] := .cons rfl .nil
  have hl : ([Value.ref (hp.objs.size + 1)] ++ []).length = ps.length := by
    have e := F.len _ _ _ _ hq
    exact e
  show wpAny _ _ (call (.ref C) []) _ _ _
  refine wpAny_call (PySem.HandSPX.call_own (rest := []) PySem.F.excBase_ValueError (fun Y => PySem.HandSPX.refsVE_contains Y bm hbm) (I.kIn _ _ hC) (PySem.W.looks_findIn I.kIn iC) (fun self => PySem.W.bind_fn I.kIn self tI) (Nat.zero_le _)
    (codeAny_mono (F.run _ X.stack _ _ ⟨[Value.ref (hp.objs.size + 1)], []⟩ [Value.ref (hp.objs.size + 1)] _ _ (fun _ _ _ => False) (hr.make C [] []) (I2.env0.make C [] []) (hb _ [Value.ref (hp.objs.size + 1)] I2.kIn hl) rr hq) fun r s' hq' => ?_))
  match r, hq' with
  | .error er, hq' => exact hx pins σ _ _ er s' I2 hq'
  | .ok (.ret u), hq' =>
    obtain ⟨v, H2, os2, bare2, un2, hok2, rv, ev, d, fs, ea, ed, hd1, q2⟩ := hq'
    subst ev
    obtain ⟨h2, g2, d2, t2, os'⟩ := s'
    exact ⟨rv, mk_end (raises_own T.exC T.tyC) I le1 kk un2 hok2 os2 bare2 ea ed hd1 q2⟩
  | .ok .next, hq' | .ok .brk, hq' | .ok .cont, hq' => exact False.elim hq'
end
end Rs
set_option maxRecDepth 100000
set_option maxHeartbeats 1000000
namespace Rs
open PySem PySem.Spec PyProof.Rows L2
/-- x, *y = a list -/
theorem unpack_one {prog : Program} {w : World} {A : Around} {E : Value → Shared → Prop} {s : Shared} {l : Addr} {items : Array Value} {Q : List Value → Shared → Prop} (hl : s.heap.IsList l items) (hh : A.handled = none) (h1 : 1 ≤ items.size) (hz : items.size ≤ sizeLine)
    (q : ∀ h' tk, (∀ b o, s.heap.get? b = some o → h'.get? b = some o) → wpAny (model prog w) A (newList (items.toList.drop 1)) (fun d s' => Q (items.toList.take 1 ++ [d] ++ []) s') E { s with heap := h', toks := tk }) : wpAny (model prog w) A (unpackItems (.ref l) 2 (some 1)) Q E s := by
  have ne : l ≠ s.heap.objs.size := by
    obtain ⟨o, ho, _⟩ := id hl
    exact Nat.ne_of_lt (Heap.lt_size ho)
  unfold unpackItems notIterableAtAll
  refine wpAny_bind (wpAny_bind (wpAny_specialOf hl.typeIs slot_list_iter.lookup (wpAny_pure ?_)))
  simp only [Bool.false_eq_true, if_false]
  refine wpAny_bind (wpAny_holding (wpAny_pyIter_list hl (wpAny_bind (wpAny_holding (PySem.W.kun_draw ne 1 0 _ _ ⟨_, Heap.get?_push_size _ rfl, rfl, rfl⟩ (hl.push _) (by omega) fun h1' it1 sb => ?_)))))
  have l1 : h1'.IsList l items := (hl.push _).extBut sb.extBut ne
  rw [Nat.zero_add] at it1
  obtain ⟨oi, hoi, _⟩ := id it1
  obtain ⟨ol, hol, _⟩ := id l1
  rw [List.drop_zero]
  have fl : (items.toList.take 1).length = 1 := by
    rw [List.length_take, Array.length_toList]
    omega
  rw [if_neg (by omega)]
  refine wpAny_bind (wpAny_holding (PySem.W.kun_collect (s := { s with heap := h1' }) (T := "list_iterator") (.inr (.inr (.inl rfl))) (Walks.list (A := A.in1) hh s.heap.objs.size l ne items) (fun j u st => st.1.typeIs) (k := 1) h1 ⟨it1, l1⟩ (Heap.lt_size hoi) (Heap.lt_size hol) (fun h2 tk k2 => ?_) hz))
  have lr : (items.toList.drop 1).length = items.size - 1 := by rw [List.length_drop, Array.length_toList]
  have e1 : (items.toList.drop 1).take ((items.toList.drop 1).length - (2 - 1 - 1)) = items.toList.drop 1 := List.take_of_length_le (by omega)
  have e2 : (items.toList.drop 1).drop ((items.toList.drop 1).length - (2 - 1 - 1)) = [] := List.drop_eq_nil_of_le (by omega)
  show wpAny _ _ (if (items.toList.drop 1).length < 2 - 1 - 1 then _ else _) _ _ _
  rw [if_neg (by omega)]
  show wpAny _ _ (newList ((items.toList.drop 1).take ((items.toList.drop 1).length - (2 - 1 - 1))) >>= fun d => pure (items.toList.take 1 ++ [d] ++ (items.toList.drop 1).drop ((items.toList.drop 1).length - (2 - 1 - 1)))) _ _ _
  rw [e1, e2]
  refine wpAny_bind (wpAny_mono (q h2 tk fun b o e => ?_) (fun d s' h => wpAny_pure h) fun _ _ x => x)
  have hb : b ≠ s.heap.objs.size := Nat.ne_of_lt (Heap.lt_size e)
  exact k2 b o hb (sb.extBut b o hb (Heap.get?_push_of_some _ e))
def gStar (K : PySem.W.Frag) (t : TGs) : TG := fun v σ H Q => ∃ a x xs, v = .ref a ∧ SqL K H a (x :: xs) ∧ ∀ p, H p = none → t [x, .ref p] σ (upd H p (.lst xs)) Q
theorem pg_star {X : Cx} {es : List Expr} {k : Nat} {pos : Pos} {t : TGs} (hc : X.calm = true) (h : PGs X es t) (hn : (assignEach es X.env).length = 2 := by rfl) (hst : (assignEach es X.env).findIdx? (·.1) = some 1 := by rfl) : PG X (.Tuple es k pos) (gStar X.K t) := by
  refine ⟨fun pins s σ H v u Q I r hw => ?_⟩
  obtain ⟨a, x, xs, rfl, hq, q⟩ := hw
  cases r
  obtain ⟨its, rv, pl, hz⟩ := I.list hq
  obtain ⟨i0, its', rfl⟩ : ∃ i0 its', its = i0 :: its' := by
    cases rv
    exact ⟨_, _, rfl⟩
  have hz' : xs.length + 1 ≤ sizeLine := hz
  cases rv with
  | cons r0 rv =>
    have el := rv.length
    rw [PyProof.Rows.assign_Tuple]
    refine wpAny_bind (wpAny_standAt ?_)
    unfold unpack
    rw [hn, hst]
    refine wpAny_bind (wpAny_holding (unpack_one pl.isList (I.ok.hd hc) (by simp) (by simp; omega) fun h' tk hk => ?_))
    have I1 : Inv X pins σ H { s with heap := h', toks := tk } := I.kept hk
    have hf : H h'.objs.size = none := I1.hok.fresh (Nat.le_refl _)
    refine wpAny_newList (s := { s with heap := h', toks := tk }) ?_ (by simp; omega)
    have I2 : Inv X pins σ (upd H h'.objs.size (.lst xs)) { s with heap := h'.push { cls := .type "list", data := .seq (List.drop 1 (i0 :: its')).toArray }, toks := tk } :=
      I1.laid (t' := tk) (fun b u e => Heap.get?_push_of_some _ e) (Nat.le_refl _) ⟨by omega, its', 0, rv, Heap.get?_push_size _ rfl⟩
    exact h.run pins _ σ _ [x, .ref h'.objs.size] _ Q I2 (.cons r0 (.cons rfl .nil)) (q _ hf)
end Rs
set_option maxRecDepth 100000
set_option maxHeartbeats 1000000
/-! enumerate(list, start=k) -/
namespace Rs
open PySem PySem.Spec PyProof.Rows L2
theorem call_typeKw {M : Model} {A : Around} {env : Env} {pos : Pos} {T : String} {e : Expr} {kws : List Keyword} {Q E : Value → Shared → Prop} {s : Shared}
    (h : wpAny M A (spliced (backTo pos (starEach [e] env))) (fun vs s₁ => wpAny M A (evalAll ((backToKw pos (keywordEach kws env)).map (·.2))) (fun kvs s₂ => wpAny M A (call (.type T) vs (((backToKw pos (keywordEach kws env)).filterMap (·.1)).zip kvs)) Q E s₂) E s₁) E s)
    (he : starEach [e] env = [(false, eval e env)]) (hall : (backToKw pos (keywordEach kws env)).all (·.1.isSome) = true) (hnone : (backToKw pos (keywordEach kws env)).any (·.1.isNone) = false) :
    wpAny M A (callWith pos (.type T) [] (backTo pos (starEach [e] env)) (backToKw pos (keywordEach kws env))) Q E s := by
  have hp : (backTo pos (starEach [e] env)).any (·.1) = false := by
    rw [he]
    rfl
  have h2 := evalArgs_kw2 (f := .type T) (Q := fun a s₁ => wpAny M A (call (.type T) ([] ++ a.pos) a.kw) Q E s₁) hall h he
  unfold callWith
  refine wpAny_bind (wpAny_holding (wpAny_mono h2 (fun a s₁ h₁ => wpAny_bind (wpAny_standAt ?_)) fun _ _ x => x))
  simp only [hp, hnone, Bool.or_false]
  exact wpAny_bind (wpAny_pure (wpAny_bind (wpAny_mono h₁ (fun r s₂ hr => wpAny_bind (wpAny_holding (wpAny_point (wpAny_pure hr)))) fun _ _ x => x)))
/-- the list at a, each item in a new pair, counted from k0 -/
def ItetL (K : PySem.W.Frag) (a : Addr) (k0 : Int) : It :=
  ⟨fun i H => ∃ (xs : List V) (x : V), SqL K H a xs ∧ xs[i]? = some x, fun i H v H' => ∃ T x, v = .ref T ∧ H T = none ∧ H' = upd H T (.tup [.int (k0 + (i : Nat)), x]) ∧ ∀ xs, SqL K H a xs → xs[i]? = some x, fun i H => ∃ xs : List V, SqL K H a xs ∧ xs.length ≤ i⟩
theorem turn_enumL {P : Program} {w : World} {K : PySem.W.Frag} {elts : List Expr} {kk : Nat} {tpos : Pos} (k0 : Int) (a e it : Addr) :
    Turn P w K (.Tuple elts kk tpos) (ItetL K a k0) [e, it] e (fun i h => (∃ old, IsEnum h e it (k0 + ((i : Nat) : Int)) old) ∧ h.IsListIter it a i ∧ e ≠ it) where
  mem := by simp
  obj := fun i h st b hb => by
    obtain ⟨⟨old, he⟩, ⟨o, ho, hc, hd⟩, _⟩ := st
    have e' : b = e ∨ b = it := by simpa using hb
    rcases e' with z | z
    · rw [z]; exact ⟨_, he, fun v q => nomatch q⟩
    · rw [z]; exact ⟨o, ho, fun v q => by rw [hd] at q; cases q⟩
  keep := fun i h h' st k => let ⟨⟨old, he⟩, hi, hne⟩ := st; ⟨⟨old, k e (by simp) _ he⟩, hi.at fun o q => k it (by simp) o q, hne⟩
  item := by
    intro X hP hw hK hc i pins s σ H E I hf st hg
    subst hP hw hK
    obtain ⟨⟨old, he⟩, hit, hne⟩ := st
    obtain ⟨xs, x, hq, hx⟩ := hg
    obtain ⟨its, rv, p, hz⟩ := I.list hq
    obtain ⟨u, hu, ru⟩ := rv.get hx
    have hel : e < s.heap.objs.size := Heap.lt_size he
    have hil : it < s.heap.objs.size := by obtain ⟨_, q, _⟩ := hit; exact Heap.lt_size q
    have ptu : s.heap.IsList a its.toArray := p.isList
    have hai : a ≠ it := by
      intro z
      obtain ⟨o1, q1, c1, _⟩ := hit
      obtain ⟨o2, q2, c2, _⟩ := ptu
      rw [z, q1] at q2
      injection q2 with q2
      rw [q2, c2] at c1
      exact absurd (Value.type.inj c1) (by decide)
    have hae : e ≠ a := by
      intro z
      obtain ⟨o2, q2, c2, _⟩ := ptu
      have he2 : s.heap.get? e = _ := he
      rw [z, q2] at he2
      injection he2 with he2
      rw [he2] at c2
      exact absurd (Value.type.inj c2) (by decide)
    have hlt : i < its.toArray.size := by
      have := (List.getElem?_eq_some_iff.mp hu).1
      simpa using this
    refine PySem.wpAny_pyNext_enum_itemC (Draws.list (show X.A.in1.handled = none from I.ok.hd hc) it a hai its.toArray) he ⟨hit, ptu⟩ hlt hne (by simp [hne, hae]) fun x' h' tk hP ho hst hT hsz hk => ?_
    have ex : x' = u := by
      have hP : its.toArray[i]? = some x' := hP
      have hu2 : its.toArray[i]? = some u := by simpa using hu
      exact Option.some.inj (hP.symm.trans hu2)
    subst ex
    obtain ⟨hit', _⟩ := hst
    refine ⟨_, rfl, wpAny_letOwnedTupleGo_enum (s := { s with heap := h', toks := tk + 1 }) ho fun h'' he' sb => ?_⟩
    have hT2 : h''.get? s.heap.objs.size = some { cls := .type "tuple", data := .seq #[.int (k0 + (i : Nat)) tk, x'] } := (sb.2 _ (Nat.ne_of_gt hel)).trans hT
    have new : ObjOk X.prog X.w (upd H s.heap.objs.size (.tup [.int (k0 + (i : Nat)), x])) h'' s.heap.objs.size (.tup [.int (k0 + (i : Nat)), x]) :=
      ⟨by show 2 ≤ sizeLine; decide, [.int (k0 + (i : Nat)) tk, x'], .cons ⟨_, rfl⟩ (.cons ru .nil), ⟨_, hT2, rfl, _, rfl⟩⟩
    have I1 : Inv X pins σ (upd H s.heap.objs.size (.tup [.int (k0 + (i : Nat)), x])) { s with heap := h'', toks := tk + 1 } :=
      I.turnedNew (ch := [e, it]) (fun b ob hb q => (sb.2 b (fun z => hb (by simp [z]))).trans (hk b ob (fun z => hb (by simp [z])) (fun z => hb (by simp [z])) q)) hf (Nat.le_refl _) new
    refine ⟨.ref s.heap.objs.size, _, I1, rfl, ⟨_, x, rfl, I.hok.fresh (Nat.le_refl _), rfl, fun ys hy => by rw [I.list_inj hy hq]; exact hx⟩, ⟨⟨x', ?_⟩, hit'.at fun o q => (sb.2 it (Ne.symm hne)).trans q, hne⟩, fun b hb => ?_⟩
    · have e1 : k0 + ((i + 1 : Nat) : Int) = k0 + (i : Int) + 1 := by omega
      rw [e1]; exact he'
    · have hb' : b < s.heap.objs.size := by
        have e' : b = e ∨ b = it := by simpa using hb
        rcases e' with z | z
        · rw [z]; exact hel
        · rw [z]; exact hil
      rw [upd_ne (Nat.ne_of_lt hb')]
      exact (hf b hb).1
  done := by
    intro X hP hw hK hc i pins s σ H E I hf st hg
    subst hP hw hK
    obtain ⟨⟨old, he⟩, hit, hne⟩ := st
    obtain ⟨xs, hq, hx⟩ := hg
    obtain ⟨its, rv, p, hz⟩ := I.list hq
    obtain ⟨f0, f1, f2, f3, f4, f5⟩ := hf it (by simp)
    have hl := rv.length
    have ptu : s.heap.IsList a its.toArray := p.isList
    have hT : s.TypeIs (.ref e) "enumerate" := ⟨_, he, rfl⟩
    unfold pyNext
    refine wpAny_bind (wpAny_attempt (wpAny_callSpecial?_slot (name := Str.ofString "__next__") hT F.slot_enumerate_next
      (wpAny_call_entry F.slot_enumerate_next hT F.entry_enumerate_next ?_ (F.args_enumerate_next_1 _))))
    show wpAny _ _ (field (.ref e) 2 >>= _) _ _ _
    refine wpAny_bind (wpAny_field he rfl (x := .ref it) rfl ?_)
    refine wpAny_bind (wpAny_nextOf_list_end (show X.A.in1.handled = none from I.ok.hd hc) hit ptu (by simp; omega) fun h' x he' hx' => ?_)
    obtain ⟨o, ho, hc'⟩ := hx'
    refine wpAny_bind (wpAny_isInstance (T := "StopIteration") (b := true) ⟨o, ho, hc'⟩ isSubtype_stop ?_)
    exact wpAny_pure ⟨rfl, I.turned (t' := s.toks) (fun b o hb q => he' b o hb q) f0 f1 f3 f4 f5⟩
  self := fun A i s Q E st h => let ⟨⟨_, he⟩, _⟩ := st; wpAny_pyIter_enum he h
def iEnumL (K : PySem.W.Frag) (ta tk : TA) : TI := fun σ H R => ta σ H fun vs H1 => tk σ H1 fun zs H2 => ∃ a xs k0, vs = [.ref a] ∧ zs = [.int k0] ∧ -(2 ^ 63) ≤ k0 ∧ k0 < 2 ^ 63 ∧ SqL K H2 a xs ∧ R (ItetL K a k0) H2
theorem pi_enumL {X : Cx} {e : Expr} {kws : List Keyword} {ta tk : TA} {p pos tpos : Pos} {elts : List Expr} {kk : Nat} (hg : Gl X "enumerate") (hm : X.mg "enumerate" = none) (ha : PA X [e] ta) (hk : PK X kws tk)
    (hs : starEach [e] X.env = [(false, eval e X.env)] := by rfl) (hall : (backToKw pos (keywordEach kws X.env)).all (·.1.isSome) = true := by rfl) (hnone : (backToKw pos (keywordEach kws X.env)).any (·.1.isNone) = false := by rfl) (hks : (backToKw pos (keywordEach kws X.env)).filterMap (·.1) = [("start" : Str)] := by rfl) :
    PI X (.Tuple elts kk tpos) (.Call (.Name "enumerate" p) [e] kws pos) (iEnumL X.K ta tk) := by
  refine ⟨fun pins s σ H R I h => ?_⟩
  refine wpAny_Call_Name_kw (ld_blt I hg hm boot_enumerate ?_)
  refine call_typeKw (thn (ha.run pos pins s σ H _ I h) fun us s1 ⟨vs, H1, I1, r1, q1⟩ => thn (hk.run pos pins s1 σ H1 _ I1 q1) fun ws s2 ⟨zs, H2, I2, r2, q2⟩ => ?_) hs hall hnone
  obtain ⟨a, xs, k0, rfl, rfl, k1, k2, hq, q⟩ := q2
  rw [hks]
  match r1, r2 with
  | .cons r .nil, .cons r' .nil =>
    cases r
    obtain ⟨tt, rfl⟩ := r'
    obtain ⟨its, rv, p', hz⟩ := I2.list hq
    refine enum_begins_start (begins_list a its.toArray) p'.isList k1 k2 fun h' he hit hsz hk => wpAny_pyIter_enum he ?_
    have I3 : Inv X pins σ H2 { s2 with heap := h' } := I2.kept (t' := s2.toks) hk
    have he' : IsEnum h' (s2.heap.objs.size + 1) s2.heap.objs.size (k0 + ((0 : Nat) : Int)) .none := by
      rw [show k0 + ((0 : Nat) : Int) = k0 by omega]
      exact he
    refine ⟨s2.heap.objs.size + 1, [s2.heap.objs.size + 1, s2.heap.objs.size], _, _, H2, rfl, I3, turn_enumL k0 a (s2.heap.objs.size + 1) s2.heap.objs.size, ⟨⟨.none, he'⟩, ⟨_, hit, rfl, rfl⟩, Nat.succ_ne_self _⟩, fun b hb => ?_, q⟩
    have e' : b = s2.heap.objs.size + 1 ∨ b = s2.heap.objs.size := by simpa using hb
    have hle : s2.heap.objs.size ≤ b := by
      rcases e' with z | z
      · rw [z]; exact Nat.le_add_right _ _
      · rw [z]; exact Nat.le_refl _
    exact I2.fpOk hle (I2.hok.fresh hle)
theorem walk_enumL {K : PySem.W.Frag} {a : Addr} {xs : List V} {k0 : Int} : Walk (ItetL K a k0) xs.length (fun H => SqL K H a xs) (YPair (fun i => some (.int (k0 + (i : Nat)))) (fun i => xs[i]?)) := by
  refine ⟨fun i _ hi q => ⟨xs, xs[i], q, by simp [hi]⟩, fun _ q => ⟨xs, q, Nat.le_refl _⟩, fun i H v H' _ q y => ?_⟩
  obtain ⟨T, x, h1, h2, h3, h4⟩ := y
  exact ⟨T, .int (k0 + (i : Nat)), x, h1, h2, h3, rfl, h4 xs q⟩
end Rs
set_option maxRecDepth 100000
set_option maxHeartbeats 1000000
namespace Rs
open PySem PySem.Spec PyProof.Rows L2 ClX
section
variable {X : Cx} {CX : CXT} {k i : Nat} {f C p g : Addr} {mc : Value} {fd : FuncData} {ps ks : List Str} {sp : Sp} {E : XK} {x m : Str} {o e : Expr} {es : List Expr} {ta : TE} {t tk : TA} {np pos apos : Pos} {kws : List Keyword} {gg : List Value → List Value → List Value} {gV : List V → List V → List V}
/-- C.m(k = v), m a classmethod -/
def tCMethK (C : Addr) (sp : Sp) (gV : List V → List V → List V) (E : XK) (ta : TE) (tk : TA) : TE := fun σ H Q => ta σ H fun x H1 => x = .ref C ∧ tk σ H1 fun zs H2 => sp (gV [.ref C] zs) H2 Q E
theorem e_cmethK {pl : Sem Bool} (ho : PE X o ta) (r : CRead X.K C mc) (c : CMet X.K C mc m p g) (F : FnOk X.prog X.w X.K X.mg X.base CX k g fd ps sp) (hr : Room k X.A) (hb : KBinds X.K fd ps ks gg gV) (hx : Passes CX X E) (hkw : PK X kws tk)
    (hall : (backToKw pos (keywordEach kws X.env)).all (·.1.isSome) = true := by rfl) (hks : (backToKw pos (keywordEach kws X.env)).filterMap (·.1) = ks := by rfl)
    (hpl : ((backTo pos (starEach [] X.env)).any (·.1) || (backToKw pos (keywordEach kws X.env)).any (·.1.isNone)) = false := by rfl)
    (ht : eval (.Call (.Attribute o m apos) [] kws pos) X.env = (do let ov ← eval o X.env; standAt apos.atName; let (f, first) ← holding [ov] (getMethod ov m pl); callWith pos f first (backTo pos (starEach [] X.env)) (backToKw pos (keywordEach kws X.env))) := by rfl) :
    PE X (.Call (.Attribute o m apos) [] kws pos) (tCMethK C sp gV E ta tk) := by
  refine ⟨fun pins s σ H Q I h => PySem.W.methodCall_KW (pl := pl) (thn (ho.run pins s σ H _ I h) fun u s1 ⟨y, H1, I1, ry, ey, q⟩ => ?_) ht⟩
  subst ey
  obtain rfl : u = Value.ref C := ry
  refine getmethcm_ok I1 r c fun s2 I2 => ?_
  refine PySem.W.callWith_of hpl (PySem.W.keeps_M c.fi) (evalArgs_kw2_nil hall (thn (hkw.run pos _ s2 σ H1 _ I2 q) fun ws s3 ⟨zs, H2, I3, rz, q2⟩ => ⟨⟨pin_at I3, I3.kIn⟩, ?_⟩))
  rw [hks]
  have r2 := hb.rel (vs := [V.ref C]) (us := [Value.ref C]) (.cons rfl .nil) rz
  have hl : (gg [.ref C] ws).length = ps.length := by rw [← r2.length]; exact F.len _ _ _ _ q2
  have z := wpAny_call (PySem.W.method_call (pin_at I3) (codeAny_mono (F.run X.A X.stack s3 H2 ⟨[.ref C], ks.zip ws⟩ (gg [.ref C] ws) (gV [.ref C] zs) Q E hr I3.env0 (hb.to s3 [.ref C] ws I3.kIn hl) r2 q2) fun r s' hq => (match r, hq with
    | .error er, hq => hx _ σ H2 s3 er s' I3 hq
    | .ok (.ret u), hq => I3.after hq
    | .ok .next, hq => hq
    | .ok .brk, hq => hq
    | .ok .cont, hq => hq)))
  exact thn z fun _ _ y => unpinE y
/-- x(e, .., *y), x a local name that holds a class -/
def tMakeLS (i : Nat) (C : Addr) (sp : Sp) (E : XK) (t : TA) : TE := fun σ H Q => σ[i]? = some (some (.ref C)) ∧ StX.tMakeR C sp E t σ H Q
theorem e_makeLS (M : Mk X.K C f) (F : FnR X.prog X.w X.K X.mg X.base CX k f sp) (hr : Room (k + 1) X.A) (hN : X.N[i]? = some x) (hv : Vis X.env.scope x) (hx : Passes CX X E) (ha : PA X (e :: es) t)
    (hdb : (x == ("__debug__" : Str)) = false := by decide) (hcd : (x == ("__classdict__" : Str)) = false := by decide)
    (he : starEach (e :: es) X.env = (false, eval e X.env) :: starEach es X.env := by rfl) (hst : (backTo pos (starEach es X.env)).any (·.1) = true := by rfl) : PE X (.Call (.Name x np) (e :: es) [] pos) (tMakeLS i C sp E t) := by
  refine ⟨fun pins s σ H Q I h => ?_⟩
  obtain ⟨hs, ht⟩ := h
  refine wpAny_Call_Name_kw (thn ((pe_var (pos := np) hN hv hdb hcd).run pins s σ H (fun v H1 => v = .ref C ∧ H1 = H) I ⟨.ref C, hs, rfl, rfl⟩) fun u s1 ⟨v, H1, I1, r1, q1⟩ => ?_)
  obtain ⟨rfl, rfl⟩ := q1
  cases r1
  refine PySem.W.callWith_S2 (h₀ := X.base) I.ok.mod.kin M.kp (thn (ha.run pos pins s1 σ _ _ I1 ht) fun us s2 ⟨vs, H2, I2, r, q⟩ => ⟨I2.kIn, ?_⟩) he hst
  exact StX.run_makeR M F hr hx I2 r q
end
end Rs
set_option maxRecDepth 100000
set_option maxHeartbeats 2000000
namespace K15
open PySem PySem.Spec PyProof.Rows L2 KA
abbrev sTT : Stmt := KT.inside (top 56) 15
abbrev NTt : List Str := ["self", "rules", "one", "other"]
theorem scTT : FnScope NTt ["self"] (defScope sTT) := ⟨rfl, rfl, rfl, by decide +kernel, rfl, by decide +kernel, by decide +kernel⟩
/-- a word's text, a rule's, a town's -/
def fw (l : List Nat) : List Nat := txq (rl l)
def rt (r : List (List Nat)) : List Nat := fw (r.getD 0 []) ++ ([32, 61, 32] ++ fw (r.getD 1 []))
def ttx (L : List Nat) (ws : List (List (List Nat))) : List Nat := TL.joinL [59, 32] (L :: ws.map rt)
/-- two words that may be written -/
def Rw (r : List (List Nat)) : Prop := ∃ a b, r = [a, b] ∧ a.length < 100 ∧ b.length < 100 ∧ Asc a ∧ Asc b
theorem jl_len (S : List Nat) : ∀ ys : List (List Nat), (TL.joinL S ys).length ≤ (ys.map (·.length)).sum + ys.length * S.length
  | [] => Nat.zero_le _
  | [p] => by
    show p.length ≤ p.length + 0 + 1 * S.length
    omega
  | p :: q :: r => by
    have h := jl_len S (q :: r)
    have e : TL.joinL S (p :: q :: r) = p ++ (S ++ TL.joinL S (q :: r)) := rfl
    rw [e, List.length_append, List.length_append, List.map_cons, List.sum_cons]
    simp only [List.length_cons] at h ⊢
    rw [Nat.add_mul (r.length + 1) 1 S.length, Nat.one_mul]
    omega
theorem sum_le_of {m : Nat} : ∀ {ys : List (List Nat)}, (∀ y ∈ ys, y.length ≤ m) → (ys.map (·.length)).sum ≤ m * ys.length
  | [], _ => Nat.zero_le _
  | y :: ys, h => by
    have h1 := h y List.mem_cons_self
    have h2 := sum_le_of (fun z hz => h z (List.mem_cons_of_mem y hz))
    rw [List.map_cons, List.sum_cons, List.length_cons, Nat.mul_succ]
    omega
theorem fw_len {l : List Nat} (h : l.length < 100) : (fw l).length ≤ 600 := by
  have h1 := rl_len l
  unfold fw txq
  split
  · decide
  · have h2 := jl_len [32] ((rl l).map tk)
    have h3 := sum_le_of (m := 5) (ys := (rl l).map tk) (fun y hy => by
      obtain ⟨z, _, rfl⟩ := List.mem_map.mp hy
      exact tk_len)
    rw [List.length_map] at h2 h3
    have e : ([32] : List Nat).length = 1 := rfl
    rw [e] at h2
    omega
theorem rt_len {r : List (List Nat)} (h : Rw r) : (rt r).length ≤ 1203 := by
  obtain ⟨a, b, rfl, ha, hb, _, _⟩ := h
  have h1 := fw_len ha
  have h2 := fw_len hb
  show (fw a ++ ([32, 61, 32] ++ fw b)).length ≤ 1203
  rw [List.length_append, List.length_append]
  have e : ([32, 61, 32] : List Nat).length = 3 := rfl
  omega
theorem eq3 : Str.ofString " = " = SX.S [32, 61, 32] := by decide
theorem sep2 : Str.ofString "; " = SX.S [59, 32] := by decide
def teT : TE := fun σ H Q => tJs [tFmt (tCall spFw [] E0 (tCons (tVar 2) tNil)), tC (.str (Str.ofString " = ")), tFmt (tCall spFw [] E0 (tCons (tVar 3) tNil))] Str.empty σ H fun out H1 => Q (.str out) H1
section
variable {P : Program} {w : World} {K : PySem.W.Frag} {mg : Str → Option Value} {base : Heap}
def spTt (C : Addr) : Sp := fun vs H Q _ => ∃ (x q : Addr) (L : List Nat) (rs : Rls), vs = [.ref x] ∧ Tn C H x L q rs ∧ (∀ r ∈ wds rs, Rw r) ∧ ∀ H', Same H H' → Q (tx (ttx L (wds rs))) H'
theorem ok_text {f fF C : Addr} {fd fdF : FuncData} {k : Nat} (F : Fun K "text" "Town.text" sTT f fd) (TC : TwC K C) (cF : KT.Cb P w K mg base CX0 (k + 2) "format_word" ["word"] spFw fF fdF) : FnOk P w K mg base CX0 (k + 3) f fd ["self"] (spTt C) := by
  refine F.ok scTT (fun vs H Q E h => ?_) (fun cdv A outer s H vs Q E hr h => ?_)
  · obtain ⟨x, q, L, rs, rfl, _⟩ := h
    rfl
  · obtain ⟨x, q, L, rs, rfl, hT, hw, qq⟩ := h
    obtain ⟨dx, t, hx⟩ := hT.ins
    have h6 := hT.sz
    have h3 := hT.lz
    refine ⟨_, pss_cons (ps_setLc (i := 1) (own := [("one", 2), ("other", 3)]) (g := gTup K 2 (gCons (gName 2) (gCons (gName 3) gNil))) (tt := tYes) (te := teT)
        rfl scTT.nd rfl rfl (sw_true rfl rfl rfl (by decide +kernel)) (pi_list (pe_fld (pv 0) rfl))
        (blkOk_by (N := NTt) (sc := defScope sTT) (by decide +kernel)) (fun _ _ _ _ _ => pg_tup rfl (pgs_cons (pg_name (i := 2) scTT.nd rfl (.inl rfl)) (pgs_cons (pg_name (i := 3) scTT.nd rfl (.inl rfl)) pgs_nil))) (fun _ _ _ _ _ => pts_nil)
        (fun _ _ _ _ _ => pe_joined (.cons (pe_fmt (pe_call cF.ok hr (by rfl) cF.g cF.kp cF.b .nil pass0 (pa_cons (pv 2) pa_nil))) (.cons pe_str (.cons (pe_fmt (pe_call cF.ok hr (by rfl) cF.g cF.kp cF.b .nil pass0 (pa_cons (pv 3) pa_nil))) .nil)))))
      (pss_one (ps_ret (pe_join pe_str (pe_lst (pa_cons (pe_fld (pv 0) rfl) (StX.pa_star (pv 1) pa_nil)))))), ?_⟩
    refine ⟨_, rfl, x, C, dx, _, .ref q, rfl, hx, TC.cl, TC.pa, rfl, q, rfl, ⟨_, SqL.of hT.lst⟩, fun D nD => ?_⟩
    refine lc_it (te := teT) (tt := tYes) (walk_list (K := K) (a := q) (xs := rfs rs)) (fun i H2 => Same H H2 ∧ H2 D = some (.lst (((wds rs).take i).map fun r => tx (rt r)))) ⟨same_new nD, upd_same⟩ (fun i H2 _ h => SqL.of (h.1 _ _ hT.lst)) ?_ ?_
    · rintro i z H2 H2' hi ⟨s2, hD⟩ ⟨rfl, hz⟩
      rw [List.length_map] at hi
      have gl : rs[i]? = some rs[i] := List.getElem?_eq_getElem hi
      obtain rfl : V.ref rs[i].1 = z := by
        rw [List.getElem?_map, gl] at hz
        exact Option.some.inj hz
      have hm : rs[i] ∈ rs := List.getElem_mem hi
      have gw : (wds rs)[i]? = some rs[i].2 := by rw [List.getElem?_map, gl]; rfl
      obtain ⟨a, b, eab, ha, hb, aa, ab⟩ := hw _ (List.mem_map.mpr ⟨_, hm, rfl⟩)
      have tr : H2' rs[i].1 = some (.tup (rs[i].2.map tx)) := (hT.row _ hm).same s2
      rw [eab] at tr gw
      generalize rs[i] = r at gl hm eab tr gw
      refine ⟨r.1, _, rfl, SqT.of tr, rfl, _, _, rfl, _, _, rfl, rfl, rfl, ?_⟩
      dsimp only [tYes]
      rw [if_pos rfl]
      have la := fw_len ha
      have lb := fw_len hb
      have ee : Str.empty = SX.S [] := by decide
      refine ⟨_, rfl, a, rfl, ha, aa, fun H3 s3 => .inl ⟨_, rfl, asc_big (w := fw a) (by omega), SX.S (fw a), rfl, ?_, ?_⟩⟩
      · rw [ee, SX.S_cat]
        exact asc_big (by simpa using by omega)
      rw [ee, SX.S_cat, List.nil_append]
      refine ⟨_, rfl, ?_, ?_⟩
      · rw [eq3, SX.S_cat]
        exact asc_big (by rw [List.length_append]; show (fw a).length + 3 ≤ 100000; omega)
      rw [eq3, SX.S_cat]
      refine ⟨_, rfl, b, rfl, hb, ab, fun H4 s4 => .inl ⟨_, rfl, asc_big (w := fw b) (by omega), SX.S (fw b), rfl, ?_, ?_⟩⟩
      · rw [SX.S_cat]
        exact asc_big (by rw [List.length_append, List.length_append]; show (fw a).length + 3 + (fw b).length ≤ 100000; omega)
      rw [SX.S_cat]
      have s34 := s3.trans s4
      have hD4 := s34 _ _ hD
      refine ⟨_, hD4, ?_, fun o v e => ?_, ?_⟩
      · rw [List.length_map, List.length_take]
        exact small1000 (by omega)
      · rw [upd_ne (ne_of_none e nD)]
        exact s34 _ _ (s2 _ _ e)
      · rw [upd_same, take_more gw, List.map_append]
        have e : rt [a, b] = fw a ++ [32, 61, 32] ++ fw b := by
          show fw a ++ ([32, 61, 32] ++ fw b) = _
          rw [List.append_assoc]
        show some (HO.lst (_ ++ [tx (fw a ++ [32, 61, 32] ++ fw b)])) = some (HO.lst (_ ++ [tx (rt [a, b])]))
        rw [e]
    · rintro H2 ⟨s2, hD⟩
      have el : (rfs rs).length = (wds rs).length := by rw [List.length_map, List.length_map]
      rw [el, List.take_length] at hD
      have hx2 := s2 _ _ hx
      refine ⟨⟨_, rfl⟩, _, rfl, x, C, dx, _, tx L, rfl, hx2, TC.cl, TC.al, rfl, _, rfl, D, _, rfl, .inr (SqL.of hD), ?_, fun p np => ?_⟩
      · rw [List.length_cons, List.append_nil, List.length_map, List.length_map]
        exact Nat.le_trans (show rs.length + 1 ≤ 8 by omega) (by decide)
      rw [List.append_nil]
      refine ⟨Str.ofString "; ", p, (L :: (wds rs).map rt).map SX.S, rfl, rfl, .inl (SqL.of ?_), ?_, ?_⟩
      · rw [upd_same]
        have e4 : ∀ ws : List (List (List Nat)), (ws.map fun r => tx (rt r)) = ((ws.map rt).map SX.S).map V.str := fun ws => by
          rw [List.map_map, List.map_map]
          rfl
        rw [e4]
        rfl
      · have h1 := sum_le_of (m := 1203) (ys := (wds rs).map rt) (fun y hy => by
          obtain ⟨r, hr, rfl⟩ := List.mem_map.mp hy
          exact rt_len (hw r hr))
        have e2 : (((L :: (wds rs).map rt).map SX.S).map (·.length)) = (L :: (wds rs).map rt).map (·.length) := by
          rw [List.map_map]
          exact List.map_congr_left fun y _ => tx_len y
        have e3 : (Str.ofString "; ").length = 2 := by decide
        rw [e2, e3, List.length_map, List.length_cons, List.length_map, List.length_map, List.map_cons, List.sum_cons]
        rw [List.length_map, List.length_map] at h1
        omega
      · rw [sep2, SX.join_S]
        exact qq _ (s2.trans (same_new np))
end
end K15
set_option maxRecDepth 100000
set_option maxHeartbeats 2000000
namespace K15
open PySem PySem.Spec PyProof.Rows L2 KA
abbrev sRdS : Stmt := top 64
abbrev sRdR : Stmt := top 63
theorem scRdS : FnScope ["text", "letters"] ["text", "letters"] (defScope sRdS) := ⟨rfl, rfl, rfl, by decide +kernel, rfl, by decide +kernel, by decide +kernel⟩
theorem scRdR : FnScope ["part", "letters", "at", "sides"] ["part", "letters", "at"] (defScope sRdR) := ⟨rfl, rfl, rfl, by decide +kernel, rfl, by decide +kernel, by decide +kernel⟩
/-- a side that is read: its word, or None where it is too long -/
def vR (L t : List Nat) : V := match rdW L t with
  | .ok w => tx w
  | .error _ => .non
def spRdS (Ce : Addr) : Sp := fun vs H Q E => ∃ t L : List Nat, vs = [tx t, tx L] ∧ t.length ≤ 9000 ∧ Asc t ∧ Lt L ∧ (∀ i, rdW L t = .error (some i) → FlP Ce i H E) ∧ ((∀ i, rdW L t ≠ .error (some i)) → ∀ H', Same H H' → Q (vR L t) H')
/-- a part of a town's text that can be read -/
structure Pg (L a b : List Nat) : Prop where
  na : 61 ∉ a
  nb : 61 ∉ b
  la : a.length ≤ 4000
  lb : b.length ≤ 4000
  aa : Asc a
  ab : Asc b
  ga : ∀ i, rdW L a ≠ .error (some i)
  gb : ∀ i, rdW L b ≠ .error (some i)
def prt (a b : List Nat) : List Nat := a ++ ([61] ++ b)
def spRdR : Sp := fun vs H Q _ => ∃ (a b L : List Nat) (at_ : Int), vs = [tx (prt a b), tx L, .int at_] ∧ Lt L ∧ Pg L a b ∧ ∀ H' p, Same H H' → H p = none → H' p = some (.tup [vR L a, vR L b]) → Q (.ref p) H'
theorem split_two {c : Nat} {ys : List (List Nat)} (hc : c < 256) (hne : ys ≠ []) (h : ∀ y ∈ ys, c ∉ y) : Txt.split (SX.S (TL.joinL [c] ys)) (SX.S [c]) = ys.map SX.S := by
  have e := TL.split_join (y := SX.S [c]) (s := c) (S := []) (by simp [TL.tl]) (by simp [hc]) (parts := ys.map SX.S) (fun z => hne (List.map_eq_nil_iff.mp z)) (fun p hp => by
    obtain ⟨y, hy, rfl⟩ := List.mem_map.mp hp
    have z := h y hy
    simpa [TL.tl] using z)
  rw [SX.join_S] at e
  exact e
theorem eq61 : Str.ofString "=" = SX.S [61] := by decide
section
variable {P : Program} {w : World} {K : PySem.W.Frag} {mg : Str → Option Value} {base : Heap}
theorem ok_rds {f fR Ce Cl : Addr} {fd fdR : FuncData} (F : Fun K "read_side" "read_side" sRdS f fd) (cR : KT.Cb P w K mg base (L2.CX P w) 31 "read_word" ["text", "letters"] (spRw Ce Cl) fR fdR) (gL : mg "TooLong" = some (.ref Cl)) (hLL : PySem.W.exmOne K (.ref Cl) (.ref Cl) = some true) (hPL : PySem.W.exmOne K (.ref Ce) (.ref Cl) = some false) :
    FnOk P w K mg base (L2.CX P w) 32 f fd ["text", "letters"] (spRdS Ce) := by
  refine F.okX scRdS (fun vs H Q E h => ?_) (fun cdv A outer s H vs Q E hr h => ?_)
  · obtain ⟨t, L, rfl, _⟩ := h
    rfl
  · obtain ⟨t, L, rfl, ht, hA, hL, qe, q⟩ := h
    refine ⟨_, pss_one (ps_try_only (tb := fun W => tRet (tCallS (spRw Ce Cl) (WE W) (tCons (tVar 0) (tCons (tVar 1) tNil)))) (ts := fun _ _ _ => tRet (tC .non)) (Wout := fun cls d _ H => E cls d H) rfl rfl ⟨rfl, by decide, .inl gL⟩ (takes_of rfl rfl rfl rfl)
      (fun W pn xe tk _ => pss_one (ps_ret (pe_callS cR.ok hr (by rfl) cR.g cR.kp cR.b (fun σ => passAt tk σ) (pa_cons (pv 0) (pa_cons (pv 1) pa_nil))))) (fun _ _ _ _ _ _ _ => pss_one (ps_ret pe_non))), ?_⟩
    refine ⟨_, rfl, _, rfl, t, L, rfl, ht, hA, hL, fun wd e H1 s1 => ?_, fun i e H' d s nd hd => ?_, fun e H' d s nd hd => ?_⟩
    · have z := q (fun i => by rw [e]; exact fun z => nomatch z) H1 s1
      unfold vR at z
      rw [e] at z
      exact z
    · exact ⟨false, hPL, (fun z => nomatch z), fun _ => qe i e H' d s nd hd⟩
    · refine ⟨true, hLL, fun _ a na => ?_, (fun z => nomatch z)⟩
      have z := q (fun i => by rw [e]; exact fun z => nomatch z) H' s
      unfold vR at z
      rw [e] at z
      exact z
theorem ok_rdr {f fR Ce : Addr} {fd fdR : FuncData} (F : Fun K "read_rule" "read_rule" sRdR f fd) (B : Bn mg) (cR : KT.Cb P w K mg base (L2.CX P w) 32 "read_side" ["text", "letters"] (spRdS Ce) fR fdR) (gP : mg "ParseError" = some (.ref Ce)) : FnOk P w K mg base (L2.CX P w) 33 f fd ["part", "letters", "at"] spRdR := by
  refine F.okX scRdR (fun vs H Q E h => ?_) (fun cdv A outer s H vs Q E hr h => ?_)
  · obtain ⟨a, b, L, i, rfl, _⟩ := h
    rfl
  · obtain ⟨a, b, L, i, rfl, hL, g, q⟩ := h
    refine ⟨_, pss_cons (ps_set (i := 3) scRdR.nd rfl (.inl rfl) (pe_split (pv 0) pe_str))
      (pss_cons (ps_if (pt_cmpR op_ne (pe_callB call_len_seq (by rfl) B.len PySem.boot_len (pa_cons (pv 3) pa_nil)) pe_int (nomark _)) pss_never pss_nil)
      (pss_one (ps_try_only (tb := fun W => tRet (tTup (tCons (tCallS (spRdS Ce) (WE W) (tCons (tOp (rIxL K) (tVar 3) (tC (.int 0))) (tCons (tVar 1) tNil))) (tCons (tCallS (spRdS Ce) (WE W) (tCons (tOp (rIxL K) (tVar 3) (tC (.int 1))) (tCons (tVar 1) tNil))) tNil)))) (ts := fun _ _ _ _ _ _ => False) (Wout := fun cls d _ H => E cls d H) rfl rfl ⟨rfl, by decide, .inl gP⟩ (takes_of rfl rfl rfl rfl)
        (fun W pn xe tk _ => pss_one (ps_ret (pe_tup (pa_cons (pe_callS cR.ok hr (by rfl) cR.g cR.kp cR.b (fun σ => passAt tk σ) (pa_cons (pe_ix ix_list (pv 3) pe_int (fun _ _ => rfl)) (pa_cons (pv 1) pa_nil))) (pa_cons (pe_callS cR.ok hr (by rfl) cR.g cR.kp cR.b (fun σ => passAt tk σ) (pa_cons (pe_ix ix_list (pv 3) pe_int (fun _ _ => rfl)) (pa_cons (pv 1) pa_nil))) pa_nil)))))
        (fun _ _ _ _ _ _ _ => pss_never)))), ?_⟩
    have es : Txt.split (SX.S (prt a b)) (Str.ofString "=") = [SX.S a, SX.S b] := by
      rw [eq61]
      have e0 : prt a b = TL.joinL [61] [a, b] := rfl
      rw [e0]
      exact split_two (by decide) (fun z => nomatch z) (fun y hy => by
        rcases List.mem_cons.mp hy with rfl | hy
        · exact g.na
        · obtain rfl := List.mem_singleton.mp hy
          exact g.nb)
    have lp : (prt a b).length ≤ 8001 := by
      show (a ++ ([61] ++ b)).length ≤ 8001
      have h1 := g.la
      have h2 := g.lb
      rw [List.length_append, List.length_append, List.length_singleton]
      omega
    refine ⟨_, rfl, ⟨_, rfl⟩, SX.S (prt a b), _, rfl, rfl, by decide, ?_, fun ps nps => ?_⟩
    · rw [tx_len, sizeLine_eq]
      omega
    rw [es]
    have s1 := same_new (o := .lst ([SX.S a, SX.S b].map V.str)) nps
    have hp : upd H ps (.lst ([SX.S a, SX.S b].map V.str)) ps = some (.lst [tx a, tx b]) := upd_same
    generalize upd H ps (.lst ([SX.S a, SX.S b].map V.str)) = H1 at s1 hp ⊢
    refine ⟨_, rfl, ps, _, rfl, .inl (SqL.of hp), rfl, false, rfl, iteF ?_⟩
    refine ⟨_, rfl, ps, _, (0 : Int), _, rfl, rfl, SqL.of hp, rfl, _, rfl, a, L, rfl, by have := g.la; omega, g.aa, hL, (fun i e => absurd e (g.ga i)), fun _ H2 s2 => ?_⟩
    have hp2 := s2 _ _ hp
    refine ⟨_, rfl, ps, _, (1 : Int), _, rfl, rfl, SqL.of hp2, rfl, _, rfl, b, L, rfl, by have := g.lb; omega, g.ab, hL, (fun i e => absurd e (g.gb i)), fun _ H3 s3 => ⟨(by show 2 ≤ sizeLine; decide), fun p np => ?_⟩⟩
    exact q _ p (s1.trans (s2.trans (s3.trans (same_new np)))) ((s1.trans (s2.trans s3)).free np) upd_same
end
end K15
set_option maxRecDepth 100000
set_option maxHeartbeats 2000000
namespace K15
open PySem PySem.Spec PyProof.Rows L2 KA
def spc (n : Nat) : List Nat := List.replicate n 32
theorem tw_sp (n : Nat) (m : List Nat) (h : ∀ c, m.head? = some c → c ≠ 32) : (spc n ++ m).takeWhile (· == 32) = spc n := by
  induction n with
  | zero =>
    show m.takeWhile (· == 32) = []
    cases m with
    | nil => rfl
    | cons c r =>
      have hc := h c rfl
      rw [List.takeWhile_cons]
      simp [hc]
  | succ n ih =>
    show ((32 : Nat) :: (spc n ++ m)).takeWhile (· == 32) = 32 :: spc n
    rw [List.takeWhile_cons]
    simp [ih]
/-- spaces around letters are stripped -/
theorem strip_sp {i j : Nat} {L : List Nat} (hL : ∀ c ∈ L, c ≠ 32) (hne : L ≠ []) : Txt.stripChars (SX.S (spc i ++ (L ++ spc j))) (Str.ofString " ") = SX.S L := by
  unfold Txt.stripChars
  have eg : (Str.ofString " ").cps.contains = fun d => d == 32 := by
    funext d
    have e : Str.ofString " " = SX.S [32] := by decide
    rw [e]
    by_cases h : d = 32 <;> simp [h]
  rw [stripBy_eq, eg]
  unfold stripLo stripHi
  rw [if_pos rfl, if_pos rfl]
  have h1 : ((spc i ++ (L ++ spc j)).takeWhile (· == 32)).length = i := by
    rw [tw_sp]
    · exact List.length_replicate
    · intro c hc
      cases L with
      | nil => exact absurd rfl hne
      | cons a l =>
        obtain rfl : a = c := by simpa using hc
        exact hL a List.mem_cons_self
  have hd : (spc i ++ (L ++ spc j)).drop i = L ++ spc j := by
    have z : (spc i).length = i := List.length_replicate
    rw [List.drop_append_of_le_length (by omega), List.drop_eq_nil_of_le (by omega), List.nil_append]
  have h2 : ((L ++ spc j).reverse.takeWhile (· == 32)).length = j := by
    have e : (L ++ spc j).reverse = spc j ++ L.reverse := by
      unfold spc
      simp [List.reverse_append]
    rw [e, tw_sp]
    · exact List.length_replicate
    · intro c hc
      have hr : L.reverse ≠ [] := by simpa using hne
      cases hL' : L.reverse with
      | nil => exact absurd hL' hr
      | cons a l =>
        rw [hL'] at hc
        obtain rfl : a = c := by simpa using hc
        exact hL a (by
          have z : a ∈ L.reverse := by rw [hL']; exact List.mem_cons_self
          simpa using z)
  have e1 : (SX.S (spc i ++ (L ++ spc j))).cps.toList = spc i ++ (L ++ spc j) := rfl
  have ln : (SX.S (spc i ++ (L ++ spc j))).length = i + (L.length + j) := by
    rw [tx_len, List.length_append, List.length_append]
    unfold spc
    rw [List.length_replicate, List.length_replicate]
  rw [e1, h1, hd, h2, ln]
  show (⟨(SX.S (spc i ++ (L ++ spc j))).cps.extract i (i + (L.length + j) - j)⟩ : Str) = ⟨L.toArray⟩
  congr 1
  apply Array.toList_inj.mp
  rw [Array.toList_extract, e1]
  show ((spc i ++ (L ++ spc j)).drop i).take (i + (L.length + j) - j - i) = L
  rw [hd, show i + (L.length + j) - j - i = L.length by omega, List.take_left']
  rfl
end K15
set_option maxRecDepth 100000
set_option maxHeartbeats 2000000
namespace K15
open PySem PySem.Spec PyProof.Rows L2 KA
abbrev sRdRs : Stmt := top 62
abbrev NRs : List Str := ["parts", "letters", "rules", "at", "part", "rule"]
theorem scRdRs : FnScope NRs ["parts", "letters"] (defScope sRdRs) := ⟨rfl, rfl, rfl, by decide +kernel, rfl, by decide +kernel, by decide +kernel⟩
theorem passN {P : Program} {w : World} {X : Cx} (hp : X.prog = P) (hw : X.w = w) : Passes (L2.CX P w) X E0 := by
  intro pins σ H s e s' I h
  obtain ⟨_, _, _, _, _, _, _, _, _, _, _, _, hE⟩ := h
  exact hE.elim
def isN (L t : List Nat) : Bool := match rdW L t with
  | .ok _ => false
  | .error _ => true
def wR (L t : List Nat) : List Nat := match rdW L t with
  | .ok w => w
  | .error _ => []
abbrev Pts := List (List Nat × List Nat)
def tooL (L : List Nat) (p : List Nat × List Nat) : Bool := isN L p.1 || isN L p.2
def rdP2 (L : List Nat) (p : List Nat × List Nat) : List (List Nat) := [wR L p.1, wR L p.2]
theorem inv_non (L a b : List Nat) : inV .non [vR L a, vR L b] = tooL L (a, b) := by
  unfold tooL inV vR isN
  dsimp only
  cases rdW L a <;> cases rdW L b <;> rfl
theorem vR_flat (L a b : List Nat) : [vR L a, vR L b].all flatV = true := by
  unfold vR
  cases rdW L a <;> cases rdW L b <;> rfl
abbrev Its := List (Addr × (List Nat × List Nat))
def spRdRs (Cl : Addr) : Sp := fun vs H Q E => ∃ (pp : Addr) (L : List Nat) (ps : Pts), vs = [.ref pp, tx L] ∧ H pp = some (.lst (ps.map fun p => tx (prt p.1 p.2))) ∧ ps.length ≤ 100 ∧ Lt L ∧ (∀ p ∈ ps, Pg L p.1 p.2) ∧ (ps.any (tooL L) = true → FlL Cl H E) ∧
  (ps.any (tooL L) = false → ∀ (H' : Hp) (l : Addr) (rs : Rls), Same H H' → H l = none → H' l = some (.lst (rfs rs)) → wds rs = ps.map (rdP2 L) → (∀ r ∈ rs, TW H' r) → Q (.ref l) H')
section
variable {P : Program} {w : World} {K : PySem.W.Frag} {mg : Str → Option Value} {base : Heap}
theorem ok_rdrs {f fR Cl fJ : Addr} {fd fdR fdJ : FuncData} {tL : Tok} (F : Fun K "read_rules" "read_rules" sRdRs f fd) (B : Bn mg) (mAny : mg "any" = none) (cR : KT.Cb P w K mg base (L2.CX P w) 33 "read_rule" ["part", "letters", "at"] spRdR fR fdR) (RL : Pl P w K mg base Cl fJ fdJ) (mL : mg "LONGEST" = some (.int 400 tL)) :
    FnOk P w K mg base (L2.CX P w) 34 f fd ["parts", "letters"] (spRdRs Cl) := by
  refine F.okX scRdRs (fun vs H Q E h => ?_) (fun cdv A outer s H vs Q E hr h => ?_)
  · obtain ⟨pp, L, ps, rfl, _⟩ := h
    rfl
  · obtain ⟨pp, L, ps, rfl, hp, h100, hL, hg, qL, q⟩ := h
    have r2 : Room 2 (A.deeper (envOfC "read_rules" (defScope sRdRs) s.heap.objs.size f cdv)) := hr.mono (by decide)
    refine ⟨_, pss_cons (ps_setLc (i := 2) (own := [("at", 3), ("part", 4)]) (g := gTup K 2 (gCons (gName 3) (gCons (gName 4) gNil))) (tt := tYes) (te := tCall spRdR [] E0 (tCons (tVar 4) (tCons (tVar 1) (tCons (tVar 3) tNil))))
        rfl scRdRs.nd rfl rfl (sw_true rfl rfl rfl (by decide +kernel)) (Rs.pi_enumL (by rfl) B.enum (pa_cons (pv 0) pa_nil) (pk_cons pe_int pk_nil))
        (blkOk_by (N := NRs) (sc := defScope sRdRs) (by decide +kernel)) (fun _ _ _ _ _ => pg_tup rfl (pgs_cons (pg_name (i := 3) scRdRs.nd rfl (.inl rfl)) (pgs_cons (pg_name (i := 4) scRdRs.nd rfl (.inl rfl)) pgs_nil))) (fun _ _ _ _ _ => pts_nil)
        (fun _ _ _ _ _ => pe_call cR.ok hr (by rfl) cR.g cR.kp cR.b .nil (passN rfl rfl) (pa_cons (pv 4) (pa_cons (pv 1) (pa_cons (pv 3) pa_nil)))))
      (pss_cons (ps_if (pt_val (pe_callB (cr_any rfl) (by rfl) mAny boot_any (pa_cons (pe_lc (own := [("rule", 5)]) (g := gName 5) (tt := tYes) (te := tOp (rIn K false) (tC .non) (tVar 5)) rfl scRdRs.nd (pi_list (pv 2))
          (blkOk_by (N := NRs) (sc := defScope sRdRs) (by decide +kernel)) (fun _ _ _ _ _ => pg_name (i := 5) scRdRs.nd rfl (Or.inl rfl)) (fun _ _ _ _ _ => pts_nil) (fun _ _ _ _ _ => pe_cmpR op_in_seq pe_non (pv 5) (by rfl))) pa_nil)))
        (pss_one (KA.s_raise (E := E) RL.T RL.G RL.b r2 rfl (takes_of rfl rfl rfl rfl) (by rfl) (pe_glob (v := .int 400) (by rfl) mL ⟨_, rfl⟩) pass0 c_mono)) pss_nil)
      (pss_one (ps_ret (pv 2)))), ?_⟩
    refine ⟨_, rfl, pp, _, 1, rfl, rfl, by decide, by decide, SqL.of hp, fun D nD => ?_⟩
    refine lc_it (tt := tYes) (te := tCall spRdR [] E0 (tCons (tVar 4) (tCons (tVar 1) (tCons (tVar 3) tNil)))) (Rs.walk_enumL (K := K) (a := pp) (xs := ps.map fun p => tx (prt p.1 p.2)) (k0 := 1)) (fun i H2 => Same H H2 ∧ ∃ its : Its, its.map (·.2) = ps.take i ∧ H2 D = some (.lst (its.map fun z => V.ref z.1)) ∧ ∀ z ∈ its, H2 z.1 = some (.tup [vR L z.2.1, vR L z.2.2])) ⟨same_new nD, [], rfl, upd_same, fun z hz => nomatch hz⟩ (fun i H2 _ h => SqL.of (h.1 _ _ hp)) ?_ ?_
    · rintro i x H2 H2' hi ⟨s2, its, hits, hD, hz⟩ ⟨Tp, x1, x2, rfl, nT, rfl, e1, e2⟩
      rw [List.length_map] at hi
      have gl : ps[i]? = some ps[i] := List.getElem?_eq_getElem hi
      obtain rfl : V.int (1 + (i : Nat)) = x1 := Option.some.inj e1
      obtain rfl : tx (prt ps[i].1 ps[i].2) = x2 := by
        have z : (ps.map fun p => tx (prt p.1 p.2))[i]? = some x2 := e2
        rw [List.getElem?_map, gl] at z
        exact Option.some.inj z
      have hm : ps[i] ∈ ps := List.getElem_mem hi
      have tm := take_more gl
      generalize ps[i] = p at gl hm tm
      have sT := same_new (o := .tup [.int (1 + (i : Nat)), tx (prt p.1 p.2)]) nT
      refine ⟨Tp, _, rfl, SqT.of upd_same, rfl, _, _, rfl, _, _, rfl, rfl, rfl, ?_⟩
      dsimp only [tYes]
      rw [if_pos rfl]
      refine ⟨_, rfl, _, rfl, _, rfl, p.1, p.2, L, _, rfl, hL, hg p hm, fun H3 a s3 na ha => ?_⟩
      have s23 := sT.trans s3
      have hD3 := s23 _ _ hD
      have aD : a ≠ D := fun e => by
        have z := sT _ _ hD
        rw [← e, na] at z
        cases z
      refine ⟨_, hD3, ?_, ?_, its ++ [(a, p)], ?_, ?_, ?_⟩
      · have z := congrArg List.length hits
        rw [List.length_map, List.length_take] at z
        rw [List.length_map]
        exact small1000 (by omega)
      · intro b o e
        rw [upd_ne (ne_of_none e nD)]
        exact s23 _ _ (s2 _ _ e)
      · rw [tm, List.map_append, hits]
        rfl
      · rw [upd_same, List.map_append]
        rfl
      · intro z hzm
        rcases List.mem_append.mp hzm with h | h
        · have z1 := s23 _ _ (hz z h)
          rw [upd_ne (fun e => by rw [e, hD3] at z1; cases z1)]
          exact z1
        · obtain rfl := List.mem_singleton.mp h
          rw [upd_ne aD]
          exact ha
    · rintro H2 ⟨s2, its, hits, hD, hz⟩
      rw [List.length_map, List.take_length] at hits
      have il : its.length = ps.length := by rw [← hits, List.length_map]
      refine ⟨_, rfl, D, rfl, ⟨_, SqL.of hD⟩, fun D2 nD2 => ?_⟩
      refine KT.lc_sel (e := fun z : Addr × (List Nat × List Nat) => V.ref z.1) (out := fun z => V.bl (tooL L z.2)) (walk_list (K := K) (a := D)) (tt := tYes) (te := tOp (rIn K false) (tC .non) (tVar 5)) (σ := [some (.ref pp), some (tx L), some (.ref D), none, none, none]) (i := 5) (fun _ => true) (Nat.lt_of_le_of_lt (show its.length ≤ 1000 by omega) (by decide)) nD2 (fun H3 s3 => SqL.of (s3 _ _ hD)) (fun x H3 Q _ _ h => h) ?_ ?_
      · intro z H3 Q3 hzm _ s3 hQ
        refine ⟨_, rfl, z.1, _, rfl, .inr (SqT.of (s3 _ _ (hz z hzm))), rfl, vR_flat L z.2.1 z.2.2, ?_⟩
        show Q3 (.bl (inV .non [vR L z.2.1, vR L z.2.2])) H3
        rw [inv_non]
        exact hQ H3 (Same.refl _)
      · intro H3 s3 hD3
        rw [List.filter_eq_self.mpr (by simp)] at hD3
        have e1 : (its.map fun z => tooL L z.2).any id = ps.any (tooL L) := by
          rw [← hits, List.any_map, List.any_map]
          rfl
        refine ⟨D2, its.map fun z => tooL L z.2, rfl, SqL.of (by rw [hD3, List.map_map]; rfl), ?_⟩
        rw [e1]
        cases e2 : ps.any (tooL L) with
        | true =>
          refine ⟨true, rfl, iteT ?_⟩
          have z := qL e2
          exact fun H4 d s4 nd hd => z H4 d ((s2.trans s3).trans s4) ((s2.trans s3).free nd) hd
        | false =>
          refine ⟨false, rfl, iteF ⟨_, rfl, ?_⟩⟩
          have ok : ∀ z ∈ its, isN L z.2.1 = false ∧ isN L z.2.2 = false := fun z hzm => by
            have hp2 : z.2 ∈ ps := by
              rw [← hits]
              exact List.mem_map.mpr ⟨z, hzm, rfl⟩
            have z2 := List.any_eq_false.mp e2 z.2 hp2
            unfold tooL at z2
            simpa using z2
          refine q e2 H3 D (its.map fun z => (z.1, rdP2 L z.2)) (s2.trans s3) nD ?_ ?_ fun r hr => ?_
          · rw [s3 _ _ hD]
            have er : ((its.map fun z => (z.1, rdP2 L z.2)).map fun x : Addr × List (List Nat) => V.ref x.1) = its.map fun z => V.ref z.1 := by
              rw [List.map_map]
              rfl
            exact congrArg (fun z => some (HO.lst z)) er.symm
          · show (its.map fun z => (z.1, rdP2 L z.2)).map (fun x : Addr × List (List Nat) => x.2) = ps.map (rdP2 L)
            rw [← hits, List.map_map, List.map_map]
            rfl
          · obtain ⟨z, hzm, rfl⟩ := List.mem_map.mp hr
            obtain ⟨o1, o2⟩ := ok z hzm
            have hh := s3 _ _ (hz z hzm)
            have ev : ∀ t, isN L t = false → vR L t = tx (wR L t) := fun t ht => by
              unfold isN at ht
              unfold vR wR
              cases e : rdW L t with
              | ok wd => rfl
              | error x =>
                rw [e] at ht
                have z : (true : Bool) = false := ht
                cases z
            rw [ev _ o1, ev _ o2] at hh
            exact hh
end
end K15
set_option maxRecDepth 100000
set_option maxHeartbeats 2000000
namespace Rs
open PySem PySem.Spec PyProof.Rows L2
/-- *x among targets -/
theorem pgs_st {X : Cx} {e : Expr} {es : List Expr} {t : TG} {u : TGs} {p : Pos} (h1 : PG X e t) (h2 : PGs X es u) (hs : (assignEach (.Starred e p :: es) X.env).map (·.2) = assign e X.env :: (assignEach es X.env).map (·.2) := by rfl) : PGs X (.Starred e p :: es) (gCons t u) := by
  refine ⟨fun pins s σ H vs us Q I r h => ?_⟩
  obtain ⟨v, vr, rfl, h⟩ := h
  match us, r with
  | _, .cons r rr =>
    rw [hs]
    exact assignInOrder_cons (thn (h1.run pins s σ H _ _ _ I r h) fun _ s1 ⟨σ1, H1, I1, q1⟩ => h2.run pins s1 σ1 H1 _ _ Q I1 rr q1)
end Rs
namespace K15
open PySem PySem.Spec PyProof.Rows L2 KA
abbrev sPt : Stmt := top 57
abbrev sRead : Stmt := KT.inside (top 56) 2
theorem scPt : FnScope ["text", "first", "parts", "letters"] ["text"] (defScope sPt) := ⟨rfl, rfl, rfl, by decide +kernel, rfl, by decide +kernel, by decide +kernel⟩
theorem scRead : FnScope ["cls", "text", "letters", "rules"] ["cls", "text"] (defScope sRead) := ⟨rfl, rfl, rfl, by decide +kernel, rfl, by decide +kernel, by decide +kernel⟩
/-- the text of a town as it may be read: letters among spaces, then the parts -/
def txt (i j : Nat) (L : List Nat) (ps : Pts) : List Nat := TL.joinL [59] ((spc i ++ (L ++ spc j)) :: ps.map fun p => prt p.1 p.2)
structure Tg (i j : Nat) (L : List Nat) (ps : Pts) : Prop where
  lt : Lt L
  good : GoodL L
  sp : i ≤ 10 ∧ j ≤ 10
  few : ps.length ≤ 100
  ok : ∀ p ∈ ps, Pg L p.1 p.2
  no : ∀ p ∈ ps, 59 ∉ p.1 ∧ 59 ∉ p.2
theorem Tg.len {i j : Nat} {L : List Nat} {ps : Pts} (h : Tg i j L ps) : (txt i j L ps).length ≤ 900000 := by
  have h1 := jl_len [59] ((spc i ++ (L ++ spc j)) :: ps.map fun p => prt p.1 p.2)
  have h2 := sum_le_of (m := 8001) (ys := ps.map fun p => prt p.1 p.2) (fun y hy => by
    obtain ⟨p, hp, rfl⟩ := List.mem_map.mp hy
    have g := h.ok p hp
    have z1 := g.la
    have z2 := g.lb
    show (p.1 ++ ([61] ++ p.2)).length ≤ 8001
    rw [List.length_append, List.length_append, List.length_singleton]
    omega)
  have h3 := h.good.len
  have h4 := h.sp
  have h5 := h.few
  have e1 : (spc i ++ (L ++ spc j)).length = i + (L.length + j) := by
    unfold spc
    rw [List.length_append, List.length_append, List.length_replicate, List.length_replicate]
  rw [List.map_cons, List.sum_cons, List.length_cons, List.length_map, e1] at h1
  rw [List.length_map] at h2
  have e2 : ([59] : List Nat).length = 1 := rfl
  rw [e2] at h1
  unfold txt
  omega
theorem Lt.ns {L : List Nat} (h : Lt L) : ∀ c ∈ L, c ≠ 32 ∧ c ≠ 59 := fun c hc => by
  have := h.2 c hc
  omega
theorem Tg.split {i j : Nat} {L : List Nat} {ps : Pts} (h : Tg i j L ps) : Txt.split (SX.S (txt i j L ps)) (Str.ofString ";") = SX.S (spc i ++ (L ++ spc j)) :: (ps.map fun p => prt p.1 p.2).map SX.S := by
  have e : Str.ofString ";" = SX.S [59] := by decide
  rw [e]
  unfold txt
  refine split_two (by decide) (fun z => nomatch z) fun y hy => ?_
  have nsp : ∀ n, 59 ∉ spc n := fun n hn => by
    have z := List.eq_of_mem_replicate hn
    exact absurd z (by decide)
  rcases List.mem_cons.mp hy with rfl | hy
  · intro hm
    rcases List.mem_append.mp hm with h1 | h1
    · exact nsp i h1
    · rcases List.mem_append.mp h1 with h2 | h2
      · exact (Lt.ns h.lt 59 h2).2 rfl
      · exact nsp j h2
  · obtain ⟨p, hp, rfl⟩ := List.mem_map.mp hy
    obtain ⟨n1, n2⟩ := h.no p hp
    intro hm
    rcases List.mem_append.mp hm with h1 | h1
    · exact n1 h1
    · rcases List.mem_append.mp h1 with h2 | h2
      · exact absurd (List.mem_singleton.mp h2) (by decide)
      · exact n2 h2
def spPt (Cl : Addr) : Sp := fun vs H Q E => ∃ (i j : Nat) (L : List Nat) (ps : Pts), vs = [tx (txt i j L ps)] ∧ Tg i j L ps ∧ (ps.any (tooL L) = true → FlL Cl H E) ∧
  (ps.any (tooL L) = false → ∀ (H' : Hp) (p l : Addr) (rs : Rls), Same H H' → H' p = some (.tup [tx L, .ref l]) → H' l = some (.lst (rfs rs)) → wds rs = ps.map (rdP2 L) → (∀ r ∈ rs, TW H' r) → Q (.ref p) H')
def spRead (K : PySem.W.Frag) (C CG CU Cl : Addr) (T : List (Addr × Str)) : Sp := fun vs H Q E => ∃ (i j : Nat) (L : List Nat) (ps : Pts), vs = [.ref C, tx (txt i j L ps)] ∧ Tg i j L ps ∧ (ps.any (tooL L) = true → FlL Cl H E) ∧
  (ps.any (tooL L) = false → ∀ (H' : Hp) (rs : Rls), Same H H' → wds rs = ps.map (rdP2 L) → (∀ r ∈ rs, TW H' r) → MkTn C CG CU T H' L rs E (fun x H2 => Q (.ref x) H2))
section
variable {P : Program} {w : World} {K : PySem.W.Frag} {mg : Str → Option Value} {base : Heap}
theorem ok_pt {f fC fR CG Cl : Addr} {fd fdC fdR : FuncData} (F : Fun K "parts_of_text" "parts_of_text" sPt f fd) (ck : KT.Cb P w K mg base (L2.CX P w) 3 "check_letters" ["letters"] (spChkL CG) fC fdC) (cR : KT.Cb P w K mg base (L2.CX P w) 34 "read_rules" ["parts", "letters"] (spRdRs Cl) fR fdR) :
    FnOk P w K mg base (L2.CX P w) 35 f fd ["text"] (spPt Cl) := by
  refine F.okX scPt (fun vs H Q E h => ?_) (fun cdv A outer s H vs Q E hr h => ?_)
  · obtain ⟨i, j, L, ps, rfl, _⟩ := h
    rfl
  · obtain ⟨i, j, L, ps, rfl, g, qL, q⟩ := h
    have r3 : Room 3 (A.deeper (envOfC "parts_of_text" (defScope sPt) s.heap.objs.size f cdv)) := hr.mono (by decide)
    have r34 : Room 34 (A.deeper (envOfC "parts_of_text" (defScope sPt) s.heap.objs.size f cdv)) := hr.mono (by decide)
    have pass : Passes (L2.CX P w) (cxOf (L2.CX P w) P w K mg base ["text", "first", "parts", "letters"] "parts_of_text" (defScope sPt) f cdv A outer s H E) E := passes_call (W := fun cls d _ H => E cls d H) (takes_of rfl rfl rfl rfl) (fun _ _ _ _ h => h)
    refine ⟨_, pss_cons (ps_asg (pe_split (pv 0) pe_str) (Rs.pg_star rfl (pgs_cons (pg_name (i := 1) scPt.nd rfl (.inl rfl)) (Rs.pgs_st (pg_name (i := 2) scPt.nd rfl (.inl rfl)) pgs_nil))))
      (pss_cons (ps_set (i := 3) scPt.nd rfl (.inl rfl) (pe_m1 PySem.F.slot_str_strip PySem.F.type_str_strip mt_stripChars (pv 1) pe_str))
      (pss_cons (ps_expr (pe_call ck.ok r3 (by rfl) ck.g ck.kp ck.b .nil pass (pa_cons (pv 3) pa_nil)))
      (pss_one (ps_ret (pe_tup (pa_cons (pv 3) (pa_cons (pe_call cR.ok r34 (by rfl) cR.g cR.kp cR.b .nil pass (pa_cons (pv 2) (pa_cons (pv 3) pa_nil))) pa_nil))))))), ?_⟩
    have tl := g.len
    have l3 := g.good.len
    refine ⟨_, rfl, ⟨_, rfl⟩, SX.S (txt i j L ps), _, rfl, rfl, by decide, ?_, fun pa npa => ?_⟩
    · rw [tx_len, sizeLine_eq]
      omega
    rw [g.split]
    have s1 := same_new (o := .lst ((SX.S (spc i ++ (L ++ spc j)) :: (ps.map fun p => prt p.1 p.2).map SX.S).map V.str)) npa
    have ha := upd_same (H := H) (a := pa) (o := .lst ((SX.S (spc i ++ (L ++ spc j)) :: (ps.map fun p => prt p.1 p.2).map SX.S).map V.str))
    generalize upd H pa (.lst ((SX.S (spc i ++ (L ++ spc j)) :: (ps.map fun p => prt p.1 p.2).map SX.S).map V.str)) = H1 at s1 ha ⊢
    refine ⟨pa, tx (spc i ++ (L ++ spc j)), ps.map fun p => tx (prt p.1 p.2), rfl, SqL.of ?_, fun pp npp => ?_⟩
    · rw [ha, List.map_cons, List.map_map, List.map_map]
      rfl
    have s2 := same_new (o := .lst (ps.map fun p => tx (prt p.1 p.2))) npp
    have hpp := upd_same (H := H1) (a := pp) (o := .lst (ps.map fun p => tx (prt p.1 p.2)))
    generalize upd H1 pp (.lst (ps.map fun p => tx (prt p.1 p.2))) = H2 at s2 hpp ⊢
    refine ⟨_, _, rfl, ⟨_, _, rfl, ⟨rfl, ?_⟩⟩⟩
    refine ⟨_, rfl, ⟨_, rfl⟩, SX.S (spc i ++ (L ++ spc j)), _, rfl, rfl, ?_, ?_⟩
    · refine asc_big ?_
      have := g.sp
      unfold spc
      rw [List.length_append, List.length_append, List.length_replicate, List.length_replicate]
      omega
    rw [strip_sp (fun c hc => (Lt.ns g.lt c hc).1) g.good.1]
    have la : Asc L := fun c hc => menu_asc c (g.lt.2 c hc)
    refine ⟨_, rfl, L, rfl, by omega, la, fun _ _ H3 s3 => ?_, fun k hw => good_nw g.good hw⟩
    have s123 := s1.trans (s2.trans s3)
    refine ⟨_, rfl, _, rfl, _, rfl, pp, L, ps, rfl, s3 _ _ hpp, g.few, g.lt, g.ok, fun e H4 d s4 nd hd => qL e H4 d (s123.trans s4) (s123.free nd) hd, fun e H4 l rs s4 nl hl ew tw => ⟨(by show 2 ≤ sizeLine; decide), fun p np => ?_⟩⟩
    have s5 := same_new (o := .tup [tx L, .ref l]) np
    exact q e _ p l rs (s123.trans (s4.trans s5)) upd_same (s5 _ _ hl) ew fun r hr => (tw r hr).same s5
theorem ok_read {f fP fI C CG CU Cl : Addr} {fd fdP : FuncData} {T : List (Addr × Str)} (F : Fun K "read" "Town.read" sRead f fd) (cP : KT.Cb P w K mg base (L2.CX P w) 35 "parts_of_text" ["text"] (spPt Cl) fP fdP) (M : Mk K C fI) (G : FnR P w K mg base (L2.CX P w) 8 fI (spTown K C CG CU T)) :
    FnOk P w K mg base (L2.CX P w) 36 f fd ["cls", "text"] (spRead K C CG CU Cl T) := by
  refine F.okX scRead (fun vs H Q E h => ?_) (fun cdv A outer s H vs Q E hr h => ?_)
  · obtain ⟨i, j, L, ps, rfl, _⟩ := h
    rfl
  · obtain ⟨i, j, L, ps, rfl, g, qL, q⟩ := h
    have r9 : Room 9 (A.deeper (envOfC "Town.read" (defScope sRead) s.heap.objs.size f cdv)) := hr.mono (by decide)
    have pass : Passes (L2.CX P w) (cxOf (L2.CX P w) P w K mg base ["cls", "text", "letters", "rules"] "Town.read" (defScope sRead) f cdv A outer s H E) E := passes_call (W := fun cls d _ H => E cls d H) (takes_of rfl rfl rfl rfl) (fun _ _ _ _ h => h)
    refine ⟨_, pss_cons (ps_asg (pe_call cP.ok hr (by rfl) cP.g cP.kp cP.b .nil pass (pa_cons (pv 1) pa_nil)) (pg_tup rfl (pgs_cons (pg_name (i := 2) scRead.nd rfl (.inl rfl)) (pgs_cons (pg_name (i := 3) scRead.nd rfl (.inl rfl)) pgs_nil))))
      (pss_one (ps_ret (Rs.e_makeLS (i := 0) M G r9 rfl (.inl rfl) pass (pa_cons (pv 2) (StX.pa_star (pv 3) pa_nil))))), ?_⟩
    refine ⟨_, rfl, i, j, L, ps, rfl, g, qL, fun e H1 p l rs s1 hp hl ew tw => ?_⟩
    refine ⟨p, _, rfl, SqT.of hp, rfl, _, _, rfl, _, _, rfl, rfl, ?_⟩
    refine ⟨rfl, _, rfl, _, rfl, l, _, rfl, .inr (SqL.of hl), ?_⟩
    have mk := q e H1 rs s1 ew tw
    show ∀ x dx, _ → _ → _ → spTown K C CG CU T (V.ref x :: tx L :: (rfs rs ++ [])) _ _ E
    rw [List.append_nil]
    exact mk_town mk
end
end K15
set_option maxRecDepth 100000
set_option maxHeartbeats 2000000
namespace K15
open PySem PySem.Spec PyProof.Rows L2 KA
/-- neither ; nor = -/
def Ns (T : List Nat) : Prop := ∀ c ∈ T, c ≠ 59 ∧ c ≠ 61
theorem Ns.app {a b : List Nat} (ha : Ns a) (hb : Ns b) : Ns (a ++ b) := fun c hc => (List.mem_append.mp hc).elim (ha c) (hb c)
theorem Ns.one {c : Nat} (h : c ≠ 59 ∧ c ≠ 61) : Ns [c] := fun d hd => by
  obtain rfl := List.mem_singleton.mp hd
  exact h
theorem ns_nil : Ns [] := fun c hc => nomatch hc
theorem ns_sp (n : Nat) : Ns (KA.sp n) := fun c hc => by
  rw [(List.mem_replicate.mp hc).2]
  decide
theorem ns_nt : ∀ x ∈ tm7, ∀ c ∈ nt x, c ≠ 59 ∧ c ≠ 61 := by decide
theorem ns_pwd {p F : List Nat} {x : Int} (h : Pwd p x F) (hx : x ∈ tm7) (hp : Ns p) : Ns F := by
  rcases h with ⟨_, _, rfl⟩ | ⟨s3, s4, _, _, rfl⟩
  · exact hp
  · exact (((hp.app (ns_sp s3)).app (Ns.one (by decide))).app (ns_sp s4)).app (ns_nt x hx)
theorem ns_fac {L : List Nat} {C : List Nat → List Nat → Prop} (hL : ∀ c ∈ L, 97 ≤ c ∧ c ≤ 122) (hC : ∀ p c, C p c → Ns p) {F V : List Nat} (h : Fac L C F V) : Ns F := by
  obtain ⟨p, c, G, x, s1, s2, ha, hp, _, _, _, _, rfl⟩ := h
  have key : Ns p ∧ x ∈ tm7 := by
    rcases ha with ⟨⟨y, hy, rfl, rfl⟩, hx⟩ | ⟨hc, hx⟩
    · have := sg_let hL hy
      exact ⟨Ns.one (by omega), hx⟩
    · exact ⟨hC p c hc, (tm57 x hx).1⟩
  exact ((ns_sp s1).app (ns_pwd hp key.2 key.1)).app (ns_sp s2)
theorem ns_phr {L : List Nat} {C : List Nat → List Nat → Prop} (hL : ∀ c ∈ L, 97 ≤ c ∧ c ≤ 122) (hC : ∀ p c, C p c → Ns p) {T W : List Nat} (h : Phr (Fac L C) T W) : Ns T := by
  obtain ⟨l, _, _, hl, rfl, _⟩ := h
  intro c hc
  obtain ⟨x, hx, hcx⟩ := List.mem_flatten.mp hc
  obtain ⟨q, hq, rfl⟩ := List.mem_map.mp hx
  exact ns_fac hL hC (hl q hq) c hcx
theorem ns_cmp {L : List Nat} (hL : ∀ c ∈ L, 97 ≤ c ∧ c ≤ 122) : ∀ (d : Nat) (p c : List Nat), Cmp L d p c → Ns p
  | 0, _, _, h => h.elim
  | d + 1, p, c, h => by
    rcases h with ⟨rfl, _⟩ | ⟨T1, W1, T2, W2, h1, h2, rfl, _⟩ | ⟨T1, W1, h1, rfl, _⟩
    · exact Ns.one (by decide)
    · have n1 := ns_phr hL (ns_cmp hL d) h1
      have n2 := ns_phr (C := fun _ _ => False) hL (fun _ _ h => h.elim) h2
      exact ((((Ns.one (by decide)).app n1).app (Ns.one (by decide))).app n2).app (Ns.one (by decide))
    · have n1 := ns_phr hL (ns_cmp hL d) h1
      exact ((Ns.one (by decide)).app n1).app (Ns.one (by decide))
theorem ns_loo {L : List Nat} (hL : ∀ c ∈ L, 97 ≤ c ∧ c ≤ 122) {d : Nat} {T W : List Nat} (h : Loo L d T W) : Ns T := ns_phr hL (ns_cmp hL d) h
theorem ns_dg {n : Nat} : Ns (dg n) ∨ 100 ≤ n := by
  by_cases h : n < 100
  · left
    unfold dg
    intro c hc
    split at hc
    · obtain rfl := List.mem_singleton.mp hc
      omega
    · have : c = 48 + n / 10 ∨ c = 48 + n % 10 := by simpa using hc
      omega
  · exact .inr (by omega)
theorem ns_tk {L : List Nat} (hL : ∀ c ∈ L, 97 ≤ c ∧ c ≤ 122) {q : Nat × Nat} (hq : q.1 ∈ sg L) (h2 : q.2 < 100) : Ns (tk q) := by
  have hs := sg_let hL hq
  have hd : Ns (dg q.2) := ns_dg.elim id fun h => absurd h (by omega)
  unfold tk
  split
  · exact (((Ns.one (c := q.1 + 32) (by omega)).app (Ns.one (c := 94) (by decide))).app (Ns.one (c := 45) (by decide))).app hd
  · split
    · exact ((Ns.one (c := q.1) (by omega)).app (Ns.one (c := 94) (by decide))).app hd
    · exact Ns.one (by omega)
theorem ns_join {S : List Nat} (hS : Ns S) : ∀ ys : List (List Nat), (∀ y ∈ ys, Ns y) → Ns (TL.joinL S ys)
  | [], _ => ns_nil
  | [p], h => h p List.mem_cons_self
  | p :: q :: r, h => (h p List.mem_cons_self).app (hS.app (ns_join hS (q :: r) fun y hy => h y (List.mem_cons_of_mem _ hy)))
theorem ns_fw {L l : List Nat} (hL : ∀ c ∈ L, 97 ≤ c ∧ c ≤ 122) (hl : ∀ c ∈ l, c ∈ sg L) (h : l.length < 100) : Ns (fw l) := by
  unfold fw txq
  split
  · exact Ns.one (by decide)
  · refine ns_join (Ns.one (by decide)) _ fun y hy => ?_
    obtain ⟨q, hq, rfl⟩ := List.mem_map.mp hy
    exact ns_tk hL (hl _ (rl_mem hq).1) (rl_bound hq h)
theorem asc_fw {l : List Nat} (hA : Asc l) (h : l.length < 100) : Asc (fw l) := by
  have aj : ∀ ys : List (List Nat), (∀ y ∈ ys, Asc y) → Asc (TL.joinL [32] ys) := by
    intro ys
    induction ys with
    | nil => exact fun _ c hc => nomatch hc
    | cons p r ih =>
      intro h
      cases r with
      | nil => exact h p List.mem_cons_self
      | cons q r =>
        intro c hc
        have e : TL.joinL [32] (p :: q :: r) = p ++ ([32] ++ TL.joinL [32] (q :: r)) := rfl
        rw [e] at hc
        rcases List.mem_append.mp hc with h1 | h1
        · exact h p List.mem_cons_self c h1
        · rcases List.mem_append.mp h1 with h2 | h2
          · rw [List.mem_singleton.mp h2]
            decide
          · exact ih (fun y hy => h y (List.mem_cons_of_mem _ hy)) c h2
  unfold fw txq
  split
  · intro c hc
    rw [List.mem_singleton.mp hc]
    decide
  · refine aj _ fun y hy => ?_
    obtain ⟨q, hq, rfl⟩ := List.mem_map.mp hy
    exact tk_asc (hA _ (rl_mem hq).1) (rl_bound hq h)
/-- a written part -/
def wp (r : List (List Nat)) : List Nat × List Nat := (KA.sp 1 ++ (fw (r.getD 0 []) ++ KA.sp 1), KA.sp 1 ++ (fw (r.getD 1 []) ++ KA.sp 0))
theorem join_shift (a : List Nat) : ∀ ys : List (List Nat), TL.joinL [59, 32] (a :: ys) = TL.joinL [59] (a :: ys.map fun y => 32 :: y)
  | [] => rfl
  | y :: ys => by
    have ih := join_shift y ys
    have e1 : TL.joinL [59, 32] (a :: y :: ys) = a ++ ([59, 32] ++ TL.joinL [59, 32] (y :: ys)) := rfl
    have e2 : TL.joinL [59] (a :: (y :: ys).map fun y => 32 :: y) = a ++ ([59] ++ TL.joinL [59] ((32 :: y) :: ys.map fun y => 32 :: y)) := rfl
    rw [e1, e2, ih]
    have e3 : TL.joinL [59] ((32 :: y) :: ys.map fun y => 32 :: y) = 32 :: TL.joinL [59] (y :: ys.map fun y => 32 :: y) := by
      cases ys with
      | nil => rfl
      | cons z zs => rfl
    rw [e3]
    rfl
theorem ttx_txt (L : List Nat) (ws : List (List (List Nat))) : ttx L ws = txt 0 0 L (ws.map wp) := by
  unfold ttx txt
  rw [join_shift, List.map_map, List.map_map]
  have e1 : spc 0 ++ (L ++ spc 0) = L := by
    show [] ++ (L ++ []) = L
    simp
  rw [e1]
  congr 2
  refine List.map_congr_left fun r _ => ?_
  show 32 :: (fw _ ++ ([32, 61, 32] ++ fw _)) = prt (wp r).1 (wp r).2
  show _ = (KA.sp 1 ++ (fw _ ++ KA.sp 1)) ++ ([61] ++ (KA.sp 1 ++ (fw _ ++ KA.sp 0)))
  simp [KA.sp]
theorem pg_wp {L : List Nat} (hL : ∀ c ∈ L, 97 ≤ c ∧ c ≤ 122) {x y : List Nat} (hx : ∀ c ∈ x, c ∈ sg L) (hy : ∀ c ∈ y, c ∈ sg L) (lx : x.length < 100) (ly : y.length < 100) (ax : Asc x) (ay : Asc y) : Pg L (wp [x, y]).1 (wp [x, y]).2 ∧ (59 ∉ (wp [x, y]).1 ∧ 59 ∉ (wp [x, y]).2) ∧ tooL L (wp [x, y]) = false ∧ rdP2 L (wp [x, y]) = [x, y] := by
  have nx := ((ns_sp 1).app ((ns_fw hL hx lx).app (ns_sp 1)))
  have ny := ((ns_sp 1).app ((ns_fw hL hy ly).app (ns_sp 0)))
  have rx : rdW L (wp [x, y]).1 = .ok x := rdW_fw hL hx lx 1 1
  have ry : rdW L (wp [x, y]).2 = .ok y := rdW_fw hL hy ly 1 0
  have l1 := fw_len lx
  have l2 := fw_len ly
  have aspA : ∀ n, Asc (KA.sp n) := sp_asc
  have app : ∀ {u v : List Nat}, Asc u → Asc v → Asc (u ++ v) := fun hu hv c hc => (List.mem_append.mp hc).elim (hu c) (hv c)
  refine ⟨⟨fun h => (nx 61 h).2 rfl, fun h => (ny 61 h).2 rfl, ?_, ?_, app (aspA 1) (app (asc_fw ax lx) (aspA 1)), app (aspA 1) (app (asc_fw ay ly) (aspA 0)), (fun i => by rw [rx]; intro z; cases z), (fun i => by rw [ry]; intro z; cases z)⟩, ⟨fun h => (nx 59 h).1 rfl, fun h => (ny 59 h).1 rfl⟩, ?_, ?_⟩
  · show (KA.sp 1 ++ (fw x ++ KA.sp 1)).length ≤ 4000
    rw [List.length_append, List.length_append, sp_len]
    omega
  · show (KA.sp 1 ++ (fw y ++ KA.sp 0)).length ≤ 4000
    rw [List.length_append, List.length_append, sp_len, sp_len]
    omega
  · unfold tooL isN
    rw [rx, ry]
    rfl
  · unfold rdP2 wR
    rw [rx, ry]
/-- loose sides -/
theorem pg_loo {L : List Nat} (hL : ∀ c ∈ L, 97 ≤ c ∧ c ≤ 122) {T1 W1 T2 W2 : List Nat} (h1 : Loo L 1 T1 W1) (h2 : Loo L 1 T2 W2) : Pg L T1 T2 ∧ (59 ∉ T1 ∧ 59 ∉ T2) ∧ tooL L (T1, T2) = (decide (400 < W1.length) || decide (400 < W2.length)) ∧ (W1.length ≤ 400 → W2.length ≤ 400 → rdP2 L (T1, T2) = [W1, W2]) := by
  have n1 := ns_loo hL h1
  have n2 := ns_loo hL h2
  have r1 := rdW_loo hL (by decide : 1 ≤ 6) h1
  have r2 := rdW_loo hL (by decide : 1 ≤ 6) h2
  obtain ⟨a1, _, a3, _⟩ := loo_ok hL 1 h1
  obtain ⟨b1, _, b3, _⟩ := loo_ok hL 1 h2
  have t1 : tb 1 ≤ 4000 := by decide
  have ne : ∀ {T W : List Nat}, rdW L T = (if W.length ≤ 400 then .ok W else .error none) → ∀ i, rdW L T ≠ .error (some i) := fun e i z => by
    rw [e] at z
    split at z
    · cases z
    · cases z
  refine ⟨⟨fun h => (n1 61 h).2 rfl, fun h => (n2 61 h).2 rfl, by omega, by omega, a3, b3, ne r1, ne r2⟩, ⟨fun h => (n1 59 h).1 rfl, fun h => (n2 59 h).1 rfl⟩, ?_, fun k1 k2 => ?_⟩
  · have is_ : ∀ {T W : List Nat}, rdW L T = (if W.length ≤ 400 then .ok W else .error none) → isN L T = decide (400 < W.length) := fun {T W} e => by
      unfold isN
      rw [e]
      by_cases h : W.length ≤ 400
      · rw [if_pos h, decide_eq_false (by omega)]
      · rw [if_neg h, decide_eq_true (by omega)]
    show (isN L T1 || isN L T2) = _
    rw [is_ r1, is_ r2]
  · unfold rdP2 wR
    rw [r1, r2, if_pos k1, if_pos k2]
end K15
set_option maxRecDepth 100000
set_option maxHeartbeats 2000000
namespace K15
open PySem PySem.Spec PyProof.Rows L2 KA
theorem scTwr : FnScope ["self", "more", "rules"] ((["self"] : List Str) ++ (["more"] : List Str)) (defScope sTwr) := ⟨rfl, rfl, rfl, by decide +kernel, rfl, by decide +kernel, by decide +kernel⟩
def spWB (C CG CU : Addr) (T : List (Addr × Str)) : Sp := fun vs H Q E => ∃ (x q p : Addr) (L : List Nat) (rs ms : Rls), vs = [.ref x, .ref p] ∧ Tn C H x L q rs ∧ H p = some (.tup (rfs ms)) ∧ ms.length ≤ 50 ∧ MkTn C CG CU T H L (rs ++ ms) E (fun x' H' => Q (.ref x') H')
def spWr (C CG CU : Addr) (T : List (Addr × Str)) : Sp := fun vs H Q E => ∃ (ws rest : List V), vs = ws ++ rest ∧ ws.length = 1 ∧ rest.length ≤ sizeLine ∧ ∀ p, H p = Option.none → spWB C CG CU T (ws ++ [V.ref p]) (upd H p (.tup rest)) Q E
theorem MkTn.at {K : PySem.W.Frag} {C CG CU : Addr} {T : List (Addr × Str)} {H H1 : Hp} {L : List Nat} {rs : Rls} {E : XK} {Q' : Addr → Hp → Prop} (h : MkTn C CG CU T H L rs E Q') (s : Same H H1) : ∀ x dx, H1 x = Option.none → H1 dx = Option.none → dx ≠ x →
    spTown K C CG CU T (V.ref x :: tx L :: (rfs rs ++ [])) (upd (upd H1 dx (.own x)) x (.ins C dx [])) (fun v H2 => v = .non ∧ Q' x H2) E := by
  rw [List.append_nil]
  exact mk_town (h.same s)
section
variable {P : Program} {w : World} {K : PySem.W.Frag} {mg : Str → Option Value} {base : Heap}
theorem ok_wr {f C CG CU fI : Addr} {T : List (Addr × Str)} {oc kV doc pm ct cdv : Value} {an od : Option Addr} {osl : Array (Option Value)} (lk : K.lookup f = some ⟨oc, od, .func (PySem.W.fnOf "with_rules" "Town.with_rules" (defArgs sTwr) (defBody sTwr) (defScope sTwr) .none kV doc pm an cdv ct), osl⟩) (hcd : PySem.W.codeIn K cdv "Town.with_rules" = true)
    (TC : TwC K C) (M : Mk K C fI) (gC : mg "Town" = some (.ref C)) (G : FnR P w K mg base (L2.CX P w) 8 fI (spTown K C CG CU T)) : FnR P w K mg base (L2.CX P w) 10 f (spWr C CG CU T) := by
  refine StX.fn_star (ps := ["self"]) (pv := "more") (N := ["self", "more", "rules"]) lk hcd scTwr StX.cxUp (StX.bind_star1 (B := fun us => bindArgs (PySem.W.fnOf "with_rules" "Town.with_rules" (defArgs sTwr) (defBody sTwr) (defScope sTwr) .none kV doc pm an cdv ct) ⟨us, []⟩) (fun a => rfl) (fun a r rs => by kernel_rfl)) (fun A outer s H vs Q E hr h => ?_)
  obtain ⟨x, q, p, L, rs, ms, rfl, hT, hp, hm, mk⟩ := h
  obtain ⟨dx, t, hx⟩ := hT.ins
  have h6 := hT.sz
  refine ⟨_, pss_cons (ps_set (i := 2) scTwr.nd rfl (.inl rfl) (pe_lst (StX.pa_star (pe_fld (pv 0) rfl) (StX.pa_star (pv 1) pa_nil))))
    (pss_one (ps_ret (Rs.pe_makeS M G hr (by rfl) gC (passes_call (W := fun cls d _ H => E cls d H) (takes_of rfl rfl rfl rfl) (fun _ _ _ _ h => h)) (pa_cons (pe_fld (pv 0) rfl) (StX.pa_star (pv 2) pa_nil))))), ?_⟩
  refine ⟨_, rfl, x, C, dx, _, .ref q, rfl, hx, TC.cl, TC.pa, rfl, q, _, rfl, .inr (SqL.of hT.lst), _, rfl, p, _, rfl, .inl (SqT.of hp), ?_, fun l nl => ?_⟩
  · rw [List.append_nil, List.length_append, List.length_map, List.length_map]
    exact Nat.le_trans (show rs.length + ms.length ≤ 56 by omega) (by decide)
  have e0 : rfs rs ++ (rfs ms ++ []) = rfs (rs ++ ms) := by
    rw [List.append_nil]
    exact (List.map_append).symm
  rw [e0]
  have s1 := same_new (o := .lst (rfs (rs ++ ms))) nl
  have hx1 := s1 _ _ hx
  exact ⟨_, rfl, x, C, dx, _, tx L, rfl, hx1, TC.cl, TC.al, rfl, _, rfl, l, _, rfl, .inr (SqL.of upd_same), mk.at (K := K) s1⟩
end
abbrev sTown : Stmt := top 82
abbrev sSr : Stmt := top 81
abbrev NTw : List Str := ["_law_letters_here", "_law_rules_now", "_law_made", "_law_rule"]
abbrev NSr : List Str := ["_law_box", "_law_letters_here", "_law_many", "_law_most", "_law_found", "_law_k"]
theorem scTown : FnScope NTw ["_law_letters_here", "_law_rules_now"] (defScope sTown) := ⟨rfl, rfl, rfl, by decide +kernel, rfl, by decide +kernel, by decide +kernel⟩
theorem scSr : FnScope NSr ["_law_box", "_law_letters_here", "_law_many", "_law_most"] (defScope sSr) := ⟨rfl, rfl, rfl, by decide +kernel, rfl, by decide +kernel, by decide +kernel⟩
def spTwn (C : Addr) (T : List (Addr × Str)) : Sp := fun vs H Q _ => ∃ (l : Addr) (L : List Nat) (rs : Rls), vs = [tx L, .ref l] ∧ H l = some (.lst (rfs rs)) ∧ Tws H rs ∧ (∀ r ∈ wds rs, ∀ l ∈ r, Asc l) ∧ LamX.Tabs T H ∧ Asc L ∧ Lt L ∧ GoodL L ∧ GoodU L (wds rs) ∧
  ∀ (H' : Hp) (x q : Addr), LamX.ExtN H H' → LamX.Tabs T H' → KT.New H q → Tn C H' x L q rs → Q (.ref x) H'
section
variable {P : Program} {w : World} {K : PySem.W.Frag} {mg : Str → Option Value} {base : Heap}
theorem ok_twn {f C CG CU fI fWr : Addr} {fd : FuncData} {T : List (Addr × Str)} (F : Fun K "_law_town" "_law_town" sTown f fd) (TC : TwC K C) (M : Mk K C fI) (gC : mg "Town" = some (.ref C)) (G : FnR P w K mg base (L2.CX P w) 8 fI (spTown K C CG CU T))
    (MW : Meth K C "with_rules" fWr) (GW : FnR P w K mg base (L2.CX P w) 10 fWr (spWr C CG CU T)) : FnOk P w K mg base (L2.CX P w) 11 f fd ["_law_letters_here", "_law_rules_now"] (spTwn C T) := by
  refine F.okX scTown (fun vs H Q E h => ?_) (fun cdv A outer s H vs Q E hr h => ?_)
  · obtain ⟨l, L, rs, rfl, _⟩ := h
    rfl
  · obtain ⟨l, L, rs, rfl, hl, tw, as, tb, la, lt, gL, gU, qq⟩ := h
    have r9 : Room 9 (A.deeper (envOfC "_law_town" (defScope sTown) s.heap.objs.size f cdv)) := hr.mono (by decide)
    have pass : Passes (L2.CX P w) (cxOf (L2.CX P w) P w K mg base NTw "_law_town" (defScope sTown) f cdv A outer s H E) E := passes_call (W := fun cls d _ H => E cls d H) (takes_of rfl rfl rfl rfl) (fun _ _ _ _ h => h)
    refine ⟨_, pss_cons (ps_set (i := 2) scTown.nd rfl (.inl rfl) (StX.pe_makeR M G r9 (by rfl) gC pass (pa_cons (pv 0) pa_nil)))
      (pss_cons (ps_for (passes_of rfl) rfl (pi_list (pv 1)) (pg_name (i := 3) scTown.nd rfl (Or.inl rfl)) (pss_one (ps_set (i := 2) scTown.nd rfl (.inl rfl) (pe_methR (pv 2) TC.cl MW GW hr pass (pa_cons (pv 3) pa_nil)))))
      (pss_one (ps_ret (pv 2)))), ?_⟩
    have g6 := good_six gU
    rw [List.length_map] at g6
    have gA := good_all gU
    refine ⟨_, rfl, ?_⟩
    refine mk_town (K := K) (C := C) (CG := CG) (CU := CU) (T := T) (L := L) (rs := []) (E := E) ⟨(fun r hr => nomatch hr), (fun r hr => nomatch hr), by decide, tb, by have := gL.len; omega, la, fun _ => lt, fun i hw => good_nw gL hw, fun _ i hi => absurd hi (Nat.not_lt_zero _), fun _ _ H1 x1 q1 eX1 tb1 nw1 hT1 => ?_⟩
    have hl1 := eX1 _ _ hl (fun ps z => nomatch z)
    refine ⟨_, rfl, l, rfl, ⟨_, SqL.of hl1⟩, ?_⟩
    refine for_it (walk_list (K := K) (a := l) (xs := rfs rs)) (fun i σ H2 => ∃ (x q : Addr) (y3 : Option V), σ = [some (tx L), some (.ref l), some (.ref x), y3] ∧ LamX.ExtN H H2 ∧ LamX.Tabs T H2 ∧ KT.New H q ∧ Tn C H2 x L q (rs.take i)) ⟨x1, q1, none, rfl, eX1, tb1, nw1, hT1⟩ (fun i σ H2 _ h => ?_) ?_ ?_
    · obtain ⟨x, q, y3, _, eX, _⟩ := h
      exact SqL.of (eX _ _ hl (fun ps z => nomatch z))
    · rintro i v σ H2 H2' hi ⟨x, q, y3, rfl, eX, tb2, nw2, hT⟩ ⟨rfl, hv⟩
      rw [List.length_map] at hi
      have gl : rs[i]? = some rs[i] := List.getElem?_eq_getElem hi
      obtain rfl : V.ref rs[i].1 = v := by
        rw [List.getElem?_map, gl] at hv
        exact Option.some.inj hv
      have tm := take_more gl
      generalize rs[i] = r at gl tm
      have hm : ∀ z ∈ rs.take i ++ [r], z ∈ rs := fun z hz => by
        rw [← tm] at hz
        exact List.mem_of_mem_take hz
      obtain ⟨dx, t, hx⟩ := hT.ins
      refine ⟨_, rfl, x, dx, _, rfl, hx, rfl, _, rfl, [V.ref x], [V.ref r.1], rfl, rfl, (by show 1 ≤ sizeLine; decide), fun p np => ?_⟩
      have s3 := same_new (o := .tup [V.ref r.1]) np
      have gU1 : GoodU L (wds (rs.take i ++ [r])) := by
        refine good_of ?_ ?_
        · rw [List.length_map, ← tm]
          exact Nat.le_trans (List.length_take_le' _ _) g6
        · intro z hz
          obtain ⟨y, hy, rfl⟩ := List.mem_map.mp hz
          exact gA _ (List.mem_map.mpr ⟨y, hm y hy, rfl⟩)
      have l1 : (rs.take i ++ [r]).length ≤ 100 := by
        rw [← tm]
        exact Nat.le_trans (List.length_take_le' _ _) (by omega)
      refine ⟨x, q, p, L, rs.take i, [r], rfl, hT.same s3, upd_same, (by show 1 ≤ 50; decide), ⟨fun z hz => ((tw.ext eX).same s3) z (hm z hz), ?_, l1, tb2.ext s3, by have := gL.len; omega, la, fun _ => lt, fun i hw => good_nw gL hw, fun _ j hj hb _ => good_no gU1 (by rw [List.length_map]; exact hj) hb, fun _ _ H4 x' q' eX4 tb4 nw4 hT4 => ?_⟩⟩
      · intro z hz
        obtain ⟨y, hy, rfl⟩ := List.mem_map.mp hz
        exact as _ (List.mem_map.mpr ⟨y, hm y hy, rfl⟩)
      · refine ⟨x', q', _, rfl, eX.trans (LamX.ExtN.trans (.of s3) eX4), tb4, KT.New.ext (eX.trans (.of s3)) nw4, ?_⟩
        rw [tm]
        exact hT4
    · rintro σ H2 ⟨x, q, y3, rfl, eX, tb2, nw2, hT⟩
      rw [List.length_map, List.take_length] at hT
      exact ⟨_, rfl, qq H2 x q eX tb2 nw2 hT⟩
end
theorem TW.go {H H' : Hp} {b m : Addr} {x : Addr × List (List Nat)} (h : TW H x) (hB : Bx H b m) (g : BxGo H H' b m) : TW H' x := by
  obtain ⟨ms, i, r, s, hb, _⟩ := hB
  have h' : H x.1 = some (.tup (x.2.map tx)) := h
  refine g.2 _ _ (fun e => ?_) h'
  rw [e, hb] at h'
  cases h'
/-- a rule as it is drawn -/
def Rp (L : List Nat) (n : Nat) (r : List (List Nat)) : Prop := ∃ x y, r = [x, y] ∧ x.length ≤ n ∧ y.length ≤ n ∧ (∀ c ∈ x, c ∈ sg L) ∧ (∀ c ∈ y, c ∈ sg L)
def spSr : Sp := fun vs H Q _ => ∃ (b m : Addr) (L : List Nat) (many most : Nat), vs = [.ref b, tx L, .int (many : Nat), .int (most : Nat)] ∧ Bx H b m ∧ Lt L ∧ L ≠ [] ∧ most ≤ 100 ∧ many ≤ 100 ∧
  ∀ (p : Addr) (rs : Rls) (H' : Hp), BxGo H H' b m → H p = none → p ≠ b → p ≠ m → H' p = some (.lst (rfs rs)) → rs.length ≤ many → (∀ r ∈ rs, TW H' r ∧ Rp L most r.2) → Q (.ref p) H'
section
variable {P : Program} {w : World} {K : PySem.W.Frag} {mg : Str → Option Value} {base : Heap}
theorem ok_sr {f fD fS : Addr} {fd fdD fdS : FuncData} (F : Fun K "_law_some_rules" "_law_some_rules" sSr f fd) (B : Bn mg) (cD : KT.Cb P w K mg base CX0 1 "_law_draw" ["_law_box", "_law_many"] spDraw fD fdD)
    (cS : KT.Cb P w K mg base CX0 4 "_law_side" ["_law_box", "_law_letters_here", "_law_most"] spSome fS fdS) : FnOk P w K mg base CX0 5 f fd ["_law_box", "_law_letters_here", "_law_many", "_law_most"] spSr := by
  refine F.ok scSr (fun vs H Q E h => ?_) (fun cdv A outer s H vs Q E hr h => ?_)
  · obtain ⟨b, m, L, many, most, rfl, _⟩ := h
    rfl
  · obtain ⟨b, m, L, many, most, rfl, bx, lt, hne, h100, hmany, qq⟩ := h
    have r1 : Room 1 (A.deeper (envOfC "_law_some_rules" (defScope sSr) s.heap.objs.size f cdv)) := hr.mono (by omega)
    have r4 : Room 4 (A.deeper (envOfC "_law_some_rules" (defScope sSr) s.heap.objs.size f cdv)) := hr.mono (by omega)
    refine ⟨_, pss_cons (ps_set (i := 4) scSr.nd rfl (.inl rfl) (pe_lst pa_nil))
      (pss_cons (ps_for PassesOwn.never rfl (pi_range1 (by rfl) B.range (pa_cons (pe_call cD.ok r1 (by rfl) cD.g cD.kp cD.b .nil pass0 (pa_cons (pv 0) (pa_cons (pe_op op_add (pv 2) pe_int) pa_nil))) pa_nil)) (pg_name (i := 5) scSr.nd rfl (Or.inl rfl))
        (pss_one (ps_expr (pe_bm PySem.F.plainAttrs_list PySem.F.slot_list_append PySem.F.type_list_append mt_append (pv 4) (pa_cons (pe_tup (pa_cons (pe_call cS.ok r4 (by rfl) cS.g cS.kp cS.b .nil pass0 (pa_cons (pv 0) (pa_cons (pv 1) (pa_cons (pv 3) pa_nil)))) (pa_cons (pe_call cS.ok r4 (by rfl) cS.g cS.kp cS.b .nil pass0 (pa_cons (pv 0) (pa_cons (pv 1) (pa_cons (pv 3) pa_nil)))) pa_nil))) pa_nil)))))
      (pss_one (ps_ret (pv 4)))), ?_⟩
    refine ⟨(by show 0 ≤ sizeLine; decide), fun p np => ?_⟩
    have s1 := same_new (o := .lst []) np
    have hpb : p ≠ b := bx.ne np
    have hpm : p ≠ m := bx.neM np
    have bx1 := bx.same s1
    refine ⟨_, rfl, _, rfl, _, _, rfl, rfl, b, m, (many : Int) + 1, rfl, bx1, by omega, by omega, fun d H1 d0 d1 hT => ⟨d, rfl, by omega, by omega, ?_⟩⟩
    have g1 : BxGo H H1 b m := ⟨hT.go.1, fun x o hx e => hT.go.2 x o hx (s1 _ _ e)⟩
    have hp1 := hT.go.2 _ _ hpb upd_same
    refine for_it (walk_range (lo := 0) (n := d.toNat)) (fun i σ H3 => ∃ (rs : Rls) (y5 : Option V), σ = [some (.ref b), some (tx L), some (.int (many : Nat)), some (.int (most : Nat)), some (.ref p), y5] ∧ rs.length = i ∧ BxGo H H3 b m ∧ H3 p = some (.lst (rfs rs)) ∧ ∀ r ∈ rs, TW H3 r ∧ Rp L most r.2)
      ⟨[], none, rfl, rfl, g1, hp1, fun r hr => nomatch hr⟩ (fun _ _ _ _ _ => trivial) ?_ ?_
    · rintro i v σ H3 H3' hi ⟨rs, y5, rfl, hlen, g3, hp3, hrs⟩ ⟨rfl, rfl⟩
      refine ⟨_, rfl, .inl ⟨rfl, _, SqL.of hp3⟩, ?_⟩
      refine ⟨_, rfl, _, rfl, _, rfl, b, m, L, most, rfl, g3.1, lt, hne, h100, fun w1 H4 l1 m1 g4 => ?_⟩
      refine ⟨_, rfl, _, rfl, _, rfl, b, m, L, most, rfl, g4.1, lt, hne, h100, fun w2 H5 l2 m2 g5 => ⟨(by show 2 ≤ sizeLine; decide), fun pt npt => ?_⟩⟩
      have s6 := same_new (o := .tup [tx w1, tx w2]) npt
      have hp5 := g5.2 _ _ hpb (g4.2 _ _ hpb hp3)
      have hp6 := s6 _ _ hp5
      have hpt : pt ≠ p := fun e => by
        rw [e, hp5] at npt
        cases npt
      refine ⟨p, _, _, rfl, rfl, hp6, ?_, rs ++ [(pt, [w1, w2])], _, rfl, ?_, ⟨(g5.1.same s6).upd hpb hpm, fun x o hx e => ?_⟩, ?_, fun r hr => ?_⟩
      · rw [List.length_map, hlen]
        exact small1000 (by omega)
      · rw [List.length_append, hlen]
        rfl
      · rw [upd_ne (ne_of_none e np)]
        exact s6 _ _ (g5.2 _ _ hx (g4.2 _ _ hx (g3.2 _ _ hx e)))
      · rw [upd_same]
        show some (HO.lst (rfs rs ++ rfs [(pt, [w1, w2])])) = _
        exact congrArg (fun z => some (HO.lst z)) (List.map_append).symm
      · rcases List.mem_append.mp hr with h | h
        · obtain ⟨t1, t2⟩ := hrs r h
          refine ⟨?_, t2⟩
          have t3 := s6 _ _ (((t1.go g3.1 g4).go g4.1 g5) : H5 r.1 = some (.tup (r.2.map tx)))
          show upd _ p _ r.1 = _
          rw [upd_ne (fun e => by rw [e, hp6] at t3; cases t3)]
          exact t3
        · obtain rfl := List.mem_singleton.mp h
          refine ⟨?_, w1, w2, rfl, l1, l2, m1, m2⟩
          show upd _ p _ pt = _
          rw [upd_ne hpt]
          exact upd_same
    · rintro σ H3 ⟨rs, y5, rfl, hlen, g3, hp3, hrs⟩
      exact ⟨_, rfl, qq p rs H3 g3 np hpb hpm hp3 (by omega) hrs⟩
end
end K15
set_option maxRecDepth 100000
set_option maxHeartbeats 2000000
namespace K15
open PySem PySem.Spec PyProof.Rows L2 KA
theorem e_never {X : Cx} {e : Expr} : PE X e (fun _ _ _ => False) := ⟨fun _ _ _ _ _ _ h => h.elim⟩
theorem e_weak {X : Cx} {e : Expr} {t1 t2 : TE} (h : PE X e t1) (imp : ∀ σ H Q, t2 σ H Q → t1 σ H Q) : PE X e t2 := ⟨fun pins s σ H Q I hq => h.run pins s σ H Q I (imp σ H Q hq)⟩
theorem in_noS {H : Hp} {K : PySem.W.Frag} {tg : V} {xs : List V} {Q : VK} (b : Bool) (ht : flatV tg = true) (hl : xs.length ≤ sizeLine) (hf : xs.all flatV = true) (hn : inV tg xs = b) (q : ∀ H', Same H H' → Q (.bl b) H') : xs.length ≤ sizeLine ∧ ∀ p, H p = none → rIn K false tg (.ref p) (upd H p (.tup xs)) Q := by
  refine ⟨hl, fun p np => ⟨p, xs, rfl, .inr (SqT.of upd_same), ht, hf, ?_⟩⟩
  show Q (.bl (inV tg xs)) _
  rw [hn]
  exact q _ (same_new np)
section
variable {P : Program} {w : World} {K : PySem.W.Frag} {mg : Str → Option Value} {base : Heap}
/-- an error of the class C with its one field -/
def One (C : Addr) (tg : V) (fl : Str) (cls : Value) (d : Option Addr) (H : Hp) (q : V → Prop) : Prop := cls = .ref C ∧ ∃ (dd : Addr) (v : V), d = some dd ∧ H dd = some (.xd [("tag", tg), (fl, v)]) ∧ q v
def spF (Cu Cl a : Addr) (cls : Value) (d : Option Addr) : Sp := fun vs H Q _ => vs = [.ref a] ∧ (One Cu tagU "at" cls d H (fun v => ∀ H', Same H H' → Q v H') ∨ One Cl tagL "limit" cls d H (fun v => ∀ H', Same H H' → Q v H'))
def spFld (Cu Cl : Addr) : Addr × Obj → Sp := fun p vs H Q E => ∃ (cls : Value) (d : Option Addr), Zc cls d p.2 ∧ (∃ us, p.2.data = .fields us) ∧ spF Cu Cl p.1 cls d vs H Q E
theorem ok_fld {f Cu fU Cl fL : Addr} {fd : FuncData} {k : Nat} (F : Fun K "_law_field" "_law_field" sField f fd) (TU : ErC K mg "InvalidRule" "at" Cu fU) (XU : XfC K Cu) (TL : ErC K mg "TooLong" "limit" Cl fL) (XL : XfC K Cl) : Rs.FnPin P w K mg base (k + 1) f fd ["_law_e"] (spFld Cu Cl) := by
  refine Rs.fn_pin F scField (fun p vs H Q E h => ?_) (fun cdv A outer s H vs Q p hr h => ?_)
  · obtain ⟨cls, d, _, _, rfl, _⟩ := h
    rfl
  · obtain ⟨a, oe⟩ := p
    obtain ⟨cls, d, hz, hf, rfl, h2⟩ := h
    have hp : (a, oe) ∈ (L2H.cxH CX0 P w K mg base ["_law_e"] "_law_field" (defScope sField) f cdv A outer s H E0 (a, oe)).nox.pn := List.mem_cons_self
    rcases h2 with ⟨rfl, dd, v, rfl, hd, q⟩ | ⟨rfl, dd, v, rfl, hd, q⟩
    · refine ⟨_, pss_cons (ps_if (pt_cmpR op_in_seq (Rs.e_xf XU TU.nTag hz hf hp (pv 0)) (pe_tup (pa_cons pe_str (pa_cons pe_str (pa_cons pe_str (pa_cons pe_str (pa_cons pe_str (pa_cons pe_str pa_nil))))))) (by rfl)) pss_never pss_nil) (pss_cons (ps_if (pt_cmpR op_in_seq (Rs.e_xf XU TU.nTag hz hf hp (pv 0)) (pe_tup (pa_cons pe_str (pa_cons pe_str pa_nil))) (by rfl)) pss_never pss_nil) (pss_cons (ps_if (pt_cmpR op_in_seq (Rs.e_xf XU TU.nTag hz hf hp (pv 0)) (pe_tup (pa_cons pe_str (pa_cons pe_str (pa_cons pe_str pa_nil)))) (by rfl)) pss_never pss_nil) (pss_cons (ps_if (pt_cmpR op_in_seq (Rs.e_xf XU TU.nTag hz hf hp (pv 0)) (pe_tup (pa_cons pe_str (pa_cons pe_str (pa_cons pe_str pa_nil)))) (by rfl)) pss_never pss_nil) (pss_cons (ps_if (pt_cmpR op_in_seq (Rs.e_xf XU TU.nTag hz hf hp (pv 0)) (pe_tup (pa_cons pe_str (pa_cons pe_str pa_nil))) (by rfl)) pss_never pss_nil) (pss_cons (ps_if (pt_cmpR op_eq (Rs.e_xf XU TU.nTag hz hf hp (pv 0)) pe_str (nomark _)) pss_never pss_nil) (pss_one (ps_ret (pe_ifExp (pt_cmpR op_eq (Rs.e_xf XU TU.nTag hz hf hp (pv 0)) pe_str (nomark _)) e_never (Rs.e_xf XU TU.nF hz hf hp (pv 0)))))))))), ?_⟩
      refine ⟨_, rfl, rfl, rfl, dd, _, _, rfl, hd, rfl, in_noS false rfl (by show 6 ≤ sizeLine; decide) rfl (by decide +kernel) fun H1 s1 => ⟨_, rfl, iteF ?_⟩⟩
      refine ⟨_, rfl, rfl, rfl, dd, _, _, rfl, (s1 _ _ hd), rfl, in_noS false rfl (by show 2 ≤ sizeLine; decide) rfl (by decide +kernel) fun H2 s2 => ⟨_, rfl, iteF ?_⟩⟩
      have s2 := s1.trans s2
      refine ⟨_, rfl, rfl, rfl, dd, _, _, rfl, (s2 _ _ hd), rfl, in_noS false rfl (by show 3 ≤ sizeLine; decide) rfl (by decide +kernel) fun H3 s3 => ⟨_, rfl, iteF ?_⟩⟩
      have s3 := s2.trans s3
      refine ⟨_, rfl, rfl, rfl, dd, _, _, rfl, (s3 _ _ hd), rfl, in_noS false rfl (by show 3 ≤ sizeLine; decide) rfl (by decide +kernel) fun H4 s4 => ⟨_, rfl, iteF ?_⟩⟩
      have s4 := s3.trans s4
      refine ⟨_, rfl, rfl, rfl, dd, _, _, rfl, (s4 _ _ hd), rfl, in_noS false rfl (by show 2 ≤ sizeLine; decide) rfl (by decide +kernel) fun H5 s5 => ⟨_, rfl, iteF ?_⟩⟩
      have s5 := s4.trans s5
      refine ⟨_, rfl, rfl, rfl, dd, _, _, rfl, s5 _ _ hd, rfl, rfl, false, congrArg V.bl (by decide +kernel), iteF ?_⟩
      refine ⟨_, rfl, rfl, rfl, dd, _, _, rfl, s5 _ _ hd, rfl, rfl, false, congrArg V.bl (by decide +kernel), iteF ?_⟩
      exact ⟨_, rfl, rfl, rfl, dd, _, _, rfl, s5 _ _ hd, rfl, q _ s5⟩
    · refine ⟨_, pss_cons (ps_if (pt_cmpR op_in_seq (Rs.e_xf XL TL.nTag hz hf hp (pv 0)) (pe_tup (pa_cons pe_str (pa_cons pe_str (pa_cons pe_str (pa_cons pe_str (pa_cons pe_str (pa_cons pe_str pa_nil))))))) (by rfl)) pss_never pss_nil) (pss_cons (ps_if (pt_cmpR op_in_seq (Rs.e_xf XL TL.nTag hz hf hp (pv 0)) (pe_tup (pa_cons pe_str (pa_cons pe_str pa_nil))) (by rfl)) pss_never pss_nil) (pss_cons (ps_if (pt_cmpR op_in_seq (Rs.e_xf XL TL.nTag hz hf hp (pv 0)) (pe_tup (pa_cons pe_str (pa_cons pe_str (pa_cons pe_str pa_nil)))) (by rfl)) (pss_one (ps_ret (Rs.e_xf XL TL.nF hz hf hp (pv 0)))) pss_nil) (pss_cons (ps_if (pt_cmpR op_in_seq (Rs.e_xf XL TL.nTag hz hf hp (pv 0)) (pe_tup (pa_cons pe_str (pa_cons pe_str (pa_cons pe_str pa_nil)))) (by rfl)) pss_never pss_nil) (pss_cons (ps_if (pt_cmpR op_in_seq (Rs.e_xf XL TL.nTag hz hf hp (pv 0)) (pe_tup (pa_cons pe_str (pa_cons pe_str pa_nil))) (by rfl)) pss_never pss_nil) (pss_cons (ps_if (pt_cmpR op_eq (Rs.e_xf XL TL.nTag hz hf hp (pv 0)) pe_str (nomark _)) pss_never pss_nil) pss_never))))), ?_⟩
      refine ⟨_, rfl, rfl, rfl, dd, _, _, rfl, hd, rfl, in_noS false rfl (by show 6 ≤ sizeLine; decide) rfl (by decide +kernel) fun H1 s1 => ⟨_, rfl, iteF ?_⟩⟩
      refine ⟨_, rfl, rfl, rfl, dd, _, _, rfl, (s1 _ _ hd), rfl, in_noS false rfl (by show 2 ≤ sizeLine; decide) rfl (by decide +kernel) fun H2 s2 => ⟨_, rfl, iteF ?_⟩⟩
      have s2 := s1.trans s2
      refine ⟨_, rfl, rfl, rfl, dd, _, _, rfl, (s2 _ _ hd), rfl, in_noS true rfl (by show 3 ≤ sizeLine; decide) rfl (by decide +kernel) fun H3 s3 => ⟨_, rfl, iteT ?_⟩⟩
      have s3 := s2.trans s3
      exact ⟨_, rfl, rfl, rfl, dd, _, _, rfl, s3 _ _ hd, rfl, q _ s3⟩
/-! _law_why: what it makes of a lambda that may raise one of the three -/
def Ech (Cu Cl : Addr) (Q : VK) : XK := fun cls d H' => One Cu tagU "at" cls d H' (fun v => ∀ H2 T, Same H' H2 → H' T = none → H2 T = some (.tup [tagU, v]) → Q (.ref T) H2) ∨ One Cl tagL "limit" cls d H' (fun v => ∀ H2 T, Same H' H2 → H' T = none → H2 T = some (.tup [tagL, v]) → Q (.ref T) H2)
def TTw (Cu Cl : Addr) : (XK → Hp → VK → Prop) → Hp → VK → Prop := fun tl H Q =>
  tl (Ech Cu Cl Q) H (fun v H1 => [V.str (Str.ofString ""), v].length ≤ sizeLine ∧ ∀ T, H1 T = none → Q (.ref T) (upd H1 T (.tup [.str (Str.ofString ""), v])))
abbrev NW : List Str := ["_law_ask", "_law_e"]
theorem why_gives {X : Cx} {g Cu fU Cl fL fF C1 C2 C3 : Addr} {cdg : Value} {fdF : FuncData} {j : Nat} (TU : ErC X.K X.mg "InvalidRule" "at" Cu fU) (XU : XfC X.K Cu) (TL : ErC X.K X.mg "TooLong" "limit" Cl fL) (XL : XfC X.K Cl)
    (GF : Rs.FnPin X.prog X.w X.K X.mg X.base (j + 1) fF fdF ["_law_e"] (spFld Cu Cl)) (kF : PySem.W.keepIn X.K (.ref fF) = true) (bF : Binds X.K fdF ["_law_e"] []) (gF : X.mg "_law_field" = some (.ref fF))
    (m1 : X.mg "TownError" = some (.ref C1)) (m2 : X.mg "Missing" = some (.ref C2)) (m3 : X.mg "NothingLeft" = some (.ref C3)) (hx : ∀ C ∈ [Cu, Cl], PySem.W.exmAny X.K (.ref C) [.ref C1, .ref C2, .ref C3] = some true) (hr : Room (j + 2) X.A) :
    Rs.GivesL X NW "_law_why" (defScope sWhy) g cdg (defBody sWhy) "_law_ask" (TTw Cu Cl) := by
  intro f s H Q tl cd act hc h
  have rm : L2H.RoomH (j + 1) (X.A.deeper (envOfC "_law_why" (defScope sWhy) s.heap.objs.size g cdg)) := ⟨(hr.deeper (envOfC "_law_why" (defScope sWhy) s.heap.objs.size g cdg)).dp, (hr.deeper (envOfC "_law_why" (defScope sWhy) s.heap.objs.size g cdg)).un⟩
  refine ⟨_, pss_one (Rs.s_try3 (X := (cxOf CX0 X.prog X.w X.K X.mg X.base NW "_law_why" (defScope sWhy) g cdg X.A X.stack s H E0).nox) (i := 1) (c1 := .ref C1) (c2 := .ref C2) (c3 := .ref C3)
      (tb := fun W D σ H => ∃ Ech : XK, (∀ cls d σ' H', σ'.length = 2 → Ech cls d H' → W cls d σ' H') ∧ σ[0]? = some (some (.ref f)) ∧ cd H ∧ tl Ech H (fun v H1 => [V.str (Str.ofString ""), v].length ≤ sizeLine ∧ ∀ T, H1 T = none → D.rt (.ref T) (upd H1 T (.tup [.str (Str.ofString ""), v]))))
      (ts := fun a cls d D σ H => (tRet (tTup (tCons (tXf a cls d Cu "tag" (tVar 1)) (tCons (tCall (spF Cu Cl a cls d) [] E0 (tCons (tVar 1) tNil)) tNil)))) D σ H ∨ ((tRet (tTup (tCons (tXf a cls d Cl "tag" (tVar 1)) (tCons (tCall (spF Cu Cl a cls d) [] E0 (tCons (tVar 1) tNil)) tNil)))) D σ H))
      rfl rfl scWhy.nd rfl rfl (by rfl) m1 (by rfl) m2 (by rfl) m3 (fun W pn xe tk => ?_)
      (fun a oe cls d pn hz hf => Rs.ss_or (pss_one (ps_ret (pe_tup (pa_cons (Rs.e_xf XU TU.nTag hz hf List.mem_cons_self (pv 1)) (pa_cons (e_weak (Rs.e_callP (sp := spFld Cu Cl) (p := (a, oe)) GF (show L2H.RoomH (j + 1) _ from ⟨rm.dp, rm.un⟩) List.mem_cons_self (by rfl) gF kF bF (pa_cons (pv 1) pa_nil)) ?_) pa_nil)))))
        (pss_one (ps_ret (pe_tup (pa_cons (Rs.e_xf XL TL.nTag hz hf List.mem_cons_self (pv 1)) (pa_cons (e_weak (Rs.e_callP (sp := spFld Cu Cl) (p := (a, oe)) GF (show L2H.RoomH (j + 1) _ from ⟨rm.dp, rm.un⟩) List.mem_cons_self (by rfl) gF kF bF (pa_cons (pv 1) pa_nil)) ?_) pa_nil))))))), ?_⟩
  · refine ⟨fun pins s' σ H' D I h' => ?_⟩
    obtain ⟨Ech, hW, h1, h2, h3⟩ := h'
    have tk2 : Takes ((cxOf CX0 X.prog X.w X.K X.mg X.base NW "_law_why" (defScope sWhy) g cdg X.A X.stack s H E0).tr pn xe) (fun cls d σ H => σ.length = 2 → W cls d σ H) := by
      rintro u s2 ⟨a, B, sI, pins2, σ2, H2, cls, d, e, I2, nb, up, sky, na, os, ag, hw2⟩
      exact tk u s2 ⟨a, B, sI, pins2, σ2, H2, cls, d, e, I2, nb, up, sky, na, os, ag, hw2 I2.len⟩
    exact (pss_one (ps_ret (pe_tup (pa_cons pe_str (pa_cons (act (fun cls d σ H => σ.length = 2 → W cls d σ H) pn xe Ech _ _ tk2 (fun cls d σ' H' hE hl => hW cls d σ' H' hl hE)) pa_nil))))).run pins s' σ H' D I ⟨h1, h2, h3⟩
  · intro σ H' Q' hq
    obtain ⟨v, hv, hva, rest⟩ := hq
    exact ⟨v, hv, _, _, hz, hf, hva, rest⟩
  · intro σ H' Q' hq
    obtain ⟨v, hv, hva, rest⟩ := hq
    exact ⟨v, hv, _, _, hz, hf, hva, rest⟩
  · refine ⟨_, fun cls d σ' H' hlen hE => ?_, rfl, hc, h⟩
    rcases hE with ⟨rfl, dd, v, rfl, hd, q2⟩ | ⟨rfl, dd, v, rfl, hd, q2⟩
    · refine ⟨hx Cu List.mem_cons_self, fun a na => .inl ?_⟩
      refine ⟨_, ?_, rfl, rfl, dd, _, _, rfl, hd, rfl, _, ?_, rfl, .inl ⟨rfl, dd, v, rfl, hd, fun H2 s2 => ⟨(by show 2 ≤ sizeLine; decide), fun T nT => q2 _ T (s2.trans (same_new nT)) (s2.free nT) upd_same⟩⟩⟩
      · simp [hlen]
      · simp [hlen]
    · refine ⟨hx Cl (List.mem_cons_of_mem _ List.mem_cons_self), fun a na => .inr ?_⟩
      refine ⟨_, ?_, rfl, rfl, dd, _, _, rfl, hd, rfl, _, ?_, rfl, .inr ⟨rfl, dd, v, rfl, hd, fun H2 s2 => ⟨(by show 2 ≤ sizeLine; decide), fun T nT => q2 _ T (s2.trans (same_new nT)) (s2.free nT) upd_same⟩⟩⟩
      · simp [hlen]
      · simp [hlen]
end
end K15
set_option maxRecDepth 100000
set_option maxHeartbeats 2000000
namespace KA
open PySem PySem.Spec PyProof.Rows L2
theorem Lg.asc {L : List Nat} (h : Lg L) : Asc L := fun c hc => menu_asc c (h.2.2 c hc)
theorem Lg.ne {L : List Nat} (h : Lg L) : L ≠ [] := fun e => by
  have h1 := h.1.1
  rw [e] at h1
  exact absurd h1 (by decide)
end KA
namespace K15
open PySem PySem.Spec PyProof.Rows L2 KA
abbrev sLaw : Stmt := top 85
abbrev NL : List Str := ["_law_script", "_law_box", "_law_turn", "_law_letters_here", "_law_some", "_law_made", "_law_due", "_law_k", "_law_loose_here", "_law_pairs", "_law_bad", "_law_told", "_law_text_z", "_law_one", "_law_other", "_law_each"]
theorem scLaw : FnScope NL ["_law_script"] (defScope sLaw) := ⟨rfl, rfl, rfl, by decide +kernel, rfl, by decide +kernel, by decide +kernel⟩
def forBody : Stmt → List Stmt
  | .For _ _ b _ _ => b
  | _ => []
def ifBody : Stmt → List Stmt
  | .If _ b _ _ => b
  | _ => []
def elBody : Stmt → List Stmt
  | .If _ _ b _ => b
  | _ => []
def lb : List Stmt := forBody ((defBody sLaw).getD 1 (.Pass ⟨0, 0, 0, 0⟩))
abbrev ls (i : Nat) : Stmt := lb.getD i (.Pass ⟨0, 0, 0, 0⟩)
theorem lb_is : lb = [ls 0, ls 1, ls 2, ls 3, ls 4, ls 5, ls 6, ls 7, ls 8, ls 9, ls 10, ls 11, ls 12, ls 13] := rfl
abbrev XL (P : Program) (w : World) (K : PySem.W.Frag) (mg : Str → Option Value) (base : Heap) (f c : Addr) (A : Around) (outer : List Env) (s : Shared) (H : Hp) (E : XK) : Cx := (cxOf CX0 P w K mg base NL "law" (defScope sLaw) f (.ref c) A outer s H E).nox
def qL : Str := (envOfC "law" (defScope sLaw) 0 0 .none).qual ++ "<lambda>"
/-- what the law calls -/
structure Lc (P : Program) (w : World) (K : PySem.W.Frag) (mg : Str → Option Value) (base : Heap) : Type where
  (C CG CU Cl : Addr)
  T : List (Addr × Str)
  (fBeg fD fA fLe fSr fTx fTw fLo fSp fBd fSa fI fR fT fE fWh fF fU fL pRd gRd C1 C2 C3 : Addr)
  (fdBeg fdD fdA fdLe fdSr fdTx fdTw fdLo fdSp fdBd fdSa fdR fdT fdE fdWh fdF fdRd : FuncData)
  B : Bn mg
  mMax : mg "max" = none
  cBeg : KT.Cb P w K mg base CX0 1 "_law_begin" ["_law_script"] (spBegin K) fBeg fdBeg
  cD : KT.Cb P w K mg base CX0 1 "_law_draw" ["_law_box", "_law_many"] spDraw fD fdD
  cA : KT.Cb P w K mg base CX0 2 "_law_any" ["_law_box", "_law_some"] spAny fA fdA
  cLe : KT.Cb P w K mg base CX0 3 "_law_letters" ["_law_box", "_law_many"] spLet fLe fdLe
  cSr : KT.Cb P w K mg base CX0 5 "_law_some_rules" ["_law_box", "_law_letters_here", "_law_many", "_law_most"] spSr fSr fdSr
  cTx : KT.Cb P w K mg base CX0 1 "_law_text" ["_law_one"] spTx fTx fdTx
  cTw : KT.Cb P w K mg base (L2.CX P w) 11 "_law_town" ["_law_letters_here", "_law_rules_now"] (spTwn C T) fTw fdTw
  cLo : KT.Cb P w K mg base CX0 12 "_law_loose" ["_law_box", "_law_letters_here", "_law_deep"] (spLoose 1) fLo fdLo
  cSp : KT.Cb P w K mg base CX0 3 "_law_space" ["_law_box"] spSpace fSp fdSp
  cBd : KT.Cb P w K mg base CX0 3 "_law_bad_rule" ["_law_rules_now", "_law_letters_here"] spBad fBd fdBd
  cSa : KT.Cb P w K mg base CX0 4 "_law_same" ["_law_found", "_law_due"] (spSame 3) fSa fdSa
  TC : TwC K C
  gC : mg "Town" = some (.ref C)
  M : Mk K C fI
  G : FnR P w K mg base (L2.CX P w) 8 fI (spTown K C CG CU T)
  MR : Meth K C "rules" fR
  GR : FnOk P w K mg base CX0 1 fR fdR ["self"] (spTR C)
  bR : Binds K fdR ["self"] []
  MT : Meth K C "text" fT
  GT : FnOk P w K mg base CX0 3 fT fdT ["self"] (spTt C)
  bT : Binds K fdT ["self"] []
  GE : FnOk P w K mg base CX0 2 fE fdE ["self", "other"] (Rs.spEqB (EqTn C))
  EC : Rs.EqCls K C fE
  bE : Binds K fdE ["self", "other"] []
  rd : ClX.CRead K C (.type "type")
  cm : ClX.CMet K C (.type "type") "read" pRd gRd
  GD : FnOk P w K mg base (L2.CX P w) 36 gRd fdRd ["cls", "text"] (spRead K C CG CU Cl T)
  bD : Binds K fdRd ["cls", "text"] []
  kD : KBinds K fdRd ["cls", "text"] ["text"] Rs.two Rs.two
  FW : Fun K "_law_why" "_law_why" sWhy fWh fdWh
  bWh : Binds K fdWh ["_law_ask"] []
  gWh : mg "_law_why" = some (.ref fWh)
  TU : ErC K mg "InvalidRule" "at" CU fU
  XU : XfC K CU
  TL : ErC K mg "TooLong" "limit" Cl fL
  XCl : XfC K Cl
  GF : Rs.FnPin P w K mg base 1 fF fdF ["_law_e"] (spFld CU Cl)
  kF : PySem.W.keepIn K (.ref fF) = true
  bF : Binds K fdF ["_law_e"] []
  gF : mg "_law_field" = some (.ref fF)
  m1 : mg "TownError" = some (.ref C1)
  m2 : mg "Missing" = some (.ref C2)
  m3 : mg "NothingLeft" = some (.ref C3)
  hx : ∀ C ∈ [CU, Cl], PySem.W.exmAny K (.ref C) [.ref C1, .ref C2, .ref C3] = some true
/-- a def of the law that makes lambdas -/
structure Lt2 (base : Heap) (mg : Str → Option Value) (T : List (Addr × Str)) (c : Addr) (q : Str) : Type where
  Pt : Addr
  hm : (Pt, q) ∈ T
  hu : ∀ p ∈ T, p.1 = Pt → p.2 = q
  TB : LamX.TabB base mg c Pt
theorem tabs_go {T : List (Addr × Str)} {H H' : Hp} {b m : Addr} (t : LamX.Tabs T H) (hB : Bx H b m) (g : BxGo H H' b m) : LamX.Tabs T H' := by
  intro p hp
  obtain ⟨ms, i, r, s, hb, _⟩ := hB
  obtain ⟨ps, h1, h2, h3⟩ := t p hp
  refine ⟨ps, g.2 _ _ (fun e => ?_) h1, h2, fun pos cv hc => ?_⟩
  · rw [e, hb] at h1
    cases h1
  · obtain ⟨c, e1, e2⟩ := h3 pos cv hc
    refine ⟨c, e1, g.2 _ _ (fun e => ?_) e2⟩
    rw [e, hb] at e2
    cases e2
theorem bx_ext {H H' : Hp} {b m : Addr} (x : Bx H b m) (e : LamX.ExtN H H') : Bx H' b m := by
  obtain ⟨ms, i, r, s, h1, h2, h3⟩ := x
  exact ⟨ms, i, r, s, e _ _ h1 (fun ps z => nomatch z), e _ _ h2 (fun ps z => nomatch z), h3⟩
structure Zz (T : List (Addr × Str)) (b m : Addr) (H : Hp) : Prop where
  bx : Bx H b m
  tb : LamX.Tabs T H
theorem Zz.same {T : List (Addr × Str)} {b m : Addr} {H H' : Hp} (z : Zz T b m H) (s : Same H H') : Zz T b m H' := ⟨z.bx.same s, z.tb.ext s⟩
theorem Zz.go {T : List (Addr × Str)} {b m : Addr} {H H' : Hp} (z : Zz T b m H) (g : BxGo H H' b m) : Zz T b m H' := ⟨g.1, tabs_go z.tb z.bx g⟩
theorem Zz.ext {T : List (Addr × Str)} {b m : Addr} {H H' : Hp} (z : Zz T b m H) (e : LamX.ExtN H H') (t : LamX.Tabs T H') : Zz T b m H' := ⟨bx_ext z.bx e, t⟩
theorem lg_good {L : List Nat} (h : Lg L) : GoodL L := by
  have h3 := h.2.1
  refine ⟨KA.Lg.ne h, fun i hi => ?_⟩
  have gl : L[i]? = some L[i] := List.getElem?_eq_getElem hi
  have gd : L.getD i 0 = L[i] := by rw [List.getD_eq_getElem?_getD, gl]; rfl
  have hm := h.2.2 _ (List.getElem_mem hi)
  unfold badL
  rw [gd, decide_eq_false (show ¬ i = 3 by omega), decide_eq_true hm.1, decide_eq_true hm.2, decide_eq_false]
  · rfl
  · intro hz
    obtain ⟨j, hj⟩ := List.mem_iff_getElem?.mp hz
    rw [List.getElem?_take] at hj
    split at hj
    · rename_i hji
      have e1 : L[j]? = L[i]? := by rw [hj, gl]
      have := (List.getElem?_inj (by omega) h.1.2).mp e1
      omega
    · cases hj
theorem sg_ascL {l : List Nat} (h : Lg l) {x : Nat} (hx : x ∈ sg l) : x < 128 := by
  unfold sg at hx
  obtain ⟨c, hc, hx⟩ := List.mem_flatMap.mp hx
  have := h.2.2 c hc
  have hx2 : x = c ∨ x = c - 32 := by simpa using hx
  omega
theorem self_sg {l : List Nat} : ∀ c ∈ l, c ∈ sg l := fun c hc => List.mem_flatMap.mpr ⟨c, hc, List.mem_cons_self⟩
/-- a short tuple of short words -/
def Wt (ws : List (List Nat)) : Prop := ws.length ≤ 1000 ∧ ∀ l ∈ ws, l.length ≤ 1000 ∧ Asc l
theorem ok_two {L x y : List Nat} (hx : x.length ≤ 16) (hy : y.length ≤ 16) (wx : ∀ c ∈ x, c ∈ sg L) (wy : ∀ c ∈ y, c ∈ sg L) : okR L [x, y] = true := by
  have s1 : ∀ z : List Nat, z.length ≤ 16 → (∀ c ∈ z, c ∈ sg L) → sd z L = true := fun z hz wz => by
    unfold sd isW
    rw [decide_eq_true hz, Bool.true_and, List.all_eq_true]
    exact fun c hc => decide_eq_true (wz c hc)
  unfold okR
  rw [decide_eq_true (show [x, y].length = 2 from rfl), Bool.true_and, List.all_cons, List.all_cons, s1 x hx wx, s1 y hy wy]
  rfl
theorem Rp.ok {L : List Nat} {n : Nat} {ws : List (List Nat)} (h : Rp L n ws) (hn : n ≤ 16) : okR L ws = true := by
  obtain ⟨x, y, rfl, hx, hy, wx, wy⟩ := h
  exact ok_two (by omega) (by omega) wx wy
theorem Rp.wt {L : List Nat} {n : Nat} {ws : List (List Nat)} (h : Rp L n ws) (hn : n ≤ 16) (hl : Lg L) : Wt ws := by
  obtain ⟨x, y, rfl, hx, hy, wx, wy⟩ := h
  refine ⟨(by show 2 ≤ 1000; decide), fun z hz => ?_⟩
  have : z = x ∨ z = y := by simpa using hz
  rcases this with rfl | rfl
  · exact ⟨by omega, fun c hc => sg_ascL hl (wx c hc)⟩
  · exact ⟨by omega, fun c hc => sg_ascL hl (wy c hc)⟩
/-- rules that a town may have, of no great length -/
structure Ru (L : List Nat) (H : Hp) (rs : Rls) : Prop where
  row : ∀ r ∈ rs, TW H r
  ok : ∀ r ∈ rs, okR L r.2 = true ∧ Wt r.2
theorem Ru.tws {L : List Nat} {H : Hp} {rs : Rls} (h : Ru L H rs) : Tws H rs := fun r hr => ⟨h.row r hr, (h.ok r hr).2.1, fun l hl => ((h.ok r hr).2.2 l hl).1⟩
theorem Ru.asw {L : List Nat} {H : Hp} {rs : Rls} (h : Ru L H rs) : ∀ r ∈ wds rs, ∀ l ∈ r, Asc l := fun r hr l hl => by
  obtain ⟨y, hy, rfl⟩ := List.mem_map.mp hr
  exact ((h.ok y hy).2.2 l hl).2
theorem Ru.sub {L : List Nat} {H : Hp} {rs ms : Rls} (h : Ru L H rs) (s : ∀ r ∈ ms, r ∈ rs) : Ru L H ms := ⟨fun r hr => h.row r (s r hr), fun r hr => h.ok r (s r hr)⟩
theorem Ru.both {L : List Nat} {H : Hp} {rs ms : Rls} (h : Ru L H rs) (h2 : Ru L H ms) : Ru L H (rs ++ ms) := ⟨fun r hr => (List.mem_append.mp hr).elim (h.row r) (h2.row r), fun r hr => (List.mem_append.mp hr).elim (h.ok r) (h2.ok r)⟩
theorem Ru.ext {L : List Nat} {H H' : Hp} {rs : Rls} (h : Ru L H rs) (e : LamX.ExtN H H') : Ru L H' rs := ⟨fun r hr => by
  have z : H r.1 = some (.tup (r.2.map tx)) := h.row r hr
  exact e _ _ z (fun ps z => nomatch z), h.ok⟩
theorem Ru.same {L : List Nat} {H H' : Hp} {rs : Rls} (h : Ru L H rs) (s : Same H H') : Ru L H' rs := h.ext (.of s)
theorem Ru.go {L : List Nat} {H H' : Hp} {b m : Addr} {rs : Rls} (h : Ru L H rs) (hB : Bx H b m) (g : BxGo H H' b m) : Ru L H' rs := ⟨fun r hr => (h.row r hr).go hB g, h.ok⟩
theorem Ru.good {L : List Nat} {H : Hp} {rs : Rls} (h : Ru L H rs) (h6 : rs.length ≤ 6) : GoodU L (wds rs) := by
  refine good_of (by rw [List.length_map]; exact h6) fun r hr => ?_
  obtain ⟨y, hy, rfl⟩ := List.mem_map.mp hr
  exact (h.ok y hy).1
/-- which rule is the first bad one, where all could stand alone -/
theorem Ru.bad {L : List Nat} {H : Hp} {rs : Rls} (h : Ru L H rs) {i : Nat} (hi : i < rs.length) (hb : badU L (wds rs) i = true) : i = 6 := by
  unfold badU at hb
  have gl : rs[i]? = some rs[i] := List.getElem?_eq_getElem hi
  have gd : (wds rs).getD i [] = rs[i].2 := by
    rw [List.getD_eq_getElem?_getD, List.getElem?_map, gl]
    rfl
  rw [gd, (h.ok _ (List.getElem_mem hi)).1] at hb
  simpa using hb
/-- rules in a list -/
structure Sm (L : List Nat) (H : Hp) (p : Addr) (rs : Rls) : Prop where
  lst : H p = some (.lst (rfs rs))
  ru : Ru L H rs
  len : rs.length ≤ 6
theorem Sm.ext {L : List Nat} {H H' : Hp} {p : Addr} {rs : Rls} (h : Sm L H p rs) (e : LamX.ExtN H H') : Sm L H' p rs := ⟨e _ _ h.lst (fun ps z => nomatch z), h.ru.ext e, h.len⟩
theorem Sm.same {L : List Nat} {H H' : Hp} {p : Addr} {rs : Rls} (h : Sm L H p rs) (s : Same H H') : Sm L H' p rs := h.ext (.of s)
theorem Sm.go {L : List Nat} {H H' : Hp} {b m p : Addr} {rs : Rls} (h : Sm L H p rs) (hB : Bx H b m) (hp : p ≠ b) (g : BxGo H H' b m) : Sm L H' p rs := ⟨g.2 _ _ hp h.lst, h.ru.go hB g, h.len⟩
/-- a list is not the box -/
theorem Bx.nel {H : Hp} {b m p : Addr} {rs : Rls} (x : Bx H b m) (h : H p = some (.lst (rfs rs))) : p ≠ b := by
  obtain ⟨ms, i, r, s, hb, _⟩ := x
  intro e
  rw [e, hb] at h
  have z : [V.ref m, .int i, .int r, .int s] = rfs rs := by
    injection h with h
    injection h
  match rs, z with
  | [], z => cases z
  | [_], z => cases z
  | _ :: _ :: _, z =>
    injection z with _ z
    injection z with z _
    cases z
theorem mk_of {C CG CU : Addr} {T : List (Addr × Str)} {H : Hp} {L : List Nat} {rs : Rls} {E : XK} {Q' : Addr → Hp → Prop} (hl : Lg L) (tws : Tws H rs) (asw : ∀ r ∈ wds rs, ∀ l ∈ r, Asc l) (len : rs.length ≤ 100) (tb : LamX.Tabs T H)
    (eU : ∀ i, i < rs.length → badU L (wds rs) i = true → (∀ j, j < i → badU L (wds rs) j = false) → Fl CU tagU "at" (.int (i : Nat)) H E)
    (ok : GoodU L (wds rs) → ∀ (H' : Hp) (x q : Addr), LamX.ExtN H H' → LamX.Tabs T H' → KT.New H q → Tn C H' x L q rs → Q' x H') : MkTn C CG CU T H L rs E Q' :=
  ⟨tws, asw, len, tb, by have := hl.2.1; omega, hl.asc, fun _ => hl.lt, fun i hw => good_nw (lg_good hl) hw, fun _ => eU, fun _ => ok⟩
theorem rfs_cat (rs ms : Rls) : rfs rs ++ rfs ms = rfs (rs ++ ms) := (List.map_append).symm
theorem rfs_len (rs : Rls) : (rfs rs).length = rs.length := List.length_map _
theorem Tn.go {C : Addr} {H H' : Hp} {b m x q : Addr} {L : List Nat} {rs : Rls} (h : Tn C H x L q rs) (hB : Bx H b m) (g : BxGo H H' b m) : Tn C H' x L q rs := by
  have nq := Bx.nel hB h.lst
  obtain ⟨dx, t, h1⟩ := h.ins
  refine ⟨⟨dx, t, g.2 _ _ (fun e => ?_) h1⟩, g.2 _ _ nq h.lst, fun r hr => (h.row r hr).go hB g, h.sz, h.lz, h.as⟩
  obtain ⟨ms, i, r, s, hb, _⟩ := hB
  rw [e, hb] at h1
  cases h1
/-- lists of rules with the same words are the same -/
theorem eqd_wds {H : Hp} {p q : Addr} {rs rs' : Rls} (h1 : H p = some (.lst (rfs rs))) (h2 : H q = some (.lst (rfs rs'))) (e : wds rs = wds rs') (t1 : ∀ r ∈ rs, TW H r ∧ r.2.length ≤ 1000) (t2 : ∀ r ∈ rs', TW H r) (h7 : rs.length ≤ 1000) : Eqd 2 H (.ref p) (.ref q) := by
  have el : rs.length = rs'.length := by
    have z := congrArg List.length e
    rw [List.length_map, List.length_map] at z
    exact z
  refine .inr ⟨p, q, rfs rs, rfs rs', rfl, rfl, by rw [rfs_len, rfs_len, el], (by rw [rfs_len]; exact h7), .inl ⟨h1, h2⟩, fun i u v g1 g2 => ?_⟩
  rw [List.getElem?_map] at g1 g2
  cases e1 : rs[i]? with
  | none => rw [e1] at g1; cases g1
  | some r =>
    cases e2 : rs'[i]? with
    | none => rw [e2] at g2; cases g2
    | some r' =>
      rw [e1] at g1
      rw [e2] at g2
      obtain rfl := Option.some.inj g1
      obtain rfl := Option.some.inj g2
      have ew : r.2 = r'.2 := by
        have z := congrArg (fun l => l[i]?) e
        have z2 : ((rs.map fun x => x.2)[i]?) = ((rs'.map fun x => x.2)[i]?) := z
        rw [List.getElem?_map, List.getElem?_map, e1, e2] at z2
        exact Option.some.inj z2
      obtain ⟨k1, k2⟩ := t1 r (List.mem_of_getElem? e1)
      have k3 := t2 r' (List.mem_of_getElem? e2)
      have k1' : H r.1 = some (.tup (r.2.map tx)) := k1
      have k3' : H r'.1 = some (.tup (r'.2.map tx)) := k3
      rw [← ew] at k3'
      refine .inr ⟨r.1, r'.1, r.2.map tx, r.2.map tx, rfl, rfl, rfl, (by rw [List.length_map]; exact k2), .inr ⟨k1', k3'⟩, fun j u v g1 g2 => ?_⟩
      rw [g1] at g2
      cases g2
      obtain ⟨y, hy, rfl⟩ := List.mem_map.mp (List.mem_of_getElem? g1)
      exact ⟨rfl, .inr (.inl ⟨_, rfl⟩)⟩
theorem eqd_pair {n : Nat} {H : Hp} {p q : Addr} {z : Str} {u v : V} (h1 : H p = some (.tup [.str z, u])) (h2 : H q = some (.tup [.str z, v])) (e : Eqd n H u v) (ez : Eqd n H (.str z) (.str z)) : Eqd (n + 1) H (.ref p) (.ref q) := by
  refine .inr ⟨p, q, [.str z, u], [.str z, v], rfl, rfl, rfl, (by show 2 ≤ 1000; decide), .inr ⟨h1, h2⟩, fun i u' v' g1 g2 => ?_⟩
  match i, g1, g2 with
  | 0, g1, g2 =>
    obtain rfl := Option.some.inj g1
    obtain rfl := Option.some.inj g2
    exact ez
  | 1, g1, g2 =>
    obtain rfl := Option.some.inj g1
    obtain rfl := Option.some.inj g2
    exact e
  | (n + 2), g1, g2 => cases g1
theorem eqd_str {n : Nat} {H : Hp} {z : Str} : Eqd (n + 1) H (.str z) (.str z) := .flat (.inr (.inl ⟨_, rfl⟩))
theorem eqd_int {n : Nat} {H : Hp} {z : Int} : Eqd (n + 1) H (.int z) (.int z) := .flat (.inl ⟨_, rfl⟩)
/-- the first rule that may not stand -/
def Fb (L : List Nat) (ws : List (List (List Nat))) (i : Nat) : Prop := i < ws.length ∧ badU L ws i = true ∧ ∀ j, j < i → badU L ws j = false
theorem fb_one {L : List Nat} {ws : List (List (List Nat))} {i j : Nat} (h1 : Fb L ws i) (h2 : Fb L ws j) : i = j := by
  by_cases h : i < j
  · have z := h2.2.2 i h
    rw [h1.2.1] at z
    cases z
  · by_cases h' : j < i
    · have z := h1.2.2 j h'
      rw [h2.2.1] at z
      cases z
    · omega
theorem fb_no {L : List Nat} {ws : List (List (List Nat))} {i : Nat} {p : Prop} (h1 : Fb L ws i) (h2 : GoodU L ws) : p := good_no h2 h1.1 h1.2.1
section
variable {P : Program} {w : World} {K : PySem.W.Frag} {mg : Str → Option Value} {base : Heap}
variable {f c : Addr} {A : Around} {outer : List Env} {s : Shared} {H : Hp} {E : XK}
theorem st0 (L : Lc P w K mg base) (hr : Room 40 (A.deeper (envOfC "law" (defScope sLaw) s.heap.objs.size f (.ref c)))) :
    ∃ t, PS (XL P w K mg base f c A outer s H E) (ls 0) t ∧ ∀ (D : Ends) (H0 : Hp) (a b m : Addr) (y2 y3 y4 y5 y6 y7 y8 y9 y10 y11 y12 y13 y14 y15 : Option V), Zz L.T b m H0 →
      (∀ (l : List Nat) H', KA.Lg l → Zz L.T b m H' → D.nx [some (.ref a), some (.ref b), y2, some (tx l), y4, y5, y6, y7, y8, y9, y10, y11, y12, y13, y14, y15] H') → t D [some (.ref a), some (.ref b), y2, y3, y4, y5, y6, y7, y8, y9, y10, y11, y12, y13, y14, y15] H0 := by
  have r1 : Room 1 (A.deeper (envOfC "law" (defScope sLaw) s.heap.objs.size f (.ref c))) := hr.mono (by decide)
  have r3 : Room 3 (A.deeper (envOfC "law" (defScope sLaw) s.heap.objs.size f (.ref c))) := hr.mono (by decide)
  refine ⟨_, ps_set (i := 3) scLaw.nd rfl (.inr rfl) (pe_call L.cLe.ok r3 (by rfl) L.cLe.g L.cLe.kp L.cLe.b .nil pass0 (pa_cons (pv 1) (pa_cons (pe_op op_add pe_int (pe_call L.cD.ok r1 (by rfl) L.cD.g L.cD.kp L.cD.b .nil pass0 (pa_cons (pv 1) (pa_cons pe_int pa_nil)))) pa_nil))), ?_⟩
  intro D H0 a b m y2 y3 y4 y5 y6 y7 y8 y9 y10 y11 y12 y13 y14 y15 z nx
  refine ⟨_, rfl, _, rfl, b, m, 3, rfl, z.bx, by decide, by decide, fun d H1 d0 d1 hT => ⟨_, _, rfl, rfl, ?_⟩⟩
  have z1 := z.go hT.go
  have e : (1 + d) = (((1 + d).toNat : Nat) : Int) := by omega
  refine ⟨b, m, (1 + d).toNat, by rw [← e]; rfl, z1.bx, by omega, by omega, fun l H2 hl hm g => ?_⟩
  exact nx l H2 ⟨⟨by omega, hl.2⟩, by omega, fun c hc => menu_lo c (hm c hc)⟩ (z1.go g)
theorem st1 (L : Lc P w K mg base) (hr : Room 40 (A.deeper (envOfC "law" (defScope sLaw) s.heap.objs.size f (.ref c)))) :
    ∃ t, PS (XL P w K mg base f c A outer s H E) (ls 1) t ∧ ∀ (D : Ends) (H0 : Hp) (a b m : Addr) (l : List Nat) (y2 y4 y5 y6 y7 y8 y9 y10 y11 y12 y13 y14 y15 : Option V), Zz L.T b m H0 → KA.Lg l →
      (∀ (p : Addr) (rs : Rls) H', Zz L.T b m H' → Sm l H' p rs → (∀ r ∈ rs, Rp l 8 r.2) → D.nx [some (.ref a), some (.ref b), y2, some (tx l), some (.ref p), y5, y6, y7, y8, y9, y10, y11, y12, y13, y14, y15] H') → t D [some (.ref a), some (.ref b), y2, some (tx l), y4, y5, y6, y7, y8, y9, y10, y11, y12, y13, y14, y15] H0 := by
  have r5 : Room 5 (A.deeper (envOfC "law" (defScope sLaw) s.heap.objs.size f (.ref c))) := hr.mono (by decide)
  refine ⟨_, ps_set (i := 4) scLaw.nd rfl (.inl rfl) (pe_call L.cSr.ok r5 (by rfl) L.cSr.g L.cSr.kp L.cSr.b .nil pass0 (pa_cons (pv 1) (pa_cons (pv 3) (pa_cons pe_int (pa_cons pe_int pa_nil))))), ?_⟩
  intro D H0 a b m l y2 y4 y5 y6 y7 y8 y9 y10 y11 y12 y13 y14 y15 z hl nx
  refine ⟨_, rfl, _, rfl, b, m, l, 6, 8, rfl, z.bx, hl.lt, KA.Lg.ne hl, by decide, by decide, fun p rs H1 g1 _ hpb hpm hp lp rp => ?_⟩
  exact nx p rs H1 (z.go g1) ⟨hp, ⟨fun r hr => (rp r hr).1, fun r hr => ⟨(rp r hr).2.ok (by decide), (rp r hr).2.wt (by decide) hl⟩⟩, lp⟩ fun r hr => (rp r hr).2
theorem st2 (L : Lc P w K mg base) (hr : Room 40 (A.deeper (envOfC "law" (defScope sLaw) s.heap.objs.size f (.ref c)))) :
    ∃ t, PS (XL P w K mg base f c A outer s H E) (ls 2) t ∧ ∀ (D : Ends) (H0 : Hp) (b m p : Addr) (l : List Nat) (rs : Rls) (y0 y1 y2 y5 y6 y7 y8 y9 y10 y11 y12 y13 y14 y15 : Option V), KA.Lg l → Zz L.T b m H0 → Sm l H0 p rs →
      (∀ (x u : Addr) H', Zz L.T b m H' → Sm l H' p rs → Tn L.C H' x l u rs → D.nx [y0, y1, y2, some (tx l), some (.ref p), some (.ref x), y6, y7, y8, y9, y10, y11, y12, y13, y14, y15] H') → t D [y0, y1, y2, some (tx l), some (.ref p), y5, y6, y7, y8, y9, y10, y11, y12, y13, y14, y15] H0 := by
  have r11 : Room 11 (A.deeper (envOfC "law" (defScope sLaw) s.heap.objs.size f (.ref c))) := hr.mono (by decide)
  refine ⟨_, ps_set (i := 5) scLaw.nd rfl (.inl rfl) (pe_call L.cTw.ok r11 (by rfl) L.cTw.g L.cTw.kp L.cTw.b .nil (passN rfl rfl) (pa_cons (pv 3) (pa_cons (pv 4) pa_nil))), ?_⟩
  intro D H0 b m p l rs y0 y1 y2 y5 y6 y7 y8 y9 y10 y11 y12 y13 y14 y15 hl z sp nx
  refine ⟨_, rfl, _, rfl, p, l, rs, rfl, sp.lst, sp.ru.tws, sp.ru.asw, z.tb, KA.Lg.asc hl, hl.lt, lg_good hl, sp.ru.good sp.len, fun H1 x u e1 t1 _ n1 => ?_⟩
  exact nx x u H1 (z.ext e1 t1) (sp.ext e1) n1
end
end K15
set_option maxRecDepth 100000
set_option maxHeartbeats 2000000
namespace K15
open PySem PySem.Spec PyProof.Rows L2 KA
def rAddS : R2 := fun x y H Q => ∃ i j, x = .str i ∧ y = .str j ∧ i.length + j.length ≤ sizeLine ∧ Q (.str (i ++ j)) H
theorem o_addS {X : Cx} : OpR X (binaryOp .Add) rAddS := op_add_str
def teD : TE := tOp rAddS (tOp rAddS (tCall spTx [] E0 (tCons (tVar 13) tNil)) (tC (.str (Str.ofString " = ")))) (tCall spTx [] E0 (tCons (tVar 14) tNil))
theorem rw_of {l : List Nat} (hl : KA.Lg l) {r : List (List Nat)} (h : Rp l 8 r) : Rw r := by
  obtain ⟨x, y, rfl, hx, hy, wx, wy⟩ := h
  exact ⟨x, y, rfl, by omega, by omega, fun c hc => sg_ascL hl (wx c hc), fun c hc => sg_ascL hl (wy c hc)⟩
/-- written rules make a text that can be read -/
theorem tg_of {l : List Nat} (hl : KA.Lg l) {ws : List (List (List Nat))} (h100 : ws.length ≤ 100) (h : ∀ r ∈ ws, Rp l 8 r) : Tg 0 0 l (ws.map wp) ∧ (ws.map wp).any (tooL l) = false ∧ (ws.map wp).map (rdP2 l) = ws := by
  have key : ∀ r ∈ ws, Pg l (wp r).1 (wp r).2 ∧ (59 ∉ (wp r).1 ∧ 59 ∉ (wp r).2) ∧ tooL l (wp r) = false ∧ rdP2 l (wp r) = r := fun r hr => by
    obtain ⟨x, y, rfl, hx, hy, wx, wy⟩ := h r hr
    exact pg_wp hl.2.2 wx wy (by omega) (by omega) (fun c hc => sg_ascL hl (wx c hc)) (fun c hc => sg_ascL hl (wy c hc))
  refine ⟨⟨hl.lt, lg_good hl, ⟨by decide, by decide⟩, by rw [List.length_map]; exact h100, fun p hp => ?_, fun p hp => ?_⟩, ?_, ?_⟩
  · obtain ⟨r, hr, rfl⟩ := List.mem_map.mp hp
    exact (key r hr).1
  · obtain ⟨r, hr, rfl⟩ := List.mem_map.mp hp
    exact (key r hr).2.1
  · rw [List.any_eq_false]
    intro p hp
    obtain ⟨r, hr, rfl⟩ := List.mem_map.mp hp
    rw [(key r hr).2.2.1]
    decide
  · rw [List.map_map]
    have e : ws.map (rdP2 l ∘ wp) = ws.map id := List.map_congr_left fun r hr => (key r hr).2.2.2
    rw [e, List.map_id]
section
variable {P : Program} {w : World} {K : PySem.W.Frag} {mg : Str → Option Value} {base : Heap}
variable {f c : Addr} {A : Around} {outer : List Env} {s : Shared} {H : Hp} {E : XK}
theorem st3 (L : Lc P w K mg base) (hr : Room 40 (A.deeper (envOfC "law" (defScope sLaw) s.heap.objs.size f (.ref c)))) :
    ∃ t, PS (XL P w K mg base f c A outer s H E) (ls 3) t ∧ ∀ (D : Ends) (H0 : Hp) (p : Addr) (l : List Nat) (rs : Rls) (y0 y1 y2 y5 y6 y7 y8 y9 y10 y11 y12 y13 y14 y15 : Option V), KA.Lg l → Sm l H0 p rs → (∀ r ∈ rs, Rp l 8 r.2) →
      (∀ H', Same H0 H' → D.nx [y0, y1, y2, some (tx l), some (.ref p), y5, some (tx (ttx l (wds rs))), y7, y8, y9, y10, y11, y12, y13, y14, y15] H') → t D [y0, y1, y2, some (tx l), some (.ref p), y5, y6, y7, y8, y9, y10, y11, y12, y13, y14, y15] H0 := by
  have r1 : Room 1 (A.deeper (envOfC "law" (defScope sLaw) s.heap.objs.size f (.ref c))) := hr.mono (by decide)
  refine ⟨_, ps_set (i := 6) scLaw.nd rfl (.inl rfl) (pe_join pe_str (pe_op op_cat (pe_lst (pa_cons (pv 3) pa_nil)) (pe_lc (own := [("_law_one", 13), ("_law_other", 14)]) (g := gTup K 2 (gCons (gName 13) (gCons (gName 14) gNil))) (tt := tYes) (te := teD) rfl scLaw.nd (pi_list (pv 4))
    (blkOk_by (N := NL) (sc := defScope sLaw) (by decide +kernel)) (fun _ _ _ _ _ => pg_tup rfl (pgs_cons (pg_name (i := 13) scLaw.nd rfl (.inl rfl)) (pgs_cons (pg_name (i := 14) scLaw.nd rfl (.inl rfl)) pgs_nil))) (fun _ _ _ _ _ => pts_nil)
    (fun _ _ _ _ _ => pe_op o_addS (pe_op o_addS (pe_call L.cTx.ok r1 (by rfl) L.cTx.g L.cTx.kp L.cTx.b .nil pass0 (pa_cons (pv 13) pa_nil)) pe_str) (pe_call L.cTx.ok r1 (by rfl) L.cTx.g L.cTx.kp L.cTx.b .nil pass0 (pa_cons (pv 14) pa_nil)))))), ?_⟩
  intro D H0 p l rs y0 y1 y2 y5 y6 y7 y8 y9 y10 y11 y12 y13 y14 y15 hl sp rp nx
  have h6 := sp.len
  have h3 := hl.2.1
  have hw : ∀ r ∈ wds rs, Rw r := fun r hr => by
    obtain ⟨z, hz, rfl⟩ := List.mem_map.mp hr
    exact rw_of hl (rp z hz)
  refine ⟨⟨_, rfl⟩, _, rfl, (by show 1 ≤ sizeLine; decide), fun p1 n1 => ⟨_, rfl, p, rfl, ⟨_, SqL.of ((same_new n1) _ _ sp.lst)⟩, fun Dl nD => ?_⟩⟩
  have s1 := same_new (o := .lst [tx l]) n1
  have hp1 := upd_same (H := H0) (a := p1) (o := .lst [tx l])
  have sp1 := sp.same s1
  generalize upd H0 p1 (.lst [tx l]) = H1 at s1 hp1 sp1 nD ⊢
  refine lc_it (te := teD) (tt := tYes) (walk_list (K := K) (a := p) (xs := rfs rs)) (fun i H2 => Same H1 H2 ∧ H2 Dl = some (.lst (((wds rs).take i).map fun r => tx (rt r)))) ⟨same_new nD, upd_same⟩ (fun i H2 _ h => SqL.of (h.1 _ _ sp1.lst)) ?_ ?_
  · rintro i z H2 H2' hi ⟨s2, hD⟩ ⟨rfl, hz⟩
    rw [List.length_map] at hi
    have gl : rs[i]? = some rs[i] := List.getElem?_eq_getElem hi
    obtain rfl : V.ref rs[i].1 = z := by
      rw [List.getElem?_map, gl] at hz
      exact Option.some.inj hz
    have hm : rs[i] ∈ rs := List.getElem_mem hi
    have gw : (wds rs)[i]? = some rs[i].2 := by rw [List.getElem?_map, gl]; rfl
    obtain ⟨x, y, eab, ha, hb, aa, ab⟩ := hw _ (List.mem_map.mpr ⟨_, hm, rfl⟩)
    have tr : H2' rs[i].1 = some (.tup (rs[i].2.map tx)) := (sp1.ru.row _ hm).same s2
    rw [eab] at tr gw
    generalize rs[i] = r at gl hm eab tr gw
    have la := fw_len ha
    have lb := fw_len hb
    refine ⟨r.1, _, rfl, SqT.of tr, rfl, _, _, rfl, _, _, rfl, rfl, rfl, ?_⟩
    dsimp only [tYes]
    rw [if_pos rfl]
    refine ⟨_, rfl, x, rfl, ha, aa, fun H3 s3 => ⟨SX.S (fw x), _, rfl, rfl, ?_, ?_⟩⟩
    · rw [eq3, tx_len, tx_len, sizeLine_eq]
      show (fw x).length + 3 ≤ _
      omega
    rw [eq3, SX.S_cat]
    refine ⟨_, rfl, y, rfl, hb, ab, fun H4 s4 => ⟨SX.S (fw x ++ [32, 61, 32]), SX.S (fw y), rfl, rfl, ?_, ?_⟩⟩
    · rw [tx_len, tx_len, sizeLine_eq, List.length_append]
      show (fw x).length + 3 + (fw y).length ≤ _
      omega
    rw [SX.S_cat]
    have s34 := s3.trans s4
    have hD4 := s34 _ _ hD
    refine ⟨_, hD4, ?_, fun o v e => ?_, ?_⟩
    · rw [List.length_map, List.length_take]
      exact small1000 (by omega)
    · rw [upd_ne (ne_of_none e nD)]
      exact s34 _ _ (s2 _ _ e)
    · rw [upd_same, take_more gw, List.map_append]
      have e : rt [x, y] = fw x ++ [32, 61, 32] ++ fw y := by
        show fw x ++ ([32, 61, 32] ++ fw y) = _
        rw [List.append_assoc]
      show some (HO.lst (_ ++ [tx (fw x ++ [32, 61, 32] ++ fw y)])) = some (HO.lst (_ ++ [tx (rt [x, y])]))
      rw [e]
  · rintro H2 ⟨s2, hD⟩
    have el : (rfs rs).length = (wds rs).length := by rw [List.length_map, List.length_map]
    rw [el, List.take_length] at hD
    have hp2 := s2 _ _ hp1
    refine ⟨p1, Dl, _, _, rfl, rfl, hp2, hD, ?_, fun pc npc => ?_⟩
    · rw [List.length_map, List.length_map]
      exact Nat.le_trans (show 1 + rs.length ≤ 8 by omega) (by decide)
    refine ⟨Str.ofString "; ", pc, (l :: (wds rs).map rt).map SX.S, rfl, rfl, .inl (SqL.of ?_), ?_, ?_⟩
    · rw [upd_same]
      have e4 : ∀ ws : List (List (List Nat)), (ws.map fun r => tx (rt r)) = ((ws.map rt).map SX.S).map V.str := fun ws => by
        rw [List.map_map, List.map_map]
        rfl
      rw [e4]
      rfl
    · have h1 := sum_le_of (m := 1203) (ys := (wds rs).map rt) (fun y hy => by
        obtain ⟨r, hr, rfl⟩ := List.mem_map.mp hy
        exact rt_len (hw r hr))
      have e2 : (((l :: (wds rs).map rt).map SX.S).map (·.length)) = (l :: (wds rs).map rt).map (·.length) := by
        rw [List.map_map]
        exact List.map_congr_left fun y _ => tx_len y
      have e3 : (Str.ofString "; ").length = 2 := by decide
      rw [e2, e3, List.length_map, List.length_cons, List.length_map, List.length_map, List.map_cons, List.sum_cons]
      rw [List.length_map, List.length_map] at h1
      omega
    · rw [sep2, SX.join_S]
      exact nx _ (s1.trans (s2.trans (same_new npc)))
theorem st4 (L : Lc P w K mg base) (hr : Room 40 (A.deeper (envOfC "law" (defScope sLaw) s.heap.objs.size f (.ref c)))) :
    ∃ t, PS (XL P w K mg base f c A outer s H E) (ls 4) t ∧ ∀ (D : Ends) (H0 : Hp) (b m x u : Addr) (l : List Nat) (rs : Rls) (y0 y1 y2 y4 y7 y8 y9 y10 y11 y12 y13 y14 y15 : Option V), KA.Lg l → Zz L.T b m H0 → Tn L.C H0 x l u rs → Ru l H0 rs → (∀ r ∈ rs, Rp l 8 r.2) →
      (∀ H', LamX.ExtN H0 H' → LamX.Tabs L.T H' → D.nx [y0, y1, y2, some (tx l), y4, some (.ref x), some (tx (ttx l (wds rs))), y7, y8, y9, y10, y11, y12, y13, y14, y15] H') → t D [y0, y1, y2, some (tx l), y4, some (.ref x), some (tx (ttx l (wds rs))), y7, y8, y9, y10, y11, y12, y13, y14, y15] H0 := by
  have r3 : Room 3 (A.deeper (envOfC "law" (defScope sLaw) s.heap.objs.size f (.ref c))) := hr.mono (by decide)
  have r4 : Room 4 (A.deeper (envOfC "law" (defScope sLaw) s.heap.objs.size f (.ref c))) := hr.mono (by decide)
  have r36 : Room 36 (A.deeper (envOfC "law" (defScope sLaw) s.heap.objs.size f (.ref c))) := hr.mono (by decide)
  refine ⟨_, ps_if (PW.pt (pw_or (pt_not (pt_val (pe_call L.cSa.ok r4 (by rfl) L.cSa.g L.cSa.kp L.cSa.b .nil pass0 (pa_cons (pe_meth0 (pv 5) L.TC.cl L.MT L.GT r3 L.bT .nil pass0) (pa_cons (pv 6) pa_nil)))))
    (pw_or1 (pt_cmpR (Rs.op_neI L.GE L.EC L.bE pass0 r3) (ClX.pe_cmeth (pe_glob (v := .ref L.C) (by rfl) L.gC rfl) L.rd L.cm (L.GD.raw L.bD .nil) r36 (passN rfl rfl) (pa_cons (pv 6) pa_nil)) (pv 5) (nomark _))))) pss_never pss_nil, ?_⟩
  intro D H0 b m x u l rs y0 y1 y2 y4 y7 y8 y9 y10 y11 y12 y13 y14 y15 hl z tn ru rp nx
  obtain ⟨dx, t, hx⟩ := tn.ins
  have h6 := tn.sz
  have hw : ∀ r ∈ wds rs, Rw r := fun r hr => by
    obtain ⟨z, hz, rfl⟩ := List.mem_map.mp hr
    exact rw_of hl (rp z hz)
  refine ⟨_, rfl, x, dx, _, rfl, hx, rfl, x, u, l, rs, rfl, tn, hw, fun H1 s1 => ?_⟩
  refine ⟨_, rfl, _, _, rfl, .flat (.inr (.inl ⟨_, rfl⟩)), fun H2 s2 => ⟨true, rfl, iteF ?_⟩⟩
  have s12 := s1.trans s2
  have tn2 := tn.same s12
  have z2 := z.same s12
  obtain ⟨tg, t1, t2⟩ := tg_of hl (ws := wds rs) (by rw [List.length_map]; omega) (fun r hr => by
    obtain ⟨y, hy, rfl⟩ := List.mem_map.mp hr
    exact rp y hy)
  refine ⟨rfl, _, rfl, 0, 0, l, (wds rs).map wp, by rw [← ttx_txt]; rfl, tg, (fun h => by rw [t1] at h; cases h), fun _ H3 rs3 s3 ew tw => ?_⟩
  rw [t2] at ew
  have tb3 := z2.tb.ext s3
  have ok3 : ∀ r ∈ rs3, okR l r.2 = true ∧ Wt r.2 := fun r hr => by
    have hr2 : r.2 ∈ wds rs := by
      rw [← ew]
      exact List.mem_map.mpr ⟨r, hr, rfl⟩
    obtain ⟨y, hy, e⟩ := List.mem_map.mp hr2
    rw [← e]
    exact ru.ok y hy
  have ru3 : Ru l H3 rs3 := ⟨tw, ok3⟩
  have l3 : rs3.length ≤ 6 := by
    have e := congrArg List.length ew
    rw [List.length_map, List.length_map] at e
    omega
  refine mk_of hl ru3.tws ru3.asw (by omega) tb3 (fun j hj hb _ => good_no (ru3.good l3) (by rw [List.length_map]; exact hj) hb) fun gU H4 x' q' e4 t4 nw tn4 => ?_
  have tn5 := (tn2.same s3).ext e4
  obtain ⟨dx3, u3, hx3⟩ := tn4.ins
  obtain ⟨dx4, u4, hx4⟩ := tn5.ins
  refine ⟨_, rfl, x', x, dx3, dx4, _, _, true, rfl, rfl, hx3, hx4, ⟨q', l, rs3, tn4, .inl ⟨x, u, l, rs, rfl, tn5, ?_⟩⟩, fun H5 s5 => ⟨_, rfl, iteF ?_⟩⟩
  · rw [decide_eq_true rfl, decide_eq_true ew]
    rfl
  · exact nx H5 (LamX.ExtN.trans (.of s12) (LamX.ExtN.trans (.of s3) (e4.trans (.of s5)))) (t4.ext s5)
end
end K15
set_option maxRecDepth 100000
set_option maxHeartbeats 2000000
namespace K15
open PySem PySem.Spec PyProof.Rows L2 KA
/-- loose sides in a list: the text and the word of each -/
structure Lo (L : List Nat) (H : Hp) (q : Addr) (xs : Rls) : Prop where
  lst : H q = some (.lst (rfs xs))
  row : ∀ x ∈ xs, TW H x ∧ ∃ T W, x.2 = [T, W] ∧ Loo L 1 T W
theorem Lo.same {L : List Nat} {H H' : Hp} {q : Addr} {xs : Rls} (h : Lo L H q xs) (s : Same H H') : Lo L H' q xs := ⟨s _ _ h.lst, fun x hx => ⟨(h.row x hx).1.same s, (h.row x hx).2⟩⟩
theorem Lo.go {L : List Nat} {H H' : Hp} {b m q : Addr} {xs : Rls} (h : Lo L H q xs) (hB : Bx H b m) (g : BxGo H H' b m) : Lo L H' q xs := ⟨g.2 _ _ (Bx.nel hB h.lst) h.lst, fun x hx => ⟨(h.row x hx).1.go hB g, (h.row x hx).2⟩⟩
/-- a loose side's word is short -/
theorem fac_len {L : List Nat} {C : List Nat → List Nat → Prop} {n : Nat} (h13 : 13 ≤ n) (hC : ∀ p c, C p c → 2 * c.length ≤ n) {F V : List Nat} (h : Fac L C F V) : V.length ≤ n := by
  obtain ⟨p, c, G, x, s1, s2, ha, _, _, _, _, rfl, _⟩ := h
  rw [pwr_len]
  rcases ha with ⟨⟨y, hy, rfl, rfl⟩, hx⟩ | ⟨hc, hx⟩
  · have := (nt_len x hx).2
    simp only [List.length_cons, List.length_nil]
    omega
  · have h1 := hC p c hc
    have h2 := (tm57 x hx).2
    exact Nat.le_trans (Nat.mul_le_mul h2 (Nat.le_refl _)) h1
theorem phr_len {Fc : List Nat → List Nat → Prop} {n : Nat} (hF : ∀ F V, Fc F V → V.length ≤ n) {T W : List Nat} (h : Phr Fc T W) : W.length ≤ 3 * n := by
  obtain ⟨l, _, h3, hc, _, rfl⟩ := h
  exact Nat.le_trans (flat_len _ n l fun q hq => hF _ _ (hc q hq)) (Nat.mul_le_mul h3 (Nat.le_refl _))
theorem loo0_len {L : List Nat} {T W : List Nat} (h : Phr (Fac L fun _ _ => False) T W) : W.length ≤ 39 := phr_len (n := 13) (fun F V hF => fac_len (by decide) (fun _ _ z => z.elim) hF) h
theorem loo1_len {L : List Nat} {T W : List Nat} (h : Loo L 1 T W) : W.length ≤ 936 := by
  refine phr_len (n := 312) (fun F V hF => fac_len (by decide) (fun p c hc => ?_) hF) h
  rcases hc with ⟨_, rfl⟩ | ⟨T1, W1, T2, W2, h1, h2, _, rfl⟩ | ⟨T1, W1, h1, _, rfl⟩
  · exact Nat.zero_le _
  · have a := loo0_len (L := L) (T := T1) (W := W1) h1
    have b := loo0_len h2
    simp only [List.length_append, opp_len]
    omega
  · have a := loo0_len (L := L) (T := T1) (W := c) h1
    omega
theorem lo_row {L : List Nat} {H : Hp} {q : Addr} {xs : Rls} (h : Lo L H q xs) (h4 : xs.length = 4) : ∃ a0 a1 a2 a3 T0 W0 T1 W1 T2 W2 T3 W3, xs = [(a0, [T0, W0]), (a1, [T1, W1]), (a2, [T2, W2]), (a3, [T3, W3])] ∧ Loo L 1 T0 W0 ∧ Loo L 1 T1 W1 ∧ Loo L 1 T2 W2 ∧ Loo L 1 T3 W3 := by
  match xs, h4, h.row with
  | [(a0, x0), (a1, x1), (a2, x2), (a3, x3)], _, hr =>
    obtain ⟨_, T0, W0, e0, l0⟩ := hr (a0, x0) (by simp)
    obtain ⟨_, T1, W1, e1, l1⟩ := hr (a1, x1) (by simp)
    obtain ⟨_, T2, W2, e2, l2⟩ := hr (a2, x2) (by simp)
    obtain ⟨_, T3, W3, e3, l3⟩ := hr (a3, x3) (by simp)
    dsimp only at e0 e1 e2 e3
    subst e0 e1 e2 e3
    exact ⟨a0, a1, a2, a3, T0, W0, T1, W1, T2, W2, T3, W3, rfl, l0, l1, l2, l3⟩
def teLoo : TE := tCall (spLoose 1) [] E0 (tCons (tVar 1) (tCons (tVar 3) (tCons (tC (.int 1)) tNil)))
section
variable {P : Program} {w : World} {K : PySem.W.Frag} {mg : Str → Option Value} {base : Heap}
variable {f c : Addr} {A : Around} {outer : List Env} {s : Shared} {H : Hp} {E : XK}
theorem st5 (L : Lc P w K mg base) (hr : Room 40 (A.deeper (envOfC "law" (defScope sLaw) s.heap.objs.size f (.ref c)))) :
    ∃ t, PS (XL P w K mg base f c A outer s H E) (ls 5) t ∧ ∀ (D : Ends) (H0 : Hp) (b m : Addr) (l : List Nat) (y0 y2 y4 y5 y6 y7 y8 y9 y10 y11 y12 y13 y14 y15 : Option V), KA.Lg l → Zz L.T b m H0 →
      (∀ (q : Addr) (xs : Rls) H', Zz L.T b m H' → Lo l H' q xs → xs.length = 4 → D.nx [y0, some (.ref b), y2, some (tx l), y4, y5, y6, y7, some (.ref q), y9, y10, y11, y12, y13, y14, y15] H') → t D [y0, some (.ref b), y2, some (tx l), y4, y5, y6, y7, y8, y9, y10, y11, y12, y13, y14, y15] H0 := by
  have r12 : Room 12 (A.deeper (envOfC "law" (defScope sLaw) s.heap.objs.size f (.ref c))) := hr.mono (by decide)
  refine ⟨_, ps_setLc (i := 8) (own := [("_law_k", 7)]) (g := gName 7) (tt := tYes) (te := teLoo)
        rfl scLaw.nd rfl rfl (sw_true rfl rfl rfl (by decide +kernel)) (pi_range1 (by rfl) L.B.range (pa_cons pe_int pa_nil))
        (blkOk_by (N := NL) (sc := defScope sLaw) (by decide +kernel)) (fun _ _ _ _ _ => pg_name (i := 7) scLaw.nd rfl (Or.inl rfl)) (fun _ _ _ _ _ => pts_nil)
        (fun _ _ _ _ _ => pe_call L.cLo.ok r12 (by rfl) L.cLo.g L.cLo.kp L.cLo.b .nil pass0 (pa_cons (pv 1) (pa_cons (pv 3) (pa_cons pe_int pa_nil)))), ?_⟩
  intro D H0 b m l y0 y2 y4 y5 y6 y7 y8 y9 y10 y11 y12 y13 y14 y15 hl z nx
  refine ⟨4, rfl, by decide, by decide, fun Dl nD => ?_⟩
  have hB := z.bx
  have hDb : Dl ≠ b := hB.ne nD
  have hDm : Dl ≠ m := hB.neM nD
  refine lc_it (te := teLoo) (tt := tYes) (walk_range (lo := 0) (n := (4 : Int).toNat)) (fun i H3 => ∃ xs : Rls, xs.length = i ∧ BxGo H0 H3 b m ∧ Lo l H3 Dl xs)
    ⟨[], rfl, ⟨hB.same (same_new nD), fun x o hx e => same_new nD _ _ e⟩, upd_same, fun x hx => nomatch hx⟩ (fun _ _ _ _ => trivial) ?_ ?_
  · rintro i x H3 H3' hi ⟨xs, hx, g3, lo⟩ ⟨rfl, rfl⟩
    refine ⟨rfl, ?_⟩
    dsimp only [tYes]
    rw [if_pos rfl]
    refine ⟨_, rfl, _, rfl, b, m, l, rfl, g3.1, hl, fun T W H4 p lo4 g4 np npb hp => ?_⟩
    have lo5 := lo.go g3.1 g4
    have g5 := g3.trans g4
    have npD : p ≠ Dl := fun e => by
      rw [e, lo.lst] at np
      cases np
    have hi4 : i < 4 := hi
    refine ⟨_, lo5.lst, (by rw [List.length_map]; exact small1000 (by omega)), xs ++ [(p, [T, W])], (by rw [List.length_append, hx]; rfl), ⟨g5.1.upd hDb hDm, fun y o hy e => ?_⟩, ⟨?_, fun y hy => ?_⟩⟩
    · rw [upd_ne (ne_of_none e nD)]
      exact g5.2 y o hy e
    · rw [upd_same, ← rfs_cat]
      rfl
    · rcases List.mem_append.mp hy with hy | hy
      · obtain ⟨t1, t2⟩ := lo5.row y hy
        refine ⟨?_, t2⟩
        have z1 : H4 y.1 = some (.tup (y.2.map tx)) := t1
        show upd H4 Dl _ y.1 = _
        rw [upd_ne (fun e => by rw [e, lo5.lst] at z1; cases z1)]
        exact z1
      · obtain rfl := List.mem_singleton.mp hy
        refine ⟨?_, T, W, rfl, lo4⟩
        show upd H4 Dl _ p = _
        rw [upd_ne npD]
        exact hp
  · rintro H3 ⟨xs, hx, g3, lo⟩
    exact nx Dl xs H3 (z.go g3) lo hx
theorem st6 (L : Lc P w K mg base) (hr : Room 40 (A.deeper (envOfC "law" (defScope sLaw) s.heap.objs.size f (.ref c)))) :
    ∃ t, PS (XL P w K mg base f c A outer s H E) (ls 6) t ∧ ∀ (D : Ends) (H0 : Hp) (b m q : Addr) (l : List Nat) (xs : Rls) (y0 y2 y4 y5 y6 y7 y9 y10 y11 y12 y13 y14 y15 : Option V), KA.Lg l → Zz L.T b m H0 → Lo l H0 q xs →
      (∀ (i j : Nat) H', i ≤ 2 → j ≤ 2 → Zz L.T b m H' → Lo l H' q xs → D.nx [y0, some (.ref b), y2, some (tx l), y4, y5, y6, y7, some (.ref q), y9, y10, y11, some (tx (KA.sp i ++ l ++ KA.sp j)), y13, y14, y15] H') → t D [y0, some (.ref b), y2, some (tx l), y4, y5, y6, y7, some (.ref q), y9, y10, y11, y12, y13, y14, y15] H0 := by
  have r3 : Room 3 (A.deeper (envOfC "law" (defScope sLaw) s.heap.objs.size f (.ref c))) := hr.mono (by decide)
  refine ⟨_, ps_set (i := 12) scLaw.nd rfl (.inr rfl) (pe_op o_addS (pe_op o_addS (pe_call L.cSp.ok r3 (by rfl) L.cSp.g L.cSp.kp L.cSp.b .nil pass0 (pa_cons (pv 1) pa_nil)) (pv 3)) (pe_call L.cSp.ok r3 (by rfl) L.cSp.g L.cSp.kp L.cSp.b .nil pass0 (pa_cons (pv 1) pa_nil))), ?_⟩
  intro D H0 b m q l xs y0 y2 y4 y5 y6 y7 y9 y10 y11 y12 y13 y14 y15 hl z lo nx
  refine ⟨_, rfl, b, m, rfl, z.bx, fun i H1 hi g1 => ?_⟩
  have z1 := z.go g1
  have lo1 := lo.go z.bx g1
  have h3 := hl.2.1
  refine ⟨_, rfl, SX.S (KA.sp i), SX.S l, rfl, rfl, ?_, ?_⟩
  · rw [tx_len, tx_len, sizeLine_eq, sp_len]
    omega
  rw [SX.S_cat]
  refine ⟨_, rfl, b, m, rfl, z1.bx, fun j H2 hj g2 => ?_⟩
  have z2 := z1.go g2
  have lo2 := lo1.go z1.bx g2
  refine ⟨SX.S (KA.sp i ++ l), SX.S (KA.sp j), rfl, rfl, ?_, ?_⟩
  · rw [tx_len, tx_len, sizeLine_eq, List.length_append, sp_len, sp_len]
    omega
  rw [SX.S_cat]
  exact nx i j H2 hi hj z2 lo2
theorem st7 (L : Lc P w K mg base) (hr : Room 40 (A.deeper (envOfC "law" (defScope sLaw) s.heap.objs.size f (.ref c)))) :
    ∃ t, PS (XL P w K mg base f c A outer s H E) (ls 7) t ∧ ∀ (D : Ends) (H0 : Hp) (l : List Nat) (q a0 a1 a2 a3 : Addr) (T0 W0 T1 W1 T2 W2 T3 W3 : List Nat) (y0 y1 y2 y3 y4 y5 y6 y7 y9 y10 y11 y12 y13 y14 y15 : Option V), Lo l H0 q [(a0, [T0, W0]), (a1, [T1, W1]), (a2, [T2, W2]), (a3, [T3, W3])] →
      (∀ (r : Addr) (rs : Rls) H', Same H0 H' → H' r = some (.lst (rfs rs)) → wds rs = [[W0, W1], [W2, W3]] → (∀ x ∈ rs, TW H' x) → D.nx [y0, y1, y2, y3, y4, y5, y6, y7, some (.ref q), some (.ref r), y10, y11, y12, y13, y14, y15] H') → t D [y0, y1, y2, y3, y4, y5, y6, y7, some (.ref q), y9, y10, y11, y12, y13, y14, y15] H0 := by
  refine ⟨_, ps_set (i := 9) scLaw.nd rfl (.inl rfl) (pe_lst (pa_cons (pe_tup (pa_cons (pe_ix ix_tup (pe_ix ix_list (pv 8) pe_int (fun _ _ => rfl)) pe_int (fun _ _ => rfl)) (pa_cons (pe_ix ix_tup (pe_ix ix_list (pv 8) pe_int (fun _ _ => rfl)) pe_int (fun _ _ => rfl)) pa_nil))) (pa_cons (pe_tup (pa_cons (pe_ix ix_tup (pe_ix ix_list (pv 8) pe_int (fun _ _ => rfl)) pe_int (fun _ _ => rfl)) (pa_cons (pe_ix ix_tup (pe_ix ix_list (pv 8) pe_int (fun _ _ => rfl)) pe_int (fun _ _ => rfl)) pa_nil))) pa_nil))), ?_⟩
  intro D H0 l q a0 a1 a2 a3 T0 W0 T1 W1 T2 W2 T3 W3 y0 y1 y2 y3 y4 y5 y6 y7 y9 y10 y11 y12 y13 y14 y15 lo nx
  have t0 : H0 a0 = some (.tup [tx T0, tx W0]) := (lo.row (a0, [T0, W0]) (by simp)).1
  have t1 : H0 a1 = some (.tup [tx T1, tx W1]) := (lo.row (a1, [T1, W1]) (by simp)).1
  have t2 : H0 a2 = some (.tup [tx T2, tx W2]) := (lo.row (a2, [T2, W2]) (by simp)).1
  have t3 : H0 a3 = some (.tup [tx T3, tx W3]) := (lo.row (a3, [T3, W3]) (by simp)).1
  have hq := lo.lst
  refine ⟨_, rfl, q, _, 0, _, rfl, rfl, SqL.of hq, rfl, a0, _, 1, _, rfl, rfl, SqT.of t0, rfl, ?_⟩
  refine ⟨_, rfl, q, _, 1, _, rfl, rfl, SqL.of hq, rfl, a1, _, 1, _, rfl, rfl, SqT.of t1, rfl, ?_⟩
  refine ⟨(by show 2 ≤ sizeLine; decide), fun p1 n1 => ?_⟩
  have s1 := same_new (o := .tup [tx W0, tx W1]) n1
  have h1 := upd_same (H := H0) (a := p1) (o := .tup [tx W0, tx W1])
  refine ⟨_, rfl, q, _, 2, _, rfl, rfl, SqL.of (s1 _ _ hq), rfl, a2, _, 1, _, rfl, rfl, SqT.of (s1 _ _ t2), rfl, ?_⟩
  refine ⟨_, rfl, q, _, 3, _, rfl, rfl, SqL.of (s1 _ _ hq), rfl, a3, _, 1, _, rfl, rfl, SqT.of (s1 _ _ t3), rfl, ?_⟩
  refine ⟨(by show 2 ≤ sizeLine; decide), fun p2 n2 => ?_⟩
  have s2 := same_new (o := .tup [tx W2, tx W3]) n2
  have h2 := upd_same (H := upd H0 p1 (.tup [tx W0, tx W1])) (a := p2) (o := .tup [tx W2, tx W3])
  refine ⟨(by show 2 ≤ sizeLine; decide), fun r n3 => ?_⟩
  have s3 := same_new (o := .lst [.ref p1, .ref p2]) n3
  refine nx r [(p1, [W0, W1]), (p2, [W2, W3])] _ (s1.trans (s2.trans s3)) upd_same rfl fun x hx => ?_
  have hx2 : x = (p1, [W0, W1]) ∨ x = (p2, [W2, W3]) := by simpa using hx
  rcases hx2 with rfl | rfl
  · exact s3 _ _ (s2 _ _ h1)
  · exact s3 _ _ h2
theorem st8 (L : Lc P w K mg base) (hr : Room 40 (A.deeper (envOfC "law" (defScope sLaw) s.heap.objs.size f (.ref c)))) :
    ∃ t, PS (XL P w K mg base f c A outer s H E) (ls 8) t ∧ ∀ (D : Ends) (H0 : Hp) (l : List Nat) (q a0 a1 a2 a3 : Addr) (w0 T0 W0 T1 W1 T2 W2 T3 W3 : List Nat) (y0 y1 y2 y3 y4 y5 y6 y7 y9 y10 y11 y13 y14 y15 : Option V), w0.length ≤ 100 → KA.Lg l → Lo l H0 q [(a0, [T0, W0]), (a1, [T1, W1]), (a2, [T2, W2]), (a3, [T3, W3])] → Loo l 1 T0 W0 → Loo l 1 T1 W1 → Loo l 1 T2 W2 → Loo l 1 T3 W3 →
      (∀ (z7 : Option V) H', Same H0 H' → D.nx [y0, y1, y2, y3, y4, y5, y6, z7, some (.ref q), y9, y10, y11, some (tx (w0 ++ [59] ++ T0 ++ [61] ++ T1 ++ [59] ++ T2 ++ [61] ++ T3)), y13, y14, y15] H') → t D [y0, y1, y2, y3, y4, y5, y6, y7, some (.ref q), y9, y10, y11, some (tx w0), y13, y14, y15] H0 := by
  refine ⟨_, ps_for PassesOwn.never rfl (pi_list (pe_lst (pa_cons pe_int (pa_cons pe_int pa_nil)))) (pg_name (i := 7) scLaw.nd rfl (Or.inl rfl)) (pss_one (ps_set (i := 12) scLaw.nd rfl (.inr rfl) (pe_op o_addS (pe_op o_addS (pe_op o_addS (pe_op o_addS (pv 12) pe_str) (pe_ix ix_tup (pe_ix ix_list (pv 8) (pv 7) (fun _ _ => rfl)) pe_int (fun _ _ => rfl))) pe_str) (pe_ix ix_tup (pe_ix ix_list (pv 8) (pe_op op_add (pv 7) pe_int) (fun _ _ => rfl)) pe_int (fun _ _ => rfl))))), ?_⟩
  intro D H0 l q a0 a1 a2 a3 w0 T0 W0 T1 W1 T2 W2 T3 W3 y0 y1 y2 y3 y4 y5 y6 y7 y9 y10 y11 y13 y14 y15 ht hl lo l0 l1 l2 l3 nx
  have t0 : H0 a0 = some (.tup [tx T0, tx W0]) := (lo.row (a0, [T0, W0]) (by simp)).1
  have t1 : H0 a1 = some (.tup [tx T1, tx W1]) := (lo.row (a1, [T1, W1]) (by simp)).1
  have t2 : H0 a2 = some (.tup [tx T2, tx W2]) := (lo.row (a2, [T2, W2]) (by simp)).1
  have t3 : H0 a3 = some (.tup [tx T3, tx W3]) := (lo.row (a3, [T3, W3]) (by simp)).1
  have hq := lo.lst
  have b0 := (loo_ok hl.2.2 1 l0).1
  have b1 := (loo_ok hl.2.2 1 l1).1
  have b2 := (loo_ok hl.2.2 1 l2).1
  have b3 := (loo_ok hl.2.2 1 l3).1
  have tb1 : tb 1 ≤ 1000 := by decide
  refine ⟨(by show 2 ≤ sizeLine; decide), fun pl npl => ?_⟩
  have sl := same_new (o := .lst [.int 0, .int 2]) npl
  have hpl := upd_same (H := H0) (a := pl) (o := .lst [.int 0, .int 2])
  generalize upd H0 pl (.lst [.int 0, .int 2]) = H1 at sl hpl ⊢
  have t0 := sl _ _ t0
  have t1 := sl _ _ t1
  have t2 := sl _ _ t2
  have t3 := sl _ _ t3
  have hq := sl _ _ hq
  refine ⟨pl, rfl, ⟨_, SqL.of hpl⟩, ?_⟩
  refine for_it (walk_list (K := K) (a := pl) (xs := [.int 0, .int 2])) (fun i σ H3 => ∃ (z7 : Option V) (u : List Nat), H3 = H1 ∧ σ = [y0, y1, y2, y3, y4, y5, y6, z7, some (.ref q), y9, y10, y11, some (tx u), y13, y14, y15] ∧ (i = 0 → u = w0) ∧ (i = 1 → u = w0 ++ [59] ++ T0 ++ [61] ++ T1) ∧ (i = 2 → u = w0 ++ [59] ++ T0 ++ [61] ++ T1 ++ [59] ++ T2 ++ [61] ++ T3)) ⟨_, _, rfl, rfl, fun _ => rfl, (fun h => by cases h), (fun h => by cases h)⟩ (fun i σ H3 _ h => by obtain ⟨_, _, e, _⟩ := h; rw [e]; exact SqL.of hpl) ?_ ?_
  · rintro i x σ H3 H3' hi ⟨z7, u, rfl, rfl, u0, u1, u2⟩ ⟨rfl, hx⟩
    have hi2 : i < 2 := hi
    have lst2 : ∀ (v : List Nat) (n : Nat), v.length ≤ n → n + 1 ≤ 5000 → (SX.S v).length + (Str.ofString ";").length ≤ sizeLine ∧ (SX.S v).length + (Str.ofString "=").length ≤ sizeLine := fun v n h1 h2 => by
      rw [tx_len, sizeLine_eq]
      exact ⟨(by show v.length + 1 ≤ _; omega), (by show v.length + 1 ≤ _; omega)⟩
    have key : ∀ (Ta Tb : List Nat), u.length ≤ 2500 → Ta.length ≤ 1000 → Tb.length ≤ 1000 → (SX.S u).length + (SX.S [59]).length ≤ sizeLine ∧ (SX.S (u ++ [59])).length + (SX.S Ta).length ≤ sizeLine ∧ (SX.S (u ++ [59] ++ Ta)).length + (SX.S [61]).length ≤ sizeLine ∧ (SX.S (u ++ [59] ++ Ta ++ [61])).length + (SX.S Tb).length ≤ sizeLine := fun Ta Tb h1 h2 h3 => by
      rw [tx_len, tx_len, tx_len, tx_len, tx_len, tx_len, tx_len, tx_len, sizeLine_eq]
      simp only [List.length_append, List.length_cons, List.length_nil]
      omega
    have e59 : Str.ofString ";" = SX.S [59] := by rfl
    have e61 : Str.ofString "=" = SX.S [61] := by rfl
    have hu : i = 0 ∨ i = 1 := by omega
    rcases hu with rfl | rfl
    · obtain rfl : V.int 0 = x := Option.some.inj hx
      obtain rfl := u0 rfl
      obtain ⟨k1, k2, k3, k4⟩ := key T0 T1 (by omega) (by omega) (by omega)
      refine ⟨_, rfl, _, _, rfl, rfl, (by rw [e59]; exact k1), ?_⟩
      rw [e59, SX.S_cat]
      refine ⟨_, rfl, _, rfl, q, _, 0, _, rfl, rfl, SqL.of hq, rfl, a0, _, 0, _, rfl, rfl, SqT.of t0, rfl, SX.S (u ++ [59]), SX.S T0, rfl, rfl, k2, ?_⟩
      rw [SX.S_cat]
      refine ⟨SX.S (u ++ [59] ++ T0), _, rfl, rfl, (by rw [e61]; exact k3), ?_⟩
      rw [e61, SX.S_cat]
      refine ⟨_, rfl, _, rfl, _, _, rfl, rfl, q, _, 1, _, rfl, rfl, SqL.of hq, rfl, a1, _, 0, _, rfl, rfl, SqT.of t1, rfl, SX.S (u ++ [59] ++ T0 ++ [61]), SX.S T1, rfl, rfl, k4, ?_⟩
      rw [SX.S_cat]
      exact ⟨_, _, rfl, rfl, (fun h => by cases h), fun _ => rfl, (fun h => by cases h)⟩
    · obtain rfl : V.int 2 = x := Option.some.inj hx
      have hu := u1 rfl
      have hul : u.length ≤ 2500 := by
        rw [hu]
        simp only [List.length_append, List.length_cons, List.length_nil]
        omega
      obtain ⟨k1, k2, k3, k4⟩ := key T2 T3 hul (by omega) (by omega)
      refine ⟨_, rfl, _, _, rfl, rfl, (by rw [e59]; exact k1), ?_⟩
      rw [e59, SX.S_cat]
      refine ⟨_, rfl, _, rfl, q, _, 2, _, rfl, rfl, SqL.of hq, rfl, a2, _, 0, _, rfl, rfl, SqT.of t2, rfl, SX.S (u ++ [59]), SX.S T2, rfl, rfl, k2, ?_⟩
      rw [SX.S_cat]
      refine ⟨SX.S (u ++ [59] ++ T2), _, rfl, rfl, (by rw [e61]; exact k3), ?_⟩
      rw [e61, SX.S_cat]
      refine ⟨_, rfl, _, rfl, _, _, rfl, rfl, q, _, 3, _, rfl, rfl, SqL.of hq, rfl, a3, _, 0, _, rfl, rfl, SqT.of t3, rfl, SX.S (u ++ [59] ++ T2 ++ [61]), SX.S T3, rfl, rfl, k4, ?_⟩
      rw [SX.S_cat]
      refine ⟨_, _, rfl, rfl, (fun h => by cases h), (fun h => by cases h), fun _ => ?_⟩
      rw [hu]
  · rintro σ H3 ⟨z7, u, rfl, rfl, _, _, u2⟩
    rw [u2 rfl]
    exact nx _ _ sl
end
end K15
set_option maxRecDepth 100000
set_option maxHeartbeats 2000000
namespace K15
open PySem PySem.Spec PyProof.Rows L2 KA
def Big4 (W0 W1 W2 W3 : List Nat) : Prop := 400 < W0.length ∨ 400 < W1.length ∨ 400 < W2.length ∨ 400 < W3.length
theorem ps4 {l : List Nat} (hl : KA.Lg l) {i j : Nat} (hi : i ≤ 2) (hj : j ≤ 2) {T0 W0 T1 W1 T2 W2 T3 W3 : List Nat} (l0 : Loo l 1 T0 W0) (l1 : Loo l 1 T1 W1) (l2 : Loo l 1 T2 W2) (l3 : Loo l 1 T3 W3) :
    Tg i j l [(T0, T1), (T2, T3)] ∧ ([(T0, T1), (T2, T3)].any (tooL l) = true → Big4 W0 W1 W2 W3) ∧ ([(T0, T1), (T2, T3)].any (tooL l) = false → ¬ Big4 W0 W1 W2 W3 ∧ [(T0, T1), (T2, T3)].map (rdP2 l) = [[W0, W1], [W2, W3]]) := by
  obtain ⟨p1, n1, t1, r1⟩ := pg_loo hl.2.2 l0 l1
  obtain ⟨p2, n2, t2, r2⟩ := pg_loo hl.2.2 l2 l3
  have ea : [(T0, T1), (T2, T3)].any (tooL l) = ((decide (400 < W0.length) || decide (400 < W1.length)) || ((decide (400 < W2.length) || decide (400 < W3.length)) || false)) := by
    rw [List.any_cons, List.any_cons, List.any_nil, t1, t2]
  refine ⟨⟨hl.lt, lg_good hl, ⟨by omega, by omega⟩, (by show 2 ≤ 100; decide), fun p hp => ?_, fun p hp => ?_⟩, fun h => ?_, fun h => ?_⟩
  · have hp2 : p = (T0, T1) ∨ p = (T2, T3) := by simpa using hp
    rcases hp2 with rfl | rfl
    · exact p1
    · exact p2
  · have hp2 : p = (T0, T1) ∨ p = (T2, T3) := by simpa using hp
    rcases hp2 with rfl | rfl
    · exact n1
    · exact n2
  · rw [ea] at h
    unfold Big4
    simp only [Bool.or_eq_true, decide_eq_true_eq, Bool.or_false] at h
    omega
  · rw [ea] at h
    simp only [Bool.or_eq_false_iff, decide_eq_false_iff_not] at h
    obtain ⟨⟨a, b⟩, ⟨c, d⟩, _⟩ := h
    refine ⟨?_, ?_⟩
    · unfold Big4
      omega
    · rw [List.map_cons, List.map_cons, List.map_nil, r1 (by omega) (by omega), r2 (by omega) (by omega)]
theorem txt4 (i j : Nat) (l T0 T1 T2 T3 : List Nat) : KA.sp i ++ l ++ KA.sp j ++ [59] ++ T0 ++ [61] ++ T1 ++ [59] ++ T2 ++ [61] ++ T3 = txt i j l [(T0, T1), (T2, T3)] := by
  show _ = (spc i ++ (l ++ spc j)) ++ ([59] ++ ((T0 ++ ([61] ++ T1)) ++ ([59] ++ (T2 ++ ([61] ++ T3)))))
  show KA.sp i ++ l ++ KA.sp j ++ [59] ++ T0 ++ [61] ++ T1 ++ [59] ++ T2 ++ [61] ++ T3 = (KA.sp i ++ (l ++ KA.sp j)) ++ ([59] ++ ((T0 ++ ([61] ++ T1)) ++ ([59] ++ (T2 ++ ([61] ++ T3)))))
  simp only [List.append_assoc]
theorem wt2 {l : List Nat} (hl : KA.Lg l) {Ta Wa Tb Wb : List Nat} (a : Loo l 1 Ta Wa) (b : Loo l 1 Tb Wb) : Wt [Wa, Wb] := by
  refine ⟨(by show 2 ≤ 1000; decide), fun z hz => ?_⟩
  have h1 := loo1_len a
  have h2 := loo1_len b
  have : z = Wa ∨ z = Wb := by simpa using hz
  rcases this with rfl | rfl
  · exact ⟨by omega, (loo_ok hl.2.2 1 a).2.2.2⟩
  · exact ⟨by omega, (loo_ok hl.2.2 1 b).2.2.2⟩
theorem wt4 {l : List Nat} (hl : KA.Lg l) {T0 W0 T1 W1 T2 W2 T3 W3 : List Nat} (l0 : Loo l 1 T0 W0) (l1 : Loo l 1 T1 W1) (l2 : Loo l 1 T2 W2) (l3 : Loo l 1 T3 W3) : ∀ r ∈ [[W0, W1], [W2, W3]], Wt r := fun r hr => by
  have : r = [W0, W1] ∨ r = [W2, W3] := by simpa using hr
  rcases this with rfl | rfl
  · exact wt2 hl l0 l1
  · exact wt2 hl l2 l3
/-- what _law_bad_rule says -/
def Bd (l : List Nat) (ws : List (List (List Nat))) (v : V) : Prop := (GoodU l ws ∧ v = .non) ∨ ∃ i : Nat, Fb l ws i ∧ v = .int (i : Nat)
/-- what was told -/
def Tl (l : List Nat) (H : Hp) (T : Addr) (big : Prop) (ws : List (List (List Nat))) : Prop := (big ∧ H T = some (.tup [tagL, .int 400])) ∨ (¬ big ∧ GoodU l ws ∧ ∃ (pl : Addr) (rs : Rls), H T = some (.tup [.str (Str.ofString ""), .ref pl]) ∧ H pl = some (.lst (rfs rs)) ∧ wds rs = ws ∧ ∀ r ∈ rs, TW H r) ∨ (¬ big ∧ ∃ i : Nat, Fb l ws i ∧ H T = some (.tup [tagU, .int (i : Nat)]))
theorem Tl.same {l : List Nat} {H H' : Hp} {T : Addr} {big : Prop} {ws : List (List (List Nat))} (h : Tl l H T big ws) (s : Same H H') : Tl l H' T big ws := by
  rcases h with ⟨h, h1⟩ | ⟨h, g, pl, rs, h1, h2, h3, h4⟩ | ⟨h, i, h1, h2⟩
  · exact .inl ⟨h, s _ _ h1⟩
  · exact .inr (.inl ⟨h, g, pl, rs, s _ _ h1, s _ _ h2, h3, fun r hr => (h4 r hr).same s⟩)
  · exact .inr (.inr ⟨h, i, h1, s _ _ h2⟩)
theorem tl_eqd {l : List Nat} {H : Hp} {T T' : Addr} {big : Prop} {ws : List (List (List Nat))} (h : Tl l H T big ws) (h' : Tl l H T' big ws) (hw : ws.length ≤ 1000 ∧ ∀ r ∈ ws, r.length ≤ 1000) : Eqd 3 H (.ref T) (.ref T') := by
  rcases h with ⟨h, h1⟩ | ⟨h, g, pl, rs, h1, h2, h3, h4⟩ | ⟨h, i, h1, h2⟩
  · rcases h' with ⟨_, h1'⟩ | ⟨h', _⟩ | ⟨h', _⟩
    · exact eqd_pair h1 h1' eqd_int eqd_str
    · exact absurd h h'
    · exact absurd h h'
  · rcases h' with ⟨h', _⟩ | ⟨_, _, pl', rs', h1', h2', h3', h4'⟩ | ⟨_, i, hb, _⟩
    · exact absurd h' h
    · have rl : rs.length = ws.length := by
        rw [← h3, List.length_map]
      refine eqd_pair h1 h1' (eqd_wds h2 h2' (h3.trans h3'.symm) (fun r hr => ⟨h4 r hr, hw.2 _ ?_⟩) h4' (by omega)) eqd_str
      rw [← h3]
      exact List.mem_map.mpr ⟨r, hr, rfl⟩
    · exact fb_no hb g
  · rcases h' with ⟨h', _⟩ | ⟨_, g, _⟩ | ⟨_, i', hb', h2'⟩
    · exact absurd h' h
    · exact fb_no h1 g
    · rw [fb_one h1 hb'] at h2
      exact eqd_pair h2 h2' eqd_int eqd_str
def lamP : Expr → Arguments
  | .Lambda p _ _ _ => p
  | _ => ⟨[], [], none, [], [], none, []⟩
def lamE : Expr → Expr
  | .Lambda _ e _ _ => e
  | e => e
def lamS : Expr → Scope
  | .Lambda _ _ s _ => s
  | _ => defScope sLaw
def arg0 : Expr → Expr
  | .Call _ (e :: _) _ _ => e
  | e => e
def valE : Stmt → Expr
  | .Assign _ e _ => e
  | _ => .Name "" ⟨0, 0, 0, 0⟩
def ask1 : Expr := arg0 (valE (ls 10))
theorem bind0 : Rs.LamBind (lamP ask1) (lamE ask1) (lamS ask1) := by
  intro z q cl dV doc pm cv ctv hd
  rcases hd with ⟨_, rfl⟩ | ⟨t, its, _, _, _, hn⟩
  · exact ⟨[], .of_eq rfl, fun y hy => nomatch hy⟩
  · exact absurd rfl hn
section
variable {P : Program} {w : World} {K : PySem.W.Frag} {mg : Str → Option Value} {base : Heap}
variable {f c : Addr} {A : Around} {outer : List Env} {s : Shared} {H : Hp} {E : XK}
theorem la1 (L : Lc P w K mg base) : ∃ t, Rs.LamB (XL P w K mg base f c A outer s H E) 36 (lamP ask1) (lamE ask1) (lamS ask1) t ∧ ∀ (E2 : XK) (i j : Nat) (l : List Nat) (ps : Pts) (y0 y1 y2 y3 y4 y5 y6 y7 y8 y9 y10 y11 y13 y14 y15 : Option V) (G : Hp) (Q : VK), KA.Lg l → Tg i j l ps → LamX.Tabs L.T G →
    (ps.any (tooL l) = false → ∀ r ∈ ps.map (rdP2 l), Wt r) → (ps.any (tooL l) = true → FlL L.Cl G E2) → (ps.any (tooL l) = false → ∀ k, Fb l (ps.map (rdP2 l)) k → Fl L.CU tagU "at" (.int (k : Nat)) G E2) →
    (ps.any (tooL l) = false → GoodU l (ps.map (rdP2 l)) → ∀ (H' : Hp) (pl : Addr) (rs : Rls), LamX.ExtN G H' → LamX.Tabs L.T H' → H' pl = some (.lst (rfs rs)) → wds rs = ps.map (rdP2 l) → (∀ r ∈ rs, TW H' r) → Q (.ref pl) H') → t E2 [y0, y1, y2, y3, y4, y5, y6, y7, y8, y9, y10, y11, some (tx (txt i j l ps)), y13, y14, y15] G Q := by
  refine ⟨_, ⟨Rs.lamQ_by (N := NL) (sc := defScope sLaw) (by decide +kernel), bind0, fun A2 outer2 s2 H2 E2 f2 c2 hr2 =>
    pe_meth0 (Rs.e_cmethK (pe_glob (v := .ref L.C) (by rfl) L.gC rfl) L.rd L.cm L.GD hr2 L.kD (passes_call (W := fun cls d _ H => E2 cls d H) (takes_of rfl rfl rfl rfl) (fun _ _ _ _ h => h)) (pk_cons (pv 12) pk_nil)) L.TC.cl L.MR L.GR (hr2.mono (by decide)) L.bR .nil pass0⟩, ?_⟩
  intro E2 i j l ps y0 y1 y2 y3 y4 y5 y6 y7 y8 y9 y10 y11 y13 y14 y15 G Q hl tg tb wt eL eU ok
  refine ⟨rfl, _, rfl, i, j, l, ps, rfl, tg, eL, fun nb H3 rs3 s3 ew tw => ?_⟩
  have tb3 := tb.ext s3
  have wt3 : ∀ r ∈ rs3, Wt r.2 := fun r hr => wt nb r.2 (by rw [← ew]; exact List.mem_map.mpr ⟨r, hr, rfl⟩)
  have l3 : rs3.length ≤ 100 := by
    have e := congrArg List.length ew
    rw [List.length_map, List.length_map] at e
    have := tg.few
    omega
  refine mk_of hl (fun r hr => ⟨tw r hr, (wt3 r hr).1, fun z hz => ((wt3 r hr).2 z hz).1⟩) (fun r hr z hz => ?_) l3 tb3 (fun k hk hb hj => ?_) fun gU H4 x' q' e4 t4 nw tn4 => ?_
  · obtain ⟨y, hy, rfl⟩ := List.mem_map.mp hr
    exact ((wt3 y hy).2 z hz).2
  · rw [ew] at hb hj
    refine Fl.of (eU nb k ⟨?_, hb, hj⟩) s3
    rw [← ew, List.length_map]
    exact hk
  · obtain ⟨dx', t2, hx'⟩ := tn4.ins
    refine ⟨x', dx', _, rfl, hx', rfl, x', q', l, _, rfl, tn4, fun pl npl => ?_⟩
    have s1 := same_new (o := .lst (rfs rs3)) npl
    rw [ew] at gU
    exact ok nb gU _ pl rs3 (LamX.ExtN.trans (.of s3) (LamX.ExtN.trans e4 (.of s1))) (t4.ext s1) upd_same ew fun r hr => (tn4.row r hr).same s1
theorem st9 (L : Lc P w K mg base) (hr : Room 40 (A.deeper (envOfC "law" (defScope sLaw) s.heap.objs.size f (.ref c)))) :
    ∃ t, PS (XL P w K mg base f c A outer s H E) (ls 9) t ∧ ∀ (D : Ends) (H0 : Hp) (r : Addr) (l : List Nat) (rs : Rls) (y0 y1 y2 y4 y5 y6 y7 y8 y10 y11 y12 y13 y14 y15 : Option V), KA.Lg l → H0 r = some (.lst (rfs rs)) → Tws H0 rs → rs.length ≤ 7 →
      (∀ (v : V) H', Same H0 H' → Bd l (wds rs) v → D.nx [y0, y1, y2, some (tx l), y4, y5, y6, y7, y8, some (.ref r), some v, y11, y12, y13, y14, y15] H') → t D [y0, y1, y2, some (tx l), y4, y5, y6, y7, y8, some (.ref r), y10, y11, y12, y13, y14, y15] H0 := by
  have r3 : Room 3 (A.deeper (envOfC "law" (defScope sLaw) s.heap.objs.size f (.ref c))) := hr.mono (by decide)
  refine ⟨_, ps_set (i := 10) scLaw.nd rfl (.inl rfl) (pe_call L.cBd.ok r3 (by rfl) L.cBd.g L.cBd.kp L.cBd.b .nil pass0 (pa_cons (pv 9) (pa_cons (pv 3) pa_nil))), ?_⟩
  intro D H0 r l rs y0 y1 y2 y4 y5 y6 y7 y8 y10 y11 y12 y13 y14 y15 hl hr tw h7 nx
  refine ⟨_, rfl, _, rfl, r, l, rs, rfl, hr, tw, h7, hl.lt, fun g H' s1 => nx _ H' s1 (.inl ⟨g, rfl⟩), fun i hi hb hj H' s1 => nx _ H' s1 (.inr ⟨i, ⟨?_, hb, hj⟩, rfl⟩)⟩
  rw [List.length_map]
  exact hi
theorem st10 (L : Lc P w K mg base) (W : Lt2 base mg L.T c qL) (hr : Room 40 (A.deeper (envOfC "law" (defScope sLaw) s.heap.objs.size f (.ref c)))) :
    ∃ t, PS (XL P w K mg base f c A outer s H E) (ls 10) t ∧ ∀ (D : Ends) (H0 : Hp) (i j : Nat) (l T0 W0 T1 W1 T2 W2 T3 W3 : List Nat) (y0 y1 y2 y3 y4 y5 y6 y7 y8 y9 y10 y11 y13 y14 y15 : Option V), i ≤ 2 → j ≤ 2 → KA.Lg l → LamX.Tabs L.T H0 → Loo l 1 T0 W0 → Loo l 1 T1 W1 → Loo l 1 T2 W2 → Loo l 1 T3 W3 →
      (∀ (T : Addr) H', LamX.ExtN H0 H' → LamX.Tabs L.T H' → Tl l H' T (Big4 W0 W1 W2 W3) [[W0, W1], [W2, W3]] → D.nx [y0, y1, y2, y3, y4, y5, y6, y7, y8, y9, y10, some (.ref T), some (tx (txt i j l [(T0, T1), (T2, T3)])), y13, y14, y15] H') → t D [y0, y1, y2, y3, y4, y5, y6, y7, y8, y9, y10, y11, some (tx (txt i j l [(T0, T1), (T2, T3)])), y13, y14, y15] H0 := by
  obtain ⟨oc2, od2, kV2, doc2, pm2, an2, cdW, ct2, osl2, e2, lkW, hcW⟩ := L.FW.ex
  have r2 : Room 2 (A.deeper (envOfC "law" (defScope sLaw) s.heap.objs.size f (.ref c))) := hr.mono (by decide)
  have r38 : Room 38 (A.deeper (envOfC "law" (defScope sLaw) s.heap.objs.size f (.ref c))) := hr.mono (by decide)
  have bW := L.bWh
  rw [e2] at bW lkW
  have hG : ∀ cdg : Value, Rs.GivesL (XL P w K mg base f c A outer s H E) NW "_law_why" (defScope sWhy) L.fWh cdg (defBody sWhy) "_law_ask" (TTw L.CU L.Cl) := fun cdg =>
    why_gives (j := 0) (X := XL P w K mg base f c A outer s H E) L.TU L.XU L.TL L.XCl L.GF L.kF L.bF L.gF L.m1 L.m2 L.m3 L.hx r2
  obtain ⟨t0, LB0, R0⟩ := la1 (A := A) (outer := outer) (s := s) (H := H) (E := E) (f := f) (c := c) L
  refine ⟨_, ps_set (i := 11) scLaw.nd rfl (.inl rfl) (Rs.e_giveG (k := 36) (sl := id) Rs.up_self ⟨rfl, rfl, rfl, rfl, rfl, rfl, rfl⟩ (by rfl) L.gWh L.FW.kp lkW hcW bW scWhy rfl (.inl rfl) (hG _) r38 (Rs.e_lam0 (T := L.T) W.TB rfl W.hm W.hu (Rs.lamQ_by (N := NL) (sc := defScope sLaw) (by decide +kernel)) rfl rfl)), ?_⟩
  intro D H0 i j l T0 W0 T1 W1 T2 W2 T3 W3 y0 y1 y2 y3 y4 y5 y6 y7 y8 y9 y10 y11 y13 y14 y15 hi hj hl tb l0 l1 l2 l3 nx
  refine ⟨tb, fun f1 H1 ex tb1 nf la => ⟨f1, _, _, _, t0, rfl, LB0, la, ?_⟩⟩
  obtain ⟨tg, tB, tS⟩ := ps4 hl hi hj l0 l1 l2 l3
  refine R0 _ i j l _ y0 y1 y2 y3 y4 y5 y6 y7 y8 y9 y10 _ y13 y14 y15 H1 _ hl tg tb1 (fun nb => ?_) (fun bg => ?_) (fun nb k hb => ?_) fun nb gU H' pl rs e' t' hp ew tw => ?_
  · rw [(tS nb).2]
    exact wt4 hl l0 l1 l2 l3
  · intro H' d sH nd hd
    refine .inr ⟨rfl, d, _, rfl, hd, fun H2 T s2 nT hT => ?_⟩
    exact nx T H2 (ex.trans (LamX.ExtN.trans (.of sH) (.of s2))) ((tb1.ext sH).ext s2) (.inl ⟨tB bg, hT⟩)
  · intro H' d sH nd hd
    rw [(tS nb).2] at hb
    refine .inl ⟨rfl, d, _, rfl, hd, fun H2 T s2 nT hT => ?_⟩
    exact nx T H2 (ex.trans (LamX.ExtN.trans (.of sH) (.of s2))) ((tb1.ext sH).ext s2) (.inr (.inr ⟨(tS nb).1, k, hb, hT⟩))
  · rw [(tS nb).2] at gU ew
    refine ⟨(by show 2 ≤ sizeLine; decide), fun T nT => ?_⟩
    have s3 := same_new (o := .tup [.str (Str.ofString ""), .ref pl]) nT
    exact nx T _ (ex.trans (e'.trans (.of s3))) (t'.ext s3) (.inr (.inl ⟨(tS nb).1, gU, pl, rs, upd_same, s3 _ _ hp, ew, fun r hr => (tw r hr).same s3⟩))
theorem st11 (L : Lc P w K mg base) (hr : Room 40 (A.deeper (envOfC "law" (defScope sLaw) s.heap.objs.size f (.ref c)))) :
    ∃ t, PS (XL P w K mg base f c A outer s H E) (ls 11) t ∧ ∀ (D : Ends) (H0 : Hp) (r : Addr) (l : List Nat) (ws : List (List (List Nat))) (v : V) (y0 y1 y2 y3 y4 y5 y6 y7 y8 y11 y12 y13 y14 y15 : Option V), Bd l ws v →
      (∀ (Te : Addr) H', Same H0 H' → ((GoodU l ws ∧ H' Te = some (.tup [.str (Str.ofString ""), .ref r])) ∨ ∃ i : Nat, Fb l ws i ∧ H' Te = some (.tup [tagU, .int (i : Nat)])) → D.nx [y0, y1, y2, y3, y4, y5, some (.ref Te), y7, y8, some (.ref r), some v, y11, y12, y13, y14, y15] H') → t D [y0, y1, y2, y3, y4, y5, y6, y7, y8, some (.ref r), some v, y11, y12, y13, y14, y15] H0 := by
  refine ⟨_, ps_set (i := 6) scLaw.nd rfl (.inl rfl) (pe_ifExp (pt_cmpR op_isN (pv 10) pe_non (nomark _)) (pe_tup (pa_cons pe_str (pa_cons (pv 9) pa_nil))) (pe_tup (pa_cons pe_str (pa_cons (pv 10) pa_nil)))), ?_⟩
  intro D H0 r l ws v y0 y1 y2 y3 y4 y5 y6 y7 y8 y11 y12 y13 y14 y15 bd nx
  rcases bd with ⟨g, rfl⟩ | ⟨i, hb, rfl⟩
  · refine ⟨_, rfl, rfl, true, congrArg V.bl (decide_eq_true rfl), iteT ⟨_, rfl, (by show 2 ≤ sizeLine; decide), fun Te nT => nx Te _ (same_new nT) (.inl ⟨g, upd_same⟩)⟩⟩
  · refine ⟨_, rfl, rfl, false, congrArg V.bl (decide_eq_false (fun h => by cases h)), iteF ⟨_, rfl, (by show 2 ≤ sizeLine; decide), fun Te nT => nx Te _ (same_new nT) (.inr ⟨i, hb, upd_same⟩)⟩⟩
end
end K15
set_option maxRecDepth 100000
set_option maxHeartbeats 2000000
namespace K15
open PySem PySem.Spec PyProof.Rows L2 KA
def teLen (K : PySem.W.Frag) : TE := tCB (fun xs H Q => ∃ z : Str, xs = [V.str z] ∧ z.length ≤ sizeLine ∧ Q (.int z.length) H) (tCons (tOp (rIxT K) (tVar 15) (tC (.int 1))) tNil)
def wOf (x : Addr × List (List Nat)) : List Nat := x.2.getD 1 []
section
variable {P : Program} {w : World} {K : PySem.W.Frag} {mg : Str → Option Value} {base : Heap}
variable {f c : Addr} {A : Around} {outer : List Env} {s : Shared} {H : Hp} {E : XK}
theorem st12 (L : Lc P w K mg base) (hr : Room 40 (A.deeper (envOfC "law" (defScope sLaw) s.heap.objs.size f (.ref c)))) :
    ∃ t, PS (XL P w K mg base f c A outer s H E) (ls 12) t ∧ ∀ (D : Ends) (H0 : Hp) (q r Te a0 a1 a2 a3 : Addr) (l : List Nat) (T0 W0 T1 W1 T2 W2 T3 W3 : List Nat) (y0 y1 y2 y3 y4 y5 y7 y9 y10 y11 y12 y13 y14 y15 : Option V), KA.Lg l → Lo l H0 q [(a0, [T0, W0]), (a1, [T1, W1]), (a2, [T2, W2]), (a3, [T3, W3])] →
      (∀ (Tf : Addr) H', Same H0 H' → ((Big4 W0 W1 W2 W3 ∧ H' Tf = some (.tup [tagL, .int 400])) ∨ (¬ Big4 W0 W1 W2 W3 ∧ Tf = Te)) → D.nx [y0, y1, y2, y3, y4, y5, some (.ref Tf), y7, some (.ref q), y9, y10, y11, y12, y13, y14, y15] H') → t D [y0, y1, y2, y3, y4, y5, some (.ref Te), y7, some (.ref q), y9, y10, y11, y12, y13, y14, y15] H0 := by
  refine ⟨_, ps_if (pt_cmpR op_gt (pe_callB (cr_max rfl) (by rfl) L.mMax boot_max (pa_cons (pe_lc (own := [("_law_each", 15)]) (g := gName 15) (tt := tYes) (te := teLen K) rfl scLaw.nd (pi_list (pv 8))
    (blkOk_by (N := NL) (sc := defScope sLaw) (by decide +kernel)) (fun _ _ _ _ _ => pg_name (i := 15) scLaw.nd rfl (Or.inl rfl)) (fun _ _ _ _ _ => pts_nil)
    (fun _ _ _ _ _ => pe_callB call_len_str (by rfl) L.B.len PySem.boot_len (pa_cons (pe_ix ix_tup (pv 15) pe_int (fun _ _ => rfl)) pa_nil))) pa_nil)) pe_int (nomark _)) (pss_one (ps_set (i := 6) scLaw.nd rfl (.inl rfl) (pe_tup (pa_cons pe_str (pa_cons pe_int pa_nil))))) pss_nil, ?_⟩
  intro D H0 q r Te a0 a1 a2 a3 l T0 W0 T1 W1 T2 W2 T3 W3 y0 y1 y2 y3 y4 y5 y7 y9 y10 y11 y12 y13 y14 y15 hl lo nx
  generalize exs : [(a0, [T0, W0]), (a1, [T1, W1]), (a2, [T2, W2]), (a3, [T3, W3])] = xs at lo
  have hws : xs.map (fun x => ((wOf x).length : Int)) = [(W0.length : Int), W1.length, W2.length, W3.length] := by
    rw [← exs]
    rfl
  refine ⟨_, rfl, q, rfl, ⟨_, SqL.of lo.lst⟩, fun Dl nD => ?_⟩
  refine lc_it (te := teLen K) (tt := tYes) (walk_list (K := K) (a := q) (xs := rfs xs)) (fun i H2 => Same H0 H2 ∧ H2 Dl = some (.lst ((xs.take i).map fun x => V.int ((wOf x).length : Int)))) ⟨same_new nD, upd_same⟩ (fun i H2 _ h => SqL.of (h.1 _ _ lo.lst)) ?_ ?_
  · rintro i z H2 H2' hi ⟨s2, hD⟩ ⟨rfl, hz⟩
    rw [List.length_map] at hi
    have gl : xs[i]? = some xs[i] := List.getElem?_eq_getElem hi
    obtain rfl : V.ref xs[i].1 = z := by
      rw [List.getElem?_map, gl] at hz
      exact Option.some.inj hz
    obtain ⟨tr, T, W, ew, lw⟩ := lo.row _ (List.getElem_mem hi)
    have tr := tr.same s2
    have h4 : xs.length = 4 := by rw [← exs]; rfl
    have ewo : wOf xs[i] = W := by
      unfold wOf
      rw [ew]
      rfl
    have tr2 : H2' xs[i].1 = some (.tup [tx T, tx W]) := by
      have e : H2' xs[i].1 = some (.tup (xs[i].2.map tx)) := tr
      rw [ew] at e
      exact e
    have lW := loo1_len lw
    refine ⟨rfl, ?_⟩
    dsimp only [tYes]
    rw [if_pos rfl]
    refine ⟨_, rfl, xs[i].1, _, 1, _, rfl, rfl, SqT.of tr2, rfl, _, rfl, ?_, _, hD, ?_, fun o v e => ?_, ?_⟩
    · rw [tx_len, sizeLine_eq]
      omega
    · rw [List.length_map, List.length_take]
      exact small1000 (by omega)
    · rw [upd_ne (ne_of_none e nD)]
      exact s2 _ _ e
    · rw [upd_same, take_more gl, List.map_append, tx_len, ← ewo]
      rfl
  · rintro H2 ⟨s2, hD⟩
    have el : (rfs xs).length = xs.length := List.length_map _
    have em : ((xs.take (rfs xs).length).map fun x => V.int ((wOf x).length : Int)) = [(W0.length : Int), W1.length, W2.length, W3.length].map V.int := by
      rw [el, List.take_length, ← hws, List.map_map]
      rfl
    rw [em] at hD
    refine ⟨Dl, _, rfl, SqL.of hD, (by show 0 < 4; decide), fun m hm hall => ?_⟩
    refine ⟨_, _, rfl, rfl, _, rfl, ?_⟩
    have key : (400 < m) ↔ Big4 W0 W1 W2 W3 := by
      have a0 := hall W0.length (by simp)
      have a1 := hall W1.length (by simp)
      have a2 := hall W2.length (by simp)
      have a3 := hall W3.length (by simp)
      have hm2 : m = W0.length ∨ m = W1.length ∨ m = W2.length ∨ m = W3.length := by simpa using hm
      unfold Big4
      omega
    by_cases hb : 400 < m
    · rw [decide_eq_true hb]
      exact iteT ⟨(by show 2 ≤ sizeLine; decide), fun Tf nT => nx Tf _ (s2.trans (same_new nT)) (.inl ⟨key.mp hb, upd_same⟩)⟩
    · rw [decide_eq_false hb]
      exact iteF (nx Te _ s2 (.inr ⟨fun h => hb (key.mpr h), rfl⟩))
theorem st13 (L : Lc P w K mg base) (hr : Room 40 (A.deeper (envOfC "law" (defScope sLaw) s.heap.objs.size f (.ref c)))) :
    ∃ t, PS (XL P w K mg base f c A outer s H E) (ls 13) t ∧ ∀ (D : Ends) (H0 : Hp) (T Tf : Addr) (l : List Nat) (big : Prop) (ws : List (List (List Nat))) (y0 y1 y2 y3 y4 y5 y7 y8 y9 y10 y12 y13 y14 y15 : Option V), Tl l H0 T big ws → Tl l H0 Tf big ws → (ws.length ≤ 1000 ∧ ∀ r ∈ ws, r.length ≤ 1000) →
      (∀ H', Same H0 H' → D.nx [y0, y1, y2, y3, y4, y5, some (.ref Tf), y7, y8, y9, y10, some (.ref T), y12, y13, y14, y15] H') → t D [y0, y1, y2, y3, y4, y5, some (.ref Tf), y7, y8, y9, y10, some (.ref T), y12, y13, y14, y15] H0 := by
  have r4 : Room 4 (A.deeper (envOfC "law" (defScope sLaw) s.heap.objs.size f (.ref c))) := hr.mono (by decide)
  refine ⟨_, ps_if (pt_not (pt_val (pe_call L.cSa.ok r4 (by rfl) L.cSa.g L.cSa.kp L.cSa.b .nil pass0 (pa_cons (pv 11) (pa_cons (pv 6) pa_nil))))) pss_never pss_nil, ?_⟩
  intro D H0 T Tf l big ws y0 y1 y2 y3 y4 y5 y7 y8 y9 y10 y12 y13 y14 y15 t1 t2 hw nx
  exact ⟨_, rfl, _, rfl, _, _, rfl, tl_eqd t1 t2 hw, fun H4 s4 => ⟨true, rfl, iteF (nx H4 s4)⟩⟩
end
end K15
set_option maxRecDepth 100000
set_option maxHeartbeats 4000000
namespace K15
open PySem PySem.Spec PyProof.Rows L2 KA
theorem tw2 {H : Hp} {p : Addr} {a b : Str} {x y : List Nat} (h : H p = some (.tup [V.str a, V.str b])) (ea : a = SX.S x) (eb : b = SX.S y) : TW H (p, [x, y]) := by
  subst ea
  subst eb
  exact h
theorem mk_ru {C CG CU : Addr} {T : List (Addr × Str)} {H : Hp} {L : List Nat} {rs : Rls} {E : XK} {Q' : Addr → Hp → Prop} (hl : KA.Lg L) (ru : Ru L H rs) (h6 : rs.length ≤ 6) (tb : LamX.Tabs T H) (h : ∀ (H' : Hp) (x q : Addr), LamX.ExtN H H' → LamX.Tabs T H' → Tn C H' x L q rs → Q' x H') : MkTn C CG CU T H L rs E Q' :=
  mk_of hl ru.tws ru.asw (by omega) tb (fun j hj hb _ => good_no (ru.good h6) (by rw [List.length_map]; exact hj) hb) fun _ H' x q e t _ tn => h H' x q e t tn
theorem mk_lit {K : PySem.W.Frag} {C CG CU : Addr} {T : List (Addr × Str)} {H : Hp} {l : List Nat} {rs : Rls} {E : XK} {Q' : Addr → Hp → Prop} {z : Str} (ez : z = SX.S l) (mk : MkTn C CG CU T H l rs E Q') :
    ∀ x dx, H x = Option.none → H dx = Option.none → dx ≠ x → spTown K C CG CU T (V.ref x :: V.str z :: rfs rs) (upd (upd H dx (.own x)) x (.ins C dx [])) (fun v H2 => v = .non ∧ Q' x H2) E := by
  subst ez
  exact mk_town mk
theorem ru_nil {L : List Nat} {H : Hp} : Ru L H [] := ⟨fun r hr => (nomatch hr), fun r hr => (nomatch hr)⟩
theorem ru_cons {L : List Nat} {H : Hp} {p : Addr} {ws : List (List Nat)} {rs : Rls} (h : TW H (p, ws)) (o : okR L ws = true) (w : Wt ws) (ru : Ru L H rs) : Ru L H ((p, ws) :: rs) :=
  ⟨fun x hx => (List.mem_cons.mp hx).elim (fun e => by rw [e]; exact h) (ru.row x), fun x hx => (List.mem_cons.mp hx).elim (fun e => by rw [e]; exact ⟨o, w⟩) (ru.ok x)⟩
theorem wt_dec {ws : List (List Nat)} (h : (decide (ws.length ≤ 1000) && ws.all fun l => decide (l.length ≤ 1000) && l.all fun c => decide (c < 128)) = true) : Wt ws := by
  obtain ⟨h1, h2⟩ := He.ba h
  refine ⟨of_decide_eq_true h1, fun l hl => ?_⟩
  obtain ⟨h3, h4⟩ := He.ba (List.all_eq_true.mp h2 l hl)
  exact ⟨of_decide_eq_true h3, fun c hc => of_decide_eq_true (List.all_eq_true.mp h4 c hc)⟩
theorem ru_of {l : List Nat} {H : Hp} {rs : Rls} {ws : List (List (List Nat))} (tw : ∀ r ∈ rs, TW H r) (e : wds rs = ws) (h : ∀ r ∈ ws, okR l r = true ∧ Wt r) : Ru l H rs := ⟨tw, fun r hr => h r.2 (by rw [← e]; exact List.mem_map.mpr ⟨r, hr, rfl⟩)⟩
theorem lg_ta : KA.Lg [116, 97] := ⟨by decide, by decide, by decide⟩
theorem lg_a : KA.Lg [97] := ⟨by decide, by decide, by decide⟩
theorem s_ta : Str.ofString "ta" = SX.S [116, 97] := by decide
theorem s_a : Str.ofString "a" = SX.S [97] := by decide
theorem s_taT : Str.ofString "taT" = SX.S [116, 97, 84] := by decide
theorem s_aa : Str.ofString "aa" = SX.S [97, 97] := by decide
abbrev wsA : List (List (List Nat)) := [[[116, 97, 84], [97, 97]]]
theorem s_txA : Str.ofString "ta; t a t^-1 = a^2" = SX.S (txt 0 0 [116, 97] (wsA.map wp)) := by decide +kernel
theorem s_txB : Str.ofString " a " = SX.S (txt 1 1 [97] []) := by decide +kernel
theorem rpA : ∀ r ∈ wsA, Rp [116, 97] 8 r := fun r hr => by
  obtain rfl := List.mem_singleton.mp hr
  exact ⟨[116, 97, 84], [97, 97], rfl, by decide, by decide, by decide, by decide⟩
theorem okA : ∀ r ∈ wsA, okR [116, 97] r = true ∧ Wt r := fun r hr => by
  obtain rfl := List.mem_singleton.mp hr
  exact ⟨by decide, wt_dec (by decide)⟩
theorem tgB : Tg 1 1 [97] [] := ⟨lg_a.lt, lg_good lg_a, ⟨by decide, by decide⟩, (by decide), (fun p hp => nomatch hp), (fun p hp => nomatch hp)⟩
theorem rd_lit {K : PySem.W.Frag} {C CG CU Cl : Addr} {T : List (Addr × Str)} {H : Hp} {i j : Nat} {l : List Nat} {ps : Pts} {z : Str} {Q : VK} {E : XK} (ez : z = SX.S (txt i j l ps)) (tg : Tg i j l ps) (nb : ps.any (tooL l) = false)
    (ok : ∀ (H' : Hp) (rs : Rls), Same H H' → wds rs = ps.map (rdP2 l) → (∀ r ∈ rs, TW H' r) → MkTn C CG CU T H' l rs E (fun x H2 => Q (.ref x) H2)) : spRead K C CG CU Cl T [V.ref C, V.str z] H Q E := by
  subst ez
  exact ⟨i, j, l, ps, rfl, tg, (fun h => by rw [nb] at h; cases h), fun _ => ok⟩
def spLaw (K : PySem.W.Frag) (T : List (Addr × Str)) : Sp := fun vs H Q _ => ∃ (a : Addr) (ns : List Int), vs = [.ref a] ∧ SqL K H a (ns.map V.int) ∧ ns.length ≤ 63 ∧ (∀ p ∈ T, H p.1 = some (.tbl #[])) ∧ ∀ H', Q (.bl true) H'
section
variable {P : Program} {w : World} {K : PySem.W.Frag} {mg : Str → Option Value} {base : Heap}
variable {f c : Addr} {fd : FuncData} {A : Around} {outer : List Env} {s : Shared} {H : Hp} {E : XK}
theorem lbody (L : Lc P w K mg base) (W : Lt2 base mg L.T c qL) (hr : Room 40 (A.deeper (envOfC "law" (defScope sLaw) s.heap.objs.size f (.ref c)))) :
    ∃ t, PSs (XL P w K mg base f c A outer s H E) lb t ∧ ∀ (D : Ends) (H0 : Hp) (a b m : Addr) (y2 y3 y4 y5 y6 y7 y8 y9 y10 y11 y12 y13 y14 y15 : Option V), Zz L.T b m H0 →
      (∀ (H' : Hp) (y3 y4 y5 y6 y7 y8 y9 y10 y11 y12 y13 y14 y15 : Option V), Zz L.T b m H' → D.nx [some (.ref a), some (.ref b), y2, y3, y4, y5, y6, y7, y8, y9, y10, y11, y12, y13, y14, y15] H') → t D [some (.ref a), some (.ref b), y2, y3, y4, y5, y6, y7, y8, y9, y10, y11, y12, y13, y14, y15] H0 := by
  obtain ⟨t0, p0, q0⟩ := st0 (f := f) (outer := outer) (H := H) (E := E) L hr
  obtain ⟨t1, p1, q1⟩ := st1 (f := f) (outer := outer) (H := H) (E := E) L hr
  obtain ⟨t2, p2, q2⟩ := st2 (f := f) (outer := outer) (H := H) (E := E) L hr
  obtain ⟨t3, p3, q3⟩ := st3 (f := f) (outer := outer) (H := H) (E := E) L hr
  obtain ⟨t4, p4, q4⟩ := st4 (f := f) (outer := outer) (H := H) (E := E) L hr
  obtain ⟨t5, p5, q5⟩ := st5 (f := f) (outer := outer) (H := H) (E := E) L hr
  obtain ⟨t6, p6, q6⟩ := st6 (f := f) (outer := outer) (H := H) (E := E) L hr
  obtain ⟨t7, p7, q7⟩ := st7 (f := f) (outer := outer) (H := H) (E := E) L hr
  obtain ⟨t8, p8, q8⟩ := st8 (f := f) (outer := outer) (H := H) (E := E) L hr
  obtain ⟨t9, p9, q9⟩ := st9 (f := f) (outer := outer) (H := H) (E := E) L hr
  obtain ⟨t10, p10, q10⟩ := st10 (f := f) (outer := outer) (H := H) (E := E) L W hr
  obtain ⟨t11, p11, q11⟩ := st11 (f := f) (outer := outer) (H := H) (E := E) L hr
  obtain ⟨t12, p12, q12⟩ := st12 (f := f) (outer := outer) (H := H) (E := E) L hr
  obtain ⟨t13, p13, q13⟩ := st13 (f := f) (outer := outer) (H := H) (E := E) L hr
  rw [lb_is]
  refine ⟨_, pss_cons p0 (pss_cons p1 (pss_cons p2 (pss_cons p3 (pss_cons p4 (pss_cons p5 (pss_cons p6 (pss_cons p7 (pss_cons p8 (pss_cons p9 (pss_cons p10 (pss_cons p11 (pss_cons p12 (pss_one p13))))))))))))), ?_⟩
  intro D H0 a b m y2 y3 y4 y5 y6 y7 y8 y9 y10 y11 y12 y13 y14 y15 z nx
  refine q0 _ H0 a b m _ _ _ _ _ _ _ _ _ _ _ _ _ _ z fun l H1 hl z => ?_
  refine q1 _ H1 a b m l _ _ _ _ _ _ _ _ _ _ _ _ _ z hl fun p rs H1 z sp rp => ?_
  refine q2 _ H1 b m p l rs _ _ _ _ _ _ _ _ _ _ _ _ _ _ hl z sp fun x u H1 z sp tn => ?_
  refine q3 _ H1 p l rs _ _ _ _ _ _ _ _ _ _ _ _ _ _ hl sp rp fun H2 s2 => ?_
  have z := z.same s2
  have sp := sp.same s2
  have tn := tn.same s2
  refine q4 _ H2 b m x u l rs _ _ _ _ _ _ _ _ _ _ _ _ _ hl z tn sp.ru rp fun H3 e3 t3 => ?_
  have z := z.ext e3 t3
  refine q5 _ H3 b m l _ _ _ _ _ _ _ _ _ _ _ _ _ _ hl z fun q xs H4 z lo h4 => ?_
  refine q6 _ H4 b m q l xs _ _ _ _ _ _ _ _ _ _ _ _ _ hl z lo fun i j H5 hi hj z lo => ?_
  obtain ⟨a0, a1, a2, a3, T0, W0, T1, W1, T2, W2, T3, W3, rfl, l0, l1, l2, l3⟩ := lo_row lo h4
  refine q7 _ H5 l q a0 a1 a2 a3 T0 W0 T1 W1 T2 W2 T3 W3 _ _ _ _ _ _ _ _ _ _ _ _ _ _ _ lo fun r rs2 H6 s6 hr2 ew tw => ?_
  have z := z.same s6
  have lo := lo.same s6
  refine q8 _ H6 l q a0 a1 a2 a3 (KA.sp i ++ l ++ KA.sp j) T0 W0 T1 W1 T2 W2 T3 W3 _ _ _ _ _ _ _ _ _ _ _ _ _ _ ?_ hl lo l0 l1 l2 l3 fun z7 H7 s7 => ?_
  · rw [List.length_append, List.length_append, sp_len, sp_len]
    have := hl.2.1
    omega
  rw [txt4]
  have z := z.same s7
  have lo := lo.same s7
  have hr2 := s7 _ _ hr2
  have w4 := wt4 hl l0 l1 l2 l3
  have wt : ∀ y ∈ rs2, Wt y.2 := fun y hy => w4 y.2 (by rw [← ew]; exact List.mem_map.mpr ⟨y, hy, rfl⟩)
  have ln2 : rs2.length = 2 := by
    have e := congrArg List.length ew
    rw [List.length_map] at e
    exact e
  have tw := fun y hy => (tw y hy).same s7
  refine q9 _ H7 r l rs2 _ _ _ _ _ _ _ _ _ _ _ _ _ _ hl hr2 (fun y hy => ⟨tw y hy, (wt y hy).1, fun k hk => ((wt y hy).2 k hk).1⟩) (by omega) fun v H8 s8 bd => ?_
  rw [ew] at bd
  have z := z.same s8
  have lo := lo.same s8
  have hr2 := s8 _ _ hr2
  have tw := fun y hy => (tw y hy).same s8
  refine q10 _ H8 i j l T0 W0 T1 W1 T2 W2 T3 W3 _ _ _ _ _ _ _ _ _ _ _ _ _ _ _ hi hj hl z.tb l0 l1 l2 l3 fun T H9 e9 t9 tl => ?_
  have z := z.ext e9 t9
  have hr2 := e9 _ _ hr2 (fun ps z => nomatch z)
  have tw : ∀ y ∈ rs2, TW H9 y := fun y hy => by
    have z2 : H8 y.1 = some (.tup (y.2.map tx)) := tw y hy
    exact e9 _ _ z2 (fun ps z => nomatch z)
  have lo : Lo l H9 q [(a0, [T0, W0]), (a1, [T1, W1]), (a2, [T2, W2]), (a3, [T3, W3])] := ⟨e9 _ _ lo.lst (fun ps z => nomatch z), fun y hy => ⟨by
    have z2 : H8 y.1 = some (.tup (y.2.map tx)) := (lo.row y hy).1
    exact e9 _ _ z2 (fun ps z => nomatch z), (lo.row y hy).2⟩⟩
  refine q11 _ H9 r l [[W0, W1], [W2, W3]] v _ _ _ _ _ _ _ _ _ _ _ _ _ _ bd fun Te H10 s10 td => ?_
  have z := z.same s10
  have lo := lo.same s10
  refine q12 _ H10 q r Te a0 a1 a2 a3 l T0 W0 T1 W1 T2 W2 T3 W3 _ _ _ _ _ _ _ _ _ _ _ _ _ _ hl lo fun Tf H11 s11 tf => ?_
  have z := z.same s11
  have s12 := s10.trans s11
  have tl1 := tl.same s12
  have tl2 : Tl l H11 Tf (Big4 W0 W1 W2 W3) [[W0, W1], [W2, W3]] := by
    rcases tf with ⟨hb, ht⟩ | ⟨hb, rfl⟩
    · exact .inl ⟨hb, ht⟩
    · rcases td with ⟨g, ht⟩ | ⟨k, hk, ht⟩
      · exact .inr (.inl ⟨hb, g, r, rs2, s11 _ _ ht, s12 _ _ hr2, ew, fun y hy => (tw y hy).same s12⟩)
      · exact .inr (.inr ⟨hb, k, hk, s11 _ _ ht⟩)
  exact q13 _ H11 T Tf l _ _ _ _ _ _ _ _ _ _ _ _ _ _ _ _ tl1 tl2 ⟨(by show 2 ≤ 1000; decide), fun y hy => (w4 y hy).1⟩ fun H12 s13 => nx H12 _ _ _ _ _ _ _ _ _ _ _ _ _ (z.same s13)
theorem ok_law (L : Lc P w K mg base) (W : Lt2 base mg L.T c qL) {oc kV doc pm ct : Value} {od an : Option Addr} {osl : Array (Option Value)}
    (lk : K.lookup f = some ⟨oc, od, .func (PySem.W.fnOf "law" "law" (defArgs sLaw) (defBody sLaw) (defScope sLaw) .none kV doc pm an (.ref c) ct), osl⟩) (hcd : PySem.W.codeIn K (.ref c) "law" = true) :
    FnOk P w K mg base CX0 41 f (PySem.W.fnOf "law" "law" (defArgs sLaw) (defBody sLaw) (defScope sLaw) .none kV doc pm an (.ref c) ct) ["_law_script"] (spLaw K L.T) := by
  refine fn_of lk hcd scLaw (fun vs H Q E h => ?_) (fun A outer s H vs Q E hr h => ?_)
  · obtain ⟨a, ns, rfl, _⟩ := h
    rfl
  · obtain ⟨a, ns, rfl, hS, hl, hP, q⟩ := h
    have r1 : Room 1 (A.deeper (envOfC "law" (defScope sLaw) s.heap.objs.size f (.ref c))) := hr.mono (by decide)
    have r2 : Room 2 (A.deeper (envOfC "law" (defScope sLaw) s.heap.objs.size f (.ref c))) := hr.mono (by decide)
    have r9 : Room 9 (A.deeper (envOfC "law" (defScope sLaw) s.heap.objs.size f (.ref c))) := hr.mono (by decide)
    have r36 : Room 36 (A.deeper (envOfC "law" (defScope sLaw) s.heap.objs.size f (.ref c))) := hr.mono (by decide)
    obtain ⟨tb, PB, RB⟩ := lbody (f := f) (outer := outer) (H := H) (E := E) L W hr
    refine ⟨_, PSs.nox (pss_cons (ps_set (i := 1) scLaw.nd rfl (.inr rfl) (pe_call L.cBeg.ok r1 (by rfl) L.cBeg.g L.cBeg.kp L.cBeg.b .nil pass0 (pa_cons (pv 0) pa_nil)))
      (pss_cons (ps_for PassesOwn.never rfl (pi_range1 (by rfl) L.B.range (pa_cons pe_int pa_nil)) (pg_name (i := 2) scLaw.nd rfl (Or.inl rfl)) PB)
      (pss_one (ps_ret (pe_and (pe_cmpR (Rs.op_eqI L.GE L.EC L.bE pass0 r2) (ClX.pe_cmeth (pe_glob (v := .ref L.C) (by rfl) L.gC rfl) L.rd L.cm (L.GD.raw L.bD .nil) r36 (passN rfl rfl) (pa_cons pe_str pa_nil)) (StX.pe_makeR L.M L.G r9 (by rfl) L.gC (passN rfl rfl) (pa_cons pe_str (pa_cons (pe_tup (pa_cons pe_str (pa_cons pe_str pa_nil))) pa_nil))) (nomark _)) (pe_one (pe_cmpR (Rs.op_eqI L.GE L.EC L.bE pass0 r2) (ClX.pe_cmeth (pe_glob (v := .ref L.C) (by rfl) L.gC rfl) L.rd L.cm (L.GD.raw L.bD .nil) r36 (passN rfl rfl) (pa_cons pe_str pa_nil)) (StX.pe_makeR L.M L.G r9 (by rfl) L.gC (passN rfl rfl) (pa_cons pe_str pa_nil)) (nomark _)))))))), ?_⟩
    refine ⟨_, rfl, a, ns, rfl, hS, hl, fun H1 b m s1 nb bx => ?_⟩
    have tb1 : LamX.Tabs L.T H1 := fun p hp => LamX.TabS.nil (s1 _ _ (hP p hp))
    refine ⟨4, rfl, by decide, by decide, ?_⟩
    refine for_it (walk_range (lo := 0) (n := (4 : Int).toNat)) (fun i σ H2 => ∃ y2 y3 y4 y5 y6 y7 y8 y9 y10 y11 y12 y13 y14 y15 : Option V, σ = [some (.ref a), some (.ref b), y2, y3, y4, y5, y6, y7, y8, y9, y10, y11, y12, y13, y14, y15] ∧ Zz L.T b m H2) ⟨none, none, none, none, none, none, none, none, none, none, none, none, none, none, rfl, bx, tb1⟩ (fun _ _ _ _ _ => trivial) ?_ ?_
    · rintro i x σ H2 H2' hi ⟨y2, y3, y4, y5, y6, y7, y8, y9, y10, y11, y12, y13, y14, y15, rfl, zz⟩ ⟨rfl, rfl⟩
      exact RB _ H2' a b m _ y3 y4 y5 y6 y7 y8 y9 y10 y11 y12 y13 y14 y15 zz fun H' z3 z4 z5 z6 z7 z8 z9 z10 z11 z12 z13 z14 z15 zz' => ⟨_, _, _, _, _, _, _, _, _, _, _, _, _, _, rfl, zz'⟩
    · rintro σ H2 ⟨y2, y3, y4, y5, y6, y7, y8, y9, y10, y11, y12, y13, y14, y15, rfl, zz⟩
      have tb2 := zz.tb
      obtain ⟨tgA, tA1, tA2⟩ := tg_of lg_ta (ws := wsA) (by decide) rpA
      refine ⟨rfl, ?_⟩
      dsimp only [tCons, tC, tNil, List.append_nil]
      refine rd_lit s_txA tgA tA1 fun H3 rs3 s3 ew tw => ?_
      rw [tA2] at ew
      have ru3 : Ru [116, 97] H3 rs3 := ru_of tw ew okA
      have n3 : rs3.length = 1 := by
        have e := congrArg List.length ew
        rw [List.length_map] at e
        exact e
      refine mk_ru lg_ta ru3 (by omega) (tb2.ext s3) fun H4 x u e4 t4 tn => ?_
      refine ⟨(by show 2 ≤ sizeLine; decide), fun p0 n0 => ?_⟩
      have s5 := same_new (o := .tup [V.str (Str.ofString "taT"), V.str (Str.ofString "aa")]) n0
      have r0 : Ru [116, 97] (upd H4 p0 (.tup [V.str (Str.ofString "taT"), V.str (Str.ofString "aa")])) [(p0, [[116, 97, 84], [97, 97]])] := ru_cons (tw2 upd_same s_taT s_aa) (by decide) (wt_dec (by decide)) ru_nil
      refine mk_lit (K := K) (rs := [(p0, [[116, 97, 84], [97, 97]])]) s_ta (mk_ru lg_ta r0 (by show 1 ≤ 6; decide) (t4.ext s5) fun H5 y v e5 t5 un => ?_)
      have tn2 := (tn.same s5).ext e5
      obtain ⟨d1, w1, hx1⟩ := tn2.ins
      obtain ⟨d2, w2, hx2⟩ := un.ins
      refine ⟨x, y, d1, d2, _, _, true, rfl, rfl, hx1, hx2, ⟨u, _, _, tn2, .inl ⟨y, v, _, _, rfl, un, by rw [decide_eq_true rfl, decide_eq_true (show wds rs3 = wds [(p0, [[116, 97, 84], [97, 97]])] from ew)]; rfl⟩⟩, fun H6 s6 => ⟨true, rfl, iteT ?_⟩⟩
      refine ⟨rfl, ?_⟩
      dsimp only [tCons, tC, tNil, List.append_nil]
      refine rd_lit s_txB tgB rfl fun H7 rs7 s7 ew7 tw7 => ?_
      obtain rfl : rs7 = [] := List.map_eq_nil_iff.mp ew7
      refine mk_ru lg_a ru_nil (by decide) ((t5.ext s6).ext s7) fun H8 x8 u8 e8 t8 tn8 => ?_
      refine mk_lit (K := K) (rs := []) s_a (mk_ru lg_a ru_nil (by decide) t8 fun H9 x9 u9 e9 t9 tn9 => ?_)
      have tn8' := tn8.ext e9
      obtain ⟨d8, w8, hx8⟩ := tn8'.ins
      obtain ⟨d9, w9, hx9⟩ := tn9.ins
      exact ⟨x8, x9, d8, d9, _, _, true, rfl, rfl, hx8, hx9, ⟨u8, _, _, tn8', .inl ⟨x9, u9, _, _, rfl, tn9, rfl⟩⟩, fun H' _ => q H'⟩
end
end K15
set_option maxRecDepth 100000
set_option maxHeartbeats 0
namespace K15
open PySem PySem.Spec PyProof.Rows L2 KA
theorem oexB_ok {K : PySem.W.Frag} {C : Addr} (h : oexB K C = true) : OexC K C := by
  obtain ⟨h0, h⟩ := He.ba h
  obtain ⟨h1, h⟩ := He.ba h
  obtain ⟨h2, h⟩ := He.ba h
  obtain ⟨h3, h4⟩ := He.ba h
  refine ⟨?_, of_decide_eq_true h1, of_decide_eq_true h2, of_decide_eq_true h3, h4⟩
  cases q : K.lookup C with
  | none =>
    rw [q] at h0
    cases h0
  | some o =>
    obtain ⟨oc, od, dt, osl⟩ := o
    rw [q] at h0
    cases oc with
    | type t =>
      cases dt with
      | cls cd =>
        obtain ⟨nm, bs, mro, ns, qn, hd, sn, sb, ab, col, del⟩ := cd
        obtain ⟨e1, h5⟩ := He.ba h0
        obtain rfl : t = "type" := of_decide_eq_true e1
        dsimp only at h5
        split at h5
        · rename_i C' bm x0 x1 x2 x3 n x5 es
          obtain ⟨g1, g⟩ := He.ba h5
          obtain ⟨g2, g⟩ := He.ba g
          obtain ⟨g3, g⟩ := He.ba g
          obtain ⟨g4, g5⟩ := He.ba g
          obtain rfl : C' = C := of_decide_eq_true g1
          obtain rfl : n = "ValueError.__new__" := of_decide_eq_true g2
          have g3' : del = false := by simpa using g3
          subst g3'
          subst g4
          have es' : osl = #[x0, x1, x2, x3, some (.builtin "ValueError.__new__"), x5] := by
            apply Array.toList_inj.mp
            rw [es]
          subst es'
          exact ⟨_, _, _, _, _, _, _, _, _, _, _, _, _, _, _, rfl, g5⟩
        · cases h5
      | _ => cases h0
    | _ => cases dt <;> cases h0
theorem erB_ok {K : PySem.W.Frag} {mg : Str → Option Value} {C : Addr} {nm fl : Str} (h : erB K C fl = true) (g : mg nm = some (.ref C)) : ErC K mg nm fl C (He.ma K C "__init__") ∧ XfC K C := by
  obtain ⟨e3, e4⟩ := He.ba h
  obtain ⟨e5, e6⟩ := He.ba e4
  obtain ⟨e7, e8⟩ := He.ba e6
  obtain ⟨e9, e10⟩ := He.ba e8
  obtain ⟨e11, e12⟩ := He.ba e10
  exact ⟨⟨oexB_ok e3, g, of_decide_eq_true e7, of_decide_eq_true e9, of_decide_eq_true e11, of_decide_eq_true e12⟩, xfB_ok e5⟩
theorem cval_ok {K : PySem.W.Frag} {C : Addr} (h : cvalB K C = true) : ∃ u, ClX.CVal K C (.type "type") "MOST" (.int 6) u := by
  unfold cvalB at h
  split at h
  · rename_i u e
    exact ⟨u, e, He.relB_ok h⟩
  · cases h
theorem exK_at {K : PySem.W.Frag} (h : exK K = true) (i : Nat) {b : Bool} (e : (exL K)[i]? = some b) : b = true := List.all_eq_true.mp h b (List.mem_of_getElem? e)
theorem eqCls {K : PySem.W.Frag} (h : exK K = true) : Rs.EqCls K (tA K) (eqA K) :=
  ⟨He.eqO_ok (exK_at h 0 rfl), exK_at h 1 rfl, He.eqO_ok (exK_at h 2 rfl), of_decide_eq_true (exK_at h 3 rfl), of_decide_eq_true (exK_at h 4 rfl), of_decide_eq_true (exK_at h 5 rfl), of_decide_eq_true (exK_at h 6 rfl), of_decide_eq_true (exK_at h 7 rfl), of_decide_eq_true (exK_at h 8 rfl)⟩
theorem iCls {K : PySem.W.Frag} (h : exK K = true) : ICl K (tA K) :=
  ⟨He.eqO_ok (exK_at h 9 rfl), He.eqO_ok (exK_at h 10 rfl), of_decide_eq_true (exK_at h 11 rfl), of_decide_eq_true (exK_at h 3 rfl), of_decide_eq_true (exK_at h 12 rfl), of_decide_eq_true (exK_at h 13 rfl), of_decide_eq_true (exK_at h 14 rfl), of_decide_eq_true (exK_at h 15 rfl), of_decide_eq_true (exK_at h 16 rfl)⟩
end K15
set_option maxRecDepth 100000
set_option maxHeartbeats 4000000
namespace K15
open PySem PySem.Spec PyProof.Rows L2
theorem vals_nil {ds : List Value} (h : Vals [] ds) : ds = [] := by
  cases h
  rfl
theorem ini_b {K : PySem.W.Frag} {f : Addr} {fd : FuncData} {x : V} (F : FunD K "__init__" "Table.__init__" (defArgs KT.sInit) (defBody KT.sInit) (defScope KT.sInit) [x] [] f fd) : Binds K fd ["self", "width", "rows"] [] := by
  obtain ⟨ds, v, b⟩ := F.binds1 (ps := ["self", "width", "rows"]) 3 1 (List.cons_ne_nil _ _) rfl fun T kV doc pm an cdv ct us its h1 h2 => match us, its, h1, h2 with
    | [_, _, _], [_], _, _ => ⟨_, rfl, rfl⟩
  rw [← vals_nil v]
  exact b
theorem kb_two {K : PySem.W.Frag} {f : Addr} {fd : FuncData} {n q y0 y : Str} {st : Stmt} (F : Fun K n q st f fd) (h : ∀ (kV doc pm cdv ct : Value) (an : Option Addr) (x z : Value), bindArgs (PySem.W.fnOf n q (defArgs st) (defBody st) (defScope st) .none kV doc pm an cdv ct) ⟨[x], [(y, z)]⟩ = pure [(y0, x), (y, z)]) : KBinds K fd [y0, y] [y] Rs.two Rs.two := by
  obtain ⟨oc, od, kV, doc, pm, an, cdv, ct, osl, rfl, lk, hcd⟩ := F.ex
  refine ⟨fun s us ws _ hl => ?_, Rs.two_rel⟩
  match us, ws, hl with
  | [x], [z], _ => exact .of_eq (h kV doc pm cdv ct an x z)
  | [], _, hl => cases hl
  | [_], [], hl => cases hl
  | [_], _ :: _ :: _, hl => cases hl
  | _ :: _ :: _, _, hl => cases hl
theorem fun_ofD {K : PySem.W.Frag} {x q : Str} {st : Stmt} {f : Addr} {fd : FuncData} (F : FunD K x q (defArgs st) (defBody st) (defScope st) [] [] f fd) : Fun K x q st f fd := by
  obtain ⟨⟨oc, od, dV, kV, doc, pm, an, cdv, ct, osl, e, lk, hcd, hd, _⟩, kp⟩ := F
  obtain rfl : dV = .none := by
    rcases hd with ⟨_, e2⟩ | ⟨e2, _⟩
    · exact e2
    · exact absurd rfl e2
  exact ⟨⟨oc, od, kV, doc, pm, an, cdv, ct, osl, e, lk, hcd⟩, kp⟩
theorem facts {w : World} {K : PySem.W.Frag} {h : Heap} {mg : Str → Option Value} {fl : Addr} (X : K.In h) (G : h.Ns mainGlobals mg) (hfa : mg ("law" : Str) = some (.ref fl)) (c : He.SaysX fa fn [] tf exK w h K) (dR : He5.fnA K (dRead.at_ K) = dRead.val) :
    LamX.LawAtS PySem.Challenge.rw_roundswap_k15_texts_of_towns w K CX0 41 63 "_law_script" mg fl h := by
  have cD := c.t.d
  have g : ∀ x ∈ gl, mg x = some (.ref (He.ga K x)) := fun x hx => He.glo_ok X G (cD.facts (List.mem_append_left _ (List.mem_map.mpr ⟨x, hx, rfl⟩)))
  have fz : ∀ x ∈ fr, mg x = none := fun x hx => He.free_ok X G (cD.facts (List.mem_append_right _ (List.mem_append_left _ (List.mem_map.mpr ⟨x, hx, rfl⟩))))
  have fo_ : ∀ (i : Nat) {u : He.Fa}, fo[i]? = some u → u.ok K = true := fun i u hu => cD.facts (List.mem_append_right _ (List.mem_append_right _ (List.mem_of_getElem? hu)))
  obtain ⟨tk, mW⟩ := He.int_ok X G (x := "WIDEST") (i := 3) (fo_ 0 rfl)
  obtain ⟨tk6, m16⟩ := He.int_ok X G (x := "LONGEST_SIDE") (i := 16) (fo_ 6 rfl)
  have B : KA.Bn mg := ⟨fz _ (by decide), fz _ (by decide), fz _ (by decide), fz _ (by decide), fz _ (by decide), fz _ (by decide), fz _ (by decide), fz _ (by decide), fz _ (by decide), fz _ (by decide), fz _ (by decide)⟩
  have B4 : KT.Bn mg := ⟨fz _ (by decide), fz _ (by decide), fz _ (by decide), fz _ (by decide), fz _ (by decide), fz _ (by decide), fz _ (by decide)⟩
  have Bz : KT.Bz mg := ⟨B4, fz _ (by decide), fz _ (by decide), fz _ (by decide), fz _ (by decide), fz _ (by decide), fz _ (by decide), fz _ (by decide), fz _ (by decide)⟩
  have xk := c.more
  have TC4 : KT.TCls K (He.ga K "Table") := ⟨He.cls_ok (fo_ 1 rfl), He.noat_ok (fo_ 2 rfl), He.noat_ok (fo_ 3 rfl), He.noat_ok (fo_ 4 rfl)⟩
  have MT := He.mkr_ok (x := "Table") (fo_ 5 rfl)
  have TC : TwC K (tA K) := ⟨He.cls_ok (fo_ 7 rfl), He.noat_ok (fo_ 8 rfl), He.noat_ok (fo_ 9 rfl), He.noat_ok (fo_ 10 rfl)⟩
  have MR := He.meth_ok (x := "Town") (m := "rules") (fo_ 11 rfl)
  have MWr := He.meth_ok (x := "Town") (m := "with_rules") (fo_ 12 rfl)
  have M := He.mkr_ok (x := "Town") (fo_ 13 rfl)
  have MTt := He.meth_ok (x := "Town") (m := "text") (fo_ 14 rfl)
  obtain ⟨tL, mL⟩ := He.int_ok X G (x := "LONGEST") (i := 400) (fo_ 15 rfl)
  obtain ⟨tD, mD⟩ := He.int_ok X G (x := "DEEPEST") (i := 6) (fo_ 16 rfl)
  have hLL := He.exm_ok (fo_ 17 rfl)
  have hPL := He.exm_ok (fo_ 18 rfl)
  have gT : mg "Table" = some (.ref (He.ga K "Table")) := g _ (by decide)
  have gC : mg "Town" = some (.ref (tA K)) := g _ (by decide)
  obtain ⟨E1, X1⟩ := erB_ok (mg := mg) (nm := "InvalidLetters") (exK_at xk 17 rfl) (g _ (by decide))
  obtain ⟨E2, X2⟩ := erB_ok (mg := mg) (nm := "InvalidRule") (exK_at xk 18 rfl) (g _ (by decide))
  obtain ⟨E3, X3⟩ := erB_ok (mg := mg) (nm := "ParseError") (exK_at xk 19 rfl) (g _ (by decide))
  obtain ⟨E4, X4⟩ := erB_ok (mg := mg) (nm := "TooLong") (exK_at xk 20 rfl) (g _ (by decide))
  have hx1 := of_decide_eq_true (exK_at xk 21 rfl)
  have hx2 := of_decide_eq_true (exK_at xk 22 rfl)
  obtain ⟨wr1, wr2⟩ := He.ba (exK_at xk 23 rfl)
  obtain ⟨wr2, wr3⟩ := He.ba wr2
  have cm := He5.cmet_of wr1 wr2
  obtain ⟨dRd, FRd0⟩ := He5.DefA.funD (d := dRead) dR wr3
  have FRd : Fun K "read" "Town.read" sRead (dRead.at_ K) dRd := fun_ofD FRd0
  have bRd : Binds K dRd ["cls", "text"] [] := FRd.binds fun _ _ _ _ _ _ us hl => match us, hl with | [_, _], _ => rfl
  have kRd : KBinds K dRd ["cls", "text"] ["text"] Rs.two Rs.two := kb_two FRd fun _ _ _ _ _ _ _ _ => rfl
  have rd : ClX.CRead K (tA K) (.type "type") := ⟨exK_at xk 24 rfl, He.eqO_ok (exK_at xk 25 rfl)⟩
  obtain ⟨u6, m6⟩ := cval_ok (exK_at xk 26 rfl)
  have dn01 := of_decide_eq_true (exK_at xk 27 rfl)
  obtain ⟨d0, F0'⟩ := cD.def_ 0 (d := dD "is_number" KT.sNum) rfl
  have F0 : Fun K "is_number" "is_number" KT.sNum (He.ga K "is_number") d0 := fun_ofD F0'
  have b0 : Binds K d0 ["value"] [] := F0.binds fun _ _ _ _ _ _ us hl => match us, hl with | [_], _ => rfl
  have g0 : mg "is_number" = some (.ref (He.ga K "is_number")) := g _ (by decide)
  obtain ⟨d1, F1'⟩ := cD.def_ 1 (d := dD "is_number_from" KT.sNumF) rfl
  have F1 : Fun K "is_number_from" "is_number_from" KT.sNumF (He.ga K "is_number_from") d1 := fun_ofD F1'
  have b1 : Binds K d1 ["value", "low", "high"] [] := F1.binds fun _ _ _ _ _ _ us hl => match us, hl with | [_, _, _], _ => rfl
  have g1 : mg "is_number_from" = some (.ref (He.ga K "is_number_from")) := g _ (by decide)
  obtain ⟨d2, F2'⟩ := cD.def_ 2 (d := dD "is_number_tuple" KT.sNumT) rfl
  have F2 : Fun K "is_number_tuple" "is_number_tuple" KT.sNumT (He.ga K "is_number_tuple") d2 := fun_ofD F2'
  have b2 : Binds K d2 ["value", "width"] [] := F2.binds fun _ _ _ _ _ _ us hl => match us, hl with | [_, _], _ => rfl
  have g2 : mg "is_number_tuple" = some (.ref (He.ga K "is_number_tuple")) := g _ (by decide)
  obtain ⟨d3, F3'⟩ := cD.def_ 3 (d := dD "normal_rows" KT.sNormal) rfl
  have F3 : Fun K "normal_rows" "normal_rows" KT.sNormal (He.ga K "normal_rows") d3 := fun_ofD F3'
  have b3 : Binds K d3 ["rows", "width"] [] := F3.binds fun _ _ _ _ _ _ us hl => match us, hl with | [_, _], _ => rfl
  have g3 : mg "normal_rows" = some (.ref (He.ga K "normal_rows")) := g _ (by decide)
  obtain ⟨d4, F4'⟩ := cD.def_ 4 (d := dD "swept" KT.sSwept) rfl
  have F4 : Fun K "swept" "swept" KT.sSwept (He.ga K "swept") d4 := fun_ofD F4'
  have b4 : Binds K d4 ["rows", "at"] [] := F4.binds fun _ _ _ _ _ _ us hl => match us, hl with | [_, _], _ => rfl
  have g4 : mg "swept" = some (.ref (He.ga K "swept")) := g _ (by decide)
  obtain ⟨d5, F5'⟩ := cD.def_ 5 (d := dD "with_positive" KT.sPositive) rfl
  have F5 : Fun K "with_positive" "with_positive" KT.sPositive (He.ga K "with_positive") d5 := fun_ofD F5'
  have b5 : Binds K d5 ["row", "at"] [] := F5.binds fun _ _ _ _ _ _ us hl => match us, hl with | [_, _], _ => rfl
  have g5 : mg "with_positive" = some (.ref (He.ga K "with_positive")) := g _ (by decide)
  obtain ⟨d6, F6'⟩ := cD.def_ 6 (d := dD "less" KT.sLess) rfl
  have F6 : Fun K "less" "less" KT.sLess (He.ga K "less") d6 := fun_ofD F6'
  have b6 : Binds K d6 ["row", "other", "times"] [] := F6.binds fun _ _ _ _ _ _ us hl => match us, hl with | [_, _, _], _ => rfl
  have g6 : mg "less" = some (.ref (He.ga K "less")) := g _ (by decide)
  obtain ⟨d7, F7'⟩ := cD.def_ 7 (d := dD "lead_at" KT.sLead) rfl
  have F7 : Fun K "lead_at" "lead_at" KT.sLead (He.ga K "lead_at") d7 := fun_ofD F7'
  have b7 : Binds K d7 ["row"] [] := F7.binds fun _ _ _ _ _ _ us hl => match us, hl with | [_], _ => rfl
  have g7 : mg "lead_at" = some (.ref (He.ga K "lead_at")) := g _ (by decide)
  obtain ⟨d8, F8'⟩ := cD.def_ 8 (d := dD "diagonal_of" KT.sDiag) rfl
  have F8 : Fun K "diagonal_of" "diagonal_of" KT.sDiag (He.ga K "diagonal_of") d8 := fun_ofD F8'
  have b8 : Binds K d8 ["rows"] [] := F8.binds fun _ _ _ _ _ _ us hl => match us, hl with | [_], _ => rfl
  have g8 : mg "diagonal_of" = some (.ref (He.ga K "diagonal_of")) := g _ (by decide)
  obtain ⟨d9, F9'⟩ := cD.def_ 9 (d := dD "index_of" KT.sIndex) rfl
  have F9 : Fun K "index_of" "index_of" KT.sIndex (He.ga K "index_of") d9 := fun_ofD F9'
  have b9 : Binds K d9 ["rows", "width"] [] := F9.binds fun _ _ _ _ _ _ us hl => match us, hl with | [_, _], _ => rfl
  have g9 : mg "index_of" = some (.ref (He.ga K "index_of")) := g _ (by decide)
  obtain ⟨d10, F10'⟩ := cD.def_ 10 (d := dD "signs_of" KA.sSignsOf) rfl
  have F10 : Fun K "signs_of" "signs_of" KA.sSignsOf (He.ga K "signs_of") d10 := fun_ofD F10'
  have b10 : Binds K d10 ["letters"] [] := F10.binds fun _ _ _ _ _ _ us hl => match us, hl with | [_], _ => rfl
  have g10 : mg "signs_of" = some (.ref (He.ga K "signs_of")) := g _ (by decide)
  obtain ⟨d11, F11'⟩ := cD.def_ 11 (d := dD "is_word" KA.sIsWord) rfl
  have F11 : Fun K "is_word" "is_word" KA.sIsWord (He.ga K "is_word") d11 := fun_ofD F11'
  have b11 : Binds K d11 ["word", "letters"] [] := F11.binds fun _ _ _ _ _ _ us hl => match us, hl with | [_, _], _ => rfl
  have g11 : mg "is_word" = some (.ref (He.ga K "is_word")) := g _ (by decide)
  obtain ⟨d12, F12'⟩ := cD.def_ 12 (d := dD "counts_of" KA.sCountsOf) rfl
  have F12 : Fun K "counts_of" "counts_of" KA.sCountsOf (He.ga K "counts_of") d12 := fun_ofD F12'
  have b12 : Binds K d12 ["word", "letters"] [] := F12.binds fun _ _ _ _ _ _ us hl => match us, hl with | [_, _], _ => rfl
  have g12 : mg "counts_of" = some (.ref (He.ga K "counts_of")) := g _ (by decide)
  obtain ⟨d13, F13'⟩ := cD.def_ 13 (d := dD "is_side" sSide) rfl
  have F13 : Fun K "is_side" "is_side" sSide (He.ga K "is_side") d13 := fun_ofD F13'
  have b13 : Binds K d13 ["word", "letters"] [] := F13.binds fun _ _ _ _ _ _ us hl => match us, hl with | [_, _], _ => rfl
  have g13 : mg "is_side" = some (.ref (He.ga K "is_side")) := g _ (by decide)
  obtain ⟨d14, F14'⟩ := cD.def_ 14 (d := dD "is_rule" sRule) rfl
  have F14 : Fun K "is_rule" "is_rule" sRule (He.ga K "is_rule") d14 := fun_ofD F14'
  have b14 : Binds K d14 ["rule", "letters"] [] := F14.binds fun _ _ _ _ _ _ us hl => match us, hl with | [_, _], _ => rfl
  have g14 : mg "is_rule" = some (.ref (He.ga K "is_rule")) := g _ (by decide)
  obtain ⟨d15, F15'⟩ := cD.def_ 15 (d := dD "difference" sDiff) rfl
  have F15 : Fun K "difference" "difference" sDiff (He.ga K "difference") d15 := fun_ofD F15'
  have b15 : Binds K d15 ["rule", "letters"] [] := F15.binds fun _ _ _ _ _ _ us hl => match us, hl with | [_, _], _ => rfl
  have g15 : mg "difference" = some (.ref (He.ga K "difference")) := g _ (by decide)
  obtain ⟨d16, F16'⟩ := cD.def_ 16 (d := dD "check_letters" sChkL) rfl
  have F16 : Fun K "check_letters" "check_letters" sChkL (He.ga K "check_letters") d16 := fun_ofD F16'
  have b16 : Binds K d16 ["letters"] [] := F16.binds fun _ _ _ _ _ _ us hl => match us, hl with | [_], _ => rfl
  have g16 : mg "check_letters" = some (.ref (He.ga K "check_letters")) := g _ (by decide)
  obtain ⟨d17, F17'⟩ := cD.def_ 17 (d := dD "_law_begin" KA.sBegin) rfl
  have F17 : Fun K "_law_begin" "_law_begin" KA.sBegin (He.ga K "_law_begin") d17 := fun_ofD F17'
  have b17 : Binds K d17 ["_law_script"] [] := F17.binds fun _ _ _ _ _ _ us hl => match us, hl with | [_], _ => rfl
  have g17 : mg "_law_begin" = some (.ref (He.ga K "_law_begin")) := g _ (by decide)
  obtain ⟨d18, F18'⟩ := cD.def_ 18 (d := dD "_law_draw" KA.sDraw) rfl
  have F18 : Fun K "_law_draw" "_law_draw" KA.sDraw (He.ga K "_law_draw") d18 := fun_ofD F18'
  have b18 : Binds K d18 ["_law_box", "_law_many"] [] := F18.binds fun _ _ _ _ _ _ us hl => match us, hl with | [_, _], _ => rfl
  have g18 : mg "_law_draw" = some (.ref (He.ga K "_law_draw")) := g _ (by decide)
  obtain ⟨d19, F19'⟩ := cD.def_ 19 (d := dD "_law_any" KA.sAny) rfl
  have F19 : Fun K "_law_any" "_law_any" KA.sAny (He.ga K "_law_any") d19 := fun_ofD F19'
  have b19 : Binds K d19 ["_law_box", "_law_some"] [] := F19.binds fun _ _ _ _ _ _ us hl => match us, hl with | [_, _], _ => rfl
  have g19 : mg "_law_any" = some (.ref (He.ga K "_law_any")) := g _ (by decide)
  obtain ⟨d20, F20'⟩ := cD.def_ 20 (d := dD "_law_same" KA.sSame) rfl
  have F20 : Fun K "_law_same" "_law_same" KA.sSame (He.ga K "_law_same") d20 := fun_ofD F20'
  have b20 : Binds K d20 ["_law_found", "_law_due"] [] := F20.binds fun _ _ _ _ _ _ us hl => match us, hl with | [_, _], _ => rfl
  have g20 : mg "_law_same" = some (.ref (He.ga K "_law_same")) := g _ (by decide)
  obtain ⟨d21, F21'⟩ := cD.def_ 21 (d := dD "_law_field" KA.sField) rfl
  have F21 : Fun K "_law_field" "_law_field" KA.sField (He.ga K "_law_field") d21 := fun_ofD F21'
  have b21 : Binds K d21 ["_law_e"] [] := F21.binds fun _ _ _ _ _ _ us hl => match us, hl with | [_], _ => rfl
  have g21 : mg "_law_field" = some (.ref (He.ga K "_law_field")) := g _ (by decide)
  obtain ⟨d22, F22'⟩ := cD.def_ 22 (d := dD "_law_why" KA.sWhy) rfl
  have F22 : Fun K "_law_why" "_law_why" KA.sWhy (He.ga K "_law_why") d22 := fun_ofD F22'
  have b22 : Binds K d22 ["_law_ask"] [] := F22.binds fun _ _ _ _ _ _ us hl => match us, hl with | [_], _ => rfl
  have g22 : mg "_law_why" = some (.ref (He.ga K "_law_why")) := g _ (by decide)
  obtain ⟨d23, F23'⟩ := cD.def_ 23 (d := dD "_law_letters" KA.sLetters) rfl
  have F23 : Fun K "_law_letters" "_law_letters" KA.sLetters (He.ga K "_law_letters") d23 := fun_ofD F23'
  have b23 : Binds K d23 ["_law_box", "_law_many"] [] := F23.binds fun _ _ _ _ _ _ us hl => match us, hl with | [_, _], _ => rfl
  have g23 : mg "_law_letters" = some (.ref (He.ga K "_law_letters")) := g _ (by decide)
  obtain ⟨d24, F24'⟩ := cD.def_ 24 (d := dD "_law_signs" KA.sSigns) rfl
  have F24 : Fun K "_law_signs" "_law_signs" KA.sSigns (He.ga K "_law_signs") d24 := fun_ofD F24'
  have b24 : Binds K d24 ["_law_letters_here"] [] := F24.binds fun _ _ _ _ _ _ us hl => match us, hl with | [_], _ => rfl
  have g24 : mg "_law_signs" = some (.ref (He.ga K "_law_signs")) := g _ (by decide)
  obtain ⟨d25, F25'⟩ := cD.def_ 25 (d := dD "_law_some_word" KA.sSome) rfl
  have F25 : Fun K "_law_some_word" "_law_some_word" KA.sSome (He.ga K "_law_some_word") d25 := fun_ofD F25'
  have b25 : Binds K d25 ["_law_box", "_law_letters_here", "_law_most"] [] := F25.binds fun _ _ _ _ _ _ us hl => match us, hl with | [_, _, _], _ => rfl
  have g25 : mg "_law_some_word" = some (.ref (He.ga K "_law_some_word")) := g _ (by decide)
  obtain ⟨d26, F26'⟩ := cD.def_ 26 (d := dD "_law_side" sLSide) rfl
  have F26 : Fun K "_law_side" "_law_side" sLSide (He.ga K "_law_side") d26 := fun_ofD F26'
  have b26 : Binds K d26 ["_law_box", "_law_letters_here", "_law_most"] [] := F26.binds fun _ _ _ _ _ _ us hl => match us, hl with | [_, _, _], _ => rfl
  have g26 : mg "_law_side" = some (.ref (He.ga K "_law_side")) := g _ (by decide)
  obtain ⟨d27, F27'⟩ := cD.def_ 27 (d := dD "_law_some_rules" sSr) rfl
  have F27 : Fun K "_law_some_rules" "_law_some_rules" sSr (He.ga K "_law_some_rules") d27 := fun_ofD F27'
  have b27 : Binds K d27 ["_law_box", "_law_letters_here", "_law_many", "_law_most"] [] := F27.binds fun _ _ _ _ _ _ us hl => match us, hl with | [_, _, _, _], _ => rfl
  have g27 : mg "_law_some_rules" = some (.ref (He.ga K "_law_some_rules")) := g _ (by decide)
  obtain ⟨d28, F28'⟩ := cD.def_ 28 (d := dD "_law_town" sTown) rfl
  have F28 : Fun K "_law_town" "_law_town" sTown (He.ga K "_law_town") d28 := fun_ofD F28'
  have b28 : Binds K d28 ["_law_letters_here", "_law_rules_now"] [] := F28.binds fun _ _ _ _ _ _ us hl => match us, hl with | [_, _], _ => rfl
  have g28 : mg "_law_town" = some (.ref (He.ga K "_law_town")) := g _ (by decide)
  obtain ⟨d29, F29'⟩ := cD.def_ 29 (d := dD "_law_is_side" sLIs) rfl
  have F29 : Fun K "_law_is_side" "_law_is_side" sLIs (He.ga K "_law_is_side") d29 := fun_ofD F29'
  have b29 : Binds K d29 ["_law_one", "_law_letters_here"] [] := F29.binds fun _ _ _ _ _ _ us hl => match us, hl with | [_, _], _ => rfl
  have g29 : mg "_law_is_side" = some (.ref (He.ga K "_law_is_side")) := g _ (by decide)
  obtain ⟨d30, F30'⟩ := cD.def_ 30 (d := dD "_law_bad_rule" sBad) rfl
  have F30 : Fun K "_law_bad_rule" "_law_bad_rule" sBad (He.ga K "_law_bad_rule") d30 := fun_ofD F30'
  have b30 : Binds K d30 ["_law_rules_now", "_law_letters_here"] [] := F30.binds fun _ _ _ _ _ _ us hl => match us, hl with | [_, _], _ => rfl
  have g30 : mg "_law_bad_rule" = some (.ref (He.ga K "_law_bad_rule")) := g _ (by decide)
  obtain ⟨d31, F31'⟩ := cD.def_ 31 (d := dD "opposite" KA.sOpp) rfl
  have F31 : Fun K "opposite" "opposite" KA.sOpp (He.ga K "opposite") d31 := fun_ofD F31'
  have b31 : Binds K d31 ["word"] [] := F31.binds fun _ _ _ _ _ _ us hl => match us, hl with | [_], _ => rfl
  have g31 : mg "opposite" = some (.ref (He.ga K "opposite")) := g _ (by decide)
  obtain ⟨d32, F32'⟩ := cD.def_ 32 (d := dD "read_word" KA.sRWord) rfl
  have F32 : Fun K "read_word" "read_word" KA.sRWord (He.ga K "read_word") d32 := fun_ofD F32'
  have b32 : Binds K d32 ["text", "letters"] [] := F32.binds fun _ _ _ _ _ _ us hl => match us, hl with | [_, _], _ => rfl
  have g32 : mg "read_word" = some (.ref (He.ga K "read_word")) := g _ (by decide)
  obtain ⟨d33, F33'⟩ := cD.def_ 33 (d := dD "read_phrase" KA.sRPhrase) rfl
  have F33 : Fun K "read_phrase" "read_phrase" KA.sRPhrase (He.ga K "read_phrase") d33 := fun_ofD F33'
  have b33 : Binds K d33 ["text", "signs", "at", "depth"] [] := F33.binds fun _ _ _ _ _ _ us hl => match us, hl with | [_, _, _, _], _ => rfl
  have g33 : mg "read_phrase" = some (.ref (He.ga K "read_phrase")) := g _ (by decide)
  obtain ⟨d34, F34'⟩ := cD.def_ 34 (d := dD "read_factor" KA.sRFactor) rfl
  have F34 : Fun K "read_factor" "read_factor" KA.sRFactor (He.ga K "read_factor") d34 := fun_ofD F34'
  have b34 : Binds K d34 ["text", "signs", "at", "depth"] [] := F34.binds fun _ _ _ _ _ _ us hl => match us, hl with | [_, _, _, _], _ => rfl
  have g34 : mg "read_factor" = some (.ref (He.ga K "read_factor")) := g _ (by decide)
  obtain ⟨d35, F35'⟩ := cD.def_ 35 (d := dD "read_atom" KA.sRAtom) rfl
  have F35 : Fun K "read_atom" "read_atom" KA.sRAtom (He.ga K "read_atom") d35 := fun_ofD F35'
  have b35 : Binds K d35 ["text", "signs", "at", "depth"] [] := F35.binds fun _ _ _ _ _ _ us hl => match us, hl with | [_, _, _, _], _ => rfl
  have g35 : mg "read_atom" = some (.ref (He.ga K "read_atom")) := g _ (by decide)
  obtain ⟨d36, F36'⟩ := cD.def_ 36 (d := dD "read_group" KA.sRGroup) rfl
  have F36 : Fun K "read_group" "read_group" KA.sRGroup (He.ga K "read_group") d36 := fun_ofD F36'
  have b36 : Binds K d36 ["text", "signs", "at", "depth"] [] := F36.binds fun _ _ _ _ _ _ us hl => match us, hl with | [_, _, _, _], _ => rfl
  have g36 : mg "read_group" = some (.ref (He.ga K "read_group")) := g _ (by decide)
  obtain ⟨d37, F37'⟩ := cD.def_ 37 (d := dD "read_pair" KA.sRPair) rfl
  have F37 : Fun K "read_pair" "read_pair" KA.sRPair (He.ga K "read_pair") d37 := fun_ofD F37'
  have b37 : Binds K d37 ["text", "signs", "at", "depth"] [] := F37.binds fun _ _ _ _ _ _ us hl => match us, hl with | [_, _, _, _], _ => rfl
  have g37 : mg "read_pair" = some (.ref (He.ga K "read_pair")) := g _ (by decide)
  obtain ⟨d38, F38'⟩ := cD.def_ 38 (d := dD "read_exponent" KA.sRExp) rfl
  have F38 : Fun K "read_exponent" "read_exponent" KA.sRExp (He.ga K "read_exponent") d38 := fun_ofD F38'
  have b38 : Binds K d38 ["text", "at"] [] := F38.binds fun _ _ _ _ _ _ us hl => match us, hl with | [_, _], _ => rfl
  have g38 : mg "read_exponent" = some (.ref (He.ga K "read_exponent")) := g _ (by decide)
  obtain ⟨d39, F39'⟩ := cD.def_ 39 (d := dD "begins_atom" KA.sBegins) rfl
  have F39 : Fun K "begins_atom" "begins_atom" KA.sBegins (He.ga K "begins_atom") d39 := fun_ofD F39'
  have b39 : Binds K d39 ["text", "signs", "at", "depth"] [] := F39.binds fun _ _ _ _ _ _ us hl => match us, hl with | [_, _, _, _], _ => rfl
  have g39 : mg "begins_atom" = some (.ref (He.ga K "begins_atom")) := g _ (by decide)
  obtain ⟨d40, F40'⟩ := cD.def_ 40 (d := dD "mark_at" KA.sMark) rfl
  have F40 : Fun K "mark_at" "mark_at" KA.sMark (He.ga K "mark_at") d40 := fun_ofD F40'
  have b40 : Binds K d40 ["text", "at"] [] := F40.binds fun _ _ _ _ _ _ us hl => match us, hl with | [_, _], _ => rfl
  have g40 : mg "mark_at" = some (.ref (He.ga K "mark_at")) := g _ (by decide)
  obtain ⟨d41, F41'⟩ := cD.def_ 41 (d := dD "behind_spaces" KA.sSpaces) rfl
  have F41 : Fun K "behind_spaces" "behind_spaces" KA.sSpaces (He.ga K "behind_spaces") d41 := fun_ofD F41'
  have b41 : Binds K d41 ["text", "at"] [] := F41.binds fun _ _ _ _ _ _ us hl => match us, hl with | [_, _], _ => rfl
  have g41 : mg "behind_spaces" = some (.ref (He.ga K "behind_spaces")) := g _ (by decide)
  obtain ⟨d42, F42'⟩ := cD.def_ 42 (d := dD "check_mark" KA.sChkM) rfl
  have F42 : Fun K "check_mark" "check_mark" KA.sChkM (He.ga K "check_mark") d42 := fun_ofD F42'
  have b42 : Binds K d42 ["text", "at", "mark"] [] := F42.binds fun _ _ _ _ _ _ us hl => match us, hl with | [_, _, _], _ => rfl
  have g42 : mg "check_mark" = some (.ref (He.ga K "check_mark")) := g _ (by decide)
  obtain ⟨d43, F43'⟩ := cD.def_ 43 (d := dD "check_no_digit" KA.sNoDigit) rfl
  have F43 : Fun K "check_no_digit" "check_no_digit" KA.sNoDigit (He.ga K "check_no_digit") d43 := fun_ofD F43'
  have b43 : Binds K d43 ["text", "at"] [] := F43.binds fun _ _ _ _ _ _ us hl => match us, hl with | [_, _], _ => rfl
  have g43 : mg "check_no_digit" = some (.ref (He.ga K "check_no_digit")) := g _ (by decide)
  obtain ⟨d44, F44'⟩ := cD.def_ 44 (d := dD "power" KA.sPower) rfl
  have F44 : Fun K "power" "power" KA.sPower (He.ga K "power") d44 := fun_ofD F44'
  have b44 : Binds K d44 ["word", "exponent"] [] := F44.binds fun _ _ _ _ _ _ us hl => match us, hl with | [_, _], _ => rfl
  have g44 : mg "power" = some (.ref (He.ga K "power")) := g _ (by decide)
  obtain ⟨d45, F45'⟩ := cD.def_ 45 (d := dD "cut" KA.sCut) rfl
  have F45 : Fun K "cut" "cut" KA.sCut (He.ga K "cut") d45 := fun_ofD F45'
  have b45 : Binds K d45 ["word"] [] := F45.binds fun _ _ _ _ _ _ us hl => match us, hl with | [_], _ => rfl
  have g45 : mg "cut" = some (.ref (He.ga K "cut")) := g _ (by decide)
  obtain ⟨d46, F46'⟩ := cD.def_ 46 (d := dD "format_word" KA.sFWord) rfl
  have F46 : Fun K "format_word" "format_word" KA.sFWord (He.ga K "format_word") d46 := fun_ofD F46'
  have b46 : Binds K d46 ["word"] [] := F46.binds fun _ _ _ _ _ _ us hl => match us, hl with | [_], _ => rfl
  have g46 : mg "format_word" = some (.ref (He.ga K "format_word")) := g _ (by decide)
  obtain ⟨d47, F47'⟩ := cD.def_ 47 (d := dD "runs_of" KA.sRuns) rfl
  have F47 : Fun K "runs_of" "runs_of" KA.sRuns (He.ga K "runs_of") d47 := fun_ofD F47'
  have b47 : Binds K d47 ["word"] [] := F47.binds fun _ _ _ _ _ _ us hl => match us, hl with | [_], _ => rfl
  have g47 : mg "runs_of" = some (.ref (He.ga K "runs_of")) := g _ (by decide)
  obtain ⟨d48, F48'⟩ := cD.def_ 48 (d := dD "format_run" KA.sFRun) rfl
  have F48 : Fun K "format_run" "format_run" KA.sFRun (He.ga K "format_run") d48 := fun_ofD F48'
  have b48 : Binds K d48 ["sign", "length"] [] := F48.binds fun _ _ _ _ _ _ us hl => match us, hl with | [_, _], _ => rfl
  have g48 : mg "format_run" = some (.ref (He.ga K "format_run")) := g _ (by decide)
  obtain ⟨d49, F49'⟩ := cD.def_ 49 (d := dD "parts_of_text" sPt) rfl
  have F49 : Fun K "parts_of_text" "parts_of_text" sPt (He.ga K "parts_of_text") d49 := fun_ofD F49'
  have b49 : Binds K d49 ["text"] [] := F49.binds fun _ _ _ _ _ _ us hl => match us, hl with | [_], _ => rfl
  have g49 : mg "parts_of_text" = some (.ref (He.ga K "parts_of_text")) := g _ (by decide)
  obtain ⟨d50, F50'⟩ := cD.def_ 50 (d := dD "read_rules" sRdRs) rfl
  have F50 : Fun K "read_rules" "read_rules" sRdRs (He.ga K "read_rules") d50 := fun_ofD F50'
  have b50 : Binds K d50 ["parts", "letters"] [] := F50.binds fun _ _ _ _ _ _ us hl => match us, hl with | [_, _], _ => rfl
  have g50 : mg "read_rules" = some (.ref (He.ga K "read_rules")) := g _ (by decide)
  obtain ⟨d51, F51'⟩ := cD.def_ 51 (d := dD "read_rule" sRdR) rfl
  have F51 : Fun K "read_rule" "read_rule" sRdR (He.ga K "read_rule") d51 := fun_ofD F51'
  have b51 : Binds K d51 ["part", "letters", "at"] [] := F51.binds fun _ _ _ _ _ _ us hl => match us, hl with | [_, _, _], _ => rfl
  have g51 : mg "read_rule" = some (.ref (He.ga K "read_rule")) := g _ (by decide)
  obtain ⟨d52, F52'⟩ := cD.def_ 52 (d := dD "read_side" sRdS) rfl
  have F52 : Fun K "read_side" "read_side" sRdS (He.ga K "read_side") d52 := fun_ofD F52'
  have b52 : Binds K d52 ["text", "letters"] [] := F52.binds fun _ _ _ _ _ _ us hl => match us, hl with | [_, _], _ => rfl
  have g52 : mg "read_side" = some (.ref (He.ga K "read_side")) := g _ (by decide)
  obtain ⟨d53, F53'⟩ := cD.def_ 53 (d := dD "_law_back" KA.sBack) rfl
  have F53 : Fun K "_law_back" "_law_back" KA.sBack (He.ga K "_law_back") d53 := fun_ofD F53'
  have b53 : Binds K d53 ["_law_sign"] [] := F53.binds fun _ _ _ _ _ _ us hl => match us, hl with | [_], _ => rfl
  have g53 : mg "_law_back" = some (.ref (He.ga K "_law_back")) := g _ (by decide)
  obtain ⟨d54, F54'⟩ := cD.def_ 54 (d := dD "_law_gone_back" KA.sGone) rfl
  have F54 : Fun K "_law_gone_back" "_law_gone_back" KA.sGone (He.ga K "_law_gone_back") d54 := fun_ofD F54'
  have b54 : Binds K d54 ["_law_one"] [] := F54.binds fun _ _ _ _ _ _ us hl => match us, hl with | [_], _ => rfl
  have g54 : mg "_law_gone_back" = some (.ref (He.ga K "_law_gone_back")) := g _ (by decide)
  obtain ⟨d55, F55'⟩ := cD.def_ 55 (d := dD "_law_space" KA.sSpace) rfl
  have F55 : Fun K "_law_space" "_law_space" KA.sSpace (He.ga K "_law_space") d55 := fun_ofD F55'
  have b55 : Binds K d55 ["_law_box"] [] := F55.binds fun _ _ _ _ _ _ us hl => match us, hl with | [_], _ => rfl
  have g55 : mg "_law_space" = some (.ref (He.ga K "_law_space")) := g _ (by decide)
  obtain ⟨d56, F56'⟩ := cD.def_ 56 (d := dD "_law_loose" KA.sLoose) rfl
  have F56 : Fun K "_law_loose" "_law_loose" KA.sLoose (He.ga K "_law_loose") d56 := fun_ofD F56'
  have b56 : Binds K d56 ["_law_box", "_law_letters_here", "_law_deep"] [] := F56.binds fun _ _ _ _ _ _ us hl => match us, hl with | [_, _, _], _ => rfl
  have g56 : mg "_law_loose" = some (.ref (He.ga K "_law_loose")) := g _ (by decide)
  obtain ⟨d57, F57'⟩ := cD.def_ 57 (d := dD "_law_text" KA.sText) rfl
  have F57 : Fun K "_law_text" "_law_text" KA.sText (He.ga K "_law_text") d57 := fun_ofD F57'
  have b57 : Binds K d57 ["_law_one"] [] := F57.binds fun _ _ _ _ _ _ us hl => match us, hl with | [_], _ => rfl
  have g57 : mg "_law_text" = some (.ref (He.ga K "_law_text")) := g _ (by decide)
  obtain ⟨d58, F58'⟩ := cD.def_ 58 (d := dD "law" sLaw) rfl
  have F58 : Fun K "law" "law" sLaw (He.ga K "law") d58 := fun_ofD F58'
  have g58 : mg "law" = some (.ref (He.ga K "law")) := g _ (by decide)
  obtain rfl : fl = He.ga K "law" := by
    have e := hfa.symm.trans g58
    injection e with e
    injection e
  obtain ⟨dI, FI'⟩ := cD.def_ 59 (d := dIni) rfl
  have FI : FunD K "__init__" "Table.__init__" (defArgs KT.sInit) (defBody KT.sInit) (defScope KT.sInit) [.ref (He.dflAt ("Table", some "__init__") 0 K)] [] (He.ma K (He.ga K "Table") "__init__") dI := FI'
  have bI := ini_b FI
  obtain ⟨dR, FR'⟩ := cD.def_ 60 (d := dM "Town" "rules" "Town.rules" sTR) rfl
  have FR : Fun K "rules" "Town.rules" sTR (He.ma K (He.ga K "Town") "rules") dR := fun_ofD FR'
  have bR : Binds K dR ["self"] [] := FR.binds fun _ _ _ _ _ _ us hl => match us, hl with | [_], _ => rfl
  obtain ⟨dE, FE'⟩ := cD.def_ 61 (d := dM "Town" "__eq__" "Town.__eq__" sTE) rfl
  have FE : Fun K "__eq__" "Town.__eq__" sTE (He.ma K (He.ga K "Town") "__eq__") dE := fun_ofD FE'
  have bE : Binds K dE ["self", "other"] [] := FE.binds fun _ _ _ _ _ _ us hl => match us, hl with | [_, _], _ => rfl
  obtain ⟨dG, FG'⟩ := cD.def_ 62 (d := dM "InvalidLetters" "__init__" "InvalidLetters.__init__" sIniG) rfl
  have FG : Fun K "__init__" "InvalidLetters.__init__" sIniG (He.ma K (He.ga K "InvalidLetters") "__init__") dG := fun_ofD FG'
  have bG : Binds K dG ["self", "at"] [] := FG.binds fun _ _ _ _ _ _ us hl => match us, hl with | [_, _], _ => rfl
  obtain ⟨dU, FU'⟩ := cD.def_ 63 (d := dM "InvalidRule" "__init__" "InvalidRule.__init__" sIniU) rfl
  have FU : Fun K "__init__" "InvalidRule.__init__" sIniU (He.ma K (He.ga K "InvalidRule") "__init__") dU := fun_ofD FU'
  have bU : Binds K dU ["self", "at"] [] := FU.binds fun _ _ _ _ _ _ us hl => match us, hl with | [_, _], _ => rfl
  obtain ⟨dI2, FI2'⟩ := cD.def_ 64 (d := dM "Town" "__init__" "Town.__init__" sTI) rfl
  have FI2 : Fun K "__init__" "Town.__init__" sTI (He.ma K (He.ga K "Town") "__init__") dI2 := fun_ofD FI2'
  obtain ⟨dW, FW'⟩ := cD.def_ 65 (d := dM "Town" "with_rules" "Town.with_rules" sTwr) rfl
  have FW : Fun K "with_rules" "Town.with_rules" sTwr (He.ma K (He.ga K "Town") "with_rules") dW := fun_ofD FW'
  obtain ⟨dTt, FTt'⟩ := cD.def_ 66 (d := dM "Town" "text" "Town.text" sTT) rfl
  have FTt : Fun K "text" "Town.text" sTT (He.ma K (He.ga K "Town") "text") dTt := fun_ofD FTt'
  have bTt : Binds K dTt ["self"] [] := FTt.binds fun _ _ _ _ _ _ us hl => match us, hl with | [_], _ => rfl
  obtain ⟨dPe, FPe'⟩ := cD.def_ 67 (d := dM "ParseError" "__init__" "ParseError.__init__" KA.sIniP) rfl
  have FPe : Fun K "__init__" "ParseError.__init__" KA.sIniP (He.ma K (He.ga K "ParseError") "__init__") dPe := fun_ofD FPe'
  have bPe : Binds K dPe ["self", "at"] [] := FPe.binds fun _ _ _ _ _ _ us hl => match us, hl with | [_, _], _ => rfl
  obtain ⟨dTl, FTl'⟩ := cD.def_ 68 (d := dM "TooLong" "__init__" "TooLong.__init__" KA.sIniL) rfl
  have FTl : Fun K "__init__" "TooLong.__init__" KA.sIniL (He.ma K (He.ga K "TooLong") "__init__") dTl := fun_ofD FTl'
  have bTl : Binds K dTl ["self", "limit"] [] := FTl.binds fun _ _ _ _ _ _ us hl => match us, hl with | [_, _], _ => rfl
  obtain ⟨oc4, od4, kV4, doc4, pm4, an4, cdv4, ct4, osl4, rfl, lk4, hcd4⟩ := F4.ex
  obtain ⟨cc4, rfl⟩ := He.codeIn_ref hcd4
  have ec4 : He.codeOf K ("swept", none) = cc4 := He.codeOf_eq (p := ("swept", none)) lk4 rfl
  obtain ⟨oc58, od58, kV58, doc58, pm58, an58, cdv58, ct58, osl58, rfl, lk58, hcd58⟩ := F58.ex
  obtain ⟨cc58, rfl⟩ := He.codeIn_ref hcd58
  have ec58 : He.codeOf K ("law", none) = cc58 := He.codeOf_eq (p := ("law", none)) lk58 rfl
  obtain ⟨ocI, odI, kVI, docI, pmI, anI, cdvI, ctI, oslI, eI, lkI, hcdI⟩ := FI2.ex
  obtain ⟨ocW, odW, kVW, docW, pmW, anW, cdvW, ctW, oslW, eW, lkW, hcdW⟩ := FW.ex
  rw [eI] at lkI
  rw [eW] at lkW
  have two : ∀ p ∈ [He.cT K ("swept", none), He.cT K ("law", none)], p = He.cT K ("swept", none) ∨ p = He.cT K ("law", none) := fun p hp => by simpa using hp
  refine ⟨PySem.W.fnOf "law" "law" (defArgs sLaw) (defBody sLaw) (defScope sLaw) .none kV58 doc58 pm58 an58 (.ref cc58) ct58, [He.cT K ("swept", none), He.cT K ("law", none)], spLaw K [((He.cT K ("swept", none)).2, KT.qS), ((He.cT K ("law", none)).2, qL)], ?_, ?_, ?_, ?_, ?_, ?_⟩
  · intro p hp
    rcases two p hp with rfl | rfl
    · exact c.empty _ (List.mem_cons_self)
    · exact c.empty _ (List.mem_cons_of_mem _ List.mem_cons_self)
  · intro p hp
    rcases two p hp with rfl | rfl
    · exact c.out _ (List.mem_cons_self)
    · exact c.out _ (List.mem_cons_of_mem _ List.mem_cons_self)
  · intro p hp
    rcases two p hp with rfl | rfl
    · exact PySem.W.codeHd_of_K X (c.hd _ (List.mem_cons_self))
    · exact PySem.W.codeHd_of_K X (c.hd _ (List.mem_cons_of_mem _ List.mem_cons_self))
  · exact fun s u => .of_eq rfl
  · intro H a ns hl _ hT hS
    refine ⟨a, ns, rfl, hS, hl, fun p hp => ?_, fun _ => rfl⟩
    have hp' : p = ((He.cT K ("swept", none)).2, KT.qS) ∨ p = ((He.cT K ("law", none)).2, qL) := by simpa using hp
    rcases hp' with rfl | rfl
    · exact hT _ (List.mem_cons_self)
    · exact hT _ (List.mem_cons_of_mem _ List.mem_cons_self)
  · intro base KB NB TBs
    have TB0 : LamX.TabB base mg cc4 (He.cT K ("swept", none)).2 := by
      have e : (He.cT K ("swept", none)).1 = cc4 := ec4
      rw [← e]
      exact TBs _ (List.mem_cons_self)
    have TB1 : LamX.TabB base mg cc58 (He.cT K ("law", none)).2 := by
      have e : (He.cT K ("law", none)).1 = cc58 := ec58
      rw [← e]
      exact TBs _ (List.mem_cons_of_mem _ List.mem_cons_self)
    have c6 : KT.Cb PySem.Challenge.rw_roundswap_k15_texts_of_towns.prog w K mg base CX0 1 "less" ["row", "other", "times"] (KT.spLess K) (He.ga K "less") d6 := ⟨KT.ok_less F6 B4, F6.kp, b6, g6⟩
    have c5 : KT.Cb PySem.Challenge.rw_roundswap_k15_texts_of_towns.prog w K mg base CX0 1 "with_positive" ["row", "at"] (KT.spPosT K) (He.ga K "with_positive") d5 := ⟨KT.ok_posT F5 B4, F5.kp, b5, g5⟩
    have c4 : KT.Cb PySem.Challenge.rw_roundswap_k15_texts_of_towns.prog w K mg base CX0 4 "swept" ["rows", "at"] (KT.spSwept K [((He.cT K ("swept", none)).2, KT.qS), ((He.cT K ("law", none)).2, qL)]) (He.ga K "swept") _ := ⟨KT.ok_swept lk4 hcd4 B4 TB0 (List.mem_cons_self) (fun p hp h1 => by rcases (show p = ((He.cT K ("swept", none)).2, KT.qS) ∨ p = ((He.cT K ("law", none)).2, qL) by simpa using hp) with rfl | rfl; exact rfl; exact absurd h1.symm dn01) c6 c5, F4.kp, b4, g4⟩
    have c3 : KT.Cb PySem.Challenge.rw_roundswap_k15_texts_of_towns.prog w K mg base CX0 5 "normal_rows" ["rows", "width"] (KT.spNormal K [((He.cT K ("swept", none)).2, KT.qS), ((He.cT K ("law", none)).2, qL)]) (He.ga K "normal_rows") d3 := ⟨KT.ok_normal F3 B4 c6 c4, F3.kp, b3, g3⟩
    have c7 : KT.Cb PySem.Challenge.rw_roundswap_k15_texts_of_towns.prog w K mg base CX0 1 "lead_at" ["row"] (KT.spLead K) (He.ga K "lead_at") d7 := ⟨KT.ok_lead F7, F7.kp, b7, g7⟩
    have c8 : KT.Cb PySem.Challenge.rw_roundswap_k15_texts_of_towns.prog w K mg base CX0 2 "diagonal_of" ["rows"] (KT.spDiag K) (He.ga K "diagonal_of") d8 := ⟨KT.ok_diag (k := 0) F8 B4 c7.ok c7.kp c7.b c7.g, F8.kp, b8, g8⟩
    have c9 : KT.Cb PySem.Challenge.rw_roundswap_k15_texts_of_towns.prog w K mg base CX0 3 "index_of" ["rows", "width"] (KT.spIndex K) (He.ga K "index_of") d9 := ⟨KT.ok_index (k := 0) F9 B4 c8.ok c8.kp c8.b c8.g, F9.kp, b9, g9⟩
    have c0 : KT.Cb PySem.Challenge.rw_roundswap_k15_texts_of_towns.prog w K mg base CX0 1 "is_number" ["value"] KT.spNum (He.ga K "is_number") d0 := ⟨KT.ok_num F0 Bz, F0.kp, b0, g0⟩
    have c1 : KT.Cb PySem.Challenge.rw_roundswap_k15_texts_of_towns.prog w K mg base CX0 2 "is_number_from" ["value", "low", "high"] KT.spNumF (He.ga K "is_number_from") d1 := ⟨KT.ok_numF (k := 0) F1 c0, F1.kp, b1, g1⟩
    have c2 : KT.Cb PySem.Challenge.rw_roundswap_k15_texts_of_towns.prog w K mg base CX0 2 "is_number_tuple" ["value", "width"] KT.spNumT (He.ga K "is_number_tuple") d2 := ⟨KT.ok_numT (k := 0) F2 Bz c0, F2.kp, b2, g2⟩
    have GI : FnOk PySem.Challenge.rw_roundswap_k15_texts_of_towns.prog w K mg base CX0 6 _ dI _ (KT.spInit K (He.ga K "Table") [((He.cT K ("swept", none)).2, KT.qS), ((He.cT K ("law", none)).2, qL)]) := KT.ok_init (params := defArgs KT.sInit) FI Bz TC4 mW c1 c2 c3 c9
    have c11 : KT.Cb PySem.Challenge.rw_roundswap_k15_texts_of_towns.prog w K mg base CX0 2 "is_word" ["word", "letters"] KA.spIsW (He.ga K "is_word") d11 := ⟨KA.ok_isw (k := 0) F11 B F10 b10 g10, F11.kp, b11, g11⟩
    have c12 : KT.Cb PySem.Challenge.rw_roundswap_k15_texts_of_towns.prog w K mg base CX0 1 "counts_of" ["word", "letters"] KA.spCof (He.ga K "counts_of") d12 := ⟨KA.ok_cof F12 B, F12.kp, b12, g12⟩
    have c13 : KT.Cb PySem.Challenge.rw_roundswap_k15_texts_of_towns.prog w K mg base CX0 3 "is_side" ["word", "letters"] spSide (He.ga K "is_side") d13 := ⟨ok_side (k := 0) F13 B m16 c11, F13.kp, b13, g13⟩
    have c14 : KT.Cb PySem.Challenge.rw_roundswap_k15_texts_of_towns.prog w K mg base CX0 4 "is_rule" ["rule", "letters"] spRule (He.ga K "is_rule") d14 := ⟨ok_rule (k := 0) F14 B c13, F14.kp, b14, g14⟩
    have c15 : KT.Cb PySem.Challenge.rw_roundswap_k15_texts_of_towns.prog w K mg base CX0 2 "difference" ["rule", "letters"] spDiff (He.ga K "difference") d15 := ⟨ok_diff (k := 0) F15 c12 c6, F15.kp, b15, g15⟩
    have R1 : Er PySem.Challenge.rw_roundswap_k15_texts_of_towns.prog w K mg base "InvalidLetters" tagG (gA K) (He.ma K (gA K) "__init__") dG := ⟨E1, ok_iniG FG E1, bG⟩
    have R2 : Er PySem.Challenge.rw_roundswap_k15_texts_of_towns.prog w K mg base "InvalidRule" tagU (uA K) (He.ma K (uA K) "__init__") dU := ⟨E2, ok_iniU FU E2, bU⟩
    have c16 : KT.Cb PySem.Challenge.rw_roundswap_k15_texts_of_towns.prog w K mg base (L2.CX _ w) 3 "check_letters" ["letters"] (spChkL (gA K)) (He.ga K "check_letters") d16 := ⟨ok_chkL (k := 0) F16 B mW R1, F16.kp, b16, g16⟩
    have Tt : Ti PySem.Challenge.rw_roundswap_k15_texts_of_towns.prog w K mg base (tA K) (gA K) (uA K) (He.ga K "Table") (He.ma K (gA K) "__init__") _ _ _ _ _ dG _ _ _ _ _ [((He.cT K ("swept", none)).2, KT.qS), ((He.cT K ("law", none)).2, qL)] _ _ := ⟨B, TC, gC, rd, m6, R2, c16, c14, MT, gT, GI, bI, c15⟩
    have GTn : FnR PySem.Challenge.rw_roundswap_k15_texts_of_towns.prog w K mg base (L2.CX _ w) 8 _ (spTown K (tA K) (gA K) (uA K) [((He.cT K ("swept", none)).2, KT.qS), ((He.cT K ("law", none)).2, qL)]) := ok_town lkI hcdI Tt
    have GWr : FnR PySem.Challenge.rw_roundswap_k15_texts_of_towns.prog w K mg base (L2.CX _ w) 10 _ (spWr (tA K) (gA K) (uA K) [((He.cT K ("swept", none)).2, KT.qS), ((He.cT K ("law", none)).2, qL)]) := ok_wr lkW hcdW TC M gC GTn
    have A3 : KA.ErC K mg "ParseError" "at" (pA K) _ := ⟨E3.ox, E3.gC, E3.nF, E3.nTag, E3.iC, E3.tI⟩
    have A4 : KA.ErC K mg "TooLong" "limit" (lA K) _ := ⟨E4.ox, E4.gC, E4.nF, E4.nTag, E4.iC, E4.tI⟩
    have RP : KA.Pe PySem.Challenge.rw_roundswap_k15_texts_of_towns.prog w K mg base _ _ dPe := ⟨A3, KA.ok_iniP FPe A3, bPe⟩
    have RL : KA.Pl PySem.Challenge.rw_roundswap_k15_texts_of_towns.prog w K mg base _ _ dTl := ⟨A4, KA.ok_iniL FTl A4, bTl⟩
    have DR : KA.Rdr K mg _ _ _ _ _ _ _ _ _ _ _ _ _ _ d33 d34 d35 d36 d37 d38 d39 d40 d41 d42 d43 d44 d45 d31 := ⟨⟨F33, b33, g33⟩, ⟨F34, b34, g34⟩, ⟨F35, b35, g35⟩, ⟨F36, b36, g36⟩, ⟨F37, b37, g37⟩, ⟨F38, b38, g38⟩, ⟨F39, b39, g39⟩, ⟨F40, b40, g40⟩, ⟨F41, b41, g41⟩, ⟨F42, b42, g42⟩, ⟨F43, b43, g43⟩, ⟨F44, b44, g44⟩, ⟨F45, b45, g45⟩, ⟨F31, b31, g31⟩⟩
    have GPh := KA.ok_lev (P := PySem.Challenge.rw_roundswap_k15_texts_of_towns.prog) (w := w) (base := base) DR B RP mL mD 6 (by decide)
    have c10 : KT.Cb PySem.Challenge.rw_roundswap_k15_texts_of_towns.prog w K mg base CX0 1 "signs_of" ["letters"] KA.spSof (He.ga K "signs_of") d10 := ⟨KA.ok_sof (k := 0) F10, F10.kp, b10, g10⟩
    have c32 : KT.Cb PySem.Challenge.rw_roundswap_k15_texts_of_towns.prog w K mg base (L2.CX _ w) 31 "read_word" ["text", "letters"] (KA.spRw (pA K) (lA K)) (He.ga K "read_word") d32 := ⟨KA.ok_rw F32 B RP RL mL GPh F33.kp b33 g33 c10.ok F10.kp b10 g10, F32.kp, b32, g32⟩
    have c52 : KT.Cb PySem.Challenge.rw_roundswap_k15_texts_of_towns.prog w K mg base (L2.CX _ w) 32 "read_side" ["text", "letters"] (spRdS (pA K)) (He.ga K "read_side") d52 := ⟨ok_rds F52 c32 E4.gC hLL hPL, F52.kp, b52, g52⟩
    have c51 : KT.Cb PySem.Challenge.rw_roundswap_k15_texts_of_towns.prog w K mg base (L2.CX _ w) 33 "read_rule" ["part", "letters", "at"] spRdR (He.ga K "read_rule") d51 := ⟨ok_rdr F51 B c52 E3.gC, F51.kp, b51, g51⟩
    have c50 : KT.Cb PySem.Challenge.rw_roundswap_k15_texts_of_towns.prog w K mg base (L2.CX _ w) 34 "read_rules" ["parts", "letters"] (spRdRs (lA K)) (He.ga K "read_rules") d50 := ⟨ok_rdrs F50 B (fz _ (by decide)) c51 RL mL, F50.kp, b50, g50⟩
    have c49 : KT.Cb PySem.Challenge.rw_roundswap_k15_texts_of_towns.prog w K mg base (L2.CX _ w) 35 "parts_of_text" ["text"] (spPt (lA K)) (He.ga K "parts_of_text") d49 := ⟨ok_pt F49 c16 c50, F49.kp, b49, g49⟩
    have GRd : FnOk PySem.Challenge.rw_roundswap_k15_texts_of_towns.prog w K mg base (L2.CX _ w) 36 _ dRd ["cls", "text"] (spRead K (tA K) (gA K) (uA K) (lA K) [((He.cT K ("swept", none)).2, KT.qS), ((He.cT K ("law", none)).2, qL)]) := ok_read FRd c49 M GTn
    have c48 : KT.Cb PySem.Challenge.rw_roundswap_k15_texts_of_towns.prog w K mg base CX0 1 "format_run" ["sign", "length"] KA.spFr (He.ga K "format_run") d48 := ⟨KA.ok_fr (k := 0) F48, F48.kp, b48, g48⟩
    have c47 : KT.Cb PySem.Challenge.rw_roundswap_k15_texts_of_towns.prog w K mg base CX0 1 "runs_of" ["word"] KA.spRuns (He.ga K "runs_of") d47 := ⟨KA.ok_runs (k := 0) F47 B, F47.kp, b47, g47⟩
    have c46 : KT.Cb PySem.Challenge.rw_roundswap_k15_texts_of_towns.prog w K mg base CX0 2 "format_word" ["word"] KA.spFw (He.ga K "format_word") d46 := ⟨KA.ok_fw (k := 0) F46 c47.ok c47.kp c47.b c47.g c48.ok c48.kp c48.b c48.g, F46.kp, b46, g46⟩
    have c17 : KT.Cb PySem.Challenge.rw_roundswap_k15_texts_of_towns.prog w K mg base CX0 1 "_law_begin" ["_law_script"] (KA.spBegin K) (He.ga K "_law_begin") d17 := ⟨KA.ok_begin F17 B, F17.kp, b17, g17⟩
    have c18 : KT.Cb PySem.Challenge.rw_roundswap_k15_texts_of_towns.prog w K mg base CX0 1 "_law_draw" ["_law_box", "_law_many"] KA.spDraw (He.ga K "_law_draw") d18 := ⟨KA.ok_draw F18 B, F18.kp, b18, g18⟩
    have c19 : KT.Cb PySem.Challenge.rw_roundswap_k15_texts_of_towns.prog w K mg base CX0 2 "_law_any" ["_law_box", "_law_some"] KA.spAny (He.ga K "_law_any") d19 := ⟨KA.ok_any (k := 0) F19 B F18 b18 g18, F19.kp, b19, g19⟩
    have c23 : KT.Cb PySem.Challenge.rw_roundswap_k15_texts_of_towns.prog w K mg base CX0 3 "_law_letters" ["_law_box", "_law_many"] KA.spLet (He.ga K "_law_letters") d23 := ⟨KA.ok_let (k := 0) F23 B c19.ok c19.kp c19.b c19.g, F23.kp, b23, g23⟩
    have c24 : KT.Cb PySem.Challenge.rw_roundswap_k15_texts_of_towns.prog w K mg base CX0 1 "_law_signs" ["_law_letters_here"] KA.spSigns (He.ga K "_law_signs") d24 := ⟨KA.ok_signs F24, F24.kp, b24, g24⟩
    have c25 : KT.Cb PySem.Challenge.rw_roundswap_k15_texts_of_towns.prog w K mg base CX0 3 "_law_some_word" ["_law_box", "_law_letters_here", "_law_most"] KA.spSome (He.ga K "_law_some_word") d25 := ⟨KA.ok_some (k := 0) F25 B c19.ok c19.kp c19.b c19.g c18.ok c18.kp c18.b c18.g c24.ok c24.kp c24.b c24.g, F25.kp, b25, g25⟩
    have c26 : KT.Cb PySem.Challenge.rw_roundswap_k15_texts_of_towns.prog w K mg base CX0 4 "_law_side" ["_law_box", "_law_letters_here", "_law_most"] KA.spSome (He.ga K "_law_side") d26 := ⟨ok_lside (k := 0) F26 c25, F26.kp, b26, g26⟩
    have c27 : KT.Cb PySem.Challenge.rw_roundswap_k15_texts_of_towns.prog w K mg base CX0 5 "_law_some_rules" ["_law_box", "_law_letters_here", "_law_many", "_law_most"] spSr (He.ga K "_law_some_rules") d27 := ⟨ok_sr F27 B c18 c26, F27.kp, b27, g27⟩
    have c29 : KT.Cb PySem.Challenge.rw_roundswap_k15_texts_of_towns.prog w K mg base CX0 2 "_law_is_side" ["_law_one", "_law_letters_here"] spSide (He.ga K "_law_is_side") d29 := ⟨ok_lis (k := 0) F29 B c24, F29.kp, b29, g29⟩
    have c30 : KT.Cb PySem.Challenge.rw_roundswap_k15_texts_of_towns.prog w K mg base CX0 3 "_law_bad_rule" ["_law_rules_now", "_law_letters_here"] spBad (He.ga K "_law_bad_rule") d30 := ⟨ok_bad (k := 0) F30 B c29, F30.kp, b30, g30⟩
    have c28 : KT.Cb PySem.Challenge.rw_roundswap_k15_texts_of_towns.prog w K mg base (L2.CX _ w) 11 "_law_town" ["_law_letters_here", "_law_rules_now"] (spTwn (tA K) [((He.cT K ("swept", none)).2, KT.qS), ((He.cT K ("law", none)).2, qL)]) (He.ga K "_law_town") d28 := ⟨ok_twn F28 TC M gC GTn MWr GWr, F28.kp, b28, g28⟩
    have c20 : KT.Cb PySem.Challenge.rw_roundswap_k15_texts_of_towns.prog w K mg base CX0 4 "_law_same" ["_law_found", "_law_due"] (KA.spSame 3) (He.ga K "_law_same") d20 := ⟨KA.ok_same F20 B b20 g20 3, F20.kp, b20, g20⟩
    have c54 : KT.Cb PySem.Challenge.rw_roundswap_k15_texts_of_towns.prog w K mg base CX0 2 "_law_gone_back" ["_law_one"] KA.spGone (He.ga K "_law_gone_back") d54 := ⟨KA.ok_gone (k := 0) F54 F53 b53 g53, F54.kp, b54, g54⟩
    have c55 : KT.Cb PySem.Challenge.rw_roundswap_k15_texts_of_towns.prog w K mg base CX0 3 "_law_space" ["_law_box"] KA.spSpace (He.ga K "_law_space") d55 := ⟨KA.ok_space (k := 0) F55 c19.ok c19.kp c19.b c19.g, F55.kp, b55, g55⟩
    have GLo := KA.ok_loose (P := PySem.Challenge.rw_roundswap_k15_texts_of_towns.prog) (w := w) (base := base) F56 b56 g56 B c18.ok c18.kp c18.b c18.g c19.ok c19.kp c19.b c19.g c54.ok c54.kp c54.b c54.g c55.ok c55.kp c55.b c55.g c24.ok c24.kp c24.b c24.g 1 (by decide)
    have c56 : KT.Cb PySem.Challenge.rw_roundswap_k15_texts_of_towns.prog w K mg base CX0 12 "_law_loose" ["_law_box", "_law_letters_here", "_law_deep"] (KA.spLoose 1) (He.ga K "_law_loose") d56 := ⟨GLo.mono (by decide), F56.kp, b56, g56⟩
    have c57 : KT.Cb PySem.Challenge.rw_roundswap_k15_texts_of_towns.prog w K mg base CX0 1 "_law_text" ["_law_one"] KA.spTx (He.ga K "_law_text") d57 := ⟨KA.ok_tx (k := 0) F57 B, F57.kp, b57, g57⟩
    have LL : ∃ LL : Lc PySem.Challenge.rw_roundswap_k15_texts_of_towns.prog w K mg base, LL.T = [((He.cT K ("swept", none)).2, KT.qS), ((He.cT K ("law", none)).2, qL)] := ⟨{ fBeg := _, fD := _, fA := _, fLe := _, fSr := _, fTx := _, fTw := _, fLo := _, fSp := _, fBd := _, fSa := _, fI := _, fR := _, fT := _, fE := _, fWh := _, fF := _, fU := _, fL := _, pRd := _, gRd := _, C1 := _, C2 := _, C3 := _, fdBeg := _, fdD := _, fdA := _, fdLe := _, fdSr := _, fdTx := _, fdTw := _, fdLo := _, fdSp := _, fdBd := _, fdSa := _, fdR := _, fdT := _, fdE := _, fdWh := _, fdF := _, fdRd := _, C := tA K, CG := gA K, CU := uA K, Cl := lA K, T := [((He.cT K ("swept", none)).2, KT.qS), ((He.cT K ("law", none)).2, qL)], B := B, mMax := fz _ (by decide), cBeg := c17, cD := c18, cA := c19, cLe := c23, cSr := c27, cTx := c57, cTw := c28, cLo := c56, cSp := c55, cBd := c30, cSa := c20, TC := TC, gC := gC, M := M, G := GTn, MR := MR, GR := ok_tr (k := 0) FR B TC, bR := bR, MT := MTt, GT := ok_text (k := 0) FTt TC c46, bT := bTt, GE := ok_te (k := 0) FE B TC gC (iCls xk), EC := eqCls xk, bE := bE, rd := rd, cm := cm, GD := GRd, bD := bRd, kD := kRd, FW := F22, bWh := b22, gWh := g22, TU := E2, XU := X2, TL := E4, XCl := X4, GF := ok_fld (k := 0) F21 E2 X2 E4 X4, kF := F21.kp, bF := b21, gF := g21, m1 := g _ (by decide), m2 := g _ (by decide), m3 := g _ (by decide), hx := (fun C hC => by rcases (show C = uA K ∨ C = lA K by simpa using hC) with rfl | rfl; exact hx1; exact hx2) }, rfl⟩
    obtain ⟨LL, eT⟩ := LL
    rw [← eT]
    have W1 : Lt2 base mg LL.T cc58 qL := by
      rw [eT]
      exact ⟨(He.cT K ("law", none)).2, List.mem_cons_of_mem _ List.mem_cons_self, (fun p hp h1 => by rcases (show p = ((He.cT K ("swept", none)).2, KT.qS) ∨ p = ((He.cT K ("law", none)).2, qL) by simpa using hp) with rfl | rfl; exact absurd h1 dn01; exact rfl), TB1⟩
    exact ok_law LL W1 lk58 hcd58
end K15
open PySem PySem.W PySem.Calls PyProof.Rows
set_option maxRecDepth 100000 in
set_option maxHeartbeats 0 in
theorem PySem.Challenge.cw_roundswap_k15_texts_of_towns_holds : PySem.Challenge.rw_roundswap_k15_texts_of_towns.Holds := by
  w_on; o_law
  refine HandSHeadRun.head_any (r := OpenLaw.row PySem.Challenge.rw_roundswap_k15_texts_of_towns) (q := view (OpenLaw.row PySem.Challenge.rw_roundswap_k15_texts_of_towns).prog [85]) (H := K15.hk) (ob := K15.ob8) (M := 20000) (loose := K15.loose) (d := HandSHeadRun.topDef (OpenLaw.row PySem.Challenge.rw_roundswap_k15_texts_of_towns).prog 85) (kwd := []) K15.ob_eq
    (by kernel_rfl) (fun s => by kernel_rfl) K15.run (by kernel_rfl) (by kernel_rfl) (by kernel_rfl) (by rfl) (by first | assumption | decide +kernel) (by decide +kernel) ⟨rfl, rfl, rfl, rfl, rfl, by decide +kernel⟩ ?hw ?hc
  case hw => w_witness2
  case hc =>
    refine LamX.walk_ofTsE (l := PySem.Challenge.rw_roundswap_k15_texts_of_towns) (n := 63) (k := 41) (x := "_law_script") (CX := fun _ => L2.CX0) rfl (by decide) (by kernel_rfl) ⟨rfl, by decide, by decide⟩ ?F (fun _ _ _ _ _ z => z)
    intro w mg fa h Y G hmg0
    obtain ⟨K, KX, c⟩ := Y
    have hmg : mg ("law" : PySem.Str) = some (.ref fa) := by
      have e : (HandSHeadRun.topDef (OpenLaw.row PySem.Challenge.rw_roundswap_k15_texts_of_towns).prog 85).name = ("law" : PySem.Str) := by kernel_rfl
      rw [← e]
      exact hmg0
    exact ⟨K, KX, K15.facts KX G hmg c.1 c.2⟩
