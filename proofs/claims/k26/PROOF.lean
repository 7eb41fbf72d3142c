import PyProof.Rows.All
import Wide.All
import OpenK.AllK
import Wide.FinOn
import HandS.ForMost
import HandS.ForExc
import HandS.ExcInit
import HandS.ExcField
import HandS.HotCalls
import HandS.Lambda
import HandS.EndTab
import HandS.Wide
import HandS.FStr
import HandS.IsInst
import HandS.Defaults
import HandS.Zip
import HandS.Walk
import HandS.ExcIs
import HandS.EndOwn
import HandS.SetFor
import HandS.SortInts
import KE.KSortedM
import HandS.Conv
import HandS.TupMul
import HandS.More
import HandS.TupAny
import PyProof.InstNe
import HandS.Star
import HandS.Style
import HandS.Deep
import KE.DataFind
import HandS.Nested
import HandS.Strs
import HandS.Comp
import HandS.SetBool
import KE.GoesMore
import HandS.MakeKwOnly
import HandS.Head0
import HandS.Head1
import HandS.Head2
import HandS.HeadEnd
import HandS.HeadHook1
import HandS.HeadHook2
import PySem.Challenge.RW_earlywrite_k26_errors_of_tasks
set_option Elab.async false
set_option linter.all false
set_option maxRecDepth 100000
set_option maxHeartbeats 4000000
namespace Ew
open PySem PySem.Spec PyProof.Rows L2
/-! ## an error made without arguments by its own __init__ -/
def tMk0 (C : Addr) (sp : Sp) : L2.St → Hp → XK → Prop := fun _ H Q => ∀ a, H a = none → sp [.ref a] (upd H a (exo a C none))
  (fun v G => v = .non ∧ ∃ (d : Addr) (fs : List (Str × V)), G a = some (exo a C (some d)) ∧ G d = some (exd d fs) ∧ H d = none ∧ Q (.ref C) (some d) (upd (del G a) d (.xd fs))) (fun _ _ _ => False)
theorem pmk0 {X : Cx} {CX : CXT} {x : Str} {C fI : Addr} {k : Nat} {fd : FuncData} {ps : List Str} {sp : Sp} {p pos : Pos} (T : OexC X.K C)
    (iC : PySem.W.findIn X.K (.ref C) "__init__" = some (some (.ref fI))) (tI : PySem.W.typeIn X.K (.ref fI) = some (.type "function"))
    (F1 : FnOk X.prog X.w X.K X.mg X.base CX k fI fd ps sp) (hr : Room (k + 1) X.A) (hb : Binds X.K fd ps []) (hx : Passes CX X (fun _ _ _ => False))
    (hg : Gl X x) (hm : X.mg x = some (.ref C)) (hdb : (x == ("__debug__" : Str)) = false := by decide) : PMk X (.Call (.Name x p) [] [] pos) (tMk0 C sp) := by
  intro pins s σ H Q I h
  obtain ⟨_, _, _, _, bm, _, _, _, _, _, _, _, _, _, _, hC, hbm⟩ := T.cls
  refine wpAny_Call_Name_kw (ld_glob I hg hm ?_ hdb)
  refine PySem.W.callWith_K0 I.kIn T.kC ?_
  obtain ⟨hp, g, dr, tk, os⟩ := s
  have sz1 : hp.objs.size ≤ hp.objs.size + 1 := Nat.le_succ _
  have fr : H (hp.objs.size + 1) = none := I.hok.fresh sz1
  have hq := h (hp.objs.size + 1) fr
  have kept : ∀ b o, hp.get? b = some o → ((hp.push (PySem.W.kdv_tup [])).push (PySem.HandSPX.excO C hp.objs.size)).get? b = some o :=
    fun b o e => Heap.get?_push_of_some _ (Heap.get?_push_of_some _ e)
  have got : ((hp.push (PySem.W.kdv_tup [])).push (PySem.HandSPX.excO C hp.objs.size)).get? (hp.objs.size + 1) = some (PySem.HandSPX.excO C hp.objs.size) := by heap_get
  have I2 := I.laid (t' := tk) (o := exo (hp.objs.size + 1) C none) kept sz1 (exo_ok got)
  have r2 : Vals [V.ref (hp.objs.size + 1)] [Value.ref (hp.objs.size + 1)] := .cons rfl .nil
  have hl : ([Value.ref (hp.objs.size + 1)] ++ []).length = ps.length := by
    have e := r2.length
    rw [F1.len _ _ _ _ hq] at e
    exact e.symm
  have run := F1.run _ X.stack _ _ ⟨[Value.ref (hp.objs.size + 1)], []⟩ [Value.ref (hp.objs.size + 1)] _ _ (fun _ _ _ => False) (hr.make C [] []) (I2.env0.make C [] [])
    (by have z := hb _ [Value.ref (hp.objs.size + 1)] I2.kIn hl; rw [List.append_nil] at z; exact z) r2 hq
  refine wpAny_call (PySem.HandSPX.call_own F.excBase_ValueError (fun Y => PySem.HandSPX.refsVE_contains Y bm hbm) (I.kIn _ _ hC) (PySem.W.looks_findIn I.kIn iC)
    (fun self => PySem.W.bind_fn I.kIn self tI) (Nat.zero_le _) (codeAny_mono run fun r t hq' => ?_))
  cases r with
  | error er => exact hx pins σ _ _ er t I2 hq'
  | ok fl =>
    cases fl with
    | ret u =>
      obtain ⟨v, G, os2, bare2, un2, hok2, rv, ev, d, fs, ea, ed, hd1, q2⟩ := hq'
      subst ev
      obtain ⟨h2, g2, d2, t2, os'⟩ := t
      exact ⟨rv, mk_end (raises_own T.exC T.tyC) I sz1 kept un2 hok2 os2 bare2 ea ed hd1 q2⟩
    | next => exact hq'.elim
    | brk => exact hq'.elim
    | cont => exact hq'.elim
/-! ## what lies in flight when more is laid on the heap -/
theorem flying_kept {B h h' : Heap} {l : List Env} {e : Addr} {Z : Obj → Prop} (x : HandSPX.FlyingZ B l e Z h) (k : ∀ b o, h.get? b = some o → h'.get? b = some o) : HandSPX.FlyingZ B l e Z h' := by
  obtain ⟨x1, x2, x3, oe, vs, T, oT, ts, a1, a2, a3, a4, a5, a6, a7, a8, a9⟩ := x
  exact ⟨fun b o q => k b o (x1 b o q), x2, x3.of_keeps fun b o q _ => ⟨o, k b o q, rfl⟩, oe, vs, T, oT, ts, k _ _ a1, a2, a3, a4, a5, a6, k _ _ a7, a8, a9⟩
theorem upTo_kept {h h' h'' : Heap} (x : h.UpToSlots h') (k : ∀ b o, h'.get? b = some o → h''.get? b = some o) : h.UpToSlots h'' := fun b o e n => by
  obtain ⟨sl, q⟩ := x b o e n
  exact ⟨sl, k _ _ q⟩
/-! ## except (A, B, C) as n -/
def wAs3 (K : PySem.W.Frag) (c1 c2 c3 : Value) (m i : Nat) (ts : Addr → Value → Option Addr → TS) (D : Ends) : WX := fun cls d σ H =>
  PySem.W.exmAny K cls [c1, c2, c3] = some true ∧ ∀ a, H a = none → σ.length = m → ts a cls d { nx := fun τ G => D.nx (τ.set i none) G, rt := D.rt, bk := fun τ G => D.bk (τ.set i none) G, ct := fun τ G => D.ct (τ.set i none) G } (σ.set i (some (.ref a))) H
theorem ld_name {X : Cx} {pins : List (Addr × Obj)} {σ : L2.St} {H : Hp} {s : Shared} {x : Str} {c : Value} {p : Pos} {A : Around} {Q : Value → Shared → Prop} {E : Value → Shared → Prop} (I : Inv X pins σ H s) (hc : Names X x c) (q : Q c s) (hA : A = X.A) :
    wpAny (model X.prog X.w) A (eval (.Name x p) X.env) Q E s := by
  subst hA
  obtain ⟨hg, hdbg, hm | ⟨hm, hv, hnn⟩⟩ := hc
  · exact ld_glob I hg hm q hdbg
  · exact ld_blt I hg hm hv q hnn hdbg
theorem ps_try_as3 {X : Cx} {n x1 x2 x3 : Str} {c1 c2 c3 : Value} {i : Nat} {body suite : List Stmt} {b0 : Stmt} {p1 p2 p3 pt pos pos' : Pos} {kt} {tb : WX → TS} {ts : Addr → Value → Option Addr → TS}
    (hs : X.stack = X.env :: X.outer) (hf : X.env.frame = some X.env.locals) (hN : X.N.Nodup) (hi : X.N[i]? = some n) (hln : X.env.kindOf n = some .local)
    (n1 : Names X x1 c1) (n2 : Names X x2 c2) (n3 : Names X x3 c3)
    (hb : ∀ (W : WX) (pn : List (Addr × Obj)) (xe : Value → Shared → Prop), Takes (X.tr pn xe) W → PSs (X.tr pn xe) body (tb W))
    (hsu : ∀ (a : Addr) (oe : Obj) (cls : Value) (d : Option Addr) (pn : List (Addr × Obj)), Zc cls d oe → (∃ vs, oe.data = .fields vs) → PSs (X.suite a ((a, oe) :: pn)) (b0 :: suite) (ts a cls d))
    (st3 : starEach [.Name x1 p1, .Name x2 p2, .Name x3 p3] X.env = [(false, eval (.Name x1 p1) X.env), (false, eval (.Name x2 p2) X.env), (false, eval (.Name x3 p3) X.env)] := by rfl) :
    PS X (.Try body [.ExceptHandler (some (.Tuple [.Name x1 p1, .Name x2 p2, .Name x3 p3] kt pt)) (some n) (b0 :: suite) pos'] [] [] pos) (fun D σ H => tb (wAs3 X.K c1 c2 c3 X.N.length i ts D) D σ H) := by
  refine ⟨fun pins s σ H D I hwant => ?_⟩
  have xok := I.ok
  have frs1 : X.A.frames = some (X.env :: X.outer) := xok.frames.trans (congrArg some hs)
  have locn : Loc X.env.scope n := .inl hln
  refine wpAny_Try_except ?_
  refine wpAny_mono ((hb (wAs3 X.K c1 c2 c3 X.N.length i ts D) (X.pn ++ pins) (fun e z1 => wpAny (model X.prog X.w) X.A (noteFrame e X.env) (fun _ z2 => wpAny (model X.prog X.w) X.A (setFlight e none) (fun _ z3 =>
    wpAny (model X.prog X.w) X.A (handleBy e X.env [.ExceptHandler (some (.Tuple [.Name x1 p1, .Name x2 p2, .Name x3 p3] kt pt)) (some n) (b0 :: suite) pos']) (SP X pins D) X.xe z3) X.xe z2) X.xe z1) (fun u t xx => ?_)).run [] s σ H D (I.toTry _) hwant)
    (fun f z1 hsp => ?_) (fun e z1 he => he)
  · obtain ⟨a, B, sI, qs, τ, G, cls, d, rfl, J0, nb, up, sky, na, os, ag, hyes1, hyes⟩ := xx
    have J : Inv X pins τ G sI := J0.ofTry xok
    have sky1 : Sky B (X.env :: X.outer) a (Zc cls d) X.env.locals t.heap := by rw [← hs]; exact sky
    show wpAny (model X.prog X.w) X.A (noteFrame (.ref a) X.env) _ _ _
    refine Sky.land Zc.steady frs1 hf sky1 fun g3 fz up3 => ?_
    have up4 := up.trans up3
    have J3 : Inv X pins τ G { t with heap := g3 } := J.landed nb fz.1 up4 os ag
    obtain ⟨oe3, vs3, he3, hz3, hd3⟩ := fz.there
    have nfr : a ∉ frs (X.env :: X.outer) := fun hm => by
      obtain ⟨_, ob, eb, nfl⟩ := fz.2.2.1.mem hm
      rw [he3] at eb
      cases eb
      exact nfl _ hd3
    have nL : a ≠ X.env.locals := fun z => nfr (List.mem_filterMap.mpr ⟨X.env, List.mem_cons_self, by rw [hf, z]⟩)
    have nF : a ∉ X.fs := fun hm => by
      obtain ⟨ev, hev, q⟩ := List.mem_filterMap.mp hm
      exact nfr (List.mem_filterMap.mpr ⟨ev, List.mem_cons_of_mem _ hev, q⟩)
    have S3 := J3.suite he3 hd3 na nL nF
    refine wpAny_handleBy_cons (codeAny_handlers_test ?_) (by intro q; cases q)
    refine wpAny_Tuple_spliced ?_
    rw [st3]
    refine Calls.spliced_cons (ld_name (X := X.suite a ((a, oe3) :: (X.pn ++ pins))) S3 n1 ?_ rfl)
    refine Calls.spliced_cons (ld_name (X := X.suite a ((a, oe3) :: (X.pn ++ pins))) S3 n2 ?_ rfl)
    refine Calls.spliced_cons (ld_name (X := X.suite a ((a, oe3) :: (X.pn ++ pins))) S3 n3 ?_ rfl)
    refine Calls.spliced_nil ⟨(by show 3 ≤ sizeLine; decide), ?_⟩
    have kp : ∀ b o, g3.get? b = some o → (g3.push { cls := .type "tuple", data := .seq [c1, c2, c3].toArray }).get? b = some o := fun b o q => Heap.get?_push_of_some _ q
    have fz4 := flying_kept fz kp
    have up5 := upTo_kept up4 kp
    have J4 : Inv X pins τ G { t with heap := g3.push { cls := .type "tuple", data := .seq [c1, c2, c3].toArray } } := J.landed nb fz4.1 up5 os ag
    have LT : PySem.W.Looks (model X.prog X.w) (g3.push { cls := .type "tuple", data := .seq [c1, c2, c3].toArray }) (typeOf (.ref a)) cls := fun A Q E s k q => wpAny_typeOf_ref (k _ _ (kp _ _ he3)) (by rw [hz3.1]; exact q)
    have LM := PySem.W.exm_tup3 (M := model X.prog X.w) (tp := g3.objs.size) J4.kIn LT (Heap.get?_push_size _ rfl) hyes1
    refine LM.here ?_
    refine codeAny_handlers_suite_as ?_
    refine HandSPX.lands_againZ fz4 fun g5 fz5 up6 => ?_
    have J5 : Inv X pins τ G { t with heap := g5 } := J.landed nb fz5.1 (up5.trans up6) os ag
    obtain ⟨oe5, vs5, he5, hz5, hd5⟩ := fz5.there
    have S5 := J5.suite he5 hd5 na nL nF
    refine store_ok (X := X.suite a ((a, oe5) :: (X.pn ++ pins))) (v := .ref a) S5 hN hi locn rfl (fun z5 S6 => ?_) (.inr hln)
    refine wpAny_mono ((hsu a oe5 cls d (X.pn ++ pins) hz5 ⟨_, hd5⟩).run [] z5 _ G _ S6 (hyes a na J.len)) (fun f z6 hsp => ?_) (fun _ _ z => z.elim)
    have fin : ∀ {τ6 : L2.St} {G6 : Hp} {Q : Shared → Prop}, Inv (X.suite a ((a, oe5) :: (X.pn ++ pins))) [] τ6 G6 z6 → (∀ z7, Inv X pins (τ6.set i none) G6 z7 → Q z7) →
        wpAny (model X.prog X.w) X.A (do bindName X.env n .none; unbindBehindTheSuite X.env n pos') (fun _ z7 => Q z7) X.xe z6 := fun S7 hq => gone_ok (S7.unsuite xok) hN hi hln hq
    cases f with
    | next =>
      obtain ⟨_, _, S7, q7⟩ := hsp
      exact fin S7 fun _ J8 => ⟨_, _, J8, q7⟩
    | brk =>
      obtain ⟨_, _, S7, q7⟩ := hsp
      exact fin S7 fun _ J8 => ⟨_, _, J8, q7⟩
    | cont =>
      obtain ⟨_, _, S7, q7⟩ := hsp
      exact fin S7 fun _ J8 => ⟨_, _, J8, q7⟩
    | ret u =>
      obtain ⟨_, _, _, S7, r7, q7⟩ := hsp
      exact fin S7 fun _ J8 => ⟨_, _, _, J8, r7, q7⟩
  · cases f with
    | next =>
      obtain ⟨τ, G, J0, q⟩ := hsp
      exact wpAny_execs_nil ⟨τ, G, J0.ofTry xok, q⟩
    | brk =>
      obtain ⟨τ, G, J0, q⟩ := hsp
      exact ⟨τ, G, J0.ofTry xok, q⟩
    | cont =>
      obtain ⟨τ, G, J0, q⟩ := hsp
      exact ⟨τ, G, J0.ofTry xok, q⟩
    | ret u =>
      obtain ⟨v, τ, G, J0, r, q⟩ := hsp
      exact ⟨v, τ, G, J0.ofTry xok, r, q⟩
/-! ## an error's field, wherever the error is pinned -/
theorem pe_xfp {X : Cx} {a C : Addr} {oe : Obj} {cls : Value} {d : Option Addr} {e : Expr} {te : TE} {pos : Pos} {n : Str} (T : XfC X.K C) (hno : PySem.W.findIn X.K (.ref C) n = some none)
    (hz : Zc cls d oe) (hf : ∃ vs, oe.data = .fields vs) (hpn : (a, oe) ∈ X.pn) (he : PE X e te) (hb : attributeBase e n X.env (eval e X.env) = eval e X.env := by rfl) :
    PE X (.Attribute e n pos) (tXf a cls d C n te) := by
  refine ⟨fun pins s σ H Q I h => ?_⟩
  refine attr_of hb (thn (he.run pins s σ H _ I h) fun u z1 ⟨x, G, I1, rx, ex, ec, dd, fs, v, ed, ea, l, q⟩ => ?_)
  subst ex ec ed
  obtain rfl : u = Value.ref a := rx
  have ha := (I1.pin (a, oe) (List.mem_append_left _ hpn)).1
  obtain ⟨vs, hd⟩ := hf
  obtain ⟨mA, hns, hr⟩ := (show ObjOk X.prog X.w G z1.heap dd (.xd fs) from I1.hok dd _ ea)
  obtain ⟨od, ho, hl⟩ := lookIn_ns hns
  obtain ⟨u, hu, ru⟩ := RelO.some_of (v := v) (o := mA n) (by rw [← l]; exact hr n)
  have J : PySem.W.InstAt z1.heap a oe C (some od) := ⟨ha, hz.1, by unfold PySem.W.notCls; rw [hd] <;> rfl, by rw [hz.2]; exact ho⟩
  exact HandSPX.exc_get I1.kIn J T.ga T.gg T.exC (PySem.W.findObj_own T.hdC hno rfl (by rw [hl, hu])) (handed_of ru) ⟨v, G, I1.tok _, ru, q⟩
/-! ## // by any divisor that is not zero -/
def CDivZ (_ j : Int) : Prop := j ≠ 0 ∧ j.natAbs.log2 < 9000
theorem op_fdivZ {X : Cx} : OpR X (binaryOp .FloorDiv) (rI CDivZ fun i j => .int (i.fdiv j)) := opI fun _ _ _ _ _ _ _ hc q => floordiv_int hc.1 q (.inl (PyProof.noPylong_of_log2 hc.2))
/-! ## the mathematics of fractions -/
def gcdI (a b : Int) : Int := ((Nat.gcd a.natAbs b.natAbs : Nat) : Int)
theorem gcdI_step {x y : Int} (hx : 0 ≤ x) (hy : 0 < y) : gcdI y (x % y) = gcdI x y := by
  obtain ⟨m, rfl⟩ := Int.eq_ofNat_of_zero_le hx
  obtain ⟨n, rfl⟩ := Int.eq_ofNat_of_zero_le (Int.le_of_lt hy)
  unfold gcdI
  rw [← Int.natCast_emod, Int.natAbs_natCast, Int.natAbs_natCast, Int.natAbs_natCast, Nat.gcd_comm n (m % n), ← Nat.gcd_rec n m, Nat.gcd_comm]
theorem gcdI_zero {x : Int} (hx : 0 ≤ x) : gcdI x 0 = x := by
  unfold gcdI
  rw [Int.natAbs_zero, Nat.gcd_zero_right]
  omega
theorem gcdI_nn (a b : Int) : 0 ≤ gcdI a b := Int.natCast_nonneg _
theorem gcdI_pos {a b : Int} (h : b ≠ 0) : 0 < gcdI a b := by
  have := Nat.gcd_pos_of_pos_right a.natAbs (show 0 < b.natAbs by omega)
  unfold gcdI
  omega
theorem gcdI_le {a b : Int} (h : b ≠ 0) : gcdI a b ≤ (b.natAbs : Int) := by
  have := Nat.gcd_le_right a.natAbs (show 0 < b.natAbs by omega)
  unfold gcdI
  omega
def absI (i : Int) : Int := if i < 0 then -i else i
theorem absI_nn (i : Int) : 0 ≤ absI i := by unfold absI; split <;> omega
theorem absI_natAbs (i : Int) : (absI i).natAbs = i.natAbs := by unfold absI; split <;> omega
theorem gcdI_abs (a b : Int) : gcdI (absI a) (absI b) = gcdI a b := by unfold gcdI; rw [absI_natAbs, absI_natAbs]
theorem gcdI_abs1 (a b : Int) : gcdI (absI a) b = gcdI a b := by unfold gcdI; rw [absI_natAbs]
theorem gcdI_neg (a b : Int) : gcdI (-a) (-b) = gcdI a b := by unfold gcdI; rw [Int.natAbs_neg, Int.natAbs_neg]
/-- the fraction of a and b, b not zero -/
def frN (a b : Int) : Int := (if b < 0 then -a else a) / gcdI a b
def frD (a b : Int) : Int := (if b < 0 then -b else b) / gcdI a b
theorem wide_of {j : Int} {n : Nat} (h : j ≠ 0) (hb : j.natAbs < 2 ^ n) (h0 : 0 < n) (h9 : n ≤ 9000) : CDivZ i j := ⟨h, Nat.lt_of_lt_of_le (PySem.Flt.log2_lt_of h0 hb) h9⟩
theorem fdiv_flip (a : Int) {g : Int} (hg : 0 < g) : a.fdiv (-g) = (-a) / g := by
  have e : a.fdiv (-g) = (-(-a)).fdiv (-g) := by rw [Int.neg_neg]
  rw [e, Int.neg_fdiv_neg, Int.fdiv_eq_ediv_of_nonneg _ (by omega)]
theorem ifT {c : Bool} {A B : Prop} (hc : c = true) (h : A) : if c = true then A else B := by
  rw [if_pos hc]
  exact h
theorem ifF {c : Bool} {A B : Prop} (hc : c = false) (h : B) : if c = true then A else B := by
  rw [hc]
  exact iteF h
theorem ne_int {x y : Int} (h : x ≠ y) : (!decide (V.int x = V.int y)) = true := by simp [h]
theorem eq_int {x y : Int} (h : x ≠ y) : decide (V.int x = V.int y) = false := by simp [h]
/-! ## errors: what the written part says of a class over ValueError with self.tag = t in its __init__ -/
structure ErrT (K : PySem.W.Frag) (mg : Str → Option Value) (x : Str) (C fI : Addr) : Prop where
  gC : mg x = some (.ref C)
  oex : OexC K C
  iC : PySem.W.findIn K (.ref C) "__init__" = some (some (.ref fI))
  tI : PySem.W.typeIn K (.ref fI) = some (.type "function")
  nT : PySem.W.findIn K (.ref C) "tag" = some none
  xf : XfC K C
def spInitTag (K : PySem.W.Frag) (C : Addr) (t : Str) : Sp := fun vs H Q _ => ∃ a, vs = [.ref a] ∧ H a = some (exo a C none) ∧ ∀ dx, H dx = none → dx ≠ a → Q .non (upd (upd H dx (exd dx [("tag", .str t)])) a (exo a C (some dx)))
theorem raise_heap {H : Hp} {a dx : Addr} {o1 o2 o3 u : HO} (ha : H a = none) (hd : upd H a o1 dx = none) (ne : dx ≠ a) : upd (del (upd (upd (upd H a o1) dx o2) a o3) a) dx u = upd H dx u := by
  funext b
  by_cases h1 : b = dx
  · rw [h1, upd_same, upd_same]
  · rw [upd_ne h1, upd_ne h1]
    by_cases h2 : b = a
    · rw [h2, del_same, ha]
    · rw [del_ne h2, upd_ne h2, upd_ne h1, upd_ne h2]
/-- the text of a fraction -/
def frText (n d : Int) : Str := if d = 1 then Str.ofString (toString n) else Str.ofString (toString n) ++ "/" ++ Str.ofString (toString d)
/-! ## the numbers that a law draws -/
def RngOk (i v sd : Int) : Prop := 0 ≤ i ∧ 0 ≤ v ∧ 0 ≤ sd ∧ sd < 2147483549
def rngL (q : Addr) (i v sd : Int) : List V := [.ref q, .int i, .int v, .int sd]
structure RngAt (H : Hp) (p q : Addr) (ns : List Int) (i v sd : Int) : Prop where
  at_p : H p = some (.lst (rngL q i v sd))
  at_q : H q = some (.lst (ns.map V.int))
  len : ns.length ≤ 63
  ok : RngOk i v sd
  ne : q ≠ p
theorem RngAt.next {H : Hp} {p q : Addr} {ns : List Int} {i v sd i' v' sd' : Int} (R : RngAt H p q ns i v sd) (h : RngOk i' v' sd') : RngAt (upd H p (.lst (rngL q i' v' sd'))) p q ns i' v' sd' :=
  ⟨upd_same, by rw [upd_ne R.ne]; exact R.at_q, R.len, h, R.ne⟩
theorem mul_small {i j : Int} (h0 : -9223372036854775808 < i) (h1 : i < 9223372036854775808) : CMul i j := by
  have e : (2 : Int) ^ 64 = 18446744073709551616 := by decide
  refine .inl ⟨?_, ?_⟩
  · rw [e]; omega
  · rw [e]; omega
theorem cut63 {ns : List Int} (h : ns.length ≤ 63) : cutV (ns.map V.int) none (some 63) = ns.map V.int := by
  unfold cutV
  rw [HT.sIx_none, List.drop_zero]
  have e := HT.sIx_nat (ns.map V.int).length (ns.map V.int).length 63
  rw [show (some (63 : Int)) = some ((63 : Nat) : Int) from rfl, e, Nat.sub_zero, List.take_of_length_le]
  rw [List.length_map]
  omega
def seedStep (sd c : Int) : Int := (sd * 40009 + c % 2147483549 + 31) % 2147483549
theorem upd_id {H : Hp} {a : Addr} {o : HO} (h : H a = some o) : upd H a o = H := by
  funext b
  by_cases e : b = a
  · rw [e, upd_same, h]
  · rw [upd_ne e]
theorem rng_0 {q : Addr} {i v sd : Int} : atI (rngL q i v sd) 0 = some (.ref q) := rfl
theorem rng_1 {q : Addr} {i v sd : Int} : atI (rngL q i v sd) 1 = some (.int i) := rfl
theorem rng_2 {q : Addr} {i v sd : Int} : atI (rngL q i v sd) 2 = some (.int v) := rfl
theorem rng_3 {q : Addr} {i v sd : Int} : atI (rngL q i v sd) 3 = some (.int sd) := rfl
theorem get_int {ns : List Int} {i : Int} (h0 : 0 ≤ i) (h1 : i < (ns.length : Int)) : ∃ c, c ∈ ns ∧ atI (ns.map V.int) i = some (.int c) := by
  obtain ⟨m, rfl⟩ := Int.eq_ofNat_of_zero_le h0
  have hm : m < ns.length := by omega
  refine ⟨ns[m], List.getElem_mem hm, atI_nat ?_⟩
  rw [List.getElem?_map, List.getElem?_eq_getElem hm]
  rfl
theorem map_int_at {ns : List Int} {i : Nat} {y : V} (h : (ns.map V.int)[i]? = some y) : ∃ c, y = .int c := by
  rw [List.getElem?_map] at h
  cases e : ns[i]? with
  | none =>
    rw [e] at h
    cases h
  | some c =>
    rw [e] at h
    exact ⟨c, (Option.some.inj h).symm⟩
/-! ## two values that hold the same data, at most n deep -/
def flatS : V → Bool
  | .non => true | .bl _ => true | .int _ => true | .str _ => true | _ => false
def SameN (K : PySem.W.Frag) (H : Hp) : Nat → V → V → Prop
  | 0, _, _ => False
  | n + 1, x, y => (x = y ∧ flatS x = true) ∨ ∃ (a b : Addr) (xs ys : List V), x = .ref a ∧ y = .ref b ∧ ((SqL K H a xs ∧ SqL K H b ys) ∨ (SqT K H a xs ∧ SqT K H b ys)) ∧ xs.length = ys.length ∧ xs.length ≤ 1000 ∧
      ∀ (i : Nat) (u v : V), xs[i]? = some u → ys[i]? = some v → SameN K H n u v
theorem seqT {K : PySem.W.Frag} {H G : Hp} {a : Addr} {xs : List V} (e : Same H G) (h : SqT K H a xs) : SqT K G a xs := by
  rcases h with (h | ⟨o, h⟩) | h
  · exact .inl (.inl (e _ _ h))
  · exact .inl (.inr ⟨o, e _ _ h⟩)
  · exact .inr h
theorem SameN.same {K : PySem.W.Frag} {H G : Hp} (e : Same H G) : ∀ {n : Nat} {x y : V}, SameN K H n x y → SameN K G n x y
  | 0, _, _, h => h
  | n + 1, x, y, h => by
    rcases h with h | ⟨a, b, xs, ys, h1, h2, h3, h4, h5, h6⟩
    · exact .inl h
    · refine .inr ⟨a, b, xs, ys, h1, h2, ?_, h4, h5, fun i u v p q => (h6 i u v p q).same e⟩
      rcases h3 with ⟨p, q⟩ | ⟨p, q⟩
      · exact .inl ⟨e.seq p, e.seq q⟩
      · exact .inr ⟨seqT e p, seqT e q⟩
theorem ty_list {K : PySem.W.Frag} {H : Hp} {a : Addr} {xs : List V} (h : SqL K H a xs) : TyX K H (.ref a) (.type "list") := by
  rcases h with (h | ⟨o, h⟩) | ⟨o, its, n, h, c, _⟩
  · exact .base (.lst h)
  · exact .base (.frz h)
  · exact .kList h c
theorem ty_tup {K : PySem.W.Frag} {H : Hp} {a : Addr} {xs : List V} (h : SqT K H a xs) : TyX K H (.ref a) (.type "tuple") := by
  rcases h with (h | ⟨o, h⟩) | ⟨o, its, n, h, c, _⟩
  · exact .base (.tup h)
  · exact .fTuple h
  · exact .kTuple h c
theorem walk_zipT {K : PySem.W.Frag} {a b : Addr} {xs ys : List V} (hn : xs.length = ys.length) : Walk (RZ.ItzT K a b) xs.length (fun H => SqT K H a xs ∧ SqT K H b ys) (YPair (fun i => xs[i]?) (fun i => ys[i]?)) :=
  ⟨fun i H hi q => ⟨xs, ys, xs[i], ys[i]'(by omega), q.1, q.2, by simp [hi], by simp [show i < ys.length by omega]⟩, fun H q => ⟨xs, ys, q.1, q.2, .inl (Nat.le_refl _)⟩,
    fun i H x G hi q ⟨T, u, v, e1, e2, e3, e4, e5⟩ => ⟨T, u, v, e1, e2, e3, e4 xs q.1, e5 ys q.2⟩⟩
theorem same_upd {H G : Hp} {p : Addr} {o : HO} (e : Same H G) (h : G p = none) : Same H (upd G p o) := fun b u q => by
  rw [upd_ne (ne_of_none (e b u q) h)]
  exact e b u q
theorem same_updN {H G : Hp} {p : Addr} {o : HO} (e : Same H G) (h : H p = none) : Same H (upd G p o) := fun b u q => by
  rw [upd_ne (ne_of_none q h)]
  exact e b u q
theorem kitLT {K : PySem.W.Frag} {t : String} {r : Bool} (h1 : kitB t "list" = some false) (h2 : kitB t "tuple" = some r) : PySem.W.kitAny K (.type t) [.type "list", .type "tuple"] = some r :=
  kitAny_cons (kit_ty h1) (fun _ => kitAny_cons (kit_ty h2) (fun e => by rw [e]; exact kitAny_nil) (fun e => e)) (fun e => Bool.noConfusion e)
theorem kitL {K : PySem.W.Frag} {t : String} (h1 : kitB t "list" = some true) : PySem.W.kitAny K (.type t) [.type "list", .type "tuple"] = some true :=
  kitAny_cons (kit_ty h1) (fun e => Bool.noConfusion e) (fun _ => rfl)
theorem all_true (n : Nat) : (List.replicate n true).all id = true := by simp
theorem map_rep (n : Nat) : (List.replicate n true).map V.bl = List.replicate n (V.bl true) := by simp
theorem ne_bl (b : Bool) : (!decide (V.bl b = V.bl b)) = false := by simp
theorem paired2 : Paired ClsV [V.ty "list", V.ty "tuple"] [Value.type "list", Value.type "tuple"] := .cons (.ty _) (.cons (.ty _) .nil)
/-! ## an error's field; what its class says stands in the reading -/
@[irreducible] def tXq (K : PySem.W.Frag) (a : Addr) (cls : Value) (d : Option Addr) (f : Str) (te : TE) : TE := fun σ H Q => te σ H fun x G => x = .ref a ∧ ∃ C, cls = .ref C ∧ XfC K C ∧ PySem.W.findIn K (.ref C) f = some none ∧ ∃ (dd : Addr) (fs : List (Str × V)) (v : V), d = some dd ∧ G dd = some (.xd fs) ∧ fs.lookup f = some v ∧ Q v G
theorem pe_xq {X : Cx} {a : Addr} {oe : Obj} {cls : Value} {d : Option Addr} {e : Expr} {te : TE} {pos : Pos} {n : Str} (hz : Zc cls d oe) (hf : ∃ vs, oe.data = .fields vs) (hpn : (a, oe) ∈ X.pn) (he : PE X e te) (hb : attributeBase e n X.env (eval e X.env) = eval e X.env := by rfl) :
    PE X (.Attribute e n pos) (tXq X.K a cls d n te) := by
  refine ⟨fun pins s σ H Q I h => ?_⟩
  unfold tXq at h
  refine attr_of hb (thn (he.run pins s σ H _ I h) fun u z1 ⟨x, G, I1, rx, ex, C, ec, T, hno, dd, fs, v, ed, ea, l, q⟩ => ?_)
  subst ex ec ed
  obtain rfl : u = Value.ref a := rx
  have ha := (I1.pin (a, oe) (List.mem_append_left _ hpn)).1
  obtain ⟨vs, hd⟩ := hf
  obtain ⟨mA, hns, hr⟩ := (show ObjOk X.prog X.w G z1.heap dd (.xd fs) from I1.hok dd _ ea)
  obtain ⟨od, ho, hl⟩ := lookIn_ns hns
  obtain ⟨u, hu, ru⟩ := RelO.some_of (v := v) (o := mA n) (by rw [← l]; exact hr n)
  have J : PySem.W.InstAt z1.heap a oe C (some od) := ⟨ha, hz.1, by unfold PySem.W.notCls; rw [hd] <;> rfl, by rw [hz.2]; exact ho⟩
  exact HandSPX.exc_get I1.kIn J T.ga T.gg T.exC (PySem.W.findObj_own T.hdC hno rfl (by rw [hl, hu])) (handed_of ru) ⟨v, G, I1.tok _, ru, q⟩
/-! ## a def of one parameter, called within an except suite with what is pinned there -/
theorem pe_callP {X : Cx} {k : Nat} {f : Addr} {nm name qual x0 : Str} {params : Arguments} {body : List Stmt} {scope : Scope} {dV kV doc pm cdv ct oc : Value} {an od : Option Addr} {osl : Array (Option Value)} {N : List Str} {sp : V → Hp → VK → Prop} {q pos : Pos} {e : Expr} {te : TE}
    (lk : X.K.lookup f = some ⟨oc, od, .func (PySem.W.fnOf name qual params body scope dV kV doc pm an cdv ct), osl⟩) (hcd : PySem.W.codeIn X.K cdv qual = true) (S : FnScope N [x0] scope) (p : Addr × Obj) (hp : p ∈ X.pn) (hr : L2H.RoomH (k + 1) X.A)
    (hg : Gl X nm) (hm : X.mg nm = some (.ref f)) (hk : PySem.W.keepIn X.K (.ref f) = true) (hb : Binds X.K (PySem.W.fnOf name qual params body scope dV kV doc pm an cdv ct) [x0] [])
    (hbody : ∀ (A : Around) (outer : List Env) (s : Shared) (H : Hp) (v : V) (Q : VK), L2H.RoomH k (A.deeper (envOfC qual scope s.heap.objs.size f cdv)) → sp v H Q → ∃ t, PSs (L2H.cxH CX0 X.prog X.w X.K X.mg X.base N qual scope f cdv A outer s H E0 p) body t ∧ t { nx := fun _ G => Q .non G, rt := Q } (L2.start N [v]) H)
    (he : PE X e te) (hdb : (nm == ("__debug__" : Str)) = false := by decide) (h1 : starEach [e] X.env = (false, eval e X.env) :: starEach [] X.env := by rfl) (h2 : (backTo pos (starEach [] X.env)).any (·.1) = false := by rfl) :
    PE X (.Call (.Name nm q) [e] [] pos) (fun σ H Q => tCons te tNil σ H fun vs G => ∃ v, vs = [v] ∧ sp v G Q) := by
  refine ⟨fun pins s σ H Q I h => ?_⟩
  refine wpAny_Call_Name_kw (ld_glob I hg hm ?_ hdb)
  refine PySem.W.callWith_K (h₀ := X.base) I.ok.mod.kin hk (thn ((pa_cons he pa_nil h1).run pos pins s σ H _ I h) fun us z ⟨vs, G, I1, r, v, ev, hsp⟩ => ⟨I1.kIn, ?_⟩) h1 h2
  subst ev
  obtain ⟨u, rfl, ru⟩ : ∃ u, us = [u] ∧ RelV v u := by
    cases r with
    | cons r1 r2 =>
      cases r2
      exact ⟨_, rfl, r1⟩
  have P1 := I1.pin p (List.mem_append_left _ hp)
  have hpin : L2H.PinOk X.stack G z p := ⟨P1.1, P1.2.1, fun hin => (List.mem_cons.mp (I1.stkSub p.1 hin)).elim P1.2.2.1 P1.2.2.2.1, P1.2.2.2.2⟩
  have run : codeAny (model X.prog X.w) X.A (.call (.ref f) ⟨[u], []⟩) (CR CX0 X.stack X.prog X.w G z Q E0) z := by
    have KX := I1.kIn
    have kinds : ∀ y ∈ [x0].zip [u], scope.names.lookup y.1 = some .local ∨ (scope.names.lookup y.1 = some .cell ∧ ((cellsFrom (z.heap.objs.size + 1) scope.names []).lookup y.1).isSome = true) := fun ⟨n, _⟩ hy => by
      rcases S.par n (List.of_mem_zip hy).1 with w1 | w1
      · exact .inl w1
      · exact .inr ⟨w1, PySem.W.cellsFrom_some _ _ _ (.inl w1)⟩
    have hbs := hb z [u] KX rfl
    refine codeAny_call_function hr.depth (KX _ _ lk) rfl S.co S.gen rfl (PySem.W.codeRec_of KX hcd) (hbs _ _ _ _ ?_)
    refine wpAny_newFunctionEnv_cells S.kind kinds fun env henv z2 x => ?_
    subst henv
    refine ⟨I1.nolimit.keeps x.toInCall.keep, codeAny_func ?_⟩
    obtain ⟨t, ht, hq⟩ := hbody X.A X.stack z G v Q (hr.deeper _) hsp
    have J := L2H.inv_startH (CX := CX0) (E := E0) S hpin I1.env0 (vs := [v]) rfl (.cons ru .nil) x
    refine wpAny_mono (ht.run [] z2 _ G _ J hq) (fun fl z3 hs => ?_) fun e z3 hs => hs
    cases fl with
    | ret u3 =>
      obtain ⟨v3, _, G3, J3, rv, q3⟩ := hs
      exact ⟨v3, G3, J3.os, J3.bare, J3.base, J3.hok, rv, q3⟩
    | next =>
      obtain ⟨_, G3, J3, q3⟩ := hs
      exact ⟨V.non, G3, J3.os, J3.bare, J3.base, J3.hok, rfl, q3⟩
    | brk =>
      obtain ⟨_, _, _, q3⟩ := hs
      exact q3.elim
    | cont =>
      obtain ⟨_, _, _, q3⟩ := hs
      exact q3.elim
  refine wpAny_call (codeAny_mono run fun res z4 hq => ?_)
  cases res with
  | error er => exact (show False from hq).elim
  | ok fl =>
    cases fl with
    | ret u4 => exact I1.after hq
    | next => exact hq.elim
    | brk => exact hq.elim
    | cont => exact hq.elim
/-! ## which field an error has -/
def tags5 : List V := [.str "CircularName", .str "InvalidName", .str "DuplicateName", .str "WrongKind", .str "UndefinedName"]
def tags2 : List V := [.str "InvalidText", .str "InvalidCommand"]
structure NoneTag (t : Str) : Prop where
  h5 : inV (.str t) tags5 = false
  h2 : inV (.str t) tags2 = false
  h3 : t ≠ "InvalidMachine"
  h4 : t ≠ "LimitReached"
  h6 : t ≠ "NameInUse"
  h7 : t ≠ "InvalidDocument"
def ErrAt (K : PySem.W.Frag) (G : Hp) (cls : Value) (d : Option Addr) (t : Str) : Prop := ∃ (C dd : Addr) (fs : List (Str × V)), cls = .ref C ∧ XfC K C ∧ PySem.W.findIn K (.ref C) "tag" = some none ∧ d = some dd ∧ G dd = some (.xd fs) ∧ fs.lookup ("tag" : Str) = some (V.str t)
theorem ErrAt.same {K : PySem.W.Frag} {G G' : Hp} {cls : Value} {d : Option Addr} {t : Str} (e : Same G G') (h : ErrAt K G cls d t) : ErrAt K G' cls d t := by
  obtain ⟨C, dd, fs, h1, h2, h3, h4, h5, h6⟩ := h
  exact ⟨C, dd, fs, h1, h2, h3, h4, e _ _ h5, h6⟩
theorem tag_read {K : PySem.W.Frag} {G : Hp} {cls : Value} {d : Option Addr} {t : Str} {a : Addr} {i : Nat} {σ : L2.St} {Q : VK} (h : ErrAt K G cls d t) (hs : σ[i]? = some (some (.ref a))) (q : Q (.str t) G) : tXq K a cls d "tag" (tVar i) σ G Q := by
  obtain ⟨C, dd, fs, h1, h2, h3, h4, h5, h6⟩ := h
  unfold tXq
  exact ⟨_, hs, rfl, C, h1, h2, h3, dd, fs, _, h4, h5, h6, q⟩
theorem ne_str {x y : Str} (h : x ≠ y) : decide (V.str x = V.str y) = false := by simp [h]
def spField (K : PySem.W.Frag) (a : Addr) (cls : Value) (d : Option Addr) : V → Hp → VK → Prop := fun v H Q => v = .ref a ∧ ∃ t, ErrAt K H cls d t ∧ NoneTag t ∧ ∀ G, Same H G → Q .non G
/-! ## _law_outcome(lambda: ..): what is wanted of the lambda -/
def OutWish (K : PySem.W.Frag) (c1 c2 c3 : Value) (Q : VK) : XK := fun cls d G => PySem.W.exmAny K cls [c1, c2, c3] = some true ∧ ∃ t, ErrAt K G cls d t ∧ NoneTag t ∧ ∀ G' p, Same G G' → G' p = none → Q (.ref p) (upd G' p (.tup [.str t, .non]))
def TTo (K : PySem.W.Frag) (c1 c2 c3 : Value) : (XK → Hp → VK → Prop) → Hp → VK → Prop := fun tl H Q => tl (OutWish K c1 c2 c3 Q) H (fun v G => (2 : Nat) ≤ sizeLine ∧ ∀ p, G p = none → Q (.ref p) (upd G p (.tup [.str "", v])))
theorem pss_ex {X : Cx} {ι : Type} {C : ι → Prop} {b : List Stmt} {t : ι → TS} (h : ∀ i, C i → PSs X b (t i)) : PSs X b (fun D σ H => ∃ i, C i ∧ t i D σ H) :=
  ⟨fun pins s σ H D I ⟨i, hi, w⟩ => (h i hi).run pins s σ H D I w⟩
/-! ## what is no list stays -/
def Keep (G G' : Hp) : Prop := ∀ b o, G b = some o → (∀ xs, o ≠ .lst xs) → G' b = some o
theorem Keep.of {G G' : Hp} (e : Same G G') : Keep G G' := fun b o h _ => e b o h
theorem Keep.trans {G G1 G2 : Hp} (a : Keep G G1) (b : Keep G1 G2) : Keep G G2 := fun c o h n => b c o (a c o h n) n
theorem Keep.put {G : Hp} {p : Addr} {xs : List V} {o : HO} (h : G p = some (.lst xs)) : Keep G (upd G p o) := fun b u q n => by
  rw [upd_ne (fun z => n xs (Option.some.inj (q.symm.trans (by rw [z]; exact h))))]
  exact q
theorem Keep.new {G : Hp} {p : Addr} {o : HO} (h : G p = none) : Keep G (upd G p o) := Keep.of (same_upd (Same.refl G) h)
theorem Keep.tabs {T : List (Addr × Str)} {G G' : Hp} (e : Keep G G') (h : LamX.Tabs T G) : LamX.Tabs T G' := fun p hp => by
  obtain ⟨ps, h1, h2, h3⟩ := h p hp
  refine ⟨ps, e _ _ h1 (fun xs z => nomatch z), h2, fun pos cv hc => ?_⟩
  obtain ⟨c, e1, e2⟩ := h3 pos cv hc
  exact ⟨c, e1, e _ _ e2 (fun xs z => by unfold LamX.CodeO at z; cases z)⟩
theorem RngAt.same {G G' : Hp} {p q : Addr} {ns : List Int} {i v sd : Int} (e : Same G G') (R : RngAt G p q ns i v sd) : RngAt G' p q ns i v sd := ⟨e _ _ R.at_p, e _ _ R.at_q, R.len, R.ok, R.ne⟩
theorem RngAt.extN {G G' : Hp} {p q : Addr} {ns : List Int} {i v sd : Int} (e : LamX.ExtN G G') (R : RngAt G p q ns i v sd) : RngAt G' p q ns i v sd :=
  ⟨e _ _ R.at_p (fun ps z => nomatch z), e _ _ R.at_q (fun ps z => nomatch z), R.len, R.ok, R.ne⟩
theorem not_true_if {A B : Prop} (h : B) : if (!true) = true then A else B := iteF h
theorem big_lt {n : Nat} {a : Int} (h : a.natAbs < 2 ^ n) (hn : n ≤ 8000) : a.natAbs < 2 ^ 8000 := Nat.lt_of_lt_of_le h (Nat.pow_le_pow_right (by decide) hn)
theorem log_small {m : Nat} (h : m ≤ 1000000000000000000000000000000) : m.log2 < 1920 := by
  have z : m < 2 ^ 100 := Nat.lt_of_le_of_lt h (by decide)
  exact Nat.lt_of_lt_of_le (PySem.Flt.log2_lt_of (by decide) z) (by decide)
theorem gcdI_one (a : Int) : gcdI a 1 = 1 := by unfold gcdI; rw [Int.natAbs_one, Nat.gcd_one_right]; rfl
theorem frN_one (a : Int) : frN a 1 = a := by unfold frN; rw [gcdI_one, if_neg (by decide), Int.ediv_one]
theorem frD_one (a : Int) : frD a 1 = 1 := by unfold frD; rw [gcdI_one, if_neg (by decide), Int.ediv_one]
theorem ediv_abs_le (a : Int) {g : Int} (hg : 0 < g) : (a / g).natAbs ≤ a.natAbs := by
  rcases Int.le_total 0 a with h | h
  · have h1 := Int.ediv_nonneg h (Int.le_of_lt hg)
    have h2 := Int.ediv_le_self g h
    omega
  · have h3 := Int.ediv_mul_le a (Int.ne_of_gt hg)
    have h4 : a / g ≤ 0 := by
      have := Int.ediv_le_ediv hg h
      rwa [Int.zero_ediv] at this
    have h5 := Int.lt_ediv_add_one_mul_self a hg
    -- a ≤ a / g
    have h6 : a ≤ a / g := by
      rcases Int.lt_or_le (a / g) a with q | q
      · exfalso
        have h7 : a / g + 1 ≤ a := by omega
        have h8 : (a / g + 1) * g ≤ (a / g + 1) * 1 ∨ (a / g + 1) > 0 := by
          rcases Int.lt_or_le 0 (a / g + 1) with z | z
          · exact .inr z
          · exact .inl (Int.mul_le_mul_of_nonpos_left z (by omega))
        rcases h8 with z | z
        · omega
        · omega
      · exact q
    omega
theorem frN_abs (a b : Int) (hb : b ≠ 0) : (frN a b).natAbs ≤ a.natAbs := by
  unfold frN
  have := ediv_abs_le (if b < 0 then -a else a) (gcdI_pos (a := a) hb)
  split at this <;> split <;> omega
theorem frD_abs (a b : Int) (hb : b ≠ 0) : (frD a b).natAbs ≤ b.natAbs := by
  unfold frD
  have := ediv_abs_le (if b < 0 then -b else b) (gcdI_pos (a := a) hb)
  split at this <;> split <;> omega
/-! ## what the head tells of a def, an error's class, the law's own code object -/
def DefAt (K : PySem.W.Frag) (x qual : Str) (st : Stmt) (f : Addr) : Prop := ∃ fd, Fun K x qual st f fd
theorem def_mk {K : PySem.W.Frag} {x qual : Str} {st : Stmt} {f : Addr} {oc kV doc pm cdv ct : Value} {od an : Option Addr} {osl : Array (Option Value)} (l : K.lookup f = some ⟨oc, od, .func (PySem.W.fnOf x qual (defArgs st) (defBody st) (defScope st) .none kV doc pm an cdv ct), osl⟩)
    (c : PySem.W.codeIn K cdv qual = true) (k : PySem.W.keepIn K (.ref f) = true) : DefAt K x qual st f := ⟨_, fun_mk l c k⟩
def DfltAt (K : PySem.W.Frag) (x : Str) (st : Stmt) (dv : V) (f : Addr) : Prop := ∃ fd, FunD K x x (defArgs st) (defBody st) (defScope st) [dv] [] f fd
theorem dflt_mk {K : PySem.W.Frag} {x : Str} {st : Stmt} {dv : V} {f TD : Addr} {oc kV doc pm cdv ct ot dw : Value} {od an odt : Option Addr} {osl slt : Array (Option Value)} {n : Nat} (l : K.lookup f = some ⟨oc, od, .func (PySem.W.fnOf x x (defArgs st) (defBody st) (defScope st) (.ref TD) kV doc pm an cdv ct), osl⟩)
    (c : PySem.W.codeIn K cdv x = true) (k : PySem.W.keepIn K (.ref f) = true) (t : K.lookup TD = some ⟨ot, odt, .seq #[dw] n, slt⟩) (r : RelV dv dw) : DfltAt K x st dv f :=
  ⟨_, ⟨⟨oc, od, .ref TD, kV, doc, pm, an, cdv, ct, osl, rfl, l, c, .inr ⟨by simp, TD, _, [dw], n, rfl, t, rfl, .cons r .nil⟩, .inl rfl⟩, k⟩⟩
theorem oex_mk {K : PySem.W.Frag} {C : Addr} {nm q : Str} {N : Addr} {bs bm : List Value} {sn : List Str} {sub : List Value} {ab : Bool} {col : Option Bool} {dd : Option Addr} {m0 m1 m2 m3 m5 : Option Value}
    (l : K.lookup C = some (excClassObj nm q C N bs bm true sn sub ab col dd m0 m1 m2 m3 m5 "ValueError.__new__")) (r : PySem.HandSPX.refsVE bm = true) (sa : PySem.W.findIn K (.ref C) "__setattr__" = some (some (.builtin "object.__setattr__")))
    (eC : PySem.W.subIn K (.ref C) (.type "BaseException") = some true) (tC : PySem.W.typeIn K (.ref C) = some (.type "type")) (kC : PySem.W.keepIn K (.ref C) = true) : OexC K C :=
  ⟨⟨nm, q, N, bs, bm, sn, sub, ab, col, dd, m0, m1, m2, m3, m5, l, r⟩, sa, eC, tC, kC⟩
/-- an own class that stands in an except clause, and whether the errors of the class at C are of it -/
structure ExmIn (K : PySem.W.Frag) (C D : Addr) (b : Bool) : Prop where
  e : PySem.W.subIn K (.ref D) (.type "BaseException") = some true
  d : PySem.W.hasDictIn K D = true
  t : PySem.W.typeIn K (.ref D) = some (.type "type")
  s : PySem.W.subIn K (.ref C) (.ref D) = some b
theorem exm_three {K : PySem.W.Frag} {C C1 C2 C3 : Addr} {b1 b2 b3 : Bool} (h1 : ExmIn K C C1 b1) (h2 : ExmIn K C C2 b2) (h3 : ExmIn K C C3 b3) (hb : (b1 || (b2 || (b3 || false))) = true) : PySem.W.exmAny K (.ref C) [.ref C1, .ref C2, .ref C3] = some true := by
  have e1 := PySem.W.exm_ref h1.e h1.d h1.t h1.s
  have e2 := PySem.W.exm_ref h2.e h2.d h2.t h2.s
  have e3 := PySem.W.exm_ref h3.e h3.d h3.t h3.s
  simp only [PySem.W.exmAny, e1, e2, e3, hb]
/-- the law's code object -/
structure CodeAt (K : PySem.W.Frag) (c PP : Addr) (vs : Array Value) (dd : Option Addr) (sl : Array (Option Value)) : Prop where
  l : K.lookup c = some ⟨.type "code", dd, .fields vs, sl⟩
  p : vs[11]? = some (.ref PP)
  g : ∃ file tf flags tg inF text tt, vs.getD 11 .none = .ref PP ∧ vs.getD 18 .none = .str file tf ∧ vs.getD 7 .none = .int flags tg ∧ vs.getD 9 .none = .bool inF ∧ vs.getD 10 .none = .int text tt
  n : K.lookup PP = none
theorem CodeAt.hd {K : PySem.W.Frag} {c PP : Addr} {vs : Array Value} {dd : Option Addr} {sl : Array (Option Value)} {h : Heap} (X : K.In h) (C : CodeAt K c PP vs dd sl) : PySem.W.CodeHd h c PP := by
  obtain ⟨file, tf, flags, tg, inF, text, tt, h1, h2, h3, h4, h5⟩ := C.g
  exact ⟨_, vs, file, tf, flags, tg, inF, text, tt, X _ _ C.l, rfl, rfl, C.p, h1, h2, h3, h4, h5, fun e => by
    have z := C.n
    rw [← e, C.l] at z
    cases z⟩
end Ew
namespace Ew
open PySem PySem.Spec PyProof.Rows L2
/-! ## sorted of a tuple of ints -/
section
variable {prog : Program} {w : World} {A : Around} {E : Value → Shared → Prop} {s : Shared}
theorem collect_tup {l : Addr} {vs : List Value} {o : Obj} {m : Nat} {Q : List Value → Shared → Prop} (ho : s.heap.get? l = some o) (hc : o.cls = .type "tuple") (hd : o.data = .seq vs.toArray m) (hsz : vs.length ≤ sizeLine)
    (h : Q vs { s with heap := (s.heap.push (seqObj "list" #[] 0)).update s.heap.objs.size (Obj.mapSeq (· ++ vs.toArray)) }) : wpAny (model prog w) A (collect (.ref l)) Q E s := by
  unfold collect
  refine wpAny_bind (wpAny_runValue (codeAny_builtin entry_proto_collect' ?_))
  show wpAny _ _ (do again (.builtin "list.__iadd__" ⟨[← newList [], .ref l], []⟩)) _ _ s
  refine wpAny_bind (wpAny_newList (wpAny_pure ⟨Code.quiet_builtin _ (by decide +kernel), codeAny_builtin entry_list_iadd' ?_⟩))
  show wpAny _ _ (Builtin.List.listExtendWith (.ref s.heap.objs.size) (.ref l) (.ref s.heap.objs.size)) _ _ { s with heap := s.heap.push (seqObj "list" #[] 0) }
  unfold Builtin.List.listExtendWith
  have hl : (s.heap.push (seqObj "list" #[] 0)).get? l = some o := Heap.get?_push_of_some _ ho
  refine wpAny_bind (wpAny_typeOf (T := "tuple") ⟨o, hl, hc⟩ ?_)
  rw [if_pos (by rw [show (Value.type "tuple" == Value.type "tuple") = true from rfl, Bool.or_true])]
  refine wpAny_bind (listItems_at hl hd ?_)
  refine wpAny_bind (listItems_at (xs := #[]) (n := 0) (Heap.get?_push_size _ rfl) rfl ?_)
  rw [if_neg (by simp)]
  refine wpAny_bind (listUpdate_at (xs := #[]) (n := 0) (Heap.get?_push_size _ rfl) rfl ?_ (Nat.zero_le _) (by show (#[] ++ vs.toArray).size ≤ sizeLine + 1; rw [Array.empty_append, List.size_toArray]; omega))
  refine wpAny_pure ?_
  refine wpAny_bind (wpAny_load (get?_update_seq (Heap.get?_push_size _ rfl) _) ?_)
  show wpAny _ _ (pure ((#[] : Array Value) ++ vs.toArray).toList) Q E _
  rw [Array.empty_append]
  exact wpAny_pure h
theorem sorted_tup {l : Addr} {vs : List Value} {ns : List Int} {o : Obj} {m : Nat} {Q : Value → Shared → Prop} (ho : s.heap.get? l = some o) (hc : o.cls = .type "tuple") (hd : o.data = .seq vs.toArray m) (hI : IntsAre vs ns) (h64 : vs.length < 64)
    (h : ∀ (out : Array Value) (ms : List Int), IntsAre out.toList ms → ms.Perm ns → ms.Pairwise (· ≤ ·) → Q (.ref (s.heap.objs.size + 1)) { s with heap := sortedAll s.heap vs out }) :
    wpAny (model prog w) A (call (.builtin "sorted") [.ref l]) Q E s := by
  refine Calls.call_function_entry kind_sorted plain_sorted entry_sorted (args_sorted1 _) ?_
  unfold Builtin.«sorted»
  refine wpAny_bind (m := checkCount "sorted" 1 1 _) (wpAny_pure ?_)
  have hz : vs.length ≤ sizeLine := by rw [sizeLine_eq]; omega
  refine wpAny_bind (collect_tup ho hc hd hz ?_)
  refine wpAny_bind (wpAny_newList ?_ hz)
  have e1 : ((s.heap.push (seqObj "list" #[] 0)).update s.heap.objs.size (Obj.mapSeq (· ++ vs.toArray))).objs.size = s.heap.objs.size + 1 := (Heap.size_update ..).trans (size_push' ..)
  have g1 : (((s.heap.push (seqObj "list" #[] 0)).update s.heap.objs.size (Obj.mapSeq (· ++ vs.toArray))).push (seqObj "list" vs.toArray 0)).get? (s.heap.objs.size + 1) = some (seqObj "list" vs.toArray 0) := by
    rw [← e1]
    exact Heap.get?_push_size _ rfl
  show wpAny _ _ _ _ _ { s with heap := ((s.heap.push (seqObj "list" #[] 0)).update s.heap.objs.size (Obj.mapSeq (· ++ vs.toArray))).push (seqObj "list" vs.toArray 0) }
  rw [e1]
  refine wpAny_bind (wpAny_holding (wpAny_call_entry slot_list_sort ⟨_, g1, rfl⟩ entry_list_sort (list_sort_tree g1 hI h64 fun out ms a1 a2 a3 => ⟨_, rfl, ?_⟩) (args_list_sort _)))
  exact wpAny_pure ⟨_, rfl, h out ms a1 a2 a3⟩
end
/-- sorted(x), x a list or a tuple of fewer than 64 ints -/
def rSortA (K : PySem.W.Frag) : List V → Hp → VK → Prop := fun vs H Q => ∃ (a : Addr) (ns : List Int), vs = [V.ref a] ∧ (SqL K H a (ns.map V.int) ∨ SqT K H a (ns.map V.int)) ∧ ns.length < 64 ∧
  ∀ (ms : List Int) (p : Addr), ms.Perm ns → ms.Pairwise (· ≤ ·) → H p = none → Q (.ref p) (upd H p (.lst (ms.map V.int)))
theorem cr_sortA {X : Cx} : CallR X (.builtin "sorted") (rSortA X.K) := by
  intro pins s σ H vs us Q I r h
  obtain ⟨a, ns, rfl, hs, h64, q⟩ := h
  rw [Vals.ref1 r]
  have fin : ∀ (its : List Value) (out : Array Value) (ms : List Int), IntsAre out.toList ms → ms.Perm ns → ms.Pairwise (· ≤ ·) → EP X pins σ Q (.ref (s.heap.objs.size + 1)) { s with heap := sortedAll s.heap its out } := fun its out ms h1 h2 h3 => by
    obtain ⟨ep, he⟩ := PyProof.Rows.sortedAll_at s.heap its out
    have hlen : (ms.map V.int).length ≤ sizeLine := by
      rw [List.length_map, h2.length_eq, sizeLine_eq]
      omega
    exact ⟨.ref _, upd H (s.heap.objs.size + 1) (.lst (ms.map V.int)), I.laid (t' := s.toks) (fun _ _ => PyProof.Rows.sortedAll_old) (Nat.le_succ _) ⟨hlen, out.toList, ep, vals_of_ints h1, he⟩, rfl, q ms _ h2 h3 (I.hok.fresh (Nat.le_succ _))⟩
  rcases hs with hs | hs
  · obtain ⟨its, rv, hl, _⟩ := I.list hs
    have hi := rv.ints
    exact PyProof.Rows.sorted_ints hl.isList hi (by rw [hi.length]; exact h64) fun out ms h1 h2 h3 => fin its out ms h1 h2 h3
  · obtain ⟨its, rv, ⟨o, ho, hc, m, hd⟩, _⟩ := I.tuple hs
    have hi := rv.ints
    exact sorted_tup ho hc hd hi (by rw [hi.length]; exact h64) fun out ms h1 h2 h3 => fin its out ms h1 h2 h3
/-! ## how many different ints -/
theorem nodup_le : ∀ {l m : List Int}, l.Nodup → (∀ k ∈ l, k ∈ m) → l.length ≤ m.length
  | [], _, _, _ => Nat.zero_le _
  | a :: l, m, hn, hs => by
    obtain ⟨h1, h2⟩ := List.nodup_cons.mp hn
    have ha : a ∈ m := hs a List.mem_cons_self
    have ih := nodup_le (l := l) (m := m.erase a) h2 fun k hk => (List.mem_erase_of_ne (fun (e : k = a) => h1 (by rw [← e]; exact hk))).mpr (hs k (List.mem_cons_of_mem _ hk))
    rw [List.length_erase_of_mem ha] at ih
    have := List.length_pos_of_mem ha
    show l.length + 1 ≤ m.length
    omega
theorem dup_cut : ∀ {m : List Int}, ¬ m.Nodup → ∃ r : List Int, r.length < m.length ∧ ∀ k ∈ m, k ∈ r
  | [], h => absurd List.nodup_nil h
  | a :: m, h => by
    by_cases ha : a ∈ m
    · exact ⟨m, Nat.lt_succ_self _, fun k hk => (List.mem_cons.mp hk).elim (fun e => e ▸ ha) id⟩
    · obtain ⟨r, h1, h2⟩ := dup_cut (m := m) fun hm => h (List.nodup_cons.mpr ⟨ha, hm⟩)
      exact ⟨a :: r, Nat.succ_lt_succ h1, fun k hk => (List.mem_cons.mp hk).elim (fun e => e ▸ List.mem_cons_self) fun z => List.mem_cons_of_mem _ (h2 k z)⟩
theorem count_iff {l m : List Int} (hn : l.Nodup) (h : ∀ k, k ∈ l ↔ k ∈ m) : l.length = m.length ↔ m.Nodup := by
  constructor
  · intro e
    by_cases hm : m.Nodup
    · exact hm
    · obtain ⟨r, h1, h2⟩ := dup_cut hm
      have := nodup_le hn fun k hk => h2 k ((h k).mp hk)
      omega
  · intro hm
    have h1 := nodup_le hn fun k hk => (h k).mp hk
    have h2 := nodup_le hm fun k hk => (h k).mpr hk
    omega
theorem dedup_spec : ∀ (xs acc : List Int), acc.Nodup → (xs.foldl step_dedup acc).Nodup ∧ ∀ k, k ∈ xs.foldl step_dedup acc ↔ k ∈ acc ∨ k ∈ xs
  | [], acc, h => ⟨h, fun k => by simp⟩
  | x :: xs, acc, h => by
    have e : step_dedup acc x = if acc.any (· == x) then acc else acc ++ [x] := rfl
    by_cases c : x ∈ acc
    · have e2 : step_dedup acc x = acc := by rw [e, if_pos (by simpa using c)]
      obtain ⟨h1, h2⟩ := dedup_spec xs acc h
      rw [List.foldl_cons, e2]
      refine ⟨h1, fun k => (h2 k).trans ?_⟩
      constructor
      · rintro (z | z)
        · exact .inl z
        · exact .inr (List.mem_cons_of_mem _ z)
      · rintro (z | z)
        · exact .inl z
        · rcases List.mem_cons.mp z with q | q
          · exact .inl (q ▸ c)
          · exact .inr q
    · have e2 : step_dedup acc x = acc ++ [x] := by rw [e, if_neg (by simpa using c)]
      have hn : (acc ++ [x]).Nodup := List.nodup_append.mpr ⟨h, by simp, fun a ha b hb z => c (by rw [← List.mem_singleton.mp hb, ← z]; exact ha)⟩
      obtain ⟨h1, h2⟩ := dedup_spec xs (acc ++ [x]) hn
      rw [List.foldl_cons, e2]
      refine ⟨h1, fun k => (h2 k).trans ?_⟩
      rw [List.mem_append, List.mem_singleton, List.mem_cons, or_assoc]
theorem range_getD (ns : List Int) : (List.range ns.length).map (fun i => ns.getD i 0) = ns := by
  apply List.ext_getElem
  · simp
  · intro i h1 h2
    simp [List.getD_eq_getElem?_getD, List.getElem?_eq_getElem h2]
theorem firstMet_iff (ns : List Int) : (firstMet (fun i => ns.getD i 0) ns.length).length = ns.length ↔ ns.Nodup := by
  unfold firstMet
  rw [range_getD]
  obtain ⟨h1, h2⟩ := dedup_spec ns [] List.nodup_nil
  exact count_iff h1 fun k => (h2 k).trans (by simp)
def tLenSetA (K : PySem.W.Frag) (ta : TE) : TE := fun σ H Q => ta σ H fun x G => ∃ (l : Addr) (ns : List Int), x = .ref l ∧ (SqL K G l (ns.map V.int) ∨ SqT K G l (ns.map V.int)) ∧ ns.length ≤ 4000 ∧ ∀ c : Nat, (c = ns.length ↔ ns.Nodup) → Q (.int (c : Int)) G
theorem pe_lenSetA {X : Cx} {a : Expr} {ta : TE} {p p2 q pos : Pos} (hg : Gl X "len") (hm : X.mg "len" = none) (hg2 : Gl X "set") (hm2 : X.mg "set" = none) (ha : PE X a ta) (hc : X.calm = true := by rfl)
    (na : starEach [a] X.env = (false, eval a X.env) :: starEach [] X.env := by rfl) : PE X (.Call (.Name "len" p) [.Call (.Name "set" p2) [a] [] q] [] pos) (tLenSetA X.K ta) := by
  refine ⟨fun pins s σ H Q I h => ?_⟩
  refine Call_ (ld_blt I hg hm boot_len (PyProof.Rows.callWith_builtin1 (PyProof.Rows.args_cons ?_ rfl) rfl rfl))
  refine Call_ (ld_blt I hg2 hm2 boot_set ?_)
  refine PyProof.Rows.callWith_type1 (PyProof.Rows.args_cons (thn (ha.run pins s σ H _ I h) fun v z ⟨x, G, I1, r1, l, ns, ex, hq, hl, k⟩ => PyProof.Rows.args_nil ?_) na) na rfl
  subst ex
  cases r1
  rcases hq with hq | hq
  · obtain ⟨its, r, pl, _⟩ := I1.list hq
    have hlen : its.toArray.size = ns.length := by rw [List.size_toArray, ← r.length, List.length_map]
    refine call_set_list (I1.ok.hd hc) pl.isList (by simpa using r.ints) (by rw [hlen]; unfold scanBound; omega) fun h2 tk hS hk => PyProof.Rows.args_nil ?_
    rw [hlen] at hS
    obtain ⟨o, es, ep, t, ho, hex, hd, _, _, hb, hf, hn⟩ := hS
    have I2 : Inv X pins σ G { z with heap := h2, toks := tk } := I1.kept fun b o e => hk b o (Heap.lt_size e) e
    exact call_len_set ho hex hd hf (by unfold scanBound at hb; omega) ⟨.int (es.size : Nat), G, I2.tok _, ⟨_, rfl⟩, k _ (by rw [hn]; exact firstMet_iff ns)⟩
  · obtain ⟨its, r, pt, _⟩ := I1.tuple hq
    refine call_set_tupI ns (I1.ok.hd hc) (show z.heap.IsTuple l its.toArray from pt) (by simpa using r.ints) (by unfold scanBound; omega) fun h2 tk c R hcn hk => PyProof.Rows.args_nil ?_
    obtain ⟨o, es, ep, t, ho, hex, hd, _, nd, hm3, hb, hf, hn, _⟩ := R
    have I2 : Inv X pins σ G { z with heap := h2, toks := tk } := I1.kept fun b o e => hk b o e
    refine call_len_set ho hex hd hf (by unfold scanBound at hb; omega) ⟨.int (es.size : Nat), G, I2.tok _, ⟨_, rfl⟩, k _ ?_⟩
    have q1 := count_iff nd (m := ns) fun j => (hm3 j).symm.trans (by simp)
    rw [List.length_map, Array.length_toList] at q1
    exact q1
/-! ## len(o) by an own __len__ -/
@[irreducible] def rLenO (C : Addr) (sp : Sp) : List V → Hp → VK → Prop := fun vs H Q => ∃ (a dx : Addr) (fs : List (Str × V)), vs = [.ref a] ∧ H a = some (.ins C dx fs) ∧ sp [.ref a] H (fun v G => ∃ n : Int, v = .int n ∧ 0 ≤ n ∧ n < 9223372036854775808 ∧ Q (.int n) G) E0
theorem cr_lenO {X : Cx} {C f : Addr} {fd : FuncData} {k : Nat} {ps : List Str} {sp : Sp} (hs : PySem.W.findIn X.K (.ref C) "__len__" = some (some (.ref f))) (hf : PySem.W.isFn X.K (.ref f) = true) (F : FnOk X.prog X.w X.K X.mg X.base CX0 k f fd ps sp) (hr : Room (k + 1) X.A) (hb : Binds X.K fd ps []) :
    CallR X (.builtin "len") (rLenO C sp) := by
  intro pins s σ H vs us Q I r h
  unfold rLenO at h
  obtain ⟨a, dx, fs, rfl, ha, hsp⟩ := h
  rw [Vals.ref1 r]
  obtain ⟨mA, O, _⟩ := ins_get I.hok ha
  obtain ⟨od, J, _⟩ := O.look
  obtain ⟨m, fr⟩ := I.fr
  refine PySem.W.len_K fr I.ok.mod.kin J hs hf ?_
  have hl : [Value.ref a].length = ps.length := F.len _ _ _ _ hsp
  have hbs := hb s [.ref a] I.kIn (by rw [List.append_nil]; exact hl)
  rw [List.append_nil] at hbs
  refine wpAny_call (codeAny_mono (F.run X.A.in1 X.stack s H ⟨[.ref a], []⟩ [.ref a] [.ref a] _ _ hr.in1 I.env0.in1 hbs (.cons rfl .nil) hsp) fun res z hq => ?_)
  cases res with
  | error er => exact (show False from hq).elim
  | ok fl =>
    cases fl with
    | ret u =>
      obtain ⟨v, G, J2, rv, n, ev, n0, n1, q⟩ := I.after hq
      subst ev
      obtain ⟨t, rfl⟩ := rv
      exact ⟨⟨n0, by have : (2 : Int) ^ 63 = 9223372036854775808 := by decide
                     omega⟩, .int n, G, J2.tok _, ⟨_, rfl⟩, q⟩
    | next => exact hq.elim
    | brk => exact hq.elim
    | cont => exact hq.elim
end Ew
namespace Ew
open PySem PySem.Spec PyProof.Rows L2
/-! ## the mathematics of digit sets; s ascends -/
def firstI (s : List Int) : Int := s.getD 0 0
def lastI (s : List Int) : Int := s.getD (s.length - 1) 0
structure AreS (b : Int) (s : List Int) : Prop where
  l2 : 2 ≤ s.length
  l24 : s.length ≤ 24
  nd : s.Nodup
  lo : -99 ≤ firstI s
  hi : lastI s ≤ 99
  gap : ∀ i, i + 1 < s.length → (s.getD (i + 1) 0 - s.getD i 0) * (b - 1) ≤ lastI s - firstI s
open Classical in
noncomputable def areB (b : Int) (s : List Int) : Bool := decide (AreS b s)
open Classical in
theorem areB_t {b : Int} {s : List Int} (h : AreS b s) : areB b s = true := by unfold areB; exact decide_eq_true h
open Classical in
theorem areB_f {b : Int} {s : List Int} (h : ¬ AreS b s) : areB b s = false := by unfold areB; exact decide_eq_false h
open Classical in
theorem areB_of {b : Int} {s : List Int} (h : areB b s = true) : AreS b s := by unfold areB at h; exact of_decide_eq_true h
/-- the ascending list of the same ints -/
def srt (s : List Int) : List Int := s.mergeSort (fun a b => decide (a ≤ b))
theorem srt_perm (s : List Int) : (srt s).Perm s := List.mergeSort_perm s _
theorem srt_asc (s : List Int) : (srt s).Pairwise (· ≤ ·) := by
  have h := List.pairwise_mergeSort (le := fun a b : Int => decide (a ≤ b)) (fun a b c h1 h2 => by simp at *; omega) (fun a b => by simp; omega) s
  exact h.imp fun h => by simpa using h
theorem srt_eq {m s : List Int} (hp : m.Perm s) (ha : m.Pairwise (· ≤ ·)) : m = srt s := PySem.W.ksm_same (hp.trans (srt_perm s).symm) ha (srt_asc s)
theorem srt_same {m s : List Int} (hp : m.Perm s) : srt m = srt s := srt_eq ((srt_perm m).trans hp) (srt_asc m)
theorem srt_len (s : List Int) : (srt s).length = s.length := (srt_perm s).length_eq
theorem getD_at {s : List Int} {i : Nat} (h : i < s.length) : s[i]? = some (s.getD i 0) := by
  rw [List.getD_eq_getElem?_getD, List.getElem?_eq_getElem h]
  rfl
theorem ints_at {s : List Int} {i : Nat} (h : i < s.length) : (s.map V.int)[i]? = some (.int (s.getD i 0)) := by
  rw [List.getElem?_map, getD_at h]
  rfl
theorem at_int {s : List Int} {z : Int} {i : Nat} (e : z = (i : Int)) (h : i < s.length) : atI (s.map V.int) z = some (.int (s.getD i 0)) := at_of e (ints_at h)
theorem at_first {s : List Int} (h : 0 < s.length) : atI (s.map V.int) 0 = some (.int (firstI s)) := at_int (i := 0) rfl h
theorem at_last {s : List Int} (h : 0 < s.length) : atI (s.map V.int) (-1) = some (.int (lastI s)) := by
  unfold atI ixN
  rw [List.length_map, if_neg (by decide), if_pos (by omega)]
  have e : ((-1 : Int) + (s.length : Int)).toNat = s.length - 1 := by omega
  rw [e]
  exact ints_at (by omega)
theorem asc_le {s : List Int} (h : s.Pairwise (· ≤ ·)) {i j : Nat} (hij : i ≤ j) (hj : j < s.length) : s.getD i 0 ≤ s.getD j 0 := PyProof.Rows.sorted_getD_le h hij hj
theorem first_le_last {s : List Int} (h : s.Pairwise (· ≤ ·)) (hl : 0 < s.length) : firstI s ≤ lastI s := asc_le h (Nat.zero_le _) (by omega)
theorem cut_tail (xs : List V) : cutV xs (some 1) none = xs.drop 1 := by
  unfold cutV
  have e := HT.sIx_nat xs.length 0 1
  rw [show (some (1 : Int)) = some ((1 : Nat) : Int) from rfl, e, HT.sIx_none]
  by_cases h : 1 ≤ xs.length
  · rw [Nat.min_eq_left h, List.take_of_length_le (by rw [List.length_drop]; omega)]
  · have z : xs = [] := List.eq_nil_of_length_eq_zero (by omega)
    subst z
    rfl
theorem walk_zipM {K : PySem.W.Frag} {a b : Addr} {xs ys : List V} {n : Nat} (hn : n = min xs.length ys.length) : Walk (RZ.ItzT K a b) n (fun H => SqT K H a xs ∧ SqT K H b ys) (YPair (fun i => xs[i]?) (fun i => ys[i]?)) :=
  ⟨fun i H hi q => ⟨xs, ys, xs[i]'(by omega), ys[i]'(by omega), q.1, q.2, List.getElem?_eq_getElem _, List.getElem?_eq_getElem _⟩, fun H q => ⟨xs, ys, q.1, q.2, by omega⟩,
    fun i H x G hi q ⟨T, u, v, e1, e2, e3, e4, e5⟩ => ⟨T, u, v, e1, e2, e3, e4 xs q.1, e5 ys q.2⟩⟩
/-- the gaps of s -/
def gapL (s : List Int) : List Int := (List.range (s.length - 1)).map fun i => s.getD (i + 1) 0 - s.getD i 0
theorem gapL_mem {s : List Int} {g : Int} : g ∈ gapL s ↔ ∃ i, i + 1 < s.length ∧ g = s.getD (i + 1) 0 - s.getD i 0 := by
  unfold gapL
  rw [List.mem_map]
  constructor
  · rintro ⟨i, hi, rfl⟩
    exact ⟨i, by have := List.mem_range.mp hi; omega, rfl⟩
  · rintro ⟨i, hi, rfl⟩
    exact ⟨i, List.mem_range.mpr (by omega), rfl⟩
theorem gapL_len (s : List Int) : (gapL s).length = s.length - 1 := by unfold gapL; simp
/-- by the widest gap -/
theorem gap_iff {b m : Int} {s : List Int} (hb : 2 ≤ b) (hm : m ∈ gapL s) (hg : ∀ g ∈ gapL s, g ≤ m) : m * (b - 1) ≤ lastI s - firstI s ↔ ∀ i, i + 1 < s.length → (s.getD (i + 1) 0 - s.getD i 0) * (b - 1) ≤ lastI s - firstI s := by
  constructor
  · intro h i hi
    have h1 := hg _ (gapL_mem.mpr ⟨i, hi, rfl⟩)
    exact Int.le_trans (Int.mul_le_mul_of_nonneg_right h1 (by omega)) h
  · intro h
    obtain ⟨i, hi, rfl⟩ := gapL_mem.mp hm
    exact h i hi
theorem mul_smallR {i j : Int} (h0 : -9223372036854775808 < j) (h1 : j < 9223372036854775808) : CMul i j := by
  have e : (2 : Int) ^ 64 = 18446744073709551616 := by decide
  refine .inr ⟨?_, ?_⟩
  · rw [e]; omega
  · rw [e]; omega
/-! ## all but p stays -/
def KeepBut (p : Addr) (H G : Hp) : Prop := ∀ c o, H c = some o → c ≠ p → G c = some o
theorem KeepBut.refl (p : Addr) (H : Hp) : KeepBut p H H := fun _ _ h _ => h
theorem KeepBut.trans {p : Addr} {H G G2 : Hp} (a : KeepBut p H G) (b : KeepBut p G G2) : KeepBut p H G2 := fun c o h n => b c o (a c o h n) n
theorem KeepBut.of {p : Addr} {H G : Hp} (e : Same H G) : KeepBut p H G := fun c o h _ => e c o h
theorem KeepBut.put {p : Addr} {H : Hp} {o : HO} : KeepBut p H (upd H p o) := fun c u h n => by rw [upd_ne n]; exact h
theorem KeepBut.new {p d : Addr} {H : Hp} {o : HO} (h : H d = none) : KeepBut p H (upd H d o) := KeepBut.of (same_upd (Same.refl H) h)
theorem RngAt.free {H : Hp} {p q : Addr} {ns : List Int} {i v sd : Int} (R : RngAt H p q ns i v sd) {d : Addr} (h : H d = none) : d ≠ p := fun e => by
  have z := R.at_p
  rw [← e, h] at z
  cases z
theorem KeepBut.free {p d : Addr} {H G : Hp} (e : KeepBut p H G) (n : d ≠ p) (h : G d = none) : H d = none := by
  cases z : H d with
  | none => rfl
  | some o =>
    have q := e d o z n
    rw [h] at q
    cases q
/-! ## the digits that a law draws -/
structure Dig (b : Int) (ds : List Int) : Prop where
  are : AreS b ds
  asc : ds.Pairwise (· < ·)
theorem asc_le_of {ds : List Int} (h : ds.Pairwise (· < ·)) : ds.Pairwise (· ≤ ·) := h.imp fun h => Int.le_of_lt h
theorem nodup_of {ds : List Int} (h : ds.Pairwise (· < ·)) : ds.Nodup := h.imp fun h => Int.ne_of_lt h
theorem srt_self {ds : List Int} (h : ds.Pairwise (· < ·)) : srt ds = ds := (srt_eq (List.Perm.refl ds) (asc_le_of h)).symm
def runL (front : Int) (n : Nat) : List Int := (List.range n).map fun (i : Nat) => front + (i : Int)
theorem runL_len (front : Int) (n : Nat) : (runL front n).length = n := by unfold runL; simp
theorem runL_at {front : Int} {n i : Nat} (h : i < n) : (runL front n).getD i 0 = front + (i : Int) := by
  unfold runL
  rw [List.getD_eq_getElem?_getD, List.getElem?_map, List.getElem?_range h]
  rfl
theorem runL_asc (front : Int) (n : Nat) : (runL front n).Pairwise (· < ·) := by
  unfold runL
  rw [List.pairwise_map]
  exact List.pairwise_lt_range.imp fun h => by omega
theorem runL_mem {front d : Int} {n : Nat} (h : d ∈ runL front n) : front ≤ d ∧ d < front + (n : Int) := by
  unfold runL at h
  obtain ⟨i, hi, rfl⟩ := List.mem_map.mp h
  have := List.mem_range.mp hi
  omega
theorem runL_dig {b front : Int} {n : Nat} (h2 : 2 ≤ b) (hb : b ≤ (n : Int)) (hn : n ≤ 24) (f0 : -99 ≤ front) (f1 : front + (n : Int) ≤ 100) : Dig b (runL front n) := by
  refine ⟨⟨by rw [runL_len]; omega, by rw [runL_len]; exact hn, nodup_of (runL_asc front n), ?_, ?_, ?_⟩, runL_asc front n⟩
  · unfold firstI
    rw [runL_at (by omega)]
    omega
  · unfold lastI
    rw [runL_len, runL_at (by omega)]
    omega
  · intro i hi
    rw [runL_len] at hi
    unfold lastI firstI
    rw [runL_len, runL_at hi, runL_at (by omega), runL_at (by omega), runL_at (by omega)]
    have e : front + ((i + 1 : Nat) : Int) - (front + (i : Int)) = 1 := by omega
    rw [e, Int.one_mul]
    omega
theorem getD_mem {ds : List Int} {i : Nat} (h : i < ds.length) : ds.getD i 0 ∈ ds := List.mem_of_getElem? (getD_at h)
theorem map_getD {ds : List Int} {f : Int → Int} {i : Nat} (h : i < ds.length) : (ds.map f).getD i 0 = f (ds.getD i 0) := by
  rw [List.getD_eq_getElem?_getD, List.getElem?_map, getD_at h]
  rfl
theorem scale_dig {b u : Int} {ds : List Int} (h : Dig b ds) (hu : u = 1 ∨ u = 2) (hr : ∀ d ∈ ds, -40 ≤ d ∧ d ≤ 40) : Dig b (ds.map (· * u)) := by
  have a := h.are
  have l0 : 0 < ds.length := by have := a.l2; omega
  have m0 := hr _ (getD_mem l0)
  have m1 := hr _ (getD_mem (show ds.length - 1 < ds.length by omega))
  have asc : (ds.map (· * u)).Pairwise (· < ·) := by
    rw [List.pairwise_map]
    exact h.asc.imp fun z => by rcases hu with rfl | rfl <;> omega
  refine ⟨⟨by rw [List.length_map]; exact a.l2, by rw [List.length_map]; exact a.l24, nodup_of asc, ?_, ?_, ?_⟩, asc⟩
  · unfold firstI
    rw [map_getD l0]
    rcases hu with rfl | rfl <;> omega
  · unfold lastI
    rw [List.length_map, map_getD (by omega)]
    rcases hu with rfl | rfl <;> omega
  · intro i hi
    rw [List.length_map] at hi
    have g := a.gap i hi
    unfold lastI firstI at g ⊢
    rw [List.length_map, map_getD hi, map_getD (by omega), map_getD (by omega), map_getD l0]
    rcases hu with rfl | rfl
    · simpa using g
    · have e : (ds.getD (i + 1) 0 * 2 - ds.getD i 0 * 2) * (b - 1) = 2 * ((ds.getD (i + 1) 0 - ds.getD i 0) * (b - 1)) := by
        rw [← Int.sub_mul, Int.mul_comm _ 2, Int.mul_assoc]
      rw [e]
      omega
theorem erase_asc {ds : List Int} (h : ds.Pairwise (· < ·)) (k : Nat) : (ds.eraseIdx k).Pairwise (· < ·) := h.sublist (List.eraseIdx_sublist ds k)
theorem erase_mem {ds : List Int} {d : Int} {k : Nat} (h : d ∈ ds.eraseIdx k) : d ∈ ds := (List.eraseIdx_sublist ds k).subset h
theorem map_erase : ∀ (ds : List Int) (k : Nat), (ds.map V.int).eraseIdx k = (ds.eraseIdx k).map V.int
  | [], _ => rfl
  | _ :: _, 0 => rfl
  | a :: l, k + 1 => by
    show V.int a :: (l.map V.int).eraseIdx k = V.int a :: (l.eraseIdx k).map V.int
    rw [map_erase l k]
theorem seqIx {r : Int} {n : Nat} (h0 : 0 ≤ r) (h1 : r < (n : Int)) : seqIndex? r n = some r.toNat := by
  unfold seqIndex?
  have e : ¬ r < 0 := by omega
  simp only [if_neg e]
  rw [if_pos (by simp [h0, h1])]
theorem erase_perm : ∀ (l : List Int) (k : Nat), k < l.length → (l.getD k 0 :: l.eraseIdx k).Perm l
  | [], k, h => absurd h (Nat.not_lt_zero k)
  | _ :: _, 0, _ => List.Perm.refl _
  | a :: l, k + 1, h => (List.Perm.swap a (l.getD k 0) (l.eraseIdx k)).trans ((erase_perm l k (Nat.lt_of_succ_lt_succ h)).cons a)
/-! ## ints as data -/
theorem layInts : ∀ ds : List Int, PyData.canLayAll0 (ds.map PyData.int) = true
  | [] => by simp [PyData.canLayAll0]
  | d :: ds => by
    have := layInts ds
    simp [PyData.canLayAll0, PyData.canLay0]
    simpa using this
theorem depInts : ∀ ds : List Int, PyData.depthAll (ds.map PyData.int) ≤ 1
  | [] => by simp [PyData.depthAll]
  | d :: ds => by
    have := depInts ds
    simp only [List.map_cons, PyData.depthAll, PyData.depth]
    omega
theorem shapedInts (ds : List Int) : SeqAt.shaped (.list (ds.map PyData.int)) = true := by
  unfold SeqAt.shaped
  have h1 : (PyData.list (ds.map PyData.int)).canLay0 = true := by
    have := layInts ds
    simpa [PyData.canLay0] using this
  have h2 : (PyData.list (ds.map PyData.int)).depth ≤ 64 := by
    have := depInts ds
    simp only [PyData.depth]
    omega
  rw [h1, decide_eq_true h2]
  rfl
theorem eqvInts (ds : List Int) : PyData.eqv (.list (ds.map PyData.int)) (.list (ds.map PyData.int)) = true := SeqAt.eqv_refl _ (SeqAt.canLay_of_shaped (shapedInts ds))
theorem dpInts {K : PySem.W.Frag} {H : Hp} : ∀ ds : List Int, DpAll K H (ds.map V.int) (ds.map PyData.int)
  | [] => .nil
  | d :: ds => .cons (.int d) (dpInts ds)
/-- tuple(x) -/
def rTup (K : PySem.W.Frag) : List V → Hp → VK → Prop := fun xs H Q => ∃ p ys, xs = [.ref p] ∧ ((SqL K H p ys ∧ ∀ l, H l = none → Q (.ref l) (upd H l (.tup ys))) ∨ (SqT K H p ys ∧ Q (.ref p) H))
theorem cr_tup {X : Cx} : CallR X (.type "tuple") (rTup X.K) := call_tuple_of
theorem same_three {K : PySem.W.Frag} {G : Hp} {n : Nat} {s t : Addr} {x0 x1 x2 y0 y1 y2 : V} (hs : G s = some (.lst [x0, x1, x2])) (ht : G t = some (.lst [y0, y1, y2])) (h0 : SameN K G n x0 y0) (h1 : SameN K G n x1 y1) (h2 : SameN K G n x2 y2) : SameN K G (n + 1) (.ref s) (.ref t) := by
  refine .inr ⟨s, t, _, _, rfl, rfl, .inl ⟨SqL.of hs, SqL.of ht⟩, rfl, (by show 3 ≤ 1000; decide), fun i u v hu hv => ?_⟩
  match i, hu, hv with
  | 0, hu, hv => cases hu; cases hv; exact h0
  | 1, hu, hv => cases hu; cases hv; exact h1
  | 2, hu, hv => cases hu; cases hv; exact h2
  | i + 3, hu, hv => cases hu
theorem same_ints {K : PySem.W.Frag} {G : Hp} {n : Nat} {s t : Addr} {ds : List Int} (hs : G s = some (.tup (ds.map V.int))) (ht : G t = some (.tup (ds.map V.int))) (hl : ds.length ≤ 1000) : SameN K G (n + 2) (.ref s) (.ref t) := by
  refine .inr ⟨s, t, _, _, rfl, rfl, .inr ⟨SqT.of hs, SqT.of ht⟩, rfl, by rw [List.length_map]; exact hl, fun i u v hu hv => ?_⟩
  obtain ⟨c, rfl⟩ := map_int_at hu
  rw [hu] at hv
  cases hv
  exact .inl ⟨rfl, rfl⟩
theorem noneBase : NoneTag "InvalidBase" := ⟨by decide +kernel, by decide +kernel, by decide +kernel, by decide +kernel, by decide +kernel, by decide +kernel⟩
theorem noneDigits : NoneTag "InvalidDigits" := ⟨by decide +kernel, by decide +kernel, by decide +kernel, by decide +kernel, by decide +kernel, by decide +kernel⟩
theorem KeepBut.keep {p : Addr} {H G : Hp} {xs : List V} (h : H p = some (.lst xs)) (e : KeepBut p H G) : Keep H G := fun b o hb n => e b o hb fun z => n xs (Option.some.inj (hb.symm.trans (by rw [z]; exact h)))
theorem KeepBut.tabs {T : List (Addr × Str)} {p : Addr} {H G : Hp} {xs : List V} (h : H p = some (.lst xs)) (e : KeepBut p H G) (t : LamX.Tabs T H) : LamX.Tabs T G := (e.keep h).tabs t
end Ew
namespace Ew
open PySem PySem.Spec PyProof.Rows L2
/-! ## fractions in lowest terms -/
structure Low (n d : Int) : Prop where
  cop : Nat.gcd n.natAbs d.natAbs = 1
  pos : 0 < d
theorem gcdI_dvd_left (a b : Int) : ∃ n : Int, a = n * gcdI a b := by
  obtain ⟨k, hk⟩ := Nat.gcd_dvd_left a.natAbs b.natAbs
  unfold gcdI
  rcases Int.natAbs_eq a with e | e
  · exact ⟨(k : Int), by rw [e, Int.natAbs_natCast]; rw [← Int.natCast_mul, Nat.mul_comm, ← hk]⟩
  · refine ⟨-(k : Int), ?_⟩
    have h2 : (a.natAbs : Int) = (k : Int) * ((Nat.gcd a.natAbs b.natAbs : Nat) : Int) := by rw [← Int.natCast_mul, Nat.mul_comm, ← hk]
    rw [Int.neg_mul, ← h2]
    exact e
theorem gcdI_comm (a b : Int) : gcdI a b = gcdI b a := by unfold gcdI; rw [Nat.gcd_comm]
theorem fr_spec (a : Int) {b : Int} (hb : b ≠ 0) : Low (frN a b) (frD a b) ∧ frN a b * b = a * frD a b := by
  have gp := gcdI_pos (a := a) hb
  obtain ⟨n, hn⟩ := gcdI_dvd_left a b
  obtain ⟨d, hd⟩ := gcdI_dvd_left b a
  rw [gcdI_comm b a] at hd
  have g0 : gcdI a b ≠ 0 := by omega
  have cop : Nat.gcd n.natAbs d.natAbs = 1 := by
    have e1 : a.natAbs = n.natAbs * (gcdI a b).natAbs := by rw [← Int.natAbs_mul, ← hn]
    have e2 : b.natAbs = d.natAbs * (gcdI a b).natAbs := by rw [← Int.natAbs_mul, ← hd]
    have e3 : (gcdI a b).natAbs = Nat.gcd a.natAbs b.natAbs := by unfold gcdI; exact Int.natAbs_natCast _
    have e4 : Nat.gcd (n.natAbs * (gcdI a b).natAbs) (d.natAbs * (gcdI a b).natAbs) = Nat.gcd n.natAbs d.natAbs * (gcdI a b).natAbs := Nat.gcd_mul_right _ _ _
    rw [← e1, ← e2, ← e3] at e4
    have e5 : 0 < (gcdI a b).natAbs := by omega
    have e6 : 1 * (gcdI a b).natAbs = Nat.gcd n.natAbs d.natAbs * (gcdI a b).natAbs := by rw [Nat.one_mul]; exact e4
    exact (Nat.eq_of_mul_eq_mul_right e5 e6).symm
  by_cases c : b < 0
  · have e1 : frN a b = -n := by
      unfold frN
      rw [if_pos c]
      have : -a = -n * gcdI a b := by rw [Int.neg_mul, ← hn]
      rw [this, Int.mul_ediv_cancel _ g0]
    have e2 : frD a b = -d := by
      unfold frD
      rw [if_pos c]
      have : -b = -d * gcdI a b := by rw [Int.neg_mul, ← hd]
      rw [this, Int.mul_ediv_cancel _ g0]
    rw [e1, e2]
    refine ⟨⟨by rw [Int.natAbs_neg, Int.natAbs_neg]; exact cop, ?_⟩, ?_⟩
    · rcases Int.lt_or_le 0 (-d) with z | z
      · exact z
      · exfalso
        have : 0 ≤ d * gcdI a b := Int.mul_nonneg (by omega) (by omega)
        omega
    · calc -n * b = -(n * b) := Int.neg_mul n b
        _ = -(n * (d * gcdI a b)) := by rw [← hd]
        _ = -((n * gcdI a b) * d) := by congr 1; ac_rfl
        _ = -(a * d) := by rw [← hn]
        _ = a * -d := (Int.mul_neg a d).symm
  · have e1 : frN a b = n := by
      unfold frN
      rw [if_neg c]
      conv => lhs; lhs; rw [hn]
      exact Int.mul_ediv_cancel _ g0
    have e2 : frD a b = d := by
      unfold frD
      rw [if_neg c]
      conv => lhs; lhs; rw [hd]
      exact Int.mul_ediv_cancel _ g0
    rw [e1, e2]
    refine ⟨⟨cop, ?_⟩, ?_⟩
    · rcases Int.lt_or_le 0 d with z | z
      · exact z
      · exfalso
        have : d * gcdI a b ≤ 0 := Int.mul_nonpos_of_nonpos_of_nonneg z (by omega)
        omega
    · calc n * b = n * (d * gcdI a b) := by rw [← hd]
        _ = (n * gcdI a b) * d := by ac_rfl
        _ = a * d := by rw [← hn]
theorem low_uniq {n d m e : Int} (h1 : Low n d) (h2 : Low m e) (h : n * e = m * d) : n = m ∧ d = e := by
  have hn : n.natAbs * e.natAbs = m.natAbs * d.natAbs := by rw [← Int.natAbs_mul, ← Int.natAbs_mul, h]
  have d1 : d.natAbs ∣ e.natAbs := by
    have : d.natAbs ∣ n.natAbs * e.natAbs := ⟨m.natAbs, by rw [hn, Nat.mul_comm]⟩
    exact Nat.Coprime.dvd_of_dvd_mul_left (Nat.Coprime.symm h1.cop) this
  have d2 : e.natAbs ∣ d.natAbs := by
    have : e.natAbs ∣ m.natAbs * d.natAbs := ⟨n.natAbs, by rw [← hn, Nat.mul_comm]⟩
    exact Nat.Coprime.dvd_of_dvd_mul_left (Nat.Coprime.symm h2.cop) this
  have de := Nat.dvd_antisymm d1 d2
  have p1 := h1.pos
  have p2 := h2.pos
  have e1 : d = e := by omega
  subst e1
  exact ⟨Int.eq_of_mul_eq_mul_right (by omega) h, rfl⟩
theorem fr_eq {a b c d : Int} (hb : b ≠ 0) (hd : d ≠ 0) (h : a * d = c * b) : frN a b = frN c d ∧ frD a b = frD c d := by
  obtain ⟨l1, e1⟩ := fr_spec a hb
  obtain ⟨l2, e2⟩ := fr_spec c hd
  refine low_uniq l1 l2 ?_
  refine Int.eq_of_mul_eq_mul_right (a := b * d) (Int.mul_ne_zero hb hd) ?_
  calc frN a b * frD c d * (b * d) = (frN a b * b) * (frD c d * d) := by ac_rfl
    _ = (a * frD a b) * (frD c d * d) := by rw [e1]
    _ = (a * d) * (frD a b * frD c d) := by ac_rfl
    _ = (c * b) * (frD a b * frD c d) := by rw [h]
    _ = (c * frD c d) * (frD a b * b) := by ac_rfl
    _ = (frN c d * d) * (frD a b * b) := by rw [e2]
    _ = frN c d * frD a b * (b * d) := by ac_rfl
/-! ## rows -/
def rowN (b : Int) (rs : List Int) : Int := rs.foldl (fun t d => t * b + d) 0
theorem rowN_snoc (b : Int) (rs : List Int) (d : Int) : rowN b (rs ++ [d]) = rowN b rs * b + d := by unfold rowN; rw [List.foldl_append]; rfl
theorem take_snoc {rs : List Int} {i : Nat} (h : i < rs.length) : rs.take (i + 1) = rs.take i ++ [rs.getD i 0] := by
  rw [List.take_add_one, Ew.getD_at h]
  rfl
theorem pow_nat (b : Int) (n : Nat) : (b ^ n).natAbs = b.natAbs ^ n := Int.natAbs_pow b n
theorem pow_small {b : Int} {n : Nat} (h2 : 2 ≤ b) (h10 : b ≤ 10) (hn : n ≤ 1000) : (b ^ n).natAbs < 2 ^ 8000 := by
  rw [pow_nat]
  have h1 : b.natAbs ^ n ≤ (2 ^ 4) ^ n := Nat.pow_le_pow_left (by omega) n
  rw [← Nat.pow_mul] at h1
  exact Nat.lt_of_le_of_lt h1 (Nat.pow_lt_pow_right (by decide) (by omega))
theorem pow_pos' {b : Int} (h2 : 2 ≤ b) (n : Nat) : b ^ n ≠ 0 := by
  have : 0 < b ^ n := Int.pow_pos (by omega)
  omega
/-- rs is a row of the digits s -/
structure HasR (s rs : List Int) : Prop where
  len : rs.length ≤ 200
  mem : ∀ d ∈ rs, d ∈ s
open Classical in
noncomputable def hasB (s rs : List Int) : Bool := decide (HasR s rs)
open Classical in
theorem hasB_t {s rs : List Int} (h : HasR s rs) : hasB s rs = true := by unfold hasB; exact decide_eq_true h
open Classical in
theorem hasB_f {s rs : List Int} (h : ¬ HasR s rs) : hasB s rs = false := by unfold hasB; exact decide_eq_false h
theorem flatInts (s : List Int) : (s.map V.int).all flatV = true := by
  rw [List.all_eq_true]
  intro x hx
  obtain ⟨d, _, rfl⟩ := List.mem_map.mp hx
  rfl
theorem inInts (d : Int) (s : List Int) : inV (.int d) (s.map V.int) = decide (d ∈ s) := by
  unfold inV
  by_cases h : d ∈ s
  · rw [decide_eq_true h, List.any_eq_true]
    exact ⟨.int d, List.mem_map.mpr ⟨d, h, rfl⟩, by simp [eqV]⟩
  · rw [decide_eq_false h, Bool.eq_false_iff]
    intro z
    obtain ⟨x, hx, e⟩ := List.any_eq_true.mp z
    obtain ⟨c, hc, rfl⟩ := List.mem_map.mp hx
    have : c = d := by simpa [eqV] using e
    exact h (this ▸ hc)
end Ew
namespace Ew
open PySem PySem.Spec PyProof.Rows L2
theorem pow9 {b : Int} {n : Nat} (h2 : 2 ≤ b) (h10 : b ≤ 10) (hn : n ≤ 9) : 0 < b ^ n ∧ b ^ n ≤ 1000000000 := by
  refine ⟨Int.pow_pos (by omega), ?_⟩
  have h1 : b.natAbs ^ n ≤ 10 ^ n := Nat.pow_le_pow_left (by omega) n
  have h2' : 10 ^ n ≤ 10 ^ 9 := Nat.pow_le_pow_right (by decide) hn
  have h3 : (b ^ n).natAbs ≤ 10 ^ 9 := by rw [Int.natAbs_pow]; omega
  have h4 : (10 : Nat) ^ 9 = 1000000000 := by decide
  omega
theorem rowN_le {b : Int} (h2 : 2 ≤ b) : ∀ (n : Nat) (rs : List Int), rs.length = n → (∀ d ∈ rs, -99 ≤ d ∧ d ≤ 99) → rowN b rs ≤ 100 * (b ^ n - 1) ∧ -(100 * (b ^ n - 1)) ≤ rowN b rs
  | 0, rs, hl, _ => by
    have : rs = [] := List.eq_nil_of_length_eq_zero hl
    subst this
    simp [rowN]
  | n + 1, rs, hl, hd => by
    have e := take_snoc (rs := rs) (i := n) (by omega)
    rw [List.take_of_length_le (by omega)] at e
    have l1 : (rs.take n).length = n := by rw [List.length_take]; omega
    have ih := rowN_le h2 n (rs.take n) l1 fun d h => hd d (List.mem_of_mem_take h)
    have hm : rs.getD n 0 ∈ rs := by
      rw [List.getD_eq_getElem?_getD, List.getElem?_eq_getElem (by omega : n < rs.length)]
      exact List.getElem_mem _
    have hx := hd _ hm
    rw [e, rowN_snoc, Int.pow_succ]
    generalize rowN b (rs.take n) = t at ih
    have eq : 100 * (b ^ n * b - 1) = 100 * (b ^ n - 1) * b + (100 * b - 100) := by rw [Int.mul_sub, Int.mul_sub, Int.sub_mul, Int.mul_assoc]; omega
    generalize 100 * (b ^ n - 1) = c at ih eq
    rw [eq]
    have u1 : t * b ≤ c * b := Int.mul_le_mul_of_nonneg_right ih.1 (by omega)
    have u2 : (-c) * b ≤ t * b := Int.mul_le_mul_of_nonneg_right ih.2 (by omega)
    rw [Int.neg_mul] at u2
    omega
theorem frN_le {a b : Int} (hb : 0 < b) : (frN a b).natAbs ≤ a.natAbs ∧ (frD a b).natAbs ≤ b.natAbs := by
  unfold frN frD
  rw [if_neg (by omega), if_neg (by omega)]
  exact ⟨Int.natAbs_ediv_le_natAbs _ _, Int.natAbs_ediv_le_natAbs _ _⟩
theorem sum_step {b d : Int} {i : Nat} (h2 : 2 ≤ b) (R : Int) :
    frN (frN R (b ^ i) * frD d (b ^ (i + 1)) + frN d (b ^ (i + 1)) * frD R (b ^ i)) (frD R (b ^ i) * frD d (b ^ (i + 1))) = frN (R * b + d) (b ^ (i + 1)) ∧
    frD (frN R (b ^ i) * frD d (b ^ (i + 1)) + frN d (b ^ (i + 1)) * frD R (b ^ i)) (frD R (b ^ i) * frD d (b ^ (i + 1))) = frD (R * b + d) (b ^ (i + 1)) := by
  obtain ⟨l1, e1⟩ := fr_spec R (pow_pos' h2 i)
  obtain ⟨l2, e2⟩ := fr_spec d (pow_pos' h2 (i + 1))
  have p1 := l1.pos
  have p2 := l2.pos
  refine fr_eq (Int.mul_ne_zero (by omega) (by omega)) (pow_pos' h2 _) ?_
  have ep : b ^ (i + 1) = b ^ i * b := Int.pow_succ b i
  generalize frN R (b ^ i) = N at *
  generalize frD R (b ^ i) = D at *
  generalize frN d (b ^ (i + 1)) = N' at *
  generalize frD d (b ^ (i + 1)) = D' at *
  calc (N * D' + N' * D) * b ^ (i + 1) = N * D' * b ^ (i + 1) + (N' * b ^ (i + 1)) * D := by rw [Int.add_mul]; congr 1; ac_rfl
    _ = (N * b ^ i) * (b * D') + (N' * b ^ (i + 1)) * D := by congr 1; rw [ep]; ac_rfl
    _ = (R * D) * (b * D') + (d * D') * D := by rw [e1, e2]
    _ = (R * b + d) * (D * D') := by rw [Int.add_mul]; congr 1 <;> ac_rfl
theorem fr_zero (b : Int) : frN (rowN b []) (b ^ 0) = 0 ∧ frD (rowN b []) (b ^ 0) = 1 := by
  rw [Int.pow_zero, show rowN b [] = 0 from rfl]
  exact ⟨by decide, by decide⟩
theorem shapedTup (ds : List Int) : SeqAt.shaped (.tuple (ds.map PyData.int)) = true := by
  unfold SeqAt.shaped
  have h1 : (PyData.tuple (ds.map PyData.int)).canLay0 = true := by
    have := layInts ds
    simpa [PyData.canLay0] using this
  have h2 : (PyData.tuple (ds.map PyData.int)).depth ≤ 64 := by
    have := depInts ds
    simp only [PyData.depth]
    omega
  rw [h1, decide_eq_true h2]
  rfl
theorem eqvTup (ds : List Int) : PyData.eqv (.tuple (ds.map PyData.int)) (.tuple (ds.map PyData.int)) = true := SeqAt.eqv_refl _ (SeqAt.canLay_of_shaped (shapedTup ds))
theorem dig_le {b : Int} {ds : List Int} (h : Dig b ds) : ∀ d ∈ ds, -99 ≤ d ∧ d ≤ 99 := by
  intro d hd
  obtain ⟨i, hi, rfl⟩ := List.getElem_of_mem hd
  have e : ds[i] = ds.getD i 0 := by rw [List.getD_eq_getElem?_getD, List.getElem?_eq_getElem hi]; rfl
  have a1 := asc_le (asc_le_of h.asc) (Nat.zero_le i) hi
  have a2 := asc_le (asc_le_of h.asc) (i := i) (j := ds.length - 1) (by omega) (by omega)
  have := h.are.lo
  have := h.are.hi
  unfold firstI at *
  unfold lastI at *
  rw [e]
  omega
theorem noneRow : NoneTag "InvalidRow" := ⟨by decide +kernel, by decide +kernel, by decide +kernel, by decide +kernel, by decide +kernel, by decide +kernel⟩
theorem cut9 (xs : List V) : cutV xs none (some 9) = xs.take 9 := by
  unfold cutV
  have e := HT.sIx_nat xs.length xs.length 9
  rw [show (some (9 : Int)) = some ((9 : Nat) : Int) from rfl, e, HT.sIx_none]
  simp
theorem whole9 {xs : List V} (h : HT.sIx xs.length 0 none = 0 ∧ HT.sIx xs.length xs.length (some (9 : Int)) = xs.length) : xs.take 9 = xs := by
  have e := HT.sIx_nat xs.length xs.length 9
  have z := h.2
  rw [show (some (9 : Int)) = some ((9 : Nat) : Int) from rfl, e] at z
  exact List.take_of_length_le (by omega)
end Ew
namespace Ew
open PySem PySem.Spec PyProof.Rows L2
/-! ## repr(o) by an own __repr__ -/
@[irreducible] def rReprO (C : Addr) (sp : Sp) : List V → Hp → VK → Prop := fun vs H Q => ∃ (a dx : Addr) (fs : List (Str × V)), vs = [.ref a] ∧ H a = some (.ins C dx fs) ∧ sp [.ref a] H (fun v G => ∃ z : Str, v = .str z ∧ Q (.str z) G) E0
theorem cr_reprO {X : Cx} {C f : Addr} {fd : FuncData} {k : Nat} {ps : List Str} {sp : Sp} (hs : PySem.W.findIn X.K (.ref C) "__repr__" = some (some (.ref f))) (hf : PySem.W.isFn X.K (.ref f) = true) (F : FnOk X.prog X.w X.K X.mg X.base CX0 k f fd ps sp) (hr : Room (k + 1) X.A) (hb : Binds X.K fd ps []) :
    CallR X (.builtin "repr") (rReprO C sp) := by
  intro pins s σ H vs us Q I r h
  unfold rReprO at h
  obtain ⟨a, dx, fs, rfl, ha, hsp⟩ := h
  rw [Vals.ref1 r]
  obtain ⟨mA, O, _⟩ := ins_get I.hok ha
  obtain ⟨od, J, _⟩ := O.look
  obtain ⟨m, fr⟩ := I.fr
  refine PySem.W.repr_K hr.in1.units0 fr I.ok.mod.kin J hs hf ?_
  have hl : [Value.ref a].length = ps.length := F.len _ _ _ _ hsp
  have hbs := hb s [.ref a] I.kIn (by rw [List.append_nil]; exact hl)
  rw [List.append_nil] at hbs
  refine wpAny_call (codeAny_mono (F.run X.A.in1 X.stack s H ⟨[.ref a], []⟩ [.ref a] [.ref a] _ _ hr.in1 I.env0.in1 hbs (.cons rfl .nil) hsp) fun res z hq => ?_)
  cases res with
  | error er => exact (show False from hq).elim
  | ok fl =>
    cases fl with
    | ret u =>
      obtain ⟨v, G, J2, rv, n, ev, q⟩ := I.after hq
      subst ev
      obtain ⟨t, rfl⟩ := rv
      exact ⟨.str n, G, J2, ⟨_, rfl⟩, q⟩
    | next => exact False.elim hq
    | brk => exact False.elim hq
    | cont => exact False.elim hq
/-! ## == by an own __eq__, both answers -/
/-- what stands right of ==: an instance of the class, or a thing of another type -/
def RightOf (K : PySem.W.Frag) (C : Addr) (H : Hp) (y : V) : Prop := (∃ (b dy : Addr) (gs : List (Str × V)), y = .ref b ∧ H b = some (.ins C dy gs)) ∨ ∃ t, TyX K H y t ∧ PySem.W.notFirst K C t = true
def rEqO (K : PySem.W.Frag) (C : Addr) (sp : Sp) : R2 := fun x y H Q => ∃ (a dx : Addr) (fs : List (Str × V)), x = .ref a ∧ H a = some (.ins C dx fs) ∧ RightOf K C H y ∧ sp [x, y] H (fun v G => ∃ b : Bool, v = .bl b ∧ Q (.bl b) G) E0
theorem op_eqO {X : Cx} {C f : Addr} {fd : FuncData} {k : Nat} {ps : List Str} {sp : Sp} (hs : PySem.W.findIn X.K (.ref C) "__eq__" = some (some (.ref f))) (hf : PySem.W.isFn X.K (.ref f) = true) (F : FnOk X.prog X.w X.K X.mg X.base CX0 k f fd ps sp) (hr : Room k X.A) (hb : Binds X.K fd ps []) :
    OpR X (compareOp .Eq) (rEqO X.K C sp) := by
  intro pins s σ H x y v u Q I rx ry h
  obtain ⟨a, dx, fs, rfl, ha, hy, hsp⟩ := h
  cases rx
  show wpAny (model X.prog X.w) X.A (richCompare .Eq (.ref a) u) (EP X pins σ Q) X.xe s
  obtain ⟨mA, O, _⟩ := ins_get I.hok ha
  obtain ⟨od, J, _⟩ := O.look
  obtain ⟨m, fr⟩ := I.fr
  have hl : [Value.ref a, u].length = ps.length := F.len _ _ _ _ hsp
  have hbs := hb s [.ref a, u] I.kIn (by rw [List.append_nil]; exact hl)
  rw [List.append_nil] at hbs
  have body : wpAny (model X.prog X.w) X.A (call (.ref f) [.ref a, u]) (PySem.W.CmpBack (EP X pins σ Q)) X.xe s := by
    refine wpAny_call (codeAny_mono (F.run X.A X.stack s H ⟨[.ref a, u], []⟩ [.ref a, u] _ _ _ hr I.env0 hbs (.cons (show L2.RelV (.ref a) (.ref a) from rfl) (.cons ry .nil)) hsp) fun res z hq => ?_)
    cases res with
    | error er => exact (show False from hq).elim
    | ok fl =>
      cases fl with
      | ret u =>
        obtain ⟨v, G, J2, rv, b, ev, q⟩ := I.after hq
        subst ev
        cases rv
        exact ⟨.bl b, G, J2, rfl, q⟩
      | next => exact False.elim hq
      | brk => exact False.elim hq
      | cont => exact False.elim hq
  rcases hy with ⟨b, dy, gs, rfl, hy⟩ | ⟨t, ty, hn⟩
  · cases ry
    obtain ⟨mB, O', _⟩ := ins_get I.hok hy
    obtain ⟨od', J', _⟩ := O'.look
    exact PySem.W.cmp_K (op := .Eq) (tb := .ref C) hr.units0 fr I.ok.mod.kin J J'.type (by simp [PySem.W.notFirst]) hs hf body
  · obtain ⟨PP, Z, hp, _⟩ := kit_of I ry ty
    exact PySem.W.cmp_K (op := .Eq) (tb := t) hr.units0 fr I.ok.mod.kin J (Z.ty _ _ I.kIn hp) hn hs hf body
/-! ## != by an own __eq__ -/
def rNeO (C : Addr) (sp : Sp) : R2 := fun x y H Q => ∃ (a dx b dy : Addr) (fs gs : List (Str × V)), x = .ref a ∧ y = .ref b ∧ H a = some (.ins C dx fs) ∧ H b = some (.ins C dy gs) ∧ sp [x, y] H (fun v G => ∃ b : Bool, v = .bl b ∧ Q (.bl (!b)) G) E0
/-- the class's own text, with == and without != -/
structure EqNe (K : PySem.W.Frag) (C f : Addr) (nm q : Str) (N : Addr) (bs sub : List Value) (hdct ab : Bool) (sn : List Str) (col : Option Bool) (dd : Option Addr) (k0 k1 k2 k3 k5 : Option Value) (newId : String) (of : Obj) (oc : Value) (od : Option Addr) (es : Array DictEntry) (ep : Nat) (sl : Array (Option Value)) : Prop where
  c : K.lookup C = some (excClassObj nm q C N bs [.type "object"] hdct sn sub ab col dd k0 k1 k2 k3 k5 newId)
  n : K.lookup N = some ⟨oc, od, .dict es ep, sl⟩
  keys : StrKeys es
  eq : nsFind es "__eq__" = some (.ref f)
  ne : nsFind es "__ne__" = none
  f : K.lookup f = some of
  fc : of.cls = .type "function"
def HasEqNe (K : PySem.W.Frag) (C f : Addr) : Prop := ∃ nm q N bs sub hdct ab sn col dd k0 k1 k2 k3 k5 newId of oc od es ep sl, EqNe K C f nm q N bs sub hdct ab sn col dd k0 k1 k2 k3 k5 newId of oc od es ep sl
theorem eq_lk : ∃ y, typeLookup (.type "object") "__eq__" = pure y := ⟨_, PySem.F.cmp_object.eq.lookup⟩
theorem op_neO {X : Cx} {C f : Addr} {fd : FuncData} {k : Nat} {ps : List Str} {sp : Sp} (hE : HasEqNe X.K C f) (F : FnOk X.prog X.w X.K X.mg X.base CX0 k f fd ps sp) (hr : Room (k + 1) X.A) (hb : Binds X.K fd ps []) :
    OpR X (compareOp .NotEq) (rNeO C sp) := by
  intro pins s σ H x y v u Q I rx ry h
  obtain ⟨a, dx, b, dy, fs, gs, rfl, rfl, ha, hb', hsp⟩ := h
  cases rx
  cases ry
  obtain ⟨nm, q, N, bs, sub, hdct, ab, sn, col, dd, k0, k1, k2, k3, k5, newId, of, oc, od, es, ep, sl, E⟩ := hE
  obtain ⟨mA, O, _⟩ := ins_get I.hok ha
  obtain ⟨od1, J, _⟩ := O.look
  obtain ⟨mB, O', _⟩ := ins_get I.hok hb'
  obtain ⟨od2, J', _⟩ := O'.look
  obtain ⟨y0, hy0⟩ := eq_lk
  have kin := I.kIn
  have own : s.heap.OwnEqNoNe a C f "object" [.type "object"] := ⟨_, of, nm, q, N, bs, hdct, sn, sub, ab, col, dd, k0, k1, k2, k3, k5, newId, nsFind es, y0, J.at_, J.cls, kin _ _ E.c, ⟨_, es, ep, kin _ _ E.n, rfl, E.keys, fun _ => rfl⟩, E.eq, kin _ _ E.f, E.fc, PySem.F.cmp_object.mro, hy0, E.ne⟩
  have hl : [Value.ref a, Value.ref b].length = ps.length := F.len _ _ _ _ hsp
  have hbs := hb s [.ref a, .ref b] I.kIn (by rw [List.append_nil]; exact hl)
  rw [List.append_nil] at hbs
  obtain ⟨hp, g, d, tk, os⟩ := s
  refine compareOp_ne_ownEq PySem.F.cmp_object own J'.at_ J'.cls (by have := hr.units; omega) ?_
  refine wpAny_call (codeAny_mono (F.run X.A.in1 X.stack _ H ⟨[.ref a, .ref b], []⟩ [.ref a, .ref b] [.ref a, .ref b] _ _ hr.in1 I.env0.in1 hbs (.cons rfl (.cons rfl .nil)) hsp) fun res z hq => ?_)
  cases res with
  | error er => exact (show False from hq).elim
  | ok fl =>
    cases fl with
    | ret u =>
      obtain ⟨v, G, J2, rv, c, ev, q⟩ := I.after hq
      subst ev
      cases rv
      exact ⟨c, rfl, .bl (!c), G, J2, rfl, q⟩
    | next => exact False.elim hq
    | brk => exact False.elim hq
    | cont => exact False.elim hq
end Ew
namespace Ew
open PySem PySem.Spec PyProof.Rows L2
theorem eqvAll_ints : ∀ s s' : List Int, PyData.eqvAll (s.map PyData.int) (s'.map PyData.int) = decide (s = s')
  | [], [] => by simp [PyData.eqvAll]
  | [], b :: s' => by simp [PyData.eqvAll]
  | a :: s, [] => by simp [PyData.eqvAll]
  | a :: s, b :: s' => by
    have ih := eqvAll_ints s s'
    simp only [List.map_cons, PyData.eqvAll, PyData.eqv, ih]
    by_cases h : a = b
    · subst h
      by_cases h2 : s = s' <;> simp [h2]
    · simp [h]
theorem eqv_tup2 (s s' : List Int) : PyData.eqv (.tuple (s.map PyData.int)) (.tuple (s'.map PyData.int)) = decide (s = s') := by rw [PyData.eqv]; exact eqvAll_ints s s'
theorem eqv_lst2 (s s' : List Int) : PyData.eqv (.list (s.map PyData.int)) (.list (s'.map PyData.int)) = decide (s = s') := by rw [PyData.eqv]; exact eqvAll_ints s s'
end Ew
namespace Ew
open PySem PySem.Spec PyProof.Rows L2
/-- a comprehension's turn without a test -/
theorem tyes {σ : L2.St} {H : Hp} {A B : Hp → Prop} (h : A H) : tYes σ H (fun b G => if b = true then A G else B G) := by
  show (if true = true then A H else B H)
  rw [if_pos rfl]
  exact h
theorem RngAt.off {G : Hp} {p q d : Addr} {ns : List Int} {i v sd : Int} {o : HO} (R : RngAt G p q ns i v sd) (h1 : d ≠ p) (h2 : d ≠ q) : RngAt (upd G d o) p q ns i v sd :=
  ⟨by rw [upd_ne h1.symm]; exact R.at_p, by rw [upd_ne h2.symm]; exact R.at_q, R.len, R.ok, R.ne⟩
theorem RngAt.freeq {G : Hp} {p q d : Addr} {ns : List Int} {i v sd : Int} (R : RngAt G p q ns i v sd) (h : G d = none) : d ≠ q := fun e => by
  have z := R.at_q
  rw [← e, h] at z
  cases z
end Ew
/-! lambdas: one with a default, and one that a def hands on to another def -/
namespace Ew
open PySem PySem.Spec PyProof.Rows L2 PySem.W
/-- the lambda's function, with the defaults at dV -/
abbrev lamFn (q : Str) (pr : Arguments) (bd : Expr) (sc : Scope) (cl : List (Str × Addr)) (dV pm cdv ctv : Value) : FuncData :=
  { name := "<lambda>", qualname := q, params := pr, body := .expr bd, scope := sc, globals := mainGlobals, closure := cl, defaults := dV, kwdefaults := .none, doc := .none, pyModule := pm, annotations := none, code := cdv, closureTuple := ctv, builtins := builtinsNs }
abbrev lamObj (q : Str) (pr : Arguments) (bd : Expr) (sc : Scope) (cl : List (Str × Addr)) (dV pm cdv ctv : Value) : Obj := { cls := .type "function", data := .func (lamFn q pr bd sc cl dV pm cdv ctv) }
section
variable {M : Model} {A : Around} {E : Value → Shared → Prop} {s : Shared} {q : Str} {pr : Arguments} {bd : Expr} {sc : Scope} {env : Env} {c P : Addr} {ps : Array Value} {pos : Pos} {ln : Nat} {mg : Str → Option Value} {cl : List (Str × Addr)} {Q : Value → Shared → Prop} {dV : Value}
theorem tail_new (h1 : closureFor sc env = pure cl) (h2 : env.globals = mainGlobals) (h3 : s.heap.Ns mainGlobals mg) (h4 : env.code = .ref c) (C : CodeHd s.heap c P) (h5 : s.heap.get? P = some { cls := .none, data := .fields ps }) (h6 : TriplesOk ps.toList)
    (h7 : codeAmong pos ps.toList = none) (h8 : mainGlobals ≠ P) (hb : s.heap.BuiltinsAt mg P)
    (k : ∀ c' ctv h' tk, Heap.ExtBut P s.heap h' → s.heap.objs.size ≤ c' → c' < h'.objs.size → h'.CodeRec (.ref c') q → h'.get? P = some { cls := .none, data := .fields (ps ++ #[rawInt pos.line, rawInt pos.col, .ref c']) } →
      Q (.ref h'.objs.size) { s with heap := h'.push (lamObj q pr bd sc cl dV ((mg "__name__").getD .none) (.ref c') ctv), toks := tk }) :
    wpAny M A (makeTail "<lambda>" q pr (.expr bd) sc env dV .none none pos ln) Q E s := by
  obtain ⟨bm, ob, b1, b2, _, b3, b4, b5, b6, b7⟩ := hb
  unfold makeTail; rw [h1, h2]
  refine wpAny_bind (wpAny_pure ?_)
  cases cl with
  | nil =>
    simp only [List.isEmpty_nil, if_true]
    refine wpAny_bind (wpAny_pure (wpAny_bind (wpAny_functionCodeX h4 (C.code h5 h6) (C.tab h5) h7 fun c' h' tk x1 x2 x3 _ x4 x5 _ => ?_)))
    have g' := h3.extBut x1 h8
    exact wpAny_bind (wpAny_builtinsFor g' b1 b2 (x1 _ _ b3 b4) b5 b6 b7 (wpAny_bind (wpAny_nsGet g' (wpAny_bind (wpAny_pure (wpAny_newObj_type (k c' .none h' tk x1 x2 x3 x4 x5.2) (by size_fits)))))))
  | cons y r =>
    simp only [List.isEmpty_cons, Bool.false_eq_true, if_false]
    refine wpAny_bind (wpAny_newTextTuple (wpAny_bind (wpAny_functionCodeX h4 ((C.keeps fun b o e => Heap.get?_push_of_some _ e).code (Heap.get?_push_of_some _ h5) h6) ((C.keeps fun b o e => Heap.get?_push_of_some _ e).tab (Heap.get?_push_of_some _ h5)) h7 fun c' h' tk x1 x2 x3 _ x4 x5 _ => ?_)))
    have g' := (h3.push _).extBut x1 h8
    have x1' : Heap.ExtBut P s.heap h' := fun b o n e => x1 b o n (Heap.get?_push_of_some _ e)
    have x2' : s.heap.objs.size ≤ c' := Nat.le_trans (by rw [Heap.size_push]; omega) x2
    exact wpAny_bind (wpAny_builtinsFor g' b1 b2 (x1' _ _ b3 b4) b5 b6 b7 (wpAny_bind (wpAny_nsGet g' (wpAny_bind (wpAny_pure (wpAny_newObj_type (k c' _ h' tk x1' x2' x3 x4 x5.2) (by size_fits)))))))
theorem tail_hit {cv : Value} (h1 : closureFor sc env = pure cl) (h2 : env.globals = mainGlobals) (h3 : s.heap.Ns mainGlobals mg) (h4 : env.code = .ref c) (C : CodeHd s.heap c P) (h5 : s.heap.get? P = some { cls := .none, data := .fields ps }) (h6 : TriplesOk ps.toList)
    (h7 : codeAmong pos ps.toList = some cv) (hb : s.heap.BuiltinsAt mg P)
    (k : ∀ (ctv : Value) (h' : Heap) (tk : Tok), (∀ b o, s.heap.get? b = some o → h'.get? b = some o) → s.heap.objs.size ≤ h'.objs.size →
      Q (.ref h'.objs.size) { s with heap := h'.push (lamObj q pr bd sc cl dV ((mg "__name__").getD .none) cv ctv), toks := tk }) :
    wpAny M A (makeTail "<lambda>" q pr (.expr bd) sc env dV .none none pos ln) Q E s := by
  obtain ⟨bm, ob, b1, b2, _, b3, b4, b5, b6, b7⟩ := hb
  unfold makeTail; rw [h1, h2]
  refine wpAny_bind (wpAny_pure ?_)
  cases cl with
  | nil =>
    simp only [List.isEmpty_nil, if_true]
    exact wpAny_bind (wpAny_pure (wpAny_bind (wpAny_functionCode_hit h4 (C.code h5 h6) h7 (wpAny_bind (wpAny_builtinsFor h3 b1 b2 b4 b5 b6 b7 (wpAny_bind (wpAny_nsGet h3 (wpAny_bind (wpAny_pure (wpAny_newObj_type (k .none s.heap s.toks (fun _ _ e => e) (Nat.le_refl _)) (by size_fits)))))))))))
  | cons y r =>
    simp only [List.isEmpty_cons, Bool.false_eq_true, if_false]
    have z : ∀ oT : Obj, s.heap.objs.size ≤ (s.heap.push oT).objs.size := fun oT => by rw [Heap.size_push]; omega
    exact wpAny_bind (wpAny_newTextTuple (wpAny_bind (wpAny_functionCode_hit h4 ((C.keeps fun b o e => Heap.get?_push_of_some _ e).code (Heap.get?_push_of_some _ h5) h6) h7 (wpAny_bind (wpAny_builtinsFor (h3.push _) b1 b2 (Heap.get?_push_of_some _ b4) b5 b6 b7 (wpAny_bind (wpAny_nsGet (h3.push _) (wpAny_bind (wpAny_pure (wpAny_newObj_type (k _ _ s.toks (fun b o e => Heap.get?_push_of_some _ e) (z _)) (by size_fits)))))))))))
end
/-- how the defaults are made: dV afterwards, and what the heap then holds of them -/
inductive DefV (X : Cx) (pr : Arguments) : (Value → Heap → Prop) → Prop where
  | no : defaultsOf pr X.env = ([], []) → DefV X pr (fun dV _ => dV = .none)
  | one {e : Expr} {v : V} : defaultsOf pr X.env = ([eval e X.env], []) → PE X e (tC v) → DefV X pr (fun dV h => ∃ (T : Addr) (u : Value) (n : Nat), dV = .ref T ∧ RelV v u ∧ h.get? T = some { cls := .type "tuple", data := .seq #[u] n })
section
variable {X : Cx} {pins : List (Addr × Obj)} {σ : L2.St} {H : Hp} {s : Shared}
open LamX in
theorem lam_tail {T : List (Addr × Str)} {c P : Addr} {pr : Arguments} {bd : Expr} {sc : Scope} {pos : Pos} {dV : Value} {E : Value → Shared → Prop} {Q : Value → Shared → Prop} (I : Inv X pins σ H s) (TB : TabB X.base X.mg c P) (hcode : X.env.code = .ref c)
    (hm : (P, X.env.qual ++ "<lambda>") ∈ T) (hu : ∀ p ∈ T, p.1 = P → p.2 = X.env.qual ++ "<lambda>") (hT : Tabs T H) (hfree : ∀ y ∈ sc.names, y.2 = .free → ∃ c, X.env.cells.lookup y.1 = some c)
    (k : ∀ (f c' : Addr) (pm ctv : Value) (H1 : Hp) (s' : Shared), Inv X pins σ H1 s' → ExtN H H1 → Tabs T H1 → (∀ b o, b ≠ P → s.heap.get? b = some o → s'.heap.get? b = some o) → (∀ b, b ≠ P → b < s.heap.objs.size → H1 b = H b) →
      s'.heap.get? f = some (lamObj (X.env.qual ++ "<lambda>") pr bd sc (cloFrom X.env.cells sc.names []) dV pm (.ref c') ctv) → H1 f = none → f ∉ frs X.stack → H1 c' = some (CodeO c' (X.env.qual ++ "<lambda>")) → Q (.ref f) s') :
    wpAny (model X.prog X.w) X.A (makeTail "<lambda>" (X.env.qual ++ "<lambda>") pr (.expr bd) sc X.env dV .none none pos pos.line) Q E s := by
  obtain ⟨ps, hP, ht, ha⟩ := hT _ hm
  have bP : s.heap.BuiltinsAt X.mg P := TB.bm.keeps I.bk
  have hP' : s.heap.get? P = some { cls := .none, data := .fields ps } := I.hok P _ hP
  have nofr : ∀ f, s.heap.objs.size ≤ f → f ∉ frs X.stack := fun f hf z => by
    rcases List.mem_cons.mp (I.stkSub _ z) with e | e
    · have h1 := I.lt; rw [← e] at h1; exact Nat.lt_irrefl _ (Nat.lt_of_lt_of_le h1 hf)
    · exact I.nofs hf e
  cases hc : codeAmong pos ps.toList with
  | none =>
    refine tail_new (mg := X.mg) (c := c) (P := P) (ps := ps) (closure_ok hfree) I.ok.glob (I.mod.glob.keeps I.bk) hcode (TB.code.keeps I.bk) hP' ht hc TB.gP bP fun c' ctv h' tk x1 x2 x3 x4 x5 => ?_
    obtain ⟨c2, oc, vs, t, e2, y1, y2, y3⟩ := x4
    cases e2
    have hsz : s.heap.objs.size ≤ h'.objs.size := Nat.le_trans x2 (Nat.le_of_lt x3)
    have nC : H c' = none := I.hok.fresh x2
    have I1 := inv_table (t' := tk) (more := #[rawInt pos.line, rawInt pos.col, .ref c']) (h' := h'.push (lamObj (X.env.qual ++ "<lambda>") pr bd sc (cloFrom X.env.cells sc.names []) dV ((X.mg "__name__").getD .none) (.ref c') ctv)) I hP
      (fun b o hb e => Heap.get?_push_of_some _ (x1 b o hb e)) (Heap.get?_push_of_some _ x5) x2 ⟨oc, vs, t, Heap.get?_push_of_some _ y1, y2, y3⟩
    have hE : ExtN H (upd (upd H P (.tbl (ps ++ #[rawInt pos.line, rawInt pos.col, .ref c']))) c' (CodeO c' (X.env.qual ++ "<lambda>"))) := fun b o e n => by
      rw [upd_ne (ne_of_none e nC), upd_ne (fun z => n ps (Option.some.inj (e.symm.trans (by rw [z]; exact hP))))]; exact e
    have eL : (ps ++ #[rawInt pos.line, rawInt pos.col, .ref c']).toList = ps.toList ++ [rawInt pos.line, rawInt pos.col, .ref c'] := by simp
    refine k h'.objs.size c' ((X.mg "__name__").getD .none) ctv _ _ I1 hE (fun p hp => ?_) (fun b o hb e => Heap.get?_push_of_some _ (x1 b o hb e)) (fun b hb hlt => by rw [upd_ne (Nat.ne_of_lt (Nat.lt_of_lt_of_le hlt x2)), upd_ne hb]) (Heap.get?_push_size _ rfl) ?_ (nofr _ hsz) upd_same
    · by_cases hb : p.1 = P
      · rw [hu p hp hb, hb]
        refine ⟨_, by rw [upd_ne (ne_of_none hP nC), upd_same], by rw [eL]; exact PySem.TriplesOk_snoc _ _ _ _ ht, fun p' cv hcv => ?_⟩
        rw [eL] at hcv
        rcases among_app _ ht hcv with z | z
        · obtain ⟨c0, e1, e2⟩ := ha p' cv z; exact ⟨c0, e1, hE _ _ e2 codeO_ne⟩
        · exact ⟨c', z, upd_same⟩
      · obtain ⟨ps', a1, a2, a3⟩ := hT p hp
        refine ⟨ps', by rw [upd_ne (ne_of_none a1 nC), upd_ne hb]; exact a1, a2, fun p' cv hcv => ?_⟩
        obtain ⟨c0, e1, e2⟩ := a3 p' cv hcv; exact ⟨c0, e1, hE _ _ e2 codeO_ne⟩
    · rw [upd_ne (Nat.ne_of_gt x3), upd_ne (Nat.ne_of_gt (Nat.lt_of_lt_of_le (Heap.lt_size hP') hsz))]; exact I.hok.fresh hsz
  | some cv =>
    obtain ⟨c', e, hco⟩ := ha pos cv hc
    subst e
    refine tail_hit (mg := X.mg) (c := c) (P := P) (ps := ps) (closure_ok hfree) I.ok.glob (I.mod.glob.keeps I.bk) hcode (TB.code.keeps I.bk) hP' ht hc bP fun ctv h' tk hx hsz => ?_
    have I1 : Inv X pins σ H { s with heap := h'.push (lamObj (X.env.qual ++ "<lambda>") pr bd sc (cloFrom X.env.cells sc.names []) dV ((X.mg "__name__").getD .none) (.ref c') ctv), toks := tk } := I.kept fun b o e => Heap.get?_push_of_some _ (hx b o e)
    exact k h'.objs.size c' ((X.mg "__name__").getD .none) ctv H _ I1 (ExtN.refl H) hT (fun b o _ e => Heap.get?_push_of_some _ (hx b o e)) (fun _ _ _ => rfl) (Heap.get?_push_size _ rfl) (I.hok.fresh hsz) (nofr _ hsz) hco
end
end Ew
namespace Ew
open PySem PySem.Spec PyProof.Rows L2 PySem.W LamX
/-- what is known of the defaults' value behind their making -/
inductive DefK (X : Cx) (pr : Arguments) : (Shared → Hp → Value → Prop) → Prop where
  | no : defaultsOf pr X.env = ([], []) → DefK X pr (fun _ _ dV => dV = .none)
  | one {e : Expr} {v : V} : defaultsOf pr X.env = ([eval e X.env], []) → PE X e (tC v) → DefK X pr (fun s H dV => ∃ (T : Addr) (u : Value) (n : Nat), dV = .ref T ∧ s.heap.get? T = some { cls := .type "tuple", data := .seq #[u] n } ∧ H T = none ∧ T ∉ frs X.stack)
section
variable {X : Cx} {pins : List (Addr × Obj)} {σ : L2.St} {H HZ : Hp} {s s1 : Shared}
theorem lam_makeG {T : List (Addr × Str)} {c P : Addr} {pr : Arguments} {bd : Expr} {sc : Scope} {pos : Pos} {Q : Value → Shared → Prop} {Kd : Shared → Hp → Value → Prop} (I : Inv X pins σ H s) (TB : TabB X.base X.mg c P) (hcode : X.env.code = .ref c)
    (hm : (P, X.env.qual ++ "<lambda>") ∈ T) (hu : ∀ p ∈ T, p.1 = P → p.2 = X.env.qual ++ "<lambda>") (hT : Tabs T H) (D : DefK X pr Kd) (hfree : ∀ y ∈ sc.names, y.2 = .free → ∃ c, X.env.cells.lookup y.1 = some c)
    (k : ∀ (f c' : Addr) (dV pm ctv : Value) (H1 : Hp) (s' : Shared), Inv X pins σ H1 s' → ExtN H H1 → Tabs T H1 → Kd s' H1 dV →
      s'.heap.get? f = some (lamObj (X.env.qual ++ "<lambda>") pr bd sc (cloFrom X.env.cells sc.names []) dV pm (.ref c') ctv) → H1 f = none → f ∉ frs X.stack → H1 c' = some (CodeO c' (X.env.qual ++ "<lambda>")) → Q (.ref f) s') :
    wpAny (model X.prog X.w) X.A (eval (.Lambda pr bd sc pos) X.env) Q X.xe s := by
  rw [arm_eval_Lambda]
  cases D with
  | no hd =>
    rw [hd]
    show wpAny _ _ (do let dv ← evalAll []; let kdv ← holding dv (evalAllOpt []); makeFunction "<lambda>" (X.env.qual ++ "<lambda>") pr (.expr bd) sc X.env dv kdv [] pos pos.line) Q X.xe s
    refine wpAny_bind (wpAny_pure (wpAny_bind (wpAny_holding (wpAny_pure ?_))))
    rw [makeFunction_eq]
    simp only [List.zip_nil_right, List.filterMap_nil, List.isEmpty_nil, if_true, pure_bind]
    exact lam_tail I TB hcode hm hu hT hfree fun f c' pm ctv H1 s' a1 a2 a3 _ _ a4 a5 a6 a7 => k f c' .none pm ctv H1 s' a1 a2 a3 rfl a4 a5 a6 a7
  | @one e v hd pe =>
    rw [hd]
    show wpAny _ _ (do let dv ← evalAll [eval e X.env]; let kdv ← holding dv (evalAllOpt []); makeFunction "<lambda>" (X.env.qual ++ "<lambda>") pr (.expr bd) sc X.env dv kdv [] pos pos.line) Q X.xe s
    refine wpAny_bind ?_
    show wpAny _ _ (do let v ← eval e X.env; return v :: (← holding [v] (evalAll []))) _ _ s
    refine wpAny_bind (wpAny_mono (pe.run pins s σ H (fun v' H' => v' = v ∧ H' = H) I ⟨rfl, rfl⟩) (fun u s1 hq => ?_) fun e s' z => ?_)
    · obtain ⟨v', H', I1, r1, rfl, rfl⟩ := hq
      refine wpAny_bind (wpAny_holding (wpAny_pure (wpAny_pure (wpAny_bind (wpAny_holding (wpAny_pure ?_))))))
      rw [makeFunction_eq]
      simp only [List.zip_nil_right, List.filterMap_nil, List.isEmpty_nil, List.isEmpty_cons, Bool.false_eq_true, if_true, if_false, pure_bind]
      refine wpAny_bind (wpAny_newTextTuple ?_)
      have hz : s1.heap.objs.size < (s1.heap.push { cls := .type "tuple", data := .seq [u].toArray }).objs.size := by rw [Heap.size_push]; omega
      have I2 : Inv X pins σ H' { s1 with heap := s1.heap.push { cls := .type "tuple", data := .seq [u].toArray } } := I1.kept (t' := s1.toks) fun b o e => Heap.get?_push_of_some _ e
      have nP : s1.heap.objs.size ≠ P := fun z => by
        obtain ⟨ps, hP, _⟩ := hT _ hm
        have hlt := Heap.lt_size (I1.hok P _ hP)
        rw [← z] at hlt
        exact Nat.lt_irrefl _ hlt
      have nofr : s1.heap.objs.size ∉ frs X.stack := fun z => by
        rcases List.mem_cons.mp (I1.stkSub _ z) with e | e
        · have h1 := I1.lt; rw [← e] at h1; exact Nat.lt_irrefl _ h1
        · exact I1.nofs (Nat.le_refl _) e
      exact lam_tail I2 TB hcode hm hu hT hfree fun f c' pm ctv H1 s' a1 a2 a3 a8 a9 a4 a5 a6 a7 => k f c' _ pm ctv H1 s' a1 a2 a3 ⟨_, u, _, rfl, a8 _ _ nP (Heap.get?_push_size _ rfl), by rw [a9 _ nP hz]; exact I1.hok.fresh (Nat.le_refl _), nofr⟩ a4 a5 a6 a7
    · exact z
/-! ### the lambda's names: captured ones, globals, and parameters that the def does not know -/
structure LamN (N : List Str) (s0 sc : Scope) : Prop where
  kind : sc.kind = .function
  co : sc.isCoroutine = false
  gen : sc.isGenerator = false
  own : ∀ y ∈ sc.names, y.2 ≠ .cell ∧ (y.2 = .local → y.1 ∉ N)
  free : ∀ y ∈ sc.names, y.2 = .free → s0.names.lookup y.1 = some .cell ∨ s0.names.lookup y.1 = some .free
def lamNB (N : List Str) (s0 sc : Scope) : Bool :=
  decide (sc.kind = .function) && (!sc.isCoroutine && (!sc.isGenerator && sc.names.all fun y => (!decide (y.2 = .cell)) && ((!decide (y.2 = .local) || !N.contains y.1) && (!decide (y.2 = .free) || (decide (s0.names.lookup y.1 = some .cell) || decide (s0.names.lookup y.1 = some .free))))))
theorem lamN_by {N : List Str} {s0 sc : Scope} (h : lamNB N s0 sc = true) : LamN N s0 sc := by
  unfold lamNB at h
  simp only [Bool.and_eq_true, Bool.or_eq_true, Bool.not_eq_true', decide_eq_true_eq, decide_eq_false_iff_not, List.all_eq_true] at h
  obtain ⟨a1, a2, a3, a4⟩ := h
  refine ⟨a1, a2, a3, fun y hy => ⟨(a4 y hy).1, fun e hN => ?_⟩, fun y hy e => ?_⟩
  · rcases (a4 y hy).2.1 with z | z
    · exact z e
    · rw [List.contains_iff_mem.mpr hN] at z; cases z
  · rcases (a4 y hy).2.2 with z | z
    · exact absurd e z
    · exact z
theorem LamN.has {N : List Str} {sc : Scope} (L : LamN N X.env.scope sc) (ok : X.Ok) : ∀ y ∈ sc.names, y.2 = .free → ∃ c, X.env.cells.lookup y.1 = some c := fun y hy e => (L.free y hy e).elim (fun k => ok.has _ (.inl k)) (fun k => ok.has _ (.inr k))
theorem lam_startN {A : Around} {outer : List Env} {E : XK} {sc : Scope} {f c' : Addr} {g : Heap} {tk : Nat} {bs : List (Str × Value)} (I : Inv X pins σ H s) (L : LamN X.N X.env.scope sc) (e0 : Env0 X.prog X.w X.K X.mg X.base A outer s1 HZ) (hd : A.handled = none)
    (un : Un (frs X.stack) [] H HZ s.heap s1.heap) (hns : g.Ns s1.heap.objs.size fun y => bs.reverse.lookup y) (kp : ∀ b o, s1.heap.get? b = some o → g.get? b = some o) :
    Inv (lamCx X A outer s1 HZ E sc f c') [] σ HZ { s1 with heap := g, toks := tk } := by
  have hfree := L.has I.ok
  have cm : ∀ {y c}, (cloFrom X.env.cells sc.names []).lookup y = some c → X.env.cells.lookup y = some c := fun {y c} e => by
    rcases cloFrom_mem (PySem.mem_of_lookup e) with hm | ⟨h1, h2⟩
    · cases hm
    · obtain ⟨c1, hc⟩ := hfree _ h1 rfl
      have hc : X.env.cells.lookup y = some c1 := hc
      have e2 : c = c1 := by rw [h2, hc] <;> rfl
      rw [e2]; exact hc
  have look : ∀ {y}, sc.names.lookup y = some .free → ∃ c, (cloFrom X.env.cells sc.names []).lookup y = some c := fun {y} hl => mem_lookup (cloFrom_has (cells := X.env.cells) (acc := []) (PySem.mem_of_lookup hl))
  have cellK : ∀ {c : Addr} {v : Option Value}, H c = none → s.heap.IsCell c v → g.IsCell c v := fun {c v} n ⟨o, ho, hd⟩ => by
    obtain ⟨sl, q⟩ := un.any ho n (by simp)
    exact ⟨_, kp _ _ q, hd⟩
  have noA : ∀ b : Addr, b ∉ (lamCx X A outer s1 HZ E sc f c').ex := fun b z => absurd (show b ∈ ([] : List Addr) from z) (by simp)
  refine ⟨⟨e0.mod, L.kind, rfl, rfl, Nat.le_refl _, fun y z c e1 e2 => I.ok.inj y z c (cm e1) (cm e2), fun y hy => ?_, fun y c z _ => ?_, fun _ => hd, Around.frames_deeper e0.frames, .inr ⟨rfl, rfl⟩, fun b z => absurd z (noA b), e0.bs, e0.bsz, fun b _ _ => noA b,
      fun b z => absurd z (noA b), e0.funs, e0.frf⟩,
    rfl, e0.bare, Un.kept kp, ⟨_, hns, fun i y v e1 e2 e3 => ?_⟩, fun y c e => ?_, e0.hok.fresh (Nat.le_refl _), fun y c e => ?_, fun q hq => absurd (show q ∈ ([] : List (Addr × Obj)) ++ [] from hq) (by simp), e0.hok.kept kp, I.len⟩
  · have hy : sc.names.lookup y = some .cell ∨ sc.names.lookup y = some .free := hy
    rcases hy with hy | hy
    · exact absurd rfl (L.own _ (PySem.mem_of_lookup hy)).1
    · exact look hy
  · have z : false = true := z
    cases z
  · have e3 : Vis sc y := e3
    rcases e3 with k | k | k
    · exact absurd (List.mem_of_getElem? (show X.N[i]? = some y from e1)) ((L.own _ (PySem.mem_of_lookup k)).2 rfl)
    · exact absurd rfl (L.own _ (PySem.mem_of_lookup k)).1
    · obtain ⟨m, hn, hl⟩ := I.loc
      have hvis : Vis X.env.scope y := (L.free _ (PySem.mem_of_lookup k) rfl).elim (fun k => .inr (.inl k)) (fun k => .inr (.inr k))
      obtain ⟨w', r, q⟩ := hl i y v e1 e2 hvis
      obtain ⟨c2, h2⟩ := look k
      refine ⟨w', r, .inr ⟨.inr k, c2, h2, ?_⟩⟩
      have c1 := cm h2
      rcases q with ⟨k', _⟩ | ⟨_, c3, e', z⟩
      · have k' : X.env.scope.names.lookup y = some .local := k'
        rcases L.free _ (PySem.mem_of_lookup k) rfl with k2 | k2 <;> rw [show X.env.scope.names.lookup y = _ from k2] at k' <;> cases k'
      · rw [c1] at e'; cases e'; exact cellK (I.freeC y _ c1) z
  · obtain ⟨w', z⟩ := I.cell y c (cm e)
    exact ⟨w', cellK (I.freeC y c (cm e)) z⟩
  · obtain ⟨v, o, ho, hd⟩ := I.cell y c (cm e)
    exact un.free c o ho (I.freeC y c (cm e)) (by simp)
end
/-- what the call of the lambda binds -/
def HB (X : Cx) (pr : Arguments) (bd : Expr) (sc : Scope) (Kd : Shared → Hp → Value → Prop) : Prop := ∀ (q : Str) (cl : List (Str × Addr)) (pm cdv ctv dV : Value) (s : Shared) (H : Hp), Kd s H dV →
  ∃ bs : List (Str × Value), (∀ y ∈ bs, sc.names.lookup y.1 = some .local) ∧ ∀ (s2 : Shared) (HZ : Hp), Un (frs X.stack) [] H HZ s.heap s2.heap → BindsTo s2 (lamFn q pr bd sc cl dV pm cdv ctv) ⟨[], []⟩ bs
theorem hb_no {X : Cx} {pr : Arguments} {bd : Expr} {sc : Scope} (h : ∀ (q : Str) (cl : List (Str × Addr)) (pm cdv ctv : Value), bindArgs (lamFn q pr bd sc cl .none pm cdv ctv) ⟨[], []⟩ = pure []) : HB X pr bd sc (fun _ _ dV => dV = .none) :=
  fun q cl pm cdv ctv dV s H e => ⟨[], (fun y hy => by cases hy), fun s2 HZ _ => by
    cases (show dV = .none from e)
    exact .of_eq (h q cl pm cdv ctv)⟩
theorem hb_one {X : Cx} {pr : Arguments} {bd : Expr} {sc : Scope} {a : Str} (hl : sc.names.lookup a = some .local)
    (h : ∀ (q : Str) (cl : List (Str × Addr)) (T : Addr) (pm cdv ctv u : Value), ∃ k, bindArgs (lamFn q pr bd sc cl (.ref T) pm cdv ctv) ⟨[], []⟩ = seqItems? (.ref T) >>= k ∧ k (some #[u]) = pure [(a, u)]) :
    HB X pr bd sc (fun s H dV => ∃ (T : Addr) (u : Value) (n : Nat), dV = .ref T ∧ s.heap.get? T = some { cls := .type "tuple", data := .seq #[u] n } ∧ H T = none ∧ T ∉ frs X.stack) := by
  rintro q cl pm cdv ctv dV s H ⟨T, u, n, rfl, hT, nT, fT⟩
  obtain ⟨k, e1, e2⟩ := h q cl T pm cdv ctv u
  refine ⟨[(a, u)], fun y hy => by rw [List.mem_singleton.mp hy]; exact hl, fun s2 HZ un => ?_⟩
  refine BindsTo.of_looks fun M => ?_
  rw [e1]
  exact fun A Q E s3 kp z => wpAny_bind (wpAny_seqItems (kp _ _ (un.keep T _ hT nT fT (by simp))) rfl (by rw [e2]; exact wpAny_pure z))
end Ew
namespace Ew
open PySem PySem.Spec PyProof.Rows L2 PySem.W LamX
theorem un_comp {fs fs' : List Addr} {H H1 H2 : Hp} {h h1 h2 : Heap} (a : Un fs [] H H1 h h1) (b : Un fs' [] H1 H2 h1 h2) (e : ∀ c o, h.get? c = some o → (c ∈ fs' ↔ c ∈ fs)) : Un fs [] H H2 h h2 where
  keep := fun c ob q n hc hx => b.keep c ob (a.keep c ob q n hc hx) (a.free c ob q n hx) (fun z => hc ((e c ob q).mp z)) hx
  slot := fun c ob q n hc hx => by
    obtain ⟨sl, e1⟩ := a.slot c ob q n hc hx
    obtain ⟨sl', e2⟩ := b.slot c _ e1 (a.free c ob q n hx) ((e c ob q).mpr hc) hx
    exact ⟨sl', e2⟩
  free := fun c ob q n hx => by
    obtain ⟨o', e1⟩ := a.there c ob q hx
    exact b.free c o' e1 (a.free c ob q n hx) hx
  there := fun c ob q hx => by
    obtain ⟨o', e1⟩ := a.there c ob q hx
    exact b.there c o' e1 hx
  tups := fun c xs q => b.tups c xs (a.tups c xs q)
  frzs := fun c o u q => b.frzs c o u (a.frzs c o u q)
  tbls := fun c ps q => by
    obtain ⟨m, e1⟩ := a.tbls c ps q
    obtain ⟨m2, e2⟩ := b.tbls c _ e1
    exact ⟨m ++ m2, by rw [e2, Array.append_assoc]⟩
section
variable {X : Cx} {pins : List (Addr × Obj)} {σ : L2.St} {H : Hp} {s : Shared}
/-- a(), in a def that has the lambda, however it came there -/
theorem pe_actG {CXg : CXT} {Eg : XK} {Ng : List Str} {qg : Str} {sg : Scope} {g f c' : Addr} {cdg dV pm ctv : Value} {pr : Arguments} {bd : Expr} {sc : Scope} {k i : Nat} {a : Str} {pn : List (Addr × Obj)} {xe : Value → Shared → Prop} {W : WX} {E : XK} {tb : TE} {p1 p2 : Pos}
    {AY : Around} {stY : List Env} {sY : Shared} {HY : Hp} {Kd : Shared → Hp → Value → Prop}
    (I : Inv X pins σ H s) (L : LamN X.N X.env.scope sc) (hf : s.heap.get? f = some (lamObj (X.env.qual ++ "<lambda>") pr bd sc (cloFrom X.env.cells sc.names []) dV pm (.ref c') ctv)) (hfn : H f = none) (hfr : f ∉ frs X.stack) (hK : Kd s H dV) (hB : HB X pr bd sc Kd)
    (tk : Takes ((cxOf CXg X.prog X.w X.K X.mg X.base Ng qg sg g cdg AY stY sY HY Eg).tr pn xe) W) (hW : ∀ cls d σ' H', E cls d H' → W cls d σ' H') (hr : Room (k + 1) (AY.deeper (envOfC qg sg sY.heap.objs.size g cdg)))
    (hun : ∀ (pz : List (Addr × Obj)) (sz : Shared) (τ : L2.St) (HZ : Hp), Inv ((cxOf CXg X.prog X.w X.K X.mg X.base Ng qg sg g cdg AY stY sY HY Eg).tr pn xe) pz τ HZ sz → Un (frs X.stack) [] H HZ s.heap sz.heap)
    (hbody : ∀ (A : Around) (outer : List Env) (s : Shared) (H : Hp), Room k (A.deeper (lamEnv X sc s.heap.objs.size f c')) → PE (lamCx X A outer s H E sc f c') bd tb)
    (hN : Ng[i]? = some a) (hv : Vis sg a) (hd : (a == ("__debug__" : Str)) = false := by decide) (hcd : (a == ("__classdict__" : Str)) = false := by decide) :
    PE ((cxOf CXg X.prog X.w X.K X.mg X.base Ng qg sg g cdg AY stY sY HY Eg).tr pn xe) (.Call (.Name a p1) [] [] p2)
      (fun τ HZ Q => τ[i]? = some (some (.ref f)) ∧ HZ c' = some (CodeO c' (X.env.qual ++ "<lambda>")) ∧ tb σ HZ Q) := by
  obtain ⟨bs, hbl, hbt⟩ := hB (X.env.qual ++ "<lambda>") (cloFrom X.env.cells sc.names []) pm (.ref c') ctv dV s H hK
  refine ⟨fun pz sz τ HZ Q IZ h => ?_⟩
  obtain ⟨hs, hc, ht⟩ := h
  refine wpAny_Call_Name_kw (thn ((pe_var (pos := p1) (i := i) hN hv hd hcd).run pz sz τ HZ (fun v H1 => v = .ref f ∧ H1 = HZ) IZ ⟨.ref f, hs, rfl, rfl⟩) fun u s1 ⟨v, H1, I1, r1, q1⟩ => ?_)
  obtain ⟨ev, eH⟩ := q1
  subst ev; rw [eH] at I1
  obtain rfl : u = Value.ref f := r1
  have un := hun _ _ _ _ I1
  have of1 := un.keep f _ hf hfn hfr (by simp)
  refine PySem.W.callWith_F0 ⟨_, _, _, _, of1⟩ ?_
  obtain ⟨⟨oc, vs, t, y1, y2, y3⟩, _, _⟩ := I1.hok c' _ hc
  have rc : codeAny (model X.prog X.w) (AY.deeper (envOfC qg sg sY.heap.objs.size g cdg)) (.call (.ref f) ⟨[], []⟩) (CR (L2.CX X.prog X.w) (envOfC qg sg sY.heap.objs.size g cdg :: stY) X.prog X.w HZ s1 Q E) s1 := by
    refine PySem.W.kla_callFunE hr.depth of1 rfl L.co L.gen rfl ⟨c', oc, vs, t, rfl, y1, y2, y3⟩ (hbt s1 HZ un _ _ _ _ ?_)
    refine wpAny_newFunctionEnv (fun y hy => (L.own y hy).1) hbl (fun g1 hns hsb => ⟨I1.nolimit.fresh _ hsb, ?_⟩) L.kind
    show codeAny _ _ (.expr bd (lamEnv X sc s1.heap.objs.size f c')) _ _
    have kp : ∀ b o, s1.heap.get? b = some o → g1.get? b = some o := fun b o e => hsb.extBut b o (Nat.ne_of_lt (Heap.lt_size e)) (Heap.get?_push_of_some _ e)
    have J : Inv (lamCx X (AY.deeper (envOfC qg sg sY.heap.objs.size g cdg)) (envOfC qg sg sY.heap.objs.size g cdg :: stY) s1 HZ E sc f c') [] σ HZ { s1 with heap := g1, toks := s1.toks + bs.length } := lam_startN I L I1.env0 hr.hd un hns kp
    refine PySem.W.kla_codeExpr (wpAny_mono ((hbody _ _ s1 HZ (hr.deeper _)).run [] _ _ HZ Q J ht) (fun v s' hq => ?_) fun e s' hq => hq)
    obtain ⟨w', H', J', rv, q⟩ := hq
    exact ⟨w', H', J'.os, J'.bare, J'.base, J'.hok, rv, q⟩
  have hx : Passes (L2.CX X.prog X.w) ((cxOf CXg X.prog X.w X.K X.mg X.base Ng qg sg g cdg AY stY sY HY Eg).tr pn xe) E := passes_call tk hW
  refine wpAny_call (codeAny_mono rc fun r s' hq => ?_)
  cases r with
  | error e => exact hx pz τ HZ s1 e s' I1 hq
  | ok fl =>
    cases fl with
    | ret u => exact I1.after hq
    | next => exact False.elim hq
    | brk => exact False.elim hq
    | cont => exact False.elim hq
end
section
variable {X : Cx}
/-- what stands of the def x that gets the lambda -/
structure GetsL (K : PySem.W.Frag) (mg : Str → Option Value) (x a : Str) (g : Addr) (Ng : List Str) (sg : Scope) (bg : List Stmt) (cdv : Value) : Prop where
  m : mg x = some (.ref g)
  k : PySem.W.keepIn K (.ref g) = true
  lk : ∃ (pg : Arguments) (dV kV doc pm ct oc : Value) (an od : Option Addr) (osl : Array (Option Value)), K.lookup g = some ⟨oc, od, .func (PySem.W.fnOf x x pg bg sg dV kV doc pm an cdv ct), osl⟩ ∧ L2.Binds K (PySem.W.fnOf x x pg bg sg dV kV doc pm an cdv ct) [a] []
  c : PySem.W.codeIn K cdv x = true
  s : FnScope Ng [a] sg
  n : Ng[0]? = some a
  v : Vis sg a
theorem gets_of {K : PySem.W.Frag} {mg : Str → Option Value} {x a : Str} {st : Stmt} {f : Addr} {fd : FuncData} {Ng : List Str} (F : Fun K x x st f fd) (g : mg x = some (.ref f)) (b : Binds K fd [a] []) (S : FnScope Ng [a] (defScope st)) (n : Ng[0]? = some a) (v : Vis (defScope st) a) :
    ∃ cdv, GetsL K mg x a f Ng (defScope st) (defBody st) cdv := by
  obtain ⟨oc, od, kV, doc, pm, an, cd, ct, sl, rfl, lk, hc⟩ := F.ex
  exact ⟨cd, g, F.kp, ⟨_, _, _, _, _, _, _, _, _, _, lk, b⟩, hc, S, n, v⟩
/-- x(lambda a=d: body), the default or not -/
theorem pe_lamG {T : List (Addr × Str)} {TT : (XK → Hp → VK → Prop) → Hp → VK → Prop} {x a : Str} {g c P : Addr} {k : Nat} {bg : List Stmt} {sg : Scope} {cdv : Value} {Ng : List Str} {pr : Arguments} {bd : Expr} {sc : Scope} {t : XK → TE} {p lpos pos : Pos} {Kd : Shared → Hp → Value → Prop}
    (hg : Gl X x) (S : GetsL X.K X.mg x a g Ng sg bg cdv) (hG : GivesTo X Ng x sg g cdv bg a (X.env.qual ++ "<lambda>") TT)
    (TB : TabB X.base X.mg c P) (hcode : X.env.code = .ref c) (hmT : (P, X.env.qual ++ "<lambda>") ∈ T) (hu : ∀ p ∈ T, p.1 = P → p.2 = X.env.qual ++ "<lambda>") (hr : Room (k + 2) X.A) (L : LamN X.N X.env.scope sc) (D : DefK X pr Kd) (hB : HB X pr bd sc Kd)
    (hbody : ∀ (A : Around) (outer : List Env) (s : Shared) (H : Hp) (E : XK) (f c' : Addr), Room k (A.deeper (lamEnv X sc s.heap.objs.size f c')) → PE (lamCx X A outer s H E sc f c') bd (t E))
    (hdb : (x == ("__debug__" : Str)) = false := by decide) (hd : (a == ("__debug__" : Str)) = false := by decide) (hcd : (a == ("__classdict__" : Str)) = false := by decide) :
    PE X (.Call (.Name x p) [.Lambda pr bd sc lpos] [] pos) (tLam T TT t) := by
  obtain ⟨pg, dV, kV, doc, pm, ct, oc, an, od, osl, lk, hb⟩ := S.lk
  refine ⟨fun pins s σ H Q I h => ?_⟩
  obtain ⟨hT, h⟩ := h
  refine wpAny_Call_Name_kw (ld_glob I hg S.m (PySem.W.callWith_K (h₀ := X.base) I.ok.mod.kin S.k ?_ (by rfl) (by rfl)) hdb)
  show wpAny _ _ (spliced ((false, eval (.Lambda pr bd sc lpos) X.env) :: backTo pos (starEach [] X.env))) _ _ s
  refine Calls.spliced_cons (lam_makeG I TB hcode hmT hu hT D (L.has I.ok) fun f c' dV' pm' ctv H1 s' I1 eN T1 hK hf hfn hfr hco => Calls.spliced_nil ⟨I1.kIn, ?_⟩)
  have rc : codeAny (model X.prog X.w) X.A (.call (.ref g) ⟨[.ref f], []⟩) (CR C8.CX0 X.stack X.prog X.w H1 s' Q C8.E0) s' := by
    refine run_ofS (N := Ng) (ps := [a]) (us := [.ref f]) (vs := [.ref f]) lk S.c S.s hr I1.env0 (hb s' [.ref f] I1.kIn rfl) (.cons rfl .nil) rfl fun hr' => ?_
    obtain ⟨t', ht', hq'⟩ := hG f c' s' H1 Q (fun E H' Q' => t E σ H' Q') (fun W pn xe E p1 p2 tk hW => pe_actG (i := 0) I1 L hf hfn hfr hK hB tk hW hr' (fun _ _ _ _ IZ => IZ.base) (fun A outer s H hr2 => hbody A outer s H E f c' hr2) S.n S.v hd hcd) hco (h H1 eN T1)
    exact ⟨t', ht'.nox, hq'⟩
  refine wpAny_call (codeAny_mono rc fun r s2 hq => ?_)
  cases r with
  | error e => exact (show False from hq).elim
  | ok fl =>
    cases fl with
    | ret u => exact I1.after hq
    | next => exact False.elim hq
    | brk => exact False.elim hq
    | cont => exact False.elim hq
/-- x(a2), in the def y that got the lambda and hands it on -/
theorem pe_pass {pins : List (Addr × Obj)} {σ : L2.St} {H : Hp} {s : Shared} {TT : (XK → Hp → VK → Prop) → Hp → VK → Prop} {x y a a2 : Str} {g gy f c' : Addr} {k i : Nat} {bg : List Stmt} {sg sy : Scope} {cdv cdy dV pm ctv : Value} {Ng Ny : List Str} {pr : Arguments} {bd : Expr} {sc : Scope} {t : XK → TE} {Kd : Shared → Hp → Value → Prop} {q1 q2 q3 : Pos}
    (I : Inv X pins σ H s) (L : LamN X.N X.env.scope sc) (hf : s.heap.get? f = some (lamObj (X.env.qual ++ "<lambda>") pr bd sc (cloFrom X.env.cells sc.names []) dV pm (.ref c') ctv)) (hfn : H f = none) (hfr : f ∉ frs X.stack) (hK : Kd s H dV) (hB : HB X pr bd sc Kd)
    (S : GetsL X.K X.mg x a g Ng sg bg cdv) (hgx : Gl (cxOf C8.CX0 X.prog X.w X.K X.mg X.base Ny y sy gy cdy X.A X.stack s H C8.E0) x) (hNy : Ny[i]? = some a2) (hvy : Vis sy a2)
    (hG : GivesTo (cxOf C8.CX0 X.prog X.w X.K X.mg X.base Ny y sy gy cdy X.A X.stack s H C8.E0) Ng x sg g cdv bg a (X.env.qual ++ "<lambda>") TT)
    (hr : Room (k + 2) (X.A.deeper (envOfC y sy s.heap.objs.size gy cdy)))
    (hbody : ∀ (A : Around) (outer : List Env) (s : Shared) (H : Hp) (E : XK), Room k (A.deeper (lamEnv X sc s.heap.objs.size f c')) → PE (lamCx X A outer s H E sc f c') bd (t E))
    (hdb : (x == ("__debug__" : Str)) = false := by decide) (hd : (a == ("__debug__" : Str)) = false := by decide) (hcd : (a == ("__classdict__" : Str)) = false := by decide) (hd2 : (a2 == ("__debug__" : Str)) = false := by decide) (hcd2 : (a2 == ("__classdict__" : Str)) = false := by decide) :
    PE (cxOf C8.CX0 X.prog X.w X.K X.mg X.base Ny y sy gy cdy X.A X.stack s H C8.E0) (.Call (.Name x q1) [.Name a2 q2] [] q3)
      (fun τ HY Q => τ[i]? = some (some (.ref f)) ∧ HY c' = some (CodeO c' (X.env.qual ++ "<lambda>")) ∧ TT (fun E H' Q' => t E σ H' Q') HY Q) := by
  obtain ⟨pg, dV0, kV, doc, pm0, ct, oc, an, od, osl, lk, hb⟩ := S.lk
  refine ⟨fun py sy' τ HY Q IY h => ?_⟩
  obtain ⟨hs, hc, ht⟩ := h
  refine wpAny_Call_Name_kw (ld_glob IY hgx S.m (PySem.W.callWith_K (h₀ := X.base) IY.ok.mod.kin S.k ?_ (by rfl) (by rfl)) hdb)
  show wpAny _ _ (spliced ((false, eval (.Name a2 q2) (envOfC y sy s.heap.objs.size gy cdy)) :: backTo q3 (starEach [] (envOfC y sy s.heap.objs.size gy cdy)))) _ _ sy'
  refine Calls.spliced_cons (thn ((pe_var (pos := q2) (i := i) hNy hvy hd2 hcd2).run py sy' τ HY (fun v H1 => v = .ref f ∧ H1 = HY) IY ⟨.ref f, hs, rfl, rfl⟩) fun u s1 ⟨v, H1, I1, r1, z1⟩ => ?_)
  obtain ⟨ev, eH⟩ := z1
  subst ev; rw [eH] at I1
  obtain rfl : u = Value.ref f := r1
  refine Calls.spliced_nil ⟨I1.kIn, ?_⟩
  have inY : ∀ (c : Addr) (o : Obj), s.heap.get? c = some o → (c ∈ frs (envOfC y sy s.heap.objs.size gy cdy :: X.stack) ↔ c ∈ frs X.stack) := fun c o e => by
    have hc' := Heap.lt_size e
    refine ⟨fun z => ?_, fun z => ?_⟩
    · obtain ⟨ev, hev, q⟩ := List.mem_filterMap.mp z
      rcases List.mem_cons.mp hev with e1 | e1
      · rw [e1] at q
        have q' : some s.heap.objs.size = some c := q
        cases q'
        exact absurd hc' (Nat.lt_irrefl _)
      · exact List.mem_filterMap.mpr ⟨ev, e1, q⟩
    · obtain ⟨ev, hev, q⟩ := List.mem_filterMap.mp z
      exact List.mem_filterMap.mpr ⟨ev, List.mem_cons_of_mem _ hev, q⟩
  have b1 : Un (frs X.stack) [] H HY s.heap s1.heap := I1.base
  have rc : codeAny (model X.prog X.w) (X.A.deeper (envOfC y sy s.heap.objs.size gy cdy)) (.call (.ref g) ⟨[.ref f], []⟩) (CR C8.CX0 (envOfC y sy s.heap.objs.size gy cdy :: X.stack) X.prog X.w HY s1 Q C8.E0) s1 := by
    refine run_ofS (N := Ng) (ps := [a]) (us := [.ref f]) (vs := [.ref f]) lk S.c S.s hr I1.env0 (hb s1 [.ref f] I1.kIn rfl) (.cons rfl .nil) rfl fun hr' => ?_
    have act : ∀ (W : WX) (pn : List (Addr × Obj)) (xe : Value → Shared → Prop) (E : XK) (p1 p2 : Pos), Takes ((cxOf C8.CX0 X.prog X.w X.K X.mg X.base Ng x sg g cdv (X.A.deeper (envOfC y sy s.heap.objs.size gy cdy)) (envOfC y sy s.heap.objs.size gy cdy :: X.stack) s1 HY C8.E0).tr pn xe) W → (∀ cls d σ' H', E cls d H' → W cls d σ' H') →
        PE ((cxOf C8.CX0 X.prog X.w X.K X.mg X.base Ng x sg g cdv (X.A.deeper (envOfC y sy s.heap.objs.size gy cdy)) (envOfC y sy s.heap.objs.size gy cdy :: X.stack) s1 HY C8.E0).tr pn xe) (.Call (.Name a p1) [] [] p2) (fun τ HZ Q => τ[0]? = some (some (.ref f)) ∧ HZ c' = some (CodeO c' (X.env.qual ++ "<lambda>")) ∧ t E σ HZ Q) :=
      fun W pn xe E p1 p2 tk hW => pe_actG (i := 0) (tb := t E) I L hf hfn hfr hK hB tk hW hr' (fun _ sz _ HZ IZ => un_comp b1 (show Un (frs (envOfC y sy s.heap.objs.size gy cdy :: X.stack)) [] HY HZ s1.heap sz.heap from IZ.base) inY) (fun A outer s H hr2 => hbody A outer s H E hr2) S.n S.v hd hcd
    obtain ⟨t', ht', hq'⟩ := hG f c' s1 HY Q (fun E H' Q' => t E σ H' Q') act hc ht
    exact ⟨t', ht'.nox, hq'⟩
  refine wpAny_call (codeAny_mono rc fun r s2 hq => ?_)
  cases r with
  | error e => exact (show False from hq).elim
  | ok fl =>
    cases fl with
    | ret u => exact I1.after hq
    | next => exact False.elim hq
    | brk => exact False.elim hq
    | cont => exact False.elim hq
/-- y(lambda ..), where y is a def that ends by x(a2)[0], and x the def that calls what it gets -/
theorem pe_lamT {T : List (Addr × Str)} {TT : (XK → Hp → VK → Prop) → Hp → VK → Prop} {x y a a2 : Str} {g gy c P : Addr} {k : Nat} {bg bgy : List Stmt} {sg sy : Scope} {cdv cdy : Value} {Ng : List Str} {pr : Arguments} {bd : Expr} {sc : Scope} {t : XK → TE} {p lpos pos : Pos} {Kd : Shared → Hp → Value → Prop}
    (hg : Gl X y) (Sy : GetsL X.K X.mg y a2 gy [a2] sy bgy cdy) (S : GetsL X.K X.mg x a g Ng sg bg cdv)
    (hgx : ∀ s H, Gl (cxOf C8.CX0 X.prog X.w X.K X.mg X.base [a2] y sy gy cdy X.A X.stack s H C8.E0) x)
    (hG : ∀ s H, Room (k + 2) (cxOf C8.CX0 X.prog X.w X.K X.mg X.base [a2] y sy gy cdy X.A X.stack s H C8.E0).A → GivesTo (cxOf C8.CX0 X.prog X.w X.K X.mg X.base [a2] y sy gy cdy X.A X.stack s H C8.E0) Ng x sg g cdv bg a (X.env.qual ++ "<lambda>") TT)
    (hGy : ∀ (Y : Cx) (tp : TE), (∀ p1 p2 p3, PE Y (.Call (.Name x p1) [.Name a2 p2] [] p3) tp) → PSs Y bgy (tRet (tOp (rIxT Y.K) tp (tC (.int 0)))))
    (TB : TabB X.base X.mg c P) (hcode : X.env.code = .ref c) (hmT : (P, X.env.qual ++ "<lambda>") ∈ T) (hu : ∀ p ∈ T, p.1 = P → p.2 = X.env.qual ++ "<lambda>") (hr : Room (k + 3) X.A) (L : LamN X.N X.env.scope sc) (D : DefK X pr Kd) (hB : HB X pr bd sc Kd)
    (hbody : ∀ (A : Around) (outer : List Env) (s : Shared) (H : Hp) (E : XK) (f c' : Addr), Room k (A.deeper (lamEnv X sc s.heap.objs.size f c')) → PE (lamCx X A outer s H E sc f c') bd (t E))
    (hdy : (y == ("__debug__" : Str)) = false := by decide) (hdb : (x == ("__debug__" : Str)) = false := by decide) (hd : (a == ("__debug__" : Str)) = false := by decide) (hcd : (a == ("__classdict__" : Str)) = false := by decide) (hd2 : (a2 == ("__debug__" : Str)) = false := by decide) (hcd2 : (a2 == ("__classdict__" : Str)) = false := by decide) :
    PE X (.Call (.Name y p) [.Lambda pr bd sc lpos] [] pos) (tLam T (fun tl H Q => TT tl H fun v G => rIxT X.K v (.int 0) G Q) t) := by
  obtain ⟨pg, dV, kV, doc, pm, ct, oc, an, od, osl, lk, hb⟩ := Sy.lk
  refine ⟨fun pins s σ H Q I h => ?_⟩
  obtain ⟨hT, h⟩ := h
  refine wpAny_Call_Name_kw (ld_glob I hg Sy.m (PySem.W.callWith_K (h₀ := X.base) I.ok.mod.kin Sy.k ?_ (by rfl) (by rfl)) hdy)
  show wpAny _ _ (spliced ((false, eval (.Lambda pr bd sc lpos) X.env) :: backTo pos (starEach [] X.env))) _ _ s
  refine Calls.spliced_cons (lam_makeG I TB hcode hmT hu hT D (L.has I.ok) fun f c' dV' pm' ctv H1 s' I1 eN T1 hK hf hfn hfr hco => Calls.spliced_nil ⟨I1.kIn, ?_⟩)
  have rc : codeAny (model X.prog X.w) X.A (.call (.ref gy) ⟨[.ref f], []⟩) (CR C8.CX0 X.stack X.prog X.w H1 s' Q C8.E0) s' := by
    refine run_ofS (N := [a2]) (ps := [a2]) (us := [.ref f]) (vs := [.ref f]) lk Sy.c Sy.s hr I1.env0 (hb s' [.ref f] I1.kIn rfl) (.cons rfl .nil) rfl fun hr' => ?_
    refine ⟨_, hGy _ _ fun p1 p2 p3 => pe_pass (i := 0) I1 L hf hfn hfr hK hB S (hgx s' H1) rfl Sy.v (hG s' H1 hr') hr' (fun A outer s H E hr2 => hbody A outer s H E f c' hr2) hdb hd hcd hd2 hcd2, ?_⟩
    exact ⟨rfl, hco, h H1 eN T1⟩
  refine wpAny_call (codeAny_mono rc fun r s2 hq => ?_)
  cases r with
  | error e => exact (show False from hq).elim
  | ok fl =>
    cases fl with
    | ret u => exact I1.after hq
    | next => exact False.elim hq
    | brk => exact False.elim hq
    | cont => exact False.elim hq
end
end Ew
namespace Ew
open PySem PySem.Spec PyProof.Rows L2
/-- a number that is not too long to be multiplied and divided -/
def Sw (z : Int) : Prop := z.natAbs < 2 ^ 4000
theorem sw_mul {i j : Int} (hi : Sw i) (hj : Sw j) : CMulW i j := wide_mul hi hj (by decide) (by decide) (by decide)
theorem sw_lt {i j : Int} (hi : Sw i) (hj : Sw j) : (i * j).natAbs < 2 ^ 8000 := Nat.lt_of_lt_of_le (wide_lt hi hj) (Nat.pow_le_pow_right (by decide) (by decide))
theorem sw_big {i : Int} (hi : Sw i) : i.natAbs < 2 ^ 8000 := Nat.lt_of_lt_of_le hi (Nat.pow_le_pow_right (by decide) (by decide))
theorem sw_le {m : Nat} {i : Int} (h : i.natAbs ≤ m) (hm : m < 2 ^ 1000) : Sw i := Nat.lt_of_le_of_lt h (Nat.lt_of_lt_of_le hm (Nat.pow_le_pow_right (by decide) (by decide)))
theorem sw_of {z : Int} (h0 : -9223372036854775808 ≤ z) (h1 : z ≤ 9223372036854775808) : Sw z := sw_le (m := 9223372036854775808) (by omega) (Nat.lt_of_lt_of_le (by decide : 9223372036854775808 < 2 ^ 64) (Nat.pow_le_pow_right (by decide) (by decide)))
/-- n / d lies between a / b and e / f -/
def inQ (n d a b e f : Int) : Bool := !decide (n * b < a * d) && !decide (e * d < n * f)
theorem inQ_iff {n d a b e f : Int} : inQ n d a b e f = true ↔ a * d ≤ n * b ∧ n * f ≤ e * d := by
  unfold inQ
  rw [Bool.and_eq_true, Bool.not_eq_true', Bool.not_eq_true', decide_eq_false_iff_not, decide_eq_false_iff_not, Int.not_lt, Int.not_lt]
/-- a fraction that stands for x / m, compared -/
theorem fr_le_left {x m n d : Int} (hm : 0 < m) (hd : 0 < d) : frN x m * d ≤ n * frD x m ↔ x * d ≤ n * m := by
  obtain ⟨l, e⟩ := fr_spec x (b := m) (by omega)
  have p := l.pos
  constructor
  · intro h
    have h1 : frN x m * d * m ≤ n * frD x m * m := Int.mul_le_mul_of_nonneg_right h (by omega)
    have e1 : frN x m * d * m = frD x m * (x * d) := by rw [Int.mul_assoc, Int.mul_comm d m, ← Int.mul_assoc, e, Int.mul_comm x, Int.mul_assoc]
    have e2 : n * frD x m * m = frD x m * (n * m) := by rw [Int.mul_comm n, Int.mul_assoc]
    rw [e1, e2] at h1
    exact Int.le_of_mul_le_mul_left h1 p
  · intro h
    have h1 : frD x m * (x * d) ≤ frD x m * (n * m) := Int.mul_le_mul_of_nonneg_left h (by omega)
    have e1 : frN x m * d * m = frD x m * (x * d) := by rw [Int.mul_assoc, Int.mul_comm d m, ← Int.mul_assoc, e, Int.mul_comm x, Int.mul_assoc]
    have e2 : n * frD x m * m = frD x m * (n * m) := by rw [Int.mul_comm n, Int.mul_assoc]
    rw [← e1, ← e2] at h1
    exact Int.le_of_mul_le_mul_right h1 hm
theorem fr_le_right {x m n d : Int} (hm : 0 < m) (hd : 0 < d) : n * frD x m ≤ frN x m * d ↔ n * m ≤ x * d := by
  obtain ⟨l, e⟩ := fr_spec x (b := m) (by omega)
  have p := l.pos
  have e1 : frN x m * d * m = frD x m * (x * d) := by rw [Int.mul_assoc, Int.mul_comm d m, ← Int.mul_assoc, e, Int.mul_comm x, Int.mul_assoc]
  have e2 : n * frD x m * m = frD x m * (n * m) := by rw [Int.mul_comm n, Int.mul_assoc]
  constructor
  · intro h
    have h1 : n * frD x m * m ≤ frN x m * d * m := Int.mul_le_mul_of_nonneg_right h (by omega)
    rw [e1, e2] at h1
    exact Int.le_of_mul_le_mul_left h1 p
  · intro h
    have h1 : frD x m * (n * m) ≤ frD x m * (x * d) := Int.mul_le_mul_of_nonneg_left h (by omega)
    rw [← e1, ← e2] at h1
    exact Int.le_of_mul_le_mul_right h1 hm
end Ew
namespace Ew
open PySem PySem.Spec PyProof.Rows L2
/-! ## numbers and their digits -/
def hasN (b : Int) (s : List Int) (n d : Int) : Bool := inQ n d (frN (firstI s) (b - 1)) (frD (firstI s) (b - 1)) (frN (lastI s) (b - 1)) (frD (lastI s) (b - 1))
theorem hasN_iff {b : Int} {s : List Int} {n d : Int} (b2 : 2 ≤ b) (hd : 0 < d) : hasN b s n d = true ↔ firstI s * d ≤ n * (b - 1) ∧ n * (b - 1) ≤ lastI s * d := by
  unfold hasN
  rw [inQ_iff, fr_le_left (by omega) hd, fr_le_right (by omega) hd]
def rsN (b g n d : Int) : Int := frN (b * n - g * d) d
def rsD (b g n d : Int) : Int := frD (b * n - g * d) d
theorem rs_low {b g n d : Int} (hd : 0 < d) : Low (rsN b g n d) (rsD b g n d) := (fr_spec _ (by omega)).1
theorem rs_has {b g n d : Int} {s : List Int} (b2 : 2 ≤ b) (hd : 0 < d) : hasN b s (rsN b g n d) (rsD b g n d) = true ↔ firstI s * d ≤ (b * n - g * d) * (b - 1) ∧ (b * n - g * d) * (b - 1) ≤ lastI s * d := by
  rw [hasN_iff b2 (rs_low hd).pos]
  unfold rsN rsD
  rw [fr_le_right hd (by omega), fr_le_left hd (by omega)]
def possL (b : Int) (s : List Int) (n d : Int) : List Int := s.filter fun g => hasN b s (rsN b g n d) (rsD b g n d)
def lfd (b : Int) (s : List Int) (n d : Int) : Int := (possL b s n d).getD 0 0
theorem mem_getD {s : List Int} {g : Int} (h : g ∈ s) : ∃ i, i < s.length ∧ s.getD i 0 = g := by
  obtain ⟨i, hi, rfl⟩ := List.getElem_of_mem h
  exact ⟨i, hi, by rw [List.getD_eq_getElem?_getD, List.getElem?_eq_getElem hi]; rfl⟩
theorem last_such {p : Nat → Prop} : ∀ n, p 0 → (∃ i, i ≤ n ∧ p i ∧ (i = n ∨ ¬ p (i + 1)))
  | 0, h => ⟨0, Nat.le_refl _, h, .inl rfl⟩
  | n + 1, h => by
    obtain ⟨i, h1, h2, h3⟩ := last_such n h
    rcases h3 with e | e
    · subst e
      by_cases c : p (i + 1)
      · exact ⟨i + 1, Nat.le_refl _, c, .inl rfl⟩
      · exact ⟨i, by omega, h2, .inr c⟩
    · exact ⟨i, by omega, h2, .inr e⟩
/-- a number of the interval has a first digit -/
theorem digit_for {b : Int} {s : List Int} {n d : Int} (h : AreS b s) (b2 : 2 ≤ b) (hd : 0 < d) (hn : hasN b s n d = true) : ∃ g ∈ s, hasN b s (rsN b g n d) (rsD b g n d) = true := by
  obtain ⟨h1, h2⟩ := (hasN_iff b2 hd).mp hn
  have l2 := h.l2
  have hb : 0 ≤ b := by omega
  -- the bounds of b * n * (b - 1)
  have u1 : b * (firstI s * d) ≤ b * (n * (b - 1)) := Int.mul_le_mul_of_nonneg_left h1 hb
  have u2 : b * (n * (b - 1)) ≤ b * (lastI s * d) := Int.mul_le_mul_of_nonneg_left h2 hb
  have ex : ∀ g : Int, (b * n - g * d) * (b - 1) = b * (n * (b - 1)) - g * d * (b - 1) := fun g => by rw [Int.sub_mul, Int.mul_assoc]
  have e0 : firstI s * d * (b - 1) = b * (firstI s * d) - firstI s * d := by rw [Int.mul_sub, Int.mul_one, Int.mul_comm (firstI s * d)]
  have e9 : lastI s * d * (b - 1) = b * (lastI s * d) - lastI s * d := by rw [Int.mul_sub, Int.mul_one, Int.mul_comm (lastI s * d)]
  obtain ⟨i, hi, p1, p2⟩ := last_such (p := fun i => firstI s * d ≤ b * (n * (b - 1)) - s.getD i 0 * d * (b - 1)) (s.length - 1) (by show firstI s * d ≤ b * (n * (b - 1)) - firstI s * d * (b - 1); omega)
  refine ⟨s.getD i 0, Ew.getD_mem (by omega), (rs_has b2 hd).mpr ⟨by rw [ex]; exact p1, ?_⟩⟩
  rw [ex]
  by_cases c : i = s.length - 1
  · have : s.getD i 0 = lastI s := by rw [c]; rfl
    rw [this]
    omega
  · have p3 := p2.resolve_left c
    have g := h.gap i (by omega)
    have g2 : (s.getD (i + 1) 0 - s.getD i 0) * (b - 1) * d ≤ (lastI s - firstI s) * d := Int.mul_le_mul_of_nonneg_right g (by omega)
    have e3 : (s.getD (i + 1) 0 - s.getD i 0) * (b - 1) * d = s.getD (i + 1) 0 * d * (b - 1) - s.getD i 0 * d * (b - 1) := by
      rw [Int.sub_mul, Int.sub_mul, Int.mul_assoc, Int.mul_comm (b - 1) d, ← Int.mul_assoc, Int.mul_assoc (s.getD i 0), Int.mul_comm (b - 1) d, ← Int.mul_assoc]
    rw [e3, Int.sub_mul] at g2
    have p3' : b * (n * (b - 1)) - s.getD (i + 1) 0 * d * (b - 1) < firstI s * d := Int.not_le.mp p3
    omega
theorem poss_ne {b : Int} {s : List Int} {n d : Int} (h : AreS b s) (b2 : 2 ≤ b) (hd : 0 < d) (hn : hasN b s n d = true) : possL b s n d ≠ [] := by
  obtain ⟨g, hg, h2⟩ := digit_for h b2 hd hn
  intro z
  have : g ∈ possL b s n d := List.mem_filter.mpr ⟨hg, h2⟩
  rw [z] at this
  cases this
theorem lfd_mem {b : Int} {s : List Int} {n d : Int} (h : possL b s n d ≠ []) : lfd b s n d ∈ s ∧ hasN b s (rsN b (lfd b s n d) n d) (rsD b (lfd b s n d) n d) = true := by
  have : lfd b s n d ∈ possL b s n d := by
    unfold lfd
    exact Ew.getD_mem (List.length_pos_iff.mpr h)
  exact List.mem_filter.mp this
/-- the numbers that are met: in lowest terms, of a denominator of at most M, in the interval -/
structure OkQ (b : Int) (s : List Int) (M : Int) (q : Int × Int) : Prop where
  low : Low q.1 q.2
  le : q.2 ≤ M
  has : hasN b s q.1 q.2 = true
def rsQ (b : Int) (s : List Int) (q : Int × Int) : Int × Int := (rsN b (lfd b s q.1 q.2) q.1 q.2, rsD b (lfd b s q.1 q.2) q.1 q.2)
theorem OkQ.step {b : Int} {s : List Int} {M : Int} {q : Int × Int} (h : AreS b s) (b2 : 2 ≤ b) (o : OkQ b s M q) : OkQ b s M (rsQ b s q) := by
  have p := o.low.pos
  have m := lfd_mem (poss_ne h b2 p o.has)
  refine ⟨rs_low p, ?_, m.2⟩
  have a := frD_abs (b * q.1 - lfd b s q.1 q.2 * q.2) q.2 (by omega)
  have l := (rs_low (b := b) (g := lfd b s q.1 q.2) (n := q.1) p).pos
  have e := o.le
  show rsD b (lfd b s q.1 q.2) q.1 q.2 ≤ M
  unfold rsD at l ⊢
  omega
def restQ (b : Int) (s : List Int) (q : Int × Int) : Nat → Int × Int
  | 0 => q
  | i + 1 => rsQ b s (restQ b s q i)
def digQ (b : Int) (s : List Int) (q : Int × Int) (i : Nat) : Int := lfd b s (restQ b s q i).1 (restQ b s q i).2
def rowQ (b : Int) (s : List Int) (q : Int × Int) (m : Nat) : List Int := (List.range m).map (digQ b s q)
theorem rowQ_succ (b : Int) (s : List Int) (q : Int × Int) (m : Nat) : rowQ b s q (m + 1) = rowQ b s q m ++ [digQ b s q m] := by
  unfold rowQ
  rw [List.range_succ, List.map_append]
  rfl
theorem rowQ_len (b : Int) (s : List Int) (q : Int × Int) (m : Nat) : (rowQ b s q m).length = m := by unfold rowQ; simp
theorem OkQ.rest {b : Int} {s : List Int} {M : Int} {q : Int × Int} (h : AreS b s) (b2 : 2 ≤ b) (o : OkQ b s M q) : ∀ i, OkQ b s M (restQ b s q i)
  | 0 => o
  | i + 1 => (OkQ.rest h b2 o i).step h b2
/-- how great they are -/
theorem OkQ.small {b : Int} {s : List Int} {M : Int} {q : Int × Int} (h : AreS b s) (b2 : 2 ≤ b) (o : OkQ b s M q) : -(99 * M) ≤ q.1 ∧ q.1 ≤ 99 * M ∧ 0 < q.2 ∧ q.2 ≤ M := by
  have p := o.low.pos
  obtain ⟨h1, h2⟩ := (hasN_iff b2 p).mp o.has
  have e := o.le
  have a1 : lastI s * q.2 ≤ 99 * q.2 := Int.mul_le_mul_of_nonneg_right h.hi (by omega)
  have a2 : -99 * q.2 ≤ firstI s * q.2 := Int.mul_le_mul_of_nonneg_right h.lo (by omega)
  have c1 : q.1 ≤ 99 * q.2 := by
    rcases Int.le_total q.1 0 with z | z
    · omega
    · have : q.1 * 1 ≤ q.1 * (b - 1) := Int.mul_le_mul_of_nonneg_left (by omega) z
      omega
  have c2 : -(99 * q.2) ≤ q.1 := by
    rcases Int.le_total 0 q.1 with z | z
    · omega
    · have : q.1 * (b - 1) ≤ q.1 * 1 := Int.mul_le_mul_of_nonpos_left z (by omega)
      omega
  omega
/-- the rest as the law reckons it: b * n / d in lowest terms, then less g -/
theorem rs_eq {b g n d : Int} (hd : 0 < d) : frN (frN (b * n) (1 * d) * 1 - g * frD (b * n) (1 * d)) (frD (b * n) (1 * d) * 1) = rsN b g n d ∧ frD (frN (b * n) (1 * d) * 1 - g * frD (b * n) (1 * d)) (frD (b * n) (1 * d) * 1) = rsD b g n d := by
  rw [Int.one_mul, Int.mul_one, Int.mul_one]
  obtain ⟨l, e⟩ := fr_spec (b * n) (b := d) (by omega)
  have p := l.pos
  refine fr_eq (by omega) (by omega) ?_
  rw [Int.sub_mul, Int.sub_mul, e, Int.mul_assoc g, Int.mul_comm (frD (b * n) d) d, ← Int.mul_assoc g]
end Ew
namespace Ew
open PySem PySem.Spec PyProof.Rows L2
theorem le_of_mul {a b c : Int} (h : a * c ≤ b * c) (hc : 0 < c) : a ≤ b := Int.le_of_mul_le_mul_right h hc
theorem interval_core {a b c d x y X Y E F S T n k : Int} (hb : 0 < b) (hd : 0 < d) (hy : 0 < y) (hac : a * d ≤ c * b) (hx : 0 ≤ x) (hxy : x ≤ y) (e1 : X * y = x * Y) (Yp : 0 < Y) (e2 : E * (d * b) = (c * b - a * d) * F) (Fp : 0 < F)
    (e3 : S * (Y * F) = X * E * T) (Tp : 0 < T) (e4 : n * (b * T) = (a * T + S * b) * k) (kp : 0 < k) : a * k ≤ n * b ∧ n * d ≤ c * k := by
  have db : 0 < d * b := Int.mul_pos hd hb
  have YF : 0 < Y * F := Int.mul_pos Yp Fp
  have bT : 0 < b * T := Int.mul_pos hb Tp
  have X0 : 0 ≤ X := le_of_mul (c := y) (by rw [e1, Int.zero_mul]; exact Int.mul_nonneg hx (Int.le_of_lt Yp)) hy
  have XY : X ≤ Y := le_of_mul (c := y) (by
    have := Int.mul_le_mul_of_nonneg_right hxy (Int.le_of_lt Yp)
    rw [e1, Int.mul_comm Y y]; exact this) hy
  have D0 : 0 ≤ c * b - a * d := by omega
  have E0 : 0 ≤ E := le_of_mul (c := d * b) (by rw [e2, Int.zero_mul]; exact Int.mul_nonneg D0 (Int.le_of_lt Fp)) db
  have S0 : 0 ≤ S := le_of_mul (c := Y * F) (by rw [e3, Int.zero_mul]; exact Int.mul_nonneg (Int.mul_nonneg X0 E0) (Int.le_of_lt Tp)) YF
  constructor
  · refine le_of_mul (c := T) ?_ Tp
    have z : 0 ≤ S * b * k := Int.mul_nonneg (Int.mul_nonneg S0 (Int.le_of_lt hb)) (Int.le_of_lt kp)
    have w : n * b * T = a * k * T + S * b * k := by grind
    omega
  · have q0 : 0 ≤ T * (c * b - a * d) * F := Int.mul_nonneg (Int.mul_nonneg (Int.le_of_lt Tp) D0) (Int.le_of_lt Fp)
    have q := Int.mul_le_mul_of_nonneg_right XY q0
    have key : S * (d * b) ≤ (c * b - a * d) * T := by
      refine le_of_mul (c := Y * F) ?_ YF
      have z1 : S * (d * b) * (Y * F) = X * (T * (c * b - a * d) * F) := by
        have : S * (d * b) * (Y * F) = S * (Y * F) * (d * b) := by grind
        rw [this, e3]
        have : X * E * T * (d * b) = X * T * (E * (d * b)) := by grind
        rw [this, e2]
        grind
      have z2 : (c * b - a * d) * T * (Y * F) = Y * (T * (c * b - a * d) * F) := by grind
      rw [z1, z2]; exact q
    refine le_of_mul (c := b * T) ?_ bT
    have w1 : n * d * (b * T) = a * d * T * k + S * (d * b) * k := by
      have : n * d * (b * T) = n * (b * T) * d := by grind
      rw [this, e4]; grind
    have w2 : c * k * (b * T) = a * d * T * k + (c * b - a * d) * T * k := by grind
    have w3 := Int.mul_le_mul_of_nonneg_right key (Int.le_of_lt kp)
    omega
theorem frD_le {x m : Int} (hm : 0 < m) : 0 < frD x m ∧ frD x m ≤ m := by
  have l := (fr_spec x (b := m) (by omega)).1.pos
  have a := frD_abs x m (by omega)
  omega
theorem pw {z : Int} {n m : Nat} (h : z.natAbs < 2 ^ n) (hm : n ≤ m) : z.natAbs < 2 ^ m := Nat.lt_of_lt_of_le h (Nat.pow_le_pow_right (by decide) hm)
theorem sw_pw {z : Int} {n : Nat} (h : z.natAbs < 2 ^ n) (hm : n ≤ 4000 := by decide) : Sw z := pw h hm
theorem pw_add {x y : Int} {n : Nat} (h1 : x.natAbs < 2 ^ n) (h2 : y.natAbs < 2 ^ n) : (x + y).natAbs < 2 ^ (n + 1) := by
  have := Int.natAbs_add_le x y
  rw [Nat.pow_succ]; omega
theorem pw_sub {x y : Int} {n : Nat} (h1 : x.natAbs < 2 ^ n) (h2 : y.natAbs < 2 ^ n) : (x - y).natAbs < 2 ^ (n + 1) := by
  have := Int.natAbs_sub_le x y
  rw [Nat.pow_succ]; omega
theorem frN_pw {x m : Int} {n : Nat} (h : x.natAbs < 2 ^ n) (hm : m ≠ 0) : (frN x m).natAbs < 2 ^ n := Nat.lt_of_le_of_lt (frN_abs x m hm) h
theorem frD_pw {x m : Int} {n : Nat} (h : m.natAbs < 2 ^ n) (hm : m ≠ 0) : (frD x m).natAbs < 2 ^ n := Nat.lt_of_le_of_lt (frD_abs x m hm) h
theorem pw_small {z : Int} (h0 : -1048576 < z) (h1 : z < 1048576) : z.natAbs < 2 ^ 20 := by
  have : (2 : Nat) ^ 20 = 1048576 := by decide
  omega
end Ew
namespace Ew
open PySem PySem.Spec PyProof.Rows L2
/-- all stays but the list at p and the tables -/
def Ev (p : Addr) (G G' : Hp) : Prop := ∀ c o, G c = some o → c ≠ p → (∀ ps, o ≠ .tbl ps) → G' c = some o
theorem Ev.refl (p : Addr) (G : Hp) : Ev p G G := fun _ _ h _ _ => h
theorem Ev.trans {p : Addr} {G G1 G2 : Hp} (a : Ev p G G1) (b : Ev p G1 G2) : Ev p G G2 := fun c o h n t => b c o (a c o h n t) n t
theorem Ev.of {p : Addr} {G G1 : Hp} (e : Same G G1) : Ev p G G1 := fun c o h _ _ => e c o h
theorem Ev.keep {p : Addr} {G G1 : Hp} (e : KeepBut p G G1) : Ev p G G1 := fun c o h n _ => e c o h n
theorem Ev.extN {p : Addr} {G G1 : Hp} (e : LamX.ExtN G G1) : Ev p G G1 := fun c o h _ t => e c o h t
theorem Ev.new {p d : Addr} {G : Hp} {o : HO} (h : G d = none) : Ev p G (upd G d o) := Ev.of (same_upd (Same.refl G) h)
theorem Ev.put {p : Addr} {G : Hp} {o : HO} : Ev p G (upd G p o) := Ev.keep KeepBut.put
theorem Ev.tup {p c : Addr} {G G' : Hp} {xs : List V} (e : Ev p G G') (h : G c = some (.tup xs)) (n : c ≠ p) : G' c = some (.tup xs) := e _ _ h n fun _ z => nomatch z
theorem Ev.lst {p c : Addr} {G G' : Hp} {xs : List V} (e : Ev p G G') (h : G c = some (.lst xs)) (n : c ≠ p) : G' c = some (.lst xs) := e _ _ h n fun _ z => nomatch z
theorem Ev.ins {p c C dx : Addr} {G G' : Hp} {fs : List (Str × V)} (e : Ev p G G') (h : G c = some (.ins C dx fs)) (n : c ≠ p) : G' c = some (.ins C dx fs) := e _ _ h n fun _ z => nomatch z
theorem RngAt.nt {G : Hp} {p q c : Addr} {ns : List Int} {i v sd : Int} {xs : List V} (R : RngAt G p q ns i v sd) (h : G c = some (.tup xs)) : c ≠ p := fun e => by
  have z := R.at_p
  rw [← e, h] at z
  cases z
theorem RngAt.ni {G : Hp} {p q c C dx : Addr} {ns : List Int} {i v sd : Int} {fs : List (Str × V)} (R : RngAt G p q ns i v sd) (h : G c = some (.ins C dx fs)) : c ≠ p := fun e => by
  have z := R.at_p
  rw [← e, h] at z
  cases z
/-- what every part of a law's turn leaves: the drawer at p, the tables -/
structure Wd (T : List (Addr × Str)) (p q : Addr) (ns : List Int) (G : Hp) : Prop where
  r : ∃ i v sd, RngAt G p q ns i v sd
  t : LamX.Tabs T G
theorem Wd.same {T : List (Addr × Str)} {p q : Addr} {ns : List Int} {G G' : Hp} (w : Wd T p q ns G) (e : Same G G') : Wd T p q ns G' := by
  obtain ⟨⟨i, v, sd, R⟩, t⟩ := w
  exact ⟨⟨i, v, sd, R.same e⟩, (Keep.of e).tabs t⟩
theorem Wd.keep {T : List (Addr × Str)} {p q : Addr} {ns : List Int} {G G' : Hp} {i v sd : Int} (w : Wd T p q ns G) (e : KeepBut p G G') (R : RngAt G' p q ns i v sd) : Wd T p q ns G' := by
  obtain ⟨⟨i, v, sd, R0⟩, t⟩ := w
  exact ⟨⟨_, _, _, R⟩, (e.keep R0.at_p).tabs t⟩
theorem Wd.extN {T : List (Addr × Str)} {p q : Addr} {ns : List Int} {G G' : Hp} (w : Wd T p q ns G) (e : LamX.ExtN G G') (t : LamX.Tabs T G') : Wd T p q ns G' := by
  obtain ⟨⟨i, v, sd, R⟩, _⟩ := w
  exact ⟨⟨i, v, sd, R.extN e⟩, t⟩
theorem Wd.put {T : List (Addr × Str)} {p q : Addr} {ns : List Int} {G : Hp} {i v sd : Int} (w : Wd T p q ns G) (ok : RngOk i v sd) : Wd T p q ns (upd G p (.lst (rngL q i v sd))) := by
  obtain ⟨⟨i, v, sd, R⟩, t⟩ := w
  exact ⟨⟨_, _, _, R.next ok⟩, (Keep.put R.at_p).tabs t⟩
theorem Wd.nt {T : List (Addr × Str)} {p q c : Addr} {ns : List Int} {G : Hp} {xs : List V} (w : Wd T p q ns G) (h : G c = some (.tup xs)) : c ≠ p := by
  obtain ⟨⟨i, v, sd, R⟩, _⟩ := w
  exact R.nt h
theorem Wd.ni {T : List (Addr × Str)} {p q c C dx : Addr} {ns : List Int} {G : Hp} {fs : List (Str × V)} (w : Wd T p q ns G) (h : G c = some (.ins C dx fs)) : c ≠ p := by
  obtain ⟨⟨i, v, sd, R⟩, _⟩ := w
  exact R.ni h
theorem Wd.nn {T : List (Addr × Str)} {p q c : Addr} {ns : List Int} {G : Hp} (w : Wd T p q ns G) (h : G c = none) : c ≠ p := by
  obtain ⟨⟨i, v, sd, R⟩, _⟩ := w
  exact R.free h
theorem Wd.nq {T : List (Addr × Str)} {p q c : Addr} {ns : List Int} {G : Hp} (w : Wd T p q ns G) (h : G c = none) : c ≠ q := by
  obtain ⟨⟨i, v, sd, R⟩, _⟩ := w
  exact R.freeq h
/-- a list of our own, another than the drawer's two, is written -/
theorem Wd.off {T : List (Addr × Str)} {p q d : Addr} {ns : List Int} {G : Hp} {o : HO} {xs : List V} (w : Wd T p q ns G) (h : G d = some (.lst xs)) (h1 : d ≠ p) (h2 : d ≠ q) : Wd T p q ns (upd G d o) := by
  obtain ⟨⟨i, v, sd, R⟩, t⟩ := w
  exact ⟨⟨_, _, _, R.off h1 h2⟩, (Keep.put h).tabs t⟩
end Ew
namespace Ew
open PySem PySem.Spec PyProof.Rows L2
/-! ## fractions as rational numbers -/
theorem rat_low (r : Rat) : Low r.num (r.den : Int) := ⟨by rw [Int.natAbs_natCast]; exact r.reduced, by have := r.den_pos; omega⟩
theorem fr_rat {a b : Int} (hb : b ≠ 0) : frN a b = (Rat.divInt a b).num ∧ frD a b = ((Rat.divInt a b).den : Int) := by
  obtain ⟨l, e⟩ := fr_spec a hb
  have l2 := rat_low (Rat.divInt a b)
  refine low_uniq l l2 ?_
  have e2 : (Rat.divInt a b).num * b = a * ((Rat.divInt a b).den : Int) := (Rat.divInt_eq_divInt_iff (Int.ne_of_gt l2.pos) hb).mp (by rw [Rat.num_divInt_den])
  have z : frN a b * ((Rat.divInt a b).den : Int) * b = (Rat.divInt a b).num * frD a b * b := by
    rw [Int.mul_right_comm, e, Int.mul_right_comm _ _ b, e2, Int.mul_right_comm]
  exact Int.eq_of_mul_eq_mul_right hb z
/-- the items of a fraction's tuple -/
def qV (r : Rat) : List V := [.int r.num, .int (r.den : Int)]
theorem qV_fr {a b : Int} (hb : b ≠ 0) : [V.int (frN a b), V.int (frD a b)] = qV (Rat.divInt a b) := by
  obtain ⟨e1, e2⟩ := fr_rat (a := a) hb
  unfold qV
  rw [e1, e2]
theorem qV_of {n d : Int} (h : Low n d) : [V.int n, V.int d] = qV (Rat.divInt n d) := by
  have e := low_uniq h (fr_spec n (b := d) (by have := h.pos; omega)).1 (by have := (fr_spec n (b := d) (by have := h.pos; omega)).2; omega)
  rw [← qV_fr (by have := h.pos; omega), ← e.1, ← e.2]
/-- how long its numbers are -/
structure Sz (n : Nat) (r : Rat) : Prop where
  num : r.num.natAbs < 2 ^ n
  den : r.den < 2 ^ n
theorem Sz.le {n m : Nat} {r : Rat} (h : Sz n r) (hm : n ≤ m) : Sz m r := ⟨Nat.lt_of_lt_of_le h.num (Nat.pow_le_pow_right (by decide) hm), Nat.lt_of_lt_of_le h.den (Nat.pow_le_pow_right (by decide) hm)⟩
theorem Sz.den' {n : Nat} {r : Rat} (h : Sz n r) : (r.den : Int).natAbs < 2 ^ n := by rw [Int.natAbs_natCast]; exact h.den
theorem den_ne (r : Rat) : (r.den : Int) ≠ 0 := by have := r.den_pos; omega
theorem sz_div {a b : Int} {n : Nat} (hb : b ≠ 0) (ha : a.natAbs < 2 ^ n) (hb2 : b.natAbs < 2 ^ n) : Sz n (Rat.divInt a b) := by
  obtain ⟨e1, e2⟩ := fr_rat (a := a) hb
  have h1 := frN_abs a b hb
  have h2 := frD_abs a b hb
  rw [e1] at h1
  rw [e2, Int.natAbs_natCast] at h2
  exact ⟨Nat.lt_of_le_of_lt h1 ha, Nat.lt_of_le_of_lt h2 hb2⟩
theorem add_rat (r s : Rat) : r + s = Rat.divInt (r.num * s.den + s.num * r.den) (r.den * s.den) := by
  rw [← Rat.divInt_add_divInt _ _ (den_ne r) (den_ne s), Rat.num_divInt_den, Rat.num_divInt_den]
theorem mul_rat (r s : Rat) : r * s = Rat.divInt (r.num * s.num) (r.den * s.den) := by
  rw [← Rat.divInt_mul_divInt, Rat.num_divInt_den, Rat.num_divInt_den]
theorem sub_rat (r s : Rat) : r - s = Rat.divInt (r.num * s.den - s.num * r.den) (r.den * s.den) := by
  rw [← Rat.divInt_sub_divInt _ _ (den_ne r) (den_ne s), Rat.num_divInt_den, Rat.num_divInt_den]
theorem div_rat {r s : Rat} (h : s ≠ 0) : r / s = Rat.divInt (r.num * s.den) (r.den * s.num) := by
  rw [Rat.div_def, show s⁻¹ = Rat.divInt s.den s.num by rw [Rat.inv_def], ← Rat.divInt_mul_divInt, Rat.num_divInt_den]
theorem num_ne {s : Rat} (h : s ≠ 0) : s.num ≠ 0 := fun e => h (by
  have := Rat.num_divInt_den s
  rw [e, Rat.zero_divInt] at this
  exact this.symm)
theorem Sz.add {n m : Nat} {r s : Rat} (h : Sz n r) (g : Sz m s) : Sz (n + m + 1) (r + s) := by
  rw [add_rat]
  refine sz_div (Int.mul_ne_zero (den_ne r) (den_ne s)) (pw_add (wide_lt h.num g.den') ?_) (pw (wide_lt h.den' g.den') (by omega))
  rw [Nat.add_comm]; exact wide_lt g.num h.den'
theorem Sz.sub {n m : Nat} {r s : Rat} (h : Sz n r) (g : Sz m s) : Sz (n + m + 1) (r - s) := by
  rw [sub_rat]
  refine sz_div (Int.mul_ne_zero (den_ne r) (den_ne s)) (pw_sub (wide_lt h.num g.den') ?_) (pw (wide_lt h.den' g.den') (by omega))
  rw [Nat.add_comm]; exact wide_lt g.num h.den'
theorem Sz.mul {n m : Nat} {r s : Rat} (h : Sz n r) (g : Sz m s) : Sz (n + m) (r * s) := by
  rw [mul_rat]
  exact sz_div (Int.mul_ne_zero (den_ne r) (den_ne s)) (wide_lt h.num g.num) (wide_lt h.den' g.den')
theorem Sz.div {n m : Nat} {r s : Rat} (h : Sz n r) (g : Sz m s) (h0 : s ≠ 0) : Sz (n + m) (r / s) := by
  rw [div_rat h0]
  exact sz_div (Int.mul_ne_zero (den_ne r) (num_ne h0)) (wide_lt h.num g.den') (wide_lt h.den' g.num)
theorem lt_rat (r s : Rat) : decide (r.num * (s.den : Int) < s.num * (r.den : Int)) = decide (r < s) := by
  rw [decide_eq_decide]
  exact (Rat.lt_iff r s).symm
/-! ## what the heap holds: all but lists and tables stays -/
def Kp (G G' : Hp) : Prop := ∀ b o, G b = some o → (∀ xs, o ≠ .lst xs) → (∀ ps, o ≠ .tbl ps) → G' b = some o
theorem Kp.refl (G : Hp) : Kp G G := fun _ _ h _ _ => h
theorem Kp.trans {G G1 G2 : Hp} (a : Kp G G1) (b : Kp G1 G2) : Kp G G2 := fun c o h n t => b c o (a c o h n t) n t
theorem Kp.of {G G' : Hp} (e : Same G G') : Kp G G' := fun b o h _ _ => e b o h
theorem Kp.extN {G G' : Hp} (e : LamX.ExtN G G') : Kp G G' := fun b o h _ t => e b o h t
theorem Kp.put {G : Hp} {p : Addr} {xs : List V} {o : HO} (h : G p = some (.lst xs)) : Kp G (upd G p o) := fun b u q n _ => by
  rw [upd_ne (fun e => n xs (Option.some.inj (q.symm.trans (by rw [e]; exact h))))]
  exact q
theorem Kp.new {G : Hp} {p : Addr} {o : HO} (h : G p = none) : Kp G (upd G p o) := Kp.of (same_upd (Same.refl G) h)
theorem Kp.but {p : Addr} {G G' : Hp} {xs : List V} (h : G p = some (.lst xs)) (e : KeepBut p G G') : Kp G G' := fun b o hb n _ => e b o hb fun z => n xs (Option.some.inj (hb.symm.trans (by rw [z]; exact h)))
theorem Kp.t {G G' : Hp} {c : Addr} {xs : List V} (e : Kp G G') (h : G c = some (.tup xs)) : G' c = some (.tup xs) := e _ _ h (fun _ z => nomatch z) (fun _ z => nomatch z)
theorem Kp.i {G G' : Hp} {c C dx : Addr} {fs : List (Str × V)} (e : Kp G G') (h : G c = some (.ins C dx fs)) : G' c = some (.ins C dx fs) := e _ _ h (fun _ z => nomatch z) (fun _ z => nomatch z)
/-- v is the fraction r -/
def QAt (H : Hp) (v : V) (r : Rat) : Prop := ∃ a, v = .ref a ∧ H a = some (.tup (qV r))
theorem QAt.kp {G G' : Hp} {v : V} {r : Rat} (e : Kp G G') (h : QAt G v r) : QAt G' v r := by
  obtain ⟨a, rfl, h⟩ := h
  exact ⟨a, rfl, e.t h⟩
/-- two fractions, one operation -/
def spR2 (op : Rat → Rat → Rat) (ok : Rat → Rat → Prop) : Sp := fun vs H Q _ => ∃ (u v : V) (r s : Rat), vs = [u, v] ∧ QAt H u r ∧ QAt H v s ∧ Sz 3900 r ∧ Sz 3900 s ∧ ok r s ∧ ∀ G p, Same H G → H p = none → G p = some (.tup (qV (op r s))) → Q (.ref p) G
def spRless : Sp := fun vs H Q _ => ∃ (u v : V) (r s : Rat), vs = [u, v] ∧ QAt H u r ∧ QAt H v s ∧ Sz 3900 r ∧ Sz 3900 s ∧ Q (.bl (decide (r < s))) H
theorem sz_sw {r : Rat} (h : Sz 3900 r) : Sw r.num ∧ Sw (r.den : Int) := ⟨sw_pw h.num (by decide), sw_pw h.den' (by decide)⟩
end Ew
namespace Ew
open PySem PySem.Spec PyProof.Rows L2
/-! ## lines through points -/
abbrev Pt := Rat × Rat
def slopeQ (l r : Pt) : Rat := (r.2 - l.2) / (r.1 - l.1)
def heightQ (l r : Pt) (x : Rat) : Rat := l.2 + slopeQ l r * (x - l.1)
abbrev AscQ (ps : List Pt) : Prop := ps.Pairwise fun a b => a.1 < b.1
/-- the points behind the first one that stay -/
def normT : List Pt → List Pt
  | p :: q :: r :: rest => (if slopeQ p q = slopeQ q r then [] else [q]) ++ normT (q :: r :: rest)
  | [_, q] => [q]
  | _ => []
def normQ : List Pt → List Pt
  | p :: rest => p :: normT (p :: rest)
  | [] => []
def evalQ : List Pt → Rat → Rat
  | [p, q], x => heightQ p q x
  | p :: q :: r :: rest, x => if q.1 < x then evalQ (q :: r :: rest) x else heightQ p q x
  | _, _ => 0
theorem col {P p q : Pt} (h1 : P.1 < p.1) (h2 : p.1 < q.1) (e : slopeQ P p = slopeQ p q) : slopeQ P q = slopeQ p q ∧ (∀ x, heightQ P q x = heightQ p q x) ∧ ∀ x, heightQ P p x = heightQ p q x := by
  unfold slopeQ at e
  have a1 : p.1 - P.1 ≠ 0 := by grind
  have a2 : q.1 - p.1 ≠ 0 := by grind
  have a3 : q.1 - P.1 ≠ 0 := by grind
  have s : slopeQ P q = slopeQ p q := by unfold slopeQ; grind
  have y : p.2 = P.2 + slopeQ p q * (p.1 - P.1) := by unfold slopeQ; grind
  refine ⟨s, fun x => ?_, fun x => ?_⟩
  · unfold heightQ
    rw [s]
    grind
  · unfold heightQ
    rw [show slopeQ P p = slopeQ p q from e]
    grind
/-- what is kept of the points tells the same heights -/
theorem ev_norm (x : Rat) : ∀ (rest : List Pt) (P p : Pt), rest ≠ [] → AscQ (p :: rest) → (P = p ∨ (P.1 < p.1 ∧ ∀ q, rest.head? = some q → slopeQ P p = slopeQ p q)) →
    ((p.1 < x ∨ P = p) → evalQ (P :: normT (p :: rest)) x = evalQ (p :: rest) x) ∧ (P ≠ p → ¬ p.1 < x → evalQ (P :: normT (p :: rest)) x = heightQ P p x)
  | [], _, _, h, _, _ => absurd rfl h
  | [q], P, p, _, asc, st => by
    have pq : p.1 < q.1 := (List.pairwise_cons.mp asc).1 q (List.mem_cons_self ..)
    show ((p.1 < x ∨ P = p) → heightQ P q x = heightQ p q x) ∧ (P ≠ p → ¬ p.1 < x → heightQ P q x = heightQ P p x)
    rcases st with rfl | ⟨h1, h2⟩
    · exact ⟨fun _ => rfl, fun z => absurd rfl z⟩
    · obtain ⟨c1, c2, c3⟩ := col h1 pq (h2 q rfl)
      exact ⟨fun _ => c2 x, fun _ _ => (c2 x).trans (c3 x).symm⟩
  | q :: r :: rest, P, p, _, asc, st => by
    have asc' := (List.pairwise_cons.mp asc).2
    have pq : p.1 < q.1 := (List.pairwise_cons.mp asc).1 q (List.mem_cons_self ..)
    have qr : q.1 < r.1 := (List.pairwise_cons.mp asc').1 r (List.mem_cons_self ..)
    have hP : ∀ y, heightQ P q y = heightQ p q y := by
      rcases st with rfl | ⟨h1, h2⟩
      · exact fun _ => rfl
      · exact (col h1 pq (h2 q rfl)).2.1
    have sP : slopeQ P q = slopeQ p q := by
      rcases st with rfl | ⟨h1, h2⟩
      · rfl
      · exact (col h1 pq (h2 q rfl)).1
    have Pq : P.1 < q.1 := by
      rcases st with rfl | ⟨h1, h2⟩
      · exact pq
      · grind
    have low : P ≠ p → heightQ P q x = heightQ P p x := fun z => by
      rcases st with rfl | ⟨h1, h2⟩
      · exact absurd rfl z
      · obtain ⟨_, c2, c3⟩ := col h1 pq (h2 q rfl)
        exact (c2 x).trans (c3 x).symm
    by_cases c : slopeQ p q = slopeQ q r
    · have e : normT (p :: q :: r :: rest) = normT (q :: r :: rest) := by rw [normT, if_pos c, List.nil_append]
      obtain ⟨i1, i2⟩ := ev_norm x (r :: rest) P q (by simp) asc' (.inr ⟨Pq, fun s hs => by
        cases hs
        rw [sP, c]⟩)
      have Pn : P ≠ q := fun z => by rw [z] at Pq; exact absurd Pq (by grind)
      rw [e]
      constructor
      · intro _
        by_cases d : q.1 < x
        · rw [i1 (.inl d), evalQ, if_pos d]
        · rw [i2 Pn d, evalQ, if_neg d, hP]
      · intro z nx
        have d : ¬ q.1 < x := by grind
        rw [i2 Pn d]
        exact low z
    · have e : normT (p :: q :: r :: rest) = q :: normT (q :: r :: rest) := by rw [normT, if_neg c]; rfl
      obtain ⟨i1, _⟩ := ev_norm x (r :: rest) q q (by simp) asc' (.inl rfl)
      have i1 := i1 (.inr rfl)
      obtain ⟨n1, n2, en⟩ : ∃ n1 n2, normT (q :: r :: rest) = n1 :: n2 := by
        clear e i1
        suffices ∀ (l : List Pt) (a b : Pt), ∃ n1 n2, normT (a :: b :: l) = n1 :: n2 from this rest q r
        intro l
        induction l with
        | nil => exact fun a b => ⟨b, [], rfl⟩
        | cons d l ih =>
          intro a b
          rw [normT]
          obtain ⟨n1, n2, e⟩ := ih b d
          rw [e]
          split
          · exact ⟨_, _, rfl⟩
          · exact ⟨_, _, rfl⟩
      rw [e, en, evalQ]
      rw [en] at i1
      constructor
      · intro _
        by_cases d : q.1 < x
        · rw [if_pos d, i1]
          conv => rhs; rw [evalQ, if_pos d]
        · rw [if_neg d, hP]
          conv => rhs; rw [evalQ, if_neg d]
      · intro z nx
        have d : ¬ q.1 < x := by grind
        rw [if_neg d]
        exact low z
theorem eval_norm {ps : List Pt} (x : Rat) (h2 : 2 ≤ ps.length) (asc : AscQ ps) : evalQ (normQ ps) x = evalQ ps x := by
  match ps, h2, asc with
  | p :: q :: rest, _, asc => exact (ev_norm x (q :: rest) p p (by simp) asc (.inl rfl)).1 (.inr rfl)
/-! ### the least and the greatest -/
theorem mid {P p q : Pt} (h1 : P.1 < p.1) (h2 : p.1 < q.1) (e : slopeQ P p = slopeQ p q) (m : Rat) : (m ≤ P.2 → m ≤ q.2 → m ≤ p.2) ∧ (P.2 ≤ m → q.2 ≤ m → p.2 ≤ m) := by
  have a1 : 0 < p.1 - P.1 := by grind
  have a2 : 0 < q.1 - p.1 := by grind
  have y1 : p.2 - P.2 = slopeQ P p * (p.1 - P.1) := by unfold slopeQ; grind
  have y2 : q.2 - p.2 = slopeQ P p * (q.1 - p.1) := by rw [e]; unfold slopeQ; grind
  rcases Rat.le_total (a := 0) (b := slopeQ P p) with z | z
  · have b1 : 0 ≤ slopeQ P p * (p.1 - P.1) := Rat.mul_nonneg z (by grind)
    have b2 : 0 ≤ slopeQ P p * (q.1 - p.1) := Rat.mul_nonneg z (by grind)
    constructor <;> intros <;> grind
  · have b1 : 0 ≤ (- slopeQ P p) * (p.1 - P.1) := Rat.mul_nonneg (by grind) (by grind)
    have b2 : 0 ≤ (- slopeQ P p) * (q.1 - p.1) := Rat.mul_nonneg (by grind) (by grind)
    constructor <;> intros <;> grind
end Ew
namespace Ew
open PySem PySem.Spec PyProof.Rows L2
theorem normT_sub : ∀ (rest : List Pt) (p : Pt), (normT (p :: rest)).Sublist rest
  | [], _ => List.nil_sublist _
  | [q], p => List.Sublist.refl _
  | q :: r :: rest, p => by
    have ih := normT_sub (r :: rest) q
    rw [normT]
    split
    · exact List.Sublist.cons _ (by rw [List.nil_append]; exact ih)
    · exact List.Sublist.cons_cons _ ih
theorem normQ_sub (ps : List Pt) : (normQ ps).Sublist ps := by
  cases ps with
  | nil => exact List.Sublist.refl _
  | cons p rest => exact List.Sublist.cons_cons _ (normT_sub rest p)
theorem normQ_asc {ps : List Pt} (h : AscQ ps) : AscQ (normQ ps) := h.sublist (normQ_sub ps)
theorem normQ_len_le (ps : List Pt) : (normQ ps).length ≤ ps.length := (normQ_sub ps).length_le
def dpt : Pt := (0, 0)
def bendAt (ps : List Pt) (k : Nat) : List Pt := if slopeQ (ps.getD k dpt) (ps.getD (k + 1) dpt) = slopeQ (ps.getD (k + 1) dpt) (ps.getD (k + 2) dpt) then [] else [ps.getD (k + 1) dpt]
def bendsF (ps : List Pt) (i : Nat) : List Pt := (List.range i).flatMap (bendAt ps)
theorem bendsF_succ (ps : List Pt) (i : Nat) : bendsF ps (i + 1) = bendsF ps i ++ bendAt ps i := by
  unfold bendsF
  rw [List.range_succ, List.flatMap_append]
  simp
theorem normT_range : ∀ ps : List Pt, 2 ≤ ps.length → normT ps = bendsF ps (ps.length - 2) ++ [ps.getD (ps.length - 1) dpt]
  | [], h => absurd h (by decide)
  | [p], h => absurd h (by simp)
  | [p, q], _ => rfl
  | p :: q :: r :: rest, _ => by
    have ih := normT_range (q :: r :: rest) (by simp)
    rw [normT, ih]
    unfold bendsF
    rw [show (p :: q :: r :: rest).length - 2 = (q :: r :: rest).length - 2 + 1 by simp, List.range_succ_eq_map, List.flatMap_cons, List.flatMap_map, List.append_assoc]
    congr 1
theorem normQ_range {ps : List Pt} (h : 2 ≤ ps.length) : normQ ps = (ps.getD 0 dpt :: bendsF ps (ps.length - 2)) ++ [ps.getD (ps.length - 1) dpt] := by
  match ps, h with
  | p :: rest, h =>
    show p :: normT (p :: rest) = _
    rw [normT_range _ h]
    rfl
theorem normQ_len {ps : List Pt} (h : 2 ≤ ps.length) : 2 ≤ (normQ ps).length := by
  rw [normQ_range h]
  simp
theorem normQ_first {ps : List Pt} (h : 2 ≤ ps.length) : (normQ ps).getD 0 dpt = ps.getD 0 dpt := by
  rw [normQ_range h]
  rfl
theorem normQ_last {ps : List Pt} (h : 2 ≤ ps.length) : (normQ ps).getD ((normQ ps).length - 1) dpt = ps.getD (ps.length - 1) dpt := by
  rw [normQ_range h]
  simp
/-! ### the walk for a height -/
theorem drop_at {ps : List Pt} {i : Nat} (h : i < ps.length) : ps.drop i = ps.getD i dpt :: ps.drop (i + 1) := by
  rw [List.drop_eq_getElem_cons h, List.getD_eq_getElem?_getD, List.getElem?_eq_getElem h]
  rfl
theorem eval_step {ps : List Pt} {i : Nat} {x : Rat} (h : i + 2 < ps.length) (hx : (ps.getD (i + 1) dpt).1 < x) : evalQ (ps.drop i) x = evalQ (ps.drop (i + 1)) x := by
  rw [drop_at (by omega : i < ps.length), drop_at (by omega : i + 1 < ps.length), drop_at (by omega : i + 1 + 1 < ps.length), evalQ, if_pos hx]
theorem eval_stop {ps : List Pt} {i : Nat} {x : Rat} (h : i + 1 < ps.length) (hx : ¬ (ps.getD (i + 1) dpt).1 < x) : evalQ (ps.drop i) x = heightQ (ps.getD i dpt) (ps.getD (i + 1) dpt) x := by
  rw [drop_at (by omega : i < ps.length), drop_at h]
  cases e : ps.drop (i + 1 + 1) with
  | nil => rfl
  | cons r rest => rw [evalQ, if_neg hx]
/-! ### the least and the greatest -/
theorem norm_ok {ok : Rat → Prop} (hm : ∀ (P p q : Pt), P.1 < p.1 → p.1 < q.1 → slopeQ P p = slopeQ p q → ok P.2 → ok q.2 → ok p.2) : ∀ (rest : List Pt) (P p : Pt), rest ≠ [] → AscQ (p :: rest) → (P = p ∨ (P.1 < p.1 ∧ ∀ q, rest.head? = some q → slopeQ P p = slopeQ p q)) →
    ok P.2 → (∀ q ∈ normT (p :: rest), ok q.2) → ok p.2 ∧ ∀ q ∈ rest, ok q.2
  | [], _, _, h, _, _, _, _ => absurd rfl h
  | [q], P, p, _, asc, st, hP, hn => by
    have pq : p.1 < q.1 := (List.pairwise_cons.mp asc).1 q (List.mem_cons_self ..)
    have hq : ok q.2 := hn q (List.mem_cons_self ..)
    refine ⟨?_, fun z hz => by rw [List.mem_singleton.mp hz]; exact hq⟩
    rcases st with rfl | ⟨h1, h2⟩
    · exact hP
    · exact hm P p q h1 pq (h2 q rfl) hP hq
  | q :: r :: rest, P, p, _, asc, st, hP, hn => by
    have asc' := (List.pairwise_cons.mp asc).2
    have pq : p.1 < q.1 := (List.pairwise_cons.mp asc).1 q (List.mem_cons_self ..)
    have sP : slopeQ P q = slopeQ p q := by
      rcases st with rfl | ⟨h1, h2⟩
      · rfl
      · exact (col h1 pq (h2 q rfl)).1
    have Pq : P.1 < q.1 := by
      rcases st with rfl | ⟨h1, h2⟩
      · exact pq
      · grind
    have fin : ok q.2 ∧ (∀ z ∈ r :: rest, ok z.2) → ok p.2 ∧ ∀ z ∈ q :: r :: rest, ok z.2 := fun ⟨hq, hr⟩ => by
      refine ⟨?_, fun z hz => ?_⟩
      · rcases st with rfl | ⟨h1, h2⟩
        · exact hP
        · exact hm P p q h1 pq (h2 q rfl) hP hq
      · rcases List.mem_cons.mp hz with rfl | hz
        · exact hq
        · exact hr z hz
    rw [normT] at hn
    by_cases c : slopeQ p q = slopeQ q r
    · rw [if_pos c, List.nil_append] at hn
      exact fin (norm_ok hm (r :: rest) P q (by simp) asc' (.inr ⟨Pq, fun s hs => by cases hs; rw [sP, c]⟩) hP hn)
    · rw [if_neg c] at hn
      have hq : ok q.2 := hn q (by simp)
      exact fin (norm_ok hm (r :: rest) q q (by simp) asc' (.inl rfl) hq (fun z hz => hn z (by simp [hz])))
def minF : Rat → List Rat → Rat
  | f, [] => f
  | f, y :: ys => minF (if y < f then y else f) ys
def maxF : Rat → List Rat → Rat
  | f, [] => f
  | f, y :: ys => maxF (if f < y then y else f) ys
theorem minF_le : ∀ (ys : List Rat) (f : Rat), minF f ys ≤ f ∧ ∀ y ∈ ys, minF f ys ≤ y
  | [], f => ⟨Rat.le_refl, fun y hy => nomatch hy⟩
  | z :: ys, f => by
    obtain ⟨h1, h2⟩ := minF_le ys (if z < f then z else f)
    rw [minF]
    refine ⟨?_, fun y hy => ?_⟩
    · split at h1 <;> grind
    · rcases List.mem_cons.mp hy with rfl | hy
      · split at h1 <;> grind
      · exact h2 y hy
theorem minF_mem : ∀ (ys : List Rat) (f : Rat), minF f ys = f ∨ minF f ys ∈ ys
  | [], f => .inl rfl
  | z :: ys, f => by
    rw [minF]
    rcases minF_mem ys (if z < f then z else f) with e | e
    · rw [e]
      split
      · exact .inr (List.mem_cons_self ..)
      · exact .inl rfl
    · exact .inr (List.mem_cons_of_mem _ e)
theorem maxF_le : ∀ (ys : List Rat) (f : Rat), f ≤ maxF f ys ∧ ∀ y ∈ ys, y ≤ maxF f ys
  | [], f => ⟨Rat.le_refl, fun y hy => nomatch hy⟩
  | z :: ys, f => by
    obtain ⟨h1, h2⟩ := maxF_le ys (if f < z then z else f)
    rw [maxF]
    refine ⟨?_, fun y hy => ?_⟩
    · split at h1 <;> grind
    · rcases List.mem_cons.mp hy with rfl | hy
      · split at h1 <;> grind
      · exact h2 y hy
theorem maxF_mem : ∀ (ys : List Rat) (f : Rat), maxF f ys = f ∨ maxF f ys ∈ ys
  | [], f => .inl rfl
  | z :: ys, f => by
    rw [maxF]
    rcases maxF_mem ys (if f < z then z else f) with e | e
    · rw [e]
      split
      · exact .inr (List.mem_cons_self ..)
      · exact .inl rfl
    · exact .inr (List.mem_cons_of_mem _ e)
def leastQ (ps : List Pt) : Rat := minF (ps.getD 0 dpt).2 (ps.map (·.2))
def greatestQ (ps : List Pt) : Rat := maxF (ps.getD 0 dpt).2 (ps.map (·.2))
theorem least_norm {ps : List Pt} (h : 2 ≤ ps.length) (asc : AscQ ps) : leastQ (normQ ps) = leastQ ps := by
  match ps, h, asc with
  | p :: q :: rest, h, asc =>
    have a1 := minF_le (((p :: q :: rest) : List Pt).map (·.2)) p.2
    have a2 := minF_le ((normQ (p :: q :: rest)).map (·.2)) p.2
    show minF p.2 ((normQ (p :: q :: rest)).map (·.2)) = minF p.2 (((p :: q :: rest) : List Pt).map (·.2))
    obtain ⟨o1, o2⟩ := norm_ok (ok := fun y => minF p.2 ((normQ (p :: q :: rest)).map (·.2)) ≤ y) (fun P p q x1 x2 e b1 b2 => (mid x1 x2 e _).1 b1 b2) (q :: rest) p p (by simp) asc (.inl rfl) a2.1
      (fun z hz => a2.2 _ (List.mem_map.mpr ⟨z, List.mem_cons_of_mem _ hz, rfl⟩))
    apply Rat.le_antisymm
    · rcases minF_mem (((p :: q :: rest) : List Pt).map (·.2)) p.2 with e | e
      · rw [e]; exact o1
      · obtain ⟨z, hz, ez⟩ := List.mem_map.mp e
        rw [← ez]
        rcases List.mem_cons.mp hz with rfl | hz
        · exact o1
        · exact o2 z hz
    · rcases minF_mem ((normQ (p :: q :: rest)).map (·.2)) p.2 with e | e
      · rw [e]; exact a1.1
      · obtain ⟨z, hz, ez⟩ := List.mem_map.mp e
        rw [← ez]
        exact a1.2 _ (List.mem_map.mpr ⟨z, (normQ_sub _).subset hz, rfl⟩)
theorem greatest_norm {ps : List Pt} (h : 2 ≤ ps.length) (asc : AscQ ps) : greatestQ (normQ ps) = greatestQ ps := by
  match ps, h, asc with
  | p :: q :: rest, h, asc =>
    have a1 := maxF_le (((p :: q :: rest) : List Pt).map (·.2)) p.2
    have a2 := maxF_le ((normQ (p :: q :: rest)).map (·.2)) p.2
    show maxF p.2 ((normQ (p :: q :: rest)).map (·.2)) = maxF p.2 (((p :: q :: rest) : List Pt).map (·.2))
    obtain ⟨o1, o2⟩ := norm_ok (ok := fun y => y ≤ maxF p.2 ((normQ (p :: q :: rest)).map (·.2))) (fun P p q x1 x2 e b1 b2 => (mid x1 x2 e _).2 b1 b2) (q :: rest) p p (by simp) asc (.inl rfl) a2.1
      (fun z hz => a2.2 _ (List.mem_map.mpr ⟨z, List.mem_cons_of_mem _ hz, rfl⟩))
    apply Rat.le_antisymm
    · rcases maxF_mem ((normQ (p :: q :: rest)).map (·.2)) p.2 with e | e
      · rw [e]; exact a1.1
      · obtain ⟨z, hz, ez⟩ := List.mem_map.mp e
        rw [← ez]
        exact a1.2 _ (List.mem_map.mpr ⟨z, (normQ_sub _).subset hz, rfl⟩)
    · rcases maxF_mem (((p :: q :: rest) : List Pt).map (·.2)) p.2 with e | e
      · rw [e]; exact o1
      · obtain ⟨z, hz, ez⟩ := List.mem_map.mp e
        rw [← ez]
        rcases List.mem_cons.mp hz with rfl | hz
        · exact o1
        · exact o2 z hz
/-! ### lists of values and what they stand for -/
structure All2 {α : Type} (R : V → α → Prop) (vs : List V) (xs : List α) : Prop where
  len : vs.length = xs.length
  at_ : ∀ (i : Nat) (v : V) (x : α), vs[i]? = some v → xs[i]? = some x → R v x
theorem All2.nil {α : Type} {R : V → α → Prop} : All2 R [] [] := ⟨rfl, fun i v x h => by simp at h⟩
theorem All2.imp {α : Type} {R S : V → α → Prop} {vs : List V} {xs : List α} (a : All2 R vs xs) (h : ∀ v x, R v x → S v x) : All2 S vs xs := ⟨a.len, fun i v x h1 h2 => h v x (a.at_ i v x h1 h2)⟩
theorem All2.get {α : Type} {R : V → α → Prop} {vs : List V} {xs : List α} (a : All2 R vs xs) {i : Nat} (d : α) (h : i < xs.length) : ∃ v, vs[i]? = some v ∧ R v (xs.getD i d) := by
  have h' : i < vs.length := by rw [a.len]; exact h
  refine ⟨vs[i], List.getElem?_eq_getElem h', a.at_ i _ _ (List.getElem?_eq_getElem h') ?_⟩
  rw [List.getD_eq_getElem?_getD, List.getElem?_eq_getElem h]
  rfl
theorem All2.snoc {α : Type} {R : V → α → Prop} {vs : List V} {xs : List α} {v : V} {x : α} (a : All2 R vs xs) (h : R v x) : All2 R (vs ++ [v]) (xs ++ [x]) := by
  refine ⟨by rw [List.length_append, List.length_append, a.len]; rfl, fun i u y h1 h2 => ?_⟩
  by_cases c : i < vs.length
  · rw [List.getElem?_append_left c] at h1
    rw [List.getElem?_append_left (by rw [← a.len]; exact c)] at h2
    exact a.at_ i u y h1 h2
  · rw [List.getElem?_append_right (by omega)] at h1
    rw [List.getElem?_append_right (by rw [← a.len]; omega), ← a.len] at h2
    match e : i - vs.length, h1, h2 with
    | 0, h1, h2 =>
      cases h1; cases h2; exact h
    | n + 1, h1, h2 => cases h1
theorem All2.append {α : Type} {R : V → α → Prop} {vs ws : List V} {xs ys : List α} (a : All2 R vs xs) (b : All2 R ws ys) : All2 R (vs ++ ws) (xs ++ ys) := by
  refine ⟨by rw [List.length_append, List.length_append, a.len, b.len], fun i u y h1 h2 => ?_⟩
  by_cases c : i < vs.length
  · rw [List.getElem?_append_left c] at h1
    rw [List.getElem?_append_left (by rw [← a.len]; exact c)] at h2
    exact a.at_ i u y h1 h2
  · rw [List.getElem?_append_right (by omega)] at h1
    rw [List.getElem?_append_right (by rw [← a.len]; omega), ← a.len] at h2
    exact b.at_ _ u y h1 h2
/-- v is the point pt -/
def PAt (H : Hp) (v : V) (pt : Pt) : Prop := ∃ (a : Addr) (x y : V), v = .ref a ∧ H a = some (.tup [x, y]) ∧ QAt H x pt.1 ∧ QAt H y pt.2
theorem PAt.kp {G G' : Hp} {v : V} {pt : Pt} (e : Kp G G') (h : PAt G v pt) : PAt G' v pt := by
  obtain ⟨a, x, y, rfl, h1, h2, h3⟩ := h
  exact ⟨a, x, y, rfl, e.t h1, h2.kp e, h3.kp e⟩
theorem pts_kp {G G' : Hp} {vs : List V} {ps : List Pt} (e : Kp G G') (h : All2 (PAt G) vs ps) : All2 (PAt G') vs ps := h.imp fun _ _ q => q.kp e
theorem qs_kp {G G' : Hp} {vs : List V} {ps : List Rat} (e : Kp G G') (h : All2 (QAt G) vs ps) : All2 (QAt G') vs ps := h.imp fun _ _ q => q.kp e
end Ew
namespace Ew
open PySem PySem.Spec PyProof.Rows L2
theorem pi_or {X : Cx} {tg e : Expr} {w1 w2 : TI} (a : PI X tg e w1) (b : PI X tg e w2) : PI X tg e (fun σ H R => w1 σ H R ∨ w2 σ H R) := ⟨fun pins s σ H R I h => h.elim (a.run pins s σ H R I) (b.run pins s σ H R I)⟩
/-- a list or a tuple -/
def SeqV (K : PySem.W.Frag) (H : Hp) (a : Addr) (vs : List V) : Prop := SqL K H a vs ∨ SqT K H a vs
theorem SeqV.same {K : PySem.W.Frag} {H G : Hp} {a : Addr} {vs : List V} (h : SeqV K H a vs) (e : Same H G) : SeqV K G a vs := h.imp e.seq (seqT e)
theorem ix_any {K : PySem.W.Frag} {H : Hp} {a : Addr} {vs : List V} {i : Int} {v : V} {Q : VK} (h : SeqV K H a vs) (hat : atI vs i = some v) (q : Q v H) : rIx K (.ref a) (.int i) H Q :=
  h.elim (fun h => .inl ⟨a, vs, i, v, rfl, rfl, h, hat, q⟩) (fun h => .inr (.inl ⟨a, vs, i, v, rfl, rfl, h, hat, q⟩))
theorem lenV_any {K : PySem.W.Frag} {H : Hp} {a : Addr} {vs : List V} (h : SeqV K H a vs) : LenV K (.ref a) H vs.length := h.elim (fun h => .inl ⟨vs, h, rfl⟩) (fun h => .inr ⟨vs, h, rfl⟩)
theorem qeqv (r s : Rat) : PyData.eqv (.tuple ([r.num, (r.den : Int)].map PyData.int)) (.tuple ([s.num, (s.den : Int)].map PyData.int)) = decide (r = s) := by
  rw [eqv_tup2, decide_eq_decide]
  constructor
  · intro h
    injection h with h1 h2
    injection h2 with h2 _
    exact Rat.ext h1 (by omega)
  · intro h
    rw [h]
theorem dpQ {K : PySem.W.Frag} {H : Hp} {a : Addr} {r : Rat} (h : H a = some (.tup (qV r))) : Dp K H (.ref a) (.tuple ([r.num, (r.den : Int)].map PyData.int)) := .tup (SqT.of h) (dpInts [_, _])
/-- both numbers of a point are not too long -/
structure PSz (n : Nat) (pt : Pt) : Prop where
  x : Sz n pt.1
  y : Sz n pt.2
def ascB (xs : List Rat) : Bool := (List.range (xs.length - 1)).all fun i => decide (xs.getD i 0 < xs.getD (i + 1) 0)
theorem asc_of : ∀ {ps : List Pt}, (∀ i, i + 1 < ps.length → (ps.getD i dpt).1 < (ps.getD (i + 1) dpt).1) → AscQ ps
  | [], _ => List.Pairwise.nil
  | [p], _ => List.pairwise_singleton _ _
  | p :: q :: rest, h => by
    have ih : AscQ (q :: rest) := asc_of fun i hi => h (i + 1) (by simp only [List.length_cons] at hi ⊢; omega)
    have pq : p.1 < q.1 := h 0 (by simp)
    refine List.pairwise_cons.mpr ⟨fun z hz => ?_, ih⟩
    rcases List.mem_cons.mp hz with rfl | hz
    · exact pq
    · have := (List.pairwise_cons.mp ih).1 z hz
      grind
theorem asc_at {ps : List Pt} (h : AscQ ps) {i j : Nat} (hij : i < j) (hj : j < ps.length) : (ps.getD i dpt).1 < (ps.getD j dpt).1 := by
  rw [List.getD_eq_getElem?_getD, List.getD_eq_getElem?_getD, List.getElem?_eq_getElem hj, List.getElem?_eq_getElem (by omega : i < ps.length)]
  exact List.pairwise_iff_getElem.mp h i j (by omega) hj hij
theorem ascB_iff {ps : List Pt} : ascB (ps.map (·.1)) = true ↔ AscQ ps := by
  unfold ascB
  rw [List.all_eq_true]
  have g : ∀ i, i < ps.length → (ps.map (·.1)).getD i 0 = (ps.getD i dpt).1 := fun i hi => by
    rw [List.getD_eq_getElem?_getD, List.getElem?_map, List.getD_eq_getElem?_getD, List.getElem?_eq_getElem hi]
    rfl
  constructor
  · intro h
    refine asc_of fun i hi => ?_
    have := of_decide_eq_true (h i (List.mem_range.mpr (by rw [List.length_map]; omega)))
    rw [g i (by omega), g (i + 1) hi] at this
    exact this
  · intro h i hi
    have hi := List.mem_range.mp hi
    rw [List.length_map] at hi
    rw [g i (by omega), g (i + 1) (by omega)]
    exact decide_eq_true (asc_at h (by omega) (by omega))
theorem slope_sz {n : Nat} {l r : Pt} (h1 : PSz n l) (h2 : PSz n r) (h : r.1 - l.1 ≠ 0) : Sz (n + n + 1 + (n + n + 1)) (slopeQ l r) := (h2.y.sub h1.y).div (h2.x.sub h1.x) h
theorem height_sz {n m : Nat} {l r : Pt} {x : Rat} (h1 : PSz n l) (h2 : PSz n r) (h : r.1 - l.1 ≠ 0) (hx : Sz m x) : Sz (n + (n + n + 1 + (n + n + 1) + (m + n + 1)) + 1) (heightQ l r x) := h1.y.add ((slope_sz h1 h2 h).mul (hx.sub h1.x))
theorem getD_memP {ps : List Pt} {i : Nat} (h : i < ps.length) : ps.getD i dpt ∈ ps := by
  rw [List.getD_eq_getElem?_getD, List.getElem?_eq_getElem h]
  exact List.getElem_mem h
theorem at_v {vs : List V} {z : Int} {i : Nat} {v : V} (e : z = (i : Int)) (h : vs[i]? = some v) : atI vs z = some v := at_of e h
theorem at_neg {vs : List V} {v : V} (h0 : 0 < vs.length) (h : vs[vs.length - 1]? = some v) : atI vs (-1) = some v := by
  unfold atI ixN
  rw [if_neg (by decide), if_pos (by omega)]
  have e : ((-1 : Int) + (vs.length : Int)).toNat = vs.length - 1 := by omega
  rw [e]
  exact h
end Ew
namespace Ew
open PySem PySem.Spec PyProof.Rows L2
/-! ## an error with one attribute -/
def spInitTag2 (K : PySem.W.Frag) (C : Addr) (t fl : Str) : Sp := fun vs H Q _ => ∃ a v, vs = [.ref a, v] ∧ H a = some (exo a C none) ∧ ∀ dx, H dx = none → dx ≠ a → Q .non (upd (upd H dx (exd dx [(fl, v), ("tag", .str t)])) a (exo a C (some dx)))
theorem upd_swap {H : Hp} {dx a : Addr} {o1 o2 o3 : HO} (ne : dx ≠ a) : upd (upd (upd H dx o1) a o2) dx o3 = upd (upd H dx o3) a o2 := by
  funext c
  by_cases h1 : c = dx
  · subst h1
    rw [upd_same, upd_ne ne, upd_same]
  · by_cases h2 : c = a
    · subst h2
      rw [upd_ne h1, upd_same, upd_same]
    · rw [upd_ne h1, upd_ne h2, upd_ne h1, upd_ne h2, upd_ne h1]
theorem raise_two {H : Hp} {C : Addr} {t fl : Str} {v : V} {E : XK} {K : PySem.W.Frag} (h : ∀ d, H d = none → E (.ref C) (some d) (upd H d (.xd [(fl, v), ("tag", .str t)]))) :
    ([v].length ≤ 1000 ∧ ∀ a, H a = none → spInitTag2 K C t fl (.ref a :: ([v] ++ [])) (upd H a (exo a C none)) (fun u H2 => u = .non ∧ ∃ (d : Addr) (fs : List (Str × V)), H2 a = some (exo a C (some d)) ∧ H2 d = some (exd d fs) ∧ H d = none ∧ E (.ref C) (some d) (upd (del H2 a) d (.xd fs))) (fun _ _ _ => False)) := by
  refine ⟨by show 1 ≤ 1000; decide, fun a ha => ⟨a, v, rfl, upd_same, fun dx hdx ne => ⟨rfl, dx, [(fl, v), ("tag", .str t)], upd_same, ?_, ?_, ?_⟩⟩⟩
  · rw [upd_ne ne, upd_same]
  · rw [upd_ne ne] at hdx
    exact hdx
  · rw [raise_heap ha hdx ne]
    rw [upd_ne ne] at hdx
    exact h dx hdx
theorem raise_one {H : Hp} {C : Addr} {t : Str} {E : XK} {K : PySem.W.Frag} (h : ∀ d, H d = none → E (.ref C) (some d) (upd H d (.xd [("tag", .str t)]))) {σ : L2.St} : tMk0 C (spInitTag K C t) σ H fun cls d H' => E cls d H' := fun a ha => by
  refine ⟨a, rfl, upd_same, fun dx hdx ne => ⟨rfl, dx, [("tag", .str t)], upd_same, ?_, ?_, ?_⟩⟩
  · rw [upd_ne ne, upd_same]
  · rw [upd_ne ne] at hdx
    exact hdx
  · rw [raise_heap ha hdx ne]
    rw [upd_ne ne] at hdx
    exact h dx hdx
/-- a method of the class at C -/
structure MDef (P : Program) (w : World) (K : PySem.W.Frag) (mg : Str → Option Value) (base : Heap) (CX : CXT) (k : Nat) (C : Addr) (m : Str) (f : Addr) (fd : FuncData) (ps : List Str) (sp : Sp) : Prop where
  ok : FnOk P w K mg base CX k f fd ps sp
  h : Meth K C m f
  cl : Cls K C
  b : Binds K fd ps []
/-- a walk along what is a list or a tuple -/
theorem it_seq {K : PySem.W.Frag} {a : Addr} {xs : List V} {i : Nat} {σ : L2.St} {H : Hp} {R : It → Hp → Prop} (hs : σ[i]? = some (some (.ref a))) (h : SeqV K H a xs) (k : ∀ (J : It) (Gd : Hp → Prop), Walk J xs.length Gd (YAt xs) → (∀ G, Same H G → Gd G) → R J H) :
    iList K (tVar i) σ H R ∨ iTup K (tVar i) σ H R := by
  rcases h with h | h
  · exact .inl ⟨_, hs, a, rfl, ⟨xs, h⟩, k _ _ walk_list fun G e => e.seq h⟩
  · exact .inr ⟨_, hs, a, rfl, ⟨xs, h⟩, k _ _ walk_tup fun G e => seqT e h⟩
end Ew
namespace Ew
open PySem PySem.Spec PyProof.Rows L2
theorem div_num {x y : Int} (hy : 0 < y) : (Rat.divInt x y).num * y = x * ((Rat.divInt x y).den : Int) := by
  have := (fr_spec x (b := y) (by omega)).2
  rw [(fr_rat (a := x) (by omega)).1, (fr_rat (a := x) (by omega)).2] at this
  exact this
theorem share_bd {x y : Int} (h0 : 0 ≤ x) (h1 : x ≤ y) (hy : 0 < y) : 0 ≤ Rat.divInt x y ∧ Rat.divInt x y ≤ 1 := by
  have e := div_num (x := x) hy
  have d := (rat_low (Rat.divInt x y)).pos
  constructor
  · rw [Rat.le_iff]
    show (0 : Int) * ((Rat.divInt x y).den : Int) ≤ (Rat.divInt x y).num * 1
    refine le_of_mul (c := y) ?_ hy
    have : 0 ≤ x * ((Rat.divInt x y).den : Int) := Int.mul_nonneg h0 (Int.le_of_lt d)
    grind
  · rw [Rat.le_iff]
    show (Rat.divInt x y).num * 1 ≤ (1 : Int) * ((Rat.divInt x y).den : Int)
    refine le_of_mul (c := y) ?_ hy
    have := Int.mul_le_mul_of_nonneg_right h1 (Int.le_of_lt d)
    grind
theorem share_lt {x y z : Int} (h1 : x < y) (hz : 0 < z) : Rat.divInt x z < Rat.divInt y z := by
  have e := div_num (x := x) hz
  have e2 := div_num (x := y) hz
  have d := (rat_low (Rat.divInt x z)).pos
  have d2 := (rat_low (Rat.divInt y z)).pos
  rw [Rat.lt_iff]
  have p := Int.mul_pos d d2
  have q := Int.mul_lt_mul_of_pos_right h1 p
  have e3 : (Rat.divInt x z).num * ((Rat.divInt y z).den : Int) * z = x * (((Rat.divInt x z).den : Int) * ((Rat.divInt y z).den : Int)) := by grind
  have e4 : (Rat.divInt y z).num * ((Rat.divInt x z).den : Int) * z = y * (((Rat.divInt x z).den : Int) * ((Rat.divInt y z).den : Int)) := by grind
  rw [← e3, ← e4] at q
  exact Int.lt_of_mul_lt_mul_right q (by omega)
theorem share_zero (z : Int) : Rat.divInt 0 z = 0 := Rat.zero_divInt z
theorem share_one {z : Int} (hz : 0 < z) : Rat.divInt z z = 1 := by
  have a := share_bd (x := z) (y := z) (by omega) (Int.le_refl _) hz
  have e := div_num (x := z) hz
  apply Rat.le_antisymm a.2
  rw [Rat.le_iff]
  show (1 : Int) * ((Rat.divInt z z).den : Int) ≤ (Rat.divInt z z).num * 1
  refine le_of_mul (c := z) ?_ hz
  grind
theorem mid_bd {lo hi t : Rat} (h : lo ≤ hi) (t0 : 0 ≤ t) (t1 : t ≤ 1) : lo ≤ lo + t * (hi - lo) ∧ lo + t * (hi - lo) ≤ hi := by
  have a : 0 ≤ hi - lo := by grind
  have b : 0 ≤ 1 - t := by grind
  have c := Rat.mul_nonneg t0 a
  have d := Rat.mul_nonneg b a
  constructor <;> grind
theorem pow_gt {z : Int} {s : Nat} (h : z.natAbs < 2 ^ s) {x : Int} (h0 : 0 ≤ x) (h1 : x ≤ z) : x.natAbs < 2 ^ s := by omega
theorem keep_free {p c : Addr} {H G : Hp} (K : KeepBut p H G) (n : c ≠ p) (h : G c = none) : H c = none := K.free n h
end Ew
namespace Ew
open PySem PySem.Spec PyProof.Rows L2
/-- lo and what is k / m of the way from it -/
def numQ (lo w : Rat) (m : Int) (k : Nat) : Rat := lo + w * Rat.divInt (k : Int) m
theorem numQ_lt {lo w : Rat} {m : Int} (hw : 0 < w) (hm : 0 < m) {j k : Nat} (h : j < k) : numQ lo w m j < numQ lo w m k := by
  have a := share_lt (x := (j : Int)) (y := (k : Int)) (z := m) (by omega) hm
  have b : 0 < Rat.divInt (k : Int) m - Rat.divInt (j : Int) m := by grind
  have c := Rat.mul_pos hw b
  unfold numQ
  grind
theorem numQ_zero (lo w : Rat) (m : Int) : numQ lo w m 0 = lo := by
  unfold numQ
  rw [show ((0 : Nat) : Int) = 0 from rfl, share_zero]
  grind
theorem numQ_one {lo w : Rat} {m : Int} (hm : 0 < m) : numQ lo w m m.toNat = lo + w := by
  unfold numQ
  rw [show ((m.toNat : Nat) : Int) = m by omega, share_one hm]
  grind
theorem numQ_sz {lo w : Rat} {m : Int} {a b s : Nat} {k : Nat} (h1 : Sz a lo) (h2 : Sz b w) (hm : 0 < m) (hs : m.natAbs < 2 ^ s) (hk : (k : Int) ≤ m) : Sz (a + (b + s) + 1) (numQ lo w m k) :=
  h1.add (h2.mul (sz_div (by omega) (by omega) hs))
theorem asc_first {ks : List Nat} (h : ks.Pairwise (· < ·)) (h0 : 0 ∈ ks) : ks.getD 0 0 = 0 := by
  cases ks with
  | nil => rfl
  | cons k rest =>
    show k = 0
    rcases List.mem_cons.mp h0 with e | e
    · exact e.symm
    · have := (List.pairwise_cons.mp h).1 0 e
      omega
theorem asc_last {ks : List Nat} {m : Nat} (h : ks.Pairwise (· < ·)) (hm : m ∈ ks) (hle : ∀ k ∈ ks, k ≤ m) : ks.getD (ks.length - 1) 0 = m := by
  obtain ⟨i, hi, e⟩ := List.getElem_of_mem hm
  have hl : ks.length - 1 < ks.length := by omega
  rw [List.getD_eq_getElem?_getD, List.getElem?_eq_getElem hl]
  show ks[ks.length - 1] = m
  have b := hle _ (List.getElem_mem hl)
  by_cases c : i = ks.length - 1
  · subst c
    exact e
  · have := List.pairwise_iff_getElem.mp h i (ks.length - 1) hi hl (by omega)
    omega
theorem fst_at {ps : List Pt} {f : Nat → Rat} {ks : List Nat} (h : ps.map (·.1) = ks.map f) {i : Nat} (hi : i < ks.length) : (ps.getD i dpt).1 = f (ks.getD i 0) := by
  have hl : ps.length = ks.length := by
    have := congrArg List.length h
    rw [List.length_map, List.length_map] at this
    exact this
  have a := congrArg (fun l : List Rat => l[i]?) h
  simp only [List.getElem?_map] at a
  rw [List.getElem?_eq_getElem (by omega : i < ps.length), List.getElem?_eq_getElem hi] at a
  rw [List.getD_eq_getElem?_getD, List.getElem?_eq_getElem (by omega : i < ps.length), List.getD_eq_getElem?_getD, List.getElem?_eq_getElem hi]
  exact Option.some.inj a
theorem asc_pts {ps : List Pt} {lo w : Rat} {m : Int} {ks : List Nat} (h : ps.map (·.1) = ks.map (numQ lo w m)) (hw : 0 < w) (hm : 0 < m) (ha : ks.Pairwise (· < ·)) : AscQ ps := by
  have hl : ps.length = ks.length := by
    have := congrArg List.length h
    rw [List.length_map, List.length_map] at this
    exact this
  refine asc_of fun i hi => ?_
  rw [fst_at h (by omega), fst_at h (by omega)]
  refine numQ_lt hw hm ?_
  rw [List.getD_eq_getElem?_getD, List.getElem?_eq_getElem (by omega : i < ks.length), List.getD_eq_getElem?_getD, List.getElem?_eq_getElem (by omega : i + 1 < ks.length)]
  exact List.pairwise_iff_getElem.mp ha i (i + 1) (by omega) (by omega) (by omega)
theorem two_mem {ks : List Nat} {m : Nat} (h0 : 0 ∈ ks) (hm : m ∈ ks) (hne : 0 < m) : 2 ≤ ks.length := by
  match ks, h0, hm with
  | [], h0, _ => cases h0
  | [k], h0, hm =>
    have a := List.mem_singleton.mp h0
    have b := List.mem_singleton.mp hm
    omega
  | _ :: _ :: _, _, _ => simp
end Ew
namespace Ew
open PySem PySem.Spec PyProof.Rows L2
theorem same_q {K : PySem.W.Frag} {G : Hp} {n : Nat} {u v : V} {r : Rat} (hu : QAt G u r) (hv : QAt G v r) : SameN K G (n + 2) u v := by
  obtain ⟨a, rfl, ha⟩ := hu
  obtain ⟨b, rfl, hb⟩ := hv
  refine .inr ⟨a, b, _, _, rfl, rfl, .inr ⟨SqT.of ha, SqT.of hb⟩, rfl, by show 2 ≤ 1000; decide, fun i x y hx hy => ?_⟩
  match i, hx, hy with
  | 0, hx, hy => cases hx; cases hy; exact .inl ⟨rfl, rfl⟩
  | 1, hx, hy => cases hx; cases hy; exact .inl ⟨rfl, rfl⟩
  | i + 2, hx, hy => cases hx
theorem same_p {K : PySem.W.Frag} {G : Hp} {n : Nat} {u v : V} {p : Pt} (hu : PAt G u p) (hv : PAt G v p) : SameN K G (n + 3) u v := by
  obtain ⟨a, ax, ay, rfl, ha, hax, hay⟩ := hu
  obtain ⟨b, bx, by', rfl, hb, hbx, hby⟩ := hv
  refine .inr ⟨a, b, _, _, rfl, rfl, .inr ⟨SqT.of ha, SqT.of hb⟩, rfl, by show 2 ≤ 1000; decide, fun i x y hx hy => ?_⟩
  match i, hx, hy with
  | 0, hx, hy => cases hx; cases hy; exact same_q hax hbx
  | 1, hx, hy => cases hx; cases hy; exact same_q hay hby
  | i + 2, hx, hy => cases hx
theorem same_pl {K : PySem.W.Frag} {G : Hp} {n : Nat} {a b : Addr} {us vs : List V} {ps : List Pt} (ha : G a = some (.lst us)) (hb : G b = some (.lst vs)) (hu : All2 (PAt G) us ps) (hv : All2 (PAt G) vs ps) (hl : ps.length ≤ 1000) : SameN K G (n + 4) (.ref a) (.ref b) := by
  refine .inr ⟨a, b, us, vs, rfl, rfl, .inl ⟨SqL.of ha, SqL.of hb⟩, by rw [hu.len, hv.len], by rw [hu.len]; exact hl, fun i x y hx hy => ?_⟩
  have hi : i < ps.length := by rw [← hu.len]; exact (List.getElem?_eq_some_iff.mp hx).1
  have gp : ps[i]? = some (ps.getD i dpt) := by rw [List.getD_eq_getElem?_getD, List.getElem?_eq_getElem hi]; rfl
  exact same_p (hu.at_ i x _ hx gp) (hv.at_ i y _ hy gp)
theorem same_ql {K : PySem.W.Frag} {G : Hp} {n : Nat} {a b : Addr} {us vs : List V} {ps : List Rat} (ha : G a = some (.lst us)) (hb : G b = some (.lst vs)) (hu : All2 (QAt G) us ps) (hv : All2 (QAt G) vs ps) (hl : ps.length ≤ 1000) : SameN K G (n + 3) (.ref a) (.ref b) := by
  refine .inr ⟨a, b, us, vs, rfl, rfl, .inl ⟨SqL.of ha, SqL.of hb⟩, by rw [hu.len, hv.len], by rw [hu.len]; exact hl, fun i x y hx hy => ?_⟩
  have hi : i < ps.length := by rw [← hu.len]; exact (List.getElem?_eq_some_iff.mp hx).1
  have gp : ps[i]? = some (ps.getD i 0) := by rw [List.getD_eq_getElem?_getD, List.getElem?_eq_getElem hi]; rfl
  exact same_q (hu.at_ i x _ hx gp) (hv.at_ i y _ hy gp)
theorem height_alt {l r : Pt} {x : Rat} (h : r.1 - l.1 ≠ 0) : l.2 + ((x - l.1) / (r.1 - l.1)) * (r.2 - l.2) = heightQ l r x := by
  unfold heightQ slopeQ
  grind
theorem PSz.le {n m : Nat} {p : Pt} (h : PSz n p) (hm : n ≤ m) : PSz m p := ⟨h.x.le hm, h.y.le hm⟩
end Ew
namespace Ew
open PySem PySem.Spec PyProof.Rows L2
def Tp (G G' : Hp) : Prop := ∀ c xs, G c = some (.tup xs) → G' c = some (.tup xs)
theorem Kp.tp {G G' : Hp} (e : Kp G G') : Tp G G' := fun _ _ h => e.t h
theorem QAt.tp {G G' : Hp} {v : V} {r : Rat} (e : Tp G G') (h : QAt G v r) : QAt G' v r := by
  obtain ⟨a, rfl, h⟩ := h
  exact ⟨a, rfl, e _ _ h⟩
theorem PAt.tp {G G' : Hp} {v : V} {pt : Pt} (e : Tp G G') (h : PAt G v pt) : PAt G' v pt := by
  obtain ⟨a, x, y, rfl, h1, h2, h3⟩ := h
  exact ⟨a, x, y, rfl, e _ _ h1, h2.tp e, h3.tp e⟩
theorem pts_tp {G G' : Hp} {vs : List V} {ps : List Pt} (e : Tp G G') (h : All2 (PAt G) vs ps) : All2 (PAt G') vs ps := h.imp fun _ _ q => q.tp e
theorem Wd.kp {T : List (Addr × Str)} {p q : Addr} {ns : List Int} {G : Hp} (w : Wd T p q ns G) : ∃ xs, G p = some (.lst xs) := by
  obtain ⟨⟨i, v, sd, R⟩, _⟩ := w
  exact ⟨_, R.at_p⟩
end Ew
namespace Ew
open PySem PySem.Spec PyProof.Rows L2
/-! ## one function has one list of corners -/
def Bent : List Pt → Prop
  | p :: q :: r :: rest => slopeQ p q ≠ slopeQ q r ∧ Bent (q :: r :: rest)
  | _ => True
theorem bent_norm : ∀ (rest : List Pt) (P p q : Pt), AscQ (p :: q :: rest) → (P = p ∨ (P.1 < p.1 ∧ slopeQ P p = slopeQ p q)) →
    ∃ k t, normT (p :: q :: rest) = k :: t ∧ slopeQ P k = slopeQ p q ∧ Bent (P :: k :: t)
  | [], P, p, q, asc, st => by
    have pq : p.1 < q.1 := (List.pairwise_cons.mp asc).1 q (List.mem_cons_self ..)
    refine ⟨q, [], rfl, ?_, trivial⟩
    rcases st with rfl | ⟨h1, h2⟩
    · rfl
    · exact (col h1 pq h2).1
  | r :: rest, P, p, q, asc, st => by
    have asc' := (List.pairwise_cons.mp asc).2
    have pq : p.1 < q.1 := (List.pairwise_cons.mp asc).1 q (List.mem_cons_self ..)
    have sP : slopeQ P q = slopeQ p q := by
      rcases st with rfl | ⟨h1, h2⟩
      · rfl
      · exact (col h1 pq h2).1
    have Pq : P.1 < q.1 := by
      rcases st with rfl | ⟨h1, h2⟩
      · exact pq
      · grind
    by_cases c : slopeQ p q = slopeQ q r
    · obtain ⟨k, t, e, s, b⟩ := bent_norm rest P q r asc' (.inr ⟨Pq, by rw [sP, c]⟩)
      refine ⟨k, t, ?_, by rw [s, c], b⟩
      show (if slopeQ p q = slopeQ q r then [] else [q]) ++ normT (q :: r :: rest) = _
      rw [if_pos c, e]
      rfl
    · obtain ⟨k, t, e, s, b⟩ := bent_norm rest q q r asc' (.inl rfl)
      refine ⟨q, k :: t, ?_, sP, ?_, b⟩
      · show (if slopeQ p q = slopeQ q r then [] else [q]) ++ normT (q :: r :: rest) = _
        rw [if_neg c, e]
        rfl
      · rw [sP, s]
        exact c
theorem bent_normQ {ps : List Pt} (h2 : 2 ≤ ps.length) (asc : AscQ ps) : Bent (normQ ps) := by
  match ps, h2, asc with
  | p :: q :: rest, _, asc =>
    obtain ⟨k, t, e, s, b⟩ := bent_norm rest p p q asc (.inl rfl)
    show Bent (p :: normT (p :: q :: rest))
    rw [e]
    exact b
theorem height_l {p q : Pt} : heightQ p q p.1 = p.2 := by unfold heightQ; grind
theorem height_r {p q : Pt} (h : p.1 < q.1) : heightQ p q q.1 = q.2 := by
  unfold heightQ slopeQ
  have : q.1 - p.1 ≠ 0 := by grind
  grind
theorem eval_lo {p q : Pt} {rest : List Pt} {x : Rat} (h : ¬ q.1 < x) : evalQ (p :: q :: rest) x = heightQ p q x := by
  cases rest with
  | nil => rfl
  | cons r rest => exact if_neg h
theorem eval_hi {p q r : Pt} {rest : List Pt} {x : Rat} (h : q.1 < x) : evalQ (p :: q :: r :: rest) x = evalQ (q :: r :: rest) x := if_pos h
/-- the last point's number -/
def EndsAt (ps : List Pt) (e : Rat) : Prop := ps.getLast?.map (·.1) = some e
theorem EndsAt.tail {p q : Pt} {rest : List Pt} {e : Rat} (h : EndsAt (p :: q :: rest) e) : EndsAt (q :: rest) e := by
  unfold EndsAt at *
  rwa [List.getLast?_cons_cons] at h
theorem EndsAt.one {p : Pt} {e : Rat} (h : EndsAt [p] e) : p.1 = e := by
  unfold EndsAt at h
  simpa using h
theorem EndsAt.le : ∀ {ps : List Pt} {e : Rat}, EndsAt ps e → AscQ ps → ∀ p ∈ ps, p.1 ≤ e
  | [], _, _, _, _, hp => nomatch hp
  | [q], e, h, _, p, hp => by rw [List.mem_singleton.mp hp, h.one]; exact Rat.le_refl
  | q :: r :: rest, e, h, asc, p, hp => by
    have asc' := (List.pairwise_cons.mp asc).2
    rcases List.mem_cons.mp hp with rfl | hp
    · have h1 := (List.pairwise_cons.mp asc).1 r (List.mem_cons_self ..)
      have h2 := EndsAt.le h.tail asc' r (List.mem_cons_self ..)
      grind
    · exact EndsAt.le h.tail asc' p hp
theorem no_short {p q q' : Pt} {ra rb : List Pt} {e : Rat} (a1 : AscQ (p :: q :: ra)) (a2 : AscQ (p :: q' :: rb)) (b2 : Bent (p :: q' :: rb)) (qe : q.1 ≤ e) (e2 : EndsAt (q' :: rb) e)
    (h : ∀ x, p.1 ≤ x → x ≤ e → evalQ (p :: q :: ra) x = evalQ (p :: q' :: rb) x) : ¬ q'.1 < q.1 := by
  intro c
  have pq : p.1 < q.1 := (List.pairwise_cons.mp a1).1 q (List.mem_cons_self ..)
  have pq' : p.1 < q'.1 := (List.pairwise_cons.mp a2).1 q' (List.mem_cons_self ..)
  cases rb with
  | nil =>
    have := e2.one
    grind
  | cons r' rb =>
    have qr' : q'.1 < r'.1 := (List.pairwise_cons.mp (List.pairwise_cons.mp a2).2).1 r' (List.mem_cons_self ..)
    have h1 := h q'.1 (by grind) (by grind)
    rw [eval_lo (by grind), eval_lo (by grind), height_r pq'] at h1
    have hs : slopeQ p q' ≠ slopeQ q' r' := b2.1
    obtain ⟨x, x1, x2, x3⟩ : ∃ x, q'.1 < x ∧ x ≤ r'.1 ∧ x ≤ q.1 := by
      by_cases z : r'.1 ≤ q.1
      · exact ⟨r'.1, qr', Rat.le_refl, z⟩
      · exact ⟨q.1, c, by grind, Rat.le_refl⟩
    have h2 := h x (by grind) (by grind)
    rw [eval_lo (by grind), eval_hi x1, eval_lo (by grind)] at h2
    refine hs ?_
    unfold heightQ at h1 h2
    have s1 : slopeQ p q' = slopeQ p q := by
      show (q'.2 - p.2) / (q'.1 - p.1) = slopeQ p q
      have : q'.1 - p.1 ≠ 0 := by grind
      rw [← h1]
      grind
    have s2 : slopeQ q' r' = slopeQ p q := by
      have : x - q'.1 ≠ 0 := by grind
      have e3 : slopeQ q' r' * (x - q'.1) = slopeQ p q * (x - q'.1) := by rw [← h1] at h2; grind
      grind
    rw [s1, s2]
theorem bent_uniq : ∀ (ra rb : List Pt) (p q q' : Pt) (e : Rat), AscQ (p :: q :: ra) → AscQ (p :: q' :: rb) → Bent (p :: q :: ra) → Bent (p :: q' :: rb) → EndsAt (q :: ra) e → EndsAt (q' :: rb) e →
    (∀ x, p.1 ≤ x → x ≤ e → evalQ (p :: q :: ra) x = evalQ (p :: q' :: rb) x) → q :: ra = q' :: rb
  | ra, rb, p, q, q', e, a1, a2, b1, b2, e1, e2, h => by
    have pq : p.1 < q.1 := (List.pairwise_cons.mp a1).1 q (List.mem_cons_self ..)
    have pq' : p.1 < q'.1 := (List.pairwise_cons.mp a2).1 q' (List.mem_cons_self ..)
    have a1' := (List.pairwise_cons.mp a1).2
    have a2' := (List.pairwise_cons.mp a2).2
    have qe := e1.le a1' q (List.mem_cons_self ..)
    have qe' := e2.le a2' q' (List.mem_cons_self ..)
    have n1 := no_short a1 a2 b2 qe e2 h
    have n2 := no_short a2 a1 b1 qe' e1 (fun x z1 z2 => (h x z1 z2).symm)
    have ex : q.1 = q'.1 := by grind
    have h1 := h q.1 (by grind) qe
    rw [eval_lo (by grind), eval_lo (by grind), height_r pq] at h1
    rw [ex, height_r pq'] at h1
    obtain rfl : q = q' := Prod.ext ex h1
    match hra : ra, rb with
    | [], [] => rfl
    | [], r' :: rb =>
      have z1 := e1.one
      have z2 := e2.le a2' r' (by simp)
      have z3 := (List.pairwise_cons.mp a2').1 r' (List.mem_cons_self ..)
      exact absurd z3 (by grind)
    | r :: ra, [] =>
      have z1 := e2.one
      have z2 := e1.le a1' r (by simp)
      have z3 := (List.pairwise_cons.mp a1').1 r (List.mem_cons_self ..)
      exact absurd z3 (by grind)
    | r :: ra, r' :: rb =>
      have := bent_uniq ra rb q r r' e a1' a2' b1.2 b2.2 e1.tail e2.tail (fun x z1 z2 => by
        by_cases c : q.1 < x
        · have := h x (by grind) z2
          rwa [eval_hi c, eval_hi c] at this
        · have z : x = q.1 := by grind
          have w1 := (List.pairwise_cons.mp a1').1 r (List.mem_cons_self ..)
          have w2 := (List.pairwise_cons.mp a2').1 r' (List.mem_cons_self ..)
          rw [eval_lo (by grind), eval_lo (by grind), z, height_l, height_l])
      rw [this]
termination_by ra => ra.length
decreasing_by all_goals (first | (subst hra; simp) | (simp [hra]) | simp_all)
theorem ends_of {ps : List Pt} (h : 1 ≤ ps.length) : EndsAt ps (ps.getD (ps.length - 1) dpt).1 := by
  unfold EndsAt
  rw [List.getLast?_eq_getElem?, List.getD_eq_getElem?_getD, List.getElem?_eq_getElem (by omega)]
  rfl
/-- two lists of points with the same ends and the same heights have one normal form -/
theorem norm_uniq {a b : List Pt} (h1 : 2 ≤ a.length) (h2 : 2 ≤ b.length) (a1 : AscQ a) (a2 : AscQ b) (f : (a.getD 0 dpt).1 = (b.getD 0 dpt).1) (l : (a.getD (a.length - 1) dpt).1 = (b.getD (b.length - 1) dpt).1)
    (h : ∀ x, (a.getD 0 dpt).1 ≤ x → x ≤ (a.getD (a.length - 1) dpt).1 → evalQ a x = evalQ b x) : normQ a = normQ b := by
  have n1 := normQ_len h1
  have n2 := normQ_len h2
  have c1 := normQ_asc a1
  have c2 := normQ_asc a2
  have b1 := bent_normQ h1 a1
  have b2 := bent_normQ h2 a2
  have e1 : EndsAt (normQ a) (a.getD (a.length - 1) dpt).1 := by
    have := ends_of (ps := normQ a) (by omega)
    rwa [normQ_last h1] at this
  have e2 : EndsAt (normQ b) (a.getD (a.length - 1) dpt).1 := by
    have := ends_of (ps := normQ b) (by omega)
    rwa [normQ_last h2, ← l] at this
  have f1 := normQ_first h1
  have f2 := normQ_first h2
  have hh : ∀ x, (a.getD 0 dpt).1 ≤ x → x ≤ (a.getD (a.length - 1) dpt).1 → evalQ (normQ a) x = evalQ (normQ b) x := fun x z1 z2 => by rw [eval_norm x h1 a1, eval_norm x h2 a2]; exact h x z1 z2
  rw [← f1] at f hh
  rw [← f2] at f
  generalize normQ a = na at *
  generalize normQ b = nb at *
  match na, nb, n1, n2 with
  | p :: q :: ra, p' :: q' :: rb, _, _ =>
    have f : p.1 = p'.1 := f
    have hh : ∀ x, p.1 ≤ x → _ := hh
    have pq : p.1 < q.1 := (List.pairwise_cons.mp c1).1 q (List.mem_cons_self ..)
    have pq' : p'.1 < q'.1 := (List.pairwise_cons.mp c2).1 q' (List.mem_cons_self ..)
    have z := hh p.1 Rat.le_refl (e1.le c1 p (List.mem_cons_self ..))
    rw [eval_lo (by grind), eval_lo (by grind), height_l, f, height_l] at z
    obtain rfl : p = p' := Prod.ext f z
    rw [bent_uniq ra rb p q q' _ c1 c2 b1 b2 e1.tail e2.tail hh]
/-! ## points that lie on a function, with all its corners between -/
theorem height_sub {p q : Pt} {u v x : Rat} (h : u < v) : heightQ p q x = heightQ (u, heightQ p q u) (v, heightQ p q v) x := by
  have : v - u ≠ 0 := by grind
  show heightQ p q x = heightQ p q u + (heightQ p q v - heightQ p q u) / (v - u) * (x - u)
  unfold heightQ
  grind
theorem eval_lin : ∀ (ps : List Pt) (u v x : Rat), 2 ≤ ps.length → AscQ ps → u < v → (∀ p ∈ ps, ¬ (u < p.1 ∧ p.1 < v)) → u ≤ x → x ≤ v → evalQ ps x = heightQ (u, evalQ ps u) (v, evalQ ps v) x
  | [], _, _, _, h, _, _, _, _, _ => nomatch h
  | [_], _, _, _, h, _, _, _, _, _ => absurd h (by simp)
  | [p, q], u, v, x, _, _, uv, _, _, _ => height_sub (p := p) (q := q) uv
  | p :: q :: r :: rest, u, v, x, _, asc, uv, no, h1, h2 => by
    have asc' := (List.pairwise_cons.mp asc).2
    by_cases c : q.1 ≤ u
    · have qr := (List.pairwise_cons.mp asc').1 r (List.mem_cons_self ..)
      have pq := (List.pairwise_cons.mp asc).1 q (List.mem_cons_self ..)
      have ev : ∀ y, u ≤ y → evalQ (p :: q :: r :: rest) y = evalQ (q :: r :: rest) y := fun y hy => by
        by_cases d : q.1 < y
        · exact eval_hi d
        · have z : y = q.1 := by grind
          rw [eval_lo (by grind), eval_lo (by grind), z, height_l, height_r pq]
      rw [ev x h1, ev u Rat.le_refl, ev v (by grind)]
      exact eval_lin (q :: r :: rest) u v x (by simp) asc' uv (fun p hp => no p (List.mem_cons_of_mem _ hp)) h1 h2
    · have qv : v ≤ q.1 := by
        have := no q (by simp)
        grind
      rw [eval_lo (by grind), eval_lo (by grind), eval_lo (by grind)]
      exact height_sub uv
theorem eval_refine : ∀ (A ps : List Pt) (e : Rat), 2 ≤ A.length → AscQ A → 2 ≤ ps.length → AscQ ps → EndsAt A e → (∀ a ∈ A, a.2 = evalQ ps a.1) → (∀ p ∈ ps, (A.getD 0 dpt).1 < p.1 → p.1 < e → p.1 ∈ A.map (·.1)) →
    ∀ x, (A.getD 0 dpt).1 ≤ x → x ≤ e → evalQ A x = evalQ ps x
  | [], _, _, h, _, _, _, _, _, _ => nomatch h
  | [_], _, _, h, _, _, _, _, _, _ => absurd h (by simp)
  | a :: b :: rest, ps, e, _, asc, h2, ascp, he, on, all => by
    intro x x1 x2
    have x1 : a.1 ≤ x := x1
    have ab := (List.pairwise_cons.mp asc).1 b (List.mem_cons_self ..)
    have asc' := (List.pairwise_cons.mp asc).2
    have be := he.tail.le asc' b (List.mem_cons_self ..)
    by_cases c : b.1 < x
    · match rest with
      | [] =>
        have := he.tail.one
        exact absurd c (by grind)
      | r :: rest =>
        rw [eval_hi c]
        refine eval_refine (b :: r :: rest) ps e (by simp) asc' h2 ascp he.tail (fun a' ha => on a' (List.mem_cons_of_mem _ ha)) (fun p hp z1 z2 => ?_) x (by show b.1 ≤ x; grind) x2
        have z1 : b.1 < p.1 := z1
        have := all p hp (by show a.1 < p.1; grind) z2
        rw [List.map_cons, List.mem_cons] at this
        rcases this with w | w
        · exact absurd w (by grind)
        · exact w
    · rw [eval_lo c]
      have l := eval_lin ps a.1 b.1 x h2 ascp ab (fun p hp z => by
        have w := all p hp z.1 (by grind)
        obtain ⟨a', ha', e'⟩ := List.mem_map.mp w
        rcases List.mem_cons.mp ha' with rfl | ha'
        · grind
        · rcases List.mem_cons.mp ha' with rfl | ha'
          · grind
          · have := (List.pairwise_cons.mp asc').1 a' ha'
            grind) x1 (by grind)
      rw [l, ← on a (by simp), ← on b (by simp)]
end Ew
namespace Ew
open PySem PySem.Spec PyProof.Rows L2
/-! ## sizes of heights -/
theorem eval_sz {n m : Nat} {x : Rat} (hx : Sz m x) : ∀ (ps : List Pt), 2 ≤ ps.length → AscQ ps → (∀ p ∈ ps, PSz n p) → Sz (n + (n + n + 1 + (n + n + 1) + (m + n + 1)) + 1) (evalQ ps x)
  | [], h, _, _ => nomatch h
  | [_], h, _, _ => absurd h (by simp)
  | [p, q], _, asc, hz => by
    have pq := (List.pairwise_cons.mp asc).1 q (List.mem_cons_self ..)
    exact height_sz (hz p (by simp)) (hz q (by simp)) (by grind) hx
  | p :: q :: r :: rest, _, asc, hz => by
    have pq := (List.pairwise_cons.mp asc).1 q (List.mem_cons_self ..)
    by_cases c : q.1 < x
    · rw [eval_hi c]
      exact eval_sz hx (q :: r :: rest) (by simp) (List.pairwise_cons.mp asc).2 (fun p hp => hz p (List.mem_cons_of_mem _ hp))
    · rw [eval_lo c]
      exact height_sz (hz p (by simp)) (hz q (by simp)) (by grind) hx
/-! ## a function times a number -/
def scaleQ (c : Rat) (ps : List Pt) : List Pt := ps.map fun p => (p.1, c * p.2)
theorem height_scale {c x : Rat} {p q : Pt} (h : p.1 < q.1) : heightQ (p.1, c * p.2) (q.1, c * q.2) x = c * heightQ p q x := by
  have : q.1 - p.1 ≠ 0 := by grind
  show c * p.2 + (c * q.2 - c * p.2) / (q.1 - p.1) * (x - p.1) = c * (p.2 + (q.2 - p.2) / (q.1 - p.1) * (x - p.1))
  grind
theorem eval_scale {c x : Rat} : ∀ (ps : List Pt), 2 ≤ ps.length → AscQ ps → evalQ (scaleQ c ps) x = c * evalQ ps x
  | [], h, _ => nomatch h
  | [_], h, _ => absurd h (by simp)
  | [p, q], _, asc => height_scale ((List.pairwise_cons.mp asc).1 q (List.mem_cons_self ..))
  | p :: q :: r :: rest, _, asc => by
    have pq := (List.pairwise_cons.mp asc).1 q (List.mem_cons_self ..)
    by_cases d : q.1 < x
    · rw [eval_hi d]
      show evalQ ((p.1, c * p.2) :: (q.1, c * q.2) :: (r.1, c * r.2) :: scaleQ c rest) x = _
      rw [eval_hi (q := (q.1, c * q.2)) d]
      exact eval_scale (q :: r :: rest) (by simp) (List.pairwise_cons.mp asc).2
    · rw [eval_lo d]
      show evalQ ((p.1, c * p.2) :: (q.1, c * q.2) :: (r.1, c * r.2) :: scaleQ c rest) x = _
      rw [eval_lo (q := (q.1, c * q.2)) d]
      exact height_scale pq
theorem scale_asc {c : Rat} {ps : List Pt} (h : AscQ ps) : AscQ (scaleQ c ps) := by
  unfold scaleQ AscQ
  rw [List.pairwise_map]
  exact h
theorem scale_len (c : Rat) (ps : List Pt) : (scaleQ c ps).length = ps.length := List.length_map ..
theorem scale_at {c : Rat} {ps : List Pt} {i : Nat} (h : i < ps.length) : ((scaleQ c ps).getD i dpt).1 = (ps.getD i dpt).1 := by
  unfold scaleQ
  rw [List.getD_eq_getElem?_getD, List.getElem?_map, List.getElem?_eq_getElem h, List.getD_eq_getElem?_getD, List.getElem?_eq_getElem h]
  rfl
theorem scale_norm {c : Rat} {ps : List Pt} (h2 : 2 ≤ ps.length) (asc : AscQ ps) : normQ (scaleQ c (normQ ps)) = normQ (scaleQ c ps) := by
  have n2 := normQ_len h2
  have na := normQ_asc asc
  refine norm_uniq (by rw [scale_len]; exact n2) (by rw [scale_len]; exact h2) (scale_asc na) (scale_asc asc) ?_ ?_ fun x _ _ => ?_
  · rw [scale_at (by omega), scale_at (by omega), normQ_first h2]
  · rw [scale_len, scale_len, scale_at (by omega), scale_at (by omega), normQ_last h2]
  · rw [eval_scale _ n2 na, eval_scale _ h2 asc, eval_norm x h2 asc]
/-! ## a part of a function -/
def cutQ (ps : List Pt) (lo hi : Rat) : List Pt := (lo, evalQ ps lo) :: (ps.filter (fun p => decide (lo < p.1) && decide (p.1 < hi)) ++ [(hi, evalQ ps hi)])
theorem cut_len (ps : List Pt) (lo hi : Rat) : 2 ≤ (cutQ ps lo hi).length ∧ (cutQ ps lo hi).length ≤ ps.length + 2 := by
  have fl := (List.filter_sublist (p := fun p : Pt => decide (lo < p.1) && decide (p.1 < hi)) (l := ps)).length_le
  unfold cutQ
  simp only [List.length_cons, List.length_append, List.length_nil]
  omega
theorem cut_in {ps : List Pt} {lo hi : Rat} {p : Pt} (h : p ∈ ps.filter (fun p => decide (lo < p.1) && decide (p.1 < hi))) : p ∈ ps ∧ lo < p.1 ∧ p.1 < hi := by
  have := List.mem_filter.mp h
  simpa using this
theorem cut_asc {ps : List Pt} {lo hi : Rat} (asc : AscQ ps) (h : lo < hi) : AscQ (cutQ ps lo hi) := by
  refine List.pairwise_cons.mpr ⟨fun p hp => ?_, List.pairwise_append.mpr ⟨asc.sublist List.filter_sublist, List.pairwise_singleton .., fun p hp q hq => ?_⟩⟩
  · rcases List.mem_append.mp hp with z | z
    · exact (cut_in z).2.1
    · rw [List.mem_singleton.mp z]
      exact h
  · rw [List.mem_singleton.mp hq]
    exact (cut_in hp).2.2
theorem cut_first (ps : List Pt) (lo hi : Rat) : ((cutQ ps lo hi).getD 0 dpt).1 = lo := rfl
theorem cut_ends (ps : List Pt) (lo hi : Rat) : EndsAt (cutQ ps lo hi) hi := by
  unfold EndsAt cutQ
  rw [← List.cons_append, List.getLast?_concat]
  rfl
theorem cut_last (ps : List Pt) (lo hi : Rat) : ((cutQ ps lo hi).getD ((cutQ ps lo hi).length - 1) dpt).1 = hi := by
  have h1 := ends_of (ps := cutQ ps lo hi) (by have := cut_len ps lo hi; omega)
  have h2 := cut_ends ps lo hi
  unfold EndsAt at h1 h2
  rw [h1] at h2
  injection h2
theorem eval_at {ps : List Pt} (h2 : 2 ≤ ps.length) (asc : AscQ ps) : ∀ p ∈ ps, p.2 = evalQ ps p.1 := by
  match ps, h2, asc with
  | [p, q], _, asc =>
    intro a ha
    have pq := (List.pairwise_cons.mp asc).1 q (List.mem_cons_self ..)
    rcases List.mem_cons.mp ha with rfl | ha
    · exact height_l.symm
    · rw [List.mem_singleton.mp ha]
      exact (height_r pq).symm
  | p :: q :: r :: rest, _, asc =>
    intro a ha
    have pq := (List.pairwise_cons.mp asc).1 q (List.mem_cons_self ..)
    have asc' := (List.pairwise_cons.mp asc).2
    rcases List.mem_cons.mp ha with rfl | ha
    · rw [eval_lo (by grind), height_l]
    · by_cases c : q.1 < a.1
      · rw [eval_hi c]
        exact eval_at (by simp) asc' a ha
      · have : a = q := by
          rcases List.mem_cons.mp ha with rfl | ha
          · rfl
          · exact absurd ((List.pairwise_cons.mp asc').1 a ha) c
        rw [this, eval_lo (by grind), height_r pq]
theorem cut_on {ps : List Pt} {lo hi : Rat} (h2 : 2 ≤ ps.length) (asc : AscQ ps) : ∀ a ∈ cutQ ps lo hi, a.2 = evalQ ps a.1 := by
  intro a ha
  rcases List.mem_cons.mp ha with rfl | ha
  · rfl
  · rcases List.mem_append.mp ha with z | z
    · exact eval_at h2 asc a (cut_in z).1
    · rw [List.mem_singleton.mp z]
theorem eval_cut {ps : List Pt} {lo hi x : Rat} (h2 : 2 ≤ ps.length) (asc : AscQ ps) (h : lo < hi) (x1 : lo ≤ x) (x2 : x ≤ hi) : evalQ (cutQ ps lo hi) x = evalQ ps x := by
  refine eval_refine (cutQ ps lo hi) ps hi (cut_len ps lo hi).1 (cut_asc asc h) h2 asc (cut_ends ps lo hi) (cut_on h2 asc) (fun p hp z1 z2 => ?_) x x1 x2
  have z1 : lo < p.1 := z1
  refine List.mem_map.mpr ⟨p, List.mem_cons_of_mem _ (List.mem_append.mpr (.inl (List.mem_filter.mpr ⟨hp, ?_⟩))), rfl⟩
  simp [z1, z2]
theorem cut_norm {ps : List Pt} {lo hi : Rat} (h2 : 2 ≤ ps.length) (asc : AscQ ps) (h : lo < hi) : normQ (cutQ (normQ ps) lo hi) = normQ (cutQ ps lo hi) := by
  have n2 := normQ_len h2
  have na := normQ_asc asc
  refine norm_uniq (cut_len _ lo hi).1 (cut_len _ lo hi).1 (cut_asc na h) (cut_asc asc h) rfl (by rw [cut_last, cut_last]) fun x x1 x2 => ?_
  rw [cut_first] at x1
  rw [cut_last] at x2
  rw [eval_cut n2 na h x1 x2, eval_cut h2 asc h x1 x2, eval_norm x h2 asc]
end Ew
namespace Ew
open PySem PySem.Spec PyProof.Rows L2
/-! ## points as data -/
def ratD (r : Rat) : PyData := .tuple ([r.num, (r.den : Int)].map PyData.int)
def ptD (p : Pt) : PyData := .tuple [ratD p.1, ratD p.2]
theorem dpP {K : PySem.W.Frag} {H : Hp} {v : V} {p : Pt} (h : PAt H v p) : Dp K H v (ptD p) := by
  obtain ⟨a, ax, ay, rfl, ha, ⟨b, rfl, hb⟩, ⟨c, rfl, hc⟩⟩ := h
  exact .tup (SqT.of ha) (.cons (dpQ hb) (.cons (dpQ hc) .nil))
theorem dpPts {K : PySem.W.Frag} {H : Hp} : ∀ {ws : List V} {ps : List Pt}, All2 (PAt H) ws ps → DpAll K H ws (ps.map ptD)
  | [], [], _ => .nil
  | [], _ :: _, h => absurd h.len (by simp)
  | _ :: _, [], h => absurd h.len (by simp)
  | w :: ws, p :: ps, h => .cons (dpP (h.at_ 0 w p rfl rfl)) (dpPts ⟨by have := h.len; simpa using this, fun i v x hv hx => h.at_ (i + 1) v x (by simpa using hv) (by simpa using hx)⟩)
theorem eqvP (p q : Pt) : PyData.eqv (ptD p) (ptD q) = decide (p = q) := by
  have e : PyData.eqv (ptD p) (ptD q) = (PyData.eqv (ratD p.1) (ratD q.1) && (PyData.eqv (ratD p.2) (ratD q.2) && true)) := by
    unfold ptD
    simp only [PyData.eqv, PyData.eqvAll]
  rw [e]
  unfold ratD
  rw [qeqv, qeqv]
  by_cases c : p = q
  · subst c
    simp
  · rw [decide_eq_false c]
    by_cases c1 : p.1 = q.1
    · have c2 : p.2 ≠ q.2 := fun z => c (Prod.ext c1 z)
      simp [c1, c2]
    · simp [c1]
theorem eqvPtsAll : ∀ (ps qs : List Pt), PyData.eqvAll (ps.map ptD) (qs.map ptD) = decide (ps = qs)
  | [], [] => by simp [PyData.eqvAll]
  | [], _ :: _ => by simp [PyData.eqvAll]
  | _ :: _, [] => by simp [PyData.eqvAll]
  | p :: ps, q :: qs => by
    rw [List.map_cons, List.map_cons]
    simp only [PyData.eqvAll]
    rw [eqvP, eqvPtsAll ps qs]
    by_cases c : p = q
    · by_cases d : ps = qs
      · simp [c, d]
      · simp [c, d]
    · simp [c]
theorem eqvPts (ps qs : List Pt) : PyData.eqv (.tuple (ps.map ptD)) (.tuple (qs.map ptD)) = decide (ps = qs) := by
  rw [← eqvPtsAll ps qs]
  simp only [PyData.eqv]
theorem ratD_lay (r : Rat) : (ratD r).canLay0 = true ∧ (ratD r).depth ≤ 2 := by
  unfold ratD
  constructor
  · simp [PyData.canLay0, PyData.canLayAll0]
  · simp [PyData.depth, PyData.depthAll]
theorem ptD_lay (p : Pt) : (ptD p).canLay0 = true ∧ (ptD p).depth ≤ 3 := by
  have h1 := ratD_lay p.1
  have h2 := ratD_lay p.2
  unfold ptD
  constructor
  · simp [PyData.canLay0, PyData.canLayAll0, h1.1, h2.1]
  · simp only [PyData.depth, PyData.depthAll]
    omega
theorem ptsD_lay : ∀ (ps : List Pt), PyData.canLayAll0 (ps.map ptD) = true ∧ PyData.depthAll (ps.map ptD) ≤ 3
  | [] => ⟨by simp [PyData.canLayAll0], by simp [PyData.depthAll]⟩
  | p :: ps => by
    have h1 := ptD_lay p
    have h2 := ptsD_lay ps
    rw [List.map_cons]
    constructor
    · simp [PyData.canLayAll0, h1.1, h2.1]
    · simp only [PyData.depthAll]
      omega
theorem shapedPts (ps : List Pt) : SeqAt.shaped (.tuple (ps.map ptD)) = true := by
  have h := ptsD_lay ps
  unfold SeqAt.shaped
  have h1 : (PyData.tuple (ps.map ptD)).canLay0 = true := by simp [PyData.canLay0, h.1]
  have h2 : (PyData.tuple (ps.map ptD)).depth ≤ 64 := by
    simp only [PyData.depth]
    omega
  rw [h1, decide_eq_true h2]
  rfl
/-! ## slices -/
theorem cut_to (xs : List V) (k : Nat) : cutV xs none (some (k : Int)) = xs.take k := by
  unfold cutV
  rw [HT.sIx_nat, HT.sIx_none]
  by_cases c : k ≤ xs.length
  · rw [Nat.min_eq_left c]
    simp
  · rw [Nat.min_eq_right (by omega), List.take_of_length_le (by omega : xs.length ≤ k)]
    simp
theorem cut_from (xs : List V) (k : Nat) : cutV xs (some (k : Int)) none = xs.drop k := by
  unfold cutV
  rw [HT.sIx_nat, HT.sIx_none]
  by_cases c : k ≤ xs.length
  · rw [Nat.min_eq_left c, List.take_of_length_le (by rw [List.length_drop]; omega)]
  · rw [Nat.min_eq_right (by omega), List.drop_of_length_le (by omega : xs.length ≤ k)]
    simp
theorem cut_init (xs : List V) : cutV xs none (some (-1)) = xs.take (xs.length - 1) := by
  unfold cutV
  rw [HT.sIx_none]
  show (xs.drop 0).take ((-1 + (xs.length : Int)).toNat - 0) = _
  rw [show (-1 + (xs.length : Int)).toNat = xs.length - 1 by omega]
  rfl
section
variable {α : Type} {R : V → α → Prop} {vs : List V} {xs : List α}
theorem All2.take (a : All2 R vs xs) (k : Nat) : All2 R (vs.take k) (xs.take k) := by
  refine ⟨by rw [List.length_take, List.length_take, a.len], fun i v x hv hx => ?_⟩
  rw [List.getElem?_take] at hv hx
  split at hv
  · next h => rw [if_pos h] at hx; exact a.at_ i v x hv hx
  · cases hv
theorem All2.drop (a : All2 R vs xs) (k : Nat) : All2 R (vs.drop k) (xs.drop k) := by
  refine ⟨by rw [List.length_drop, List.length_drop, a.len], fun i v x hv hx => ?_⟩
  rw [List.getElem?_drop] at hv hx
  exact a.at_ (k + i) v x hv hx
theorem All2.rev (a : All2 R vs xs) : All2 R vs.reverse xs.reverse := by
  refine ⟨by rw [List.length_reverse, List.length_reverse, a.len], fun i v x hv hx => ?_⟩
  have hi : i < vs.length := by
    have := (List.getElem?_eq_some_iff.mp hv).1
    rwa [List.length_reverse] at this
  rw [List.getElem?_reverse hi] at hv
  rw [List.getElem?_reverse (by rw [← a.len]; exact hi), ← a.len] at hx
  exact a.at_ _ v x hv hx
end
/-! ## lists of points that do not ascend -/
theorem rev_bad {ps : List Pt} (h2 : 2 ≤ ps.length) (asc : AscQ ps) : ¬ AscQ ps.reverse := by
  intro z
  have z := List.pairwise_reverse.mp z
  match ps, h2 with
  | p :: q :: rest, _ =>
    have h1 := (List.pairwise_cons.mp asc).1 q (List.mem_cons_self ..)
    have h2 := (List.pairwise_cons.mp z).1 q (List.mem_cons_self ..)
    grind
theorem dup_bad {ps : List Pt} {k : Nat} (h : k < ps.length) : ¬ AscQ (ps.take (k + 1) ++ ps.drop k) := by
  intro z
  have w := (List.pairwise_append.mp z).2.2 (ps[k]) (by
    rw [List.take_add_one, List.getElem?_eq_getElem h]
    exact List.mem_append.mpr (.inr (List.mem_cons_self ..))) (ps[k]) (by
    rw [List.drop_eq_getElem_cons h]
    exact List.mem_cons_self ..)
  grind
/-! ## the least and the greatest number of ascending points -/
theorem first_le {ps : List Pt} (asc : AscQ ps) {p : Pt} (h : p ∈ ps) : (ps.getD 0 dpt).1 ≤ p.1 := by
  match ps with
  | a :: rest =>
    show a.1 ≤ p.1
    rcases List.mem_cons.mp h with rfl | h
    · exact Rat.le_refl
    · have := (List.pairwise_cons.mp asc).1 p h
      grind
theorem le_last {ps : List Pt} (asc : AscQ ps) {p : Pt} (h : p ∈ ps) : p.1 ≤ (ps.getD (ps.length - 1) dpt).1 :=
  (ends_of (ps := ps) (List.length_pos_of_mem h)).le asc p h
theorem asc_min {A : List Pt} (asc : AscQ A) {e : Rat} (h1 : ∃ a ∈ A, a.1 = e) (h2 : ∀ a ∈ A, e ≤ a.1) : (A.getD 0 dpt).1 = e := by
  obtain ⟨a, ha, rfl⟩ := h1
  have l := List.length_pos_of_mem ha
  have z1 := first_le asc ha
  have z2 := h2 _ (getD_memP (i := 0) l)
  grind
theorem asc_max {A : List Pt} (asc : AscQ A) {e : Rat} (h1 : ∃ a ∈ A, a.1 = e) (h2 : ∀ a ∈ A, a.1 ≤ e) : (A.getD (A.length - 1) dpt).1 = e := by
  obtain ⟨a, ha, rfl⟩ := h1
  have l := List.length_pos_of_mem ha
  have z1 := le_last asc ha
  have z2 := h2 _ (getD_memP (i := A.length - 1) (by omega))
  grind
/-! ## one point more on a function -/
def twinQ (ps : List Pt) (m : Rat) : List Pt := ps.filter (fun p => decide (p.1 < m)) ++ [(m, evalQ ps m)] ++ ps.filter (fun p => decide (m < p.1))
theorem twin_mem {ps : List Pt} {m : Rat} {p : Pt} : p ∈ twinQ ps m ↔ (p ∈ ps ∧ p.1 < m) ∨ p = (m, evalQ ps m) ∨ (p ∈ ps ∧ m < p.1) := by
  unfold twinQ
  simp only [List.mem_append, List.mem_filter, List.mem_singleton, decide_eq_true_eq, or_assoc]
theorem twin_asc {ps : List Pt} {m : Rat} (asc : AscQ ps) : AscQ (twinQ ps m) := by
  unfold twinQ
  refine List.pairwise_append.mpr ⟨List.pairwise_append.mpr ⟨asc.sublist List.filter_sublist, List.pairwise_singleton .., fun p hp q hq => ?_⟩, asc.sublist List.filter_sublist, fun p hp q hq => ?_⟩
  · rw [List.mem_singleton.mp hq]
    exact of_decide_eq_true (List.mem_filter.mp hp).2
  · have z := of_decide_eq_true (List.mem_filter.mp hq).2
    rcases List.mem_append.mp hp with w | w
    · have := of_decide_eq_true (List.mem_filter.mp w).2
      grind
    · rw [List.mem_singleton.mp w]
      exact z
theorem twin_len (ps : List Pt) (m : Rat) : (twinQ ps m).length ≤ ps.length + 1 + ps.length := by
  have f1 := (List.filter_sublist (p := fun p : Pt => decide (p.1 < m)) (l := ps)).length_le
  have f2 := (List.filter_sublist (p := fun p : Pt => decide (m < p.1)) (l := ps)).length_le
  unfold twinQ
  simp only [List.length_append, List.length_cons, List.length_nil]
  omega
section
variable {ps : List Pt} {m : Rat} (h2 : 2 ≤ ps.length) (asc : AscQ ps) (lo : (ps.getD 0 dpt).1 ≤ m) (hi : m ≤ (ps.getD (ps.length - 1) dpt).1)
include h2 asc lo hi
theorem twin_first : ((twinQ ps m).getD 0 dpt).1 = (ps.getD 0 dpt).1 := by
  refine asc_min (twin_asc asc) ?_ fun a ha => ?_
  · by_cases c : (ps.getD 0 dpt).1 < m
    · exact ⟨_, twin_mem.mpr (.inl ⟨getD_memP (by omega), c⟩), rfl⟩
    · exact ⟨_, twin_mem.mpr (.inr (.inl rfl)), by show m = _; grind⟩
  · rcases twin_mem.mp ha with z | rfl | z
    · exact first_le asc z.1
    · exact lo
    · exact first_le asc z.1
theorem twin_last : ((twinQ ps m).getD ((twinQ ps m).length - 1) dpt).1 = (ps.getD (ps.length - 1) dpt).1 := by
  refine asc_max (twin_asc asc) ?_ fun a ha => ?_
  · by_cases c : m < (ps.getD (ps.length - 1) dpt).1
    · exact ⟨_, twin_mem.mpr (.inr (.inr ⟨getD_memP (by omega), c⟩)), rfl⟩
    · exact ⟨_, twin_mem.mpr (.inr (.inl rfl)), by show m = _; grind⟩
  · rcases twin_mem.mp ha with z | rfl | z
    · exact le_last asc z.1
    · exact hi
    · exact le_last asc z.1
theorem twin_two : 2 ≤ (twinQ ps m).length := by
  have f := twin_first h2 asc lo hi
  have l := twin_last h2 asc lo hi
  have lt := asc_at asc (i := 0) (j := ps.length - 1) (by omega) (by omega)
  have p1 : 0 < (twinQ ps m).length := List.length_pos_of_mem (twin_mem.mpr (.inr (.inl rfl)))
  rcases Nat.lt_or_ge (twinQ ps m).length 2 with c | c
  · rw [show (twinQ ps m).length - 1 = 0 by omega, f] at l
    grind
  · exact c
theorem twin_norm : normQ (twinQ ps m) = normQ ps := by
  have t2 := twin_two h2 asc lo hi
  have f := twin_first h2 asc lo hi
  have l := twin_last h2 asc lo hi
  have ee := ends_of (ps := twinQ ps m) (by omega)
  refine norm_uniq t2 h2 (twin_asc asc) asc f l fun x x1 x2 => ?_
  refine eval_refine (twinQ ps m) ps _ t2 (twin_asc asc) h2 asc ee (fun a ha => ?_) (fun p hp _ _ => ?_) x x1 x2
  · rcases twin_mem.mp ha with z | rfl | z
    · exact eval_at h2 asc a z.1
    · rfl
    · exact eval_at h2 asc a z.1
  · rcases (by grind : p.1 < m ∨ p.1 = m ∨ m < p.1) with c | c | c
    · exact List.mem_map.mpr ⟨p, twin_mem.mpr (.inl ⟨hp, c⟩), rfl⟩
    · exact List.mem_map.mpr ⟨(m, evalQ ps m), twin_mem.mpr (.inr (.inl rfl)), c.symm⟩
    · exact List.mem_map.mpr ⟨p, twin_mem.mpr (.inr (.inr ⟨hp, c⟩)), rfl⟩
end
/-! ## another last height -/
def bentQ (ps : List Pt) (d : Rat) : List Pt := ps.take (ps.length - 1) ++ [((ps.getD (ps.length - 1) dpt).1, (ps.getD (ps.length - 1) dpt).2 + d)]
theorem bent_len {ps : List Pt} {d : Rat} (h : 1 ≤ ps.length) : (bentQ ps d).length = ps.length := by
  unfold bentQ
  rw [List.length_append, List.length_take]
  simp only [List.length_cons, List.length_nil]
  omega
theorem bent_last {ps : List Pt} {d : Rat} (h : 1 ≤ ps.length) : (bentQ ps d).getD ((bentQ ps d).length - 1) dpt = ((ps.getD (ps.length - 1) dpt).1, (ps.getD (ps.length - 1) dpt).2 + d) := by
  rw [bent_len h]
  unfold bentQ
  rw [List.getD_eq_getElem?_getD, List.getElem?_append_right (by rw [List.length_take]; omega), List.length_take, show ps.length - 1 - min (ps.length - 1) ps.length = 0 by omega]
  rfl
theorem bent_asc {ps : List Pt} {d : Rat} (h : 1 ≤ ps.length) (asc : AscQ ps) : AscQ (bentQ ps d) := by
  unfold bentQ
  refine List.pairwise_append.mpr ⟨asc.sublist (List.take_sublist ..), List.pairwise_singleton .., fun p hp q hq => ?_⟩
  rw [List.mem_singleton.mp hq]
  obtain ⟨i, hi, rfl⟩ := List.getElem_of_mem hp
  have hi' : i < ps.length - 1 := by rw [List.length_take] at hi; omega
  have z := asc_at asc (i := i) (j := ps.length - 1) hi' (by omega)
  rw [List.getElem_take]
  rw [List.getD_eq_getElem?_getD, List.getElem?_eq_getElem (by omega : i < ps.length)] at z
  exact z
theorem bent_ne {ps : List Pt} {d : Rat} (h2 : 2 ≤ ps.length) (hd : d ≠ 0) : normQ (bentQ ps d) ≠ normQ ps := by
  intro z
  have a := normQ_last (ps := bentQ ps d) (by rw [bent_len (by omega)]; exact h2)
  have b := normQ_last h2
  rw [z, b, bent_last (by omega)] at a
  have := congrArg Prod.snd a
  have : (ps.getD (ps.length - 1) dpt).2 = (ps.getD (ps.length - 1) dpt).2 + d := this
  grind
theorem bent_in {ps : List Pt} {d : Rat} {p : Pt} (h : p ∈ bentQ ps d) : p ∈ ps ∨ p = ((ps.getD (ps.length - 1) dpt).1, (ps.getD (ps.length - 1) dpt).2 + d) := by
  rcases List.mem_append.mp h with z | z
  · exact .inl ((List.take_sublist ..).subset z)
  · exact .inr (List.mem_singleton.mp z)
/-! ## up and down -/
def zzQ (n : Nat) : List Pt := (List.range n).map fun (i : Nat) => (((i : Int) : Rat), (((i : Int) % 2 : Int) : Rat))
theorem zz_asc13 : AscQ (zzQ 13) := by decide +kernel
theorem zz_asc14 : AscQ (zzQ 14) := by decide +kernel
theorem zz_len13 : (normQ (zzQ 13)).length = 13 := by decide +kernel
theorem zz_len14 : (normQ (zzQ 14)).length = 14 := by decide +kernel
theorem qV_int (i : Int) : qV (i : Rat) = [.int i, .int 1] := rfl
end Ew
namespace Ew
open PySem PySem.Spec PyProof.Rows L2
/-! ## points on any function that is straight between them -/
def Lin (g : Rat → Rat) (u v : Rat) : Prop := ∀ x, u ≤ x → x ≤ v → g x = heightQ (u, g u) (v, g v) x
def onQ (g : Rat → Rat) (xs : List Rat) : List Pt := xs.map fun x => (x, g x)
theorem on_asc {g : Rat → Rat} {xs : List Rat} (h : xs.Pairwise (· < ·)) : AscQ (onQ g xs) := by
  unfold onQ AscQ
  rw [List.pairwise_map]
  exact h
theorem on_len (g : Rat → Rat) (xs : List Rat) : (onQ g xs).length = xs.length := List.length_map ..
theorem eval_glue {g : Rat → Rat} : ∀ (xs : List Rat) (e x : Rat), 2 ≤ xs.length → xs.Pairwise (· < ·) → (∀ u v, u ∈ xs → v ∈ xs → u < v → (∀ z ∈ xs, ¬ (u < z ∧ z < v)) → Lin g u v) → xs.getLast? = some e → xs.headD 0 ≤ x → x ≤ e → evalQ (onQ g xs) x = g x
  | [], _, _, h, _, _, _, _, _ => nomatch h
  | [_], _, _, h, _, _, _, _, _ => absurd h (by simp)
  | [u, v], e, x, _, asc, lin, he, h1, h2 => by
    have uv := (List.pairwise_cons.mp asc).1 v (List.mem_cons_self ..)
    have ev : v = e := by simpa using he
    subst ev
    exact (lin u v (by simp) (by simp) uv (fun z hz => by
      rcases List.mem_cons.mp hz with rfl | hz
      · grind
      · rw [List.mem_singleton.mp hz]; grind) x h1 h2).symm
  | u :: v :: w :: r, e, x, _, asc, lin, he, h1, h2 => by
    have asc' := (List.pairwise_cons.mp asc).2
    have uv := (List.pairwise_cons.mp asc).1 v (List.mem_cons_self ..)
    show evalQ ((u, g u) :: (v, g v) :: (w, g w) :: onQ g r) x = g x
    by_cases c : v < x
    · rw [eval_hi (q := (v, g v)) c]
      refine eval_glue (v :: w :: r) e x (by simp) asc' (fun a b ha hb ab no => ?_) (by simpa using he) (by show v ≤ x; grind) h2
      refine lin a b (List.mem_cons_of_mem _ ha) (List.mem_cons_of_mem _ hb) ab fun z hz => ?_
      rcases List.mem_cons.mp hz with rfl | hz
      · have := (List.pairwise_cons.mp asc).1 a ha
        grind
      · exact no z hz
    · rw [eval_lo (q := (v, g v)) c]
      refine (lin u v (by simp) (by simp) uv (fun z hz => ?_) x h1 (by grind)).symm
      rcases List.mem_cons.mp hz with rfl | hz
      · grind
      · rcases List.mem_cons.mp hz with rfl | hz
        · grind
        · have := (List.pairwise_cons.mp asc').1 z hz
          grind
/-! ## the numbers at which a composition may bend -/
def numsQ (f : Pt → Pt → List Rat) : List Pt → List Rat
  | p :: q :: rest => p.1 :: (f p q ++ numsQ f (q :: rest))
  | [p] => [p.1]
  | [] => []
def invQ (p q : Pt) (c : Rat) : Rat := heightQ (p.2, p.1) (q.2, q.1) c
def crossQ (L : List Rat) (p q : Pt) : List Rat :=
  if p.2 < q.2 then (L.filter fun c => decide (p.2 < c) && decide (c < q.2)).map (invQ p q)
  else (L.reverse.filter fun c => decide (q.2 < c) && decide (c < p.2)).map (invQ p q)
theorem inv_back {p q : Pt} {c : Rat} (h : p.1 < q.1) (n : p.2 ≠ q.2) : heightQ p q (invQ p q c) = c := by
  have : q.2 - p.2 ≠ 0 := by grind
  have : q.1 - p.1 ≠ 0 := by grind
  show p.2 + (q.2 - p.2) / (q.1 - p.1) * ((p.1 + (q.1 - p.1) / (q.2 - p.2) * (c - p.2)) - p.1) = c
  grind
theorem inv_eq {p q : Pt} {c : Rat} : invQ p q c = p.1 + (q.1 - p.1) / (q.2 - p.2) * (c - p.2) := rfl
theorem div_pos' {a b : Rat} (ha : 0 < a) (hb : 0 < b) : 0 < a / b := by
  rw [Rat.div_def]
  exact Rat.mul_pos ha (Rat.inv_pos.mpr hb)
theorem mul_lt' {k a b : Rat} (hk : 0 < k) (h : a < b) : k * a < k * b := by
  have := Rat.mul_pos hk (show 0 < b - a by grind)
  grind
theorem inv_lt_up {p q : Pt} {c d : Rat} (h : p.1 < q.1) (n : p.2 < q.2) (cd : c < d) : invQ p q c < invQ p q d := by
  rw [inv_eq, inv_eq]
  have k := div_pos' (show 0 < q.1 - p.1 by grind) (show 0 < q.2 - p.2 by grind)
  have := mul_lt' k (show c - p.2 < d - p.2 by grind)
  grind
theorem inv_swap {p q : Pt} {c : Rat} (n : p.2 ≠ q.2) : invQ p q c = invQ q p c := by
  rw [inv_eq, inv_eq]
  have : q.2 - p.2 ≠ 0 := by grind
  have : p.2 - q.2 ≠ 0 := by grind
  grind
theorem inv_lt_down {p q : Pt} {c d : Rat} (h : p.1 < q.1) (n : q.2 < p.2) (cd : c < d) : invQ p q d < invQ p q c := by
  have e : ∀ z, invQ p q z = p.1 - (q.1 - p.1) / (p.2 - q.2) * (z - p.2) := fun z => by
    rw [inv_eq]
    have : q.2 - p.2 ≠ 0 := by grind
    have : p.2 - q.2 ≠ 0 := by grind
    grind
  rw [e, e]
  have k := div_pos' (show 0 < q.1 - p.1 by grind) (show 0 < p.2 - q.2 by grind)
  have := mul_lt' k (show c - p.2 < d - p.2 by grind)
  grind
theorem inv_l (p q : Pt) : invQ p q p.2 = p.1 := by rw [inv_eq]; grind
theorem inv_r {p q : Pt} (n : p.2 ≠ q.2) : invQ p q q.2 = q.1 := by
  rw [inv_eq]
  have : q.2 - p.2 ≠ 0 := by grind
  grind
theorem cross_mem {L : List Rat} {p q : Pt} (h : p.1 < q.1) {x : Rat} (hx : x ∈ crossQ L p q) : ∃ c ∈ L, x = invQ p q c ∧ p.2 ≠ q.2 ∧ p.1 < x ∧ x < q.1 := by
  unfold crossQ at hx
  by_cases c : p.2 < q.2
  · rw [if_pos c] at hx
    obtain ⟨d, hd, rfl⟩ := List.mem_map.mp hx
    have z := List.mem_filter.mp hd
    have z2 : p.2 < d ∧ d < q.2 := by simpa using z.2
    have l := inv_lt_up h c z2.1
    have r := inv_lt_up h c z2.2
    rw [inv_l] at l
    rw [inv_r (by grind)] at r
    exact ⟨d, z.1, rfl, by grind, l, r⟩
  · rw [if_neg c] at hx
    obtain ⟨d, hd, rfl⟩ := List.mem_map.mp hx
    have z := List.mem_filter.mp hd
    have z2 : q.2 < d ∧ d < p.2 := by simpa using z.2
    have n : q.2 < p.2 := by grind
    have l := inv_lt_down h n z2.2
    have r := inv_lt_down h n z2.1
    rw [inv_l] at l
    rw [inv_r (by grind)] at r
    exact ⟨d, List.mem_reverse.mp z.1, rfl, by grind, l, r⟩
theorem cross_has {L : List Rat} {p q : Pt} (h : p.1 < q.1) (n : p.2 ≠ q.2) {c : Rat} (hc : c ∈ L) (l : p.1 < invQ p q c) (r : invQ p q c < q.1) : invQ p q c ∈ crossQ L p q := by
  unfold crossQ
  by_cases d : p.2 < q.2
  · rw [if_pos d]
    refine List.mem_map.mpr ⟨c, List.mem_filter.mpr ⟨hc, ?_⟩, rfl⟩
    have z1 : p.2 < c := by
      rcases (by grind : c < p.2 ∨ c = p.2 ∨ p.2 < c) with z | z | z
      · have := inv_lt_up h d z; rw [inv_l] at this; grind
      · rw [z, inv_l] at l; grind
      · exact z
    have z2 : c < q.2 := by
      rcases (by grind : q.2 < c ∨ c = q.2 ∨ c < q.2) with z | z | z
      · have := inv_lt_up h d z; rw [inv_r n] at this; grind
      · rw [z, inv_r n] at r; grind
      · exact z
    simp [z1, z2]
  · rw [if_neg d]
    have d' : q.2 < p.2 := by grind
    refine List.mem_map.mpr ⟨c, List.mem_filter.mpr ⟨List.mem_reverse.mpr hc, ?_⟩, rfl⟩
    have z1 : c < p.2 := by
      rcases (by grind : p.2 < c ∨ c = p.2 ∨ c < p.2) with z | z | z
      · have := inv_lt_down h d' z; rw [inv_l] at this; grind
      · rw [z, inv_l] at l; grind
      · exact z
    have z2 : q.2 < c := by
      rcases (by grind : c < q.2 ∨ c = q.2 ∨ q.2 < c) with z | z | z
      · have := inv_lt_down h d' z; rw [inv_r n] at this; grind
      · rw [z, inv_r n] at r; grind
      · exact z
    simp [z1, z2]
theorem cross_asc {L : List Rat} {p q : Pt} (h : p.1 < q.1) (asc : L.Pairwise (· < ·)) : (crossQ L p q).Pairwise (· < ·) := by
  unfold crossQ
  by_cases c : p.2 < q.2
  · rw [if_pos c, List.pairwise_map]
    exact (asc.sublist List.filter_sublist).imp fun z => inv_lt_up h c z
  · rw [if_neg c, List.pairwise_map]
    have ar : L.reverse.Pairwise (fun a b => b < a) := List.pairwise_reverse.mpr asc
    refine List.Pairwise.imp_of_mem (fun {a b} ha hb z => ?_) (ar.sublist List.filter_sublist)
    have z2 : q.2 < a ∧ a < p.2 := by simpa using (List.mem_filter.mp ha).2
    exact inv_lt_down h (by grind) z
theorem nums_ge {f : Pt → Pt → List Rat} (hf : ∀ p q x, p.1 < q.1 → x ∈ f p q → p.1 < x ∧ x < q.1) : ∀ (ps : List Pt), AscQ ps → ∀ x ∈ numsQ f ps, (ps.getD 0 dpt).1 ≤ x
  | [], _, x, hx => nomatch hx
  | [p], _, x, hx => by rw [List.mem_singleton.mp hx]; exact Rat.le_refl
  | p :: q :: rest, asc, x, hx => by
    have pq := (List.pairwise_cons.mp asc).1 q (List.mem_cons_self ..)
    show p.1 ≤ x
    rcases List.mem_cons.mp hx with rfl | hx
    · exact Rat.le_refl
    · rcases List.mem_append.mp hx with z | z
      · have := (hf p q x pq z).1
        grind
      · have := nums_ge hf (q :: rest) (List.pairwise_cons.mp asc).2 x z
        have : q.1 ≤ x := this
        grind
theorem nums_asc {f : Pt → Pt → List Rat} (hf : ∀ p q x, p.1 < q.1 → x ∈ f p q → p.1 < x ∧ x < q.1) (ha : ∀ p q, p.1 < q.1 → (f p q).Pairwise (· < ·)) : ∀ (ps : List Pt), AscQ ps → (numsQ f ps).Pairwise (· < ·)
  | [], _ => List.Pairwise.nil
  | [p], _ => List.pairwise_singleton ..
  | p :: q :: rest, asc => by
    have pq := (List.pairwise_cons.mp asc).1 q (List.mem_cons_self ..)
    have asc' := (List.pairwise_cons.mp asc).2
    have g := nums_ge hf (q :: rest) asc'
    refine List.pairwise_cons.mpr ⟨fun x hx => ?_, List.pairwise_append.mpr ⟨ha p q pq, nums_asc hf ha (q :: rest) asc', fun a h1 b h2 => ?_⟩⟩
    · rcases List.mem_append.mp hx with z | z
      · exact (hf p q x pq z).1
      · have : q.1 ≤ x := g x z
        grind
    · have := (hf p q a pq h1).2
      have : q.1 ≤ b := g b h2
      grind
theorem nums_corner {f : Pt → Pt → List Rat} : ∀ (ps : List Pt), ∀ p ∈ ps, p.1 ∈ numsQ f ps
  | [], p, hp => nomatch hp
  | [q], p, hp => by rw [List.mem_singleton.mp hp]; exact List.mem_cons_self ..
  | q :: r :: rest, p, hp => by
    rcases List.mem_cons.mp hp with rfl | hp
    · exact List.mem_cons_self ..
    · exact List.mem_cons_of_mem _ (List.mem_append.mpr (.inr (nums_corner (r :: rest) p hp)))
theorem nums_last {f : Pt → Pt → List Rat} : ∀ (ps : List Pt), 1 ≤ ps.length → (numsQ f ps).getLast? = some (ps.getD (ps.length - 1) dpt).1
  | [], h => nomatch h
  | [p], _ => rfl
  | p :: q :: rest, _ => by
    have ih := nums_last (f := f) (q :: rest) (by simp)
    show (p.1 :: (f p q ++ numsQ f (q :: rest))).getLast? = _
    have ne : numsQ f (q :: rest) ≠ [] := fun z => by rw [z] at ih; cases ih
    rw [← List.cons_append, List.getLast?_append, ih]
    rfl
theorem nums_len {f : Pt → Pt → List Rat} {n : Nat} (hn : ∀ p q, (f p q).length ≤ n) : ∀ (ps : List Pt), (numsQ f ps).length ≤ ps.length * (n + 1)
  | [] => Nat.zero_le _
  | [p] => by show 1 ≤ 1 * (n + 1); omega
  | p :: q :: rest => by
    have ih := nums_len hn (q :: rest)
    have := hn p q
    show (p.1 :: (f p q ++ numsQ f (q :: rest))).length ≤ ((q :: rest).length + 1) * (n + 1)
    rw [List.length_cons, List.length_append, Nat.add_mul]
    omega
/-- the piece around two numbers with no corner between -/
theorem nums_piece {f : Pt → Pt → List Rat} : ∀ (ps : List Pt) (u v : Rat), 2 ≤ ps.length → AscQ ps → (ps.getD 0 dpt).1 ≤ u → u < v → v ≤ (ps.getD (ps.length - 1) dpt).1 → (∀ p ∈ ps, ¬ (u < p.1 ∧ p.1 < v)) →
    ∃ p q, p ∈ ps ∧ q ∈ ps ∧ (∀ z ∈ f p q, z ∈ numsQ f ps) ∧ p.1 < q.1 ∧ p.1 ≤ u ∧ v ≤ q.1 ∧ ∀ x, u ≤ x → x ≤ v → evalQ ps x = heightQ p q x
  | [], _, _, h, _, _, _, _, _ => nomatch h
  | [_], _, _, h, _, _, _, _, _ => absurd h (by simp)
  | [p, q], u, v, _, asc, h1, uv, h2, _ => ⟨p, q, by simp, by simp, fun z hz => List.mem_cons_of_mem _ (List.mem_append.mpr (.inl hz)), (List.pairwise_cons.mp asc).1 q (List.mem_cons_self ..), h1, h2, fun x _ _ => rfl⟩
  | p :: q :: r :: rest, u, v, _, asc, h1, uv, h2, no => by
    have pq := (List.pairwise_cons.mp asc).1 q (List.mem_cons_self ..)
    have asc' := (List.pairwise_cons.mp asc).2
    by_cases c : v ≤ q.1
    · exact ⟨p, q, by simp, by simp, fun z hz => List.mem_cons_of_mem _ (List.mem_append.mpr (.inl hz)), pq, h1, c, fun x _ hx => eval_lo (by grind)⟩
    · have qu : q.1 ≤ u := by
        have := no q (by simp)
        grind
      obtain ⟨p', q', hp, hq, hz, lt, a, b, ev⟩ := nums_piece (f := f) (q :: r :: rest) u v (by simp) asc' qu uv h2 fun p hp => no p (List.mem_cons_of_mem _ hp)
      refine ⟨p', q', List.mem_cons_of_mem _ hp, List.mem_cons_of_mem _ hq, fun z h => List.mem_cons_of_mem _ (List.mem_append.mpr (.inr (hz z h))), lt, a, b, fun x x1 x2 => ?_⟩
      rw [← ev x x1 x2]
      by_cases d : q.1 < x
      · exact eval_hi d
      · have z : x = q.1 := by grind
        have qr := (List.pairwise_cons.mp asc').1 r (List.mem_cons_self ..)
        rw [eval_lo (by grind), eval_lo (by grind), z, height_l, height_r pq]
/-! ## a composition -/
def cmpQ (ops ips : List Pt) : List Pt := onQ (fun x => evalQ ops (evalQ ips x)) (numsQ (crossQ (ops.map (·.1))) ips)
theorem cross_in {L : List Rat} : ∀ p q x, p.1 < q.1 → x ∈ crossQ L p q → p.1 < x ∧ x < q.1 := fun p q x h hx => by
  obtain ⟨c, _, _, _, z⟩ := cross_mem h hx
  exact z
section
variable {ops ips : List Pt} (o2 : 2 ≤ ops.length) (oa : AscQ ops) (i2 : 2 ≤ ips.length) (ia : AscQ ips)
include o2 oa i2 ia
theorem lv_asc : (ops.map (·.1)).Pairwise (· < ·) := by
  rw [List.pairwise_map]
  exact oa
theorem cmp_nums_asc : (numsQ (crossQ (ops.map (·.1))) ips).Pairwise (· < ·) := nums_asc cross_in (fun p q h => cross_asc h (lv_asc o2 oa i2 ia)) ips ia
theorem cmp_asc : AscQ (cmpQ ops ips) := on_asc (cmp_nums_asc o2 oa i2 ia)
theorem cmp_two : 2 ≤ (numsQ (crossQ (ops.map (·.1))) ips).length := by
  match ips, i2 with
  | p :: q :: rest, _ =>
    have : 1 ≤ (numsQ (crossQ (ops.map (·.1))) (q :: rest)).length := List.length_pos_of_mem (nums_corner (q :: rest) q (List.mem_cons_self ..))
    show 2 ≤ (p.1 :: (_ ++ _)).length
    rw [List.length_cons, List.length_append]
    omega
theorem cmp_lin {u v : Rat} (hu : u ∈ numsQ (crossQ (ops.map (·.1))) ips) (hv : v ∈ numsQ (crossQ (ops.map (·.1))) ips) (uv : u < v) (no : ∀ z ∈ numsQ (crossQ (ops.map (·.1))) ips, ¬ (u < z ∧ z < v)) (lo : (ips.getD 0 dpt).1 ≤ u) (hi : v ≤ (ips.getD (ips.length - 1) dpt).1) :
    Lin (fun x => evalQ ops (evalQ ips x)) u v := by
  obtain ⟨p, q, hp, hq, hz, pq, pu, vq, ev⟩ := nums_piece (f := crossQ (ops.map (·.1))) ips u v i2 ia lo uv hi fun p hp => no _ (nums_corner ips p hp)
  intro x x1 x2
  show evalQ ops (evalQ ips x) = heightQ (u, evalQ ops (evalQ ips u)) (v, evalQ ops (evalQ ips v)) x
  rw [ev x x1 x2, ev u Rat.le_refl (by grind), ev v (by grind) Rat.le_refl]
  have e : ∀ y, heightQ p q y = p.2 + (q.2 - p.2) / (q.1 - p.1) * (y - p.1) := fun y => rfl
  have d0 : q.1 - p.1 ≠ 0 := by grind
  have w0 : v - u ≠ 0 := by grind
  by_cases c : p.2 = q.2
  · have ec : ∀ y, heightQ p q y = p.2 := fun y => by rw [e, c]; grind
    rw [ec, ec, ec]
    show _ = evalQ ops p.2 + (evalQ ops p.2 - evalQ ops p.2) / (v - u) * (x - u)
    grind
  · -- no level between
    have nol : ∀ a b, (a = u ∧ b = v) ∨ (a = v ∧ b = u) → ∀ o ∈ ops, ¬ (heightQ p q a < o.1 ∧ o.1 < heightQ p q b) := by
      intro a b hab o ho z
      have inv : ∀ y, invQ p q (heightQ p q y) = y := fun y => by
        rw [inv_eq, e]
        have : q.2 - p.2 ≠ 0 := by grind
        grind
      have mem : u < invQ p q o.1 ∧ invQ p q o.1 < v := by
        by_cases d : p.2 < q.2
        · have z1 := inv_lt_up pq d z.1
          have z2 := inv_lt_up pq d z.2
          rw [inv] at z1 z2
          rcases hab with ⟨rfl, rfl⟩ | ⟨rfl, rfl⟩
          · exact ⟨z1, z2⟩
          · grind
        · have d' : q.2 < p.2 := by grind
          have z1 := inv_lt_down pq d' z.1
          have z2 := inv_lt_down pq d' z.2
          rw [inv] at z1 z2
          rcases hab with ⟨rfl, rfl⟩ | ⟨rfl, rfl⟩
          · grind
          · exact ⟨z2, z1⟩
      exact no _ (hz _ (cross_has pq c (List.mem_map.mpr ⟨o, ho, rfl⟩) (by grind) (by grind))) mem
    have s0 : (q.2 - p.2) / (q.1 - p.1) ≠ 0 := by
      intro z
      have : q.2 - p.2 = (q.2 - p.2) / (q.1 - p.1) * (q.1 - p.1) := by grind
      rw [z] at this
      grind
    by_cases d : p.2 < q.2
    · have sp := div_pos' (show 0 < q.2 - p.2 by grind) (show 0 < q.1 - p.1 by grind)
      have h1 : heightQ p q u < heightQ p q v := by rw [e, e]; have := mul_lt' sp (show u - p.1 < v - p.1 by grind); grind
      have h2 : heightQ p q u ≤ heightQ p q x := by
        rcases (by grind : u = x ∨ u < x) with z | z
        · rw [z]; exact Rat.le_refl
        · rw [e, e]; have := mul_lt' sp (show u - p.1 < x - p.1 by grind); grind
      have h3 : heightQ p q x ≤ heightQ p q v := by
        rcases (by grind : x = v ∨ x < v) with z | z
        · rw [z]; exact Rat.le_refl
        · rw [e, e]; have := mul_lt' sp (show x - p.1 < v - p.1 by grind); grind
      rw [eval_lin ops (heightQ p q u) (heightQ p q v) (heightQ p q x) o2 oa h1 (nol u v (.inl ⟨rfl, rfl⟩)) h2 h3]
      show _ + _ / (heightQ p q v - heightQ p q u) * (heightQ p q x - heightQ p q u) = _ + _ / (v - u) * (x - u)
      have k1 : heightQ p q v - heightQ p q u = (q.2 - p.2) / (q.1 - p.1) * (v - u) := by rw [e, e]; grind
      have k2 : heightQ p q x - heightQ p q u = (q.2 - p.2) / (q.1 - p.1) * (x - u) := by rw [e, e]; grind
      rw [k1, k2]
      generalize (q.2 - p.2) / (q.1 - p.1) = s at s0
      generalize evalQ ops (heightQ p q v) - evalQ ops (heightQ p q u) = D
      have : s * (v - u) ≠ 0 := fun z => by rcases Rat.mul_eq_zero.mp z with w | w <;> grind
      grind
    · have d' : q.2 < p.2 := by grind
      have sp := div_pos' (show 0 < p.2 - q.2 by grind) (show 0 < q.1 - p.1 by grind)
      have e' : ∀ y, heightQ p q y = p.2 - (p.2 - q.2) / (q.1 - p.1) * (y - p.1) := fun y => by rw [e]; grind
      have h1 : heightQ p q v < heightQ p q u := by rw [e', e']; have := mul_lt' sp (show u - p.1 < v - p.1 by grind); grind
      have h2 : heightQ p q x ≤ heightQ p q u := by
        rcases (by grind : u = x ∨ u < x) with z | z
        · rw [z]; exact Rat.le_refl
        · rw [e', e']; have := mul_lt' sp (show u - p.1 < x - p.1 by grind); grind
      have h3 : heightQ p q v ≤ heightQ p q x := by
        rcases (by grind : x = v ∨ x < v) with z | z
        · rw [z]; exact Rat.le_refl
        · rw [e', e']; have := mul_lt' sp (show x - p.1 < v - p.1 by grind); grind
      rw [eval_lin ops (heightQ p q v) (heightQ p q u) (heightQ p q x) o2 oa h1 (nol v u (.inr ⟨rfl, rfl⟩)) h3 h2]
      show evalQ ops (heightQ p q v) + (evalQ ops (heightQ p q u) - evalQ ops (heightQ p q v)) / (heightQ p q u - heightQ p q v) * (heightQ p q x - heightQ p q v) = evalQ ops (heightQ p q u) + (evalQ ops (heightQ p q v) - evalQ ops (heightQ p q u)) / (v - u) * (x - u)
      have k1 : heightQ p q u - heightQ p q v = (p.2 - q.2) / (q.1 - p.1) * (v - u) := by rw [e', e']; grind
      have k2 : heightQ p q x - heightQ p q v = (p.2 - q.2) / (q.1 - p.1) * (v - x) := by rw [e', e']; grind
      have s1 : (p.2 - q.2) / (q.1 - p.1) ≠ 0 := by grind
      rw [k1, k2]
      generalize (p.2 - q.2) / (q.1 - p.1) = s at s1
      generalize evalQ ops (heightQ p q v) = E1
      generalize evalQ ops (heightQ p q u) = E2
      have : s * (v - u) ≠ 0 := fun z => by rcases Rat.mul_eq_zero.mp z with w | w <;> grind
      grind
theorem cmp_eval {x : Rat} (h1 : (ips.getD 0 dpt).1 ≤ x) (h2 : x ≤ (ips.getD (ips.length - 1) dpt).1) : evalQ (cmpQ ops ips) x = evalQ ops (evalQ ips x) := by
  have ge := nums_ge (f := crossQ (ops.map (·.1))) cross_in ips ia
  have la := nums_last (f := crossQ (ops.map (·.1))) ips (by omega)
  have asc := cmp_nums_asc o2 oa i2 ia
  have le : ∀ z ∈ numsQ (crossQ (ops.map (·.1))) ips, z ≤ (ips.getD (ips.length - 1) dpt).1 := fun z hz => by
    obtain ⟨ys, e⟩ := List.getLast?_eq_some_iff.mp la
    rw [e] at hz asc
    rcases List.mem_append.mp hz with w | w
    · have := (List.pairwise_append.mp asc).2.2 z w _ (List.mem_singleton.mpr rfl)
      grind
    · rw [List.mem_singleton.mp w]; exact Rat.le_refl
  refine eval_glue _ _ x (cmp_two o2 oa i2 ia) asc (fun u v hu hv uv no => cmp_lin o2 oa i2 ia hu hv uv no (ge u hu) (le v hv)) la ?_ h2
  have hd : (numsQ (crossQ (ops.map (·.1))) ips).headD 0 = (ips.getD 0 dpt).1 := by
    match ips, i2 with
    | p :: q :: rest, _ => rfl
  rw [hd]
  exact h1
theorem cmp_first : ((cmpQ ops ips).getD 0 dpt).1 = (ips.getD 0 dpt).1 := by
  match ips, i2 with
  | p :: q :: rest, _ => rfl
theorem cmp_last : ((cmpQ ops ips).getD ((cmpQ ops ips).length - 1) dpt).1 = (ips.getD (ips.length - 1) dpt).1 := by
  have la := nums_last (f := crossQ (ops.map (·.1))) ips (by omega)
  have t := cmp_two o2 oa i2 ia
  unfold cmpQ
  rw [on_len]
  unfold onQ
  rw [List.getLast?_eq_getElem?] at la
  rw [List.getD_eq_getElem?_getD, List.getElem?_map, la]
  rfl
end
theorem cmp_norm {ops ips : List Pt} (o2 : 2 ≤ ops.length) (oa : AscQ ops) (i2 : 2 ≤ ips.length) (ia : AscQ ips) : normQ (cmpQ (normQ ops) (normQ ips)) = normQ (cmpQ ops ips) := by
  have o2' := normQ_len o2
  have oa' := normQ_asc oa
  have i2' := normQ_len i2
  have ia' := normQ_asc ia
  have f := normQ_first i2
  have l := normQ_last i2
  refine norm_uniq (by rw [show (cmpQ (normQ ops) (normQ ips)).length = _ from on_len _ _]; exact cmp_two o2' oa' i2' ia') (by rw [show (cmpQ ops ips).length = _ from on_len _ _]; exact cmp_two o2 oa i2 ia) (cmp_asc o2' oa' i2' ia') (cmp_asc o2 oa i2 ia) ?_ ?_ fun x x1 x2 => ?_
  · rw [cmp_first o2' oa' i2' ia', cmp_first o2 oa i2 ia, f]
  · rw [cmp_last o2' oa' i2' ia', cmp_last o2 oa i2 ia, l]
  · rw [cmp_first o2' oa' i2' ia', f] at x1
    rw [cmp_last o2' oa' i2' ia', l] at x2
    rw [cmp_eval o2' oa' i2' ia' (by rw [f]; exact x1) (by rw [l]; exact x2), cmp_eval o2 oa i2 ia x1 x2, eval_norm _ o2 oa, eval_norm _ i2 ia]
end Ew
namespace Ew
open PySem PySem.Spec PyProof.Rows L2
theorem ps_nox {X : Cx} {st : Stmt} {t : TS} (own : PS X.nox st t) : PS X st t := ⟨fun pn z σ G D J hw => wpAny_mono (own.run pn z σ G D (J.wish _) hw) (fun _ _ r => r.unwish) (fun _ _ b => b.elim)⟩
theorem nums_val {L : List Rat} : ∀ (ps : List Pt), 2 ≤ ps.length → AscQ ps → ∀ x ∈ numsQ (crossQ L) ps, (∃ p ∈ ps, x = p.1 ∧ evalQ ps x = p.2) ∨ (∃ c ∈ L, ∃ p q, p ∈ ps ∧ q ∈ ps ∧ p.1 < q.1 ∧ p.2 ≠ q.2 ∧ x = invQ p q c ∧ evalQ ps x = c)
  | [], h, _, _, _ => nomatch h
  | [_], h, _, _, _ => absurd h (by simp)
  | p :: q :: rest, _, asc, x, hx => by
    have pq := (List.pairwise_cons.mp asc).1 q (List.mem_cons_self ..)
    have asc' := (List.pairwise_cons.mp asc).2
    have lo : ∀ y, ¬ q.1 < y → evalQ (p :: q :: rest) y = heightQ p q y := fun y h => eval_lo h
    rcases List.mem_cons.mp hx with rfl | hx
    · exact .inl ⟨p, by simp, rfl, by rw [lo _ (by grind), height_l]⟩
    · rcases List.mem_append.mp hx with z | z
      · obtain ⟨c, hc, e, n, l, r⟩ := cross_mem pq z
        exact .inr ⟨c, hc, p, q, by simp, by simp, pq, n, e, by rw [lo _ (by grind), e, inv_back pq n]⟩
      · match rest, asc', z with
        | [], _, z =>
          have e : x = q.1 := List.mem_singleton.mp z
          exact .inl ⟨q, by simp, e, by rw [e, lo _ (by grind), height_r pq]⟩
        | r :: rest, asc', z =>
          have ge : q.1 ≤ x := nums_ge cross_in (q :: r :: rest) asc' x z
          have qr := (List.pairwise_cons.mp asc').1 r (List.mem_cons_self ..)
          have ev : evalQ (p :: q :: r :: rest) x = evalQ (q :: r :: rest) x := by
            by_cases d : q.1 < x
            · exact eval_hi d
            · have z : x = q.1 := by grind
              rw [eval_lo (by grind), eval_lo (by grind), z, height_l, height_r pq]
          rw [ev]
          rcases nums_val (q :: r :: rest) (by simp) asc' x z with ⟨a, ha, e1, e2⟩ | ⟨c, hc, a, b, ha, hb, h1, h2, h3, h4⟩
          · exact .inl ⟨a, List.mem_cons_of_mem _ ha, e1, e2⟩
          · exact .inr ⟨c, hc, a, b, List.mem_cons_of_mem _ ha, List.mem_cons_of_mem _ hb, h1, h2, h3, h4⟩
theorem inv_sz {n : Nat} {p q : Pt} {c : Rat} (h1 : PSz n p) (h2 : PSz n q) (h : p.2 ≠ q.2) (hc : Sz n c) : Sz (n + (n + n + 1 + (n + n + 1) + (n + n + 1)) + 1) (invQ p q c) :=
  height_sz (l := (p.2, p.1)) (r := (q.2, q.1)) ⟨h1.y, h1.x⟩ ⟨h2.y, h2.x⟩ (by show q.2 - p.2 ≠ 0; grind) hc
theorem nums_sz {n : Nat} {L : List Rat} {ps : List Pt} (h2 : 2 ≤ ps.length) (asc : AscQ ps) (hz : ∀ p ∈ ps, PSz n p) (hL : ∀ c ∈ L, Sz n c) : ∀ x ∈ numsQ (crossQ L) ps, Sz (n + (n + n + 1 + (n + n + 1) + (n + n + 1)) + 1) x ∧ Sz n (evalQ ps x) := by
  intro x hx
  rcases nums_val ps h2 asc x hx with ⟨p, hp, e1, e2⟩ | ⟨c, hc, p, q, hp, hq, h1, h3, h4, h5⟩
  · rw [e2]
    refine ⟨?_, (hz p hp).y⟩
    rw [e1]
    exact (hz p hp).x.le (by omega)
  · rw [h5]
    refine ⟨?_, hL c hc⟩
    rw [h4]
    exact inv_sz (hz p hp) (hz q hq) h3 (hL c hc)
/-- the heights lie between the least and the greatest one, or are levels -/
theorem nums_in {ops ips : List Pt} (oa : AscQ ops) (i2 : 2 ≤ ips.length) (ia : AscQ ips) (lo : ¬ leastQ ips < (ops.getD 0 dpt).1) (hi : ¬ (ops.getD (ops.length - 1) dpt).1 < greatestQ ips) : ∀ x ∈ numsQ (crossQ (ops.map (·.1))) ips, ¬ evalQ ips x < (ops.getD 0 dpt).1 ∧ ¬ (ops.getD (ops.length - 1) dpt).1 < evalQ ips x := by
  intro x hx
  have mn := (minF_le (ips.map (·.2)) (ips.getD 0 dpt).2).2
  have mx := (maxF_le (ips.map (·.2)) (ips.getD 0 dpt).2).2
  rcases nums_val ips i2 ia x hx with ⟨p, hp, e1, e2⟩ | ⟨c, hc, p, q, hp, hq, h1, h3, h4, h5⟩
  · have a1 : leastQ ips ≤ p.2 := mn p.2 (List.mem_map.mpr ⟨p, hp, rfl⟩)
    have a2 : p.2 ≤ greatestQ ips := mx p.2 (List.mem_map.mpr ⟨p, hp, rfl⟩)
    rw [e2]
    constructor <;> grind
  · obtain ⟨o, ho, rfl⟩ := List.mem_map.mp hc
    have a1 := first_le oa ho
    have a2 := le_last oa ho
    rw [h5]
    constructor <;> grind
theorem nums_le {f : Pt → Pt → List Rat} (hf : ∀ p q x, p.1 < q.1 → x ∈ f p q → p.1 < x ∧ x < q.1) (ha : ∀ p q, p.1 < q.1 → (f p q).Pairwise (· < ·)) {ps : List Pt} (h1 : 1 ≤ ps.length) (asc : AscQ ps) : ∀ z ∈ numsQ f ps, z ≤ (ps.getD (ps.length - 1) dpt).1 := by
  intro z hz
  have la := nums_last (f := f) ps h1
  have as := nums_asc hf ha ps asc
  obtain ⟨ys, e⟩ := List.getLast?_eq_some_iff.mp la
  rw [e] at hz as
  rcases List.mem_append.mp hz with w | w
  · have := (List.pairwise_append.mp as).2.2 z w _ (List.mem_singleton.mpr rfl)
    grind
  · rw [List.mem_singleton.mp w]; exact Rat.le_refl
theorem cross_len (L : List Rat) (p q : Pt) : (crossQ L p q).length ≤ L.length := by
  unfold crossQ
  split
  · rw [List.length_map]
    exact List.filter_sublist.length_le
  · rw [List.length_map]
    have := (List.filter_sublist (p := fun c => decide (q.2 < c) && decide (c < p.2)) (l := L.reverse)).length_le
    rwa [List.length_reverse] at this
theorem nums_drop {f : Pt → Pt → List Rat} {ps : List Pt} {i : Nat} (h : i + 1 < ps.length) : numsQ f (ps.drop i) = (ps.getD i dpt).1 :: (f (ps.getD i dpt) (ps.getD (i + 1) dpt) ++ numsQ f (ps.drop (i + 1))) := by
  have e1 : ps.drop i = ps.getD i dpt :: ps.drop (i + 1) := by rw [List.drop_eq_getElem_cons (by omega), List.getD_eq_getElem?_getD, List.getElem?_eq_getElem (by omega)]; rfl
  have e2 : ps.drop (i + 1) = ps.getD (i + 1) dpt :: ps.drop (i + 2) := by rw [List.drop_eq_getElem_cons h, List.getD_eq_getElem?_getD, List.getElem?_eq_getElem h]; rfl
  rw [e1, e2]
  rfl
theorem nums_drop_last {f : Pt → Pt → List Rat} {ps : List Pt} (h : 1 ≤ ps.length) : numsQ f (ps.drop (ps.length - 1)) = [(ps.getD (ps.length - 1) dpt).1] := by
  have e1 : ps.drop (ps.length - 1) = [ps.getD (ps.length - 1) dpt] := by
    rw [List.drop_eq_getElem_cons (by omega), List.getD_eq_getElem?_getD, List.getElem?_eq_getElem (by omega), List.drop_of_length_le (by omega)]
    rfl
  rw [e1]
  rfl
end Ew
namespace Ew
open PySem PySem.Spec PyProof.Rows L2
theorem eval_piece {ps : List Pt} {i : Nat} {x : Rat} (h2 : 2 ≤ ps.length) (asc : AscQ ps) (hi : i + 1 < ps.length) (x1 : (ps.getD i dpt).1 ≤ x) (x2 : x ≤ (ps.getD (i + 1) dpt).1) : evalQ ps x = heightQ (ps.getD i dpt) (ps.getD (i + 1) dpt) x := by
  have lt := asc_at asc (i := i) (j := i + 1) (by omega) hi
  have z := eval_lin ps (ps.getD i dpt).1 (ps.getD (i + 1) dpt).1 x h2 asc lt (fun p hp z => by
    obtain ⟨j, hj, rfl⟩ := List.getElem_of_mem hp
    have e : ps[j] = ps.getD j dpt := by rw [List.getD_eq_getElem?_getD, List.getElem?_eq_getElem hj]; rfl
    rw [e] at z
    rcases (by omega : j < i ∨ j = i ∨ j = i + 1 ∨ i + 1 < j) with w | w | w | w
    · have := asc_at asc (i := j) (j := i) w (by omega); grind
    · subst w; grind
    · subst w; grind
    · have := asc_at asc (i := i + 1) (j := j) w hj; grind) x1 x2
  rw [z, ← eval_at h2 asc _ (getD_memP (by omega : i < ps.length)), ← eval_at h2 asc _ (getD_memP hi)]
theorem slope_zero {p q : Pt} (h : p.1 < q.1) : slopeQ p q = 0 ↔ p.2 = q.2 := by
  unfold slopeQ
  have : q.1 - p.1 ≠ 0 := by grind
  constructor
  · intro z
    have : q.2 - p.2 = (q.2 - p.2) / (q.1 - p.1) * (q.1 - p.1) := by grind
    rw [z] at this
    grind
  · intro z
    rw [z]
    grind
theorem slope_pos {p q : Pt} (h : p.1 < q.1) : 0 < slopeQ p q ↔ p.2 < q.2 := by
  constructor
  · intro z
    rcases (by grind : p.2 < q.2 ∨ p.2 = q.2 ∨ q.2 < p.2) with w | w | w
    · exact w
    · rw [(slope_zero h).mpr w] at z; grind
    · have := div_pos' (show 0 < p.2 - q.2 by grind) (show 0 < q.1 - p.1 by grind)
      unfold slopeQ at z
      grind
  · intro z
    exact div_pos' (show 0 < q.2 - p.2 by grind) (show 0 < q.1 - p.1 by grind)
theorem num_inv {p q : Pt} {c : Rat} (h : p.1 < q.1) (n : slopeQ p q ≠ 0) : p.1 + (c - p.2) / slopeQ p q = invQ p q c := by
  have n' : p.2 ≠ q.2 := fun z => n ((slope_zero h).mpr z)
  rw [inv_eq]
  unfold slopeQ at n ⊢
  have : q.1 - p.1 ≠ 0 := by grind
  have : q.2 - p.2 ≠ 0 := by grind
  grind
def inB (p q : Pt) (c : Rat) : Bool := decide (p.1 < invQ p q c) && decide (invQ p q c < q.1)
/-- the points that are found on a piece -/
def foundQ (ops : List Pt) (p q : Pt) (M : List Rat) : List Pt := (p.1, evalQ ops p.2) :: (M.filter (inB p q)).map fun c => (invQ p q c, evalQ ops c)
theorem cross_alt {L : List Rat} {p q : Pt} (h : p.1 < q.1) (n : p.2 ≠ q.2) : ((if p.2 < q.2 then L else L.reverse).filter (inB p q)).map (invQ p q) = crossQ L p q := by
  unfold crossQ
  by_cases d : p.2 < q.2
  · rw [if_pos d, if_pos d]
    congr 1
    refine List.filter_congr fun c hc => ?_
    have e : inB p q c = true ↔ (decide (p.2 < c) && decide (c < q.2)) = true := by
      constructor
      · intro z
        have z : p.1 < invQ p q c ∧ invQ p q c < q.1 := by unfold inB at z; simpa using z
        have := cross_has (L := [c]) h n (List.mem_singleton.mpr rfl) z.1 z.2
        unfold crossQ at this
        rw [if_pos d] at this
        obtain ⟨c', hc', e'⟩ := List.mem_map.mp this
        have w := List.mem_filter.mp hc'
        rw [List.mem_singleton.mp w.1] at w
        exact w.2
      · intro z
        have z : p.2 < c ∧ c < q.2 := by simpa using z
        have l := inv_lt_up h d z.1
        have r := inv_lt_up h d z.2
        rw [inv_l] at l
        rw [inv_r n] at r
        unfold inB
        simp [l, r]
    exact Bool.eq_iff_iff.mpr e
  · rw [if_neg d, if_neg d]
    have d' : q.2 < p.2 := by grind
    congr 1
    refine List.filter_congr fun c hc => ?_
    have e : inB p q c = true ↔ (decide (q.2 < c) && decide (c < p.2)) = true := by
      constructor
      · intro z
        have z : p.1 < invQ p q c ∧ invQ p q c < q.1 := by unfold inB at z; simpa using z
        have := cross_has (L := [c]) h n (List.mem_singleton.mpr rfl) z.1 z.2
        unfold crossQ at this
        rw [if_neg d] at this
        obtain ⟨c', hc', e'⟩ := List.mem_map.mp this
        have w := List.mem_filter.mp hc'
        rw [List.mem_singleton.mp (List.mem_reverse.mp w.1)] at w
        exact w.2
      · intro z
        have z : q.2 < c ∧ c < p.2 := by simpa using z
        have l := inv_lt_down h d' z.2
        have r := inv_lt_down h d' z.1
        rw [inv_l] at l
        rw [inv_r n] at r
        unfold inB
        simp [l, r]
    exact Bool.eq_iff_iff.mpr e
theorem found_eq {ops ips : List Pt} {i : Nat} {M : List Rat} (i2 : 2 ≤ ips.length) (ia : AscQ ips) (hi : i + 1 < ips.length)
    (hM : ((M.filter (inB (ips.getD i dpt) (ips.getD (i + 1) dpt))).map (invQ (ips.getD i dpt) (ips.getD (i + 1) dpt))) = crossQ (ops.map (·.1)) (ips.getD i dpt) (ips.getD (i + 1) dpt)) (n : M ≠ [] → (ips.getD i dpt).2 ≠ (ips.getD (i + 1) dpt).2) :
    foundQ ops (ips.getD i dpt) (ips.getD (i + 1) dpt) M = onQ (fun x => evalQ ops (evalQ ips x)) ((ips.getD i dpt).1 :: crossQ (ops.map (·.1)) (ips.getD i dpt) (ips.getD (i + 1) dpt)) := by
  have lt := asc_at ia (i := i) (j := i + 1) (by omega) hi
  rw [← hM]
  unfold foundQ onQ
  rw [List.map_cons, List.map_map]
  congr 1
  · show (_, evalQ ops (ips.getD i dpt).2) = (_, evalQ ops (evalQ ips (ips.getD i dpt).1))
    rw [← eval_at i2 ia _ (getD_memP (by omega : i < ips.length))]
  · refine List.map_congr_left fun c hc => ?_
    have w := List.mem_filter.mp hc
    have nn := n (fun z => by rw [z] at w; cases w.1)
    have z : (ips.getD i dpt).1 < invQ (ips.getD i dpt) (ips.getD (i + 1) dpt) c ∧ invQ (ips.getD i dpt) (ips.getD (i + 1) dpt) c < (ips.getD (i + 1) dpt).1 := by
      have := w.2
      unfold inB at this
      simpa using this
    show (_, evalQ ops c) = (_, evalQ ops (evalQ ips (invQ (ips.getD i dpt) (ips.getD (i + 1) dpt) c)))
    rw [eval_piece i2 ia hi (Std.le_of_lt z.1) (Std.le_of_lt z.2), inv_back lt nn]
theorem cross_flat {L : List Rat} {p q : Pt} (h : p.2 = q.2) : crossQ L p q = [] := by
  unfold crossQ
  rw [if_neg (by grind)]
  rw [List.filter_eq_nil_iff.mpr fun c _ w => by
    have w2 : q.2 < c ∧ c < p.2 := by simpa using w
    grind]
  rfl
theorem num_pos {s : Rat} : 0 < s.num ↔ 0 < s := by
  rw [Rat.lt_iff]
  simp
end Ew
namespace Ew
open PySem PySem.Spec PyProof.Rows L2
/-! ## a function after writing a digit -/
def liftQ (b g : Rat) (ps : List Pt) : List Pt := ps.map fun p => (p.1, b * p.2 - g)
theorem height_lift {b g x : Rat} {p q : Pt} (h : p.1 < q.1) : heightQ (p.1, b * p.2 - g) (q.1, b * q.2 - g) x = b * heightQ p q x - g := by
  have : q.1 - p.1 ≠ 0 := by grind
  show b * p.2 - g + (b * q.2 - g - (b * p.2 - g)) / (q.1 - p.1) * (x - p.1) = b * (p.2 + (q.2 - p.2) / (q.1 - p.1) * (x - p.1)) - g
  grind
theorem eval_lift {b g x : Rat} : ∀ (ps : List Pt), 2 ≤ ps.length → AscQ ps → evalQ (liftQ b g ps) x = b * evalQ ps x - g
  | [], h, _ => nomatch h
  | [_], h, _ => absurd h (by simp)
  | [p, q], _, asc => height_lift ((List.pairwise_cons.mp asc).1 q (List.mem_cons_self ..))
  | p :: q :: r :: rest, _, asc => by
    have pq := (List.pairwise_cons.mp asc).1 q (List.mem_cons_self ..)
    by_cases d : q.1 < x
    · rw [eval_hi d]
      show evalQ ((p.1, b * p.2 - g) :: (q.1, b * q.2 - g) :: (r.1, b * r.2 - g) :: liftQ b g rest) x = _
      rw [eval_hi (q := (q.1, b * q.2 - g)) d]
      exact eval_lift (q :: r :: rest) (by simp) (List.pairwise_cons.mp asc).2
    · rw [eval_lo d]
      show evalQ ((p.1, b * p.2 - g) :: (q.1, b * q.2 - g) :: (r.1, b * r.2 - g) :: liftQ b g rest) x = _
      rw [eval_lo (q := (q.1, b * q.2 - g)) d]
      exact height_lift pq
theorem lift_asc {b g : Rat} {ps : List Pt} (h : AscQ ps) : AscQ (liftQ b g ps) := by
  unfold liftQ AscQ
  rw [List.pairwise_map]
  exact h
theorem lift_len (b g : Rat) (ps : List Pt) : (liftQ b g ps).length = ps.length := List.length_map ..
theorem lift_at {b g : Rat} {ps : List Pt} {i : Nat} (h : i < ps.length) : ((liftQ b g ps).getD i dpt).1 = (ps.getD i dpt).1 := by
  unfold liftQ
  rw [List.getD_eq_getElem?_getD, List.getElem?_map, List.getElem?_eq_getElem h, List.getD_eq_getElem?_getD, List.getElem?_eq_getElem h]
  rfl
theorem lift_norm {b g : Rat} {ps : List Pt} (h2 : 2 ≤ ps.length) (asc : AscQ ps) : normQ (liftQ b g (normQ ps)) = normQ (liftQ b g ps) := by
  have n2 := normQ_len h2
  have na := normQ_asc asc
  refine norm_uniq (by rw [lift_len]; exact n2) (by rw [lift_len]; exact h2) (lift_asc na) (lift_asc asc) ?_ ?_ fun x _ _ => ?_
  · rw [lift_at (by omega), lift_at (by omega), normQ_first h2]
  · rw [lift_len, lift_len, lift_at (by omega), lift_at (by omega), normQ_last h2]
  · rw [eval_lift _ n2 na, eval_lift _ h2 asc, eval_norm x h2 asc]
/-! ## all heights within an interval -/
def safeB (lo hi : Rat) (ps : List Pt) : Bool := ps.all fun p => !decide (p.2 < lo) && !decide (hi < p.2)
theorem safe_iff {lo hi : Rat} {ps : List Pt} : safeB lo hi ps = true ↔ ∀ p ∈ ps, ¬ p.2 < lo ∧ ¬ hi < p.2 := by
  unfold safeB
  rw [List.all_eq_true]
  constructor
  · intro h p hp
    have := h p hp
    simpa using this
  · intro h p hp
    have := h p hp
    simp [this.1, this.2]
theorem least_mem {ps : List Pt} (h : 1 ≤ ps.length) : ∃ p ∈ ps, leastQ ps = p.2 := by
  rcases minF_mem (ps.map (·.2)) (ps.getD 0 dpt).2 with z | z
  · exact ⟨_, getD_memP (by omega : 0 < ps.length), z⟩
  · obtain ⟨p, hp, e⟩ := List.mem_map.mp z
    exact ⟨p, hp, e.symm⟩
theorem greatest_mem {ps : List Pt} (h : 1 ≤ ps.length) : ∃ p ∈ ps, greatestQ ps = p.2 := by
  rcases maxF_mem (ps.map (·.2)) (ps.getD 0 dpt).2 with z | z
  · exact ⟨_, getD_memP (by omega : 0 < ps.length), z⟩
  · obtain ⟨p, hp, e⟩ := List.mem_map.mp z
    exact ⟨p, hp, e.symm⟩
theorem least_le {ps : List Pt} {p : Pt} (h : p ∈ ps) : leastQ ps ≤ p.2 := (minF_le (ps.map (·.2)) (ps.getD 0 dpt).2).2 _ (List.mem_map.mpr ⟨p, h, rfl⟩)
theorem le_greatest {ps : List Pt} {p : Pt} (h : p ∈ ps) : p.2 ≤ greatestQ ps := (maxF_le (ps.map (·.2)) (ps.getD 0 dpt).2).2 _ (List.mem_map.mpr ⟨p, h, rfl⟩)
def inR (lo x hi : Rat) : Bool := !decide (x < lo) && !decide (hi < x)
theorem inR_iff {lo x hi : Rat} : inR lo x hi = true ↔ ¬ x < lo ∧ ¬ hi < x := by unfold inR; simp
theorem safe_ends {lo hi : Rat} {ps : List Pt} (h : 1 ≤ ps.length) : safeB lo hi ps = (inR lo (leastQ ps) hi && inR lo (greatestQ ps) hi) := by
  rw [Bool.eq_iff_iff, safe_iff, Bool.and_eq_true, inR_iff, inR_iff]
  obtain ⟨p, hp, ep⟩ := least_mem h
  obtain ⟨q, hq, eq⟩ := greatest_mem h
  constructor
  · intro z
    have z1 := z p hp
    have z2 := z q hq
    rw [ep, eq]
    exact ⟨z1, z2⟩
  · intro z r hr
    have a1 := least_le hr
    have a2 := le_greatest hr
    constructor <;> grind
theorem safe_norm {lo hi : Rat} {ps : List Pt} (h2 : 2 ≤ ps.length) (asc : AscQ ps) : safeB lo hi (normQ ps) = safeB lo hi ps := by
  have n2 := normQ_len h2
  rw [safe_ends (by omega), safe_ends (by omega), least_norm h2 asc, greatest_norm h2 asc]
/-! ## another height at one place -/
def setQ (ps : List Pt) (k : Nat) (y : Rat) : List Pt := ps.take k ++ [((ps.getD k dpt).1, y)] ++ ps.drop (k + 1)
theorem set_fst {ps : List Pt} {k : Nat} {y : Rat} (h : k < ps.length) : (setQ ps k y).map (·.1) = ps.map (·.1) := by
  unfold setQ
  have e : ps = ps.take k ++ [ps.getD k dpt] ++ ps.drop (k + 1) := by
    rw [List.append_assoc]
    have : [ps.getD k dpt] ++ ps.drop (k + 1) = ps.drop k := by
      rw [List.drop_eq_getElem_cons h, List.getD_eq_getElem?_getD, List.getElem?_eq_getElem h]
      rfl
    rw [this, List.take_append_drop]
  conv => rhs; rw [e]
  simp
theorem set_len {ps : List Pt} {k : Nat} {y : Rat} (h : k < ps.length) : (setQ ps k y).length = ps.length := by
  have := congrArg List.length (set_fst (y := y) h)
  rwa [List.length_map, List.length_map] at this
theorem asc_fst {ps : List Pt} : AscQ ps ↔ (ps.map (·.1)).Pairwise (· < ·) := by
  rw [List.pairwise_map]
theorem set_asc {ps : List Pt} {k : Nat} {y : Rat} (h : k < ps.length) (asc : AscQ ps) : AscQ (setQ ps k y) := by
  rw [asc_fst, set_fst h, ← asc_fst]
  exact asc
theorem set_mem {ps : List Pt} {k : Nat} {y : Rat} {p : Pt} (h : p ∈ setQ ps k y) : p ∈ ps ∨ p = ((ps.getD k dpt).1, y) := by
  rcases List.mem_append.mp h with z | z
  · rcases List.mem_append.mp z with z | z
    · exact .inl ((List.take_sublist ..).subset z)
    · exact .inr (List.mem_singleton.mp z)
  · exact .inl ((List.drop_sublist ..).subset z)
theorem set_has (ps : List Pt) (k : Nat) (y : Rat) : ((ps.getD k dpt).1, y) ∈ setQ ps k y := List.mem_append.mpr (.inl (List.mem_append.mpr (.inr (List.mem_singleton.mpr rfl))))
/-! ## nearer to the middle -/
def shrQ (lo hi y : Rat) : Rat := Rat.divInt 1 2 * (lo + hi) + Rat.divInt 1 5 * (y - Rat.divInt 1 2 * (lo + hi))
theorem shr_bd {lo hi y : Rat} (h1 : lo ≤ y) (h2 : y ≤ hi) : lo ≤ shrQ lo hi y ∧ shrQ lo hi y ≤ hi := by
  unfold shrQ
  have e1 : Rat.divInt 1 2 = 1 / 2 := by decide +kernel
  have e2 : Rat.divInt 1 5 = 1 / 5 := by decide +kernel
  rw [e1, e2]
  constructor <;> grind
/-! ## fractions of digits -/
theorem rest_rat {b g : Int} {y : Rat} : [V.int (frN (b * y.num - g * (y.den : Int)) (y.den : Int)), V.int (frD (b * y.num - g * (y.den : Int)) (y.den : Int))] = qV ((b : Rat) * y - (g : Rat)) := by
  have d0 : (y.den : Int) ≠ 0 := by have := y.den_nz; omega
  rw [qV_fr d0]
  congr 1
  rw [Rat.divInt_eq_div, Rat.intCast_sub, Rat.intCast_mul, Rat.intCast_mul]
  have e : y = (y.num : Rat) / ((y.den : Int) : Rat) := by
    rw [← Rat.divInt_eq_div]
    exact (Rat.num_divInt_den y).symm
  have d1 : (((y.den : Int)) : Rat) ≠ 0 := fun z => d0 (by exact_mod_cast z)
  conv => rhs; rw [e]
  grind
def endQ (d b : Int) : Rat := Rat.divInt d (b - 1)
theorem end_fr {d b : Int} (h : 2 ≤ b) : [V.int (frN d (b - 1)), V.int (frD d (b - 1))] = qV (endQ d b) := qV_fr (by omega)
theorem end_sz {d b : Int} (h2 : 2 ≤ b) (h10 : b ≤ 10) (d0 : -99 ≤ d) (d1 : d ≤ 99) : Sz 7 (endQ d b) := sz_div (by omega) (by omega) (by omega)
theorem end_sub {d e b : Int} (h2 : 2 ≤ b) : endQ e b - endQ d b = endQ (e - d) b := by
  unfold endQ
  have : (((b - 1 : Int)) : Rat) ≠ 0 := fun z => by have : b - 1 = 0 := by exact_mod_cast z
                                                    omega
  rw [Rat.divInt_eq_div, Rat.divInt_eq_div, Rat.divInt_eq_div, Rat.intCast_sub e d]
  grind
theorem end_lt {d e b : Int} (h2 : 2 ≤ b) (h : d < e) : endQ d b < endQ e b := by
  have s := end_sub (d := d) (e := e) h2
  have p : 0 < endQ (e - d) b := by
    unfold endQ
    rw [Rat.divInt_eq_div]
    exact div_pos' (by exact_mod_cast (by omega : 0 < e - d)) (by exact_mod_cast (by omega : 0 < b - 1))
  grind
theorem end_le {d e b : Int} (h2 : 2 ≤ b) (h : d ≤ e) : endQ d b ≤ endQ e b := by
  rcases (by omega : d = e ∨ d < e) with z | z
  · rw [z]; exact Rat.le_refl
  · have := end_lt h2 z; grind
end Ew
namespace Ew
open PySem PySem.Spec PyProof.Rows L2
theorem isz {i : Int} (h0 : -99 ≤ i) (h1 : i ≤ 99) : Sz 7 (i : Rat) := ⟨Nat.lt_of_le_of_lt (show i.natAbs ≤ 99 by omega) (by decide), show 1 < 2 ^ 7 by decide⟩
theorem asc_bdd {b : Int} {s : List Int} (h : AreS b s) (ha : s.Pairwise (· < ·)) : ∀ g ∈ s, -99 ≤ g ∧ g ≤ 99 := dig_le ⟨h, ha⟩
end Ew
namespace Ew
open PySem PySem.Spec PyProof.Rows L2
theorem norm_idem {ps : List Pt} (h2 : 2 ≤ ps.length) (asc : AscQ ps) : normQ (normQ ps) = normQ ps := by
  refine norm_uniq (normQ_len h2) h2 (normQ_asc asc) asc (by rw [normQ_first h2]) (by rw [normQ_last h2]) fun x _ _ => eval_norm x h2 asc
/-! ## a function after reading a digit -/
def strQ (b g : Rat) (ps : List Pt) : List Pt := ps.map fun p => (b * p.1 - g, p.2)
theorem mul_lt_iff {b x y : Rat} (hb : 0 < b) : b * x < b * y ↔ x < y := by
  constructor
  · intro h
    rcases (by grind : x < y ∨ x = y ∨ y < x) with z | z | z
    · exact z
    · rw [z] at h; grind
    · have := mul_lt' hb z; grind
  · exact mul_lt' hb
theorem height_str {b g x : Rat} {p q : Pt} (hb : 0 < b) (h : p.1 < q.1) : heightQ (b * p.1 - g, p.2) (b * q.1 - g, q.2) (b * x - g) = heightQ p q x := by
  have : q.1 - p.1 ≠ 0 := by grind
  have : b * q.1 - b * p.1 ≠ 0 := by
    have := mul_lt' hb h
    grind
  show p.2 + (q.2 - p.2) / (b * q.1 - g - (b * p.1 - g)) * (b * x - g - (b * p.1 - g)) = p.2 + (q.2 - p.2) / (q.1 - p.1) * (x - p.1)
  have e : b * q.1 - g - (b * p.1 - g) = b * (q.1 - p.1) := by grind
  have e2 : b * x - g - (b * p.1 - g) = b * (x - p.1) := by grind
  rw [e, e2]
  have b0 : b ≠ 0 := by grind
  generalize q.1 - p.1 = D at *
  generalize x - p.1 = X
  have : b * D ≠ 0 := fun z => by rcases Rat.mul_eq_zero.mp z with w | w <;> grind
  grind
theorem eval_str {b g x : Rat} (hb : 0 < b) : ∀ (ps : List Pt), 2 ≤ ps.length → AscQ ps → evalQ (strQ b g ps) (b * x - g) = evalQ ps x
  | [], h, _ => nomatch h
  | [_], h, _ => absurd h (by simp)
  | [p, q], _, asc => height_str hb ((List.pairwise_cons.mp asc).1 q (List.mem_cons_self ..))
  | p :: q :: r :: rest, _, asc => by
    have pq := (List.pairwise_cons.mp asc).1 q (List.mem_cons_self ..)
    have e : (b * q.1 - g < b * x - g) ↔ q.1 < x := by
      have m := mul_lt_iff (x := q.1) (y := x) hb
      constructor
      · intro h
        exact m.mp (by grind)
      · intro h
        have := m.mpr h
        grind
    by_cases d : q.1 < x
    · rw [eval_hi d]
      show evalQ ((b * p.1 - g, p.2) :: (b * q.1 - g, q.2) :: (b * r.1 - g, r.2) :: strQ b g rest) (b * x - g) = _
      rw [eval_hi (q := (b * q.1 - g, q.2)) (e.mpr d)]
      exact eval_str hb (q :: r :: rest) (by simp) (List.pairwise_cons.mp asc).2
    · rw [eval_lo d]
      show evalQ ((b * p.1 - g, p.2) :: (b * q.1 - g, q.2) :: (b * r.1 - g, r.2) :: strQ b g rest) (b * x - g) = _
      rw [eval_lo (q := (b * q.1 - g, q.2)) (fun z => d (e.mp z))]
      exact height_str hb pq
theorem str_asc {b g : Rat} {ps : List Pt} (hb : 0 < b) (h : AscQ ps) : AscQ (strQ b g ps) := by
  unfold strQ AscQ
  rw [List.pairwise_map]
  refine h.imp fun {p q} z => ?_
  show b * p.1 - g < b * q.1 - g
  have := mul_lt' hb z
  grind
theorem str_len (b g : Rat) (ps : List Pt) : (strQ b g ps).length = ps.length := List.length_map ..
theorem str_at {b g : Rat} {ps : List Pt} {i : Nat} (h : i < ps.length) : ((strQ b g ps).getD i dpt).1 = b * (ps.getD i dpt).1 - g := by
  unfold strQ
  rw [List.getD_eq_getElem?_getD, List.getElem?_map, List.getElem?_eq_getElem h, List.getD_eq_getElem?_getD, List.getElem?_eq_getElem h]
  rfl
theorem zoom_norm {b g lo hi low high : Rat} {ps : List Pt} (hb : 0 < b) (h2 : 2 ≤ ps.length) (asc : AscQ ps) (el : b * low - g = lo) (eh : b * high - g = hi) (lt : low < high) :
    normQ (cutQ (strQ b g (normQ ps)) lo hi) = normQ (strQ b g (cutQ ps low high)) := by
  have n2 := normQ_len h2
  have na := normQ_asc asc
  have lt' : lo < hi := by rw [← el, ← eh]; have := mul_lt' hb lt; grind
  have cl := cut_len ps low high
  have ca := cut_asc asc lt
  refine norm_uniq (cut_len _ lo hi).1 (by rw [str_len]; exact cl.1) (cut_asc (str_asc hb na) lt') (str_asc hb ca) ?_ ?_ fun x x1 x2 => ?_
  · rw [cut_first, str_at (by omega), cut_first, el]
  · rw [cut_last, str_len, str_at (by omega), cut_last, eh]
  · rw [cut_first] at x1
    rw [cut_last] at x2
    have b0 : b ≠ 0 := by grind
    obtain ⟨z, rfl⟩ : ∃ z, x = b * z - g := ⟨(x + g) / b, by grind⟩
    have z1 : low ≤ z := by
      rcases (by grind : low ≤ z ∨ z < low) with w | w
      · exact w
      · have := mul_lt' hb w; grind
    have z2 : z ≤ high := by
      rcases (by grind : z ≤ high ∨ high < z) with w | w
      · exact w
      · have := mul_lt' hb w; grind
    rw [eval_cut (by rw [str_len]; exact n2) (str_asc hb na) lt' x1 x2, eval_str hb _ n2 na, eval_norm z h2 asc, eval_str hb _ cl.1 ca, eval_cut h2 asc lt z1 z2]
/-- the part of an interval behind a digit -/
def zoomQ (b g e : Rat) : Rat := (1 / b) * (g + e)
theorem zoom_eq {b g e : Rat} (hb : 0 < b) : b * zoomQ b g e - g = e := by
  unfold zoomQ
  have : b ≠ 0 := by grind
  grind
theorem zoom_lt {b g e f : Rat} (hb : 0 < b) (h : e < f) : zoomQ b g e < zoomQ b g f := by
  have e1 := zoom_eq (g := g) (e := e) hb
  have e2 := zoom_eq (g := g) (e := f) hb
  rcases (by grind : zoomQ b g e < zoomQ b g f ∨ zoomQ b g f ≤ zoomQ b g e) with w | w
  · exact w
  · rcases (by grind : zoomQ b g f = zoomQ b g e ∨ zoomQ b g f < zoomQ b g e) with z | z
    · rw [z] at e2; grind
    · have := mul_lt' hb z; grind
/-- b times an end, less a digit of the set, reaches at least as far -/
theorem end_mul {d b : Int} (h2 : 2 ≤ b) : (b : Rat) * endQ d b - (d : Rat) = endQ d b := by
  unfold endQ
  have n : ((b - 1 : Int) : Rat) ≠ 0 := fun z => by have : b - 1 = 0 := by exact_mod_cast z
                                                    omega
  rw [Rat.divInt_eq_div]
  have e : ((b - 1 : Int) : Rat) = (b : Rat) - 1 := by rw [Rat.intCast_sub]; rfl
  rw [e] at n ⊢
  grind
theorem int_le {d e : Int} (h : d ≤ e) : (d : Rat) ≤ (e : Rat) := by exact_mod_cast h
theorem int_pos {d : Int} (h : 0 < d) : (0 : Rat) < (d : Rat) := by exact_mod_cast h
theorem zoom_hi {b g d : Int} (h2 : 2 ≤ b) (h : g ≤ d) : zoomQ (b : Rat) (g : Rat) (endQ d b) ≤ endQ d b := by
  have hb := int_pos (show 0 < b by omega)
  have e1 := zoom_eq (g := (g : Rat)) (e := endQ d b) hb
  have e2 := end_mul (d := d) h2
  have i := int_le h
  rcases (by grind : zoomQ (b : Rat) (g : Rat) (endQ d b) ≤ endQ d b ∨ endQ d b < zoomQ (b : Rat) (g : Rat) (endQ d b)) with w | w
  · exact w
  · have := mul_lt' hb w; grind
end Ew
namespace Ew
open PySem PySem.Spec PyProof.Rows L2
/-! ## two ascending lists as one -/
def mergeQ : List Rat → List Rat → List Rat
  | [], bs => bs
  | a :: as, [] => a :: as
  | a :: as, b :: bs => if a < b then a :: mergeQ as (b :: bs) else if a = b then b :: mergeQ as bs else b :: mergeQ (a :: as) bs
termination_by as bs => as.length + bs.length
theorem merge_nil_r (as : List Rat) : mergeQ as [] = as := by
  cases as with
  | nil => rw [mergeQ]
  | cons a as => rw [mergeQ]
theorem merge_lt {a b : Rat} {as bs : List Rat} (h : a < b) : mergeQ (a :: as) (b :: bs) = a :: mergeQ as (b :: bs) := by rw [mergeQ, if_pos h]
theorem merge_eq {b : Rat} {as bs : List Rat} : mergeQ (b :: as) (b :: bs) = b :: mergeQ as bs := by rw [mergeQ, if_neg (by grind), if_pos rfl]
theorem merge_gt {a b : Rat} {as bs : List Rat} (h : ¬ a < b) (n : a ≠ b) : mergeQ (a :: as) (b :: bs) = b :: mergeQ (a :: as) bs := by rw [mergeQ, if_neg h, if_neg n]
theorem merge_mem (x : Rat) : ∀ (as bs : List Rat), x ∈ mergeQ as bs ↔ x ∈ as ∨ x ∈ bs
  | [], bs => by rw [mergeQ]; simp
  | a :: as, [] => by rw [mergeQ]; simp
  | a :: as, b :: bs => by
    by_cases c : a < b
    · rw [merge_lt c, List.mem_cons, merge_mem x as (b :: bs)]
      simp only [List.mem_cons, or_assoc]
    · by_cases e : a = b
      · subst e
        rw [merge_eq, List.mem_cons, merge_mem x as bs]
        simp only [List.mem_cons]
        constructor
        · rintro (h | h | h)
          · exact .inl (.inl h)
          · exact .inl (.inr h)
          · exact .inr (.inr h)
        · rintro ((h | h) | (h | h))
          · exact .inl h
          · exact .inr (.inl h)
          · exact .inl h
          · exact .inr (.inr h)
      · rw [merge_gt c e, List.mem_cons, merge_mem x (a :: as) bs]
        simp only [List.mem_cons]
        constructor
        · rintro (h | (h | h) | h)
          · exact .inr (.inl h)
          · exact .inl (.inl h)
          · exact .inl (.inr h)
          · exact .inr (.inr h)
        · rintro ((h | h) | (h | h))
          · exact .inr (.inl (.inl h))
          · exact .inr (.inl (.inr h))
          · exact .inl h
          · exact .inr (.inr h)
termination_by as bs => as.length + bs.length
theorem merge_asc : ∀ (as bs : List Rat), as.Pairwise (· < ·) → bs.Pairwise (· < ·) → (mergeQ as bs).Pairwise (· < ·)
  | [], bs, _, h => by rw [mergeQ]; exact h
  | a :: as, [], h, _ => by rw [mergeQ]; exact h
  | a :: as, b :: bs, h1, h2 => by
    have p1 := List.pairwise_cons.mp h1
    have p2 := List.pairwise_cons.mp h2
    by_cases c : a < b
    · rw [merge_lt c]
      refine List.pairwise_cons.mpr ⟨fun x hx => ?_, merge_asc as (b :: bs) p1.2 h2⟩
      rcases (merge_mem x as (b :: bs)).mp hx with z | z
      · exact p1.1 x z
      · rcases List.mem_cons.mp z with rfl | z
        · exact c
        · have := p2.1 x z; grind
    · by_cases e : a = b
      · subst e
        rw [merge_eq]
        refine List.pairwise_cons.mpr ⟨fun x hx => ?_, merge_asc as bs p1.2 p2.2⟩
        rcases (merge_mem x as bs).mp hx with z | z
        · exact p1.1 x z
        · exact p2.1 x z
      · rw [merge_gt c e]
        refine List.pairwise_cons.mpr ⟨fun x hx => ?_, merge_asc (a :: as) bs h1 p2.2⟩
        rcases (merge_mem x (a :: as) bs).mp hx with z | z
        · rcases List.mem_cons.mp z with rfl | z
          · grind
          · have := p1.1 x z; grind
        · exact p2.1 x z
termination_by as bs => as.length + bs.length
theorem merge_len : ∀ (as bs : List Rat), (mergeQ as bs).length ≤ as.length + bs.length
  | [], bs => by rw [mergeQ]; simp
  | a :: as, [] => by rw [mergeQ]; simp
  | a :: as, b :: bs => by
    by_cases c : a < b
    · rw [merge_lt c]
      have := merge_len as (b :: bs)
      simp only [List.length_cons] at this ⊢
      omega
    · by_cases e : a = b
      · subst e
        rw [merge_eq]
        have := merge_len as bs
        simp only [List.length_cons] at this ⊢
        omega
      · rw [merge_gt c e]
        have := merge_len (a :: as) bs
        simp only [List.length_cons] at this ⊢
        omega
termination_by as bs => as.length + bs.length
/-! ## functions that are straight between numbers -/
theorem Lin.add {f g : Rat → Rat} {u v : Rat} (uv : u < v) (a : Lin f u v) (b : Lin g u v) : Lin (fun x => f x + g x) u v := by
  intro x x1 x2
  have e1 := a x x1 x2
  have e2 := b x x1 x2
  have : v - u ≠ 0 := by grind
  show f x + g x = f u + g u + (f v + g v - (f u + g u)) / (v - u) * (x - u)
  have e1 : f x = f u + (f v - f u) / (v - u) * (x - u) := e1
  have e2 : g x = g u + (g v - g u) / (v - u) * (x - u) := e2
  rw [e1, e2]
  grind
theorem Lin.sub {f g : Rat → Rat} {u v : Rat} (uv : u < v) (a : Lin f u v) (b : Lin g u v) : Lin (fun x => f x - g x) u v := by
  intro x x1 x2
  have e1 := a x x1 x2
  have e2 := b x x1 x2
  have : v - u ≠ 0 := by grind
  show f x - g x = f u - g u + (f v - g v - (f u - g u)) / (v - u) * (x - u)
  have e1 : f x = f u + (f v - f u) / (v - u) * (x - u) := e1
  have e2 : g x = g u + (g v - g u) / (v - u) * (x - u) := e2
  rw [e1, e2]
  grind
theorem lin_nonneg {d : Rat → Rat} {u v x : Rat} (uv : u < v) (a : Lin d u v) (x1 : u ≤ x) (x2 : x ≤ v) (h1 : 0 ≤ d u) (h2 : 0 ≤ d v) : 0 ≤ d x := by
  have e : d x = d u + (d v - d u) / (v - u) * (x - u) := a x x1 x2
  have n : v - u ≠ 0 := by grind
  have k : d x * (v - u) = d u * (v - x) + d v * (x - u) := by rw [e]; grind
  have p1 : 0 ≤ d u * (v - x) := Rat.mul_nonneg h1 (by grind)
  have p2 : 0 ≤ d v * (x - u) := Rat.mul_nonneg h2 (by grind)
  rcases (by grind : 0 ≤ d x ∨ d x < 0) with z | z
  · exact z
  · have : 0 < (0 - d x) * (v - u) := Rat.mul_pos (by grind) (by grind)
    grind
def maxR (a b : Rat) : Rat := if a < b then b else a
def minR (a b : Rat) : Rat := if b < a then b else a
theorem Lin.congr {f g : Rat → Rat} {u v : Rat} (uv : u < v) (a : Lin f u v) (h : ∀ x, u ≤ x → x ≤ v → g x = f x) : Lin g u v := by
  intro x x1 x2
  rw [h x x1 x2, h u Rat.le_refl (by grind), h v (by grind) Rat.le_refl]
  exact a x x1 x2
theorem lin_choice {f g : Rat → Rat} {u v : Rat} (uv : u < v) (a : Lin f u v) (b : Lin g u v) (n1 : ¬ (f u - g u < 0 ∧ 0 < f v - g v)) (n2 : ¬ (0 < f u - g u ∧ f v - g v < 0)) : Lin (fun x => maxR (f x) (g x)) u v ∧ Lin (fun x => minR (f x) (g x)) u v := by
  rcases (by grind : (0 ≤ f u - g u ∧ 0 ≤ f v - g v) ∨ (0 ≤ g u - f u ∧ 0 ≤ g v - f v)) with z | z
  · have nn : ∀ x, u ≤ x → x ≤ v → 0 ≤ f x - g x := fun x x1 x2 => lin_nonneg (d := fun x => f x - g x) uv (a.sub uv b) x1 x2 z.1 z.2
    refine ⟨a.congr uv fun x x1 x2 => ?_, b.congr uv fun x x1 x2 => ?_⟩
    · have := nn x x1 x2
      unfold maxR
      rw [if_neg (by grind)]
    · have := nn x x1 x2
      unfold minR
      split <;> grind
  · have nn : ∀ x, u ≤ x → x ≤ v → 0 ≤ g x - f x := fun x x1 x2 => lin_nonneg (d := fun x => g x - f x) uv (b.sub uv a) x1 x2 z.1 z.2
    refine ⟨b.congr uv fun x x1 x2 => ?_, a.congr uv fun x x1 x2 => ?_⟩
    · have := nn x x1 x2
      unfold maxR
      split <;> grind
    · have := nn x x1 x2
      unfold minR
      rw [if_neg (by grind)]
/-! ## no change of sign between -/
theorem nums_sign {D : List Pt} (d2 : 2 ≤ D.length) (da : AscQ D) {u v : Rat} (uv : u < v) (no : ∀ z ∈ numsQ (crossQ [0]) D, ¬ (u < z ∧ z < v)) (lo : (D.getD 0 dpt).1 ≤ u) (hi : v ≤ (D.getD (D.length - 1) dpt).1) : ¬ (evalQ D u < 0 ∧ 0 < evalQ D v) ∧ ¬ (0 < evalQ D u ∧ evalQ D v < 0) := by
  obtain ⟨p, q, hp, hq, hz, pq, pu, vq, ev⟩ := nums_piece (f := crossQ [0]) D u v d2 da lo uv hi fun p hp => no _ (nums_corner D p hp)
  rw [ev u Rat.le_refl (by grind), ev v (by grind) Rat.le_refl]
  have e : ∀ y, heightQ p q y = p.2 + (q.2 - p.2) / (q.1 - p.1) * (y - p.1) := fun y => rfl
  have d0 : q.1 - p.1 ≠ 0 := by grind
  by_cases c : p.2 = q.2
  · have ec : ∀ y, heightQ p q y = p.2 := fun y => by rw [e, c]; grind
    rw [ec, ec]
    constructor <;> grind
  · have inv : ∀ y, invQ p q (heightQ p q y) = y := fun y => by
      rw [inv_eq, e]
      have : q.2 - p.2 ≠ 0 := by grind
      grind
    have con : u < invQ p q 0 → invQ p q 0 < v → False := fun a b => no _ (hz _ (cross_has pq c (List.mem_singleton.mpr rfl) (by grind) (by grind))) ⟨a, b⟩
    by_cases d : p.2 < q.2
    · refine ⟨fun z => ?_, fun z => ?_⟩
      · have z1 := inv_lt_up pq d z.1
        have z2 := inv_lt_up pq d z.2
        rw [inv] at z1 z2
        exact con z1 z2
      · have z1 := inv_lt_up pq d z.1
        have z2 := inv_lt_up pq d z.2
        rw [inv] at z1 z2
        grind
    · have d' : q.2 < p.2 := by grind
      refine ⟨fun z => ?_, fun z => ?_⟩
      · have z1 := inv_lt_down pq d' z.1
        have z2 := inv_lt_down pq d' z.2
        rw [inv] at z1 z2
        grind
      · have z1 := inv_lt_down pq d' z.1
        have z2 := inv_lt_down pq d' z.2
        rw [inv] at z1 z2
        first
        | exact con z2 z1
        | exact con z1 z2
/-! ## the numbers of two functions -/
def bothQ (F G : List Pt) : List Rat := mergeQ (F.map (·.1)) (G.map (·.1))
def difQ (F G : List Pt) : List Pt := onQ (fun x => evalQ F x - evalQ G x) (bothQ F G)
def allQ (F G : List Pt) : List Rat := numsQ (crossQ [0]) (difQ F G)
section
variable {F G : List Pt} (f2 : 2 ≤ F.length) (fa : AscQ F) (g2 : 2 ≤ G.length) (ga : AscQ G) (e1 : (G.getD 0 dpt).1 = (F.getD 0 dpt).1) (e2 : (G.getD (G.length - 1) dpt).1 = (F.getD (F.length - 1) dpt).1)
include f2 fa g2 ga e1 e2
theorem both_asc : (bothQ F G).Pairwise (· < ·) := merge_asc _ _ (asc_fst.mp fa) (asc_fst.mp ga)
theorem both_bd {x : Rat} (h : x ∈ bothQ F G) : (F.getD 0 dpt).1 ≤ x ∧ x ≤ (F.getD (F.length - 1) dpt).1 := by
  rcases (merge_mem x _ _).mp h with z | z
  · obtain ⟨p, hp, rfl⟩ := List.mem_map.mp z
    exact ⟨first_le fa hp, le_last fa hp⟩
  · obtain ⟨p, hp, rfl⟩ := List.mem_map.mp z
    rw [← e1, ← e2]
    exact ⟨first_le ga hp, le_last ga hp⟩
theorem dif_first : ((difQ F G).getD 0 dpt).1 = (F.getD 0 dpt).1 := by
  refine asc_min (on_asc (both_asc f2 fa g2 ga e1 e2)) ?_ fun a ha => ?_
  · exact ⟨_, List.mem_map.mpr ⟨_, (merge_mem _ _ _).mpr (.inl (List.mem_map.mpr ⟨_, getD_memP (by omega : 0 < F.length), rfl⟩)), rfl⟩, rfl⟩
  · obtain ⟨x, hx, rfl⟩ := List.mem_map.mp ha
    exact (both_bd f2 fa g2 ga e1 e2 hx).1
theorem dif_last : ((difQ F G).getD ((difQ F G).length - 1) dpt).1 = (F.getD (F.length - 1) dpt).1 := by
  refine asc_max (on_asc (both_asc f2 fa g2 ga e1 e2)) ?_ fun a ha => ?_
  · exact ⟨_, List.mem_map.mpr ⟨_, (merge_mem _ _ _).mpr (.inl (List.mem_map.mpr ⟨_, getD_memP (by omega : F.length - 1 < F.length), rfl⟩)), rfl⟩, rfl⟩
  · obtain ⟨x, hx, rfl⟩ := List.mem_map.mp ha
    exact (both_bd f2 fa g2 ga e1 e2 hx).2
theorem dif_two : 2 ≤ (difQ F G).length := by
  have f := dif_first f2 fa g2 ga e1 e2
  have l := dif_last f2 fa g2 ga e1 e2
  have lt := asc_at fa (i := 0) (j := F.length - 1) (by omega) (by omega)
  rcases Nat.lt_or_ge (difQ F G).length 2 with c | c
  · rcases (by omega : (difQ F G).length = 0 ∨ (difQ F G).length = 1) with z | z
    · have m : F.getD 0 dpt ∈ F := getD_memP (by omega)
      have : (F.getD 0 dpt).1 ∈ bothQ F G := (merge_mem _ _ _).mpr (.inl (List.mem_map.mpr ⟨_, m, rfl⟩))
      have : 0 < (bothQ F G).length := List.length_pos_of_mem this
      have e : (difQ F G).length = (bothQ F G).length := on_len _ _
      omega
    · rw [z] at l
      rw [f] at l
      grind
  · exact c
theorem both_lin {u v : Rat} (uv : u < v) (no : ∀ z ∈ bothQ F G, ¬ (u < z ∧ z < v)) : Lin (evalQ F) u v ∧ Lin (evalQ G) u v := by
  constructor
  · intro x x1 x2
    exact eval_lin F u v x f2 fa uv (fun p hp => no _ ((merge_mem _ _ _).mpr (.inl (List.mem_map.mpr ⟨p, hp, rfl⟩)))) x1 x2
  · intro x x1 x2
    exact eval_lin G u v x g2 ga uv (fun p hp => no _ ((merge_mem _ _ _).mpr (.inr (List.mem_map.mpr ⟨p, hp, rfl⟩)))) x1 x2
theorem both_last : (bothQ F G).getLast? = some (F.getD (F.length - 1) dpt).1 := by
  have l := dif_last f2 fa g2 ga e1 e2
  have t := dif_two f2 fa g2 ga e1 e2
  have e : (difQ F G).length = (bothQ F G).length := on_len _ _
  rw [List.getLast?_eq_getElem?, ← l, e]
  unfold difQ onQ
  rw [List.getD_eq_getElem?_getD, List.getElem?_map, List.getElem?_eq_getElem (by omega : (bothQ F G).length - 1 < (bothQ F G).length)]
  rfl
theorem both_head : (bothQ F G).headD 0 = (F.getD 0 dpt).1 := by
  have f := dif_first f2 fa g2 ga e1 e2
  have t := dif_two f2 fa g2 ga e1 e2
  have e : (difQ F G).length = (bothQ F G).length := on_len _ _
  rw [← f]
  unfold difQ onQ
  match h : bothQ F G with
  | [] => rw [h] at e; rw [e] at t; exact absurd t (by simp)
  | a :: as => rfl
theorem both_eval {h : Rat → Rat} (hl : ∀ u v, u < v → Lin (evalQ F) u v → Lin (evalQ G) u v → Lin h u v) {x : Rat} (x1 : (F.getD 0 dpt).1 ≤ x) (x2 : x ≤ (F.getD (F.length - 1) dpt).1) : evalQ (onQ h (bothQ F G)) x = h x := by
  have e : (difQ F G).length = (bothQ F G).length := on_len _ _
  refine eval_glue _ _ x (by have := dif_two f2 fa g2 ga e1 e2; omega) (both_asc f2 fa g2 ga e1 e2) (fun u v _ _ uv no => ?_) (both_last f2 fa g2 ga e1 e2) (by rw [both_head f2 fa g2 ga e1 e2]; exact x1) x2
  have z := both_lin f2 fa g2 ga e1 e2 uv no
  exact hl u v uv z.1 z.2
theorem dif_eval {x : Rat} (x1 : (F.getD 0 dpt).1 ≤ x) (x2 : x ≤ (F.getD (F.length - 1) dpt).1) : evalQ (difQ F G) x = evalQ F x - evalQ G x :=
  both_eval f2 fa g2 ga e1 e2 (h := fun x => evalQ F x - evalQ G x) (fun u v uv a b => a.sub uv b) x1 x2
theorem dif_asc : AscQ (difQ F G) := on_asc (both_asc f2 fa g2 ga e1 e2)
theorem all_asc : (allQ F G).Pairwise (· < ·) := nums_asc cross_in (fun p q h => cross_asc h (List.pairwise_singleton ..)) _ (dif_asc f2 fa g2 ga e1 e2)
theorem all_both {x : Rat} (h : x ∈ bothQ F G) : x ∈ allQ F G := nums_corner (difQ F G) _ (List.mem_map.mpr ⟨x, h, rfl⟩)
theorem all_bd {x : Rat} (h : x ∈ allQ F G) : (F.getD 0 dpt).1 ≤ x ∧ x ≤ (F.getD (F.length - 1) dpt).1 := by
  have da := dif_asc f2 fa g2 ga e1 e2
  have t := dif_two f2 fa g2 ga e1 e2
  have a := nums_ge cross_in _ da x h
  have b := nums_le cross_in (fun p q h => cross_asc h (List.pairwise_singleton ..)) (by omega) da x h
  rw [dif_first f2 fa g2 ga e1 e2] at a
  rw [dif_last f2 fa g2 ga e1 e2] at b
  exact ⟨a, b⟩
theorem all_lin {u v : Rat} (hu : u ∈ allQ F G) (hv : v ∈ allQ F G) (uv : u < v) (no : ∀ z ∈ allQ F G, ¬ (u < z ∧ z < v)) : Lin (fun x => maxR (evalQ F x) (evalQ G x)) u v ∧ Lin (fun x => minR (evalQ F x) (evalQ G x)) u v := by
  have da := dif_asc f2 fa g2 ga e1 e2
  have t := dif_two f2 fa g2 ga e1 e2
  have bu := all_bd f2 fa g2 ga e1 e2 hu
  have bv := all_bd f2 fa g2 ga e1 e2 hv
  have l := both_lin f2 fa g2 ga e1 e2 uv fun z hz => no z (all_both f2 fa g2 ga e1 e2 hz)
  have s := nums_sign t da uv no (by rw [dif_first f2 fa g2 ga e1 e2]; exact bu.1) (by rw [dif_last f2 fa g2 ga e1 e2]; exact bv.2)
  rw [dif_eval f2 fa g2 ga e1 e2 bu.1 bu.2, dif_eval f2 fa g2 ga e1 e2 bv.1 bv.2] at s
  exact lin_choice uv l.1 l.2 s.1 s.2
theorem all_two : 2 ≤ (allQ F G).length := by
  have t := dif_two f2 fa g2 ga e1 e2
  unfold allQ
  match h : difQ F G with
  | [] => rw [h] at t; exact absurd t (by simp)
  | [p] => rw [h] at t; exact absurd t (by simp)
  | p :: q :: rest =>
    have : 1 ≤ (numsQ (crossQ [0]) (q :: rest)).length := List.length_pos_of_mem (nums_corner (q :: rest) q (List.mem_cons_self ..))
    show 2 ≤ (p.1 :: (_ ++ _)).length
    rw [List.length_cons, List.length_append]
    omega
theorem all_last : (allQ F G).getLast? = some (F.getD (F.length - 1) dpt).1 := by
  have t := dif_two f2 fa g2 ga e1 e2
  unfold allQ
  rw [nums_last (difQ F G) (by omega), dif_last f2 fa g2 ga e1 e2]
theorem all_head : (allQ F G).headD 0 = (F.getD 0 dpt).1 := by
  have t := dif_two f2 fa g2 ga e1 e2
  rw [← dif_first f2 fa g2 ga e1 e2]
  unfold allQ
  match h : difQ F G with
  | [] => rw [h] at t; exact absurd t (by simp)
  | [p] => rfl
  | p :: q :: rest => rfl
theorem all_eval {h : Rat → Rat} (hl : ∀ u v, u < v → Lin (fun x => maxR (evalQ F x) (evalQ G x)) u v → Lin (fun x => minR (evalQ F x) (evalQ G x)) u v → Lin h u v) {x : Rat} (x1 : (F.getD 0 dpt).1 ≤ x) (x2 : x ≤ (F.getD (F.length - 1) dpt).1) : evalQ (onQ h (allQ F G)) x = h x := by
  refine eval_glue _ _ x (all_two f2 fa g2 ga e1 e2) (all_asc f2 fa g2 ga e1 e2) (fun u v hu hv uv no => ?_) (all_last f2 fa g2 ga e1 e2) (by rw [all_head f2 fa g2 ga e1 e2]; exact x1) x2
  have z := all_lin f2 fa g2 ga e1 e2 hu hv uv no
  exact hl u v uv z.1 z.2
end
/-! ## one crossing -/
theorem cross_zero {p q : Pt} : crossQ [0] p q = if 0 ≤ p.2.num * q.2.num then [] else [invQ p q 0] := by
  have sp : (0 < p.2.num ↔ 0 < p.2) := num_pos
  have sq : (0 < q.2.num ↔ 0 < q.2) := num_pos
  have np : (p.2.num < 0 ↔ p.2 < 0) := by rw [Rat.lt_iff]; simp
  have nq : (q.2.num < 0 ↔ q.2 < 0) := by rw [Rat.lt_iff]; simp
  unfold crossQ
  by_cases c : 0 ≤ p.2.num * q.2.num
  · rw [if_pos c]
    have no : ¬ (p.2 < 0 ∧ 0 < q.2) ∧ ¬ (q.2 < 0 ∧ 0 < p.2) := by
      constructor
      · rintro ⟨a, b⟩
        have := Int.mul_neg_of_neg_of_pos (np.mpr a) (sq.mpr b)
        omega
      · rintro ⟨a, b⟩
        have := Int.mul_neg_of_pos_of_neg (sp.mpr b) (nq.mpr a)
        omega
    by_cases d : p.2 < q.2
    · rw [if_pos d, List.filter_cons, if_neg (by simp; grind)]
      rfl
    · rw [if_neg d]
      show (List.filter _ [0]).map _ = []
      rw [List.filter_cons, if_neg (by simp; grind)]
      rfl
  · rw [if_neg c]
    have yes : (p.2 < 0 ∧ 0 < q.2) ∨ (q.2 < 0 ∧ 0 < p.2) := by
      rcases (by omega : p.2.num < 0 ∨ p.2.num = 0 ∨ 0 < p.2.num) with a | a | a
      · rcases (by omega : q.2.num < 0 ∨ q.2.num = 0 ∨ 0 < q.2.num) with b | b | b
        · have := Int.mul_pos_of_neg_of_neg a b; omega
        · rw [b, Int.mul_zero] at c; omega
        · exact .inl ⟨np.mp a, sq.mp b⟩
      · rw [a, Int.zero_mul] at c; omega
      · rcases (by omega : q.2.num < 0 ∨ q.2.num = 0 ∨ 0 < q.2.num) with b | b | b
        · exact .inr ⟨nq.mp b, sp.mp a⟩
        · rw [b, Int.mul_zero] at c; omega
        · have := Int.mul_pos a b; omega
    rcases yes with y | y
    · rw [if_pos (by grind), List.filter_cons, if_pos (by simp [y.1, y.2])]
      rfl
    · rw [if_neg (by grind)]
      show (List.filter _ [0]).map _ = _
      rw [List.filter_cons, if_pos (by simp [y.1, y.2])]
      rfl
end Ew
namespace Ew
open PySem PySem.Spec PyProof.Rows L2
/-! ## rows of two functions -/
abbrev Rw := Rat × Rat × Rat
def drw : Rw := (0, 0, 0)
def RowAt (H : Hp) (v : V) (r : Rw) : Prop := ∃ (t : Addr) (a b c : V), v = .ref t ∧ H t = some (.tup [a, b, c]) ∧ QAt H a r.1 ∧ QAt H b r.2.1 ∧ QAt H c r.2.2
theorem RowAt.kp {H G : Hp} {v : V} {r : Rw} (h : RowAt H v r) (k : Kp H G) : RowAt G v r := by
  obtain ⟨t, a, b, c, rfl, ht, ha, hb, hc⟩ := h
  exact ⟨t, a, b, c, rfl, k.t ht, ha.kp k, hb.kp k, hc.kp k⟩
theorem rows_kp {H G : Hp} (k : Kp H G) : ∀ {ws : List V} {rs : List Rw}, All2 (RowAt H) ws rs → All2 (RowAt G) ws rs := fun h => h.imp fun _ _ z => z.kp k
def rwQ (f g : Rat → Rat) (x : Rat) : Rw := (x, f x, g x)
def rowsQ (f g : Rat → Rat) (xs : List Rat) : List Rw := xs.map (rwQ f g)
def crsX (l r : Rw) : Rat := invQ (l.1, l.2.1 - l.2.2) (r.1, r.2.1 - r.2.2) 0
def crsY (l r : Rw) : Rat := heightQ (l.1, l.2.1) (r.1, r.2.1) (crsX l r)
def crsR (l r : Rw) : List Rw := if 0 ≤ (l.2.1 - l.2.2).num * (r.2.1 - r.2.2).num then [] else [(crsX l r, crsY l r, crsY l r)]
def withR : List Rw → List Rw
  | l :: r :: rest => l :: (crsR l r ++ withR (r :: rest))
  | [l] => [l]
  | [] => []
theorem crs_row {f g : Rat → Rat} {u v : Rat} (uv : u < v) (a : Lin f u v) (b : Lin g u v) : crsR (rwQ f g u) (rwQ f g v) = rowsQ f g (crossQ [0] (u, f u - g u) (v, f v - g v)) := by
  rw [cross_zero]
  unfold crsR
  show (if 0 ≤ (f u - g u).num * (f v - g v).num then [] else _) = rowsQ f g (if 0 ≤ (f u - g u).num * (f v - g v).num then [] else [invQ (u, f u - g u) (v, f v - g v) 0])
  by_cases c : 0 ≤ (f u - g u).num * (f v - g v).num
  · rw [if_pos c, if_pos c]; rfl
  · rw [if_neg c, if_neg c]
    have m : invQ (u, f u - g u) (v, f v - g v) 0 ∈ crossQ [0] (u, f u - g u) (v, f v - g v) := by
      rw [cross_zero]
      show _ ∈ (if 0 ≤ (f u - g u).num * (f v - g v).num then [] else [invQ (u, f u - g u) (v, f v - g v) 0])
      rw [if_neg c]
      exact List.mem_singleton.mpr rfl
    obtain ⟨z, hz, e, n, l, r⟩ := cross_mem (p := (u, f u - g u)) (q := (v, f v - g v)) uv m
    have n : f u - g u ≠ f v - g v := n
    have l : u < invQ (u, f u - g u) (v, f v - g v) 0 := l
    have r : invQ (u, f u - g u) (v, f v - g v) 0 < v := r
    have bk := inv_back (p := (u, f u - g u)) (q := (v, f v - g v)) (c := 0) uv n
    show [(invQ (u, f u - g u) (v, f v - g v) 0, heightQ (u, f u) (v, f v) (invQ (u, f u - g u) (v, f v - g v) 0), heightQ (u, f u) (v, f v) (invQ (u, f u - g u) (v, f v - g v) 0))] = [(invQ (u, f u - g u) (v, f v - g v) 0, f (invQ (u, f u - g u) (v, f v - g v) 0), g (invQ (u, f u - g u) (v, f v - g v) 0))]
    generalize invQ (u, f u - g u) (v, f v - g v) 0 = x at l r bk
    have ef := a x (by grind) (by grind)
    have eg := b x (by grind) (by grind)
    have d : v - u ≠ 0 := by grind
    have bk : f u - g u + (f v - g v - (f u - g u)) / (v - u) * (x - u) = 0 := bk
    have ef' : f x = f u + (f v - f u) / (v - u) * (x - u) := ef
    have eg' : g x = g u + (g v - g u) / (v - u) * (x - u) := eg
    have fg : f x = g x := by rw [ef', eg']; grind
    rw [← ef, ← fg]
theorem with_rows {f g : Rat → Rat} : ∀ (pre xs : List Rat), (∀ u v, u < v → (∀ z ∈ pre ++ xs, ¬ (u < z ∧ z < v)) → Lin f u v ∧ Lin g u v) → (pre ++ xs).Pairwise (· < ·) → withR (rowsQ f g xs) = rowsQ f g (numsQ (crossQ [0]) (onQ (fun x => f x - g x) xs))
  | _, [], _, _ => rfl
  | _, [x], _, _ => rfl
  | pre, x :: y :: rest, lin, asc => by
    have e : pre ++ x :: y :: rest = (pre ++ [x]) ++ (y :: rest) := by simp
    have p := List.pairwise_append.mp asc
    have p2 := List.pairwise_cons.mp p.2.1
    have p3 := List.pairwise_cons.mp p2.2
    have xy := p2.1 y (by simp)
    have ih := with_rows (f := f) (g := g) (pre ++ [x]) (y :: rest) (by rw [← e]; exact lin) (by rw [← e]; exact asc)
    have L := lin x y xy fun z hz => by
      rcases List.mem_append.mp hz with h | h
      · have := p.2.2 z h x (by simp)
        grind
      · rcases List.mem_cons.mp h with rfl | h
        · grind
        · rcases List.mem_cons.mp h with rfl | h
          · grind
          · have := p3.1 z h
            grind
    show rwQ f g x :: (crsR (rwQ f g x) (rwQ f g y) ++ withR (rowsQ f g (y :: rest))) = rwQ f g x :: rowsQ f g (crossQ [0] (x, f x - g x) (y, f y - g y) ++ numsQ (crossQ [0]) (onQ (fun x => f x - g x) (y :: rest)))
    rw [ih, crs_row xy L.1 L.2]
    unfold rowsQ
    rw [List.map_append]
theorem with_all {F G : List Pt} (f2 : 2 ≤ F.length) (fa : AscQ F) (g2 : 2 ≤ G.length) (ga : AscQ G) (e1 : (G.getD 0 dpt).1 = (F.getD 0 dpt).1) (e2 : (G.getD (G.length - 1) dpt).1 = (F.getD (F.length - 1) dpt).1) : withR (rowsQ (evalQ F) (evalQ G) (bothQ F G)) = rowsQ (evalQ F) (evalQ G) (allQ F G) :=
  with_rows [] (bothQ F G) (fun u v uv no => both_lin f2 fa g2 ga e1 e2 uv no) (both_asc f2 fa g2 ga e1 e2)
theorem withR_drop {rs : List Rw} {i : Nat} (h : i + 1 < rs.length) : withR (rs.drop i) = rs.getD i drw :: (crsR (rs.getD i drw) (rs.getD (i + 1) drw) ++ withR (rs.drop (i + 1))) := by
  rw [List.drop_eq_getElem_cons (by omega : i < rs.length), List.drop_eq_getElem_cons h]
  show _ :: _ = _
  rw [List.getD_eq_getElem?_getD, List.getElem?_eq_getElem (by omega : i < rs.length), List.getD_eq_getElem?_getD, List.getElem?_eq_getElem h]
  rfl
theorem withR_last {rs : List Rw} {i : Nat} (h : i + 1 = rs.length) : withR (rs.drop i) = [rs.getD i drw] := by
  rw [List.drop_eq_getElem_cons (by omega : i < rs.length), List.drop_of_length_le (by omega), List.getD_eq_getElem?_getD, List.getElem?_eq_getElem (by omega : i < rs.length)]
  rfl
theorem withR_len : ∀ (rs : List Rw), (withR rs).length ≤ rs.length + rs.length
  | [] => by simp [withR]
  | [l] => by simp [withR]
  | l :: r :: rest => by
    have := withR_len (r :: rest)
    have c : (crsR l r).length ≤ 1 := by unfold crsR; split <;> simp
    show (l :: (crsR l r ++ withR (r :: rest))).length ≤ _
    simp only [List.length_cons, List.length_append] at this ⊢
    omega
theorem withR_head : ∀ (rs : List Rw), 1 ≤ rs.length → withR rs = rs.getD 0 drw :: (withR rs).tail
  | [], h => nomatch h
  | [l], _ => rfl
  | l :: r :: rest, _ => rfl
/-- the sizes of a crossing -/
theorem crsX_sz {n m : Nat} {l r : Rw} (l1 : Sz n l.1) (l2 : Sz m l.2.1) (l3 : Sz m l.2.2) (r1 : Sz n r.1) (r2 : Sz m r.2.1) (r3 : Sz m r.2.2) (h : l.2.1 - l.2.2 ≠ r.2.1 - r.2.2) : Sz (n + (n + n + 1 + (m + m + 1 + (m + m + 1) + 1) + (1 + (m + m + 1) + 1)) + 1) (crsX l r) := by
  have e : crsX l r = l.1 + (r.1 - l.1) / (r.2.1 - r.2.2 - (l.2.1 - l.2.2)) * (0 - (l.2.1 - l.2.2)) := rfl
  rw [e]
  have z0 : Sz 1 0 := ⟨by decide, by decide⟩
  exact l1.add (((r1.sub l1).div ((r2.sub r3).sub (l2.sub l3)) (by grind)).mul (z0.sub (l2.sub l3)))
theorem all_len {F G : List Pt} : (allQ F G).length ≤ (F.length + G.length) + (F.length + G.length) := by
  have := nums_len (f := crossQ [0]) (cross_len [0]) (difQ F G)
  have e : (difQ F G).length = (bothQ F G).length := on_len _ _
  have m := merge_len (F.map (·.1)) (G.map (·.1))
  rw [List.length_map, List.length_map] at m
  have m : (bothQ F G).length ≤ F.length + G.length := m
  have this : (allQ F G).length ≤ (difQ F G).length * 2 := this
  omega
end Ew
namespace Ew
open PySem PySem.Spec PyProof.Rows L2 PySem.W LamX
/-! ## a lambda whose own name is one of the def's names, too: its slot is hidden -/
structure LamM (N : List Str) (s0 sc : Scope) (μ : L2.St → L2.St) : Prop where
  kind : sc.kind = .function
  co : sc.isCoroutine = false
  gen : sc.isGenerator = false
  own : ∀ y ∈ sc.names, y.2 ≠ .cell
  free : ∀ y ∈ sc.names, y.2 = .free → s0.names.lookup y.1 = some .cell ∨ s0.names.lookup y.1 = some .free
  len : ∀ σ : L2.St, (μ σ).length = σ.length
  msk : ∀ (σ : L2.St) (i : Nat) (v : V), (μ σ)[i]? = some (some v) → σ[i]? = some (some v) ∧ ∀ y, N[i]? = some y → sc.names.lookup y ≠ some .local
def hide (n : Nat) (σ : L2.St) : L2.St := σ.set n none
def lamMB (N : List Str) (s0 sc : Scope) (n : Nat) : Bool :=
  decide (sc.kind = .function) && (!sc.isCoroutine && (!sc.isGenerator && ((sc.names.all fun y => (!decide (y.2 = .cell)) && (!decide (y.2 = .free) || (decide (s0.names.lookup y.1 = some .cell) || decide (s0.names.lookup y.1 = some .free)))) && (List.range N.length).all fun i => decide (i = n) || !decide (sc.names.lookup (N.getD i "") = some .local))))
theorem lamM_by {N : List Str} {s0 sc : Scope} {n : Nat} (h : lamMB N s0 sc n = true) : LamM N s0 sc (hide n) := by
  unfold lamMB at h
  simp only [Bool.and_eq_true, Bool.or_eq_true, Bool.not_eq_true', decide_eq_true_eq, decide_eq_false_iff_not, List.all_eq_true] at h
  obtain ⟨a1, a2, a3, a4, a5⟩ := h
  refine ⟨a1, a2, a3, fun y hy => (a4 y hy).1, fun y hy e => ?_, fun σ => List.length_set .., fun σ i v e => ?_⟩
  · rcases (a4 y hy).2 with z | z
    · exact absurd e z
    · exact z
  · unfold hide at e
    by_cases c : n = i
    · subst c
      rw [List.getElem?_set] at e
      simp at e
    · rw [List.getElem?_set_ne c] at e
      refine ⟨e, fun y hy z => ?_⟩
      have hi : i < N.length := (List.getElem?_eq_some_iff.mp hy).1
      rcases a5 i (List.mem_range.mpr hi) with w | w
      · exact c w.symm
      · rw [List.getD_eq_getElem?_getD, hy] at w
        exact w z
section
variable {X : Cx} {pins : List (Addr × Obj)} {σ : L2.St} {H HZ : Hp} {s s1 : Shared}
theorem LamM.has {N : List Str} {sc : Scope} {μ : L2.St → L2.St} (L : LamM N X.env.scope sc μ) (ok : X.Ok) : ∀ y ∈ sc.names, y.2 = .free → ∃ c, X.env.cells.lookup y.1 = some c := fun y hy e => (L.free y hy e).elim (fun k => ok.has _ (.inl k)) (fun k => ok.has _ (.inr k))
theorem lam_startM {A : Around} {outer : List Env} {E : XK} {sc : Scope} {μ : L2.St → L2.St} {f c' : Addr} {g : Heap} {tk : Nat} {bs : List (Str × Value)} (I : Inv X pins σ H s) (L : LamM X.N X.env.scope sc μ) (e0 : Env0 X.prog X.w X.K X.mg X.base A outer s1 HZ) (hd : A.handled = none)
    (un : Un (frs X.stack) [] H HZ s.heap s1.heap) (hns : g.Ns s1.heap.objs.size fun y => bs.reverse.lookup y) (kp : ∀ b o, s1.heap.get? b = some o → g.get? b = some o) :
    Inv (lamCx X A outer s1 HZ E sc f c') [] (μ σ) HZ { s1 with heap := g, toks := tk } := by
  have hfree := L.has I.ok
  have cm : ∀ {y c}, (cloFrom X.env.cells sc.names []).lookup y = some c → X.env.cells.lookup y = some c := fun {y c} e => by
    rcases cloFrom_mem (PySem.mem_of_lookup e) with hm | ⟨h1, h2⟩
    · cases hm
    · obtain ⟨c1, hc⟩ := hfree _ h1 rfl
      have hc : X.env.cells.lookup y = some c1 := hc
      have e2 : c = c1 := by rw [h2, hc] <;> rfl
      rw [e2]; exact hc
  have look : ∀ {y}, sc.names.lookup y = some .free → ∃ c, (cloFrom X.env.cells sc.names []).lookup y = some c := fun {y} hl => mem_lookup (cloFrom_has (cells := X.env.cells) (acc := []) (PySem.mem_of_lookup hl))
  have cellK : ∀ {c : Addr} {v : Option Value}, H c = none → s.heap.IsCell c v → g.IsCell c v := fun {c v} n ⟨o, ho, hd⟩ => by
    obtain ⟨sl, q⟩ := un.any ho n (by simp)
    exact ⟨_, kp _ _ q, hd⟩
  have noA : ∀ b : Addr, b ∉ (lamCx X A outer s1 HZ E sc f c').ex := fun b z => absurd (show b ∈ ([] : List Addr) from z) (by simp)
  refine ⟨⟨e0.mod, L.kind, rfl, rfl, Nat.le_refl _, fun y z c e1 e2 => I.ok.inj y z c (cm e1) (cm e2), fun y hy => ?_, fun y c z _ => ?_, fun _ => hd, Around.frames_deeper e0.frames, .inr ⟨rfl, rfl⟩, fun b z => absurd z (noA b), e0.bs, e0.bsz, fun b _ _ => noA b,
      fun b z => absurd z (noA b), e0.funs, e0.frf⟩,
    rfl, e0.bare, Un.kept kp, ⟨_, hns, fun i y v e1 e2 e3 => ?_⟩, fun y c e => ?_, e0.hok.fresh (Nat.le_refl _), fun y c e => ?_, fun q hq => absurd (show q ∈ ([] : List (Addr × Obj)) ++ [] from hq) (by simp), e0.hok.kept kp, (L.len σ).trans I.len⟩
  · have hy : sc.names.lookup y = some .cell ∨ sc.names.lookup y = some .free := hy
    rcases hy with hy | hy
    · exact absurd rfl (L.own _ (PySem.mem_of_lookup hy))
    · exact look hy
  · have z : false = true := z
    cases z
  · have e3 : Vis sc y := e3
    rcases e3 with k | k | k
    · exact absurd k ((L.msk σ i v e2).2 y e1)
    · exact absurd rfl (L.own _ (PySem.mem_of_lookup k))
    · obtain ⟨m, hn, hl⟩ := I.loc
      have hvis : Vis X.env.scope y := (L.free _ (PySem.mem_of_lookup k) rfl).elim (fun k => .inr (.inl k)) (fun k => .inr (.inr k))
      obtain ⟨w', r, q⟩ := hl i y v e1 (L.msk σ i v e2).1 hvis
      obtain ⟨c2, h2⟩ := look k
      refine ⟨w', r, .inr ⟨.inr k, c2, h2, ?_⟩⟩
      have c1 := cm h2
      rcases q with ⟨k', _⟩ | ⟨_, c3, e', z⟩
      · have k' : X.env.scope.names.lookup y = some .local := k'
        rcases L.free _ (PySem.mem_of_lookup k) rfl with k2 | k2 <;> rw [show X.env.scope.names.lookup y = _ from k2] at k' <;> cases k'
      · rw [c1] at e'; cases e'; exact cellK (I.freeC y _ c1) z
  · obtain ⟨w', z⟩ := I.cell y c (cm e)
    exact ⟨w', cellK (I.freeC y c (cm e)) z⟩
  · obtain ⟨v, o, ho, hd⟩ := I.cell y c (cm e)
    exact un.free c o ho (I.freeC y c (cm e)) (by simp)
/-- a(), in a def that has the lambda, however it came there -/
theorem pe_actM {CXg : CXT} {Eg : XK} {Ng : List Str} {qg : Str} {sg : Scope} {g f c' : Addr} {cdg dV pm ctv : Value} {pr : Arguments} {bd : Expr} {sc : Scope} {μ : L2.St → L2.St} {k i : Nat} {a : Str} {pn : List (Addr × Obj)} {xe : Value → Shared → Prop} {W : WX} {E : XK} {tb : TE} {p1 p2 : Pos}
    {AY : Around} {stY : List Env} {sY : Shared} {HY : Hp} {Kd : Shared → Hp → Value → Prop}
    (I : Inv X pins σ H s) (L : LamM X.N X.env.scope sc μ) (hf : s.heap.get? f = some (lamObj (X.env.qual ++ "<lambda>") pr bd sc (cloFrom X.env.cells sc.names []) dV pm (.ref c') ctv)) (hfn : H f = none) (hfr : f ∉ frs X.stack) (hK : Kd s H dV) (hB : HB X pr bd sc Kd)
    (tk : Takes ((cxOf CXg X.prog X.w X.K X.mg X.base Ng qg sg g cdg AY stY sY HY Eg).tr pn xe) W) (hW : ∀ cls d σ' H', E cls d H' → W cls d σ' H') (hr : Room (k + 1) (AY.deeper (envOfC qg sg sY.heap.objs.size g cdg)))
    (hun : ∀ (pz : List (Addr × Obj)) (sz : Shared) (τ : L2.St) (HZ : Hp), Inv ((cxOf CXg X.prog X.w X.K X.mg X.base Ng qg sg g cdg AY stY sY HY Eg).tr pn xe) pz τ HZ sz → Un (frs X.stack) [] H HZ s.heap sz.heap)
    (hbody : ∀ (A : Around) (outer : List Env) (s : Shared) (H : Hp), Room k (A.deeper (lamEnv X sc s.heap.objs.size f c')) → PE (lamCx X A outer s H E sc f c') bd tb)
    (hN : Ng[i]? = some a) (hv : Vis sg a) (hd : (a == ("__debug__" : Str)) = false := by decide) (hcd : (a == ("__classdict__" : Str)) = false := by decide) :
    PE ((cxOf CXg X.prog X.w X.K X.mg X.base Ng qg sg g cdg AY stY sY HY Eg).tr pn xe) (.Call (.Name a p1) [] [] p2)
      (fun τ HZ Q => τ[i]? = some (some (.ref f)) ∧ HZ c' = some (CodeO c' (X.env.qual ++ "<lambda>")) ∧ tb (μ σ) HZ Q) := by
  obtain ⟨bs, hbl, hbt⟩ := hB (X.env.qual ++ "<lambda>") (cloFrom X.env.cells sc.names []) pm (.ref c') ctv dV s H hK
  refine ⟨fun pz sz τ HZ Q IZ h => ?_⟩
  obtain ⟨hs, hc, ht⟩ := h
  refine wpAny_Call_Name_kw (thn ((pe_var (pos := p1) (i := i) hN hv hd hcd).run pz sz τ HZ (fun v H1 => v = .ref f ∧ H1 = HZ) IZ ⟨.ref f, hs, rfl, rfl⟩) fun u s1 ⟨v, H1, I1, r1, q1⟩ => ?_)
  obtain ⟨ev, eH⟩ := q1
  subst ev; rw [eH] at I1
  obtain rfl : u = Value.ref f := r1
  have un := hun _ _ _ _ I1
  have of1 := un.keep f _ hf hfn hfr (by simp)
  refine PySem.W.callWith_F0 ⟨_, _, _, _, of1⟩ ?_
  obtain ⟨⟨oc, vs, t, y1, y2, y3⟩, _, _⟩ := I1.hok c' _ hc
  have rc : codeAny (model X.prog X.w) (AY.deeper (envOfC qg sg sY.heap.objs.size g cdg)) (.call (.ref f) ⟨[], []⟩) (CR (L2.CX X.prog X.w) (envOfC qg sg sY.heap.objs.size g cdg :: stY) X.prog X.w HZ s1 Q E) s1 := by
    refine PySem.W.kla_callFunE hr.depth of1 rfl L.co L.gen rfl ⟨c', oc, vs, t, rfl, y1, y2, y3⟩ (hbt s1 HZ un _ _ _ _ ?_)
    refine wpAny_newFunctionEnv (fun y hy => L.own y hy) hbl (fun g1 hns hsb => ⟨I1.nolimit.fresh _ hsb, ?_⟩) L.kind
    show codeAny _ _ (.expr bd (lamEnv X sc s1.heap.objs.size f c')) _ _
    have kp : ∀ b o, s1.heap.get? b = some o → g1.get? b = some o := fun b o e => hsb.extBut b o (Nat.ne_of_lt (Heap.lt_size e)) (Heap.get?_push_of_some _ e)
    have J : Inv (lamCx X (AY.deeper (envOfC qg sg sY.heap.objs.size g cdg)) (envOfC qg sg sY.heap.objs.size g cdg :: stY) s1 HZ E sc f c') [] (μ σ) HZ { s1 with heap := g1, toks := s1.toks + bs.length } := lam_startM I L I1.env0 hr.hd un hns kp
    refine PySem.W.kla_codeExpr (wpAny_mono ((hbody _ _ s1 HZ (hr.deeper _)).run [] _ _ HZ Q J ht) (fun v s' hq => ?_) fun e s' hq => hq)
    obtain ⟨w', H', J', rv, q⟩ := hq
    exact ⟨w', H', J'.os, J'.bare, J'.base, J'.hok, rv, q⟩
  have hx : Passes (L2.CX X.prog X.w) ((cxOf CXg X.prog X.w X.K X.mg X.base Ng qg sg g cdg AY stY sY HY Eg).tr pn xe) E := passes_call tk hW
  refine wpAny_call (codeAny_mono rc fun r s' hq => ?_)
  cases r with
  | error e => exact hx pz τ HZ s1 e s' I1 hq
  | ok fl =>
    cases fl with
    | ret u => exact I1.after hq
    | next => exact False.elim hq
    | brk => exact False.elim hq
    | cont => exact False.elim hq
end
section
variable {X : Cx}
/-- x(lambda a=d: body), the default or not -/
theorem pe_lamM {T : List (Addr × Str)} {TT : (XK → Hp → VK → Prop) → Hp → VK → Prop} {x a : Str} {g c P : Addr} {k : Nat} {bg : List Stmt} {sg : Scope} {cdv : Value} {Ng : List Str} {pr : Arguments} {bd : Expr} {sc : Scope} {μ : L2.St → L2.St} {t : XK → TE} {p lpos pos : Pos} {Kd : Shared → Hp → Value → Prop}
    (hg : Gl X x) (S : GetsL X.K X.mg x a g Ng sg bg cdv) (hG : GivesTo X Ng x sg g cdv bg a (X.env.qual ++ "<lambda>") TT)
    (TB : TabB X.base X.mg c P) (hcode : X.env.code = .ref c) (hmT : (P, X.env.qual ++ "<lambda>") ∈ T) (hu : ∀ p ∈ T, p.1 = P → p.2 = X.env.qual ++ "<lambda>") (hr : Room (k + 2) X.A) (L : LamM X.N X.env.scope sc μ) (D : DefK X pr Kd) (hB : HB X pr bd sc Kd)
    (hbody : ∀ (A : Around) (outer : List Env) (s : Shared) (H : Hp) (E : XK) (f c' : Addr), Room k (A.deeper (lamEnv X sc s.heap.objs.size f c')) → PE (lamCx X A outer s H E sc f c') bd (t E))
    (hdb : (x == ("__debug__" : Str)) = false := by decide) (hd : (a == ("__debug__" : Str)) = false := by decide) (hcd : (a == ("__classdict__" : Str)) = false := by decide) :
    PE X (.Call (.Name x p) [.Lambda pr bd sc lpos] [] pos) (tLam T TT (fun E σ => t E (μ σ))) := by
  obtain ⟨pg, dV, kV, doc, pm, ct, oc, an, od, osl, lk, hb⟩ := S.lk
  refine ⟨fun pins s σ H Q I h => ?_⟩
  obtain ⟨hT, h⟩ := h
  refine wpAny_Call_Name_kw (ld_glob I hg S.m (PySem.W.callWith_K (h₀ := X.base) I.ok.mod.kin S.k ?_ (by rfl) (by rfl)) hdb)
  show wpAny _ _ (spliced ((false, eval (.Lambda pr bd sc lpos) X.env) :: backTo pos (starEach [] X.env))) _ _ s
  refine Calls.spliced_cons (lam_makeG I TB hcode hmT hu hT D (L.has I.ok) fun f c' dV' pm' ctv H1 s' I1 eN T1 hK hf hfn hfr hco => Calls.spliced_nil ⟨I1.kIn, ?_⟩)
  have rc : codeAny (model X.prog X.w) X.A (.call (.ref g) ⟨[.ref f], []⟩) (CR C8.CX0 X.stack X.prog X.w H1 s' Q C8.E0) s' := by
    refine run_ofS (N := Ng) (ps := [a]) (us := [.ref f]) (vs := [.ref f]) lk S.c S.s hr I1.env0 (hb s' [.ref f] I1.kIn rfl) (.cons rfl .nil) rfl fun hr' => ?_
    obtain ⟨t', ht', hq'⟩ := hG f c' s' H1 Q (fun E H' Q' => t E (μ σ) H' Q') (fun W pn xe E p1 p2 tk hW => pe_actM (i := 0) I1 L hf hfn hfr hK hB tk hW hr' (fun _ _ _ _ IZ => IZ.base) (fun A outer s H hr2 => hbody A outer s H E f c' hr2) S.n S.v hd hcd) hco (h H1 eN T1)
    exact ⟨t', ht'.nox, hq'⟩
  refine wpAny_call (codeAny_mono rc fun r s2 hq => ?_)
  cases r with
  | error e => exact (show False from hq).elim
  | ok fl =>
    cases fl with
    | ret u => exact I1.after hq
    | next => exact False.elim hq
    | brk => exact False.elim hq
    | cont => exact False.elim hq
end
end Ew
namespace Ew
open PySem PySem.Spec PyProof.Rows L2
/-! ## what is left of a function after some digits were read and some were written -/
structure Rem (F : List Pt) (lo hi be rho ga de : Rat) (G : List Pt) : Prop where
  two : 2 ≤ G.length
  max : G.length ≤ F.length
  asc : AscQ G
  fst : (G.getD 0 dpt).1 = lo
  lst : (G.getD (G.length - 1) dpt).1 = hi
  nf : normQ G = G
  ev : ∀ z, lo ≤ z → z ≤ hi → evalQ G z = ga * evalQ F ((rho + z) / be) - de
  sx : ∀ p ∈ G, p.1 = lo ∨ p.1 = hi ∨ ∃ f ∈ F, p.1 = be * f.1 - rho
theorem ends_split {G : List Pt} (h : 2 ≤ G.length) : ∃ a m l, G = a :: (m ++ [l]) ∧ G.getD 0 dpt = a ∧ G.getD (G.length - 1) dpt = l := by
  match G, h with
  | a :: b :: rest, _ =>
    rcases List.eq_nil_or_concat (b :: rest) with z | ⟨m, l, z⟩
    · cases z
    · rw [List.concat_eq_append] at z
      refine ⟨a, m, l, by rw [z], rfl, ?_⟩
      rw [z]
      simp
theorem cut_len2 {ps : List Pt} {lo hi : Rat} (h2 : 2 ≤ ps.length) (h1 : (ps.getD 0 dpt).1 ≤ lo) (h3 : hi ≤ (ps.getD (ps.length - 1) dpt).1) : (cutQ ps lo hi).length ≤ ps.length := by
  obtain ⟨a, m, l, e, ea, el⟩ := ends_split h2
  rw [ea] at h1
  rw [el] at h3
  unfold cutQ
  have f1 : ps.filter (fun p => decide (lo < p.1) && decide (p.1 < hi)) = m.filter (fun p => decide (lo < p.1) && decide (p.1 < hi)) := by
    rw [e, List.filter_cons, if_neg (by simp; grind), List.filter_append, List.filter_cons, if_neg (by simp; grind)]
    simp
  rw [f1, e]
  have := (List.filter_sublist (p := fun p : Pt => decide (lo < p.1) && decide (p.1 < hi)) (l := m)).length_le
  simp only [List.length_cons, List.length_append, List.length_nil]
  omega
theorem Rem.start {F : List Pt} {lo hi : Rat} (h2 : 2 ≤ F.length) (asc : AscQ F) (nf : normQ F = F) (f1 : (F.getD 0 dpt).1 = lo) (f2 : (F.getD (F.length - 1) dpt).1 = hi) : Rem F lo hi 1 0 1 0 F :=
  ⟨h2, Nat.le_refl _, asc, f1, f2, nf, fun z _ _ => by rw [show (0 + z) / 1 = z by grind]; grind, fun p hp => .inr (.inr ⟨p, hp, by grind⟩)⟩
theorem Rem.write {F G : List Pt} {lo hi be rho ga de b g : Rat} (R : Rem F lo hi be rho ga de G) : Rem F lo hi be rho (b * ga) (de * b + g) (normQ (liftQ b g G)) := by
  have l := lift_len b g G
  have a := lift_asc (b := b) (g := g) R.asc
  have t := R.two
  have mx := R.max
  have nl := normQ_len_le (liftQ b g G)
  refine ⟨normQ_len (by omega), by omega, normQ_asc a, ?_, ?_, norm_idem (by omega) a, fun z z1 z2 => ?_, fun p hp => ?_⟩
  · rw [normQ_first (by omega), lift_at (by omega)]; exact R.fst
  · rw [normQ_last (by omega), l, lift_at (by omega)]; exact R.lst
  · rw [eval_norm z (by omega) a, eval_lift G R.two R.asc, R.ev z z1 z2]
    grind
  · obtain ⟨p', hp', rfl⟩ := List.mem_map.mp ((normQ_sub _).subset hp)
    exact R.sx p' hp'
theorem Rem.read {F G : List Pt} {lo hi be rho ga de b g : Rat} (hb : 0 < b) (hbe : 0 < be) (lt : lo < hi) (R : Rem F lo hi be rho ga de G) (gl : b * lo - g ≤ lo) (gh : hi ≤ b * hi - g) : Rem F lo hi (be * b) (rho * b + g) ga de (normQ (cutQ (strQ b g G) lo hi)) := by
  have l := str_len b g G
  have a := str_asc (g := g) hb R.asc
  have t := R.two
  have mx := R.max
  have c2 := (cut_len (strQ b g G) lo hi).1
  have ca := cut_asc (lo := lo) (hi := hi) a lt
  have nl := normQ_len_le (cutQ (strQ b g G) lo hi)
  have cl := cut_len2 (ps := strQ b g G) (lo := lo) (hi := hi) (by omega) (by rw [str_at (by omega), R.fst]; exact gl) (by rw [l, str_at (by omega), R.lst]; exact gh)
  refine ⟨normQ_len c2, by omega, normQ_asc ca, ?_, ?_, norm_idem c2 ca, fun z z1 z2 => ?_, fun p hp => ?_⟩
  · rw [normQ_first c2]; exact cut_first ..
  · rw [normQ_last c2]; exact cut_last ..
  · rw [eval_norm z c2 ca, eval_cut (by omega) a lt z1 z2]
    have e : z = b * ((z + g) / b) - g := by grind
    have b1 : lo ≤ (z + g) / b := by
      rcases (by grind : lo ≤ (z + g) / b ∨ (z + g) / b < lo) with w | w
      · exact w
      · have := mul_lt' hb w; grind
    have b2 : (z + g) / b ≤ hi := by
      rcases (by grind : (z + g) / b ≤ hi ∨ hi < (z + g) / b) with w | w
      · exact w
      · have := mul_lt' hb w; grind
    have ev : evalQ (strQ b g G) z = evalQ G ((z + g) / b) := by
      conv => lhs; rw [e]
      exact eval_str hb G R.two R.asc
    rw [ev, R.ev _ b1 b2]
    have hb0 : b ≠ 0 := by grind
    have hbe0 : be ≠ 0 := by grind
    have hbb : be * b ≠ 0 := fun z => by rcases Rat.mul_eq_zero.mp z with w | w <;> grind
    have e2 : (rho + (z + g) / b) / be = (rho * b + g + z) / (be * b) := by grind
    rw [e2]
  · rcases List.mem_cons.mp ((normQ_sub _).subset hp) with rfl | hp
    · exact .inl rfl
    · rcases List.mem_append.mp hp with z | z
      · obtain ⟨h1, h2, h3⟩ := cut_in z
        obtain ⟨q, hq, rfl⟩ := List.mem_map.mp h1
        have h2 : lo < b * q.1 - g := h2
        have h3 : b * q.1 - g < hi := h3
        rcases R.sx q hq with e | e | ⟨f, hf, e⟩
        · rw [e] at h2; grind
        · rw [e] at h3; grind
        · refine .inr (.inr ⟨f, hf, ?_⟩)
          show b * q.1 - g = _
          rw [e]
          grind
      · rw [List.mem_singleton.mp z]
        exact .inr (.inl rfl)
/-- both orders lead to one function -/
theorem Rem.uniq {F G G' : List Pt} {lo hi be rho ga de : Rat} (R : Rem F lo hi be rho ga de G) (R' : Rem F lo hi be rho ga de G') : G = G' := by
  rw [← R.nf, ← R'.nf]
  refine norm_uniq R.two R'.two R.asc R'.asc (by rw [R.fst, R'.fst]) (by rw [R.lst, R'.lst]) fun x x1 x2 => ?_
  rw [R.fst] at x1
  rw [R.lst] at x2
  rw [R.ev x x1 x2, R'.ev x x1 x2]
/-! ## the sizes -/
structure RSzs (lo hi be rho ga de : Rat) : Prop where
  be0 : 0 < be
  lo : Sz 7 lo
  hi : Sz 7 hi
  be : Sz 27 be
  rho : Sz 34 rho
  ga : Sz 27 ga
  de : Sz 34 de
theorem there_sz {lo hi be rho ga de z : Rat} (S : RSzs lo hi be rho ga de) (hz : Sz 150 z) : Sz 212 ((rho + z) / be) := ((S.rho.add hz).div S.be (by have := S.be0; grind)).le (by decide)
theorem closed_sz {F : List Pt} {lo hi be rho ga de z : Rat} (h2 : 2 ≤ F.length) (asc : AscQ F) (fz : ∀ p ∈ F, PSz 80 p) (S : RSzs lo hi be rho ga de) (hz : Sz 150 z) : Sz 696 (evalQ F ((rho + z) / be)) ∧ Sz 758 (ga * evalQ F ((rho + z) / be) - de) := by
  have a : Sz 696 (evalQ F ((rho + z) / be)) := (eval_sz (there_sz S hz) F h2 asc fz).le (by decide)
  exact ⟨a, ((S.ga.mul a).sub S.de).le (by decide)⟩
theorem Rem.szx {F G : List Pt} {lo hi be rho ga de : Rat} (R : Rem F lo hi be rho ga de G) (fz : ∀ p ∈ F, PSz 80 p) (S : RSzs lo hi be rho ga de) : ∀ p ∈ G, Sz 150 p.1 := fun p hp => by
  rcases R.sx p hp with e | e | ⟨f, hf, e⟩
  · rw [e]; exact S.lo.le (by decide)
  · rw [e]; exact S.hi.le (by decide)
  · rw [e]; exact ((S.be.mul (fz f hf).x).sub S.rho).le (by decide)
theorem Rem.sz {F G : List Pt} {lo hi be rho ga de : Rat} (R : Rem F lo hi be rho ga de G) (h2 : 2 ≤ F.length) (asc : AscQ F) (fz : ∀ p ∈ F, PSz 80 p) (S : RSzs lo hi be rho ga de) : ∀ p ∈ G, PSz 860 p := fun p hp => by
  have x := R.szx fz S p hp
  have l := first_le R.asc hp
  have r := le_last R.asc hp
  rw [R.fst] at l
  rw [R.lst] at r
  refine ⟨x.le (by decide), ?_⟩
  rw [eval_at R.two R.asc p hp, R.ev _ l r]
  exact (closed_sz h2 asc fz S x).2.le (by decide)
/-! ## of rows -/
def scR (b : Int) (n : Nat) : Rat := ((b ^ n : Int) : Rat)
def rwR (b : Int) (rs : List Int) : Rat := ((rowN b rs : Int) : Rat)
theorem scR_succ (b : Int) (n : Nat) : scR b (n + 1) = scR b n * (b : Rat) := by
  unfold scR
  rw [Int.pow_succ]
  push_cast
  rfl
theorem rwR_snoc (b : Int) (rs : List Int) (d : Int) : rwR b (rs ++ [d]) = rwR b rs * (b : Rat) + (d : Rat) := by
  unfold rwR
  rw [rowN_snoc]
  push_cast
  rfl
theorem scR_pos {b : Int} (h : 2 ≤ b) (n : Nat) : 0 < scR b n := by
  unfold scR
  have : 0 < b ^ n := Int.pow_pos (by omega)
  exact_mod_cast this
theorem int_sz {n : Nat} {i : Int} (hn : 1 ≤ n) (h : i.natAbs < 2 ^ n) : Sz n (i : Rat) := ⟨h, by
  show 1 < 2 ^ n
  exact Nat.one_lt_two_pow (by omega)⟩
theorem pow_le8 {b : Int} (h2 : 2 ≤ b) (h10 : b ≤ 10) : ∀ {n : Nat}, n ≤ 8 → 1 ≤ b ^ n ∧ b ^ n ≤ 10 ^ n
  | 0, _ => by simp
  | n + 1, h => by
    have ih := pow_le8 h2 h10 (n := n) (by omega)
    rw [Int.pow_succ, Int.pow_succ]
    constructor
    · have := Int.mul_le_mul ih.1 (show (1 : Int) ≤ b by omega) (by omega) (by omega); omega
    · exact Int.mul_le_mul ih.2 h10 (by omega) (by omega)
theorem ten_le : ∀ {n : Nat}, n ≤ 8 → (10 : Int) ^ n ≤ 10 ^ 8 := fun {n} h => by
  have : ∀ k : Nat, k ≤ 8 → (10 : Int) ^ k ≤ 10 ^ 8 := by decide
  exact this n h
theorem scR_sz {b : Int} (h2 : 2 ≤ b) (h10 : b ≤ 10) {n : Nat} (h : n ≤ 8) : Sz 27 (scR b n) := by
  have := pow_le8 h2 h10 h
  have p : (10 : Int) ^ n ≤ 10 ^ 8 := ten_le h
  exact int_sz (by decide) (by omega)
theorem rwR_sz {b : Int} (h2 : 2 ≤ b) (h10 : b ≤ 10) {rs : List Int} (h : rs.length ≤ 8) (hd : ∀ d ∈ rs, -99 ≤ d ∧ d ≤ 99) : Sz 34 (rwR b rs) := by
  have a := rowN_le h2 rs.length rs rfl hd
  have := pow_le8 h2 h10 h
  have p : (10 : Int) ^ rs.length ≤ 10 ^ 8 := ten_le h
  exact int_sz (by decide) (by omega)
end Ew
namespace Ew
open PySem PySem.Spec PyProof.Rows L2
/-! ## l.remove(y): the items are data of any depth -/
def rRemD (K : PySem.W.Frag) : V → List V → Hp → VK → Prop := fun x xs H Q => ∃ (l : Addr) (ys : List V) (y : V) (d : PyData) (ds : List PyData) (j : Nat) (z : PyData), x = V.ref l ∧ xs = [y] ∧ H l = some (.lst ys) ∧ DpAll K H ys ds ∧ Dp K H y d ∧
  SeqAt.shaped (.list ds) = true ∧ SeqAt.shaped d = true ∧ ds[j]? = some z ∧ PyData.eqv z d = true ∧ (∀ (m : Nat) (z' : PyData), m < j → ds[m]? = some z' → PyData.eqv z' d = false) ∧ Q .non (upd H l (.lst (ys.eraseIdx j)))
theorem mt_removeD {X : Cx} (hu : X.A.units + 65 < cLine) : MtM X "list.remove" (rRemD X.K) := by
  intro pins s σ H x xs v us Q I rx rxs h
  obtain ⟨a, ys, y, d, ds, j, z, rfl, rfl, hH, ha, hy, sl, sd, hz, hzj, hno, q⟩ := h
  cases rx
  obtain ⟨uy, rfl, ry⟩ := rxs.one
  obtain ⟨bs, r1⟩ := Dp.reads I d y uy hy ry
  have hxs : PyData.canLayAll0 ds = true := SeqAt.canLay_of_shaped sl
  have hroom : X.A.units + 1 + min (PyData.depthAll ds) d.depth < cLine := room_in_shaped sd hu
  obtain ⟨zz, its, n, rv, hl, ho⟩ := I.lstM hH
  obtain ⟨as, h4⟩ := Dp.readsAll I ds _ its ha rv
  have hn : its.length = ds.length := SeqAt.ReadsAll.length ds its as h4
  have hmap : its.map (SeqAt.readOf s.heap) = ds := SeqAt.readsAll_map ds its as hxs h4
  have hsl := sizeLine_eq
  obtain ⟨hjd, _⟩ := List.getElem?_eq_some_iff.mp hz
  have hjl : j < its.length := by omega
  have hj : j < its.toArray.size := by simpa using hjl
  have at_ : ∀ (m : Nat) (hm : m < its.toArray.size) (z' : PyData), ds[m]? = some z' → SeqAt.readOf s.heap its.toArray[m] = z' := by
    intro m hm z' hz'
    have hml : m < its.length := by simpa using hm
    rw [← hmap, List.getElem?_map, List.getElem?_eq_getElem hml] at hz'
    have e1 : SeqAt.readOf s.heap its[m] = z' := Option.some.inj (show some (SeqAt.readOf s.heap its[m]) = some z' from hz')
    simpa using e1
  refine call_meets PySem.F.slot_list_remove ⟨_, ho, rfl⟩ PySem.F.entry_list_remove (PySem.F.args_list_remove_2 _ _)
    (SeqAt.list_removeAt a its.toArray n none _ uy (fun u => PyData.eqv (SeqAt.readOf s.heap u) d) j hj ?_ ?_ (by rw [List.size_toArray]; omega)) ⟨ho, SeqAt.items_eqAt (vs := its.toArray) (show ReadsAll s.heap its.toArray.toList ds as from h4) r1 hxs (SeqAt.canLay_of_shaped sd) hroom, ?_⟩
  · show PyData.eqv (SeqAt.readOf s.heap its.toArray[j]) d = true
    rw [at_ j hj z hz]
    exact hzj
  · intro m hm hmj
    have hmd : m < ds.length := by omega
    have hz' : ds[m]? = some ds[m] := List.getElem?_eq_getElem hmd
    show PyData.eqv (SeqAt.readOf s.heap its.toArray[m]) d = false
    rw [at_ m hm _ hz']
    exact hno m _ hmj hz'
  · refine ⟨.non, _, I.lset (its' := its.eraseIdx j) hH ho ?_ (rv.eraseIdx j) ?_, rfl, q⟩
    · show its.toArray.eraseIdxIfInBounds j = (its.eraseIdx j).toArray
      rw [List.eraseIdxIfInBounds_toArray]
    · have := List.length_eraseIdx_le ys j
      omega
end Ew
namespace Ew
open PySem PySem.Spec PyProof.Rows L2
theorem u65 {k : Nat} {A : Around} (r : Room k A) : A.units + 65 < cLine := by have := r.un; omega
/-! ### lists of fractions as data -/
theorem dpRat {K : PySem.W.Frag} {H : Hp} {v : V} {r : Rat} (h : QAt H v r) : Dp K H v (ratD r) := by
  obtain ⟨a, rfl, ha⟩ := h
  exact dpQ ha
theorem dpRats {K : PySem.W.Frag} {H : Hp} : ∀ {ws : List V} {xs : List Rat}, All2 (QAt H) ws xs → DpAll K H ws (xs.map ratD)
  | [], [], _ => .nil
  | [], _ :: _, a => absurd a.len (by simp)
  | _ :: _, [], a => absurd a.len (by simp)
  | w :: ws, x :: xs, a => .cons (dpRat (a.at_ 0 w x rfl rfl)) (dpRats ⟨by have := a.len; simpa using this, fun i v y h1 h2 => a.at_ (i + 1) v y h1 h2⟩)
theorem ratsD_lay : ∀ (xs : List Rat), PyData.canLayAll0 (xs.map ratD) = true ∧ PyData.depthAll (xs.map ratD) ≤ 2
  | [] => ⟨by simp [PyData.canLayAll0], by simp [PyData.depthAll]⟩
  | x :: xs => by
    have h1 := ratD_lay x
    have h2 := ratsD_lay xs
    rw [List.map_cons]
    constructor
    · simp [PyData.canLayAll0, h1.1, h2.1]
    · simp only [PyData.depthAll]
      omega
theorem shapedRats (xs : List Rat) : SeqAt.shaped (.list (xs.map ratD)) = true := by
  have h := ratsD_lay xs
  unfold SeqAt.shaped
  have h1 : (PyData.list (xs.map ratD)).canLay0 = true := by simp [PyData.canLay0, h.1]
  have h2 : (PyData.list (xs.map ratD)).depth ≤ 64 := by
    simp only [PyData.depth]
    omega
  rw [h1, Bool.true_and]
  exact decide_eq_true h2
theorem anyRats (x : Rat) : ∀ xs : List Rat, ((xs.map ratD).any fun z => PyData.eqv z (ratD x)) = decide (x ∈ xs)
  | [] => rfl
  | y :: ys => by
    rw [List.map_cons, List.any_cons, anyRats x ys]
    have e : PyData.eqv (ratD y) (ratD x) = decide (y = x) := qeqv y x
    rw [e]
    by_cases c : y = x
    · subst c; simp
    · have c' : x ≠ y := fun z => c z.symm
      simp [c, c']
theorem eqvNil : ∀ xs : List Rat, PyData.eqv (.list (xs.map ratD)) (.list ([] : List PyData)) = decide (xs = [])
  | [] => by simp [PyData.eqv, PyData.eqvAll]
  | x :: xs => by simp [PyData.eqv, PyData.eqvAll]
/-- where a number stands for the first time -/
theorem firstR : ∀ {ns : List Rat} {k : Rat}, k ∈ ns → ∃ j, j < ns.length ∧ ns[j]? = some k ∧ (∀ i, i < j → ns[i]? ≠ some k)
  | [], k, h => absurd h (by simp)
  | a :: r, k, h => by
    by_cases e : a = k
    · exact ⟨0, Nat.succ_pos _, by rw [e]; rfl, fun i hi => absurd hi (Nat.not_lt_zero _)⟩
    · have hr : k ∈ r := by
        rcases List.mem_cons.mp h with z | z
        · exact absurd z.symm e
        · exact z
      obtain ⟨j, h1, h2, h3⟩ := firstR hr
      refine ⟨j + 1, Nat.succ_lt_succ h1, h2, fun i hi => ?_⟩
      cases i with
      | zero =>
        intro z
        exact e (Option.some.inj z)
      | succ i => exact h3 i (Nat.lt_of_succ_lt_succ hi)
theorem All2.erase {α : Type} {R : V → α → Prop} : ∀ {vs : List V} {xs : List α} (j : Nat), All2 R vs xs → All2 R (vs.eraseIdx j) (xs.eraseIdx j)
  | [], [], _, _ => All2.nil
  | [], _ :: _, _, a => absurd a.len (by simp)
  | _ :: _, [], _, a => absurd a.len (by simp)
  | v :: vs, x :: xs, 0, a => ⟨by have := a.len; simpa using this, fun i u y h1 h2 => a.at_ (i + 1) u y h1 h2⟩
  | v :: vs, x :: xs, j + 1, a => by
    have t := All2.erase j (⟨by have := a.len; simpa using this, fun i u y h1 h2 => a.at_ (i + 1) u y h1 h2⟩ : All2 R vs xs)
    show All2 R (v :: vs.eraseIdx j) (x :: xs.eraseIdx j)
    refine ⟨by have := t.len; simp [this], fun i u y h1 h2 => ?_⟩
    cases i with
    | zero => exact a.at_ 0 u y h1 h2
    | succ i => exact t.at_ i u y h1 h2
/-- the least one is taken out -/
theorem mem_erase {ls : List Rat} {j : Nat} {m : Rat} (nd : ls.Nodup) (hj : ls[j]? = some m) (x : Rat) : x ∈ ls ↔ x = m ∨ x ∈ ls.eraseIdx j := by
  have e : ls = ls.take j ++ m :: ls.drop (j + 1) := by
    obtain ⟨h1, h2⟩ := List.getElem?_eq_some_iff.mp hj
    rw [← h2, ← List.drop_eq_getElem_cons h1, List.take_append_drop]
  have e2 : ls.eraseIdx j = ls.take j ++ ls.drop (j + 1) := List.eraseIdx_eq_take_drop_succ ..
  rw [e2]
  conv => lhs; rw [e]
  simp only [List.mem_append, List.mem_cons]
  grind
theorem nodup_erase {ls : List Rat} {j : Nat} (nd : ls.Nodup) : (ls.eraseIdx j).Nodup := nd.sublist (List.eraseIdx_sublist ..)
theorem not_erase {ls : List Rat} {j : Nat} {m : Rat} (nd : ls.Nodup) (hj : ls[j]? = some m) : m ∉ ls.eraseIdx j := by
  have e : ls = ls.take j ++ m :: ls.drop (j + 1) := by
    obtain ⟨h1, h2⟩ := List.getElem?_eq_some_iff.mp hj
    rw [← h2, ← List.drop_eq_getElem_cons h1, List.take_append_drop]
  have e2 : ls.eraseIdx j = ls.take j ++ ls.drop (j + 1) := List.eraseIdx_eq_take_drop_succ ..
  rw [e2]
  rw [e] at nd
  have n := List.nodup_append.mp nd
  have n2 := List.nodup_cons.mp n.2.1
  intro z
  rcases List.mem_append.mp z with z | z
  · exact n.2.2 m z m (by simp) rfl
  · exact n2.1 z
end Ew
namespace Ew
open PySem PySem.Spec PyProof.Rows L2 PySem.W LamX
/-! ## lambdas that are kept: the heap's word tells of them -/
def LamO (f : Addr) (o : Obj) : HO := .ext fun h => h.get? f = some o
theorem lamO_ne {f : Addr} {o : Obj} (ps : Array Value) : LamO f o ≠ .tbl ps := fun z => by
  unfold LamO at z
  cases z
/-- a lambda without a default stands at f -/
def LamAt (q : Str) (pr : Arguments) (bd : Expr) (sc : Scope) (cl : List (Str × Addr)) (H : Hp) (f : Addr) : Prop := ∃ (c' : Addr) (pm ctv : Value), H f = some (LamO f (lamObj q pr bd sc cl .none pm (.ref c') ctv)) ∧ H c' = some (CodeO c' q)
theorem LamAt.ext {q : Str} {pr : Arguments} {bd : Expr} {sc : Scope} {cl : List (Str × Addr)} {H H' : Hp} {f : Addr} (h : LamAt q pr bd sc cl H f) (e : ExtN H H') : LamAt q pr bd sc cl H' f := by
  obtain ⟨c', pm, ctv, h1, h2⟩ := h
  exact ⟨c', pm, ctv, e _ _ h1 (fun ps => lamO_ne ps), e _ _ h2 codeO_ne⟩
section
variable {X : Cx} {pins : List (Addr × Obj)} {σ : L2.St} {H : Hp} {s : Shared}
theorem inv_lam {o : Obj} {t' : Nat} {h' : Heap} (I : Inv X pins σ H s) (hh : h' = s.heap.push o) (hz : (s.heap.push o).get? s.heap.objs.size = some o) :
    Inv X pins σ (upd H s.heap.objs.size (LamO s.heap.objs.size o)) { s with heap := h', toks := t' } := by
  subst hh
  refine I.laid (a := s.heap.objs.size) (fun b u e => Heap.get?_push_of_some _ e) (Nat.le_refl _) ?_
  exact ⟨hz, ⟨_, hz⟩, fun h1 h2 z st => st _ z⟩
theorem lam_tailV {T : List (Addr × Str)} {c P : Addr} {pr : Arguments} {bd : Expr} {sc : Scope} {pos : Pos} {E : Value → Shared → Prop} {Q : Value → Shared → Prop} (I : Inv X pins σ H s) (TB : TabB X.base X.mg c P) (hcode : X.env.code = .ref c)
    (hm : (P, X.env.qual ++ "<lambda>") ∈ T) (hu : ∀ p ∈ T, p.1 = P → p.2 = X.env.qual ++ "<lambda>") (hT : Tabs T H) (hfree : ∀ y ∈ sc.names, y.2 = .free → ∃ c, X.env.cells.lookup y.1 = some c)
    (k : ∀ (f : Addr) (H1 : Hp) (s' : Shared), Inv X pins σ H1 s' → ExtN H H1 → (∀ b, H1 b = none → H b = none) → Tabs T H1 → H f = none → LamAt (X.env.qual ++ "<lambda>") pr bd sc (cloFrom X.env.cells sc.names []) H1 f → Q (.ref f) s') :
    wpAny (model X.prog X.w) X.A (makeTail "<lambda>" (X.env.qual ++ "<lambda>") pr (.expr bd) sc X.env .none .none none pos pos.line) Q E s := by
  obtain ⟨ps, hP, ht, ha⟩ := hT _ hm
  have bP : s.heap.BuiltinsAt X.mg P := TB.bm.keeps I.bk
  have hP' : s.heap.get? P = some { cls := .none, data := .fields ps } := I.hok P _ hP
  cases hc : codeAmong pos ps.toList with
  | none =>
    refine tail_new (mg := X.mg) (c := c) (P := P) (ps := ps) (closure_ok hfree) I.ok.glob (I.mod.glob.keeps I.bk) hcode (TB.code.keeps I.bk) hP' ht hc TB.gP bP fun c' ctv h' tk x1 x2 x3 x4 x5 => ?_
    obtain ⟨c2, oc, vs, t, e2, y1, y2, y3⟩ := x4
    cases e2
    have nC : H c' = none := I.hok.fresh x2
    have I1 := inv_table (t' := tk) (more := #[rawInt pos.line, rawInt pos.col, .ref c']) (h' := h') I hP (fun b o hb e => x1 b o hb e) x5 x2 ⟨oc, vs, t, y1, y2, y3⟩
    have hE : ExtN H (upd (upd H P (.tbl (ps ++ #[rawInt pos.line, rawInt pos.col, .ref c']))) c' (CodeO c' (X.env.qual ++ "<lambda>"))) := fun b o e n => by
      rw [upd_ne (ne_of_none e nC), upd_ne (fun z => n ps (Option.some.inj (e.symm.trans (by rw [z]; exact hP))))]; exact e
    have eL : (ps ++ #[rawInt pos.line, rawInt pos.col, .ref c']).toList = ps.toList ++ [rawInt pos.line, rawInt pos.col, .ref c'] := by simp
    have T1 : Tabs T (upd (upd H P (.tbl (ps ++ #[rawInt pos.line, rawInt pos.col, .ref c']))) c' (CodeO c' (X.env.qual ++ "<lambda>"))) := fun p hp => by
      by_cases hb : p.1 = P
      · rw [hu p hp hb, hb]
        refine ⟨_, by rw [upd_ne (ne_of_none hP nC), upd_same], by rw [eL]; exact PySem.TriplesOk_snoc _ _ _ _ ht, fun p' cv hcv => ?_⟩
        rw [eL] at hcv
        rcases among_app _ ht hcv with z | z
        · obtain ⟨c0, e1, e2⟩ := ha p' cv z; exact ⟨c0, e1, hE _ _ e2 codeO_ne⟩
        · exact ⟨c', z, upd_same⟩
      · obtain ⟨ps', a1, a2, a3⟩ := hT p hp
        refine ⟨ps', by rw [upd_ne (ne_of_none a1 nC), upd_ne hb]; exact a1, a2, fun p' cv hcv => ?_⟩
        obtain ⟨c0, e1, e2⟩ := a3 p' cv hcv; exact ⟨c0, e1, hE _ _ e2 codeO_ne⟩
    have nF := I1.hok.fresh (Nat.le_refl _)
    have I2 := inv_lam (t' := tk) (o := lamObj (X.env.qual ++ "<lambda>") pr bd sc (cloFrom X.env.cells sc.names []) .none ((X.mg "__name__").getD .none) (.ref c') ctv) I1 rfl (Heap.get?_push_size _ rfl)
    refine k h'.objs.size _ _ I2 (fun b o e n => ?_) (fun b e => NdefX.upd_none (NdefX.upd_none (NdefX.upd_none e))) (fun p hp => ?_) (I.hok.fresh (Nat.le_trans x2 (Nat.le_of_lt x3))) ⟨c', _, ctv, upd_same, ?_⟩
    · have e1 := hE b o e n
      exact (upd_ne (ne_of_none e1 nF)).trans e1
    · obtain ⟨ps', a1, a2, a3⟩ := T1 p hp
      refine ⟨ps', (upd_ne (ne_of_none a1 nF)).trans a1, a2, fun p' cv hcv => ?_⟩
      obtain ⟨c0, e1, e2⟩ := a3 p' cv hcv
      exact ⟨c0, e1, (upd_ne (ne_of_none e2 nF)).trans e2⟩
    · exact (upd_ne (Nat.ne_of_lt x3)).trans upd_same
  | some cv =>
    obtain ⟨c', e, hco⟩ := ha pos cv hc
    subst e
    refine tail_hit (mg := X.mg) (c := c) (P := P) (ps := ps) (closure_ok hfree) I.ok.glob (I.mod.glob.keeps I.bk) hcode (TB.code.keeps I.bk) hP' ht hc bP fun ctv h' tk hx hsz => ?_
    have I1 : Inv X pins σ H { s with heap := h', toks := tk } := I.kept hx
    have nF : H h'.objs.size = none := I1.hok.fresh (Nat.le_refl _)
    have I2 := inv_lam (t' := tk) (o := lamObj (X.env.qual ++ "<lambda>") pr bd sc (cloFrom X.env.cells sc.names []) .none ((X.mg "__name__").getD .none) (.ref c') ctv) I1 rfl (Heap.get?_push_size _ rfl)
    refine k h'.objs.size _ _ I2 (fun b o e n => ?_) (fun b e => NdefX.upd_none e) (fun p hp => ?_) nF ⟨c', _, ctv, upd_same, ?_⟩
    · exact (upd_ne (ne_of_none e nF)).trans e
    · obtain ⟨ps', a1, a2, a3⟩ := hT p hp
      refine ⟨ps', (upd_ne (ne_of_none a1 nF)).trans a1, a2, fun p' cv hcv => ?_⟩
      obtain ⟨c0, e1, e2⟩ := a3 p' cv hcv
      exact ⟨c0, e1, (upd_ne (ne_of_none e2 nF)).trans e2⟩
    · exact (upd_ne (ne_of_none hco nF)).trans hco
end
/-- lambda: body, kept -/
def tLamV (T : List (Addr × Str)) (q : Str) (pr : Arguments) (bd : Expr) (sc : Scope) (cl : List (Str × Addr)) : TE := fun σ H Q => Tabs T H ∧ ∀ (f : Addr) (H1 : Hp), ExtN H H1 → (∀ b, H1 b = none → H b = none) → Tabs T H1 → H f = none → LamAt q pr bd sc cl H1 f → Q (.ref f) H1
section
variable {X : Cx}
theorem pe_lamV {T : List (Addr × Str)} {c P : Addr} {pr : Arguments} {bd : Expr} {sc : Scope} {pos : Pos} (TB : TabB X.base X.mg c P) (hcode : X.env.code = .ref c) (hmT : (P, X.env.qual ++ "<lambda>") ∈ T) (hu : ∀ p ∈ T, p.1 = P → p.2 = X.env.qual ++ "<lambda>") (L : LamN X.N X.env.scope sc) (hd : defaultsOf pr X.env = ([], [])) :
    PE X (.Lambda pr bd sc pos) (tLamV T (X.env.qual ++ "<lambda>") pr bd sc (cloFrom X.env.cells sc.names [])) := by
  refine ⟨fun pins s σ H Q I h => ?_⟩
  obtain ⟨hT, h⟩ := h
  rw [arm_eval_Lambda, hd]
  show wpAny _ _ (do let dv ← evalAll []; let kdv ← holding dv (evalAllOpt []); makeFunction "<lambda>" (X.env.qual ++ "<lambda>") pr (.expr bd) sc X.env dv kdv [] pos pos.line) _ X.xe s
  refine wpAny_bind (wpAny_pure (wpAny_bind (wpAny_holding (wpAny_pure ?_))))
  rw [makeFunction_eq]
  simp only [List.zip_nil_right, List.filterMap_nil, List.isEmpty_nil, if_true, pure_bind]
  exact lam_tailV I TB hcode hmT hu hT (L.has I.ok) fun f H1 s' I1 a1 a2 a3 a4 a5 => ⟨.ref f, H1, I1, rfl, h f H1 a1 a2 a3 a4 a5⟩
end
end Ew
namespace Ew
open PySem PySem.Spec PyProof.Rows L2 PySem.W LamX
section
variable {X : Cx} {pins : List (Addr × Obj)} {σ : L2.St} {H : Hp} {s : Shared}
/-- a(), in a def that got a lambda that is kept -/
theorem pe_actV {CXg : CXT} {Eg : XK} {Ng : List Str} {qg : Str} {sg : Scope} {g f c' : Addr} {cdg pm ctv : Value} {pr : Arguments} {bd : Expr} {sc : Scope} {k i : Nat} {a : Str} {pn : List (Addr × Obj)} {xe : Value → Shared → Prop} {W : WX} {E : XK} {tb : TE} {p1 p2 : Pos}
    {AY : Around} {stY : List Env} {sY : Shared} {HY : Hp}
    (I : Inv X pins σ H s) (L : LamN X.N X.env.scope sc) (hB : ∀ (q : Str) (cl : List (Str × Addr)) (pm cdv ctv : Value), bindArgs (lamFn q pr bd sc cl .none pm cdv ctv) ⟨[], []⟩ = pure [])
    (tk : Takes ((cxOf CXg X.prog X.w X.K X.mg X.base Ng qg sg g cdg AY stY sY HY Eg).tr pn xe) W) (hW : ∀ cls d σ' H', E cls d H' → W cls d σ' H') (hr : Room (k + 1) (AY.deeper (envOfC qg sg sY.heap.objs.size g cdg)))
    (hun : ∀ (pz : List (Addr × Obj)) (sz : Shared) (τ : L2.St) (HZ : Hp), Inv ((cxOf CXg X.prog X.w X.K X.mg X.base Ng qg sg g cdg AY stY sY HY Eg).tr pn xe) pz τ HZ sz → Un (frs X.stack) [] H HZ s.heap sz.heap)
    (hbody : ∀ (A : Around) (outer : List Env) (s : Shared) (H : Hp), Room k (A.deeper (lamEnv X sc s.heap.objs.size f c')) → PE (lamCx X A outer s H E sc f c') bd tb)
    (hN : Ng[i]? = some a) (hv : Vis sg a) (hd : (a == ("__debug__" : Str)) = false := by decide) (hcd : (a == ("__classdict__" : Str)) = false := by decide) :
    PE ((cxOf CXg X.prog X.w X.K X.mg X.base Ng qg sg g cdg AY stY sY HY Eg).tr pn xe) (.Call (.Name a p1) [] [] p2)
      (fun τ HZ Q => τ[i]? = some (some (.ref f)) ∧ HZ c' = some (CodeO c' (X.env.qual ++ "<lambda>")) ∧ HZ f = some (LamO f (lamObj (X.env.qual ++ "<lambda>") pr bd sc (cloFrom X.env.cells sc.names []) .none pm (.ref c') ctv)) ∧ tb σ HZ Q) := by
  refine ⟨fun pz sz τ HZ Q IZ h => ?_⟩
  obtain ⟨hs, hc, hf, ht⟩ := h
  refine wpAny_Call_Name_kw (thn ((pe_var (pos := p1) (i := i) hN hv hd hcd).run pz sz τ HZ (fun v H1 => v = .ref f ∧ H1 = HZ) IZ ⟨.ref f, hs, rfl, rfl⟩) fun u s1 ⟨v, H1, I1, r1, q1⟩ => ?_)
  obtain ⟨ev, eH⟩ := q1
  subst ev; rw [eH] at I1
  obtain rfl : u = Value.ref f := r1
  have un := hun _ _ _ _ I1
  obtain ⟨of1, _, _⟩ := I1.hok f _ hf
  have of1 : s1.heap.get? f = some (lamObj (X.env.qual ++ "<lambda>") pr bd sc (cloFrom X.env.cells sc.names []) .none pm (.ref c') ctv) := of1
  refine PySem.W.callWith_F0 ⟨_, _, _, _, of1⟩ ?_
  obtain ⟨⟨oc, vs, t, y1, y2, y3⟩, _, _⟩ := I1.hok c' _ hc
  have hbt : BindsTo s1 (lamFn (X.env.qual ++ "<lambda>") pr bd sc (cloFrom X.env.cells sc.names []) .none pm (.ref c') ctv) ⟨[], []⟩ [] := .of_eq (hB _ _ _ _ _)
  have rc : codeAny (model X.prog X.w) (AY.deeper (envOfC qg sg sY.heap.objs.size g cdg)) (.call (.ref f) ⟨[], []⟩) (CR (L2.CX X.prog X.w) (envOfC qg sg sY.heap.objs.size g cdg :: stY) X.prog X.w HZ s1 Q E) s1 := by
    refine PySem.W.kla_callFunE hr.depth of1 rfl L.co L.gen rfl ⟨c', oc, vs, t, rfl, y1, y2, y3⟩ (hbt _ _ _ _ ?_)
    refine wpAny_newFunctionEnv (fun y hy => (L.own y hy).1) (fun y hy => by cases hy) (fun g1 hns hsb => ⟨I1.nolimit.fresh _ hsb, ?_⟩) L.kind
    show codeAny _ _ (.expr bd (lamEnv X sc s1.heap.objs.size f c')) _ _
    have kp : ∀ b o, s1.heap.get? b = some o → g1.get? b = some o := fun b o e => hsb.extBut b o (Nat.ne_of_lt (Heap.lt_size e)) (Heap.get?_push_of_some _ e)
    have J := lam_startN (E := E) (f := f) (c' := c') (tk := s1.toks + ([] : List (Str × Value)).length) I L I1.env0 hr.hd un hns kp
    refine PySem.W.kla_codeExpr (wpAny_mono ((hbody _ _ s1 HZ (hr.deeper _)).run [] _ _ HZ Q J ht) (fun v s' hq => ?_) fun e s' hq => hq)
    obtain ⟨w', H', J', rv, q⟩ := hq
    exact ⟨w', H', J'.os, J'.bare, J'.base, J'.hok, rv, q⟩
  have hx : Passes (L2.CX X.prog X.w) ((cxOf CXg X.prog X.w X.K X.mg X.base Ng qg sg g cdg AY stY sY HY Eg).tr pn xe) E := passes_call tk hW
  refine wpAny_call (codeAny_mono rc fun r s' hq => ?_)
  cases r with
  | error e => exact hx pz τ HZ s1 e s' I1 hq
  | ok fl =>
    cases fl with
    | ret u => exact I1.after hq
    | next => exact False.elim hq
    | brk => exact False.elim hq
    | cont => exact False.elim hq
end
section
variable {X : Cx}
/-- the lambdas of a def that are kept: the words of each, and how its body reads -/
structure LamF (X : Cx) (k : Nat) (ι : Type) (pr : ι → Arguments) (bd : ι → Expr) (sc : ι → Scope) (t : ι → XK → TE) : Prop where
  L : ∀ j, LamN X.N X.env.scope (sc j)
  B : ∀ j (q : Str) (cl : List (Str × Addr)) (pm cdv ctv : Value), bindArgs (lamFn q (pr j) (bd j) (sc j) cl .none pm cdv ctv) ⟨[], []⟩ = pure []
  body : ∀ j (A : Around) (outer : List Env) (s : Shared) (H : Hp) (E : XK) (f c' : Addr), Room k (A.deeper (lamEnv X (sc j) s.heap.objs.size f c')) → PE (lamCx X A outer s H E (sc j) f c') (bd j) (t j E)
/-- x(a2): a2 is one of the kept lambdas -/
def tLamA {ι : Type} (i : Nat) (TT : (XK → Hp → VK → Prop) → Hp → VK → Prop) (q : Str) (cells : List (Str × Addr)) (pr : ι → Arguments) (bd : ι → Expr) (sc : ι → Scope) (t : ι → XK → TE) : TE := fun σ H Q =>
  ∃ (j : ι) (f : Addr), σ[i]? = some (some (.ref f)) ∧ LamAt q (pr j) (bd j) (sc j) (cloFrom cells (sc j).names []) H f ∧
    ∀ o, H f = some (LamO f o) → TT (fun E H' Q' => H' f = some (LamO f o) ∧ t j E σ H' Q') H Q
theorem pe_lamA {ι : Type} {TT : (XK → Hp → VK → Prop) → Hp → VK → Prop} {x a a2 : Str} {g : Addr} {k i : Nat} {bg : List Stmt} {sg : Scope} {cdv : Value} {Ng : List Str} {pr : ι → Arguments} {bd : ι → Expr} {sc : ι → Scope} {t : ι → XK → TE} {p p2 pos : Pos}
    (hg : Gl X x) (S : GetsL X.K X.mg x a g Ng sg bg cdv) (hG : GivesTo X Ng x sg g cdv bg a (X.env.qual ++ "<lambda>") TT) (F : LamF X k ι pr bd sc t) (hr : Room (k + 2) X.A) (hN2 : X.N[i]? = some a2) (hv2 : Vis X.env.scope a2)
    (hdb : (x == ("__debug__" : Str)) = false := by decide) (hd : (a == ("__debug__" : Str)) = false := by decide) (hcd : (a == ("__classdict__" : Str)) = false := by decide) (hd2 : (a2 == ("__debug__" : Str)) = false := by decide) (hcd2 : (a2 == ("__classdict__" : Str)) = false := by decide) :
    PE X (.Call (.Name x p) [.Name a2 p2] [] pos) (tLamA i TT (X.env.qual ++ "<lambda>") X.env.cells pr bd sc t) := by
  obtain ⟨pg, dV, kV, doc, pm, ct, oc, an, od, osl, lk, hb⟩ := S.lk
  refine ⟨fun pins s σ H Q I h => ?_⟩
  obtain ⟨j, f, hs, ⟨c', pm', ctv, hf, hc⟩, h⟩ := h
  have h := h _ hf
  refine wpAny_Call_Name_kw (ld_glob I hg S.m (PySem.W.callWith_K (h₀ := X.base) I.ok.mod.kin S.k ?_ (by rfl) (by rfl)) hdb)
  show wpAny _ _ (spliced ((false, eval (.Name a2 p2) X.env) :: backTo pos (starEach [] X.env))) _ _ s
  refine Calls.spliced_cons (thn ((pe_var (pos := p2) (i := i) hN2 hv2 hd2 hcd2).run pins s σ H (fun v H1 => v = .ref f ∧ H1 = H) I ⟨.ref f, hs, rfl, rfl⟩) fun u s1 ⟨v, H1, I1, r1, z1⟩ => ?_)
  obtain ⟨ev, eH⟩ := z1
  subst ev; rw [eH] at I1
  obtain rfl : u = Value.ref f := r1
  refine Calls.spliced_nil ⟨I1.kIn, ?_⟩
  have rc : codeAny (model X.prog X.w) X.A (.call (.ref g) ⟨[.ref f], []⟩) (CR C8.CX0 X.stack X.prog X.w H s1 Q C8.E0) s1 := by
    refine run_ofS (N := Ng) (ps := [a]) (us := [.ref f]) (vs := [.ref f]) lk S.c S.s hr I1.env0 (hb s1 [.ref f] I1.kIn rfl) (.cons rfl .nil) rfl fun hr' => ?_
    obtain ⟨t', ht', hq'⟩ := hG f c' s1 H Q _ (fun W pn xe E p1 p2 tk hW => pe_actV (i := 0) (pm := pm') (ctv := ctv) I1 (F.L j) (F.B j) tk hW hr' (fun _ _ _ _ IZ => IZ.base) (fun A outer s H hr2 => F.body j A outer s H E f c' hr2) S.n S.v hd hcd) hc h
    exact ⟨t', ht'.nox, hq'⟩
  refine wpAny_call (codeAny_mono rc fun r s2 hq => ?_)
  cases r with
  | error e => exact (show False from hq).elim
  | ok fl =>
    cases fl with
    | ret u => exact I1.after hq
    | next => exact False.elim hq
    | brk => exact False.elim hq
    | cont => exact False.elim hq
end
end Ew
namespace Ew
open PySem PySem.Spec PyProof.Rows L2
/-! ## the numbers at which a sum or a choice of two functions may bend -/
def crsQ (p q r s : Pt) : Rat := ((r.2 - slopeQ r s * r.1) - (p.2 - slopeQ p q * p.1)) / (slopeQ p q - slopeQ r s)
def bendK (p q r s : Pt) : List Rat := if slopeQ p q = slopeQ r s then [] else [crsQ p q r s]
def bendJ (ps qs : List Pt) (k j : Nat) : List Rat := bendK (ps.getD k dpt) (ps.getD (k + 1) dpt) (qs.getD j dpt) (qs.getD (j + 1) dpt)
def bendR (ps qs : List Pt) (k : Nat) (m : Nat) : List Rat := (List.range m).flatMap (bendJ ps qs k)
def bendA (ps qs : List Pt) (m : Nat) : List Rat := (List.range m).flatMap fun k => bendR ps qs k (qs.length - 1)
theorem bendR_succ (ps qs : List Pt) (k m : Nat) : bendR ps qs k (m + 1) = bendR ps qs k m ++ bendJ ps qs k m := by
  unfold bendR
  rw [List.range_succ, List.flatMap_append, List.flatMap_singleton]
theorem bendA_succ (ps qs : List Pt) (m : Nat) : bendA ps qs (m + 1) = bendA ps qs m ++ bendR ps qs m (qs.length - 1) := by
  unfold bendA
  rw [List.range_succ, List.flatMap_append, List.flatMap_singleton]
theorem bendJ_len (ps qs : List Pt) (k j : Nat) : (bendJ ps qs k j).length ≤ 1 := by
  unfold bendJ bendK
  split <;> simp
theorem bendR_len (ps qs : List Pt) (k : Nat) : ∀ m, (bendR ps qs k m).length ≤ m
  | 0 => by simp [bendR]
  | m + 1 => by
    rw [bendR_succ, List.length_append]
    have := bendR_len ps qs k m
    have := bendJ_len ps qs k m
    omega
theorem bendA_len (ps qs : List Pt) : ∀ m, (bendA ps qs m).length ≤ m * qs.length
  | 0 => by simp [bendA]
  | m + 1 => by
    rw [bendA_succ, List.length_append, Nat.succ_mul]
    have := bendA_len ps qs m
    have := bendR_len ps qs m (qs.length - 1)
    omega
def rawQ (ps qs : List Pt) : List Rat := (ps ++ qs).map (·.1) ++ bendA ps qs (ps.length - 1)
def bendsQ (ps qs : List Pt) : List Rat := (rawQ ps qs).filter fun x => inR (ps.getD 0 dpt).1 x (ps.getD (ps.length - 1) dpt).1
theorem crs_sz {n : Nat} {p q r s : Pt} (h1 : PSz n p) (h2 : PSz n q) (h3 : PSz n r) (h4 : PSz n s) (pq : q.1 - p.1 ≠ 0) (rs : s.1 - r.1 ≠ 0) (h : slopeQ p q ≠ slopeQ r s) : Sz ((n + (n + n + 1 + (n + n + 1) + n) + 1) + (n + (n + n + 1 + (n + n + 1) + n) + 1) + 1 + ((n + n + 1 + (n + n + 1)) + (n + n + 1 + (n + n + 1)) + 1)) (crsQ p q r s) := by
  have a := slope_sz h1 h2 pq
  have b := slope_sz h3 h4 rs
  exact ((h3.y.sub (b.mul h3.x)).sub (h1.y.sub (a.mul h1.x))).div (a.sub b) (by grind)
/-- the piece of some points that an interval without corners lies in -/
theorem piece_at : ∀ (ps : List Pt) (u v : Rat), 2 ≤ ps.length → AscQ ps → (ps.getD 0 dpt).1 ≤ u → u < v → v ≤ (ps.getD (ps.length - 1) dpt).1 → (∀ p ∈ ps, ¬ (u < p.1 ∧ p.1 < v)) →
    ∃ k, k + 1 < ps.length ∧ (ps.getD k dpt).1 ≤ u ∧ v ≤ (ps.getD (k + 1) dpt).1
  | [], _, _, h, _, _, _, _, _ => nomatch h
  | [_], _, _, h, _, _, _, _, _ => absurd h (by simp)
  | [p, q], u, v, _, _, l, _, r, _ => ⟨0, by simp, l, r⟩
  | p :: q :: r :: rest, u, v, _, asc, l, uv, hi, no => by
    by_cases c : q.1 ≤ u
    · obtain ⟨k, h1, h2, h3⟩ := piece_at (q :: r :: rest) u v (by simp) (List.pairwise_cons.mp asc).2 c uv hi (fun p hp => no p (List.mem_cons_of_mem _ hp))
      exact ⟨k + 1, by simpa using h1, h2, h3⟩
    · have qv : v ≤ q.1 := by
        have := no q (by simp)
        grind
      exact ⟨0, by simp, l, qv⟩
theorem height_line {p q : Pt} {x : Rat} : heightQ p q x = (p.2 - slopeQ p q * p.1) + slopeQ p q * x := by
  unfold heightQ
  grind
/-- where two lines cross -/
theorem crs_between {p q r s : Pt} {u v : Rat} (uv : u < v) (h : (heightQ p q u - heightQ r s u < 0 ∧ 0 < heightQ p q v - heightQ r s v) ∨ (0 < heightQ p q u - heightQ r s u ∧ heightQ p q v - heightQ r s v < 0)) :
    slopeQ p q ≠ slopeQ r s ∧ u < crsQ p q r s ∧ crsQ p q r s < v := by
  rw [height_line, height_line, height_line, height_line] at h
  unfold crsQ
  generalize slopeQ p q = a at *
  generalize slopeQ r s = b at *
  generalize p.2 - a * p.1 = c at *
  generalize r.2 - b * r.1 = d at *
  have ne : a - b ≠ 0 := by
    intro e
    have : a = b := by grind
    subst this
    grind
  refine ⟨fun e => ne (by grind), ?_⟩
  have key : (a - b) * ((d - c) / (a - b)) = d - c := by grind
  generalize (d - c) / (a - b) = t at *
  rcases (by grind : 0 < a - b ∨ 0 < b - a) with z | z
  · constructor
    · by_cases hh : u < t
      · exact hh
      · exfalso
        have m1 : 0 ≤ (a - b) * (u - t) := Rat.mul_nonneg (by grind) (by grind)
        have m2 : 0 < (a - b) * (v - u) := Rat.mul_pos z (by grind)
        grind
    · by_cases hh : t < v
      · exact hh
      · exfalso
        have m1 : 0 ≤ (a - b) * (t - v) := Rat.mul_nonneg (by grind) (by grind)
        have m2 : 0 < (a - b) * (v - u) := Rat.mul_pos z (by grind)
        grind
  · constructor
    · by_cases hh : u < t
      · exact hh
      · exfalso
        have m1 : 0 ≤ (b - a) * (u - t) := Rat.mul_nonneg (by grind) (by grind)
        have m2 : 0 < (b - a) * (v - u) := Rat.mul_pos z (by grind)
        grind
    · by_cases hh : t < v
      · exact hh
      · exfalso
        have m1 : 0 ≤ (b - a) * (t - v) := Rat.mul_nonneg (by grind) (by grind)
        have m2 : 0 < (b - a) * (v - u) := Rat.mul_pos z (by grind)
        grind
section
variable {F G : List Pt} {xs : List Rat} (f2 : 2 ≤ F.length) (fa : AscQ F) (g2 : 2 ≤ G.length) (ga : AscQ G) (e1 : (G.getD 0 dpt).1 = (F.getD 0 dpt).1) (e2 : (G.getD (G.length - 1) dpt).1 = (F.getD (F.length - 1) dpt).1)
  (xa : xs.Pairwise (· < ·)) (xm : ∀ x, x ∈ xs ↔ x ∈ bendsQ F G)
theorem bend_in {k j : Nat} (hk : k + 1 < F.length) (hj : j + 1 < G.length) (n : slopeQ (F.getD k dpt) (F.getD (k + 1) dpt) ≠ slopeQ (G.getD j dpt) (G.getD (j + 1) dpt)) : crsQ (F.getD k dpt) (F.getD (k + 1) dpt) (G.getD j dpt) (G.getD (j + 1) dpt) ∈ rawQ F G := by
  refine List.mem_append_right _ (List.mem_flatMap.mpr ⟨k, List.mem_range.mpr (by omega), List.mem_flatMap.mpr ⟨j, List.mem_range.mpr (by omega), ?_⟩⟩)
  unfold bendJ bendK
  rw [if_neg n]
  simp
include xm in
theorem bs_bd {x : Rat} (h : x ∈ xs) : (F.getD 0 dpt).1 ≤ x ∧ x ≤ (F.getD (F.length - 1) dpt).1 := by
  obtain ⟨_, z⟩ := List.mem_filter.mp ((xm x).mp h)
  have z := inR_iff.mp z
  grind
include xm in
theorem bs_has {x : Rat} (h : x ∈ rawQ F G) (l : (F.getD 0 dpt).1 ≤ x) (r : x ≤ (F.getD (F.length - 1) dpt).1) : x ∈ xs :=
  (xm x).mpr (List.mem_filter.mpr ⟨h, inR_iff.mpr (by grind)⟩)
include fa ga e1 e2 xm in
theorem bs_corner {p : Pt} (h : p ∈ F ++ G) : p.1 ∈ xs := by
  refine bs_has xm (List.mem_append_left _ (List.mem_map.mpr ⟨p, h, rfl⟩)) ?_ ?_
  · rcases List.mem_append.mp h with z | z
    · exact first_le fa z
    · have := first_le ga z; grind
  · rcases List.mem_append.mp h with z | z
    · exact le_last fa z
    · have := le_last ga z; grind
include f2 fa ga e1 e2 xa xm in
theorem bs_head : xs.headD 0 = (F.getD 0 dpt).1 := by
  have h := bs_corner fa ga e1 e2 xm (List.mem_append_left _ (getD_memP (ps := F) (i := 0) (by omega)))
  match xs, xa, xm, h with
  | y :: ys, xa, xm, h =>
    have b := (bs_bd xm (x := y) (by simp)).1
    rcases List.mem_cons.mp h with z | z
    · exact z.symm
    · have := (List.pairwise_cons.mp xa).1 _ z
      show y = _
      grind
include f2 fa ga e1 e2 xa xm in
theorem bs_last : xs.getLast? = some (F.getD (F.length - 1) dpt).1 := by
  have h := bs_corner fa ga e1 e2 xm (List.mem_append_left _ (getD_memP (ps := F) (i := F.length - 1) (by omega)))
  rcases List.eq_nil_or_concat xs with z | ⟨ys, y, z⟩
  · rw [z] at h; cases h
  · rw [List.concat_eq_append] at z
    subst z
    have b := (bs_bd xm (x := y) (by simp)).2
    rw [List.getLast?_append]
    rcases List.mem_append.mp h with w | w
    · have := (List.pairwise_append.mp xa).2.2 _ w y (by simp)
      grind
    · rw [List.mem_singleton.mp w]; rfl
include f2 fa ga e1 e2 xa xm in
theorem bs_two : 2 ≤ xs.length := by
  have h1 := bs_corner fa ga e1 e2 xm (List.mem_append_left _ (getD_memP (ps := F) (i := 0) (by omega)))
  have h2 := bs_corner fa ga e1 e2 xm (List.mem_append_left _ (getD_memP (ps := F) (i := F.length - 1) (by omega)))
  have lt := asc_at fa (i := 0) (j := F.length - 1) (by omega) (by omega)
  match xs, h1, h2 with
  | [y], h1, h2 =>
    have := List.mem_singleton.mp h1
    have := List.mem_singleton.mp h2
    grind
  | _ :: _ :: _, _, _ => simp
include f2 fa g2 ga e1 e2 xm in
theorem bs_lin {u v : Rat} (hu : u ∈ xs) (hv : v ∈ xs) (uv : u < v) (no : ∀ z ∈ xs, ¬ (u < z ∧ z < v)) : Lin (evalQ F) u v ∧ Lin (evalQ G) u v ∧ Lin (fun x => maxR (evalQ F x) (evalQ G x)) u v ∧ Lin (fun x => minR (evalQ F x) (evalQ G x)) u v := by
  have nF : ∀ p ∈ F, ¬ (u < p.1 ∧ p.1 < v) := fun p hp => no _ (bs_corner fa ga e1 e2 xm (List.mem_append_left _ hp))
  have nG : ∀ p ∈ G, ¬ (u < p.1 ∧ p.1 < v) := fun p hp => no _ (bs_corner fa ga e1 e2 xm (List.mem_append_right _ hp))
  have lF : Lin (evalQ F) u v := fun x x1 x2 => eval_lin F u v x f2 fa uv nF x1 x2
  have lG : Lin (evalQ G) u v := fun x x1 x2 => eval_lin G u v x g2 ga uv nG x1 x2
  have bu := bs_bd xm hu
  have bv := bs_bd xm hv
  obtain ⟨k, k1, k2, k3⟩ := piece_at F u v f2 fa bu.1 uv bv.2 nF
  obtain ⟨j, j1, j2, j3⟩ := piece_at G u v g2 ga (by grind) uv (by grind) nG
  have fu := eval_piece f2 fa k1 k2 (x := u) (by grind)
  have fv := eval_piece f2 fa k1 (x := v) (by grind) k3
  have gu := eval_piece g2 ga j1 j2 (x := u) (by grind)
  have gv := eval_piece g2 ga j1 (x := v) (by grind) j3
  have key := fun h => crs_between (p := F.getD k dpt) (q := F.getD (k + 1) dpt) (r := G.getD j dpt) (s := G.getD (j + 1) dpt) uv h
  rw [← fu, ← fv, ← gu, ← gv] at key
  have stop : ∀ h, False := fun h => by
    obtain ⟨n, c1, c2⟩ := key h
    exact no _ (bs_has xm (bend_in k1 j1 n) (by grind) (by grind)) ⟨c1, c2⟩
  have ch := lin_choice uv lF lG (fun z => stop (.inl z)) (fun z => stop (.inr z))
  exact ⟨lF, lG, ch.1, ch.2⟩
include f2 fa g2 ga e1 e2 xa xm in
theorem bs_eval {h : Rat → Rat} (hl : ∀ u v, u < v → Lin (evalQ F) u v → Lin (evalQ G) u v → Lin (fun x => maxR (evalQ F x) (evalQ G x)) u v → Lin (fun x => minR (evalQ F x) (evalQ G x)) u v → Lin h u v) {x : Rat} (x1 : (F.getD 0 dpt).1 ≤ x) (x2 : x ≤ (F.getD (F.length - 1) dpt).1) : evalQ (onQ h xs) x = h x := by
  refine eval_glue xs _ x (bs_two f2 fa ga e1 e2 xa xm) xa (fun u v hu hv uv no => ?_) (bs_last f2 fa ga e1 e2 xa xm) (by rw [bs_head f2 fa ga e1 e2 xa xm]; exact x1) x2
  obtain ⟨a, b, c, d⟩ := bs_lin f2 fa g2 ga e1 e2 xm hu hv uv no
  exact hl u v uv a b c d
end
end Ew
namespace Ew
open PySem PySem.Spec PyProof.Rows L2
/-! ## sorted(a set of ints), however many -/
section
variable {P : Program} {w : World} {A : Around} {E : Value → Shared → Prop} {s : Shared} {a : Addr}
theorem sorted_setN {S : Int → Bool} {n : Nat} {Q : Value → Shared → Prop} (R : SetR w s.heap a S n) (quiet : A.handled = none)
    (k : ∀ (z : Shared) (p : Addr) (out : List Value) (ep : Nat) (ns : List Int), (∀ b o, s.heap.get? b = some o → z.heap.get? b = some o) → z.gens = s.gens → z.os = s.os → s.heap.objs.size ≤ p →
      z.heap.get? p = some (seqObj "list" out.toArray ep) → IntsAre out ns → ns.Pairwise (· < ·) → (∀ j, j ∈ ns ↔ S j = true) → ns.length = n → Q (.ref p) z) :
    wpAny (model P w) A (call (.builtin "sorted") [.ref a]) Q E s := by
  obtain ⟨ob, es, ep, tb, hob, exact_, dat, good, nodup, mem, bound, fits, size, ris, led⟩ := R
  refine Calls.call_function_entry kind_sorted plain_sorted entry_sorted (args_sorted1 _) ?_
  unfold Builtin.«sorted»
  refine wpAny_bind (m := checkCount "sorted" 1 1 _) (wpAny_pure (wpAny_bind (collect_set (A := A.in1) quiet ⟨ob, hob, exact_.1, dat⟩ fits bound ris led fun z vs keep le gens os perm => ?_)))
  have len : vs.length = n := by rw [perm.length_eq, List.length_map, Array.length_toList, size]
  have isInts : ∀ v ∈ vs, ∃ i t, v = Value.int i t := fun v hv => by
    obtain ⟨e, he, ee⟩ := List.mem_map.mp (perm.mem_iff.mp hv)
    obtain ⟨i, t, h1, _⟩ := good e he
    exact ⟨i, t, ee ▸ h1⟩
  have hInt := SrtO.ints_iv isInts
  have fit : vs.length ≤ sizeLine := by rw [len, ← size]; exact fits_of_scanBound bound
  refine wpAny_bind (wpAny_newList ?_ fit)
  have atL : (z.heap.push (seqObj "list" vs.toArray 0)).get? z.heap.objs.size = some (seqObj "list" vs.toArray 0) := Heap.get?_push_size _ rfl
  refine wpAny_bind (wpAny_holding (wpAny_call_entry slot_list_sort ⟨_, atL, rfl⟩ entry_list_sort (SrtO.list_sort_ord SrtO.swo_int atL fit (fun two => SrtO.ints_sortable hInt two) fun out srt stb => ⟨_, rfl, ?_⟩) (args_list_sort _)))
  obtain ⟨o1, o2, o3⟩ := SrtO.ints_out hInt srt stb
  obtain ⟨ep', at'⟩ := sortedHeap_at (vs := vs) (out := out.toArray) atL
  have keys : (vs.map SrtO.iv).Perm (es.toList.map keyOf) := by
    have e : (es.toList.map (·.2)).map SrtO.iv = es.toList.map keyOf := by
      rw [List.map_map]
      refine List.map_congr_left fun e he => ?_
      obtain ⟨i, t, h1, _⟩ := good e he
      show SrtO.iv e.2 = keyOf e
      unfold keyOf
      rw [h1]
      rfl
    exact e ▸ perm.map SrtO.iv
  have pk := o2.trans keys
  refine wpAny_pure ⟨_, rfl, k _ z.heap.objs.size out ep' (out.map SrtO.iv) (fun b o e => ?_) gens os le at' o1 (L2.lt_of_le_nodup _ o3 (pk.nodup_iff.mpr nodup)) (fun j => by rw [pk.mem_iff, ← mem j]) (by rw [pk.length_eq, List.length_map, Array.length_toList, size])⟩
  have q := keep b o e
  exact (sortedHeap_old (Nat.ne_of_lt (Heap.lt_size q)) (by rw [size_push']; exact Nat.lt_succ_of_lt (Heap.lt_size q))).trans (Heap.get?_push_of_some _ q)
end
def rSortedSetN (w : World) : List V → Hp → VK → Prop := fun vs H Q => ∃ (a : Addr) (S : Int → Bool) (n : Nat), vs = [V.ref a] ∧ H a = some (SetO w a S n) ∧
  ∀ (ns : List Int) (p : Addr), ns.Pairwise (· < ·) → (∀ k : Int, k ∈ ns ↔ S k = true) → ns.length = n → H p = none → Q (.ref p) (upd H p (.lst (ns.map V.int)))
theorem cr_sortedSetN {X : Cx} (calm : X.calm = true) : CallR X (.builtin "sorted") (rSortedSetN X.w) := by
  intro pins s σ H vs us Q I r h
  obtain ⟨a, S, n, rfl, ha, q⟩ := h
  rw [Vals.ref1 r]
  have R := setO_get I ha
  refine sorted_setN R (I.ok.hd calm) fun z p out ep ns keep gens os le at' hInt asc mem len => ?_
  have few : (ns.map V.int).length ≤ sizeLine := by
    rw [List.length_map, len]
    obtain ⟨ob, es, ep2, tb, h1, h2, h3, h4, h5, h6, bound, h8, size, _⟩ := R
    rw [← size]
    exact fits_of_scanBound bound
  have fresh : H p = none := I.hok.fresh le
  have J := I.call' (ch := []) os (Un.laid (o := .lst (ns.map V.int)) keep le fresh) (I.hok.laid keep le ⟨few, out, ep, vals_of_ints hInt, at'⟩) (by rw [gens]; exact I.bare) (fun _ y => nomatch y)
  exact ⟨.ref p, _, J, rfl, q ns p asc mem len fresh⟩
/-! ## set(a list of ints) -/
/-- a new set, nothing in it -/
abbrev set0 (w : World) : Obj := { cls := .type "set", dict := none, data := .set #[] 0 (.fresh 0 0 (!w.params.followText "set-order")) }
section
variable {P : Program} {w : World} {A : Around} {E : Value → Shared → Prop} {s : Shared}
theorem set_of_list {l : Addr} {items : Array Value} (ns : List Int) {Q : Value → Shared → Prop} (quiet : A.handled = none) (isL : s.heap.IsList l items) (hInt : IntsAre items.toList ns) (few : ns.length + 1 < scanBound)
    (k : ∀ (g : Heap) (tk c : Nat), SetR w g s.heap.objs.size (fun j => decide (j ∈ ns)) c → c ≤ ns.length → (∀ b o, s.heap.get? b = some o → g.get? b = some o) → Q (.ref s.heap.objs.size) { s with heap := g, toks := tk }) :
    wpAny (model P w) A (call (.type "set") [.ref l]) Q E s := by
  have size : items.size = ns.length := by have z := IntsAre.length hInt; rwa [Array.length_toList] at z
  obtain ⟨mc, mt, mro⟩ := F.called_set.mro
  have c1 := F.called_set.made
  have c2 := F.called_set.sub
  refine wpAny_call (codeAny_of_tree (show wpAny _ _ (callAny (.type "set") _) _ _ _ from wpAny_pure ⟨Code.quiet_builtin _ (by decide +kernel), codeAny_builtin F.entry_type_call ?_⟩))
  rw [Around.under_plain (weight_type_call_type "set" [.ref l] []) rfl]
  have c3 := F.called_set.notType
  have c4 := F.called_set.canCreate
  have c5 := F.typeCall_set_1 (.ref l)
  repeat (any_goals (first | assumption | wp_step))

  refine codeAny_mono (L2.code_set_led1 (.ref l) (E := E) (Q₁ := fun obj z => obj = .ref s.heap.objs.size ∧ z = { s with heap := s.heap.push (set0 w) }) ⟨rfl, rfl⟩) fun r z hr => ?_
  match r, hr with
  | .error _, hr => exact hr
  | .ok (.ret obj), hr =>
    obtain ⟨rfl, rfl⟩ := hr
    have at0 : (s.heap.push (set0 w)).get? s.heap.objs.size = some (set0 w) := Heap.get?_push_size _ rfl
    have ty : Shared.TypeIs { s with heap := s.heap.push (set0 w) } (.ref s.heap.objs.size) "set" := ⟨_, at0, rfl⟩
    have i1 := F.called_set.init.lookup
    have i2 := F.called_set.init.bind (.ref s.heap.objs.size)
    repeat (any_goals (first | assumption | wp_step))

    refine codeAny_mono (codeAny_call_builtin (R := wants (fun v z => v = .none ∧ ∃ g tk c, z = { s with heap := g, toks := tk } ∧ SetR w g s.heap.objs.size (fun j => decide (j ∈ ns)) c ∧ c ≤ ns.length ∧ ∀ b o, s.heap.get? b = some o → g.get? b = some o) E) F.called_set.init.plain F.entry_set_init (check_set_init_1 ty ?_)) fun r2 z2 hr2 => ?_
    · obtain ⟨⟨oc, od, odt, osl⟩, hol, hcl, cap, hdl⟩ := isL
      simp only at hcl hdl
      subst hcl hdl
      have ol : (s.heap.push (set0 w)).get? l = some { cls := .type "list", dict := od, data := .seq items cap, slots := osl } := Heap.get?_push_of_some _ hol
      have x1 := F.sub_list_set
      have x2 := F.sub_list_frozenset
      have x3 : (Value.type "list" == Value.type "dict") = false := by decide
      have isL1 : (s.heap.push (set0 w)).IsList l items := ⟨_, ol, rfl, cap, rfl⟩
      have lt : l < s.heap.objs.size := Heap.lt_size hol
      have sz1 : (s.heap.push (set0 w)).objs.size = s.heap.objs.size + 1 := Heap.size_push ..
      unfold Builtin.«set.__init__» noKeywords Builtin.Frozenset.updateFrom
      generalize hPI : pyIter = PI
      wp_walk
      subst hPI

      refine wpAny_pyIter_list isL1 (wpAny_bind (wpAny_runValue ?_))
      have quiet3 : A.in1.in1.in1.handled = none := by simp [quiet]
      have ne1 : l ≠ (s.heap.push (set0 w)).objs.size := by rw [sz1]; exact Nat.ne_of_lt (Nat.lt_succ_of_lt lt)
      have off : s.heap.objs.size ∉ [(s.heap.push (set0 w)).objs.size, l] := by
        rw [sz1]
        intro z
        rcases List.mem_cons.mp z with z | z
        · exact absurd z (Nat.ne_of_lt (Nat.lt_succ_self _))
        · exact absurd (List.mem_singleton.mp z) (Nat.ne_of_gt lt)
      have vals : ∀ (i : Nat) (v : Value), items[i]? = some v → ∃ j t, ns[i]? = some j ∧ v = .int j t := fun i v hv => by
        have hi : i < ns.length := size ▸ (Array.getElem?_eq_some_iff.mp hv).1
        obtain ⟨t, e⟩ := IntsAre.int_at hInt i v (by rw [Array.getElem?_toList]; exact hv)
        exact ⟨ns[i], t, List.getElem?_eq_getElem hi, by rw [e, List.getD_eq_getElem?_getD, List.getElem?_eq_getElem hi]; rfl⟩
      refine L2.set_update_ints ((Walks.list quiet3 _ l ne1 items).toS) s.heap.objs.size off ns size few vals _ 0 _ rfl (Nat.zero_le _) ⟨⟨_, Heap.get?_push_size _ rfl, rfl, rfl⟩, isL1.push _⟩ ⟨0, Nat.le_refl 0, L2.setR_new_at (Heap.get?_push_of_some _ at0)⟩ ?_
      rintro ⟨g, gs, dr, tk, os⟩ c moved le R
      have e1 : gs = s.gens := moved.gens
      have e2 : dr = s.drawn := moved.drawn
      have e3 : os = s.os := moved.os
      subst e1 e2 e3
      refine wpAny_pure (show wpAny _ _ (ret Value.none) _ _ _ from wpAny_pure ⟨rfl, g, tk, c, rfl, R, size ▸ le, fun b o e => ?_⟩)
      have lb : b < s.heap.objs.size := Heap.lt_size e
      refine moved.heap b o ?_ (Heap.get?_push_of_some _ (Heap.get?_push_of_some _ e))
      rw [sz1]
      intro z
      rcases List.mem_cons.mp z with z | z
      · exact absurd z (Nat.ne_of_lt lb)
      · exact absurd (List.mem_singleton.mp z) (Nat.ne_of_lt (Nat.lt_succ_of_lt lb))
    · match r2, hr2 with
      | .error _, hr2 => exact hr2
      | .ok (.ret v), hr2 =>
        obtain ⟨rfl, g, tk, c, rfl, R, le, keep⟩ := hr2
        repeat (any_goals (first | assumption | wp_step))
        exact k _ _ _ R le keep
      | .ok .next, hr2 => exact hr2.elim
      | .ok .brk, hr2 => exact hr2.elim
      | .ok .cont, hr2 => exact hr2.elim
  | .ok .next, hr => exact hr.elim
  | .ok .brk, hr => exact hr.elim
  | .ok .cont, hr => exact hr.elim
end
def rSetOfL (K : PySem.W.Frag) (w : World) : List V → Hp → VK → Prop := fun vs H Q => ∃ (a : Addr) (ns : List Int), vs = [V.ref a] ∧ SqL K H a (ns.map V.int) ∧ ns.length + 1 < scanBound ∧ ∀ (p : Addr) (c : Nat), H p = none → Q (.ref p) (upd H p (SetO w p (fun j => decide (j ∈ ns)) c))
theorem cr_setOfL {X : Cx} (calm : X.calm = true) : CallR X (.type "set") (rSetOfL X.K X.w) := by
  intro pins s σ H vs us Q I r h
  obtain ⟨a, ns, rfl, hs, few, q⟩ := h
  rw [Vals.ref1 r]
  obtain ⟨its, rv, pl, _⟩ := I.list hs
  refine set_of_list ns (I.ok.hd calm) pl.isList (by simpa using rv.ints) few fun g tk c R le keep => ?_
  exact ⟨.ref _, _, I.laid (t' := tk) keep (Nat.le_refl _) (setO_new R), rfl, q _ c (I.hok.fresh (Nat.le_refl _))⟩
/-! ## xs != ys, two lists that hold the same things -/
def rNeSame : R2 := fun x y H Q => ∃ (a b : Addr) (xs : List V), x = .ref a ∧ y = .ref b ∧ H a = some (.lst (xs)) ∧ H b = some (.lst xs) ∧ (∀ v ∈ xs, ∃ c, v = V.ref c) ∧ Q (.bl false) H
theorem refs_same : ∀ {xs : List V} {us ws : List Value}, Vals xs us → Vals xs ws → (∀ v ∈ xs, ∃ c, v = V.ref c) → us = ws
  | [], _, _, r, q, _ => by cases r; cases q; rfl
  | x :: xs, _, _, r, q, h => by
    cases r with
    | cons r1 r2 =>
      cases q with
      | cons q1 q2 =>
        obtain ⟨c, rfl⟩ := h x (by simp)
        cases (show _ = Value.ref c from r1)
        cases (show _ = Value.ref c from q1)
        rw [refs_same r2 q2 fun v hv => h v (List.mem_cons_of_mem _ hv)]
theorem op_neSame {X : Cx} (hu : X.A.units + 64 < cLine) : OpR X (compareOp .NotEq) rNeSame := by
  intro pins s σ H x y v u Q I rx ry h
  obtain ⟨a, b, xs, rfl, rfl, ha, hb, hr, q⟩ := h
  cases rx
  cases ry
  obtain ⟨z1, i1, n1, v1, l1, o1⟩ := I.lstM ha
  obtain ⟨z2, i2, n2, v2, l2, o2⟩ := I.lstM hb
  obtain rfl := refs_same v1 v2 hr
  have c := SeqAt.RcNeAt.lists (A := X.A) (s := s) (l := a) (b := b) (items := i1.toArray) (items2 := i1.toArray) (e := fun _ => true) ⟨_, o1, rfl, n1, rfl⟩ ⟨_, o2, rfl, n2, rfl⟩ rfl (by omega) fun j h1 h2 => SeqAt.EqAt.same _
  refine c X.prog X.w _ _ ?_
  refine ⟨.bl false, H, I, ?_, q⟩
  show Value.bool _ = Value.bool false
  simp
end Ew
namespace Ew
open PySem PySem.Spec PyProof.Rows L2
/-! ## {elt for t0 in i0 for t1 in i1}: a set of ints over two sources, without tests -/
abbrev SC2 (elt t0 i0 t1 i1 : Expr) (sc : Scope) (pos : Pos) : Expr := .SetComp elt [⟨t0, i0, [], 0⟩, ⟨t1, i1, [], 0⟩] sc pos
section
variable {prog : Program} {w : World} {A : Around} {R : Result → Shared → Prop} {s : Shared} {elt t0 i0 t1 i1 : Expr} {sc : Scope} {pos : Pos} {it acc : Value} {env : Env}
theorem sc2_turn0 : compTurn (SC2 elt t0 i0 t1 i1 sc pos) 0 it acc env = (do
    standAt i0.pos
    match ← pyNext it with
    | none => pure (.done .next)
    | some v =>
      letOwnedTupleGo t0 it v
      assign t0 env v
      let x ← eval i1 env
      standAt i1.pos
      let x ← foldedSetIterable i1 env x
      let _ ← runOwn (.compStart (SC2 elt t0 i0 t1 i1 sc pos) 1 (← holding [x] (pyIter x)) acc env) env
      again (.compLoop (SC2 elt t0 i0 t1 i1 sc pos) 0 it acc env)) := rfl
theorem sc2_turn1 : compTurn (SC2 elt t0 i0 t1 i1 sc pos) 1 it acc env = (do
    standAt i1.pos
    match ← pyNext it with
    | none => pure (.done .next)
    | some v =>
      letOwnedTupleGo t1 it v
      assign t1 env v
      (do let v ← eval elt env; standAt elt.pos; let _ ← call (.builtin "set.add") [acc, v])
      again (.compLoop (SC2 elt t0 i0 t1 i1 sc pos) 1 it acc env)) := rfl
/-- what an error does -/
abbrev noted (prog : Program) (w : World) (A : Around) (env : Env) (R : Result → Shared → Prop) : Value → Shared → Prop := notedBy (model prog w) A env fun e z => R (.error e) z
theorem sc2_loop0 (plain : ∀ x, foldedSetIterable i1 env x = pure x) (J : Nat → Shared → Prop)
    (turn : ∀ n s, J n s → wpAny (model prog w) A (pyNext it) (fun r z => match r with
      | none => R (.ok .next) z
      | some v => wpAny (model prog w) A (letOwnedTupleGo t0 it v) (fun _ z => wpAny (model prog w) A (assign t0 env v) (fun _ z => wpAny (model prog w) A (eval i1 env) (fun x z => wpAny (model prog w) A (pyIter x) (fun it1 z =>
          codeAny (model prog w) A (.compStart (SC2 elt t0 i0 t1 i1 sc pos) 1 it1 acc env) (fun r z => match r with
            | .ok _ => ∃ m, m < n ∧ J m z
            | .error _ => False) z) (noted prog w A env R) z) (noted prog w A env R) z) (noted prog w A env R) z) (noted prog w A env R) z) (noted prog w A env R) s)
    (n : Nat) (h : J n s) : codeAny (model prog w) A (.compLoop (SC2 elt t0 i0 t1 i1 sc pos) 0 it acc env) R s := by
  refine codeAny_loop rfl J (fun n s hJ => wpAny_noted ?_) n h
  rw [sc2_turn0]
  refine wpAny_bind (wpAny_standAt (wpAny_bind (thn (turn n s hJ) fun r z q => ?_)))
  match r, q with
  | none, q => exact wpAny_pure q
  | some v, q =>
    refine wpAny_bind (thn q fun _ z q => wpAny_bind (thn q fun _ z q => wpAny_bind (thn q fun x z q => wpAny_bind (wpAny_standAt (wpAny_bind (wpAny_of_eq (plain x) (wpAny_bind (wpAny_holding (thn q fun it1 z q => wpAny_bind (wpAny_runOwn ?_))))))))))
    rw [Around.mark_none]
    refine codeAny_mono q fun r z q => ?_
    match r, q with
    | .ok _, q => first | exact wpAny_pure ⟨rfl, q⟩ | exact wpAny_bind (wpAny_pure (wpAny_pure ⟨rfl, q⟩))
    | .error _, q => exact q.elim
theorem sc2_loop1 (J : Nat → Shared → Prop)
    (turn : ∀ n s, J n s → wpAny (model prog w) A (pyNext it) (fun r z => match r with
      | none => R (.ok .next) z
      | some v => wpAny (model prog w) A (letOwnedTupleGo t1 it v) (fun _ z => wpAny (model prog w) A (assign t1 env v) (fun _ z => wpAny (model prog w) A (eval elt env) (fun x z =>
          wpAny (model prog w) A (call (.builtin "set.add") [acc, x]) (fun _ z => ∃ m, m < n ∧ J m z) (noted prog w A env R) z) (noted prog w A env R) z) (noted prog w A env R) z) (noted prog w A env R) z) (noted prog w A env R) s)
    (n : Nat) (h : J n s) : codeAny (model prog w) A (.compLoop (SC2 elt t0 i0 t1 i1 sc pos) 1 it acc env) R s := by
  refine codeAny_loop rfl J (fun n s hJ => wpAny_noted ?_) n h
  rw [sc2_turn1]
  refine wpAny_bind (wpAny_standAt (wpAny_bind (thn (turn n s hJ) fun r z q => ?_)))
  match r, q with
  | none, q => exact wpAny_pure q
  | some v, q => exact wpAny_bind (thn q fun _ z q => wpAny_bind (thn q fun _ z q => wpAny_bind (wpAny_bind (thn q fun x z q => wpAny_bind (wpAny_standAt (wpAny_bind (thn q fun _ z q => wpAny_pure (wpAny_pure ⟨rfl, q⟩))))))))
theorem sc2_start1 (h0 : codeAny (model prog w) A (.compLoop (SC2 elt t0 i0 t1 i1 sc pos) 1 it acc env) R s)
    (h : wpAny (model prog w) A (pyIter it) (fun it' z => codeAny (model prog w) A (.compLoop (SC2 elt t0 i0 t1 i1 sc pos) 1 it' acc env) R z) (noted prog w A env R) s) :
    codeAny (model prog w) A (.compStart (SC2 elt t0 i0 t1 i1 sc pos) 1 it acc env) R s := by
  refine codeAny_of_tree (show wpAny _ _ ((compStart (SC2 elt t0 i0 t1 i1 sc pos) 1 it acc env).onRaise fun x => do noteFrame x env; standAt theWindowsPlace) _ _ s from wpAny_notedAt ?_)
  unfold compStart
  refine wpAny_bind (wpAny_askSetting (wpAny_ite ?_))
  split
  · first | exact wpAny_pure ⟨rfl, h0⟩ | exact wpAny_bind (wpAny_pure (wpAny_pure ⟨rfl, h0⟩))
  · refine wpAny_bind (wpAny_rule ?_)
    exact (show wpAny _ _ (standAt i1.pos >>= _) _ _ s from wpAny_bind (wpAny_standAt (wpAny_bind (thn h fun _ _ q => wpAny_pure ⟨rfl, q⟩))))
end
section
variable {X : Cx}
/-- the reading: D is the new set; W and W1 tell how both loops go -/
def tSc2 (w : World) (wi : TI) (g : TG) (wi1 : TI) (g1 : TG) (te : TE) (vs vs1 : List Nat) : TE := fun σ H Q => wi σ H fun J H1 => ∀ D, H1 D = none → ∃ W : Nat → Nat → Hp → Prop, (∃ m, W 0 m (upd H1 D (SetO w D (fun _ => false) 0))) ∧ ∀ i m H, W i m H →
  (J.stop i H ∧ Q (.ref D) H) ∨ (J.go i H ∧ ∃ Nx : Hp → Prop, (∀ H', Nx H' → ∃ m', m' < m ∧ W (i + 1) m' H') ∧ ∀ x H', J.yld i H x H' → g x (wipe σ vs) H' fun σ2 H2 => wipe σ2 vs = wipe σ vs ∧
    wi1 σ2 H2 fun J1 H4 => ∃ W1 : Nat → Nat → Hp → Prop, (∃ m, W1 0 m H4) ∧ ∀ j k H, W1 j k H →
      (J1.stop j H ∧ Nx H) ∨ (J1.go j H ∧ ∃ Nx1 : Hp → Prop, (∀ H', Nx1 H' → ∃ k', k' < k ∧ W1 (j + 1) k' H') ∧ ∀ x H', J1.yld j H x H' → g1 x (wipe σ2 vs1) H' fun σ3 H5 => wipe σ3 vs1 = wipe σ2 vs1 ∧
        te σ3 H5 fun y H7 => ∃ (c : Int) (S : Int → Bool) (n : Nat), y = .int c ∧ H7 D = some (SetO w D S n) ∧ n + 1 < scanBound ∧ Nx1 (upd H7 D (SetO w D (fun j => S j || decide (j = c)) (if S c = true then n else n + 1)))))
/-- an int goes into the set -/
theorem sc2_add {pins : List (Addr × Obj)} {σ : L2.St} {H : Hp} {s : Shared} {E : Value → Shared → Prop} {D : Addr} {S : Int → Bool} {n : Nat} {c : Int} {u : Value} {Q : Value → Shared → Prop} (I : Inv X pins σ H s) (hD : H D = some (SetO X.w D S n)) (few : n + 1 < scanBound) (r : RelV (.int c) u)
    (h : ∀ z, Inv X pins σ (upd H D (SetO X.w D (fun j => S j || decide (j = c)) (if S c = true then n else n + 1))) z → Q .none z) : wpAny (model X.prog X.w) X.A (call (.builtin "set.add") [.ref D, u]) Q E s := by
  obtain ⟨t, rfl⟩ := r
  refine setR_add (setO_get I hD) few fun g sb new => h _ (I.write (e := D) (t' := s.toks + 1) (by rw [hD]; trivial) (.inl rfl) (fun b o nb e => (sb.2 b nb).trans e) ?_ (setO_new new))
  obtain ⟨o, _, _, _, ho, _⟩ := id new
  exact ⟨o, ho⟩
theorem pe_sc2 {elt t0 i0 t1 i1 : Expr} {sc : Scope} {own : List (PySem.Str × Nat)} {vs1 : List Nat} {pos : Pos} {wi wi1 : TI} {g g1 : TG} {te : TE} (calm : X.calm = true) (nd : X.N.Nodup) (src : PI X t0 i0 wi) (ok : BlkOk X.N X.env.scope sc own) (sub : ∀ i ∈ vs1, i ∈ own.map (·.2))
    (tg0 : ∀ (s : Shared) (H : Hp) (C : Addr) (cl : List (PySem.Str × Addr)) (fp : List Addr), PG (X.blk s H sc (compEnvC sc cl C X.env) fp) t0 g)
    (src1 : ∀ (s : Shared) (H : Hp) (C : Addr) (cl : List (PySem.Str × Addr)) (fp : List Addr), PI (X.blk s H sc (compEnvC sc cl C X.env) fp) t1 i1 wi1)
    (tg1 : ∀ (s : Shared) (H : Hp) (C : Addr) (cl : List (PySem.Str × Addr)) (fp : List Addr), PG (X.blk s H sc (compEnvC sc cl C X.env) fp) t1 g1)
    (el : ∀ (s : Shared) (H : Hp) (C : Addr) (cl : List (PySem.Str × Addr)) (fp : List Addr), PE (X.blk s H sc (compEnvC sc cl C X.env) fp) elt te)
    (pl0 : ∀ x, foldedSetIterable i0 X.env x = pure x := by intro _; rfl) (pl1 : ∀ env x, foldedSetIterable i1 env x = pure x := by intro _ _; rfl) :
    PE X (SC2 elt t0 i0 t1 i1 sc pos) (tSc2 X.w wi g wi1 g1 te (own.map (·.2)) vs1) := by
  refine ⟨fun pins s σ H Q I h => ?_⟩
  rw [PpSet.eval_SetComp]
  have free : ∀ y ∈ sc.names, y.2 = .free → ∃ c, X.env.cells.lookup y.1 = some c := fun y hy e => I.ok.has _ (ok.free y hy e)
  refine wpAny_comprehension_free (use := none) rfl pl0 (closure_ok free) ok.kind (fun y hy e => by rw [ok.uniq y hy, e]) (thn (src.run pins s σ H _ I h) fun _ _ hx => thn hx fun _ s2 h2 => ?_)
  obtain ⟨it, fp, tn, J, H2, rfl, I2, T, st2, f2, q⟩ := h2
  refine PpSet.newSet_ok (newEnv_comp ?_)
  -- the new set, the block's frame
  generalize eD : s2.heap.objs.size = D
  obtain ⟨W, ⟨m0, w0⟩, turn⟩ := q D (I2.hok.fresh (Nat.le_of_eq eD))
  have new : SetR X.w (s2.heap.push (set0 X.w)) D (fun _ => false) 0 := by
    have z := L2.setR_new_at (w := X.w) (ns := []) (h := s2.heap.push (set0 X.w)) (a := s2.heap.objs.size) (Heap.get?_push_size _ rfl)
    rw [eD] at z
    exact z.congr fun j => by simp
  have I3 : Inv X pins σ (upd H2 D (SetO X.w D (fun _ => false) 0)) { s2 with heap := s2.heap.push (set0 X.w) } := I2.laid (t' := s2.toks) (fun b o e => Heap.get?_push_of_some _ e) (Nat.le_of_eq eD) (setO_new new)
  have f3 : ∀ b ∈ fp, FpOk X pins (upd H2 D (SetO X.w D (fun _ => false) 0)) b ∧ b < (s2.heap.push (set0 X.w)).objs.size := fun b hb => by
    obtain ⟨o, e, _⟩ := T.obj _ _ st2 b hb
    have lt := Heap.lt_size e
    exact ⟨⟨(upd_ne (eD ▸ Nat.ne_of_lt lt)).trans (f2 b hb).1, (f2 b hb).2⟩, by rw [Heap.size_push]; exact Nat.lt_succ_of_lt lt⟩
  have st3 : tn 0 (s2.heap.push (set0 X.w)) := T.keep _ _ _ st2 fun b _ o e => Heap.get?_push_of_some _ e
  generalize eH : upd H2 D (SetO X.w D (fun _ => false) 0) = H3 at I3 f3 w0
  generalize eS : ({ s2 with heap := s2.heap.push (set0 X.w) } : Shared) = s3 at I3 ⊢
  have sh : s3.heap = s2.heap.push (set0 X.w) := by rw [← eS]
  rw [← sh] at f3 st3
  have I4 := block_start I3 ok nd f3
  have a0 := tg0 s3 H3 s3.heap.objs.size (cellsFrom (s3.heap.objs.size + 1) sc.names (cloFrom X.env.cells sc.names [])) fp
  have a1 := src1 s3 H3 s3.heap.objs.size (cellsFrom (s3.heap.objs.size + 1) sc.names (cloFrom X.env.cells sc.names [])) fp
  have a2 := tg1 s3 H3 s3.heap.objs.size (cellsFrom (s3.heap.objs.size + 1) sc.names (cloFrom X.env.cells sc.names [])) fp
  have a3 := el s3 H3 s3.heap.objs.size (cellsFrom (s3.heap.objs.size + 1) sc.names (cloFrom X.env.cells sc.names [])) fp
  have loc : (compEnvC sc (cellsFrom (s3.heap.objs.size + 1) sc.names (cloFrom X.env.cells sc.names [])) s3.heap.objs.size X.env).locals = s3.heap.objs.size := rfl
  have st4 : tn 0 (pushCells (s3.heap.push { cls := .type "dict", data := .dict #[] }) sc.names) := T.keep _ _ _ st3 fun b _ o e => pushCells_keeps _ _ _ _ (Heap.get?_push_of_some _ e)
  show codeAny _ _ (.compStart (SC2 elt t0 i0 t1 i1 sc pos) 0 (.ref it) (.ref D) (compEnvC sc (cellsFrom (s3.heap.objs.size + 1) sc.names (cloFrom X.env.cells sc.names [])) s3.heap.objs.size X.env)) _ { s3 with heap := pushCells (s3.heap.push { cls := .type "dict", data := .dict #[] }) sc.names }
  generalize compEnvC sc (cellsFrom (s3.heap.objs.size + 1) sc.names (cloFrom X.env.cells sc.names [])) s3.heap.objs.size X.env = ce at I4 a0 a1 a2 a3 loc ⊢
  generalize eS4 : ({ s3 with heap := pushCells (s3.heap.push { cls := .type "dict", data := .dict #[] }) sc.names } : Shared) = s4 at I4 ⊢
  replace st4 : tn 0 s4.heap := by rw [← eS4]; exact st4
  have own_ : ∀ {τ : L2.St} {G : Hp} {z : Shared}, Inv (X.blk s3 H3 sc ce fp) [] τ G z → (∀ b ∈ fp, G b = none) → ∀ b ∈ fp, FpOk (X.blk s3 H3 sc ce fp) [] G b := fun {τ G z} M n b hb =>
    have x := M.ok.exf b hb
    ⟨n b hb, x.1, M.ok.exfs b hb, .inl hb, fun y c e => x.2 y c e, fun p hp => nomatch (show p ∈ ([] : List (Addr × Obj)) from hp)⟩
  have loop : codeAny (model X.prog X.w) X.A (.compLoop (SC2 elt t0 i0 t1 i1 sc pos) 0 (.ref it) (.ref D) ce) (compPost (model X.prog X.w) X.A X.xe none (EP X pins σ Q) (.ref D) s3.heap.objs.size) s4 := by
    refine sc2_loop0 (pl1 ce) (fun n z => ∃ i G, Inv (X.blk s3 H3 sc ce fp) [] (wipe σ (own.map (·.2))) G z ∧ tn i z.heap ∧ (∀ b ∈ fp, G b = none) ∧ W i n G) ?_ m0 ⟨0, H3, I4, st4, fun b hb => (f3 b hb).1.1, w0⟩
    rintro n z ⟨i, G, M, st, off, ww⟩
    rcases turn i n G ww with ⟨stop, qq⟩ | ⟨go, Nx, hNx, step⟩
    · -- the end: back in the def
      refine thnF (T.done (X.blk s3 H3 sc ce fp) rfl rfl rfl calm i [] z _ G (fun _ _ => False) M (own_ M off) st stop) fun r z ⟨er, M⟩ => ?_
      subst er
      have B : Inv X pins σ G z := I3.call' (ch := fp) M.os M.base M.hok M.bare fun b hb => have x := (f3 b hb).1.2; ⟨x.2.2.1, x.1, x.2.2.2.1, x.2.2.2.2⟩
      have nC : G s3.heap.objs.size = none := by rw [← loc]; exact M.free
      obtain ⟨mm, hn, _⟩ := M.loc
      replace hn : z.heap.Ns s3.heap.objs.size mm := by rw [← loc]; exact hn
      have fo := I3.fpOk (H' := G) (Nat.le_refl _) nC
      exact ⟨mm, hn, fun g sb => ⟨.ref D, G, B.turned (t' := z.toks) (fun b o nb e => (sb.2 b nb).trans e) fo.1 fo.2.1 fo.2.2.2.1 fo.2.2.2.2.1 fo.2.2.2.2.2, rfl, qq⟩⟩
    · -- one item of the first source
      refine thnF (T.item (X.blk s3 H3 sc ce fp) rfl rfl rfl calm i [] z _ G (fun _ _ => False) M (own_ M off) st go) fun r z ⟨u, er, h6⟩ => ?_
      subst er
      refine thnF h6 fun _ z7 ⟨x, G7, M7, r7, y7, st7, off7⟩ => ?_
      refine thnF (a0.run _ z7 _ G7 x u _ (M7.pinned (own_ M7 off7) (T.obj _ _ st7)) r7 (step x G7 y7)) fun _ z8 ⟨σ8, G8, M8, w8, q8⟩ => ?_
      refine thnF (a1.run _ z8 σ8 G8 _ M8 q8) fun xv z9 hx => thnF hx fun itv z10 h10 => ?_
      obtain ⟨it1, fp1, tn1, J1, G10, rfl, M10, T1, st10, f10, W1, ⟨m1, w1⟩, turn1⟩ := h10
      have len8 : (wipe σ (own.map (·.2))).length = σ8.length := by rw [← w8, wipe_length]
      -- behind the second loop
      have fin : ∀ {z : Shared} {G : Hp}, Inv (X.blk s3 H3 sc ce fp) ([] ++ pinsAt fp z7.heap) (wipe σ8 vs1) G z → Nx G → ∃ m, m < n ∧ ∃ i G, Inv (X.blk s3 H3 sc ce fp) [] (wipe σ (own.map (·.2))) G z ∧ tn i z.heap ∧ (∀ b ∈ fp, G b = none) ∧ W i m G := fun {z G} M nx => by
        obtain ⟨m', lt, w'⟩ := hNx G nx
        have pin : ∀ b ∈ fp, ∀ o, z7.heap.get? b = some o → z.heap.get? b = some o ∧ G b = none := fun b hb o e =>
          have y := M.pin (b, o) (List.mem_append_right _ (List.mem_append_right _ (mem_pinsAt hb e)))
          ⟨y.1, y.2.1⟩
        refine ⟨m', lt, i + 1, G, (M.unpinned (pins := [])).weak (len8.trans (wipe_length σ8 vs1).symm) (fun j v e => ?_), T.keep _ _ _ st7 fun b hb o e => (pin b hb o e).1, fun b hb => ?_, w'⟩
        · rw [← w8] at e
          have y := wipe_some e
          exact (wipe_out fun m => y.2 (sub j m)).trans y.1
        · obtain ⟨o, e, _⟩ := T.obj _ _ st7 b hb
          exact (pin b hb o e).2
      have own1 : ∀ {G : Hp}, (∀ b ∈ fp1, G b = none) → ∀ b ∈ fp1, FpOk (X.blk s3 H3 sc ce fp) ([] ++ pinsAt fp z7.heap) G b := fun no b hb => ⟨no b hb, (f10 b hb).2⟩
      have inner : codeAny (model X.prog X.w) X.A (.compLoop (SC2 elt t0 i0 t1 i1 sc pos) 1 (.ref it1) (.ref D) ce) (fun r z => match r with
          | .ok _ => ∃ m, m < n ∧ ∃ i G, Inv (X.blk s3 H3 sc ce fp) [] (wipe σ (own.map (·.2))) G z ∧ tn i z.heap ∧ (∀ b ∈ fp, G b = none) ∧ W i m G
          | .error _ => False) z10 := by
        refine sc2_loop1 (fun k z => ∃ j G, Inv (X.blk s3 H3 sc ce fp) ([] ++ pinsAt fp z7.heap) (wipe σ8 vs1) G z ∧ tn1 j z.heap ∧ (∀ b ∈ fp1, G b = none) ∧ W1 j k G) ?_ m1 ⟨0, G10, M10.weak (wipe_length _ _) (fun j v e => (wipe_some e).1), st10, fun b hb => (f10 b hb).1, w1⟩
        rintro k z ⟨j, G, M, st, off, ww⟩
        rcases turn1 j k G ww with ⟨stop1, nx⟩ | ⟨go1, Nx1, hNx1, step1⟩
        · refine thnF (T1.done (X.blk s3 H3 sc ce fp) rfl rfl rfl calm j _ z _ G (fun _ _ => False) M (own1 off) st stop1) fun r z ⟨er, M⟩ => ?_
          subst er
          exact fin M nx
        · refine thnF (T1.item (X.blk s3 H3 sc ce fp) rfl rfl rfl calm j _ z _ G (fun _ _ => False) M (own1 off) st go1) fun r z ⟨u1, er, h13⟩ => ?_
          subst er
          refine thnF h13 fun _ za ⟨x1, Ga, Ma, ra, ya, sa, oa⟩ => ?_
          refine thnF (a2.run _ za _ Ga x1 u1 _ (Ma.pinned (own1 oa) (T1.obj _ _ sa)) ra (step1 x1 Ga ya)) fun _ zb ⟨σb, Gb, Mb, wb, qb⟩ => ?_
          refine thnF (a3.run _ zb σb Gb _ Mb qb) fun uv zc ⟨yv, Gc, Mc, rc, cc, S, cn, ey, hS, few, nx⟩ => ?_
          subst ey
          refine sc2_add (X := X.blk s3 H3 sc ce fp) Mc hS few rc fun zd Md => ?_
          obtain ⟨m', lt, w'⟩ := hNx1 _ nx
          have pin : ∀ b ∈ fp1, ∀ o, za.heap.get? b = some o → zd.heap.get? b = some o ∧ upd Gc D (SetO X.w D (fun j => S j || decide (j = cc)) (if S cc = true then cn else cn + 1)) b = none := fun b hb o e =>
            have y := Md.pin (b, o) (List.mem_append_right _ (List.mem_append_right _ (mem_pinsAt hb e)))
            ⟨y.1, y.2.1⟩
          refine ⟨m', lt, j + 1, _, Md.unpinned.weak (by rw [← wb, wipe_length]) (fun j v e => by rw [← wb] at e; exact (wipe_some e).1), T1.keep _ _ _ sa fun b hb o e => (pin b hb o e).1, fun b hb => ?_, w'⟩
          obtain ⟨o, e, _⟩ := T1.obj _ _ sa b hb
          exact (pin b hb o e).2
      exact sc2_start1 inner (T1.self X.A 0 _ _ _ st10 inner)
  exact PpSet.codeAny_compStart_set loop (T.self X.A 0 _ _ _ st4 loop)
end
end Ew
namespace Ew
open PySem PySem.Spec PyProof.Rows L2
/-! ## sums of digits -/
def stepM (acc ds : List Int) (f : Int) : List Int := acc.flatMap fun t => ds.map fun d => t + f * d
def sumM (zs : List (List Int × Int)) : List Int := zs.foldl (fun acc z => stepM acc z.1 z.2) [0]
theorem sumM_snoc (zs : List (List Int × Int)) (z : List Int × Int) : sumM (zs ++ [z]) = stepM (sumM zs) z.1 z.2 := by unfold sumM; rw [List.foldl_append]; rfl
theorem mem_step {acc ds : List Int} {f k : Int} : k ∈ stepM acc ds f ↔ ∃ t ∈ acc, ∃ d ∈ ds, k = t + f * d := by
  unfold stepM
  simp only [List.mem_flatMap, List.mem_map]
  constructor
  · rintro ⟨t, ht, d, hd, e⟩
    exact ⟨t, ht, d, hd, e.symm⟩
  · rintro ⟨t, ht, d, hd, e⟩
    exact ⟨t, ht, d, hd, e.symm⟩
theorem mem_two {A C : List Int} {t f k : Int} : k ∈ sumM [(A, t), (C, f)] ↔ ∃ a ∈ A, ∃ c ∈ C, k = t * a + f * c := by
  show k ∈ stepM (stepM [0] A t) C f ↔ _
  rw [mem_step]
  constructor
  · rintro ⟨x, hx, c, hc, e⟩
    obtain ⟨z, hz, a, ha, e2⟩ := mem_step.mp hx
    rw [List.mem_singleton.mp hz] at e2
    exact ⟨a, ha, c, hc, by omega⟩
  · rintro ⟨a, ha, c, hc, e⟩
    exact ⟨t * a, mem_step.mpr ⟨0, by simp, a, ha, by omega⟩, c, hc, e⟩
/-- the ascending list of what is in ms -/
structure SortedOf (ns ms : List Int) : Prop where
  asc : ns.Pairwise (· < ·)
  mem : ∀ k, k ∈ ns ↔ k ∈ ms
theorem asc_uniq : ∀ {a b : List Int}, a.Pairwise (· < ·) → b.Pairwise (· < ·) → (∀ k, k ∈ a ↔ k ∈ b) → a = b
  | [], [], _, _, _ => rfl
  | [], y :: ys, _, _, h => absurd ((h y).mpr (by simp)) (by simp)
  | x :: xs, [], _, _, h => absurd ((h x).mp (by simp)) (by simp)
  | x :: xs, y :: ys, ha, hb, h => by
    have a1 := (List.pairwise_cons.mp ha)
    have b1 := (List.pairwise_cons.mp hb)
    have e : x = y := by
      have p := (h x).mp (by simp)
      have q := (h y).mpr (by simp)
      rcases List.mem_cons.mp p with p | p
      · exact p
      · rcases List.mem_cons.mp q with q | q
        · exact q.symm
        · have := b1.1 x p
          have := a1.1 y q
          omega
    subst e
    rw [asc_uniq a1.2 b1.2 fun k => ?_]
    constructor
    · intro hk
      have := a1.1 k hk
      rcases List.mem_cons.mp ((h k).mp (List.mem_cons_of_mem _ hk)) with z | z
      · omega
      · exact z
    · intro hk
      have := b1.1 k hk
      rcases List.mem_cons.mp ((h k).mpr (List.mem_cons_of_mem _ hk)) with z | z
      · omega
      · exact z
theorem SortedOf.uniq {a b ms : List Int} (h : SortedOf a ms) (g : SortedOf b ms) : a = b := asc_uniq h.asc g.asc fun k => (h.mem k).trans (g.mem k).symm
theorem getD_memI {s : List Int} {i : Nat} (h : i < s.length) : s.getD i 0 ∈ s := by
  rw [List.getD_eq_getElem?_getD, List.getElem?_eq_getElem h]
  exact List.getElem_mem h
theorem first_leI {s : List Int} (h : s.Pairwise (· < ·)) : ∀ k ∈ s, firstI s ≤ k := fun k hk => by
  match s, h, hk with
  | x :: xs, h, hk =>
    show x ≤ k
    rcases List.mem_cons.mp hk with z | z
    · omega
    · have := (List.pairwise_cons.mp h).1 k z
      omega
theorem le_lastI {s : List Int} (h : s.Pairwise (· < ·)) : ∀ k ∈ s, k ≤ lastI s := fun k hk => by
  rcases List.eq_nil_or_concat s with z | ⟨m, l, z⟩
  · rw [z] at hk; cases hk
  · rw [List.concat_eq_append] at z
    subst z
    have e : lastI (m ++ [l]) = l := by unfold lastI; simp
    rw [e]
    rcases List.mem_append.mp hk with w | w
    · have := (List.pairwise_append.mp h).2.2 k w l (by simp)
      omega
    · rw [List.mem_singleton.mp w]; omega
/-- the least sum of two digits -/
theorem first_two {ns A C : List Int} {t : Int} (h : SortedOf ns (sumM [(A, t), (C, 1)])) (ha : A.Pairwise (· < ·)) (hc : C.Pairwise (· < ·)) (la : 0 < A.length) (lc : 0 < C.length) : firstI ns = t * (if 0 < t then firstI A else lastI A) + firstI C := by
  have fa : firstI A ∈ A := getD_memI la
  have za : lastI A ∈ A := getD_memI (by omega)
  have fc : firstI C ∈ C := getD_memI lc
  have low : ∀ k ∈ ns, t * (if 0 < t then firstI A else lastI A) + firstI C ≤ k := fun k hk => by
    obtain ⟨a, ha', c, hc', e⟩ := mem_two.mp ((h.mem k).mp hk)
    have c1 := first_leI hc c hc'
    have a1 := first_leI ha a ha'
    have a2 := le_lastI ha a ha'
    split
    · rename_i z
      have : t * firstI A ≤ t * a := Int.mul_le_mul_of_nonneg_left a1 (by omega)
      omega
    · rename_i z
      have : t * lastI A ≤ t * a := Int.mul_le_mul_of_nonpos_left (by omega) a2
      omega
  have memb : t * (if 0 < t then firstI A else lastI A) + firstI C ∈ ns := by
    refine (h.mem _).mpr (mem_two.mpr ?_)
    split
    · exact ⟨_, fa, _, fc, by omega⟩
    · exact ⟨_, za, _, fc, by omega⟩
  have f1 := first_leI h.asc _ memb
  have n1 : 0 < ns.length := List.length_pos_of_mem memb
  have f2 := low _ (getD_memI n1)
  have f2 : t * (if 0 < t then firstI A else lastI A) + firstI C ≤ firstI ns := f2
  omega
/-! ## the number of a row of sums -/
theorem foldl_lin (b t : Int) : ∀ (xs ys : List Int) (p q : Int), xs.length = ys.length → (List.zipWith (fun x y => t * x + y) xs ys).foldl (fun a d => a * b + d) (t * p + q) = t * xs.foldl (fun a d => a * b + d) p + ys.foldl (fun a d => a * b + d) q
  | [], [], p, q, _ => rfl
  | [], _ :: _, _, _, h => absurd h (by simp)
  | _ :: _, [], _, _, h => absurd h (by simp)
  | x :: xs, y :: ys, p, q, h => by
    rw [List.zipWith_cons_cons, List.foldl_cons, List.foldl_cons, List.foldl_cons]
    have e : (t * p + q) * b + (t * x + y) = t * (p * b + x) + (q * b + y) := by
      rw [Int.add_mul, Int.mul_add, Int.mul_assoc]
      omega
    rw [e]
    exact foldl_lin b t xs ys _ _ (by simpa using h)
theorem rowN_lin (b t : Int) {xs ys : List Int} (h : xs.length = ys.length) : rowN b (List.zipWith (fun x y => t * x + y) xs ys) = t * rowN b xs + rowN b ys := by
  have z := foldl_lin b t xs ys 0 0 h
  rw [Int.mul_zero, Int.zero_add] at z
  exact z
/-! ## what is left of a number behind some digits -/
theorem divInt_fr {a b : Int} (hb : b ≠ 0) : Rat.divInt (frN a b) (frD a b) = Rat.divInt a b := by
  obtain ⟨e1, e2⟩ := fr_rat (a := a) hb
  rw [e1, e2, Rat.num_divInt_den]
theorem rs_rat {b g n d : Int} (hd : 0 < d) : Rat.divInt (rsN b g n d) (rsD b g n d) = (b : Rat) * Rat.divInt n d - (g : Rat) := by
  unfold rsN rsD
  rw [divInt_fr (by omega), Rat.divInt_eq_div, Rat.divInt_eq_div]
  have : (d : Rat) ≠ 0 := by
    intro z
    have := Rat.intCast_inj.mp (show ((d : Int) : Rat) = ((0 : Int) : Rat) from z)
    omega
  rw [Rat.intCast_sub, Rat.intCast_mul, Rat.intCast_mul]
  grind
theorem restQ_rat {b : Int} {s : List Int} {M : Int} {q : Int × Int} (h : AreS b s) (b2 : 2 ≤ b) (o : OkQ b s M q) : ∀ i, Rat.divInt (restQ b s q i).1 (restQ b s q i).2 = ((b ^ i : Int) : Rat) * Rat.divInt q.1 q.2 - ((rowN b (rowQ b s q i) : Int) : Rat)
  | 0 => by
    rw [Int.pow_zero]
    show Rat.divInt q.1 q.2 = ((1 : Int) : Rat) * Rat.divInt q.1 q.2 - ((0 : Int) : Rat)
    grind
  | i + 1 => by
    have ih := restQ_rat h b2 o i
    have oi := o.rest h b2 i
    have dp := oi.low.pos
    rw [rowQ_succ, rowN_snoc]
    show Rat.divInt (rsN b (digQ b s q i) (restQ b s q i).1 (restQ b s q i).2) (rsD b (digQ b s q i) (restQ b s q i).1 (restQ b s q i).2) = _
    rw [rs_rat dp, ih, Rat.intCast_add, Rat.intCast_mul, Int.pow_succ, Rat.intCast_mul]
    grind
theorem rowQ_take {b : Int} {s : List Int} {q : Int × Int} {m c : Nat} (h : c ≤ m) : (rowQ b s q m).take c = rowQ b s q c := by
  unfold rowQ
  rw [← List.map_take, List.take_range, Nat.min_eq_left h]
end Ew
/-! sequences of either kind: loops over a list or a tuple, zip of a tuple and a list -/
namespace Ew
open PySem PySem.Spec PyProof.Rows L2
/-- the tuple at a and the list at b, the items in new pairs -/
def ItzM (K : PySem.W.Frag) (a b : Addr) : It :=
  ⟨fun i H => ∃ (xs ys : List V) (x y : V), SqT K H a xs ∧ SqL K H b ys ∧ xs[i]? = some x ∧ ys[i]? = some y,
    fun i H v H' => ∃ T x y, v = .ref T ∧ H T = none ∧ H' = upd H T (.tup [x, y]) ∧ (∀ xs, SqT K H a xs → xs[i]? = some x) ∧ ∀ ys, SqL K H b ys → ys[i]? = some y,
    fun i H => ∃ xs ys : List V, SqT K H a xs ∧ SqL K H b ys ∧ i = min xs.length ys.length⟩
theorem walk_zipTL {K : PySem.W.Frag} {a b : Addr} {xs ys : List V} {n : Nat} (hn : n = min xs.length ys.length) : Walk (ItzM K a b) n (fun H => SqT K H a xs ∧ SqL K H b ys) (YPair (fun i => xs[i]?) (fun i => ys[i]?)) :=
  ⟨fun i H hi q => ⟨xs, ys, xs[i]'(by omega), ys[i]'(by omega), q.1, q.2, by simp, by simp⟩, fun H q => ⟨xs, ys, q.1, q.2, hn⟩,
    fun i H x G hi q ⟨T, u, v, e1, e2, e3, e4, e5⟩ => ⟨T, u, v, e1, e2, e3, e4 xs q.1, e5 ys q.2⟩⟩
theorem five {c z TI TO i1 i2 : Addr} (h : c ∈ [z, TI, TO, i1, i2]) : c = z ∨ c = TI ∨ c = TO ∨ c = i1 ∨ c = i2 := by simpa using h
theorem not2 {x p q : Addr} (h1 : x ≠ p) (h2 : x ≠ q) : x ∉ [p, q] := fun h => by
  rcases List.mem_cons.mp h with h | h
  · exact h1 h
  · exact h2 (List.mem_singleton.mp h)
theorem sep_of {z TI TO i1 i2 a b : Addr} (D : ZipApart z TI TO i1 i2 a b) : ZipSep2 z TI TO i1 i2 [i1, a] [i2, b] :=
  ⟨D.TIz, D.TOz, D.TITO, D.TIi1, List.mem_cons_self .., not2 D.i1z.symm D.l1z.symm, not2 D.TOi1 D.l1TO.symm, D.TIi2, List.mem_cons_self .., not2 D.i2z.symm D.l2z.symm, not2 D.TOi2 D.l2TO.symm, not2 D.i12 D.l2i1.symm, not2 D.i12.symm D.l1i2.symm⟩
theorem turn_zipTL {P : Program} {w : World} {K : PySem.W.Frag} {elts : List Expr} {kk : Nat} {tpos : Pos} {a b z TI TO i1 i2 : Addr} (D : ZipApart z TI TO i1 i2 a b) :
    Turn P w K (.Tuple elts kk tpos) (ItzM K a b) [z, TI, TO, i1, i2] z (fun i h => IsZip h z TI TO .none ∧ IsTupOf2 h TI (.ref i1) (.ref i2) ∧ (∃ x y, IsTupOf2 h TO x y) ∧ h.IsTupleIter i1 a i ∧ h.IsListIter i2 b i) where
  mem := List.mem_cons_self ..
  obj := fun i h st c hc => by
    obtain ⟨hz, hTI, ⟨x, y, hTO⟩, ⟨o1, e1, _, d1⟩, ⟨o2, e2, _, d2⟩⟩ := st
    rcases five hc with rfl | rfl | rfl | rfl | rfl
    · exact ⟨_, hz, fun v q => nomatch q⟩
    · exact ⟨_, hTI, fun v q => nomatch q⟩
    · exact ⟨_, hTO, fun v q => nomatch q⟩
    · exact ⟨o1, e1, fun v q => by rw [d1] at q; cases q⟩
    · exact ⟨o2, e2, fun v q => by rw [d2] at q; cases q⟩
  keep := fun i h h' st k => by
    obtain ⟨hz, hTI, ⟨x, y, hTO⟩, h1, h2⟩ := st
    exact ⟨k z (by simp) _ hz, k TI (by simp) _ hTI, ⟨x, y, k TO (by simp) _ hTO⟩, h1.at fun o q => k i1 (by simp) o q, h2.at fun o q => k i2 (by simp) o q⟩
  item := by
    intro X hP hw hK hc i pins s σ H E I hf st hg
    subst hP hw hK
    obtain ⟨hz, hTI, ⟨x0, y0, hTO⟩, h1, h2⟩ := st
    obtain ⟨xs, ys, x, y, hqx, hqy, hx, hy⟩ := hg
    obtain ⟨its, rv, p, _⟩ := I.tuple hqx
    obtain ⟨its2, rv2, p2, _⟩ := I.list hqy
    obtain ⟨u, hu, ru⟩ := rv.get hx
    obtain ⟨u2, hu2, ru2⟩ := rv2.get hy
    have hh : X.A.handled = none := I.ok.hd hc
    have a1 : its.toArray[i]? = some u := by simpa using hu
    have a2 : its2.toArray[i]? = some u2 := by simpa using hu2
    have lt1 : i < its.toArray.size := (Array.getElem?_eq_some_iff.mp a1).1
    have lt2 : i < its2.toArray.size := (Array.getElem?_eq_some_iff.mp a2).1
    have hzl : z < s.heap.objs.size := Heap.lt_size hz
    refine wpAny_pyNext_zipD2_item (sep_of D) (Draws.tuple (A := X.A.in1) hh i1 a D.l1i1 its.toArray) (Draws.list (A := X.A.in1) hh i2 b D.l2i2 its2.toArray) hz hTI hTO ⟨h1, p⟩ ⟨h2, p2.isList⟩ lt1 lt2 fun x1 x2 h' tk q1 q2 z' TO' st1 st2 hT hsz hk => ?_
    obtain rfl : x1 = u := Option.some.inj (q1.symm.trans a1)
    obtain rfl : x2 = u2 := Option.some.inj (q2.symm.trans a2)
    refine ⟨_, rfl, wpAny_letOwnedTupleGo_zip (s := { s with heap := h', toks := tk }) z' fun h'' z'' sb => ?_⟩
    have up : ∀ c o, c ≠ z → h'.get? c = some o → h''.get? c = some o := fun c o n q => (sb.2 c n).trans q
    have hT2 := up _ _ (Nat.ne_of_gt hzl) hT
    have I1 : Inv X pins σ (upd H s.heap.objs.size (.tup [x, y])) { s with heap := h'', toks := tk } :=
      I.turnedNew (t' := tk) (ch := [z, TI, TO, i1, i2]) (fun c o hb q => up c o (fun q' => hb (by simp [q'])) (hk c o (fun q' => hb (by simp [q'])) (fun q' => hb (by simp [q'])) (fun q' => hb (by simp [q'])) (fun q' => hb (by simp [q'])) q)) hf (Nat.le_refl _)
        ⟨by show 2 ≤ sizeLine; decide, [x1, x2], .cons ru (.cons ru2 .nil), ⟨_, hT2, rfl, _, rfl⟩⟩
    refine ⟨.ref s.heap.objs.size, _, I1, rfl, ⟨_, x, y, rfl, I.hok.fresh (Nat.le_refl _), rfl, fun l hl => by rw [I.tuple_inj hl hqx]; exact hx, fun l hl => by rw [I.list_inj hl hqy]; exact hy⟩, ⟨z'', ?_, ⟨x1, x2, up _ _ D.TOz TO'⟩, st1.1.at fun o q => up _ o D.i1z q, st2.1.at fun o q => up _ o D.i2z q⟩, fun c hcm => ?_⟩
    · exact up _ _ D.TIz (hk _ _ D.TIz D.TITO D.TIi1 D.TIi2 hTI)
    · have hlt : c < s.heap.objs.size := by
        rcases five hcm with rfl | rfl | rfl | rfl | rfl
        · exact hzl
        · exact Heap.lt_size hTI
        · exact Heap.lt_size hTO
        · obtain ⟨_, e1, _⟩ := h1; exact Heap.lt_size e1
        · obtain ⟨_, e2, _⟩ := h2; exact Heap.lt_size e2
      rw [upd_ne (Nat.ne_of_lt hlt)]
      exact (hf c hcm).1
  done := by
    intro X hP hw hK hc i pins s σ H E I hf st hg
    subst hP hw hK
    obtain ⟨hz, hTI, ⟨x0, y0, hTO⟩, h1, h2⟩ := st
    obtain ⟨xs, ys, hqx, hqy, hend⟩ := hg
    obtain ⟨its, rv, p, _⟩ := I.tuple hqx
    obtain ⟨its2, rv2, p2, _⟩ := I.list hqy
    have hh : X.A.handled = none := I.ok.hd hc
    have l1 : its.toArray.size = xs.length := by rw [List.size_toArray]; exact rv.length.symm
    have l2 : its2.toArray.size = ys.length := by rw [List.size_toArray]; exact rv2.length.symm
    refine wpAny_pyNext_zipD2_end (sep_of D) (Draws.tuple (A := X.A.in1) hh i1 a D.l1i1 its.toArray) (Draws.list (A := X.A.in1) hh i2 b D.l2i2 its2.toArray) hz hTI hTO ⟨h1, p⟩ ⟨h2, p2.isList⟩ (by omega) (by omega) (by omega) fun h' tk hk => ⟨rfl, I.turnedL (t' := tk) (ch := [z, TI, TO, i1, i2]) (fun c o hb q =>
      hk c o (fun q' => hb (by simp [q'])) (fun q' => hb (by simp [q'])) (fun q' => hb (by simp [q'])) (fun q' => hb (by simp [q'])) q) hf⟩
  self := fun A i s Q E st h => wpAny_pyIter_zip st.1 h
def iZipTL (K : PySem.W.Frag) (ta : TA) : TI := fun σ H R => ta σ H fun vs H1 => ∃ a b xs ys, vs = [.ref a, .ref b] ∧ SqT K H1 a xs ∧ SqL K H1 b ys ∧ R (ItzM K a b) H1
theorem pi_zipTL {X : Cx} {e e2 : Expr} {ta : TA} {p pos tpos : Pos} {elts : List Expr} {kk : Nat} (hg : Gl X "zip") (hm : X.mg "zip" = none) (ha : PA X [e, e2] ta)
    (hs : starEach [e, e2] X.env = (false, eval e X.env) :: starEach [e2] X.env := by rfl) (hpl : (backTo pos (starEach [e2] X.env)).any (·.1) = false := by rfl) :
    PI X (.Tuple elts kk tpos) (.Call (.Name "zip" p) [e, e2] [] pos) (iZipTL X.K ta) := by
  refine ⟨fun pins s σ H R I h => ?_⟩
  refine Call_ (ld_blt I hg hm PyProof.Rows.boot_zip (PyProof.Rows.callWith_type1 (thn (ha.run pos pins s σ H _ I h) fun us s1 ⟨vs, H1, I1, r1, q1⟩ => ?_) hs hpl))
  obtain ⟨a, b, xs, ys, rfl, hqx, hqy, q⟩ := q1
  cases r1 with
  | cons r rr =>
  cases rr with
  | cons r2 rr =>
  cases rr
  cases r
  cases r2
  obtain ⟨its, rv, p1, _⟩ := I1.tuple hqx
  obtain ⟨its2, rv2, p2, _⟩ := I1.list hqy
  obtain ⟨o1, ho1, _⟩ := id p1
  refine zip_begins2 (begins_tuple a its.toArray) (begins_list b its2.toArray) p1 p2.isList fun h' hz hTI hTO g1 g2 hsz hk => wpAny_pyIter_zip hz ?_
  have I2 : Inv X pins σ H1 { s1 with heap := h' } := I1.kept (t' := s1.toks) hk
  refine ⟨s1.heap.objs.size + 4, [s1.heap.objs.size + 4, s1.heap.objs.size + 2, s1.heap.objs.size + 3, s1.heap.objs.size, s1.heap.objs.size + 1], _, _, H1, rfl, I2, turn_zipTL (PySem.W.ktu_apart s1.heap.objs.size a b (Heap.lt_size ho1) p2.lt), ⟨hz, hTI, ⟨_, _, hTO⟩, ⟨_, g1, rfl, rfl⟩, ⟨_, g2, rfl, rfl⟩⟩, fun c hcm => ?_, q⟩
  have hle : s1.heap.objs.size ≤ c := by
    rcases five hcm with z | z | z | z | z <;> rw [z] <;> first | exact Nat.le_add_right _ _ | exact Nat.le_refl _
  exact I1.fpOk hle (I1.hok.fresh hle)
/-- a loop over a variable: a list or a tuple -/
def iSeqVar (K : PySem.W.Frag) (i : Nat) : TI := fun σ H R => tVar i σ H fun x H1 => ∃ H0 a xs, x = .ref a ∧ Same H0 H1 ∧ SeqV K H0 a xs ∧ ∀ J Gd, Walk J xs.length Gd (YAt xs) → (∀ G', Same H0 G' → Gd G') → R J H1
theorem pi_seqVar {X : Cx} {tg e : Expr} {i : Nat} (he : PE X e (tVar i)) : PI X tg e (iSeqVar X.K i) := ⟨fun pins s σ H R I h => by
  obtain ⟨v, hv, H0, a, xs, rfl, s0, hs, k⟩ := h
  rcases hs with hs | hs
  · exact (pi_list he).run pins s σ H R I ⟨_, hv, a, rfl, ⟨xs, s0.seq hs⟩, k _ _ walk_list fun G' e => e.seq hs⟩
  · exact (pi_tup he).run pins s σ H R I ⟨_, hv, a, rfl, ⟨xs, seqT s0 hs⟩, k _ _ walk_tup fun G' e => seqT e hs⟩⟩
/-- a loop over zip of two variables: a list or a tuple, and a list -/
def iZipVar (K : PySem.W.Frag) (i j : Nat) : TI := fun σ H R => tVar i σ H fun x H1 => tVar j σ H1 fun y H2 => ∃ H0 a b xs ys, x = .ref a ∧ y = .ref b ∧ Same H0 H2 ∧ SeqV K H0 a xs ∧ SqL K H0 b ys ∧ ∀ J Gd, Walk J (min xs.length ys.length) Gd (YPair (fun i => xs[i]?) (fun i => ys[i]?)) → (∀ G', Same H0 G' → Gd G') → R J H2
theorem pi_zipVar {X : Cx} {e e2 : Expr} {i j : Nat} {p pos tpos : Pos} {elts : List Expr} {kk : Nat} (hg : Gl X "zip") (hm : X.mg "zip" = none) (he : PE X e (tVar i)) (he2 : PE X e2 (tVar j)) (ha : PA X [e, e2] (tCons (tVar i) (tCons (tVar j) tNil)))
    (hs : starEach [e, e2] X.env = (false, eval e X.env) :: starEach [e2] X.env := by rfl) (hpl : (backTo pos (starEach [e2] X.env)).any (·.1) = false := by rfl) :
    PI X (.Tuple elts kk tpos) (.Call (.Name "zip" p) [e, e2] [] pos) (iZipVar X.K i j) := ⟨fun pins s σ H R I h => by
  obtain ⟨v, hv, v2, hv2, H0, a, b, xs, ys, rfl, rfl, s0, hs1, hs2, k⟩ := h
  rcases hs1 with hs1 | hs1
  · exact (RZ.pi_zipA hg hm ha hs hpl).run pins s σ H R I ⟨_, hv, _, hv2, a, b, xs, ys, rfl, .inl ⟨s0.seq hs1, s0.seq hs2, k _ _ (walk_zip rfl) fun G' e => ⟨e.seq hs1, e.seq hs2⟩⟩⟩
  · exact (pi_zipTL hg hm ha hs hpl).run pins s σ H R I ⟨_, hv, _, hv2, a, b, xs, ys, rfl, seqT s0 hs1, s0.seq hs2, k _ _ (walk_zipTL rfl) fun G' e => ⟨seqT e hs1, e.seq hs2⟩⟩⟩
end Ew
/-! sums of digit sets keep their gaps small -/
namespace Ew
open PySem PySem.Spec PyProof.Rows L2
structure GapS (b : Int) (S : List Int) (lo hi : Int) : Prop where
  mlo : lo ∈ S
  mhi : hi ∈ S
  le : ∀ x ∈ S, lo ≤ x ∧ x ≤ hi
  gap : ∀ x ∈ S, x < hi → ∃ y ∈ S, x < y ∧ (y - x) * (b - 1) ≤ hi - lo
theorem GapS.zero {b : Int} : GapS b [0] 0 0 :=
  ⟨List.mem_singleton.mpr rfl, List.mem_singleton.mpr rfl, fun x hx => by cases List.mem_singleton.mp hx; exact ⟨Int.le_refl _, Int.le_refl _⟩, fun x hx h => by cases List.mem_singleton.mp hx; omega⟩
theorem idx_of {s : List Int} {x : Int} (h : x ∈ s) : ∃ i, i < s.length ∧ s.getD i 0 = x := by
  obtain ⟨i, hi, rfl⟩ := List.getElem_of_mem h
  exact ⟨i, hi, by rw [List.getD_eq_getElem?_getD, List.getElem?_eq_getElem hi]; rfl⟩
theorem asc_lt {s : List Int} (h : s.Pairwise (· < ·)) {i j : Nat} (hij : i < j) (hj : j < s.length) : s.getD i 0 < s.getD j 0 := by
  have := List.pairwise_iff_getElem.mp h i j (by omega) hj hij
  rw [List.getD_eq_getElem?_getD, List.getD_eq_getElem?_getD, List.getElem?_eq_getElem hj, List.getElem?_eq_getElem (by omega : i < s.length)]
  exact this
theorem mul_l {a c d : Int} (h : 0 ≤ a) (k : c ≤ d) : a * c ≤ a * d := Int.mul_le_mul_of_nonneg_left k h
theorem gapS_of {b f : Int} {ds : List Int} (h : AreS b ds) (asc : ds.Pairwise (· < ·)) (f0 : f ≠ 0) : ∃ lo hi, lo < hi ∧ GapS b (ds.map fun d => f * d) lo hi := by
  have l2 := h.l2
  have e1 : firstI ds = ds.getD 0 0 := rfl
  have e2 : lastI ds = ds.getD (ds.length - 1) 0 := rfl
  have m1 : firstI ds ∈ ds := by rw [e1]; exact getD_memI (by omega)
  have m2 : lastI ds ∈ ds := by rw [e2]; exact getD_memI (by omega)
  have lt : firstI ds < lastI ds := by rw [e1, e2]; exact asc_lt asc (by omega) (by omega)
  have a1 := first_leI asc
  have a2 := le_lastI asc
  rcases Int.lt_or_gt_of_ne f0 with c | c
  · refine ⟨f * lastI ds, f * firstI ds, ?_, List.mem_map.mpr ⟨_, m2, rfl⟩, List.mem_map.mpr ⟨_, m1, rfl⟩, fun x hx => ?_, fun x hx hl => ?_⟩
    · exact Int.mul_lt_mul_of_neg_left lt c
    · obtain ⟨d, hd, rfl⟩ := List.mem_map.mp hx
      exact ⟨Int.mul_le_mul_of_nonpos_left (by omega) (a2 d hd), Int.mul_le_mul_of_nonpos_left (by omega) (a1 d hd)⟩
    · obtain ⟨d, hd, rfl⟩ := List.mem_map.mp hx
      obtain ⟨i, hi, rfl⟩ := idx_of hd
      have i0 : i ≠ 0 := fun z => by rw [z, ← e1] at hl; omega
      obtain ⟨j, rfl⟩ : ∃ j, i = j + 1 := ⟨i - 1, by omega⟩
      have g := h.gap j hi
      have u := asc_lt asc (Nat.lt_succ_self j) hi
      refine ⟨f * ds.getD j 0, List.mem_map.mpr ⟨_, getD_memI (by omega), rfl⟩, Int.mul_lt_mul_of_neg_left u c, ?_⟩
      have k := mul_l (show 0 ≤ -f by omega) g
      have q1 : (f * ds.getD j 0 - f * ds.getD (j + 1) 0) * (b - 1) = -f * ((ds.getD (j + 1) 0 - ds.getD j 0) * (b - 1)) := by grind
      have q2 : f * firstI ds - f * lastI ds = -f * (lastI ds - firstI ds) := by grind
      rw [q1, q2]
      exact k
  · refine ⟨f * firstI ds, f * lastI ds, ?_, List.mem_map.mpr ⟨_, m1, rfl⟩, List.mem_map.mpr ⟨_, m2, rfl⟩, fun x hx => ?_, fun x hx hl => ?_⟩
    · exact Int.mul_lt_mul_of_pos_left lt c
    · obtain ⟨d, hd, rfl⟩ := List.mem_map.mp hx
      exact ⟨mul_l (by omega) (a1 d hd), mul_l (by omega) (a2 d hd)⟩
    · obtain ⟨d, hd, rfl⟩ := List.mem_map.mp hx
      obtain ⟨i, hi, rfl⟩ := idx_of hd
      have i0 : i + 1 < ds.length := by
        rcases Nat.lt_or_ge (i + 1) ds.length with z | z
        · exact z
        · have : i = ds.length - 1 := by omega
          rw [this, ← e2] at hl
          omega
      have g := h.gap i i0
      have u := asc_lt asc (Nat.lt_succ_self i) i0
      refine ⟨f * ds.getD (i + 1) 0, List.mem_map.mpr ⟨_, getD_memI i0, rfl⟩, Int.mul_lt_mul_of_pos_left u c, ?_⟩
      have k := mul_l (show 0 ≤ f by omega) g
      have q1 : (f * ds.getD (i + 1) 0 - f * ds.getD i 0) * (b - 1) = f * ((ds.getD (i + 1) 0 - ds.getD i 0) * (b - 1)) := by grind
      have q2 : f * lastI ds - f * firstI ds = f * (lastI ds - firstI ds) := by grind
      rw [q1, q2]
      exact k
theorem GapS.step {b lo hi lo' hi' f : Int} {S ds : List Int} (h : GapS b S lo hi) (g : GapS b (ds.map fun d => f * d) lo' hi') : GapS b (stepM S ds f) (lo + lo') (hi + hi') := by
  have s1 := (h.le _ h.mhi).1
  have s2 := (g.le _ g.mhi).1
  have mk : ∀ {x y : Int}, x ∈ S → y ∈ ds.map (fun d => f * d) → x + y ∈ stepM S ds f := fun hx hy => by
    obtain ⟨d, hd, rfl⟩ := List.mem_map.mp hy
    exact mem_step.mpr ⟨_, hx, d, hd, rfl⟩
  refine ⟨mk h.mlo g.mlo, mk h.mhi g.mhi, fun x hx => ?_, fun x hx hl => ?_⟩
  · obtain ⟨t, ht, d, hd, rfl⟩ := mem_step.mp hx
    have := h.le t ht
    have := g.le _ (List.mem_map.mpr ⟨d, hd, rfl⟩)
    omega
  · obtain ⟨t, ht, d, hd, rfl⟩ := mem_step.mp hx
    have md : f * d ∈ ds.map (fun d => f * d) := List.mem_map.mpr ⟨d, hd, rfl⟩
    have l1 := h.le t ht
    have l2 := g.le _ md
    by_cases c : t < hi
    · obtain ⟨y, hy, xy, k⟩ := h.gap t ht c
      refine ⟨y + f * d, mk hy md, by omega, ?_⟩
      rw [show y + f * d - (t + f * d) = y - t by omega]
      omega
    · obtain ⟨y, hy, xy, k⟩ := g.gap _ md (by omega)
      refine ⟨t + y, mk ht hy, by omega, ?_⟩
      rw [show t + y - (t + f * d) = y - f * d by omega]
      omega
theorem gap_sum {b : Int} : ∀ (zs : List (List Int × Int)), (∀ z ∈ zs, AreS b z.1 ∧ z.1.Pairwise (· < ·) ∧ z.2 ≠ 0) → ∀ {S : List Int} {lo hi : Int}, GapS b S lo hi → ∃ lo' hi', GapS b (zs.foldl (fun acc z => stepM acc z.1 z.2) S) lo' hi' ∧ hi - lo ≤ hi' - lo' ∧ (zs ≠ [] → lo' < hi')
  | [], _, S, lo, hi, g => ⟨lo, hi, g, Int.le_refl _, fun z => absurd rfl z⟩
  | z :: zs, h, S, lo, hi, g => by
    obtain ⟨h1, h2, h3⟩ := h z List.mem_cons_self
    obtain ⟨l, m, lm, gz⟩ := gapS_of h1 h2 h3
    obtain ⟨l', m', g', le, ne⟩ := gap_sum zs (fun y hy => h y (List.mem_cons_of_mem _ hy)) (g.step gz)
    have := (g.le _ g.mhi).1
    exact ⟨l', m', g', by omega, fun _ => by omega⟩
/-- the sums of digit sets are digits, if they are few and small -/
theorem sum_are {b : Int} {zs : List (List Int × Int)} {ns : List Int} (b2 : 2 ≤ b) (n0 : zs ≠ []) (h : ∀ z ∈ zs, AreS b z.1 ∧ z.1.Pairwise (· < ·) ∧ z.2 ≠ 0) (so : SortedOf ns (sumM zs)) (l24 : ns.length ≤ 24) (lo : -99 ≤ firstI ns) (hi : lastI ns ≤ 99) : AreS b ns := by
  obtain ⟨l, m, g, _, ne⟩ := gap_sum zs h GapS.zero
  have lm := ne n0
  have asc := so.asc
  have ml : l ∈ ns := (so.mem _).mpr g.mlo
  have mm : m ∈ ns := (so.mem _).mpr g.mhi
  have e1 : firstI ns = ns.getD 0 0 := rfl
  have e2 : lastI ns = ns.getD (ns.length - 1) 0 := rfl
  obtain ⟨i, hi1, ei⟩ := idx_of ml
  obtain ⟨j, hj1, ej⟩ := idx_of mm
  have ij : i ≠ j := fun z => by rw [z] at ei; omega
  have f1 : firstI ns = l := by
    have a := first_leI asc _ ml
    have c := (g.le _ ((so.mem _).mp (show firstI ns ∈ ns from e1 ▸ getD_memI (by omega)))).1
    omega
  have f2 : lastI ns = m := by
    have a := le_lastI asc _ mm
    have c := (g.le _ ((so.mem _).mp (show lastI ns ∈ ns from e2 ▸ getD_memI (by omega)))).2
    omega
  refine ⟨by omega, l24, asc.imp fun z => Int.ne_of_lt z, lo, hi, fun k hk => ?_⟩
  have u : ns.getD k 0 < ns.getD (k + 1) 0 := asc_lt asc (Nat.lt_succ_self k) hk
  have le1 := le_lastI asc _ (getD_memI hk)
  obtain ⟨y, hy, xy, q⟩ := g.gap _ ((so.mem _).mp (getD_memI (show k < ns.length by omega))) (by omega)
  obtain ⟨r, hr, er⟩ := idx_of ((so.mem _).mpr hy)
  have kr : k + 1 ≤ r := by
    rcases Nat.lt_trichotomy r k with c | c | c
    · have := asc_lt asc c (by omega); omega
    · rw [c] at er; omega
    · exact c
  have le2 : ns.getD (k + 1) 0 ≤ y := by
    rcases Nat.lt_or_ge (k + 1) r with c | c
    · have := asc_lt asc c hr; omega
    · rw [← er, show r = k + 1 by omega]; exact Int.le_refl _
  rw [f1, f2]
  exact Int.le_trans (Int.mul_le_mul_of_nonneg_right (by omega) (by omega)) q
theorem stepM_len (S ds : List Int) (f : Int) : (stepM S ds f).length = S.length * ds.length := by
  unfold stepM
  induction S with
  | nil => simp
  | cons t S ih => rw [List.flatMap_cons, List.length_append, ih, List.length_map, List.length_cons, Nat.succ_mul, Nat.add_comm]
theorem asc_len : ∀ {ns ms : List Int}, ns.Nodup → (∀ k ∈ ns, k ∈ ms) → ns.length ≤ ms.length
  | [], ms, _, _ => Nat.zero_le _
  | x :: ns, ms, h, m => by
    obtain ⟨h1, h2⟩ := List.nodup_cons.mp h
    have mx := m x List.mem_cons_self
    have ih := asc_len (ms := ms.erase x) h2 fun k hk => (List.mem_erase_of_ne (show k ≠ x from fun z => h1 (by rw [← z]; exact hk))).mpr (m k (List.mem_cons_of_mem _ hk))
    rw [List.length_erase_of_mem mx] at ih
    have := List.length_pos_of_mem mx
    rw [List.length_cons]
    omega
theorem mul_bd {f d : Int} (h : -100 ≤ f ∧ f ≤ 100) (g : -80 ≤ d ∧ d ≤ 80) : -8000 ≤ f * d ∧ f * d ≤ 8000 := by
  have e := Int.natAbs_mul f d
  have l : f.natAbs * d.natAbs ≤ 100 * 80 := Nat.mul_le_mul (by omega) (by omega)
  omega
end Ew
namespace Ew
open PySem PySem.Spec PyProof.Rows L2
/-! ## a def with keyword-only parameters, whole numbers if they are left out -/
def KwIs (K : PySem.W.Frag) (D : Addr) (ks : List (Str × Int)) : Prop := ∀ q ∈ ks, ∃ t, PySem.W.nsIn K D q.1 = some (some (.int q.2 t))
def KwI (K : PySem.W.Frag) (x : Str) (ks : List (Str × Int)) (st : Stmt) (f : Addr) : Prop := ∃ fd, Fun K x x st f fd ∧ FunD K x x (defArgs st) (defBody st) (defScope st) [] (ks.map fun q => (q.1, V.int q.2)) f fd
theorem kwis_nil {K : PySem.W.Frag} {D : Addr} : KwIs K D [] := fun q hq => nomatch hq
theorem kwis_cons {K : PySem.W.Frag} {D : Addr} {p : Str} {n : Int} {ks : List (Str × Int)} {t : Tok} (h : PySem.W.nsIn K D p = some (some (.int n t))) (r : KwIs K D ks) : KwIs K D ((p, n) :: ks) := fun q hq => by
  rcases List.mem_cons.mp hq with e | hq
  · rw [e]; exact ⟨t, h⟩
  · exact r q hq
theorem kwi_mk {K : PySem.W.Frag} {x : Str} {ks : List (Str × Int)} {st : Stmt} {f D : Addr} {oc doc pm cdv ct : Value} {od an : Option Addr} {osl : Array (Option Value)} (l : K.lookup f = some ⟨oc, od, .func (PySem.W.fnOf x x (defArgs st) (defBody st) (defScope st) .none (.ref D) doc pm an cdv ct), osl⟩)
    (c : PySem.W.codeIn K cdv x = true) (k : PySem.W.keepIn K (.ref f) = true) (d : KwIs K D ks) : KwI K x ks st f :=
  ⟨_, fun_mk l c k, ⟨⟨oc, od, .none, .ref D, doc, pm, an, cdv, ct, osl, rfl, l, c, .inl ⟨rfl, rfl⟩, .inr ⟨D, rfl, fun q hq => by
    obtain ⟨q', hq', rfl⟩ := List.mem_map.mp hq
    obtain ⟨t, e⟩ := d q' hq'
    exact ⟨_, e, ⟨_, rfl⟩⟩⟩⟩, k⟩⟩
/-! ## a chain of three comparisons -/
section
variable {X : Cx} {a b c d : Expr} {ta tb tc td : TE} {pos : Pos}
def tChain3 (r r' r'' : R2) (ta tb tc td : TE) : TE := fun σ H Q => ta σ H fun x H1 => tb σ H1 fun y H2 => r x y H2 fun z H3 => ∃ k, z = .bl k ∧
  (if k = true then tc σ H3 fun w' H4 => r' y w' H4 fun z2 H5 => ∃ k2, z2 = .bl k2 ∧ (if k2 = true then td σ H5 fun u' H6 => r'' w' u' H6 Q else Q (.bl false) H5) else Q (.bl false) H3)
theorem pt_chain3 {op op' op'' : CmpOp} {r r' r'' : R2} (ho : OpR X (compareOp op) r) (ho' : OpR X (compareOp op') r') (ho'' : OpR X (compareOp op'') r'') (ha : PE X a ta) (hb : PE X b tb) (hc : PE X c tc) (hd : PE X d td)
    (hm : lastMarks [op, op', op''] [b, c, d] = false := by with_unfolding_all rfl) : PT X (.Compare a [op, op', op''] [b, c, d] pos) (tTest (tChain3 r r' r'' ta tb tc td)) := by
  refine ⟨fun pins s σ H Q I h => ?_⟩
  refine isTrue_chain (thn (ha.run pins s σ H _ I h) fun v s1 ⟨x, H1, I1, r1, q1⟩ => test_link (thn (hb.run pins s1 σ H1 _ I1 q1) fun u s2 ⟨y, H2, I2, r2, q2⟩ =>
    thn (ho pins s2 σ H2 x y v u _ I2 r1 r2 q2) fun d s3 ⟨z, H3, I3, r3, k, e, q3⟩ => ?_)) hm
  subst e
  cases r3
  refine wpAny_truthy_bool ?_
  cases k with
  | false =>
    obtain ⟨k', e', q'⟩ := q3
    cases e'
    exact ite_ff ⟨H3, I3, q'⟩
  | true =>
    refine ite_tt (test_link (thn (hc.run pins s3 σ H3 _ I3 q3) fun w' s4 ⟨z', H4, I4, r4, q4⟩ => thn (ho' pins s4 σ H4 y z' u w' _ I4 r2 r4 q4) fun d' s5 ⟨z2, H5, I5, r5, k2, e2, q5⟩ => ?_))
    subst e2
    cases r5
    refine wpAny_truthy_bool ?_
    cases k2 with
    | false =>
      obtain ⟨k', e', q'⟩ := q5
      cases e'
      exact ite_ff ⟨H5, I5, q'⟩
    | true =>
      refine ite_tt (test_last (thn (hd.run pins s5 σ H5 _ I5 q5) fun v3 s6 ⟨z3, H6, I6, r6, q6⟩ => thn (ho'' pins s6 σ H6 z' z3 w' v3 _ I6 r4 r6 q6) fun d3 s7 ⟨z4, H7, I7, r7, k4, e4, q7⟩ => ?_))
      subst e4
      cases r7
      exact wpAny_truthy_bool ⟨H7, I7, q7⟩
end
end Ew
namespace Ew
open PySem PySem.Spec PyProof.Rows L2
/-! ## the end of a law whose helpers, too, make lambdas: every def's own table is empty at the start -/
theorem walk_tabs {l : PySem.W.OpenLaw} {n k : Nat} {q : Program} {loose : List Str} {XP : (Str → Option Value) → Heap → Prop} {YP : World → Heap → Prop} {d : DefRec} {K : Params → PySem.W.Frag} {CX : World → CXT} {x : Str}
    (hn : l.most = some n) (n2 : n ≤ sizeLine) (hdf : d.params.defaults = []) (hr : Room k callerA) (hY : ∀ (w : World) (h : Heap), YP w h → (K w.params).In h)
    (F : ∀ (w : World) (mg : Str → Option Value) (fa : Addr) (h : Heap), YP w h → (K w.params).In h → h.Ns mainGlobals mg → mg d.name = some (.ref fa) → (∀ e ∈ recsOf q, ∀ fe, mg e.name = some (.ref fe) → LamX.OwnTab (K w.params) fe h) → LamX.LawAtS l w (K w.params) (CX w) k n x mg fa h)
    (hC : ∀ (w : World) (H : Hp) (s : Shared) (e : Value) (s' : Shared), CX w [] H s (fun _ _ _ => False) e s' → False) :
    PySem.W.WalkO q loose XP YP l.row.toRowW d [] (fun f vs => PySem.call f vs) := by
  refine Att.attach_callB hn hdf fun w s₀ s₁ mg mb fa o pm cd doc a vs ns G Y ho hd hcd hmg hobj hints hlen hbits hg => ?_
  have kin := hY w _ Y
  have tabs : ∀ e ∈ recsOf q, ∀ fe, mg e.name = some (.ref fe) → LamX.OwnTab (K w.params) fe s₁.heap := by
    intro e he fe hfe c P o1 fd1 e1 dd vs1 sl k1 k2 k3 k4 k5
    obtain ⟨a', o', fd', c', P', m1, m2, m3, m4, m5, ⟨⟨oc, vc, z1, _, z3, z4⟩, hP⟩⟩ := G.T.tab e he
    obtain rfl : fe = a' := by
      have := hfe.symm.trans m1
      cases this
      rfl
    obtain rfl : o1 = o' := Option.some.inj ((kin _ _ k1).symm.trans m2)
    rw [k2] at m3
    cases m3
    rw [k3] at m4
    cases m4
    have z := (kin _ _ k4).symm.trans z1
    cases z
    cases z3
    rw [k5] at z4
    cases z4
    exact hP
  obtain ⟨fd, cs, sp, hT, nT, C, hb, hsp, hF⟩ := F w mg fa _ Y kin G.T.g hmg tabs
  exact LamX.law_callTs kin G.T.g G.T.b G.T.builtins G.T.nolimit hg hT nT C G.T.bmain hobj hints (Nat.le_trans hlen n2) hr hF hb (fun H hH hS => hsp H a ns hlen hbits hH hS) fun H e s' => hC w H s₁ e s'
end Ew
/-! a head whose size does not grow with the program: facts by names, looked at in one run -/
namespace Ew
open PySem PySem.Spec PyProof.Rows L2 He
section
variable {K : PySem.W.Frag} {C D f A : Addr} {x : Str}
def nmB (K : PySem.W.Frag) (x : Str) (A : Addr) : Bool := eqO (PySem.W.nsIn K mainGlobals x) (some (some (.ref A)))
theorem nmB_ok (h : nmB K x A = true) : PySem.W.nsIn K mainGlobals x = some (some (.ref A)) := eqO_ok h
def frB (K : PySem.W.Frag) (x : Str) : Bool := eqO (PySem.W.nsIn K mainGlobals x) (some none)
theorem frB_ok (h : frB K x = true) : PySem.W.nsIn K mainGlobals x = some none := eqO_ok h
def fdB (K : PySem.W.Frag) (C : Addr) (m : Str) (A : Addr) : Bool := eqO (PySem.W.findIn K (.ref C) m) (some (some (.ref A)))
theorem fdB_ok {m : Str} (h : fdB K C m A = true) : PySem.W.findIn K (.ref C) m = some (some (.ref A)) := eqO_ok h
def naB (K : PySem.W.Frag) (C : Addr) (m : Str) : Bool := eqO (PySem.W.findIn K (.ref C) m) (some none)
theorem naB_ok {m : Str} (h : naB K C m = true) : PySem.W.findIn K (.ref C) m = some none := eqO_ok h
def ciB (K : PySem.W.Frag) (x : Str) (i : Int) : Bool := match PySem.W.nsIn K mainGlobals x with
  | some (some (.int j _)) => decide (j = i)
  | _ => false
theorem ciB_ok {i : Int} (h : ciB K x i = true) : ∃ t, PySem.W.nsIn K mainGlobals x = some (some (.int i t)) := by
  unfold ciB at h
  split at h
  · rename_i j t e
    rw [of_decide_eq_true h] at e
    exact ⟨t, e⟩
  · cases h
def tyB (K : PySem.W.Frag) (f : Addr) : Bool := decide (PySem.W.typeIn K (.ref f) = some (.type "function"))
theorem tyB_ok (h : tyB K f = true) : PySem.W.typeIn K (.ref f) = some (.type "function") := of_decide_eq_true h
def exmB (K : PySem.W.Frag) (C D : Addr) (b : Bool) : Bool := decide (PySem.W.subIn K (.ref D) (.type "BaseException") = some true) && (PySem.W.hasDictIn K D && (decide (PySem.W.typeIn K (.ref D) = some (.type "type")) && decide (PySem.W.subIn K (.ref C) (.ref D) = some b)))
theorem exmB_ok {b : Bool} (h : exmB K C D b = true) : ExmIn K C D b := by
  obtain ⟨h1, h⟩ := ba h
  obtain ⟨h2, h⟩ := ba h
  obtain ⟨h3, h4⟩ := ba h
  exact ⟨of_decide_eq_true h1, h2, of_decide_eq_true h3, of_decide_eq_true h4⟩
def clB (K : PySem.W.Frag) (C : Addr) : Bool := PySem.W.plainGet K C Str.empty && (PySem.W.hasDictIn K C && (PySem.W.plainOver K C && eqO (PySem.W.findIn K (.ref C) "__setattr__") (some (some (.builtin "object.__setattr__")))))
theorem clB_ok (c : clB K C = true) : Cls K C := by
  obtain ⟨c1, c⟩ := ba c
  obtain ⟨c2, c⟩ := ba c
  obtain ⟨c3, c4⟩ := ba c
  exact ⟨c1, c2, c3, eqO_ok c4⟩
def oecB (K : PySem.W.Frag) (C : Addr) : Bool := match K.lookup C with
  | some ⟨.type "type", _, .cls cd, sl⟩ => (match cd.mro, sl.toList with
    | .ref C' :: bm, [_, _, _, _, some (.builtin n), _] => C' == C && n == "ValueError.__new__" && !cd.hasDel && cd.hasDict && PySem.HandSPX.refsVE bm
    | _, _ => false)
  | _ => false
theorem oecB_ok (q : oecB K C = true) : ∃ nm q N bs bm sn sub ab col dd k0 k1 k2 k3 k5, K.lookup C = some (excClassObj nm q C N bs bm true sn sub ab col dd k0 k1 k2 k3 k5 "ValueError.__new__") ∧ PySem.HandSPX.refsVE bm = true := by
  unfold oecB at q
  split at q
  · rename_i dd cd sl ho
    split at q
    · rename_i C' bm k0 k1 k2 k3 n k5 hm hs
      simp only [Bool.and_eq_true, beq_iff_eq, Bool.not_eq_true'] at q
      obtain ⟨⟨⟨⟨rfl, rfl⟩, hdel⟩, hd⟩, ht⟩ := q
      obtain ⟨nm, bs, mro, ns, qn, hd', sn, sub, ab, col, del⟩ := cd
      dsimp only at hm hdel hd
      subst hm hdel hd
      have hsl : sl = #[k0, k1, k2, k3, some (.builtin "ValueError.__new__"), k5] := by
        obtain ⟨l⟩ := sl
        simp only at hs
        rw [hs]
      subst hsl
      exact ⟨nm, qn, ns, bs, bm, sn, sub, ab, col, dd, k0, k1, k2, k3, k5, ho, ht⟩
    · cases q
  · cases q
def oexB (K : PySem.W.Frag) (C : Addr) : Bool := oecB K C && (eqO (PySem.W.findIn K (.ref C) "__setattr__") (some (some (.builtin "object.__setattr__"))) && (decide (PySem.W.subIn K (.ref C) (.type "BaseException") = some true) && (decide (PySem.W.typeIn K (.ref C) = some (.type "type")) && PySem.W.keepIn K (.ref C))))
theorem oexB_ok (h : oexB K C = true) : OexC K C := by
  obtain ⟨h1, h⟩ := ba h
  obtain ⟨h2, h⟩ := ba h
  obtain ⟨h3, h⟩ := ba h
  obtain ⟨h4, h5⟩ := ba h
  exact ⟨oecB_ok h1, eqO_ok h2, of_decide_eq_true h3, of_decide_eq_true h4, h5⟩
/-! ### a law that makes lambdas: its code, its table -/
def cAd (K : PySem.W.Frag) (f : Addr) : Addr := match K.lookup f with
  | some ⟨_, _, .func fd, _⟩ => (match fd.code with
    | .ref c => c
    | _ => 0)
  | _ => 0
def cdB (K : PySem.W.Frag) (f : Addr) : Bool := match K.lookup f with
  | some ⟨_, _, .func fd, _⟩ => (match fd.code with
    | .ref _ => true
    | _ => false)
  | _ => false
def pAd (K : PySem.W.Frag) (c : Addr) : Addr := match K.lookup c with
  | some ⟨_, _, .fields vs, _⟩ => (match (vs[11]? : Option Value) with
    | some (.ref p) => p
    | _ => 0)
  | _ => 0
def vStr : Value → Bool
  | .str _ _ => true
  | _ => false
def vInt : Value → Bool
  | .int _ _ => true
  | _ => false
def vBl : Value → Bool
  | .bool _ => true
  | _ => false
def coB (K : PySem.W.Frag) (c : Addr) : Bool := match K.lookup c with
  | some ⟨.type "code", _, .fields vs, _⟩ => (match (vs[11]? : Option Value) with
    | some (.ref p) => (K.lookup p).isNone && (vStr (vs.getD 18 .none) && (vInt (vs.getD 7 .none) && (vBl (vs.getD 9 .none) && vInt (vs.getD 10 .none))))
    | _ => false)
  | _ => false
theorem coB_ok {c : Addr} (h : coB K c = true) : ∃ vs dd sl, CodeAt K c (pAd K c) vs dd sl := by
  unfold coB at h
  split at h
  · rename_i dd vs sl ho
    split at h
    · rename_i p hp
      obtain ⟨h1, h⟩ := ba h
      obtain ⟨h2, h⟩ := ba h
      obtain ⟨h3, h⟩ := ba h
      obtain ⟨h4, h5⟩ := ba h
      have ep : pAd K c = p := by unfold pAd; rw [ho]; show (match (vs[11]? : Option Value) with | some (.ref p) => p | _ => 0) = p; rw [hp]
      have g11 : vs.getD 11 .none = .ref p := by rw [Array.getD_eq_getD_getElem?, hp]; rfl
      rw [ep]
      refine ⟨vs, dd, sl, ho, hp, ?_, Option.isNone_iff_eq_none.mp h1⟩
      generalize vs.getD 18 .none = v1 at h2
      generalize vs.getD 7 .none = v2 at h3
      generalize vs.getD 9 .none = v3 at h4
      generalize vs.getD 10 .none = v4 at h5
      cases v1 <;> first | cases h2 | skip
      cases v2 <;> first | cases h3 | skip
      cases v3 <;> first | cases h4 | skip
      cases v4 <;> first | cases h5 | skip
      exact ⟨_, _, _, _, _, _, _, g11, rfl, rfl, rfl, rfl⟩
    · cases h
  · cases h
theorem funD_fun {q : Str} {st : Stmt} {fd : FuncData} {kws : List (Str × V)} (F : FunD K x q (defArgs st) (defBody st) (defScope st) [] kws f fd) : Fun K x q st f fd := by
  obtain ⟨oc, od, dV, kV, doc, pm, an, cdv, ct, osl, e, lk, hc, dv, _⟩ := F.ex
  rcases dv with ⟨_, rfl⟩ | ⟨z, _⟩
  · exact ⟨⟨oc, od, kV, doc, pm, an, cdv, ct, osl, e, lk, hc⟩, F.kp⟩
  · exact absurd rfl z
theorem law_lk {st : Stmt} {fd : FuncData} (F : Fun K x x st f fd) (b : cdB K f = true) : ∃ oc od kV doc pm an ct osl, K.lookup f = some ⟨oc, od, .func (PySem.W.fnOf x x (defArgs st) (defBody st) (defScope st) .none kV doc pm an (.ref (cAd K f)) ct), osl⟩ ∧ PySem.W.codeIn K (.ref (cAd K f)) x = true := by
  obtain ⟨oc, od, kV, doc, pm, an, cdv, ct, osl, e, lk, hc⟩ := F.ex
  subst e
  clear F
  cases cdv with
  | ref c =>
    have e : cAd K f = c := by unfold cAd; rw [lk]
    rw [e]
    exact ⟨oc, od, kV, doc, pm, an, ct, osl, lk, hc⟩
  | _ =>
    unfold cdB at b
    rw [lk] at b
    exact absurd (show false = true from b) (by decide)
theorem def_at {q : Str} {st : Stmt} (h : ∃ fd, FunD K x q (defArgs st) (defBody st) (defScope st) [] [] f fd) : DefAt K x q st f := let ⟨fd, F⟩ := h; ⟨fd, funD_fun F⟩
theorem kwi_at {st : Stmt} {ks : List (Str × Int)} (h : ∃ fd, FunD K x x (defArgs st) (defBody st) (defScope st) [] (ks.map fun q => (q.1, V.int q.2)) f fd) : KwI K x ks st f := let ⟨fd, F⟩ := h; ⟨fd, funD_fun F, F⟩
theorem law_at {st : Stmt} (h : ∃ fd, FunD K x x (defArgs st) (defBody st) (defScope st) [] [] f fd) (b : cdB K f = true) : ∃ oc od kV doc pm an ct osl, K.lookup f = some ⟨oc, od, .func (PySem.W.fnOf x x (defArgs st) (defBody st) (defScope st) .none kV doc pm an (.ref (cAd K f)) ct), osl⟩ ∧ PySem.W.codeIn K (.ref (cAd K f)) x = true := let ⟨_, F⟩ := h; law_lk (funD_fun F) b
theorem dflt_at {st : Stmt} {dv : V} (h : ∃ fd, FunD K x x (defArgs st) (defBody st) (defScope st) [dv] [] f fd) : DfltAt K x st dv f := h
theorem ne_at {a b : Addr} (h : (!decide (a = b)) = true) : a ≠ b := fun e => by
  rw [decide_eq_true e] at h
  cases h
end
theorem rec_at {q : Program} {x : Str} (h : ((recsOf q).any fun e => e.name == x) = true) : ∃ e ∈ recsOf q, e.name = x := by
  obtain ⟨e, he, hn⟩ := List.any_eq_true.mp h
  exact ⟨e, he, eq_of_beq hn⟩
/-! ### the Hook -/
/-- the addresses that the facts speak of: the names xs, the methods ms -/
def adrs (xs : List Str) (ms : List (Str × Str)) (g : Addr → Option Obj) : List Addr :=
  (mainGlobals :: growD g (xs.map (ga (frG g [mainGlobals]))) ++ growD g (ms.map fun p => ma (frG g (mainGlobals :: growD g (xs.map (ga (frG g [mainGlobals]))))) (ga (frG g [mainGlobals]) p.1) p.2)).filter fun a => match g a with
    | some ⟨.none, _, .fields _, _⟩ => false
    | _ => true
def obsX (chk : PySem.W.Frag → Bool) (fn : List DefD) (K : PySem.W.Frag) : AlD := (chk K && fn.all fun d => d.ok K, fn.map fun d => fnW K d.at_)
def SaysX (chk : PySem.W.Frag → Bool) (fn : List DefD) (K : PySem.W.Frag) : Prop := obsX chk fn K = valD fn
def obsXG (ad : (Addr → Option Obj) → List Addr) (chk : PySem.W.Frag → Bool) (fn : List DefD) (g : Addr → Option Obj) : AlD := obsX chk fn (frG g (ad g))
def hookX (ad : (Addr → Option Obj) → List Addr) (chk : PySem.W.Frag → Bool) (fn : List DefD) : PySem.W.Hook where
  α := AlD
  obs := fun s => obsXG ad chk fn s.heap.get?
  val := fun _ => valD fn
  says := fun _ h => ∃ K : PySem.W.Frag, K.In h ∧ SaysX chk fn K
  of := fun _ _ e => ⟨_, frG_in, e⟩
  keeps := fun _ _ _ ⟨K, hK, c⟩ k => ⟨K, PySem.W.Frag.In.keeps hK k, c⟩
theorem obsXG_eq {ad : (Addr → Option Obj) → List Addr} {chk : PySem.W.Frag → Bool} {fn : List DefD} {g : Addr → Option Obj} {s : Shared} (h : ∀ a, g a = s.heap.get? a) : obsXG ad chk fn g = (hookX ad chk fn).obs s := by
  have e : g = s.heap.get? := funext h
  rw [e] <;> rfl
section
variable {ck : PySem.W.Frag → Bool} {fn : List DefD} {K : PySem.W.Frag}
theorem SaysX.all_ (c : SaysX ck fn K) : ck K = true := (ba (show (ck K && fn.all fun d => d.ok K) = true from congrArg (fun z : AlD => z.1) c)).1
theorem SaysX.def_ (c : SaysX ck fn K) (i : Nat) {d : DefD} (h : fn[i]? = some d := by rfl) : ∃ fd, FunD K d.name d.qual d.params d.body d.scope (d.dvs K) (d.kws K) (fAd K d.at_) fd := by
  have c2 := (ba (show (ck K && fn.all fun d => d.ok K) = true from congrArg (fun z : AlD => z.1) c)).2
  have e : fn.map (fun d => fnW K d.at_) = fn.map DefD.val := congrArg (fun z : AlD => z.2) c
  have e2 : (fn.map fun d => fnW K d.at_)[i]? = (fn.map DefD.val)[i]? := by rw [e]
  rw [List.getElem?_map, List.getElem?_map, h] at e2
  exact DefD.funD (Option.some.inj e2) (List.all_eq_true.mp c2 d (List.mem_of_getElem? h))
end
theorem getB {l : List Bool} (h : l.all id = true) (i : Nat) {b : Bool} (e : l[i]? = some b := by rfl) : b = true := List.all_eq_true.mp h b (List.mem_of_getElem? e)
/-! ### the end -/
theorem walk_x {l : PySem.W.OpenLaw} {n k : Nat} {q : Program} {loose : List Str} {XP : (Str → Option Value) → Heap → Prop} {YP : World → Heap → Prop} {d : DefRec} {CX : World → CXT} {x : Str}
    (hn : l.most = some n) (n2 : n ≤ sizeLine) (hdf : d.params.defaults = []) (hr : Room k callerA)
    (F : ∀ (w : World) (mg : Str → Option Value) (fa : Addr) (h : Heap), YP w h → h.Ns mainGlobals mg → mg d.name = some (.ref fa) → (∀ K : PySem.W.Frag, K.In h → ∀ e ∈ recsOf q, ∀ fe, mg e.name = some (.ref fe) → LamX.OwnTab K fe h) → ∃ K : PySem.W.Frag, K.In h ∧ LamX.LawAtS l w K (CX w) k n x mg fa h)
    (hC : ∀ (w : World) (H : Hp) (s : Shared) (e : Value) (s' : Shared), CX w [] H s (fun _ _ _ => False) e s' → False) :
    PySem.W.WalkO q loose XP YP l.row.toRowW d [] (fun f vs => PySem.call f vs) := by
  refine Att.attach_callB hn hdf fun w s₀ s₁ mg mb fa o pm cd doc a vs ns G Y ho hd hcd hmg hobj hints hlen hbits hg => ?_
  have tabs : ∀ K : PySem.W.Frag, K.In s₁.heap → ∀ e ∈ recsOf q, ∀ fe, mg e.name = some (.ref fe) → LamX.OwnTab K fe s₁.heap := by
    intro K kin e he fe hfe c P o1 fd1 e1 dd vs1 sl k1 k2 k3 k4 k5
    obtain ⟨a', o', fd', c', P', m1, m2, m3, m4, m5, ⟨⟨oc, vc, z1, _, z3, z4⟩, hP⟩⟩ := G.T.tab e he
    obtain rfl : fe = a' := by
      have := hfe.symm.trans m1
      cases this
      rfl
    obtain rfl : o1 = o' := Option.some.inj ((kin _ _ k1).symm.trans m2)
    rw [k2] at m3
    cases m3
    rw [k3] at m4
    cases m4
    have z := (kin _ _ k4).symm.trans z1
    cases z
    cases z3
    rw [k5] at z4
    cases z4
    exact hP
  obtain ⟨K, kin, fd, cs, sp, hT, nT, C, hb, hsp, hF⟩ := F w mg fa _ Y G.T.g hmg tabs
  exact LamX.law_callTs kin G.T.g G.T.b G.T.builtins G.T.nolimit hg hT nT C G.T.bmain hobj hints (Nat.le_trans hlen n2) hr hF hb (fun H hH hS => hsp H a ns hlen hbits hH hS) fun H e s' => hC w H s₁ e s'
end Ew
namespace K26
open PySem PySem.Spec PyProof.Rows L2 Ew
def top (i : Nat) : Stmt := PySem.Challenge.pw_earlywrite_k26_errors_of_tasks.main.body.getD i (.Pass ⟨0, 0, 0, 0⟩)
abbrev sWall : Stmt := top 0
abbrev sEarlyError_init : Stmt := inClass (top 2) 0
abbrev sInvalidBase_init : Stmt := inClass (top 3) 0
abbrev sInvalidDigits_init : Stmt := inClass (top 4) 0
abbrev sInvalidRow_init : Stmt := inClass (top 5) 0
abbrev sInvalidPoints_init : Stmt := inClass (top 6) 0
abbrev sInvalidDelay_init : Stmt := inClass (top 7) 0
abbrev sIncompatible_init : Stmt := inClass (top 8) 0
abbrev sOutOfRange_init : Stmt := inClass (top 9) 0
abbrev sNotRedundant_init : Stmt := inClass (top 10) 0
abbrev sLimitReached_init : Stmt := inClass (top 11) 0
abbrev sUndefinedName_init : Stmt := inClass (top 12) 0
abbrev sEmptyHistory_init : Stmt := inClass (top 13) 0
abbrev sFraction : Stmt := top 15
abbrev sGcd : Stmt := top 16
abbrev sSumOf : Stmt := top 17
abbrev sDifference : Stmt := top 18
abbrev sProduct : Stmt := top 19
abbrev sQuotient : Stmt := top 20
abbrev sIsLess : Stmt := top 21
abbrev sIsWithin : Stmt := top 22
abbrev sIsBetween : Stmt := top 23
abbrev sSmallerOf : Stmt := top 24
abbrev sGreaterOf : Stmt := top 25
abbrev sLineFunction_init : Stmt := inClass (top 29) 0
abbrev sLineFunction_len : Stmt := inClass (top 29) 1
abbrev sLineFunction_eq : Stmt := inClass (top 29) 2
abbrev sLineFunction_repr : Stmt := inClass (top 29) 3
abbrev sLineFunction_points : Stmt := inClass (top 29) 4
abbrev sLineFunction_low : Stmt := inClass (top 29) 5
abbrev sLineFunction_high : Stmt := inClass (top 29) 6
abbrev sLineFunction_least : Stmt := inClass (top 29) 7
abbrev sLineFunction_greatest : Stmt := inClass (top 29) 8
abbrev sLineFunction_value : Stmt := inClass (top 29) 9
abbrev sIsAscending : Stmt := top 30
abbrev sNormalForm : Stmt := top 31
abbrev sSlopeOf : Stmt := top 32
abbrev sHeightAt : Stmt := top 33
abbrev sHeightOn : Stmt := top 34
abbrev sCutPoints : Stmt := top 35
abbrev sStraight : Stmt := top 36
abbrev sIsSafe : Stmt := top 38
abbrev sIsDefinedOn : Stmt := top 39
abbrev sPointsAfterRead : Stmt := top 40
abbrev sPointsAfterWrite : Stmt := top 41
abbrev sAreSafe : Stmt := top 42
abbrev sSafeDigits : Stmt := top 43
abbrev sCheckTask : Stmt := top 48
abbrev sCheckDelay : Stmt := top 49
abbrev sNextPhase : Stmt := top 50
abbrev sReadDigits : Stmt := top 51
abbrev sWrittenDigits : Stmt := top 52
abbrev sPointsRead : Stmt := top 53
abbrev sPointsWritten : Stmt := top 54
abbrev sStateBehind : Stmt := top 55
abbrev sCountStates : Stmt := top 56
abbrev sExplore : Stmt := top 57
abbrev sFollowersOf : Stmt := top 58
abbrev sLostStates : Stmt := top 59
abbrev sUsersOf : Stmt := top 60
abbrev sDecide : Stmt := top 61
abbrev sDecided : Stmt := top 62
abbrev sTableOf : Stmt := top 63
abbrev sRefutationOf : Stmt := top 64
abbrev sNeededStates : Stmt := top 65
abbrev sPlaceOutside : Stmt := top 66
abbrev sLeastDelay : Stmt := top 67
abbrev sCheckTable : Stmt := top 68
abbrev sIsTableRow : Stmt := top 69
abbrev sIsTableMove : Stmt := top 70
abbrev sCheckRefutation : Stmt := top 71
abbrev sIsRefutationRow : Stmt := top 72
abbrev sIsOutcome : Stmt := top 73
abbrev sIsIndex : Stmt := top 74
abbrev sArePointsOn : Stmt := top 75
abbrev sDigitSet_init : Stmt := inClass (top 83) 0
abbrev sDigitSet_len : Stmt := inClass (top 83) 1
abbrev sDigitSet_eq : Stmt := inClass (top 83) 2
abbrev sDigitSet_repr : Stmt := inClass (top 83) 3
abbrev sDigitSet_low : Stmt := inClass (top 83) 4
abbrev sDigitSet_high : Stmt := inClass (top 83) 5
abbrev sDigitSet_is_redundant : Stmt := inClass (top 83) 6
abbrev sDigitSet_value : Stmt := inClass (top 83) 7
abbrev sDigitSet_row_of : Stmt := inClass (top 83) 8
abbrev sDigitSet_has_row : Stmt := inClass (top 83) 9
abbrev sDigitSet_has_number : Stmt := inClass (top 83) 10
abbrev sDigitSet_rest_behind : Stmt := inClass (top 83) 11
abbrev sDigitSet_least_first_digit : Stmt := inClass (top 83) 12
abbrev sAreDigits : Stmt := top 84
abbrev sWidestGap : Stmt := top 85
abbrev sSpread : Stmt := top 86
abbrev sBegin : Stmt := top 88
abbrev sDraw : Stmt := top 89
abbrev sPick : Stmt := top 90
abbrev sField : Stmt := top 91
abbrev sOutcome : Stmt := top 92
abbrev sLawTag : Stmt := top 93
abbrev sLowest : Stmt := top 94
abbrev sLawPlus : Stmt := top 95
abbrev sLawMinus : Stmt := top 96
abbrev sLawTimes : Stmt := top 97
abbrev sLawOver : Stmt := top 98
abbrev sLawEnds : Stmt := top 99
abbrev sLawAreDigits : Stmt := top 100
abbrev sLawDigits : Stmt := top 101
abbrev sLawInInterval : Stmt := top 102
abbrev sLawSet : Stmt := top 103
abbrev sLawPoints : Stmt := top 104
abbrev sLawSlope : Stmt := top 105
abbrev sLawNormal : Stmt := top 106
abbrev sLawTask : Stmt := top 107
abbrev sLawShrunk : Stmt := top 108
abbrev sLawMade : Stmt := top 109
abbrev sLawTags : Stmt := top 110
abbrev sLaw : Stmt := top 111
section
variable {P : Program} {w : World} {K : PySem.W.Frag} {mg : Str → Option Value} {base : Heap}
structure TxtR (mg : Str → Option Value) : Prop where
  len : mg "len" = none
  list : mg "list" = none
/-! ## _law_begin -/
def spBegin (K : PySem.W.Frag) : Sp := fun vs H Q _ => ∃ (a : Addr) (ns : List Int), vs = [.ref a] ∧ SqL K H a (ns.map V.int) ∧ ns.length ≤ 63 ∧
  ∀ (G : Hp) (p q : Addr) (sd : Int), Same H G → RngAt G p q ns 0 0 sd → H p = none → H q = none → Q (.ref p) G
theorem scBegin : FnScope ["_law_script", "_law_seed", "_law_cell"] ["_law_script"] (defScope sBegin) := ⟨rfl, rfl, rfl, by decide +kernel, rfl, by decide +kernel, by decide +kernel⟩
theorem ok_begin {f : Addr} {fd : FuncData} (F : Fun K "_law_begin" "_law_begin" sBegin f fd) (T : TxtR mg) : FnOk P w K mg base CX0 1 f fd ["_law_script"] (spBegin K) := by
  refine F.ok scBegin (fun vs H Q E h => ?_) (fun cdv A outer s H vs Q E hr h => ?_)
  · obtain ⟨a, ns, rfl, _⟩ := h
    rfl
  · obtain ⟨a, ns, rfl, hS, hl, k⟩ := h
    refine ⟨_, pss_cons (ps_set (i := 1) scBegin.nd rfl (Or.inl rfl) (pe_op op_add pe_int (pe_callB call_len_seq (by rfl) T.len PySem.boot_len (pa_cons (pe_slice sl_list (pv 0) po_none (po_some pe_int)) pa_nil))))
      (pss_cons (ps_for PassesOwn.never rfl (pi_list (pe_slice sl_list (pv 0) po_none (po_some pe_int))) (pg_name (i := 2) scBegin.nd rfl (Or.inl rfl))
        (pss_one (ps_set (i := 1) scBegin.nd rfl (Or.inl rfl) (pe_op op_mod (pe_op op_add (pe_op op_add (pe_op op_mul (pv 1) pe_int) (pe_op op_mod (pv 2) pe_int)) pe_int) pe_int))))
      (pss_one (ps_ret (pe_lst (pa_cons (pe_callTy call_list_of (by rfl) T.list (by decide +kernel) (pa_cons (pe_slice sl_list (pv 0) po_none (po_some pe_int)) pa_nil)) (pa_cons pe_int (pa_cons pe_int (pa_cons (pv 1) pa_nil)))))))), ?_⟩
    refine ⟨_, rfl, _, rfl, a, _, rfl, hS, fun p1 n1 => ?_⟩
    rw [cut63 hl]
    have s1 : Same H (upd H p1 (.lst (ns.map V.int))) := fun b o e => by rw [upd_ne (ne_of_none e n1)]; exact e
    refine ⟨p1, _, rfl, .inl (SqL.of upd_same), _, _, rfl, rfl, ?_⟩
    refine ⟨_, rfl, _, rfl, a, _, rfl, s1.seq hS, fun p2 n2 => ?_⟩
    rw [cut63 hl]
    have s2 : Same H (upd (upd H p1 (.lst (ns.map V.int))) p2 (.lst (ns.map V.int))) := fun b o e => by rw [upd_ne (ne_of_none (s1 b o e) n2)]; exact s1 b o e
    refine ⟨p2, rfl, ⟨_, SqL.of upd_same⟩, for_list (K := K) (a := p2) (xs := ns.map V.int) (fun i σ G => G = upd (upd H p1 (.lst (ns.map V.int))) p2 (.lst (ns.map V.int)) ∧ ∃ (sd : Int) (c : Option V), σ = [some (.ref a), some (.int sd), c] ∧ 0 ≤ sd ∧ sd < 2147483549)
      ⟨rfl, _, none, rfl, ?_, ?_⟩ (fun i σ G _ ⟨e, _⟩ => by rw [e]; exact SqL.of upd_same) ?_ ?_⟩
    · rw [List.length_map]; omega
    · rw [List.length_map]; omega
    · rintro i y σ G hi ⟨rfl, sd, c, rfl, h0, h1⟩
      obtain ⟨z, rfl⟩ := map_int_at hi
      refine ⟨_, rfl, sd, 40009, rfl, rfl, mul_small (by omega) (by omega), _, rfl, z, 2147483549, rfl, rfl, (by show (0 : Int) < 2147483549; decide), _, _, rfl, rfl, _, _, rfl, rfl, _, _, rfl, rfl, (by show (0 : Int) < 2147483549; decide), ?_⟩
      exact ⟨rfl, _, _, rfl, Int.emod_nonneg _ (by decide), Int.emod_lt_of_pos _ (by decide)⟩
    · rintro σ G ⟨rfl, sd, c, rfl, h0, h1⟩
      refine ⟨_, rfl, _, rfl, a, _, rfl, s2.seq hS, fun p3 n3 => ?_⟩
      rw [cut63 hl]
      have s3 := s2.trans (H2 := upd (upd (upd H p1 (.lst (ns.map V.int))) p2 (.lst (ns.map V.int))) p3 (.lst (ns.map V.int))) fun b o e => by rw [upd_ne (ne_of_none e n3)]; exact e
      refine ⟨p3, _, rfl, .inl (SqL.of upd_same), fun q n4 => ?_⟩
      have s4 := s3.trans (H2 := upd (upd (upd (upd H p1 (.lst (ns.map V.int))) p2 (.lst (ns.map V.int))) p3 (.lst (ns.map V.int))) q (.lst (ns.map V.int))) fun b o e => by rw [upd_ne (ne_of_none e n4)]; exact e
      refine ⟨_, rfl, (by show 4 ≤ sizeLine; decide), fun p n5 => ?_⟩
      have nqp : q ≠ p := fun e => by rw [← e, upd_same] at n5; cases n5
      refine k _ p q sd (fun b o e => by rw [upd_ne (ne_of_none (s4 b o e) n5)]; exact s4 b o e) ⟨upd_same, ?_, hl, ⟨by omega, by omega, h0, h1⟩, nqp⟩ (s4.free n5) (s3.free n4)
      rw [upd_ne nqp, upd_same]
/-! ## _law_draw -/
def spDraw : Sp := fun vs H Q _ => ∃ (p q : Addr) (ns : List Int) (i v sd many : Int), vs = [.ref p, .int many] ∧ RngAt H p q ns i v sd ∧ 0 < many ∧ many.natAbs < 2 ^ 8000 ∧
  ∀ r i' v' sd' : Int, 0 ≤ r → r < many → RngOk i' v' sd' → Q (.int r) (upd H p (.lst (rngL q i' v' sd')))
theorem scDraw : FnScope ["_law_rng", "_law_many", "_law_cell", "_law_got", "_law_seed"] ["_law_rng", "_law_many"] (defScope sDraw) := ⟨rfl, rfl, rfl, by decide +kernel, rfl, by decide +kernel, by decide +kernel⟩
theorem ok_draw {f : Addr} {fd : FuncData} (F : Fun K "_law_draw" "_law_draw" sDraw f fd) (T : TxtR mg) : FnOk P w K mg base CX0 1 f fd ["_law_rng", "_law_many"] spDraw := by
  refine F.ok scDraw (fun vs H Q E h => ?_) (fun cdv A outer s H vs Q E hr h => ?_)
  · obtain ⟨p, q, ns, i, v, sd, many, rfl, _⟩ := h
    rfl
  · obtain ⟨p, q, ns, i, v, sd, many, rfl, R, hm, hmz, k⟩ := h
    refine ⟨_, C8.pss_cut (ps_if (PW.pt (pw_and (pt_cmpR op_eq (pe_ix ix_list (pv 0) pe_int (fun _ _ => rfl)) pe_int (nomark _)) (pw_and1 (pt_cmpR op_lt (pe_ix ix_list (pv 0) pe_int (fun _ _ => rfl)) (pe_callB call_len_seq (by rfl) T.len PySem.boot_len (pa_cons (pe_ix ix_list (pv 0) pe_int (fun _ _ => rfl)) pa_nil)) (nomark _)))))
        (pss_cons (ps_set (i := 2) scDraw.nd rfl (Or.inl rfl) (pe_ix ix_list (pe_ix ix_list (pv 0) pe_int (fun _ _ => rfl)) (pe_ix ix_list (pv 0) pe_int (fun _ _ => rfl)) (fun _ _ => rfl)))
        (pss_cons (ps_asg (pe_op op_add (pe_ix ix_list (pv 0) pe_int (fun _ _ => rfl)) pe_int) (pg_sub (pv 0) pe_int set_list))
        (pss_one (ps_if (pt_cmpR op_ge (pv 2) (pe_op op_pow pe_int pe_int) (nomark _)) (pss_one (ps_asg (pv 2) (pg_sub (pv 0) pe_int set_list)))
          (pss_one (ps_asg (pe_op op_mod (pe_op op_add (pe_op op_add (pe_op op_mul (pe_ix ix_list (pv 0) pe_int (fun _ _ => rfl)) pe_int) (pe_op op_mul (pe_op op_mod (pv 2) pe_int) pe_int)) pe_int) pe_int) (pg_sub (pv 0) pe_int set_list)))))))
        pss_nil)
      (pss_cons (ps_if (pt_cmpR op_gt (pe_ix ix_list (pv 0) pe_int (fun _ _ => rfl)) pe_int (nomark _))
        (pss_cons (ps_set (i := 3) scDraw.nd rfl (Or.inl rfl) (pe_op op_mod (pe_ix ix_list (pv 0) pe_int (fun _ _ => rfl)) (pv 1)))
        (pss_cons (ps_asg (pe_op op_fdivW (pe_ix ix_list (pv 0) pe_int (fun _ _ => rfl)) (pv 1)) (pg_sub (pv 0) pe_int set_list))
        (pss_one (ps_ret (pv 3))))) pss_nil)
      (pss_cons (ps_set (i := 4) scDraw.nd rfl (Or.inl rfl) (pe_ix ix_list (pv 0) pe_int (fun _ _ => rfl)))
      (pss_cons (ps_asg (pe_op op_mod (pe_op op_add (pe_op op_add (pe_op op_mul (pv 4) (pe_op op_add (pe_op op_mod (pv 4) pe_int) pe_int)) (pe_op op_mul (pv 4) pe_int)) pe_int) pe_int) (pg_sub (pv 0) pe_int set_list))
      (pss_one (ps_ret (pe_op op_mod (pe_op op_add (pe_op op_fdiv (pe_ix ix_list (pv 0) pe_int (fun _ _ => rfl)) pe_int) (pe_op op_mul (pe_op op_mod (pe_ix ix_list (pv 0) pe_int (fun _ _ => rfl)) pe_int) pe_int)) (pv 1))))))), ?_⟩
    refine ⟨fun σ G => ∃ (c : Option V) (i' v' sd' : Int), σ = [some (.ref p), some (.int many), c, none, none] ∧ RngOk i' v' sd' ∧ G = upd H p (.lst (rngL q i' v' sd')), ?_, ?_⟩
    · obtain ⟨i0, v0, sd0, sd1⟩ := R.ok
      refine ⟨_, rfl, p, _, _, _, rfl, rfl, SqL.of R.at_p, rng_2, rfl, _, rfl, ?_⟩
      by_cases c1 : v = 0
      · subst c1
        refine ifT (decide_eq_true rfl) ?_
        refine ⟨_, rfl, p, _, _, _, rfl, rfl, SqL.of R.at_p, rng_1, _, rfl, p, _, _, _, rfl, rfl, SqL.of R.at_p, rng_0, q, _, rfl, .inl (SqL.of R.at_q), _, _, rfl, rfl, _, rfl, ?_⟩
        rw [List.length_map]
        by_cases c2 : i < (ns.length : Int)
        · refine ifT (decide_eq_true c2) ?_
          obtain ⟨c, hc, hat⟩ := get_int i0 c2
          refine ⟨_, rfl, p, _, _, _, rfl, rfl, SqL.of R.at_p, rng_0, _, rfl, p, _, _, _, rfl, rfl, SqL.of R.at_p, rng_1, q, _, _, _, rfl, rfl, SqL.of R.at_q, hat, ?_⟩
          refine ⟨_, rfl, p, _, _, _, rfl, rfl, SqL.of R.at_p, rng_1, _, _, rfl, rfl, _, rfl, p, _, _, 1, rfl, rfl, R.at_p, rfl, ?_⟩
          refine ⟨_, rfl, _, _, rfl, rfl, (by show (0 : Int) ≤ 18 ∧ (18 : Int) ≤ 1000000 ∧ (10 : Int).natAbs < 2 ^ 64; decide), _, _, rfl, rfl, _, rfl, ?_⟩
          by_cases c3 : (10 : Int) ^ (18 : Int).toNat ≤ c
          · refine ifT (decide_eq_true c3) ?_
            refine ⟨_, rfl, _, rfl, p, _, _, 2, rfl, rfl, upd_same, rfl, ?_⟩
            refine ⟨_, i + 1, c, sd, rfl, ⟨by omega, ?_, sd0, sd1⟩, upd_upd⟩
            exact Int.le_trans (by decide) c3
          · refine ifF (decide_eq_false c3) ?_
            refine ⟨_, rfl, p, _, _, _, rfl, rfl, SqL.of upd_same, rfl, sd, 44111, rfl, rfl, mul_small (by omega) (by omega), _, rfl, c, 2147483549, rfl, rfl, (by show (0 : Int) < 2147483549; decide), c % 2147483549, 70001, rfl, rfl, ?_, _, _, rfl, rfl, _, _, rfl, rfl, _, _, rfl, rfl, (by show (0 : Int) < 2147483549; decide),
              _, rfl, p, _, _, 3, rfl, rfl, upd_same, rfl, ?_⟩
            · have := Int.emod_nonneg c (by decide : (2147483549 : Int) ≠ 0)
              have := Int.emod_lt_of_pos c (by decide : (0 : Int) < 2147483549)
              exact mul_small (by omega) (by omega)
            · exact ⟨_, i + 1, 0, _, rfl, ⟨by omega, by omega, Int.emod_nonneg _ (by decide), Int.emod_lt_of_pos _ (by decide)⟩, upd_upd⟩
        · exact ifF (decide_eq_false c2) ⟨none, i, 0, sd, rfl, R.ok, (upd_id R.at_p).symm⟩
      · exact ifF (eq_int c1) (iteF ⟨none, i, v, sd, rfl, R.ok, (upd_id R.at_p).symm⟩)
    · rintro σ G ⟨c, i', v', sd', rfl, ⟨i0, v0, s0, s1⟩, rfl⟩
      refine ⟨_, rfl, p, _, _, _, rfl, rfl, SqL.of upd_same, rng_2, _, _, rfl, rfl, _, rfl, ?_⟩
      by_cases c1 : 0 < v'
      · refine ifT (decide_eq_true c1) ?_
        refine ⟨_, rfl, p, _, _, _, rfl, rfl, SqL.of upd_same, rng_2, _, rfl, _, _, rfl, rfl, hm, ?_⟩
        refine ⟨_, rfl, p, _, _, _, rfl, rfl, SqL.of upd_same, rng_2, _, rfl, _, _, rfl, rfl, wide_div hm hmz (by decide) (by decide), _, rfl, p, _, _, 2, rfl, rfl, upd_same, rfl, _, rfl, ?_⟩
        rw [upd_upd]
        exact k _ i' _ sd' (Int.emod_nonneg _ (by omega)) (Int.emod_lt_of_pos _ hm) ⟨i0, Int.ediv_nonneg (by omega) (by omega), s0, s1⟩
      · refine ifF (decide_eq_false c1) ?_
        refine ⟨_, rfl, p, _, _, _, rfl, rfl, SqL.of upd_same, rng_3, ?_⟩
        refine ⟨_, rfl, _, rfl, sd', 65479, rfl, rfl, (by show (0 : Int) < 65479; decide), _, _, rfl, rfl, sd', _, rfl, rfl, mul_small (by omega) (by omega), _, rfl, sd', 40699, rfl, rfl, mul_small (by omega) (by omega), _, _, rfl, rfl, _, _, rfl, rfl, _, _, rfl, rfl, (by show (0 : Int) < 2147483549; decide),
          _, rfl, p, _, _, 3, rfl, rfl, upd_same, rfl, ?_⟩
        rw [upd_upd]
        have small : ∀ z : Int, CMul (z % 7919) 211 := fun z => by
          have := Int.emod_nonneg z (by decide : (7919 : Int) ≠ 0)
          have := Int.emod_lt_of_pos z (by decide : (0 : Int) < 7919)
          exact mul_small (by omega) (by omega)
        refine ⟨_, rfl, p, _, _, _, rfl, rfl, SqL.of upd_same, rfl, _, 67, rfl, rfl, ⟨by decide, by decide⟩, _, rfl, p, _, _, _, rfl, rfl, SqL.of upd_same, rfl, _, 7919, rfl, rfl, (by show (0 : Int) < 7919; decide), _, 211, rfl, rfl, small _, _, _, rfl, rfl, _, rfl, _, _, rfl, rfl, hm, ?_⟩
        exact k _ i' v' _ (Int.emod_nonneg _ (by omega)) (Int.emod_lt_of_pos _ hm) ⟨i0, v0, Int.emod_nonneg _ (by decide), Int.emod_lt_of_pos _ (by decide)⟩
/-! ## _law_pick -/
def spPick (K : PySem.W.Frag) : Sp := fun vs H Q _ => ∃ (p q l : Addr) (ns : List Int) (i v sd : Int) (xs : List V), vs = [.ref p, .ref l] ∧ RngAt H p q ns i v sd ∧ H l = some (.lst xs) ∧ l ≠ p ∧ xs ≠ [] ∧ xs.length ≤ 1000 ∧
  ∀ (x : V) (i' v' sd' : Int), x ∈ xs → RngOk i' v' sd' → Q x (upd H p (.lst (rngL q i' v' sd')))
structure TxtP (K : PySem.W.Frag) (mg : Str → Option Value) (fD : Addr) : Prop where
  len : mg "len" = none
  gD : mg "_law_draw" = some (.ref fD)
  kD : PySem.W.keepIn K (.ref fD) = true
theorem scPick : FnScope ["_law_rng", "_law_items"] ["_law_rng", "_law_items"] (defScope sPick) := ⟨rfl, rfl, rfl, by decide +kernel, rfl, by decide +kernel, by decide +kernel⟩
theorem ok_pick {f fD : Addr} {fd fdD : FuncData} (F : Fun K "_law_pick" "_law_pick" sPick f fd) (T : TxtP K mg fD) (FD : FnOk P w K mg base CX0 1 fD fdD ["_law_rng", "_law_many"] spDraw) (bD : Binds K fdD ["_law_rng", "_law_many"] []) :
    FnOk P w K mg base CX0 2 f fd ["_law_rng", "_law_items"] (spPick K) := by
  refine F.ok scPick (fun vs H Q E h => ?_) (fun cdv A outer s H vs Q E hr h => ?_)
  · obtain ⟨p, q, l, ns, i, v, sd, xs, rfl, _⟩ := h
    rfl
  · obtain ⟨p, q, l, ns, i, v, sd, xs, rfl, R, hl, nlp, hne, hlen, k⟩ := h
    refine ⟨_, pss_one (ps_ret (pe_ix ix_list (pv 1) (pe_call FD hr rfl T.gD T.kD bD .nil pass0 (pa_cons (pv 0) (pa_cons (pe_callB call_len_seq (by rfl) T.len PySem.boot_len (pa_cons (pv 1) pa_nil)) pa_nil))) (fun _ _ => rfl))), ?_⟩
    have hpos : 0 < xs.length := List.length_pos_iff.mpr hne
    have hbig : 1000 < 2 ^ 8000 := Nat.lt_of_lt_of_le (by decide : 1000 < 2 ^ 10) (Nat.pow_le_pow_right (by decide) (by decide))
    refine ⟨_, rfl, _, rfl, _, rfl, l, xs, rfl, .inl (SqL.of hl), p, q, ns, i, v, sd, (xs.length : Int), rfl, R, by omega, by omega, fun r i' v' sd' r0 r1 ok => ?_⟩
    obtain ⟨m, rfl⟩ := Int.eq_ofNat_of_zero_le r0
    have hm : m < xs.length := by omega
    exact ⟨l, xs, _, xs[m], rfl, rfl, SqL.of (by rw [upd_ne nlp]; exact hl), atI_nat (List.getElem?_eq_getElem hm), k _ i' v' sd' (List.getElem_mem hm) ok⟩
end
theorem scField : FnScope ["_law_e"] ["_law_e"] (defScope sField) := ⟨rfl, rfl, rfl, by decide +kernel, rfl, by decide +kernel, by decide +kernel⟩
theorem body_field {P : Program} {w : World} {K : PySem.W.Frag} {mg : Str → Option Value} {base : Heap} {f a : Addr} {cdv : Value} {oe : Obj} {cls : Value} {d : Option Addr} (hz : Zc cls d oe) (hf : ∃ vs, oe.data = .fields vs)
    (A : Around) (outer : List Env) (s : Shared) (H : Hp) (v : V) (Q : VK) (hr : L2H.RoomH 0 (A.deeper (envOfC "_law_field" (defScope sField) s.heap.objs.size f cdv))) (h : spField K a cls d v H Q) :
    ∃ t, PSs (L2H.cxH CX0 P w K mg base ["_law_e"] "_law_field" (defScope sField) f cdv A outer s H E0 (a, oe)) (defBody sField) t ∧ t { nx := fun _ G => Q .non G, rt := Q } (L2.start ["_law_e"] [v]) H := by
  obtain ⟨rfl, t, hE, hT, k⟩ := h
  have xe : ∀ {n : Str} {p1 p2 : Pos}, PE (L2H.cxH CX0 P w K mg base ["_law_e"] "_law_field" (defScope sField) f cdv A outer s H E0 (a, oe)) (.Attribute (.Name "_law_e" p1) n p2) (tXq K a cls d n (tVar 0)) := fun {n p1 p2} => by
    exact pe_xq hz hf List.mem_cons_self (pv 0)
  refine ⟨_, pss_cons (ps_if (pt_cmpR op_in_seq xe (pe_tup (pa_cons pe_str (pa_cons pe_str (pa_cons pe_str (pa_cons pe_str (pa_cons pe_str pa_nil)))))) (by rfl)) (pss_one (ps_ret xe)) pss_nil)
    (pss_cons (ps_if (pt_cmpR op_in_seq xe (pe_tup (pa_cons pe_str (pa_cons pe_str pa_nil))) (by rfl)) (pss_one (ps_ret xe)) pss_nil)
    (pss_cons (ps_if (pt_cmpR op_eq xe pe_str (nomark _)) (pss_one (ps_ret xe)) pss_nil)
    (pss_cons (ps_if (pt_cmpR op_eq xe pe_str (nomark _)) (pss_one (ps_ret xe)) pss_nil)
    (pss_cons (ps_if (pt_cmpR op_eq xe pe_str (nomark _)) (pss_one (ps_ret xe)) pss_nil)
    (pss_one (ps_ret (pe_ifExp (pt_cmpR op_eq xe pe_str (nomark _)) xe pe_non))))))), ?_⟩
  refine tag_read hE rfl ⟨(by show 5 ≤ sizeLine; decide), fun p hp => ?_⟩
  have s1 : Same H (upd H p (.tup tags5)) := same_upd (Same.refl H) hp
  refine ⟨p, tags5, rfl, .inr (SqT.of upd_same), rfl, rfl, _, rfl, ifF hT.h5 ?_⟩
  refine tag_read (hE.same s1) rfl ⟨(by show 2 ≤ sizeLine; decide), fun q hq => ?_⟩
  have s2 : Same H (upd (upd H p (.tup tags5)) q (.tup tags2)) := same_upd s1 hq
  refine ⟨q, tags2, rfl, .inr (SqT.of upd_same), rfl, rfl, _, rfl, ifF hT.h2 ?_⟩
  show tXq K a cls d "tag" (tVar 0) _ _ _
  refine tag_read (hE.same s2) rfl ⟨rfl, _, rfl, ifF (ne_str hT.h3) ?_⟩
  show tXq K a cls d "tag" (tVar 0) _ _ _
  refine tag_read (hE.same s2) rfl ⟨rfl, _, rfl, ifF (ne_str hT.h4) ?_⟩
  show tXq K a cls d "tag" (tVar 0) _ _ _
  refine tag_read (hE.same s2) rfl ⟨rfl, _, rfl, ifF (ne_str hT.h6) ?_⟩
  show tXq K a cls d "tag" (tVar 0) _ _ _
  refine tag_read (hE.same s2) rfl ⟨rfl, _, rfl, ifF (ne_str hT.h7) ?_⟩
  exact k _ s2
theorem scOutcome : FnScope ["_law_ask", "_law_e"] ["_law_ask"] (defScope sOutcome) := ⟨rfl, rfl, rfl, by decide +kernel, rfl, by decide +kernel, by decide +kernel⟩
structure TxtO (K : PySem.W.Frag) (mg : Str → Option Value) (C1 C2 C3 fF : Addr) (fdF : FuncData) : Prop where
  g1 : mg "EarlyError" = some (.ref C1)
  g2 : mg "UndefinedName" = some (.ref C2)
  g3 : mg "EmptyHistory" = some (.ref C3)
  gF : mg "_law_field" = some (.ref fF)
  FF : Fun K "_law_field" "_law_field" sField fF fdF
  bF : Binds K fdF ["_law_e"] []
theorem outcome_gives {X : Cx} {g C1 C2 C3 fF : Addr} {fdF : FuncData} {cdg : Value} {q : Str} {k : Nat} (T : TxtO X.K X.mg C1 C2 C3 fF fdF) (hr : Room (k + 2) X.A) :
    LamX.GivesTo X ["_law_ask", "_law_e"] "_law_outcome" (defScope sOutcome) g cdg (defBody sOutcome) "_law_ask" q (TTo X.K (.ref C1) (.ref C2) (.ref C3)) := by
  intro f c' s H Q tl act hc h
  obtain ⟨oc, od, kV, doc, pm, an, cdF, ct, osl, rfl, lk, hcd⟩ := T.FF.ex
  have hrH : ∀ (e : Env) (a : Addr), L2H.RoomH 1 ((X.A.deeper e).mark (some (.ref a))) := fun e a => by
    have r := (hr.mono (show 2 ≤ k + 2 by omega)).deeper e
    exact ⟨r.dp, r.un⟩
  refine ⟨_, pss_one (ps_try_as3 (X := (cxOf C8.CX0 X.prog X.w X.K X.mg X.base ["_law_ask", "_law_e"] "_law_outcome" (defScope sOutcome) g cdg X.A X.stack s H C8.E0).nox) (i := 1)
      (c1 := .ref C1) (c2 := .ref C2) (c3 := .ref C3)
      (tb := fun W D σ G => ∃ Ech : XK, (∀ cls d σ' G', Ech cls d G' → W cls d σ' G') ∧ σ[0]? = some (some (.ref f)) ∧ G c' = some (LamX.CodeO c' q) ∧ tl Ech G (fun v G2 => (2 : Nat) ≤ sizeLine ∧ ∀ p, G2 p = none → D.rt (.ref p) (upd G2 p (.tup [.str "", v]))))
      (ts := fun a cls d => tRet (tTup (tCons (tXq X.K a cls d "tag" (tVar 1)) (tCons (fun σ G Q' => tCons (tVar 1) tNil σ G fun vs G2 => ∃ v, vs = [v] ∧ spField X.K a cls d v G2 Q') tNil))))
      rfl rfl scOutcome.nd rfl rfl ⟨rfl, by decide, .inl T.g1⟩ ⟨rfl, by decide, .inl T.g2⟩ ⟨rfl, by decide, .inl T.g3⟩ (fun W pn xe tk => ?_) (fun a oe cls d pn hz hf => ?_)), ?_⟩
  · refine pss_ex fun Ech hW => ?_
    exact pss_one (ps_ret (pe_tup (pa_cons pe_str (pa_cons (act W pn xe Ech _ _ tk hW) pa_nil))))
  · exact pss_one (ps_ret (pe_tup (pa_cons (pe_xq hz hf List.mem_cons_self (pv 1)) (pa_cons (pe_callP lk hcd scField (a, oe) List.mem_cons_self (hrH _ a) rfl T.gF T.FF.kp T.bF (fun A outer s H v Q hr h => body_field hz hf A outer s H v Q hr h) (pv 1)) pa_nil))))
  · refine ⟨OutWish X.K (.ref C1) (.ref C2) (.ref C3) Q, fun cls d σ' G hw => ⟨hw.1, fun a ha hl => ?_⟩, rfl, hc, ?_⟩
    · obtain ⟨_, t, hE, hT, kk⟩ := hw
      have at1 : (σ'.set 1 (some (V.ref a)))[1]? = some (some (V.ref a)) := List.getElem?_set_self (by rw [hl]; exact (by decide : 1 < 2))
      show tXq X.K a cls d "tag" (tVar 1) _ _ _
      refine tag_read hE at1 ?_
      exact ⟨_, at1, _, rfl, rfl, t, hE, hT, fun G' e => ⟨(by show 2 ≤ sizeLine; decide), fun p hp => kk G' p e hp⟩⟩
    · exact h
/-- a def that stands at f and is called by its name -/
structure Def (P : Program) (w : World) (K : PySem.W.Frag) (mg : Str → Option Value) (base : Heap) (CX : CXT) (k : Nat) (x : Str) (f : Addr) (fd : FuncData) (ps : List Str) (sp : Sp) : Prop where
  ok : FnOk P w K mg base CX k f fd ps sp
  g : mg x = some (.ref f)
  k : PySem.W.keepIn K (.ref f) = true
  b : Binds K fd ps []

section
variable {P : Program} {w : World} {K : PySem.W.Frag} {mg : Str → Option Value} {base : Heap}
/-! ## common_divisor -/
def spGcd : Sp := fun vs H Q _ => ∃ a b : Int, vs = [.int a, .int b] ∧ 0 ≤ a ∧ 0 ≤ b ∧ Q (.int (gcdI a b)) H
theorem scGcd : FnScope ["one", "other"] ["one", "other"] (defScope sGcd) := ⟨rfl, rfl, rfl, by decide +kernel, rfl, by decide +kernel, by decide +kernel⟩
theorem ok_gcd {f : Addr} {fd : FuncData} (F : Fun K "common_divisor" "common_divisor" sGcd f fd) : FnOk P w K mg base CX0 1 f fd ["one", "other"] spGcd := by
  refine F.ok scGcd (fun vs H Q E h => ?_) (fun cdv A outer s H vs Q E hr h => ?_)
  · obtain ⟨a, b, rfl, _⟩ := h
    rfl
  · obtain ⟨a, b, rfl, ha, hb, k⟩ := h
    refine ⟨_, pss_cons (ps_while PassesOwn.never (pt_cmpR op_ne (pv 1) pe_int (nomark _)) (pss_one (ps_par (i := 0) (j := 1) rfl scGcd.nd rfl rfl (by decide) rfl rfl (pa_cons (pv 1) (pa_cons (pe_op op_mod (pv 0) (pv 1)) pa_nil)) (by rfl)))) (pss_one (ps_ret (pv 0))), ?_⟩
    refine ⟨fun m σ G => ∃ x y : Int, σ = [some (.int x), some (.int y)] ∧ G = H ∧ m = y.toNat ∧ 0 ≤ x ∧ 0 ≤ y ∧ gcdI x y = gcdI a b, ⟨_, a, b, rfl, rfl, rfl, ha, hb, rfl⟩, ?_⟩
    rintro m σ G ⟨x, y, rfl, rfl, rfl, hx, hy, hg⟩
    refine ⟨_, rfl, rfl, _, rfl, ?_⟩
    by_cases c : y = 0
    · subst c
      refine iteNS rfl ?_
      rw [gcdI_zero hx] at hg
      refine ⟨_, rfl, ?_⟩
      rw [hg]
      exact k
    · have hy1 : 0 < y := by omega
      refine ifT (ne_int c) ⟨fun σ G1 => ∃ x' y' : Int, σ = [some (.int x'), some (.int y')] ∧ G1 = G ∧ y'.toNat < y.toNat ∧ 0 ≤ x' ∧ 0 ≤ y' ∧ gcdI x' y' = gcdI a b, ?_, ?_⟩
      · rintro σ' H' ⟨x', y', rfl, rfl, hl, h1, h2, h3⟩
        exact ⟨_, hl, x', y', rfl, rfl, rfl, h1, h2, h3⟩
      · refine ⟨_, rfl, _, rfl, _, rfl, x, y, rfl, rfl, hy1, _, _, rfl, ?_⟩
        have q1 := Int.emod_nonneg x c
        have q2 := Int.emod_lt_of_pos x hy1
        exact ⟨y, x % y, rfl, rfl, by omega, hy, q1, (gcdI_step hx hy1).trans hg⟩
end
section
variable {P : Program} {w : World} {K : PySem.W.Frag} {mg : Str → Option Value} {base : Heap}
structure TxtA (mg : Str → Option Value) : Prop where
  abs : mg "abs" = none
def spLow : Sp := fun vs H Q _ => ∃ a b : Int, vs = [.int a, .int b] ∧ b ≠ 0 ∧ b.natAbs < 2 ^ 8000 ∧ ∀ p, H p = none → Q (.ref p) (upd H p (.tup [.int (frN a b), .int (frD a b)]))
theorem scLow : FnScope ["_law_above", "_law_below", "_law_one", "_law_other"] ["_law_above", "_law_below"] (defScope sLowest) := ⟨rfl, rfl, rfl, by decide +kernel, rfl, by decide +kernel, by decide +kernel⟩
theorem ok_low {f : Addr} {fd : FuncData} (F : Fun K "_law_lowest" "_law_lowest" sLowest f fd) (T : TxtA mg) : FnOk P w K mg base CX0 1 f fd ["_law_above", "_law_below"] spLow := by
  refine F.ok scLow (fun vs H Q E h => ?_) (fun cdv A outer s H vs Q E hr h => ?_)
  · obtain ⟨a, b, rfl, _⟩ := h
    rfl
  · obtain ⟨a, b, rfl, hb, hsz, k⟩ := h
    refine ⟨_, C8.pss_cut (ps_if (pt_cmpR op_lt (pv 1) pe_int (nomark _)) (pss_one (ps_par (i := 0) (j := 1) rfl scLow.nd rfl rfl (by decide) rfl rfl (pa_cons (pe_op op_sub pe_int (pv 0)) (pa_cons (pe_op op_sub pe_int (pv 1)) pa_nil)) (by rfl))) pss_nil)
      (pss_cons (ps_par (i := 2) (j := 3) rfl scLow.nd rfl rfl (by decide) rfl rfl (pa_cons (pe_callB call_abs (by rfl) T.abs (by decide +kernel) (pa_cons (pv 0) pa_nil)) (pa_cons (pv 1) pa_nil)) (by rfl))
      (pss_cons (ps_while PassesOwn.never (pt_cmpR op_ne (pv 3) pe_int (nomark _)) (pss_one (ps_par (i := 2) (j := 3) rfl scLow.nd rfl rfl (by decide) rfl rfl (pa_cons (pv 3) (pa_cons (pe_op op_mod (pv 2) (pv 3)) pa_nil)) (by rfl))))
      (pss_one (ps_ret (pe_tup (pa_cons (pe_op op_fdivW (pv 0) (pv 2)) (pa_cons (pe_op op_fdivW (pv 1) (pv 2)) pa_nil))))))), ?_⟩
    refine ⟨fun σ G => G = H ∧ ∃ x y : Int, σ = [some (.int x), some (.int y), none, none] ∧ x = (if b < 0 then -a else a) ∧ y = (if b < 0 then -b else b), ?_, ?_⟩
    · refine ⟨_, rfl, _, _, rfl, rfl, _, rfl, ?_⟩
      by_cases c : b < 0
      · refine ifT (decide_eq_true c) ?_
        refine ⟨_, rfl, _, _, rfl, rfl, _, rfl, _, _, rfl, rfl, _, _, rfl, ?_⟩
        exact ⟨rfl, _, _, rfl, by rw [if_pos c]; omega, by rw [if_pos c]; omega⟩
      · refine ifF (decide_eq_false c) ?_
        exact ⟨rfl, a, b, rfl, by rw [if_neg c], by rw [if_neg c]⟩
    · rintro σ G ⟨rfl, x, y, rfl, ex, ey⟩
      have y1 : 0 < y := by
        rw [ey]
        split <;> omega
      have eg : gcdI x y = gcdI a b := by
        rw [ex, ey]
        by_cases c : b < 0
        · rw [if_pos c, if_pos c, gcdI_neg]
        · rw [if_neg c, if_neg c]
      refine ⟨_, rfl, _, rfl, _, rfl, _, _, rfl, ?_⟩
      refine ⟨fun m σ G' => ∃ u v : Int, σ = [some (.int x), some (.int y), some (.int u), some (.int v)] ∧ G' = G ∧ m = v.toNat ∧ 0 ≤ u ∧ 0 ≤ v ∧ gcdI u v = gcdI a b,
        ⟨_, _, y, rfl, rfl, rfl, absI_nn x, by omega, (gcdI_abs1 x y).trans eg⟩, ?_⟩
      rintro m σ G' ⟨u, v, rfl, rfl, rfl, hu, hv, hg⟩
      refine ⟨_, rfl, rfl, _, rfl, ?_⟩
      by_cases c : v = 0
      · subst c
        refine iteNS rfl ?_
        rw [gcdI_zero hu] at hg
        have gp : 0 < gcdI a b := gcdI_pos hb
        have gl : (gcdI a b).natAbs < 2 ^ 8000 := Nat.lt_of_le_of_lt (by have := gcdI_le (a := a) hb; omega) hsz
        refine ⟨_, rfl, _, rfl, _, _, rfl, rfl, wide_div (by omega) (by rw [hg]; exact gl) (by decide) (by decide), _, rfl, _, rfl, _, _, rfl, rfl, wide_div (by omega) (by rw [hg]; exact gl) (by decide) (by decide), (by show 2 ≤ sizeLine; decide), fun p hp => ?_⟩
        have q := k p hp
        unfold frN frD at q
        rw [← ex, ← ey, ← hg] at q
        exact q
      · have v1 : 0 < v := by omega
        refine ifT (ne_int c) ⟨fun σ G1 => ∃ u' v' : Int, σ = [some (.int x), some (.int y), some (.int u'), some (.int v')] ∧ G1 = G' ∧ v'.toNat < v.toNat ∧ 0 ≤ u' ∧ 0 ≤ v' ∧ gcdI u' v' = gcdI a b, ?_, ?_⟩
        · rintro σ' H' ⟨u', v', rfl, rfl, hl, h1, h2, h3⟩
          exact ⟨_, hl, u', v', rfl, rfl, rfl, h1, h2, h3⟩
        · refine ⟨_, rfl, _, rfl, _, rfl, u, v, rfl, rfl, v1, _, _, rfl, ?_⟩
          have q1 := Int.emod_nonneg u c
          have q2 := Int.emod_lt_of_pos u v1
          exact ⟨v, u % v, rfl, rfl, by omega, hv, q1, (gcdI_step hu v1).trans hg⟩
end
end K26
namespace K26
open PySem PySem.Spec PyProof.Rows L2 Ew
section
variable {P : Program} {w : World} {K : PySem.W.Frag} {mg : Str → Option Value} {base : Heap}
/-! ## spread -/
def spSpread (K : PySem.W.Frag) : Sp := fun vs H Q _ => ∃ (t : Addr) (s : List Int), vs = [.ref t] ∧ SqT K H t (s.map V.int) ∧ 0 < s.length ∧ Q (.int (lastI s - firstI s)) H
theorem scSpread : FnScope ["ascending"] ["ascending"] (defScope sSpread) := ⟨rfl, rfl, rfl, by decide +kernel, rfl, by decide +kernel, by decide +kernel⟩
theorem ok_spread {f : Addr} {fd : FuncData} (F : Fun K "spread" "spread" sSpread f fd) : FnOk P w K mg base CX0 1 f fd ["ascending"] (spSpread K) := by
  refine F.ok scSpread (fun vs H Q E h => ?_) (fun cdv A outer s H vs Q E hr h => ?_)
  · obtain ⟨t, l, rfl, _⟩ := h
    rfl
  · obtain ⟨t, l, rfl, hT, hl, k⟩ := h
    refine ⟨_, pss_one (ps_ret (pe_op op_sub (pe_ix ix_tup (pv 0) (pe_un un_neg pe_int) (fun _ _ => rfl)) (pe_ix ix_tup (pv 0) pe_int (fun _ _ => rfl)))), ?_⟩
    exact ⟨_, rfl, _, rfl, t, _, _, _, rfl, rfl, hT, at_last hl, _, rfl, t, _, _, _, rfl, rfl, hT, at_first hl, _, _, rfl, rfl, k⟩
/-! ## widest_gap -/
structure TxtW (mg : Str → Option Value) : Prop where
  max : mg "max" = none
  zip : mg "zip" = none
def spWidest (K : PySem.W.Frag) : Sp := fun vs H Q _ => ∃ (t : Addr) (s : List Int), vs = [.ref t] ∧ SqT K H t (s.map V.int) ∧ 2 ≤ s.length ∧ s.length ≤ 1000 ∧ ∀ (m : Int) (G : Hp), Same H G → m ∈ gapL s → (∀ g ∈ gapL s, g ≤ m) → Q (.int m) G
theorem scWidest : FnScope ["ascending", "left", "right"] ["ascending"] (defScope sWidestGap) := ⟨rfl, rfl, rfl, by decide +kernel, rfl, by decide +kernel, by decide +kernel⟩
theorem ok_widest {f : Addr} {fd : FuncData} (F : Fun K "widest_gap" "widest_gap" sWidestGap f fd) (T : TxtW mg) : FnOk P w K mg base CX0 1 f fd ["ascending"] (spWidest K) := by
  refine F.ok scWidest (fun vs H Q E h => ?_) (fun cdv A outer s H vs Q E hr h => ?_)
  · obtain ⟨t, l, rfl, _⟩ := h
    rfl
  · obtain ⟨t, l, rfl, hT, hl, hmax, k⟩ := h
    refine ⟨_, pss_one (ps_ret (pe_callB (cr_max rfl) (by rfl) T.max (by decide +kernel) (pa_cons
      (pe_lc (own := [("left", 1), ("right", 2)]) (g := gTup K 2 (gCons (gName 1) (gCons (gName 2) gNil))) (tt := tYes) (te := tOp (rI0 fun i j => .int (i - j)) (tVar 2) (tVar 1)) rfl scWidest.nd
        (RZ.pi_zipA (by rfl) T.zip (pa_cons (pv 0) (pa_cons (pe_slice sl_tup (pv 0) (po_some pe_int) po_none) pa_nil)))
        (blkOk_by (N := ["ascending", "left", "right"]) (sc := defScope sWidestGap) (by decide +kernel))
        (fun _ _ _ _ _ => by exact pg_tup rfl (by exact pgs_cons (pg_name (i := 1) scWidest.nd rfl (Or.inl rfl)) (by exact pgs_cons (pg_name (i := 2) scWidest.nd rfl (Or.inl rfl)) pgs_nil)))
        (fun _ _ _ _ _ => pts_nil) (fun _ _ _ _ _ => by exact pe_op op_sub (pv 2) (pv 1))) pa_nil))), ?_⟩
    refine ⟨_, rfl, _, rfl, _, rfl, t, _, rfl, hT, ?_, fun p hp => ?_⟩
    · rintro ⟨z, _⟩
      have e := HT.sIx_nat (l.map V.int).length 0 1
      rw [show (some (1 : Int)) = some ((1 : Nat) : Int) from rfl, e, List.length_map] at z
      omega
    · rw [cut_tail]
      have s1 : Same H (upd H p (.tup ((l.map V.int).drop 1))) := same_upd (Same.refl H) hp
      refine ⟨t, p, _, _, rfl, .inr ⟨seqT s1 hT, SqT.of upd_same, fun D hD => ?_⟩⟩
      refine lc_it (walk_zipM (xs := l.map V.int) (ys := (l.map V.int).drop 1) (n := l.length - 1) (by rw [List.length_drop, List.length_map]; omega)) (fun i G => Same (upd H p (.tup ((l.map V.int).drop 1))) G ∧ G D = some (.lst (((gapL l).take i).map V.int)))
        ⟨same_upd (Same.refl _) hD, upd_same⟩ (fun i G _ q => ⟨seqT q.1 (seqT s1 hT), seqT q.1 (SqT.of upd_same)⟩) ?_ ?_
      · rintro i v G G' hi ⟨e1, e2⟩ ⟨U, u, z, rfl, hU, rfl, hu, hz⟩
        have hu' : (l.map V.int)[i]? = some u := hu
        have hz' : ((l.map V.int).drop 1)[i]? = some z := hz
        rw [ints_at (by omega)] at hu'
        rw [List.getElem?_drop, Nat.add_comm, ints_at (by omega)] at hz'
        cases hu'
        cases hz'
        refine ⟨U, _, rfl, SqT.of upd_same, rfl, _, _, rfl, _, _, rfl, rfl, rfl, ?_⟩
        refine iteT (B := Same (upd H p (.tup ((l.map V.int).drop 1))) (upd G U (.tup [.int (l.getD i 0), .int (l.getD (i + 1) 0)])) ∧ upd G U (.tup [.int (l.getD i 0), .int (l.getD (i + 1) 0)]) D = some (.lst (((gapL l).take (i + 1)).map V.int))) ⟨_, rfl, _, rfl, _, _, rfl, rfl, ?_⟩
        have e4 : upd G U (.tup [.int (l.getD i 0), .int (l.getD (i + 1) 0)]) D = some (.lst (((gapL l).take i).map V.int)) := by rw [upd_ne (ne_of_none e2 hU)]; exact e2
        refine ⟨_, e4, by rw [List.length_map, List.length_take, sizeLine_eq]; omega, same_updN (same_upd e1 hU) hD, ?_⟩
        rw [upd_same, List.take_add_one, show (gapL l)[i]? = some (l.getD (i + 1) 0 - l.getD i 0) by unfold gapL; rw [List.getElem?_map, List.getElem?_range hi]; rfl]
        simp
      · rintro G ⟨e1, e2⟩
        rw [List.take_of_length_le (by rw [gapL_len]; omega)] at e2
        exact ⟨D, gapL l, rfl, SqL.of e2, by rw [gapL_len]; omega, fun m hm hg => k m G (s1.trans e1) hm hg⟩
/-! ## are_digits -/
structure TxtD (K : PySem.W.Frag) (mg : Str → Option Value) (fW fSp : Addr) : Prop where
  len : mg "len" = none
  set : mg "set" = none
  g1 : ∃ t, mg "MIN_DIGITS" = some (.int 2 t)
  g2 : ∃ t, mg "MAX_DIGITS" = some (.int 24 t)
  g3 : ∃ t, mg "MAX_DIGIT" = some (.int 99 t)
  gW : mg "widest_gap" = some (.ref fW)
  kW : PySem.W.keepIn K (.ref fW) = true
  gS : mg "spread" = some (.ref fSp)
  kS : PySem.W.keepIn K (.ref fSp) = true
def spAre (K : PySem.W.Frag) : Sp := fun vs H Q _ => ∃ (b : Int) (t : Addr) (s : List Int), vs = [.int b, .ref t] ∧ SqT K H t (s.map V.int) ∧ s.Pairwise (· ≤ ·) ∧ 2 ≤ b ∧ b ≤ 10 ∧ s.length < 64 ∧ ∀ G, Same H G → Q (.bl (areB b s)) G
theorem scAre : FnScope ["base", "ascending"] ["base", "ascending"] (defScope sAreDigits) := ⟨rfl, rfl, rfl, by decide +kernel, rfl, by decide +kernel, by decide +kernel⟩
theorem ok_are {f fW fSp : Addr} {fd fdW fdS : FuncData} (F : Fun K "are_digits" "are_digits" sAreDigits f fd) (T : TxtD K mg fW fSp) (FW : FnOk P w K mg base CX0 1 fW fdW ["ascending"] (spWidest K)) (bW : Binds K fdW ["ascending"] [])
    (FS : FnOk P w K mg base CX0 1 fSp fdS ["ascending"] (spSpread K)) (bS : Binds K fdS ["ascending"] []) : FnOk P w K mg base CX0 2 f fd ["base", "ascending"] (spAre K) := by
  obtain ⟨t1, g1⟩ := T.g1
  obtain ⟨t2, g2⟩ := T.g2
  obtain ⟨t3, g3⟩ := T.g3
  refine F.ok scAre (fun vs H Q E h => ?_) (fun cdv A outer s H vs Q E hr h => ?_)
  · obtain ⟨b, t, l, rfl, _⟩ := h
    rfl
  · obtain ⟨b, t, l, rfl, hT, hasc, b2, b10, h64, k⟩ := h
    refine ⟨_, pss_cons (ps_if (PW.pt (pw_or (pt_not (pt_chain op_le op_le (pe_glob (v := .int 2) rfl g1 ⟨_, rfl⟩) (pe_callB call_len_seq (by rfl) T.len PySem.boot_len (pa_cons (pv 1) pa_nil)) (pe_glob (v := .int 24) rfl g2 ⟨_, rfl⟩)))
          (pw_or1 (pt_cmpR op_ne (pe_lenSetA (by rfl) T.len (by rfl) T.set (pv 1)) (pe_callB call_len_seq (by rfl) T.len PySem.boot_len (pa_cons (pv 1) pa_nil)) (nomark _)))))
        (pss_one (ps_ret pe_bl)) pss_nil)
      (pss_cons (ps_if (PW.pt (pw_or (pt_cmpR op_lt (pe_ix ix_tup (pv 1) pe_int (fun _ _ => rfl)) (pe_un un_neg (pe_glob (v := .int 99) rfl g3 ⟨_, rfl⟩)) (nomark _))
          (pw_or1 (pt_cmpR op_gt (pe_ix ix_tup (pv 1) (pe_un un_neg pe_int) (fun _ _ => rfl)) (pe_glob (v := .int 99) rfl g3 ⟨_, rfl⟩) (nomark _)))))
        (pss_one (ps_ret pe_bl)) pss_nil)
      (pss_one (ps_ret (pe_cmpR op_le (pe_op op_mul (pe_call FW hr rfl T.gW T.kW bW .nil pass0 (pa_cons (pv 1) pa_nil)) (pe_op op_sub (pv 0) pe_int)) (pe_call FS hr rfl T.gS T.kS bS .nil pass0 (pa_cons (pv 1) pa_nil)) (nomark _))))), ?_⟩
    have no : ¬ AreS b l → Q (.bl false) H := fun z => by
      have q := k H (Same.refl H)
      rw [areB_f z] at q
      exact q
    refine ⟨_, rfl, t, _, rfl, .inr hT, _, _, rfl, rfl, _, rfl, ?_⟩
    rw [List.length_map]
    by_cases c1 : (2 : Int) ≤ (l.length : Int)
    · refine ifT (decide_eq_true c1) ⟨_, _, rfl, rfl, _, rfl, ?_⟩
      by_cases c2 : (l.length : Int) ≤ 24
      · rw [decide_eq_true c2]
        refine iteF ?_
        refine ⟨_, rfl, t, l, rfl, .inr hT, by omega, fun c hc => ?_⟩
        refine ⟨_, rfl, t, _, rfl, .inr hT, rfl, _, rfl, ?_⟩
        rw [List.length_map]
        by_cases c3 : l.Nodup
        · have e : (!decide (V.int (c : Int) = V.int (l.length : Int))) = false := by rw [hc.mpr c3]; simp
          refine ifF e ?_
          have lp : 0 < l.length := by omega
          refine ⟨_, rfl, t, _, _, _, rfl, rfl, hT, at_first lp, _, rfl, _, _, rfl, rfl, _, rfl, ?_⟩
          by_cases c4 : firstI l < -99
          · exact ifT (decide_eq_true c4) (iteT (no fun z => by have := z.lo; omega))
          · refine ifF (decide_eq_false c4) ⟨_, rfl, _, rfl, t, _, _, _, rfl, rfl, hT, at_last lp, _, _, rfl, rfl, _, rfl, ?_⟩
            by_cases c5 : 99 < lastI l
            · exact ifT (decide_eq_true c5) (no fun z => by have := z.hi; omega)
            · refine ifF (decide_eq_false c5) ⟨_, rfl, t, l, rfl, hT, by omega, by omega, fun m G e1 hm hg => ?_⟩
              refine ⟨_, rfl, _, _, rfl, rfl, m, b - 1, rfl, rfl, mul_smallR (by omega) (by omega), _, rfl, t, l, rfl, seqT e1 hT, lp, _, _, rfl, rfl, ?_⟩
              have q := k G e1
              by_cases c6 : m * (b - 1) ≤ lastI l - firstI l
              · rw [areB_t ⟨by omega, by omega, c3, by omega, by omega, (gap_iff b2 hm hg).mp c6⟩] at q
                show Q (V.bl (decide (m * (b - 1) ≤ lastI l - firstI l))) G
                rw [decide_eq_true c6]
                exact q
              · rw [areB_f fun z => c6 ((gap_iff b2 hm hg).mpr z.gap)] at q
                show Q (V.bl (decide (m * (b - 1) ≤ lastI l - firstI l))) G
                rw [decide_eq_false c6]
                exact q
        · have e : (!decide (V.int (c : Int) = V.int (l.length : Int))) = true := ne_int fun z => c3 (hc.mp (by omega))
          exact ifT e (no fun z => c3 z.nd)
      · rw [decide_eq_false c2]
        exact iteT (no fun z => by have := z.l24; omega)
    · exact ifF (decide_eq_false c1) ⟨_, rfl, iteT (no fun z => by have := z.l2; omega)⟩
end
end K26
namespace K26
open PySem PySem.Spec PyProof.Rows L2 Ew
section
variable {P : Program} {w : World} {K : PySem.W.Frag} {mg : Str → Option Value} {base : Heap}
/-! ## _law_are_digits -/
structure TxtLD (mg : Str → Option Value) : Prop where
  sorted : mg "sorted" = none
  len : mg "len" = none
  set : mg "set" = none
  abs : mg "abs" = none
  all : mg "all" = none
  range : mg "range" = none
def spLAre (K : PySem.W.Frag) : Sp := fun vs H Q _ => ∃ (b : Int) (a : Addr) (ds : List Int), vs = [.int b, .ref a] ∧ (SqL K H a (ds.map V.int) ∨ SqT K H a (ds.map V.int)) ∧ 2 ≤ b ∧ b ≤ 10 ∧ ds.length < 64 ∧ ∀ G, Same H G → Q (.bl (areB b (srt ds))) G
theorem scLAre : FnScope ["_law_base", "_law_digits_here", "_law_line", "_law_k"] ["_law_base", "_law_digits_here"] (defScope sLawAreDigits) := ⟨rfl, rfl, rfl, by decide +kernel, rfl, by decide +kernel, by decide +kernel⟩
theorem ok_lare {f : Addr} {fd : FuncData} (F : Fun K "_law_are_digits" "_law_are_digits" sLawAreDigits f fd) (T : TxtLD mg) : FnOk P w K mg base CX0 1 f fd ["_law_base", "_law_digits_here"] (spLAre K) := by
  refine F.ok scLAre (fun vs H Q E h => ?_) (fun cdv A outer s H vs Q E hr h => ?_)
  · obtain ⟨b, a, ds, rfl, _⟩ := h
    rfl
  · obtain ⟨b, a, ds, rfl, hA, b2, b10, h64, k⟩ := h
    refine ⟨_, pss_cons (ps_set (i := 2) scLAre.nd rfl (Or.inr rfl) (pe_callB cr_sortA (by rfl) T.sorted (by decide +kernel) (pa_cons (pv 1) pa_nil)))
      (pss_cons (ps_if (PW.pt (pw_or (pt_not (pt_chain op_le op_le pe_int (pe_callB call_len_seq (by rfl) T.len PySem.boot_len (pa_cons (pv 2) pa_nil)) pe_int))
          (pw_or1 (pt_cmpR op_ne (pe_lenSetA (by rfl) T.len (by rfl) T.set (pv 2)) (pe_callB call_len_seq (by rfl) T.len PySem.boot_len (pa_cons (pv 2) pa_nil)) (nomark _)))))
        (pss_one (ps_ret pe_bl)) pss_nil)
      (pss_cons (ps_if (PW.pt (pw_or (pt_cmpR op_gt (pe_callB call_abs (by rfl) T.abs (by decide +kernel) (pa_cons (pe_ix ix_list (pv 2) pe_int (fun _ _ => rfl)) pa_nil)) pe_int (nomark _))
          (pw_or1 (pt_cmpR op_gt (pe_callB call_abs (by rfl) T.abs (by decide +kernel) (pa_cons (pe_ix ix_list (pv 2) (pe_un un_neg pe_int) (fun _ _ => rfl)) pa_nil)) pe_int (nomark _)))))
        (pss_one (ps_ret pe_bl)) pss_nil)
      (pss_one (ps_ret (pe_callB (cr_all rfl) (by rfl) T.all (by decide +kernel) (pa_cons
        (pe_lc (own := [("_law_k", 3)]) (g := gName 3) (tt := tYes)
          (te := tOp (rI0 fun i j => .bl (decide (i ≤ j))) (tOp (rI CMul fun i j => .int (i * j)) (tOp (rI0 fun i j => .int (i - j)) (tOp (rIxL K) (tVar 2) (tOp (rI0 fun i j => .int (i + j)) (tVar 3) (tC (.int 1)))) (tOp (rIxL K) (tVar 2) (tVar 3))) (tOp (rI0 fun i j => .int (i - j)) (tVar 0) (tC (.int 1))))
            (tOp (rI0 fun i j => .int (i - j)) (tOp (rIxL K) (tVar 2) (tUn (rU fun i => .int (-i)) (tC (.int 1)))) (tOp (rIxL K) (tVar 2) (tC (.int 0)))))
          rfl scLAre.nd (pi_range1 rfl T.range (pa_cons (pe_op op_sub (pe_callB call_len_seq (by rfl) T.len PySem.boot_len (pa_cons (pv 2) pa_nil)) pe_int) pa_nil))
          (blkOk_by (N := ["_law_base", "_law_digits_here", "_law_line", "_law_k"]) (sc := defScope sLawAreDigits) (by decide +kernel))
          (fun _ _ _ _ _ => by exact pg_name (i := 3) scLAre.nd rfl (Or.inl rfl)) (fun _ _ _ _ _ => pts_nil)
          (fun _ _ _ _ _ => by exact pe_cmpR op_le (pe_op op_mul (pe_op op_sub (pe_ix ix_list (pv 2) (pe_op op_add (pv 3) pe_int) (fun _ _ => rfl)) (pe_ix ix_list (pv 2) (pv 3) (fun _ _ => rfl))) (pe_op op_sub (pv 0) pe_int)) (pe_op op_sub (pe_ix ix_list (pv 2) (pe_un un_neg pe_int) (fun _ _ => rfl)) (pe_ix ix_list (pv 2) pe_int (fun _ _ => rfl))) (nomark _))) pa_nil)))))), ?_⟩
    refine ⟨_, rfl, a, ds, rfl, hA, h64, fun ms p hp hasc hnew => ?_⟩
    rw [← srt_eq hp hasc] at k
    have hlen : ms.length < 64 := by rw [hp.length_eq]; exact h64
    have s1 : Same H (upd H p (.lst (ms.map V.int))) := same_upd (Same.refl H) hnew
    have no : ∀ G, Same H G → ¬ AreS b ms → Q (.bl false) G := fun G e z => by
      have q := k G e
      rw [areB_f z] at q
      exact q
    clear hp hA h64
    refine ⟨_, rfl, p, _, rfl, .inl (SqL.of upd_same), _, _, rfl, rfl, _, rfl, ?_⟩
    rw [List.length_map]
    by_cases c1 : (2 : Int) ≤ (ms.length : Int)
    · refine ifT (decide_eq_true c1) ⟨_, _, rfl, rfl, _, rfl, ?_⟩
      by_cases c2 : (ms.length : Int) ≤ 24
      · rw [decide_eq_true c2]
        refine iteF ?_
        refine ⟨_, rfl, p, ms, rfl, .inl (SqL.of upd_same), by omega, fun c hc => ?_⟩
        refine ⟨_, rfl, p, _, rfl, .inl (SqL.of upd_same), rfl, _, rfl, ?_⟩
        rw [List.length_map]
        by_cases c3 : ms.Nodup
        · have e : (!decide (V.int (c : Int) = V.int (ms.length : Int))) = false := by rw [hc.mpr c3]; simp
          refine ifF e ?_
          have lp : 0 < ms.length := by omega
          have fl := first_le_last hasc lp
          refine ⟨_, rfl, p, _, _, _, rfl, rfl, SqL.of upd_same, at_first lp, _, rfl, _, _, rfl, rfl, _, rfl, ?_⟩
          by_cases c4 : 99 < absI (firstI ms)
          · refine ifT (decide_eq_true c4) (iteT (no _ s1 fun z => ?_))
            have := z.lo
            have := z.hi
            unfold absI at c4
            split at c4 <;> omega
          · refine ifF (decide_eq_false c4) ⟨_, rfl, _, rfl, p, _, _, _, rfl, rfl, SqL.of upd_same, at_last lp, _, rfl, _, _, rfl, rfl, _, rfl, ?_⟩
            by_cases c5 : 99 < absI (lastI ms)
            · refine ifT (decide_eq_true c5) (no _ s1 fun z => ?_)
              have := z.lo
              have := z.hi
              unfold absI at c5
              split at c5 <;> omega
            · refine ifF (decide_eq_false c5) ⟨_, rfl, p, _, rfl, .inl (SqL.of upd_same), _, _, rfl, rfl, _, rfl, ?_, ?_, fun D hD => ?_⟩
              · rw [List.length_map]
                have : (2 : Int) ^ 62 = 4611686018427387904 := by decide
                omega
              · rw [List.length_map]
                have : (2 : Int) ^ 62 = 4611686018427387904 := by decide
                omega
              · rw [List.length_map]
                have en : ((ms.length : Int) - 1).toNat = ms.length - 1 := by omega
                rw [en]
                refine lc_range (lo := 0) (n := ms.length - 1) (fun i G => Same (upd H p (.lst (ms.map V.int))) G ∧ G D = some (.lst (((List.range i).map fun j => decide ((ms.getD (j + 1) 0 - ms.getD j 0) * (b - 1) ≤ lastI ms - firstI ms)).map V.bl)))
                  ⟨same_upd (Same.refl _) hD, upd_same⟩ ?_ ?_
                · rintro i G hi ⟨e1, e2⟩
                  have hL : SqL K G p (ms.map V.int) := e1.seq (SqL.of upd_same)
                  refine ⟨rfl, ?_⟩
                  refine iteT (B := Same (upd H p (.lst (ms.map V.int))) G ∧ G D = some (.lst (((List.range (i + 1)).map fun j => decide ((ms.getD (j + 1) 0 - ms.getD j 0) * (b - 1) ≤ lastI ms - firstI ms)).map V.bl))) ?_
                  refine ⟨_, rfl, _, rfl, _, _, rfl, rfl, p, _, _, _, rfl, rfl, hL, at_int (i := i + 1) (by omega) (by omega), _, rfl, _, rfl, p, _, _, _, rfl, rfl, hL, at_int (i := i) (by omega) (by omega), _, _, rfl, rfl, _, rfl, _, _, rfl, rfl, _, _, rfl, rfl, mul_smallR (by omega) (by omega),
                    _, rfl, _, rfl, p, _, _, _, rfl, rfl, hL, at_last lp, _, rfl, p, _, _, _, rfl, rfl, hL, at_first lp, _, _, rfl, rfl, _, _, rfl, rfl, ?_⟩
                  refine ⟨_, e2, by rw [List.length_map, List.length_map, List.length_range, sizeLine_eq]; omega, same_updN e1 hD, ?_⟩
                  rw [upd_same, List.range_succ, List.map_append, List.map_append]
                  rfl
                · rintro G ⟨e1, e2⟩
                  refine ⟨D, _, rfl, SqL.of e2, ?_⟩
                  have q := k G (s1.trans e1)
                  by_cases c6 : ∀ i, i + 1 < ms.length → (ms.getD (i + 1) 0 - ms.getD i 0) * (b - 1) ≤ lastI ms - firstI ms
                  · have ok : AreS b ms := ⟨by omega, by omega, c3, by unfold absI at c4; split at c4 <;> omega, by unfold absI at c5; split at c5 <;> omega, c6⟩
                    rw [areB_t ok] at q
                    rw [show (((List.range (ms.length - 1)).map fun j => decide ((ms.getD (j + 1) 0 - ms.getD j 0) * (b - 1) ≤ lastI ms - firstI ms)).all id) = true from by
                      rw [List.all_eq_true]
                      intro x hx
                      obtain ⟨j, hj, rfl⟩ := List.mem_map.mp hx
                      exact decide_eq_true (c6 j (by have := List.mem_range.mp hj; omega))]
                    exact q
                  · rw [areB_f fun z => c6 z.gap] at q
                    rw [show (((List.range (ms.length - 1)).map fun j => decide ((ms.getD (j + 1) 0 - ms.getD j 0) * (b - 1) ≤ lastI ms - firstI ms)).all id) = false from by
                      refine Bool.eq_false_iff.mpr fun z => c6 fun i hi => ?_
                      have := List.all_eq_true.mp z _ (List.mem_map.mpr ⟨i, List.mem_range.mpr (by omega), rfl⟩)
                      exact of_decide_eq_true this]
                    exact q
        · have e : (!decide (V.int (c : Int) = V.int (ms.length : Int))) = true := ne_int fun z => c3 (hc.mp (by omega))
          exact ifT e (no _ s1 fun z => c3 z.nd)
      · rw [decide_eq_false c2]
        exact iteT (no _ s1 fun z => by have := z.l24; omega)
    · exact ifF (decide_eq_false c1) ⟨_, rfl, iteT (no _ s1 fun z => by have := z.l2; omega)⟩
end
end K26
namespace K26
open PySem PySem.Spec PyProof.Rows L2 Ew
section
variable {P : Program} {w : World} {K : PySem.W.Frag} {mg : Str → Option Value} {base : Heap}
theorem scInitBase : FnScope ["self"] ["self"] (defScope sInvalidBase_init) := ⟨rfl, rfl, rfl, by decide +kernel, rfl, by decide +kernel, by decide +kernel⟩
theorem ok_initBase {f C fI : Addr} {fd : FuncData} (F : Fun K "__init__" "InvalidBase.__init__" sInvalidBase_init f fd) (T : ErrT K mg "InvalidBase" C fI) : FnOk P w K mg base CX0 1 f fd ["self"] (spInitTag K C "InvalidBase") := by
  refine F.ok scInitBase (fun vs H Q E h => ?_) (fun cdv A outer s H vs Q E hr h => ?_)
  · obtain ⟨a, rfl, _⟩ := h
    rfl
  · obtain ⟨a, rfl, ha, k⟩ := h
    exact ⟨_, pss_one (ps_ost (pv 0) pe_str), _, rfl, a, C, rfl, T.oex, T.nT, .inl ⟨ha, k⟩⟩
theorem scInitDigits : FnScope ["self"] ["self"] (defScope sInvalidDigits_init) := ⟨rfl, rfl, rfl, by decide +kernel, rfl, by decide +kernel, by decide +kernel⟩
theorem ok_initDigits {f C fI : Addr} {fd : FuncData} (F : Fun K "__init__" "InvalidDigits.__init__" sInvalidDigits_init f fd) (T : ErrT K mg "InvalidDigits" C fI) : FnOk P w K mg base CX0 1 f fd ["self"] (spInitTag K C "InvalidDigits") := by
  refine F.ok scInitDigits (fun vs H Q E h => ?_) (fun cdv A outer s H vs Q E hr h => ?_)
  · obtain ⟨a, rfl, _⟩ := h
    rfl
  · obtain ⟨a, rfl, ha, k⟩ := h
    exact ⟨_, pss_one (ps_ost (pv 0) pe_str), _, rfl, a, C, rfl, T.oex, T.nT, .inl ⟨ha, k⟩⟩
/-! ## DigitSet -/
def dsF (b : Int) (t : Addr) : List (Str × V) := putF "digits" (.ref t) (putF "base" (.int b) [])
theorem dsF_base (b : Int) (t : Addr) : (dsF b t).lookup ("base" : Str) = some (.int b) := by
  unfold dsF
  rw [lookup_putF, if_neg (by decide +kernel), lookup_putF, if_pos rfl]
theorem dsF_digits (b : Int) (t : Addr) : (dsF b t).lookup ("digits" : Str) = some (.ref t) := by
  unfold dsF
  rw [lookup_putF, if_pos rfl]
structure TxtDS (K : PySem.W.Frag) (mg : Str → Option Value) (CD CB CI fIB fID fA : Addr) : Prop where
  cl : Cls K CD
  nB : NoAttr K CD "base"
  nD : NoAttr K CD "digits"
  gB : ∃ t, mg "MIN_BASE" = some (.int 2 t)
  gX : ∃ t, mg "MAX_BASE" = some (.int 10 t)
  eB : ErrT K mg "InvalidBase" CB fIB
  eD : ErrT K mg "InvalidDigits" CI fID
  tuple : mg "tuple" = none
  sorted : mg "sorted" = none
  len : mg "len" = none
  gA : mg "are_digits" = some (.ref fA)
  kA : PySem.W.keepIn K (.ref fA) = true
def spSetInit (K : PySem.W.Frag) (CD CB CI : Addr) : Sp := fun vs H Q E => ∃ (x dx a : Addr) (b : Int) (ds : List Int), vs = [.ref x, .int b, .ref a] ∧ H x = some (.ins CD dx []) ∧ (SqL K H a (ds.map V.int) ∨ SqT K H a (ds.map V.int)) ∧ ds.length < 64 ∧
  (¬ (2 ≤ b ∧ b ≤ 10) → ∀ d, H d = none → E (.ref CB) (some d) (upd H d (.xd [("tag", .str "InvalidBase")]))) ∧
  (2 ≤ b → b ≤ 10 → ¬ AreS b (srt ds) → ∀ G d, Same H G → G d = none → E (.ref CI) (some d) (upd G d (.xd [("tag", .str "InvalidDigits")]))) ∧
  (2 ≤ b → b ≤ 10 → AreS b (srt ds) → ∀ G t, (∀ c o, H c = some o → c ≠ x → G c = some o) → H t = none → G x = some (.ins CD dx (dsF b t)) → G t = some (.tup ((srt ds).map V.int)) → Q .non G)
theorem scSetInit : FnScope ["self", "base", "digits", "ascending"] ["self", "base", "digits"] (defScope sDigitSet_init) := ⟨rfl, rfl, rfl, by decide +kernel, rfl, by decide +kernel, by decide +kernel⟩
theorem raise_tag {H : Hp} {C : Addr} {t : Str} {E : XK} {K : PySem.W.Frag} (h : ∀ d, H d = none → E (.ref C) (some d) (upd H d (.xd [("tag", .str t)]))) {σ : L2.St} : tMk0 C (spInitTag K C t) σ H fun cls d H' => E cls d H' := fun a ha => by
  refine ⟨a, rfl, upd_same, fun dx hdx ne => ⟨rfl, dx, [("tag", .str t)], upd_same, ?_, ?_, ?_⟩⟩
  · rw [upd_ne ne, upd_same]
  · rw [upd_ne ne] at hdx
    exact hdx
  · rw [raise_heap ha hdx ne]
    rw [upd_ne ne] at hdx
    exact h dx hdx
theorem ok_setInit {f CD CB CI fIB fID fA : Addr} {fd fdB fdD fdA : FuncData} (F : Fun K "__init__" "DigitSet.__init__" sDigitSet_init f fd) (T : TxtDS K mg CD CB CI fIB fID fA)
    (FB : FnOk P w K mg base CX0 1 fIB fdB ["self"] (spInitTag K CB "InvalidBase")) (bB : Binds K fdB ["self"] []) (FD : FnOk P w K mg base CX0 1 fID fdD ["self"] (spInitTag K CI "InvalidDigits")) (bD : Binds K fdD ["self"] [])
    (FA : FnOk P w K mg base CX0 2 fA fdA ["base", "ascending"] (spAre K)) (bA : Binds K fdA ["base", "ascending"] []) : FnOk P w K mg base (L2.CX P w) 3 f fd ["self", "base", "digits"] (spSetInit K CD CB CI) := by
  obtain ⟨t1, g1⟩ := T.gB
  obtain ⟨t2, g2⟩ := T.gX
  refine F.okX scSetInit (fun vs H Q E h => ?_) (fun cdv A outer s H vs Q E hr h => ?_)
  · obtain ⟨x, dx, a, b, ds, rfl, _⟩ := h
    rfl
  · obtain ⟨x, dx, a, b, ds, rfl, hx, hA, h64, kB, kD, kQ⟩ := h
    refine ⟨_, pss_cons (ps_if (pt_not (pt_chain op_le op_le (pe_glob (v := .int 2) rfl g1 ⟨_, rfl⟩) (pv 1) (pe_glob (v := .int 10) rfl g2 ⟨_, rfl⟩))) (pss_one (ps_raise rfl (takes_of rfl rfl rfl rfl) (pmk0 T.eB.oex T.eB.iC T.eB.tI FB hr bB pass0 rfl T.eB.gC))) pss_nil)
      (pss_cons (ps_set (i := 3) scSetInit.nd rfl (Or.inl rfl) (pe_callTy call_tuple_of (by rfl) T.tuple (by decide +kernel) (pa_cons (pe_callB cr_sortA (by rfl) T.sorted (by decide +kernel) (pa_cons (pv 2) pa_nil)) pa_nil)))
      (pss_cons (ps_if (pt_not (pt_val (pe_call FA hr rfl T.gA T.kA bA .nil pass0 (pa_cons (pv 1) (pa_cons (pv 3) pa_nil))))) (pss_one (ps_raise rfl (takes_of rfl rfl rfl rfl) (pmk0 T.eD.oex T.eD.iC T.eD.tI FD hr bD pass0 rfl T.eD.gC))) pss_nil)
      (pss_cons (ps_fld (pv 0) (pv 1) rfl) (pss_one (ps_fld (pv 0) (pv 3) rfl))))), ?_⟩
    refine ⟨_, rfl, _, _, rfl, rfl, _, rfl, ?_⟩
    by_cases c1 : 2 ≤ b
    · refine ifT (decide_eq_true c1) ⟨_, _, rfl, rfl, _, rfl, ?_⟩
      by_cases c2 : b ≤ 10
      · rw [decide_eq_true c2]
        refine iteF ?_
        refine ⟨_, rfl, a, ds, rfl, hA, h64, fun ms p hp hasc hnew => ?_⟩
        have em := srt_eq hp hasc
        have s1 : Same H (upd H p (.lst (ms.map V.int))) := same_upd (Same.refl H) hnew
        refine ⟨p, _, rfl, .inl ⟨SqL.of upd_same, fun t ht => ?_⟩⟩
        have s2 : Same H (upd (upd H p (.lst (ms.map V.int))) t (.tup (ms.map V.int))) := same_upd s1 ht
        refine ⟨_, rfl, _, rfl, b, t, ms, rfl, SqT.of upd_same, hasc, c1, c2, by rw [hp.length_eq]; exact h64, fun G e => ?_⟩
        have s3 := s2.trans e
        have gt : G t = some (.tup (ms.map V.int)) := e _ _ upd_same
        rw [em] at gt ⊢
        by_cases c3 : AreS b (srt ds)
        · refine ⟨_, rfl, ?_⟩
          rw [areB_t c3]
          refine iteF ?_
          have gx := s3 _ _ hx
          have nxt : x ≠ t := ne_of gx gt (by intro z; cases z)
          refine ⟨_, rfl, _, rfl, x, CD, dx, [], rfl, gx, T.cl, T.nB, (by show 0 < 1000; decide), _, rfl, _, rfl, x, CD, dx, _, rfl, upd_same, T.cl, T.nD, (by show 1 < 1000; decide), ?_⟩
          refine kQ c1 c2 c3 _ t (fun q o hq nq => ?_) (s1.free ht) upd_same ?_
          · rw [upd_ne nq, upd_ne nq]
            exact s3 _ _ hq
          · rw [upd_ne nxt.symm, upd_ne nxt.symm]
            exact gt
        · refine ⟨_, rfl, ?_⟩
          rw [areB_f c3]
          exact iteT (raise_tag fun d hd => kD c1 c2 c3 G d s3 hd)
      · rw [decide_eq_false c2]
        exact iteT (raise_tag fun d hd => kB (fun z => c2 z.2) d hd)
    · exact ifF (decide_eq_false c1) ⟨_, rfl, iteT (raise_tag fun d hd => kB (fun z => c1 z.1) d hd)⟩
def spSetLen (CD : Addr) : Sp := fun vs H Q _ => ∃ (x dx t : Addr) (b : Int) (xs : List V), vs = [.ref x] ∧ H x = some (.ins CD dx (dsF b t)) ∧ H t = some (.tup xs) ∧ Q (.int xs.length) H
theorem scSetLen : FnScope ["self"] ["self"] (defScope sDigitSet_len) := ⟨rfl, rfl, rfl, by decide +kernel, rfl, by decide +kernel, by decide +kernel⟩
theorem ok_setLen {f CD CB CI fIB fID fA : Addr} {fd : FuncData} (F : Fun K "__len__" "DigitSet.__len__" sDigitSet_len f fd) (T : TxtDS K mg CD CB CI fIB fID fA) : FnOk P w K mg base CX0 1 f fd ["self"] (spSetLen CD) := by
  refine F.ok scSetLen (fun vs H Q E h => ?_) (fun cdv A outer s H vs Q E hr h => ?_)
  · obtain ⟨x, dx, t, b, xs, rfl, _⟩ := h
    rfl
  · obtain ⟨x, dx, t, b, xs, rfl, hx, ht, k⟩ := h
    refine ⟨_, pss_one (ps_ret (pe_callB call_len_seq (by rfl) T.len PySem.boot_len (pa_cons (pe_fld (pv 0) rfl) pa_nil))), ?_⟩
    exact ⟨_, rfl, x, CD, dx, _, _, rfl, hx, T.cl, T.nD, dsF_digits b t, t, _, rfl, .inr (SqT.of ht), k⟩
end
end K26
namespace K26
open PySem PySem.Spec PyProof.Rows L2 Ew
section
variable {P : Program} {w : World} {K : PySem.W.Frag} {mg : Str → Option Value} {base : Heap}
/-! ## _law_digits -/
structure TxtLG (mg : Str → Option Value) : Prop where
  list : mg "list" = none
  range : mg "range" = none
  len : mg "len" = none
def spLDigits : Sp := fun vs H Q _ => ∃ (p q : Addr) (ns : List Int) (i v sd b m : Int), vs = [.ref p, .int b, .int m] ∧ RngAt H p q ns i v sd ∧ 2 ≤ b ∧ b ≤ 10 ∧ b ≤ m ∧ m ≤ 20 ∧
  ∀ (G : Hp) (d : Addr) (ds : List Int) (i' v' sd' : Int), KeepBut p H G → RngAt G p q ns i' v' sd' → H d = none → G d = some (.lst (ds.map V.int)) → Dig b ds → ds.length ≤ 20 → (∀ d ∈ ds, -80 ≤ d ∧ d ≤ 80) → Q (.ref d) G
def ldN : List Str := ["_law_rng", "_law_base", "_law_most", "_law_many", "_law_front", "_law_line", "_law_turn", "_law_fewer", "_law_unit", "_law_digit"]
theorem scLDigits : FnScope ldN ["_law_rng", "_law_base", "_law_most"] (defScope sLawDigits) := ⟨rfl, rfl, rfl, by decide +kernel, rfl, by decide +kernel, by decide +kernel⟩
theorem ok_ldigits {f fD fP fA : Addr} {fd fdD fdP fdA : FuncData} (F : Fun K "_law_digits" "_law_digits" sLawDigits f fd) (T : TxtLG mg) (D : Def P w K mg base CX0 1 "_law_draw" fD fdD ["_law_rng", "_law_many"] spDraw) (Pk : Def P w K mg base CX0 2 "_law_pick" fP fdP ["_law_rng", "_law_items"] (spPick K))
    (LA : Def P w K mg base CX0 1 "_law_are_digits" fA fdA ["_law_base", "_law_digits_here"] (spLAre K)) : FnOk P w K mg base CX0 3 f fd ["_law_rng", "_law_base", "_law_most"] spLDigits := by
  refine F.ok scLDigits (fun vs H Q E h => ?_) (fun cdv A outer s H vs Q E hr h => ?_)
  · obtain ⟨p, q, ns, i, v, sd, b, m, rfl, _⟩ := h
    rfl
  · obtain ⟨p, q, ns, i, v, sd, b, m, rfl, R, b2, b10, bm, m20, k⟩ := h
    have r1' : Room 1 _ := hr.mono (by decide)
    refine ⟨_, pss_cons (ps_set (i := 3) scLDigits.nd rfl (Or.inl rfl) (pe_op op_add (pv 1) (pe_call D.ok r1' rfl D.g D.k D.b .nil pass0 (pa_cons (pv 0) (pa_cons (pe_op op_add (pe_op op_sub (pv 2) (pv 1)) pe_int) pa_nil)))))
      (pss_cons (ps_set (i := 4) scLDigits.nd rfl (Or.inl rfl) (pe_call Pk.ok hr rfl Pk.g Pk.k Pk.b .nil pass0 (pa_cons (pv 0) (pa_cons (pe_lst (pa_cons (pe_op op_sub pe_int (pe_op op_fdiv (pv 3) pe_int)) (pa_cons pe_int (pa_cons (pe_op op_sub (pe_call D.ok r1' rfl D.g D.k D.b .nil pass0 (pa_cons (pv 0) (pa_cons pe_int pa_nil))) pe_int) pa_nil)))) pa_nil))))
      (pss_cons (ps_set (i := 5) scLDigits.nd rfl (Or.inl rfl) (pe_listRg rfl rfl T.list (prg_2 rfl T.range (pv 4) (pe_op op_add (pv 4) (pv 3)))))
      (pss_cons (ps_for PassesOwn.never rfl (pi_range1 rfl T.range (pa_cons (pe_call D.ok r1' rfl D.g D.k D.b .nil pass0 (pa_cons (pv 0) (pa_cons pe_int pa_nil))) pa_nil)) (pg_name (i := 6) scLDigits.nd rfl (Or.inl rfl))
        (pss_cons (ps_set (i := 7) scLDigits.nd rfl (Or.inl rfl) (pe_callTy call_list_of (by rfl) T.list (by decide +kernel) (pa_cons (pv 5) pa_nil)))
        (pss_cons (ps_expr (pe_bm PySem.F.plainAttrs_list PySem.F.slot_list_pop PySem.F.type_list_pop mt_popAt (pv 7) (pa_cons (pe_call D.ok r1' rfl D.g D.k D.b .nil pass0 (pa_cons (pv 0) (pa_cons (pe_callB call_len_seq (by rfl) T.len PySem.boot_len (pa_cons (pv 5) pa_nil)) pa_nil))) pa_nil)))
        (pss_one (ps_if (PW.pt (pw_and (pt_cmpR op_gt (pe_callB call_len_seq (by rfl) T.len PySem.boot_len (pa_cons (pv 7) pa_nil)) pe_int (nomark _)) (pw_and1 (pt_val (pe_call LA.ok r1' rfl LA.g LA.k LA.b .nil pass0 (pa_cons (pv 1) (pa_cons (pv 7) pa_nil)))))))
          (pss_one (ps_set (i := 5) scLDigits.nd rfl (Or.inl rfl) (pv 7))) pss_nil)))))
      (pss_cons (ps_set (i := 8) scLDigits.nd rfl (Or.inr rfl) (pe_call Pk.ok hr rfl Pk.g Pk.k Pk.b .nil pass0 (pa_cons (pv 0) (pa_cons (pe_lst (pa_cons pe_int (pa_cons pe_int (pa_cons pe_int (pa_cons pe_int pa_nil))))) pa_nil))))
      (pss_one (ps_ret (pe_lc (own := [("_law_digit", 9)]) (g := gName 9) (tt := tYes) (te := tOp (rI CMul fun i j => .int (i * j)) (tVar 9) (tVar 8)) rfl scLDigits.nd (pi_list (pv 5))
        (blkOk_by (N := ldN) (sc := defScope sLawDigits) (by decide +kernel)) (fun _ _ _ _ _ => by exact pg_name (i := 9) scLDigits.nd rfl (Or.inl rfl)) (fun _ _ _ _ _ => pts_nil) (fun _ _ _ _ _ => by exact pe_op op_mul (pv 9) (pv 8))))))))), ?_⟩
    have small : ∀ z : Int, 0 ≤ z → z ≤ 1000 → z.natAbs < 2 ^ 8000 := fun z h0 h1 => big_lt (n := 10) (Nat.lt_of_le_of_lt (by omega : z.natAbs ≤ 1000) (by decide)) (by decide)
    -- many
    refine ⟨_, rfl, _, rfl, _, rfl, _, rfl, _, _, rfl, rfl, _, _, rfl, rfl, p, q, ns, i, v, sd, m - b + 1, rfl, R, by omega, small _ (by omega) (by omega), fun x1 i1 v1 sd1 x10 x11 ok1 => ?_⟩
    have R1 := R.next ok1
    have K1 : KeepBut p H _ := KeepBut.put (o := .lst (rngL q i1 v1 sd1))
    generalize upd H p (.lst (rngL q i1 v1 sd1)) = G1 at R1 K1
    refine ⟨_, _, rfl, rfl, ?_⟩
    have mn0 : b ≤ b + x1 := by omega
    have mn1 : b + x1 ≤ 20 := by omega
    -- front
    refine ⟨_, rfl, _, rfl, b + x1, 2, rfl, rfl, ⟨by decide, by decide⟩, _, _, rfl, rfl, _, rfl, p, q, ns, i1, v1, sd1, 9, rfl, R1, by decide, small _ (by decide) (by decide), fun x2 i2 v2 sd2 x20 x21 ok2 => ?_⟩
    have R2 := R1.next ok2
    have K2 : KeepBut p H _ := K1.trans (KeepBut.put (o := .lst (rngL q i2 v2 sd2)))
    generalize upd G1 p (.lst (rngL q i2 v2 sd2)) = G2 at R2 K2
    refine ⟨_, _, rfl, rfl, (by show 3 ≤ sizeLine; decide), fun l hl => ?_⟩
    have R3 := R2.same (same_upd (o := .lst [.int (0 - (b + x1) / 2), .int 0, .int (x2 - 6)]) (Same.refl G2) hl)
    have K3 : KeepBut p H _ := K2.trans (KeepBut.new (o := .lst [.int (0 - (b + x1) / 2), .int 0, .int (x2 - 6)]) hl)
    refine ⟨p, q, l, ns, i2, v2, sd2, _, rfl, R3, upd_same, R2.free hl, (by simp), (by show 3 ≤ 1000; decide), fun x i3 v3 sd3 hx ok3 => ?_⟩
    obtain ⟨fr, rfl, f0, f1⟩ : ∃ fr : Int, x = .int fr ∧ -10 ≤ fr ∧ fr ≤ 2 := by
      rcases List.mem_cons.mp hx with e | hx
      · exact ⟨_, e, by omega, by omega⟩
      · rcases List.mem_cons.mp hx with e | hx
        · exact ⟨0, e, by decide, by decide⟩
        · rcases List.mem_cons.mp hx with e | hx
          · exact ⟨_, e, by omega, by omega⟩
          · cases hx
    have R4 := R3.next ok3
    have K4 : KeepBut p H _ := K3.trans (KeepBut.put (o := .lst (rngL q i3 v3 sd3)))
    generalize upd (upd G2 l (.lst [.int (0 - (b + x1) / 2), .int 0, .int (x2 - 6)])) p (.lst (rngL q i3 v3 sd3)) = G4 at R4 K4
    -- line
    have p62 : (2 : Int) ^ 62 = 4611686018427387904 := by decide
    refine ⟨_, rfl, _, rfl, _, rfl, _, _, rfl, rfl, _, _, rfl, rfl, ⟨by omega, by omega, by omega, by omega, by omega⟩, fun l5 h5 => ?_⟩
    have er : rgV fr (fr + (b + x1)) = (runL fr (b + x1).toNat).map V.int := by
      unfold rgV runL
      rw [List.map_map, show (fr + (b + x1) - fr).toNat = (b + x1).toNat by omega]
      rfl
    have R5 := R4.same (same_upd (o := .lst (rgV fr (fr + (b + x1)))) (Same.refl G4) h5)
    have K5 : KeepBut p H _ := K4.trans (KeepBut.new (o := .lst (rgV fr (fr + (b + x1)))) h5)
    have a5 : upd G4 l5 (.lst (rgV fr (fr + (b + x1)))) l5 = some (.lst ((runL fr (b + x1).toNat).map V.int)) := by rw [upd_same, er]
    have d5 : Dig b (runL fr (b + x1).toNat) := runL_dig b2 (by omega) (by omega) (by omega) (by omega)
    have m5 : ∀ d ∈ runL fr (b + x1).toNat, -40 ≤ d ∧ d ≤ 40 := fun d hd => by have := runL_mem hd; omega
    have n5 : H l5 = none := K4.free (R4.free h5) h5
    generalize upd G4 l5 (.lst (rgV fr (fr + (b + x1)))) = G5 at R5 K5 a5
    -- the turns
    refine ⟨_, rfl, p, q, ns, i3, v3, sd3, 3, rfl, R5, by decide, small _ (by decide) (by decide), fun x6 i6 v6 sd6 x60 x61 ok6 => ?_⟩
    have R6 := R5.next ok6
    have K6 : KeepBut p H _ := K5.trans (KeepBut.put (o := .lst (rngL q i6 v6 sd6)))
    have n6 : l5 ≠ p := fun e => by
      have z := R5.at_p
      rw [← e, a5] at z
      have z2 := Option.some.inj z
      injection z2 with z3
      have z4 := congrArg List.length z3
      rw [List.length_map, runL_len] at z4
      have z5 := congrArg (fun l : List V => l[0]?) z3
      rw [show ((runL fr (b + x1).toNat).map V.int)[0]? = some (.int ((runL fr (b + x1).toNat).getD 0 0)) from ints_at (by rw [runL_len]; omega)] at z5
      cases z5
    have a6 : upd G5 p (.lst (rngL q i6 v6 sd6)) l5 = some (.lst ((runL fr (b + x1).toNat).map V.int)) := by rw [upd_ne n6]; exact a5
    generalize upd G5 p (.lst (rngL q i6 v6 sd6)) = G6 at R6 K6 a6
    refine ⟨x6, rfl, by omega, by omega, for_range (lo := 0) (n := x6.toNat) (fun _ σ G => ∃ (l : Addr) (ds : List Int) (i' v' sd' : Int) (o6 o7 : Option V), σ = [some (.ref p), some (.int b), some (.int m), some (.int (b + x1)), some (.int fr), some (.ref l), o6, o7, none, none] ∧
        KeepBut p H G ∧ RngAt G p q ns i' v' sd' ∧ H l = none ∧ G l = some (.lst (ds.map V.int)) ∧ l ≠ p ∧ Dig b ds ∧ (∀ d ∈ ds, -40 ≤ d ∧ d ≤ 40) ∧ ds.length ≤ 20)
      ⟨l5, _, i6, v6, sd6, none, none, rfl, K6, R6, n5, a6, n6, d5, m5, by rw [runL_len]; omega⟩ ?_ ?_⟩
    · rintro j σ G _ ⟨l, ds, i7, v7, sd7, o6, o7, rfl, KG, RG, nl, al, nlp, dg, mm, ln⟩
      have dl := dg.are.l2
      have dl2 := dg.are.l24
      refine ⟨_, rfl, l, _, rfl, .inl (SqL.of al), fun l8 h8 => ?_⟩
      have R8 := RG.same (same_upd (o := .lst (ds.map V.int)) (Same.refl G) h8)
      have K8 : KeepBut p H _ := KG.trans (KeepBut.new (o := .lst (ds.map V.int)) h8)
      have nl8 : l ≠ l8 := ne_of_none al h8
      refine ⟨_, rfl, .inl ⟨rfl, _, SqL.of upd_same⟩, _, rfl, _, rfl, l, _, rfl, .inl (SqL.of (by rw [upd_ne nl8]; exact al)), p, q, ns, i7, v7, sd7, _, rfl, R8, ?_, small _ ?_ ?_, fun x9 i9 v9 sd9 x90 x91 ok9 => ?_⟩
      · rw [List.length_map]; omega
      · rw [List.length_map]; omega
      · rw [List.length_map]; omega
      · rw [List.length_map] at x91
        have R9 := R8.next ok9
        have K9 : KeepBut p H _ := K8.trans (KeepBut.put (o := .lst (rngL q i9 v9 sd9)))
        have n8p : l8 ≠ p := RG.free h8
        have a9 : upd (upd G l8 (.lst (ds.map V.int))) p (.lst (rngL q i9 v9 sd9)) l8 = some (.lst (ds.map V.int)) := by rw [upd_ne n8p, upd_same]
        have b9 : upd (upd G l8 (.lst (ds.map V.int))) p (.lst (rngL q i9 v9 sd9)) l = some (.lst (ds.map V.int)) := by rw [upd_ne nlp, upd_ne nl8]; exact al
        have n8 : H l8 = none := KG.free n8p h8
        generalize upd (upd G l8 (.lst (ds.map V.int))) p (.lst (rngL q i9 v9 sd9)) = G9 at R9 K9 a9 b9
        have hk : x9.toNat < ds.length := by omega
        have p63 : (2 : Int) ^ 63 = 9223372036854775808 := by decide
        refine ⟨l8, ds.map V.int, x9, x9.toNat, _, rfl, rfl, a9, by omega, by omega, seqIx x90 (by rw [List.length_map]; omega), ints_at hk, ?_⟩
        rw [map_erase]
        have R10 : RngAt (upd G9 l8 (.lst ((ds.eraseIdx x9.toNat).map V.int))) p q ns i9 v9 sd9 := by
          refine ⟨by rw [upd_ne n8p.symm]; exact R9.at_p, ?_, R9.len, R9.ok, R9.ne⟩
          rw [upd_ne (fun e => ?_)]
          · exact R9.at_q
          · have z := RG.at_q
            rw [e, h8] at z
            cases z
        have K10 : KeepBut p H (upd G9 l8 (.lst ((ds.eraseIdx x9.toNat).map V.int))) := fun c o hc nc => by
          rw [upd_ne (ne_of_none hc n8)]
          exact K9 c o hc nc
        have b10' : upd G9 l8 (.lst ((ds.eraseIdx x9.toNat).map V.int)) l = some (.lst (ds.map V.int)) := by rw [upd_ne nl8]; exact b9
        have a10 : upd G9 l8 (.lst ((ds.eraseIdx x9.toNat).map V.int)) l8 = some (.lst ((ds.eraseIdx x9.toNat).map V.int)) := upd_same
        generalize upd G9 l8 (.lst ((ds.eraseIdx x9.toNat).map V.int)) = G10 at R10 K10 b10' a10
        have le := List.length_eraseIdx_of_lt hk
        refine ⟨_, rfl, l8, _, rfl, .inl (SqL.of a10), _, _, rfl, rfl, _, rfl, ?_⟩
        rw [List.length_map]
        by_cases c1 : (1 : Int) < ((ds.eraseIdx x9.toNat).length : Int)
        · refine ifT (decide_eq_true c1) ⟨_, rfl, _, rfl, b, l8, _, rfl, .inl (SqL.of a10), b2, b10, by omega, fun G11 e11 => ⟨_, rfl, ?_⟩⟩
          have ea := erase_asc dg.asc x9.toNat
          rw [srt_self ea]
          by_cases c2 : AreS b (ds.eraseIdx x9.toNat)
          · rw [areB_t c2]
            refine iteT ⟨_, rfl, ?_⟩
            exact ⟨l8, _, i9, v9, sd9, _, _, rfl, K10.trans (KeepBut.of e11), R10.same e11, n8, e11 _ _ a10, n8p, ⟨c2, ea⟩, fun d hd => mm d (erase_mem hd), by omega⟩
          · rw [areB_f c2]
            refine iteF ?_
            exact ⟨l, ds, i9, v9, sd9, _, _, rfl, K10.trans (KeepBut.of e11), R10.same e11, nl, e11 _ _ b10', nlp, dg, mm, ln⟩
        · refine ifF (decide_eq_false c1) (iteF ?_)
          exact ⟨l, ds, i9, v9, sd9, _, _, rfl, K10, R10, nl, b10', nlp, dg, mm, ln⟩
    · rintro σ G ⟨l, ds, i7, v7, sd7, o6, o7, rfl, KG, RG, nl, al, nlp, dg, mm, ln⟩
      have dl2 := dg.are.l24
      refine ⟨_, rfl, (by show 4 ≤ sizeLine; decide), fun l8 h8 => ?_⟩
      have R8 := RG.same (same_upd (o := .lst [.int 1, .int 1, .int 1, .int 2]) (Same.refl G) h8)
      have K8 : KeepBut p H _ := KG.trans (KeepBut.new (o := .lst [.int 1, .int 1, .int 1, .int 2]) h8)
      refine ⟨p, q, l8, ns, i7, v7, sd7, _, rfl, R8, upd_same, RG.free h8, (by simp), (by show 4 ≤ 1000; decide), fun x i9 v9 sd9 hx ok9 => ?_⟩
      obtain ⟨u, rfl, hu⟩ : ∃ u : Int, x = .int u ∧ (u = 1 ∨ u = 2) := by
        rcases List.mem_cons.mp hx with e | hx
        · exact ⟨1, e, .inl rfl⟩
        · rcases List.mem_cons.mp hx with e | hx
          · exact ⟨1, e, .inl rfl⟩
          · rcases List.mem_cons.mp hx with e | hx
            · exact ⟨1, e, .inl rfl⟩
            · rcases List.mem_cons.mp hx with e | hx
              · exact ⟨2, e, .inr rfl⟩
              · cases hx
      have R9 := R8.next ok9
      have K9 : KeepBut p H _ := K8.trans (KeepBut.put (o := .lst (rngL q i9 v9 sd9)))
      have b9 : upd (upd G l8 (.lst [.int 1, .int 1, .int 1, .int 2])) p (.lst (rngL q i9 v9 sd9)) l = some (.lst (ds.map V.int)) := by rw [upd_ne nlp, upd_ne (ne_of_none al h8)]; exact al
      generalize upd (upd G l8 (.lst [.int 1, .int 1, .int 1, .int 2])) p (.lst (rngL q i9 v9 sd9)) = G9 at R9 K9 b9
      refine ⟨_, rfl, l, rfl, ⟨_, SqL.of b9⟩, fun D hD => ?_⟩
      have nD : H D = none := K9.free (R9.free hD) hD
      refine lc_list (K := K) (a := l) (xs := ds.map V.int) (fun i G => Same G9 G ∧ G D = some (.lst (((ds.take i).map (· * u)).map V.int))) ⟨same_upd (Same.refl _) hD, upd_same⟩ (fun i G _ e => e.1.seq (SqL.of b9)) ?_ ?_
      · rintro i y G hi ⟨e1, e2⟩
        have hlt : i < ds.length := by
          have z := (List.getElem?_eq_some_iff.mp hi).1
          rw [List.length_map] at z
          exact z
        rw [ints_at hlt] at hi
        cases hi
        have mb := mm _ (Ew.getD_mem hlt)
        refine ⟨rfl, ?_⟩
        refine iteT (B := Same G9 G ∧ G D = some (.lst (((ds.take (i + 1)).map (· * u)).map V.int))) ⟨_, rfl, _, rfl, _, _, rfl, rfl, mul_small (by omega) (by omega), ?_⟩
        refine ⟨_, e2, by rw [List.length_map, List.length_map, List.length_take, sizeLine_eq]; omega, same_updN e1 hD, ?_⟩
        rw [upd_same, List.take_add_one, Ew.getD_at hlt]
        simp
      · rintro G ⟨e1, e2⟩
        rw [List.length_map, List.take_length] at e2
        exact k G D _ i9 v9 sd9 (K9.trans (KeepBut.of e1)) (R9.same e1) nD e2 (scale_dig dg hu mm) (by rw [List.length_map]; exact ln) (fun d hd => by
          obtain ⟨d', hd', rfl⟩ := List.mem_map.mp hd
          have := mm d' hd'
          rcases hu with rfl | rfl
          · show -80 ≤ d' * 1 ∧ d' * 1 ≤ 80
            omega
          · show -80 ≤ d' * 2 ∧ d' * 2 ≤ 80
            omega)
end
end K26
namespace K26
open PySem PySem.Spec PyProof.Rows L2 Ew
section
variable {P : Program} {w : World} {K : PySem.W.Frag} {mg : Str → Option Value} {base : Heap}
/-! ## OutOfRange.__init__ -/
theorem scOut : FnScope ["self"] ["self"] (defScope sOutOfRange_init) := ⟨rfl, rfl, rfl, by decide +kernel, rfl, by decide +kernel, by decide +kernel⟩
theorem ok_out {f C fI : Addr} {fd : FuncData} (F : Fun K "__init__" "OutOfRange.__init__" sOutOfRange_init f fd) (T : ErrT K mg "OutOfRange" C fI) : FnOk P w K mg base CX0 1 f fd ["self"] (spInitTag K C "OutOfRange") := by
  refine F.ok scOut (fun vs H Q E h => ?_) (fun cdv A outer s H vs Q E hr h => ?_)
  · obtain ⟨a, rfl, _⟩ := h
    rfl
  · obtain ⟨a, rfl, ha, k⟩ := h
    exact ⟨_, pss_one (ps_ost (pv 0) pe_str), _, rfl, a, C, rfl, T.oex, T.nT, .inl ⟨ha, k⟩⟩
/-! ## fraction -/
def spFraction (C : Addr) : Sp := fun vs H Q E => ∃ n d : Int, vs = [.int n, .int d] ∧ d.natAbs < 2 ^ 8000 ∧
  (d = 0 → ∀ x, H x = none → E (.ref C) (some x) (upd H x (.xd [("tag", .str "OutOfRange")]))) ∧ (d ≠ 0 → ∀ p, H p = none → Q (.ref p) (upd H p (.tup [.int (frN n d), .int (frD n d)])))
structure TxtF (K : PySem.W.Frag) (mg : Str → Option Value) (C fI fG : Addr) : Prop where
  abs : mg "abs" = none
  out : ErrT K mg "OutOfRange" C fI
  gG : mg "common_divisor" = some (.ref fG)
  kG : PySem.W.keepIn K (.ref fG) = true
theorem scFr : FnScope ["numerator", "denominator", "divisor"] ["numerator", "denominator"] (defScope sFraction) := ⟨rfl, rfl, rfl, by decide +kernel, rfl, by decide +kernel, by decide +kernel⟩
theorem ok_fraction {f C fI fG : Addr} {fd fdI fdG : FuncData} {dvs : List V} {kws : List (Str × V)} (F : FunD K "fraction" "fraction" (defArgs sFraction) (defBody sFraction) (defScope sFraction) dvs kws f fd) (T : TxtF K mg C fI fG)
    (FI : FnOk P w K mg base CX0 1 fI fdI ["self"] (spInitTag K C "OutOfRange")) (bI : Binds K fdI ["self"] []) (FG : FnOk P w K mg base CX0 1 fG fdG ["one", "other"] spGcd) (bG : Binds K fdG ["one", "other"] []) :
    FnOk P w K mg base (L2.CX P w) 3 f fd ["numerator", "denominator"] (spFraction C) := by
  refine F.ok scFr (fun vs H Q E h => ?_) (fun cdv A outer s H vs Q E hr h => ?_)
  · obtain ⟨a, b, rfl, _⟩ := h
    rfl
  · obtain ⟨n, d, rfl, hsz, kE, kQ⟩ := h
    refine ⟨_, pss_cons (ps_if (pt_cmpR op_eq (pv 1) pe_int (nomark _)) (pss_one (ps_raise rfl (takes_of rfl rfl rfl rfl) (pmk0 T.out.oex T.out.iC T.out.tI FI hr bI pass0 rfl T.out.gC))) pss_nil)
      (pss_cons (ps_set (i := 2) scFr.nd rfl (Or.inl rfl) (pe_call FG (hr.mono (by decide)) rfl T.gG T.kG bG .nil pass0 (pa_cons (pe_callB call_abs (by rfl) T.abs (by decide +kernel) (pa_cons (pv 0) pa_nil)) (pa_cons (pe_callB call_abs (by rfl) T.abs (by decide +kernel) (pa_cons (pv 1) pa_nil)) pa_nil))))
      (C8.pss_cut (ps_if (pt_cmpR op_lt (pv 1) pe_int (nomark _)) (pss_one (ps_set (i := 2) scFr.nd rfl (Or.inl rfl) (pe_un un_neg (pv 2)))) pss_nil)
      (pss_one (ps_ret (pe_tup (pa_cons (pe_op op_fdivZ (pv 0) (pv 2)) (pa_cons (pe_op op_fdivZ (pv 1) (pv 2)) pa_nil))))))), ?_⟩
    refine ⟨_, rfl, rfl, _, rfl, ?_⟩
    by_cases c : d = 0
    · subst c
      refine ifT (decide_eq_true rfl) fun a ha => ?_
      refine ⟨a, rfl, upd_same, fun dx hdx ne => ⟨rfl, dx, [("tag", .str "OutOfRange")], upd_same, ?_, ?_, ?_⟩⟩
      · rw [upd_ne ne, upd_same]
      · rw [upd_ne ne] at hdx
        exact hdx
      · rw [raise_heap ha hdx ne]
        rw [upd_ne ne] at hdx
        exact kE rfl dx hdx
    · refine ifF (eq_int c) ?_
      have gp : 0 < gcdI n d := gcdI_pos c
      have gl : (gcdI n d).natAbs < 2 ^ 8000 := Nat.lt_of_le_of_lt (by have := gcdI_le (a := n) c; omega) hsz
      refine ⟨_, rfl, _, rfl, _, rfl, _, rfl, absI n, absI d, rfl, absI_nn n, absI_nn d, ?_⟩
      rw [gcdI_abs]
      refine ⟨fun σ G => G = H ∧ σ = [some (.int n), some (.int d), some (.int (if d < 0 then -(gcdI n d) else gcdI n d))], ?_, ?_⟩
      · refine ⟨_, rfl, _, _, rfl, rfl, _, rfl, ?_⟩
        by_cases e : d < 0
        · refine ifT (decide_eq_true e) ⟨_, rfl, _, rfl, rfl, ?_⟩
          rw [if_pos e]
          rfl
        · refine ifF (decide_eq_false e) ⟨rfl, ?_⟩
          rw [if_neg e]
          rfl
      · rintro σ G ⟨rfl, rfl⟩
        have kq := kQ c
        unfold frN frD at kq
        by_cases e : d < 0
        · rw [if_pos e] at kq ⊢
          rw [if_pos e] at kq
          have hc : ∀ i : Int, CDivZ i (-(gcdI n d)) := fun i => ⟨by omega, by rw [Int.natAbs_neg]; exact Nat.lt_of_lt_of_le (PySem.Flt.log2_lt_of (by decide) gl) (by decide)⟩
          refine ⟨_, rfl, _, rfl, _, _, rfl, rfl, hc _, _, rfl, _, rfl, _, _, rfl, rfl, hc _, (by show 2 ≤ sizeLine; decide), fun p hp => ?_⟩
          have q := kq p hp
          rw [← fdiv_flip n gp, ← fdiv_flip d gp] at q
          exact q
        · rw [if_neg e] at kq ⊢
          rw [if_neg e] at kq
          have hc : ∀ i : Int, CDivZ i (gcdI n d) := fun i => ⟨by omega, Nat.lt_of_lt_of_le (PySem.Flt.log2_lt_of (by decide) gl) (by decide)⟩
          refine ⟨_, rfl, _, rfl, _, _, rfl, rfl, hc _, _, rfl, _, rfl, _, _, rfl, rfl, hc _, (by show 2 ≤ sizeLine; decide), fun p hp => ?_⟩
          have q := kq p hp
          rw [← Int.fdiv_eq_ediv_of_nonneg n (by omega : 0 ≤ gcdI n d), ← Int.fdiv_eq_ediv_of_nonneg d (by omega : 0 ≤ gcdI n d)] at q
          exact q
end
end K26
namespace K26
open PySem PySem.Spec PyProof.Rows L2 Ew
section
variable {P : Program} {w : World} {K : PySem.W.Frag} {mg : Str → Option Value} {base : Heap}
/-! ## low, high -/
def spEnd (CD : Addr) (K : PySem.W.Frag) (g : List Int → Int) : Sp := fun vs H Q _ => ∃ (x dx t : Addr) (b : Int) (s : List Int), vs = [.ref x] ∧ H x = some (.ins CD dx (dsF b t)) ∧ SqT K H t (s.map V.int) ∧ 0 < s.length ∧ 2 ≤ b ∧ b ≤ 10 ∧ ∀ p, H p = none → Q (.ref p) (upd H p (.tup [.int (frN (g s) (b - 1)), .int (frD (g s) (b - 1))]))
theorem b_small {b : Int} (h2 : 2 ≤ b) (h10 : b ≤ 10) : (b - 1).natAbs < 2 ^ 8000 := big_lt (n := 10) (Nat.lt_of_le_of_lt (by omega : (b - 1).natAbs ≤ 1000) (by decide)) (by decide)
theorem scSLow : FnScope ["self"] ["self"] (defScope sDigitSet_low) := ⟨rfl, rfl, rfl, by decide +kernel, rfl, by decide +kernel, by decide +kernel⟩
theorem ok_slow {f CD CB CI fIB fID fA CO fFr : Addr} {fd fdFr : FuncData} (F : Fun K "low" "DigitSet.low" sDigitSet_low f fd) (TS : TxtDS K mg CD CB CI fIB fID fA) (Fr : Def P w K mg base (L2.CX P w) 3 "fraction" fFr fdFr ["numerator", "denominator"] (spFraction CO)) : FnOk P w K mg base CX0 4 f fd ["self"] (spEnd CD K firstI) := by
  refine F.ok scSLow (fun vs H Q E h => ?_) (fun cdv A outer s H vs Q E hr h => ?_)
  · obtain ⟨x, dx, t, b, s, rfl, _⟩ := h
    rfl
  · obtain ⟨x, dx, t, b, s, rfl, hx, hT, hl, b2, b10, k⟩ := h
    refine ⟨_, pss_one (ps_ret (pe_call Fr.ok hr rfl Fr.g Fr.k Fr.b .nil passL (pa_cons (pe_ix ix_tup (pe_fld (pv 0) rfl) pe_int (fun _ _ => rfl)) (pa_cons (pe_op op_sub (pe_fld (pv 0) rfl) pe_int) pa_nil)))), ?_⟩
    exact ⟨_, rfl, x, CD, dx, _, _, rfl, hx, TS.cl, TS.nD, dsF_digits b t, t, _, _, _, rfl, rfl, hT, at_first hl, _, rfl, x, CD, dx, _, _, rfl, hx, TS.cl, TS.nB, dsF_base b t, _, _, rfl, rfl, _, _, rfl, b_small b2 b10, fun z => absurd z (by omega), fun _ p hp => k p hp⟩
theorem scSHigh : FnScope ["self"] ["self"] (defScope sDigitSet_high) := ⟨rfl, rfl, rfl, by decide +kernel, rfl, by decide +kernel, by decide +kernel⟩
theorem ok_shigh {f CD CB CI fIB fID fA CO fFr : Addr} {fd fdFr : FuncData} (F : Fun K "high" "DigitSet.high" sDigitSet_high f fd) (TS : TxtDS K mg CD CB CI fIB fID fA) (Fr : Def P w K mg base (L2.CX P w) 3 "fraction" fFr fdFr ["numerator", "denominator"] (spFraction CO)) : FnOk P w K mg base CX0 4 f fd ["self"] (spEnd CD K lastI) := by
  refine F.ok scSHigh (fun vs H Q E h => ?_) (fun cdv A outer s H vs Q E hr h => ?_)
  · obtain ⟨x, dx, t, b, s, rfl, _⟩ := h
    rfl
  · obtain ⟨x, dx, t, b, s, rfl, hx, hT, hl, b2, b10, k⟩ := h
    refine ⟨_, pss_one (ps_ret (pe_call Fr.ok hr rfl Fr.g Fr.k Fr.b .nil passL (pa_cons (pe_ix ix_tup (pe_fld (pv 0) rfl) (pe_un un_neg pe_int) (fun _ _ => rfl)) (pa_cons (pe_op op_sub (pe_fld (pv 0) rfl) pe_int) pa_nil)))), ?_⟩
    exact ⟨_, rfl, x, CD, dx, _, _, rfl, hx, TS.cl, TS.nD, dsF_digits b t, _, rfl, t, _, _, _, rfl, rfl, hT, at_last hl, _, rfl, x, CD, dx, _, _, rfl, hx, TS.cl, TS.nB, dsF_base b t, _, _, rfl, rfl, _, _, rfl, b_small b2 b10, fun z => absurd z (by omega), fun _ p hp => k p hp⟩
end
end K26
namespace K26
open PySem PySem.Spec PyProof.Rows L2 Ew
section
variable {P : Program} {w : World} {K : PySem.W.Frag} {mg : Str → Option Value} {base : Heap}
/-! ## is_redundant -/
def RedS (b : Int) (s : List Int) : Prop := ∀ i, i + 1 < s.length → (s.getD (i + 1) 0 - s.getD i 0) * (b - 1) < lastI s - firstI s
open Classical in
noncomputable def redB (b : Int) (s : List Int) : Bool := decide (RedS b s)
open Classical in
theorem redB_t {b : Int} {s : List Int} (h : RedS b s) : redB b s = true := by unfold redB; exact decide_eq_true h
open Classical in
theorem redB_f {b : Int} {s : List Int} (h : ¬ RedS b s) : redB b s = false := by unfold redB; exact decide_eq_false h
theorem red_iff {b m : Int} {s : List Int} (hb : 2 ≤ b) (hm : m ∈ gapL s) (hg : ∀ g ∈ gapL s, g ≤ m) : m * (b - 1) < lastI s - firstI s ↔ RedS b s := by
  constructor
  · intro h i hi
    have h1 := hg _ (gapL_mem.mpr ⟨i, hi, rfl⟩)
    exact Int.lt_of_le_of_lt (Int.mul_le_mul_of_nonneg_right h1 (by omega)) h
  · intro h
    obtain ⟨i, hi, rfl⟩ := gapL_mem.mp hm
    exact h i hi
def spRed (CD : Addr) (K : PySem.W.Frag) : Sp := fun vs H Q _ => ∃ (x dx t : Addr) (b : Int) (s : List Int), vs = [.ref x] ∧ H x = some (.ins CD dx (dsF b t)) ∧ SqT K H t (s.map V.int) ∧ 2 ≤ s.length ∧ s.length ≤ 1000 ∧ 2 ≤ b ∧ b ≤ 10 ∧ ∀ G, Same H G → Q (.bl (redB b s)) G
theorem scRed : FnScope ["self"] ["self"] (defScope sDigitSet_is_redundant) := ⟨rfl, rfl, rfl, by decide +kernel, rfl, by decide +kernel, by decide +kernel⟩
theorem ok_red {f CD CB CI fIB fID fA fW fSp : Addr} {fd fdW fdS : FuncData} (F : Fun K "is_redundant" "DigitSet.is_redundant" sDigitSet_is_redundant f fd) (TS : TxtDS K mg CD CB CI fIB fID fA) (T : TxtD K mg fW fSp) (FW : FnOk P w K mg base CX0 1 fW fdW ["ascending"] (spWidest K)) (bW : Binds K fdW ["ascending"] [])
    (FS : FnOk P w K mg base CX0 1 fSp fdS ["ascending"] (spSpread K)) (bS : Binds K fdS ["ascending"] []) : FnOk P w K mg base CX0 2 f fd ["self"] (spRed CD K) := by
  refine F.ok scRed (fun vs H Q E h => ?_) (fun cdv A outer s H vs Q E hr h => ?_)
  · obtain ⟨x, dx, t, b, s, rfl, _⟩ := h
    rfl
  · obtain ⟨x, dx, t, b, s, rfl, hx, hT, l2, l1000, b2, b10, k⟩ := h
    refine ⟨_, pss_one (ps_ret (pe_cmpR op_lt (pe_op op_mul (pe_call FW hr rfl T.gW T.kW bW .nil pass0 (pa_cons (pe_fld (pv 0) rfl) pa_nil)) (pe_op op_sub (pe_fld (pv 0) rfl) pe_int)) (pe_call FS hr rfl T.gS T.kS bS .nil pass0 (pa_cons (pe_fld (pv 0) rfl) pa_nil)) (nomark _))), ?_⟩
    refine ⟨_, rfl, x, CD, dx, _, _, rfl, hx, TS.cl, TS.nD, dsF_digits b t, t, s, rfl, hT, l2, l1000, fun m G e hm hg => ?_⟩
    have gx := e _ _ hx
    refine ⟨_, rfl, x, CD, dx, _, _, rfl, gx, TS.cl, TS.nB, dsF_base b t, _, _, rfl, rfl, m, b - 1, rfl, rfl, mul_smallR (by omega) (by omega), _, rfl, x, CD, dx, _, _, rfl, gx, TS.cl, TS.nD, dsF_digits b t, t, s, rfl, seqT e hT, by omega, _, _, rfl, rfl, ?_⟩
    have q := k G e
    show Q (V.bl (decide (m * (b - 1) < lastI s - firstI s))) G
    by_cases c : RedS b s
    · rw [redB_t c] at q
      rw [decide_eq_true ((red_iff b2 hm hg).mpr c)]
      exact q
    · rw [redB_f c] at q
      rw [decide_eq_false fun z => c ((red_iff b2 hm hg).mp z)]
      exact q
end
end K26
namespace K26
open PySem PySem.Spec PyProof.Rows L2 Ew
section
variable {P : Program} {w : World} {K : PySem.W.Frag} {mg : Str → Option Value} {base : Heap}
/-! ## _law_ends -/
structure TxtEn (mg : Str → Option Value) : Prop where
  min : mg "min" = none
  max : mg "max" = none
def spEnds (K : PySem.W.Frag) : Sp := fun vs H Q _ => ∃ (b : Int) (l : Addr) (s : List Int), vs = [.int b, .ref l] ∧ SqL K H l (s.map V.int) ∧ 0 < s.length ∧ s.Pairwise (· ≤ ·) ∧ 2 ≤ b ∧ b ≤ 10 ∧
  ∀ (G : Hp) (p u v : Addr), Same H G → G p = some (.tup [.ref u, .ref v]) → G u = some (.tup [.int (frN (firstI s) (b - 1)), .int (frD (firstI s) (b - 1))]) → G v = some (.tup [.int (frN (lastI s) (b - 1)), .int (frD (lastI s) (b - 1))]) → Q (.ref p) G
theorem scEnds : FnScope ["_law_base", "_law_digits_here"] ["_law_base", "_law_digits_here"] (defScope sLawEnds) := ⟨rfl, rfl, rfl, by decide +kernel, rfl, by decide +kernel, by decide +kernel⟩
theorem first_min {s : List Int} (h : s.Pairwise (· ≤ ·)) {m : Int} (hm : m ∈ s) (hn : ∀ y, y ∈ s → m ≤ y) (hl : 0 < s.length) : m = firstI s := by
  obtain ⟨i, hi, rfl⟩ := List.getElem_of_mem hm
  have e : s[i] = s.getD i 0 := by rw [List.getD_eq_getElem?_getD, List.getElem?_eq_getElem hi]; rfl
  have a1 := asc_le h (Nat.zero_le i) hi
  have a2 := hn (firstI s) (by unfold firstI; rw [List.getD_eq_getElem?_getD, List.getElem?_eq_getElem hl]; exact List.getElem_mem _)
  unfold firstI at *
  omega
theorem last_max {s : List Int} (h : s.Pairwise (· ≤ ·)) {m : Int} (hm : m ∈ s) (hn : ∀ y, y ∈ s → y ≤ m) (hl : 0 < s.length) : m = lastI s := by
  obtain ⟨i, hi, rfl⟩ := List.getElem_of_mem hm
  have e : s[i] = s.getD i 0 := by rw [List.getD_eq_getElem?_getD, List.getElem?_eq_getElem hi]; rfl
  have a1 := asc_le h (i := i) (j := s.length - 1) (by omega) (by omega)
  have a2 := hn (lastI s) (by unfold lastI; rw [List.getD_eq_getElem?_getD, List.getElem?_eq_getElem (by omega : s.length - 1 < s.length)]; exact List.getElem_mem _)
  unfold lastI at *
  omega
theorem ok_ends {f fL : Addr} {fd fdL : FuncData} (F : Fun K "_law_ends" "_law_ends" sLawEnds f fd) (T : TxtEn mg) (L : Def P w K mg base CX0 1 "_law_lowest" fL fdL ["_law_above", "_law_below"] spLow) : FnOk P w K mg base CX0 2 f fd ["_law_base", "_law_digits_here"] (spEnds K) := by
  refine F.ok scEnds (fun vs H Q E h => ?_) (fun cdv A outer s H vs Q E hr h => ?_)
  · obtain ⟨b, l, s, rfl, _⟩ := h
    rfl
  · obtain ⟨b, l, s, rfl, hL, hl, hasc, b2, b10, k⟩ := h
    refine ⟨_, pss_one (ps_ret (pe_tup (pa_cons (pe_call L.ok hr rfl L.g L.k L.b .nil pass0 (pa_cons (pe_callB (cr_min rfl) (by rfl) T.min (by decide +kernel) (pa_cons (pv 1) pa_nil)) (pa_cons (pe_op op_sub (pv 0) pe_int) pa_nil)))
      (pa_cons (pe_call L.ok hr rfl L.g L.k L.b .nil pass0 (pa_cons (pe_callB (cr_max rfl) (by rfl) T.max (by decide +kernel) (pa_cons (pv 1) pa_nil)) (pa_cons (pe_op op_sub (pv 0) pe_int) pa_nil))) pa_nil)))), ?_⟩
    refine ⟨_, rfl, l, s, rfl, hL, hl, fun m hm hn => ⟨_, rfl, _, _, rfl, rfl, _, _, rfl, by omega, b_small b2 b10, fun u hu => ?_⟩⟩
    have s1 := same_upd (o := .tup [.int (frN m (b - 1)), .int (frD m (b - 1))]) (Same.refl H) hu
    refine ⟨_, rfl, l, s, rfl, s1.seq hL, hl, fun m2 hm2 hn2 => ⟨_, rfl, _, _, rfl, rfl, _, _, rfl, by omega, b_small b2 b10, fun v hv => ⟨(by show 2 ≤ sizeLine; decide), fun p hp => ?_⟩⟩⟩
    have s2 := same_upd (o := .tup [.int (frN m2 (b - 1)), .int (frD m2 (b - 1))]) (Same.refl _) hv
    have s3 := same_upd (o := .tup [.ref u, .ref v]) (Same.refl _) hp
    refine k _ p u v (s1.trans (s2.trans s3)) upd_same ?_ ?_
    · rw [← first_min hasc hm hn hl]
      exact s3 _ _ (s2 _ _ upd_same)
    · rw [← last_max hasc hm2 hn2 hl]
      exact s3 _ _ upd_same
end
end K26
namespace K26
open PySem PySem.Spec PyProof.Rows L2 Ew
section
variable {P : Program} {w : World} {K : PySem.W.Frag} {mg : Str → Option Value} {base : Heap}
/-! ## _law_set -/
structure TxtSt (mg : Str → Option Value) : Prop where
  list : mg "list" = none
def spLSet (CD : Addr) : Sp := fun vs H Q _ => ∃ (b : Int) (l : Addr) (ds : List Int), vs = [.int b, .ref l] ∧ H l = some (.lst (ds.map V.int)) ∧ ds.length < 64 ∧ 2 ≤ b ∧ b ≤ 10 ∧ AreS b (srt ds) ∧
  ∀ G x dx u, Same H G → H x = none → G x = some (.ins CD dx (dsF b u)) → G u = some (.tup ((srt ds).map V.int)) → Q (.ref x) G
theorem scLSet : FnScope ["_law_base", "_law_digits_here"] ["_law_base", "_law_digits_here"] (defScope sLawSet) := ⟨rfl, rfl, rfl, by decide +kernel, rfl, by decide +kernel, by decide +kernel⟩
theorem mk_set {CD CB CI : Addr} {G : Hp} {y dx e : Addr} {b : Int} {ds : List Int} {R : Hp → Prop} {E : XK} (ny : G y = none) (ndx : G dx = none) (he : SqL K G e (ds.map V.int) ∨ SqT K G e (ds.map V.int)) (h64 : ds.length < 64) (c1 : 2 ≤ b) (c2 : b ≤ 10) (c3 : AreS b (srt ds))
    (k : ∀ Gx u, Same G Gx → Gx y = some (.ins CD dx (dsF b u)) → Gx u = some (.tup ((srt ds).map V.int)) → R Gx) :
    spSetInit K CD CB CI [.ref y, .int b, .ref e] (upd (upd G dx (.own y)) y (.ins CD dx [])) (fun v H2 => v = .non ∧ R H2) E := by
  have sN : Same G (upd (upd G dx (.own y)) y (.ins CD dx [])) := fun q o hq => by
    rw [upd_ne (ne_of_none hq ny), upd_ne (ne_of_none hq ndx)]
    exact hq
  exact ⟨y, dx, e, b, ds, rfl, upd_same, he.imp sN.seq (seqT sN), h64, fun z => absurd ⟨c1, c2⟩ z, fun _ _ z => absurd c3 z, fun _ _ _ Gx u e1 hu hy hut => ⟨rfl, k Gx u (Same.made ny ndx e1) hy hut⟩⟩
theorem ok_lset {f CD CB CI fIn : Addr} {fd fdIn : FuncData} (F : Fun K "_law_set" "_law_set" sLawSet f fd) (T : TxtSt mg) (gDS : mg "DigitSet" = some (.ref CD)) (M : Mk K CD fIn) (In : FnOk P w K mg base (L2.CX P w) 3 fIn fdIn ["self", "base", "digits"] (spSetInit K CD CB CI)) (bIn : Binds K fdIn ["self", "base", "digits"] []) :
    FnOk P w K mg base CX0 5 f fd ["_law_base", "_law_digits_here"] (spLSet CD) := by
  refine F.ok scLSet (fun vs H Q E h => ?_) (fun cdv A outer s H vs Q E hr h => ?_)
  · obtain ⟨b, l, ds, rfl, _⟩ := h
    rfl
  · obtain ⟨b, l, ds, rfl, hl, h64, b2, b10, ha, k⟩ := h
    refine ⟨_, pss_one (ps_ret (pe_make M In hr rfl gDS bIn .nil passL (pa_cons (pv 0) (pa_cons (pe_callTy call_list_of (by rfl) T.list (by decide +kernel) (pa_cons (pv 1) pa_nil)) pa_nil)))), ?_⟩
    refine ⟨_, rfl, _, rfl, l, _, rfl, .inl (SqL.of hl), fun m hm => ?_⟩
    have s1 : Same H (upd H m (.lst (ds.map V.int))) := same_upd (Same.refl H) hm
    exact fun y dx ny nd _ => mk_set (ds := ds) ny nd (.inl (SqL.of upd_same)) h64 b2 b10 ha fun G u e hy hu => k G y dx u (s1.trans e) (s1.free ny) hy hu
end
end K26
namespace K26
open PySem PySem.Spec PyProof.Rows L2 Ew
section
variable {P : Program} {w : World} {K : PySem.W.Frag} {mg : Str → Option Value} {base : Heap}
/-! ## fractions: _law_plus, _law_minus, _law_times, _law_less, _law_inside -/
def spQ2 (K : PySem.W.Frag) (X Y : Int → Int → Int → Int → Int) : Sp := fun vs H Q _ => ∃ (u v : Addr) (a b c d : Int), vs = [.ref u, .ref v] ∧ SqT K H u [.int a, .int b] ∧ SqT K H v [.int c, .int d] ∧ Sw a ∧ Sw b ∧ Sw c ∧ Sw d ∧ b ≠ 0 ∧ d ≠ 0 ∧
  ∀ p, H p = none → Q (.ref p) (upd H p (.tup [.int (frN (X a b c d) (Y a b c d)), .int (frD (X a b c d) (Y a b c d))]))
abbrev spQplus (K : PySem.W.Frag) : Sp := spQ2 K (fun a b c d => a * d + c * b) (fun _ b _ d => b * d)
abbrev spQminus (K : PySem.W.Frag) : Sp := spQ2 K (fun a b c d => a * d - c * b) (fun _ b _ d => b * d)
abbrev spQtimes (K : PySem.W.Frag) : Sp := spQ2 K (fun a _ c _ => a * c) (fun _ b _ d => b * d)
theorem scQplus : FnScope ["_law_one", "_law_other"] ["_law_one", "_law_other"] (defScope sLawPlus) := ⟨rfl, rfl, rfl, by decide +kernel, rfl, by decide +kernel, by decide +kernel⟩
theorem ok_qplus {f fL : Addr} {fd fdL : FuncData} (F : Fun K "_law_plus" "_law_plus" sLawPlus f fd) (L : Def P w K mg base CX0 1 "_law_lowest" fL fdL ["_law_above", "_law_below"] spLow) : FnOk P w K mg base CX0 2 f fd ["_law_one", "_law_other"] (spQplus K) := by
  refine F.ok scQplus (fun vs H Q E h => ?_) (fun cdv A outer s H vs Q E hr h => ?_)
  · obtain ⟨u, v, a, b, c, d, rfl, _⟩ := h
    rfl
  · obtain ⟨u, v, a, b, c, d, rfl, hu, hv, sa, sb, sc, sd, b0, d0, k⟩ := h
    refine ⟨_, (pss_one (ps_ret (pe_call L.ok hr rfl L.g L.k L.b .nil pass0 (pa_cons (pe_op op_add (pe_op op_mulW (pe_ix ix_tup (pv 0) pe_int (fun _ _ => rfl)) (pe_ix ix_tup (pv 1) pe_int (fun _ _ => rfl))) (pe_op op_mulW (pe_ix ix_tup (pv 1) pe_int (fun _ _ => rfl)) (pe_ix ix_tup (pv 0) pe_int (fun _ _ => rfl)))) (pa_cons (pe_op op_mulW (pe_ix ix_tup (pv 0) pe_int (fun _ _ => rfl)) (pe_ix ix_tup (pv 1) pe_int (fun _ _ => rfl))) pa_nil))))), ?_⟩
    exact ⟨_, rfl, u, _, _, _, rfl, rfl, hu, rfl, _, rfl, v, _, _, _, rfl, rfl, hv, rfl, _, _, rfl, rfl, sw_mul sa sd, _, rfl, v, _, _, _, rfl, rfl, hv, rfl, _, rfl, u, _, _, _, rfl, rfl, hu, rfl, _, _, rfl, rfl, sw_mul sc sb, _, _, rfl, rfl,
      _, rfl, u, _, _, _, rfl, rfl, hu, rfl, _, rfl, v, _, _, _, rfl, rfl, hv, rfl, _, _, rfl, rfl, sw_mul sb sd, _, _, rfl, Int.mul_ne_zero b0 d0, sw_lt sb sd, k⟩
theorem scQminus : FnScope ["_law_one", "_law_other"] ["_law_one", "_law_other"] (defScope sLawMinus) := ⟨rfl, rfl, rfl, by decide +kernel, rfl, by decide +kernel, by decide +kernel⟩
theorem ok_qminus {f fL : Addr} {fd fdL : FuncData} (F : Fun K "_law_minus" "_law_minus" sLawMinus f fd) (L : Def P w K mg base CX0 1 "_law_lowest" fL fdL ["_law_above", "_law_below"] spLow) : FnOk P w K mg base CX0 2 f fd ["_law_one", "_law_other"] (spQminus K) := by
  refine F.ok scQminus (fun vs H Q E h => ?_) (fun cdv A outer s H vs Q E hr h => ?_)
  · obtain ⟨u, v, a, b, c, d, rfl, _⟩ := h
    rfl
  · obtain ⟨u, v, a, b, c, d, rfl, hu, hv, sa, sb, sc, sd, b0, d0, k⟩ := h
    refine ⟨_, (pss_one (ps_ret (pe_call L.ok hr rfl L.g L.k L.b .nil pass0 (pa_cons (pe_op op_sub (pe_op op_mulW (pe_ix ix_tup (pv 0) pe_int (fun _ _ => rfl)) (pe_ix ix_tup (pv 1) pe_int (fun _ _ => rfl))) (pe_op op_mulW (pe_ix ix_tup (pv 1) pe_int (fun _ _ => rfl)) (pe_ix ix_tup (pv 0) pe_int (fun _ _ => rfl)))) (pa_cons (pe_op op_mulW (pe_ix ix_tup (pv 0) pe_int (fun _ _ => rfl)) (pe_ix ix_tup (pv 1) pe_int (fun _ _ => rfl))) pa_nil))))), ?_⟩
    exact ⟨_, rfl, u, _, _, _, rfl, rfl, hu, rfl, _, rfl, v, _, _, _, rfl, rfl, hv, rfl, _, _, rfl, rfl, sw_mul sa sd, _, rfl, v, _, _, _, rfl, rfl, hv, rfl, _, rfl, u, _, _, _, rfl, rfl, hu, rfl, _, _, rfl, rfl, sw_mul sc sb, _, _, rfl, rfl,
      _, rfl, u, _, _, _, rfl, rfl, hu, rfl, _, rfl, v, _, _, _, rfl, rfl, hv, rfl, _, _, rfl, rfl, sw_mul sb sd, _, _, rfl, Int.mul_ne_zero b0 d0, sw_lt sb sd, k⟩
theorem scQtimes : FnScope ["_law_one", "_law_other"] ["_law_one", "_law_other"] (defScope sLawTimes) := ⟨rfl, rfl, rfl, by decide +kernel, rfl, by decide +kernel, by decide +kernel⟩
theorem ok_qtimes {f fL : Addr} {fd fdL : FuncData} (F : Fun K "_law_times" "_law_times" sLawTimes f fd) (L : Def P w K mg base CX0 1 "_law_lowest" fL fdL ["_law_above", "_law_below"] spLow) : FnOk P w K mg base CX0 2 f fd ["_law_one", "_law_other"] (spQtimes K) := by
  refine F.ok scQtimes (fun vs H Q E h => ?_) (fun cdv A outer s H vs Q E hr h => ?_)
  · obtain ⟨u, v, a, b, c, d, rfl, _⟩ := h
    rfl
  · obtain ⟨u, v, a, b, c, d, rfl, hu, hv, sa, sb, sc, sd, b0, d0, k⟩ := h
    refine ⟨_, (pss_one (ps_ret (pe_call L.ok hr rfl L.g L.k L.b .nil pass0 (pa_cons (pe_op op_mulW (pe_ix ix_tup (pv 0) pe_int (fun _ _ => rfl)) (pe_ix ix_tup (pv 1) pe_int (fun _ _ => rfl))) (pa_cons (pe_op op_mulW (pe_ix ix_tup (pv 0) pe_int (fun _ _ => rfl)) (pe_ix ix_tup (pv 1) pe_int (fun _ _ => rfl))) pa_nil))))), ?_⟩
    exact ⟨_, rfl, u, _, _, _, rfl, rfl, hu, rfl, _, rfl, v, _, _, _, rfl, rfl, hv, rfl, _, _, rfl, rfl, sw_mul sa sc,
      _, rfl, u, _, _, _, rfl, rfl, hu, rfl, _, rfl, v, _, _, _, rfl, rfl, hv, rfl, _, _, rfl, rfl, sw_mul sb sd, _, _, rfl, Int.mul_ne_zero b0 d0, sw_lt sb sd, k⟩
def spLess (K : PySem.W.Frag) : Sp := fun vs H Q _ => ∃ (u v : Addr) (a b c d : Int), vs = [.ref u, .ref v] ∧ SqT K H u [.int a, .int b] ∧ SqT K H v [.int c, .int d] ∧ Sw a ∧ Sw b ∧ Sw c ∧ Sw d ∧ Q (.bl (decide (a * d < c * b))) H
end
end K26
namespace K26
open PySem PySem.Spec PyProof.Rows L2 Ew
section
variable {P : Program} {w : World} {K : PySem.W.Frag} {mg : Str → Option Value} {base : Heap}
/-! ## is_less, is_within -/
theorem scIsLess : FnScope ["one", "other"] ["one", "other"] (defScope sIsLess) := ⟨rfl, rfl, rfl, by decide +kernel, rfl, by decide +kernel, by decide +kernel⟩
theorem ok_isless {f : Addr} {fd : FuncData} (F : Fun K "is_less" "is_less" sIsLess f fd) : FnOk P w K mg base CX0 1 f fd ["one", "other"] (spLess K) := by
  refine F.ok scIsLess (fun vs H Q E h => ?_) (fun cdv A outer s H vs Q E hr h => ?_)
  · obtain ⟨u, v, a, b, c, d, rfl, _⟩ := h
    rfl
  · obtain ⟨u, v, a, b, c, d, rfl, hu, hv, sa, sb, sc, sd, k⟩ := h
    refine ⟨_, (pss_one (ps_ret (pe_cmpR op_lt (pe_op op_mulW (pe_ix ix_tup (pv 0) pe_int (fun _ _ => rfl)) (pe_ix ix_tup (pv 1) pe_int (fun _ _ => rfl))) (pe_op op_mulW (pe_ix ix_tup (pv 1) pe_int (fun _ _ => rfl)) (pe_ix ix_tup (pv 0) pe_int (fun _ _ => rfl))) (nomark _)))), ?_⟩
    exact ⟨_, rfl, u, _, _, _, rfl, rfl, hu, rfl, _, rfl, v, _, _, _, rfl, rfl, hv, rfl, _, _, rfl, rfl, sw_mul sa sd, _, rfl, v, _, _, _, rfl, rfl, hv, rfl, _, rfl, u, _, _, _, rfl, rfl, hu, rfl, _, _, rfl, rfl, sw_mul sc sb, _, _, rfl, rfl, k⟩
def spWithin (K : PySem.W.Frag) : Sp := fun vs H Q _ => ∃ (u v r : Addr) (n d a b e f : Int), vs = [.ref v, .ref u, .ref r] ∧ SqT K H v [.int n, .int d] ∧ SqT K H u [.int a, .int b] ∧ SqT K H r [.int e, .int f] ∧ Sw n ∧ Sw d ∧ Sw a ∧ Sw b ∧ Sw e ∧ Sw f ∧ Q (.bl (inQ n d a b e f)) H
theorem scWithin : FnScope ["number", "low", "high"] ["number", "low", "high"] (defScope sIsWithin) := ⟨rfl, rfl, rfl, by decide +kernel, rfl, by decide +kernel, by decide +kernel⟩
theorem ok_within {f fL : Addr} {fd fdL : FuncData} (F : Fun K "is_within" "is_within" sIsWithin f fd) (Ls : Def P w K mg base CX0 1 "is_less" fL fdL ["one", "other"] (spLess K)) : FnOk P w K mg base CX0 2 f fd ["number", "low", "high"] (spWithin K) := by
  refine F.ok scWithin (fun vs H Q E h => ?_) (fun cdv A outer s H vs Q E hr h => ?_)
  · obtain ⟨u, v, r, n, d, a, b, e, f, rfl, _⟩ := h
    rfl
  · obtain ⟨u, v, r, n, d, a, b, e, f, rfl, hv, hu, hw, sn, sd, sa, sb, se, sf, k⟩ := h
    refine ⟨_, (pss_one (ps_ret (pe_and (pe_not (pe_call Ls.ok hr rfl Ls.g Ls.k Ls.b .nil pass0 (pa_cons (pv 0) (pa_cons (pv 1) pa_nil)))) (pe_one (pe_not (pe_call Ls.ok hr rfl Ls.g Ls.k Ls.b .nil pass0 (pa_cons (pv 2) (pa_cons (pv 0) pa_nil)))))))), ?_⟩
    refine ⟨_, rfl, _, rfl, v, u, n, d, a, b, rfl, hv, hu, sn, sd, sa, sb, _, rfl, _, rfl, ?_⟩
    unfold inQ at k
    cases c1 : decide (n * b < a * d) with
    | true => rw [c1] at k; exact iteF k
    | false => rw [c1] at k; exact iteT ⟨_, rfl, _, rfl, r, v, e, f, n, d, rfl, hw, hv, se, sf, sn, sd, _, rfl, k⟩
end
end K26
namespace K26
open PySem PySem.Spec PyProof.Rows L2 Ew
section
variable {P : Program} {w : World} {K : PySem.W.Frag} {mg : Str → Option Value} {base : Heap}
/-! ## the law's arithmetic, as rational numbers -/
theorem r_plus {k : Nat} {f : Addr} {fd : FuncData} {ps : List Str} (h : FnOk P w K mg base CX0 k f fd ps (spQplus K)) : FnOk P w K mg base CX0 k f fd ps (spR2 (· + ·) (fun _ _ => True)) := h.imp fun vs H Q E h => by
  obtain ⟨_, _, r, s, rfl, ⟨a, rfl, ha⟩, ⟨b, rfl, hb⟩, z1, z2, _, k⟩ := h
  refine ⟨a, b, r.num, r.den, s.num, s.den, rfl, SqT.of ha, SqT.of hb, (sz_sw z1).1, (sz_sw z1).2, (sz_sw z2).1, (sz_sw z2).2, den_ne r, den_ne s, fun p hp => k _ p (same_upd (Same.refl H) hp) hp ?_⟩
  rw [upd_same]
  show some (HO.tup [.int (frN (r.num * s.den + s.num * r.den) (r.den * s.den)), .int (frD (r.num * s.den + s.num * r.den) (r.den * s.den))]) = _
  rw [qV_fr (Int.mul_ne_zero (den_ne r) (den_ne s)), ← add_rat]
theorem r_minus {k : Nat} {f : Addr} {fd : FuncData} {ps : List Str} (h : FnOk P w K mg base CX0 k f fd ps (spQminus K)) : FnOk P w K mg base CX0 k f fd ps (spR2 (· - ·) (fun _ _ => True)) := h.imp fun vs H Q E h => by
  obtain ⟨_, _, r, s, rfl, ⟨a, rfl, ha⟩, ⟨b, rfl, hb⟩, z1, z2, _, k⟩ := h
  refine ⟨a, b, r.num, r.den, s.num, s.den, rfl, SqT.of ha, SqT.of hb, (sz_sw z1).1, (sz_sw z1).2, (sz_sw z2).1, (sz_sw z2).2, den_ne r, den_ne s, fun p hp => k _ p (same_upd (Same.refl H) hp) hp ?_⟩
  rw [upd_same]
  show some (HO.tup [.int (frN (r.num * s.den - s.num * r.den) (r.den * s.den)), .int (frD (r.num * s.den - s.num * r.den) (r.den * s.den))]) = _
  rw [qV_fr (Int.mul_ne_zero (den_ne r) (den_ne s)), ← sub_rat]
theorem r_times {k : Nat} {f : Addr} {fd : FuncData} {ps : List Str} (h : FnOk P w K mg base CX0 k f fd ps (spQtimes K)) : FnOk P w K mg base CX0 k f fd ps (spR2 (· * ·) (fun _ _ => True)) := h.imp fun vs H Q E h => by
  obtain ⟨_, _, r, s, rfl, ⟨a, rfl, ha⟩, ⟨b, rfl, hb⟩, z1, z2, _, k⟩ := h
  refine ⟨a, b, r.num, r.den, s.num, s.den, rfl, SqT.of ha, SqT.of hb, (sz_sw z1).1, (sz_sw z1).2, (sz_sw z2).1, (sz_sw z2).2, den_ne r, den_ne s, fun p hp => k _ p (same_upd (Same.refl H) hp) hp ?_⟩
  rw [upd_same]
  show some (HO.tup [.int (frN (r.num * s.num) (r.den * s.den)), .int (frD (r.num * s.num) (r.den * s.den))]) = _
  rw [qV_fr (Int.mul_ne_zero (den_ne r) (den_ne s)), ← mul_rat]
theorem r_less {k : Nat} {f : Addr} {fd : FuncData} {ps : List Str} (h : FnOk P w K mg base CX0 k f fd ps (spLess K)) : FnOk P w K mg base CX0 k f fd ps spRless := h.imp fun vs H Q E h => by
  obtain ⟨_, _, r, s, rfl, ⟨a, rfl, ha⟩, ⟨b, rfl, hb⟩, z1, z2, k⟩ := h
  refine ⟨a, b, r.num, r.den, s.num, s.den, rfl, SqT.of ha, SqT.of hb, (sz_sw z1).1, (sz_sw z1).2, (sz_sw z2).1, (sz_sw z2).2, ?_⟩
  rw [lt_rat]
  exact k
theorem r_low {k : Nat} {f : Addr} {fd : FuncData} {ps : List Str} (h : FnOk P w K mg base CX0 k f fd ps spLow) : FnOk P w K mg base CX0 k f fd ps (fun vs H Q _ => ∃ a b : Int, vs = [.int a, .int b] ∧ b ≠ 0 ∧ b.natAbs < 2 ^ 8000 ∧ ∀ G p, Same H G → H p = none → G p = some (.tup (qV (Rat.divInt a b))) → Q (.ref p) G) := h.imp fun vs H Q E h => by
  obtain ⟨a, b, rfl, hb, hz, k⟩ := h
  exact ⟨a, b, rfl, hb, hz, fun p hp => k _ p (same_upd (Same.refl H) hp) hp (by rw [upd_same, qV_fr hb])⟩
end
end K26
namespace K26
open PySem PySem.Spec PyProof.Rows L2 Ew
section
variable {P : Program} {w : World} {K : PySem.W.Frag} {mg : Str → Option Value} {base : Heap}
theorem scOver : FnScope ["_law_one", "_law_other"] ["_law_one", "_law_other"] (defScope sLawOver) := ⟨rfl, rfl, rfl, by decide +kernel, rfl, by decide +kernel, by decide +kernel⟩
theorem ok_over {f fL : Addr} {fd fdL : FuncData} (F : Fun K "_law_over" "_law_over" sLawOver f fd) (L : Def P w K mg base CX0 1 "_law_lowest" fL fdL ["_law_above", "_law_below"] spLow) : FnOk P w K mg base CX0 2 f fd ["_law_one", "_law_other"] (spR2 (· / ·) (fun _ s => s ≠ 0)) := by
  refine F.ok scOver (fun vs H Q E h => ?_) (fun cdv A outer s H vs Q E hr h => ?_)
  · obtain ⟨u, v, r, s, rfl, _⟩ := h
    rfl
  · obtain ⟨_, _, r, s, rfl, ⟨u, rfl, hu⟩, ⟨v, rfl, hv⟩, z1, z2, h0, k⟩ := h
    obtain ⟨sa, sb⟩ := sz_sw z1
    obtain ⟨sc, sd⟩ := sz_sw z2
    refine ⟨_, (pss_one (ps_ret (pe_call L.ok hr rfl L.g L.k L.b .nil pass0 (pa_cons (pe_op op_mulW (pe_ix ix_tup (pv 0) pe_int (fun _ _ => rfl)) (pe_ix ix_tup (pv 1) pe_int (fun _ _ => rfl))) (pa_cons (pe_op op_mulW (pe_ix ix_tup (pv 0) pe_int (fun _ _ => rfl)) (pe_ix ix_tup (pv 1) pe_int (fun _ _ => rfl))) pa_nil))))), ?_⟩
    refine ⟨_, rfl, u, _, _, _, rfl, rfl, SqT.of hu, rfl, _, rfl, v, _, _, _, rfl, rfl, SqT.of hv, rfl, _, _, rfl, rfl, sw_mul sa sd,
      _, rfl, u, _, _, _, rfl, rfl, SqT.of hu, rfl, _, rfl, v, _, _, _, rfl, rfl, SqT.of hv, rfl, _, _, rfl, rfl, sw_mul sb sc, _, _, rfl, Int.mul_ne_zero (den_ne r) (num_ne h0), sw_lt sb sc, fun p hp => k _ p (same_upd (Same.refl H) hp) hp ?_⟩
    rw [upd_same]
    show some (HO.tup [.int (frN (r.num * s.den) (r.den * s.num)), .int (frD (r.num * s.den) (r.den * s.num))]) = _
    rw [qV_fr (Int.mul_ne_zero (den_ne r) (num_ne h0)), ← div_rat h0]
end
end K26
namespace K26
open PySem PySem.Spec PyProof.Rows L2 Ew
section
variable {P : Program} {w : World} {K : PySem.W.Frag} {mg : Str → Option Value} {base : Heap}
/-! ## the program's arithmetic -/
theorem scSumOf : FnScope ["one", "other"] ["one", "other"] (defScope sSumOf) := ⟨rfl, rfl, rfl, by decide +kernel, rfl, by decide +kernel, by decide +kernel⟩
theorem ok_SumOf {f CO fFr : Addr} {fd fdFr : FuncData} (F : Fun K "sum_of" "sum_of" sSumOf f fd) (Fr : Def P w K mg base (L2.CX P w) 3 "fraction" fFr fdFr ["numerator", "denominator"] (spFraction CO)) : FnOk P w K mg base CX0 4 f fd ["one", "other"] (spR2 (· + ·) (fun _ _ => True)) := by
  refine F.ok scSumOf (fun vs H Q E h => ?_) (fun cdv A outer s H vs Q E hr h => ?_)
  · obtain ⟨u, v, r, s, rfl, _⟩ := h
    rfl
  · obtain ⟨_, _, r, s, rfl, ⟨u, rfl, hu⟩, ⟨v, rfl, hv⟩, z1, z2, h0, k⟩ := h
    obtain ⟨sa, sb⟩ := sz_sw z1
    obtain ⟨sc, sd⟩ := sz_sw z2
    refine ⟨_, (pss_one (ps_ret (pe_call Fr.ok hr rfl Fr.g Fr.k Fr.b .nil passL (pa_cons (pe_op op_add (pe_op op_mulW (pe_ix ix_tup (pv 0) pe_int (fun _ _ => rfl)) (pe_ix ix_tup (pv 1) pe_int (fun _ _ => rfl))) (pe_op op_mulW (pe_ix ix_tup (pv 1) pe_int (fun _ _ => rfl)) (pe_ix ix_tup (pv 0) pe_int (fun _ _ => rfl)))) (pa_cons (pe_op op_mulW (pe_ix ix_tup (pv 0) pe_int (fun _ _ => rfl)) (pe_ix ix_tup (pv 1) pe_int (fun _ _ => rfl))) pa_nil))))), ?_⟩
    refine ⟨_, rfl, u, _, _, _, rfl, rfl, SqT.of hu, rfl, _, rfl, v, _, _, _, rfl, rfl, SqT.of hv, rfl, _, _, rfl, rfl, sw_mul sa sd, _, rfl, v, _, _, _, rfl, rfl, SqT.of hv, rfl, _, rfl, u, _, _, _, rfl, rfl, SqT.of hu, rfl, _, _, rfl, rfl, sw_mul sc sb, _, _, rfl, rfl, _, rfl, u, _, _, _, rfl, rfl, SqT.of hu, rfl, _, rfl, v, _, _, _, rfl, rfl, SqT.of hv, rfl, _, _, rfl, rfl, sw_mul sb sd, _, _, rfl, sw_lt sb sd, fun z => absurd z (Int.mul_ne_zero (den_ne r) (den_ne s)), fun _ p hp => k _ p (same_upd (Same.refl H) hp) hp ?_⟩
    rw [upd_same]
    show some (HO.tup [.int (frN (r.num * s.den + s.num * r.den) (r.den * s.den)), .int (frD (r.num * s.den + s.num * r.den) (r.den * s.den))]) = _
    rw [qV_fr (Int.mul_ne_zero (den_ne r) (den_ne s)), ← add_rat]
theorem scDifference : FnScope ["one", "other"] ["one", "other"] (defScope sDifference) := ⟨rfl, rfl, rfl, by decide +kernel, rfl, by decide +kernel, by decide +kernel⟩
theorem ok_Difference {f CO fFr : Addr} {fd fdFr : FuncData} (F : Fun K "difference" "difference" sDifference f fd) (Fr : Def P w K mg base (L2.CX P w) 3 "fraction" fFr fdFr ["numerator", "denominator"] (spFraction CO)) : FnOk P w K mg base CX0 4 f fd ["one", "other"] (spR2 (· - ·) (fun _ _ => True)) := by
  refine F.ok scDifference (fun vs H Q E h => ?_) (fun cdv A outer s H vs Q E hr h => ?_)
  · obtain ⟨u, v, r, s, rfl, _⟩ := h
    rfl
  · obtain ⟨_, _, r, s, rfl, ⟨u, rfl, hu⟩, ⟨v, rfl, hv⟩, z1, z2, h0, k⟩ := h
    obtain ⟨sa, sb⟩ := sz_sw z1
    obtain ⟨sc, sd⟩ := sz_sw z2
    refine ⟨_, (pss_one (ps_ret (pe_call Fr.ok hr rfl Fr.g Fr.k Fr.b .nil passL (pa_cons (pe_op op_sub (pe_op op_mulW (pe_ix ix_tup (pv 0) pe_int (fun _ _ => rfl)) (pe_ix ix_tup (pv 1) pe_int (fun _ _ => rfl))) (pe_op op_mulW (pe_ix ix_tup (pv 1) pe_int (fun _ _ => rfl)) (pe_ix ix_tup (pv 0) pe_int (fun _ _ => rfl)))) (pa_cons (pe_op op_mulW (pe_ix ix_tup (pv 0) pe_int (fun _ _ => rfl)) (pe_ix ix_tup (pv 1) pe_int (fun _ _ => rfl))) pa_nil))))), ?_⟩
    refine ⟨_, rfl, u, _, _, _, rfl, rfl, SqT.of hu, rfl, _, rfl, v, _, _, _, rfl, rfl, SqT.of hv, rfl, _, _, rfl, rfl, sw_mul sa sd, _, rfl, v, _, _, _, rfl, rfl, SqT.of hv, rfl, _, rfl, u, _, _, _, rfl, rfl, SqT.of hu, rfl, _, _, rfl, rfl, sw_mul sc sb, _, _, rfl, rfl, _, rfl, u, _, _, _, rfl, rfl, SqT.of hu, rfl, _, rfl, v, _, _, _, rfl, rfl, SqT.of hv, rfl, _, _, rfl, rfl, sw_mul sb sd, _, _, rfl, sw_lt sb sd, fun z => absurd z (Int.mul_ne_zero (den_ne r) (den_ne s)), fun _ p hp => k _ p (same_upd (Same.refl H) hp) hp ?_⟩
    rw [upd_same]
    show some (HO.tup [.int (frN (r.num * s.den - s.num * r.den) (r.den * s.den)), .int (frD (r.num * s.den - s.num * r.den) (r.den * s.den))]) = _
    rw [qV_fr (Int.mul_ne_zero (den_ne r) (den_ne s)), ← sub_rat]
theorem scProduct : FnScope ["one", "other"] ["one", "other"] (defScope sProduct) := ⟨rfl, rfl, rfl, by decide +kernel, rfl, by decide +kernel, by decide +kernel⟩
theorem ok_Product {f CO fFr : Addr} {fd fdFr : FuncData} (F : Fun K "product" "product" sProduct f fd) (Fr : Def P w K mg base (L2.CX P w) 3 "fraction" fFr fdFr ["numerator", "denominator"] (spFraction CO)) : FnOk P w K mg base CX0 4 f fd ["one", "other"] (spR2 (· * ·) (fun _ _ => True)) := by
  refine F.ok scProduct (fun vs H Q E h => ?_) (fun cdv A outer s H vs Q E hr h => ?_)
  · obtain ⟨u, v, r, s, rfl, _⟩ := h
    rfl
  · obtain ⟨_, _, r, s, rfl, ⟨u, rfl, hu⟩, ⟨v, rfl, hv⟩, z1, z2, h0, k⟩ := h
    obtain ⟨sa, sb⟩ := sz_sw z1
    obtain ⟨sc, sd⟩ := sz_sw z2
    refine ⟨_, (pss_one (ps_ret (pe_call Fr.ok hr rfl Fr.g Fr.k Fr.b .nil passL (pa_cons (pe_op op_mulW (pe_ix ix_tup (pv 0) pe_int (fun _ _ => rfl)) (pe_ix ix_tup (pv 1) pe_int (fun _ _ => rfl))) (pa_cons (pe_op op_mulW (pe_ix ix_tup (pv 0) pe_int (fun _ _ => rfl)) (pe_ix ix_tup (pv 1) pe_int (fun _ _ => rfl))) pa_nil))))), ?_⟩
    refine ⟨_, rfl, u, _, _, _, rfl, rfl, SqT.of hu, rfl, _, rfl, v, _, _, _, rfl, rfl, SqT.of hv, rfl, _, _, rfl, rfl, sw_mul sa sc, _, rfl, u, _, _, _, rfl, rfl, SqT.of hu, rfl, _, rfl, v, _, _, _, rfl, rfl, SqT.of hv, rfl, _, _, rfl, rfl, sw_mul sb sd, _, _, rfl, sw_lt sb sd, fun z => absurd z (Int.mul_ne_zero (den_ne r) (den_ne s)), fun _ p hp => k _ p (same_upd (Same.refl H) hp) hp ?_⟩
    rw [upd_same]
    show some (HO.tup [.int (frN (r.num * s.num) (r.den * s.den)), .int (frD (r.num * s.num) (r.den * s.den))]) = _
    rw [qV_fr (Int.mul_ne_zero (den_ne r) (den_ne s)), ← mul_rat]
theorem scQuotient : FnScope ["one", "other"] ["one", "other"] (defScope sQuotient) := ⟨rfl, rfl, rfl, by decide +kernel, rfl, by decide +kernel, by decide +kernel⟩
theorem ok_Quotient {f CO fFr : Addr} {fd fdFr : FuncData} (F : Fun K "quotient" "quotient" sQuotient f fd) (Fr : Def P w K mg base (L2.CX P w) 3 "fraction" fFr fdFr ["numerator", "denominator"] (spFraction CO)) : FnOk P w K mg base CX0 4 f fd ["one", "other"] (spR2 (· / ·) (fun _ s => s ≠ 0)) := by
  refine F.ok scQuotient (fun vs H Q E h => ?_) (fun cdv A outer s H vs Q E hr h => ?_)
  · obtain ⟨u, v, r, s, rfl, _⟩ := h
    rfl
  · obtain ⟨_, _, r, s, rfl, ⟨u, rfl, hu⟩, ⟨v, rfl, hv⟩, z1, z2, h0, k⟩ := h
    obtain ⟨sa, sb⟩ := sz_sw z1
    obtain ⟨sc, sd⟩ := sz_sw z2
    refine ⟨_, (pss_one (ps_ret (pe_call Fr.ok hr rfl Fr.g Fr.k Fr.b .nil passL (pa_cons (pe_op op_mulW (pe_ix ix_tup (pv 0) pe_int (fun _ _ => rfl)) (pe_ix ix_tup (pv 1) pe_int (fun _ _ => rfl))) (pa_cons (pe_op op_mulW (pe_ix ix_tup (pv 0) pe_int (fun _ _ => rfl)) (pe_ix ix_tup (pv 1) pe_int (fun _ _ => rfl))) pa_nil))))), ?_⟩
    refine ⟨_, rfl, u, _, _, _, rfl, rfl, SqT.of hu, rfl, _, rfl, v, _, _, _, rfl, rfl, SqT.of hv, rfl, _, _, rfl, rfl, sw_mul sa sd, _, rfl, u, _, _, _, rfl, rfl, SqT.of hu, rfl, _, rfl, v, _, _, _, rfl, rfl, SqT.of hv, rfl, _, _, rfl, rfl, sw_mul sb sc, _, _, rfl, sw_lt sb sc, fun z => absurd z (Int.mul_ne_zero (den_ne r) (num_ne h0)), fun _ p hp => k _ p (same_upd (Same.refl H) hp) hp ?_⟩
    rw [upd_same]
    show some (HO.tup [.int (frN (r.num * s.den) (r.den * s.num)), .int (frD (r.num * s.den) (r.den * s.num))]) = _
    rw [qV_fr (Int.mul_ne_zero (den_ne r) (num_ne h0)), ← div_rat h0]
end
end K26
namespace K26
open PySem PySem.Spec PyProof.Rows L2 Ew
section
variable {P : Program} {w : World} {K : PySem.W.Frag} {mg : Str → Option Value} {base : Heap}
def spRwithin : Sp := fun vs H Q _ => ∃ (n l h : V) (x lo hi : Rat), vs = [n, l, h] ∧ QAt H n x ∧ QAt H l lo ∧ QAt H h hi ∧ Sz 3900 x ∧ Sz 3900 lo ∧ Sz 3900 hi ∧ Q (.bl (!decide (x < lo) && !decide (hi < x))) H
theorem r_within {k : Nat} {f : Addr} {fd : FuncData} {ps : List Str} (h : FnOk P w K mg base CX0 k f fd ps (spWithin K)) : FnOk P w K mg base CX0 k f fd ps spRwithin := h.imp fun vs H Q E h => by
  obtain ⟨_, _, _, x, lo, hi, rfl, ⟨n, rfl, hn⟩, ⟨l, rfl, hl⟩, ⟨h, rfl, hh⟩, z1, z2, z3, k⟩ := h
  refine ⟨l, n, h, x.num, x.den, lo.num, lo.den, hi.num, hi.den, rfl, SqT.of hn, SqT.of hl, SqT.of hh, (sz_sw z1).1, (sz_sw z1).2, (sz_sw z2).1, (sz_sw z2).2, (sz_sw z3).1, (sz_sw z3).2, ?_⟩
  unfold inQ
  rw [lt_rat, lt_rat]
  exact k
end
end K26
namespace K26
open PySem PySem.Spec PyProof.Rows L2 Ew
section
variable {P : Program} {w : World} {K : PySem.W.Frag} {mg : Str → Option Value} {base : Heap}
/-! ## slope_of, height_at -/
def spSlope : Sp := fun vs H Q _ => ∃ (u v : V) (l r : Pt), vs = [u, v] ∧ PAt H u l ∧ PAt H v r ∧ PSz 1900 l ∧ PSz 1900 r ∧ r.1 - l.1 ≠ 0 ∧ ∀ G p, Same H G → H p = none → G p = some (.tup (qV (slopeQ l r))) → Q (.ref p) G
theorem scSlopeOf : FnScope ["left", "right"] ["left", "right"] (defScope sSlopeOf) := ⟨rfl, rfl, rfl, by decide +kernel, rfl, by decide +kernel, by decide +kernel⟩
theorem ok_slope_of {f fDf fQu : Addr} {fd fdDf fdQu : FuncData} (F : Fun K "slope_of" "slope_of" sSlopeOf f fd) (Df : Def P w K mg base CX0 4 "difference" fDf fdDf ["one", "other"] (spR2 (· - ·) (fun _ _ => True))) (Qu : Def P w K mg base CX0 4 "quotient" fQu fdQu ["one", "other"] (spR2 (· / ·) (fun _ s => s ≠ 0))) :
    FnOk P w K mg base CX0 5 f fd ["left", "right"] spSlope := by
  refine F.ok scSlopeOf (fun vs H Q E h => ?_) (fun cdv A outer s H vs Q E hr h => ?_)
  · obtain ⟨u, v, l, r, rfl, _⟩ := h
    rfl
  · obtain ⟨_, _, l, r, rfl, ⟨a, ax, ay, rfl, ha, hax, hay⟩, ⟨b, bx, by', rfl, hb, hbx, hby⟩, z1, z2, h0, k⟩ := h
    refine ⟨_, (pss_one (ps_ret (pe_call Qu.ok hr rfl Qu.g Qu.k Qu.b .nil pass0 (pa_cons (pe_call Df.ok hr rfl Df.g Df.k Df.b .nil pass0 (pa_cons (pe_ix ix_tup (pv 1) pe_int (fun _ _ => rfl)) (pa_cons (pe_ix ix_tup (pv 0) pe_int (fun _ _ => rfl)) pa_nil))) (pa_cons (pe_call Df.ok hr rfl Df.g Df.k Df.b .nil pass0 (pa_cons (pe_ix ix_tup (pv 1) pe_int (fun _ _ => rfl)) (pa_cons (pe_ix ix_tup (pv 0) pe_int (fun _ _ => rfl)) pa_nil))) pa_nil))))), ?_⟩
    refine ⟨_, rfl, b, _, _, _, rfl, rfl, SqT.of hb, rfl, _, rfl, a, _, _, _, rfl, rfl, SqT.of ha, rfl, _, _, r.2, l.2, rfl, hby, hay, z2.y.le (by decide), z1.y.le (by decide), trivial, fun G1 p1 s1 n1 h1 => ?_⟩
    have k1 := Kp.of s1
    refine ⟨_, rfl, b, _, _, _, rfl, rfl, SqT.of (s1 _ _ hb), rfl, _, rfl, a, _, _, _, rfl, rfl, SqT.of (s1 _ _ ha), rfl, _, _, r.1, l.1, rfl, hbx.kp k1, hax.kp k1, z2.x.le (by decide), z1.x.le (by decide), trivial, fun G2 p2 s2 n2 h2 => ?_⟩
    exact ⟨_, _, r.2 - l.2, r.1 - l.1, rfl, ⟨p1, rfl, s2 _ _ h1⟩, ⟨p2, rfl, h2⟩, (z2.y.sub z1.y).le (by decide), (z2.x.sub z1.x).le (by decide), h0, fun G3 p3 s3 n3 h3 => k G3 p3 (s1.trans (s2.trans s3)) (s1.free (s2.free n3)) h3⟩
def spHeight : Sp := fun vs H Q _ => ∃ (u v n : V) (l r : Pt) (x : Rat), vs = [u, v, n] ∧ PAt H u l ∧ PAt H v r ∧ QAt H n x ∧ PSz 900 l ∧ PSz 900 r ∧ Sz 900 x ∧ r.1 - l.1 ≠ 0 ∧ Sz 2900 (heightQ l r x) ∧ ∀ G p, Same H G → H p = none → G p = some (.tup (qV (heightQ l r x))) → Q (.ref p) G
theorem scHeightAt : FnScope ["left", "right", "x"] ["left", "right", "x"] (defScope sHeightAt) := ⟨rfl, rfl, rfl, by decide +kernel, rfl, by decide +kernel, by decide +kernel⟩
theorem ok_height_at {f fSu fDf fPr fSo : Addr} {fd fdSu fdDf fdPr fdSo : FuncData} (F : Fun K "height_at" "height_at" sHeightAt f fd) (Su : Def P w K mg base CX0 4 "sum_of" fSu fdSu ["one", "other"] (spR2 (· + ·) (fun _ _ => True))) (Df : Def P w K mg base CX0 4 "difference" fDf fdDf ["one", "other"] (spR2 (· - ·) (fun _ _ => True)))
    (Pr : Def P w K mg base CX0 4 "product" fPr fdPr ["one", "other"] (spR2 (· * ·) (fun _ _ => True))) (So : Def P w K mg base CX0 5 "slope_of" fSo fdSo ["left", "right"] spSlope) : FnOk P w K mg base CX0 6 f fd ["left", "right", "x"] spHeight := by
  refine F.ok scHeightAt (fun vs H Q E h => ?_) (fun cdv A outer s H vs Q E hr h => ?_)
  · obtain ⟨u, v, n, l, r, x, rfl, _⟩ := h
    rfl
  · obtain ⟨_, v, n, l, r, x, rfl, hu, hv, hn, z1, z2, z3, h0, zh, k⟩ := h
    obtain ⟨a, ax, ay, rfl, ha, hax, hay⟩ := hu
    have r4' : Room 4 _ := hr.mono (by decide)
    refine ⟨_, (pss_one (ps_ret (pe_call Su.ok r4' rfl Su.g Su.k Su.b .nil pass0 (pa_cons (pe_ix ix_tup (pv 0) pe_int (fun _ _ => rfl)) (pa_cons (pe_call Pr.ok r4' rfl Pr.g Pr.k Pr.b .nil pass0 (pa_cons (pe_call So.ok hr rfl So.g So.k So.b .nil pass0 (pa_cons (pv 0) (pa_cons (pv 1) pa_nil))) (pa_cons (pe_call Df.ok r4' rfl Df.g Df.k Df.b .nil pass0 (pa_cons (pv 2) (pa_cons (pe_ix ix_tup (pv 0) pe_int (fun _ _ => rfl)) pa_nil))) pa_nil))) pa_nil))))), ?_⟩
    refine ⟨_, rfl, a, _, _, _, rfl, rfl, SqT.of ha, rfl, _, rfl, _, rfl, _, _, l, r, rfl, ⟨a, ax, ay, rfl, ha, hax, hay⟩, hv, z1.le (by decide), z2.le (by decide), h0, fun G1 p1 s1 n1 h1 => ?_⟩
    have k1 := Kp.of s1
    refine ⟨_, rfl, _, rfl, a, _, _, _, rfl, rfl, SqT.of (s1 _ _ ha), rfl, _, _, x, l.1, rfl, hn.kp k1, hax.kp k1, z3.le (by decide), z1.x.le (by decide), trivial, fun G2 p2 s2 n2 h2 => ?_⟩
    have sl := slope_sz z1 z2 h0
    have df := z3.sub z1.x
    have zprod : Sz 3900 (slopeQ l r * (x - l.1)) := by
      have e : slopeQ l r * (x - l.1) = heightQ l r x - l.2 := by unfold heightQ; grind
      rw [e]
      exact (zh.sub z1.y).le (by decide)
    refine ⟨_, _, slopeQ l r, x - l.1, rfl, ⟨p1, rfl, s2 _ _ h1⟩, ⟨p2, rfl, h2⟩, sl.le (by decide), df.le (by decide), trivial, fun G3 p3 s3 n3 h3 => ?_⟩
    have s13 := s1.trans (s2.trans s3)
    exact ⟨_, _, l.2, slopeQ l r * (x - l.1), rfl, hay.kp (Kp.of s13), ⟨p3, rfl, h3⟩, z1.y.le (by decide), zprod, trivial, fun G4 p4 s4 n4 h4 => k G4 p4 (s13.trans s4) (s13.free n4) h4⟩
/-! ## is_ascending -/
structure TxtAs (mg : Str → Option Value) : Prop where
  all : mg "all" = none
  zip : mg "zip" = none
def spAsc (K : PySem.W.Frag) : Sp := fun vs H Q _ => ∃ (a : Addr) (ws : List V) (xs : List Rat), vs = [.ref a] ∧ H a = some (.lst ws) ∧ All2 (QAt H) ws xs ∧ (∀ x ∈ xs, Sz 1900 x) ∧ xs.length ≤ 1000 ∧ ∀ G, Same H G → Q (.bl (ascB xs)) G
def asN : List Str := ["numbers", "left", "right"]
theorem scAsc : FnScope asN ["numbers"] (defScope sIsAscending) := ⟨rfl, rfl, rfl, by decide +kernel, rfl, by decide +kernel, by decide +kernel⟩
theorem ok_asc {f fLs : Addr} {fd fdLs : FuncData} (F : Fun K "is_ascending" "is_ascending" sIsAscending f fd) (T : TxtAs mg) (Ls : Def P w K mg base CX0 1 "is_less" fLs fdLs ["one", "other"] spRless) : FnOk P w K mg base CX0 2 f fd ["numbers"] (spAsc K) := by
  refine F.ok scAsc (fun vs H Q E h => ?_) (fun cdv A outer s H vs Q E hr h => ?_)
  · obtain ⟨a, ws, xs, rfl, _⟩ := h
    rfl
  · obtain ⟨a, ws, xs, rfl, ha, hall, hz, hmax, k⟩ := h
    refine ⟨_, (pss_one (ps_ret (pe_callB (cr_all rfl) (by rfl) T.all (by decide +kernel) (pa_cons (pe_lc (own := [("left", 1), ("right", 2)]) (g := (gTup K 2 (gCons (gName 1) (gCons (gName 2) gNil)))) (tt := tYes) rfl scAsc.nd (RZ.pi_zipA (by rfl) T.zip (pa_cons (pv 0) (pa_cons (pe_slice sl_list (pv 0) (po_some pe_int) po_none) pa_nil))) (blkOk_by (N := asN) (sc := defScope sIsAscending) (by decide +kernel)) (fun _ _ _ _ _ => by exact (pg_tup rfl (pgs_cons (pg_name (i := 1) scAsc.nd rfl (Or.inl rfl)) (pgs_cons (pg_name (i := 2) scAsc.nd rfl (Or.inl rfl)) pgs_nil)))) (fun _ _ _ _ _ => pts_nil) (fun _ _ _ _ _ => (pe_call Ls.ok hr rfl Ls.g Ls.k Ls.b .nil pass0 (pa_cons (pv 1) (pa_cons (pv 2) pa_nil))))) pa_nil)))), ?_⟩
    refine ⟨_, rfl, _, rfl, _, rfl, a, _, rfl, SqL.of ha, fun p hp => ?_⟩
    rw [cut_tail]
    have s1 : Same H (upd H p (.lst (ws.drop 1))) := same_upd (Same.refl H) hp
    have hwl := hall.len
    refine ⟨a, p, _, _, rfl, .inl ⟨SqL.of (s1 _ _ ha), SqL.of upd_same, fun D hD => ?_⟩⟩
    refine lc_it (walk_zip (xs := ws) (ys := ws.drop 1) (n := ws.length - 1) (by rw [List.length_drop]; omega)) (fun i G => Same (upd H p (.lst (ws.drop 1))) G ∧ G D = some (.lst (((List.range i).map fun i => decide (xs.getD i 0 < xs.getD (i + 1) 0)).map V.bl)))
      ⟨same_upd (Same.refl _) hD, upd_same⟩ (fun i G _ q => ⟨q.1.seq (SqL.of (s1 _ _ ha)), q.1.seq (SqL.of upd_same)⟩) ?_ ?_
    · rintro i v G G' hi ⟨e1, e2⟩ ⟨U, u, z, rfl, hU, rfl, hu, hz'⟩
      have hu : ws[i]? = some u := hu
      have hz' : (ws.drop 1)[i]? = some z := hz'
      rw [List.getElem?_drop, Nat.add_comm] at hz'
      have kU : Kp H (upd G U (.tup [u, z])) := Kp.of (s1.trans (same_upd e1 hU))
      have mem : ∀ j, j < xs.length → xs.getD j 0 ∈ xs := fun j hj => by rw [List.getD_eq_getElem?_getD, List.getElem?_eq_getElem hj]; exact List.getElem_mem hj
      have gx : ∀ j, j < xs.length → xs[j]? = some (xs.getD j 0) := fun j hj => by rw [List.getD_eq_getElem?_getD, List.getElem?_eq_getElem hj]; rfl
      have q1 := hall.at_ i u _ hu (gx i (by omega))
      have q2 := hall.at_ (i + 1) z _ hz' (gx (i + 1) (by omega))
      refine ⟨U, _, rfl, SqT.of upd_same, rfl, _, _, rfl, _, _, rfl, rfl, rfl, tyes ⟨_, rfl, _, rfl, u, z, _, _, rfl, q1.kp kU, q2.kp kU, (hz _ (mem i (by omega))).le (by decide), (hz _ (mem (i + 1) (by omega))).le (by decide), ?_⟩⟩
      have e4 : upd G U (.tup [u, z]) D = some (.lst (((List.range i).map fun i => decide (xs.getD i 0 < xs.getD (i + 1) 0)).map V.bl)) := by rw [upd_ne (ne_of_none e2 hU)]; exact e2
      refine ⟨_, e4, by rw [List.length_map, List.length_map, List.length_range, sizeLine_eq]; omega, same_updN (same_upd e1 hU) hD, ?_⟩
      rw [upd_same, List.range_succ, List.map_append, List.map_append]
      rfl
    · rintro G ⟨e1, e2⟩
      refine ⟨D, _, rfl, SqL.of e2, ?_⟩
      have z := k G (s1.trans e1)
      unfold ascB at z
      rw [List.all_map, hwl]
      exact z
end
end K26
namespace K26
open PySem PySem.Spec PyProof.Rows L2 Ew
section
variable {P : Program} {w : World} {K : PySem.W.Frag} {mg : Str → Option Value} {base : Heap}
/-! ## normal_form -/
structure TxtNf (mg : Str → Option Value) : Prop where
  len : mg "len" = none
  range : mg "range" = none
  tuple : mg "tuple" = none
def spNormal (K : PySem.W.Frag) : Sp := fun vs H Q _ => ∃ (a : Addr) (ws : List V) (ps : List Pt), vs = [.ref a] ∧ SeqV K H a ws ∧ All2 (PAt H) ws ps ∧ (∀ p ∈ ps, PSz 1900 p) ∧ 2 ≤ ps.length ∧ ps.length ≤ 1000 ∧ AscQ ps ∧
  ∀ (G : Hp) (t : Addr) (us : List V), Same H G → H t = none → G t = some (.tup us) → All2 (PAt H) us (normQ ps) → (∀ u ∈ us, u ∈ ws) → Q (.ref t) G
theorem scNf : FnScope ["points", "kept", "at"] ["points"] (defScope sNormalForm) := ⟨rfl, rfl, rfl, by decide +kernel, rfl, by decide +kernel, by decide +kernel⟩
theorem ok_normal {f fSo : Addr} {fd fdSo : FuncData} (F : Fun K "normal_form" "normal_form" sNormalForm f fd) (T : TxtNf mg) (So : Def P w K mg base CX0 5 "slope_of" fSo fdSo ["left", "right"] spSlope) : FnOk P w K mg base CX0 6 f fd ["points"] (spNormal K) := by
  refine F.ok scNf (fun vs H Q E h => ?_) (fun cdv A outer s H vs Q E hr h => ?_)
  · obtain ⟨a, ws, ps, rfl, _⟩ := h
    rfl
  · obtain ⟨a, ws, ps, rfl, ha, hall, hz, h2, hmax, asc, k⟩ := h
    refine ⟨_, (pss_cons (ps_set (i := 1) scNf.nd rfl (Or.inl rfl) (pe_lst (pa_cons (pe_ix ix_seq (pv 0) pe_int (fun _ _ => rfl)) pa_nil)))
 (pss_cons (ps_for PassesOwn.never rfl (pi_range2 rfl T.range (pa_cons pe_int (pa_cons (pe_op op_sub (pe_callB call_len (by rfl) T.len PySem.boot_len (pa_cons (pv 0) pa_nil)) pe_int) pa_nil))) (pg_name (i := 2) scNf.nd rfl (Or.inl rfl))
 (pss_one (ps_if (pt_cmpR (op_neD hr.units) (pe_call So.ok hr rfl So.g So.k So.b .nil pass0 (pa_cons (pe_ix ix_seq (pv 0) (pe_op op_sub (pv 2) pe_int) (fun _ _ => rfl)) (pa_cons (pe_ix ix_seq (pv 0) (pv 2) (fun _ _ => rfl)) pa_nil))) (pe_call So.ok hr rfl So.g So.k So.b .nil pass0 (pa_cons (pe_ix ix_seq (pv 0) (pv 2) (fun _ _ => rfl)) (pa_cons (pe_ix ix_seq (pv 0) (pe_op op_add (pv 2) pe_int) (fun _ _ => rfl)) pa_nil))) (nomark _)) (pss_one (ps_expr (pe_bm PySem.F.plainAttrs_list PySem.F.slot_list_append PySem.F.type_list_append mt_append (pv 1) (pa_cons (pe_ix ix_seq (pv 0) (pv 2) (fun _ _ => rfl)) pa_nil)))) pss_nil)))
 (pss_cons (ps_expr (pe_bm PySem.F.plainAttrs_list PySem.F.slot_list_append PySem.F.type_list_append mt_append (pv 1) (pa_cons (pe_ix ix_seq (pv 0) (pe_un un_neg pe_int) (fun _ _ => rfl)) pa_nil)))
 (pss_one (ps_ret (pe_callTy cr_tup (by rfl) T.tuple (by decide +kernel) (pa_cons (pv 1) pa_nil))))))), ?_⟩
    have hwl := hall.len
    have at_ : ∀ i, i < ps.length → ∃ v, ws[i]? = some v ∧ PAt H v (ps.getD i dpt) := fun i hi => hall.get dpt hi
    have p62 : (2 : Int) ^ 62 = 4611686018427387904 := by decide
    obtain ⟨v0, e0, q0⟩ := at_ 0 (by omega)
    refine ⟨_, rfl, ix_any ha (at_v (i := 0) rfl e0) ⟨(by show 1 ≤ sizeLine; decide), fun l hl => ?_⟩⟩
    have s1 := same_upd (o := .lst [v0]) (Same.refl H) hl
    refine ⟨_, rfl, _, _, rfl, lenV_any (ha.same s1), _, _, rfl, rfl, 1, (ws.length : Int) - 1, rfl, ⟨by omega, by omega, by omega, by omega⟩, ?_⟩
    refine for_range (lo := 1) (n := ((ws.length : Int) - 1 - 1).toNat) (fun i σ G => ∃ (us : List V) (o2 : Option V), σ = [some (.ref a), some (.ref l), o2] ∧ Same H G ∧ G l = some (.lst us) ∧ All2 (PAt H) us (ps.getD 0 dpt :: bendsF ps i) ∧ (∀ u ∈ us, u ∈ ws) ∧ us.length ≤ i + 1)
      ⟨[v0], none, rfl, s1, upd_same, ?_, ?_, by simp⟩ ?_ ?_
    · exact (All2.nil (R := PAt H)).snoc (v := v0) (x := ps.getD 0 dpt) q0
    · intro u hu
      rw [List.mem_singleton.mp hu]
      exact List.mem_of_getElem? e0
    · rintro i σ G hi ⟨us, o2, rfl, e, hlG, hus, hmem, hul⟩
      have hi' : i + 2 < ps.length := by omega
      obtain ⟨va, ea, qa⟩ := at_ i (by omega)
      obtain ⟨vb, eb, qb⟩ := at_ (i + 1) (by omega)
      obtain ⟨vc, ec, qc⟩ := at_ (i + 2) (by omega)
      have d1 : (ps.getD (i + 1) dpt).1 - (ps.getD i dpt).1 ≠ 0 := by have := asc_at asc (i := i) (j := i + 1) (by omega) (by omega); grind
      have d2 : (ps.getD (i + 2) dpt).1 - (ps.getD (i + 1) dpt).1 ≠ 0 := by have := asc_at asc (i := i + 1) (j := i + 2) (by omega) (by omega); grind
      have za := hz _ (getD_memP (i := i) (by omega : i < ps.length))
      have zb := hz _ (getD_memP (i := i + 1) (by omega : i + 1 < ps.length))
      have zc := hz _ (getD_memP (i := i + 2) (by omega : i + 2 < ps.length))
      refine ⟨_, rfl, _, rfl, _, _, rfl, rfl, ix_any (ha.same e) (at_v (i := i) (by omega) ea) ⟨_, rfl, _, rfl, ix_any (ha.same e) (at_v (i := i + 1) (by omega) eb) ?_⟩⟩
      refine ⟨_, _, _, _, rfl, qa.kp (Kp.of e), qb.kp (Kp.of e), za, zb, d1, fun G1 p1 s1 n1 h1 => ?_⟩
      have e1 := e.trans s1
      refine ⟨_, rfl, _, rfl, ix_any (ha.same e1) (at_v (i := i + 1) (by omega) eb) ⟨_, rfl, _, rfl, _, _, rfl, rfl, ix_any (ha.same e1) (at_v (i := i + 2) (by omega) ec) ?_⟩⟩
      refine ⟨_, _, _, _, rfl, qb.kp (Kp.of e1), qc.kp (Kp.of e1), zb, zc, d2, fun G2 p2 s2 n2 h2 => ?_⟩
      have e2 := e1.trans s2
      have l2 := s2 _ _ (s1 _ _ hlG)
      refine ⟨_, _, dpQ (s2 _ _ h1), dpQ h2, shapedTup _, shapedTup _, _, rfl, ?_⟩
      rw [qeqv]
      by_cases c : slopeQ (ps.getD i dpt) (ps.getD (i + 1) dpt) = slopeQ (ps.getD (i + 1) dpt) (ps.getD (i + 2) dpt)
      · refine ifF (by rw [decide_eq_true c]; rfl) ⟨us, _, rfl, e2, l2, ?_, hmem, by omega⟩
        rw [bendsF_succ, show bendAt ps i = [] by unfold bendAt; rw [if_pos c], List.append_nil]
        exact hus
      · refine ifT (by rw [decide_eq_false c]; rfl) ?_
        refine ⟨_, rfl, .inl ⟨rfl, _, SqL.of l2⟩, _, rfl, _, rfl, ix_any (ha.same e2) (at_v (i := i + 1) (by omega) eb) ⟨l, _, _, rfl, rfl, l2, by rw [sizeLine_eq]; omega, ?_⟩⟩
        refine ⟨us ++ [vb], _, rfl, same_updN e2 hl, upd_same, ?_, ?_, by rw [List.length_append]; simp; omega⟩
        · rw [bendsF_succ, show bendAt ps i = [ps.getD (i + 1) dpt] by unfold bendAt; rw [if_neg c]]
          have z := hus.snoc (v := vb) (x := ps.getD (i + 1) dpt) qb
          exact z
        · intro u hu
          rcases List.mem_append.mp hu with hu | hu
          · exact hmem u hu
          · rw [List.mem_singleton.mp hu]
            exact List.mem_of_getElem? eb
    · rintro σ G ⟨us, o2, rfl, e, hlG, hus, hmem, hul⟩
      have en : ((ws.length : Int) - 1 - 1).toNat = ps.length - 2 := by omega
      rw [en] at hus hul
      obtain ⟨vz, ez, qz⟩ := at_ (ps.length - 1) (by omega)
      have ez' : ws[ws.length - 1]? = some vz := by rw [hwl]; exact ez
      refine ⟨_, rfl, .inl ⟨rfl, _, SqL.of hlG⟩, _, rfl, _, rfl, ix_any (ha.same e) (at_neg (by omega) ez') ⟨l, _, _, rfl, rfl, hlG, by rw [sizeLine_eq]; omega, ?_⟩⟩
      have e3 := same_updN (o := .lst (us ++ [vz])) e hl
      refine ⟨_, rfl, l, _, rfl, .inl ⟨SqL.of upd_same, fun t ht => ?_⟩⟩
      have aT := hus.snoc (v := vz) (x := ps.getD (ps.length - 1) dpt) qz
      rw [← normQ_range h2] at aT
      refine k _ t (us ++ [vz]) (same_upd e3 ht) (e3.free ht) upd_same aT ?_
      intro u hu
      rcases List.mem_append.mp hu with hu | hu
      · exact hmem u hu
      · rw [List.mem_singleton.mp hu]
        exact List.mem_of_getElem? ez'
/-! ## height_on -/
def spHeightOn (K : PySem.W.Frag) : Sp := fun vs H Q _ => ∃ (t : Addr) (n : V) (ws : List V) (ps : List Pt) (x : Rat), vs = [.ref t, n] ∧ SeqV K H t ws ∧ All2 (PAt H) ws ps ∧ QAt H n x ∧ (∀ p ∈ ps, PSz 900 p) ∧ Sz 900 x ∧ 2 ≤ ps.length ∧ ps.length ≤ 1000 ∧ AscQ ps ∧ ¬ (ps.getD (ps.length - 1) dpt).1 < x ∧ Sz 2900 (evalQ ps x) ∧
  ∀ (G : Hp) (p : Addr), Same H G → H p = none → G p = some (.tup (qV (evalQ ps x))) → Q (.ref p) G
theorem scHo : FnScope ["points", "x", "at"] ["points", "x"] (defScope sHeightOn) := ⟨rfl, rfl, rfl, by decide +kernel, rfl, by decide +kernel, by decide +kernel⟩
theorem ok_height_on {f fLs fHa : Addr} {fd fdLs fdHa : FuncData} (F : Fun K "height_on" "height_on" sHeightOn f fd) (Ls : Def P w K mg base CX0 1 "is_less" fLs fdLs ["one", "other"] spRless) (Ha : Def P w K mg base CX0 6 "height_at" fHa fdHa ["left", "right", "x"] spHeight) : FnOk P w K mg base CX0 7 f fd ["points", "x"] (spHeightOn K) := by
  refine F.ok scHo (fun vs H Q E h => ?_) (fun cdv A outer s H vs Q E hr h => ?_)
  · obtain ⟨t, n, ws, ps, x, rfl, _⟩ := h
    rfl
  · obtain ⟨t, n, ws, ps, x, rfl, ht, hall, hn, hz, hx, h2, hmax, asc, hlast, zv, k⟩ := h
    have r1' : Room 1 _ := hr.mono (by decide)
    refine ⟨_, (pss_cons (ps_set (i := 2) scHo.nd rfl (Or.inl rfl) pe_int)
 (pss_cons (ps_while PassesOwn.never (pt_val (pe_call Ls.ok r1' rfl Ls.g Ls.k Ls.b .nil pass0 (pa_cons (pe_ix ix_tup (pe_ix ix_seq (pv 0) (pv 2) (fun _ _ => rfl)) pe_int (fun _ _ => rfl)) (pa_cons (pv 1) pa_nil)))) (pss_one (ps_aug (i := 2) scHo.nd rfl (Or.inl rfl) pe_int ip_add)))
 (pss_one (ps_ret (pe_call Ha.ok hr rfl Ha.g Ha.k Ha.b .nil pass0 (pa_cons (pe_ix ix_seq (pv 0) (pe_op op_sub (pv 2) pe_int) (fun _ _ => rfl)) (pa_cons (pe_ix ix_seq (pv 0) (pv 2) (fun _ _ => rfl)) (pa_cons (pv 1) pa_nil)))))))), ?_⟩
    have at_ : ∀ i, i < ps.length → ∃ v, ws[i]? = some v ∧ PAt H v (ps.getD i dpt) := fun i hi => hall.get dpt hi
    refine ⟨fun m σ G => ∃ i : Nat, m = ps.length - i ∧ i + 1 < ps.length ∧ σ = [some (.ref t), some n, some (.int ((i : Int) + 1))] ∧ G = H ∧ evalQ (ps.drop i) x = evalQ ps x, ⟨_, 0, rfl, by omega, rfl, rfl, rfl⟩, ?_⟩
    rintro m σ G ⟨i, rfl, hi, rfl, rfl, he⟩
    obtain ⟨va, ea, qa⟩ := at_ i (by omega)
    obtain ⟨vb, eb, qb⟩ := at_ (i + 1) hi
    obtain ⟨b, bx, by', rfl, hb, hbx, hby⟩ := qb
    refine ⟨_, rfl, _, rfl, ix_any ht (at_v (i := i + 1) (by omega) eb) ⟨b, _, _, _, rfl, rfl, SqT.of hb, rfl, _, rfl, _, _, _, x, rfl, hbx, hn, (hz _ (getD_memP hi)).x.le (by decide), hx.le (by decide), _, rfl, ?_⟩⟩
    by_cases c : (ps.getD (i + 1) dpt).1 < x
    · have hi2 : i + 2 < ps.length := by
        rcases Nat.lt_or_ge (i + 2) ps.length with z | z
        · exact z
        · have : i + 1 = ps.length - 1 := by omega
          rw [this] at c
          exact absurd c hlast
      refine ifT (decide_eq_true c) ⟨fun σ G' => σ = [some (.ref t), some n, some (.int (((i + 1 : Nat) : Int) + 1))] ∧ G' = G, ?_, ?_⟩
      · rintro σ' G' ⟨rfl, rfl⟩
        exact ⟨ps.length - (i + 1), by omega, i + 1, rfl, hi2, rfl, rfl, (eval_step hi2 c).symm.trans he⟩
      · exact ⟨_, rfl, _, _, rfl, rfl, by rw [show ((i + 1 : Nat) : Int) = (i : Int) + 1 by omega]; exact ⟨rfl, rfl⟩⟩
    · refine ifF (decide_eq_false c) ?_
      have d1 : (ps.getD (i + 1) dpt).1 - (ps.getD i dpt).1 ≠ 0 := by have := asc_at asc (i := i) (j := i + 1) (by omega) (by omega); grind
      refine ⟨_, rfl, _, rfl, _, _, rfl, rfl, ix_any ht (at_v (i := i) (by omega) ea) ⟨_, rfl, _, rfl, ix_any ht (at_v (i := i + 1) (by omega) eb) ⟨_, rfl, _, _, _, ps.getD i dpt, ps.getD (i + 1) dpt, x, rfl, qa, ⟨b, bx, by', rfl, hb, hbx, hby⟩, hn, hz _ (getD_memP (by omega)), hz _ (getD_memP hi), hx, d1, by rw [← eval_stop hi c, he]; exact zv, fun G1 p1 s1 n1 h1 => ?_⟩⟩⟩
      refine k G1 p1 s1 n1 ?_
      rw [← he, eval_stop hi c]
      exact h1
end
end K26
namespace K26
open PySem PySem.Spec PyProof.Rows L2 Ew
section
variable {P : Program} {w : World} {K : PySem.W.Frag} {mg : Str → Option Value} {base : Heap}
/-! ## the errors of lines -/
theorem scInitPts : FnScope ["self"] ["self"] (defScope sInvalidPoints_init) := ⟨rfl, rfl, rfl, by decide +kernel, rfl, by decide +kernel, by decide +kernel⟩
theorem ok_initPts {f C fI : Addr} {fd : FuncData} (F : Fun K "__init__" "InvalidPoints.__init__" sInvalidPoints_init f fd) (T : ErrT K mg "InvalidPoints" C fI) : FnOk P w K mg base CX0 1 f fd ["self"] (spInitTag K C "InvalidPoints") := by
  refine F.ok scInitPts (fun vs H Q E h => ?_) (fun cdv A outer s H vs Q E hr h => ?_)
  · obtain ⟨a, rfl, _⟩ := h
    rfl
  · obtain ⟨a, rfl, ha, k⟩ := h
    exact ⟨_, pss_one (ps_ost (pv 0) pe_str), _, rfl, a, C, rfl, T.oex, T.nT, .inl ⟨ha, k⟩⟩
theorem scInitLim : FnScope ["self", "limit"] ["self", "limit"] (defScope sLimitReached_init) := ⟨rfl, rfl, rfl, by decide +kernel, rfl, by decide +kernel, by decide +kernel⟩
theorem ok_initLim {f C fI : Addr} {fd : FuncData} (F : Fun K "__init__" "LimitReached.__init__" sLimitReached_init f fd) (T : ErrT K mg "LimitReached" C fI) (nL : PySem.W.findIn K (.ref C) "limit" = some none) : FnOk P w K mg base CX0 1 f fd ["self", "limit"] (spInitTag2 K C "LimitReached" "limit") := by
  refine F.ok scInitLim (fun vs H Q E h => ?_) (fun cdv A outer s H vs Q E hr h => ?_)
  · obtain ⟨a, v, rfl, _⟩ := h
    rfl
  · obtain ⟨a, v, rfl, ha, k⟩ := h
    refine ⟨_, pss_cons (ps_ost (pv 0) pe_str) (pss_one (ps_ost (pv 0) (pv 1))), _, rfl, a, C, rfl, T.oex, T.nT, .inl ⟨ha, fun dx hdx ne => ?_⟩⟩
    refine ⟨_, rfl, _, rfl, a, C, rfl, T.oex, nL, .inr ⟨dx, _, upd_same, by rw [upd_ne ne, upd_same], by decide, ?_⟩⟩
    show Q .non _
    rw [upd_swap ne]
    exact k dx hdx ne
/-! ## LineFunction -/
def lfF (t : Addr) : List (Str × V) := putF "corners" (.ref t) []
theorem lfF_corners (t : Addr) : (lfF t).lookup ("corners" : Str) = some (.ref t) := by
  unfold lfF
  rw [lookup_putF, if_pos rfl]
theorem lfF_no {t : Addr} {m : Str} (h : m ≠ "corners") : (lfF t).lookup m = none := by
  unfold lfF
  rw [lookup_putF, if_neg h]
  rfl
/-- at x: the function through the corners ps -/
def LfAt (CL : Addr) (H : Hp) (v : V) (ps : List Pt) : Prop := ∃ (x dx t : Addr) (ws : List V), v = .ref x ∧ H x = some (.ins CL dx (lfF t)) ∧ H t = some (.tup ws) ∧ All2 (PAt H) ws ps
theorem LfAt.kp {CL : Addr} {G G' : Hp} {v : V} {ps : List Pt} (e : Kp G G') (h : LfAt CL G v ps) : LfAt CL G' v ps := by
  obtain ⟨x, dx, t, ws, rfl, h1, h2, h3⟩ := h
  exact ⟨x, dx, t, ws, rfl, e.i h1, e.t h2, pts_kp e h3⟩
structure TxtLF (K : PySem.W.Frag) (mg : Str → Option Value) (CL : Addr) : Prop where
  cl : Cls K CL
  nC : NoAttr K CL "corners"
  len : mg "len" = none
  list : mg "list" = none
  gMn : ∃ t, mg "MIN_POINTS" = some (.int 2 t)
  gMx : ∃ t, mg "MAX_PIECES" = some (.int 12 t)
def spLfInit (K : PySem.W.Frag) (CL CP CM : Addr) : Sp := fun vs H Q E => ∃ (x dx a : Addr) (ws : List V) (ps : List Pt), vs = [.ref x, .ref a] ∧ H x = some (.ins CL dx []) ∧ SeqV K H a ws ∧ All2 (PAt H) ws ps ∧ (∀ p ∈ ps, PSz 1900 p) ∧ ps.length ≤ 1000 ∧
  (¬ (2 ≤ ps.length ∧ AscQ ps) → ∀ G d, Same H G → G d = none → E (.ref CP) (some d) (upd G d (.xd [("tag", .str "InvalidPoints")]))) ∧
  (2 ≤ ps.length → AscQ ps → 12 < (normQ ps).length - 1 → ∀ G d, Same H G → G d = none → E (.ref CM) (some d) (upd G d (.xd [("limit", .int 12), ("tag", .str "LimitReached")]))) ∧
  (2 ≤ ps.length → AscQ ps → (normQ ps).length - 1 ≤ 12 → ∀ (G : Hp) (t : Addr) (us : List V), (∀ c o, H c = some o → c ≠ x → G c = some o) → H t = none → G x = some (.ins CL dx (lfF t)) → G t = some (.tup us) → All2 (PAt H) us (normQ ps) → Q .non G)
def liN : List Str := ["self", "points", "corners", "x", "y"]
theorem scLfInit : FnScope liN ["self", "points"] (defScope sLineFunction_init) := ⟨rfl, rfl, rfl, by decide +kernel, rfl, by decide +kernel, by decide +kernel⟩
theorem ok_lfInit {f CL CP CM fIP fIM fAs fNf : Addr} {fd fdP fdM fdAs fdNf : FuncData} (F : Fun K "__init__" "LineFunction.__init__" sLineFunction_init f fd) (T : TxtLF K mg CL) (eP : ErrT K mg "InvalidPoints" CP fIP) (eM : ErrT K mg "LimitReached" CM fIM)
    (FP : FnOk P w K mg base CX0 1 fIP fdP ["self"] (spInitTag K CP "InvalidPoints")) (bP : Binds K fdP ["self"] []) (FM : FnOk P w K mg base CX0 1 fIM fdM ["self", "limit"] (spInitTag2 K CM "LimitReached" "limit")) (bM : Binds K fdM ["self", "limit"] [])
    (As : Def P w K mg base CX0 2 "is_ascending" fAs fdAs ["numbers"] (spAsc K)) (Nf : Def P w K mg base CX0 6 "normal_form" fNf fdNf ["points"] (spNormal K)) :
    FnOk P w K mg base (L2.CX P w) 7 f fd ["self", "points"] (spLfInit K CL CP CM) := by
  obtain ⟨t1, g1⟩ := T.gMn
  obtain ⟨t2, g2⟩ := T.gMx
  refine F.okX scLfInit (fun vs H Q E h => ?_) (fun cdv A outer s H vs Q E hr h => ?_)
  · obtain ⟨x, dx, a, ws, ps, rfl, _⟩ := h
    rfl
  · obtain ⟨x, dx, a, ws, ps, rfl, hx, ha, hall, hz, hmax, kP, kM, kQ⟩ := h
    have r2' : Room 2 _ := hr.mono (by decide)
    refine ⟨_, (pss_cons (ps_if (PW.pt (pw_or (pt_cmpR op_lt (pe_callB call_len (by rfl) T.len PySem.boot_len (pa_cons (pv 1) pa_nil)) (pe_glob (v := .int 2) rfl g1 ⟨_, rfl⟩) (nomark _)) (pw_or1 (pt_not (pt_val (pe_call As.ok r2' rfl As.g As.k As.b .nil pass0 (pa_cons (pe_lc (own := [("x", 3), ("y", 4)]) (g := (gTup K 2 (gCons (gName 3) (gCons (gName 4) gNil)))) (tt := tYes) rfl scLfInit.nd (pi_or (pi_list (pv 1)) (pi_tup (pv 1))) (blkOk_by (N := liN) (sc := defScope sLineFunction_init) (by decide +kernel)) (fun _ _ _ _ _ => by exact (pg_tup rfl (pgs_cons (pg_name (i := 3) scLfInit.nd rfl (Or.inl rfl)) (pgs_cons (pg_name (i := 4) scLfInit.nd rfl (Or.inl rfl)) pgs_nil)))) (fun _ _ _ _ _ => pts_nil) (fun _ _ _ _ _ => (pv 3))) pa_nil))))))) (pss_one (ps_raise rfl (takes_of rfl rfl rfl rfl) (pmk0 eP.oex eP.iC eP.tI FP (hr.mono (by decide)) bP pass0 rfl eP.gC))) pss_nil)
 (pss_cons (ps_set (i := 2) scLfInit.nd rfl (Or.inl rfl) (pe_call Nf.ok hr rfl Nf.g Nf.k Nf.b .nil pass0 (pa_cons (pv 1) pa_nil)))
 (pss_cons (ps_if (pt_cmpR op_gt (pe_op op_sub (pe_callB call_len_seq (by rfl) T.len PySem.boot_len (pa_cons (pv 2) pa_nil)) pe_int) (pe_glob (v := .int 12) rfl g2 ⟨_, rfl⟩) (nomark _)) (pss_one (ps_raise rfl (takes_of rfl rfl rfl rfl) (pmk_oex eM.oex eM.iC eM.tI FM (hr.mono (by decide)) bM .nil pass0 rfl eM.gC (pa_cons (pe_glob (v := .int 12) rfl g2 ⟨_, rfl⟩) pa_nil)))) pss_nil)
 (pss_one (ps_fld (pv 0) (pv 2) rfl))))), ?_⟩
    have hwl := hall.len
    refine ⟨_, rfl, _, _, rfl, lenV_any ha, _, _, rfl, rfl, _, rfl, ?_⟩
    by_cases c1 : (ws.length : Int) < 2
    · exact ifT (decide_eq_true c1) (raise_one (σ := []) fun d hd => kP (fun z => by omega) H d (Same.refl H) hd)
    · refine ifF (decide_eq_false c1) ?_
      have h2 : 2 ≤ ps.length := by omega
      refine it_seq rfl ha fun J Gd wk hG D hD => ?_
      refine lc_it wk (fun i G => Same H G ∧ ∃ us, G D = some (.lst us) ∧ All2 (QAt H) us ((ps.take i).map (·.1))) ⟨same_upd (Same.refl H) hD, [], upd_same, All2.nil⟩ (fun i G _ q => hG G q.1) ?_ ?_
      · rintro i y G G' hi ⟨e1, us, e2, e3⟩ ⟨rfl, hy⟩
        have hi' : i < ps.length := by omega
        have gp : ps[i]? = some (ps.getD i dpt) := by rw [List.getD_eq_getElem?_getD, List.getElem?_eq_getElem hi']; rfl
        obtain ⟨b, bx, by', rfl, hb, hbx, hby⟩ := hall.at_ i y _ hy gp
        have hul := e3.len
        rw [List.length_map, List.length_take] at hul
        refine ⟨b, _, rfl, SqT.of (e1 _ _ hb), rfl, _, _, rfl, _, _, rfl, rfl, rfl, tyes ⟨_, rfl, us, e2, by rw [sizeLine_eq]; omega, same_updN e1 hD, us ++ [bx], upd_same, ?_⟩⟩
        rw [List.take_add_one, gp, List.map_append]
        exact e3.snoc hbx
      · rintro G ⟨e1, us, e2, e3⟩
        rw [hwl, List.take_length] at e3
        refine ⟨D, us, _, rfl, e2, qs_kp (Kp.of e1) e3, fun x hx => ?_, by rw [List.length_map]; exact hmax, fun G2 s2 => ⟨_, rfl, ?_⟩⟩
        · obtain ⟨p, hp, rfl⟩ := List.mem_map.mp hx
          exact (hz p hp).x
        have e12 := e1.trans s2
        by_cases c2 : AscQ ps
        · rw [ascB_iff.mpr c2]
          refine iteF ?_
          refine ⟨_, rfl, a, ws, ps, rfl, ha.same e12, pts_kp (Kp.of e12) hall, hz, h2, hmax, c2, fun G3 t us' s3 nt ht hus hmem => ?_⟩
          have e13 := e12.trans s3
          have hus' : All2 (PAt H) us' (normQ ps) := by
            refine ⟨hus.len, fun i v p hv hp => ?_⟩
            obtain ⟨j, hj, ej⟩ := List.getElem_of_mem (hmem v (List.mem_of_getElem? hv))
            have q1 := hus.at_ i v p hv hp
            have hjp : j < ps.length := by omega
            have q2 := hall.at_ j v (ps.getD j dpt) (by rw [List.getElem?_eq_getElem hj, ej]) (by rw [List.getD_eq_getElem?_getD, List.getElem?_eq_getElem hjp]; rfl)
            have q3 := q2.kp (Kp.of e12)
            obtain ⟨b, bx, by', rfl, hb, ⟨x1, rfl, hx1⟩, ⟨y1, rfl, hy1⟩⟩ := q1
            obtain ⟨b', bx', by'', eb, hb', ⟨x2, rfl, hx2⟩, ⟨y2, rfl, hy2⟩⟩ := q3
            cases eb
            rw [hb] at hb'
            cases hb'
            rw [hx1] at hx2
            rw [hy1] at hy2
            have ex : p.1 = (ps.getD j dpt).1 := by
              injection hx2 with z; injection z with z; unfold qV at z
              injection z with z1 z2; injection z1 with z1; injection z2 with z2 _; injection z2 with z2
              exact Rat.ext z1 (by omega)
            have ey : p.2 = (ps.getD j dpt).2 := by
              injection hy2 with z; injection z with z; unfold qV at z
              injection z with z1 z2; injection z1 with z1; injection z2 with z2 _; injection z2 with z2
              exact Rat.ext z1 (by omega)
            rw [show p = ps.getD j dpt from Prod.ext ex ey]
            exact q2
          have ul := hus.len
          have nl := normQ_len h2
          refine ⟨_, rfl, t, _, rfl, .inr (SqT.of ht), _, _, rfl, rfl, _, _, rfl, rfl, _, rfl, ?_⟩
          by_cases c3 : (12 : Int) < (us'.length : Int) - 1
          · refine ifT (decide_eq_true c3) (raise_two fun d hd => kM h2 c2 (by omega) G3 d e13 hd)
          · refine ifF (decide_eq_false c3) ?_
            refine ⟨_, rfl, _, rfl, x, CL, dx, _, rfl, e13 _ _ hx, T.cl, T.nC, (by decide), ?_⟩
            refine kQ h2 c2 (by omega) _ t us' (fun c o hc ne => by rw [upd_ne ne]; exact e13 _ _ hc) (e12.free nt) upd_same ?_ hus'
            rw [upd_ne (fun e => by rw [e, e13 _ _ hx] at ht; cases ht)]
            exact ht
        · have cf : ascB (ps.map (·.1)) = false := Bool.eq_false_iff.mpr fun z => c2 (ascB_iff.mp z)
          rw [cf]
          exact iteT (raise_one (σ := []) fun d hd => kP (fun z => c2 z.2) G2 d e12 hd)
end
end K26
namespace K26
open PySem PySem.Spec PyProof.Rows L2 Ew
section
variable {P : Program} {w : World} {K : PySem.W.Frag} {mg : Str → Option Value} {base : Heap}
/-! ## the methods of LineFunction -/
theorem gpt {ps : List Pt} {i : Nat} (h : i < ps.length) : ps[i]? = some (ps.getD i dpt) := by rw [List.getD_eq_getElem?_getD, List.getElem?_eq_getElem h]; rfl
def spLfLen (CL : Addr) : Sp := fun vs H Q _ => ∃ (v : V) (ps : List Pt), vs = [v] ∧ LfAt CL H v ps ∧ 1 ≤ ps.length ∧ ps.length ≤ 1000 ∧ ∀ G, Same H G → Q (.int ((ps.length : Int) - 1)) G
theorem scLfLen : FnScope ["self"] ["self"] (defScope sLineFunction_len) := ⟨rfl, rfl, rfl, by decide +kernel, rfl, by decide +kernel, by decide +kernel⟩
theorem ok_lfLen {f CL : Addr} {fd : FuncData} (F : Fun K "__len__" "LineFunction.__len__" sLineFunction_len f fd) (T : TxtLF K mg CL) : FnOk P w K mg base CX0 1 f fd ["self"] (spLfLen CL) := by
  refine F.ok scLfLen (fun vs H Q E h => ?_) (fun cdv A outer s H vs Q E hr h => ?_)
  · obtain ⟨v, ps, rfl, _⟩ := h
    rfl
  · obtain ⟨_, ps, rfl, ⟨x, dx, t, ws, rfl, hx, ht, hall⟩, h1, hmax, k⟩ := h
    refine ⟨_, (pss_one (ps_ret (pe_callB call_len_seq (by rfl) T.len PySem.boot_len (pa_cons (pe_slice sl_tup (pe_fld (pv 0) rfl) (po_some pe_int) po_none) pa_nil)))), ?_⟩
    have hwl := hall.len
    refine ⟨_, rfl, x, CL, dx, _, _, rfl, hx, T.cl, T.nC, lfF_corners t, _, rfl, t, _, rfl, SqT.of ht, ?_, fun p hp => ?_⟩
    · rintro ⟨z, _⟩
      have e := HT.sIx_nat ws.length 0 1
      rw [show (some (1 : Int)) = some ((1 : Nat) : Int) from rfl, e] at z
      omega
    · rw [cut_tail]
      refine ⟨p, _, rfl, .inr (SqT.of upd_same), ?_⟩
      rw [List.length_drop, hwl]
      have z := k _ (same_upd (o := .tup (ws.drop 1)) (Same.refl H) hp)
      rw [show (((ps.length - 1 : Nat)) : Int) = (ps.length : Int) - 1 by omega]
      exact z
def spLfPoints (CL : Addr) : Sp := fun vs H Q _ => ∃ (v : V) (ps : List Pt), vs = [v] ∧ LfAt CL H v ps ∧ ∀ (p : Addr) (ws : List V), H p = none → All2 (PAt H) ws ps → Q (.ref p) (upd H p (.lst ws))
theorem scLfPoints : FnScope ["self"] ["self"] (defScope sLineFunction_points) := ⟨rfl, rfl, rfl, by decide +kernel, rfl, by decide +kernel, by decide +kernel⟩
theorem ok_lfPoints {f CL : Addr} {fd : FuncData} (F : Fun K "points" "LineFunction.points" sLineFunction_points f fd) (T : TxtLF K mg CL) : FnOk P w K mg base CX0 1 f fd ["self"] (spLfPoints CL) := by
  refine F.ok scLfPoints (fun vs H Q E h => ?_) (fun cdv A outer s H vs Q E hr h => ?_)
  · obtain ⟨v, ps, rfl, _⟩ := h
    rfl
  · obtain ⟨_, ps, rfl, ⟨x, dx, t, ws, rfl, hx, ht, hall⟩, k⟩ := h
    refine ⟨_, (pss_one (ps_ret (pe_callTy call_list_of (by rfl) T.list (by decide +kernel) (pa_cons (pe_fld (pv 0) rfl) pa_nil)))), ?_⟩
    exact ⟨_, rfl, x, CL, dx, _, _, rfl, hx, T.cl, T.nC, lfF_corners t, t, _, rfl, .inr (SqT.of ht), fun p hp => k p ws hp hall⟩
def spLfEnd (CL : Addr) (g : List Pt → Rat) : Sp := fun vs H Q _ => ∃ (v : V) (ps : List Pt), vs = [v] ∧ LfAt CL H v ps ∧ 1 ≤ ps.length ∧ ∀ u, QAt H u (g ps) → Q u H
def spLfMin (CL : Addr) : Sp := fun vs H Q _ => ∃ (v : V) (ps : List Pt), vs = [v] ∧ LfAt CL H v ps ∧ 1 ≤ ps.length ∧ (∀ p ∈ ps, PSz 900 p) ∧ ∀ u, QAt H u (leastQ ps) → Q u H
def spLfMax (CL : Addr) : Sp := fun vs H Q _ => ∃ (v : V) (ps : List Pt), vs = [v] ∧ LfAt CL H v ps ∧ 1 ≤ ps.length ∧ (∀ p ∈ ps, PSz 900 p) ∧ ∀ u, QAt H u (greatestQ ps) → Q u H
theorem scLfLow : FnScope ["self"] ["self"] (defScope sLineFunction_low) := ⟨rfl, rfl, rfl, by decide +kernel, rfl, by decide +kernel, by decide +kernel⟩
theorem ok_lfLow {f CL : Addr} {fd : FuncData} (F : Fun K "low" "LineFunction.low" sLineFunction_low f fd) (T : TxtLF K mg CL) : FnOk P w K mg base CX0 1 f fd ["self"] (spLfEnd CL fun ps => (ps.getD 0 dpt).1) := by
  refine F.ok scLfLow (fun vs H Q E h => ?_) (fun cdv A outer s H vs Q E hr h => ?_)
  · obtain ⟨v, ps, rfl, _⟩ := h
    rfl
  · obtain ⟨_, ps, rfl, ⟨x, dx, t, ws, rfl, hx, ht, hall⟩, h1, k⟩ := h
    refine ⟨_, (pss_one (ps_ret (pe_ix ix_tup (pe_ix ix_tup (pe_fld (pv 0) rfl) pe_int (fun _ _ => rfl)) pe_int (fun _ _ => rfl)))), ?_⟩
    obtain ⟨v, ev, ⟨b, bx, by', rfl, hb, hbx, hby⟩⟩ := hall.get dpt (i := 0) (by omega)
    exact ⟨_, rfl, x, CL, dx, _, _, rfl, hx, T.cl, T.nC, lfF_corners t, t, _, _, _, rfl, rfl, SqT.of ht, at_v (i := 0) rfl ev, b, _, _, _, rfl, rfl, SqT.of hb, rfl, k bx hbx⟩
theorem scLfHigh : FnScope ["self"] ["self"] (defScope sLineFunction_high) := ⟨rfl, rfl, rfl, by decide +kernel, rfl, by decide +kernel, by decide +kernel⟩
theorem ok_lfHigh {f CL : Addr} {fd : FuncData} (F : Fun K "high" "LineFunction.high" sLineFunction_high f fd) (T : TxtLF K mg CL) : FnOk P w K mg base CX0 1 f fd ["self"] (spLfEnd CL fun ps => (ps.getD (ps.length - 1) dpt).1) := by
  refine F.ok scLfHigh (fun vs H Q E h => ?_) (fun cdv A outer s H vs Q E hr h => ?_)
  · obtain ⟨v, ps, rfl, _⟩ := h
    rfl
  · obtain ⟨_, ps, rfl, ⟨x, dx, t, ws, rfl, hx, ht, hall⟩, h1, k⟩ := h
    refine ⟨_, (pss_one (ps_ret (pe_ix ix_tup (pe_ix ix_tup (pe_fld (pv 0) rfl) (pe_un un_neg pe_int) (fun _ _ => rfl)) pe_int (fun _ _ => rfl)))), ?_⟩
    have hwl := hall.len
    obtain ⟨v, ev, ⟨b, bx, by', rfl, hb, hbx, hby⟩⟩ := hall.get dpt (i := ps.length - 1) (by omega)
    exact ⟨_, rfl, x, CL, dx, _, _, rfl, hx, T.cl, T.nC, lfF_corners t, _, rfl, t, _, _, _, rfl, rfl, SqT.of ht, at_neg (by omega) (by rw [hwl]; exact ev), b, _, _, _, rfl, rfl, SqT.of hb, rfl, k bx hbx⟩
end
section
variable {P : Program} {w : World} {K : PySem.W.Frag} {mg : Str → Option Value} {base : Heap}
/-! ## value -/
def spLfValue (CL CO : Addr) : Sp := fun vs H Q E => ∃ (v n : V) (ps : List Pt) (x : Rat), vs = [v, n] ∧ LfAt CL H v ps ∧ QAt H n x ∧ 2 ≤ ps.length ∧ ps.length ≤ 1000 ∧ AscQ ps ∧ (∀ p ∈ ps, PSz 900 p) ∧ Sz 900 x ∧ (¬ x < (ps.getD 0 dpt).1 → ¬ (ps.getD (ps.length - 1) dpt).1 < x → Sz 2900 (evalQ ps x)) ∧
  (x < (ps.getD 0 dpt).1 ∨ (ps.getD (ps.length - 1) dpt).1 < x → ∀ G d, Same H G → G d = none → E (.ref CO) (some d) (upd G d (.xd [("tag", .str "OutOfRange")]))) ∧
  (¬ x < (ps.getD 0 dpt).1 → ¬ (ps.getD (ps.length - 1) dpt).1 < x → ∀ (G : Hp) (p : Addr), Same H G → H p = none → G p = some (.tup (qV (evalQ ps x))) → Q (.ref p) G)
theorem scLfValue : FnScope ["self", "number"] ["self", "number"] (defScope sLineFunction_value) := ⟨rfl, rfl, rfl, by decide +kernel, rfl, by decide +kernel, by decide +kernel⟩
theorem ok_lfValue {f CL CO fIO fLo fHi fWi fHo : Addr} {fd fdO fdLo fdHi fdWi fdHo : FuncData} (F : Fun K "value" "LineFunction.value" sLineFunction_value f fd) (T : TxtLF K mg CL) (eO : ErrT K mg "OutOfRange" CO fIO) (FO : FnOk P w K mg base CX0 1 fIO fdO ["self"] (spInitTag K CO "OutOfRange")) (bO : Binds K fdO ["self"] [])
    (mLo : MDef P w K mg base CX0 1 CL "low" fLo fdLo ["self"] (spLfEnd CL fun ps => (ps.getD 0 dpt).1)) (mHi : MDef P w K mg base CX0 1 CL "high" fHi fdHi ["self"] (spLfEnd CL fun ps => (ps.getD (ps.length - 1) dpt).1))
    (Wi : Def P w K mg base CX0 2 "is_within" fWi fdWi ["number", "low", "high"] spRwithin) (Ho : Def P w K mg base CX0 7 "height_on" fHo fdHo ["points", "x"] (spHeightOn K)) : FnOk P w K mg base (L2.CX P w) 8 f fd ["self", "number"] (spLfValue CL CO) := by
  refine F.okX scLfValue (fun vs H Q E h => ?_) (fun cdv A outer s H vs Q E hr h => ?_)
  · obtain ⟨v, n, ps, x, rfl, _⟩ := h
    rfl
  · obtain ⟨_, n, ps, x, rfl, hL, hn, h2, hmax, asc, hz, hx, zv, kE, kQ⟩ := h
    have hL' := hL
    obtain ⟨o, dx, t, ws, rfl, ho, ht, hall⟩ := hL
    have r1' : Room 1 _ := hr.mono (by decide)
    have r2' : Room 2 _ := hr.mono (by decide)
    refine ⟨_, (pss_cons (ps_if (pt_not (pt_val (pe_call Wi.ok r2' rfl Wi.g Wi.k Wi.b .nil pass0 (pa_cons (pv 1) (pa_cons (pe_meth0 (pv 0) mLo.cl mLo.h mLo.ok r1' mLo.b .nil pass0) (pa_cons (pe_meth0 (pv 0) mHi.cl mHi.h mHi.ok r1' mHi.b .nil pass0) pa_nil)))))) (pss_one (ps_raise rfl (takes_of rfl rfl rfl rfl) (pmk0 eO.oex eO.iC eO.tI FO (hr.mono (by decide)) bO pass0 rfl eO.gC))) pss_nil)
 (pss_one (ps_ret (pe_call Ho.ok hr rfl Ho.g Ho.k Ho.b .nil pass0 (pa_cons (pe_fld (pv 0) rfl) (pa_cons (pv 1) pa_nil)))))), ?_⟩
    refine ⟨_, rfl, _, rfl, o, dx, _, rfl, ho, lfF_no (by decide +kernel), _, ps, rfl, hL', by omega, fun ul hul => ⟨_, rfl, o, dx, _, rfl, ho, lfF_no (by decide +kernel), _, ps, rfl, hL', by omega, fun uh huh => ?_⟩⟩
    refine ⟨n, ul, uh, x, _, _, rfl, hn, hul, huh, hx.le (by decide), (hz _ (getD_memP (by omega))).x.le (by decide), (hz _ (getD_memP (by omega))).x.le (by decide), _, rfl, ?_⟩
    by_cases c1 : x < (ps.getD 0 dpt).1
    · rw [decide_eq_true c1]
      exact iteT (raise_one (σ := []) fun d hd => kE (.inl c1) H d (Same.refl H) hd)
    · by_cases c2 : (ps.getD (ps.length - 1) dpt).1 < x
      · rw [decide_eq_true c2, decide_eq_false c1]
        exact iteT (raise_one (σ := []) fun d hd => kE (.inr c2) H d (Same.refl H) hd)
      · rw [decide_eq_false c2, decide_eq_false c1]
        exact iteF ⟨_, rfl, o, CL, dx, _, _, rfl, ho, T.cl, T.nC, lfF_corners t, _, rfl, t, n, ws, ps, x, rfl, .inr (SqT.of ht), hall, hn, hz, hx, h2, hmax, asc, c2, zv c1 c2, fun G p s1 n1 h1 => kQ c1 c2 G p s1 n1 h1⟩
end
end K26
namespace K26
open PySem PySem.Spec PyProof.Rows L2 Ew
section
variable {P : Program} {w : World} {K : PySem.W.Frag} {mg : Str → Option Value} {base : Heap}
/-! ## is_between, and what a made function tells -/
def spRbetween : Sp := fun vs H Q _ => ∃ (n l h : V) (x lo hi : Rat), vs = [n, l, h] ∧ QAt H n x ∧ QAt H l lo ∧ QAt H h hi ∧ Sz 3900 x ∧ Sz 3900 lo ∧ Sz 3900 hi ∧ Q (.bl (decide (lo < x) && decide (x < hi))) H
theorem scBt : FnScope ["number", "low", "high"] ["number", "low", "high"] (defScope sIsBetween) := ⟨rfl, rfl, rfl, by decide +kernel, rfl, by decide +kernel, by decide +kernel⟩
theorem ok_rbetween {f fLs : Addr} {fd fdLs : FuncData} (F : Fun K "is_between" "is_between" sIsBetween f fd) (Ls : Def P w K mg base CX0 1 "is_less" fLs fdLs ["one", "other"] spRless) : FnOk P w K mg base CX0 2 f fd ["number", "low", "high"] spRbetween := by
  refine F.ok scBt (fun vs H Q E h => ?_) (fun cdv A outer s H vs Q E hr h => ?_)
  · obtain ⟨n, l, h, x, lo, hi, rfl, _⟩ := h
    rfl
  · obtain ⟨n, l, h, x, lo, hi, rfl, hn, hl, hh, z1, z2, z3, k⟩ := h
    have r1' : Room 1 _ := hr.mono (by decide)
    refine ⟨_, (pss_one (ps_ret (pe_and (pe_call Ls.ok r1' rfl Ls.g Ls.k Ls.b .nil pass0 (pa_cons (pv 1) (pa_cons (pv 0) pa_nil))) (pe_one (pe_call Ls.ok r1' rfl Ls.g Ls.k Ls.b .nil pass0 (pa_cons (pv 0) (pa_cons (pv 2) pa_nil))))))), ?_⟩
    refine ⟨_, rfl, _, rfl, l, n, lo, x, rfl, hl, hn, z2, z1, ?_⟩
    by_cases c : lo < x
    · rw [decide_eq_true c] at k ⊢
      exact ⟨_, rfl, iteT ⟨_, rfl, _, rfl, n, h, x, hi, rfl, hn, hh, z1, z3, k⟩⟩
    · rw [decide_eq_false c] at k ⊢
      exact ⟨_, rfl, iteF k⟩
/-- a function through qs is made, or InvalidPoints is raised -/
def LfRes (CL CP : Addr) (H : Hp) (qs : List Pt) (Q : VK) (E : XK) : Prop :=
  (¬ (2 ≤ qs.length ∧ AscQ qs) → ∀ G d, Same H G → G d = none → E (.ref CP) (some d) (upd G d (.xd [("tag", .str "InvalidPoints")]))) ∧
  (2 ≤ qs.length → AscQ qs → ∀ G y, Same H G → H y = none → LfAt CL G (.ref y) (normQ qs) → Q (.ref y) G)
theorem mk_lfX {CL CP CM : Addr} {H G : Hp} {y dx a : Addr} {ws : List V} {ps : List Pt} {Q : VK} {E : XK} (s : Same H G) (ny : G y = none) (nd : G dx = none) (ha : SeqV K G a ws) (hall : All2 (PAt G) ws ps) (hz : ∀ p ∈ ps, PSz 1900 p) (h13 : ps.length ≤ 13) (r : LfRes CL CP H ps Q E) :
    spLfInit K CL CP CM [.ref y, .ref a] (upd (upd G dx (.own y)) y (.ins CL dx [])) (fun v H2 => v = .non ∧ Q (.ref y) H2) E := by
  have sN : Same G (upd (upd G dx (.own y)) y (.ins CL dx [])) := fun q o hq => by
    rw [upd_ne (ne_of_none hq ny), upd_ne (ne_of_none hq nd)]
    exact hq
  have nl := normQ_len_le ps
  refine ⟨y, dx, a, ws, ps, rfl, upd_same, ha.same sN, pts_kp (Kp.of sN) hall, hz, by omega, fun z Gx d e hd => r.1 z Gx d (s.trans (sN.trans e)) hd, fun _ _ z => absurd z (by omega), fun h2 asc _ Gx t us e1 nt hy ht hus => ⟨rfl, r.2 h2 asc Gx y (s.trans (Same.made ny nd e1)) (s.free ny) ⟨y, dx, t, us, rfl, hy, ht, pts_tp (fun c xs hc => e1 c _ hc fun z => ?_) hus⟩⟩⟩
  rw [z, upd_same] at hc
  cases hc
end
end K26
namespace K26
open PySem PySem.Spec PyProof.Rows L2 Ew
section
variable {P : Program} {w : World} {K : PySem.W.Frag} {mg : Str → Option Value} {base : Heap}
/-! ## straight -/
def spStraight (CL CP : Addr) : Sp := fun vs H Q E => ∃ (u v l h : V) (a b lo hi : Rat), vs = [u, v, l, h] ∧ QAt H u a ∧ QAt H v b ∧ QAt H l lo ∧ QAt H h hi ∧ Sz 30 a ∧ Sz 30 b ∧ Sz 30 lo ∧ Sz 30 hi ∧ LfRes CL CP H [(lo, a * lo + b), (hi, a * hi + b)] Q E
def stN : List Str := ["slope", "offset", "low", "high", "x"]
theorem scStraight : FnScope stN ["slope", "offset", "low", "high"] (defScope sStraight) := ⟨rfl, rfl, rfl, by decide +kernel, rfl, by decide +kernel, by decide +kernel⟩
theorem ok_straight {f CL CP CM fLI fSu fPr : Addr} {fd fdLI fdSu fdPr : FuncData} (F : Fun K "straight" "straight" sStraight f fd) (gL : mg "LineFunction" = some (.ref CL)) (M : Mk K CL fLI) (LI : FnOk P w K mg base (L2.CX P w) 7 fLI fdLI ["self", "points"] (spLfInit K CL CP CM)) (bLI : Binds K fdLI ["self", "points"] [])
    (Su : Def P w K mg base CX0 4 "sum_of" fSu fdSu ["one", "other"] (spR2 (· + ·) (fun _ _ => True))) (Pr : Def P w K mg base CX0 4 "product" fPr fdPr ["one", "other"] (spR2 (· * ·) (fun _ _ => True))) : FnOk P w K mg base (L2.CX P w) 9 f fd ["slope", "offset", "low", "high"] (spStraight CL CP) := by
  refine F.okX scStraight (fun vs H Q E h => ?_) (fun cdv A outer s H vs Q E hr h => ?_)
  · obtain ⟨u, v, l, h, a, b, lo, hi, rfl, _⟩ := h
    rfl
  · obtain ⟨u, v, l, h, a, b, lo, hi, rfl, hu, hv, hl, hh, z1, z2, z3, z4, k⟩ := h
    have r4' : Room 4 _ := hr.mono (by decide)
    have r8' : Room 8 _ := hr.mono (by decide)
    refine ⟨_, (pss_one (ps_ret (pe_make M LI r8' rfl gL bLI .nil (passes_call (takes_of rfl rfl rfl rfl) (fun _ _ _ _ h => h)) (pa_cons (pe_lc (own := [("x", 4)]) (g := (gName 4)) (tt := tYes) rfl scStraight.nd (pi_tup (pe_tup (pa_cons (pv 2) (pa_cons (pv 3) pa_nil)))) (blkOk_by (N := stN) (sc := defScope sStraight) (by decide +kernel)) (fun _ _ _ _ _ => by exact (pg_name (i := 4) scStraight.nd rfl (Or.inl rfl))) (fun _ _ _ _ _ => pts_nil) (fun _ _ _ _ _ => by exact (pe_tup (pa_cons (pv 4) (pa_cons (pe_call Su.ok r4' rfl Su.g Su.k Su.b .nil pass0 (pa_cons (pe_call Pr.ok r4' rfl Pr.g Pr.k Pr.b .nil pass0 (pa_cons (pv 0) (pa_cons (pv 4) pa_nil))) (pa_cons (pv 1) pa_nil))) pa_nil))))) pa_nil)))), ?_⟩
    refine ⟨_, rfl, _, rfl, (by show 2 ≤ sizeLine; decide), fun t ht => ?_⟩
    have s1 := same_upd (o := .tup [l, h]) (Same.refl H) ht
    refine ⟨t, rfl, ⟨_, SqT.of upd_same⟩, fun D hD => ?_⟩
    refine lc_tup (K := K) (a := t) (xs := [l, h]) (fun j G => Same (upd H t (.tup [l, h])) G ∧ ∃ us, G D = some (.lst us) ∧ All2 (PAt G) us (([lo, hi].take j).map fun x => (x, a * x + b))) ⟨same_upd (Same.refl _) hD, [], upd_same, All2.nil⟩ (fun j G _ q => SqT.of (q.1 _ _ upd_same)) ?_ ?_
    · rintro j y G hy ⟨e1, us, e2, e3⟩
      have hj : j < 2 := (List.getElem?_eq_some_iff.mp hy).1
      have kG : Kp H G := Kp.of (s1.trans e1)
      obtain ⟨x, gx, qy, xz⟩ : ∃ x, [lo, hi][j]? = some x ∧ QAt H y x ∧ Sz 30 x := by
        match j, hj with
        | 0, _ => cases hy; exact ⟨lo, rfl, hl, z3⟩
        | 1, _ => cases hy; exact ⟨hi, rfl, hh, z4⟩
      have ul := e3.len
      rw [List.length_map, List.length_take] at ul
      refine ⟨rfl, tyes ⟨_, rfl, _, rfl, _, rfl, u, y, a, x, rfl, hu.kp kG, qy.kp kG, z1.le (by decide), xz.le (by decide), trivial, fun G2 p2 s2 n2 h2 => ?_⟩⟩
      refine ⟨_, rfl, _, _, a * x, b, rfl, ⟨p2, rfl, h2⟩, (hv.kp kG).kp (Kp.of s2), (z1.mul xz).le (by decide), z2.le (by decide), trivial, fun G3 p3 s3 n3 h3 => ⟨(by show 2 ≤ sizeLine; decide), fun t4 h4 => ?_⟩⟩
      have s4 := same_upd (o := .tup [y, .ref p3]) (Same.refl G3) h4
      have s24 := s2.trans (s3.trans s4)
      have d4 := s24 _ _ e2
      have kk : Kp G3 (upd (upd G3 t4 (.tup [y, .ref p3])) D (.lst (us ++ [.ref t4]))) := (Kp.of s4).trans (Kp.put d4)
      have kg : Kp G (upd (upd G3 t4 (.tup [y, .ref p3])) D (.lst (us ++ [.ref t4]))) := (Kp.of s24).trans (Kp.put d4)
      have nt : t4 ≠ D := fun z => by rw [z, (s2.trans s3) _ _ e2] at h4; cases h4
      refine ⟨us, d4, by rw [sizeLine_eq]; omega, ?_, us ++ [.ref t4], upd_same, ?_⟩
      · exact same_updN (e1.trans s24) hD
      · rw [List.take_add_one, gx, List.map_append]
        exact (pts_kp kg e3).snoc ⟨t4, y, .ref p3, rfl, by rw [upd_ne nt, upd_same], (qy.kp kG).kp kg, ⟨p3, rfl, kk.t h3⟩⟩
    · rintro G ⟨e1, us, e2, e3⟩
      intro y dx ny nd _
      exact mk_lfX (s1.trans e1) ny nd (.inl (SqL.of e2)) e3 (fun p hp => by
        rcases List.mem_cons.mp hp with rfl | hp
        · exact ⟨z3.le (by decide), ((z1.mul z3).add z2).le (by decide)⟩
        · rw [List.mem_singleton.mp hp]
          exact ⟨z4.le (by decide), ((z1.mul z4).add z2).le (by decide)⟩) (by show 2 ≤ 13; decide) k
end
end K26
namespace K26
open PySem PySem.Spec PyProof.Rows L2 Ew
section
variable {P : Program} {w : World} {K : PySem.W.Frag} {mg : Str → Option Value} {base : Heap}
theorem dsF_no {b : Int} {t : Addr} {m : Str} (h1 : m ≠ "base") (h2 : m ≠ "digits") : (dsF b t).lookup m = none := by
  unfold dsF
  rw [lookup_putF, if_neg h2, lookup_putF, if_neg h1]
  rfl
/-- at x: the digit set of b and s -/
structure DsAt (K : PySem.W.Frag) (CD : Addr) (H : Hp) (x dx t : Addr) (b : Int) (s : List Int) : Prop where
  x : H x = some (.ins CD dx (dsF b t))
  t : SqT K H t (s.map V.int)
  are : AreS b s
  asc : s.Pairwise (· < ·)
  b2 : 2 ≤ b
  b10 : b ≤ 10
theorem DsAt.same {CD : Addr} {H G : Hp} {x dx t : Addr} {b : Int} {s : List Int} (h : DsAt K CD H x dx t b s) (e : Same H G) : DsAt K CD G x dx t b s := ⟨e _ _ h.x, seqT e h.t, h.are, h.asc, h.b2, h.b10⟩
theorem ends_le {b : Int} {s : List Int} (h : AreS b s) (ha : s.Pairwise (· < ·)) : firstI s ≤ lastI s := first_le_last (asc_le_of ha) (by have := h.l2; omega)
theorem ends_sw {b : Int} {s : List Int} (h : AreS b s) (ha : s.Pairwise (· < ·)) (b2 : 2 ≤ b) (b10 : b ≤ 10) : Sw (frN (firstI s) (b - 1)) ∧ Sw (frD (firstI s) (b - 1)) ∧ Sw (frN (lastI s) (b - 1)) ∧ Sw (frD (lastI s) (b - 1)) := by
  have l := ends_le h ha
  have h1 := h.lo
  have h2 := h.hi
  have a1 := frN_abs (firstI s) (b - 1) (by omega)
  have a2 := frD_abs (firstI s) (b - 1) (by omega)
  have a3 := frN_abs (lastI s) (b - 1) (by omega)
  have a4 := frD_abs (lastI s) (b - 1) (by omega)
  exact ⟨sw_of (by omega) (by omega), sw_of (by omega) (by omega), sw_of (by omega) (by omega), sw_of (by omega) (by omega)⟩
/-! ## rest_behind -/
def spRest (CD : Addr) (K : PySem.W.Frag) : Sp := fun vs H Q _ => ∃ (x dx t r : Addr) (b : Int) (s : List Int) (g n d : Int), vs = [.ref x, .ref r, .int g] ∧ DsAt K CD H x dx t b s ∧ SqT K H r [.int n, .int d] ∧ Sw n ∧ Sw d ∧ Sw g ∧ d ≠ 0 ∧
  ∀ p, H p = none → Q (.ref p) (upd H p (.tup [.int (rsN b g n d), .int (rsD b g n d)]))
theorem scRest : FnScope ["self", "number", "digit", "numerator", "denominator"] ["self", "number", "digit"] (defScope sDigitSet_rest_behind) := ⟨rfl, rfl, rfl, by decide +kernel, rfl, by decide +kernel, by decide +kernel⟩
theorem ok_rest {f CD CB CI fIB fID fA CO fFr : Addr} {fd fdFr : FuncData} (F : Fun K "rest_behind" "DigitSet.rest_behind" sDigitSet_rest_behind f fd) (TS : TxtDS K mg CD CB CI fIB fID fA) (Fr : Def P w K mg base (L2.CX P w) 3 "fraction" fFr fdFr ["numerator", "denominator"] (spFraction CO)) :
    FnOk P w K mg base CX0 4 f fd ["self", "number", "digit"] (spRest CD K) := by
  refine F.ok scRest (fun vs H Q E h => ?_) (fun cdv A outer s H vs Q E hr h => ?_)
  · obtain ⟨x, dx, t, r, b, s, g, n, d, rfl, _⟩ := h
    rfl
  · obtain ⟨x, dx, t, r, b, s, g, n, d, rfl, hx, hR, sn, sd, sg, d0, k⟩ := h
    refine ⟨_, (pss_cons (ps_asg (pv 1) (pg_tup rfl (pgs_cons (pg_name (i := 3) scRest.nd rfl (Or.inl rfl)) (pgs_cons (pg_name (i := 4) scRest.nd rfl (Or.inl rfl)) pgs_nil))))
 (pss_one (ps_ret (pe_call Fr.ok hr rfl Fr.g Fr.k Fr.b .nil passL (pa_cons (pe_op op_sub (pe_op op_mulW (pe_fld (pv 0) rfl) (pv 3)) (pe_op op_mulW (pv 2) (pv 4))) (pa_cons (pv 4) pa_nil)))))), ?_⟩
    have sb : Sw b := sw_of (by have := hx.b2; omega) (by have := hx.b10; omega)
    exact ⟨_, rfl, r, _, rfl, hR, rfl, _, _, rfl, _, _, rfl, rfl, _, rfl, x, CD, dx, _, _, rfl, hx.x, TS.cl, TS.nB, dsF_base b t, _, rfl, _, _, rfl, rfl, sw_mul sb sn, _, rfl, _, rfl, _, _, rfl, rfl, sw_mul sg sd, _, _, rfl, rfl, _, rfl, _, _, rfl, sw_big sd, fun z => absurd z d0, fun _ p hp => k p hp⟩
end
end K26
namespace K26
open PySem PySem.Spec PyProof.Rows L2 Ew
section
variable {P : Program} {w : World} {K : PySem.W.Frag} {mg : Str → Option Value} {base : Heap}
/-! ## a function is made; _law_agrees -/
theorem mk_lf {CL CP CM : Addr} {G : Hp} {y dx a : Addr} {ws : List V} {ps : List Pt} {R : Hp → Prop} {E : XK} (ny : G y = none) (nd : G dx = none) (ha : SeqV K G a ws) (hall : All2 (PAt G) ws ps) (hz : ∀ p ∈ ps, PSz 1900 p) (hmax : ps.length ≤ 1000) (h2 : 2 ≤ ps.length) (asc : AscQ ps) (h12 : (normQ ps).length - 1 ≤ 12)
    (k : ∀ Gx, Same G Gx → LfAt CL Gx (.ref y) (normQ ps) → R Gx) : spLfInit K CL CP CM [.ref y, .ref a] (upd (upd G dx (.own y)) y (.ins CL dx [])) (fun v H2 => v = .non ∧ R H2) E := by
  have sN : Same G (upd (upd G dx (.own y)) y (.ins CL dx [])) := fun q o hq => by
    rw [upd_ne (ne_of_none hq ny), upd_ne (ne_of_none hq nd)]
    exact hq
  refine ⟨y, dx, a, ws, ps, rfl, upd_same, ha.same sN, pts_kp (Kp.of sN) hall, hz, hmax, fun z => absurd ⟨h2, asc⟩ z, fun _ _ z => absurd z (by omega), fun _ _ _ Gx t us e1 nt hy ht hus => ⟨rfl, k Gx (Same.made ny nd e1) ⟨y, dx, t, us, rfl, hy, ht, pts_tp (fun c xs hc => e1 c _ hc fun z => ?_) hus⟩⟩⟩
  rw [z, upd_same] at hc
  cases hc
theorem len_lf {CL : Addr} {G : Hp} {v : V} {ps : List Pt} {Q : VK} (h : LfAt CL G v ps) (h1 : 1 ≤ ps.length) (hmax : ps.length ≤ 1000) (q : ∀ G', Same G G' → Q (.int ((ps.length : Int) - 1)) G') : rLenO CL (spLfLen CL) [v] G Q := by
  have h' := h
  obtain ⟨x, dx, t, ws, rfl, hx, ht, hall⟩ := h
  unfold rLenO
  exact ⟨x, dx, _, rfl, hx, _, ps, rfl, h', h1, hmax, fun G' s => ⟨_, rfl, by omega, by omega, q G' s⟩⟩
end
end K26
namespace K26
open PySem PySem.Spec PyProof.Rows L2 Ew
section
variable {P : Program} {w : World} {K : PySem.W.Frag} {mg : Str → Option Value} {base : Heap}
/-! ## _law_in_interval -/
def spLowR : Sp := fun vs H Q _ => ∃ a b : Int, vs = [.int a, .int b] ∧ b ≠ 0 ∧ b.natAbs < 2 ^ 8000 ∧ ∀ G p, Same H G → H p = none → G p = some (.tup (qV (Rat.divInt a b))) → Q (.ref p) G
def spRint : Sp := fun vs H Q _ => ∃ (p q e : Addr) (u v : V) (ns : List Int) (i x sd m : Int) (lo hi : Rat) (a w s : Nat), vs = [.ref p, .ref e, .int m] ∧ RngAt H p q ns i x sd ∧ H e = some (.tup [u, v]) ∧ QAt H u lo ∧ QAt H v hi ∧ 0 < m ∧ m ≤ 1000000 ∧ m.natAbs < 2 ^ s ∧ lo ≤ hi ∧ Sz a lo ∧ Sz 600 hi ∧ Sz w (hi - lo) ∧ a + (s + w) + 1 ≤ 3900 ∧
  ∀ (G : Hp) (r : Addr) (y : Rat) (i' x' sd' : Int), KeepBut p H G → RngAt G p q ns i' x' sd' → H r = none → G r = some (.tup (qV y)) → lo ≤ y → y ≤ hi → Sz (a + (s + w) + 1) y → Q (.ref r) G
theorem scRint : FnScope ["_law_rng", "_law_ends_here", "_law_parts", "_law_below", "_law_share"] ["_law_rng", "_law_ends_here", "_law_parts"] (defScope sLawInInterval) := ⟨rfl, rfl, rfl, by decide +kernel, rfl, by decide +kernel, by decide +kernel⟩
theorem ok_rint {f fD fL fPl fMi fTi : Addr} {fd fdD fdL fdPl fdMi fdTi : FuncData} (F : Fun K "_law_in_interval" "_law_in_interval" sLawInInterval f fd) (D : Def P w K mg base CX0 1 "_law_draw" fD fdD ["_law_rng", "_law_many"] spDraw) (L : Def P w K mg base CX0 1 "_law_lowest" fL fdL ["_law_above", "_law_below"] spLowR)
    (Pl : Def P w K mg base CX0 2 "_law_plus" fPl fdPl ["_law_one", "_law_other"] (spR2 (· + ·) (fun _ _ => True))) (Mi : Def P w K mg base CX0 2 "_law_minus" fMi fdMi ["_law_one", "_law_other"] (spR2 (· - ·) (fun _ _ => True))) (Ti : Def P w K mg base CX0 2 "_law_times" fTi fdTi ["_law_one", "_law_other"] (spR2 (· * ·) (fun _ _ => True))) :
    FnOk P w K mg base CX0 3 f fd ["_law_rng", "_law_ends_here", "_law_parts"] spRint := by
  refine F.ok scRint (fun vs H Q E h => ?_) (fun cdv A outer s H vs Q E hr h => ?_)
  · obtain ⟨p, q, e, u, v, ns, i, x, sd, m, lo, hi, a, w, s, rfl, _⟩ := h
    rfl
  · obtain ⟨p, q, e, u, v, ns, i, x, sd, m, lo, hi, a, w, sz, rfl, R, he, hu, hv, m0, m1, ms, hle, z1, z2, z3, hsz, k⟩ := h
    have r1' : Room 1 _ := hr.mono (by decide)
    refine ⟨_, (pss_cons (ps_set (i := 3) scRint.nd rfl (Or.inl rfl) (pe_op op_add pe_int (pe_call D.ok r1' rfl D.g D.k D.b .nil pass0 (pa_cons (pv 0) (pa_cons (pv 2) pa_nil)))))
 (pss_cons (ps_set (i := 4) scRint.nd rfl (Or.inl rfl) (pe_call L.ok r1' rfl L.g L.k L.b .nil pass0 (pa_cons (pe_call D.ok r1' rfl D.g D.k D.b .nil pass0 (pa_cons (pv 0) (pa_cons (pe_op op_add (pv 3) pe_int) pa_nil))) (pa_cons (pv 3) pa_nil))))
 (pss_one (ps_ret (pe_call Pl.ok hr rfl Pl.g Pl.k Pl.b .nil pass0 (pa_cons (pe_ix ix_tup (pv 1) pe_int (fun _ _ => rfl)) (pa_cons (pe_call Ti.ok hr rfl Ti.g Ti.k Ti.b .nil pass0 (pa_cons (pv 4) (pa_cons (pe_call Mi.ok hr rfl Mi.g Mi.k Mi.b .nil pass0 (pa_cons (pe_ix ix_tup (pv 1) pe_int (fun _ _ => rfl)) (pa_cons (pe_ix ix_tup (pv 1) pe_int (fun _ _ => rfl)) pa_nil))) pa_nil))) pa_nil))))))), ?_⟩
    have small : ∀ z : Int, 0 ≤ z → z ≤ 1000001 → z.natAbs < 2 ^ 8000 := fun z h0 h1 => big_lt (n := 20) (Nat.lt_of_le_of_lt (by omega : z.natAbs ≤ 1000001) (by decide)) (by decide)
    refine ⟨_, rfl, _, rfl, p, q, ns, i, x, sd, m, rfl, R, m0, small _ (by omega) (by omega), fun x1 i1 v1 sd1 x10 x11 ok1 => ?_⟩
    have R1 := R.next ok1
    have K1 : KeepBut p H _ := KeepBut.put (o := .lst (rngL q i1 v1 sd1))
    generalize upd H p (.lst (rngL q i1 v1 sd1)) = G1 at R1 K1
    refine ⟨_, _, rfl, rfl, _, rfl, _, rfl, _, _, rfl, rfl, p, q, ns, i1, v1, sd1, 1 + x1 + 1, rfl, R1, by omega, small _ (by omega) (by omega), fun x2 i2 v2 sd2 x20 x21 ok2 => ?_⟩
    have R2 := R1.next ok2
    have K2 : KeepBut p H _ := K1.trans (KeepBut.put (o := .lst (rngL q i2 v2 sd2)))
    generalize upd G1 p (.lst (rngL q i2 v2 sd2)) = G2 at R2 K2
    refine ⟨_, rfl, x2, 1 + x1, rfl, by omega, small _ (by omega) (by omega), fun G3 w1 s3 n3 hw1 => ?_⟩
    have y0 : 0 < 1 + x1 := by omega
    have kp3 : Kp H G3 := (Kp.but R.at_p K2).trans (Kp.of s3)
    obtain ⟨t0, t1⟩ := share_bd x20 (show x2 ≤ 1 + x1 by omega) y0
    have tz : Sz sz (Rat.divInt x2 (1 + x1)) := sz_div (by omega) (pow_gt ms x20 (by omega)) (pow_gt ms (by omega) (by omega))
    generalize Rat.divInt x2 (1 + x1) = t at hw1 t0 t1 tz
    have he3 := kp3.t he
    refine ⟨_, rfl, e, _, _, _, rfl, rfl, SqT.of he3, rfl, _, rfl, _, rfl, e, _, _, _, rfl, rfl, SqT.of he3, rfl, _, rfl, e, _, _, _, rfl, rfl, SqT.of he3, rfl, v, u, hi, lo, rfl, hv.kp kp3, hu.kp kp3, z2.le (by decide), z1.le (by omega), trivial, fun G4 w2 s4 n4 hw2 => ?_⟩
    refine ⟨_, _, t, hi - lo, rfl, ⟨w1, rfl, s4 _ _ hw1⟩, ⟨w2, rfl, hw2⟩, tz.le (by omega), z3.le (by omega), trivial, fun G5 w3 s5 n5 hw3 => ?_⟩
    have tm := tz.mul z3
    have s35 := s4.trans s5
    refine ⟨_, _, lo, t * (hi - lo), rfl, (hu.kp kp3).kp (Kp.of s35), ⟨w3, rfl, hw3⟩, z1.le (by omega), tm.le (by omega), trivial, fun G6 r s6 n6 hr6 => ?_⟩
    have s36 := s35.trans s6
    have mb := mid_bd hle t0 t1
    have nr : G2 r = none := s3.free (s35.free n6)
    exact k G6 r _ i2 v2 sd2 (K2.trans (KeepBut.of (s3.trans s36))) (R2.same (s3.trans s36)) (K2.free (R2.free nr) nr) hr6 mb.1 mb.2 (z1.add tm)
end
end K26
namespace K26
open PySem PySem.Spec PyProof.Rows L2 Ew
section
variable {P : Program} {w : World} {K : PySem.W.Frag} {mg : Str → Option Value} {base : Heap}
/-! ## _law_points -/
structure TxtPo (mg : Str → Option Value) : Prop where
  range : mg "range" = none
def spPts : Sp := fun vs H Q _ => ∃ (p q e bd : Addr) (u v bu bv : V) (ns : List Int) (i x sd m : Int) (lo hi blo bhi : Rat), vs = [.ref p, .ref e, .ref bd, .int m] ∧ RngAt H p q ns i x sd ∧ H e = some (.tup [u, v]) ∧ QAt H u lo ∧ QAt H v hi ∧ lo < hi ∧ Sz 8 lo ∧ Sz 10 hi ∧ Sz 9 (hi - lo) ∧
  H bd = some (.tup [bu, bv]) ∧ QAt H bu blo ∧ QAt H bv bhi ∧ blo ≤ bhi ∧ Sz 8 blo ∧ Sz 600 bhi ∧ Sz 9 (bhi - blo) ∧ 1 ≤ m ∧ m ≤ 30 ∧
  ∀ (G : Hp) (l : Addr) (ws : List V) (ps : List Pt) (i' x' sd' : Int), KeepBut p H G → RngAt G p q ns i' x' sd' → H l = none → G l = some (.lst ws) → All2 (PAt G) ws ps → AscQ ps → 2 ≤ ps.length → (ps.length : Int) ≤ m + 1 →
    (ps.getD 0 dpt).1 = lo → (ps.getD (ps.length - 1) dpt).1 = hi → (∀ pt ∈ ps, PSz 30 pt ∧ blo ≤ pt.2 ∧ pt.2 ≤ bhi) → Q (.ref l) G
def poN : List Str := ["_law_rng", "_law_ends_here", "_law_bounds", "_law_most", "_law_many", "_law_width", "_law_numbers", "_law_kept", "_law_k", "_law_number"]
theorem scPo : FnScope poN ["_law_rng", "_law_ends_here", "_law_bounds", "_law_most"] (defScope sLawPoints) := ⟨rfl, rfl, rfl, by decide +kernel, rfl, by decide +kernel, by decide +kernel⟩
theorem ok_pts {f fD fL fPl fMi fTi fII : Addr} {fd fdD fdL fdPl fdMi fdTi fdII : FuncData} (F : Fun K "_law_points" "_law_points" sLawPoints f fd) (T : TxtPo mg) (D : Def P w K mg base CX0 1 "_law_draw" fD fdD ["_law_rng", "_law_many"] spDraw) (L : Def P w K mg base CX0 1 "_law_lowest" fL fdL ["_law_above", "_law_below"] spLowR)
    (Pl : Def P w K mg base CX0 2 "_law_plus" fPl fdPl ["_law_one", "_law_other"] (spR2 (· + ·) (fun _ _ => True))) (Mi : Def P w K mg base CX0 2 "_law_minus" fMi fdMi ["_law_one", "_law_other"] (spR2 (· - ·) (fun _ _ => True))) (Ti : Def P w K mg base CX0 2 "_law_times" fTi fdTi ["_law_one", "_law_other"] (spR2 (· * ·) (fun _ _ => True)))
    (II : Def P w K mg base CX0 3 "_law_in_interval" fII fdII ["_law_rng", "_law_ends_here", "_law_parts"] spRint) : FnOk P w K mg base CX0 4 f fd ["_law_rng", "_law_ends_here", "_law_bounds", "_law_most"] spPts := by
  refine F.ok scPo (fun vs H Q E h => ?_) (fun cdv A outer s H vs Q E hr h => ?_)
  · obtain ⟨p, q, e, bd, u, v, bu, bv, ns, i, x, sd, m, lo, hi, blo, bhi, rfl, _⟩ := h
    rfl
  · obtain ⟨p, q, e, bd, u, v, bu, bv, ns, i, x, sd, m, lo, hi, blo, bhi, rfl, R, he, hu, hv, hlt, z1, z2, z3, hbd, hbu, hbv, ble, y1, y2, y3, m1, m30, k⟩ := h
    have r1' : Room 1 _ := hr.mono (by decide)
    have r2' : Room 2 _ := hr.mono (by decide)
    refine ⟨_, (pss_cons (ps_set (i := 4) scPo.nd rfl (Or.inr rfl) (pe_op op_add pe_int (pe_call D.ok r1' rfl D.g D.k D.b .nil pass0 (pa_cons (pv 0) (pa_cons (pv 3) pa_nil)))))
 (pss_cons (ps_set (i := 5) scPo.nd rfl (Or.inr rfl) (pe_call Mi.ok r2' rfl Mi.g Mi.k Mi.b .nil pass0 (pa_cons (pe_ix ix_tup (pv 1) pe_int (fun _ _ => rfl)) (pa_cons (pe_ix ix_tup (pv 1) pe_int (fun _ _ => rfl)) pa_nil))))
 (pss_cons (ps_set (i := 6) scPo.nd rfl (Or.inr rfl) (pe_lc (own := [("_law_k", 8)]) (g := (gName 8)) (tt := tYes) (te := tCall (spR2 (· + ·) (fun _ _ => True)) [] E0 (tCons (tOp (rIxT K) (tVar 1) (tC (.int 0))) (tCons (tCall (spR2 (· * ·) (fun _ _ => True)) [] E0 (tCons (tVar 5) (tCons (tCall spLowR [] E0 (tCons (tVar 8) (tCons (tVar 4) tNil))) tNil))) tNil))) rfl scPo.nd (pi_range1 rfl T.range (pa_cons (pe_op op_add (pv 4) pe_int) pa_nil)) (blkOk_by (N := poN) (sc := defScope sLawPoints) (by decide +kernel)) (fun _ _ _ _ _ => by exact (pg_name (i := 8) scPo.nd rfl (Or.inl rfl))) (fun _ _ _ _ _ => pts_nil) (fun _ _ _ _ _ => by exact (pe_call Pl.ok r2' rfl Pl.g Pl.k Pl.b .nil pass0 (pa_cons (pe_ix ix_tup (pv 1) pe_int (fun _ _ => rfl)) (pa_cons (pe_call Ti.ok r2' rfl Ti.g Ti.k Ti.b .nil pass0 (pa_cons (pv 5) (pa_cons (pe_call L.ok r1' rfl L.g L.k L.b .nil pass0 (pa_cons (pv 8) (pa_cons (pv 4) pa_nil))) pa_nil))) pa_nil))))))
 (pss_cons (ps_setLc (i := 7) (own := [("_law_k", 8)]) (g := (gName 8)) (tt := tOr (tTest (tOp (rIn K false) (tVar 8) (tTup (tCons (tC (.int 0)) (tCons (tVar 4) tNil))))) (tTest (tOp (rI0 fun i j => .bl (decide (j < i))) (tCall spDraw [] E0 (tCons (tVar 0) (tCons (tC (.int 4)) tNil))) (tC (.int 0))))) (te := tOp (rIxL K) (tVar 6) (tVar 8)) rfl scPo.nd rfl rfl (sw_true rfl rfl rfl (by decide +kernel)) (pi_range1 rfl T.range (pa_cons (pe_op op_add (pv 4) pe_int) pa_nil)) (blkOk_by (N := poN) (sc := defScope sLawPoints) (by decide +kernel)) (fun _ _ _ _ _ => by exact (pg_name (i := 8) scPo.nd rfl (Or.inl rfl))) (fun _ _ _ _ _ => (by exact pts_one (PW.pt (pw_or (pt_cmpR op_in_seq (pv 8) (pe_tup (pa_cons pe_int (pa_cons (pv 4) pa_nil))) (by with_unfolding_all rfl)) (pw_or1 (pt_cmpR op_gt (pe_call D.ok r1' rfl D.g D.k D.b .nil pass0 (pa_cons (pv 0) (pa_cons pe_int pa_nil))) pe_int (nomark _))))))) (fun _ _ _ _ _ => by exact (pe_ix ix_list (pv 6) (pv 8) (fun _ _ => rfl))))
 (pss_one (ps_ret (pe_lc (own := [("_law_number", 9)]) (g := (gName 9)) (tt := tYes) (te := tTup (tCons (tVar 9) (tCons (tCall spRint [] E0 (tCons (tVar 0) (tCons (tVar 2) (tCons (tC (.int 4)) tNil)))) tNil))) rfl scPo.nd (pi_list (pv 7)) (blkOk_by (N := poN) (sc := defScope sLawPoints) (by decide +kernel)) (fun _ _ _ _ _ => by exact (pg_name (i := 9) scPo.nd rfl (Or.inl rfl))) (fun _ _ _ _ _ => pts_nil) (fun _ _ _ _ _ => by exact (pe_tup (pa_cons (pv 9) (pa_cons (pe_call II.ok hr rfl II.g II.k II.b .nil pass0 (pa_cons (pv 0) (pa_cons (pv 2) (pa_cons pe_int pa_nil)))) pa_nil))))))))))), ?_⟩
    have small : ∀ z : Int, 0 ≤ z → z ≤ 1000 → z.natAbs < 2 ^ 8000 := fun z h0 h1 => big_lt (n := 10) (Nat.lt_of_le_of_lt (by omega : z.natAbs ≤ 1000) (by decide)) (by decide)
    have p62 : (2 : Int) ^ 62 = 4611686018427387904 := by decide
    -- many
    refine ⟨_, rfl, _, rfl, p, q, ns, i, x, sd, m, rfl, R, by omega, small _ (by omega) (by omega), fun x1 i1 v1 sd1 x10 x11 ok1 => ?_⟩
    have R1 := R.next ok1
    have K1 : KeepBut p H _ := KeepBut.put (o := .lst (rngL q i1 v1 sd1))
    generalize upd H p (.lst (rngL q i1 v1 sd1)) = G1 at R1 K1
    refine ⟨_, _, rfl, rfl, ?_⟩
    obtain ⟨n, en⟩ : ∃ n, n = 1 + x1 := ⟨_, rfl⟩
    show gName 4 (V.int (1 + x1)) _ _ _
    rw [← en]
    have n0 : 0 < n := by omega
    have n30 : n ≤ m := by omega
    have ns5 : n.natAbs < 2 ^ 5 := by omega
    have kp1 := Kp.but R.at_p K1
    -- width
    refine ⟨_, rfl, e, _, _, _, rfl, rfl, SqT.of (kp1.t he), rfl, _, rfl, e, _, _, _, rfl, rfl, SqT.of (kp1.t he), rfl, v, u, hi, lo, rfl, hv.kp kp1, hu.kp kp1, z2.le (by decide), z1.le (by decide), trivial, fun G2 wd s2 n2 h2 => ?_⟩
    have R2 := R1.same s2
    have K2 := K1.trans (KeepBut.of s2)
    have kp2 := kp1.trans (Kp.of s2)
    have w0 : 0 < hi - lo := by grind
    have whi : lo + (hi - lo) = hi := by grind
    have h2 : G2 wd = some (.tup (qV (hi - lo))) := h2
    generalize hi - lo = wq at h2 z3 w0 whi
    -- numbers
    refine ⟨_, rfl, _, _, rfl, rfl, n + 1, rfl, by omega, by omega, fun D1 hD1 => ?_⟩
    refine lc_range (lo := 0) (n := (n + 1).toNat) (fun j G => Same G2 G ∧ ∃ us, G D1 = some (.lst us) ∧ All2 (QAt G) us ((List.range j).map (numQ lo wq n))) ⟨same_upd (Same.refl _) hD1, [], upd_same, All2.nil⟩ ?_ ?_
    · rintro j G hj ⟨e1, us, e2, e3⟩
      have kG := kp2.trans (Kp.of e1)
      have ul := e3.len
      rw [List.length_map, List.length_range] at ul
      refine ⟨rfl, tyes ⟨_, rfl, e, _, _, _, rfl, rfl, SqT.of (kG.t he), rfl, _, rfl, _, rfl, _, rfl, 0 + (j : Int), n, rfl, by omega, small _ (by omega) (by omega), fun G3 r3 s3 n3 h3 => ?_⟩⟩
      have tz : Sz 5 (Rat.divInt (0 + (j : Int)) n) := sz_div (by omega) (by omega) ns5
      refine ⟨_, _, wq, _, rfl, ⟨wd, rfl, s3 _ _ (e1 _ _ h2)⟩, ⟨r3, rfl, h3⟩, z3.le (by decide), tz.le (by decide), trivial, fun G4 r4 s4 n4 h4 => ?_⟩
      have s34 := s3.trans s4
      refine ⟨_, _, lo, _, rfl, (hu.kp kG).kp (Kp.of s34), ⟨r4, rfl, h4⟩, z1.le (by decide), (z3.mul tz).le (by decide), trivial, fun G5 r5 s5 n5 h5 => ?_⟩
      have s35 := s34.trans s5
      have d5 := s35 _ _ e2
      have kD : Kp G (upd G5 D1 (.lst (us ++ [.ref r5]))) := (Kp.of s35).trans (Kp.put d5)
      refine ⟨us, d5, by rw [sizeLine_eq]; omega, same_updN (e1.trans s35) hD1, us ++ [.ref r5], upd_same, ?_⟩
      rw [List.range_succ, List.map_append]
      refine (qs_kp kD e3).snoc ⟨r5, rfl, ?_⟩
      rw [upd_ne (fun z => by rw [z, d5] at h5; cases h5), h5]
      unfold numQ
      rw [Int.zero_add]
    · rintro G3 ⟨e1, us1, hD1', hus1⟩
      have R3 := R2.same e1
      have K3 := K2.trans (KeepBut.of e1)
      have kp3 := kp2.trans (Kp.of e1)
      have nD1p : D1 ≠ p := R2.free hD1
      have ul1 := hus1.len
      rw [List.length_map, List.length_range] at ul1
      clear e1 R2 K2 kp2 R1 K1 kp1 h2 hD1
      -- kept
      refine ⟨_, rfl, _, _, rfl, rfl, n + 1, rfl, by omega, by omega, fun D2 hD2 => ?_⟩
      have nD2p := R3.free hD2
      have nD2q := R3.freeq hD2
      have nD12 : D1 ≠ D2 := ne_of_none hD1' hD2
      refine lc_range (lo := 0) (n := (n + 1).toNat) (fun j G => ∃ (us : List V) (ks : List Nat) (i' v' sd' : Int), KeepBut p G3 G ∧ RngAt G p q ns i' v' sd' ∧ G D2 = some (.lst us) ∧ All2 (QAt G) us (ks.map (numQ lo wq n)) ∧ ks.Pairwise (· < ·) ∧ (∀ k ∈ ks, k < j) ∧ (0 < j → 0 ∈ ks) ∧ (n < (j : Int) → n.toNat ∈ ks) ∧ ks.length ≤ j)
        ⟨[], [], i1, v1, sd1, KeepBut.new hD2, R3.same (same_upd (Same.refl _) hD2), upd_same, All2.nil, List.Pairwise.nil, (fun k hk => nomatch hk), (fun z => absurd z (by decide)), (fun z => absurd z (by omega)), Nat.le_refl _⟩ ?_ ?_
      · rintro j G hj ⟨us, ks, i', v', sd', kG, RG, hD, hal, asc, hlt', h0, hn, hkl⟩
        have D1G := kG _ _ hD1' nD1p
        have ul := hal.len
        rw [List.length_map] at ul
        have hget : ∃ vj, us1[j]? = some vj ∧ QAt G3 vj (numQ lo wq n j) := by
          have hj' : j < us1.length := by omega
          refine ⟨us1[j], List.getElem?_eq_getElem hj', hus1.at_ j _ _ (List.getElem?_eq_getElem hj') ?_⟩
          rw [List.getElem?_map, List.getElem?_range (by omega)]
          rfl
        obtain ⟨vj, ej, qj⟩ := hget
        -- what a kept one leaves
        have keep : ∀ (G' : Hp) (i2 v2 sd2 : Int), KeepBut p G G' → RngAt G' p q ns i2 v2 sd2 → ∃ acc, G' D2 = some (.lst acc) ∧ acc.length < sizeLine ∧ (∃ (us : List V) (ks : List Nat) (i' v' sd' : Int), KeepBut p G3 (upd G' D2 (.lst (acc ++ [vj]))) ∧ RngAt (upd G' D2 (.lst (acc ++ [vj]))) p q ns i' v' sd' ∧ upd G' D2 (.lst (acc ++ [vj])) D2 = some (.lst us) ∧ All2 (QAt (upd G' D2 (.lst (acc ++ [vj])))) us (ks.map (numQ lo wq n)) ∧ ks.Pairwise (· < ·) ∧ (∀ k ∈ ks, k < j + 1) ∧ (0 < j + 1 → 0 ∈ ks) ∧ (n < ((j + 1 : Nat) : Int) → n.toNat ∈ ks) ∧ ks.length ≤ j + 1) := fun G' i2 v2 sd2 kGG RG' => by
          have d' := kGG _ _ hD nD2p
          have kk : Kp G (upd G' D2 (.lst (us ++ [vj]))) := (Kp.but RG.at_p kGG).trans (Kp.put d')
          have kk3 : Kp G3 (upd G' D2 (.lst (us ++ [vj]))) := (Kp.but R3.at_p kG).trans kk
          refine ⟨us, d', by rw [sizeLine_eq]; omega, us ++ [vj], ks ++ [j], i2, v2, sd2, fun c o hc nc => ?_, RG'.off nD2p nD2q, upd_same, ?_, ?_, ?_, ?_, ?_, by rw [List.length_append]; simp; omega⟩
          · rw [upd_ne (ne_of_none hc hD2)]
            exact kGG _ _ (kG _ _ hc nc) nc
          · rw [List.map_append]
            exact (qs_kp kk hal).snoc (qj.kp kk3)
          · refine List.pairwise_append.mpr ⟨asc, List.pairwise_singleton _ _, fun a ha b hb => ?_⟩
            rw [List.mem_singleton.mp hb]
            exact hlt' a ha
          · intro a ha
            rcases List.mem_append.mp ha with z | z
            · have := hlt' a z; omega
            · rw [List.mem_singleton.mp z]; omega
          · intro _
            rcases Nat.eq_zero_or_pos j with z | z
            · rw [z]; simp
            · exact List.mem_append_left _ (h0 z)
          · intro z
            by_cases c : n < (j : Int)
            · exact List.mem_append_left _ (hn c)
            · have : n.toNat = j := by omega
              rw [this]; simp
        have seen : ∀ (G' : Hp), Same G G' → ∀ v, (v = V.ref D1) → True := fun _ _ _ _ => trivial
        refine ⟨rfl, ?_⟩
        refine ⟨_, rfl, _, rfl, (by show 2 ≤ sizeLine; decide), fun t ht => ?_⟩
        have s4 := same_upd (o := .tup [.int 0, .int n]) (Same.refl G) ht
        have RG4 := RG.same s4
        refine ⟨t, [.int 0, .int n], rfl, .inr (SqT.of upd_same), rfl, rfl, _, rfl, ?_⟩
        have ein : inV (.int (0 + (j : Int))) [.int 0, .int n] = decide ((0 + (j : Int)) ∈ [0, n]) := inInts (0 + (j : Int)) [0, n]
        by_cases c : (0 + (j : Int)) ∈ [0, n]
        · refine ifT (by rw [ein]; exact decide_eq_true c) (iteT ⟨_, rfl, _, rfl, D1, _, _, _, rfl, rfl, SqL.of (s4 _ _ D1G), at_v (i := j) (by omega) ej, ?_⟩)
          exact keep _ i' v' sd' (KeepBut.of s4) RG4
        · have cj : (j : Int) ≠ 0 ∧ (j : Int) ≠ n := by
            constructor
            · intro z; exact c (by rw [z]; simp)
            · intro z; exact c (by rw [z]; simp)
          refine ifF (by rw [ein]; exact decide_eq_false c) ⟨_, rfl, p, q, ns, i', v', sd', 4, rfl, RG4, by decide, small _ (by decide) (by decide), fun x5 i5 v5 sd5 x50 x51 ok5 => ?_⟩
          have RG5 := RG4.next ok5
          have k5 : KeepBut p G _ := (KeepBut.of s4).trans (KeepBut.put (o := .lst (rngL q i5 v5 sd5)))
          refine ⟨_, _, rfl, rfl, _, rfl, ?_⟩
          by_cases c5 : (0 : Int) < x5
          · rw [decide_eq_true c5]
            refine iteT ⟨_, rfl, _, rfl, D1, _, _, _, rfl, rfl, SqL.of (k5 _ _ D1G nD1p), at_v (i := j) (by omega) ej, ?_⟩
            exact keep _ i5 v5 sd5 k5 RG5
          · rw [decide_eq_false c5]
            refine iteF ⟨us, ks, i5, v5, sd5, kG.trans k5, RG5, k5 _ _ hD nD2p, qs_kp (Kp.but RG.at_p k5) hal, asc, fun a ha => by have := hlt' a ha; omega, fun _ => h0 (by omega), fun z => hn (by omega), by omega⟩
      · rintro G4 ⟨us, ks, i4, v4, sd4, kG, R4, hD, hal, asc, hlt', h0, hn, hkl⟩
        have h0 := h0 (by omega)
        have hn := hn (by omega)
        have K4 := K3.trans kG
        have kp4 := kp3.trans (Kp.but R3.at_p kG)
        have ul := hal.len
        rw [List.length_map] at ul
        clear hus1 ul1 hD1' kG R3 K3 kp3
        -- the points
        refine ⟨_, rfl, D2, rfl, ⟨_, SqL.of hD⟩, fun D3 hD3 => ?_⟩
        have nD3p := R4.free hD3
        have nD3q := R4.freeq hD3
        have nD23 : D2 ≠ D3 := ne_of_none hD hD3
        refine lc_list (K := K) (a := D2) (xs := us) (fun j G => ∃ (ws : List V) (ps : List Pt) (i' v' sd' : Int), KeepBut p G4 G ∧ RngAt G p q ns i' v' sd' ∧ G D3 = some (.lst ws) ∧ All2 (PAt G) ws ps ∧ ps.map (·.1) = (ks.take j).map (numQ lo wq n) ∧ ∀ pt ∈ ps, PSz 30 pt ∧ blo ≤ pt.2 ∧ pt.2 ≤ bhi)
          ⟨[], [], i4, v4, sd4, KeepBut.new hD3, R4.same (same_upd (Same.refl _) hD3), upd_same, All2.nil, rfl, fun pt hp => nomatch hp⟩ (fun j G _ ⟨ws, ps, i', v', sd', kG, _⟩ => SqL.of (kG _ _ hD nD2p)) ?_ ?_
        · rintro j y G hy ⟨ws, ps, i', v', sd', kG, RG, hD3', hws, hps, hbd'⟩
          have hj : j < us.length := (List.getElem?_eq_some_iff.mp hy).1
          have hj' : j < ks.length := by omega
          have gk : ks[j]? = some (ks.getD j 0) := by rw [List.getD_eq_getElem?_getD, List.getElem?_eq_getElem hj']; rfl
          have qy := hal.at_ j y (numQ lo wq n (ks.getD j 0)) hy (by rw [List.getElem?_map, gk]; rfl)
          have kpG := kp4.trans (Kp.but R4.at_p kG)
          have wl := hws.len
          have pl := congrArg List.length hps
          rw [List.length_map, List.length_map, List.length_take] at pl
          refine ⟨rfl, tyes ⟨_, rfl, _, rfl, _, rfl, p, q, bd, bu, bv, ns, i', v', sd', 4, blo, bhi, 8, 9, 3, rfl, RG, kpG.t hbd, hbu.kp kpG, hbv.kp kpG, by decide, by decide, by decide, ble, y1, y2, y3, by decide, fun G5 r5 y5 i5 v5 sd5 K5 R5 n5 h5 b1 b2 yz => ?_⟩⟩
          refine ⟨(by show 2 ≤ sizeLine; decide), fun t ht => ?_⟩
          have s6 := same_upd (o := .tup [y, .ref r5]) (Same.refl G5) ht
          have d5 := s6 _ _ (K5 _ _ hD3' nD3p)
          have kpt : Kp G4 (upd (upd G5 t (.tup [y, .ref r5])) D3 (.lst (ws ++ [.ref t]))) := ((Kp.but R4.at_p kG).trans (Kp.but RG.at_p K5)).trans ((Kp.of s6).trans (Kp.put d5))
          have kpg : Kp G (upd (upd G5 t (.tup [y, .ref r5])) D3 (.lst (ws ++ [.ref t]))) := (Kp.but RG.at_p K5).trans ((Kp.of s6).trans (Kp.put d5))
          have kp5 : Kp G5 (upd (upd G5 t (.tup [y, .ref r5])) D3 (.lst (ws ++ [.ref t]))) := (Kp.of s6).trans (Kp.put d5)
          refine ⟨ws, d5, by rw [sizeLine_eq]; omega, ws ++ [.ref t], ps ++ [(numQ lo wq n (ks.getD j 0), y5)], i5, v5, sd5, fun c o hc nc => ?_, (R5.same s6).off nD3p nD3q, upd_same, ?_, ?_, ?_⟩
          · rw [upd_ne (ne_of_none hc hD3)]
            exact s6 _ _ (K5 _ _ (kG _ _ hc nc) nc)
          · refine (pts_kp kpg hws).snoc ⟨t, y, .ref r5, rfl, ?_, qy.kp kpt, ⟨r5, rfl, kp5.t h5⟩⟩
            rw [upd_ne (fun z => by rw [z] at ht; rw [K5 _ _ hD3' nD3p] at ht; cases ht), upd_same]
          · rw [List.map_append, hps, List.take_add_one, gk, List.map_append]
            rfl
          · intro pt hp
            rcases List.mem_append.mp hp with z | z
            · exact hbd' pt z
            · rw [List.mem_singleton.mp z]
              have kle := hlt' _ (List.mem_of_getElem? gk)
              exact ⟨⟨(numQ_sz z1 z3 n0 ns5 (by omega)).le (by decide), yz.le (by decide)⟩, b1, b2⟩
        · rintro G5 ⟨ws, ps, i5, v5, sd5, kG, R5, hD3', hws, hps, hbd'⟩
          rw [ul, List.take_length] at hps
          have pl := congrArg List.length hps
          rw [List.length_map, List.length_map] at pl
          have k2 := two_mem h0 hn (by omega)
          refine k G5 D3 ws ps i5 v5 sd5 (K4.trans kG) R5 (K4.free nD3p hD3) hD3' hws (asc_pts hps w0 n0 asc) (by omega) (by omega) ?_ ?_ hbd'
          · rw [fst_at hps (by omega), asc_first asc h0, numQ_zero]
          · rw [pl, fst_at hps (by omega), asc_last asc hn (fun a ha => by have := hlt' a ha; omega), numQ_one n0, whi]
end
end K26
namespace K26
open PySem PySem.Spec PyProof.Rows L2 Ew
section
variable {P : Program} {w : World} {K : PySem.W.Frag} {mg : Str → Option Value} {base : Heap}
/-! ## _law_slope, _law_normal -/
theorem scLSlope : FnScope ["_law_one", "_law_other"] ["_law_one", "_law_other"] (defScope sLawSlope) := ⟨rfl, rfl, rfl, by decide +kernel, rfl, by decide +kernel, by decide +kernel⟩
theorem ok_lslope {f fMi fOv : Addr} {fd fdMi fdOv : FuncData} (F : Fun K "_law_slope" "_law_slope" sLawSlope f fd) (Mi : Def P w K mg base CX0 2 "_law_minus" fMi fdMi ["_law_one", "_law_other"] (spR2 (· - ·) (fun _ _ => True))) (Ov : Def P w K mg base CX0 2 "_law_over" fOv fdOv ["_law_one", "_law_other"] (spR2 (· / ·) (fun _ s => s ≠ 0))) :
    FnOk P w K mg base CX0 3 f fd ["_law_one", "_law_other"] spSlope := by
  refine F.ok scLSlope (fun vs H Q E h => ?_) (fun cdv A outer s H vs Q E hr h => ?_)
  · obtain ⟨u, v, l, r, rfl, _⟩ := h
    rfl
  · obtain ⟨_, _, l, r, rfl, ⟨a, ax, ay, rfl, ha, hax, hay⟩, ⟨b, bx, by', rfl, hb, hbx, hby⟩, z1, z2, h0, k⟩ := h
    refine ⟨_, (pss_one (ps_ret (pe_call Ov.ok hr rfl Ov.g Ov.k Ov.b .nil pass0 (pa_cons (pe_call Mi.ok hr rfl Mi.g Mi.k Mi.b .nil pass0 (pa_cons (pe_ix ix_tup (pv 1) pe_int (fun _ _ => rfl)) (pa_cons (pe_ix ix_tup (pv 0) pe_int (fun _ _ => rfl)) pa_nil))) (pa_cons (pe_call Mi.ok hr rfl Mi.g Mi.k Mi.b .nil pass0 (pa_cons (pe_ix ix_tup (pv 1) pe_int (fun _ _ => rfl)) (pa_cons (pe_ix ix_tup (pv 0) pe_int (fun _ _ => rfl)) pa_nil))) pa_nil))))), ?_⟩
    refine ⟨_, rfl, b, _, _, _, rfl, rfl, SqT.of hb, rfl, _, rfl, a, _, _, _, rfl, rfl, SqT.of ha, rfl, _, _, r.2, l.2, rfl, hby, hay, z2.y.le (by decide), z1.y.le (by decide), trivial, fun G1 p1 s1 n1 h1 => ?_⟩
    have k1 := Kp.of s1
    refine ⟨_, rfl, b, _, _, _, rfl, rfl, SqT.of (s1 _ _ hb), rfl, _, rfl, a, _, _, _, rfl, rfl, SqT.of (s1 _ _ ha), rfl, _, _, r.1, l.1, rfl, hbx.kp k1, hax.kp k1, z2.x.le (by decide), z1.x.le (by decide), trivial, fun G2 p2 s2 n2 h2 => ?_⟩
    exact ⟨_, _, r.2 - l.2, r.1 - l.1, rfl, ⟨p1, rfl, s2 _ _ h1⟩, ⟨p2, rfl, h2⟩, (z2.y.sub z1.y).le (by decide), (z2.x.sub z1.x).le (by decide), h0, fun G3 p3 s3 n3 h3 => k G3 p3 (s1.trans (s2.trans s3)) (s1.free (s2.free n3)) h3⟩
structure TxtLN (mg : Str → Option Value) : Prop where
  len : mg "len" = none
  range : mg "range" = none
def spLNormal : Sp := fun vs H Q _ => ∃ (a : Addr) (ws : List V) (ps : List Pt), vs = [.ref a] ∧ H a = some (.lst ws) ∧ All2 (PAt H) ws ps ∧ (∀ p ∈ ps, PSz 600 p) ∧ 2 ≤ ps.length ∧ ps.length ≤ 1000 ∧ AscQ ps ∧
  ∀ (G : Hp) (t : Addr) (us : List V), Same H G → H t = none → G t = some (.lst us) → All2 (PAt H) us (normQ ps) → Q (.ref t) G
theorem scLNorm : FnScope ["_law_points_here", "_law_result", "_law_k"] ["_law_points_here"] (defScope sLawNormal) := ⟨rfl, rfl, rfl, by decide +kernel, rfl, by decide +kernel, by decide +kernel⟩
theorem ok_lnormal {f fSl : Addr} {fd fdSl : FuncData} (F : Fun K "_law_normal" "_law_normal" sLawNormal f fd) (T : TxtLN mg) (Sl : Def P w K mg base CX0 3 "_law_slope" fSl fdSl ["_law_one", "_law_other"] spSlope) : FnOk P w K mg base CX0 4 f fd ["_law_points_here"] spLNormal := by
  refine F.ok scLNorm (fun vs H Q E h => ?_) (fun cdv A outer s H vs Q E hr h => ?_)
  · obtain ⟨a, ws, ps, rfl, _⟩ := h
    rfl
  · obtain ⟨a, ws, ps, rfl, ha, hall, hz, h2, hmax, asc, k⟩ := h
    refine ⟨_, (pss_cons (ps_set (i := 1) scLNorm.nd rfl (Or.inl rfl) (pe_lst (pa_cons (pe_ix ix_list (pv 0) pe_int (fun _ _ => rfl)) pa_nil)))
 (pss_cons (ps_for PassesOwn.never rfl (pi_range2 rfl T.range (pa_cons pe_int (pa_cons (pe_op op_sub (pe_callB call_len_seq (by rfl) T.len PySem.boot_len (pa_cons (pv 0) pa_nil)) pe_int) pa_nil))) (pg_name (i := 2) scLNorm.nd rfl (Or.inl rfl))
 (pss_one (ps_if (pt_cmpR (op_neD hr.units) (pe_call Sl.ok hr rfl Sl.g Sl.k Sl.b .nil pass0 (pa_cons (pe_ix ix_list (pv 0) (pe_op op_sub (pv 2) pe_int) (fun _ _ => rfl)) (pa_cons (pe_ix ix_list (pv 0) (pv 2) (fun _ _ => rfl)) pa_nil))) (pe_call Sl.ok hr rfl Sl.g Sl.k Sl.b .nil pass0 (pa_cons (pe_ix ix_list (pv 0) (pv 2) (fun _ _ => rfl)) (pa_cons (pe_ix ix_list (pv 0) (pe_op op_add (pv 2) pe_int) (fun _ _ => rfl)) pa_nil))) (nomark _)) (pss_one (ps_expr (pe_bm PySem.F.plainAttrs_list PySem.F.slot_list_append PySem.F.type_list_append mt_append (pv 1) (pa_cons (pe_ix ix_list (pv 0) (pv 2) (fun _ _ => rfl)) pa_nil)))) pss_nil)))
 (pss_one (ps_ret (pe_op op_cat (pv 1) (pe_lst (pa_cons (pe_ix ix_list (pv 0) (pe_un un_neg pe_int) (fun _ _ => rfl)) pa_nil))))))), ?_⟩
    have hwl := hall.len
    have at_ : ∀ i, i < ps.length → ∃ v, ws[i]? = some v ∧ PAt H v (ps.getD i dpt) := fun i hi => hall.get dpt hi
    have p62 : (2 : Int) ^ 62 = 4611686018427387904 := by decide
    obtain ⟨v0, e0, q0⟩ := at_ 0 (by omega)
    refine ⟨_, rfl, a, _, _, _, rfl, rfl, SqL.of ha, at_v (i := 0) rfl e0, (by show 1 ≤ sizeLine; decide), fun l hl => ?_⟩
    have s1 := same_upd (o := .lst [v0]) (Same.refl H) hl
    refine ⟨_, rfl, a, _, rfl, .inl (SqL.of (s1 _ _ ha)), _, _, rfl, rfl, 1, (ws.length : Int) - 1, rfl, ⟨by omega, by omega, by omega, by omega⟩, ?_⟩
    refine for_range (lo := 1) (n := ((ws.length : Int) - 1 - 1).toNat) (fun i σ G => ∃ (us : List V) (o2 : Option V), σ = [some (.ref a), some (.ref l), o2] ∧ Same H G ∧ G l = some (.lst us) ∧ All2 (PAt H) us (ps.getD 0 dpt :: bendsF ps i) ∧ us.length ≤ i + 1)
      ⟨[v0], none, rfl, s1, upd_same, (All2.nil (R := PAt H)).snoc (v := v0) (x := ps.getD 0 dpt) q0, by simp⟩ ?_ ?_
    · rintro i σ G hi ⟨us, o2, rfl, e, hlG, hus, hul⟩
      have hi' : i + 2 < ps.length := by omega
      obtain ⟨va, ea, qa⟩ := at_ i (by omega)
      obtain ⟨vb, eb, qb⟩ := at_ (i + 1) (by omega)
      obtain ⟨vc, ec, qc⟩ := at_ (i + 2) (by omega)
      have d1 : (ps.getD (i + 1) dpt).1 - (ps.getD i dpt).1 ≠ 0 := by have := asc_at asc (i := i) (j := i + 1) (by omega) (by omega); grind
      have d2 : (ps.getD (i + 2) dpt).1 - (ps.getD (i + 1) dpt).1 ≠ 0 := by have := asc_at asc (i := i + 1) (j := i + 2) (by omega) (by omega); grind
      have za := hz _ (getD_memP (i := i) (by omega : i < ps.length))
      have zb := hz _ (getD_memP (i := i + 1) (by omega : i + 1 < ps.length))
      have zc := hz _ (getD_memP (i := i + 2) (by omega : i + 2 < ps.length))
      refine ⟨_, rfl, _, rfl, _, _, rfl, rfl, a, _, _, _, rfl, rfl, SqL.of (e _ _ ha), at_v (i := i) (by omega) ea, _, rfl, _, rfl, a, _, _, _, rfl, rfl, SqL.of (e _ _ ha), at_v (i := i + 1) (by omega) eb, ?_⟩
      refine ⟨_, _, _, _, rfl, qa.kp (Kp.of e), qb.kp (Kp.of e), za.le (by decide), zb.le (by decide), d1, fun G1 p1 s1 n1 h1 => ?_⟩
      have e1 := e.trans s1
      refine ⟨_, rfl, _, rfl, a, _, _, _, rfl, rfl, SqL.of (e1 _ _ ha), at_v (i := i + 1) (by omega) eb, _, rfl, _, rfl, _, _, rfl, rfl, a, _, _, _, rfl, rfl, SqL.of (e1 _ _ ha), at_v (i := i + 2) (by omega) ec, ?_⟩
      refine ⟨_, _, _, _, rfl, qb.kp (Kp.of e1), qc.kp (Kp.of e1), zb.le (by decide), zc.le (by decide), d2, fun G2 p2 s2 n2 h2 => ?_⟩
      have e2 := e1.trans s2
      have l2 := s2 _ _ (s1 _ _ hlG)
      refine ⟨_, _, dpQ (s2 _ _ h1), dpQ h2, shapedTup _, shapedTup _, _, rfl, ?_⟩
      rw [qeqv]
      by_cases c : slopeQ (ps.getD i dpt) (ps.getD (i + 1) dpt) = slopeQ (ps.getD (i + 1) dpt) (ps.getD (i + 2) dpt)
      · refine ifF (by rw [decide_eq_true c]; rfl) ⟨us, _, rfl, e2, l2, ?_, by omega⟩
        rw [bendsF_succ, show bendAt ps i = [] by unfold bendAt; rw [if_pos c], List.append_nil]
        exact hus
      · refine ifT (by rw [decide_eq_false c]; rfl) ?_
        refine ⟨_, rfl, .inl ⟨rfl, _, SqL.of l2⟩, _, rfl, _, rfl, a, _, _, _, rfl, rfl, SqL.of (e2 _ _ ha), at_v (i := i + 1) (by omega) eb, l, _, _, rfl, rfl, l2, by rw [sizeLine_eq]; omega, ?_⟩
        refine ⟨us ++ [vb], _, rfl, same_updN e2 hl, upd_same, ?_, by rw [List.length_append]; simp; omega⟩
        rw [bendsF_succ, show bendAt ps i = [ps.getD (i + 1) dpt] by unfold bendAt; rw [if_neg c]]
        exact hus.snoc (v := vb) (x := ps.getD (i + 1) dpt) qb
    · rintro σ G ⟨us, o2, rfl, e, hlG, hus, hul⟩
      have en : ((ws.length : Int) - 1 - 1).toNat = ps.length - 2 := by omega
      rw [en] at hus hul
      obtain ⟨vz, ez, qz⟩ := at_ (ps.length - 1) (by omega)
      have ez' : ws[ws.length - 1]? = some vz := by rw [hwl]; exact ez
      refine ⟨_, rfl, _, rfl, _, rfl, a, _, _, _, rfl, rfl, SqL.of (e _ _ ha), at_neg (by omega) ez', (by show 1 ≤ sizeLine; decide), fun l2 h2' => ?_⟩
      have s2 := same_upd (o := .lst [vz]) (Same.refl G) h2'
      refine ⟨l, l2, _, _, rfl, rfl, s2 _ _ hlG, upd_same, by rw [sizeLine_eq]; simp; omega, fun t ht => ?_⟩
      have aT := hus.snoc (v := vz) (x := ps.getD (ps.length - 1) dpt) qz
      rw [← normQ_range h2] at aT
      have e3 := e.trans s2
      exact k _ t (us ++ [vz]) (same_upd e3 ht) (e3.free ht) upd_same aT
end
end K26
namespace K26
open PySem PySem.Spec PyProof.Rows L2 Ew
section
variable {P : Program} {w : World} {K : PySem.W.Frag} {mg : Str → Option Value} {base : Heap}
/-! ## _law_shrunk -/
def spShrunk : Sp := fun vs H Q _ => ∃ (v : V) (e : Addr) (u w' : V) (y lo hi : Rat), vs = [v, .ref e] ∧ QAt H v y ∧ H e = some (.tup [u, w']) ∧ QAt H u lo ∧ QAt H w' hi ∧ Sz 30 y ∧ Sz 8 lo ∧ Sz 8 hi ∧ ∀ (G : Hp) (p : Addr), Same H G → H p = none → G p = some (.tup (qV (shrQ lo hi y))) → Sz 80 (shrQ lo hi y) → Q (.ref p) G
theorem scShr : FnScope ["_law_value", "_law_ends_here", "_law_middle"] ["_law_value", "_law_ends_here"] (defScope sLawShrunk) := ⟨rfl, rfl, rfl, by decide +kernel, rfl, by decide +kernel, by decide +kernel⟩
theorem ok_shrunk {f fPl fMi fTi : Addr} {fd fdPl fdMi fdTi : FuncData} (F : Fun K "_law_shrunk" "_law_shrunk" sLawShrunk f fd) (Pl : Def P w K mg base CX0 2 "_law_plus" fPl fdPl ["_law_one", "_law_other"] (spR2 (· + ·) (fun _ _ => True))) (Mi : Def P w K mg base CX0 2 "_law_minus" fMi fdMi ["_law_one", "_law_other"] (spR2 (· - ·) (fun _ _ => True))) (Ti : Def P w K mg base CX0 2 "_law_times" fTi fdTi ["_law_one", "_law_other"] (spR2 (· * ·) (fun _ _ => True))) :
    FnOk P w K mg base CX0 3 f fd ["_law_value", "_law_ends_here"] spShrunk := by
  refine F.ok scShr (fun vs H Q E h => ?_) (fun cdv A outer s H vs Q E hr h => ?_)
  · obtain ⟨v, e, u, w', y, lo, hi, rfl, _⟩ := h
    rfl
  · obtain ⟨v, e, u, w', y, lo, hi, rfl, hv, he, hu, hw, z1, z2, z3, k⟩ := h
    have r2' : Room 2 _ := hr.mono (by decide)
    refine ⟨_, (pss_cons (ps_set (i := 2) scShr.nd rfl (Or.inl rfl) (pe_call Ti.ok r2' rfl Ti.g Ti.k Ti.b .nil pass0 (pa_cons (pe_tup (pa_cons pe_int (pa_cons pe_int pa_nil))) (pa_cons (pe_call Pl.ok r2' rfl Pl.g Pl.k Pl.b .nil pass0 (pa_cons (pe_ix ix_tup (pv 1) pe_int (fun _ _ => rfl)) (pa_cons (pe_ix ix_tup (pv 1) pe_int (fun _ _ => rfl)) pa_nil))) pa_nil))))
 (pss_one (ps_ret (pe_call Pl.ok r2' rfl Pl.g Pl.k Pl.b .nil pass0 (pa_cons (pv 2) (pa_cons (pe_call Ti.ok r2' rfl Ti.g Ti.k Ti.b .nil pass0 (pa_cons (pe_tup (pa_cons pe_int (pa_cons pe_int pa_nil))) (pa_cons (pe_call Mi.ok r2' rfl Mi.g Mi.k Mi.b .nil pass0 (pa_cons (pv 0) (pa_cons (pv 2) pa_nil))) pa_nil))) pa_nil)))))), ?_⟩
    have u2 : [V.int 1, V.int 2] = qV (Rat.divInt 1 2) := by decide +kernel
    have u5 : [V.int 1, V.int 5] = qV (Rat.divInt 1 5) := by decide +kernel
    have zh : Sz 3 (Rat.divInt 1 2) := sz_div (by decide) (by decide) (by decide)
    have zf : Sz 3 (Rat.divInt 1 5) := sz_div (by decide) (by decide) (by decide)
    refine ⟨(by show 2 ≤ sizeLine; decide), fun t1 h1 => ?_⟩
    have s1 := same_upd (o := .tup [.int 1, .int 2]) (Same.refl H) h1
    refine ⟨_, rfl, e, _, _, _, rfl, rfl, SqT.of (s1 _ _ he), rfl, _, rfl, e, _, _, _, rfl, rfl, SqT.of (s1 _ _ he), rfl, _, _, lo, hi, rfl, hu.kp (Kp.of s1), hw.kp (Kp.of s1), z2.le (by decide), z3.le (by decide), trivial, fun G2 p2 s2 n2 h2 => ?_⟩
    have z4 := z2.add z3
    refine ⟨_, _, Rat.divInt 1 2, lo + hi, rfl, ⟨t1, rfl, s2 _ _ (by rw [upd_same, u2])⟩, ⟨p2, rfl, h2⟩, zh.le (by decide), z4.le (by decide), trivial, fun G3 p3 s3 n3 h3 => ?_⟩
    have z5 := zh.mul z4
    have s13 := s1.trans (s2.trans s3)
    refine ⟨_, rfl, (by show 2 ≤ sizeLine; decide), fun t4 h4 => ?_⟩
    have s4 := same_upd (o := .tup [.int 1, .int 5]) (Same.refl G3) h4
    refine ⟨_, rfl, _, rfl, _, _, y, _, rfl, (hv.kp (Kp.of s13)).kp (Kp.of s4), ⟨p3, rfl, s4 _ _ h3⟩, z1.le (by decide), z5.le (by decide), trivial, fun G5 p5 s5 n5 h5 => ?_⟩
    have z6 := z1.sub z5
    refine ⟨_, _, Rat.divInt 1 5, _, rfl, ⟨t4, rfl, s5 _ _ (by rw [upd_same, u5])⟩, ⟨p5, rfl, h5⟩, zf.le (by decide), z6.le (by decide), trivial, fun G6 p6 s6 n6 h6 => ?_⟩
    have z7 := zf.mul z6
    have s46 := s4.trans (s5.trans s6)
    refine ⟨_, _, _, _, rfl, ⟨p3, rfl, s46 _ _ h3⟩, ⟨p6, rfl, h6⟩, z5.le (by decide), z7.le (by decide), trivial, fun G7 p7 s7 n7 h7 => ?_⟩
    exact k G7 p7 (s13.trans (s46.trans s7)) (s13.free (s46.free n7)) h7 ((z5.add z7).le (by decide))
end
end K26
namespace K26
open PySem PySem.Spec PyProof.Rows L2 Ew
section
variable {P : Program} {w : World} {K : PySem.W.Frag} {mg : Str → Option Value} {base : Heap}
/-! ## _law_task -/
structure TxtTk (mg : Str → Option Value) : Prop where
  list : mg "list" = none
  range : mg "range" = none
def spTask : Sp := fun vs H Q _ => ∃ (p q : Addr) (ns : List Int) (i x sd m : Int), vs = [.ref p, .int m] ∧ RngAt H p q ns i x sd ∧ 1 ≤ m ∧ m ≤ 12 ∧
  ∀ (G : Hp) (t r wr l : Addr) (b : Int) (rs ws : List Int) (us : List V) (ps : List Pt) (i' x' sd' : Int), KeepBut p H G → RngAt G p q ns i' x' sd' → H r = none → H wr = none → H l = none → G t = some (.tup [.int b, .ref r, .ref wr, .ref l]) → G r = some (.lst (rs.map V.int)) → G wr = some (.lst (ws.map V.int)) → G l = some (.lst us) → All2 (PAt G) us ps →
    2 ≤ b → b ≤ 4 → Dig b rs → rs.length ≤ 20 → (∀ d ∈ rs, -80 ≤ d ∧ d ≤ 80) → Dig b ws → RedS b ws → ws.length ≤ 20 → (∀ d ∈ ws, -80 ≤ d ∧ d ≤ 80) → AscQ ps → 2 ≤ ps.length → (ps.length : Int) ≤ m + 1 → (ps.getD 0 dpt).1 = endQ (firstI rs) b → (ps.getD (ps.length - 1) dpt).1 = endQ (lastI rs) b → (∀ pt ∈ ps, PSz 80 pt ∧ endQ (firstI ws) b ≤ pt.2 ∧ pt.2 ≤ endQ (lastI ws) b) → Q (.ref t) G
def tkN : List Str := ["_law_rng", "_law_most", "_law_base", "_law_read", "_law_write", "_law_points_here", "_law_digit", "_law_number", "_law_value"]
theorem scTk : FnScope tkN ["_law_rng", "_law_most"] (defScope sLawTask) := ⟨rfl, rfl, rfl, by decide +kernel, rfl, by decide +kernel, by decide +kernel⟩
theorem fl_lt {b : Int} {s : List Int} (h : Dig b s) : firstI s < lastI s := by
  have l2 := h.are.l2
  unfold firstI lastI
  rw [List.getD_eq_getElem?_getD, List.getD_eq_getElem?_getD, List.getElem?_eq_getElem (by omega : 0 < s.length), List.getElem?_eq_getElem (by omega : s.length - 1 < s.length)]
  exact List.pairwise_iff_getElem.mp h.asc 0 (s.length - 1) (by omega) (by omega) (by omega)
theorem dig_ends {b : Int} {s : List Int} (h : Dig b s) (b2 : 2 ≤ b) (b10 : b ≤ 10) : Sz 7 (endQ (firstI s) b) ∧ Sz 7 (endQ (lastI s) b) ∧ Sz 8 (endQ (lastI s) b - endQ (firstI s) b) := by
  have a := h.are
  have lt := fl_lt h
  have l2 := a.l2
  have fb := dig_le h (firstI s) (by unfold firstI; rw [List.getD_eq_getElem?_getD, List.getElem?_eq_getElem (by omega)]; exact List.getElem_mem _)
  have lb := dig_le h (lastI s) (by unfold lastI; rw [List.getD_eq_getElem?_getD, List.getElem?_eq_getElem (by omega)]; exact List.getElem_mem _)
  refine ⟨end_sz b2 b10 fb.1 fb.2, end_sz b2 b10 lb.1 lb.2, ?_⟩
  rw [end_sub b2]
  exact sz_div (by omega) (by omega) (by omega)
theorem runL_red {b front : Int} {n : Nat} (h2 : 2 ≤ b) (hb : b < (n : Int)) : RedS b (runL front n) := fun i hi => by
  rw [runL_len] at hi
  unfold lastI firstI
  rw [runL_len, runL_at hi, runL_at (by omega), runL_at (by omega), runL_at (by omega)]
  have e : front + ((i + 1 : Nat) : Int) - (front + (i : Int)) = 1 := by omega
  rw [e, Int.one_mul]
  omega
theorem scale_red {b : Int} {ds : List Int} (h : Dig b ds) (r : RedS b ds) : RedS b (ds.map (· * 2)) := fun i hi => by
  have a := h.are
  have l0 : 0 < ds.length := by have := a.l2; omega
  rw [List.length_map] at hi
  have g := r i hi
  unfold lastI firstI at g ⊢
  rw [List.length_map, map_getD hi, map_getD (by omega), map_getD (by omega), map_getD l0]
  show (ds.getD (i + 1) 0 * 2 - ds.getD i 0 * 2) * (b - 1) < ds.getD (ds.length - 1) 0 * 2 - ds.getD 0 0 * 2
  have e : (ds.getD (i + 1) 0 * 2 - ds.getD i 0 * 2) * (b - 1) = 2 * ((ds.getD (i + 1) 0 - ds.getD i 0) * (b - 1)) := by
    rw [← Int.sub_mul, Int.mul_right_comm, Int.mul_comm _ 2]
  omega
theorem run_up {f : Int} {n : Nat} : (runL f n).map (fun d => V.int (d + 1)) = (runL (f + 1) n).map V.int := by
  unfold runL
  rw [List.map_map, List.map_map]
  refine List.map_congr_left fun i _ => ?_
  show V.int (f + (i : Int) + 1) = V.int (f + 1 + (i : Int))
  congr 1
  omega
theorem ok_task {f fP fLD fD fPt fEn fSh fNo : Addr} {fd fdP fdLD fdD fdPt fdEn fdSh fdNo : FuncData} (F : Fun K "_law_task" "_law_task" sLawTask f fd) (T : TxtTk mg) (Pk : Def P w K mg base CX0 2 "_law_pick" fP fdP ["_law_rng", "_law_items"] (spPick K)) (LD : Def P w K mg base CX0 3 "_law_digits" fLD fdLD ["_law_rng", "_law_base", "_law_most"] spLDigits) (D : Def P w K mg base CX0 1 "_law_draw" fD fdD ["_law_rng", "_law_many"] spDraw)
    (Po : Def P w K mg base CX0 4 "_law_points" fPt fdPt ["_law_rng", "_law_ends_here", "_law_bounds", "_law_most"] spPts) (En : Def P w K mg base CX0 2 "_law_ends" fEn fdEn ["_law_base", "_law_digits_here"] (spEnds K)) (Sh : Def P w K mg base CX0 3 "_law_shrunk" fSh fdSh ["_law_value", "_law_ends_here"] spShrunk) (No : Def P w K mg base CX0 4 "_law_normal" fNo fdNo ["_law_points_here"] spLNormal) : FnOk P w K mg base CX0 5 f fd ["_law_rng", "_law_most"] spTask := by
  refine F.ok scTk (fun vs H Q E h => ?_) (fun cdv A outer s H vs Q E hr h => ?_)
  · obtain ⟨p, q, ns, i, x, sd, m, rfl, _⟩ := h
    rfl
  · obtain ⟨p, q, ns, i, v, sd, m, rfl, R, m1, m12, k⟩ := h
    have r1' : Room 1 _ := hr.mono (by decide)
    have r2' : Room 2 _ := hr.mono (by decide)
    have r3' : Room 3 _ := hr.mono (by decide)
    have r4' : Room 4 _ := hr.mono (by decide)
    refine ⟨_, (pss_cons (ps_set (i := 2) scTk.nd rfl (Or.inr rfl) (pe_call Pk.ok r2' rfl Pk.g Pk.k Pk.b .nil pass0 (pa_cons (pv 0) (pa_cons (pe_lst (pa_cons pe_int (pa_cons pe_int (pa_cons pe_int (pa_cons pe_int (pa_cons pe_int (pa_cons pe_int pa_nil))))))) pa_nil))))
 (pss_cons (ps_set (i := 3) scTk.nd rfl (Or.inl rfl) (pe_call LD.ok r3' rfl LD.g LD.k LD.b .nil pass0 (pa_cons (pv 0) (pa_cons (pv 2) (pa_cons (pe_op op_add (pv 2) pe_int) pa_nil)))))
 (C8.pss_cut (ps_set (i := 4) scTk.nd rfl (Or.inr rfl) (pe_listRg rfl rfl T.list (prg_2 rfl T.range (pe_op op_sub pe_int (pe_op op_fdiv (pe_op op_add (pv 2) pe_int) pe_int)) (pe_op op_add (pe_op op_add (pe_op op_add (pe_op op_sub pe_int (pe_op op_fdiv (pe_op op_add (pv 2) pe_int) pe_int)) (pv 2)) pe_int) (pe_call D.ok r1' rfl D.g D.k D.b .nil pass0 (pa_cons (pv 0) (pa_cons pe_int pa_nil)))))))
 (C8.pss_cut (ps_if (pt_cmpR op_eq (pe_call D.ok r1' rfl D.g D.k D.b .nil pass0 (pa_cons (pv 0) (pa_cons pe_int pa_nil))) pe_int (nomark _)) (pss_one (ps_set (i := 4) scTk.nd rfl (Or.inr rfl) (pe_lc (own := [("_law_digit", 6)]) (g := (gName 6)) (tt := tYes) rfl scTk.nd (pi_list (pv 4)) (blkOk_by (N := tkN) (sc := defScope sLawTask) (by decide +kernel)) (fun _ _ _ _ _ => by exact (pg_name (i := 6) scTk.nd rfl (Or.inl rfl))) (fun _ _ _ _ _ => pts_nil) (fun _ _ _ _ _ => by exact (pe_op op_add (pv 6) pe_int))))) pss_nil)
 (C8.pss_cut (ps_if (pt_cmpR op_eq (pe_call D.ok r1' rfl D.g D.k D.b .nil pass0 (pa_cons (pv 0) (pa_cons pe_int pa_nil))) pe_int (nomark _)) (pss_one (ps_set (i := 4) scTk.nd rfl (Or.inr rfl) (pe_lc (own := [("_law_digit", 6)]) (g := (gName 6)) (tt := tYes) rfl scTk.nd (pi_list (pv 4)) (blkOk_by (N := tkN) (sc := defScope sLawTask) (by decide +kernel)) (fun _ _ _ _ _ => by exact (pg_name (i := 6) scTk.nd rfl (Or.inl rfl))) (fun _ _ _ _ _ => pts_nil) (fun _ _ _ _ _ => by exact (pe_op op_mul (pv 6) pe_int))))) pss_nil)
 (C8.pss_cut (ps_set (i := 5) scTk.nd rfl (Or.inl rfl) (pe_call Po.ok r4' rfl Po.g Po.k Po.b .nil pass0 (pa_cons (pv 0) (pa_cons (pe_call En.ok r2' rfl En.g En.k En.b .nil pass0 (pa_cons (pv 2) (pa_cons (pv 3) pa_nil))) (pa_cons (pe_call En.ok r2' rfl En.g En.k En.b .nil pass0 (pa_cons (pv 2) (pa_cons (pv 4) pa_nil))) (pa_cons (pv 1) pa_nil))))))
 (C8.pss_cut (ps_if (pt_cmpR op_eq (pe_call D.ok r1' rfl D.g D.k D.b .nil pass0 (pa_cons (pv 0) (pa_cons pe_int pa_nil))) pe_int (nomark _)) (pss_one (ps_setLc (i := 5) (own := [("_law_number", 7), ("_law_value", 8)]) (g := (gTup K 2 (gCons (gName 7) (gCons (gName 8) gNil)))) (tt := tYes) rfl scTk.nd rfl rfl (sw_true rfl rfl rfl (by decide +kernel)) (pi_list (pv 5)) (blkOk_by (N := tkN) (sc := defScope sLawTask) (by decide +kernel)) (fun _ _ _ _ _ => by exact (pg_tup rfl (pgs_cons (pg_name (i := 7) scTk.nd rfl (Or.inl rfl)) (pgs_cons (pg_name (i := 8) scTk.nd rfl (Or.inl rfl)) pgs_nil)))) (fun _ _ _ _ _ => pts_nil) (fun _ _ _ _ _ => by exact (pe_tup (pa_cons (pv 7) (pa_cons (pe_call Sh.ok r3' rfl Sh.g Sh.k Sh.b .nil pass0 (pa_cons (pv 8) (pa_cons (pe_call En.ok r2' rfl En.g En.k En.b .nil pass0 (pa_cons (pv 2) (pa_cons (pv 4) pa_nil))) pa_nil))) pa_nil)))))) pss_nil)
 (pss_one (ps_ret (pe_tup (pa_cons (pv 2) (pa_cons (pv 3) (pa_cons (pv 4) (pa_cons (pe_call No.ok r4' rfl No.g No.k No.b .nil pass0 (pa_cons (pv 5) pa_nil)) pa_nil)))))))))))))), ?_⟩
    have small : ∀ z : Int, 0 ≤ z → z ≤ 1000 → z.natAbs < 2 ^ 8000 := fun z h0 h1 => big_lt (n := 10) (Nat.lt_of_le_of_lt (by omega : z.natAbs ≤ 1000) (by decide)) (by decide)
    have p62 : (2 : Int) ^ 62 = 4611686018427387904 := by decide
    -- the base
    refine ⟨_, rfl, (by show 6 ≤ sizeLine; decide), fun l hl => ?_⟩
    have R1 := R.same (same_upd (o := .lst [.int 2, .int 2, .int 2, .int 3, .int 3, .int 4]) (Same.refl H) hl)
    have K1 : KeepBut p H _ := KeepBut.new (o := .lst [.int 2, .int 2, .int 2, .int 3, .int 3, .int 4]) hl
    refine ⟨p, q, l, ns, i, v, sd, _, rfl, R1, upd_same, R.free hl, (by simp), (by show 6 ≤ 1000; decide), fun x i1 v1 sd1 hx ok1 => ?_⟩
    obtain ⟨b, rfl, b2, b4⟩ : ∃ b : Int, x = .int b ∧ 2 ≤ b ∧ b ≤ 4 := by
      simp only [List.mem_cons, List.not_mem_nil, or_false] at hx
      rcases hx with rfl | rfl | rfl | rfl | rfl | rfl
      · exact ⟨2, rfl, by decide, by decide⟩
      · exact ⟨2, rfl, by decide, by decide⟩
      · exact ⟨2, rfl, by decide, by decide⟩
      · exact ⟨3, rfl, by decide, by decide⟩
      · exact ⟨3, rfl, by decide, by decide⟩
      · exact ⟨4, rfl, by decide, by decide⟩
    have R2 := R1.next ok1
    have K2 : KeepBut p H _ := K1.trans (KeepBut.put (o := .lst (rngL q i1 v1 sd1)))
    generalize upd (upd H l (.lst [.int 2, .int 2, .int 2, .int 3, .int 3, .int 4])) p (.lst (rngL q i1 v1 sd1)) = G2 at R2 K2
    clear K1 R1 hx ok1 hl
    -- what is read
    refine ⟨_, rfl, _, rfl, _, rfl, _, _, rfl, rfl, p, q, ns, i1, v1, sd1, b, b + 2, rfl, R2, b2, by omega, by omega, by omega, fun G3 r rs i3 v3 sd3 K3' R3 nr hr3 dr rl20 rb => ?_⟩
    have K3 := K2.trans K3'
    have nrp : r ≠ p := R2.free nr
    have nrH : H r = none := K2.free nrp nr
    clear K3' R2 K2 nr
    -- what is written
    refine ⟨fun σ G => ∃ (o5 o6 o7 o8 : Option V) (wr : Addr) (fr : Int) (n : Nat) (i' v' sd' : Int), σ = [some (.ref p), some (.int m), some (.int b), some (.ref r), some (.ref wr), o5, o6, o7, o8] ∧ KeepBut p H G ∧ RngAt G p q ns i' v' sd' ∧ G r = some (.lst (rs.map V.int)) ∧ wr ≠ p ∧ H wr = none ∧ G wr = some (.lst ((runL fr n).map V.int)) ∧ -5 ≤ fr ∧ fr ≤ 0 ∧ b < (n : Int) ∧ n ≤ 6, ?_, ?_⟩
    · refine ⟨_, rfl, _, _, rfl, rfl, b + 1, 2, rfl, rfl, ⟨by decide, by decide⟩, _, _, rfl, rfl, _, rfl, _, _, rfl, rfl, b + 1, 2, rfl, rfl, ⟨by decide, by decide⟩, _, _, rfl, rfl, _, rfl, _, _, rfl, rfl, _, _, rfl, rfl, _, rfl, p, q, ns, i3, v3, sd3, 2, rfl, R3, by decide, small _ (by decide) (by decide), fun x4 i4 v4 sd4 x40 x41 ok4 => ?_⟩
      have R4 := R3.next ok4
      have K34 : KeepBut p G3 (upd G3 p (.lst (rngL q i4 v4 sd4))) := KeepBut.put
      have hr4 := K34 _ _ hr3 nrp
      have K4 := K3.trans K34
      generalize upd G3 p (.lst (rngL q i4 v4 sd4)) = G4 at R4 K4 hr4 ⊢
      refine ⟨_, _, rfl, rfl, _, _, rfl, rfl, ⟨by omega, by omega, by omega, by omega, by omega⟩, fun wr hwr => ?_⟩
      have er : rgV (0 - (b + 1) / 2) (0 - (b + 1) / 2 + b + 1 + x4) = (runL (0 - (b + 1) / 2) (b + 1 + x4).toNat).map V.int := by
        unfold rgV runL
        rw [List.map_map, show (0 - (b + 1) / 2 + b + 1 + x4 - (0 - (b + 1) / 2)).toNat = (b + 1 + x4).toNat by omega]
        rfl
      have s5 := same_upd (o := .lst (rgV (0 - (b + 1) / 2) (0 - (b + 1) / 2 + b + 1 + x4))) (Same.refl G4) hwr
      have nwp : wr ≠ p := R4.free hwr
      exact ⟨_, _, _, _, wr, 0 - (b + 1) / 2, (b + 1 + x4).toNat, i4, v4, sd4, rfl, K4.trans (KeepBut.of s5), R4.same s5, s5 _ _ hr4, nwp, K4.free nwp hwr, by rw [upd_same, er], by omega, by omega, by omega, by omega⟩
    clear hr3 R3 K3
    rintro σ G5 ⟨o5, o6, o7, o8, wr, fr, n, i5, v5, sd5, rfl, K5, R5, hr5, nwp, nwH, hw5, f0, f1, n0, n1⟩
    -- perhaps one more
    refine ⟨fun σ G => ∃ (o5 o6 o7 o8 : Option V) (wr : Addr) (fr : Int) (i' v' sd' : Int), σ = [some (.ref p), some (.int m), some (.int b), some (.ref r), some (.ref wr), o5, o6, o7, o8] ∧ KeepBut p H G ∧ RngAt G p q ns i' v' sd' ∧ G r = some (.lst (rs.map V.int)) ∧ wr ≠ p ∧ H wr = none ∧ G wr = some (.lst ((runL fr n).map V.int)) ∧ -5 ≤ fr ∧ fr ≤ 1, ?_, ?_⟩
    · refine ⟨_, rfl, p, q, ns, i5, v5, sd5, 4, rfl, R5, by decide, small _ (by decide) (by decide), fun x6 i6 v6 sd6 x60 x61 ok6 => ⟨rfl, _, rfl, ?_⟩⟩
      have R6 := R5.next ok6
      have K56 : KeepBut p G5 (upd G5 p (.lst (rngL q i6 v6 sd6))) := KeepBut.put
      have hr6 := K56 _ _ hr5 nrp
      have hw6 := K56 _ _ hw5 nwp
      have K6 := K5.trans K56
      generalize upd G5 p (.lst (rngL q i6 v6 sd6)) = G6 at R6 K6 hr6 hw6 ⊢
      by_cases c : x6 = 0
      · subst c
        refine ifT (decide_eq_true rfl) ⟨_, rfl, wr, rfl, ⟨_, SqL.of hw6⟩, fun Dd hDd => ?_⟩
        refine lc_list (K := K) (a := wr) (xs := (runL fr n).map V.int) (fun j G => Same G6 G ∧ G Dd = some (.lst (((runL fr n).take j).map fun d => V.int (d + 1)))) ⟨same_upd (Same.refl _) hDd, upd_same⟩ (fun j G _ q => q.1.seq (SqL.of hw6)) ?_ ?_
        · rintro j y G hy ⟨e1, e2⟩
          have hj : j < (runL fr n).length := by have := (List.getElem?_eq_some_iff.mp hy).1; rwa [List.length_map] at this
          rw [ints_at hj] at hy
          cases hy
          have rl := runL_len fr n
          refine ⟨rfl, tyes ⟨_, rfl, _, _, rfl, rfl, _, e2, by rw [List.length_map, List.length_take, sizeLine_eq]; omega, same_updN e1 hDd, ?_⟩⟩
          rw [upd_same, take_snoc hj, List.map_append]
          rfl
        · rintro G ⟨e1, e2⟩
          rw [List.take_of_length_le (by rw [List.length_map]; exact Nat.le_refl _), run_up] at e2
          have nDp : Dd ≠ p := R6.free hDd
          exact ⟨_, _, _, _, Dd, fr + 1, i6, v6, sd6, rfl, K6.trans (KeepBut.of e1), R6.same e1, e1 _ _ hr6, nDp, K6.free nDp hDd, e2, by omega, by omega⟩
      · refine ifF (eq_int c) ?_
        exact ⟨_, _, _, _, wr, fr, i6, v6, sd6, rfl, K6, R6, hr6, nwp, nwH, hw6, f0, by omega⟩
    clear R5 K5 hr5 hw5 nwp nwH f0 f1
    rintro σ G7 ⟨o5, o6, o7, o8, wr, fr, i7, v7, sd7, rfl, K7, R7, hr7, nwp, nwH, hw7, f0, f1⟩
    have dg7 : Dig b (runL fr n) := runL_dig b2 (by omega) (by omega) (by omega) (by omega)
    have rd7 : RedS b (runL fr n) := runL_red b2 n0
    have mm7 : ∀ d ∈ runL fr n, -40 ≤ d ∧ d ≤ 40 := fun d hd => by have := runL_mem hd; omega
    -- perhaps twice as many
    refine ⟨fun σ G => ∃ (o5 o6 o7 o8 : Option V) (wr : Addr) (ws : List Int) (i' v' sd' : Int), σ = [some (.ref p), some (.int m), some (.int b), some (.ref r), some (.ref wr), o5, o6, o7, o8] ∧ KeepBut p H G ∧ RngAt G p q ns i' v' sd' ∧ G r = some (.lst (rs.map V.int)) ∧ wr ≠ p ∧ H wr = none ∧ G wr = some (.lst (ws.map V.int)) ∧ (Dig b ws ∧ RedS b ws ∧ ws.length ≤ 20) ∧ ∀ d ∈ ws, -80 ≤ d ∧ d ≤ 80, ?_, ?_⟩
    · refine ⟨_, rfl, p, q, ns, i7, v7, sd7, 4, rfl, R7, by decide, small _ (by decide) (by decide), fun x8 i8 v8 sd8 x80 x81 ok8 => ⟨rfl, _, rfl, ?_⟩⟩
      have R8 := R7.next ok8
      have K78 : KeepBut p G7 (upd G7 p (.lst (rngL q i8 v8 sd8))) := KeepBut.put
      have hr8 := K78 _ _ hr7 nrp
      have hw8 := K78 _ _ hw7 nwp
      have K8 := K7.trans K78
      generalize upd G7 p (.lst (rngL q i8 v8 sd8)) = G8 at R8 K8 hr8 hw8 ⊢
      by_cases c : x8 = 0
      · subst c
        refine ifT (decide_eq_true rfl) ⟨_, rfl, wr, rfl, ⟨_, SqL.of hw8⟩, fun Dd hDd => ?_⟩
        refine lc_list (K := K) (a := wr) (xs := (runL fr n).map V.int) (fun j G => Same G8 G ∧ G Dd = some (.lst ((((runL fr n).take j).map (· * 2)).map V.int))) ⟨same_upd (Same.refl _) hDd, upd_same⟩ (fun j G _ q => q.1.seq (SqL.of hw8)) ?_ ?_
        · rintro j y G hy ⟨e1, e2⟩
          have hj : j < (runL fr n).length := by have := (List.getElem?_eq_some_iff.mp hy).1; rwa [List.length_map] at this
          rw [ints_at hj] at hy
          cases hy
          have rl := runL_len fr n
          refine ⟨rfl, tyes ⟨_, rfl, _, _, rfl, rfl, mul_smallR (by decide) (by decide), _, e2, by rw [List.length_map, List.length_map, List.length_take, sizeLine_eq]; omega, same_updN e1 hDd, ?_⟩⟩
          rw [upd_same, take_snoc hj, List.map_append, List.map_append]
          rfl
        · rintro G ⟨e1, e2⟩
          rw [List.take_of_length_le (by rw [List.length_map]; exact Nat.le_refl _)] at e2
          have nDp : Dd ≠ p := R8.free hDd
          exact ⟨_, _, _, _, Dd, (runL fr n).map (· * 2), i8, v8, sd8, rfl, K8.trans (KeepBut.of e1), R8.same e1, e1 _ _ hr8, nDp, K8.free nDp hDd, e2, ⟨scale_dig dg7 (.inr rfl) mm7, scale_red dg7 rd7, by rw [List.length_map, runL_len]; omega⟩, fun d hd => by
            obtain ⟨d', hd', rfl⟩ := List.mem_map.mp hd
            have := mm7 d' hd'
            show -80 ≤ d' * 2 ∧ d' * 2 ≤ 80
            omega⟩
      · refine ifF (eq_int c) ?_
        exact ⟨_, _, _, _, wr, runL fr n, i8, v8, sd8, rfl, K8, R8, hr8, nwp, nwH, hw8, ⟨dg7, rd7, by rw [runL_len]; omega⟩, fun d hd => by have := mm7 d hd; omega⟩
    clear R7 K7 hr7 hw7 nwp nwH dg7 rd7 mm7 f0 f1 n0 n1
    rintro σ G9 ⟨o5, o6, o7, o8, wr, ws, i9, v9, sd9, rfl, K9, R9, hr9, nwp, nwH, hw9, ⟨dw, rdw, lw20⟩, bw⟩
    have er := dig_ends dr b2 (by omega)
    have ew := dig_ends dw b2 (by omega)
    have rl2 := dr.are.l2
    have wl2 := dw.are.l2
    have lr := fl_lt dr
    have lw := fl_lt dw
    -- points
    refine ⟨fun σ G => ∃ (o6 o7 o8 : Option V) (l : Addr) (us : List V) (ps : List Pt) (i' v' sd' : Int), σ = [some (.ref p), some (.int m), some (.int b), some (.ref r), some (.ref wr), some (.ref l), o6, o7, o8] ∧ KeepBut p G9 G ∧ RngAt G p q ns i' v' sd' ∧ l ≠ p ∧ G9 l = none ∧ G l = some (.lst us) ∧ All2 (PAt G) us ps ∧ AscQ ps ∧ 2 ≤ ps.length ∧ (ps.length : Int) ≤ m + 1 ∧ (ps.getD 0 dpt).1 = endQ (firstI rs) b ∧ (ps.getD (ps.length - 1) dpt).1 = endQ (lastI rs) b ∧ (∀ pt ∈ ps, PSz 30 pt ∧ endQ (firstI ws) b ≤ pt.2 ∧ pt.2 ≤ endQ (lastI ws) b), ?_, ?_⟩
    · refine ⟨_, rfl, _, rfl, _, rfl, b, r, rs, rfl, SqL.of hr9, by omega, asc_le_of dr.asc, b2, by omega, fun Ga pe u v sa hpe hu hv => ?_⟩
      refine ⟨_, rfl, _, rfl, b, wr, ws, rfl, SqL.of (sa _ _ hw9), by omega, asc_le_of dw.asc, b2, by omega, fun Gb pf u' v' sb hpf hu' hv' => ?_⟩
      have sab := sa.trans sb
      refine ⟨_, rfl, p, q, pe, pf, _, _, _, _, ns, i9, v9, sd9, m, endQ (firstI rs) b, endQ (lastI rs) b, endQ (firstI ws) b, endQ (lastI ws) b, rfl, R9.same sab, sb _ _ hpe, ⟨u, rfl, by rw [sb _ _ hu, end_fr b2]⟩, ⟨v, rfl, by rw [sb _ _ hv, end_fr b2]⟩, end_lt b2 lr, er.1.le (by decide), er.2.1.le (by decide), er.2.2.le (by decide), hpf, ⟨u', rfl, by rw [hu', end_fr b2]⟩, ⟨v', rfl, by rw [hv', end_fr b2]⟩, end_le b2 (by omega), ew.1.le (by decide), ew.2.1.le (by decide), ew.2.2.le (by decide), m1, by omega, fun Gc l us ps ic vc sdc Kc Rc nl hl al asc h2 hm f1 f2 hb => ?_⟩
      have nlp : l ≠ p := (R9.same sab).free nl
      exact ⟨_, _, _, l, us, ps, ic, vc, sdc, rfl, (KeepBut.of sab).trans Kc, Rc, nlp, sab.free nl, hl, al, asc, h2, hm, f1, f2, hb⟩
    rintro σ G10 ⟨o6, o7, o8, l, us, ps, i10, v10, sd10, rfl, K10, R10, nlp, nl, hl, al, asc, h2, hm, g1, g2, hb⟩
    have hr10 := K10 _ _ hr9 nrp
    have hw10 := K10 _ _ hw9 nwp
    have nlH : H l = none := K9.free nlp nl
    have K10' := K9.trans K10
    clear K10 K9 R9 hr9 hw9
    have wl := al.len
    -- perhaps nearer to the middle
    refine ⟨fun σ G => ∃ (o6 o7 o8 : Option V) (l : Addr) (us : List V) (ps : List Pt) (i' v' sd' : Int), σ = [some (.ref p), some (.int m), some (.int b), some (.ref r), some (.ref wr), some (.ref l), o6, o7, o8] ∧ KeepBut p H G ∧ RngAt G p q ns i' v' sd' ∧ G r = some (.lst (rs.map V.int)) ∧ G wr = some (.lst (ws.map V.int)) ∧ G l = some (.lst us) ∧ All2 (PAt G) us ps ∧ AscQ ps ∧ 2 ≤ ps.length ∧ (ps.length : Int) ≤ m + 1 ∧ (ps.getD 0 dpt).1 = endQ (firstI rs) b ∧ (ps.getD (ps.length - 1) dpt).1 = endQ (lastI rs) b ∧ (∀ pt ∈ ps, PSz 80 pt ∧ endQ (firstI ws) b ≤ pt.2 ∧ pt.2 ≤ endQ (lastI ws) b), ?_, ?_⟩
    · refine ⟨_, rfl, p, q, ns, i10, v10, sd10, 3, rfl, R10, by decide, small _ (by decide) (by decide), fun x8 i8 v8 sd8 x80 x81 ok8 => ⟨rfl, _, rfl, ?_⟩⟩
      have R8 := R10.next ok8
      have K78 : KeepBut p G10 (upd G10 p (.lst (rngL q i8 v8 sd8))) := KeepBut.put
      have hr8 := K78 _ _ hr10 nrp
      have hw8 := K78 _ _ hw10 nwp
      have hl8 := K78 _ _ hl nlp
      have al8 := pts_kp (Kp.but R10.at_p K78) al
      have K8 := K10'.trans K78
      generalize upd G10 p (.lst (rngL q i8 v8 sd8)) = G8 at R8 K8 hr8 hw8 hl8 al8 ⊢
      by_cases c : x8 = 0
      · subst c
        refine ifT (decide_eq_true rfl) ⟨_, rfl, l, rfl, ⟨_, SqL.of hl8⟩, fun Dd hDd => ?_⟩
        refine lc_list (K := K) (a := l) (xs := us) (fun j G => Same G8 G ∧ ∃ us', G Dd = some (.lst us') ∧ All2 (PAt G) us' ((ps.take j).map fun pt => (pt.1, shrQ (endQ (firstI ws) b) (endQ (lastI ws) b) pt.2)) ∧ ∀ pt ∈ ps.take j, Sz 80 (shrQ (endQ (firstI ws) b) (endQ (lastI ws) b) pt.2)) ⟨same_upd (Same.refl _) hDd, [], upd_same, All2.nil, fun pt hp => nomatch hp⟩ (fun j G _ q => q.1.seq (SqL.of hl8)) ?_ ?_
        · rintro j y G hy ⟨e1, us', e2, e3, e4⟩
          have hj : j < ps.length := by rw [← wl]; exact (List.getElem?_eq_some_iff.mp hy).1
          have kG := Kp.of e1
          have zp := (hb _ (getD_memP hj)).1
          obtain ⟨c, cx, cy, rfl, hc, hcx, hcy⟩ := al8.at_ j y _ hy (gpt hj)
          have ul := e3.len
          rw [List.length_map, List.length_take] at ul
          refine ⟨c, _, rfl, SqT.of (kG.t hc), rfl, _, _, rfl, _, _, rfl, rfl, rfl, tyes ⟨_, rfl, _, rfl, _, rfl, _, rfl, b, wr, ws, rfl, SqL.of (e1 _ _ hw8), by omega, asc_le_of dw.asc, b2, by omega, fun Gb pf u' v' sb hpf hu' hv' => ?_⟩⟩
          refine ⟨_, pf, _, _, _, endQ (firstI ws) b, endQ (lastI ws) b, rfl, (hcy.kp kG).kp (Kp.of sb), hpf, ⟨u', rfl, by rw [hu', end_fr b2]⟩, ⟨v', rfl, by rw [hv', end_fr b2]⟩, zp.y, ew.1.le (by decide), ew.2.1.le (by decide), fun Gc p3 sc n3 h3 z3 => ⟨(by show 2 ≤ sizeLine; decide), fun t5 h5 => ?_⟩⟩
          have s5 := same_upd (o := .tup [cx, .ref p3]) (Same.refl Gc) h5
          have s14 := sb.trans sc
          have s15 := s14.trans s5
          have d5 := s15 _ _ e2
          have nt : t5 ≠ Dd := fun z => by rw [z, s14 _ _ e2] at h5; cases h5
          have kp := Kp.put (o := .lst (us' ++ [.ref t5])) d5
          refine ⟨us', d5, by rw [sizeLine_eq]; omega, same_updN (e1.trans s15) hDd, us' ++ [.ref t5], upd_same, ?_, ?_⟩
          · rw [List.take_add_one, gpt hj, List.map_append]
            exact (pts_kp ((Kp.of s15).trans kp) e3).snoc ⟨t5, cx, .ref p3, rfl, by rw [upd_ne nt, upd_same], (hcx.kp kG).kp ((Kp.of s15).trans kp), ⟨p3, rfl, kp.t (s5 _ _ h3)⟩⟩
          · intro pt hp
            rw [List.take_add_one, gpt hj] at hp
            rcases List.mem_append.mp hp with z | z
            · exact e4 pt z
            · rw [List.mem_singleton.mp z]
              exact z3
        · rintro G ⟨e1, us', e2, e3, e4⟩
          rw [wl, List.take_length] at e3 e4
          have at1 : ∀ i, i < ps.length → ((ps.map fun pt => (pt.1, shrQ (endQ (firstI ws) b) (endQ (lastI ws) b) pt.2)).getD i dpt).1 = (ps.getD i dpt).1 := fun i hi => by
            rw [List.getD_eq_getElem?_getD, List.getElem?_map, gpt hi]
            rfl
          refine ⟨_, _, _, Dd, us', _, i8, v8, sd8, rfl, K8.trans (KeepBut.of e1), R8.same e1, e1 _ _ hr8, e1 _ _ hw8, e2, e3, ?_, by rw [List.length_map]; exact h2, by rw [List.length_map]; exact hm, by rw [at1 _ (by omega)]; exact g1, by rw [List.length_map, at1 _ (by omega)]; exact g2, fun pt hp => ?_⟩
          · unfold AscQ
            rw [List.pairwise_map]
            exact asc
          · obtain ⟨p', hp', rfl⟩ := List.mem_map.mp hp
            have z := hb p' hp'
            have sb := shr_bd z.2.1 z.2.2
            exact ⟨⟨z.1.x.le (by decide), e4 p' hp'⟩, sb.1, sb.2⟩
      · refine ifF (eq_int c) ?_
        exact ⟨_, _, _, l, us, ps, i8, v8, sd8, rfl, K8, R8, hr8, hw8, hl8, al8, asc, h2, hm, g1, g2, fun pt hp => ⟨(hb pt hp).1.le (by decide), (hb pt hp).2⟩⟩
    clear R10 K10' hr10 hw10 nlp nl hl al asc h2 hm g1 g2 hb nlH wl
    rintro σ G11 ⟨o6, o7, o8, l, us, ps, i11, v11, sd11, rfl, K11, R11, hr11, hw11, hl11, al, asc, h2, hm, g1, g2, hb⟩
    have nn := normQ_len_le ps
    refine ⟨_, rfl, _, rfl, _, rfl, _, rfl, l, us, ps, rfl, hl11, al, fun pt hp => (hb pt hp).1.le (by decide), h2, by omega, asc, fun G12 t us12 s12 nt ht hus => ⟨(by show 4 ≤ sizeLine; decide), fun tk htk => ?_⟩⟩
    have s13 := same_upd (o := .tup [.int b, .ref r, .ref wr, .ref t]) (Same.refl G12) htk
    have sA := s12.trans s13
    have ntp : t ≠ p := R11.free nt
    refine k _ tk r wr t b rs ws us12 (normQ ps) i11 v11 sd11 (K11.trans (KeepBut.of sA)) (R11.same sA) nrH nwH (K11.free ntp nt) upd_same (sA _ _ hr11) (sA _ _ hw11) (s13 _ _ ht) (pts_kp (Kp.of sA) hus) b2 b4 dr rl20 rb dw rdw lw20 bw (normQ_asc asc) (normQ_len h2) (by omega) ?_ ?_ fun pt hp => hb pt ((normQ_sub ps).subset hp)
    · rw [normQ_first h2]; exact g1
    · rw [normQ_last h2]; exact g2
end
end K26
namespace K26
open PySem PySem.Spec PyProof.Rows L2 Ew
section
variable {P : Program} {w : World} {K : PySem.W.Frag} {mg : Str → Option Value} {base : Heap}
theorem scInitInc : FnScope ["self"] ["self"] (defScope sIncompatible_init) := ⟨rfl, rfl, rfl, by decide +kernel, rfl, by decide +kernel, by decide +kernel⟩
theorem ok_initInc {f C fI : Addr} {fd : FuncData} (F : Fun K "__init__" "Incompatible.__init__" sIncompatible_init f fd) (T : ErrT K mg "Incompatible" C fI) : FnOk P w K mg base CX0 1 f fd ["self"] (spInitTag K C "Incompatible") := by
  refine F.ok scInitInc (fun vs H Q E h => ?_) (fun cdv A outer s H vs Q E hr h => ?_)
  · obtain ⟨a, rfl, _⟩ := h
    rfl
  · obtain ⟨a, rfl, ha, k⟩ := h
    exact ⟨_, pss_one (ps_ost (pv 0) pe_str), _, rfl, a, C, rfl, T.oex, T.nT, .inl ⟨ha, k⟩⟩
/-! ## is_defined_on -/
def spDefOn (K : PySem.W.Frag) (CL CD : Addr) : Sp := fun vs H Q _ => ∃ (v : V) (x dx td : Addr) (b : Int) (s : List Int) (ps : List Pt), vs = [v, .ref x] ∧ LfAt CL H v ps ∧ DsAt K CD H x dx td b s ∧ 1 ≤ ps.length ∧ ∀ G, Same H G → Q (.bl (decide ((ps.getD 0 dpt).1 = endQ (firstI s) b) && decide ((ps.getD (ps.length - 1) dpt).1 = endQ (lastI s) b))) G
theorem scDo : FnScope ["function", "read"] ["function", "read"] (defScope sIsDefinedOn) := ⟨rfl, rfl, rfl, by decide +kernel, rfl, by decide +kernel, by decide +kernel⟩
theorem ok_defOn {f CL CD fLo fHi fDLo fDHi : Addr} {fd fdLo fdHi fdDLo fdDHi : FuncData} (F : Fun K "is_defined_on" "is_defined_on" sIsDefinedOn f fd) (mLo : MDef P w K mg base CX0 1 CL "low" fLo fdLo ["self"] (spLfEnd CL fun ps => (ps.getD 0 dpt).1)) (mHi : MDef P w K mg base CX0 1 CL "high" fHi fdHi ["self"] (spLfEnd CL fun ps => (ps.getD (ps.length - 1) dpt).1)) (mDLo : MDef P w K mg base CX0 4 CD "low" fDLo fdDLo ["self"] (spEnd CD K firstI)) (mDHi : MDef P w K mg base CX0 4 CD "high" fDHi fdDHi ["self"] (spEnd CD K lastI)) : FnOk P w K mg base CX0 5 f fd ["function", "read"] (spDefOn K CL CD) := by
  refine F.ok scDo (fun vs H Q E h => ?_) (fun cdv A outer s H vs Q E hr h => ?_)
  · obtain ⟨v, x, dx, td, b, s, ps, rfl, _⟩ := h
    rfl
  · obtain ⟨_, x, dx, td, b, s, ps, rfl, hL, ds, h1, k⟩ := h
    have hL' := hL
    obtain ⟨o, dxo, t, ws, rfl, ho, ht, hall⟩ := hL
    have r1' : Room 1 _ := hr.mono (by decide)
    have r4' : Room 4 _ := hr.mono (by decide)
    refine ⟨_, (pss_one (ps_ret (pe_and (pe_cmpR (op_eqD hr.units) (pe_meth0 (pv 0) mLo.cl mLo.h mLo.ok r1' mLo.b .nil pass0) (pe_meth0 (pv 1) mDLo.cl mDLo.h mDLo.ok r4' mDLo.b .nil pass0) (nomark _)) (pe_one (pe_cmpR (op_eqD hr.units) (pe_meth0 (pv 0) mHi.cl mHi.h mHi.ok r1' mHi.b .nil pass0) (pe_meth0 (pv 1) mDHi.cl mDHi.h mDHi.ok r4' mDHi.b .nil pass0) (nomark _)))))), ?_⟩
    have l2 := ds.are.l2
    refine ⟨_, rfl, o, dxo, _, rfl, ho, lfF_no (by decide +kernel), _, ps, rfl, hL', by omega, fun ul hul => ⟨_, rfl, x, dx, _, rfl, ds.x, dsF_no (by decide +kernel) (by decide +kernel), x, dx, td, b, s, rfl, ds.x, ds.t, by omega, ds.b2, ds.b10, fun p1 h1' => ?_⟩⟩
    have s1 := same_upd (o := .tup [.int (frN (firstI s) (b - 1)), .int (frD (firstI s) (b - 1))]) (Same.refl H) h1'
    obtain ⟨ua, rfl, hua⟩ := hul
    refine ⟨_, _, dpQ (s1 _ _ hua), dpQ (r := endQ (firstI s) b) (by rw [upd_same, end_fr ds.b2]), shapedTup _, shapedTup _, _, rfl, ?_⟩
    rw [qeqv]
    have ds1 := ds.same s1
    have hL1 := hL'.kp (Kp.of s1)
    by_cases c : (ps.getD 0 dpt).1 = endQ (firstI s) b
    · rw [decide_eq_true c] at k ⊢
      refine iteT ⟨_, rfl, o, dxo, _, rfl, s1 _ _ ho, lfF_no (by decide +kernel), _, ps, rfl, hL1, by omega, fun uh huh => ⟨_, rfl, x, dx, _, rfl, ds1.x, dsF_no (by decide +kernel) (by decide +kernel), x, dx, td, b, s, rfl, ds1.x, ds1.t, by omega, ds.b2, ds.b10, fun p2 h2' => ?_⟩⟩
      have s2 := same_upd (o := .tup [.int (frN (lastI s) (b - 1)), .int (frD (lastI s) (b - 1))]) (Same.refl _) h2'
      obtain ⟨ub, rfl, hub⟩ := huh
      refine ⟨_, _, dpQ (s2 _ _ hub), dpQ (r := endQ (lastI s) b) (by rw [upd_same, end_fr ds.b2]), shapedTup _, shapedTup _, ?_⟩
      rw [qeqv]
      exact k _ (s1.trans s2)
    · rw [decide_eq_false c] at k ⊢
      exact iteF (k _ s1)
end
end K26
namespace K26
open PySem PySem.Spec PyProof.Rows L2 Ew
section
variable {P : Program} {w : World} {K : PySem.W.Frag} {mg : Str → Option Value} {base : Heap}
structure TxtPw (mg : Str → Option Value) : Prop where
  tuple : mg "tuple" = none
  all : mg "all" = none
/-! ## are_safe, is_safe -/
def spAreSafe (K : PySem.W.Frag) (CD : Addr) : Sp := fun vs H Q _ => ∃ (t x dx td : Addr) (b : Int) (s : List Int) (ws : List V) (ps : List Pt), vs = [.ref t, .ref x] ∧ H t = some (.tup ws) ∧ All2 (PAt H) ws ps ∧ DsAt K CD H x dx td b s ∧ (∀ p ∈ ps, PSz 600 p) ∧ ps.length ≤ 100 ∧
  ∀ G : Hp, Same H G → Q (.bl (safeB (endQ (firstI s) b) (endQ (lastI s) b) ps)) G
def asfN : List Str := ["points", "write", "low", "high", "x", "y"]
theorem scAsf : FnScope asfN ["points", "write"] (defScope sAreSafe) := ⟨rfl, rfl, rfl, by decide +kernel, rfl, by decide +kernel, by decide +kernel⟩
theorem ok_asf {f CD fLo fHi fWi : Addr} {fd fdLo fdHi fdWi : FuncData} (F : Fun K "are_safe" "are_safe" sAreSafe f fd) (T : TxtPw mg) (mLo : MDef P w K mg base CX0 4 CD "low" fLo fdLo ["self"] (spEnd CD K firstI)) (mHi : MDef P w K mg base CX0 4 CD "high" fHi fdHi ["self"] (spEnd CD K lastI)) (Wi : Def P w K mg base CX0 2 "is_within" fWi fdWi ["number", "low", "high"] spRwithin) : FnOk P w K mg base CX0 5 f fd ["points", "write"] (spAreSafe K CD) := by
  refine F.ok scAsf (fun vs H Q E h => ?_) (fun cdv A outer s H vs Q E hr h => ?_)
  · obtain ⟨t, x, dx, td, b, s, ws, ps, rfl, _⟩ := h
    rfl
  · obtain ⟨t, x, dx, td, b, s, ws, ps, rfl, ht, hall, ds, hz, hl, k⟩ := h
    have r2' : Room 2 _ := hr.mono (by decide)
    have r4' : Room 4 _ := hr.mono (by decide)
    refine ⟨_, (pss_cons (ps_asg (pe_tup (pa_cons (pe_meth0 (pv 1) mLo.cl mLo.h mLo.ok r4' mLo.b .nil pass0) (pa_cons (pe_meth0 (pv 1) mHi.cl mHi.h mHi.ok r4' mHi.b .nil pass0) pa_nil))) (pg_tup rfl (pgs_cons (pg_name (i := 2) scAsf.nd rfl (Or.inr rfl)) (pgs_cons (pg_name (i := 3) scAsf.nd rfl (Or.inr rfl)) pgs_nil))))
 (pss_one (ps_ret (pe_callB (cr_all rfl) (by rfl) T.all (by decide +kernel) (pa_cons (pe_lc (own := [("x", 4), ("y", 5)]) (g := (gTup K 2 (gCons (gName 4) (gCons (gName 5) gNil)))) (tt := tYes) rfl scAsf.nd (pi_tup (pv 0)) (blkOk_by (N := asfN) (sc := defScope sAreSafe) (by decide +kernel)) (fun _ _ _ _ _ => by exact (pg_tup rfl (pgs_cons (pg_name (i := 4) scAsf.nd rfl (Or.inl rfl)) (pgs_cons (pg_name (i := 5) scAsf.nd rfl (Or.inl rfl)) pgs_nil)))) (fun _ _ _ _ _ => pts_nil) (fun _ _ _ _ _ => by exact (pe_call Wi.ok r2' rfl Wi.g Wi.k Wi.b .nil pass0 (pa_cons (pv 5) (pa_cons (pv 2) (pa_cons (pv 3) pa_nil)))))) pa_nil))))), ?_⟩
    have wl := hall.len
    have l2 := ds.are.l2
    have fb := asc_bdd ds.are ds.asc (firstI s) (by unfold firstI; rw [List.getD_eq_getElem?_getD, List.getElem?_eq_getElem (by omega)]; exact List.getElem_mem _)
    have lb := asc_bdd ds.are ds.asc (lastI s) (by unfold lastI; rw [List.getD_eq_getElem?_getD, List.getElem?_eq_getElem (by omega)]; exact List.getElem_mem _)
    have zf := end_sz ds.b2 ds.b10 fb.1 fb.2
    have ze := end_sz ds.b2 ds.b10 lb.1 lb.2
    refine ⟨_, rfl, x, dx, _, rfl, ds.x, dsF_no (by decide +kernel) (by decide +kernel), x, dx, td, b, s, rfl, ds.x, ds.t, by omega, ds.b2, ds.b10, fun p1 h1 => ?_⟩
    have s1 := same_upd (o := .tup [.int (frN (firstI s) (b - 1)), .int (frD (firstI s) (b - 1))]) (Same.refl H) h1
    have ds1 := ds.same s1
    refine ⟨_, rfl, x, dx, _, rfl, ds1.x, dsF_no (by decide +kernel) (by decide +kernel), x, dx, td, b, s, rfl, ds1.x, ds1.t, by omega, ds.b2, ds.b10, fun p2 h2 => ?_⟩
    have s2 := same_upd (o := .tup [.int (frN (lastI s) (b - 1)), .int (frD (lastI s) (b - 1))]) (Same.refl _) h2
    refine ⟨(by show 2 ≤ sizeLine; decide), fun tt htt => ⟨tt, _, rfl, SqT.of upd_same, rfl, _, _, rfl, _, _, rfl, rfl, ?_⟩⟩
    have s3 := same_upd (o := .tup [.ref p1, .ref p2]) (Same.refl _) htt
    have s12 := s1.trans (s2.trans s3)
    have q1 : QAt (upd (upd (upd H p1 (.tup [.int (frN (firstI s) (b - 1)), .int (frD (firstI s) (b - 1))])) p2 (.tup [.int (frN (lastI s) (b - 1)), .int (frD (lastI s) (b - 1))])) tt (.tup [.ref p1, .ref p2])) (.ref p1) (endQ (firstI s) b) := ⟨p1, rfl, s3 _ _ (s2 _ _ (by rw [upd_same, end_fr ds.b2]))⟩
    have q2 : QAt (upd (upd (upd H p1 (.tup [.int (frN (firstI s) (b - 1)), .int (frD (firstI s) (b - 1))])) p2 (.tup [.int (frN (lastI s) (b - 1)), .int (frD (lastI s) (b - 1))])) tt (.tup [.ref p1, .ref p2])) (.ref p2) (endQ (lastI s) b) := ⟨p2, rfl, s3 _ _ (by rw [upd_same, end_fr ds.b2])⟩
    generalize upd (upd (upd H p1 (.tup [.int (frN (firstI s) (b - 1)), .int (frD (firstI s) (b - 1))])) p2 (.tup [.int (frN (lastI s) (b - 1)), .int (frD (lastI s) (b - 1))])) tt (.tup [.ref p1, .ref p2]) = G0 at s12 q1 q2 ⊢
    generalize endQ (firstI s) b = lo at *
    generalize endQ (lastI s) b = hi at *
    have ht0 := s12 _ _ ht
    have al0 := pts_kp (Kp.of s12) hall
    refine ⟨_, rfl, t, rfl, ⟨_, SqT.of ht0⟩, fun D hD => ?_⟩
    refine lc_tup (K := K) (a := t) (xs := ws) (fun j G => Same G0 G ∧ G D = some (.lst (((ps.take j).map fun p => !decide (p.2 < lo) && !decide (hi < p.2)).map V.bl))) ⟨same_upd (Same.refl _) hD, upd_same⟩ (fun j G _ q => SqT.of (q.1 _ _ ht0)) ?_ ?_
    · rintro j y G hy ⟨e1, e2⟩
      have hj : j < ps.length := by rw [← wl]; exact (List.getElem?_eq_some_iff.mp hy).1
      have kG := Kp.of e1
      have zp := hz _ (getD_memP hj)
      have tk : ((ps.take (j + 1)).map fun p => !decide (p.2 < lo) && !decide (hi < p.2)).map V.bl = ((ps.take j).map fun p => !decide (p.2 < lo) && !decide (hi < p.2)).map V.bl ++ [V.bl (!decide ((ps.getD j dpt).2 < lo) && !decide (hi < (ps.getD j dpt).2))] := by
        rw [List.take_add_one, gpt hj, List.map_append, List.map_append]
        rfl
      obtain ⟨c, cx, cy, rfl, hc, hcx, hcy⟩ := al0.at_ j y _ hy (gpt hj)
      refine ⟨c, _, rfl, SqT.of (kG.t hc), rfl, _, _, rfl, _, _, rfl, rfl, rfl, tyes ⟨_, rfl, _, rfl, _, rfl, _, _, _, _, lo, hi, rfl, hcy.kp kG, q1.kp kG, q2.kp kG, zp.y.le (by decide), zf.le (by decide), ze.le (by decide), ?_⟩⟩
      refine ⟨_, e2, by rw [List.length_map, List.length_map, List.length_take, sizeLine_eq]; omega, same_updN e1 hD, ?_⟩
      rw [upd_same, tk]
    · rintro G ⟨e1, e2⟩
      rw [wl, List.take_length] at e2
      refine ⟨D, _, rfl, SqL.of e2, ?_⟩
      have z := k G (s12.trans e1)
      unfold safeB at z
      rw [List.all_map]
      exact z
def spIsSafe (K : PySem.W.Frag) (CL CD : Addr) : Sp := fun vs H Q _ => ∃ (v : V) (x dx td : Addr) (b : Int) (s : List Int) (ps : List Pt), vs = [v, .ref x] ∧ LfAt CL H v ps ∧ DsAt K CD H x dx td b s ∧ (∀ p ∈ ps, PSz 600 p) ∧ ps.length ≤ 100 ∧
  ∀ G : Hp, Same H G → Q (.bl (safeB (endQ (firstI s) b) (endQ (lastI s) b) ps)) G
theorem scIsf : FnScope ["function", "write"] ["function", "write"] (defScope sIsSafe) := ⟨rfl, rfl, rfl, by decide +kernel, rfl, by decide +kernel, by decide +kernel⟩
theorem ok_isf {f CL CD fAs : Addr} {fd fdAs : FuncData} (F : Fun K "is_safe" "is_safe" sIsSafe f fd) (T : TxtLF K mg CL) (Asf : Def P w K mg base CX0 5 "are_safe" fAs fdAs ["points", "write"] (spAreSafe K CD)) : FnOk P w K mg base CX0 6 f fd ["function", "write"] (spIsSafe K CL CD) := by
  refine F.ok scIsf (fun vs H Q E h => ?_) (fun cdv A outer s H vs Q E hr h => ?_)
  · obtain ⟨v, x, dx, td, b, s, ps, rfl, _⟩ := h
    rfl
  · obtain ⟨_, x, dx, td, b, s, ps, rfl, ⟨o, dxo, t, ws, rfl, ho, ht, hall⟩, ds, hz, hl, k⟩ := h
    have r5' : Room 5 _ := hr.mono (by decide)
    refine ⟨_, (pss_one (ps_ret (pe_call Asf.ok r5' rfl Asf.g Asf.k Asf.b .nil pass0 (pa_cons (pe_fld (pv 0) rfl) (pa_cons (pv 1) pa_nil))))), ?_⟩
    exact ⟨_, rfl, o, CL, dxo, _, _, rfl, ho, T.cl, T.nC, lfF_corners t, _, rfl, t, x, dx, td, b, s, ws, ps, rfl, ht, hall, ds, hz, hl, k⟩
end
end K26
namespace K26
open PySem PySem.Spec PyProof.Rows L2 Ew
section
variable {P : Program} {w : World} {K : PySem.W.Frag} {mg : Str → Option Value} {base : Heap}
theorem scInitRed : FnScope ["self"] ["self"] (defScope sNotRedundant_init) := ⟨rfl, rfl, rfl, by decide +kernel, rfl, by decide +kernel, by decide +kernel⟩
theorem ok_initRed {f C fI : Addr} {fd : FuncData} (F : Fun K "__init__" "NotRedundant.__init__" sNotRedundant_init f fd) (T : ErrT K mg "NotRedundant" C fI) : FnOk P w K mg base CX0 1 f fd ["self"] (spInitTag K C "NotRedundant") := by
  refine F.ok scInitRed (fun vs H Q E h => ?_) (fun cdv A outer s H vs Q E hr h => ?_)
  · obtain ⟨a, rfl, _⟩ := h
    rfl
  · obtain ⟨a, rfl, ha, k⟩ := h
    exact ⟨_, pss_one (ps_ost (pv 0) pe_str), _, rfl, a, C, rfl, T.oex, T.nT, .inl ⟨ha, k⟩⟩
theorem scInitDly : FnScope ["self"] ["self"] (defScope sInvalidDelay_init) := ⟨rfl, rfl, rfl, by decide +kernel, rfl, by decide +kernel, by decide +kernel⟩
theorem ok_initDly {f C fI : Addr} {fd : FuncData} (F : Fun K "__init__" "InvalidDelay.__init__" sInvalidDelay_init f fd) (T : ErrT K mg "InvalidDelay" C fI) : FnOk P w K mg base CX0 1 f fd ["self"] (spInitTag K C "InvalidDelay") := by
  refine F.ok scInitDly (fun vs H Q E h => ?_) (fun cdv A outer s H vs Q E hr h => ?_)
  · obtain ⟨a, rfl, _⟩ := h
    rfl
  · obtain ⟨a, rfl, ha, k⟩ := h
    exact ⟨_, pss_one (ps_ost (pv 0) pe_str), _, rfl, a, C, rfl, T.oex, T.nT, .inl ⟨ha, k⟩⟩
/-! ## check_task, check_delay -/
def OnI (ps : List Pt) (b : Int) (s : List Int) : Prop := (ps.getD 0 dpt).1 = endQ (firstI s) b ∧ (ps.getD (ps.length - 1) dpt).1 = endQ (lastI s) b
/-- a task as it stands in the heap -/
structure TaskAt (K : PySem.W.Frag) (CL CD : Addr) (H : Hp) (v : V) (x y : Addr) (b b2 : Int) (s s2 : List Int) (ps : List Pt) : Prop where
  lf : LfAt CL H v ps
  rd : ∃ dx tx, DsAt K CD H x dx tx b s
  wr : ∃ dy ty, DsAt K CD H y dy ty b2 s2
  l1 : 1 ≤ ps.length
  l100 : ps.length ≤ 100
  psz : ∀ p ∈ ps, PSz 600 p
theorem LfAt.sm {CL : Addr} {H G : Hp} {v : V} {ps : List Pt} (h : LfAt CL H v ps) (e : Same H G) : LfAt CL G v ps := by
  obtain ⟨x, dx, t, ws, rfl, hx, ht, hall⟩ := h
  exact ⟨x, dx, t, ws, rfl, e _ _ hx, e _ _ ht, pts_kp (Kp.of e) hall⟩
theorem TaskAt.same {CL CD : Addr} {H G : Hp} {v : V} {x y : Addr} {b b2 : Int} {s s2 : List Int} {ps : List Pt} (h : TaskAt K CL CD H v x y b b2 s s2 ps) (e : Same H G) : TaskAt K CL CD G v x y b b2 s s2 ps := by
  obtain ⟨dx, tx, r⟩ := h.rd
  obtain ⟨dy, ty, q⟩ := h.wr
  exact ⟨h.lf.sm e, ⟨dx, tx, r.same e⟩, ⟨dy, ty, q.same e⟩, h.l1, h.l100, h.psz⟩
def TOk (b b2 : Int) (s s2 : List Int) (ps : List Pt) : Prop := b = b2 ∧ OnI ps b s ∧ safeB (endQ (firstI s2) b2) (endQ (lastI s2) b2) ps = true ∧ RedS b2 s2
/-- the error of a task: its tag and its class -/
def TErr (CN CO CT : Addr) (b b2 : Int) (s s2 : List Int) (ps : List Pt) (tag : Str) (C : Addr) : Prop :=
  (tag = "Incompatible" ∧ C = CN ∧ (b ≠ b2 ∨ ¬ OnI ps b s)) ∨
  (tag = "OutOfRange" ∧ C = CO ∧ b = b2 ∧ OnI ps b s ∧ safeB (endQ (firstI s2) b2) (endQ (lastI s2) b2) ps = false) ∨
  (tag = "NotRedundant" ∧ C = CT ∧ b = b2 ∧ OnI ps b s ∧ safeB (endQ (firstI s2) b2) (endQ (lastI s2) b2) ps = true ∧ ¬ RedS b2 s2)
def Raised (E : XK) (H : Hp) (tag : Str) (C : Addr) : Prop := ∀ G e, Same H G → G e = none → E (.ref C) (some e) (upd G e (.xd [("tag", .str tag)]))
theorem Raised.same {E : XK} {H G : Hp} {tag : Str} {C : Addr} (h : Raised E H tag C) (s : Same H G) : Raised E G tag C := fun G2 e s2 he => h G2 e (s.trans s2) he
def spCheckTask (K : PySem.W.Frag) (CL CD CN CO CT : Addr) : Sp := fun vs H Q E => ∃ (v : V) (x y : Addr) (b b2 : Int) (s s2 : List Int) (ps : List Pt), vs = [v, .ref x, .ref y] ∧ TaskAt K CL CD H v x y b b2 s s2 ps ∧
  ((∃ tag C, TErr CN CO CT b b2 s s2 ps tag C ∧ Raised E H tag C) ∨ (TOk b b2 s s2 ps ∧ ∀ G, Same H G → Q .non G))
theorem scCt : FnScope ["function", "read", "write"] ["function", "read", "write"] (defScope sCheckTask) := ⟨rfl, rfl, rfl, by decide +kernel, rfl, by decide +kernel, by decide +kernel⟩
theorem ok_checkTask {f fDo fIf fRd CL CD CN CO CT CB CI fIB fID fA fIN fIO fIT : Addr} {fd fdDo fdIf fdRd fdN fdO fdT : FuncData} (F : Fun K "check_task" "check_task" sCheckTask f fd) (TS : TxtDS K mg CD CB CI fIB fID fA)
    (Do : Def P w K mg base CX0 5 "is_defined_on" fDo fdDo ["function", "read"] (spDefOn K CL CD)) (If : Def P w K mg base CX0 6 "is_safe" fIf fdIf ["function", "write"] (spIsSafe K CL CD)) (mRd : MDef P w K mg base CX0 2 CD "is_redundant" fRd fdRd ["self"] (spRed CD K))
    (eN : ErrT K mg "Incompatible" CN fIN) (FN : FnOk P w K mg base CX0 1 fIN fdN ["self"] (spInitTag K CN "Incompatible")) (bN : Binds K fdN ["self"] []) (eO : ErrT K mg "OutOfRange" CO fIO) (FO : FnOk P w K mg base CX0 1 fIO fdO ["self"] (spInitTag K CO "OutOfRange")) (bO : Binds K fdO ["self"] [])
    (eT : ErrT K mg "NotRedundant" CT fIT) (FT : FnOk P w K mg base CX0 1 fIT fdT ["self"] (spInitTag K CT "NotRedundant")) (bT : Binds K fdT ["self"] []) :
    FnOk P w K mg base (L2.CX P w) 7 f fd ["function", "read", "write"] (spCheckTask K CL CD CN CO CT) := by
  refine F.okX scCt (fun vs H Q E h => ?_) (fun cdv A outer s H vs Q E hr h => ?_)
  · obtain ⟨v, x, y, b, b2, s, s2, ps, rfl, _⟩ := h
    rfl
  · obtain ⟨v, x, y, b, b2, s1, s2, ps, rfl, T, k⟩ := h
    have r2' : Room 2 _ := hr.mono (by decide)
    have r5' : Room 5 _ := hr.mono (by decide)
    have r6' : Room 6 _ := hr
    refine ⟨_, (pss_cons (ps_if (PW.pt (pw_or (pt_cmpR op_ne (pe_fld (pv 1) rfl) (pe_fld (pv 2) rfl) (nomark _)) (pw_or1 (pt_not (pt_val (pe_call Do.ok r5' rfl Do.g Do.k Do.b .nil pass0 (pa_cons (pv 0) (pa_cons (pv 1) pa_nil)))))))) (pss_one (ps_raise rfl (takes_of rfl rfl rfl rfl) (pmk0 eN.oex eN.iC eN.tI FN (hr.mono (by decide)) bN pass0 rfl eN.gC))) pss_nil)
 (pss_cons (ps_if (pt_not (pt_val (pe_call If.ok r6' rfl If.g If.k If.b .nil pass0 (pa_cons (pv 0) (pa_cons (pv 2) pa_nil))))) (pss_one (ps_raise rfl (takes_of rfl rfl rfl rfl) (pmk0 eO.oex eO.iC eO.tI FO (hr.mono (by decide)) bO pass0 rfl eO.gC))) pss_nil)
 (pss_one (ps_if (pt_not (pt_val (pe_meth0 (pv 2) mRd.cl mRd.h mRd.ok r2' mRd.b .nil pass0))) (pss_one (ps_raise rfl (takes_of rfl rfl rfl rfl) (pmk0 eT.oex eT.iC eT.tI FT (hr.mono (by decide)) bT pass0 rfl eT.gC))) pss_nil)))), ?_⟩
    obtain ⟨dx, tx, r⟩ := T.rd
    obtain ⟨dy, ty, q⟩ := T.wr
    have l2 := q.are.l2
    refine ⟨_, rfl, x, CD, dx, _, _, rfl, r.x, TS.cl, TS.nB, dsF_base b tx, _, rfl, y, CD, dy, _, _, rfl, q.x, TS.cl, TS.nB, dsF_base b2 ty, rfl, ?_⟩
    by_cases cb : b = b2
    · subst cb
      refine ⟨_, rfl, ifF (by simp) ?_⟩
      refine ⟨_, rfl, _, rfl, v, x, dx, tx, b, s1, ps, rfl, T.lf, r, T.l1, fun G1 e1 => ⟨_, rfl, ?_⟩⟩
      have T1 := T.same e1
      have q1 := q.same e1
      by_cases c : OnI ps b s1
      · have cc : (decide ((ps.getD 0 dpt).1 = endQ (firstI s1) b) && decide ((ps.getD (ps.length - 1) dpt).1 = endQ (lastI s1) b)) = true := by rw [decide_eq_true c.1, decide_eq_true c.2]; rfl
        rw [cc]
        refine iteF ?_
        refine ⟨_, rfl, _, rfl, v, y, dy, ty, b, s2, ps, rfl, T1.lf, q1, T.psz, T.l100, fun G2 e2 => ⟨_, rfl, ?_⟩⟩
        have q2 := q1.same e2
        have e02 := e1.trans e2
        cases cs : safeB (endQ (firstI s2) b) (endQ (lastI s2) b) ps with
        | true =>
          refine iteF ?_
          refine ⟨_, rfl, y, dy, _, rfl, q2.x, dsF_no (by decide +kernel) (by decide +kernel), y, dy, ty, b, s2, rfl, q2.x, q2.t, l2, (by have := q.are.l24; omega), q.b2, q.b10, fun G3 e3 => ⟨_, rfl, ?_⟩⟩
          have e03 := e02.trans e3
          by_cases cr : RedS b s2
          · rw [redB_t cr]
            refine iteF ?_
            rcases k with ⟨tag, C, hE, k⟩ | ⟨_, k⟩
            · rcases hE with ⟨_, _, z | z⟩ | ⟨_, _, _, _, z⟩ | ⟨_, _, _, _, _, z⟩
              · exact absurd rfl z
              · exact absurd c z
              · rw [cs] at z; cases z
              · exact absurd cr z
            · exact k _ e03
          · rw [redB_f cr]
            refine iteT ?_
            rcases k with ⟨tag, C, hE, k⟩ | ⟨z, _⟩
            · rcases hE with ⟨_, _, z | z⟩ | ⟨_, _, _, _, z⟩ | ⟨rfl, rfl, _⟩
              · exact absurd rfl z
              · exact absurd c z
              · rw [cs] at z; cases z
              · exact raise_one (σ := []) fun d hd => k _ d e03 hd
            · exact absurd z.2.2.2 cr
        | false =>
          refine iteT ?_
          rcases k with ⟨tag, C, hE, k⟩ | ⟨z, _⟩
          · rcases hE with ⟨_, _, z | z⟩ | ⟨rfl, rfl, _⟩ | ⟨_, _, _, _, z, _⟩
            · exact absurd rfl z
            · exact absurd c z
            · exact raise_one (σ := []) fun d hd => k _ d e02 hd
            · rw [cs] at z; cases z
          · rw [z.2.2.1] at cs; cases cs
      · have cc : (decide ((ps.getD 0 dpt).1 = endQ (firstI s1) b) && decide ((ps.getD (ps.length - 1) dpt).1 = endQ (lastI s1) b)) = false := by
          by_cases c1 : (ps.getD 0 dpt).1 = endQ (firstI s1) b
          · rw [decide_eq_true c1, decide_eq_false (fun z => c ⟨c1, z⟩)]; rfl
          · rw [decide_eq_false c1]; rfl
        rw [cc]
        refine iteT ?_
        rcases k with ⟨tag, C, hE, k⟩ | ⟨z, _⟩
        · rcases hE with ⟨rfl, rfl, _⟩ | ⟨_, _, _, z, _⟩ | ⟨_, _, _, z, _⟩
          · exact raise_one (σ := []) fun d hd => k _ d e1 hd
          · exact absurd z c
          · exact absurd z c
        · exact absurd z.2.1 c
    · refine ⟨_, rfl, ifT (by simp [cb]) ?_⟩
      rcases k with ⟨tag, C, hE, k⟩ | ⟨z, _⟩
      · rcases hE with ⟨rfl, rfl, _⟩ | ⟨_, _, z, _⟩ | ⟨_, _, z, _⟩
        · exact raise_one (σ := []) fun d hd => k _ d (Same.refl _) hd
        · exact absurd z cb
        · exact absurd z cb
      · exact absurd z.1 cb
def spCheckDelay (CY : Addr) : Sp := fun vs H Q E => ∃ d : Int, vs = [.int d] ∧ ((-6 ≤ d ∧ d ≤ 9) → Q .non H) ∧ (¬ (-6 ≤ d ∧ d ≤ 9) → Raised E H "InvalidDelay" CY)
theorem scCd : FnScope ["delay"] ["delay"] (defScope sCheckDelay) := ⟨rfl, rfl, rfl, by decide +kernel, rfl, by decide +kernel, by decide +kernel⟩
structure TxtCd (mg : Str → Option Value) : Prop where
  g1 : ∃ t, mg "MIN_DELAY" = some (.int (-6) t)
  g2 : ∃ t, mg "MAX_DELAY" = some (.int 9 t)
theorem ok_checkDelay {f CY fIY : Addr} {fd fdY : FuncData} (F : Fun K "check_delay" "check_delay" sCheckDelay f fd) (T : TxtCd mg) (eY : ErrT K mg "InvalidDelay" CY fIY) (FY : FnOk P w K mg base CX0 1 fIY fdY ["self"] (spInitTag K CY "InvalidDelay")) (bY : Binds K fdY ["self"] []) : FnOk P w K mg base (L2.CX P w) 3 f fd ["delay"] (spCheckDelay CY) := by
  obtain ⟨t1, g1⟩ := T.g1
  obtain ⟨t2, g2⟩ := T.g2
  refine F.okX scCd (fun vs H Q E h => ?_) (fun cdv A outer s H vs Q E hr h => ?_)
  · obtain ⟨d, rfl, _⟩ := h
    rfl
  · obtain ⟨d, rfl, k1, k2⟩ := h
    refine ⟨_, pss_one (ps_if (pt_not (pt_chain op_le op_le (pe_glob (v := .int (-6)) rfl g1 ⟨_, rfl⟩) (pv 0) (pe_glob (v := .int 9) rfl g2 ⟨_, rfl⟩))) (pss_one (ps_raise rfl (takes_of rfl rfl rfl rfl) (pmk0 eY.oex eY.iC eY.tI FY (hr.mono (by decide)) bY pass0 rfl eY.gC))) pss_nil), ?_⟩
    refine ⟨_, rfl, _, _, rfl, rfl, _, rfl, ?_⟩
    by_cases c1 : -6 ≤ d
    · refine ifT (decide_eq_true c1) ⟨_, _, rfl, rfl, _, rfl, ?_⟩
      by_cases c2 : d ≤ 9
      · refine ifF (by show (!decide (d ≤ 9)) = false; rw [decide_eq_true c2]; rfl) (k1 ⟨c1, c2⟩)
      · refine ifT (by show (!decide (d ≤ 9)) = true; rw [decide_eq_false c2]; rfl) (raise_one (σ := []) fun e he => k2 (fun z => c2 z.2) _ e (Same.refl _) he)
    · refine ifF (decide_eq_false c1) ⟨_, rfl, ifT rfl (raise_one (σ := []) fun e he => k2 (fun z => c1 z.1) _ e (Same.refl _) he)⟩
end
end K26
namespace K26
open PySem PySem.Spec PyProof.Rows L2 Ew
section
variable {P : Program} {w : World} {K : PySem.W.Frag} {mg : Str → Option Value} {base : Heap}
/-! ## the five functions, where they raise -/
theorem pss_false {X : Cx} {sts : List Stmt} : PSs X sts (fun _ _ _ => False) := ⟨fun _ _ _ _ _ _ h => h.elim⟩
/-- the error of a task and a delay -/
def AllErr (CN CO CT CY : Addr) (b b2 : Int) (s s2 : List Int) (ps : List Pt) (bad : Prop) (tag : Str) (C : Addr) : Prop := TErr CN CO CT b b2 s s2 ps tag C ∨ (tag = "InvalidDelay" ∧ C = CY ∧ TOk b b2 s s2 ps ∧ bad)
structure CkAt (P : Program) (w : World) (K : PySem.W.Frag) (mg : Str → Option Value) (base : Heap) (CL CD CN CO CT CY fCk fCy fIY : Addr) (fdCk fdCy fdIY : FuncData) : Prop where
  Ck : Def P w K mg base (L2.CX P w) 7 "check_task" fCk fdCk ["function", "read", "write"] (spCheckTask K CL CD CN CO CT)
  Cy : Def P w K mg base (L2.CX P w) 3 "check_delay" fCy fdCy ["delay"] (spCheckDelay CY)
  eY : ErrT K mg "InvalidDelay" CY fIY
  FY : FnOk P w K mg base CX0 1 fIY fdIY ["self"] (spInitTag K CY "InvalidDelay")
  bY : Binds K fdIY ["self"] []
def DlyBad (d : Int) : Prop := ¬ (-6 ≤ d ∧ d ≤ 9)
def spCnt (K : PySem.W.Frag) (CL CD CN CO CT CY : Addr) : Sp := fun vs H Q E => ∃ (v u : V) (x y : Addr) (b b2 d : Int) (s s2 : List Int) (ps : List Pt), vs = [v, .ref x, .ref y, .int d, u] ∧ TaskAt K CL CD H v x y b b2 s s2 ps ∧ ∃ tag C, AllErr CN CO CT CY b b2 s s2 ps (DlyBad d) tag C ∧ Raised E H tag C
theorem scCs : FnScope ["function", "read", "write", "delay", "limit", "states", "demands"] ["function", "read", "write", "delay", "limit"] (defScope sCountStates) := ⟨rfl, rfl, rfl, by decide +kernel, rfl, by decide +kernel, by decide +kernel⟩
theorem ok_count {f CL CD CN CO CT CY fCk fCy fIY : Addr} {fd fdCk fdCy fdIY : FuncData} (F : Fun K "count_states" "count_states" sCountStates f fd) (T : CkAt P w K mg base CL CD CN CO CT CY fCk fCy fIY fdCk fdCy fdIY) : FnOk P w K mg base (L2.CX P w) 8 f fd ["function", "read", "write", "delay", "limit"] (spCnt K CL CD CN CO CT CY) := by
  refine F.okX scCs (fun vs H Q E h => ?_) (fun cdv A outer s H vs Q E hr h => ?_)
  · obtain ⟨v, u, x, y, b, b2, d, s, s2, ps, rfl, _⟩ := h
    rfl
  · obtain ⟨v, u, x, y, b, b2, d, s1, s2, ps, rfl, T0, tag, C, hE, k⟩ := h
    have r3' : Room 3 _ := hr.mono (by decide)
    have r7' : Room 7 _ := hr
    refine ⟨_, pss_cons (ps_expr (pe_call T.Ck.ok r7' rfl T.Ck.g T.Ck.k T.Ck.b .nil (passes_call (takes_of rfl rfl rfl rfl) (fun _ _ _ _ h => h)) (pa_cons (pv 0) (pa_cons (pv 1) (pa_cons (pv 2) pa_nil))))) (pss_cons (ps_expr (pe_call T.Cy.ok r3' rfl T.Cy.g T.Cy.k T.Cy.b .nil (passes_call (takes_of rfl rfl rfl rfl) (fun _ _ _ _ h => h)) (pa_cons (pv 3) pa_nil))) pss_false), ?_⟩
    refine ⟨_, rfl, _, rfl, _, rfl, v, x, y, b, b2, s1, s2, ps, rfl, T0, ?_⟩
    rcases hE with hE | ⟨e1, e2, ok, bad⟩
    · exact .inl ⟨tag, C, hE, k⟩
    · subst e1
      rw [e2] at k
      exact .inr ⟨ok, fun G1 e1 => ⟨_, rfl, d, rfl, fun z => absurd z bad, fun _ => k.same e1⟩⟩
theorem scDd : FnScope ["function", "read", "write", "delay", "limit"] ["function", "read", "write", "delay", "limit"] (defScope sDecide) := ⟨rfl, rfl, rfl, by decide +kernel, rfl, by decide +kernel, by decide +kernel⟩
theorem ok_decide {f CL CD CN CO CT CY fCk fCy fIY : Addr} {fd fdCk fdCy fdIY : FuncData} (F : Fun K "decide" "decide" sDecide f fd) (T : CkAt P w K mg base CL CD CN CO CT CY fCk fCy fIY fdCk fdCy fdIY) : FnOk P w K mg base (L2.CX P w) 8 f fd ["function", "read", "write", "delay", "limit"] (spCnt K CL CD CN CO CT CY) := by
  refine F.okX scDd (fun vs H Q E h => ?_) (fun cdv A outer s H vs Q E hr h => ?_)
  · obtain ⟨v, u, x, y, b, b2, d, s, s2, ps, rfl, _⟩ := h
    rfl
  · obtain ⟨v, u, x, y, b, b2, d, s1, s2, ps, rfl, T0, tag, C, hE, k⟩ := h
    have r3' : Room 3 _ := hr.mono (by decide)
    have r7' : Room 7 _ := hr
    refine ⟨_, pss_cons (ps_expr (pe_call T.Ck.ok r7' rfl T.Ck.g T.Ck.k T.Ck.b .nil (passes_call (takes_of rfl rfl rfl rfl) (fun _ _ _ _ h => h)) (pa_cons (pv 0) (pa_cons (pv 1) (pa_cons (pv 2) pa_nil))))) (pss_cons (ps_expr (pe_call T.Cy.ok r3' rfl T.Cy.g T.Cy.k T.Cy.b .nil (passes_call (takes_of rfl rfl rfl rfl) (fun _ _ _ _ h => h)) (pa_cons (pv 3) pa_nil))) pss_false), ?_⟩
    refine ⟨_, rfl, _, rfl, _, rfl, v, x, y, b, b2, s1, s2, ps, rfl, T0, ?_⟩
    rcases hE with hE | ⟨e1, e2, ok, bad⟩
    · exact .inl ⟨tag, C, hE, k⟩
    · subst e1
      rw [e2] at k
      exact .inr ⟨ok, fun G1 e1 => ⟨_, rfl, d, rfl, fun z => absurd z bad, fun _ => k.same e1⟩⟩
theorem scCta : FnScope ["function", "read", "write", "delay", "table", "states"] ["function", "read", "write", "delay", "table"] (defScope sCheckTable) := ⟨rfl, rfl, rfl, by decide +kernel, rfl, by decide +kernel, by decide +kernel⟩
theorem ok_checkTable {f CL CD CN CO CT CY fCk fCy fIY : Addr} {fd fdCk fdCy fdIY : FuncData} (F : Fun K "check_table" "check_table" sCheckTable f fd) (T : CkAt P w K mg base CL CD CN CO CT CY fCk fCy fIY fdCk fdCy fdIY) : FnOk P w K mg base (L2.CX P w) 8 f fd ["function", "read", "write", "delay", "table"] (spCnt K CL CD CN CO CT CY) := by
  refine F.okX scCta (fun vs H Q E h => ?_) (fun cdv A outer s H vs Q E hr h => ?_)
  · obtain ⟨v, u, x, y, b, b2, d, s, s2, ps, rfl, _⟩ := h
    rfl
  · obtain ⟨v, u, x, y, b, b2, d, s1, s2, ps, rfl, T0, tag, C, hE, k⟩ := h
    have r3' : Room 3 _ := hr.mono (by decide)
    have r7' : Room 7 _ := hr
    refine ⟨_, pss_cons (ps_expr (pe_call T.Ck.ok r7' rfl T.Ck.g T.Ck.k T.Ck.b .nil (passes_call (takes_of rfl rfl rfl rfl) (fun _ _ _ _ h => h)) (pa_cons (pv 0) (pa_cons (pv 1) (pa_cons (pv 2) pa_nil))))) (pss_cons (ps_expr (pe_call T.Cy.ok r3' rfl T.Cy.g T.Cy.k T.Cy.b .nil (passes_call (takes_of rfl rfl rfl rfl) (fun _ _ _ _ h => h)) (pa_cons (pv 3) pa_nil))) pss_false), ?_⟩
    refine ⟨_, rfl, _, rfl, _, rfl, v, x, y, b, b2, s1, s2, ps, rfl, T0, ?_⟩
    rcases hE with hE | ⟨e1, e2, ok, bad⟩
    · exact .inl ⟨tag, C, hE, k⟩
    · subst e1
      rw [e2] at k
      exact .inr ⟨ok, fun G1 e1 => ⟨_, rfl, d, rfl, fun z => absurd z bad, fun _ => k.same e1⟩⟩
theorem scCre : FnScope ["function", "read", "write", "delay", "refutation", "states"] ["function", "read", "write", "delay", "refutation"] (defScope sCheckRefutation) := ⟨rfl, rfl, rfl, by decide +kernel, rfl, by decide +kernel, by decide +kernel⟩
theorem ok_checkRef {f CL CD CN CO CT CY fCk fCy fIY : Addr} {fd fdCk fdCy fdIY : FuncData} (F : Fun K "check_refutation" "check_refutation" sCheckRefutation f fd) (T : CkAt P w K mg base CL CD CN CO CT CY fCk fCy fIY fdCk fdCy fdIY) : FnOk P w K mg base (L2.CX P w) 8 f fd ["function", "read", "write", "delay", "refutation"] (spCnt K CL CD CN CO CT CY) := by
  refine F.okX scCre (fun vs H Q E h => ?_) (fun cdv A outer s H vs Q E hr h => ?_)
  · obtain ⟨v, u, x, y, b, b2, d, s, s2, ps, rfl, _⟩ := h
    rfl
  · obtain ⟨v, u, x, y, b, b2, d, s1, s2, ps, rfl, T0, tag, C, hE, k⟩ := h
    have r3' : Room 3 _ := hr.mono (by decide)
    have r7' : Room 7 _ := hr
    refine ⟨_, pss_cons (ps_expr (pe_call T.Ck.ok r7' rfl T.Ck.g T.Ck.k T.Ck.b .nil (passes_call (takes_of rfl rfl rfl rfl) (fun _ _ _ _ h => h)) (pa_cons (pv 0) (pa_cons (pv 1) (pa_cons (pv 2) pa_nil))))) (pss_cons (ps_expr (pe_call T.Cy.ok r3' rfl T.Cy.g T.Cy.k T.Cy.b .nil (passes_call (takes_of rfl rfl rfl rfl) (fun _ _ _ _ h => h)) (pa_cons (pv 3) pa_nil))) pss_false), ?_⟩
    refine ⟨_, rfl, _, rfl, _, rfl, v, x, y, b, b2, s1, s2, ps, rfl, T0, ?_⟩
    rcases hE with hE | ⟨e1, e2, ok, bad⟩
    · exact .inl ⟨tag, C, hE, k⟩
    · subst e1
      rw [e2] at k
      exact .inr ⟨ok, fun G1 e1 => ⟨_, rfl, d, rfl, fun z => absurd z bad, fun _ => k.same e1⟩⟩
def LeastBad (d e : Int) : Prop := ¬ (-6 ≤ d ∧ d ≤ e ∧ e ≤ 9)
def spLeastE (K : PySem.W.Frag) (CL CD CN CO CT CY : Addr) : Sp := fun vs H Q E => ∃ (v u : V) (x y : Addr) (b b2 d e : Int) (s s2 : List Int) (ps : List Pt), vs = [v, .ref x, .ref y, .int d, .int e, u] ∧ TaskAt K CL CD H v x y b b2 s s2 ps ∧ ∃ tag C, AllErr CN CO CT CY b b2 s s2 ps (LeastBad d e) tag C ∧ Raised E H tag C
def leN : List Str := ["function", "read", "write", "first", "last", "limit", "refutation", "delay", "answer", "shown"]
theorem scLe : FnScope leN ["function", "read", "write", "first", "last", "limit"] (defScope sLeastDelay) := ⟨rfl, rfl, rfl, by decide +kernel, rfl, by decide +kernel, by decide +kernel⟩
theorem ok_least {f CL CD CN CO CT CY fCk fCy fIY : Addr} {fd fdCk fdCy fdIY : FuncData} (F : Fun K "least_delay" "least_delay" sLeastDelay f fd) (Tc : TxtCd mg) (T : CkAt P w K mg base CL CD CN CO CT CY fCk fCy fIY fdCk fdCy fdIY) : FnOk P w K mg base (L2.CX P w) 8 f fd ["function", "read", "write", "first", "last", "limit"] (spLeastE K CL CD CN CO CT CY) := by
  obtain ⟨t1, g1⟩ := Tc.g1
  obtain ⟨t2, g2⟩ := Tc.g2
  have eY := T.eY
  have FY := T.FY
  have bY := T.bY
  refine F.okX scLe (fun vs H Q E h => ?_) (fun cdv A outer s H vs Q E hr h => ?_)
  · obtain ⟨v, u, x, y, b, b2, d, e, s, s2, ps, rfl, _⟩ := h
    rfl
  · obtain ⟨v, u, x, y, b, b2, d, e, s1, s2, ps, rfl, T0, tag, C, hE, k⟩ := h
    have r7' : Room 7 _ := hr
    refine ⟨_, pss_cons (ps_expr (pe_call T.Ck.ok r7' rfl T.Ck.g T.Ck.k T.Ck.b .nil (passes_call (takes_of rfl rfl rfl rfl) (fun _ _ _ _ h => h)) (pa_cons (pv 0) (pa_cons (pv 1) (pa_cons (pv 2) pa_nil))))) (pss_cons (ps_if (pt_not (pt_chain3 op_le op_le op_le (pe_glob (v := .int (-6)) rfl g1 ⟨_, rfl⟩) (pv 3) (pv 4) (pe_glob (v := .int 9) rfl g2 ⟨_, rfl⟩))) (pss_one (ps_raise rfl (takes_of rfl rfl rfl rfl) (pmk0 eY.oex eY.iC eY.tI FY (hr.mono (by decide)) bY pass0 rfl eY.gC))) pss_nil) pss_false), ?_⟩
    refine ⟨_, rfl, _, rfl, _, rfl, v, x, y, b, b2, s1, s2, ps, rfl, T0, ?_⟩
    rcases hE with hE | ⟨e1, e2, ok, bad⟩
    · exact .inl ⟨tag, C, hE, k⟩
    · subst e1
      refine .inr ⟨ok, fun G1 e1 => ?_⟩
      rw [e2] at k
      have fin : ∀ {σ : L2.St}, tMk0 CY (spInitTag K CY "InvalidDelay") σ G1 fun cls d H' => E cls d H' := fun {σ} => raise_one (σ := σ) fun z hz => k _ z e1 hz
      refine ⟨_, rfl, _, _, rfl, rfl, _, rfl, ?_⟩
      by_cases c1 : -6 ≤ d
      · refine ifT (decide_eq_true c1) ⟨_, rfl, _, _, rfl, rfl, _, rfl, ?_⟩
        by_cases c2 : d ≤ e
        · refine ifT (decide_eq_true c2) ⟨_, _, rfl, rfl, _, rfl, ?_⟩
          exact ifT (by show (!decide (e ≤ 9)) = true; rw [decide_eq_false fun z => bad ⟨c1, c2, z⟩]; rfl) fin
        · exact ifF (decide_eq_false c2) ⟨_, rfl, ifT rfl fin⟩
      · exact ifF (decide_eq_false c1) ⟨_, rfl, ifT rfl fin⟩
end
end K26
namespace K26
open PySem PySem.Spec PyProof.Rows L2 Ew
section
variable {P : Program} {w : World} {K : PySem.W.Frag} {mg : Str → Option Value} {base : Heap}
/-! ## _law_tags -/
theorem SqT.extN {G G' : Hp} {a : Addr} {xs : List V} (h : SqT K G a xs) (e : LamX.ExtN G G') : SqT K G' a xs := by
  rcases h with (h | ⟨o, h⟩) | h
  · exact .inl (.inl (e _ _ h (fun _ z => nomatch z)))
  · exact .inl (.inr ⟨o, e _ _ h (fun _ z => nomatch z)⟩)
  · exact .inr h
theorem TaskAt.extN {CL CD : Addr} {H G : Hp} {v : V} {x y : Addr} {b b2 : Int} {s s2 : List Int} {ps : List Pt} (h : TaskAt K CL CD H v x y b b2 s s2 ps) (e : LamX.ExtN H G) : TaskAt K CL CD G v x y b b2 s s2 ps := by
  obtain ⟨dx, tx, r⟩ := h.rd
  obtain ⟨dy, ty, q⟩ := h.wr
  obtain ⟨o, dxo, t, ws, h1, h2, h3, h4⟩ := h.lf
  exact ⟨⟨o, dxo, t, ws, h1, e _ _ h2 (fun _ z => nomatch z), e _ _ h3 (fun _ z => nomatch z), pts_tp (fun c xs hc => e c _ hc (fun _ z => nomatch z)) h4⟩, ⟨dx, tx, e _ _ r.x (fun _ z => nomatch z), SqT.extN r.t e, r.are, r.asc, r.b2, r.b10⟩, ⟨dy, ty, e _ _ q.x (fun _ z => nomatch z), SqT.extN q.t e, q.are, q.asc, q.b2, q.b10⟩, h.l1, h.l100, h.psz⟩
theorem AllErr.imp {CN CO CT CY : Addr} {b b2 : Int} {s s2 : List Int} {ps : List Pt} {p q : Prop} {tag : Str} {C : Addr} (h : AllErr CN CO CT CY b b2 s s2 ps p tag C) (i : p → q) : AllErr CN CO CT CY b b2 s s2 ps q tag C := by
  rcases h with h | ⟨h1, h2, h3, h4⟩
  · exact .inl h
  · exact .inr ⟨h1, h2, h3, i h4⟩
theorem DlyBad.least {d : Int} (h : DlyBad d) : LeastBad d d := fun z => h ⟨z.1, z.2.2⟩
structure ErrGood (K : PySem.W.Frag) (C1 C2 C3 : Addr) (tag : Str) (C : Addr) : Prop where
  ex : PySem.W.exmAny K (.ref C) [.ref C1, .ref C2, .ref C3] = some true
  xf : XfC K C
  nT : PySem.W.findIn K (.ref C) "tag" = some none
  no : NoneTag tag
/-- a def that may raise, with values for parameters that are left out -/
structure DefK2 (P : Program) (w : World) (K : PySem.W.Frag) (mg : Str → Option Value) (base : Heap) (k : Nat) (x : Str) (f : Addr) (fd : FuncData) (ps : List Str) (sp : Sp) (ds : List Value) : Prop where
  ok : FnOk P w K mg base (L2.CX P w) k f fd ps sp
  g : mg x = some (.ref f)
  k : PySem.W.keepIn K (.ref f) = true
  b : Binds K fd ps ds
/-- nothing but a table stood there -/
def Off (Gc : Hp) (l : Addr) : Prop := ∀ c o, Gc c = some o → (∀ ps, o ≠ .tbl ps) → c ≠ l
def tgQ : Str := ("_law_tags" : Str) ++ ".<locals>." ++ "<lambda>"
def lamQ : Str := ("law" : Str) ++ ".<locals>." ++ "<lambda>"
abbrev TT2 (PP PP2 : Addr) : List (Addr × Str) := [(PP, lamQ), (PP2, tgQ)]
theorem tt2_uniq {PP PP2 : Addr} (n : PP2 ≠ PP) : ∀ p ∈ TT2 PP PP2, p.1 = PP → p.2 = lamQ := fun p hp e => by
  rcases List.mem_cons.mp hp with h | h
  · rw [h]
  · rw [List.mem_singleton.mp h] at e
    exact absurd e n
theorem tt2_uniq2 {PP PP2 : Addr} (n : PP2 ≠ PP) : ∀ p ∈ TT2 PP PP2, p.1 = PP2 → p.2 = tgQ := fun p hp e => by
  rcases List.mem_cons.mp hp with h | h
  · rw [h] at e
    exact absurd e.symm n
  · rw [List.mem_singleton.mp h]
def tgN : List Str := ["_law_function", "_law_read", "_law_write", "_law_delay", "_law_tags_here"]
theorem scTg : FnScope tgN ["_law_function", "_law_read", "_law_write", "_law_delay"] (defScope sLawTags) := ⟨rfl, rfl, rfl, by decide +kernel, rfl, by decide +kernel, by decide +kernel⟩
theorem scTag : FnScope ["_law_ask"] ["_law_ask"] (defScope sLawTag) := ⟨rfl, rfl, rfl, by decide +kernel, rfl, by decide +kernel, by decide +kernel⟩
def spTags (K : PySem.W.Frag) (CL CD CN CO CT CY PPL PP : Addr) : Sp := fun vs H Q _ => ∃ (v : V) (x y : Addr) (b b2 d : Int) (s s2 : List Int) (ps : List Pt), vs = [v, .ref x, .ref y, .int d] ∧ TaskAt K CL CD H v x y b b2 s s2 ps ∧ LamX.Tabs (TT2 PPL PP) H ∧ ∃ tag C, AllErr CN CO CT CY b b2 s s2 ps (DlyBad d) tag C ∧
  ∀ G p, LamX.ExtN H G → LamX.Tabs (TT2 PPL PP) G → Off H p → G p = some (.lst [.str tag, .str tag, .str tag, .str tag, .str tag]) → Q (.ref p) G
theorem ok_tags {P : Program} {w : World} {K : PySem.W.Frag} {mg : Str → Option Value} {base : Heap} {f c PPL PP : Addr} {oc kV doc pm ct : Value} {od an : Option Addr} {osl : Array (Option Value)} {fO fF fT CL CD CN CO CT CY C1 C2 C3 fCs fDd fCt fCr fLd : Addr} {fdO fdF fdT fdCs fdDd fdCt fdCr fdLd : FuncData} {dsCs dsDd : List Value} {gL : List Value → List Value → List Value}
    (lk : K.lookup f = some ⟨oc, od, .func (PySem.W.fnOf "_law_tags" "_law_tags" (defArgs sLawTags) (defBody sLawTags) (defScope sLawTags) .none kV doc pm an (.ref c) ct), osl⟩) (hcd : PySem.W.codeIn K (.ref c) "_law_tags" = true) (TB : LamX.TabB base mg c PP) (nP : PP ≠ PPL)
    (FO : Fun K "_law_outcome" "_law_outcome" sOutcome fO fdO) (gO : mg "_law_outcome" = some (.ref fO)) (bO : Binds K fdO ["_law_ask"] []) (TO : TxtO K mg C1 C2 C3 fF fdF) (FT : Fun K "_law_tag" "_law_tag" sLawTag fT fdT) (gT : mg "_law_tag" = some (.ref fT)) (bT : Binds K fdT ["_law_ask"] [])
    (Cs : DefK2 P w K mg base 8 "count_states" fCs fdCs ["function", "read", "write", "delay", "limit"] (spCnt K CL CD CN CO CT CY) dsCs) (rCs : Vals [V.int 400] dsCs) (Dd : DefK2 P w K mg base 8 "decide" fDd fdDd ["function", "read", "write", "delay", "limit"] (spCnt K CL CD CN CO CT CY) dsDd) (rDd : Vals [V.int 400] dsDd)
    (Ct : Def P w K mg base (L2.CX P w) 8 "check_table" fCt fdCt ["function", "read", "write", "delay", "table"] (spCnt K CL CD CN CO CT CY)) (Cr : Def P w K mg base (L2.CX P w) 8 "check_refutation" fCr fdCr ["function", "read", "write", "delay", "refutation"] (spCnt K CL CD CN CO CT CY))
    (LdO : FnOk P w K mg base (L2.CX P w) 8 fLd fdLd ["function", "read", "write", "first", "last", "limit"] (spLeastE K CL CD CN CO CT CY)) (LdG : mg "least_delay" = some (.ref fLd)) (LdK : PySem.W.keepIn K (.ref fLd) = true) (kbL : KBn K fdLd ["function", "read", "write", "first", "last", "limit"] 3 ["first", "last"] gL (fun vs zs => vs ++ (zs ++ [V.int 400])))
    (EG : ∀ {b b2 : Int} {s s2 : List Int} {ps : List Pt} {bad : Prop} {tag : Str} {C : Addr}, AllErr CN CO CT CY b b2 s s2 ps bad tag C → ErrGood K C1 C2 C3 tag C) :
    FnOk P w K mg base CX0 12 f (PySem.W.fnOf "_law_tags" "_law_tags" (defArgs sLawTags) (defBody sLawTags) (defScope sLawTags) .none kV doc pm an (.ref c) ct) ["_law_function", "_law_read", "_law_write", "_law_delay"] (spTags K CL CD CN CO CT CY PPL PP) := by
  refine fn_of lk hcd scTg (fun vs H Q E h => ?_) (fun A outer s H vs Q E hr h => ?_)
  · obtain ⟨v, x, y, b, b2, d, s, s2, ps, rfl, _⟩ := h
    rfl
  · obtain ⟨v, x, y, b, b2, d, s1, s2, ps, rfl, T0, tb0, tag, C, hE, k⟩ := h
    obtain ⟨cdT, GT⟩ := gets_of FT gT bT scTag rfl (Or.inl rfl)
    obtain ⟨cdO, GO⟩ := gets_of FO gO bO scOutcome rfl (Or.inl rfl)
    have r11' : Room 11 _ := hr
    suffices hh : ∃ t, PSs (cxOf CX0 P w K mg base tgN "_law_tags" (defScope sLawTags) f (.ref c) A outer s H E).nox (defBody sLawTags) t ∧ t { nx := fun _ H' => Q .non H', rt := Q } (L2.start tgN [v, .ref x, .ref y, .int d]) H by
      obtain ⟨t, h1, h2⟩ := hh
      exact ⟨t, h1.nox, h2⟩
    refine ⟨_, (pss_cons (ps_set (i := 4) scTg.nd rfl (Or.inl rfl) (pe_lst (pa_cons (pe_lamT (T := TT2 PPL PP) (TT := TTo K (.ref C1) (.ref C2) (.ref C3)) (k := 8) (t := fun E => tCall (spCnt K CL CD CN CO CT CY) [.int 400] E (tCons (tVar 0) (tCons (tVar 1) (tCons (tVar 2) (tCons (tVar 3) tNil))))) rfl GT GO (fun _ _ => rfl) (fun s H hr' => outcome_gives TO hr') (fun Y tp h => pss_one (ps_ret (pe_ix ix_tup (h _ _ _) pe_int (fun _ _ => rfl)))) TB rfl (List.mem_cons_of_mem _ List.mem_cons_self) (tt2_uniq2 nP) r11' (lamN_by (N := tgN) (s0 := defScope sLawTags) (by decide +kernel)) (.no rfl) (hb_no fun _ _ _ _ _ => rfl) (fun A outer s H E f c' hr' => by exact pe_call Cs.ok hr' rfl Cs.g Cs.k Cs.b rCs (passes_call (takes_of rfl rfl rfl rfl) (fun _ _ _ _ h => h)) (pa_cons (pv 0) (pa_cons (pv 1) (pa_cons (pv 2) (pa_cons (pv 3) pa_nil)))))) pa_nil)))
 (pss_cons (ps_expr (pe_bm PySem.F.plainAttrs_list PySem.F.slot_list_append PySem.F.type_list_append mt_append (pv 4) (pa_cons (pe_lamT (T := TT2 PPL PP) (TT := TTo K (.ref C1) (.ref C2) (.ref C3)) (k := 8) (t := fun E => tCall (spCnt K CL CD CN CO CT CY) [.int 400] E (tCons (tVar 0) (tCons (tVar 1) (tCons (tVar 2) (tCons (tVar 3) tNil))))) rfl GT GO (fun _ _ => rfl) (fun s H hr' => outcome_gives TO hr') (fun Y tp h => pss_one (ps_ret (pe_ix ix_tup (h _ _ _) pe_int (fun _ _ => rfl)))) TB rfl (List.mem_cons_of_mem _ List.mem_cons_self) (tt2_uniq2 nP) r11' (lamN_by (N := tgN) (s0 := defScope sLawTags) (by decide +kernel)) (.no rfl) (hb_no fun _ _ _ _ _ => rfl) (fun A outer s H E f c' hr' => by exact pe_call Dd.ok hr' rfl Dd.g Dd.k Dd.b rDd (passes_call (takes_of rfl rfl rfl rfl) (fun _ _ _ _ h => h)) (pa_cons (pv 0) (pa_cons (pv 1) (pa_cons (pv 2) (pa_cons (pv 3) pa_nil)))))) pa_nil)))
 (pss_cons (ps_expr (pe_bm PySem.F.plainAttrs_list PySem.F.slot_list_append PySem.F.type_list_append mt_append (pv 4) (pa_cons (pe_lamT (T := TT2 PPL PP) (TT := TTo K (.ref C1) (.ref C2) (.ref C3)) (k := 8) (t := fun E => tCall (spCnt K CL CD CN CO CT CY) [] E (tCons (tVar 0) (tCons (tVar 1) (tCons (tVar 2) (tCons (tVar 3) (tCons (tLst tNil) tNil)))))) rfl GT GO (fun _ _ => rfl) (fun s H hr' => outcome_gives TO hr') (fun Y tp h => pss_one (ps_ret (pe_ix ix_tup (h _ _ _) pe_int (fun _ _ => rfl)))) TB rfl (List.mem_cons_of_mem _ List.mem_cons_self) (tt2_uniq2 nP) r11' (lamN_by (N := tgN) (s0 := defScope sLawTags) (by decide +kernel)) (.no rfl) (hb_no fun _ _ _ _ _ => rfl) (fun A outer s H E f c' hr' => by exact pe_call Ct.ok hr' rfl Ct.g Ct.k Ct.b .nil (passes_call (takes_of rfl rfl rfl rfl) (fun _ _ _ _ h => h)) (pa_cons (pv 0) (pa_cons (pv 1) (pa_cons (pv 2) (pa_cons (pv 3) (pa_cons (pe_lst pa_nil) pa_nil))))))) pa_nil)))
 (pss_cons (ps_expr (pe_bm PySem.F.plainAttrs_list PySem.F.slot_list_append PySem.F.type_list_append mt_append (pv 4) (pa_cons (pe_lamT (T := TT2 PPL PP) (TT := TTo K (.ref C1) (.ref C2) (.ref C3)) (k := 8) (t := fun E => tCall (spCnt K CL CD CN CO CT CY) [] E (tCons (tVar 0) (tCons (tVar 1) (tCons (tVar 2) (tCons (tVar 3) (tCons (tLst tNil) tNil)))))) rfl GT GO (fun _ _ => rfl) (fun s H hr' => outcome_gives TO hr') (fun Y tp h => pss_one (ps_ret (pe_ix ix_tup (h _ _ _) pe_int (fun _ _ => rfl)))) TB rfl (List.mem_cons_of_mem _ List.mem_cons_self) (tt2_uniq2 nP) r11' (lamN_by (N := tgN) (s0 := defScope sLawTags) (by decide +kernel)) (.no rfl) (hb_no fun _ _ _ _ _ => rfl) (fun A outer s H E f c' hr' => by exact pe_call Cr.ok hr' rfl Cr.g Cr.k Cr.b .nil (passes_call (takes_of rfl rfl rfl rfl) (fun _ _ _ _ h => h)) (pa_cons (pv 0) (pa_cons (pv 1) (pa_cons (pv 2) (pa_cons (pv 3) (pa_cons (pe_lst pa_nil) pa_nil))))))) pa_nil)))
 (pss_cons (ps_expr (pe_bm PySem.F.plainAttrs_list PySem.F.slot_list_append PySem.F.type_list_append mt_append (pv 4) (pa_cons (pe_lamT (T := TT2 PPL PP) (TT := TTo K (.ref C1) (.ref C2) (.ref C3)) (k := 8) (t := fun E => tCallN 3 (["first", "last"] : List Str).length (spLeastE K CL CD CN CO CT CY) (fun vs zs => vs ++ (zs ++ [V.int 400])) E (tCons (tVar 0) (tCons (tVar 1) (tCons (tVar 2) tNil))) (tCons (tVar 3) (tCons (tVar 3) tNil))) rfl GT GO (fun _ _ => rfl) (fun s H hr' => outcome_gives TO hr') (fun Y tp h => pss_one (ps_ret (pe_ix ix_tup (h _ _ _) pe_int (fun _ _ => rfl)))) TB rfl (List.mem_cons_of_mem _ List.mem_cons_self) (tt2_uniq2 nP) r11' (lamN_by (N := tgN) (s0 := defScope sLawTags) (by decide +kernel)) (.no rfl) (hb_no fun _ _ _ _ _ => rfl) (fun A outer s H E f c' hr' => by exact pe_callN LdO hr' rfl LdG LdK kbL (passes_call (takes_of rfl rfl rfl rfl) (fun _ _ _ _ h => h)) (pa_cons (pv 0) (pa_cons (pv 1) (pa_cons (pv 2) pa_nil))) (pk_cons (pv 3) (pk_cons (pv 3) pk_nil)))) pa_nil)))
 (pss_one (ps_ret (pv 4)))))))), ?_⟩
    have gd := EG hE
    have e : LamX.ExtN H H := LamX.ExtN.refl H
    have tb := tb0
    refine ⟨tb, fun G1 e1 tb1 => ?_⟩
    have T1 := T0.extN (e.trans e1)
    refine ⟨_, rfl, _, rfl, _, rfl, _, rfl, v, .int 400, x, y, b, b2, d, s1, s2, ps, rfl, T1, tag, C, hE, fun G3 ex s3 hex => ?_⟩
    refine ⟨gd.ex, tag, ⟨C, ex, _, rfl, gd.xf, gd.nT, rfl, upd_same, rfl⟩, gd.no, fun G4 o4 s4 ho => ⟨o4, _, _, _, rfl, rfl, SqT.of upd_same, rfl, ?_⟩⟩
    have s14 := same_upd (o := .tup [.str tag, .non]) ((same_upd s3 hex).trans s4) ho
    have e2 := (e.trans e1).trans (LamX.ExtN.of s14)
    have e12 := e1.trans (LamX.ExtN.of s14)
    have tb2 := (Keep.of s14).tabs tb1
    generalize upd G4 o4 (.tup [.str tag, .non]) = G5 at s14 e2 tb2 e12
    clear s14 s4 ho hex s3 T1 e1 tb1
    clear e tb
    refine ⟨(by show 1 ≤ sizeLine; decide), fun l nl => ?_⟩
    have hl : upd G5 l (.lst [.str tag]) l = some (.lst [.str tag]) := upd_same
    have s6 := same_upd (o := .lst [.str tag]) (Same.refl G5) nl
    have e := e2.trans (LamX.ExtN.of s6)
    have tb := (Keep.of s6).tabs tb2
    have off : Off H l := fun c o hc ht => ne_of_none (e2 _ _ hc ht) nl
    generalize upd G5 l (.lst [.str tag]) = G0 at s6 e tb hl
    clear s6 e2 tb2 nl e12
    clear G5
    refine ⟨_, rfl, .inl ⟨rfl, _, SqL.of hl⟩, ?_⟩
    refine ⟨tb, fun G1 e1 tb1 => ?_⟩
    have T1 := T0.extN (e.trans e1)
    refine ⟨_, rfl, _, rfl, _, rfl, _, rfl, v, .int 400, x, y, b, b2, d, s1, s2, ps, rfl, T1, tag, C, hE, fun G3 ex s3 hex => ?_⟩
    refine ⟨gd.ex, tag, ⟨C, ex, _, rfl, gd.xf, gd.nT, rfl, upd_same, rfl⟩, gd.no, fun G4 o4 s4 ho => ⟨o4, _, _, _, rfl, rfl, SqT.of upd_same, rfl, ?_⟩⟩
    have s14 := same_upd (o := .tup [.str tag, .non]) ((same_upd s3 hex).trans s4) ho
    have e2 := (e.trans e1).trans (LamX.ExtN.of s14)
    have e12 := e1.trans (LamX.ExtN.of s14)
    have tb2 := (Keep.of s14).tabs tb1
    generalize upd G4 o4 (.tup [.str tag, .non]) = G5 at s14 e2 tb2 e12
    clear s14 s4 ho hex s3 T1 e1 tb1
    have hl5 := e12 _ _ hl (fun _ z => nomatch z)
    clear e tb hl
    refine ⟨l, _, _, rfl, rfl, hl5, (by show 1 < sizeLine; rw [sizeLine_eq]; omega), ?_⟩
    have hl : upd G5 l (.lst [.str tag, .str tag]) l = some (.lst [.str tag, .str tag]) := upd_same
    have e : LamX.ExtN H (upd G5 l (.lst [.str tag, .str tag])) := fun c o hc ht => by
      rw [upd_ne (off c o hc ht)]
      exact e2 c o hc ht
    have tb : LamX.Tabs (TT2 PPL PP) (upd G5 l (.lst [.str tag, .str tag])) := (KeepBut.put (p := l)).tabs hl5 tb2
    have ge : upd G5 l (.lst ([.str tag] ++ [.str tag])) = upd G5 l (.lst [.str tag, .str tag]) := rfl
    rw [ge]
    generalize upd G5 l (.lst [.str tag, .str tag]) = G0 at hl e tb
    clear ge hl5 e2 tb2 e12
    clear G5
    refine ⟨_, rfl, .inl ⟨rfl, _, SqL.of hl⟩, ?_⟩
    refine ⟨tb, fun G1 e1 tb1 => ?_⟩
    have T1 := T0.extN (e.trans e1)
    refine ⟨_, rfl, _, rfl, _, rfl, _, rfl, (by show 0 ≤ sizeLine; decide), fun l0 n0 => ?_⟩
    have s0 := same_upd (o := .lst []) (Same.refl G1) n0
    refine ⟨v, .ref l0, x, y, b, b2, d, s1, s2, ps, rfl, T1.same s0, tag, C, hE, fun G3 ex s3' hex => ?_⟩
    have s3 := s0.trans s3'
    refine ⟨gd.ex, tag, ⟨C, ex, _, rfl, gd.xf, gd.nT, rfl, upd_same, rfl⟩, gd.no, fun G4 o4 s4 ho => ⟨o4, _, _, _, rfl, rfl, SqT.of upd_same, rfl, ?_⟩⟩
    have s14 := same_upd (o := .tup [.str tag, .non]) ((same_upd s3 hex).trans s4) ho
    have e2 := (e.trans e1).trans (LamX.ExtN.of s14)
    have e12 := e1.trans (LamX.ExtN.of s14)
    have tb2 := (Keep.of s14).tabs tb1
    generalize upd G4 o4 (.tup [.str tag, .non]) = G5 at s14 e2 tb2 e12
    clear s14 s4 ho hex s3 T1 e1 tb1
    have hl5 := e12 _ _ hl (fun _ z => nomatch z)
    clear e tb hl
    refine ⟨l, _, _, rfl, rfl, hl5, (by show 2 < sizeLine; rw [sizeLine_eq]; omega), ?_⟩
    have hl : upd G5 l (.lst [.str tag, .str tag, .str tag]) l = some (.lst [.str tag, .str tag, .str tag]) := upd_same
    have e : LamX.ExtN H (upd G5 l (.lst [.str tag, .str tag, .str tag])) := fun c o hc ht => by
      rw [upd_ne (off c o hc ht)]
      exact e2 c o hc ht
    have tb : LamX.Tabs (TT2 PPL PP) (upd G5 l (.lst [.str tag, .str tag, .str tag])) := (KeepBut.put (p := l)).tabs hl5 tb2
    have ge : upd G5 l (.lst ([.str tag, .str tag] ++ [.str tag])) = upd G5 l (.lst [.str tag, .str tag, .str tag]) := rfl
    rw [ge]
    generalize upd G5 l (.lst [.str tag, .str tag, .str tag]) = G0 at hl e tb
    clear ge hl5 e2 tb2 e12
    clear G5
    refine ⟨_, rfl, .inl ⟨rfl, _, SqL.of hl⟩, ?_⟩
    refine ⟨tb, fun G1 e1 tb1 => ?_⟩
    have T1 := T0.extN (e.trans e1)
    refine ⟨_, rfl, _, rfl, _, rfl, _, rfl, (by show 0 ≤ sizeLine; decide), fun l0 n0 => ?_⟩
    have s0 := same_upd (o := .lst []) (Same.refl G1) n0
    refine ⟨v, .ref l0, x, y, b, b2, d, s1, s2, ps, rfl, T1.same s0, tag, C, hE, fun G3 ex s3' hex => ?_⟩
    have s3 := s0.trans s3'
    refine ⟨gd.ex, tag, ⟨C, ex, _, rfl, gd.xf, gd.nT, rfl, upd_same, rfl⟩, gd.no, fun G4 o4 s4 ho => ⟨o4, _, _, _, rfl, rfl, SqT.of upd_same, rfl, ?_⟩⟩
    have s14 := same_upd (o := .tup [.str tag, .non]) ((same_upd s3 hex).trans s4) ho
    have e2 := (e.trans e1).trans (LamX.ExtN.of s14)
    have e12 := e1.trans (LamX.ExtN.of s14)
    have tb2 := (Keep.of s14).tabs tb1
    generalize upd G4 o4 (.tup [.str tag, .non]) = G5 at s14 e2 tb2 e12
    clear s14 s4 ho hex s3 T1 e1 tb1
    have hl5 := e12 _ _ hl (fun _ z => nomatch z)
    clear e tb hl
    refine ⟨l, _, _, rfl, rfl, hl5, (by show 3 < sizeLine; rw [sizeLine_eq]; omega), ?_⟩
    have hl : upd G5 l (.lst [.str tag, .str tag, .str tag, .str tag]) l = some (.lst [.str tag, .str tag, .str tag, .str tag]) := upd_same
    have e : LamX.ExtN H (upd G5 l (.lst [.str tag, .str tag, .str tag, .str tag])) := fun c o hc ht => by
      rw [upd_ne (off c o hc ht)]
      exact e2 c o hc ht
    have tb : LamX.Tabs (TT2 PPL PP) (upd G5 l (.lst [.str tag, .str tag, .str tag, .str tag])) := (KeepBut.put (p := l)).tabs hl5 tb2
    have ge : upd G5 l (.lst ([.str tag, .str tag, .str tag] ++ [.str tag])) = upd G5 l (.lst [.str tag, .str tag, .str tag, .str tag]) := rfl
    rw [ge]
    generalize upd G5 l (.lst [.str tag, .str tag, .str tag, .str tag]) = G0 at hl e tb
    clear ge hl5 e2 tb2 e12
    clear G5
    refine ⟨_, rfl, .inl ⟨rfl, _, SqL.of hl⟩, ?_⟩
    refine ⟨tb, fun G1 e1 tb1 => ?_⟩
    have T1 := T0.extN (e.trans e1)
    refine ⟨_, rfl, _, rfl, _, rfl, _, rfl, _, rfl, rfl, rfl, v, .int 400, x, y, b, b2, d, d, s1, s2, ps, rfl, T1, tag, C, hE.imp DlyBad.least, fun G3 ex s3 hex => ?_⟩
    refine ⟨gd.ex, tag, ⟨C, ex, _, rfl, gd.xf, gd.nT, rfl, upd_same, rfl⟩, gd.no, fun G4 o4 s4 ho => ⟨o4, _, _, _, rfl, rfl, SqT.of upd_same, rfl, ?_⟩⟩
    have s14 := same_upd (o := .tup [.str tag, .non]) ((same_upd s3 hex).trans s4) ho
    have e2 := (e.trans e1).trans (LamX.ExtN.of s14)
    have e12 := e1.trans (LamX.ExtN.of s14)
    have tb2 := (Keep.of s14).tabs tb1
    generalize upd G4 o4 (.tup [.str tag, .non]) = G5 at s14 e2 tb2 e12
    clear s14 s4 ho hex s3 T1 e1 tb1
    have hl5 := e12 _ _ hl (fun _ z => nomatch z)
    clear e tb hl
    refine ⟨l, _, _, rfl, rfl, hl5, (by show 4 < sizeLine; rw [sizeLine_eq]; omega), ?_⟩
    have hl : upd G5 l (.lst [.str tag, .str tag, .str tag, .str tag, .str tag]) l = some (.lst [.str tag, .str tag, .str tag, .str tag, .str tag]) := upd_same
    have e : LamX.ExtN H (upd G5 l (.lst [.str tag, .str tag, .str tag, .str tag, .str tag])) := fun c o hc ht => by
      rw [upd_ne (off c o hc ht)]
      exact e2 c o hc ht
    have tb : LamX.Tabs (TT2 PPL PP) (upd G5 l (.lst [.str tag, .str tag, .str tag, .str tag, .str tag])) := (KeepBut.put (p := l)).tabs hl5 tb2
    have ge : upd G5 l (.lst ([.str tag, .str tag, .str tag, .str tag] ++ [.str tag])) = upd G5 l (.lst [.str tag, .str tag, .str tag, .str tag, .str tag]) := rfl
    rw [ge]
    generalize upd G5 l (.lst [.str tag, .str tag, .str tag, .str tag, .str tag]) = G0 at hl e tb
    clear ge hl5 e2 tb2 e12
    clear G5
    exact ⟨_, rfl, k _ l e tb off hl⟩
end
end K26
namespace K26
open PySem PySem.Spec PyProof.Rows L2 Ew
section
variable {P : Program} {w : World} {K : PySem.W.Frag} {mg : Str → Option Value} {base : Heap}
/-! ## _law_made -/
def spMade (K : PySem.W.Frag) (CL CD : Addr) : Sp := fun vs H Q _ => ∃ (t r wr l : Addr) (b : Int) (rs ws : List Int) (us : List V) (ps : List Pt), vs = [.ref t] ∧ H t = some (.tup [.int b, .ref r, .ref wr, .ref l]) ∧ H r = some (.lst (rs.map V.int)) ∧ H wr = some (.lst (ws.map V.int)) ∧ H l = some (.lst us) ∧ All2 (PAt H) us ps ∧ 2 ≤ b ∧ b ≤ 10 ∧ Dig b rs ∧ Dig b ws ∧ rs.length < 64 ∧ ws.length < 64 ∧ (∀ p ∈ ps, PSz 500 p) ∧ 2 ≤ ps.length ∧ ps.length ≤ 13 ∧ AscQ ps ∧
  ∀ (G : Hp) (p x dx tx y dy ty : Addr) (v : V), Same H G → H p = none → G p = some (.tup [v, .ref x, .ref y]) → LfAt CL G v (normQ ps) → DsAt K CD G x dx tx b rs → DsAt K CD G y dy ty b ws → Q (.ref p) G
def mdN : List Str := ["_law_task_here", "_law_base", "_law_read", "_law_write", "_law_points_here"]
theorem scMd : FnScope mdN ["_law_task_here"] (defScope sLawMade) := ⟨rfl, rfl, rfl, by decide +kernel, rfl, by decide +kernel, by decide +kernel⟩
theorem ok_made {f fLI fSt CL CP CM CD : Addr} {fd fdLI fdSt : FuncData} (F : Fun K "_law_made" "_law_made" sLawMade f fd) (gL : mg "LineFunction" = some (.ref CL)) (M : Mk K CL fLI) (LI : FnOk P w K mg base (L2.CX P w) 7 fLI fdLI ["self", "points"] (spLfInit K CL CP CM)) (bLI : Binds K fdLI ["self", "points"] [])
    (St : Def P w K mg base CX0 5 "_law_set" fSt fdSt ["_law_base", "_law_digits_here"] (spLSet CD)) : FnOk P w K mg base CX0 9 f fd ["_law_task_here"] (spMade K CL CD) := by
  refine F.ok scMd (fun vs H Q E h => ?_) (fun cdv A outer s H vs Q E hr h => ?_)
  · obtain ⟨t, r, wr, l, b, rs, ws, us, ps, rfl, _⟩ := h
    rfl
  · obtain ⟨t, r, wr, l, b, rs, ws, us, ps, rfl, ht, hr1, hw1, hl1, al1, b2, b10, dr, dw, lr, lw, hz, h2, h13, asc, k⟩ := h
    have r5' : Room 5 _ := hr.mono (by decide)
    have r8' : Room 8 _ := hr
    refine ⟨_, (pss_cons (ps_asg (pv 0) (pg_tup rfl (pgs_cons (pg_name (i := 1) scMd.nd rfl (Or.inl rfl)) (pgs_cons (pg_name (i := 2) scMd.nd rfl (Or.inl rfl)) (pgs_cons (pg_name (i := 3) scMd.nd rfl (Or.inl rfl)) (pgs_cons (pg_name (i := 4) scMd.nd rfl (Or.inl rfl)) pgs_nil))))))
 (pss_one (ps_ret (pe_tup (pa_cons (pe_make M LI r8' rfl gL bLI .nil passL (pa_cons (pv 4) pa_nil)) (pa_cons (pe_call St.ok r5' rfl St.g St.k St.b .nil pass0 (pa_cons (pv 1) (pa_cons (pv 2) pa_nil))) (pa_cons (pe_call St.ok r5' rfl St.g St.k St.b .nil pass0 (pa_cons (pv 1) (pa_cons (pv 3) pa_nil))) pa_nil))))))), ?_⟩
    have nl := normQ_len_le ps
    have sr : srt rs = rs := srt_self dr.asc
    have sw : srt ws = ws := srt_self dw.asc
    refine ⟨_, rfl, t, _, rfl, SqT.of ht, rfl, _, _, rfl, _, _, rfl, _, _, rfl, _, _, rfl, rfl, ?_⟩
    refine ⟨_, rfl, fun y dy ny nd _ => ?_⟩
    refine mk_lf ny nd (.inl (SqL.of hl1)) al1 (fun p hp => (hz p hp).le (by decide)) (by omega) h2 asc (by omega) fun G2 s2 lf2 => ?_
    refine ⟨_, rfl, _, rfl, b, r, rs, rfl, s2 _ _ hr1, lr, b2, b10, by rw [sr]; exact dr.are, fun G3 x dx tx s3 nx hx htx => ?_⟩
    rw [sr] at htx
    refine ⟨_, rfl, _, rfl, b, wr, ws, rfl, s3 _ _ (s2 _ _ hw1), lw, b2, b10, by rw [sw]; exact dw.are, fun G4 z dz tz s4 nz hz' htz => ?_⟩
    rw [sw] at htz
    refine ⟨(by show 3 ≤ sizeLine; decide), fun q nq => ?_⟩
    have s5 := same_upd (o := .tup [.ref y, .ref x, .ref z]) (Same.refl G4) nq
    have s45 := s4.trans s5
    exact k _ q x dx tx z dz tz (.ref y) (s2.trans (s3.trans s45)) ((s2.trans (s3.trans s4)).free nq) upd_same (lf2.sm (s3.trans s45)) ⟨s45 _ _ hx, SqT.of (s45 _ _ htx), dr.are, dr.asc, b2, b10⟩ ⟨s5 _ _ hz', SqT.of (s5 _ _ htz), dw.are, dw.asc, b2, b10⟩
end
end K26
namespace K26
open PySem PySem.Spec PyProof.Rows L2 Ew
/-- all stays but lists and tables -/
def Kt (H G : Hp) : Prop := ∀ c o, H c = some o → (∀ ps, o ≠ .tbl ps) → (∀ xs, o ≠ .lst xs) → G c = some o
theorem Kt.of {H G : Hp} (e : Same H G) : Kt H G := fun c o h _ _ => e c o h
theorem Kt.ext {H G : Hp} (e : LamX.ExtN H G) : Kt H G := fun c o h ht _ => e c o h ht
theorem Kt.kb {H G : Hp} {p : Addr} {xs : List V} (hp : H p = some (.lst xs)) (e : KeepBut p H G) : Kt H G := fun c o h _ hl => e c o h fun z => by
  rw [z, hp] at h
  exact hl _ (Option.some.inj h).symm
theorem Kt.trans {H G G2 : Hp} (a : Kt H G) (b : Kt G G2) : Kt H G2 := fun c o h ht hl => b c o (a c o h ht hl) ht hl
theorem Kt.t {H G : Hp} {c : Addr} {xs : List V} (k : Kt H G) (h : H c = some (.tup xs)) : G c = some (.tup xs) := k c _ h (fun _ z => nomatch z) (fun _ z => nomatch z)
section
variable {K : PySem.W.Frag}
theorem SqT.kt {G G' : Hp} {a : Addr} {xs : List V} (h : SqT K G a xs) (e : Kt G G') : SqT K G' a xs := by
  rcases h with (h | ⟨o, h⟩) | h
  · exact .inl (.inl (e.t h))
  · exact .inl (.inr ⟨o, e _ _ h (fun _ z => nomatch z) (fun _ z => nomatch z)⟩)
  · exact .inr h
theorem qat_kt {H G : Hp} {v : V} {r : Rat} (h : QAt H v r) (e : Kt H G) : QAt G v r := by
  obtain ⟨a, h1, h2⟩ := h
  exact ⟨a, h1, e.t h2⟩
theorem LfAt.kt {CL : Addr} {H G : Hp} {v : V} {ps : List Pt} (h : LfAt CL H v ps) (e : Kt H G) : LfAt CL G v ps := by
  obtain ⟨o, dxo, t, ws, h1, h2, h3, h4⟩ := h
  exact ⟨o, dxo, t, ws, h1, e _ _ h2 (fun _ z => nomatch z) (fun _ z => nomatch z), e.t h3, pts_tp (fun c xs hc => e.t hc) h4⟩
def SetAt (K : PySem.W.Frag) (CD : Addr) (G : Hp) (x : Addr) (b : Int) (s : List Int) : Prop := ∃ dx tx, DsAt K CD G x dx tx b s
theorem SetAt.kt {CD : Addr} {H G : Hp} {x : Addr} {b : Int} {s : List Int} (h : SetAt K CD H x b s) (e : Kt H G) : SetAt K CD G x b s := by
  obtain ⟨dx, tx, r⟩ := h
  exact ⟨dx, tx, e _ _ r.x (fun _ z => nomatch z) (fun _ z => nomatch z), SqT.kt r.t e, r.are, r.asc, r.b2, r.b10⟩
theorem TaskAt.kt {CL CD : Addr} {H G : Hp} {v : V} {x y : Addr} {b b2 : Int} {s s2 : List Int} {ps : List Pt} (h : TaskAt K CL CD H v x y b b2 s s2 ps) (e : Kt H G) : TaskAt K CL CD G v x y b b2 s s2 ps :=
  ⟨h.lf.kt e, SetAt.kt h.rd e, SetAt.kt h.wr e, h.l1, h.l100, h.psz⟩
/-- a case of the law -/
def CaseAt (K : PySem.W.Frag) (CL CD CN CO CT CY : Addr) (far : Int) (G : Hp) (u : V) : Prop := ∃ (c x y : Addr) (v : V) (tag : Str) (C : Addr) (b b2 : Int) (s s2 : List Int) (ps : List Pt), u = .ref c ∧ G c = some (.tup [v, .ref x, .ref y, .str tag]) ∧ TaskAt K CL CD G v x y b b2 s s2 ps ∧ AllErr CN CO CT CY b b2 s s2 ps (DlyBad far) tag C
theorem CaseAt.kt {CL CD CN CO CT CY : Addr} {far : Int} {H G : Hp} {u : V} (h : CaseAt K CL CD CN CO CT CY far H u) (e : Kt H G) : CaseAt K CL CD CN CO CT CY far G u := by
  obtain ⟨c, x, y, v, tag, C, b, b2, s, s2, ps, h1, h2, h3, h4⟩ := h
  exact ⟨c, x, y, v, tag, C, b, b2, s, s2, ps, h1, e.t h2, h3.kt e, h4⟩
end
/-- the task as the law draws it: its lists, none of them the drawer -/
structure TkS (G : Hp) (p r wr l : Addr) (b : Int) (rs ws : List Int) (us : List V) (ps : List Pt) : Prop where
  hr : G r = some (.lst (rs.map V.int))
  hw : G wr = some (.lst (ws.map V.int))
  hl : G l = some (.lst us)
  al : All2 (PAt G) us ps
  nr : r ≠ p
  nw : wr ≠ p
  nl : l ≠ p
theorem TkS.ext {G G' : Hp} {p r wr l : Addr} {b : Int} {rs ws : List Int} {us : List V} {ps : List Pt} (h : TkS G p r wr l b rs ws us ps) (e : LamX.ExtN G G') : TkS G' p r wr l b rs ws us ps :=
  ⟨e _ _ h.hr (fun _ z => nomatch z), e _ _ h.hw (fun _ z => nomatch z), e _ _ h.hl (fun _ z => nomatch z), pts_tp (fun c xs hc => (Kt.ext e).t hc) h.al, h.nr, h.nw, h.nl⟩
theorem TkS.kb {G G' : Hp} {p r wr l : Addr} {b : Int} {rs ws : List Int} {us : List V} {ps : List Pt} {xs : List V} (h : TkS G p r wr l b rs ws us ps) (hp : G p = some (.lst xs)) (e : KeepBut p G G') : TkS G' p r wr l b rs ws us ps :=
  ⟨e _ _ h.hr h.nr, e _ _ h.hw h.nw, e _ _ h.hl h.nl, pts_tp (fun c xs hc => (Kt.kb hp e).t hc) h.al, h.nr, h.nw, h.nl⟩
/-- what is known of a task -/
structure TkF (b : Int) (rs ws : List Int) (ps : List Pt) : Prop where
  b2 : 2 ≤ b
  b4 : b ≤ 4
  dr : Dig b rs
  lr : rs.length ≤ 20
  dw : Dig b ws
  rd : RedS b ws
  lw : ws.length ≤ 20
  asc : AscQ ps
  h2 : 2 ≤ ps.length
  h3 : ps.length ≤ 3
  g1 : (ps.getD 0 dpt).1 = endQ (firstI rs) b
  g2 : (ps.getD (ps.length - 1) dpt).1 = endQ (lastI rs) b
  hb : ∀ pt ∈ ps, PSz 80 pt ∧ endQ (firstI ws) b ≤ pt.2 ∧ pt.2 ≤ endQ (lastI ws) b
def EndsAt (G : Hp) (e : Addr) (b : Int) (s : List Int) : Prop := ∃ u v, G e = some (.tup [u, v]) ∧ QAt G u (endQ (firstI s) b) ∧ QAt G v (endQ (lastI s) b)
theorem EndsAt.kt {H G : Hp} {e : Addr} {b : Int} {s : List Int} (h : EndsAt H e b s) (k : Kt H G) : EndsAt G e b s := by
  obtain ⟨u, v, h1, h2, h3⟩ := h
  exact ⟨u, v, k.t h1, qat_kt h2 k, qat_kt h3 k⟩
def oddS : List Int := runL (-9) 19
theorem odd_dig {b : Int} (b2 : 2 ≤ b) (b4 : b ≤ 4) : Dig (b + 1) oddS := runL_dig (by omega) (by omega) (by decide) (by decide) (by decide)
def lastP (ps : List Pt) : Pt := ps.getD (ps.length - 1) dpt
def highP (ps : List Pt) (h : Rat) : List Pt := ps.take (ps.length - 1) ++ [((lastP ps).1, h + Rat.divInt 1 7)]
def wideP (ps : List Pt) (h y : Rat) : List Pt := ps ++ [(h + Rat.divInt 1 2, y)]
theorem last_snoc {ps : List Pt} (h : 1 ≤ ps.length) : ps.take (ps.length - 1) ++ [lastP ps] = ps := by
  have e := gpt (ps := ps) (i := ps.length - 1) (by omega)
  have z := List.take_add_one (l := ps) (i := ps.length - 1)
  rw [e, show ps.length - 1 + 1 = ps.length by omega, List.take_length] at z
  exact z.symm
theorem lastP_mem {ps : List Pt} (h : 1 ≤ ps.length) : lastP ps ∈ ps := getD_memP (by omega)
theorem high_psz {b : Int} {rs ws : List Int} {ps : List Pt} (F : TkF b rs ws ps) : (∀ pt ∈ highP ps (endQ (lastI ws) b), PSz 100 pt) ∧ (2 ≤ (highP ps (endQ (lastI ws) b)).length ∧ (highP ps (endQ (lastI ws) b)).length ≤ 3) ∧ AscQ (highP ps (endQ (lastI ws) b)) := by
  have h2 := F.h2
  have h3 := F.h3
  have ew := dig_ends F.dw F.b2 (by have := F.b4; omega)
  have z7 : Sz 3 (Rat.divInt 1 7) := sz_div (by decide) (by decide) (by decide)
  have es := last_snoc (ps := ps) (by omega)
  have lm := lastP_mem (ps := ps) (by omega)
  unfold highP
  refine ⟨fun pt hp => ?_, ?_, ?_⟩
  · rcases List.mem_append.mp hp with hp | hp
    · exact (F.hb pt (List.mem_of_mem_take hp)).1.le (by decide)
    · rw [List.mem_singleton.mp hp]
      exact ⟨(F.hb _ lm).1.x.le (by decide), (ew.2.1.add z7).le (by decide)⟩
  · rw [List.length_append, List.length_take]
    show 2 ≤ min (ps.length - 1) ps.length + 1 ∧ min (ps.length - 1) ps.length + 1 ≤ 3
    omega
  · have a := F.asc
    rw [← es] at a
    unfold AscQ at a ⊢
    rw [List.pairwise_append] at a ⊢
    refine ⟨a.1, List.pairwise_singleton _ _, fun x hx y hy => ?_⟩
    rw [List.mem_singleton.mp hy]
    exact a.2.2 x hx (lastP ps) List.mem_cons_self
theorem wide_psz {b : Int} {rs ws : List Int} {ps : List Pt} (F : TkF b rs ws ps) : (∀ pt ∈ wideP ps (endQ (lastI rs) b) (endQ (firstI ws) b), PSz 100 pt) ∧ (3 ≤ (wideP ps (endQ (lastI rs) b) (endQ (firstI ws) b)).length ∧ (wideP ps (endQ (lastI rs) b) (endQ (firstI ws) b)).length ≤ 4) ∧ AscQ (wideP ps (endQ (lastI rs) b) (endQ (firstI ws) b)) := by
  have h2 := F.h2
  have h3 := F.h3
  have er := dig_ends F.dr F.b2 (by have := F.b4; omega)
  have ew := dig_ends F.dw F.b2 (by have := F.b4; omega)
  have z2 : Sz 2 (Rat.divInt 1 2) := sz_div (by decide) (by decide) (by decide)
  unfold wideP
  refine ⟨fun pt hp => ?_, ?_, ?_⟩
  · rcases List.mem_append.mp hp with hp | hp
    · exact (F.hb pt hp).1.le (by decide)
    · rw [List.mem_singleton.mp hp]
      exact ⟨(er.2.1.add z2).le (by decide), ew.1.le (by decide)⟩
  · rw [List.length_append]
    show 3 ≤ ps.length + 1 ∧ ps.length + 1 ≤ 4
    omega
  · unfold AscQ
    rw [List.pairwise_append]
    refine ⟨F.asc, List.pairwise_singleton _ _, fun x hx y hy => ?_⟩
    rw [List.mem_singleton.mp hy]
    obtain ⟨k, hk, ek⟩ : ∃ k, k < ps.length ∧ ps.getD k dpt = x := by
      obtain ⟨k, hk, e⟩ := List.getElem_of_mem hx
      exact ⟨k, hk, by rw [List.getD_eq_getElem?_getD, List.getElem?_eq_getElem hk, ← e]; rfl⟩
    subst ek
    have le : (ps.getD k dpt).1 ≤ (ps.getD (ps.length - 1) dpt).1 := by
      by_cases e : k = ps.length - 1
      · rw [e]; exact Rat.le_refl
      · exact Rat.le_of_lt (asc_at F.asc (i := k) (j := ps.length - 1) (by omega) (by omega))
    rw [F.g2] at le
    show (ps.getD k dpt).1 < endQ (lastI rs) b + Rat.divInt 1 2
    have : (0 : Rat) < Rat.divInt 1 2 := by decide +kernel
    grind
theorem flat_dig {b : Int} (b2 : 2 ≤ b) (b4 : b ≤ 4) : Dig b (runL 0 b.toNat) := runL_dig b2 (by omega) (by omega) (by decide) (by omega)
/-- a constant function's points -/
def constP (lo hi c : Rat) : List Pt := [(lo, c), (hi, c)]
theorem const_eq {lo hi c : Rat} : [(lo, 0 * lo + c), (hi, 0 * hi + c)] = constP lo hi c := by
  unfold constP
  rw [Rat.zero_mul, Rat.zero_mul, Rat.zero_add]
theorem const_asc {lo hi a c : Rat} (h : lo < hi) : AscQ [(lo, a * lo + c), (hi, a * hi + c)] := by
  refine List.pairwise_cons.mpr ⟨fun pt hp => ?_, List.pairwise_singleton ..⟩
  rw [List.mem_singleton.mp hp]
  exact h
/-! ## the errors of the cases -/
theorem wide_not {b : Int} {rs ws : List Int} {ps : List Pt} (F : TkF b rs ws ps) : ¬ OnI (normQ (wideP ps (endQ (lastI rs) b) (endQ (firstI ws) b))) b rs := fun z => by
  have hp := wide_psz F
  have e := z.2
  rw [normQ_last (by have := hp.2.1; omega)] at e
  have g : (wideP ps (endQ (lastI rs) b) (endQ (firstI ws) b)).getD ((wideP ps (endQ (lastI rs) b) (endQ (firstI ws) b)).length - 1) dpt = (endQ (lastI rs) b + Rat.divInt 1 2, endQ (firstI ws) b) := by
    unfold wideP
    rw [List.length_append, show ps.length + [(endQ (lastI rs) b + Rat.divInt 1 2, endQ (firstI ws) b)].length - 1 = ps.length from rfl, List.getD_eq_getElem?_getD, List.getElem?_append_right (Nat.le_refl _), Nat.sub_self]
    rfl
  rw [g] at e
  have e : endQ (lastI rs) b + Rat.divInt 1 2 = endQ (lastI rs) b := e
  have : (0 : Rat) < Rat.divInt 1 2 := by decide +kernel
  grind
theorem high_last {ps : List Pt} (h2 : 2 ≤ ps.length) (h : Rat) : (highP ps h).getD ((highP ps h).length - 1) dpt = ((lastP ps).1, h + Rat.divInt 1 7) ∧ (highP ps h).getD 0 dpt = ps.getD 0 dpt := by
  unfold highP
  have l : (ps.take (ps.length - 1)).length = ps.length - 1 := by rw [List.length_take]; omega
  constructor
  · rw [List.length_append, show (ps.take (ps.length - 1)).length + [((lastP ps).1, h + Rat.divInt 1 7)].length - 1 = (ps.take (ps.length - 1)).length from rfl, List.getD_eq_getElem?_getD, List.getElem?_append_right (Nat.le_refl _), Nat.sub_self]
    rfl
  · rw [List.getD_eq_getElem?_getD, List.getElem?_append_left (by omega), List.getElem?_take_of_lt (by omega), ← List.getD_eq_getElem?_getD]
theorem unsafe_of {lo hi : Rat} {ps : List Pt} {p : Pt} (hp : p ∈ ps) (h : hi < p.2) : safeB lo hi ps = false := by
  unfold safeB
  rw [List.all_eq_false]
  exact ⟨p, hp, by rw [decide_eq_true h]; simp⟩
theorem safe_of {lo hi : Rat} {ps : List Pt} (h : ∀ p ∈ ps, lo ≤ p.2 ∧ p.2 ≤ hi) : safeB lo hi ps = true := by
  unfold safeB
  rw [List.all_eq_true]
  intro p hp
  have := h p hp
  rw [decide_eq_false (by grind), decide_eq_false (by grind)]
  rfl
theorem high_err {CN CO CT : Addr} {b : Int} {rs ws : List Int} {ps : List Pt} (F : TkF b rs ws ps) : TErr CN CO CT b b rs ws (normQ (highP ps (endQ (lastI ws) b))) "OutOfRange" CO := by
  have hp := high_psz F
  have hl := high_last F.h2 (endQ (lastI ws) b)
  have l2 : 2 ≤ (highP ps (endQ (lastI ws) b)).length := hp.2.1.1
  refine .inr (.inl ⟨rfl, rfl, rfl, ⟨?_, ?_⟩, ?_⟩)
  · rw [normQ_first l2, hl.2]
    exact F.g1
  · rw [normQ_last l2, hl.1]
    exact F.g2
  · have m : (normQ (highP ps (endQ (lastI ws) b))).getD ((normQ (highP ps (endQ (lastI ws) b))).length - 1) dpt ∈ normQ (highP ps (endQ (lastI ws) b)) := getD_memP (by have := normQ_len l2; omega)
    rw [normQ_last l2, hl.1] at m
    refine unsafe_of m ?_
    show endQ (lastI ws) b < endQ (lastI ws) b + Rat.divInt 1 7
    have : (0 : Rat) < Rat.divInt 1 7 := by decide +kernel
    grind
theorem const_on {b : Int} {rs : List Int} {c : Rat} (h : endQ (firstI rs) b < endQ (lastI rs) b) : OnI (normQ (constP (endQ (firstI rs) b) (endQ (lastI rs) b) c)) b rs := by
  have l2 : 2 ≤ (constP (endQ (firstI rs) b) (endQ (lastI rs) b) c).length := by show 2 ≤ 2; decide
  exact ⟨by rw [normQ_first l2]; rfl, by rw [normQ_last l2]; rfl⟩
theorem const_mem {lo hi c : Rat} {p : Pt} (h : p ∈ normQ (constP lo hi c)) : p.2 = c := by
  have z := (normQ_sub _).subset h
  unfold constP at z
  rcases List.mem_cons.mp z with rfl | z
  · rfl
  · rw [List.mem_singleton.mp z]
theorem flat_ends {b : Int} (b2 : 2 ≤ b) : endQ (firstI (runL 0 b.toNat)) b = 0 ∧ endQ (lastI (runL 0 b.toNat)) b = 1 := by
  have e1 : firstI (runL 0 b.toNat) = 0 := by
    unfold firstI
    rw [runL_at (by omega)]
    rfl
  have e2 : lastI (runL 0 b.toNat) = b - 1 := by
    unfold lastI
    rw [runL_len, runL_at (by omega)]
    omega
  rw [e1, e2]
  unfold endQ
  constructor
  · exact Rat.zero_divInt _
  · rw [Rat.divInt_eq_div]
    rw [Rat.div_def]
    exact Rat.mul_inv_cancel _ fun z => by
      have e : ((b - 1 : Int) : Rat) = ((0 : Int) : Rat) := z
      have e2 : (b - 1 : Int) = (0 : Int) := Rat.intCast_inj.mp e
      omega
theorem flat_not {b : Int} (b2 : 2 ≤ b) : ¬ RedS b (runL 0 b.toNat) := fun z => by
  have h := z 0 (by rw [runL_len]; omega)
  unfold lastI firstI at h
  rw [runL_len, runL_at (by omega), runL_at (by omega), runL_at (by omega)] at h
  have e : (0 : Int) + ((0 + 1 : Nat) : Int) - (0 + ((0 : Nat) : Int)) = 1 := by omega
  rw [e, Int.one_mul] at h
  omega
theorem fair_err {CN CO CT : Addr} {b : Int} {rs : List Int} (b2 : 2 ≤ b) (h : endQ (firstI rs) b < endQ (lastI rs) b) : TErr CN CO CT b b rs (runL 0 b.toNat) (normQ (constP (endQ (firstI rs) b) (endQ (lastI rs) b) (Rat.divInt 1 2))) "NotRedundant" CT := by
  have fe := flat_ends b2
  refine .inr (.inr ⟨rfl, rfl, rfl, const_on h, ?_, flat_not b2⟩)
  rw [fe.1, fe.2]
  refine safe_of fun p hp => ?_
  rw [const_mem hp]
  exact ⟨by decide +kernel, by decide +kernel⟩
theorem five_err {CN CO CT : Addr} {b : Int} {rs : List Int} (b2 : 2 ≤ b) (h : endQ (firstI rs) b < endQ (lastI rs) b) : TErr CN CO CT b b rs (runL 0 b.toNat) (normQ (constP (endQ (firstI rs) b) (endQ (lastI rs) b) 5)) "OutOfRange" CO := by
  have fe := flat_ends b2
  refine .inr (.inl ⟨rfl, rfl, rfl, const_on h, ?_⟩)
  have l2 : 2 ≤ (constP (endQ (firstI rs) b) (endQ (lastI rs) b) 5).length := by show 2 ≤ 2; decide
  have m : (normQ (constP (endQ (firstI rs) b) (endQ (lastI rs) b) 5)).getD 0 dpt ∈ normQ (constP (endQ (firstI rs) b) (endQ (lastI rs) b) 5) := getD_memP (by have := normQ_len l2; omega)
  refine unsafe_of m ?_
  rw [const_mem m, fe.2]
  decide +kernel
theorem good_task {b : Int} {rs ws : List Int} {ps : List Pt} (F : TkF b rs ws ps) : TOk b b rs ws (normQ ps) := by
  refine ⟨rfl, ⟨by rw [normQ_first F.h2]; exact F.g1, by rw [normQ_last F.h2]; exact F.g2⟩, safe_of fun p hp => ?_, F.rd⟩
  have := F.hb p ((normQ_sub ps).subset hp)
  exact this.2
theorem lf_task {K : PySem.W.Frag} {CL CD : Addr} {G : Hp} {fv : V} {x y : Addr} {b b2 : Int} {s s2 : List Int} {qs : List Pt} (lf : LfAt CL G fv (normQ qs)) (l2 : 2 ≤ qs.length) (l100 : qs.length ≤ 100) (z : ∀ pt ∈ qs, PSz 600 pt) (sx : SetAt K CD G x b s) (sy : SetAt K CD G y b2 s2) : TaskAt K CL CD G fv x y b b2 s s2 (normQ qs) :=
  ⟨lf, sx, sy, by have := normQ_len l2; omega, by have := normQ_len_le qs; omega, fun pt hp => z pt ((normQ_sub _).subset hp)⟩
theorem const_psz {lo hi c : Rat} (h1 : Sz 7 lo) (h2 : Sz 7 hi) (h3 : Sz 7 c) : ∀ pt ∈ constP lo hi c, PSz 600 pt := fun pt hp => by
  unfold constP at hp
  rcases List.mem_cons.mp hp with rfl | hp
  · exact ⟨h1.le (by decide), h3.le (by decide)⟩
  · rw [List.mem_singleton.mp hp]
    exact ⟨h2.le (by decide), h3.le (by decide)⟩
end K26
namespace K26
open PySem PySem.Spec PyProof.Rows L2 Ew
def lawN : List Str := ["_law_script", "_law_rng", "_law_turn", "_law_base", "_law_read", "_law_write", "_law_points_here", "_law_far", "_law_odd", "_law_ends_here", "_law_bounds", "_law_high", "_law_wide", "_law_flat", "_law_fair", "_law_cases", "_law_f", "_law_source", "_law_target", "_law_due", "_law_begin_here", "_law_end", "_law_function", "_law_one", "_law_two"]
theorem scLaw : FnScope lawN ["_law_script"] (defScope sLaw) := ⟨rfl, rfl, rfl, by decide +kernel, rfl, by decide +kernel, by decide +kernel⟩
def spLaw (K : PySem.W.Frag) (PP PP2 : Addr) : Sp := fun vs H Q _ => ∃ (a : Addr) (ns : List Int), vs = [.ref a] ∧ SqL K H a (ns.map V.int) ∧ ns.length ≤ 63 ∧ H PP = some (.tbl #[]) ∧ H PP2 = some (.tbl #[]) ∧ ∀ G, Q (.bl true) G
structure TxtL (mg : Str → Option Value) : Prop where
  range : mg "range" = none
  list : mg "list" = none
theorem ok_law {P : Program} {w : World} {K : PySem.W.Frag} {mg : Str → Option Value} {base : Heap} {f c PP PP2 : Addr} {oc kV doc pm ct : Value} {od an : Option Addr} {osl : Array (Option Value)} {fB fP fTk fMd fSt fEn fPl fSg fTg fO fF fT fLI CL CP CM CD CN CO CT CY C1 C2 C3 fLd : Addr} {fdB fdP fdTk fdMd fdSt fdEn fdPl fdSg fdTg fdO fdF fdT fdLI fdLd : FuncData} {gL2 : List Value → List Value → List Value}
    (lk : K.lookup f = some ⟨oc, od, .func (PySem.W.fnOf "law" "law" (defArgs sLaw) (defBody sLaw) (defScope sLaw) .none kV doc pm an (.ref c) ct), osl⟩) (hcd : PySem.W.codeIn K (.ref c) "law" = true) (TB : LamX.TabB base mg c PP) (nPP : PP2 ≠ PP) (T : TxtL mg)
    (B : Def P w K mg base CX0 1 "_law_begin" fB fdB ["_law_script"] (spBegin K)) (Pk : Def P w K mg base CX0 2 "_law_pick" fP fdP ["_law_rng", "_law_items"] (spPick K)) (Tk : Def P w K mg base CX0 5 "_law_task" fTk fdTk ["_law_rng", "_law_most"] spTask)
    (Md : Def P w K mg base CX0 9 "_law_made" fMd fdMd ["_law_task_here"] (spMade K CL CD)) (St : Def P w K mg base CX0 5 "_law_set" fSt fdSt ["_law_base", "_law_digits_here"] (spLSet CD)) (En : Def P w K mg base CX0 2 "_law_ends" fEn fdEn ["_law_base", "_law_digits_here"] (spEnds K))
    (Pl : Def P w K mg base CX0 2 "_law_plus" fPl fdPl ["_law_one", "_law_other"] (spR2 (· + ·) (fun _ _ => True))) (Sg : Def P w K mg base (L2.CX P w) 9 "straight" fSg fdSg ["slope", "offset", "low", "high"] (spStraight CL CP))
    (Tg : Def P w K mg base CX0 12 "_law_tags" fTg fdTg ["_law_function", "_law_read", "_law_write", "_law_delay"] (spTags K CL CD CN CO CT CY PP PP2))
    (gL : mg "LineFunction" = some (.ref CL)) (M : Mk K CL fLI) (LI : FnOk P w K mg base (L2.CX P w) 7 fLI fdLI ["self", "points"] (spLfInit K CL CP CM)) (bLI : Binds K fdLI ["self", "points"] [])
    (FO : Fun K "_law_outcome" "_law_outcome" sOutcome fO fdO) (gO : mg "_law_outcome" = some (.ref fO)) (bO : Binds K fdO ["_law_ask"] []) (TO : TxtO K mg C1 C2 C3 fF fdF) (FT : Fun K "_law_tag" "_law_tag" sLawTag fT fdT) (gT : mg "_law_tag" = some (.ref fT)) (bT : Binds K fdT ["_law_ask"] [])
    (LdO : FnOk P w K mg base (L2.CX P w) 8 fLd fdLd ["function", "read", "write", "first", "last", "limit"] (spLeastE K CL CD CN CO CT CY)) (LdG : mg "least_delay" = some (.ref fLd)) (LdK : PySem.W.keepIn K (.ref fLd) = true) (kbL : KBn K fdLd ["function", "read", "write", "first", "last", "limit"] 3 ["first", "last"] gL2 (fun vs zs => vs ++ (zs ++ [V.int 400])))
    (EG : ∀ {b b2 : Int} {s s2 : List Int} {ps : List Pt} {bad : Prop} {tag : Str} {C : Addr}, AllErr CN CO CT CY b b2 s s2 ps bad tag C → ErrGood K C1 C2 C3 tag C) :
    FnOk P w K mg base CX0 13 f (PySem.W.fnOf "law" "law" (defArgs sLaw) (defBody sLaw) (defScope sLaw) .none kV doc pm an (.ref c) ct) ["_law_script"] (spLaw K PP PP2) := by
  refine fn_of lk hcd scLaw (fun vs H Q E h => ?_) (fun A outer s H vs Q E hr h => ?_)
  · obtain ⟨a, ns, rfl, _⟩ := h
    rfl
  · obtain ⟨a, ns, rfl, hS, hl, hPP, hPP2, k⟩ := h
    obtain ⟨cdT, GT⟩ := gets_of FT gT bT scTag rfl (Or.inl rfl)
    obtain ⟨cdO, GO⟩ := gets_of FO gO bO scOutcome rfl (Or.inl rfl)
    have r1' : Room 1 _ := hr.mono (by decide)
    have r2' : Room 2 _ := hr.mono (by decide)
    have r5' : Room 5 _ := hr.mono (by decide)
    have r8' : Room 8 _ := hr.mono (by decide)
    have r9' : Room 9 _ := hr.mono (by decide)
    have r11' : Room 11 _ := hr.mono (by decide)
    have r12' : Room 12 _ := hr
    suffices hh : ∃ t, PSs (cxOf CX0 P w K mg base lawN "law" (defScope sLaw) f (.ref c) A outer s H E).nox (defBody sLaw) t ∧ t { nx := fun _ H' => Q .non H', rt := Q } (L2.start lawN [.ref a]) H by
      obtain ⟨t, h1, h2⟩ := hh
      exact ⟨t, h1.nox, h2⟩
    refine ⟨_, (pss_cons (ps_set (i := 1) scLaw.nd rfl (Or.inl rfl) (pe_call B.ok r1' rfl B.g B.k B.b .nil pass0 (pa_cons (pv 0) pa_nil)))
 (pss_cons (ps_for PassesOwn.never rfl (pi_range1 rfl T.range (pa_cons pe_int pa_nil)) (pg_name (i := 2) scLaw.nd rfl (Or.inl rfl))
 (C8.pss_cut (ps_asg (pe_call Tk.ok r5' rfl Tk.g Tk.k Tk.b .nil pass0 (pa_cons (pv 1) (pa_cons pe_int pa_nil))) (pg_tup rfl (pgs_cons (pg_name (i := 3) scLaw.nd rfl (Or.inl rfl)) (pgs_cons (pg_name (i := 4) scLaw.nd rfl (Or.inl rfl)) (pgs_cons (pg_name (i := 5) scLaw.nd rfl (Or.inl rfl)) (pgs_cons (pg_name (i := 6) scLaw.nd rfl (Or.inl rfl)) pgs_nil))))))
 (C8.pss_cut (ps_asg (pe_call Md.ok r9' rfl Md.g Md.k Md.b .nil pass0 (pa_cons (pe_tup (pa_cons (pv 3) (pa_cons (pv 4) (pa_cons (pv 5) (pa_cons (pv 6) pa_nil))))) pa_nil)) (pg_tup rfl (pgs_cons (pg_name (i := 22) scLaw.nd rfl (Or.inr rfl)) (pgs_cons (pg_name (i := 23) scLaw.nd rfl (Or.inr rfl)) (pgs_cons (pg_name (i := 24) scLaw.nd rfl (Or.inr rfl)) pgs_nil)))))
 (C8.pss_cut (ps_set (i := 7) scLaw.nd rfl (Or.inl rfl) (pe_call Pk.ok r2' rfl Pk.g Pk.k Pk.b .nil pass0 (pa_cons (pv 1) (pa_cons (pe_lst (pa_cons pe_int (pa_cons (pe_un un_neg pe_int) (pa_cons (pe_op op_pow pe_int pe_int) pa_nil)))) pa_nil))))
 (C8.pss_cut (ps_set (i := 8) scLaw.nd rfl (Or.inl rfl) (pe_call St.ok r5' rfl St.g St.k St.b .nil pass0 (pa_cons (pe_op op_add (pv 3) pe_int) (pa_cons (pe_listRg rfl rfl T.list (prg_2 rfl T.range (pe_un un_neg pe_int) pe_int)) pa_nil))))
 (C8.pss_cut (ps_par (i := 9) (j := 10) (by rfl) scLaw.nd rfl rfl (by decide) rfl rfl (pa_cons (pe_call En.ok r2' rfl En.g En.k En.b .nil pass0 (pa_cons (pv 3) (pa_cons (pv 4) pa_nil))) (pa_cons (pe_call En.ok r2' rfl En.g En.k En.b .nil pass0 (pa_cons (pv 3) (pa_cons (pv 5) pa_nil))) pa_nil)) (by rfl))
 (C8.pss_cut (ps_set (i := 11) scLaw.nd rfl (Or.inl rfl) (pe_make M LI r8' rfl gL bLI .nil passL (pa_cons (pe_op op_cat (pe_slice sl_list (pv 6) po_none (po_some (pe_un un_neg pe_int))) (pe_lst (pa_cons (pe_tup (pa_cons (pe_ix ix_tup (pe_ix ix_list (pv 6) (pe_un un_neg pe_int) (fun _ _ => rfl)) pe_int (fun _ _ => rfl)) (pa_cons (pe_call Pl.ok r2' rfl Pl.g Pl.k Pl.b .nil pass0 (pa_cons (pe_ix ix_tup (pv 10) pe_int (fun _ _ => rfl)) (pa_cons (pe_tup (pa_cons pe_int (pa_cons pe_int pa_nil))) pa_nil))) pa_nil))) pa_nil))) pa_nil)))
 (C8.pss_cut (ps_set (i := 12) scLaw.nd rfl (Or.inl rfl) (pe_make M LI r8' rfl gL bLI .nil passL (pa_cons (pe_op op_cat (pv 6) (pe_lst (pa_cons (pe_tup (pa_cons (pe_call Pl.ok r2' rfl Pl.g Pl.k Pl.b .nil pass0 (pa_cons (pe_ix ix_tup (pv 9) pe_int (fun _ _ => rfl)) (pa_cons (pe_tup (pa_cons pe_int (pa_cons pe_int pa_nil))) pa_nil))) (pa_cons (pe_ix ix_tup (pv 10) pe_int (fun _ _ => rfl)) pa_nil))) pa_nil))) pa_nil)))
 (C8.pss_cut (ps_set (i := 13) scLaw.nd rfl (Or.inl rfl) (pe_call St.ok r5' rfl St.g St.k St.b .nil pass0 (pa_cons (pv 3) (pa_cons (pe_listRg rfl rfl T.list (prg_1 rfl T.range (pv 3))) pa_nil))))
 (C8.pss_cut (ps_set (i := 14) scLaw.nd rfl (Or.inl rfl) (pe_call Sg.ok r9' rfl Sg.g Sg.k Sg.b .nil passL (pa_cons (pe_tup (pa_cons pe_int (pa_cons pe_int pa_nil))) (pa_cons (pe_tup (pa_cons pe_int (pa_cons pe_int pa_nil))) (pa_cons (pe_ix ix_tup (pv 9) pe_int (fun _ _ => rfl)) (pa_cons (pe_ix ix_tup (pv 9) pe_int (fun _ _ => rfl)) pa_nil))))))
 (C8.pss_cut (ps_set (i := 15) scLaw.nd rfl (Or.inl rfl) (pe_lst (pa_cons (pe_tup (pa_cons (pv 22) (pa_cons (pv 23) (pa_cons (pv 8) (pa_cons pe_str pa_nil))))) (pa_cons (pe_tup (pa_cons (pv 12) (pa_cons (pv 23) (pa_cons (pv 24) (pa_cons pe_str pa_nil))))) pa_nil))))
 (C8.pss_cut (ps_expr (pe_bm PySem.F.plainAttrs_list PySem.F.slot_list_append PySem.F.type_list_append mt_append (pv 15) (pa_cons (pe_tup (pa_cons (pv 11) (pa_cons (pv 23) (pa_cons (pv 8) (pa_cons pe_str pa_nil))))) pa_nil)))
 (C8.pss_cut (ps_set (i := 15) scLaw.nd rfl (Or.inl rfl) (pe_op op_cat (pv 15) (pe_lst (pa_cons (pe_tup (pa_cons (pv 11) (pa_cons (pv 23) (pa_cons (pv 24) (pa_cons pe_str pa_nil))))) (pa_cons (pe_tup (pa_cons (pv 14) (pa_cons (pv 23) (pa_cons (pv 13) (pa_cons pe_str pa_nil))))) pa_nil)))))
 (C8.pss_cut (ps_set (i := 15) scLaw.nd rfl (Or.inl rfl) (pe_op op_cat (pv 15) (pe_lst (pa_cons (pe_tup (pa_cons (pe_call Sg.ok r9' rfl Sg.g Sg.k Sg.b .nil passL (pa_cons (pe_tup (pa_cons pe_int (pa_cons pe_int pa_nil))) (pa_cons (pe_tup (pa_cons pe_int (pa_cons pe_int pa_nil))) (pa_cons (pe_ix ix_tup (pv 9) pe_int (fun _ _ => rfl)) (pa_cons (pe_ix ix_tup (pv 9) pe_int (fun _ _ => rfl)) pa_nil))))) (pa_cons (pv 23) (pa_cons (pv 13) (pa_cons pe_str pa_nil))))) pa_nil))))
 (C8.pss_cut (ps_expr (pe_bm PySem.F.plainAttrs_list PySem.F.slot_list_append PySem.F.type_list_append mt_append (pv 15) (pa_cons (pe_tup (pa_cons (pv 22) (pa_cons (pv 23) (pa_cons (pv 24) (pa_cons pe_str pa_nil))))) pa_nil)))
 (C8.pss_cut (ps_for PassesOwn.never rfl (pi_list (pv 15)) (pg_tup rfl (pgs_cons (pg_name (i := 16) scLaw.nd rfl (Or.inl rfl)) (pgs_cons (pg_name (i := 17) scLaw.nd rfl (Or.inl rfl)) (pgs_cons (pg_name (i := 18) scLaw.nd rfl (Or.inl rfl)) (pgs_cons (pg_name (i := 19) scLaw.nd rfl (Or.inl rfl)) pgs_nil)))))
 (pss_one (ps_if (pt_cmpR (op_neD hr.units) (pe_call Tg.ok r12' rfl Tg.g Tg.k Tg.b .nil pass0 (pa_cons (pv 16) (pa_cons (pv 17) (pa_cons (pv 18) (pa_cons (pv 7) pa_nil))))) (pe_op op_rep (pe_lst (pa_cons (pv 19) pa_nil)) pe_int) (nomark _)) (pss_one (ps_ret pe_bl)) pss_nil)))
 (C8.pss_cut (ps_asg (pe_call Pk.ok r2' rfl Pk.g Pk.k Pk.b .nil pass0 (pa_cons (pv 1) (pa_cons (pe_lst (pa_cons (pe_tup (pa_cons pe_int (pa_cons pe_int pa_nil))) (pa_cons (pe_tup (pa_cons pe_int (pa_cons (pe_un un_neg pe_int) pa_nil))) (pa_cons (pe_tup (pa_cons (pe_un un_neg pe_int) (pa_cons pe_int pa_nil))) (pa_cons (pe_tup (pa_cons pe_int (pa_cons pe_int pa_nil))) pa_nil))))) pa_nil))) (pg_tup rfl (pgs_cons (pg_name (i := 20) scLaw.nd rfl (Or.inr rfl)) (pgs_cons (pg_name (i := 21) scLaw.nd rfl (Or.inr rfl)) pgs_nil))))
 (pss_one (ps_if (pt_cmpR op_ne (pe_lamT (T := TT2 PP PP2) (TT := TTo K (.ref C1) (.ref C2) (.ref C3)) (k := 8) (t := fun E => tCallN 3 (["first", "last"] : List Str).length (spLeastE K CL CD CN CO CT CY) (fun vs zs => vs ++ (zs ++ [V.int 400])) E (tCons (tVar 22) (tCons (tVar 23) (tCons (tVar 24) tNil))) (tCons (tVar 20) (tCons (tVar 21) tNil))) rfl GT GO (fun _ _ => rfl) (fun s H hr' => outcome_gives TO hr') (fun Y tp h => pss_one (ps_ret (pe_ix ix_tup (h _ _ _) pe_int (fun _ _ => rfl)))) TB rfl List.mem_cons_self (tt2_uniq nPP) r11' (lamN_by (N := lawN) (s0 := defScope sLaw) (by decide +kernel)) (.no rfl) (hb_no fun _ _ _ _ _ => rfl) (fun A outer s H E f c' hr' => by exact pe_callN LdO hr' rfl LdG LdK kbL (passes_call (takes_of rfl rfl rfl rfl) (fun _ _ _ _ h => h)) (pa_cons (pv 22) (pa_cons (pv 23) (pa_cons (pv 24) pa_nil))) (pk_cons (pv 20) (pk_cons (pv 21) pk_nil)))) pe_str (nomark _)) (pss_one (ps_ret pe_bl)) pss_nil)))))))))))))))))))
 (pss_one (ps_ret pe_bl)))), ?_⟩
    have small : ∀ z : Int, 0 ≤ z → z ≤ 1000 → z.natAbs < 2 ^ 8000 := fun z h0 h1 => big_lt (n := 10) (Nat.lt_of_le_of_lt (by omega : z.natAbs ≤ 1000) (by decide)) (by decide)
    refine ⟨_, rfl, a, ns, rfl, hS, hl, fun G0 p q sd s0 R0 np nq => ?_⟩
    have tabs0 : LamX.Tabs (TT2 PP PP2) G0 := fun x hx => by
      rcases List.mem_cons.mp hx with h | h
      · rw [h]; exact LamX.TabS.nil (s0 _ _ hPP)
      · rw [List.mem_singleton.mp h]; exact LamX.TabS.nil (s0 _ _ hPP2)
    refine ⟨3, rfl, by decide, by decide, for_range (lo := 0) (n := 3) (fun _ σ G => ∃ (i v sd : Int) (o2 o3 o4 o5 o6 o7 o8 o9 o10 o11 o12 o13 o14 o15 o16 o17 o18 o19 o20 o21 o22 o23 o24 : Option V), σ = [some (.ref a), some (.ref p), o2, o3, o4, o5, o6, o7, o8, o9, o10, o11, o12, o13, o14, o15, o16, o17, o18, o19, o20, o21, o22, o23, o24] ∧ RngAt G p q ns i v sd ∧ LamX.Tabs (TT2 PP PP2) G)
      ⟨0, 0, sd, none, none, none, none, none, none, none, none, none, none, none, none, none, none, none, none, none, none, none, none, none, none, none, rfl, R0, tabs0⟩ ?_ ?_⟩
    · rintro j σ G _ ⟨i, v, sd, o2, o3, o4, o5, o6, o7, o8, o9, o10, o11, o12, o13, o14, o15, o16, o17, o18, o19, o20, o21, o22, o23, o24, rfl, R, tb⟩
      generalize (0 + (j : Int)) = tj
      -- the task
      refine ⟨fun σ G => ∃ (r wr l : Addr) (b : Int) (rs ws : List Int) (us : List V) (ps : List Pt) (i v sd : Int), σ = [some (.ref a), some (.ref p), some (.int tj), some (.int b), some (.ref r), some (.ref wr), some (.ref l), o7, o8, o9, o10, o11, o12, o13, o14, o15, o16, o17, o18, o19, o20, o21, o22, o23, o24] ∧ RngAt G p q ns i v sd ∧ LamX.Tabs (TT2 PP PP2) G ∧ TkS G p r wr l b rs ws us ps ∧ TkF b rs ws ps, ?_, ?_⟩
      · refine ⟨_, rfl, p, q, ns, i, v, sd, 2, rfl, R, by decide, by decide, fun G1 t r wr l b rs ws us ps i1 v1 sd1 K1 R1 nr nw nl ht hr1 hw1 hl1 al1 b2 b4 dr lr mr dw rdw lw mw asc h2 h3 g1 g2 hb => ?_⟩
        exact ⟨t, _, rfl, SqT.of ht, rfl, _, _, rfl, _, _, rfl, _, _, rfl, _, _, rfl, rfl, r, wr, l, b, rs, ws, us, ps, i1, v1, sd1, rfl, R1, K1.tabs R.at_p tb, ⟨hr1, hw1, hl1, al1, R.free nr, R.free nw, R.free nl⟩, ⟨b2, b4, dr, lr, dw, rdw, lw, asc, h2, by omega, g1, g2, hb⟩⟩
      clear R tb
      rintro σ G ⟨r, wr, l, b, rs, ws, us, ps, i, v, sd, rfl, R, tb, S, F⟩
      have b2 := F.b2
      have b4 := F.b4
      have h2 := F.h2
      have h3 := F.h3
      have nn := normQ_len_le ps
      -- the function, the sets
      refine ⟨fun σ G' => ∃ (fv : V) (x y : Addr), σ = [some (.ref a), some (.ref p), some (.int tj), some (.int b), some (.ref r), some (.ref wr), some (.ref l), o7, o8, o9, o10, o11, o12, o13, o14, o15, o16, o17, o18, o19, o20, o21, some fv, some (.ref x), some (.ref y)] ∧ Same G G' ∧ TaskAt K CL CD G' fv x y b b rs ws (normQ ps), ?_, ?_⟩
      · refine ⟨_, rfl, _, rfl, _, rfl, _, rfl, (by show 4 ≤ sizeLine; decide), fun t nt => ?_⟩
        have s1 := same_upd (o := .tup [.int b, .ref r, .ref wr, .ref l]) (Same.refl G) nt
        refine ⟨t, r, wr, l, b, rs, ws, us, ps, rfl, upd_same, s1 _ _ S.hr, s1 _ _ S.hw, s1 _ _ S.hl, pts_kp (Kp.of s1) S.al, b2, by omega, F.dr, F.dw, by have := F.lr; omega, by have := F.lw; omega, fun pt hp => (F.hb pt hp).1.le (by decide), h2, by omega, F.asc, fun G1 q1 x dx tx y dy ty fv s2 nq1 hq1 lf rd wr2 => ?_⟩
        exact ⟨q1, _, rfl, SqT.of hq1, rfl, _, _, rfl, _, _, rfl, _, _, rfl, rfl, fv, x, y, rfl, s1.trans s2, lf, ⟨dx, tx, rd⟩, ⟨dy, ty, wr2⟩, by have := normQ_len h2; omega, by omega, fun pt hp => ((F.hb pt ((normQ_sub ps).subset hp)).1).le (by decide)⟩
      rintro σ G1 ⟨fv, x, y, rfl, s1, T1⟩
      have R1 := R.same s1
      have tb1 := (Keep.of s1).tabs tb
      have S1 := S.ext (LamX.ExtN.of s1)
      clear R tb S s1
      -- a delay that is none
      refine ⟨fun σ G => ∃ (far : Int) (i v sd : Int), σ = [some (.ref a), some (.ref p), some (.int tj), some (.int b), some (.ref r), some (.ref wr), some (.ref l), some (.int far), o8, o9, o10, o11, o12, o13, o14, o15, o16, o17, o18, o19, o20, o21, some fv, some (.ref x), some (.ref y)] ∧ RngAt G p q ns i v sd ∧ LamX.Tabs (TT2 PP PP2) G ∧ TkS G p r wr l b rs ws us ps ∧ TaskAt K CL CD G fv x y b b rs ws (normQ ps) ∧ DlyBad far, ?_, ?_⟩
      · refine ⟨_, rfl, _, rfl, _, _, rfl, rfl, ⟨by decide, by decide, by decide⟩, (by show 3 ≤ sizeLine; decide), fun c1 n1 => ?_⟩
        have s2 := same_upd (o := .lst [.int 10, .int (-7), .int (10 ^ (20 : Int).toNat)]) (Same.refl G1) n1
        refine ⟨p, q, c1, ns, i, v, sd, _, rfl, R1.same s2, upd_same, R1.free n1, by simp, by show 3 ≤ 1000; decide, fun yv i2 v2 sd2 hy ok2 => ?_⟩
        have R2 := (R1.same s2).next ok2
        have K2 : KeepBut p G1 _ := (KeepBut.of s2).trans (KeepBut.put (o := .lst (rngL q i2 v2 sd2)))
        obtain ⟨far, rfl, hf⟩ : ∃ o : Int, yv = .int o ∧ DlyBad o := by
          simp only [List.mem_cons, List.not_mem_nil, or_false] at hy
          rcases hy with rfl | rfl | rfl
          · exact ⟨_, rfl, by unfold DlyBad; decide⟩
          · exact ⟨_, rfl, by unfold DlyBad; decide⟩
          · exact ⟨_, rfl, by unfold DlyBad; decide⟩
        exact ⟨far, i2, v2, sd2, rfl, R2, K2.tabs R1.at_p tb1, S1.kb R1.at_p K2, T1.kt (Kt.kb R1.at_p K2), hf⟩
      clear R1 tb1 S1 T1
      clear G1
      rintro σ G1 ⟨far, i, v, sd, rfl, R1, tb1, S1, T1, hfar⟩
      -- an odd set
      have ed : srt oddS = oddS := srt_self (odd_dig b2 b4).asc
      refine ⟨fun σ G' => ∃ (od : Addr), σ = [some (.ref a), some (.ref p), some (.int tj), some (.int b), some (.ref r), some (.ref wr), some (.ref l), some (.int far), some (.ref od), o9, o10, o11, o12, o13, o14, o15, o16, o17, o18, o19, o20, o21, some fv, some (.ref x), some (.ref y)] ∧ Same G1 G' ∧ SetAt K CD G' od (b + 1) oddS, ?_, ?_⟩
      · refine ⟨_, rfl, _, _, rfl, rfl, _, rfl, _, _, rfl, rfl, ⟨by decide, by decide, by decide, by decide, by decide⟩, fun l0 n0 => ?_⟩
        have s3 := same_upd (o := .lst (rgV (-9) 10)) (Same.refl G1) n0
        have e3 : rgV (-9) 10 = oddS.map V.int := by unfold oddS rgV runL; rw [List.map_map]; rfl
        refine ⟨b + 1, l0, oddS, rfl, by rw [upd_same, e3], by decide, by omega, by omega, by rw [ed]; exact (odd_dig b2 b4).are, fun G3 z dz tz s4 nz hz htz => ?_⟩
        rw [ed] at htz
        exact ⟨z, rfl, s3.trans s4, dz, tz, hz, SqT.of htz, (odd_dig b2 b4).are, (odd_dig b2 b4).asc, by omega, by omega⟩
      rintro σ G2 ⟨od, rfl, s2, O2⟩
      have R2 := R1.same s2
      have tb2 := (Keep.of s2).tabs tb1
      have S2 := S1.ext (LamX.ExtN.of s2)
      have T2 := T1.same s2
      clear R1 tb1 S1 T1 s2
      clear G1
      -- the ends
      have rl2 := F.dr.are.l2
      have wl2 := F.dw.are.l2
      refine ⟨fun σ G' => ∃ (e f1 : Addr), σ = [some (.ref a), some (.ref p), some (.int tj), some (.int b), some (.ref r), some (.ref wr), some (.ref l), some (.int far), some (.ref od), some (.ref e), some (.ref f1), o11, o12, o13, o14, o15, o16, o17, o18, o19, o20, o21, some fv, some (.ref x), some (.ref y)] ∧ Same G2 G' ∧ EndsAt G' e b rs ∧ EndsAt G' f1 b ws, ?_, ?_⟩
      · refine ⟨_, rfl, _, rfl, b, r, rs, rfl, SqL.of S2.hr, by omega, asc_le_of F.dr.asc, b2, by omega, fun Ga e u1 v1 sa he hu hv => ?_⟩
        refine ⟨_, rfl, _, rfl, b, wr, ws, rfl, SqL.of (sa _ _ S2.hw), by omega, asc_le_of F.dw.asc, b2, by omega, fun Gb f1 u2 v2 sb hf hu' hv' => ⟨_, _, rfl, ?_⟩⟩
        exact ⟨e, f1, rfl, sa.trans sb, ⟨_, _, sb _ _ he, ⟨u1, rfl, by rw [sb _ _ hu, end_fr b2]⟩, ⟨v1, rfl, by rw [sb _ _ hv, end_fr b2]⟩⟩, ⟨_, _, hf, ⟨u2, rfl, by rw [hu', end_fr b2]⟩, ⟨v2, rfl, by rw [hv', end_fr b2]⟩⟩⟩
      rintro σ G3 ⟨e, f1, rfl, s3, E3, F3⟩
      have R3 := R2.same s3
      have tb3 := (Keep.of s3).tabs tb2
      have S3 := S2.ext (LamX.ExtN.of s3)
      have T3 := T2.same s3
      have O3 := O2.kt (Kt.of s3)
      clear R2 tb2 S2 T2 O2 s3
      clear G2
      have er := dig_ends F.dr b2 (by omega)
      have ew := dig_ends F.dw b2 (by omega)
      have wlen := S3.al.len
      have u7 : [V.int 1, V.int 7] = qV (Rat.divInt 1 7) := by decide +kernel
      have u2' : [V.int 1, V.int 2] = qV (Rat.divInt 1 2) := by decide +kernel
      have z0 : Sz 2 (0 : Rat) := ⟨by decide, by decide⟩
      have z7 : Sz 3 (Rat.divInt 1 7) := sz_div (by decide) (by decide) (by decide)
      have z2 : Sz 2 (Rat.divInt 1 2) := sz_div (by decide) (by decide) (by decide)
      -- too high
      refine ⟨fun σ G' => ∃ (hi : Addr), σ = [some (.ref a), some (.ref p), some (.int tj), some (.int b), some (.ref r), some (.ref wr), some (.ref l), some (.int far), some (.ref od), some (.ref e), some (.ref f1), some (.ref hi), o12, o13, o14, o15, o16, o17, o18, o19, o20, o21, some fv, some (.ref x), some (.ref y)] ∧ Same G3 G' ∧ LfAt CL G' (.ref hi) (normQ (highP ps (endQ (lastI ws) b))), ?_, ?_⟩
      · refine ⟨_, rfl, _, rfl, _, rfl, l, us, rfl, SqL.of S3.hl, fun l1 n1 => ?_⟩
        rw [cut_init]
        have s4 := same_upd (o := .lst (us.take (us.length - 1))) (Same.refl G3) n1
        have q4 : upd G3 l1 (.lst (us.take (us.length - 1))) l1 = some (.lst (us.take (us.length - 1))) := upd_same
        generalize upd G3 l1 (.lst (us.take (us.length - 1))) = G4 at s4 q4
        obtain ⟨vz, ez, ⟨cc, cx, cy, rfl, hc, hcx, hcy⟩⟩ := S3.al.get dpt (i := ps.length - 1) (by omega)
        obtain ⟨u2, v2, hf, hu2, hv2⟩ := id F3
        refine ⟨_, rfl, _, rfl, l, _, _, _, rfl, rfl, SqL.of (s4 _ _ S3.hl), at_neg (by omega) (by rw [wlen]; exact ez), cc, _, _, _, rfl, rfl, SqT.of (s4 _ _ hc), rfl, ?_⟩
        refine ⟨_, rfl, f1, _, _, _, rfl, rfl, SqT.of (s4 _ _ hf), rfl, (by show 2 ≤ sizeLine; decide), fun t5 n5 => ?_⟩
        have s5 := same_upd (o := .tup [.int 1, .int 7]) (Same.refl G4) n5
        have q5 : QAt (upd G4 t5 (.tup [.int 1, .int 7])) (.ref t5) (Rat.divInt 1 7) := ⟨t5, rfl, by rw [upd_same, u7]⟩
        generalize upd G4 t5 (.tup [.int 1, .int 7]) = G5 at s5 q5
        refine ⟨_, _, endQ (lastI ws) b, Rat.divInt 1 7, rfl, hv2.kp (Kp.of (s4.trans s5)), q5, ew.2.1.le (by decide), z7.le (by decide), trivial, fun G6 p6 s6 n6 h6 => ⟨(by show 2 ≤ sizeLine; decide), fun t7 n7 => ⟨(by show 1 ≤ sizeLine; decide), fun l8 n8 => ?_⟩⟩⟩
        have s7 := same_upd (o := .tup [cx, .ref p6]) (Same.refl G6) n7
        have q7 : upd G6 t7 (.tup [cx, .ref p6]) t7 = some (.tup [cx, .ref p6]) := upd_same
        generalize upd G6 t7 (.tup [cx, .ref p6]) = G7 at s7 q7 n8 ⊢
        have s8 := same_upd (o := .lst [.ref t7]) (Same.refl G7) n8
        have q8 : upd G7 l8 (.lst [.ref t7]) l8 = some (.lst [.ref t7]) := upd_same
        generalize upd G7 l8 (.lst [.ref t7]) = G8 at s8 q8
        have s68 := s7.trans s8
        have s48 := s5.trans (s6.trans s68)
        have s38 := s4.trans s48
        refine ⟨l1, l8, _, _, rfl, rfl, s48 _ _ q4, q8, (by rw [List.length_take, sizeLine_eq]; show min _ _ + 1 ≤ _; omega), fun l9 n9 => ?_⟩
        have s9 := same_upd (o := .lst (us.take (us.length - 1) ++ [.ref t7])) (Same.refl G8) n9
        have q9 : upd G8 l9 (.lst (us.take (us.length - 1) ++ [.ref t7])) l9 = some (.lst (us.take (us.length - 1) ++ [.ref t7])) := upd_same
        generalize upd G8 l9 (.lst (us.take (us.length - 1) ++ [.ref t7])) = G9 at s9 q9
        have s39 := s38.trans s9
        have al9 : All2 (PAt G9) (us.take (us.length - 1) ++ [.ref t7]) (highP ps (endQ (lastI ws) b)) := by
          unfold highP
          rw [wlen]
          exact (pts_kp (Kp.of s39) (S3.al.take (ps.length - 1))).snoc ⟨t7, cx, .ref p6, rfl, (s8.trans s9) _ _ q7, hcx.kp (Kp.of s39), ⟨p6, rfl, (s68.trans s9) _ _ h6⟩⟩
        intro hi dh nh nd _
        have hp := high_psz F
        refine mk_lf nh nd (.inl (SqL.of q9)) al9 (fun pt z => (hp.1 pt z).le (by decide)) (by have := hp.2.1; omega) (by have := hp.2.1; omega) hp.2.2 (by have := normQ_len_le (highP ps (endQ (lastI ws) b)); have := hp.2.1; omega) fun Gx sx lf => ⟨hi, rfl, s39.trans sx, lf⟩
      rintro σ G4 ⟨hi, rfl, s4, H4⟩
      have R4 := R3.same s4
      have tb4 := (Keep.of s4).tabs tb3
      have S4 := S3.ext (LamX.ExtN.of s4)
      have T4 := T3.same s4
      have O4 := O3.kt (Kt.of s4)
      have E4 := E3.kt (Kt.of s4)
      have F4 := F3.kt (Kt.of s4)
      clear R3 tb3 S3 T3 O3 E3 F3 s4
      clear G3
      -- too wide
      refine ⟨fun σ G' => ∃ (wi : Addr),  σ = [some (.ref a), some (.ref p), some (.int tj), some (.int b), some (.ref r), some (.ref wr), some (.ref l), some (.int far), some (.ref od), some (.ref e), some (.ref f1), some (.ref hi), some (.ref wi), o13, o14, o15, o16, o17, o18, o19, o20, o21, some fv, some (.ref x), some (.ref y)] ∧ Same G4 G' ∧ LfAt CL G' (.ref wi) (normQ (wideP ps (endQ (lastI rs) b) (endQ (firstI ws) b))), ?_, ?_⟩
      · obtain ⟨u1, v1, he, hu1, hv1⟩ := id E4
        obtain ⟨u2, v2, hf, hu2, hv2⟩ := id F4
        refine ⟨_, rfl, _, rfl, e, _, _, _, rfl, rfl, SqT.of he, rfl, (by show 2 ≤ sizeLine; decide), fun t5 n5 => ?_⟩
        have s5 := same_upd (o := .tup [.int 1, .int 2]) (Same.refl G4) n5
        have q5 : QAt (upd G4 t5 (.tup [.int 1, .int 2])) (.ref t5) (Rat.divInt 1 2) := ⟨t5, rfl, by rw [upd_same, u2']⟩
        generalize upd G4 t5 (.tup [.int 1, .int 2]) = G5 at s5 q5
        refine ⟨_, _, endQ (lastI rs) b, Rat.divInt 1 2, rfl, hv1.kp (Kp.of s5), q5, er.2.1.le (by decide), z2.le (by decide), trivial, fun G6 p6 s6 n6 h6 => ?_⟩
        have s46 := s5.trans s6
        refine ⟨_, rfl, f1, _, _, _, rfl, rfl, SqT.of (s46 _ _ hf), rfl, (by show 2 ≤ sizeLine; decide), fun t7 n7 => ⟨(by show 1 ≤ sizeLine; decide), fun l8 n8 => ?_⟩⟩
        have s7 := same_upd (o := .tup [.ref p6, u2]) (Same.refl G6) n7
        have q7 : upd G6 t7 (.tup [.ref p6, u2]) t7 = some (.tup [.ref p6, u2]) := upd_same
        generalize upd G6 t7 (.tup [.ref p6, u2]) = G7 at s7 q7 n8 ⊢
        have s8 := same_upd (o := .lst [.ref t7]) (Same.refl G7) n8
        have q8 : upd G7 l8 (.lst [.ref t7]) l8 = some (.lst [.ref t7]) := upd_same
        generalize upd G7 l8 (.lst [.ref t7]) = G8 at s8 q8
        have s68 := s7.trans s8
        have s48 := s46.trans s68
        refine ⟨l, l8, _, _, rfl, rfl, s48 _ _ S4.hl, q8, (by rw [sizeLine_eq, wlen]; show ps.length + 1 ≤ _; omega), fun l9 n9 => ?_⟩
        have s9 := same_upd (o := .lst (us ++ [.ref t7])) (Same.refl G8) n9
        have q9 : upd G8 l9 (.lst (us ++ [.ref t7])) l9 = some (.lst (us ++ [.ref t7])) := upd_same
        generalize upd G8 l9 (.lst (us ++ [.ref t7])) = G9 at s9 q9
        have s49 := s48.trans s9
        have al9 : All2 (PAt G9) (us ++ [.ref t7]) (wideP ps (endQ (lastI rs) b) (endQ (firstI ws) b)) := (pts_kp (Kp.of s49) S4.al).snoc ⟨t7, .ref p6, u2, rfl, (s8.trans s9) _ _ q7, ⟨p6, rfl, (s68.trans s9) _ _ h6⟩, hu2.kp (Kp.of s49)⟩
        intro wi dh nh nd _
        have hp := wide_psz F
        refine mk_lf nh nd (.inl (SqL.of q9)) al9 (fun pt z => (hp.1 pt z).le (by decide)) (by have := hp.2.1; omega) (by have := hp.2.1; omega) hp.2.2 (by have := normQ_len_le (wideP ps (endQ (lastI rs) b) (endQ (firstI ws) b)); have := hp.2.1; omega) fun Gx sx lf => ⟨wi, rfl, s49.trans sx, lf⟩
      rintro σ G5 ⟨wi, rfl, s5, W5⟩
      have R5 := R4.same s5
      have tb5 := (Keep.of s5).tabs tb4
      have S5 := S4.ext (LamX.ExtN.of s5)
      have T5 := T4.same s5
      have O5 := O4.kt (Kt.of s5)
      have E5 := E4.kt (Kt.of s5)
      have F5 := F4.kt (Kt.of s5)
      have H5 := H4.kt (Kt.of s5)
      clear R4 tb4 S4 T4 O4 E4 F4 H4 s5
      clear G4
      -- flat
      have ef : srt (runL 0 b.toNat) = runL 0 b.toNat := srt_self (flat_dig b2 b4).asc
      refine ⟨fun σ G' => ∃ (fl : Addr),  σ = [some (.ref a), some (.ref p), some (.int tj), some (.int b), some (.ref r), some (.ref wr), some (.ref l), some (.int far), some (.ref od), some (.ref e), some (.ref f1), some (.ref hi), some (.ref wi), some (.ref fl), o14, o15, o16, o17, o18, o19, o20, o21, some fv, some (.ref x), some (.ref y)] ∧ Same G5 G' ∧ SetAt K CD G' fl b (runL 0 b.toNat), ?_, ?_⟩
      · refine ⟨_, rfl, _, rfl, _, rfl, ⟨by omega, by omega⟩, fun l0 n0 => ?_⟩
        have s6 := same_upd (o := .lst (rgV 0 b)) (Same.refl G5) n0
        have e6 : rgV 0 b = (runL 0 b.toNat).map V.int := by
          unfold rgV runL
          rw [List.map_map, show (b - 0).toNat = b.toNat by omega]
          rfl
        refine ⟨b, l0, runL 0 b.toNat, rfl, by rw [upd_same, e6], by rw [runL_len]; omega, by omega, by omega, by rw [ef]; exact (flat_dig b2 b4).are, fun G3 z dz tz s4 nz hz htz => ?_⟩
        rw [ef] at htz
        exact ⟨z, rfl, s6.trans s4, dz, tz, hz, SqT.of htz, (flat_dig b2 b4).are, (flat_dig b2 b4).asc, by omega, by omega⟩
      rintro σ G6 ⟨fl, rfl, s6, L6⟩
      have R6 := R5.same s6
      have tb6 := (Keep.of s6).tabs tb5
      have T6 := T5.same s6
      have O6 := O5.kt (Kt.of s6)
      have E6 := E5.kt (Kt.of s6)
      have H6 := H5.kt (Kt.of s6)
      have W6 := W5.kt (Kt.of s6)
      clear R5 tb5 S5 T5 O5 E5 F5 H5 W5 s6
      clear G5
      -- fair
      refine ⟨fun σ G' => ∃ (fa : Addr), σ = [some (.ref a), some (.ref p), some (.int tj), some (.int b), some (.ref r), some (.ref wr), some (.ref l), some (.int far), some (.ref od), some (.ref e), some (.ref f1), some (.ref hi), some (.ref wi), some (.ref fl), some (.ref fa), o15, o16, o17, o18, o19, o20, o21, some fv, some (.ref x), some (.ref y)] ∧ Same G6 G' ∧ LfAt CL G' (.ref fa) (normQ (constP (endQ (firstI rs) b) (endQ (lastI rs) b) (Rat.divInt 1 2))), ?_, ?_⟩
      · obtain ⟨u1, v1, he, hu1, hv1⟩ := id E6
        refine ⟨(by show 2 ≤ sizeLine; decide), fun t1 n1 => ⟨(by show 2 ≤ sizeLine; decide), fun t2 n2 => ?_⟩⟩
        have s1 := same_upd (o := .tup [.int 0, .int 1]) (Same.refl G6) n1
        have q1 : QAt (upd G6 t1 (.tup [.int 0, .int 1])) (.ref t1) 0 := ⟨t1, rfl, by rw [upd_same]; rfl⟩
        generalize upd G6 t1 (.tup [.int 0, .int 1]) = G7 at s1 q1 n2 ⊢
        have s2 := same_upd (o := .tup [.int 1, .int 2]) (Same.refl G7) n2
        have q2 : QAt (upd G7 t2 (.tup [.int 1, .int 2])) (.ref t2) (Rat.divInt 1 2) := ⟨t2, rfl, by rw [upd_same, u2']⟩
        generalize upd G7 t2 (.tup [.int 1, .int 2]) = G8 at s2 q2
        have s12 := s1.trans s2
        refine ⟨_, rfl, e, _, _, _, rfl, rfl, SqT.of (s12 _ _ he), rfl, _, rfl, e, _, _, _, rfl, rfl, SqT.of (s12 _ _ he), rfl, ?_⟩
        refine ⟨.ref t1, .ref t2, u1, v1, 0, Rat.divInt 1 2, endQ (firstI rs) b, endQ (lastI rs) b, rfl, q1.kp (Kp.of s2), q2, hu1.kp (Kp.of s12), hv1.kp (Kp.of s12), z0.le (by decide), z2.le (by decide), er.1.le (by decide), er.2.1.le (by decide), fun z => absurd ⟨(by show 2 ≤ 2; decide), const_asc (end_lt b2 (fl_lt F.dr))⟩ z, fun _ _ Gx yv sx nx lf => ?_⟩
        rw [const_eq] at lf
        exact ⟨yv, rfl, s12.trans sx, lf⟩
      rintro σ G7 ⟨fa, rfl, s7, A7⟩
      have R7 := R6.same s7
      have tb7 := (Keep.of s7).tabs tb6
      have T7 := T6.same s7
      have O7 := O6.kt (Kt.of s7)
      have E7 := E6.kt (Kt.of s7)
      have H7 := H6.kt (Kt.of s7)
      have W7 := W6.kt (Kt.of s7)
      have L7 := L6.kt (Kt.of s7)
      clear R6 tb6 T6 O6 E6 H6 W6 L6 s7
      clear G6
      have elt := end_lt b2 (fl_lt F.dr)
      have hpz := high_psz F
      have wpz := wide_psz F
      have bne : b ≠ b + 1 := by omega
      have pz : ∀ pt ∈ ps, PSz 600 pt := fun pt hp => (F.hb pt hp).1.le (by decide)
      -- the cases
      refine ⟨fun σ G => ∃ (cs : Addr) (xs : List V), σ = [some (.ref a), some (.ref p), some (.int tj), some (.int b), some (.ref r), some (.ref wr), some (.ref l), some (.int far), some (.ref od), some (.ref e), some (.ref f1), some (.ref hi), some (.ref wi), some (.ref fl), some (.ref fa), some (.ref cs), o16, o17, o18, o19, o20, o21, some fv, some (.ref x), some (.ref y)] ∧ Same G7 G ∧ G7 cs = none ∧ G cs = some (.lst xs) ∧ xs.length = 2 ∧ ∀ u ∈ xs, CaseAt K CL CD CN CO CT CY far G u, ?_, ?_⟩
      · refine ⟨_, rfl, _, rfl, _, rfl, (by show 4 ≤ sizeLine; decide), fun c1 n1 => ?_⟩
        have s1 := same_upd (o := .tup [fv, .ref x, .ref od, .str "Incompatible"]) (Same.refl G7) n1
        have q1 : upd G7 c1 (.tup [fv, .ref x, .ref od, .str "Incompatible"]) c1 = some (.tup [fv, .ref x, .ref od, .str "Incompatible"]) := upd_same
        generalize upd G7 c1 (.tup [fv, .ref x, .ref od, .str "Incompatible"]) = G8 at s1 q1
        refine ⟨_, rfl, _, rfl, _, rfl, (by show 4 ≤ sizeLine; decide), fun c2 n2 => ?_⟩
        have s2 := same_upd (o := .tup [.ref wi, .ref x, .ref y, .str "Incompatible"]) (Same.refl G8) n2
        have q2 : upd G8 c2 (.tup [.ref wi, .ref x, .ref y, .str "Incompatible"]) c2 = some (.tup [.ref wi, .ref x, .ref y, .str "Incompatible"]) := upd_same
        generalize upd G8 c2 (.tup [.ref wi, .ref x, .ref y, .str "Incompatible"]) = G9 at s2 q2
        refine ⟨(by show 2 ≤ sizeLine; decide), fun cs n3 => ?_⟩
        have s12 := s1.trans s2
        have s3 := same_upd (o := .lst [.ref c1, .ref c2]) (Same.refl G9) n3
        have s13 := s12.trans s3
        refine ⟨cs, _, rfl, s13, s12.free n3, upd_same, rfl, fun u hu => ?_⟩
        have k13 := Kt.of s13
        rcases List.mem_cons.mp hu with rfl | hu
        · exact ⟨c1, x, od, fv, _, _, b, b + 1, rs, oddS, normQ ps, rfl, (s2.trans s3) _ _ q1, ⟨T7.lf.kt k13, SetAt.kt T7.rd k13, O7.kt k13, T7.l1, T7.l100, T7.psz⟩, .inl (.inl ⟨rfl, rfl, .inl bne⟩)⟩
        · rw [List.mem_singleton.mp hu]
          exact ⟨c2, x, y, .ref wi, _, _, b, b, rs, ws, _, rfl, s3 _ _ q2, lf_task (W7.kt k13) (by have := wpz.2.1; omega) (by have := wpz.2.1; omega) (fun pt hp => (wpz.1 pt hp).le (by decide)) (SetAt.kt T7.rd k13) (SetAt.kt T7.wr k13), .inl (.inl ⟨rfl, rfl, .inr (wide_not F)⟩)⟩
      rintro σ G8 ⟨cs, xs, rfl, s8, n8, h8, l8, c8⟩
      refine ⟨fun σ G => ∃ (cs : Addr) (xs : List V), σ = [some (.ref a), some (.ref p), some (.int tj), some (.int b), some (.ref r), some (.ref wr), some (.ref l), some (.int far), some (.ref od), some (.ref e), some (.ref f1), some (.ref hi), some (.ref wi), some (.ref fl), some (.ref fa), some (.ref cs), o16, o17, o18, o19, o20, o21, some fv, some (.ref x), some (.ref y)] ∧ Same G7 G ∧ G7 cs = none ∧ G cs = some (.lst xs) ∧ xs.length = 3 ∧ ∀ u ∈ xs, CaseAt K CL CD CN CO CT CY far G u, ?_, ?_⟩
      · refine ⟨_, rfl, .inl ⟨rfl, _, SqL.of h8⟩, _, rfl, _, rfl, _, rfl, (by show 4 ≤ sizeLine; decide), fun c1 n1 => ?_⟩
        have s1 := same_upd (o := .tup [.ref hi, .ref x, .ref od, .str "Incompatible"]) (Same.refl G8) n1
        have q1 : upd G8 c1 (.tup [.ref hi, .ref x, .ref od, .str "Incompatible"]) c1 = some (.tup [.ref hi, .ref x, .ref od, .str "Incompatible"]) := upd_same
        generalize upd G8 c1 (.tup [.ref hi, .ref x, .ref od, .str "Incompatible"]) = G9 at s1 q1
        have h9 := s1 _ _ h8
        refine ⟨cs, _, _, rfl, rfl, h9, (by rw [l8, sizeLine_eq]; omega), ?_⟩
        have k10 : KeepBut cs G9 (upd G9 cs (.lst (xs ++ [.ref c1]))) := KeepBut.put
        have k89 : Kt G8 (upd G9 cs (.lst (xs ++ [.ref c1]))) := (Kt.of s1).trans (Kt.kb h9 k10)
        have k79 := (Kt.of s8).trans k89
        refine ⟨cs, _, rfl, same_updN (s8.trans s1) n8, n8, upd_same, by rw [List.length_append, l8]; rfl, fun u hu => ?_⟩
        rcases List.mem_append.mp hu with hu | hu
        · exact (c8 u hu).kt k89
        · rw [List.mem_singleton.mp hu]
          exact ⟨c1, x, od, .ref hi, _, _, b, b + 1, rs, oddS, _, rfl, k10 _ _ q1 (ne_of q1 h9 (fun z => nomatch z)), lf_task (H7.kt k79) (by have := hpz.2.1; omega) (by have := hpz.2.1; omega) (fun pt hp => (hpz.1 pt hp).le (by decide)) (SetAt.kt T7.rd k79) (O7.kt k79), .inl (.inl ⟨rfl, rfl, .inl bne⟩)⟩
      clear c8 l8 h8 n8 s8
      clear xs cs G8
      rintro σ G8 ⟨cs, xs, rfl, s8, n8, h8, l8, c8⟩
      refine ⟨fun σ G => ∃ (cs : Addr) (xs : List V), σ = [some (.ref a), some (.ref p), some (.int tj), some (.int b), some (.ref r), some (.ref wr), some (.ref l), some (.int far), some (.ref od), some (.ref e), some (.ref f1), some (.ref hi), some (.ref wi), some (.ref fl), some (.ref fa), some (.ref cs), o16, o17, o18, o19, o20, o21, some fv, some (.ref x), some (.ref y)] ∧ Same G7 G ∧ G7 cs = none ∧ G cs = some (.lst xs) ∧ xs.length = 5 ∧ ∀ u ∈ xs, CaseAt K CL CD CN CO CT CY far G u, ?_, ?_⟩
      · refine ⟨_, rfl, _, rfl, _, rfl, _, rfl, (by show 4 ≤ sizeLine; decide), fun c1 n1 => ?_⟩
        have s1 := same_upd (o := .tup [.ref hi, .ref x, .ref y, .str "OutOfRange"]) (Same.refl G8) n1
        have q1 : upd G8 c1 (.tup [.ref hi, .ref x, .ref y, .str "OutOfRange"]) c1 = some (.tup [.ref hi, .ref x, .ref y, .str "OutOfRange"]) := upd_same
        generalize upd G8 c1 (.tup [.ref hi, .ref x, .ref y, .str "OutOfRange"]) = G9 at s1 q1
        refine ⟨_, rfl, _, rfl, _, rfl, (by show 4 ≤ sizeLine; decide), fun c2 n2 => ?_⟩
        have s2 := same_upd (o := .tup [.ref fa, .ref x, .ref fl, .str "NotRedundant"]) (Same.refl G9) n2
        have q2 : upd G9 c2 (.tup [.ref fa, .ref x, .ref fl, .str "NotRedundant"]) c2 = some (.tup [.ref fa, .ref x, .ref fl, .str "NotRedundant"]) := upd_same
        generalize upd G9 c2 (.tup [.ref fa, .ref x, .ref fl, .str "NotRedundant"]) = G10 at s2 q2
        refine ⟨(by show 2 ≤ sizeLine; decide), fun l3 n3 => ?_⟩
        have s3 := same_upd (o := .lst [.ref c1, .ref c2]) (Same.refl G10) n3
        have q3 : upd G10 l3 (.lst [.ref c1, .ref c2]) l3 = some (.lst [.ref c1, .ref c2]) := upd_same
        generalize upd G10 l3 (.lst [.ref c1, .ref c2]) = G11 at s3 q3
        have s13 := (s1.trans s2).trans s3
        refine ⟨cs, l3, _, _, rfl, rfl, s13 _ _ h8, q3, (by rw [l8, sizeLine_eq]; show 3 + 2 ≤ _; omega), fun cs4 n4 => ?_⟩
        have s4 := same_upd (o := .lst (xs ++ [.ref c1, .ref c2])) (Same.refl G11) n4
        have s14 := s13.trans s4
        have k84 := Kt.of s14
        have k74 := Kt.of (s8.trans s14)
        refine ⟨cs4, _, rfl, s8.trans s14, (s8.trans s13).free n4, upd_same, by rw [List.length_append, l8]; rfl, fun u hu => ?_⟩
        rcases List.mem_append.mp hu with hu | hu
        · exact (c8 u hu).kt k84
        rcases List.mem_cons.mp hu with rfl | hu
        · exact ⟨c1, x, y, .ref hi, _, _, b, b, rs, ws, _, rfl, ((s2.trans s3).trans s4) _ _ q1, lf_task (H7.kt k74) (by have := hpz.2.1; omega) (by have := hpz.2.1; omega) (fun pt hp => (hpz.1 pt hp).le (by decide)) (SetAt.kt T7.rd k74) (SetAt.kt T7.wr k74), .inl (high_err F)⟩
        · rw [List.mem_singleton.mp hu]
          exact ⟨c2, x, fl, .ref fa, _, _, b, b, rs, runL 0 b.toNat, _, rfl, (s3.trans s4) _ _ q2, lf_task (A7.kt k74) (by show 2 ≤ 2; decide) (by show 2 ≤ 100; decide) (const_psz er.1 er.2.1 (z2.le (by decide))) (SetAt.kt T7.rd k74) (L7.kt k74), .inl (fair_err b2 elt)⟩
      clear c8 l8 h8 n8 s8
      clear xs cs G8
      rintro σ G8 ⟨cs, xs, rfl, s8, n8, h8, l8, c8⟩
      refine ⟨fun σ G => ∃ (cs : Addr) (xs : List V), σ = [some (.ref a), some (.ref p), some (.int tj), some (.int b), some (.ref r), some (.ref wr), some (.ref l), some (.int far), some (.ref od), some (.ref e), some (.ref f1), some (.ref hi), some (.ref wi), some (.ref fl), some (.ref fa), some (.ref cs), o16, o17, o18, o19, o20, o21, some fv, some (.ref x), some (.ref y)] ∧ Same G7 G ∧ G7 cs = none ∧ G cs = some (.lst xs) ∧ xs.length = 6 ∧ ∀ u ∈ xs, CaseAt K CL CD CN CO CT CY far G u, ?_, ?_⟩
      · obtain ⟨u1, v1, he, hu1, hv1⟩ := id E7
        have u5 : [V.int 5, V.int 1] = qV 5 := by decide +kernel
        refine ⟨_, rfl, (by show 2 ≤ sizeLine; decide), fun t1 n1 => ⟨(by show 2 ≤ sizeLine; decide), fun t2 n2 => ?_⟩⟩
        have s1 := same_upd (o := .tup [.int 0, .int 1]) (Same.refl G8) n1
        have q1 : QAt (upd G8 t1 (.tup [.int 0, .int 1])) (.ref t1) 0 := ⟨t1, rfl, by rw [upd_same]; rfl⟩
        generalize upd G8 t1 (.tup [.int 0, .int 1]) = G9 at s1 q1 n2 ⊢
        have s2 := same_upd (o := .tup [.int 5, .int 1]) (Same.refl G9) n2
        have q2 : QAt (upd G9 t2 (.tup [.int 5, .int 1])) (.ref t2) 5 := ⟨t2, rfl, by rw [upd_same, u5]⟩
        generalize upd G9 t2 (.tup [.int 5, .int 1]) = G10 at s2 q2
        have s12 := s1.trans s2
        have s72 := s8.trans s12
        have z5 : Sz 7 (5 : Rat) := ⟨by decide, by decide⟩
        refine ⟨_, rfl, e, _, _, _, rfl, rfl, SqT.of (s72 _ _ he), rfl, _, rfl, e, _, _, _, rfl, rfl, SqT.of (s72 _ _ he), rfl, ?_⟩
        refine ⟨.ref t1, .ref t2, u1, v1, 0, 5, endQ (firstI rs) b, endQ (lastI rs) b, rfl, q1.kp (Kp.of s2), q2, hu1.kp (Kp.of s72), hv1.kp (Kp.of s72), z0.le (by decide), z5.le (by decide), er.1.le (by decide), er.2.1.le (by decide), fun z => absurd ⟨(by show 2 ≤ 2; decide), const_asc elt⟩ z, fun _ _ G11 yv sx nx lf => ?_⟩
        rw [const_eq] at lf
        refine ⟨_, rfl, _, rfl, (by show 4 ≤ sizeLine; decide), fun c1 nc1 => ?_⟩
        have s3 := same_upd (o := .tup [.ref yv, .ref x, .ref fl, .str "OutOfRange"]) (Same.refl G11) nc1
        have q3 : upd G11 c1 (.tup [.ref yv, .ref x, .ref fl, .str "OutOfRange"]) c1 = some (.tup [.ref yv, .ref x, .ref fl, .str "OutOfRange"]) := upd_same
        generalize upd G11 c1 (.tup [.ref yv, .ref x, .ref fl, .str "OutOfRange"]) = G12 at s3 q3
        refine ⟨(by show 1 ≤ sizeLine; decide), fun l3 n3 => ?_⟩
        have s4 := same_upd (o := .lst [.ref c1]) (Same.refl G12) n3
        have q4 : upd G12 l3 (.lst [.ref c1]) l3 = some (.lst [.ref c1]) := upd_same
        generalize upd G12 l3 (.lst [.ref c1]) = G13 at s4 q4
        have s14 := s12.trans (sx.trans (s3.trans s4))
        refine ⟨cs, l3, _, _, rfl, rfl, s14 _ _ h8, q4, (by rw [l8, sizeLine_eq]; show 5 + 1 ≤ _; omega), fun cs4 n4 => ?_⟩
        have s5 := same_upd (o := .lst (xs ++ [.ref c1])) (Same.refl G13) n4
        have s15 := s14.trans s5
        have k85 := Kt.of s15
        have k75 := Kt.of (s8.trans s15)
        refine ⟨cs4, _, rfl, s8.trans s15, (s8.trans s14).free n4, upd_same, by rw [List.length_append, l8]; rfl, fun u hu => ?_⟩
        rcases List.mem_append.mp hu with hu | hu
        · exact (c8 u hu).kt k85
        · rw [List.mem_singleton.mp hu]
          exact ⟨c1, x, fl, .ref yv, _, _, b, b, rs, runL 0 b.toNat, _, rfl, (s4.trans s5) _ _ q3, lf_task (lf.kt (Kt.of (s3.trans (s4.trans s5)))) (by show 2 ≤ 2; decide) (by show 2 ≤ 100; decide) (const_psz er.1 er.2.1 z5) (SetAt.kt T7.rd k75) (L7.kt k75), .inl (five_err b2 elt)⟩
      clear c8 l8 h8 n8 s8
      clear xs cs G8
      rintro σ G8 ⟨cs, xs, rfl, s8, n8, h8, l8, c8⟩
      refine ⟨fun σ G => ∃ (cs : Addr) (xs : List V), σ = [some (.ref a), some (.ref p), some (.int tj), some (.int b), some (.ref r), some (.ref wr), some (.ref l), some (.int far), some (.ref od), some (.ref e), some (.ref f1), some (.ref hi), some (.ref wi), some (.ref fl), some (.ref fa), some (.ref cs), o16, o17, o18, o19, o20, o21, some fv, some (.ref x), some (.ref y)] ∧ Same G7 G ∧ G7 cs = none ∧ G cs = some (.lst xs) ∧ xs.length = 7 ∧ ∀ u ∈ xs, CaseAt K CL CD CN CO CT CY far G u, ?_, ?_⟩
      · refine ⟨_, rfl, .inl ⟨rfl, _, SqL.of h8⟩, _, rfl, _, rfl, _, rfl, (by show 4 ≤ sizeLine; decide), fun c1 n1 => ?_⟩
        have s1 := same_upd (o := .tup [fv, .ref x, .ref y, .str "InvalidDelay"]) (Same.refl G8) n1
        have q1 : upd G8 c1 (.tup [fv, .ref x, .ref y, .str "InvalidDelay"]) c1 = some (.tup [fv, .ref x, .ref y, .str "InvalidDelay"]) := upd_same
        generalize upd G8 c1 (.tup [fv, .ref x, .ref y, .str "InvalidDelay"]) = G9 at s1 q1
        have h9 := s1 _ _ h8
        refine ⟨cs, _, _, rfl, rfl, h9, (by rw [l8, sizeLine_eq]; omega), ?_⟩
        have k10 : KeepBut cs G9 (upd G9 cs (.lst (xs ++ [.ref c1]))) := KeepBut.put
        have k89 : Kt G8 (upd G9 cs (.lst (xs ++ [.ref c1]))) := (Kt.of s1).trans (Kt.kb h9 k10)
        have k79 := (Kt.of s8).trans k89
        refine ⟨cs, _, rfl, same_updN (s8.trans s1) n8, n8, upd_same, by rw [List.length_append, l8]; rfl, fun u hu => ?_⟩
        rcases List.mem_append.mp hu with hu | hu
        · exact (c8 u hu).kt k89
        · rw [List.mem_singleton.mp hu]
          exact ⟨c1, x, y, fv, _, _, b, b, rs, ws, normQ ps, rfl, k10 _ _ q1 (ne_of q1 h9 (fun z => nomatch z)), T7.kt k79, .inr ⟨rfl, rfl, good_task F, hfar⟩⟩
      clear c8 l8 h8 n8 s8
      clear xs cs G8
      rintro σ G8 ⟨cs, xs, rfl, s8, n8, h8, l8, c8⟩
      have R8 := R7.same s8
      have tb8 := (Keep.of s8).tabs tb7
      have T8 := T7.same s8
      clear R7 tb7 T7 O7 E7 H7 W7 L7 A7 s8 n8
      clear G7
      -- every case
      refine ⟨fun σ G => (∃ o16 o17 o18 o19 : Option V, σ = [some (.ref a), some (.ref p), some (.int tj), some (.int b), some (.ref r), some (.ref wr), some (.ref l), some (.int far), some (.ref od), some (.ref e), some (.ref f1), some (.ref hi), some (.ref wi), some (.ref fl), some (.ref fa), some (.ref cs), o16, o17, o18, o19, o20, o21, some fv, some (.ref x), some (.ref y)]) ∧ LamX.ExtN G8 G ∧ LamX.Tabs (TT2 PP PP2) G, ?_, ?_⟩
      · refine ⟨_, rfl, cs, rfl, ⟨_, SqL.of h8⟩, for_list (K := K) (a := cs) (xs := xs) (fun _ σ G => (∃ o16 o17 o18 o19 : Option V, σ = [some (.ref a), some (.ref p), some (.int tj), some (.int b), some (.ref r), some (.ref wr), some (.ref l), some (.int far), some (.ref od), some (.ref e), some (.ref f1), some (.ref hi), some (.ref wi), some (.ref fl), some (.ref fa), some (.ref cs), o16, o17, o18, o19, o20, o21, some fv, some (.ref x), some (.ref y)]) ∧ LamX.ExtN G8 G ∧ LamX.Tabs (TT2 PP PP2) G) ⟨⟨_, _, _, _, rfl⟩, LamX.ExtN.refl _, tb8⟩ (fun _ σ G _ z => SqL.of (z.2.1 _ _ h8 (fun _ z => nomatch z))) ?_ ?_⟩
        · rintro jj uv σ G hy ⟨⟨o16, o17, o18, o19, rfl⟩, e9, tb9⟩
          have hm : uv ∈ xs := List.mem_of_getElem? hy
          obtain ⟨c1, cx, cy, cv, tag, C, cb, cb2, cs1, cs2, cps, rfl, hc, cT, cE⟩ := (c8 uv hm).kt (Kt.ext e9)
          refine ⟨c1, _, rfl, SqT.of hc, rfl, _, _, rfl, _, _, rfl, _, _, rfl, _, _, rfl, rfl, ?_⟩
          refine ⟨_, rfl, _, rfl, _, rfl, _, rfl, cv, cx, cy, cb, cb2, far, cs1, cs2, cps, rfl, cT, tb9, tag, C, cE, fun G10 p10 e10 tb10 off10 h10 => ?_⟩
          refine ⟨_, rfl, (by show 1 ≤ sizeLine; decide), fun l1 n1 => ?_⟩
          have s1 := same_upd (o := .lst [.str tag]) (Same.refl G10) n1
          have q1 : upd G10 l1 (.lst [.str tag]) l1 = some (.lst [.str tag]) := upd_same
          generalize upd G10 l1 (.lst [.str tag]) = G11 at s1 q1
          refine ⟨l1, 5, [.str tag], rfl, rfl, q1, by decide, by decide, (by show 1 * 5 ≤ sizeLine; rw [sizeLine_eq]; decide), fun l2 n2 => ?_⟩
          have s2 := same_upd (o := .lst (List.replicate (5 : Int).toNat [V.str tag]).flatten) (Same.refl G11) n2
          have q2 : upd G11 l2 (.lst (List.replicate (5 : Int).toNat [V.str tag]).flatten) l2 = some (.lst [.str tag, .str tag, .str tag, .str tag, .str tag]) := upd_same
          generalize upd G11 l2 (.lst (List.replicate (5 : Int).toNat [V.str tag]).flatten) = G12 at s2 q2
          have s12 := s1.trans s2
          have tg4 : tag = "Incompatible" ∨ tag = "OutOfRange" ∨ tag = "NotRedundant" ∨ tag = "InvalidDelay" := by
            rcases cE with (⟨h, _⟩ | ⟨h, _⟩ | ⟨h, _⟩) | ⟨h, _⟩
            · exact .inl h
            · exact .inr (.inl h)
            · exact .inr (.inr (.inl h))
            · exact .inr (.inr (.inr h))
          have dp : ∀ {l : Addr}, G12 l = some (.lst [.str tag, .str tag, .str tag, .str tag, .str tag]) → Dp K G12 (.ref l) (.list [.str tag, .str tag, .str tag, .str tag, .str tag]) := fun h => .lst (SqL.of h) (.cons (.str _) (.cons (.str _) (.cons (.str _) (.cons (.str _) (.cons (.str _) .nil)))))
          refine ⟨_, _, dp (s12 _ _ h10), dp q2, by rcases tg4 with rfl | rfl | rfl | rfl <;> decide +kernel, by rcases tg4 with rfl | rfl | rfl | rfl <;> decide +kernel, _, rfl, ifF (by rcases tg4 with rfl | rfl | rfl | rfl <;> decide +kernel) ?_⟩
          exact ⟨⟨_, _, _, _, rfl⟩, e9.trans (e10.trans (LamX.ExtN.of s12)), (Keep.of s12).tabs tb10⟩
        · rintro σ G z
          exact z
      rintro σ G9 ⟨⟨o16, o17, o18, o19, rfl⟩, e9, tb9⟩
      have R9 := R8.extN e9
      have T9 := T8.kt (Kt.ext e9)
      clear R8 tb8 T8 c8 h8 e9
      -- the range
      refine ⟨fun σ G => ∃ (fb fe i v sd : Int), σ = [some (.ref a), some (.ref p), some (.int tj), some (.int b), some (.ref r), some (.ref wr), some (.ref l), some (.int far), some (.ref od), some (.ref e), some (.ref f1), some (.ref hi), some (.ref wi), some (.ref fl), some (.ref fa), some (.ref cs), o16, o17, o18, o19, some (.int fb), some (.int fe), some fv, some (.ref x), some (.ref y)] ∧ RngAt G p q ns i v sd ∧ LamX.Tabs (TT2 PP PP2) G ∧ TaskAt K CL CD G fv x y b b rs ws (normQ ps) ∧ LeastBad fb fe, ?_, ?_⟩
      · refine ⟨_, rfl, (by show 2 ≤ sizeLine; decide), fun t1 n1 => ?_⟩
        have s1 := same_upd (o := .tup [.int 1, .int 0]) (Same.refl G9) n1
        have q1 : upd G9 t1 (.tup [.int 1, .int 0]) t1 = some (.tup [.int 1, .int 0]) := upd_same
        generalize upd G9 t1 (.tup [.int 1, .int 0]) = G10 at s1 q1
        refine ⟨_, rfl, (by show 2 ≤ sizeLine; decide), fun t2 n2 => ?_⟩
        have s2 := same_upd (o := .tup [.int 9, .int (-6)]) (Same.refl G10) n2
        have q2 : upd G10 t2 (.tup [.int 9, .int (-6)]) t2 = some (.tup [.int 9, .int (-6)]) := upd_same
        generalize upd G10 t2 (.tup [.int 9, .int (-6)]) = G11 at s2 q2
        refine ⟨_, rfl, (by show 2 ≤ sizeLine; decide), fun t3 n3 => ⟨(by show 2 ≤ sizeLine; decide), fun t4 n4 => ⟨(by show 4 ≤ sizeLine; decide), fun l5 n5 => ?_⟩⟩⟩
        have s3 := same_upd (o := .tup [.int (-7), .int 3]) (Same.refl G11) n3
        have q3 : upd G11 t3 (.tup [.int (-7), .int 3]) t3 = some (.tup [.int (-7), .int 3]) := upd_same
        generalize upd G11 t3 (.tup [.int (-7), .int 3]) = G12 at s3 q3 n4 n5 ⊢
        have s4 := same_upd (o := .tup [.int 0, .int 10]) (Same.refl G12) n4
        have q4 : upd G12 t4 (.tup [.int 0, .int 10]) t4 = some (.tup [.int 0, .int 10]) := upd_same
        generalize upd G12 t4 (.tup [.int 0, .int 10]) = G13 at s4 q4 n5 ⊢
        have s5 := same_upd (o := .lst [.ref t1, .ref t2, .ref t3, .ref t4]) (Same.refl G13) n5
        have q5 : upd G13 l5 (.lst [.ref t1, .ref t2, .ref t3, .ref t4]) l5 = some (.lst [.ref t1, .ref t2, .ref t3, .ref t4]) := upd_same
        have s15 := s1.trans (s2.trans (s3.trans (s4.trans s5)))
        have nl5 : l5 ≠ p := (R9.same (s1.trans (s2.trans (s3.trans s4)))).free n5
        generalize upd G13 l5 (.lst [.ref t1, .ref t2, .ref t3, .ref t4]) = G14 at s5 q5 s15
        have R14 := R9.same s15
        refine ⟨p, q, l5, ns, i, v, sd, _, rfl, R14, q5, nl5, by simp, by show 4 ≤ 1000; decide, fun yv i2 v2 sd2 hy ok2 => ?_⟩
        have K2 : KeepBut p G14 (upd G14 p (.lst (rngL q i2 v2 sd2))) := KeepBut.put
        have kt := (Kt.of s15).trans (Kt.kb R14.at_p K2)
        obtain ⟨c, fb, fe, rfl, hc, bad⟩ : ∃ (c : Addr) (fb fe : Int), yv = .ref c ∧ G14 c = some (.tup [.int fb, .int fe]) ∧ LeastBad fb fe := by
          have s25 := s2.trans (s3.trans (s4.trans s5))
          have s35 := s3.trans (s4.trans s5)
          simp only [List.mem_cons, List.not_mem_nil, or_false] at hy
          rcases hy with rfl | rfl | rfl | rfl
          · exact ⟨t1, 1, 0, rfl, s25 _ _ q1, by unfold LeastBad; decide⟩
          · exact ⟨t2, 9, -6, rfl, s35 _ _ q2, by unfold LeastBad; decide⟩
          · exact ⟨t3, -7, 3, rfl, (s4.trans s5) _ _ q3, by unfold LeastBad; decide⟩
          · exact ⟨t4, 0, 10, rfl, s5 _ _ q4, by unfold LeastBad; decide⟩
        exact ⟨c, _, rfl, SqT.of (K2 _ _ hc (ne_of hc R14.at_p (fun z => nomatch z))), rfl, _, _, rfl, _, _, rfl, rfl, fb, fe, i2, v2, sd2, rfl, R14.next ok2, K2.tabs R14.at_p ((Keep.of s15).tabs tb9), T9.kt kt, bad⟩
      rintro σ G10 ⟨fb, fe, i, v, sd, rfl, R10, tb10, T10, bad⟩
      refine ⟨tb10, fun G11 e11 tb11 => ?_⟩
      have T11 := T10.kt (Kt.ext e11)
      have hE : AllErr CN CO CT CY b b rs ws (normQ ps) (LeastBad fb fe) "InvalidDelay" CY := .inr ⟨rfl, rfl, good_task F, bad⟩
      have gd := EG hE
      refine ⟨_, rfl, _, rfl, _, rfl, _, rfl, _, rfl, rfl, rfl, fv, .int 400, x, y, b, b, fb, fe, rs, ws, normQ ps, rfl, T11, "InvalidDelay", CY, hE, fun G12 ex s12 hex => ?_⟩
      refine ⟨gd.ex, "InvalidDelay", ⟨CY, ex, _, rfl, gd.xf, gd.nT, rfl, upd_same, rfl⟩, gd.no, fun G13 o13 s13 ho => ⟨o13, _, _, _, rfl, rfl, SqT.of upd_same, rfl, ?_⟩⟩
      have s14 := same_upd (o := .tup [.str "InvalidDelay", .non]) ((same_upd s12 hex).trans s13) ho
      refine ⟨rfl, _, rfl, ifF (by decide +kernel) ?_⟩
      exact ⟨i, v, sd, _, _, _, _, _, _, _, _, _, _, _, _, _, _, _, _, _, _, _, _, _, _, _, rfl, (R10.extN e11).same s14, (Keep.of s14).tabs tb11⟩
    · rintro σ G ⟨i, v, sd, o2, o3, o4, o5, o6, o7, o8, o9, o10, o11, o12, o13, o14, o15, o16, o17, o18, o19, o20, o21, o22, o23, o24, rfl, R, tb⟩
      exact k _
end K26
namespace K26
open PySem PySem.Spec PyProof.Rows L2 Ew
theorem all_mk {l : PySem.W.OpenLaw} {w : World} {K : PySem.W.Frag} {h : Heap} {mg : Str → Option Value} {fa C1 C2 C3 CB CI CP CO CM CN CT CY fIB fID fIP fIO fIM fIN fIT fIY CD fIn fDLo fDHi fRe CL fLI fLo fHi fG fSu fDf fPr fQu fIl fWi fAs fNf fSo fSg fIf fDo fAsf fCk fCy fCt fCr fA fW fSp fB fD fP fF fO fT fL fPl fMi fTi fOv fEn fLA fLD fII fSt fPt fSl fNo fTk fSh fMd fFr fLaw c PP : Addr} (X : K.In h) (G : h.Ns mainGlobals mg) (hfa : mg "law" = some (.ref fa)) (own : LamX.OwnTab K fa h) (own2 : ∀ fe, mg "_law_tags" = some (.ref fe) → LamX.OwnTab K fe h)
    {oc kV doc pm ct : Value} {od an dd : Option Addr} {osl sl : Array (Option Value)} {vs : Array Value} {tk0 tk1 tk2 tk3 tk4 tk5 tk6 tk7 tk8 : Tok} {fCs fDd fLd fTg : Addr} {c2 PP2 : Addr} {oc2 kV2 doc2 pm2 ct2 : Value} {od2 an2 dd2 : Option Addr} {osl2 sl2 : Array (Option Value)} {vs2 : Array Value} 
    (n1 : PySem.W.nsIn K mainGlobals "EarlyError" = some (some (.ref C1)))
    (n2 : PySem.W.nsIn K mainGlobals "UndefinedName" = some (some (.ref C2)))
    (n3 : PySem.W.nsIn K mainGlobals "EmptyHistory" = some (some (.ref C3)))
    (nB : PySem.W.nsIn K mainGlobals "InvalidBase" = some (some (.ref CB)))
    (oB : OexC K CB)
    (fB_ : XfC K CB)
    (tB : PySem.W.findIn K (.ref CB) "tag" = some none)
    (iB : PySem.W.findIn K (.ref CB) "__init__" = some (some (.ref fIB)))
    (yB : PySem.W.typeIn K (.ref fIB) = some (.type "function"))
    (dB : DefAt K "__init__" "InvalidBase.__init__" sInvalidBase_init fIB)
    (nI : PySem.W.nsIn K mainGlobals "InvalidDigits" = some (some (.ref CI)))
    (oI : OexC K CI)
    (fI_ : XfC K CI)
    (tI : PySem.W.findIn K (.ref CI) "tag" = some none)
    (iI : PySem.W.findIn K (.ref CI) "__init__" = some (some (.ref fID)))
    (yI : PySem.W.typeIn K (.ref fID) = some (.type "function"))
    (dI : DefAt K "__init__" "InvalidDigits.__init__" sInvalidDigits_init fID)
    (nP : PySem.W.nsIn K mainGlobals "InvalidPoints" = some (some (.ref CP)))
    (oP : OexC K CP)
    (fP_ : XfC K CP)
    (tP : PySem.W.findIn K (.ref CP) "tag" = some none)
    (iP : PySem.W.findIn K (.ref CP) "__init__" = some (some (.ref fIP)))
    (yP : PySem.W.typeIn K (.ref fIP) = some (.type "function"))
    (dP : DefAt K "__init__" "InvalidPoints.__init__" sInvalidPoints_init fIP)
    (nO : PySem.W.nsIn K mainGlobals "OutOfRange" = some (some (.ref CO)))
    (oO : OexC K CO)
    (fO_ : XfC K CO)
    (tO : PySem.W.findIn K (.ref CO) "tag" = some none)
    (iO : PySem.W.findIn K (.ref CO) "__init__" = some (some (.ref fIO)))
    (yO : PySem.W.typeIn K (.ref fIO) = some (.type "function"))
    (dO : DefAt K "__init__" "OutOfRange.__init__" sOutOfRange_init fIO)
    (nM : PySem.W.nsIn K mainGlobals "LimitReached" = some (some (.ref CM)))
    (oM : OexC K CM)
    (fM_ : XfC K CM)
    (tM : PySem.W.findIn K (.ref CM) "tag" = some none)
    (iM : PySem.W.findIn K (.ref CM) "__init__" = some (some (.ref fIM)))
    (yM : PySem.W.typeIn K (.ref fIM) = some (.type "function"))
    (dM : DefAt K "__init__" "LimitReached.__init__" sLimitReached_init fIM)
    (nN : PySem.W.nsIn K mainGlobals "Incompatible" = some (some (.ref CN)))
    (oN : OexC K CN)
    (fN_ : XfC K CN)
    (tN : PySem.W.findIn K (.ref CN) "tag" = some none)
    (iN : PySem.W.findIn K (.ref CN) "__init__" = some (some (.ref fIN)))
    (yN : PySem.W.typeIn K (.ref fIN) = some (.type "function"))
    (dN : DefAt K "__init__" "Incompatible.__init__" sIncompatible_init fIN)
    (nT : PySem.W.nsIn K mainGlobals "NotRedundant" = some (some (.ref CT)))
    (oT : OexC K CT)
    (fT_ : XfC K CT)
    (tT : PySem.W.findIn K (.ref CT) "tag" = some none)
    (iT : PySem.W.findIn K (.ref CT) "__init__" = some (some (.ref fIT)))
    (yT : PySem.W.typeIn K (.ref fIT) = some (.type "function"))
    (dT : DefAt K "__init__" "NotRedundant.__init__" sNotRedundant_init fIT)
    (nY : PySem.W.nsIn K mainGlobals "InvalidDelay" = some (some (.ref CY)))
    (oY : OexC K CY)
    (fY_ : XfC K CY)
    (tY : PySem.W.findIn K (.ref CY) "tag" = some none)
    (iY : PySem.W.findIn K (.ref CY) "__init__" = some (some (.ref fIY)))
    (yY : PySem.W.typeIn K (.ref fIY) = some (.type "function"))
    (dY : DefAt K "__init__" "InvalidDelay.__init__" sInvalidDelay_init fIY)
    (x1N : ExmIn K CN C1 true)
    (x2N : ExmIn K CN C2 false)
    (x3N : ExmIn K CN C3 false)
    (x1O : ExmIn K CO C1 true)
    (x2O : ExmIn K CO C2 false)
    (x3O : ExmIn K CO C3 false)
    (x1T : ExmIn K CT C1 true)
    (x2T : ExmIn K CT C2 false)
    (x3T : ExmIn K CT C3 false)
    (x1Y : ExmIn K CY C1 true)
    (x2Y : ExmIn K CY C2 false)
    (x3Y : ExmIn K CY C3 false)
    (nD : PySem.W.nsIn K mainGlobals "DigitSet" = some (some (.ref CD)))
    (cD : Cls K CD)
    (mD : PySem.W.makesIn K CD = true)
    (kD : PySem.W.keepIn K (.ref CD) = true)
    (aB : PySem.W.findIn K (.ref CD) "base" = some none)
    (aD : PySem.W.findIn K (.ref CD) "digits" = some none)
    (iD : PySem.W.findIn K (.ref CD) "__init__" = some (some (.ref fIn)))
    (iF : PySem.W.isFn K (.ref fIn) = true)
    (dIn : DefAt K "__init__" "DigitSet.__init__" sDigitSet_init fIn)
    (m_fDLo : PySem.W.findIn K (.ref CD) "low" = some (some (.ref fDLo)))
    (i_fDLo : PySem.W.isFn K (.ref fDLo) = true)
    (k_fDLo : PySem.W.keepIn K (.ref fDLo) = true)
    (d_fDLo : DefAt K "low" "DigitSet.low" sDigitSet_low fDLo)
    (m_fDHi : PySem.W.findIn K (.ref CD) "high" = some (some (.ref fDHi)))
    (i_fDHi : PySem.W.isFn K (.ref fDHi) = true)
    (k_fDHi : PySem.W.keepIn K (.ref fDHi) = true)
    (d_fDHi : DefAt K "high" "DigitSet.high" sDigitSet_high fDHi)
    (m_fRe : PySem.W.findIn K (.ref CD) "is_redundant" = some (some (.ref fRe)))
    (i_fRe : PySem.W.isFn K (.ref fRe) = true)
    (k_fRe : PySem.W.keepIn K (.ref fRe) = true)
    (d_fRe : DefAt K "is_redundant" "DigitSet.is_redundant" sDigitSet_is_redundant fRe)
    (nL : PySem.W.nsIn K mainGlobals "LineFunction" = some (some (.ref CL)))
    (cL : Cls K CL)
    (mL : PySem.W.makesIn K CL = true)
    (kL : PySem.W.keepIn K (.ref CL) = true)
    (aL_corners : PySem.W.findIn K (.ref CL) "corners" = some none)
    (iL : PySem.W.findIn K (.ref CL) "__init__" = some (some (.ref fLI)))
    (iFL : PySem.W.isFn K (.ref fLI) = true)
    (d_fLI : DefAt K "__init__" "LineFunction.__init__" sLineFunction_init fLI)
    (m_fLo : PySem.W.findIn K (.ref CL) "low" = some (some (.ref fLo)))
    (i_fLo : PySem.W.isFn K (.ref fLo) = true)
    (k_fLo : PySem.W.keepIn K (.ref fLo) = true)
    (d_fLo : DefAt K "low" "LineFunction.low" sLineFunction_low fLo)
    (m_fHi : PySem.W.findIn K (.ref CL) "high" = some (some (.ref fHi)))
    (i_fHi : PySem.W.isFn K (.ref fHi) = true)
    (k_fHi : PySem.W.keepIn K (.ref fHi) = true)
    (d_fHi : DefAt K "high" "LineFunction.high" sLineFunction_high fHi)
    (nLim : PySem.W.findIn K (.ref CM) "limit" = some none)
    (n_fCs : PySem.W.nsIn K mainGlobals "count_states" = some (some (.ref fCs)))
    (d_fCs : KwI K "count_states" [("limit", 400)] sCountStates fCs)
    (n_fDd : PySem.W.nsIn K mainGlobals "decide" = some (some (.ref fDd)))
    (d_fDd : KwI K "decide" [("limit", 400)] sDecide fDd)
    (n_fLd : PySem.W.nsIn K mainGlobals "least_delay" = some (some (.ref fLd)))
    (d_fLd : KwI K "least_delay" [("first", -6), ("last", 9), ("limit", 400)] sLeastDelay fLd)
    (n_fTg : PySem.W.nsIn K mainGlobals "_law_tags" = some (some (.ref fTg)))
    (k_fTg : PySem.W.keepIn K (.ref fTg) = true)
    (lk2 : K.lookup fTg = some ⟨oc2, od2, .func (PySem.W.fnOf "_law_tags" "_law_tags" (defArgs sLawTags) (defBody sLawTags) (defScope sLawTags) .none kV2 doc2 pm2 an2 (.ref c2) ct2), osl2⟩)
    (cd2 : PySem.W.codeIn K (.ref c2) "_law_tags" = true)
    (code2 : CodeAt K c2 PP2 vs2 dd2 sl2)
    (nPP : PP2 ≠ PP)
    (n_fG : PySem.W.nsIn K mainGlobals "common_divisor" = some (some (.ref fG)))
    (d_fG : DefAt K "common_divisor" "common_divisor" sGcd fG)
    (n_fSu : PySem.W.nsIn K mainGlobals "sum_of" = some (some (.ref fSu)))
    (d_fSu : DefAt K "sum_of" "sum_of" sSumOf fSu)
    (n_fDf : PySem.W.nsIn K mainGlobals "difference" = some (some (.ref fDf)))
    (d_fDf : DefAt K "difference" "difference" sDifference fDf)
    (n_fPr : PySem.W.nsIn K mainGlobals "product" = some (some (.ref fPr)))
    (d_fPr : DefAt K "product" "product" sProduct fPr)
    (n_fQu : PySem.W.nsIn K mainGlobals "quotient" = some (some (.ref fQu)))
    (d_fQu : DefAt K "quotient" "quotient" sQuotient fQu)
    (n_fIl : PySem.W.nsIn K mainGlobals "is_less" = some (some (.ref fIl)))
    (d_fIl : DefAt K "is_less" "is_less" sIsLess fIl)
    (n_fWi : PySem.W.nsIn K mainGlobals "is_within" = some (some (.ref fWi)))
    (d_fWi : DefAt K "is_within" "is_within" sIsWithin fWi)
    (n_fAs : PySem.W.nsIn K mainGlobals "is_ascending" = some (some (.ref fAs)))
    (d_fAs : DefAt K "is_ascending" "is_ascending" sIsAscending fAs)
    (n_fNf : PySem.W.nsIn K mainGlobals "normal_form" = some (some (.ref fNf)))
    (d_fNf : DefAt K "normal_form" "normal_form" sNormalForm fNf)
    (n_fSo : PySem.W.nsIn K mainGlobals "slope_of" = some (some (.ref fSo)))
    (d_fSo : DefAt K "slope_of" "slope_of" sSlopeOf fSo)
    (n_fSg : PySem.W.nsIn K mainGlobals "straight" = some (some (.ref fSg)))
    (d_fSg : DefAt K "straight" "straight" sStraight fSg)
    (n_fIf : PySem.W.nsIn K mainGlobals "is_safe" = some (some (.ref fIf)))
    (d_fIf : DefAt K "is_safe" "is_safe" sIsSafe fIf)
    (n_fDo : PySem.W.nsIn K mainGlobals "is_defined_on" = some (some (.ref fDo)))
    (d_fDo : DefAt K "is_defined_on" "is_defined_on" sIsDefinedOn fDo)
    (n_fAsf : PySem.W.nsIn K mainGlobals "are_safe" = some (some (.ref fAsf)))
    (d_fAsf : DefAt K "are_safe" "are_safe" sAreSafe fAsf)
    (n_fCk : PySem.W.nsIn K mainGlobals "check_task" = some (some (.ref fCk)))
    (d_fCk : DefAt K "check_task" "check_task" sCheckTask fCk)
    (n_fCy : PySem.W.nsIn K mainGlobals "check_delay" = some (some (.ref fCy)))
    (d_fCy : DefAt K "check_delay" "check_delay" sCheckDelay fCy)
    (n_fCt : PySem.W.nsIn K mainGlobals "check_table" = some (some (.ref fCt)))
    (d_fCt : DefAt K "check_table" "check_table" sCheckTable fCt)
    (n_fCr : PySem.W.nsIn K mainGlobals "check_refutation" = some (some (.ref fCr)))
    (d_fCr : DefAt K "check_refutation" "check_refutation" sCheckRefutation fCr)
    (n_fA : PySem.W.nsIn K mainGlobals "are_digits" = some (some (.ref fA)))
    (d_fA : DefAt K "are_digits" "are_digits" sAreDigits fA)
    (n_fW : PySem.W.nsIn K mainGlobals "widest_gap" = some (some (.ref fW)))
    (d_fW : DefAt K "widest_gap" "widest_gap" sWidestGap fW)
    (n_fSp : PySem.W.nsIn K mainGlobals "spread" = some (some (.ref fSp)))
    (d_fSp : DefAt K "spread" "spread" sSpread fSp)
    (n_fB : PySem.W.nsIn K mainGlobals "_law_begin" = some (some (.ref fB)))
    (d_fB : DefAt K "_law_begin" "_law_begin" sBegin fB)
    (n_fD : PySem.W.nsIn K mainGlobals "_law_draw" = some (some (.ref fD)))
    (d_fD : DefAt K "_law_draw" "_law_draw" sDraw fD)
    (n_fP : PySem.W.nsIn K mainGlobals "_law_pick" = some (some (.ref fP)))
    (d_fP : DefAt K "_law_pick" "_law_pick" sPick fP)
    (n_fF : PySem.W.nsIn K mainGlobals "_law_field" = some (some (.ref fF)))
    (d_fF : DefAt K "_law_field" "_law_field" sField fF)
    (n_fO : PySem.W.nsIn K mainGlobals "_law_outcome" = some (some (.ref fO)))
    (d_fO : DefAt K "_law_outcome" "_law_outcome" sOutcome fO)
    (n_fT : PySem.W.nsIn K mainGlobals "_law_tag" = some (some (.ref fT)))
    (d_fT : DefAt K "_law_tag" "_law_tag" sLawTag fT)
    (n_fL : PySem.W.nsIn K mainGlobals "_law_lowest" = some (some (.ref fL)))
    (d_fL : DefAt K "_law_lowest" "_law_lowest" sLowest fL)
    (n_fPl : PySem.W.nsIn K mainGlobals "_law_plus" = some (some (.ref fPl)))
    (d_fPl : DefAt K "_law_plus" "_law_plus" sLawPlus fPl)
    (n_fMi : PySem.W.nsIn K mainGlobals "_law_minus" = some (some (.ref fMi)))
    (d_fMi : DefAt K "_law_minus" "_law_minus" sLawMinus fMi)
    (n_fTi : PySem.W.nsIn K mainGlobals "_law_times" = some (some (.ref fTi)))
    (d_fTi : DefAt K "_law_times" "_law_times" sLawTimes fTi)
    (n_fOv : PySem.W.nsIn K mainGlobals "_law_over" = some (some (.ref fOv)))
    (d_fOv : DefAt K "_law_over" "_law_over" sLawOver fOv)
    (n_fEn : PySem.W.nsIn K mainGlobals "_law_ends" = some (some (.ref fEn)))
    (d_fEn : DefAt K "_law_ends" "_law_ends" sLawEnds fEn)
    (n_fLA : PySem.W.nsIn K mainGlobals "_law_are_digits" = some (some (.ref fLA)))
    (d_fLA : DefAt K "_law_are_digits" "_law_are_digits" sLawAreDigits fLA)
    (n_fLD : PySem.W.nsIn K mainGlobals "_law_digits" = some (some (.ref fLD)))
    (d_fLD : DefAt K "_law_digits" "_law_digits" sLawDigits fLD)
    (n_fII : PySem.W.nsIn K mainGlobals "_law_in_interval" = some (some (.ref fII)))
    (d_fII : DefAt K "_law_in_interval" "_law_in_interval" sLawInInterval fII)
    (n_fSt : PySem.W.nsIn K mainGlobals "_law_set" = some (some (.ref fSt)))
    (d_fSt : DefAt K "_law_set" "_law_set" sLawSet fSt)
    (n_fPt : PySem.W.nsIn K mainGlobals "_law_points" = some (some (.ref fPt)))
    (d_fPt : DefAt K "_law_points" "_law_points" sLawPoints fPt)
    (n_fSl : PySem.W.nsIn K mainGlobals "_law_slope" = some (some (.ref fSl)))
    (d_fSl : DefAt K "_law_slope" "_law_slope" sLawSlope fSl)
    (n_fNo : PySem.W.nsIn K mainGlobals "_law_normal" = some (some (.ref fNo)))
    (d_fNo : DefAt K "_law_normal" "_law_normal" sLawNormal fNo)
    (n_fTk : PySem.W.nsIn K mainGlobals "_law_task" = some (some (.ref fTk)))
    (d_fTk : DefAt K "_law_task" "_law_task" sLawTask fTk)
    (n_fSh : PySem.W.nsIn K mainGlobals "_law_shrunk" = some (some (.ref fSh)))
    (d_fSh : DefAt K "_law_shrunk" "_law_shrunk" sLawShrunk fSh)
    (n_fMd : PySem.W.nsIn K mainGlobals "_law_made" = some (some (.ref fMd)))
    (d_fMd : DefAt K "_law_made" "_law_made" sLawMade fMd)
    (n_fFr : PySem.W.nsIn K mainGlobals "fraction" = some (some (.ref fFr)))
    (d_fFr : DfltAt K "fraction" sFraction (.int 1) fFr)
    (n_fLaw : PySem.W.nsIn K mainGlobals "law" = some (some (.ref fLaw)))
    (lLaw : K.lookup fLaw = some ⟨oc, od, .func (PySem.W.fnOf "law" "law" (defArgs sLaw) (defBody sLaw) (defScope sLaw) .none kV doc pm an (.ref c) ct), osl⟩)
    (cLaw : PySem.W.codeIn K (.ref c) "law" = true)
    (code : CodeAt K c PP vs dd sl)
    (cst0 : PySem.W.nsIn K mainGlobals "MIN_POINTS" = some (some (.int 2 tk0)))
    (cst1 : PySem.W.nsIn K mainGlobals "MAX_PIECES" = some (some (.int 12 tk1)))
    (cst2 : PySem.W.nsIn K mainGlobals "MIN_BASE" = some (some (.int 2 tk2)))
    (cst3 : PySem.W.nsIn K mainGlobals "MAX_BASE" = some (some (.int 10 tk3)))
    (cst4 : PySem.W.nsIn K mainGlobals "MIN_DIGITS" = some (some (.int 2 tk4)))
    (cst5 : PySem.W.nsIn K mainGlobals "MAX_DIGITS" = some (some (.int 24 tk5)))
    (cst6 : PySem.W.nsIn K mainGlobals "MAX_DIGIT" = some (some (.int 99 tk6)))
    (cst7 : PySem.W.nsIn K mainGlobals "MIN_DELAY" = some (some (.int (-6) tk7)))
    (cst8 : PySem.W.nsIn K mainGlobals "MAX_DELAY" = some (some (.int 9 tk8)))
    (zlen : PySem.W.nsIn K mainGlobals "len" = some none)
    (zlist : PySem.W.nsIn K mainGlobals "list" = some none)
    (zisinstance : PySem.W.nsIn K mainGlobals "isinstance" = some none)
    (ztuple : PySem.W.nsIn K mainGlobals "tuple" = some none)
    (zall : PySem.W.nsIn K mainGlobals "all" = some none)
    (zzip : PySem.W.nsIn K mainGlobals "zip" = some none)
    (zbool : PySem.W.nsIn K mainGlobals "bool" = some none)
    (zint : PySem.W.nsIn K mainGlobals "int" = some none)
    (zstr : PySem.W.nsIn K mainGlobals "str" = some none)
    (zrange : PySem.W.nsIn K mainGlobals "range" = some none)
    (zabs : PySem.W.nsIn K mainGlobals "abs" = some none)
    (zsorted : PySem.W.nsIn K mainGlobals "sorted" = some none)
    (zset : PySem.W.nsIn K mainGlobals "set" = some none)
    (zmax : PySem.W.nsIn K mainGlobals "max" = some none)
    (zmin : PySem.W.nsIn K mainGlobals "min" = some none) :
    LamX.LawAtS l w K CX0 13 63 "_law_script" mg fa h := by
  have e := hfa.symm.trans (PySem.W.mg_of X G n_fLaw)
  cases e
  obtain ⟨fdB0, FB0⟩ := dB
  obtain ⟨fdI0, FI0⟩ := dI
  obtain ⟨fdP0, FP0⟩ := dP
  obtain ⟨fdO0, FO0⟩ := dO
  obtain ⟨fdM0, FM0⟩ := dM
  obtain ⟨fdN0, FN0⟩ := dN
  obtain ⟨fdT0, FT0⟩ := dT
  obtain ⟨fdY0, FY0⟩ := dY
  obtain ⟨fdIn, FIn⟩ := dIn
  obtain ⟨fd_fDLo, F_fDLo⟩ := d_fDLo
  obtain ⟨fd_fDHi, F_fDHi⟩ := d_fDHi
  obtain ⟨fd_fRe, F_fRe⟩ := d_fRe
  obtain ⟨fd_fLI, F_fLI⟩ := d_fLI
  obtain ⟨fd_fLo, F_fLo⟩ := d_fLo
  obtain ⟨fd_fHi, F_fHi⟩ := d_fHi
  obtain ⟨fd_fG, F_fG⟩ := d_fG
  obtain ⟨fd_fSu, F_fSu⟩ := d_fSu
  obtain ⟨fd_fDf, F_fDf⟩ := d_fDf
  obtain ⟨fd_fPr, F_fPr⟩ := d_fPr
  obtain ⟨fd_fQu, F_fQu⟩ := d_fQu
  obtain ⟨fd_fIl, F_fIl⟩ := d_fIl
  obtain ⟨fd_fWi, F_fWi⟩ := d_fWi
  obtain ⟨fd_fAs, F_fAs⟩ := d_fAs
  obtain ⟨fd_fNf, F_fNf⟩ := d_fNf
  obtain ⟨fd_fSo, F_fSo⟩ := d_fSo
  obtain ⟨fd_fSg, F_fSg⟩ := d_fSg
  obtain ⟨fd_fIf, F_fIf⟩ := d_fIf
  obtain ⟨fd_fDo, F_fDo⟩ := d_fDo
  obtain ⟨fd_fAsf, F_fAsf⟩ := d_fAsf
  obtain ⟨fd_fCk, F_fCk⟩ := d_fCk
  obtain ⟨fd_fCy, F_fCy⟩ := d_fCy
  obtain ⟨fd_fCt, F_fCt⟩ := d_fCt
  obtain ⟨fd_fCr, F_fCr⟩ := d_fCr
  obtain ⟨fd_fA, F_fA⟩ := d_fA
  obtain ⟨fd_fW, F_fW⟩ := d_fW
  obtain ⟨fd_fSp, F_fSp⟩ := d_fSp
  obtain ⟨fd_fB, F_fB⟩ := d_fB
  obtain ⟨fd_fD, F_fD⟩ := d_fD
  obtain ⟨fd_fP, F_fP⟩ := d_fP
  obtain ⟨fd_fF, F_fF⟩ := d_fF
  obtain ⟨fd_fO, F_fO⟩ := d_fO
  obtain ⟨fd_fT, F_fT⟩ := d_fT
  obtain ⟨fd_fL, F_fL⟩ := d_fL
  obtain ⟨fd_fPl, F_fPl⟩ := d_fPl
  obtain ⟨fd_fMi, F_fMi⟩ := d_fMi
  obtain ⟨fd_fTi, F_fTi⟩ := d_fTi
  obtain ⟨fd_fOv, F_fOv⟩ := d_fOv
  obtain ⟨fd_fEn, F_fEn⟩ := d_fEn
  obtain ⟨fd_fLA, F_fLA⟩ := d_fLA
  obtain ⟨fd_fLD, F_fLD⟩ := d_fLD
  obtain ⟨fd_fII, F_fII⟩ := d_fII
  obtain ⟨fd_fSt, F_fSt⟩ := d_fSt
  obtain ⟨fd_fPt, F_fPt⟩ := d_fPt
  obtain ⟨fd_fSl, F_fSl⟩ := d_fSl
  obtain ⟨fd_fNo, F_fNo⟩ := d_fNo
  obtain ⟨fd_fTk, F_fTk⟩ := d_fTk
  obtain ⟨fd_fSh, F_fSh⟩ := d_fSh
  obtain ⟨fd_fMd, F_fMd⟩ := d_fMd
  obtain ⟨fd_fFr, F_fFr⟩ := d_fFr
  have bB0 := FB0.binds (ps := ["self"]) fun _ _ _ _ _ _ us hl => match us, hl with | [_], _ => rfl
  have bI0 := FI0.binds (ps := ["self"]) fun _ _ _ _ _ _ us hl => match us, hl with | [_], _ => rfl
  have bP0 := FP0.binds (ps := ["self"]) fun _ _ _ _ _ _ us hl => match us, hl with | [_], _ => rfl
  have bO0 := FO0.binds (ps := ["self"]) fun _ _ _ _ _ _ us hl => match us, hl with | [_], _ => rfl
  have bM0 := FM0.binds (ps := ["self", "limit"]) fun _ _ _ _ _ _ us hl => match us, hl with | [_, _], _ => rfl
  have bN0 := FN0.binds (ps := ["self"]) fun _ _ _ _ _ _ us hl => match us, hl with | [_], _ => rfl
  have bT0 := FT0.binds (ps := ["self"]) fun _ _ _ _ _ _ us hl => match us, hl with | [_], _ => rfl
  have bY0 := FY0.binds (ps := ["self"]) fun _ _ _ _ _ _ us hl => match us, hl with | [_], _ => rfl
  have bIn := FIn.binds (ps := ["self", "base", "digits"]) fun _ _ _ _ _ _ us hl => match us, hl with | [_, _, _], _ => rfl
  have b_fDLo := F_fDLo.binds (ps := ["self"]) fun _ _ _ _ _ _ us hl => match us, hl with | [_], _ => rfl
  have b_fDHi := F_fDHi.binds (ps := ["self"]) fun _ _ _ _ _ _ us hl => match us, hl with | [_], _ => rfl
  have b_fRe := F_fRe.binds (ps := ["self"]) fun _ _ _ _ _ _ us hl => match us, hl with | [_], _ => rfl
  have b_fLI := F_fLI.binds (ps := ["self", "points"]) fun _ _ _ _ _ _ us hl => match us, hl with | [_, _], _ => rfl
  have b_fLo := F_fLo.binds (ps := ["self"]) fun _ _ _ _ _ _ us hl => match us, hl with | [_], _ => rfl
  have b_fHi := F_fHi.binds (ps := ["self"]) fun _ _ _ _ _ _ us hl => match us, hl with | [_], _ => rfl
  have b_fG := F_fG.binds (ps := ["one", "other"]) fun _ _ _ _ _ _ us hl => match us, hl with | [_, _], _ => rfl
  have b_fSu := F_fSu.binds (ps := ["one", "other"]) fun _ _ _ _ _ _ us hl => match us, hl with | [_, _], _ => rfl
  have b_fDf := F_fDf.binds (ps := ["one", "other"]) fun _ _ _ _ _ _ us hl => match us, hl with | [_, _], _ => rfl
  have b_fPr := F_fPr.binds (ps := ["one", "other"]) fun _ _ _ _ _ _ us hl => match us, hl with | [_, _], _ => rfl
  have b_fQu := F_fQu.binds (ps := ["one", "other"]) fun _ _ _ _ _ _ us hl => match us, hl with | [_, _], _ => rfl
  have b_fIl := F_fIl.binds (ps := ["one", "other"]) fun _ _ _ _ _ _ us hl => match us, hl with | [_, _], _ => rfl
  have b_fWi := F_fWi.binds (ps := ["number", "low", "high"]) fun _ _ _ _ _ _ us hl => match us, hl with | [_, _, _], _ => rfl
  have b_fAs := F_fAs.binds (ps := ["numbers"]) fun _ _ _ _ _ _ us hl => match us, hl with | [_], _ => rfl
  have b_fNf := F_fNf.binds (ps := ["points"]) fun _ _ _ _ _ _ us hl => match us, hl with | [_], _ => rfl
  have b_fSo := F_fSo.binds (ps := ["left", "right"]) fun _ _ _ _ _ _ us hl => match us, hl with | [_, _], _ => rfl
  have b_fSg := F_fSg.binds (ps := ["slope", "offset", "low", "high"]) fun _ _ _ _ _ _ us hl => match us, hl with | [_, _, _, _], _ => rfl
  have b_fIf := F_fIf.binds (ps := ["function", "write"]) fun _ _ _ _ _ _ us hl => match us, hl with | [_, _], _ => rfl
  have b_fDo := F_fDo.binds (ps := ["function", "read"]) fun _ _ _ _ _ _ us hl => match us, hl with | [_, _], _ => rfl
  have b_fAsf := F_fAsf.binds (ps := ["points", "write"]) fun _ _ _ _ _ _ us hl => match us, hl with | [_, _], _ => rfl
  have b_fCk := F_fCk.binds (ps := ["function", "read", "write"]) fun _ _ _ _ _ _ us hl => match us, hl with | [_, _, _], _ => rfl
  have b_fCy := F_fCy.binds (ps := ["delay"]) fun _ _ _ _ _ _ us hl => match us, hl with | [_], _ => rfl
  have b_fCt := F_fCt.binds (ps := ["function", "read", "write", "delay", "table"]) fun _ _ _ _ _ _ us hl => match us, hl with | [_, _, _, _, _], _ => rfl
  have b_fCr := F_fCr.binds (ps := ["function", "read", "write", "delay", "refutation"]) fun _ _ _ _ _ _ us hl => match us, hl with | [_, _, _, _, _], _ => rfl
  have b_fA := F_fA.binds (ps := ["base", "ascending"]) fun _ _ _ _ _ _ us hl => match us, hl with | [_, _], _ => rfl
  have b_fW := F_fW.binds (ps := ["ascending"]) fun _ _ _ _ _ _ us hl => match us, hl with | [_], _ => rfl
  have b_fSp := F_fSp.binds (ps := ["ascending"]) fun _ _ _ _ _ _ us hl => match us, hl with | [_], _ => rfl
  have b_fB := F_fB.binds (ps := ["_law_script"]) fun _ _ _ _ _ _ us hl => match us, hl with | [_], _ => rfl
  have b_fD := F_fD.binds (ps := ["_law_rng", "_law_many"]) fun _ _ _ _ _ _ us hl => match us, hl with | [_, _], _ => rfl
  have b_fP := F_fP.binds (ps := ["_law_rng", "_law_items"]) fun _ _ _ _ _ _ us hl => match us, hl with | [_, _], _ => rfl
  have b_fF := F_fF.binds (ps := ["_law_e"]) fun _ _ _ _ _ _ us hl => match us, hl with | [_], _ => rfl
  have b_fO := F_fO.binds (ps := ["_law_ask"]) fun _ _ _ _ _ _ us hl => match us, hl with | [_], _ => rfl
  have b_fT := F_fT.binds (ps := ["_law_ask"]) fun _ _ _ _ _ _ us hl => match us, hl with | [_], _ => rfl
  have b_fL := F_fL.binds (ps := ["_law_above", "_law_below"]) fun _ _ _ _ _ _ us hl => match us, hl with | [_, _], _ => rfl
  have b_fPl := F_fPl.binds (ps := ["_law_one", "_law_other"]) fun _ _ _ _ _ _ us hl => match us, hl with | [_, _], _ => rfl
  have b_fMi := F_fMi.binds (ps := ["_law_one", "_law_other"]) fun _ _ _ _ _ _ us hl => match us, hl with | [_, _], _ => rfl
  have b_fTi := F_fTi.binds (ps := ["_law_one", "_law_other"]) fun _ _ _ _ _ _ us hl => match us, hl with | [_, _], _ => rfl
  have b_fOv := F_fOv.binds (ps := ["_law_one", "_law_other"]) fun _ _ _ _ _ _ us hl => match us, hl with | [_, _], _ => rfl
  have b_fEn := F_fEn.binds (ps := ["_law_base", "_law_digits_here"]) fun _ _ _ _ _ _ us hl => match us, hl with | [_, _], _ => rfl
  have b_fLA := F_fLA.binds (ps := ["_law_base", "_law_digits_here"]) fun _ _ _ _ _ _ us hl => match us, hl with | [_, _], _ => rfl
  have b_fLD := F_fLD.binds (ps := ["_law_rng", "_law_base", "_law_most"]) fun _ _ _ _ _ _ us hl => match us, hl with | [_, _, _], _ => rfl
  have b_fII := F_fII.binds (ps := ["_law_rng", "_law_ends_here", "_law_parts"]) fun _ _ _ _ _ _ us hl => match us, hl with | [_, _, _], _ => rfl
  have b_fSt := F_fSt.binds (ps := ["_law_base", "_law_digits_here"]) fun _ _ _ _ _ _ us hl => match us, hl with | [_, _], _ => rfl
  have b_fPt := F_fPt.binds (ps := ["_law_rng", "_law_ends_here", "_law_bounds", "_law_most"]) fun _ _ _ _ _ _ us hl => match us, hl with | [_, _, _, _], _ => rfl
  have b_fSl := F_fSl.binds (ps := ["_law_one", "_law_other"]) fun _ _ _ _ _ _ us hl => match us, hl with | [_, _], _ => rfl
  have b_fNo := F_fNo.binds (ps := ["_law_points_here"]) fun _ _ _ _ _ _ us hl => match us, hl with | [_], _ => rfl
  have b_fTk := F_fTk.binds (ps := ["_law_rng", "_law_most"]) fun _ _ _ _ _ _ us hl => match us, hl with | [_, _], _ => rfl
  have b_fSh := F_fSh.binds (ps := ["_law_value", "_law_ends_here"]) fun _ _ _ _ _ _ us hl => match us, hl with | [_, _], _ => rfl
  have b_fMd := F_fMd.binds (ps := ["_law_task_here"]) fun _ _ _ _ _ _ us hl => match us, hl with | [_], _ => rfl
  obtain ⟨ds2fFr, rds2fFr, b_fFr⟩ := F_fFr.binds1 (ps := ["numerator", "denominator"]) 2 1 (by simp) rfl fun T kV doc pm an cdv ct us its hu hi => match us, its, hu, hi with | [_, _], [_], _, _ => ⟨_, rfl, rfl⟩
  obtain rfl : ds2fFr = [] := by
    cases rds2fFr
    rfl
  have no : ∀ {x : Str}, PySem.W.nsIn K mainGlobals x = some none → mg x = none := fun z => PySem.W.mg_none_of X G z
  have at_ : ∀ {x : Str} {v : Value}, PySem.W.nsIn K mainGlobals x = some (some v) → mg x = some v := fun z => PySem.W.mg_of X G z
  have TEB : ErrT K mg "InvalidBase" CB fIB := ⟨at_ nB, oB, iB, yB, tB, fB_⟩
  have TEI : ErrT K mg "InvalidDigits" CI fID := ⟨at_ nI, oI, iI, yI, tI, fI_⟩
  have TEP : ErrT K mg "InvalidPoints" CP fIP := ⟨at_ nP, oP, iP, yP, tP, fP_⟩
  have TEO : ErrT K mg "OutOfRange" CO fIO := ⟨at_ nO, oO, iO, yO, tO, fO_⟩
  have TEM : ErrT K mg "LimitReached" CM fIM := ⟨at_ nM, oM, iM, yM, tM, fM_⟩
  have TEN : ErrT K mg "Incompatible" CN fIN := ⟨at_ nN, oN, iN, yN, tN, fN_⟩
  have TET : ErrT K mg "NotRedundant" CT fIT := ⟨at_ nT, oT, iT, yT, tT, fT_⟩
  have TEY : ErrT K mg "InvalidDelay" CY fIY := ⟨at_ nY, oY, iY, yY, tY, fY_⟩
  refine ⟨PySem.W.fnOf "law" "law" (defArgs sLaw) (defBody sLaw) (defScope sLaw) .none kV doc pm an (.ref c) ct, [(c, PP), (c2, PP2)], spLaw K PP PP2, fun p hp => ?_, fun p hp => ?_, fun p hp => ?_, fun s v => .of_eq rfl, fun H a ns hl _ hH hS => ?_, fun base _ _ TB => ?_⟩
  · rcases List.mem_cons.mp hp with e | hp
    · cases e
      exact own c PP _ _ _ _ _ _ lLaw rfl rfl code.l code.p
    · cases List.mem_singleton.mp hp
      exact own2 _ (PySem.W.mg_of X G n_fTg) c2 PP2 _ _ _ _ _ _ lk2 rfl rfl code2.l code2.p
  · rcases List.mem_cons.mp hp with e | hp
    · cases e
      exact code.n
    · cases List.mem_singleton.mp hp
      exact code2.n
  · rcases List.mem_cons.mp hp with e | hp
    · cases e
      exact code.hd X
    · cases List.mem_singleton.mp hp
      exact code2.hd X
  · exact ⟨a, ns, rfl, hS, hl, hH (c, PP) List.mem_cons_self, hH (c2, PP2) (List.mem_cons_of_mem _ List.mem_cons_self), fun _ => rfl⟩
  · have hTB := TB (c, PP) List.mem_cons_self
    have hTB2 := TB (c2, PP2) (List.mem_cons_of_mem _ List.mem_cons_self)
    have TR : TxtR mg := ⟨no zlen, no zlist⟩
    have okD : FnOk l.prog w K mg base CX0 1 fD fd_fD ["_law_rng", "_law_many"] spDraw := ok_draw F_fD TR
    have dD : Def l.prog w K mg base CX0 1 "_law_draw" fD fd_fD ["_law_rng", "_law_many"] spDraw := ⟨okD, at_ n_fD, F_fD.kp, b_fD⟩
    have dP : Def l.prog w K mg base CX0 2 "_law_pick" fP fd_fP ["_law_rng", "_law_items"] (spPick K) := ⟨ok_pick F_fP ⟨no zlen, at_ n_fD, F_fD.kp⟩ okD b_fD, at_ n_fP, F_fP.kp, b_fP⟩
    have dL : Def l.prog w K mg base CX0 1 "_law_lowest" fL fd_fL ["_law_above", "_law_below"] spLow := ⟨ok_low F_fL ⟨no zabs⟩, at_ n_fL, F_fL.kp, b_fL⟩
    have dLR : Def l.prog w K mg base CX0 1 "_law_lowest" fL fd_fL ["_law_above", "_law_below"] spLowR := ⟨r_low dL.ok, at_ n_fL, F_fL.kp, b_fL⟩
    have dPl : Def l.prog w K mg base CX0 2 "_law_plus" fPl fd_fPl ["_law_one", "_law_other"] (spR2 (· + ·) (fun _ _ => True)) := ⟨r_plus (ok_qplus F_fPl dL), at_ n_fPl, F_fPl.kp, b_fPl⟩
    have dMi : Def l.prog w K mg base CX0 2 "_law_minus" fMi fd_fMi ["_law_one", "_law_other"] (spR2 (· - ·) (fun _ _ => True)) := ⟨r_minus (ok_qminus F_fMi dL), at_ n_fMi, F_fMi.kp, b_fMi⟩
    have dTi : Def l.prog w K mg base CX0 2 "_law_times" fTi fd_fTi ["_law_one", "_law_other"] (spR2 (· * ·) (fun _ _ => True)) := ⟨r_times (ok_qtimes F_fTi dL), at_ n_fTi, F_fTi.kp, b_fTi⟩
    have dOv : Def l.prog w K mg base CX0 2 "_law_over" fOv fd_fOv ["_law_one", "_law_other"] (spR2 (· / ·) (fun _ s => s ≠ 0)) := ⟨ok_over F_fOv dL, at_ n_fOv, F_fOv.kp, b_fOv⟩
    have dFr : Def l.prog w K mg base (L2.CX l.prog w) 3 "fraction" fFr fd_fFr ["numerator", "denominator"] (spFraction CO) := ⟨ok_fraction F_fFr ⟨no zabs, TEO, at_ n_fG, F_fG.kp⟩ (ok_out FO0 TEO) bO0 (ok_gcd F_fG) b_fG, at_ n_fFr, F_fFr.kp, b_fFr⟩
    have dSu : Def l.prog w K mg base CX0 4 "sum_of" fSu fd_fSu ["one", "other"] (spR2 (· + ·) (fun _ _ => True)) := ⟨ok_SumOf F_fSu dFr, at_ n_fSu, F_fSu.kp, b_fSu⟩
    have dDf : Def l.prog w K mg base CX0 4 "difference" fDf fd_fDf ["one", "other"] (spR2 (· - ·) (fun _ _ => True)) := ⟨ok_Difference F_fDf dFr, at_ n_fDf, F_fDf.kp, b_fDf⟩
    have dPr : Def l.prog w K mg base CX0 4 "product" fPr fd_fPr ["one", "other"] (spR2 (· * ·) (fun _ _ => True)) := ⟨ok_Product F_fPr dFr, at_ n_fPr, F_fPr.kp, b_fPr⟩
    have dQu : Def l.prog w K mg base CX0 4 "quotient" fQu fd_fQu ["one", "other"] (spR2 (· / ·) (fun _ s => s ≠ 0)) := ⟨ok_Quotient F_fQu dFr, at_ n_fQu, F_fQu.kp, b_fQu⟩
    have dIl0 : Def l.prog w K mg base CX0 1 "is_less" fIl fd_fIl ["one", "other"] (spLess K) := ⟨ok_isless F_fIl, at_ n_fIl, F_fIl.kp, b_fIl⟩
    have dIl : Def l.prog w K mg base CX0 1 "is_less" fIl fd_fIl ["one", "other"] spRless := ⟨r_less dIl0.ok, at_ n_fIl, F_fIl.kp, b_fIl⟩
    have dWi : Def l.prog w K mg base CX0 2 "is_within" fWi fd_fWi ["number", "low", "high"] spRwithin := ⟨r_within (ok_within F_fWi dIl0), at_ n_fWi, F_fWi.kp, b_fWi⟩
    have dSo : Def l.prog w K mg base CX0 5 "slope_of" fSo fd_fSo ["left", "right"] spSlope := ⟨ok_slope_of F_fSo dDf dQu, at_ n_fSo, F_fSo.kp, b_fSo⟩
    have dAs : Def l.prog w K mg base CX0 2 "is_ascending" fAs fd_fAs ["numbers"] (spAsc K) := ⟨ok_asc F_fAs ⟨no zall, no zzip⟩ dIl, at_ n_fAs, F_fAs.kp, b_fAs⟩
    have dNf : Def l.prog w K mg base CX0 6 "normal_form" fNf fd_fNf ["points"] (spNormal K) := ⟨ok_normal F_fNf ⟨no zlen, no zrange, no ztuple⟩ dSo, at_ n_fNf, F_fNf.kp, b_fNf⟩
    have TL : TxtLF K mg CL := ⟨cL, aL_corners, no zlen, no zlist, ⟨_, at_ cst0⟩, ⟨_, at_ cst1⟩⟩
    have okLI := ok_lfInit (P := l.prog) (w := w) (base := base) F_fLI TL TEP TEM (ok_initPts FP0 TEP) bP0 (ok_initLim FM0 TEM nLim) bM0 dAs dNf
    have TG : TxtLG mg := ⟨no zlist, no zrange, no zlen⟩
    have DS : TxtDS K mg CD CB CI fIB fID fA := ⟨cD, aB, aD, ⟨_, at_ cst2⟩, ⟨_, at_ cst3⟩, TEB, TEI, no ztuple, no zsorted, no zlen, at_ n_fA, F_fA.kp⟩
    have dLA : Def l.prog w K mg base CX0 1 "_law_are_digits" fLA fd_fLA ["_law_base", "_law_digits_here"] (spLAre K) := ⟨ok_lare F_fLA ⟨no zsorted, no zlen, no zset, no zabs, no zall, no zrange⟩, at_ n_fLA, F_fLA.kp, b_fLA⟩
    have okA : FnOk l.prog w K mg base CX0 2 fA fd_fA ["base", "ascending"] (spAre K) := ok_are F_fA ⟨no zlen, no zset, ⟨_, at_ cst4⟩, ⟨_, at_ cst5⟩, ⟨_, at_ cst6⟩, at_ n_fW, F_fW.kp, at_ n_fSp, F_fSp.kp⟩ (ok_widest F_fW ⟨no zmax, no zzip⟩) b_fW (ok_spread F_fSp) b_fSp
    have okIn := ok_setInit (P := l.prog) (w := w) (base := base) FIn DS (ok_initBase FB0 TEB) bB0 (ok_initDigits FI0 TEI) bI0 okA b_fA
    have dSt : Def l.prog w K mg base CX0 5 "_law_set" fSt fd_fSt ["_law_base", "_law_digits_here"] (spLSet CD) := ⟨ok_lset F_fSt ⟨no zlist⟩ (at_ nD) ⟨mD, iD, iF, kD⟩ okIn bIn, at_ n_fSt, F_fSt.kp, b_fSt⟩
    have dLD : Def l.prog w K mg base CX0 3 "_law_digits" fLD fd_fLD ["_law_rng", "_law_base", "_law_most"] spLDigits := ⟨ok_ldigits F_fLD TG dD dP dLA, at_ n_fLD, F_fLD.kp, b_fLD⟩
    have dII : Def l.prog w K mg base CX0 3 "_law_in_interval" fII fd_fII ["_law_rng", "_law_ends_here", "_law_parts"] spRint := ⟨ok_rint F_fII dD dLR dPl dMi dTi, at_ n_fII, F_fII.kp, b_fII⟩
    have dPt : Def l.prog w K mg base CX0 4 "_law_points" fPt fd_fPt ["_law_rng", "_law_ends_here", "_law_bounds", "_law_most"] spPts := ⟨ok_pts F_fPt ⟨no zrange⟩ dD dLR dPl dMi dTi dII, at_ n_fPt, F_fPt.kp, b_fPt⟩
    have dSl : Def l.prog w K mg base CX0 3 "_law_slope" fSl fd_fSl ["_law_one", "_law_other"] spSlope := ⟨ok_lslope F_fSl dMi dOv, at_ n_fSl, F_fSl.kp, b_fSl⟩
    have dNo : Def l.prog w K mg base CX0 4 "_law_normal" fNo fd_fNo ["_law_points_here"] spLNormal := ⟨ok_lnormal F_fNo ⟨no zlen, no zrange⟩ dSl, at_ n_fNo, F_fNo.kp, b_fNo⟩
    have mLo : MDef l.prog w K mg base CX0 1 CL "low" fLo fd_fLo ["self"] (spLfEnd CL fun ps => (ps.getD 0 dpt).1) := ⟨ok_lfLow F_fLo TL, ⟨m_fLo, i_fLo, k_fLo⟩, cL, b_fLo⟩
    have mHi : MDef l.prog w K mg base CX0 1 CL "high" fHi fd_fHi ["self"] (spLfEnd CL fun ps => (ps.getD (ps.length - 1) dpt).1) := ⟨ok_lfHigh F_fHi TL, ⟨m_fHi, i_fHi, k_fHi⟩, cL, b_fHi⟩
    have mDLo : MDef l.prog w K mg base CX0 4 CD "low" fDLo fd_fDLo ["self"] (spEnd CD K firstI) := ⟨ok_slow F_fDLo DS dFr, ⟨m_fDLo, i_fDLo, k_fDLo⟩, cD, b_fDLo⟩
    have mDHi : MDef l.prog w K mg base CX0 4 CD "high" fDHi fd_fDHi ["self"] (spEnd CD K lastI) := ⟨ok_shigh F_fDHi DS dFr, ⟨m_fDHi, i_fDHi, k_fDHi⟩, cD, b_fDHi⟩
    have mRd : MDef l.prog w K mg base CX0 2 CD "is_redundant" fRe fd_fRe ["self"] (spRed CD K) := ⟨ok_red F_fRe DS ⟨no zlen, no zset, ⟨_, at_ cst4⟩, ⟨_, at_ cst5⟩, ⟨_, at_ cst6⟩, at_ n_fW, F_fW.kp, at_ n_fSp, F_fSp.kp⟩ (ok_widest F_fW ⟨no zmax, no zzip⟩) b_fW (ok_spread F_fSp) b_fSp, ⟨m_fRe, i_fRe, k_fRe⟩, cD, b_fRe⟩
    have dSg : Def l.prog w K mg base (L2.CX l.prog w) 9 "straight" fSg fd_fSg ["slope", "offset", "low", "high"] (spStraight CL CP) := ⟨ok_straight F_fSg (at_ nL) ⟨mL, iL, iFL, kL⟩ okLI b_fLI dSu dPr, at_ n_fSg, F_fSg.kp, b_fSg⟩
    have dAsf : Def l.prog w K mg base CX0 5 "are_safe" fAsf fd_fAsf ["points", "write"] (spAreSafe K CD) := ⟨ok_asf F_fAsf ⟨no ztuple, no zall⟩ mDLo mDHi dWi, at_ n_fAsf, F_fAsf.kp, b_fAsf⟩
    have dIf : Def l.prog w K mg base CX0 6 "is_safe" fIf fd_fIf ["function", "write"] (spIsSafe K CL CD) := ⟨ok_isf F_fIf TL dAsf, at_ n_fIf, F_fIf.kp, b_fIf⟩
    have dDo : Def l.prog w K mg base CX0 5 "is_defined_on" fDo fd_fDo ["function", "read"] (spDefOn K CL CD) := ⟨ok_defOn F_fDo mLo mHi mDLo mDHi, at_ n_fDo, F_fDo.kp, b_fDo⟩
    have dCk : Def l.prog w K mg base (L2.CX l.prog w) 7 "check_task" fCk fd_fCk ["function", "read", "write"] (spCheckTask K CL CD CN CO CT) := ⟨ok_checkTask F_fCk DS dDo dIf mRd TEN (ok_initInc FN0 TEN) bN0 TEO (ok_out FO0 TEO) bO0 TET (ok_initRed FT0 TET) bT0, at_ n_fCk, F_fCk.kp, b_fCk⟩
    have TCD : TxtCd mg := ⟨⟨_, at_ cst7⟩, ⟨_, at_ cst8⟩⟩
    have dCy : Def l.prog w K mg base (L2.CX l.prog w) 3 "check_delay" fCy fd_fCy ["delay"] (spCheckDelay CY) := ⟨ok_checkDelay F_fCy TCD TEY (ok_initDly FY0 TEY) bY0, at_ n_fCy, F_fCy.kp, b_fCy⟩
    have CK : CkAt l.prog w K mg base CL CD CN CO CT CY fCk fCy fIY fd_fCk fd_fCy fdY0 := ⟨dCk, dCy, TEY, ok_initDly FY0 TEY, bY0⟩
    obtain ⟨fd_fCs, F_fCs, D_fCs⟩ := d_fCs
    obtain ⟨dsfCs, rfCs, b_fCs⟩ := D_fCs.binds0 (ps := ["function", "read", "write", "delay", "limit"]) 4 (by simp) rfl fun D doc pm an cdv ct us ks hu hk => match us, ks, hu, hk with | [_, _, _, _], [_], _, _ => ⟨_, _, _, _, _, _, rfl, rfl, rfl⟩
    have dCs : DefK2 l.prog w K mg base 8 "count_states" fCs fd_fCs ["function", "read", "write", "delay", "limit"] (spCnt K CL CD CN CO CT CY) dsfCs := ⟨ok_count F_fCs CK, at_ n_fCs, F_fCs.kp, b_fCs⟩
    obtain ⟨fd_fDd, F_fDd, D_fDd⟩ := d_fDd
    obtain ⟨dsfDd, rfDd, b_fDd⟩ := D_fDd.binds0 (ps := ["function", "read", "write", "delay", "limit"]) 4 (by simp) rfl fun D doc pm an cdv ct us ks hu hk => match us, ks, hu, hk with | [_, _, _, _], [_], _, _ => ⟨_, _, _, _, _, _, rfl, rfl, rfl⟩
    have dDd : DefK2 l.prog w K mg base 8 "decide" fDd fd_fDd ["function", "read", "write", "delay", "limit"] (spCnt K CL CD CN CO CT CY) dsfDd := ⟨ok_decide F_fDd CK, at_ n_fDd, F_fDd.kp, b_fDd⟩
    have dCt : Def l.prog w K mg base (L2.CX l.prog w) 8 "check_table" fCt fd_fCt ["function", "read", "write", "delay", "table"] (spCnt K CL CD CN CO CT CY) := ⟨ok_checkTable F_fCt CK, at_ n_fCt, F_fCt.kp, b_fCt⟩
    have dCr : Def l.prog w K mg base (L2.CX l.prog w) 8 "check_refutation" fCr fd_fCr ["function", "read", "write", "delay", "refutation"] (spCnt K CL CD CN CO CT CY) := ⟨ok_checkRef F_fCr CK, at_ n_fCr, F_fCr.kp, b_fCr⟩
    obtain ⟨fd_fLd, F_fLd, D_fLd⟩ := d_fLd
    obtain ⟨mvLd, kbL⟩ := D_fLd.kbinds0 (ps := ["function", "read", "write", "first", "last", "limit"]) 3 ["first", "last"] [("limit", V.int 400)] (fun us mv ws => us ++ (ws ++ mv)) (by simp) (fun q h => by rw [List.mem_singleton.mp h]; exact List.mem_cons_of_mem _ (List.mem_cons_of_mem _ List.mem_cons_self)) (fun r1 r2 r3 => r1.append (r3.append r2)) fun D doc pm an cdv ct us mv ws hu hm hw => match us, mv, ws, hu, hm, hw with | [_, _, _], [_], [_, _], _, _, _ => ⟨_, _, _, _, _, _, rfl, rfl, rfl⟩
    have okLd := ok_least (P := l.prog) (w := w) (base := base) F_fLd TCD CK
    have dEn : Def l.prog w K mg base CX0 2 "_law_ends" fEn fd_fEn ["_law_base", "_law_digits_here"] (spEnds K) := ⟨ok_ends F_fEn ⟨no zmin, no zmax⟩ dL, at_ n_fEn, F_fEn.kp, b_fEn⟩
    have dSh : Def l.prog w K mg base CX0 3 "_law_shrunk" fSh fd_fSh ["_law_value", "_law_ends_here"] spShrunk := ⟨ok_shrunk F_fSh dPl dMi dTi, at_ n_fSh, F_fSh.kp, b_fSh⟩
    have dTk : Def l.prog w K mg base CX0 5 "_law_task" fTk fd_fTk ["_law_rng", "_law_most"] spTask := ⟨ok_task F_fTk ⟨no zlist, no zrange⟩ dP dLD dD dPt dEn dSh dNo, at_ n_fTk, F_fTk.kp, b_fTk⟩
    have dMd : Def l.prog w K mg base CX0 9 "_law_made" fMd fd_fMd ["_law_task_here"] (spMade K CL CD) := ⟨ok_made F_fMd (at_ nL) ⟨mL, iL, iFL, kL⟩ okLI b_fLI dSt, at_ n_fMd, F_fMd.kp, b_fMd⟩
    have TO : TxtO K mg C1 C2 C3 fF fd_fF := ⟨at_ n1, at_ n2, at_ n3, at_ n_fF, F_fF, b_fF⟩
    have nt : ∀ t : Str, (t = "Incompatible" ∨ t = "OutOfRange" ∨ t = "NotRedundant" ∨ t = "InvalidDelay") → NoneTag t := fun t ht => by rcases ht with rfl | rfl | rfl | rfl <;> exact ⟨by decide +kernel, by decide +kernel, by decide +kernel, by decide +kernel, by decide +kernel, by decide +kernel⟩
    have EG : ∀ {b b2 : Int} {s s2 : List Int} {ps : List Pt} {bad : Prop} {tag : Str} {C : Addr}, AllErr CN CO CT CY b b2 s s2 ps bad tag C → ErrGood K C1 C2 C3 tag C := fun {b b2 s s2 ps bad tag C} h => by
      rcases h with (⟨e1, e2, _⟩ | ⟨e1, e2, _⟩ | ⟨e1, e2, _⟩) | ⟨e1, e2, _⟩ <;> rw [e1, e2]
      · exact ⟨exm_three x1N x2N x3N rfl, TEN.xf, TEN.nT, nt _ (.inl rfl)⟩
      · exact ⟨exm_three x1O x2O x3O rfl, TEO.xf, TEO.nT, nt _ (.inr (.inl rfl))⟩
      · exact ⟨exm_three x1T x2T x3T rfl, TET.xf, TET.nT, nt _ (.inr (.inr (.inl rfl)))⟩
      · exact ⟨exm_three x1Y x2Y x3Y rfl, TEY.xf, TEY.nT, nt _ (.inr (.inr (.inr rfl)))⟩
    have b_fTg : Binds K (PySem.W.fnOf "_law_tags" "_law_tags" (defArgs sLawTags) (defBody sLawTags) (defScope sLawTags) .none kV2 doc2 pm2 an2 (.ref c2) ct2) ["_law_function", "_law_read", "_law_write", "_law_delay"] [] := .all fun us hl => match us, hl with | [_, _, _, _], _ => rfl
    have dTg : Def l.prog w K mg base CX0 12 "_law_tags" fTg (PySem.W.fnOf "_law_tags" "_law_tags" (defArgs sLawTags) (defBody sLawTags) (defScope sLawTags) .none kV2 doc2 pm2 an2 (.ref c2) ct2) ["_law_function", "_law_read", "_law_write", "_law_delay"] (spTags K CL CD CN CO CT CY PP PP2) := ⟨ok_tags lk2 cd2 hTB2 nPP F_fO (at_ n_fO) b_fO TO F_fT (at_ n_fT) b_fT dCs rfCs dDd rfDd dCt dCr okLd (at_ n_fLd) F_fLd.kp kbL EG, at_ n_fTg, k_fTg, b_fTg⟩
    exact ok_law lLaw cLaw hTB nPP ⟨no zrange, no zlist⟩ ⟨ok_begin F_fB TR, at_ n_fB, F_fB.kp, b_fB⟩ dP dTk dMd dSt dEn dPl dSg dTg (at_ nL) ⟨mL, iL, iFL, kL⟩ okLI b_fLI F_fO (at_ n_fO) b_fO TO F_fT (at_ n_fT) b_fT okLd (at_ n_fLd) F_fLd.kp kbL EG
theorem rec_of {q : Program} {x : Str} (h : ((recsOf q).any fun e => e.name == x) = true) : ∃ e ∈ recsOf q, e.name = x := by
  obtain ⟨e, he, hn⟩ := List.any_eq_true.mp h
  exact ⟨e, he, eq_of_beq hn⟩
theorem walk {l : PySem.W.OpenLaw} {q : Program} {loose : List Str} {XP : (Str → Option Value) → Heap → Prop} {YP : World → Heap → Prop} {d : DefRec} {K : Params → PySem.W.Frag} (hn : l.most = some 63) (hdf : d.params.defaults = []) (hrec : ((recsOf q).any fun e => e.name == d.name) = true) (hrec2 : ((recsOf q).any fun e => e.name == ("_law_tags" : Str)) = true)
    (hY : ∀ (w : World) (h : Heap), YP w h → (K w.params).In h)
    (F : ∀ (w : World) (mg : Str → Option Value) (fa : Addr) (h : Heap), YP w h → (K w.params).In h → h.Ns mainGlobals mg → mg d.name = some (.ref fa) → LamX.OwnTab (K w.params) fa h → (∀ fe, mg "_law_tags" = some (.ref fe) → LamX.OwnTab (K w.params) fe h) → LamX.LawAtS l w (K w.params) CX0 13 63 "_law_script" mg fa h) :
    PySem.W.WalkO q loose XP YP l.row.toRowW d [] (fun f vs => PySem.call f vs) :=
  Ew.walk_tabs (n := 63) (k := 13) (x := "_law_script") (CX := fun _ => CX0) hn (by decide) hdf ⟨rfl, by decide, by decide⟩ hY (fun w mg fa h Y KX G hmg ow => F w mg fa h Y KX G hmg (by
    obtain ⟨e, he, hx⟩ := rec_of hrec
    exact ow e he fa (by rw [hx]; exact hmg)) (fun fe hfe => by
    obtain ⟨e, he, hx⟩ := rec_of hrec2
    exact ow e he fe (by rw [hx]; exact hfe))) fun _ _ _ _ _ z => z
end K26
namespace K26
open PySem PySem.Spec PyProof.Rows L2 Ew He
abbrev R : PySem.W.OpenRow := PySem.W.OpenLaw.row PySem.Challenge.rw_earlywrite_k26_errors_of_tasks
def gls : List Str := (["EarlyError", "UndefinedName", "EmptyHistory", "InvalidBase", "InvalidDigits", "InvalidPoints", "OutOfRange", "LimitReached", "Incompatible", "NotRedundant", "InvalidDelay", "DigitSet", "LineFunction", "count_states", "decide", "least_delay", "_law_tags", "common_divisor", "sum_of", "difference", "product", "quotient", "is_less", "is_within", "is_ascending", "normal_form", "slope_of", "straight", "is_safe", "is_defined_on"] : List Str) ++ (["are_safe", "check_task", "check_delay", "check_table", "check_refutation", "are_digits", "widest_gap", "spread", "_law_begin", "_law_draw", "_law_pick", "_law_field", "_law_outcome", "_law_tag", "_law_lowest", "_law_plus", "_law_minus", "_law_times", "_law_over", "_law_ends", "_law_are_digits", "_law_digits", "_law_in_interval", "_law_set", "_law_points", "_law_slope", "_law_normal", "_law_task", "_law_shrunk", "_law_made"] : List Str) ++ (["fraction", "law"] : List Str)
def mths : List (Str × Str) := ([("InvalidBase", "__init__"), ("InvalidDigits", "__init__"), ("InvalidPoints", "__init__"), ("OutOfRange", "__init__"), ("LimitReached", "__init__"), ("Incompatible", "__init__"), ("NotRedundant", "__init__"), ("InvalidDelay", "__init__"), ("DigitSet", "__init__"), ("DigitSet", "low"), ("DigitSet", "high"), ("DigitSet", "is_redundant"), ("LineFunction", "__init__"), ("LineFunction", "low"), ("LineFunction", "high")] : List (Str × Str))
def ckl0 (K : PySem.W.Frag) : List Bool := [nmB K "EarlyError" (ga K "EarlyError"),
  nmB K "UndefinedName" (ga K "UndefinedName"),
  nmB K "EmptyHistory" (ga K "EmptyHistory"),
  nmB K "InvalidBase" (ga K "InvalidBase"),
  oexB K (ga K "InvalidBase"),
  xfB K (ga K "InvalidBase"),
  naB K (ga K "InvalidBase") "tag",
  fdB K (ga K "InvalidBase") "__init__" (ma K (ga K "InvalidBase") "__init__"),
  tyB K (ma K (ga K "InvalidBase") "__init__"),
  nmB K "InvalidDigits" (ga K "InvalidDigits"),
  oexB K (ga K "InvalidDigits"),
  xfB K (ga K "InvalidDigits"),
  naB K (ga K "InvalidDigits") "tag",
  fdB K (ga K "InvalidDigits") "__init__" (ma K (ga K "InvalidDigits") "__init__"),
  tyB K (ma K (ga K "InvalidDigits") "__init__"),
  nmB K "InvalidPoints" (ga K "InvalidPoints"),
  oexB K (ga K "InvalidPoints"),
  xfB K (ga K "InvalidPoints"),
  naB K (ga K "InvalidPoints") "tag",
  fdB K (ga K "InvalidPoints") "__init__" (ma K (ga K "InvalidPoints") "__init__"),
  tyB K (ma K (ga K "InvalidPoints") "__init__"),
  nmB K "OutOfRange" (ga K "OutOfRange"),
  oexB K (ga K "OutOfRange"),
  xfB K (ga K "OutOfRange"),
  naB K (ga K "OutOfRange") "tag",
  fdB K (ga K "OutOfRange") "__init__" (ma K (ga K "OutOfRange") "__init__"),
  tyB K (ma K (ga K "OutOfRange") "__init__"),
  nmB K "LimitReached" (ga K "LimitReached"),
  oexB K (ga K "LimitReached"),
  xfB K (ga K "LimitReached")]
def ckl1 (K : PySem.W.Frag) : List Bool := [naB K (ga K "LimitReached") "tag",
  fdB K (ga K "LimitReached") "__init__" (ma K (ga K "LimitReached") "__init__"),
  tyB K (ma K (ga K "LimitReached") "__init__"),
  nmB K "Incompatible" (ga K "Incompatible"),
  oexB K (ga K "Incompatible"),
  xfB K (ga K "Incompatible"),
  naB K (ga K "Incompatible") "tag",
  fdB K (ga K "Incompatible") "__init__" (ma K (ga K "Incompatible") "__init__"),
  tyB K (ma K (ga K "Incompatible") "__init__"),
  nmB K "NotRedundant" (ga K "NotRedundant"),
  oexB K (ga K "NotRedundant"),
  xfB K (ga K "NotRedundant"),
  naB K (ga K "NotRedundant") "tag",
  fdB K (ga K "NotRedundant") "__init__" (ma K (ga K "NotRedundant") "__init__"),
  tyB K (ma K (ga K "NotRedundant") "__init__"),
  nmB K "InvalidDelay" (ga K "InvalidDelay"),
  oexB K (ga K "InvalidDelay"),
  xfB K (ga K "InvalidDelay"),
  naB K (ga K "InvalidDelay") "tag",
  fdB K (ga K "InvalidDelay") "__init__" (ma K (ga K "InvalidDelay") "__init__"),
  tyB K (ma K (ga K "InvalidDelay") "__init__"),
  exmB K (ga K "Incompatible") (ga K "EarlyError") true,
  exmB K (ga K "Incompatible") (ga K "UndefinedName") false,
  exmB K (ga K "Incompatible") (ga K "EmptyHistory") false,
  exmB K (ga K "OutOfRange") (ga K "EarlyError") true,
  exmB K (ga K "OutOfRange") (ga K "UndefinedName") false,
  exmB K (ga K "OutOfRange") (ga K "EmptyHistory") false,
  exmB K (ga K "NotRedundant") (ga K "EarlyError") true,
  exmB K (ga K "NotRedundant") (ga K "UndefinedName") false,
  exmB K (ga K "NotRedundant") (ga K "EmptyHistory") false]
def ckl2 (K : PySem.W.Frag) : List Bool := [exmB K (ga K "InvalidDelay") (ga K "EarlyError") true,
  exmB K (ga K "InvalidDelay") (ga K "UndefinedName") false,
  exmB K (ga K "InvalidDelay") (ga K "EmptyHistory") false,
  nmB K "DigitSet" (ga K "DigitSet"),
  clB K (ga K "DigitSet"),
  PySem.W.makesIn K (ga K "DigitSet"),
  PySem.W.keepIn K (.ref (ga K "DigitSet")),
  naB K (ga K "DigitSet") "base",
  naB K (ga K "DigitSet") "digits",
  fdB K (ga K "DigitSet") "__init__" (ma K (ga K "DigitSet") "__init__"),
  PySem.W.isFn K (.ref (ma K (ga K "DigitSet") "__init__")),
  fdB K (ga K "DigitSet") "low" (ma K (ga K "DigitSet") "low"),
  PySem.W.isFn K (.ref (ma K (ga K "DigitSet") "low")),
  PySem.W.keepIn K (.ref (ma K (ga K "DigitSet") "low")),
  fdB K (ga K "DigitSet") "high" (ma K (ga K "DigitSet") "high"),
  PySem.W.isFn K (.ref (ma K (ga K "DigitSet") "high")),
  PySem.W.keepIn K (.ref (ma K (ga K "DigitSet") "high")),
  fdB K (ga K "DigitSet") "is_redundant" (ma K (ga K "DigitSet") "is_redundant"),
  PySem.W.isFn K (.ref (ma K (ga K "DigitSet") "is_redundant")),
  PySem.W.keepIn K (.ref (ma K (ga K "DigitSet") "is_redundant")),
  nmB K "LineFunction" (ga K "LineFunction"),
  clB K (ga K "LineFunction"),
  PySem.W.makesIn K (ga K "LineFunction"),
  PySem.W.keepIn K (.ref (ga K "LineFunction")),
  naB K (ga K "LineFunction") "corners",
  fdB K (ga K "LineFunction") "__init__" (ma K (ga K "LineFunction") "__init__"),
  PySem.W.isFn K (.ref (ma K (ga K "LineFunction") "__init__")),
  fdB K (ga K "LineFunction") "low" (ma K (ga K "LineFunction") "low"),
  PySem.W.isFn K (.ref (ma K (ga K "LineFunction") "low")),
  PySem.W.keepIn K (.ref (ma K (ga K "LineFunction") "low"))]
def ckl3 (K : PySem.W.Frag) : List Bool := [fdB K (ga K "LineFunction") "high" (ma K (ga K "LineFunction") "high"),
  PySem.W.isFn K (.ref (ma K (ga K "LineFunction") "high")),
  PySem.W.keepIn K (.ref (ma K (ga K "LineFunction") "high")),
  naB K (ga K "LimitReached") "limit",
  nmB K "count_states" (ga K "count_states"),
  nmB K "decide" (ga K "decide"),
  nmB K "least_delay" (ga K "least_delay"),
  nmB K "_law_tags" (ga K "_law_tags"),
  PySem.W.keepIn K (.ref (ga K "_law_tags")),
  cdB K (ga K "_law_tags"),
  coB K (cAd K (ga K "_law_tags")),
  !decide ((pAd K (cAd K (ga K "_law_tags"))) = (pAd K (cAd K (ga K "law")))),
  nmB K "common_divisor" (ga K "common_divisor"),
  nmB K "sum_of" (ga K "sum_of"),
  nmB K "difference" (ga K "difference"),
  nmB K "product" (ga K "product"),
  nmB K "quotient" (ga K "quotient"),
  nmB K "is_less" (ga K "is_less"),
  nmB K "is_within" (ga K "is_within"),
  nmB K "is_ascending" (ga K "is_ascending"),
  nmB K "normal_form" (ga K "normal_form"),
  nmB K "slope_of" (ga K "slope_of"),
  nmB K "straight" (ga K "straight"),
  nmB K "is_safe" (ga K "is_safe"),
  nmB K "is_defined_on" (ga K "is_defined_on"),
  nmB K "are_safe" (ga K "are_safe"),
  nmB K "check_task" (ga K "check_task"),
  nmB K "check_delay" (ga K "check_delay"),
  nmB K "check_table" (ga K "check_table"),
  nmB K "check_refutation" (ga K "check_refutation")]
def ckl4 (K : PySem.W.Frag) : List Bool := [nmB K "are_digits" (ga K "are_digits"),
  nmB K "widest_gap" (ga K "widest_gap"),
  nmB K "spread" (ga K "spread"),
  nmB K "_law_begin" (ga K "_law_begin"),
  nmB K "_law_draw" (ga K "_law_draw"),
  nmB K "_law_pick" (ga K "_law_pick"),
  nmB K "_law_field" (ga K "_law_field"),
  nmB K "_law_outcome" (ga K "_law_outcome"),
  nmB K "_law_tag" (ga K "_law_tag"),
  nmB K "_law_lowest" (ga K "_law_lowest"),
  nmB K "_law_plus" (ga K "_law_plus"),
  nmB K "_law_minus" (ga K "_law_minus"),
  nmB K "_law_times" (ga K "_law_times"),
  nmB K "_law_over" (ga K "_law_over"),
  nmB K "_law_ends" (ga K "_law_ends"),
  nmB K "_law_are_digits" (ga K "_law_are_digits"),
  nmB K "_law_digits" (ga K "_law_digits"),
  nmB K "_law_in_interval" (ga K "_law_in_interval"),
  nmB K "_law_set" (ga K "_law_set"),
  nmB K "_law_points" (ga K "_law_points"),
  nmB K "_law_slope" (ga K "_law_slope"),
  nmB K "_law_normal" (ga K "_law_normal"),
  nmB K "_law_task" (ga K "_law_task"),
  nmB K "_law_shrunk" (ga K "_law_shrunk"),
  nmB K "_law_made" (ga K "_law_made"),
  nmB K "fraction" (ga K "fraction"),
  nmB K "law" (ga K "law"),
  cdB K (ga K "law"),
  coB K (cAd K (ga K "law")),
  ciB K "MIN_POINTS" 2]
def ckl5 (K : PySem.W.Frag) : List Bool := [ciB K "MAX_PIECES" 12,
  ciB K "MIN_BASE" 2,
  ciB K "MAX_BASE" 10,
  ciB K "MIN_DIGITS" 2,
  ciB K "MAX_DIGITS" 24,
  ciB K "MAX_DIGIT" 99,
  ciB K "MIN_DELAY" (-6),
  ciB K "MAX_DELAY" 9,
  frB K "len",
  frB K "list",
  frB K "isinstance",
  frB K "tuple",
  frB K "all",
  frB K "zip",
  frB K "bool",
  frB K "int",
  frB K "str",
  frB K "range",
  frB K "abs",
  frB K "sorted",
  frB K "set",
  frB K "max",
  frB K "min"]
def ck (K : PySem.W.Frag) : Bool := (ckl0 K).all id && (ckl1 K).all id && (ckl2 K).all id && (ckl3 K).all id && (ckl4 K).all id && (ckl5 K).all id
def fn0 : List DefD := [⟨("InvalidBase", some "__init__"), "__init__", "InvalidBase.__init__", defArgs sInvalidBase_init, defBody sInvalidBase_init, defScope sInvalidBase_init, [], []⟩,
  ⟨("InvalidDigits", some "__init__"), "__init__", "InvalidDigits.__init__", defArgs sInvalidDigits_init, defBody sInvalidDigits_init, defScope sInvalidDigits_init, [], []⟩,
  ⟨("InvalidPoints", some "__init__"), "__init__", "InvalidPoints.__init__", defArgs sInvalidPoints_init, defBody sInvalidPoints_init, defScope sInvalidPoints_init, [], []⟩,
  ⟨("OutOfRange", some "__init__"), "__init__", "OutOfRange.__init__", defArgs sOutOfRange_init, defBody sOutOfRange_init, defScope sOutOfRange_init, [], []⟩,
  ⟨("LimitReached", some "__init__"), "__init__", "LimitReached.__init__", defArgs sLimitReached_init, defBody sLimitReached_init, defScope sLimitReached_init, [], []⟩,
  ⟨("Incompatible", some "__init__"), "__init__", "Incompatible.__init__", defArgs sIncompatible_init, defBody sIncompatible_init, defScope sIncompatible_init, [], []⟩,
  ⟨("NotRedundant", some "__init__"), "__init__", "NotRedundant.__init__", defArgs sNotRedundant_init, defBody sNotRedundant_init, defScope sNotRedundant_init, [], []⟩,
  ⟨("InvalidDelay", some "__init__"), "__init__", "InvalidDelay.__init__", defArgs sInvalidDelay_init, defBody sInvalidDelay_init, defScope sInvalidDelay_init, [], []⟩,
  ⟨("DigitSet", some "__init__"), "__init__", "DigitSet.__init__", defArgs sDigitSet_init, defBody sDigitSet_init, defScope sDigitSet_init, [], []⟩,
  ⟨("DigitSet", some "low"), "low", "DigitSet.low", defArgs sDigitSet_low, defBody sDigitSet_low, defScope sDigitSet_low, [], []⟩,
  ⟨("DigitSet", some "high"), "high", "DigitSet.high", defArgs sDigitSet_high, defBody sDigitSet_high, defScope sDigitSet_high, [], []⟩,
  ⟨("DigitSet", some "is_redundant"), "is_redundant", "DigitSet.is_redundant", defArgs sDigitSet_is_redundant, defBody sDigitSet_is_redundant, defScope sDigitSet_is_redundant, [], []⟩,
  ⟨("LineFunction", some "__init__"), "__init__", "LineFunction.__init__", defArgs sLineFunction_init, defBody sLineFunction_init, defScope sLineFunction_init, [], []⟩,
  ⟨("LineFunction", some "low"), "low", "LineFunction.low", defArgs sLineFunction_low, defBody sLineFunction_low, defScope sLineFunction_low, [], []⟩,
  ⟨("LineFunction", some "high"), "high", "LineFunction.high", defArgs sLineFunction_high, defBody sLineFunction_high, defScope sLineFunction_high, [], []⟩,
  ⟨("count_states", none), "count_states", "count_states", defArgs sCountStates, defBody sCountStates, defScope sCountStates, [], [("limit", .int (400))]⟩,
  ⟨("decide", none), "decide", "decide", defArgs sDecide, defBody sDecide, defScope sDecide, [], [("limit", .int (400))]⟩,
  ⟨("least_delay", none), "least_delay", "least_delay", defArgs sLeastDelay, defBody sLeastDelay, defScope sLeastDelay, [], [("first", .int (-6)), ("last", .int (9)), ("limit", .int (400))]⟩,
  ⟨("_law_tags", none), "_law_tags", "_law_tags", defArgs sLawTags, defBody sLawTags, defScope sLawTags, [], []⟩,
  ⟨("common_divisor", none), "common_divisor", "common_divisor", defArgs sGcd, defBody sGcd, defScope sGcd, [], []⟩]
def fn1 : List DefD := [⟨("sum_of", none), "sum_of", "sum_of", defArgs sSumOf, defBody sSumOf, defScope sSumOf, [], []⟩,
  ⟨("difference", none), "difference", "difference", defArgs sDifference, defBody sDifference, defScope sDifference, [], []⟩,
  ⟨("product", none), "product", "product", defArgs sProduct, defBody sProduct, defScope sProduct, [], []⟩,
  ⟨("quotient", none), "quotient", "quotient", defArgs sQuotient, defBody sQuotient, defScope sQuotient, [], []⟩,
  ⟨("is_less", none), "is_less", "is_less", defArgs sIsLess, defBody sIsLess, defScope sIsLess, [], []⟩,
  ⟨("is_within", none), "is_within", "is_within", defArgs sIsWithin, defBody sIsWithin, defScope sIsWithin, [], []⟩,
  ⟨("is_ascending", none), "is_ascending", "is_ascending", defArgs sIsAscending, defBody sIsAscending, defScope sIsAscending, [], []⟩,
  ⟨("normal_form", none), "normal_form", "normal_form", defArgs sNormalForm, defBody sNormalForm, defScope sNormalForm, [], []⟩,
  ⟨("slope_of", none), "slope_of", "slope_of", defArgs sSlopeOf, defBody sSlopeOf, defScope sSlopeOf, [], []⟩,
  ⟨("straight", none), "straight", "straight", defArgs sStraight, defBody sStraight, defScope sStraight, [], []⟩,
  ⟨("is_safe", none), "is_safe", "is_safe", defArgs sIsSafe, defBody sIsSafe, defScope sIsSafe, [], []⟩,
  ⟨("is_defined_on", none), "is_defined_on", "is_defined_on", defArgs sIsDefinedOn, defBody sIsDefinedOn, defScope sIsDefinedOn, [], []⟩,
  ⟨("are_safe", none), "are_safe", "are_safe", defArgs sAreSafe, defBody sAreSafe, defScope sAreSafe, [], []⟩,
  ⟨("check_task", none), "check_task", "check_task", defArgs sCheckTask, defBody sCheckTask, defScope sCheckTask, [], []⟩,
  ⟨("check_delay", none), "check_delay", "check_delay", defArgs sCheckDelay, defBody sCheckDelay, defScope sCheckDelay, [], []⟩,
  ⟨("check_table", none), "check_table", "check_table", defArgs sCheckTable, defBody sCheckTable, defScope sCheckTable, [], []⟩,
  ⟨("check_refutation", none), "check_refutation", "check_refutation", defArgs sCheckRefutation, defBody sCheckRefutation, defScope sCheckRefutation, [], []⟩,
  ⟨("are_digits", none), "are_digits", "are_digits", defArgs sAreDigits, defBody sAreDigits, defScope sAreDigits, [], []⟩,
  ⟨("widest_gap", none), "widest_gap", "widest_gap", defArgs sWidestGap, defBody sWidestGap, defScope sWidestGap, [], []⟩,
  ⟨("spread", none), "spread", "spread", defArgs sSpread, defBody sSpread, defScope sSpread, [], []⟩]
def fn2 : List DefD := [⟨("_law_begin", none), "_law_begin", "_law_begin", defArgs sBegin, defBody sBegin, defScope sBegin, [], []⟩,
  ⟨("_law_draw", none), "_law_draw", "_law_draw", defArgs sDraw, defBody sDraw, defScope sDraw, [], []⟩,
  ⟨("_law_pick", none), "_law_pick", "_law_pick", defArgs sPick, defBody sPick, defScope sPick, [], []⟩,
  ⟨("_law_field", none), "_law_field", "_law_field", defArgs sField, defBody sField, defScope sField, [], []⟩,
  ⟨("_law_outcome", none), "_law_outcome", "_law_outcome", defArgs sOutcome, defBody sOutcome, defScope sOutcome, [], []⟩,
  ⟨("_law_tag", none), "_law_tag", "_law_tag", defArgs sLawTag, defBody sLawTag, defScope sLawTag, [], []⟩,
  ⟨("_law_lowest", none), "_law_lowest", "_law_lowest", defArgs sLowest, defBody sLowest, defScope sLowest, [], []⟩,
  ⟨("_law_plus", none), "_law_plus", "_law_plus", defArgs sLawPlus, defBody sLawPlus, defScope sLawPlus, [], []⟩,
  ⟨("_law_minus", none), "_law_minus", "_law_minus", defArgs sLawMinus, defBody sLawMinus, defScope sLawMinus, [], []⟩,
  ⟨("_law_times", none), "_law_times", "_law_times", defArgs sLawTimes, defBody sLawTimes, defScope sLawTimes, [], []⟩,
  ⟨("_law_over", none), "_law_over", "_law_over", defArgs sLawOver, defBody sLawOver, defScope sLawOver, [], []⟩,
  ⟨("_law_ends", none), "_law_ends", "_law_ends", defArgs sLawEnds, defBody sLawEnds, defScope sLawEnds, [], []⟩,
  ⟨("_law_are_digits", none), "_law_are_digits", "_law_are_digits", defArgs sLawAreDigits, defBody sLawAreDigits, defScope sLawAreDigits, [], []⟩,
  ⟨("_law_digits", none), "_law_digits", "_law_digits", defArgs sLawDigits, defBody sLawDigits, defScope sLawDigits, [], []⟩,
  ⟨("_law_in_interval", none), "_law_in_interval", "_law_in_interval", defArgs sLawInInterval, defBody sLawInInterval, defScope sLawInInterval, [], []⟩,
  ⟨("_law_set", none), "_law_set", "_law_set", defArgs sLawSet, defBody sLawSet, defScope sLawSet, [], []⟩,
  ⟨("_law_points", none), "_law_points", "_law_points", defArgs sLawPoints, defBody sLawPoints, defScope sLawPoints, [], []⟩,
  ⟨("_law_slope", none), "_law_slope", "_law_slope", defArgs sLawSlope, defBody sLawSlope, defScope sLawSlope, [], []⟩,
  ⟨("_law_normal", none), "_law_normal", "_law_normal", defArgs sLawNormal, defBody sLawNormal, defScope sLawNormal, [], []⟩,
  ⟨("_law_task", none), "_law_task", "_law_task", defArgs sLawTask, defBody sLawTask, defScope sLawTask, [], []⟩]
def fn3 : List DefD := [⟨("_law_shrunk", none), "_law_shrunk", "_law_shrunk", defArgs sLawShrunk, defBody sLawShrunk, defScope sLawShrunk, [], []⟩,
  ⟨("_law_made", none), "_law_made", "_law_made", defArgs sLawMade, defBody sLawMade, defScope sLawMade, [], []⟩,
  ⟨("fraction", none), "fraction", "fraction", defArgs sFraction, defBody sFraction, defScope sFraction, [.int 1], []⟩,
  ⟨("law", none), "law", "law", defArgs sLaw, defBody sLaw, defScope sLaw, [], []⟩]
def fn : List DefD := fn0 ++ fn1 ++ fn2 ++ fn3
def hk : PySem.W.Hook := hookX (adrs gls mths) ck fn
def ob (s : PySem.W.SharedT) : AlD := obsXG (adrs gls mths) ck fn (HandSHeadRun.getT s)
theorem ob_eq (s : PySem.W.SharedT) : ob s = hk.obs s.abs := obsXG_eq (HandSHeadRun.getT_eq s)
def nm0 : List Str := ["_wall", "EarlyError", "ValueError", "InvalidBase", "InvalidDigits", "InvalidRow", "InvalidPoints", "InvalidDelay", "Incompatible", "OutOfRange", "NotRedundant", "LimitReached", "UndefinedName", "LookupError", "EmptyHistory", "IndexError", "fraction", "common_divisor", "sum_of", "difference", "product", "quotient", "is_less", "is_within", "is_between"]
def nm1 : List Str := ["smaller_of", "greater_of", "MIN_POINTS", "MAX_PIECES", "LineFunction", "is_ascending", "normal_form", "slope_of", "height_at", "height_on", "cut_points", "straight", "is_safe", "is_defined_on", "points_after_read", "points_after_write", "are_safe", "safe_digits", "MIN_DELAY", "MAX_DELAY", "MAX_STATES", "check_task", "check_delay", "next_phase", "read_digits"]
def nm2 : List Str := ["written_digits", "points_read", "points_written", "state_behind", "count_states", "explore", "followers_of", "lost_states", "users_of", "decide", "decided", "table_of", "refutation_of", "needed_states", "place_outside", "least_delay", "check_table", "is_table_row", "is_table_move", "check_refutation", "is_refutation_row", "is_outcome", "is_index", "are_points_on", "MIN_BASE"]
def nm3 : List Str := ["MAX_BASE", "MIN_DIGITS", "MAX_DIGITS", "MAX_DIGIT", "MAX_ROW", "DigitSet", "are_digits", "widest_gap", "spread", "_law_begin", "_law_draw", "_law_pick", "_law_field", "_law_outcome", "_law_tag", "_law_lowest", "_law_plus", "_law_minus", "_law_times", "_law_over", "_law_ends", "_law_are_digits", "_law_digits", "_law_in_interval", "_law_set"]
def nm4 : List Str := ["_law_points", "_law_slope", "_law_normal", "_law_task", "_law_shrunk", "_law_made"]
def names : List Str := nm0 ++ nm1 ++ nm2 ++ nm3 ++ nm4
abbrev qv : Program := PySem.W.view R.prog [110, 111]
theorem facts {l : PySem.W.OpenLaw} {w : World} {K : PySem.W.Frag} {h : Heap} {mg : Str → Option Value} {fa : Addr} (X : K.In h) (G : h.Ns mainGlobals mg) (hfa : mg "law" = some (.ref fa)) (own : LamX.OwnTab K fa h) (own2 : ∀ fe, mg "_law_tags" = some (.ref fe) → LamX.OwnTab K fe h) (c : SaysX ck fn K) : LamX.LawAtS l w K CX0 13 63 "_law_script" mg fa h := by
  have hc := c.all_
  unfold ck at hc
  obtain ⟨hc, ck5⟩ := ba hc
  obtain ⟨hc, ck4⟩ := ba hc
  obtain ⟨hc, ck3⟩ := ba hc
  obtain ⟨hc, ck2⟩ := ba hc
  obtain ⟨hc, ck1⟩ := ba hc
  have ck0 := hc
  obtain ⟨oc2, od2, kV2, doc2, pm2, an2, ct2, osl2, lk2_, cd2_⟩ := law_at (x := "_law_tags") (st := sLawTags) (f := (ga K "_law_tags")) (c.def_ 18) (getB ck3 9)
  obtain ⟨vs2, dd2, sl2, co2_⟩ := coB_ok (getB ck3 10)
  obtain ⟨oc, od, kV, doc, pm, an, ct, osl, lk_, cd_⟩ := law_at (x := "law") (st := sLaw) (f := (ga K "law")) (c.def_ 63) (getB ck4 27)
  obtain ⟨vs, dd, sl, co_⟩ := coB_ok (getB ck4 28)
  obtain ⟨t_cst0, h_cst0⟩ := ciB_ok (getB ck4 29)
  obtain ⟨t_cst1, h_cst1⟩ := ciB_ok (getB ck5 0)
  obtain ⟨t_cst2, h_cst2⟩ := ciB_ok (getB ck5 1)
  obtain ⟨t_cst3, h_cst3⟩ := ciB_ok (getB ck5 2)
  obtain ⟨t_cst4, h_cst4⟩ := ciB_ok (getB ck5 3)
  obtain ⟨t_cst5, h_cst5⟩ := ciB_ok (getB ck5 4)
  obtain ⟨t_cst6, h_cst6⟩ := ciB_ok (getB ck5 5)
  obtain ⟨t_cst7, h_cst7⟩ := ciB_ok (getB ck5 6)
  obtain ⟨t_cst8, h_cst8⟩ := ciB_ok (getB ck5 7)
  exact all_mk X G hfa own own2 (nmB_ok (getB ck0 0)) (nmB_ok (getB ck0 1)) (nmB_ok (getB ck0 2)) (nmB_ok (getB ck0 3)) (oexB_ok (getB ck0 4)) (xfB_ok (getB ck0 5)) (naB_ok (getB ck0 6)) (fdB_ok (getB ck0 7)) (tyB_ok (getB ck0 8)) (def_at (c.def_ 0)) (nmB_ok (getB ck0 9)) (oexB_ok (getB ck0 10)) (xfB_ok (getB ck0 11)) (naB_ok (getB ck0 12)) (fdB_ok (getB ck0 13)) (tyB_ok (getB ck0 14)) (def_at (c.def_ 1)) (nmB_ok (getB ck0 15)) (oexB_ok (getB ck0 16)) (xfB_ok (getB ck0 17)) (naB_ok (getB ck0 18)) (fdB_ok (getB ck0 19)) (tyB_ok (getB ck0 20)) (def_at (c.def_ 2)) (nmB_ok (getB ck0 21)) (oexB_ok (getB ck0 22)) (xfB_ok (getB ck0 23)) (naB_ok (getB ck0 24)) (fdB_ok (getB ck0 25)) (tyB_ok (getB ck0 26)) (def_at (c.def_ 3)) (nmB_ok (getB ck0 27)) (oexB_ok (getB ck0 28)) (xfB_ok (getB ck0 29)) (naB_ok (getB ck1 0)) (fdB_ok (getB ck1 1)) (tyB_ok (getB ck1 2)) (def_at (c.def_ 4)) (nmB_ok (getB ck1 3)) (oexB_ok (getB ck1 4)) (xfB_ok (getB ck1 5)) (naB_ok (getB ck1 6)) (fdB_ok (getB ck1 7)) (tyB_ok (getB ck1 8)) (def_at (c.def_ 5)) (nmB_ok (getB ck1 9)) (oexB_ok (getB ck1 10)) (xfB_ok (getB ck1 11)) (naB_ok (getB ck1 12)) (fdB_ok (getB ck1 13)) (tyB_ok (getB ck1 14)) (def_at (c.def_ 6)) (nmB_ok (getB ck1 15)) (oexB_ok (getB ck1 16)) (xfB_ok (getB ck1 17)) (naB_ok (getB ck1 18)) (fdB_ok (getB ck1 19)) (tyB_ok (getB ck1 20)) (def_at (c.def_ 7)) (exmB_ok (getB ck1 21)) (exmB_ok (getB ck1 22)) (exmB_ok (getB ck1 23)) (exmB_ok (getB ck1 24)) (exmB_ok (getB ck1 25)) (exmB_ok (getB ck1 26)) (exmB_ok (getB ck1 27)) (exmB_ok (getB ck1 28)) (exmB_ok (getB ck1 29)) (exmB_ok (getB ck2 0)) (exmB_ok (getB ck2 1)) (exmB_ok (getB ck2 2)) (nmB_ok (getB ck2 3)) (clB_ok (getB ck2 4)) (getB ck2 5) (getB ck2 6) (naB_ok (getB ck2 7)) (naB_ok (getB ck2 8)) (fdB_ok (getB ck2 9)) (getB ck2 10) (def_at (c.def_ 8)) (fdB_ok (getB ck2 11)) (getB ck2 12) (getB ck2 13) (def_at (c.def_ 9)) (fdB_ok (getB ck2 14)) (getB ck2 15) (getB ck2 16) (def_at (c.def_ 10)) (fdB_ok (getB ck2 17)) (getB ck2 18) (getB ck2 19) (def_at (c.def_ 11)) (nmB_ok (getB ck2 20)) (clB_ok (getB ck2 21)) (getB ck2 22) (getB ck2 23) (naB_ok (getB ck2 24)) (fdB_ok (getB ck2 25)) (getB ck2 26) (def_at (c.def_ 12)) (fdB_ok (getB ck2 27)) (getB ck2 28) (getB ck2 29) (def_at (c.def_ 13)) (fdB_ok (getB ck3 0)) (getB ck3 1) (getB ck3 2) (def_at (c.def_ 14)) (naB_ok (getB ck3 3)) (nmB_ok (getB ck3 4)) (kwi_at (c.def_ 15)) (nmB_ok (getB ck3 5)) (kwi_at (c.def_ 16)) (nmB_ok (getB ck3 6)) (kwi_at (c.def_ 17)) (nmB_ok (getB ck3 7)) (getB ck3 8) lk2_ cd2_ co2_ (ne_at (getB ck3 11)) (nmB_ok (getB ck3 12)) (def_at (c.def_ 19)) (nmB_ok (getB ck3 13)) (def_at (c.def_ 20)) (nmB_ok (getB ck3 14)) (def_at (c.def_ 21)) (nmB_ok (getB ck3 15)) (def_at (c.def_ 22)) (nmB_ok (getB ck3 16)) (def_at (c.def_ 23)) (nmB_ok (getB ck3 17)) (def_at (c.def_ 24)) (nmB_ok (getB ck3 18)) (def_at (c.def_ 25)) (nmB_ok (getB ck3 19)) (def_at (c.def_ 26)) (nmB_ok (getB ck3 20)) (def_at (c.def_ 27)) (nmB_ok (getB ck3 21)) (def_at (c.def_ 28)) (nmB_ok (getB ck3 22)) (def_at (c.def_ 29)) (nmB_ok (getB ck3 23)) (def_at (c.def_ 30)) (nmB_ok (getB ck3 24)) (def_at (c.def_ 31)) (nmB_ok (getB ck3 25)) (def_at (c.def_ 32)) (nmB_ok (getB ck3 26)) (def_at (c.def_ 33)) (nmB_ok (getB ck3 27)) (def_at (c.def_ 34)) (nmB_ok (getB ck3 28)) (def_at (c.def_ 35)) (nmB_ok (getB ck3 29)) (def_at (c.def_ 36)) (nmB_ok (getB ck4 0)) (def_at (c.def_ 37)) (nmB_ok (getB ck4 1)) (def_at (c.def_ 38)) (nmB_ok (getB ck4 2)) (def_at (c.def_ 39)) (nmB_ok (getB ck4 3)) (def_at (c.def_ 40)) (nmB_ok (getB ck4 4)) (def_at (c.def_ 41)) (nmB_ok (getB ck4 5)) (def_at (c.def_ 42)) (nmB_ok (getB ck4 6)) (def_at (c.def_ 43)) (nmB_ok (getB ck4 7)) (def_at (c.def_ 44)) (nmB_ok (getB ck4 8)) (def_at (c.def_ 45)) (nmB_ok (getB ck4 9)) (def_at (c.def_ 46)) (nmB_ok (getB ck4 10)) (def_at (c.def_ 47)) (nmB_ok (getB ck4 11)) (def_at (c.def_ 48)) (nmB_ok (getB ck4 12)) (def_at (c.def_ 49)) (nmB_ok (getB ck4 13)) (def_at (c.def_ 50)) (nmB_ok (getB ck4 14)) (def_at (c.def_ 51)) (nmB_ok (getB ck4 15)) (def_at (c.def_ 52)) (nmB_ok (getB ck4 16)) (def_at (c.def_ 53)) (nmB_ok (getB ck4 17)) (def_at (c.def_ 54)) (nmB_ok (getB ck4 18)) (def_at (c.def_ 55)) (nmB_ok (getB ck4 19)) (def_at (c.def_ 56)) (nmB_ok (getB ck4 20)) (def_at (c.def_ 57)) (nmB_ok (getB ck4 21)) (def_at (c.def_ 58)) (nmB_ok (getB ck4 22)) (def_at (c.def_ 59)) (nmB_ok (getB ck4 23)) (def_at (c.def_ 60)) (nmB_ok (getB ck4 24)) (def_at (c.def_ 61)) (nmB_ok (getB ck4 25)) (dflt_at (c.def_ 62)) (nmB_ok (getB ck4 26)) lk_ cd_ co_ h_cst0 h_cst1 h_cst2 h_cst3 h_cst4 h_cst5 h_cst6 h_cst7 h_cst8 (frB_ok (getB ck5 8)) (frB_ok (getB ck5 9)) (frB_ok (getB ck5 10)) (frB_ok (getB ck5 11)) (frB_ok (getB ck5 12)) (frB_ok (getB ck5 13)) (frB_ok (getB ck5 14)) (frB_ok (getB ck5 15)) (frB_ok (getB ck5 16)) (frB_ok (getB ck5 17)) (frB_ok (getB ck5 18)) (frB_ok (getB ck5 19)) (frB_ok (getB ck5 20)) (frB_ok (getB ck5 21)) (frB_ok (getB ck5 22))
end K26
namespace K26
open PySem PySem.Spec PyProof.Rows L2 Ew He
theorem run (w : World) : HandSHeadRun.RunEq R qv hk ob 30000 names w := by
  intro os
  kernel_rfl
end K26
open PySem PySem.W PySem.Calls PyProof.Rows in
set_option maxRecDepth 100000 in
set_option maxHeartbeats 0 in
theorem PySem.Challenge.cw_earlywrite_k26_errors_of_tasks_holds : PySem.Challenge.rw_earlywrite_k26_errors_of_tasks.Holds := by
  w_on; o_law
  refine HandSHeadRun.head_any (r := OpenLaw.row PySem.Challenge.rw_earlywrite_k26_errors_of_tasks) (q := K26.qv) (H := K26.hk) (ob := K26.ob) (M := 30000) (loose := K26.names) (d := HandSHeadRun.topDef (OpenLaw.row PySem.Challenge.rw_earlywrite_k26_errors_of_tasks).prog 111) (kwd := []) K26.ob_eq
    (by kernel_rfl) (fun s => by kernel_rfl) K26.run (by kernel_rfl) (by kernel_rfl) (by kernel_rfl) (by rfl) (by first | assumption | decide +kernel) (by decide +kernel) ⟨rfl, rfl, rfl, rfl, rfl, by decide +kernel⟩ ?hw ?hc
  case hw => w_witness2
  case hc =>
    refine Ew.walk_x (l := PySem.Challenge.rw_earlywrite_k26_errors_of_tasks) (n := 63) (k := 13) (x := "_law_script") (CX := fun _ => L2.CX0) rfl (by decide) (by kernel_rfl) ⟨rfl, by decide, by decide⟩ ?F (fun _ _ _ _ _ z => z)
    intro w mg fa h Y G hmg0 ow
    obtain ⟨K, KX, c⟩ := Y
    have hmg : mg ("law" : PySem.Str) = some (.ref fa) := by
      have e : (HandSHeadRun.topDef (OpenLaw.row PySem.Challenge.rw_earlywrite_k26_errors_of_tasks).prog 111).name = ("law" : PySem.Str) := by kernel_rfl
      rw [← e]
      exact hmg0
    refine ⟨K, KX, K26.facts KX G hmg ?o1 ?o2 c⟩
    case o1 =>
      obtain ⟨e, he, hx⟩ := Ew.rec_at (q := K26.qv) (x := "law") (by kernel_rfl)
      exact ow K KX e he fa (by rw [hx]; exact hmg)
    case o2 =>
      intro fe hfe
      obtain ⟨e, he, hx⟩ := Ew.rec_at (q := K26.qv) (x := "_law_tags") (by kernel_rfl)
      exact ow K KX e he fe (by rw [hx]; exact hfe)
