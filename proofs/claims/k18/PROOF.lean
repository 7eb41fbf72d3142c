import PyProof.Rows.All
import Wide.All
import OpenK.AllK
import Wide.FinOn
import HandS.ForMost
import HandS.ForExc
import HandS.ExcInit
import HandS.ExcField
import HandS.HotCalls
import HandS.Lambda
import HandS.EndTab
import HandS.Wide
import HandS.FStr
import HandS.IsInst
import HandS.Defaults
import HandS.Zip
import HandS.Walk
import HandS.ExcIs
import HandS.EndOwn
import HandS.SetFor
import HandS.SortInts
import KE.KSortedM
import HandS.Conv
import HandS.TupMul
import HandS.More
import HandS.TupAny
import PyProof.InstNe
import HandS.Star
import HandS.Style
import HandS.Deep
import KE.DataFind
import HandS.Nested
import HandS.Strs
import HandS.Comp
import HandS.SetBool
import KE.GoesMore
import PyProof.Rows.SortShellAny
import HandS.Codes
import HandS.DictTup
import HandS.DictComp
import HandS.MakeKwOnly
import PySem.Challenge.RW_earlywrite_k18_values_of_expressions
set_option Elab.async false
set_option linter.all false
set_option maxRecDepth 100000
set_option maxHeartbeats 4000000
namespace Ew
open PySem PySem.Spec PyProof.Rows L2
/-! ## an error made without arguments by its own __init__ -/
def tMk0 (C : Addr) (sp : Sp) : L2.St → Hp → XK → Prop := fun _ H Q => ∀ a, H a = none → sp [.ref a] (upd H a (exo a C none))
  (fun v G => v = .non ∧ ∃ (d : Addr) (fs : List (Str × V)), G a = some (exo a C (some d)) ∧ G d = some (exd d fs) ∧ H d = none ∧ Q (.ref C) (some d) (upd (del G a) d (.xd fs))) (fun _ _ _ => False)
theorem pmk0 {X : Cx} {CX : CXT} {x : Str} {C fI : Addr} {k : Nat} {fd : FuncData} {ps : List Str} {sp : Sp} {p pos : Pos} (T : OexC X.K C)
    (iC : PySem.W.findIn X.K (.ref C) "__init__" = some (some (.ref fI))) (tI : PySem.W.typeIn X.K (.ref fI) = some (.type "function"))
    (F1 : FnOk X.prog X.w X.K X.mg X.base CX k fI fd ps sp) (hr : Room (k + 1) X.A) (hb : Binds X.K fd ps []) (hx : Passes CX X (fun _ _ _ => False))
    (hg : Gl X x) (hm : X.mg x = some (.ref C)) (hdb : (x == ("__debug__" : Str)) = false := by decide) : PMk X (.Call (.Name x p) [] [] pos) (tMk0 C sp) := by
  intro pins s σ H Q I h
  obtain ⟨_, _, _, _, bm, _, _, _, _, _, _, _, _, _, _, hC, hbm⟩ := T.cls
  refine wpAny_Call_Name_kw (ld_glob I hg hm ?_ hdb)
  refine PySem.W.callWith_K0 I.kIn T.kC ?_
  obtain ⟨hp, g, dr, tk, os⟩ := s
  have sz1 : hp.objs.size ≤ hp.objs.size + 1 := Nat.le_succ _
  have fr : H (hp.objs.size + 1) = none := I.hok.fresh sz1
  have hq := h (hp.objs.size + 1) fr
  have kept : ∀ b o, hp.get? b = some o → ((hp.push (PySem.W.kdv_tup [])).push (PySem.HandSPX.excO C hp.objs.size)).get? b = some o :=
    fun b o e => Heap.get?_push_of_some _ (Heap.get?_push_of_some _ e)
  have got : ((hp.push (PySem.W.kdv_tup [])).push (PySem.HandSPX.excO C hp.objs.size)).get? (hp.objs.size + 1) = some (PySem.HandSPX.excO C hp.objs.size) := by heap_get
  have I2 := I.laid (t' := tk) (o := exo (hp.objs.size + 1) C none) kept sz1 (exo_ok got)
  have r2 : Vals [V.ref (hp.objs.size + 1)] [Value.ref (hp.objs.size + 1)] := .cons rfl .nil
  have hl : ([Value.ref (hp.objs.size + 1)] ++ []).length = ps.length := by
    have e := r2.length
    rw [F1.len _ _ _ _ hq] at e
    exact e.symm
  have run := F1.run _ X.stack _ _ ⟨[Value.ref (hp.objs.size + 1)], []⟩ [Value.ref (hp.objs.size + 1)] _ _ (fun _ _ _ => False) (hr.make C [] []) (I2.env0.make C [] [])
    (by have z := hb _ [Value.ref (hp.objs.size + 1)] I2.kIn hl; rw [List.append_nil] at z; exact z) r2 hq
  refine wpAny_call (PySem.HandSPX.call_own F.excBase_ValueError (fun Y => PySem.HandSPX.refsVE_contains Y bm hbm) (I.kIn _ _ hC) (PySem.W.looks_findIn I.kIn iC)
    (fun self => PySem.W.bind_fn I.kIn self tI) (Nat.zero_le _) (codeAny_mono run fun r t hq' => ?_))
  cases r with
  | error er => exact hx pins σ _ _ er t I2 hq'
  | ok fl =>
    cases fl with
    | ret u =>
      obtain ⟨v, G, os2, bare2, un2, hok2, rv, ev, d, fs, ea, ed, hd1, q2⟩ := hq'
      subst ev
      obtain ⟨h2, g2, d2, t2, os'⟩ := t
      exact ⟨rv, mk_end (raises_own T.exC T.tyC) I sz1 kept un2 hok2 os2 bare2 ea ed hd1 q2⟩
    | next => exact hq'.elim
    | brk => exact hq'.elim
    | cont => exact hq'.elim
/-! ## what lies in flight when more is laid on the heap -/
theorem flying_kept {B h h' : Heap} {l : List Env} {e : Addr} {Z : Obj → Prop} (x : HandSPX.FlyingZ B l e Z h) (k : ∀ b o, h.get? b = some o → h'.get? b = some o) : HandSPX.FlyingZ B l e Z h' := by
  obtain ⟨x1, x2, x3, oe, vs, T, oT, ts, a1, a2, a3, a4, a5, a6, a7, a8, a9⟩ := x
  exact ⟨fun b o q => k b o (x1 b o q), x2, x3.of_keeps fun b o q _ => ⟨o, k b o q, rfl⟩, oe, vs, T, oT, ts, k _ _ a1, a2, a3, a4, a5, a6, k _ _ a7, a8, a9⟩
theorem upTo_kept {h h' h'' : Heap} (x : h.UpToSlots h') (k : ∀ b o, h'.get? b = some o → h''.get? b = some o) : h.UpToSlots h'' := fun b o e n => by
  obtain ⟨sl, q⟩ := x b o e n
  exact ⟨sl, k _ _ q⟩
/-! ## except (A, B, C) as n -/
def wAs3 (K : PySem.W.Frag) (c1 c2 c3 : Value) (m i : Nat) (ts : Addr → Value → Option Addr → TS) (D : Ends) : WX := fun cls d σ H =>
  PySem.W.exmAny K cls [c1, c2, c3] = some true ∧ ∀ a, H a = none → σ.length = m → ts a cls d { nx := fun τ G => D.nx (τ.set i none) G, rt := D.rt, bk := fun τ G => D.bk (τ.set i none) G, ct := fun τ G => D.ct (τ.set i none) G } (σ.set i (some (.ref a))) H
theorem ld_name {X : Cx} {pins : List (Addr × Obj)} {σ : L2.St} {H : Hp} {s : Shared} {x : Str} {c : Value} {p : Pos} {A : Around} {Q : Value → Shared → Prop} {E : Value → Shared → Prop} (I : Inv X pins σ H s) (hc : Names X x c) (q : Q c s) (hA : A = X.A) :
    wpAny (model X.prog X.w) A (eval (.Name x p) X.env) Q E s := by
  subst hA
  obtain ⟨hg, hdbg, hm | ⟨hm, hv, hnn⟩⟩ := hc
  · exact ld_glob I hg hm q hdbg
  · exact ld_blt I hg hm hv q hnn hdbg
theorem ps_try_as3 {X : Cx} {n x1 x2 x3 : Str} {c1 c2 c3 : Value} {i : Nat} {body suite : List Stmt} {b0 : Stmt} {p1 p2 p3 pt pos pos' : Pos} {kt} {tb : WX → TS} {ts : Addr → Value → Option Addr → TS}
    (hs : X.stack = X.env :: X.outer) (hf : X.env.frame = some X.env.locals) (hN : X.N.Nodup) (hi : X.N[i]? = some n) (hln : X.env.kindOf n = some .local)
    (n1 : Names X x1 c1) (n2 : Names X x2 c2) (n3 : Names X x3 c3)
    (hb : ∀ (W : WX) (pn : List (Addr × Obj)) (xe : Value → Shared → Prop), Takes (X.tr pn xe) W → PSs (X.tr pn xe) body (tb W))
    (hsu : ∀ (a : Addr) (oe : Obj) (cls : Value) (d : Option Addr) (pn : List (Addr × Obj)), Zc cls d oe → (∃ vs, oe.data = .fields vs) → PSs (X.suite a ((a, oe) :: pn)) (b0 :: suite) (ts a cls d))
    (st3 : starEach [.Name x1 p1, .Name x2 p2, .Name x3 p3] X.env = [(false, eval (.Name x1 p1) X.env), (false, eval (.Name x2 p2) X.env), (false, eval (.Name x3 p3) X.env)] := by rfl) :
    PS X (.Try body [.ExceptHandler (some (.Tuple [.Name x1 p1, .Name x2 p2, .Name x3 p3] kt pt)) (some n) (b0 :: suite) pos'] [] [] pos) (fun D σ H => tb (wAs3 X.K c1 c2 c3 X.N.length i ts D) D σ H) := by
  refine ⟨fun pins s σ H D I hwant => ?_⟩
  have xok := I.ok
  have frs1 : X.A.frames = some (X.env :: X.outer) := xok.frames.trans (congrArg some hs)
  have locn : Loc X.env.scope n := .inl hln
  refine wpAny_Try_except ?_
  refine wpAny_mono ((hb (wAs3 X.K c1 c2 c3 X.N.length i ts D) (X.pn ++ pins) (fun e z1 => wpAny (model X.prog X.w) X.A (noteFrame e X.env) (fun _ z2 => wpAny (model X.prog X.w) X.A (setFlight e none) (fun _ z3 =>
    wpAny (model X.prog X.w) X.A (handleBy e X.env [.ExceptHandler (some (.Tuple [.Name x1 p1, .Name x2 p2, .Name x3 p3] kt pt)) (some n) (b0 :: suite) pos']) (SP X pins D) X.xe z3) X.xe z2) X.xe z1) (fun u t xx => ?_)).run [] s σ H D (I.toTry _) hwant)
    (fun f z1 hsp => ?_) (fun e z1 he => he)
  · obtain ⟨a, B, sI, qs, τ, G, cls, d, rfl, J0, nb, up, sky, na, os, ag, hyes1, hyes⟩ := xx
    have J : Inv X pins τ G sI := J0.ofTry xok
    have sky1 : Sky B (X.env :: X.outer) a (Zc cls d) X.env.locals t.heap := by rw [← hs]; exact sky
    show wpAny (model X.prog X.w) X.A (noteFrame (.ref a) X.env) _ _ _
    refine Sky.land Zc.steady frs1 hf sky1 fun g3 fz up3 => ?_
    have up4 := up.trans up3
    have J3 : Inv X pins τ G { t with heap := g3 } := J.landed nb fz.1 up4 os ag
    obtain ⟨oe3, vs3, he3, hz3, hd3⟩ := fz.there
    have nfr : a ∉ frs (X.env :: X.outer) := fun hm => by
      obtain ⟨_, ob, eb, nfl⟩ := fz.2.2.1.mem hm
      rw [he3] at eb
      cases eb
      exact nfl _ hd3
    have nL : a ≠ X.env.locals := fun z => nfr (List.mem_filterMap.mpr ⟨X.env, List.mem_cons_self, by rw [hf, z]⟩)
    have nF : a ∉ X.fs := fun hm => by
      obtain ⟨ev, hev, q⟩ := List.mem_filterMap.mp hm
      exact nfr (List.mem_filterMap.mpr ⟨ev, List.mem_cons_of_mem _ hev, q⟩)
    have S3 := J3.suite he3 hd3 na nL nF
    refine wpAny_handleBy_cons (codeAny_handlers_test ?_) (by intro q; cases q)
    refine wpAny_Tuple_spliced ?_
    rw [st3]
    refine Calls.spliced_cons (ld_name (X := X.suite a ((a, oe3) :: (X.pn ++ pins))) S3 n1 ?_ rfl)
    refine Calls.spliced_cons (ld_name (X := X.suite a ((a, oe3) :: (X.pn ++ pins))) S3 n2 ?_ rfl)
    refine Calls.spliced_cons (ld_name (X := X.suite a ((a, oe3) :: (X.pn ++ pins))) S3 n3 ?_ rfl)
    refine Calls.spliced_nil ⟨(by show 3 ≤ sizeLine; decide), ?_⟩
    have kp : ∀ b o, g3.get? b = some o → (g3.push { cls := .type "tuple", data := .seq [c1, c2, c3].toArray }).get? b = some o := fun b o q => Heap.get?_push_of_some _ q
    have fz4 := flying_kept fz kp
    have up5 := upTo_kept up4 kp
    have J4 : Inv X pins τ G { t with heap := g3.push { cls := .type "tuple", data := .seq [c1, c2, c3].toArray } } := J.landed nb fz4.1 up5 os ag
    have LT : PySem.W.Looks (model X.prog X.w) (g3.push { cls := .type "tuple", data := .seq [c1, c2, c3].toArray }) (typeOf (.ref a)) cls := fun A Q E s k q => wpAny_typeOf_ref (k _ _ (kp _ _ he3)) (by rw [hz3.1]; exact q)
    have LM := PySem.W.exm_tup3 (M := model X.prog X.w) (tp := g3.objs.size) J4.kIn LT (Heap.get?_push_size _ rfl) hyes1
    refine LM.here ?_
    refine codeAny_handlers_suite_as ?_
    refine HandSPX.lands_againZ fz4 fun g5 fz5 up6 => ?_
    have J5 : Inv X pins τ G { t with heap := g5 } := J.landed nb fz5.1 (up5.trans up6) os ag
    obtain ⟨oe5, vs5, he5, hz5, hd5⟩ := fz5.there
    have S5 := J5.suite he5 hd5 na nL nF
    refine store_ok (X := X.suite a ((a, oe5) :: (X.pn ++ pins))) (v := .ref a) S5 hN hi locn rfl (fun z5 S6 => ?_) (.inr hln)
    refine wpAny_mono ((hsu a oe5 cls d (X.pn ++ pins) hz5 ⟨_, hd5⟩).run [] z5 _ G _ S6 (hyes a na J.len)) (fun f z6 hsp => ?_) (fun _ _ z => z.elim)
    have fin : ∀ {τ6 : L2.St} {G6 : Hp} {Q : Shared → Prop}, Inv (X.suite a ((a, oe5) :: (X.pn ++ pins))) [] τ6 G6 z6 → (∀ z7, Inv X pins (τ6.set i none) G6 z7 → Q z7) →
        wpAny (model X.prog X.w) X.A (do bindName X.env n .none; unbindBehindTheSuite X.env n pos') (fun _ z7 => Q z7) X.xe z6 := fun S7 hq => gone_ok (S7.unsuite xok) hN hi hln hq
    cases f with
    | next =>
      obtain ⟨_, _, S7, q7⟩ := hsp
      exact fin S7 fun _ J8 => ⟨_, _, J8, q7⟩
    | brk =>
      obtain ⟨_, _, S7, q7⟩ := hsp
      exact fin S7 fun _ J8 => ⟨_, _, J8, q7⟩
    | cont =>
      obtain ⟨_, _, S7, q7⟩ := hsp
      exact fin S7 fun _ J8 => ⟨_, _, J8, q7⟩
    | ret u =>
      obtain ⟨_, _, _, S7, r7, q7⟩ := hsp
      exact fin S7 fun _ J8 => ⟨_, _, _, J8, r7, q7⟩
  · cases f with
    | next =>
      obtain ⟨τ, G, J0, q⟩ := hsp
      exact wpAny_execs_nil ⟨τ, G, J0.ofTry xok, q⟩
    | brk =>
      obtain ⟨τ, G, J0, q⟩ := hsp
      exact ⟨τ, G, J0.ofTry xok, q⟩
    | cont =>
      obtain ⟨τ, G, J0, q⟩ := hsp
      exact ⟨τ, G, J0.ofTry xok, q⟩
    | ret u =>
      obtain ⟨v, τ, G, J0, r, q⟩ := hsp
      exact ⟨v, τ, G, J0.ofTry xok, r, q⟩
/-! ## an error's field, wherever the error is pinned -/
theorem pe_xfp {X : Cx} {a C : Addr} {oe : Obj} {cls : Value} {d : Option Addr} {e : Expr} {te : TE} {pos : Pos} {n : Str} (T : XfC X.K C) (hno : PySem.W.findIn X.K (.ref C) n = some none)
    (hz : Zc cls d oe) (hf : ∃ vs, oe.data = .fields vs) (hpn : (a, oe) ∈ X.pn) (he : PE X e te) (hb : attributeBase e n X.env (eval e X.env) = eval e X.env := by rfl) :
    PE X (.Attribute e n pos) (tXf a cls d C n te) := by
  refine ⟨fun pins s σ H Q I h => ?_⟩
  refine attr_of hb (thn (he.run pins s σ H _ I h) fun u z1 ⟨x, G, I1, rx, ex, ec, dd, fs, v, ed, ea, l, q⟩ => ?_)
  subst ex ec ed
  obtain rfl : u = Value.ref a := rx
  have ha := (I1.pin (a, oe) (List.mem_append_left _ hpn)).1
  obtain ⟨vs, hd⟩ := hf
  obtain ⟨mA, hns, hr⟩ := (show ObjOk X.prog X.w G z1.heap dd (.xd fs) from I1.hok dd _ ea)
  obtain ⟨od, ho, hl⟩ := lookIn_ns hns
  obtain ⟨u, hu, ru⟩ := RelO.some_of (v := v) (o := mA n) (by rw [← l]; exact hr n)
  have J : PySem.W.InstAt z1.heap a oe C (some od) := ⟨ha, hz.1, by unfold PySem.W.notCls; rw [hd] <;> rfl, by rw [hz.2]; exact ho⟩
  exact HandSPX.exc_get I1.kIn J T.ga T.gg T.exC (PySem.W.findObj_own T.hdC hno rfl (by rw [hl, hu])) (handed_of ru) ⟨v, G, I1.tok _, ru, q⟩
/-! ## // by any divisor that is not zero -/
def CDivZ (_ j : Int) : Prop := j ≠ 0 ∧ j.natAbs.log2 < 9000
theorem op_fdivZ {X : Cx} : OpR X (binaryOp .FloorDiv) (rI CDivZ fun i j => .int (i.fdiv j)) := opI fun _ _ _ _ _ _ _ hc q => floordiv_int hc.1 q (.inl (PyProof.noPylong_of_log2 hc.2))
/-! ## the mathematics of fractions -/
def gcdI (a b : Int) : Int := ((Nat.gcd a.natAbs b.natAbs : Nat) : Int)
theorem gcdI_step {x y : Int} (hx : 0 ≤ x) (hy : 0 < y) : gcdI y (x % y) = gcdI x y := by
  obtain ⟨m, rfl⟩ := Int.eq_ofNat_of_zero_le hx
  obtain ⟨n, rfl⟩ := Int.eq_ofNat_of_zero_le (Int.le_of_lt hy)
  unfold gcdI
  rw [← Int.natCast_emod, Int.natAbs_natCast, Int.natAbs_natCast, Int.natAbs_natCast, Nat.gcd_comm n (m % n), ← Nat.gcd_rec n m, Nat.gcd_comm]
theorem gcdI_zero {x : Int} (hx : 0 ≤ x) : gcdI x 0 = x := by
  unfold gcdI
  rw [Int.natAbs_zero, Nat.gcd_zero_right]
  omega
theorem gcdI_nn (a b : Int) : 0 ≤ gcdI a b := Int.natCast_nonneg _
theorem gcdI_pos {a b : Int} (h : b ≠ 0) : 0 < gcdI a b := by
  have := Nat.gcd_pos_of_pos_right a.natAbs (show 0 < b.natAbs by omega)
  unfold gcdI
  omega
theorem gcdI_le {a b : Int} (h : b ≠ 0) : gcdI a b ≤ (b.natAbs : Int) := by
  have := Nat.gcd_le_right a.natAbs (show 0 < b.natAbs by omega)
  unfold gcdI
  omega
def absI (i : Int) : Int := if i < 0 then -i else i
theorem absI_nn (i : Int) : 0 ≤ absI i := by unfold absI; split <;> omega
theorem absI_natAbs (i : Int) : (absI i).natAbs = i.natAbs := by unfold absI; split <;> omega
theorem gcdI_abs (a b : Int) : gcdI (absI a) (absI b) = gcdI a b := by unfold gcdI; rw [absI_natAbs, absI_natAbs]
theorem gcdI_abs1 (a b : Int) : gcdI (absI a) b = gcdI a b := by unfold gcdI; rw [absI_natAbs]
theorem gcdI_neg (a b : Int) : gcdI (-a) (-b) = gcdI a b := by unfold gcdI; rw [Int.natAbs_neg, Int.natAbs_neg]
/-- the fraction of a and b, b not zero -/
def frN (a b : Int) : Int := (if b < 0 then -a else a) / gcdI a b
def frD (a b : Int) : Int := (if b < 0 then -b else b) / gcdI a b
theorem wide_of {j : Int} {n : Nat} (h : j ≠ 0) (hb : j.natAbs < 2 ^ n) (h0 : 0 < n) (h9 : n ≤ 9000) : CDivZ i j := ⟨h, Nat.lt_of_lt_of_le (PySem.Flt.log2_lt_of h0 hb) h9⟩
theorem fdiv_flip (a : Int) {g : Int} (hg : 0 < g) : a.fdiv (-g) = (-a) / g := by
  have e : a.fdiv (-g) = (-(-a)).fdiv (-g) := by rw [Int.neg_neg]
  rw [e, Int.neg_fdiv_neg, Int.fdiv_eq_ediv_of_nonneg _ (by omega)]
theorem ifT {c : Bool} {A B : Prop} (hc : c = true) (h : A) : if c = true then A else B := by
  rw [if_pos hc]
  exact h
theorem ifF {c : Bool} {A B : Prop} (hc : c = false) (h : B) : if c = true then A else B := by
  rw [hc]
  exact iteF h
theorem ne_int {x y : Int} (h : x ≠ y) : (!decide (V.int x = V.int y)) = true := by simp [h]
theorem eq_int {x y : Int} (h : x ≠ y) : decide (V.int x = V.int y) = false := by simp [h]
/-! ## errors: what the written part says of a class over ValueError with self.tag = t in its __init__ -/
structure ErrT (K : PySem.W.Frag) (mg : Str → Option Value) (x : Str) (C fI : Addr) : Prop where
  gC : mg x = some (.ref C)
  oex : OexC K C
  iC : PySem.W.findIn K (.ref C) "__init__" = some (some (.ref fI))
  tI : PySem.W.typeIn K (.ref fI) = some (.type "function")
  nT : PySem.W.findIn K (.ref C) "tag" = some none
  xf : XfC K C
def spInitTag (K : PySem.W.Frag) (C : Addr) (t : Str) : Sp := fun vs H Q _ => ∃ a, vs = [.ref a] ∧ H a = some (exo a C none) ∧ ∀ dx, H dx = none → dx ≠ a → Q .non (upd (upd H dx (exd dx [("tag", .str t)])) a (exo a C (some dx)))
theorem raise_heap {H : Hp} {a dx : Addr} {o1 o2 o3 u : HO} (ha : H a = none) (hd : upd H a o1 dx = none) (ne : dx ≠ a) : upd (del (upd (upd (upd H a o1) dx o2) a o3) a) dx u = upd H dx u := by
  funext b
  by_cases h1 : b = dx
  · rw [h1, upd_same, upd_same]
  · rw [upd_ne h1, upd_ne h1]
    by_cases h2 : b = a
    · rw [h2, del_same, ha]
    · rw [del_ne h2, upd_ne h2, upd_ne h1, upd_ne h2]
/-- the text of a fraction -/
def frText (n d : Int) : Str := if d = 1 then Str.ofString (toString n) else Str.ofString (toString n) ++ "/" ++ Str.ofString (toString d)
/-! ## the numbers that a law draws -/
def RngOk (i v sd : Int) : Prop := 0 ≤ i ∧ 0 ≤ v ∧ 0 ≤ sd ∧ sd < 2147483549
def rngL (q : Addr) (i v sd : Int) : List V := [.ref q, .int i, .int v, .int sd]
structure RngAt (H : Hp) (p q : Addr) (ns : List Int) (i v sd : Int) : Prop where
  at_p : H p = some (.lst (rngL q i v sd))
  at_q : H q = some (.lst (ns.map V.int))
  len : ns.length ≤ 63
  ok : RngOk i v sd
  ne : q ≠ p
theorem RngAt.next {H : Hp} {p q : Addr} {ns : List Int} {i v sd i' v' sd' : Int} (R : RngAt H p q ns i v sd) (h : RngOk i' v' sd') : RngAt (upd H p (.lst (rngL q i' v' sd'))) p q ns i' v' sd' :=
  ⟨upd_same, by rw [upd_ne R.ne]; exact R.at_q, R.len, h, R.ne⟩
theorem mul_small {i j : Int} (h0 : -9223372036854775808 < i) (h1 : i < 9223372036854775808) : CMul i j := by
  have e : (2 : Int) ^ 64 = 18446744073709551616 := by decide
  refine .inl ⟨?_, ?_⟩
  · rw [e]; omega
  · rw [e]; omega
theorem cut63 {ns : List Int} (h : ns.length ≤ 63) : cutV (ns.map V.int) none (some 63) = ns.map V.int := by
  unfold cutV
  rw [HT.sIx_none, List.drop_zero]
  have e := HT.sIx_nat (ns.map V.int).length (ns.map V.int).length 63
  rw [show (some (63 : Int)) = some ((63 : Nat) : Int) from rfl, e, Nat.sub_zero, List.take_of_length_le]
  rw [List.length_map]
  omega
def seedStep (sd c : Int) : Int := (sd * 40009 + c % 2147483549 + 31) % 2147483549
theorem upd_id {H : Hp} {a : Addr} {o : HO} (h : H a = some o) : upd H a o = H := by
  funext b
  by_cases e : b = a
  · rw [e, upd_same, h]
  · rw [upd_ne e]
theorem rng_0 {q : Addr} {i v sd : Int} : atI (rngL q i v sd) 0 = some (.ref q) := rfl
theorem rng_1 {q : Addr} {i v sd : Int} : atI (rngL q i v sd) 1 = some (.int i) := rfl
theorem rng_2 {q : Addr} {i v sd : Int} : atI (rngL q i v sd) 2 = some (.int v) := rfl
theorem rng_3 {q : Addr} {i v sd : Int} : atI (rngL q i v sd) 3 = some (.int sd) := rfl
theorem get_int {ns : List Int} {i : Int} (h0 : 0 ≤ i) (h1 : i < (ns.length : Int)) : ∃ c, c ∈ ns ∧ atI (ns.map V.int) i = some (.int c) := by
  obtain ⟨m, rfl⟩ := Int.eq_ofNat_of_zero_le h0
  have hm : m < ns.length := by omega
  refine ⟨ns[m], List.getElem_mem hm, atI_nat ?_⟩
  rw [List.getElem?_map, List.getElem?_eq_getElem hm]
  rfl
theorem map_int_at {ns : List Int} {i : Nat} {y : V} (h : (ns.map V.int)[i]? = some y) : ∃ c, y = .int c := by
  rw [List.getElem?_map] at h
  cases e : ns[i]? with
  | none =>
    rw [e] at h
    cases h
  | some c =>
    rw [e] at h
    exact ⟨c, (Option.some.inj h).symm⟩
/-! ## two values that hold the same data, at most n deep -/
def flatS : V → Bool
  | .non => true | .bl _ => true | .int _ => true | .str _ => true | _ => false
def SameN (K : PySem.W.Frag) (H : Hp) : Nat → V → V → Prop
  | 0, _, _ => False
  | n + 1, x, y => (x = y ∧ flatS x = true) ∨ ∃ (a b : Addr) (xs ys : List V), x = .ref a ∧ y = .ref b ∧ ((SqL K H a xs ∧ SqL K H b ys) ∨ (SqT K H a xs ∧ SqT K H b ys)) ∧ xs.length = ys.length ∧ xs.length ≤ 1000 ∧
      ∀ (i : Nat) (u v : V), xs[i]? = some u → ys[i]? = some v → SameN K H n u v
theorem seqT {K : PySem.W.Frag} {H G : Hp} {a : Addr} {xs : List V} (e : Same H G) (h : SqT K H a xs) : SqT K G a xs := by
  rcases h with (h | ⟨o, h⟩) | h
  · exact .inl (.inl (e _ _ h))
  · exact .inl (.inr ⟨o, e _ _ h⟩)
  · exact .inr h
theorem SameN.same {K : PySem.W.Frag} {H G : Hp} (e : Same H G) : ∀ {n : Nat} {x y : V}, SameN K H n x y → SameN K G n x y
  | 0, _, _, h => h
  | n + 1, x, y, h => by
    rcases h with h | ⟨a, b, xs, ys, h1, h2, h3, h4, h5, h6⟩
    · exact .inl h
    · refine .inr ⟨a, b, xs, ys, h1, h2, ?_, h4, h5, fun i u v p q => (h6 i u v p q).same e⟩
      rcases h3 with ⟨p, q⟩ | ⟨p, q⟩
      · exact .inl ⟨e.seq p, e.seq q⟩
      · exact .inr ⟨seqT e p, seqT e q⟩
theorem ty_list {K : PySem.W.Frag} {H : Hp} {a : Addr} {xs : List V} (h : SqL K H a xs) : TyX K H (.ref a) (.type "list") := by
  rcases h with (h | ⟨o, h⟩) | ⟨o, its, n, h, c, _⟩
  · exact .base (.lst h)
  · exact .base (.frz h)
  · exact .kList h c
theorem ty_tup {K : PySem.W.Frag} {H : Hp} {a : Addr} {xs : List V} (h : SqT K H a xs) : TyX K H (.ref a) (.type "tuple") := by
  rcases h with (h | ⟨o, h⟩) | ⟨o, its, n, h, c, _⟩
  · exact .base (.tup h)
  · exact .fTuple h
  · exact .kTuple h c
theorem walk_zipT {K : PySem.W.Frag} {a b : Addr} {xs ys : List V} (hn : xs.length = ys.length) : Walk (RZ.ItzT K a b) xs.length (fun H => SqT K H a xs ∧ SqT K H b ys) (YPair (fun i => xs[i]?) (fun i => ys[i]?)) :=
  ⟨fun i H hi q => ⟨xs, ys, xs[i], ys[i]'(by omega), q.1, q.2, by simp [hi], by simp [show i < ys.length by omega]⟩, fun H q => ⟨xs, ys, q.1, q.2, .inl (Nat.le_refl _)⟩,
    fun i H x G hi q ⟨T, u, v, e1, e2, e3, e4, e5⟩ => ⟨T, u, v, e1, e2, e3, e4 xs q.1, e5 ys q.2⟩⟩
theorem same_upd {H G : Hp} {p : Addr} {o : HO} (e : Same H G) (h : G p = none) : Same H (upd G p o) := fun b u q => by
  rw [upd_ne (ne_of_none (e b u q) h)]
  exact e b u q
theorem same_updN {H G : Hp} {p : Addr} {o : HO} (e : Same H G) (h : H p = none) : Same H (upd G p o) := fun b u q => by
  rw [upd_ne (ne_of_none q h)]
  exact e b u q
theorem kitLT {K : PySem.W.Frag} {t : String} {r : Bool} (h1 : kitB t "list" = some false) (h2 : kitB t "tuple" = some r) : PySem.W.kitAny K (.type t) [.type "list", .type "tuple"] = some r :=
  kitAny_cons (kit_ty h1) (fun _ => kitAny_cons (kit_ty h2) (fun e => by rw [e]; exact kitAny_nil) (fun e => e)) (fun e => Bool.noConfusion e)
theorem kitL {K : PySem.W.Frag} {t : String} (h1 : kitB t "list" = some true) : PySem.W.kitAny K (.type t) [.type "list", .type "tuple"] = some true :=
  kitAny_cons (kit_ty h1) (fun e => Bool.noConfusion e) (fun _ => rfl)
theorem all_true (n : Nat) : (List.replicate n true).all id = true := by simp
theorem map_rep (n : Nat) : (List.replicate n true).map V.bl = List.replicate n (V.bl true) := by simp
theorem ne_bl (b : Bool) : (!decide (V.bl b = V.bl b)) = false := by simp
theorem paired2 : Paired ClsV [V.ty "list", V.ty "tuple"] [Value.type "list", Value.type "tuple"] := .cons (.ty _) (.cons (.ty _) .nil)
/-! ## an error's field; what its class says stands in the reading -/
@[irreducible] def tXq (K : PySem.W.Frag) (a : Addr) (cls : Value) (d : Option Addr) (f : Str) (te : TE) : TE := fun σ H Q => te σ H fun x G => x = .ref a ∧ ∃ C, cls = .ref C ∧ XfC K C ∧ PySem.W.findIn K (.ref C) f = some none ∧ ∃ (dd : Addr) (fs : List (Str × V)) (v : V), d = some dd ∧ G dd = some (.xd fs) ∧ fs.lookup f = some v ∧ Q v G
theorem pe_xq {X : Cx} {a : Addr} {oe : Obj} {cls : Value} {d : Option Addr} {e : Expr} {te : TE} {pos : Pos} {n : Str} (hz : Zc cls d oe) (hf : ∃ vs, oe.data = .fields vs) (hpn : (a, oe) ∈ X.pn) (he : PE X e te) (hb : attributeBase e n X.env (eval e X.env) = eval e X.env := by rfl) :
    PE X (.Attribute e n pos) (tXq X.K a cls d n te) := by
  refine ⟨fun pins s σ H Q I h => ?_⟩
  unfold tXq at h
  refine attr_of hb (thn (he.run pins s σ H _ I h) fun u z1 ⟨x, G, I1, rx, ex, C, ec, T, hno, dd, fs, v, ed, ea, l, q⟩ => ?_)
  subst ex ec ed
  obtain rfl : u = Value.ref a := rx
  have ha := (I1.pin (a, oe) (List.mem_append_left _ hpn)).1
  obtain ⟨vs, hd⟩ := hf
  obtain ⟨mA, hns, hr⟩ := (show ObjOk X.prog X.w G z1.heap dd (.xd fs) from I1.hok dd _ ea)
  obtain ⟨od, ho, hl⟩ := lookIn_ns hns
  obtain ⟨u, hu, ru⟩ := RelO.some_of (v := v) (o := mA n) (by rw [← l]; exact hr n)
  have J : PySem.W.InstAt z1.heap a oe C (some od) := ⟨ha, hz.1, by unfold PySem.W.notCls; rw [hd] <;> rfl, by rw [hz.2]; exact ho⟩
  exact HandSPX.exc_get I1.kIn J T.ga T.gg T.exC (PySem.W.findObj_own T.hdC hno rfl (by rw [hl, hu])) (handed_of ru) ⟨v, G, I1.tok _, ru, q⟩
/-! ## a def of one parameter, called within an except suite with what is pinned there -/
theorem pe_callP {X : Cx} {k : Nat} {f : Addr} {nm name qual x0 : Str} {params : Arguments} {body : List Stmt} {scope : Scope} {dV kV doc pm cdv ct oc : Value} {an od : Option Addr} {osl : Array (Option Value)} {N : List Str} {sp : V → Hp → VK → Prop} {q pos : Pos} {e : Expr} {te : TE}
    (lk : X.K.lookup f = some ⟨oc, od, .func (PySem.W.fnOf name qual params body scope dV kV doc pm an cdv ct), osl⟩) (hcd : PySem.W.codeIn X.K cdv qual = true) (S : FnScope N [x0] scope) (p : Addr × Obj) (hp : p ∈ X.pn) (hr : L2H.RoomH (k + 1) X.A)
    (hg : Gl X nm) (hm : X.mg nm = some (.ref f)) (hk : PySem.W.keepIn X.K (.ref f) = true) (hb : Binds X.K (PySem.W.fnOf name qual params body scope dV kV doc pm an cdv ct) [x0] [])
    (hbody : ∀ (A : Around) (outer : List Env) (s : Shared) (H : Hp) (v : V) (Q : VK), L2H.RoomH k (A.deeper (envOfC qual scope s.heap.objs.size f cdv)) → sp v H Q → ∃ t, PSs (L2H.cxH CX0 X.prog X.w X.K X.mg X.base N qual scope f cdv A outer s H E0 p) body t ∧ t { nx := fun _ G => Q .non G, rt := Q } (L2.start N [v]) H)
    (he : PE X e te) (hdb : (nm == ("__debug__" : Str)) = false := by decide) (h1 : starEach [e] X.env = (false, eval e X.env) :: starEach [] X.env := by rfl) (h2 : (backTo pos (starEach [] X.env)).any (·.1) = false := by rfl) :
    PE X (.Call (.Name nm q) [e] [] pos) (fun σ H Q => tCons te tNil σ H fun vs G => ∃ v, vs = [v] ∧ sp v G Q) := by
  refine ⟨fun pins s σ H Q I h => ?_⟩
  refine wpAny_Call_Name_kw (ld_glob I hg hm ?_ hdb)
  refine PySem.W.callWith_K (h₀ := X.base) I.ok.mod.kin hk (thn ((pa_cons he pa_nil h1).run pos pins s σ H _ I h) fun us z ⟨vs, G, I1, r, v, ev, hsp⟩ => ⟨I1.kIn, ?_⟩) h1 h2
  subst ev
  obtain ⟨u, rfl, ru⟩ : ∃ u, us = [u] ∧ RelV v u := by
    cases r with
    | cons r1 r2 =>
      cases r2
      exact ⟨_, rfl, r1⟩
  have P1 := I1.pin p (List.mem_append_left _ hp)
  have hpin : L2H.PinOk X.stack G z p := ⟨P1.1, P1.2.1, fun hin => (List.mem_cons.mp (I1.stkSub p.1 hin)).elim P1.2.2.1 P1.2.2.2.1, P1.2.2.2.2⟩
  have run : codeAny (model X.prog X.w) X.A (.call (.ref f) ⟨[u], []⟩) (CR CX0 X.stack X.prog X.w G z Q E0) z := by
    have KX := I1.kIn
    have kinds : ∀ y ∈ [x0].zip [u], scope.names.lookup y.1 = some .local ∨ (scope.names.lookup y.1 = some .cell ∧ ((cellsFrom (z.heap.objs.size + 1) scope.names []).lookup y.1).isSome = true) := fun ⟨n, _⟩ hy => by
      rcases S.par n (List.of_mem_zip hy).1 with w1 | w1
      · exact .inl w1
      · exact .inr ⟨w1, PySem.W.cellsFrom_some _ _ _ (.inl w1)⟩
    have hbs := hb z [u] KX rfl
    refine codeAny_call_function hr.depth (KX _ _ lk) rfl S.co S.gen rfl (PySem.W.codeRec_of KX hcd) (hbs _ _ _ _ ?_)
    refine wpAny_newFunctionEnv_cells S.kind kinds fun env henv z2 x => ?_
    subst henv
    refine ⟨I1.nolimit.keeps x.toInCall.keep, codeAny_func ?_⟩
    obtain ⟨t, ht, hq⟩ := hbody X.A X.stack z G v Q (hr.deeper _) hsp
    have J := L2H.inv_startH (CX := CX0) (E := E0) S hpin I1.env0 (vs := [v]) rfl (.cons ru .nil) x
    refine wpAny_mono (ht.run [] z2 _ G _ J hq) (fun fl z3 hs => ?_) fun e z3 hs => hs
    cases fl with
    | ret u3 =>
      obtain ⟨v3, _, G3, J3, rv, q3⟩ := hs
      exact ⟨v3, G3, J3.os, J3.bare, J3.base, J3.hok, rv, q3⟩
    | next =>
      obtain ⟨_, G3, J3, q3⟩ := hs
      exact ⟨V.non, G3, J3.os, J3.bare, J3.base, J3.hok, rfl, q3⟩
    | brk =>
      obtain ⟨_, _, _, q3⟩ := hs
      exact q3.elim
    | cont =>
      obtain ⟨_, _, _, q3⟩ := hs
      exact q3.elim
  refine wpAny_call (codeAny_mono run fun res z4 hq => ?_)
  cases res with
  | error er => exact (show False from hq).elim
  | ok fl =>
    cases fl with
    | ret u4 => exact I1.after hq
    | next => exact hq.elim
    | brk => exact hq.elim
    | cont => exact hq.elim
/-! ## which field an error has -/
def tags5 : List V := [.str "CircularName", .str "InvalidName", .str "DuplicateName", .str "WrongKind", .str "UndefinedName"]
def tags2 : List V := [.str "InvalidText", .str "InvalidCommand"]
structure NoneTag (t : Str) : Prop where
  h5 : inV (.str t) tags5 = false
  h2 : inV (.str t) tags2 = false
  h3 : t ≠ "InvalidMachine"
  h4 : t ≠ "LimitReached"
  h6 : t ≠ "NameInUse"
  h7 : t ≠ "InvalidDocument"
def ErrAt (K : PySem.W.Frag) (G : Hp) (cls : Value) (d : Option Addr) (t : Str) : Prop := ∃ (C dd : Addr) (fs : List (Str × V)), cls = .ref C ∧ XfC K C ∧ PySem.W.findIn K (.ref C) "tag" = some none ∧ d = some dd ∧ G dd = some (.xd fs) ∧ fs.lookup ("tag" : Str) = some (V.str t)
theorem ErrAt.same {K : PySem.W.Frag} {G G' : Hp} {cls : Value} {d : Option Addr} {t : Str} (e : Same G G') (h : ErrAt K G cls d t) : ErrAt K G' cls d t := by
  obtain ⟨C, dd, fs, h1, h2, h3, h4, h5, h6⟩ := h
  exact ⟨C, dd, fs, h1, h2, h3, h4, e _ _ h5, h6⟩
theorem tag_read {K : PySem.W.Frag} {G : Hp} {cls : Value} {d : Option Addr} {t : Str} {a : Addr} {i : Nat} {σ : L2.St} {Q : VK} (h : ErrAt K G cls d t) (hs : σ[i]? = some (some (.ref a))) (q : Q (.str t) G) : tXq K a cls d "tag" (tVar i) σ G Q := by
  obtain ⟨C, dd, fs, h1, h2, h3, h4, h5, h6⟩ := h
  unfold tXq
  exact ⟨_, hs, rfl, C, h1, h2, h3, dd, fs, _, h4, h5, h6, q⟩
theorem ne_str {x y : Str} (h : x ≠ y) : decide (V.str x = V.str y) = false := by simp [h]
def spField (K : PySem.W.Frag) (a : Addr) (cls : Value) (d : Option Addr) : V → Hp → VK → Prop := fun v H Q => v = .ref a ∧ ∃ t, ErrAt K H cls d t ∧ NoneTag t ∧ ∀ G, Same H G → Q .non G
/-! ## _law_outcome(lambda: ..): what is wanted of the lambda -/
def OutWish (K : PySem.W.Frag) (c1 c2 c3 : Value) (Q : VK) : XK := fun cls d G => PySem.W.exmAny K cls [c1, c2, c3] = some true ∧ ∃ t, ErrAt K G cls d t ∧ NoneTag t ∧ ∀ G' p, Same G G' → G' p = none → Q (.ref p) (upd G' p (.tup [.str t, .non]))
def TTo (K : PySem.W.Frag) (c1 c2 c3 : Value) : (XK → Hp → VK → Prop) → Hp → VK → Prop := fun tl H Q => tl (OutWish K c1 c2 c3 Q) H (fun v G => (2 : Nat) ≤ sizeLine ∧ ∀ p, G p = none → Q (.ref p) (upd G p (.tup [.str "", v])))
theorem pss_ex {X : Cx} {ι : Type} {C : ι → Prop} {b : List Stmt} {t : ι → TS} (h : ∀ i, C i → PSs X b (t i)) : PSs X b (fun D σ H => ∃ i, C i ∧ t i D σ H) :=
  ⟨fun pins s σ H D I ⟨i, hi, w⟩ => (h i hi).run pins s σ H D I w⟩
/-! ## what is no list stays -/
def Keep (G G' : Hp) : Prop := ∀ b o, G b = some o → (∀ xs, o ≠ .lst xs) → G' b = some o
theorem Keep.of {G G' : Hp} (e : Same G G') : Keep G G' := fun b o h _ => e b o h
theorem Keep.trans {G G1 G2 : Hp} (a : Keep G G1) (b : Keep G1 G2) : Keep G G2 := fun c o h n => b c o (a c o h n) n
theorem Keep.put {G : Hp} {p : Addr} {xs : List V} {o : HO} (h : G p = some (.lst xs)) : Keep G (upd G p o) := fun b u q n => by
  rw [upd_ne (fun z => n xs (Option.some.inj (q.symm.trans (by rw [z]; exact h))))]
  exact q
theorem Keep.new {G : Hp} {p : Addr} {o : HO} (h : G p = none) : Keep G (upd G p o) := Keep.of (same_upd (Same.refl G) h)
theorem Keep.tabs {T : List (Addr × Str)} {G G' : Hp} (e : Keep G G') (h : LamX.Tabs T G) : LamX.Tabs T G' := fun p hp => by
  obtain ⟨ps, h1, h2, h3⟩ := h p hp
  refine ⟨ps, e _ _ h1 (fun xs z => nomatch z), h2, fun pos cv hc => ?_⟩
  obtain ⟨c, e1, e2⟩ := h3 pos cv hc
  exact ⟨c, e1, e _ _ e2 (fun xs z => by unfold LamX.CodeO at z; cases z)⟩
theorem RngAt.same {G G' : Hp} {p q : Addr} {ns : List Int} {i v sd : Int} (e : Same G G') (R : RngAt G p q ns i v sd) : RngAt G' p q ns i v sd := ⟨e _ _ R.at_p, e _ _ R.at_q, R.len, R.ok, R.ne⟩
theorem RngAt.extN {G G' : Hp} {p q : Addr} {ns : List Int} {i v sd : Int} (e : LamX.ExtN G G') (R : RngAt G p q ns i v sd) : RngAt G' p q ns i v sd :=
  ⟨e _ _ R.at_p (fun ps z => nomatch z), e _ _ R.at_q (fun ps z => nomatch z), R.len, R.ok, R.ne⟩
theorem not_true_if {A B : Prop} (h : B) : if (!true) = true then A else B := iteF h
theorem big_lt {n : Nat} {a : Int} (h : a.natAbs < 2 ^ n) (hn : n ≤ 8000) : a.natAbs < 2 ^ 8000 := Nat.lt_of_lt_of_le h (Nat.pow_le_pow_right (by decide) hn)
theorem log_small {m : Nat} (h : m ≤ 1000000000000000000000000000000) : m.log2 < 1920 := by
  have z : m < 2 ^ 100 := Nat.lt_of_le_of_lt h (by decide)
  exact Nat.lt_of_lt_of_le (PySem.Flt.log2_lt_of (by decide) z) (by decide)
theorem gcdI_one (a : Int) : gcdI a 1 = 1 := by unfold gcdI; rw [Int.natAbs_one, Nat.gcd_one_right]; rfl
theorem frN_one (a : Int) : frN a 1 = a := by unfold frN; rw [gcdI_one, if_neg (by decide), Int.ediv_one]
theorem frD_one (a : Int) : frD a 1 = 1 := by unfold frD; rw [gcdI_one, if_neg (by decide), Int.ediv_one]
theorem ediv_abs_le (a : Int) {g : Int} (hg : 0 < g) : (a / g).natAbs ≤ a.natAbs := by
  rcases Int.le_total 0 a with h | h
  · have h1 := Int.ediv_nonneg h (Int.le_of_lt hg)
    have h2 := Int.ediv_le_self g h
    omega
  · have h3 := Int.ediv_mul_le a (Int.ne_of_gt hg)
    have h4 : a / g ≤ 0 := by
      have := Int.ediv_le_ediv hg h
      rwa [Int.zero_ediv] at this
    have h5 := Int.lt_ediv_add_one_mul_self a hg
    -- a ≤ a / g
    have h6 : a ≤ a / g := by
      rcases Int.lt_or_le (a / g) a with q | q
      · exfalso
        have h7 : a / g + 1 ≤ a := by omega
        have h8 : (a / g + 1) * g ≤ (a / g + 1) * 1 ∨ (a / g + 1) > 0 := by
          rcases Int.lt_or_le 0 (a / g + 1) with z | z
          · exact .inr z
          · exact .inl (Int.mul_le_mul_of_nonpos_left z (by omega))
        rcases h8 with z | z
        · omega
        · omega
      · exact q
    omega
theorem frN_abs (a b : Int) (hb : b ≠ 0) : (frN a b).natAbs ≤ a.natAbs := by
  unfold frN
  have := ediv_abs_le (if b < 0 then -a else a) (gcdI_pos (a := a) hb)
  split at this <;> split <;> omega
theorem frD_abs (a b : Int) (hb : b ≠ 0) : (frD a b).natAbs ≤ b.natAbs := by
  unfold frD
  have := ediv_abs_le (if b < 0 then -b else b) (gcdI_pos (a := a) hb)
  split at this <;> split <;> omega
/-! ## what the head tells of a def, an error's class, the law's own code object -/
def DefAt (K : PySem.W.Frag) (x qual : Str) (st : Stmt) (f : Addr) : Prop := ∃ fd, Fun K x qual st f fd
theorem def_mk {K : PySem.W.Frag} {x qual : Str} {st : Stmt} {f : Addr} {oc kV doc pm cdv ct : Value} {od an : Option Addr} {osl : Array (Option Value)} (l : K.lookup f = some ⟨oc, od, .func (PySem.W.fnOf x qual (defArgs st) (defBody st) (defScope st) .none kV doc pm an cdv ct), osl⟩)
    (c : PySem.W.codeIn K cdv qual = true) (k : PySem.W.keepIn K (.ref f) = true) : DefAt K x qual st f := ⟨_, fun_mk l c k⟩
def DfltAt (K : PySem.W.Frag) (x : Str) (st : Stmt) (dv : V) (f : Addr) : Prop := ∃ fd, FunD K x x (defArgs st) (defBody st) (defScope st) [dv] [] f fd
theorem dflt_mk {K : PySem.W.Frag} {x : Str} {st : Stmt} {dv : V} {f TD : Addr} {oc kV doc pm cdv ct ot dw : Value} {od an odt : Option Addr} {osl slt : Array (Option Value)} {n : Nat} (l : K.lookup f = some ⟨oc, od, .func (PySem.W.fnOf x x (defArgs st) (defBody st) (defScope st) (.ref TD) kV doc pm an cdv ct), osl⟩)
    (c : PySem.W.codeIn K cdv x = true) (k : PySem.W.keepIn K (.ref f) = true) (t : K.lookup TD = some ⟨ot, odt, .seq #[dw] n, slt⟩) (r : RelV dv dw) : DfltAt K x st dv f :=
  ⟨_, ⟨⟨oc, od, .ref TD, kV, doc, pm, an, cdv, ct, osl, rfl, l, c, .inr ⟨by simp, TD, _, [dw], n, rfl, t, rfl, .cons r .nil⟩, .inl rfl⟩, k⟩⟩
theorem oex_mk {K : PySem.W.Frag} {C : Addr} {nm q : Str} {N : Addr} {bs bm : List Value} {sn : List Str} {sub : List Value} {ab : Bool} {col : Option Bool} {dd : Option Addr} {m0 m1 m2 m3 m5 : Option Value}
    (l : K.lookup C = some (excClassObj nm q C N bs bm true sn sub ab col dd m0 m1 m2 m3 m5 "ValueError.__new__")) (r : PySem.HandSPX.refsVE bm = true) (sa : PySem.W.findIn K (.ref C) "__setattr__" = some (some (.builtin "object.__setattr__")))
    (eC : PySem.W.subIn K (.ref C) (.type "BaseException") = some true) (tC : PySem.W.typeIn K (.ref C) = some (.type "type")) (kC : PySem.W.keepIn K (.ref C) = true) : OexC K C :=
  ⟨⟨nm, q, N, bs, bm, sn, sub, ab, col, dd, m0, m1, m2, m3, m5, l, r⟩, sa, eC, tC, kC⟩
/-- an own class that stands in an except clause, and whether the errors of the class at C are of it -/
structure ExmIn (K : PySem.W.Frag) (C D : Addr) (b : Bool) : Prop where
  e : PySem.W.subIn K (.ref D) (.type "BaseException") = some true
  d : PySem.W.hasDictIn K D = true
  t : PySem.W.typeIn K (.ref D) = some (.type "type")
  s : PySem.W.subIn K (.ref C) (.ref D) = some b
theorem exm_three {K : PySem.W.Frag} {C C1 C2 C3 : Addr} {b1 b2 b3 : Bool} (h1 : ExmIn K C C1 b1) (h2 : ExmIn K C C2 b2) (h3 : ExmIn K C C3 b3) (hb : (b1 || (b2 || (b3 || false))) = true) : PySem.W.exmAny K (.ref C) [.ref C1, .ref C2, .ref C3] = some true := by
  have e1 := PySem.W.exm_ref h1.e h1.d h1.t h1.s
  have e2 := PySem.W.exm_ref h2.e h2.d h2.t h2.s
  have e3 := PySem.W.exm_ref h3.e h3.d h3.t h3.s
  simp only [PySem.W.exmAny, e1, e2, e3, hb]
/-- the law's code object -/
structure CodeAt (K : PySem.W.Frag) (c PP : Addr) (vs : Array Value) (dd : Option Addr) (sl : Array (Option Value)) : Prop where
  l : K.lookup c = some ⟨.type "code", dd, .fields vs, sl⟩
  p : vs[11]? = some (.ref PP)
  g : ∃ file tf flags tg inF text tt, vs.getD 11 .none = .ref PP ∧ vs.getD 18 .none = .str file tf ∧ vs.getD 7 .none = .int flags tg ∧ vs.getD 9 .none = .bool inF ∧ vs.getD 10 .none = .int text tt
  n : K.lookup PP = none
theorem CodeAt.hd {K : PySem.W.Frag} {c PP : Addr} {vs : Array Value} {dd : Option Addr} {sl : Array (Option Value)} {h : Heap} (X : K.In h) (C : CodeAt K c PP vs dd sl) : PySem.W.CodeHd h c PP := by
  obtain ⟨file, tf, flags, tg, inF, text, tt, h1, h2, h3, h4, h5⟩ := C.g
  exact ⟨_, vs, file, tf, flags, tg, inF, text, tt, X _ _ C.l, rfl, rfl, C.p, h1, h2, h3, h4, h5, fun e => by
    have z := C.n
    rw [← e, C.l] at z
    cases z⟩
end Ew
namespace Ew
open PySem PySem.Spec PyProof.Rows L2
/-! ## sorted of a tuple of ints -/
section
variable {prog : Program} {w : World} {A : Around} {E : Value → Shared → Prop} {s : Shared}
theorem collect_tup {l : Addr} {vs : List Value} {o : Obj} {m : Nat} {Q : List Value → Shared → Prop} (ho : s.heap.get? l = some o) (hc : o.cls = .type "tuple") (hd : o.data = .seq vs.toArray m) (hsz : vs.length ≤ sizeLine)
    (h : Q vs { s with heap := (s.heap.push (seqObj "list" #[] 0)).update s.heap.objs.size (Obj.mapSeq (· ++ vs.toArray)) }) : wpAny (model prog w) A (collect (.ref l)) Q E s := by
  unfold collect
  refine wpAny_bind (wpAny_runValue (codeAny_builtin entry_proto_collect' ?_))
  show wpAny _ _ (do again (.builtin "list.__iadd__" ⟨[← newList [], .ref l], []⟩)) _ _ s
  refine wpAny_bind (wpAny_newList (wpAny_pure ⟨Code.quiet_builtin _ (by decide +kernel), codeAny_builtin entry_list_iadd' ?_⟩))
  show wpAny _ _ (Builtin.List.listExtendWith (.ref s.heap.objs.size) (.ref l) (.ref s.heap.objs.size)) _ _ { s with heap := s.heap.push (seqObj "list" #[] 0) }
  unfold Builtin.List.listExtendWith
  have hl : (s.heap.push (seqObj "list" #[] 0)).get? l = some o := Heap.get?_push_of_some _ ho
  refine wpAny_bind (wpAny_typeOf (T := "tuple") ⟨o, hl, hc⟩ ?_)
  rw [if_pos (by rw [show (Value.type "tuple" == Value.type "tuple") = true from rfl, Bool.or_true])]
  refine wpAny_bind (listItems_at hl hd ?_)
  refine wpAny_bind (listItems_at (xs := #[]) (n := 0) (Heap.get?_push_size _ rfl) rfl ?_)
  rw [if_neg (by simp)]
  refine wpAny_bind (listUpdate_at (xs := #[]) (n := 0) (Heap.get?_push_size _ rfl) rfl ?_ (Nat.zero_le _) (by show (#[] ++ vs.toArray).size ≤ sizeLine + 1; rw [Array.empty_append, List.size_toArray]; omega))
  refine wpAny_pure ?_
  refine wpAny_bind (wpAny_load (get?_update_seq (Heap.get?_push_size _ rfl) _) ?_)
  show wpAny _ _ (pure ((#[] : Array Value) ++ vs.toArray).toList) Q E _
  rw [Array.empty_append]
  exact wpAny_pure h
theorem sorted_tup {l : Addr} {vs : List Value} {ns : List Int} {o : Obj} {m : Nat} {Q : Value → Shared → Prop} (ho : s.heap.get? l = some o) (hc : o.cls = .type "tuple") (hd : o.data = .seq vs.toArray m) (hI : IntsAre vs ns) (h64 : vs.length < 64)
    (h : ∀ (out : Array Value) (ms : List Int), IntsAre out.toList ms → ms.Perm ns → ms.Pairwise (· ≤ ·) → Q (.ref (s.heap.objs.size + 1)) { s with heap := sortedAll s.heap vs out }) :
    wpAny (model prog w) A (call (.builtin "sorted") [.ref l]) Q E s := by
  refine Calls.call_function_entry kind_sorted plain_sorted entry_sorted (args_sorted1 _) ?_
  unfold Builtin.«sorted»
  refine wpAny_bind (m := checkCount "sorted" 1 1 _) (wpAny_pure ?_)
  have hz : vs.length ≤ sizeLine := by rw [sizeLine_eq]; omega
  refine wpAny_bind (collect_tup ho hc hd hz ?_)
  refine wpAny_bind (wpAny_newList ?_ hz)
  have e1 : ((s.heap.push (seqObj "list" #[] 0)).update s.heap.objs.size (Obj.mapSeq (· ++ vs.toArray))).objs.size = s.heap.objs.size + 1 := (Heap.size_update ..).trans (size_push' ..)
  have g1 : (((s.heap.push (seqObj "list" #[] 0)).update s.heap.objs.size (Obj.mapSeq (· ++ vs.toArray))).push (seqObj "list" vs.toArray 0)).get? (s.heap.objs.size + 1) = some (seqObj "list" vs.toArray 0) := by
    rw [← e1]
    exact Heap.get?_push_size _ rfl
  show wpAny _ _ _ _ _ { s with heap := ((s.heap.push (seqObj "list" #[] 0)).update s.heap.objs.size (Obj.mapSeq (· ++ vs.toArray))).push (seqObj "list" vs.toArray 0) }
  rw [e1]
  refine wpAny_bind (wpAny_holding (wpAny_call_entry slot_list_sort ⟨_, g1, rfl⟩ entry_list_sort (list_sort_tree g1 hI h64 fun out ms a1 a2 a3 => ⟨_, rfl, ?_⟩) (args_list_sort _)))
  exact wpAny_pure ⟨_, rfl, h out ms a1 a2 a3⟩
end
/-- sorted(x), x a list or a tuple of fewer than 64 ints -/
def rSortA (K : PySem.W.Frag) : List V → Hp → VK → Prop := fun vs H Q => ∃ (a : Addr) (ns : List Int), vs = [V.ref a] ∧ (SqL K H a (ns.map V.int) ∨ SqT K H a (ns.map V.int)) ∧ ns.length < 64 ∧
  ∀ (ms : List Int) (p : Addr), ms.Perm ns → ms.Pairwise (· ≤ ·) → H p = none → Q (.ref p) (upd H p (.lst (ms.map V.int)))
theorem cr_sortA {X : Cx} : CallR X (.builtin "sorted") (rSortA X.K) := by
  intro pins s σ H vs us Q I r h
  obtain ⟨a, ns, rfl, hs, h64, q⟩ := h
  rw [Vals.ref1 r]
  have fin : ∀ (its : List Value) (out : Array Value) (ms : List Int), IntsAre out.toList ms → ms.Perm ns → ms.Pairwise (· ≤ ·) → EP X pins σ Q (.ref (s.heap.objs.size + 1)) { s with heap := sortedAll s.heap its out } := fun its out ms h1 h2 h3 => by
    obtain ⟨ep, he⟩ := PyProof.Rows.sortedAll_at s.heap its out
    have hlen : (ms.map V.int).length ≤ sizeLine := by
      rw [List.length_map, h2.length_eq, sizeLine_eq]
      omega
    exact ⟨.ref _, upd H (s.heap.objs.size + 1) (.lst (ms.map V.int)), I.laid (t' := s.toks) (fun _ _ => PyProof.Rows.sortedAll_old) (Nat.le_succ _) ⟨hlen, out.toList, ep, vals_of_ints h1, he⟩, rfl, q ms _ h2 h3 (I.hok.fresh (Nat.le_succ _))⟩
  rcases hs with hs | hs
  · obtain ⟨its, rv, hl, _⟩ := I.list hs
    have hi := rv.ints
    exact PyProof.Rows.sorted_ints hl.isList hi (by rw [hi.length]; exact h64) fun out ms h1 h2 h3 => fin its out ms h1 h2 h3
  · obtain ⟨its, rv, ⟨o, ho, hc, m, hd⟩, _⟩ := I.tuple hs
    have hi := rv.ints
    exact sorted_tup ho hc hd hi (by rw [hi.length]; exact h64) fun out ms h1 h2 h3 => fin its out ms h1 h2 h3
/-! ## how many different ints -/
theorem nodup_le : ∀ {l m : List Int}, l.Nodup → (∀ k ∈ l, k ∈ m) → l.length ≤ m.length
  | [], _, _, _ => Nat.zero_le _
  | a :: l, m, hn, hs => by
    obtain ⟨h1, h2⟩ := List.nodup_cons.mp hn
    have ha : a ∈ m := hs a List.mem_cons_self
    have ih := nodup_le (l := l) (m := m.erase a) h2 fun k hk => (List.mem_erase_of_ne (fun (e : k = a) => h1 (by rw [← e]; exact hk))).mpr (hs k (List.mem_cons_of_mem _ hk))
    rw [List.length_erase_of_mem ha] at ih
    have := List.length_pos_of_mem ha
    show l.length + 1 ≤ m.length
    omega
theorem dup_cut : ∀ {m : List Int}, ¬ m.Nodup → ∃ r : List Int, r.length < m.length ∧ ∀ k ∈ m, k ∈ r
  | [], h => absurd List.nodup_nil h
  | a :: m, h => by
    by_cases ha : a ∈ m
    · exact ⟨m, Nat.lt_succ_self _, fun k hk => (List.mem_cons.mp hk).elim (fun e => e ▸ ha) id⟩
    · obtain ⟨r, h1, h2⟩ := dup_cut (m := m) fun hm => h (List.nodup_cons.mpr ⟨ha, hm⟩)
      exact ⟨a :: r, Nat.succ_lt_succ h1, fun k hk => (List.mem_cons.mp hk).elim (fun e => e ▸ List.mem_cons_self) fun z => List.mem_cons_of_mem _ (h2 k z)⟩
theorem count_iff {l m : List Int} (hn : l.Nodup) (h : ∀ k, k ∈ l ↔ k ∈ m) : l.length = m.length ↔ m.Nodup := by
  constructor
  · intro e
    by_cases hm : m.Nodup
    · exact hm
    · obtain ⟨r, h1, h2⟩ := dup_cut hm
      have := nodup_le hn fun k hk => h2 k ((h k).mp hk)
      omega
  · intro hm
    have h1 := nodup_le hn fun k hk => (h k).mp hk
    have h2 := nodup_le hm fun k hk => (h k).mpr hk
    omega
theorem dedup_spec : ∀ (xs acc : List Int), acc.Nodup → (xs.foldl step_dedup acc).Nodup ∧ ∀ k, k ∈ xs.foldl step_dedup acc ↔ k ∈ acc ∨ k ∈ xs
  | [], acc, h => ⟨h, fun k => by simp⟩
  | x :: xs, acc, h => by
    have e : step_dedup acc x = if acc.any (· == x) then acc else acc ++ [x] := rfl
    by_cases c : x ∈ acc
    · have e2 : step_dedup acc x = acc := by rw [e, if_pos (by simpa using c)]
      obtain ⟨h1, h2⟩ := dedup_spec xs acc h
      rw [List.foldl_cons, e2]
      refine ⟨h1, fun k => (h2 k).trans ?_⟩
      constructor
      · rintro (z | z)
        · exact .inl z
        · exact .inr (List.mem_cons_of_mem _ z)
      · rintro (z | z)
        · exact .inl z
        · rcases List.mem_cons.mp z with q | q
          · exact .inl (q ▸ c)
          · exact .inr q
    · have e2 : step_dedup acc x = acc ++ [x] := by rw [e, if_neg (by simpa using c)]
      have hn : (acc ++ [x]).Nodup := List.nodup_append.mpr ⟨h, by simp, fun a ha b hb z => c (by rw [← List.mem_singleton.mp hb, ← z]; exact ha)⟩
      obtain ⟨h1, h2⟩ := dedup_spec xs (acc ++ [x]) hn
      rw [List.foldl_cons, e2]
      refine ⟨h1, fun k => (h2 k).trans ?_⟩
      rw [List.mem_append, List.mem_singleton, List.mem_cons, or_assoc]
theorem range_getD (ns : List Int) : (List.range ns.length).map (fun i => ns.getD i 0) = ns := by
  apply List.ext_getElem
  · simp
  · intro i h1 h2
    simp [List.getD_eq_getElem?_getD, List.getElem?_eq_getElem h2]
theorem firstMet_iff (ns : List Int) : (firstMet (fun i => ns.getD i 0) ns.length).length = ns.length ↔ ns.Nodup := by
  unfold firstMet
  rw [range_getD]
  obtain ⟨h1, h2⟩ := dedup_spec ns [] List.nodup_nil
  exact count_iff h1 fun k => (h2 k).trans (by simp)
def tLenSetA (K : PySem.W.Frag) (ta : TE) : TE := fun σ H Q => ta σ H fun x G => ∃ (l : Addr) (ns : List Int), x = .ref l ∧ (SqL K G l (ns.map V.int) ∨ SqT K G l (ns.map V.int)) ∧ ns.length ≤ 4000 ∧ ∀ c : Nat, (c = ns.length ↔ ns.Nodup) → Q (.int (c : Int)) G
theorem pe_lenSetA {X : Cx} {a : Expr} {ta : TE} {p p2 q pos : Pos} (hg : Gl X "len") (hm : X.mg "len" = none) (hg2 : Gl X "set") (hm2 : X.mg "set" = none) (ha : PE X a ta) (hc : X.calm = true := by rfl)
    (na : starEach [a] X.env = (false, eval a X.env) :: starEach [] X.env := by rfl) : PE X (.Call (.Name "len" p) [.Call (.Name "set" p2) [a] [] q] [] pos) (tLenSetA X.K ta) := by
  refine ⟨fun pins s σ H Q I h => ?_⟩
  refine Call_ (ld_blt I hg hm boot_len (PyProof.Rows.callWith_builtin1 (PyProof.Rows.args_cons ?_ rfl) rfl rfl))
  refine Call_ (ld_blt I hg2 hm2 boot_set ?_)
  refine PyProof.Rows.callWith_type1 (PyProof.Rows.args_cons (thn (ha.run pins s σ H _ I h) fun v z ⟨x, G, I1, r1, l, ns, ex, hq, hl, k⟩ => PyProof.Rows.args_nil ?_) na) na rfl
  subst ex
  cases r1
  rcases hq with hq | hq
  · obtain ⟨its, r, pl, _⟩ := I1.list hq
    have hlen : its.toArray.size = ns.length := by rw [List.size_toArray, ← r.length, List.length_map]
    refine call_set_list (I1.ok.hd hc) pl.isList (by simpa using r.ints) (by rw [hlen]; unfold scanBound; omega) fun h2 tk hS hk => PyProof.Rows.args_nil ?_
    rw [hlen] at hS
    obtain ⟨o, es, ep, t, ho, hex, hd, _, _, hb, hf, hn⟩ := hS
    have I2 : Inv X pins σ G { z with heap := h2, toks := tk } := I1.kept fun b o e => hk b o (Heap.lt_size e) e
    exact call_len_set ho hex hd hf (by unfold scanBound at hb; omega) ⟨.int (es.size : Nat), G, I2.tok _, ⟨_, rfl⟩, k _ (by rw [hn]; exact firstMet_iff ns)⟩
  · obtain ⟨its, r, pt, _⟩ := I1.tuple hq
    refine call_set_tupI ns (I1.ok.hd hc) (show z.heap.IsTuple l its.toArray from pt) (by simpa using r.ints) (by unfold scanBound; omega) fun h2 tk c R hcn hk => PyProof.Rows.args_nil ?_
    obtain ⟨o, es, ep, t, ho, hex, hd, _, nd, hm3, hb, hf, hn, _⟩ := R
    have I2 : Inv X pins σ G { z with heap := h2, toks := tk } := I1.kept fun b o e => hk b o e
    refine call_len_set ho hex hd hf (by unfold scanBound at hb; omega) ⟨.int (es.size : Nat), G, I2.tok _, ⟨_, rfl⟩, k _ ?_⟩
    have q1 := count_iff nd (m := ns) fun j => (hm3 j).symm.trans (by simp)
    rw [List.length_map, Array.length_toList] at q1
    exact q1
/-! ## len(o) by an own __len__ -/
@[irreducible] def rLenO (C : Addr) (sp : Sp) : List V → Hp → VK → Prop := fun vs H Q => ∃ (a dx : Addr) (fs : List (Str × V)), vs = [.ref a] ∧ H a = some (.ins C dx fs) ∧ sp [.ref a] H (fun v G => ∃ n : Int, v = .int n ∧ 0 ≤ n ∧ n < 9223372036854775808 ∧ Q (.int n) G) E0
theorem cr_lenO {X : Cx} {C f : Addr} {fd : FuncData} {k : Nat} {ps : List Str} {sp : Sp} (hs : PySem.W.findIn X.K (.ref C) "__len__" = some (some (.ref f))) (hf : PySem.W.isFn X.K (.ref f) = true) (F : FnOk X.prog X.w X.K X.mg X.base CX0 k f fd ps sp) (hr : Room (k + 1) X.A) (hb : Binds X.K fd ps []) :
    CallR X (.builtin "len") (rLenO C sp) := by
  intro pins s σ H vs us Q I r h
  unfold rLenO at h
  obtain ⟨a, dx, fs, rfl, ha, hsp⟩ := h
  rw [Vals.ref1 r]
  obtain ⟨mA, O, _⟩ := ins_get I.hok ha
  obtain ⟨od, J, _⟩ := O.look
  obtain ⟨m, fr⟩ := I.fr
  refine PySem.W.len_K fr I.ok.mod.kin J hs hf ?_
  have hl : [Value.ref a].length = ps.length := F.len _ _ _ _ hsp
  have hbs := hb s [.ref a] I.kIn (by rw [List.append_nil]; exact hl)
  rw [List.append_nil] at hbs
  refine wpAny_call (codeAny_mono (F.run X.A.in1 X.stack s H ⟨[.ref a], []⟩ [.ref a] [.ref a] _ _ hr.in1 I.env0.in1 hbs (.cons rfl .nil) hsp) fun res z hq => ?_)
  cases res with
  | error er => exact (show False from hq).elim
  | ok fl =>
    cases fl with
    | ret u =>
      obtain ⟨v, G, J2, rv, n, ev, n0, n1, q⟩ := I.after hq
      subst ev
      obtain ⟨t, rfl⟩ := rv
      exact ⟨⟨n0, by have : (2 : Int) ^ 63 = 9223372036854775808 := by decide
                     omega⟩, .int n, G, J2.tok _, ⟨_, rfl⟩, q⟩
    | next => exact hq.elim
    | brk => exact hq.elim
    | cont => exact hq.elim
end Ew
namespace Ew
open PySem PySem.Spec PyProof.Rows L2
/-! ## the mathematics of digit sets; s ascends -/
def firstI (s : List Int) : Int := s.getD 0 0
def lastI (s : List Int) : Int := s.getD (s.length - 1) 0
structure AreS (b : Int) (s : List Int) : Prop where
  l2 : 2 ≤ s.length
  l24 : s.length ≤ 24
  nd : s.Nodup
  lo : -99 ≤ firstI s
  hi : lastI s ≤ 99
  gap : ∀ i, i + 1 < s.length → (s.getD (i + 1) 0 - s.getD i 0) * (b - 1) ≤ lastI s - firstI s
open Classical in
noncomputable def areB (b : Int) (s : List Int) : Bool := decide (AreS b s)
open Classical in
theorem areB_t {b : Int} {s : List Int} (h : AreS b s) : areB b s = true := by unfold areB; exact decide_eq_true h
open Classical in
theorem areB_f {b : Int} {s : List Int} (h : ¬ AreS b s) : areB b s = false := by unfold areB; exact decide_eq_false h
open Classical in
theorem areB_of {b : Int} {s : List Int} (h : areB b s = true) : AreS b s := by unfold areB at h; exact of_decide_eq_true h
/-- the ascending list of the same ints -/
def srt (s : List Int) : List Int := s.mergeSort (fun a b => decide (a ≤ b))
theorem srt_perm (s : List Int) : (srt s).Perm s := List.mergeSort_perm s _
theorem srt_asc (s : List Int) : (srt s).Pairwise (· ≤ ·) := by
  have h := List.pairwise_mergeSort (le := fun a b : Int => decide (a ≤ b)) (fun a b c h1 h2 => by simp at *; omega) (fun a b => by simp; omega) s
  exact h.imp fun h => by simpa using h
theorem srt_eq {m s : List Int} (hp : m.Perm s) (ha : m.Pairwise (· ≤ ·)) : m = srt s := PySem.W.ksm_same (hp.trans (srt_perm s).symm) ha (srt_asc s)
theorem srt_same {m s : List Int} (hp : m.Perm s) : srt m = srt s := srt_eq ((srt_perm m).trans hp) (srt_asc m)
theorem srt_len (s : List Int) : (srt s).length = s.length := (srt_perm s).length_eq
theorem getD_at {s : List Int} {i : Nat} (h : i < s.length) : s[i]? = some (s.getD i 0) := by
  rw [List.getD_eq_getElem?_getD, List.getElem?_eq_getElem h]
  rfl
theorem ints_at {s : List Int} {i : Nat} (h : i < s.length) : (s.map V.int)[i]? = some (.int (s.getD i 0)) := by
  rw [List.getElem?_map, getD_at h]
  rfl
theorem at_int {s : List Int} {z : Int} {i : Nat} (e : z = (i : Int)) (h : i < s.length) : atI (s.map V.int) z = some (.int (s.getD i 0)) := at_of e (ints_at h)
theorem at_first {s : List Int} (h : 0 < s.length) : atI (s.map V.int) 0 = some (.int (firstI s)) := at_int (i := 0) rfl h
theorem at_last {s : List Int} (h : 0 < s.length) : atI (s.map V.int) (-1) = some (.int (lastI s)) := by
  unfold atI ixN
  rw [List.length_map, if_neg (by decide), if_pos (by omega)]
  have e : ((-1 : Int) + (s.length : Int)).toNat = s.length - 1 := by omega
  rw [e]
  exact ints_at (by omega)
theorem asc_le {s : List Int} (h : s.Pairwise (· ≤ ·)) {i j : Nat} (hij : i ≤ j) (hj : j < s.length) : s.getD i 0 ≤ s.getD j 0 := PyProof.Rows.sorted_getD_le h hij hj
theorem first_le_last {s : List Int} (h : s.Pairwise (· ≤ ·)) (hl : 0 < s.length) : firstI s ≤ lastI s := asc_le h (Nat.zero_le _) (by omega)
theorem cut_tail (xs : List V) : cutV xs (some 1) none = xs.drop 1 := by
  unfold cutV
  have e := HT.sIx_nat xs.length 0 1
  rw [show (some (1 : Int)) = some ((1 : Nat) : Int) from rfl, e, HT.sIx_none]
  by_cases h : 1 ≤ xs.length
  · rw [Nat.min_eq_left h, List.take_of_length_le (by rw [List.length_drop]; omega)]
  · have z : xs = [] := List.eq_nil_of_length_eq_zero (by omega)
    subst z
    rfl
theorem walk_zipM {K : PySem.W.Frag} {a b : Addr} {xs ys : List V} {n : Nat} (hn : n = min xs.length ys.length) : Walk (RZ.ItzT K a b) n (fun H => SqT K H a xs ∧ SqT K H b ys) (YPair (fun i => xs[i]?) (fun i => ys[i]?)) :=
  ⟨fun i H hi q => ⟨xs, ys, xs[i]'(by omega), ys[i]'(by omega), q.1, q.2, List.getElem?_eq_getElem _, List.getElem?_eq_getElem _⟩, fun H q => ⟨xs, ys, q.1, q.2, by omega⟩,
    fun i H x G hi q ⟨T, u, v, e1, e2, e3, e4, e5⟩ => ⟨T, u, v, e1, e2, e3, e4 xs q.1, e5 ys q.2⟩⟩
/-- the gaps of s -/
def gapL (s : List Int) : List Int := (List.range (s.length - 1)).map fun i => s.getD (i + 1) 0 - s.getD i 0
theorem gapL_mem {s : List Int} {g : Int} : g ∈ gapL s ↔ ∃ i, i + 1 < s.length ∧ g = s.getD (i + 1) 0 - s.getD i 0 := by
  unfold gapL
  rw [List.mem_map]
  constructor
  · rintro ⟨i, hi, rfl⟩
    exact ⟨i, by have := List.mem_range.mp hi; omega, rfl⟩
  · rintro ⟨i, hi, rfl⟩
    exact ⟨i, List.mem_range.mpr (by omega), rfl⟩
theorem gapL_len (s : List Int) : (gapL s).length = s.length - 1 := by unfold gapL; simp
/-- by the widest gap -/
theorem gap_iff {b m : Int} {s : List Int} (hb : 2 ≤ b) (hm : m ∈ gapL s) (hg : ∀ g ∈ gapL s, g ≤ m) : m * (b - 1) ≤ lastI s - firstI s ↔ ∀ i, i + 1 < s.length → (s.getD (i + 1) 0 - s.getD i 0) * (b - 1) ≤ lastI s - firstI s := by
  constructor
  · intro h i hi
    have h1 := hg _ (gapL_mem.mpr ⟨i, hi, rfl⟩)
    exact Int.le_trans (Int.mul_le_mul_of_nonneg_right h1 (by omega)) h
  · intro h
    obtain ⟨i, hi, rfl⟩ := gapL_mem.mp hm
    exact h i hi
theorem mul_smallR {i j : Int} (h0 : -9223372036854775808 < j) (h1 : j < 9223372036854775808) : CMul i j := by
  have e : (2 : Int) ^ 64 = 18446744073709551616 := by decide
  refine .inr ⟨?_, ?_⟩
  · rw [e]; omega
  · rw [e]; omega
/-! ## all but p stays -/
def KeepBut (p : Addr) (H G : Hp) : Prop := ∀ c o, H c = some o → c ≠ p → G c = some o
theorem KeepBut.refl (p : Addr) (H : Hp) : KeepBut p H H := fun _ _ h _ => h
theorem KeepBut.trans {p : Addr} {H G G2 : Hp} (a : KeepBut p H G) (b : KeepBut p G G2) : KeepBut p H G2 := fun c o h n => b c o (a c o h n) n
theorem KeepBut.of {p : Addr} {H G : Hp} (e : Same H G) : KeepBut p H G := fun c o h _ => e c o h
theorem KeepBut.put {p : Addr} {H : Hp} {o : HO} : KeepBut p H (upd H p o) := fun c u h n => by rw [upd_ne n]; exact h
theorem KeepBut.new {p d : Addr} {H : Hp} {o : HO} (h : H d = none) : KeepBut p H (upd H d o) := KeepBut.of (same_upd (Same.refl H) h)
theorem RngAt.free {H : Hp} {p q : Addr} {ns : List Int} {i v sd : Int} (R : RngAt H p q ns i v sd) {d : Addr} (h : H d = none) : d ≠ p := fun e => by
  have z := R.at_p
  rw [← e, h] at z
  cases z
theorem KeepBut.free {p d : Addr} {H G : Hp} (e : KeepBut p H G) (n : d ≠ p) (h : G d = none) : H d = none := by
  cases z : H d with
  | none => rfl
  | some o =>
    have q := e d o z n
    rw [h] at q
    cases q
/-! ## the digits that a law draws -/
structure Dig (b : Int) (ds : List Int) : Prop where
  are : AreS b ds
  asc : ds.Pairwise (· < ·)
theorem asc_le_of {ds : List Int} (h : ds.Pairwise (· < ·)) : ds.Pairwise (· ≤ ·) := h.imp fun h => Int.le_of_lt h
theorem nodup_of {ds : List Int} (h : ds.Pairwise (· < ·)) : ds.Nodup := h.imp fun h => Int.ne_of_lt h
theorem srt_self {ds : List Int} (h : ds.Pairwise (· < ·)) : srt ds = ds := (srt_eq (List.Perm.refl ds) (asc_le_of h)).symm
def runL (front : Int) (n : Nat) : List Int := (List.range n).map fun (i : Nat) => front + (i : Int)
theorem runL_len (front : Int) (n : Nat) : (runL front n).length = n := by unfold runL; simp
theorem runL_at {front : Int} {n i : Nat} (h : i < n) : (runL front n).getD i 0 = front + (i : Int) := by
  unfold runL
  rw [List.getD_eq_getElem?_getD, List.getElem?_map, List.getElem?_range h]
  rfl
theorem runL_asc (front : Int) (n : Nat) : (runL front n).Pairwise (· < ·) := by
  unfold runL
  rw [List.pairwise_map]
  exact List.pairwise_lt_range.imp fun h => by omega
theorem runL_mem {front d : Int} {n : Nat} (h : d ∈ runL front n) : front ≤ d ∧ d < front + (n : Int) := by
  unfold runL at h
  obtain ⟨i, hi, rfl⟩ := List.mem_map.mp h
  have := List.mem_range.mp hi
  omega
theorem runL_dig {b front : Int} {n : Nat} (h2 : 2 ≤ b) (hb : b ≤ (n : Int)) (hn : n ≤ 24) (f0 : -99 ≤ front) (f1 : front + (n : Int) ≤ 100) : Dig b (runL front n) := by
  refine ⟨⟨by rw [runL_len]; omega, by rw [runL_len]; exact hn, nodup_of (runL_asc front n), ?_, ?_, ?_⟩, runL_asc front n⟩
  · unfold firstI
    rw [runL_at (by omega)]
    omega
  · unfold lastI
    rw [runL_len, runL_at (by omega)]
    omega
  · intro i hi
    rw [runL_len] at hi
    unfold lastI firstI
    rw [runL_len, runL_at hi, runL_at (by omega), runL_at (by omega), runL_at (by omega)]
    have e : front + ((i + 1 : Nat) : Int) - (front + (i : Int)) = 1 := by omega
    rw [e, Int.one_mul]
    omega
theorem getD_mem {ds : List Int} {i : Nat} (h : i < ds.length) : ds.getD i 0 ∈ ds := List.mem_of_getElem? (getD_at h)
theorem map_getD {ds : List Int} {f : Int → Int} {i : Nat} (h : i < ds.length) : (ds.map f).getD i 0 = f (ds.getD i 0) := by
  rw [List.getD_eq_getElem?_getD, List.getElem?_map, getD_at h]
  rfl
theorem scale_dig {b u : Int} {ds : List Int} (h : Dig b ds) (hu : u = 1 ∨ u = 2) (hr : ∀ d ∈ ds, -40 ≤ d ∧ d ≤ 40) : Dig b (ds.map (· * u)) := by
  have a := h.are
  have l0 : 0 < ds.length := by have := a.l2; omega
  have m0 := hr _ (getD_mem l0)
  have m1 := hr _ (getD_mem (show ds.length - 1 < ds.length by omega))
  have asc : (ds.map (· * u)).Pairwise (· < ·) := by
    rw [List.pairwise_map]
    exact h.asc.imp fun z => by rcases hu with rfl | rfl <;> omega
  refine ⟨⟨by rw [List.length_map]; exact a.l2, by rw [List.length_map]; exact a.l24, nodup_of asc, ?_, ?_, ?_⟩, asc⟩
  · unfold firstI
    rw [map_getD l0]
    rcases hu with rfl | rfl <;> omega
  · unfold lastI
    rw [List.length_map, map_getD (by omega)]
    rcases hu with rfl | rfl <;> omega
  · intro i hi
    rw [List.length_map] at hi
    have g := a.gap i hi
    unfold lastI firstI at g ⊢
    rw [List.length_map, map_getD hi, map_getD (by omega), map_getD (by omega), map_getD l0]
    rcases hu with rfl | rfl
    · simpa using g
    · have e : (ds.getD (i + 1) 0 * 2 - ds.getD i 0 * 2) * (b - 1) = 2 * ((ds.getD (i + 1) 0 - ds.getD i 0) * (b - 1)) := by
        rw [← Int.sub_mul, Int.mul_comm _ 2, Int.mul_assoc]
      rw [e]
      omega
theorem erase_asc {ds : List Int} (h : ds.Pairwise (· < ·)) (k : Nat) : (ds.eraseIdx k).Pairwise (· < ·) := h.sublist (List.eraseIdx_sublist ds k)
theorem erase_mem {ds : List Int} {d : Int} {k : Nat} (h : d ∈ ds.eraseIdx k) : d ∈ ds := (List.eraseIdx_sublist ds k).subset h
theorem map_erase : ∀ (ds : List Int) (k : Nat), (ds.map V.int).eraseIdx k = (ds.eraseIdx k).map V.int
  | [], _ => rfl
  | _ :: _, 0 => rfl
  | a :: l, k + 1 => by
    show V.int a :: (l.map V.int).eraseIdx k = V.int a :: (l.eraseIdx k).map V.int
    rw [map_erase l k]
theorem seqIx {r : Int} {n : Nat} (h0 : 0 ≤ r) (h1 : r < (n : Int)) : seqIndex? r n = some r.toNat := by
  unfold seqIndex?
  have e : ¬ r < 0 := by omega
  simp only [if_neg e]
  rw [if_pos (by simp [h0, h1])]
theorem erase_perm : ∀ (l : List Int) (k : Nat), k < l.length → (l.getD k 0 :: l.eraseIdx k).Perm l
  | [], k, h => absurd h (Nat.not_lt_zero k)
  | _ :: _, 0, _ => List.Perm.refl _
  | a :: l, k + 1, h => (List.Perm.swap a (l.getD k 0) (l.eraseIdx k)).trans ((erase_perm l k (Nat.lt_of_succ_lt_succ h)).cons a)
/-! ## ints as data -/
theorem layInts : ∀ ds : List Int, PyData.canLayAll0 (ds.map PyData.int) = true
  | [] => by simp [PyData.canLayAll0]
  | d :: ds => by
    have := layInts ds
    simp [PyData.canLayAll0, PyData.canLay0]
    simpa using this
theorem depInts : ∀ ds : List Int, PyData.depthAll (ds.map PyData.int) ≤ 1
  | [] => by simp [PyData.depthAll]
  | d :: ds => by
    have := depInts ds
    simp only [List.map_cons, PyData.depthAll, PyData.depth]
    omega
theorem shapedInts (ds : List Int) : SeqAt.shaped (.list (ds.map PyData.int)) = true := by
  unfold SeqAt.shaped
  have h1 : (PyData.list (ds.map PyData.int)).canLay0 = true := by
    have := layInts ds
    simpa [PyData.canLay0] using this
  have h2 : (PyData.list (ds.map PyData.int)).depth ≤ 64 := by
    have := depInts ds
    simp only [PyData.depth]
    omega
  rw [h1, decide_eq_true h2]
  rfl
theorem eqvInts (ds : List Int) : PyData.eqv (.list (ds.map PyData.int)) (.list (ds.map PyData.int)) = true := SeqAt.eqv_refl _ (SeqAt.canLay_of_shaped (shapedInts ds))
theorem dpInts {K : PySem.W.Frag} {H : Hp} : ∀ ds : List Int, DpAll K H (ds.map V.int) (ds.map PyData.int)
  | [] => .nil
  | d :: ds => .cons (.int d) (dpInts ds)
/-- tuple(x) -/
def rTup (K : PySem.W.Frag) : List V → Hp → VK → Prop := fun xs H Q => ∃ p ys, xs = [.ref p] ∧ ((SqL K H p ys ∧ ∀ l, H l = none → Q (.ref l) (upd H l (.tup ys))) ∨ (SqT K H p ys ∧ Q (.ref p) H))
theorem cr_tup {X : Cx} : CallR X (.type "tuple") (rTup X.K) := call_tuple_of
theorem same_three {K : PySem.W.Frag} {G : Hp} {n : Nat} {s t : Addr} {x0 x1 x2 y0 y1 y2 : V} (hs : G s = some (.lst [x0, x1, x2])) (ht : G t = some (.lst [y0, y1, y2])) (h0 : SameN K G n x0 y0) (h1 : SameN K G n x1 y1) (h2 : SameN K G n x2 y2) : SameN K G (n + 1) (.ref s) (.ref t) := by
  refine .inr ⟨s, t, _, _, rfl, rfl, .inl ⟨SqL.of hs, SqL.of ht⟩, rfl, (by show 3 ≤ 1000; decide), fun i u v hu hv => ?_⟩
  match i, hu, hv with
  | 0, hu, hv => cases hu; cases hv; exact h0
  | 1, hu, hv => cases hu; cases hv; exact h1
  | 2, hu, hv => cases hu; cases hv; exact h2
  | i + 3, hu, hv => cases hu
theorem same_ints {K : PySem.W.Frag} {G : Hp} {n : Nat} {s t : Addr} {ds : List Int} (hs : G s = some (.tup (ds.map V.int))) (ht : G t = some (.tup (ds.map V.int))) (hl : ds.length ≤ 1000) : SameN K G (n + 2) (.ref s) (.ref t) := by
  refine .inr ⟨s, t, _, _, rfl, rfl, .inr ⟨SqT.of hs, SqT.of ht⟩, rfl, by rw [List.length_map]; exact hl, fun i u v hu hv => ?_⟩
  obtain ⟨c, rfl⟩ := map_int_at hu
  rw [hu] at hv
  cases hv
  exact .inl ⟨rfl, rfl⟩
theorem noneBase : NoneTag "InvalidBase" := ⟨by decide +kernel, by decide +kernel, by decide +kernel, by decide +kernel, by decide +kernel, by decide +kernel⟩
theorem noneDigits : NoneTag "InvalidDigits" := ⟨by decide +kernel, by decide +kernel, by decide +kernel, by decide +kernel, by decide +kernel, by decide +kernel⟩
theorem KeepBut.keep {p : Addr} {H G : Hp} {xs : List V} (h : H p = some (.lst xs)) (e : KeepBut p H G) : Keep H G := fun b o hb n => e b o hb fun z => n xs (Option.some.inj (hb.symm.trans (by rw [z]; exact h)))
theorem KeepBut.tabs {T : List (Addr × Str)} {p : Addr} {H G : Hp} {xs : List V} (h : H p = some (.lst xs)) (e : KeepBut p H G) (t : LamX.Tabs T H) : LamX.Tabs T G := (e.keep h).tabs t
end Ew
namespace Ew
open PySem PySem.Spec PyProof.Rows L2
/-! ## fractions in lowest terms -/
structure Low (n d : Int) : Prop where
  cop : Nat.gcd n.natAbs d.natAbs = 1
  pos : 0 < d
theorem gcdI_dvd_left (a b : Int) : ∃ n : Int, a = n * gcdI a b := by
  obtain ⟨k, hk⟩ := Nat.gcd_dvd_left a.natAbs b.natAbs
  unfold gcdI
  rcases Int.natAbs_eq a with e | e
  · exact ⟨(k : Int), by rw [e, Int.natAbs_natCast]; rw [← Int.natCast_mul, Nat.mul_comm, ← hk]⟩
  · refine ⟨-(k : Int), ?_⟩
    have h2 : (a.natAbs : Int) = (k : Int) * ((Nat.gcd a.natAbs b.natAbs : Nat) : Int) := by rw [← Int.natCast_mul, Nat.mul_comm, ← hk]
    rw [Int.neg_mul, ← h2]
    exact e
theorem gcdI_comm (a b : Int) : gcdI a b = gcdI b a := by unfold gcdI; rw [Nat.gcd_comm]
theorem fr_spec (a : Int) {b : Int} (hb : b ≠ 0) : Low (frN a b) (frD a b) ∧ frN a b * b = a * frD a b := by
  have gp := gcdI_pos (a := a) hb
  obtain ⟨n, hn⟩ := gcdI_dvd_left a b
  obtain ⟨d, hd⟩ := gcdI_dvd_left b a
  rw [gcdI_comm b a] at hd
  have g0 : gcdI a b ≠ 0 := by omega
  have cop : Nat.gcd n.natAbs d.natAbs = 1 := by
    have e1 : a.natAbs = n.natAbs * (gcdI a b).natAbs := by rw [← Int.natAbs_mul, ← hn]
    have e2 : b.natAbs = d.natAbs * (gcdI a b).natAbs := by rw [← Int.natAbs_mul, ← hd]
    have e3 : (gcdI a b).natAbs = Nat.gcd a.natAbs b.natAbs := by unfold gcdI; exact Int.natAbs_natCast _
    have e4 : Nat.gcd (n.natAbs * (gcdI a b).natAbs) (d.natAbs * (gcdI a b).natAbs) = Nat.gcd n.natAbs d.natAbs * (gcdI a b).natAbs := Nat.gcd_mul_right _ _ _
    rw [← e1, ← e2, ← e3] at e4
    have e5 : 0 < (gcdI a b).natAbs := by omega
    have e6 : 1 * (gcdI a b).natAbs = Nat.gcd n.natAbs d.natAbs * (gcdI a b).natAbs := by rw [Nat.one_mul]; exact e4
    exact (Nat.eq_of_mul_eq_mul_right e5 e6).symm
  by_cases c : b < 0
  · have e1 : frN a b = -n := by
      unfold frN
      rw [if_pos c]
      have : -a = -n * gcdI a b := by rw [Int.neg_mul, ← hn]
      rw [this, Int.mul_ediv_cancel _ g0]
    have e2 : frD a b = -d := by
      unfold frD
      rw [if_pos c]
      have : -b = -d * gcdI a b := by rw [Int.neg_mul, ← hd]
      rw [this, Int.mul_ediv_cancel _ g0]
    rw [e1, e2]
    refine ⟨⟨by rw [Int.natAbs_neg, Int.natAbs_neg]; exact cop, ?_⟩, ?_⟩
    · rcases Int.lt_or_le 0 (-d) with z | z
      · exact z
      · exfalso
        have : 0 ≤ d * gcdI a b := Int.mul_nonneg (by omega) (by omega)
        omega
    · calc -n * b = -(n * b) := Int.neg_mul n b
        _ = -(n * (d * gcdI a b)) := by rw [← hd]
        _ = -((n * gcdI a b) * d) := by congr 1; ac_rfl
        _ = -(a * d) := by rw [← hn]
        _ = a * -d := (Int.mul_neg a d).symm
  · have e1 : frN a b = n := by
      unfold frN
      rw [if_neg c]
      conv => lhs; lhs; rw [hn]
      exact Int.mul_ediv_cancel _ g0
    have e2 : frD a b = d := by
      unfold frD
      rw [if_neg c]
      conv => lhs; lhs; rw [hd]
      exact Int.mul_ediv_cancel _ g0
    rw [e1, e2]
    refine ⟨⟨cop, ?_⟩, ?_⟩
    · rcases Int.lt_or_le 0 d with z | z
      · exact z
      · exfalso
        have : d * gcdI a b ≤ 0 := Int.mul_nonpos_of_nonpos_of_nonneg z (by omega)
        omega
    · calc n * b = n * (d * gcdI a b) := by rw [← hd]
        _ = (n * gcdI a b) * d := by ac_rfl
        _ = a * d := by rw [← hn]
theorem low_uniq {n d m e : Int} (h1 : Low n d) (h2 : Low m e) (h : n * e = m * d) : n = m ∧ d = e := by
  have hn : n.natAbs * e.natAbs = m.natAbs * d.natAbs := by rw [← Int.natAbs_mul, ← Int.natAbs_mul, h]
  have d1 : d.natAbs ∣ e.natAbs := by
    have : d.natAbs ∣ n.natAbs * e.natAbs := ⟨m.natAbs, by rw [hn, Nat.mul_comm]⟩
    exact Nat.Coprime.dvd_of_dvd_mul_left (Nat.Coprime.symm h1.cop) this
  have d2 : e.natAbs ∣ d.natAbs := by
    have : e.natAbs ∣ m.natAbs * d.natAbs := ⟨n.natAbs, by rw [← hn, Nat.mul_comm]⟩
    exact Nat.Coprime.dvd_of_dvd_mul_left (Nat.Coprime.symm h2.cop) this
  have de := Nat.dvd_antisymm d1 d2
  have p1 := h1.pos
  have p2 := h2.pos
  have e1 : d = e := by omega
  subst e1
  exact ⟨Int.eq_of_mul_eq_mul_right (by omega) h, rfl⟩
theorem fr_eq {a b c d : Int} (hb : b ≠ 0) (hd : d ≠ 0) (h : a * d = c * b) : frN a b = frN c d ∧ frD a b = frD c d := by
  obtain ⟨l1, e1⟩ := fr_spec a hb
  obtain ⟨l2, e2⟩ := fr_spec c hd
  refine low_uniq l1 l2 ?_
  refine Int.eq_of_mul_eq_mul_right (a := b * d) (Int.mul_ne_zero hb hd) ?_
  calc frN a b * frD c d * (b * d) = (frN a b * b) * (frD c d * d) := by ac_rfl
    _ = (a * frD a b) * (frD c d * d) := by rw [e1]
    _ = (a * d) * (frD a b * frD c d) := by ac_rfl
    _ = (c * b) * (frD a b * frD c d) := by rw [h]
    _ = (c * frD c d) * (frD a b * b) := by ac_rfl
    _ = (frN c d * d) * (frD a b * b) := by rw [e2]
    _ = frN c d * frD a b * (b * d) := by ac_rfl
/-! ## rows -/
def rowN (b : Int) (rs : List Int) : Int := rs.foldl (fun t d => t * b + d) 0
theorem rowN_snoc (b : Int) (rs : List Int) (d : Int) : rowN b (rs ++ [d]) = rowN b rs * b + d := by unfold rowN; rw [List.foldl_append]; rfl
theorem take_snoc {rs : List Int} {i : Nat} (h : i < rs.length) : rs.take (i + 1) = rs.take i ++ [rs.getD i 0] := by
  rw [List.take_add_one, Ew.getD_at h]
  rfl
theorem pow_nat (b : Int) (n : Nat) : (b ^ n).natAbs = b.natAbs ^ n := Int.natAbs_pow b n
theorem pow_small {b : Int} {n : Nat} (h2 : 2 ≤ b) (h10 : b ≤ 10) (hn : n ≤ 1000) : (b ^ n).natAbs < 2 ^ 8000 := by
  rw [pow_nat]
  have h1 : b.natAbs ^ n ≤ (2 ^ 4) ^ n := Nat.pow_le_pow_left (by omega) n
  rw [← Nat.pow_mul] at h1
  exact Nat.lt_of_le_of_lt h1 (Nat.pow_lt_pow_right (by decide) (by omega))
theorem pow_pos' {b : Int} (h2 : 2 ≤ b) (n : Nat) : b ^ n ≠ 0 := by
  have : 0 < b ^ n := Int.pow_pos (by omega)
  omega
/-- rs is a row of the digits s -/
structure HasR (s rs : List Int) : Prop where
  len : rs.length ≤ 200
  mem : ∀ d ∈ rs, d ∈ s
open Classical in
noncomputable def hasB (s rs : List Int) : Bool := decide (HasR s rs)
open Classical in
theorem hasB_t {s rs : List Int} (h : HasR s rs) : hasB s rs = true := by unfold hasB; exact decide_eq_true h
open Classical in
theorem hasB_f {s rs : List Int} (h : ¬ HasR s rs) : hasB s rs = false := by unfold hasB; exact decide_eq_false h
theorem flatInts (s : List Int) : (s.map V.int).all flatV = true := by
  rw [List.all_eq_true]
  intro x hx
  obtain ⟨d, _, rfl⟩ := List.mem_map.mp hx
  rfl
theorem inInts (d : Int) (s : List Int) : inV (.int d) (s.map V.int) = decide (d ∈ s) := by
  unfold inV
  by_cases h : d ∈ s
  · rw [decide_eq_true h, List.any_eq_true]
    exact ⟨.int d, List.mem_map.mpr ⟨d, h, rfl⟩, by simp [eqV]⟩
  · rw [decide_eq_false h, Bool.eq_false_iff]
    intro z
    obtain ⟨x, hx, e⟩ := List.any_eq_true.mp z
    obtain ⟨c, hc, rfl⟩ := List.mem_map.mp hx
    have : c = d := by simpa [eqV] using e
    exact h (this ▸ hc)
end Ew
namespace Ew
open PySem PySem.Spec PyProof.Rows L2
theorem pow9 {b : Int} {n : Nat} (h2 : 2 ≤ b) (h10 : b ≤ 10) (hn : n ≤ 9) : 0 < b ^ n ∧ b ^ n ≤ 1000000000 := by
  refine ⟨Int.pow_pos (by omega), ?_⟩
  have h1 : b.natAbs ^ n ≤ 10 ^ n := Nat.pow_le_pow_left (by omega) n
  have h2' : 10 ^ n ≤ 10 ^ 9 := Nat.pow_le_pow_right (by decide) hn
  have h3 : (b ^ n).natAbs ≤ 10 ^ 9 := by rw [Int.natAbs_pow]; omega
  have h4 : (10 : Nat) ^ 9 = 1000000000 := by decide
  omega
theorem rowN_le {b : Int} (h2 : 2 ≤ b) : ∀ (n : Nat) (rs : List Int), rs.length = n → (∀ d ∈ rs, -99 ≤ d ∧ d ≤ 99) → rowN b rs ≤ 100 * (b ^ n - 1) ∧ -(100 * (b ^ n - 1)) ≤ rowN b rs
  | 0, rs, hl, _ => by
    have : rs = [] := List.eq_nil_of_length_eq_zero hl
    subst this
    simp [rowN]
  | n + 1, rs, hl, hd => by
    have e := take_snoc (rs := rs) (i := n) (by omega)
    rw [List.take_of_length_le (by omega)] at e
    have l1 : (rs.take n).length = n := by rw [List.length_take]; omega
    have ih := rowN_le h2 n (rs.take n) l1 fun d h => hd d (List.mem_of_mem_take h)
    have hm : rs.getD n 0 ∈ rs := by
      rw [List.getD_eq_getElem?_getD, List.getElem?_eq_getElem (by omega : n < rs.length)]
      exact List.getElem_mem _
    have hx := hd _ hm
    rw [e, rowN_snoc, Int.pow_succ]
    generalize rowN b (rs.take n) = t at ih
    have eq : 100 * (b ^ n * b - 1) = 100 * (b ^ n - 1) * b + (100 * b - 100) := by rw [Int.mul_sub, Int.mul_sub, Int.sub_mul, Int.mul_assoc]; omega
    generalize 100 * (b ^ n - 1) = c at ih eq
    rw [eq]
    have u1 : t * b ≤ c * b := Int.mul_le_mul_of_nonneg_right ih.1 (by omega)
    have u2 : (-c) * b ≤ t * b := Int.mul_le_mul_of_nonneg_right ih.2 (by omega)
    rw [Int.neg_mul] at u2
    omega
theorem frN_le {a b : Int} (hb : 0 < b) : (frN a b).natAbs ≤ a.natAbs ∧ (frD a b).natAbs ≤ b.natAbs := by
  unfold frN frD
  rw [if_neg (by omega), if_neg (by omega)]
  exact ⟨Int.natAbs_ediv_le_natAbs _ _, Int.natAbs_ediv_le_natAbs _ _⟩
theorem sum_step {b d : Int} {i : Nat} (h2 : 2 ≤ b) (R : Int) :
    frN (frN R (b ^ i) * frD d (b ^ (i + 1)) + frN d (b ^ (i + 1)) * frD R (b ^ i)) (frD R (b ^ i) * frD d (b ^ (i + 1))) = frN (R * b + d) (b ^ (i + 1)) ∧
    frD (frN R (b ^ i) * frD d (b ^ (i + 1)) + frN d (b ^ (i + 1)) * frD R (b ^ i)) (frD R (b ^ i) * frD d (b ^ (i + 1))) = frD (R * b + d) (b ^ (i + 1)) := by
  obtain ⟨l1, e1⟩ := fr_spec R (pow_pos' h2 i)
  obtain ⟨l2, e2⟩ := fr_spec d (pow_pos' h2 (i + 1))
  have p1 := l1.pos
  have p2 := l2.pos
  refine fr_eq (Int.mul_ne_zero (by omega) (by omega)) (pow_pos' h2 _) ?_
  have ep : b ^ (i + 1) = b ^ i * b := Int.pow_succ b i
  generalize frN R (b ^ i) = N at *
  generalize frD R (b ^ i) = D at *
  generalize frN d (b ^ (i + 1)) = N' at *
  generalize frD d (b ^ (i + 1)) = D' at *
  calc (N * D' + N' * D) * b ^ (i + 1) = N * D' * b ^ (i + 1) + (N' * b ^ (i + 1)) * D := by rw [Int.add_mul]; congr 1; ac_rfl
    _ = (N * b ^ i) * (b * D') + (N' * b ^ (i + 1)) * D := by congr 1; rw [ep]; ac_rfl
    _ = (R * D) * (b * D') + (d * D') * D := by rw [e1, e2]
    _ = (R * b + d) * (D * D') := by rw [Int.add_mul]; congr 1 <;> ac_rfl
theorem fr_zero (b : Int) : frN (rowN b []) (b ^ 0) = 0 ∧ frD (rowN b []) (b ^ 0) = 1 := by
  rw [Int.pow_zero, show rowN b [] = 0 from rfl]
  exact ⟨by decide, by decide⟩
theorem shapedTup (ds : List Int) : SeqAt.shaped (.tuple (ds.map PyData.int)) = true := by
  unfold SeqAt.shaped
  have h1 : (PyData.tuple (ds.map PyData.int)).canLay0 = true := by
    have := layInts ds
    simpa [PyData.canLay0] using this
  have h2 : (PyData.tuple (ds.map PyData.int)).depth ≤ 64 := by
    have := depInts ds
    simp only [PyData.depth]
    omega
  rw [h1, decide_eq_true h2]
  rfl
theorem eqvTup (ds : List Int) : PyData.eqv (.tuple (ds.map PyData.int)) (.tuple (ds.map PyData.int)) = true := SeqAt.eqv_refl _ (SeqAt.canLay_of_shaped (shapedTup ds))
theorem dig_le {b : Int} {ds : List Int} (h : Dig b ds) : ∀ d ∈ ds, -99 ≤ d ∧ d ≤ 99 := by
  intro d hd
  obtain ⟨i, hi, rfl⟩ := List.getElem_of_mem hd
  have e : ds[i] = ds.getD i 0 := by rw [List.getD_eq_getElem?_getD, List.getElem?_eq_getElem hi]; rfl
  have a1 := asc_le (asc_le_of h.asc) (Nat.zero_le i) hi
  have a2 := asc_le (asc_le_of h.asc) (i := i) (j := ds.length - 1) (by omega) (by omega)
  have := h.are.lo
  have := h.are.hi
  unfold firstI at *
  unfold lastI at *
  rw [e]
  omega
theorem noneRow : NoneTag "InvalidRow" := ⟨by decide +kernel, by decide +kernel, by decide +kernel, by decide +kernel, by decide +kernel, by decide +kernel⟩
theorem cut9 (xs : List V) : cutV xs none (some 9) = xs.take 9 := by
  unfold cutV
  have e := HT.sIx_nat xs.length xs.length 9
  rw [show (some (9 : Int)) = some ((9 : Nat) : Int) from rfl, e, HT.sIx_none]
  simp
theorem whole9 {xs : List V} (h : HT.sIx xs.length 0 none = 0 ∧ HT.sIx xs.length xs.length (some (9 : Int)) = xs.length) : xs.take 9 = xs := by
  have e := HT.sIx_nat xs.length xs.length 9
  have z := h.2
  rw [show (some (9 : Int)) = some ((9 : Nat) : Int) from rfl, e] at z
  exact List.take_of_length_le (by omega)
end Ew
namespace Ew
open PySem PySem.Spec PyProof.Rows L2
/-! ## repr(o) by an own __repr__ -/
@[irreducible] def rReprO (C : Addr) (sp : Sp) : List V → Hp → VK → Prop := fun vs H Q => ∃ (a dx : Addr) (fs : List (Str × V)), vs = [.ref a] ∧ H a = some (.ins C dx fs) ∧ sp [.ref a] H (fun v G => ∃ z : Str, v = .str z ∧ Q (.str z) G) E0
theorem cr_reprO {X : Cx} {C f : Addr} {fd : FuncData} {k : Nat} {ps : List Str} {sp : Sp} (hs : PySem.W.findIn X.K (.ref C) "__repr__" = some (some (.ref f))) (hf : PySem.W.isFn X.K (.ref f) = true) (F : FnOk X.prog X.w X.K X.mg X.base CX0 k f fd ps sp) (hr : Room (k + 1) X.A) (hb : Binds X.K fd ps []) :
    CallR X (.builtin "repr") (rReprO C sp) := by
  intro pins s σ H vs us Q I r h
  unfold rReprO at h
  obtain ⟨a, dx, fs, rfl, ha, hsp⟩ := h
  rw [Vals.ref1 r]
  obtain ⟨mA, O, _⟩ := ins_get I.hok ha
  obtain ⟨od, J, _⟩ := O.look
  obtain ⟨m, fr⟩ := I.fr
  refine PySem.W.repr_K hr.in1.units0 fr I.ok.mod.kin J hs hf ?_
  have hl : [Value.ref a].length = ps.length := F.len _ _ _ _ hsp
  have hbs := hb s [.ref a] I.kIn (by rw [List.append_nil]; exact hl)
  rw [List.append_nil] at hbs
  refine wpAny_call (codeAny_mono (F.run X.A.in1 X.stack s H ⟨[.ref a], []⟩ [.ref a] [.ref a] _ _ hr.in1 I.env0.in1 hbs (.cons rfl .nil) hsp) fun res z hq => ?_)
  cases res with
  | error er => exact (show False from hq).elim
  | ok fl =>
    cases fl with
    | ret u =>
      obtain ⟨v, G, J2, rv, n, ev, q⟩ := I.after hq
      subst ev
      obtain ⟨t, rfl⟩ := rv
      exact ⟨.str n, G, J2, ⟨_, rfl⟩, q⟩
    | next => exact False.elim hq
    | brk => exact False.elim hq
    | cont => exact False.elim hq
/-! ## == by an own __eq__, both answers -/
/-- what stands right of ==: an instance of the class, or a thing of another type -/
def RightOf (K : PySem.W.Frag) (C : Addr) (H : Hp) (y : V) : Prop := (∃ (b dy : Addr) (gs : List (Str × V)), y = .ref b ∧ H b = some (.ins C dy gs)) ∨ ∃ t, TyX K H y t ∧ PySem.W.notFirst K C t = true
def rEqO (K : PySem.W.Frag) (C : Addr) (sp : Sp) : R2 := fun x y H Q => ∃ (a dx : Addr) (fs : List (Str × V)), x = .ref a ∧ H a = some (.ins C dx fs) ∧ RightOf K C H y ∧ sp [x, y] H (fun v G => ∃ b : Bool, v = .bl b ∧ Q (.bl b) G) E0
theorem op_eqO {X : Cx} {C f : Addr} {fd : FuncData} {k : Nat} {ps : List Str} {sp : Sp} (hs : PySem.W.findIn X.K (.ref C) "__eq__" = some (some (.ref f))) (hf : PySem.W.isFn X.K (.ref f) = true) (F : FnOk X.prog X.w X.K X.mg X.base CX0 k f fd ps sp) (hr : Room k X.A) (hb : Binds X.K fd ps []) :
    OpR X (compareOp .Eq) (rEqO X.K C sp) := by
  intro pins s σ H x y v u Q I rx ry h
  obtain ⟨a, dx, fs, rfl, ha, hy, hsp⟩ := h
  cases rx
  show wpAny (model X.prog X.w) X.A (richCompare .Eq (.ref a) u) (EP X pins σ Q) X.xe s
  obtain ⟨mA, O, _⟩ := ins_get I.hok ha
  obtain ⟨od, J, _⟩ := O.look
  obtain ⟨m, fr⟩ := I.fr
  have hl : [Value.ref a, u].length = ps.length := F.len _ _ _ _ hsp
  have hbs := hb s [.ref a, u] I.kIn (by rw [List.append_nil]; exact hl)
  rw [List.append_nil] at hbs
  have body : wpAny (model X.prog X.w) X.A (call (.ref f) [.ref a, u]) (PySem.W.CmpBack (EP X pins σ Q)) X.xe s := by
    refine wpAny_call (codeAny_mono (F.run X.A X.stack s H ⟨[.ref a, u], []⟩ [.ref a, u] _ _ _ hr I.env0 hbs (.cons (show L2.RelV (.ref a) (.ref a) from rfl) (.cons ry .nil)) hsp) fun res z hq => ?_)
    cases res with
    | error er => exact (show False from hq).elim
    | ok fl =>
      cases fl with
      | ret u =>
        obtain ⟨v, G, J2, rv, b, ev, q⟩ := I.after hq
        subst ev
        cases rv
        exact ⟨.bl b, G, J2, rfl, q⟩
      | next => exact False.elim hq
      | brk => exact False.elim hq
      | cont => exact False.elim hq
  rcases hy with ⟨b, dy, gs, rfl, hy⟩ | ⟨t, ty, hn⟩
  · cases ry
    obtain ⟨mB, O', _⟩ := ins_get I.hok hy
    obtain ⟨od', J', _⟩ := O'.look
    exact PySem.W.cmp_K (op := .Eq) (tb := .ref C) hr.units0 fr I.ok.mod.kin J J'.type (by simp [PySem.W.notFirst]) hs hf body
  · obtain ⟨PP, Z, hp, _⟩ := kit_of I ry ty
    exact PySem.W.cmp_K (op := .Eq) (tb := t) hr.units0 fr I.ok.mod.kin J (Z.ty _ _ I.kIn hp) hn hs hf body
/-! ## != by an own __eq__ -/
def rNeO (C : Addr) (sp : Sp) : R2 := fun x y H Q => ∃ (a dx b dy : Addr) (fs gs : List (Str × V)), x = .ref a ∧ y = .ref b ∧ H a = some (.ins C dx fs) ∧ H b = some (.ins C dy gs) ∧ sp [x, y] H (fun v G => ∃ b : Bool, v = .bl b ∧ Q (.bl (!b)) G) E0
/-- the class's own text, with == and without != -/
structure EqNe (K : PySem.W.Frag) (C f : Addr) (nm q : Str) (N : Addr) (bs sub : List Value) (hdct ab : Bool) (sn : List Str) (col : Option Bool) (dd : Option Addr) (k0 k1 k2 k3 k5 : Option Value) (newId : String) (of : Obj) (oc : Value) (od : Option Addr) (es : Array DictEntry) (ep : Nat) (sl : Array (Option Value)) : Prop where
  c : K.lookup C = some (excClassObj nm q C N bs [.type "object"] hdct sn sub ab col dd k0 k1 k2 k3 k5 newId)
  n : K.lookup N = some ⟨oc, od, .dict es ep, sl⟩
  keys : StrKeys es
  eq : nsFind es "__eq__" = some (.ref f)
  ne : nsFind es "__ne__" = none
  f : K.lookup f = some of
  fc : of.cls = .type "function"
def HasEqNe (K : PySem.W.Frag) (C f : Addr) : Prop := ∃ nm q N bs sub hdct ab sn col dd k0 k1 k2 k3 k5 newId of oc od es ep sl, EqNe K C f nm q N bs sub hdct ab sn col dd k0 k1 k2 k3 k5 newId of oc od es ep sl
theorem eq_lk : ∃ y, typeLookup (.type "object") "__eq__" = pure y := ⟨_, PySem.F.cmp_object.eq.lookup⟩
theorem op_neO {X : Cx} {C f : Addr} {fd : FuncData} {k : Nat} {ps : List Str} {sp : Sp} (hE : HasEqNe X.K C f) (F : FnOk X.prog X.w X.K X.mg X.base CX0 k f fd ps sp) (hr : Room (k + 1) X.A) (hb : Binds X.K fd ps []) :
    OpR X (compareOp .NotEq) (rNeO C sp) := by
  intro pins s σ H x y v u Q I rx ry h
  obtain ⟨a, dx, b, dy, fs, gs, rfl, rfl, ha, hb', hsp⟩ := h
  cases rx
  cases ry
  obtain ⟨nm, q, N, bs, sub, hdct, ab, sn, col, dd, k0, k1, k2, k3, k5, newId, of, oc, od, es, ep, sl, E⟩ := hE
  obtain ⟨mA, O, _⟩ := ins_get I.hok ha
  obtain ⟨od1, J, _⟩ := O.look
  obtain ⟨mB, O', _⟩ := ins_get I.hok hb'
  obtain ⟨od2, J', _⟩ := O'.look
  obtain ⟨y0, hy0⟩ := eq_lk
  have kin := I.kIn
  have own : s.heap.OwnEqNoNe a C f "object" [.type "object"] := ⟨_, of, nm, q, N, bs, hdct, sn, sub, ab, col, dd, k0, k1, k2, k3, k5, newId, nsFind es, y0, J.at_, J.cls, kin _ _ E.c, ⟨_, es, ep, kin _ _ E.n, rfl, E.keys, fun _ => rfl⟩, E.eq, kin _ _ E.f, E.fc, PySem.F.cmp_object.mro, hy0, E.ne⟩
  have hl : [Value.ref a, Value.ref b].length = ps.length := F.len _ _ _ _ hsp
  have hbs := hb s [.ref a, .ref b] I.kIn (by rw [List.append_nil]; exact hl)
  rw [List.append_nil] at hbs
  obtain ⟨hp, g, d, tk, os⟩ := s
  refine compareOp_ne_ownEq PySem.F.cmp_object own J'.at_ J'.cls (by have := hr.units; omega) ?_
  refine wpAny_call (codeAny_mono (F.run X.A.in1 X.stack _ H ⟨[.ref a, .ref b], []⟩ [.ref a, .ref b] [.ref a, .ref b] _ _ hr.in1 I.env0.in1 hbs (.cons rfl (.cons rfl .nil)) hsp) fun res z hq => ?_)
  cases res with
  | error er => exact (show False from hq).elim
  | ok fl =>
    cases fl with
    | ret u =>
      obtain ⟨v, G, J2, rv, c, ev, q⟩ := I.after hq
      subst ev
      cases rv
      exact ⟨c, rfl, .bl (!c), G, J2, rfl, q⟩
    | next => exact False.elim hq
    | brk => exact False.elim hq
    | cont => exact False.elim hq
end Ew
namespace Ew
open PySem PySem.Spec PyProof.Rows L2
theorem eqvAll_ints : ∀ s s' : List Int, PyData.eqvAll (s.map PyData.int) (s'.map PyData.int) = decide (s = s')
  | [], [] => by simp [PyData.eqvAll]
  | [], b :: s' => by simp [PyData.eqvAll]
  | a :: s, [] => by simp [PyData.eqvAll]
  | a :: s, b :: s' => by
    have ih := eqvAll_ints s s'
    simp only [List.map_cons, PyData.eqvAll, PyData.eqv, ih]
    by_cases h : a = b
    · subst h
      by_cases h2 : s = s' <;> simp [h2]
    · simp [h]
theorem eqv_tup2 (s s' : List Int) : PyData.eqv (.tuple (s.map PyData.int)) (.tuple (s'.map PyData.int)) = decide (s = s') := by rw [PyData.eqv]; exact eqvAll_ints s s'
theorem eqv_lst2 (s s' : List Int) : PyData.eqv (.list (s.map PyData.int)) (.list (s'.map PyData.int)) = decide (s = s') := by rw [PyData.eqv]; exact eqvAll_ints s s'
end Ew
namespace Ew
open PySem PySem.Spec PyProof.Rows L2
/-- a comprehension's turn without a test -/
theorem tyes {σ : L2.St} {H : Hp} {A B : Hp → Prop} (h : A H) : tYes σ H (fun b G => if b = true then A G else B G) := by
  show (if true = true then A H else B H)
  rw [if_pos rfl]
  exact h
theorem RngAt.off {G : Hp} {p q d : Addr} {ns : List Int} {i v sd : Int} {o : HO} (R : RngAt G p q ns i v sd) (h1 : d ≠ p) (h2 : d ≠ q) : RngAt (upd G d o) p q ns i v sd :=
  ⟨by rw [upd_ne h1.symm]; exact R.at_p, by rw [upd_ne h2.symm]; exact R.at_q, R.len, R.ok, R.ne⟩
theorem RngAt.freeq {G : Hp} {p q d : Addr} {ns : List Int} {i v sd : Int} (R : RngAt G p q ns i v sd) (h : G d = none) : d ≠ q := fun e => by
  have z := R.at_q
  rw [← e, h] at z
  cases z
end Ew
/-! lambdas: one with a default, and one that a def hands on to another def -/
namespace Ew
open PySem PySem.Spec PyProof.Rows L2 PySem.W
/-- the lambda's function, with the defaults at dV -/
abbrev lamFn (q : Str) (pr : Arguments) (bd : Expr) (sc : Scope) (cl : List (Str × Addr)) (dV pm cdv ctv : Value) : FuncData :=
  { name := "<lambda>", qualname := q, params := pr, body := .expr bd, scope := sc, globals := mainGlobals, closure := cl, defaults := dV, kwdefaults := .none, doc := .none, pyModule := pm, annotations := none, code := cdv, closureTuple := ctv, builtins := builtinsNs }
abbrev lamObj (q : Str) (pr : Arguments) (bd : Expr) (sc : Scope) (cl : List (Str × Addr)) (dV pm cdv ctv : Value) : Obj := { cls := .type "function", data := .func (lamFn q pr bd sc cl dV pm cdv ctv) }
section
variable {M : Model} {A : Around} {E : Value → Shared → Prop} {s : Shared} {q : Str} {pr : Arguments} {bd : Expr} {sc : Scope} {env : Env} {c P : Addr} {ps : Array Value} {pos : Pos} {ln : Nat} {mg : Str → Option Value} {cl : List (Str × Addr)} {Q : Value → Shared → Prop} {dV : Value}
theorem tail_new (h1 : closureFor sc env = pure cl) (h2 : env.globals = mainGlobals) (h3 : s.heap.Ns mainGlobals mg) (h4 : env.code = .ref c) (C : CodeHd s.heap c P) (h5 : s.heap.get? P = some { cls := .none, data := .fields ps }) (h6 : TriplesOk ps.toList)
    (h7 : codeAmong pos ps.toList = none) (h8 : mainGlobals ≠ P) (hb : s.heap.BuiltinsAt mg P)
    (k : ∀ c' ctv h' tk, Heap.ExtBut P s.heap h' → s.heap.objs.size ≤ c' → c' < h'.objs.size → h'.CodeRec (.ref c') q → h'.get? P = some { cls := .none, data := .fields (ps ++ #[rawInt pos.line, rawInt pos.col, .ref c']) } →
      Q (.ref h'.objs.size) { s with heap := h'.push (lamObj q pr bd sc cl dV ((mg "__name__").getD .none) (.ref c') ctv), toks := tk }) :
    wpAny M A (makeTail "<lambda>" q pr (.expr bd) sc env dV .none none pos ln) Q E s := by
  obtain ⟨bm, ob, b1, b2, _, b3, b4, b5, b6, b7⟩ := hb
  unfold makeTail; rw [h1, h2]
  refine wpAny_bind (wpAny_pure ?_)
  cases cl with
  | nil =>
    simp only [List.isEmpty_nil, if_true]
    refine wpAny_bind (wpAny_pure (wpAny_bind (wpAny_functionCodeX h4 (C.code h5 h6) (C.tab h5) h7 fun c' h' tk x1 x2 x3 _ x4 x5 _ => ?_)))
    have g' := h3.extBut x1 h8
    exact wpAny_bind (wpAny_builtinsFor g' b1 b2 (x1 _ _ b3 b4) b5 b6 b7 (wpAny_bind (wpAny_nsGet g' (wpAny_bind (wpAny_pure (wpAny_newObj_type (k c' .none h' tk x1 x2 x3 x4 x5.2) (by size_fits)))))))
  | cons y r =>
    simp only [List.isEmpty_cons, Bool.false_eq_true, if_false]
    refine wpAny_bind (wpAny_newTextTuple (wpAny_bind (wpAny_functionCodeX h4 ((C.keeps fun b o e => Heap.get?_push_of_some _ e).code (Heap.get?_push_of_some _ h5) h6) ((C.keeps fun b o e => Heap.get?_push_of_some _ e).tab (Heap.get?_push_of_some _ h5)) h7 fun c' h' tk x1 x2 x3 _ x4 x5 _ => ?_)))
    have g' := (h3.push _).extBut x1 h8
    have x1' : Heap.ExtBut P s.heap h' := fun b o n e => x1 b o n (Heap.get?_push_of_some _ e)
    have x2' : s.heap.objs.size ≤ c' := Nat.le_trans (by rw [Heap.size_push]; omega) x2
    exact wpAny_bind (wpAny_builtinsFor g' b1 b2 (x1' _ _ b3 b4) b5 b6 b7 (wpAny_bind (wpAny_nsGet g' (wpAny_bind (wpAny_pure (wpAny_newObj_type (k c' _ h' tk x1' x2' x3 x4 x5.2) (by size_fits)))))))
theorem tail_hit {cv : Value} (h1 : closureFor sc env = pure cl) (h2 : env.globals = mainGlobals) (h3 : s.heap.Ns mainGlobals mg) (h4 : env.code = .ref c) (C : CodeHd s.heap c P) (h5 : s.heap.get? P = some { cls := .none, data := .fields ps }) (h6 : TriplesOk ps.toList)
    (h7 : codeAmong pos ps.toList = some cv) (hb : s.heap.BuiltinsAt mg P)
    (k : ∀ (ctv : Value) (h' : Heap) (tk : Tok), (∀ b o, s.heap.get? b = some o → h'.get? b = some o) → s.heap.objs.size ≤ h'.objs.size →
      Q (.ref h'.objs.size) { s with heap := h'.push (lamObj q pr bd sc cl dV ((mg "__name__").getD .none) cv ctv), toks := tk }) :
    wpAny M A (makeTail "<lambda>" q pr (.expr bd) sc env dV .none none pos ln) Q E s := by
  obtain ⟨bm, ob, b1, b2, _, b3, b4, b5, b6, b7⟩ := hb
  unfold makeTail; rw [h1, h2]
  refine wpAny_bind (wpAny_pure ?_)
  cases cl with
  | nil =>
    simp only [List.isEmpty_nil, if_true]
    exact wpAny_bind (wpAny_pure (wpAny_bind (wpAny_functionCode_hit h4 (C.code h5 h6) h7 (wpAny_bind (wpAny_builtinsFor h3 b1 b2 b4 b5 b6 b7 (wpAny_bind (wpAny_nsGet h3 (wpAny_bind (wpAny_pure (wpAny_newObj_type (k .none s.heap s.toks (fun _ _ e => e) (Nat.le_refl _)) (by size_fits)))))))))))
  | cons y r =>
    simp only [List.isEmpty_cons, Bool.false_eq_true, if_false]
    have z : ∀ oT : Obj, s.heap.objs.size ≤ (s.heap.push oT).objs.size := fun oT => by rw [Heap.size_push]; omega
    exact wpAny_bind (wpAny_newTextTuple (wpAny_bind (wpAny_functionCode_hit h4 ((C.keeps fun b o e => Heap.get?_push_of_some _ e).code (Heap.get?_push_of_some _ h5) h6) h7 (wpAny_bind (wpAny_builtinsFor (h3.push _) b1 b2 (Heap.get?_push_of_some _ b4) b5 b6 b7 (wpAny_bind (wpAny_nsGet (h3.push _) (wpAny_bind (wpAny_pure (wpAny_newObj_type (k _ _ s.toks (fun b o e => Heap.get?_push_of_some _ e) (z _)) (by size_fits)))))))))))
end
/-- how the defaults are made: dV afterwards, and what the heap then holds of them -/
inductive DefV (X : Cx) (pr : Arguments) : (Value → Heap → Prop) → Prop where
  | no : defaultsOf pr X.env = ([], []) → DefV X pr (fun dV _ => dV = .none)
  | one {e : Expr} {v : V} : defaultsOf pr X.env = ([eval e X.env], []) → PE X e (tC v) → DefV X pr (fun dV h => ∃ (T : Addr) (u : Value) (n : Nat), dV = .ref T ∧ RelV v u ∧ h.get? T = some { cls := .type "tuple", data := .seq #[u] n })
section
variable {X : Cx} {pins : List (Addr × Obj)} {σ : L2.St} {H : Hp} {s : Shared}
open LamX in
theorem lam_tail {T : List (Addr × Str)} {c P : Addr} {pr : Arguments} {bd : Expr} {sc : Scope} {pos : Pos} {dV : Value} {E : Value → Shared → Prop} {Q : Value → Shared → Prop} (I : Inv X pins σ H s) (TB : TabB X.base X.mg c P) (hcode : X.env.code = .ref c)
    (hm : (P, X.env.qual ++ "<lambda>") ∈ T) (hu : ∀ p ∈ T, p.1 = P → p.2 = X.env.qual ++ "<lambda>") (hT : Tabs T H) (hfree : ∀ y ∈ sc.names, y.2 = .free → ∃ c, X.env.cells.lookup y.1 = some c)
    (k : ∀ (f c' : Addr) (pm ctv : Value) (H1 : Hp) (s' : Shared), Inv X pins σ H1 s' → ExtN H H1 → Tabs T H1 → (∀ b o, b ≠ P → s.heap.get? b = some o → s'.heap.get? b = some o) → (∀ b, b ≠ P → b < s.heap.objs.size → H1 b = H b) →
      s'.heap.get? f = some (lamObj (X.env.qual ++ "<lambda>") pr bd sc (cloFrom X.env.cells sc.names []) dV pm (.ref c') ctv) → H1 f = none → f ∉ frs X.stack → H1 c' = some (CodeO c' (X.env.qual ++ "<lambda>")) → Q (.ref f) s') :
    wpAny (model X.prog X.w) X.A (makeTail "<lambda>" (X.env.qual ++ "<lambda>") pr (.expr bd) sc X.env dV .none none pos pos.line) Q E s := by
  obtain ⟨ps, hP, ht, ha⟩ := hT _ hm
  have bP : s.heap.BuiltinsAt X.mg P := TB.bm.keeps I.bk
  have hP' : s.heap.get? P = some { cls := .none, data := .fields ps } := I.hok P _ hP
  have nofr : ∀ f, s.heap.objs.size ≤ f → f ∉ frs X.stack := fun f hf z => by
    rcases List.mem_cons.mp (I.stkSub _ z) with e | e
    · have h1 := I.lt; rw [← e] at h1; exact Nat.lt_irrefl _ (Nat.lt_of_lt_of_le h1 hf)
    · exact I.nofs hf e
  cases hc : codeAmong pos ps.toList with
  | none =>
    refine tail_new (mg := X.mg) (c := c) (P := P) (ps := ps) (closure_ok hfree) I.ok.glob (I.mod.glob.keeps I.bk) hcode (TB.code.keeps I.bk) hP' ht hc TB.gP bP fun c' ctv h' tk x1 x2 x3 x4 x5 => ?_
    obtain ⟨c2, oc, vs, t, e2, y1, y2, y3⟩ := x4
    cases e2
    have hsz : s.heap.objs.size ≤ h'.objs.size := Nat.le_trans x2 (Nat.le_of_lt x3)
    have nC : H c' = none := I.hok.fresh x2
    have I1 := inv_table (t' := tk) (more := #[rawInt pos.line, rawInt pos.col, .ref c']) (h' := h'.push (lamObj (X.env.qual ++ "<lambda>") pr bd sc (cloFrom X.env.cells sc.names []) dV ((X.mg "__name__").getD .none) (.ref c') ctv)) I hP
      (fun b o hb e => Heap.get?_push_of_some _ (x1 b o hb e)) (Heap.get?_push_of_some _ x5) x2 ⟨oc, vs, t, Heap.get?_push_of_some _ y1, y2, y3⟩
    have hE : ExtN H (upd (upd H P (.tbl (ps ++ #[rawInt pos.line, rawInt pos.col, .ref c']))) c' (CodeO c' (X.env.qual ++ "<lambda>"))) := fun b o e n => by
      rw [upd_ne (ne_of_none e nC), upd_ne (fun z => n ps (Option.some.inj (e.symm.trans (by rw [z]; exact hP))))]; exact e
    have eL : (ps ++ #[rawInt pos.line, rawInt pos.col, .ref c']).toList = ps.toList ++ [rawInt pos.line, rawInt pos.col, .ref c'] := by simp
    refine k h'.objs.size c' ((X.mg "__name__").getD .none) ctv _ _ I1 hE (fun p hp => ?_) (fun b o hb e => Heap.get?_push_of_some _ (x1 b o hb e)) (fun b hb hlt => by rw [upd_ne (Nat.ne_of_lt (Nat.lt_of_lt_of_le hlt x2)), upd_ne hb]) (Heap.get?_push_size _ rfl) ?_ (nofr _ hsz) upd_same
    · by_cases hb : p.1 = P
      · rw [hu p hp hb, hb]
        refine ⟨_, by rw [upd_ne (ne_of_none hP nC), upd_same], by rw [eL]; exact PySem.TriplesOk_snoc _ _ _ _ ht, fun p' cv hcv => ?_⟩
        rw [eL] at hcv
        rcases among_app _ ht hcv with z | z
        · obtain ⟨c0, e1, e2⟩ := ha p' cv z; exact ⟨c0, e1, hE _ _ e2 codeO_ne⟩
        · exact ⟨c', z, upd_same⟩
      · obtain ⟨ps', a1, a2, a3⟩ := hT p hp
        refine ⟨ps', by rw [upd_ne (ne_of_none a1 nC), upd_ne hb]; exact a1, a2, fun p' cv hcv => ?_⟩
        obtain ⟨c0, e1, e2⟩ := a3 p' cv hcv; exact ⟨c0, e1, hE _ _ e2 codeO_ne⟩
    · rw [upd_ne (Nat.ne_of_gt x3), upd_ne (Nat.ne_of_gt (Nat.lt_of_lt_of_le (Heap.lt_size hP') hsz))]; exact I.hok.fresh hsz
  | some cv =>
    obtain ⟨c', e, hco⟩ := ha pos cv hc
    subst e
    refine tail_hit (mg := X.mg) (c := c) (P := P) (ps := ps) (closure_ok hfree) I.ok.glob (I.mod.glob.keeps I.bk) hcode (TB.code.keeps I.bk) hP' ht hc bP fun ctv h' tk hx hsz => ?_
    have I1 : Inv X pins σ H { s with heap := h'.push (lamObj (X.env.qual ++ "<lambda>") pr bd sc (cloFrom X.env.cells sc.names []) dV ((X.mg "__name__").getD .none) (.ref c') ctv), toks := tk } := I.kept fun b o e => Heap.get?_push_of_some _ (hx b o e)
    exact k h'.objs.size c' ((X.mg "__name__").getD .none) ctv H _ I1 (ExtN.refl H) hT (fun b o _ e => Heap.get?_push_of_some _ (hx b o e)) (fun _ _ _ => rfl) (Heap.get?_push_size _ rfl) (I.hok.fresh hsz) (nofr _ hsz) hco
end
end Ew
namespace Ew
open PySem PySem.Spec PyProof.Rows L2 PySem.W LamX
/-- what is known of the defaults' value behind their making -/
inductive DefK (X : Cx) (pr : Arguments) : (Shared → Hp → Value → Prop) → Prop where
  | no : defaultsOf pr X.env = ([], []) → DefK X pr (fun _ _ dV => dV = .none)
  | one {e : Expr} {v : V} : defaultsOf pr X.env = ([eval e X.env], []) → PE X e (tC v) → DefK X pr (fun s H dV => ∃ (T : Addr) (u : Value) (n : Nat), dV = .ref T ∧ s.heap.get? T = some { cls := .type "tuple", data := .seq #[u] n } ∧ H T = none ∧ T ∉ frs X.stack)
section
variable {X : Cx} {pins : List (Addr × Obj)} {σ : L2.St} {H HZ : Hp} {s s1 : Shared}
theorem lam_makeG {T : List (Addr × Str)} {c P : Addr} {pr : Arguments} {bd : Expr} {sc : Scope} {pos : Pos} {Q : Value → Shared → Prop} {Kd : Shared → Hp → Value → Prop} (I : Inv X pins σ H s) (TB : TabB X.base X.mg c P) (hcode : X.env.code = .ref c)
    (hm : (P, X.env.qual ++ "<lambda>") ∈ T) (hu : ∀ p ∈ T, p.1 = P → p.2 = X.env.qual ++ "<lambda>") (hT : Tabs T H) (D : DefK X pr Kd) (hfree : ∀ y ∈ sc.names, y.2 = .free → ∃ c, X.env.cells.lookup y.1 = some c)
    (k : ∀ (f c' : Addr) (dV pm ctv : Value) (H1 : Hp) (s' : Shared), Inv X pins σ H1 s' → ExtN H H1 → Tabs T H1 → Kd s' H1 dV →
      s'.heap.get? f = some (lamObj (X.env.qual ++ "<lambda>") pr bd sc (cloFrom X.env.cells sc.names []) dV pm (.ref c') ctv) → H1 f = none → f ∉ frs X.stack → H1 c' = some (CodeO c' (X.env.qual ++ "<lambda>")) → Q (.ref f) s') :
    wpAny (model X.prog X.w) X.A (eval (.Lambda pr bd sc pos) X.env) Q X.xe s := by
  rw [arm_eval_Lambda]
  cases D with
  | no hd =>
    rw [hd]
    show wpAny _ _ (do let dv ← evalAll []; let kdv ← holding dv (evalAllOpt []); makeFunction "<lambda>" (X.env.qual ++ "<lambda>") pr (.expr bd) sc X.env dv kdv [] pos pos.line) Q X.xe s
    refine wpAny_bind (wpAny_pure (wpAny_bind (wpAny_holding (wpAny_pure ?_))))
    rw [makeFunction_eq]
    simp only [List.zip_nil_right, List.filterMap_nil, List.isEmpty_nil, if_true, pure_bind]
    exact lam_tail I TB hcode hm hu hT hfree fun f c' pm ctv H1 s' a1 a2 a3 _ _ a4 a5 a6 a7 => k f c' .none pm ctv H1 s' a1 a2 a3 rfl a4 a5 a6 a7
  | @one e v hd pe =>
    rw [hd]
    show wpAny _ _ (do let dv ← evalAll [eval e X.env]; let kdv ← holding dv (evalAllOpt []); makeFunction "<lambda>" (X.env.qual ++ "<lambda>") pr (.expr bd) sc X.env dv kdv [] pos pos.line) Q X.xe s
    refine wpAny_bind ?_
    show wpAny _ _ (do let v ← eval e X.env; return v :: (← holding [v] (evalAll []))) _ _ s
    refine wpAny_bind (wpAny_mono (pe.run pins s σ H (fun v' H' => v' = v ∧ H' = H) I ⟨rfl, rfl⟩) (fun u s1 hq => ?_) fun e s' z => ?_)
    · obtain ⟨v', H', I1, r1, rfl, rfl⟩ := hq
      refine wpAny_bind (wpAny_holding (wpAny_pure (wpAny_pure (wpAny_bind (wpAny_holding (wpAny_pure ?_))))))
      rw [makeFunction_eq]
      simp only [List.zip_nil_right, List.filterMap_nil, List.isEmpty_nil, List.isEmpty_cons, Bool.false_eq_true, if_true, if_false, pure_bind]
      refine wpAny_bind (wpAny_newTextTuple ?_)
      have hz : s1.heap.objs.size < (s1.heap.push { cls := .type "tuple", data := .seq [u].toArray }).objs.size := by rw [Heap.size_push]; omega
      have I2 : Inv X pins σ H' { s1 with heap := s1.heap.push { cls := .type "tuple", data := .seq [u].toArray } } := I1.kept (t' := s1.toks) fun b o e => Heap.get?_push_of_some _ e
      have nP : s1.heap.objs.size ≠ P := fun z => by
        obtain ⟨ps, hP, _⟩ := hT _ hm
        have hlt := Heap.lt_size (I1.hok P _ hP)
        rw [← z] at hlt
        exact Nat.lt_irrefl _ hlt
      have nofr : s1.heap.objs.size ∉ frs X.stack := fun z => by
        rcases List.mem_cons.mp (I1.stkSub _ z) with e | e
        · have h1 := I1.lt; rw [← e] at h1; exact Nat.lt_irrefl _ h1
        · exact I1.nofs (Nat.le_refl _) e
      exact lam_tail I2 TB hcode hm hu hT hfree fun f c' pm ctv H1 s' a1 a2 a3 a8 a9 a4 a5 a6 a7 => k f c' _ pm ctv H1 s' a1 a2 a3 ⟨_, u, _, rfl, a8 _ _ nP (Heap.get?_push_size _ rfl), by rw [a9 _ nP hz]; exact I1.hok.fresh (Nat.le_refl _), nofr⟩ a4 a5 a6 a7
    · exact z
/-! ### the lambda's names: captured ones, globals, and parameters that the def does not know -/
structure LamN (N : List Str) (s0 sc : Scope) : Prop where
  kind : sc.kind = .function
  co : sc.isCoroutine = false
  gen : sc.isGenerator = false
  own : ∀ y ∈ sc.names, y.2 ≠ .cell ∧ (y.2 = .local → y.1 ∉ N)
  free : ∀ y ∈ sc.names, y.2 = .free → s0.names.lookup y.1 = some .cell ∨ s0.names.lookup y.1 = some .free
def lamNB (N : List Str) (s0 sc : Scope) : Bool :=
  decide (sc.kind = .function) && (!sc.isCoroutine && (!sc.isGenerator && sc.names.all fun y => (!decide (y.2 = .cell)) && ((!decide (y.2 = .local) || !N.contains y.1) && (!decide (y.2 = .free) || (decide (s0.names.lookup y.1 = some .cell) || decide (s0.names.lookup y.1 = some .free))))))
theorem lamN_by {N : List Str} {s0 sc : Scope} (h : lamNB N s0 sc = true) : LamN N s0 sc := by
  unfold lamNB at h
  simp only [Bool.and_eq_true, Bool.or_eq_true, Bool.not_eq_true', decide_eq_true_eq, decide_eq_false_iff_not, List.all_eq_true] at h
  obtain ⟨a1, a2, a3, a4⟩ := h
  refine ⟨a1, a2, a3, fun y hy => ⟨(a4 y hy).1, fun e hN => ?_⟩, fun y hy e => ?_⟩
  · rcases (a4 y hy).2.1 with z | z
    · exact z e
    · rw [List.contains_iff_mem.mpr hN] at z; cases z
  · rcases (a4 y hy).2.2 with z | z
    · exact absurd e z
    · exact z
theorem LamN.has {N : List Str} {sc : Scope} (L : LamN N X.env.scope sc) (ok : X.Ok) : ∀ y ∈ sc.names, y.2 = .free → ∃ c, X.env.cells.lookup y.1 = some c := fun y hy e => (L.free y hy e).elim (fun k => ok.has _ (.inl k)) (fun k => ok.has _ (.inr k))
theorem lam_startN {A : Around} {outer : List Env} {E : XK} {sc : Scope} {f c' : Addr} {g : Heap} {tk : Nat} {bs : List (Str × Value)} (I : Inv X pins σ H s) (L : LamN X.N X.env.scope sc) (e0 : Env0 X.prog X.w X.K X.mg X.base A outer s1 HZ) (hd : A.handled = none)
    (un : Un (frs X.stack) [] H HZ s.heap s1.heap) (hns : g.Ns s1.heap.objs.size fun y => bs.reverse.lookup y) (kp : ∀ b o, s1.heap.get? b = some o → g.get? b = some o) :
    Inv (lamCx X A outer s1 HZ E sc f c') [] σ HZ { s1 with heap := g, toks := tk } := by
  have hfree := L.has I.ok
  have cm : ∀ {y c}, (cloFrom X.env.cells sc.names []).lookup y = some c → X.env.cells.lookup y = some c := fun {y c} e => by
    rcases cloFrom_mem (PySem.mem_of_lookup e) with hm | ⟨h1, h2⟩
    · cases hm
    · obtain ⟨c1, hc⟩ := hfree _ h1 rfl
      have hc : X.env.cells.lookup y = some c1 := hc
      have e2 : c = c1 := by rw [h2, hc] <;> rfl
      rw [e2]; exact hc
  have look : ∀ {y}, sc.names.lookup y = some .free → ∃ c, (cloFrom X.env.cells sc.names []).lookup y = some c := fun {y} hl => mem_lookup (cloFrom_has (cells := X.env.cells) (acc := []) (PySem.mem_of_lookup hl))
  have cellK : ∀ {c : Addr} {v : Option Value}, H c = none → s.heap.IsCell c v → g.IsCell c v := fun {c v} n ⟨o, ho, hd⟩ => by
    obtain ⟨sl, q⟩ := un.any ho n (by simp)
    exact ⟨_, kp _ _ q, hd⟩
  have noA : ∀ b : Addr, b ∉ (lamCx X A outer s1 HZ E sc f c').ex := fun b z => absurd (show b ∈ ([] : List Addr) from z) (by simp)
  refine ⟨⟨e0.mod, L.kind, rfl, rfl, Nat.le_refl _, fun y z c e1 e2 => I.ok.inj y z c (cm e1) (cm e2), fun y hy => ?_, fun y c z _ => ?_, fun _ => hd, Around.frames_deeper e0.frames, .inr ⟨rfl, rfl⟩, fun b z => absurd z (noA b), e0.bs, e0.bsz, fun b _ _ => noA b,
      fun b z => absurd z (noA b), e0.funs, e0.frf⟩,
    rfl, e0.bare, Un.kept kp, ⟨_, hns, fun i y v e1 e2 e3 => ?_⟩, fun y c e => ?_, e0.hok.fresh (Nat.le_refl _), fun y c e => ?_, fun q hq => absurd (show q ∈ ([] : List (Addr × Obj)) ++ [] from hq) (by simp), e0.hok.kept kp, I.len⟩
  · have hy : sc.names.lookup y = some .cell ∨ sc.names.lookup y = some .free := hy
    rcases hy with hy | hy
    · exact absurd rfl (L.own _ (PySem.mem_of_lookup hy)).1
    · exact look hy
  · have z : false = true := z
    cases z
  · have e3 : Vis sc y := e3
    rcases e3 with k | k | k
    · exact absurd (List.mem_of_getElem? (show X.N[i]? = some y from e1)) ((L.own _ (PySem.mem_of_lookup k)).2 rfl)
    · exact absurd rfl (L.own _ (PySem.mem_of_lookup k)).1
    · obtain ⟨m, hn, hl⟩ := I.loc
      have hvis : Vis X.env.scope y := (L.free _ (PySem.mem_of_lookup k) rfl).elim (fun k => .inr (.inl k)) (fun k => .inr (.inr k))
      obtain ⟨w', r, q⟩ := hl i y v e1 e2 hvis
      obtain ⟨c2, h2⟩ := look k
      refine ⟨w', r, .inr ⟨.inr k, c2, h2, ?_⟩⟩
      have c1 := cm h2
      rcases q with ⟨k', _⟩ | ⟨_, c3, e', z⟩
      · have k' : X.env.scope.names.lookup y = some .local := k'
        rcases L.free _ (PySem.mem_of_lookup k) rfl with k2 | k2 <;> rw [show X.env.scope.names.lookup y = _ from k2] at k' <;> cases k'
      · rw [c1] at e'; cases e'; exact cellK (I.freeC y _ c1) z
  · obtain ⟨w', z⟩ := I.cell y c (cm e)
    exact ⟨w', cellK (I.freeC y c (cm e)) z⟩
  · obtain ⟨v, o, ho, hd⟩ := I.cell y c (cm e)
    exact un.free c o ho (I.freeC y c (cm e)) (by simp)
end
/-- what the call of the lambda binds -/
def HB (X : Cx) (pr : Arguments) (bd : Expr) (sc : Scope) (Kd : Shared → Hp → Value → Prop) : Prop := ∀ (q : Str) (cl : List (Str × Addr)) (pm cdv ctv dV : Value) (s : Shared) (H : Hp), Kd s H dV →
  ∃ bs : List (Str × Value), (∀ y ∈ bs, sc.names.lookup y.1 = some .local) ∧ ∀ (s2 : Shared) (HZ : Hp), Un (frs X.stack) [] H HZ s.heap s2.heap → BindsTo s2 (lamFn q pr bd sc cl dV pm cdv ctv) ⟨[], []⟩ bs
theorem hb_no {X : Cx} {pr : Arguments} {bd : Expr} {sc : Scope} (h : ∀ (q : Str) (cl : List (Str × Addr)) (pm cdv ctv : Value), bindArgs (lamFn q pr bd sc cl .none pm cdv ctv) ⟨[], []⟩ = pure []) : HB X pr bd sc (fun _ _ dV => dV = .none) :=
  fun q cl pm cdv ctv dV s H e => ⟨[], (fun y hy => by cases hy), fun s2 HZ _ => by
    cases (show dV = .none from e)
    exact .of_eq (h q cl pm cdv ctv)⟩
theorem hb_one {X : Cx} {pr : Arguments} {bd : Expr} {sc : Scope} {a : Str} (hl : sc.names.lookup a = some .local)
    (h : ∀ (q : Str) (cl : List (Str × Addr)) (T : Addr) (pm cdv ctv u : Value), ∃ k, bindArgs (lamFn q pr bd sc cl (.ref T) pm cdv ctv) ⟨[], []⟩ = seqItems? (.ref T) >>= k ∧ k (some #[u]) = pure [(a, u)]) :
    HB X pr bd sc (fun s H dV => ∃ (T : Addr) (u : Value) (n : Nat), dV = .ref T ∧ s.heap.get? T = some { cls := .type "tuple", data := .seq #[u] n } ∧ H T = none ∧ T ∉ frs X.stack) := by
  rintro q cl pm cdv ctv dV s H ⟨T, u, n, rfl, hT, nT, fT⟩
  obtain ⟨k, e1, e2⟩ := h q cl T pm cdv ctv u
  refine ⟨[(a, u)], fun y hy => by rw [List.mem_singleton.mp hy]; exact hl, fun s2 HZ un => ?_⟩
  refine BindsTo.of_looks fun M => ?_
  rw [e1]
  exact fun A Q E s3 kp z => wpAny_bind (wpAny_seqItems (kp _ _ (un.keep T _ hT nT fT (by simp))) rfl (by rw [e2]; exact wpAny_pure z))
end Ew
namespace Ew
open PySem PySem.Spec PyProof.Rows L2 PySem.W LamX
theorem un_comp {fs fs' : List Addr} {H H1 H2 : Hp} {h h1 h2 : Heap} (a : Un fs [] H H1 h h1) (b : Un fs' [] H1 H2 h1 h2) (e : ∀ c o, h.get? c = some o → (c ∈ fs' ↔ c ∈ fs)) : Un fs [] H H2 h h2 where
  keep := fun c ob q n hc hx => b.keep c ob (a.keep c ob q n hc hx) (a.free c ob q n hx) (fun z => hc ((e c ob q).mp z)) hx
  slot := fun c ob q n hc hx => by
    obtain ⟨sl, e1⟩ := a.slot c ob q n hc hx
    obtain ⟨sl', e2⟩ := b.slot c _ e1 (a.free c ob q n hx) ((e c ob q).mpr hc) hx
    exact ⟨sl', e2⟩
  free := fun c ob q n hx => by
    obtain ⟨o', e1⟩ := a.there c ob q hx
    exact b.free c o' e1 (a.free c ob q n hx) hx
  there := fun c ob q hx => by
    obtain ⟨o', e1⟩ := a.there c ob q hx
    exact b.there c o' e1 hx
  tups := fun c xs q => b.tups c xs (a.tups c xs q)
  frzs := fun c o u q => b.frzs c o u (a.frzs c o u q)
  tbls := fun c ps q => by
    obtain ⟨m, e1⟩ := a.tbls c ps q
    obtain ⟨m2, e2⟩ := b.tbls c _ e1
    exact ⟨m ++ m2, by rw [e2, Array.append_assoc]⟩
section
variable {X : Cx} {pins : List (Addr × Obj)} {σ : L2.St} {H : Hp} {s : Shared}
/-- a(), in a def that has the lambda, however it came there -/
theorem pe_actG {CXg : CXT} {Eg : XK} {Ng : List Str} {qg : Str} {sg : Scope} {g f c' : Addr} {cdg dV pm ctv : Value} {pr : Arguments} {bd : Expr} {sc : Scope} {k i : Nat} {a : Str} {pn : List (Addr × Obj)} {xe : Value → Shared → Prop} {W : WX} {E : XK} {tb : TE} {p1 p2 : Pos}
    {AY : Around} {stY : List Env} {sY : Shared} {HY : Hp} {Kd : Shared → Hp → Value → Prop}
    (I : Inv X pins σ H s) (L : LamN X.N X.env.scope sc) (hf : s.heap.get? f = some (lamObj (X.env.qual ++ "<lambda>") pr bd sc (cloFrom X.env.cells sc.names []) dV pm (.ref c') ctv)) (hfn : H f = none) (hfr : f ∉ frs X.stack) (hK : Kd s H dV) (hB : HB X pr bd sc Kd)
    (tk : Takes ((cxOf CXg X.prog X.w X.K X.mg X.base Ng qg sg g cdg AY stY sY HY Eg).tr pn xe) W) (hW : ∀ cls d σ' H', E cls d H' → W cls d σ' H') (hr : Room (k + 1) (AY.deeper (envOfC qg sg sY.heap.objs.size g cdg)))
    (hun : ∀ (pz : List (Addr × Obj)) (sz : Shared) (τ : L2.St) (HZ : Hp), Inv ((cxOf CXg X.prog X.w X.K X.mg X.base Ng qg sg g cdg AY stY sY HY Eg).tr pn xe) pz τ HZ sz → Un (frs X.stack) [] H HZ s.heap sz.heap)
    (hbody : ∀ (A : Around) (outer : List Env) (s : Shared) (H : Hp), Room k (A.deeper (lamEnv X sc s.heap.objs.size f c')) → PE (lamCx X A outer s H E sc f c') bd tb)
    (hN : Ng[i]? = some a) (hv : Vis sg a) (hd : (a == ("__debug__" : Str)) = false := by decide) (hcd : (a == ("__classdict__" : Str)) = false := by decide) :
    PE ((cxOf CXg X.prog X.w X.K X.mg X.base Ng qg sg g cdg AY stY sY HY Eg).tr pn xe) (.Call (.Name a p1) [] [] p2)
      (fun τ HZ Q => τ[i]? = some (some (.ref f)) ∧ HZ c' = some (CodeO c' (X.env.qual ++ "<lambda>")) ∧ tb σ HZ Q) := by
  obtain ⟨bs, hbl, hbt⟩ := hB (X.env.qual ++ "<lambda>") (cloFrom X.env.cells sc.names []) pm (.ref c') ctv dV s H hK
  refine ⟨fun pz sz τ HZ Q IZ h => ?_⟩
  obtain ⟨hs, hc, ht⟩ := h
  refine wpAny_Call_Name_kw (thn ((pe_var (pos := p1) (i := i) hN hv hd hcd).run pz sz τ HZ (fun v H1 => v = .ref f ∧ H1 = HZ) IZ ⟨.ref f, hs, rfl, rfl⟩) fun u s1 ⟨v, H1, I1, r1, q1⟩ => ?_)
  obtain ⟨ev, eH⟩ := q1
  subst ev; rw [eH] at I1
  obtain rfl : u = Value.ref f := r1
  have un := hun _ _ _ _ I1
  have of1 := un.keep f _ hf hfn hfr (by simp)
  refine PySem.W.callWith_F0 ⟨_, _, _, _, of1⟩ ?_
  obtain ⟨⟨oc, vs, t, y1, y2, y3⟩, _, _⟩ := I1.hok c' _ hc
  have rc : codeAny (model X.prog X.w) (AY.deeper (envOfC qg sg sY.heap.objs.size g cdg)) (.call (.ref f) ⟨[], []⟩) (CR (L2.CX X.prog X.w) (envOfC qg sg sY.heap.objs.size g cdg :: stY) X.prog X.w HZ s1 Q E) s1 := by
    refine PySem.W.kla_callFunE hr.depth of1 rfl L.co L.gen rfl ⟨c', oc, vs, t, rfl, y1, y2, y3⟩ (hbt s1 HZ un _ _ _ _ ?_)
    refine wpAny_newFunctionEnv (fun y hy => (L.own y hy).1) hbl (fun g1 hns hsb => ⟨I1.nolimit.fresh _ hsb, ?_⟩) L.kind
    show codeAny _ _ (.expr bd (lamEnv X sc s1.heap.objs.size f c')) _ _
    have kp : ∀ b o, s1.heap.get? b = some o → g1.get? b = some o := fun b o e => hsb.extBut b o (Nat.ne_of_lt (Heap.lt_size e)) (Heap.get?_push_of_some _ e)
    have J : Inv (lamCx X (AY.deeper (envOfC qg sg sY.heap.objs.size g cdg)) (envOfC qg sg sY.heap.objs.size g cdg :: stY) s1 HZ E sc f c') [] σ HZ { s1 with heap := g1, toks := s1.toks + bs.length } := lam_startN I L I1.env0 hr.hd un hns kp
    refine PySem.W.kla_codeExpr (wpAny_mono ((hbody _ _ s1 HZ (hr.deeper _)).run [] _ _ HZ Q J ht) (fun v s' hq => ?_) fun e s' hq => hq)
    obtain ⟨w', H', J', rv, q⟩ := hq
    exact ⟨w', H', J'.os, J'.bare, J'.base, J'.hok, rv, q⟩
  have hx : Passes (L2.CX X.prog X.w) ((cxOf CXg X.prog X.w X.K X.mg X.base Ng qg sg g cdg AY stY sY HY Eg).tr pn xe) E := passes_call tk hW
  refine wpAny_call (codeAny_mono rc fun r s' hq => ?_)
  cases r with
  | error e => exact hx pz τ HZ s1 e s' I1 hq
  | ok fl =>
    cases fl with
    | ret u => exact I1.after hq
    | next => exact False.elim hq
    | brk => exact False.elim hq
    | cont => exact False.elim hq
end
section
variable {X : Cx}
/-- what stands of the def x that gets the lambda -/
structure GetsL (K : PySem.W.Frag) (mg : Str → Option Value) (x a : Str) (g : Addr) (Ng : List Str) (sg : Scope) (bg : List Stmt) (cdv : Value) : Prop where
  m : mg x = some (.ref g)
  k : PySem.W.keepIn K (.ref g) = true
  lk : ∃ (pg : Arguments) (dV kV doc pm ct oc : Value) (an od : Option Addr) (osl : Array (Option Value)), K.lookup g = some ⟨oc, od, .func (PySem.W.fnOf x x pg bg sg dV kV doc pm an cdv ct), osl⟩ ∧ L2.Binds K (PySem.W.fnOf x x pg bg sg dV kV doc pm an cdv ct) [a] []
  c : PySem.W.codeIn K cdv x = true
  s : FnScope Ng [a] sg
  n : Ng[0]? = some a
  v : Vis sg a
theorem gets_of {K : PySem.W.Frag} {mg : Str → Option Value} {x a : Str} {st : Stmt} {f : Addr} {fd : FuncData} {Ng : List Str} (F : Fun K x x st f fd) (g : mg x = some (.ref f)) (b : Binds K fd [a] []) (S : FnScope Ng [a] (defScope st)) (n : Ng[0]? = some a) (v : Vis (defScope st) a) :
    ∃ cdv, GetsL K mg x a f Ng (defScope st) (defBody st) cdv := by
  obtain ⟨oc, od, kV, doc, pm, an, cd, ct, sl, rfl, lk, hc⟩ := F.ex
  exact ⟨cd, g, F.kp, ⟨_, _, _, _, _, _, _, _, _, _, lk, b⟩, hc, S, n, v⟩
/-- x(lambda a=d: body), the default or not -/
theorem pe_lamG {T : List (Addr × Str)} {TT : (XK → Hp → VK → Prop) → Hp → VK → Prop} {x a : Str} {g c P : Addr} {k : Nat} {bg : List Stmt} {sg : Scope} {cdv : Value} {Ng : List Str} {pr : Arguments} {bd : Expr} {sc : Scope} {t : XK → TE} {p lpos pos : Pos} {Kd : Shared → Hp → Value → Prop}
    (hg : Gl X x) (S : GetsL X.K X.mg x a g Ng sg bg cdv) (hG : GivesTo X Ng x sg g cdv bg a (X.env.qual ++ "<lambda>") TT)
    (TB : TabB X.base X.mg c P) (hcode : X.env.code = .ref c) (hmT : (P, X.env.qual ++ "<lambda>") ∈ T) (hu : ∀ p ∈ T, p.1 = P → p.2 = X.env.qual ++ "<lambda>") (hr : Room (k + 2) X.A) (L : LamN X.N X.env.scope sc) (D : DefK X pr Kd) (hB : HB X pr bd sc Kd)
    (hbody : ∀ (A : Around) (outer : List Env) (s : Shared) (H : Hp) (E : XK) (f c' : Addr), Room k (A.deeper (lamEnv X sc s.heap.objs.size f c')) → PE (lamCx X A outer s H E sc f c') bd (t E))
    (hdb : (x == ("__debug__" : Str)) = false := by decide) (hd : (a == ("__debug__" : Str)) = false := by decide) (hcd : (a == ("__classdict__" : Str)) = false := by decide) :
    PE X (.Call (.Name x p) [.Lambda pr bd sc lpos] [] pos) (tLam T TT t) := by
  obtain ⟨pg, dV, kV, doc, pm, ct, oc, an, od, osl, lk, hb⟩ := S.lk
  refine ⟨fun pins s σ H Q I h => ?_⟩
  obtain ⟨hT, h⟩ := h
  refine wpAny_Call_Name_kw (ld_glob I hg S.m (PySem.W.callWith_K (h₀ := X.base) I.ok.mod.kin S.k ?_ (by rfl) (by rfl)) hdb)
  show wpAny _ _ (spliced ((false, eval (.Lambda pr bd sc lpos) X.env) :: backTo pos (starEach [] X.env))) _ _ s
  refine Calls.spliced_cons (lam_makeG I TB hcode hmT hu hT D (L.has I.ok) fun f c' dV' pm' ctv H1 s' I1 eN T1 hK hf hfn hfr hco => Calls.spliced_nil ⟨I1.kIn, ?_⟩)
  have rc : codeAny (model X.prog X.w) X.A (.call (.ref g) ⟨[.ref f], []⟩) (CR C8.CX0 X.stack X.prog X.w H1 s' Q C8.E0) s' := by
    refine run_ofS (N := Ng) (ps := [a]) (us := [.ref f]) (vs := [.ref f]) lk S.c S.s hr I1.env0 (hb s' [.ref f] I1.kIn rfl) (.cons rfl .nil) rfl fun hr' => ?_
    obtain ⟨t', ht', hq'⟩ := hG f c' s' H1 Q (fun E H' Q' => t E σ H' Q') (fun W pn xe E p1 p2 tk hW => pe_actG (i := 0) I1 L hf hfn hfr hK hB tk hW hr' (fun _ _ _ _ IZ => IZ.base) (fun A outer s H hr2 => hbody A outer s H E f c' hr2) S.n S.v hd hcd) hco (h H1 eN T1)
    exact ⟨t', ht'.nox, hq'⟩
  refine wpAny_call (codeAny_mono rc fun r s2 hq => ?_)
  cases r with
  | error e => exact (show False from hq).elim
  | ok fl =>
    cases fl with
    | ret u => exact I1.after hq
    | next => exact False.elim hq
    | brk => exact False.elim hq
    | cont => exact False.elim hq
/-- x(a2), in the def y that got the lambda and hands it on -/
theorem pe_pass {pins : List (Addr × Obj)} {σ : L2.St} {H : Hp} {s : Shared} {TT : (XK → Hp → VK → Prop) → Hp → VK → Prop} {x y a a2 : Str} {g gy f c' : Addr} {k i : Nat} {bg : List Stmt} {sg sy : Scope} {cdv cdy dV pm ctv : Value} {Ng Ny : List Str} {pr : Arguments} {bd : Expr} {sc : Scope} {t : XK → TE} {Kd : Shared → Hp → Value → Prop} {q1 q2 q3 : Pos}
    (I : Inv X pins σ H s) (L : LamN X.N X.env.scope sc) (hf : s.heap.get? f = some (lamObj (X.env.qual ++ "<lambda>") pr bd sc (cloFrom X.env.cells sc.names []) dV pm (.ref c') ctv)) (hfn : H f = none) (hfr : f ∉ frs X.stack) (hK : Kd s H dV) (hB : HB X pr bd sc Kd)
    (S : GetsL X.K X.mg x a g Ng sg bg cdv) (hgx : Gl (cxOf C8.CX0 X.prog X.w X.K X.mg X.base Ny y sy gy cdy X.A X.stack s H C8.E0) x) (hNy : Ny[i]? = some a2) (hvy : Vis sy a2)
    (hG : GivesTo (cxOf C8.CX0 X.prog X.w X.K X.mg X.base Ny y sy gy cdy X.A X.stack s H C8.E0) Ng x sg g cdv bg a (X.env.qual ++ "<lambda>") TT)
    (hr : Room (k + 2) (X.A.deeper (envOfC y sy s.heap.objs.size gy cdy)))
    (hbody : ∀ (A : Around) (outer : List Env) (s : Shared) (H : Hp) (E : XK), Room k (A.deeper (lamEnv X sc s.heap.objs.size f c')) → PE (lamCx X A outer s H E sc f c') bd (t E))
    (hdb : (x == ("__debug__" : Str)) = false := by decide) (hd : (a == ("__debug__" : Str)) = false := by decide) (hcd : (a == ("__classdict__" : Str)) = false := by decide) (hd2 : (a2 == ("__debug__" : Str)) = false := by decide) (hcd2 : (a2 == ("__classdict__" : Str)) = false := by decide) :
    PE (cxOf C8.CX0 X.prog X.w X.K X.mg X.base Ny y sy gy cdy X.A X.stack s H C8.E0) (.Call (.Name x q1) [.Name a2 q2] [] q3)
      (fun τ HY Q => τ[i]? = some (some (.ref f)) ∧ HY c' = some (CodeO c' (X.env.qual ++ "<lambda>")) ∧ TT (fun E H' Q' => t E σ H' Q') HY Q) := by
  obtain ⟨pg, dV0, kV, doc, pm0, ct, oc, an, od, osl, lk, hb⟩ := S.lk
  refine ⟨fun py sy' τ HY Q IY h => ?_⟩
  obtain ⟨hs, hc, ht⟩ := h
  refine wpAny_Call_Name_kw (ld_glob IY hgx S.m (PySem.W.callWith_K (h₀ := X.base) IY.ok.mod.kin S.k ?_ (by rfl) (by rfl)) hdb)
  show wpAny _ _ (spliced ((false, eval (.Name a2 q2) (envOfC y sy s.heap.objs.size gy cdy)) :: backTo q3 (starEach [] (envOfC y sy s.heap.objs.size gy cdy)))) _ _ sy'
  refine Calls.spliced_cons (thn ((pe_var (pos := q2) (i := i) hNy hvy hd2 hcd2).run py sy' τ HY (fun v H1 => v = .ref f ∧ H1 = HY) IY ⟨.ref f, hs, rfl, rfl⟩) fun u s1 ⟨v, H1, I1, r1, z1⟩ => ?_)
  obtain ⟨ev, eH⟩ := z1
  subst ev; rw [eH] at I1
  obtain rfl : u = Value.ref f := r1
  refine Calls.spliced_nil ⟨I1.kIn, ?_⟩
  have inY : ∀ (c : Addr) (o : Obj), s.heap.get? c = some o → (c ∈ frs (envOfC y sy s.heap.objs.size gy cdy :: X.stack) ↔ c ∈ frs X.stack) := fun c o e => by
    have hc' := Heap.lt_size e
    refine ⟨fun z => ?_, fun z => ?_⟩
    · obtain ⟨ev, hev, q⟩ := List.mem_filterMap.mp z
      rcases List.mem_cons.mp hev with e1 | e1
      · rw [e1] at q
        have q' : some s.heap.objs.size = some c := q
        cases q'
        exact absurd hc' (Nat.lt_irrefl _)
      · exact List.mem_filterMap.mpr ⟨ev, e1, q⟩
    · obtain ⟨ev, hev, q⟩ := List.mem_filterMap.mp z
      exact List.mem_filterMap.mpr ⟨ev, List.mem_cons_of_mem _ hev, q⟩
  have b1 : Un (frs X.stack) [] H HY s.heap s1.heap := I1.base
  have rc : codeAny (model X.prog X.w) (X.A.deeper (envOfC y sy s.heap.objs.size gy cdy)) (.call (.ref g) ⟨[.ref f], []⟩) (CR C8.CX0 (envOfC y sy s.heap.objs.size gy cdy :: X.stack) X.prog X.w HY s1 Q C8.E0) s1 := by
    refine run_ofS (N := Ng) (ps := [a]) (us := [.ref f]) (vs := [.ref f]) lk S.c S.s hr I1.env0 (hb s1 [.ref f] I1.kIn rfl) (.cons rfl .nil) rfl fun hr' => ?_
    have act : ∀ (W : WX) (pn : List (Addr × Obj)) (xe : Value → Shared → Prop) (E : XK) (p1 p2 : Pos), Takes ((cxOf C8.CX0 X.prog X.w X.K X.mg X.base Ng x sg g cdv (X.A.deeper (envOfC y sy s.heap.objs.size gy cdy)) (envOfC y sy s.heap.objs.size gy cdy :: X.stack) s1 HY C8.E0).tr pn xe) W → (∀ cls d σ' H', E cls d H' → W cls d σ' H') →
        PE ((cxOf C8.CX0 X.prog X.w X.K X.mg X.base Ng x sg g cdv (X.A.deeper (envOfC y sy s.heap.objs.size gy cdy)) (envOfC y sy s.heap.objs.size gy cdy :: X.stack) s1 HY C8.E0).tr pn xe) (.Call (.Name a p1) [] [] p2) (fun τ HZ Q => τ[0]? = some (some (.ref f)) ∧ HZ c' = some (CodeO c' (X.env.qual ++ "<lambda>")) ∧ t E σ HZ Q) :=
      fun W pn xe E p1 p2 tk hW => pe_actG (i := 0) (tb := t E) I L hf hfn hfr hK hB tk hW hr' (fun _ sz _ HZ IZ => un_comp b1 (show Un (frs (envOfC y sy s.heap.objs.size gy cdy :: X.stack)) [] HY HZ s1.heap sz.heap from IZ.base) inY) (fun A outer s H hr2 => hbody A outer s H E hr2) S.n S.v hd hcd
    obtain ⟨t', ht', hq'⟩ := hG f c' s1 HY Q (fun E H' Q' => t E σ H' Q') act hc ht
    exact ⟨t', ht'.nox, hq'⟩
  refine wpAny_call (codeAny_mono rc fun r s2 hq => ?_)
  cases r with
  | error e => exact (show False from hq).elim
  | ok fl =>
    cases fl with
    | ret u => exact I1.after hq
    | next => exact False.elim hq
    | brk => exact False.elim hq
    | cont => exact False.elim hq
/-- y(lambda ..), where y is a def that ends by x(a2)[0], and x the def that calls what it gets -/
theorem pe_lamT {T : List (Addr × Str)} {TT : (XK → Hp → VK → Prop) → Hp → VK → Prop} {x y a a2 : Str} {g gy c P : Addr} {k : Nat} {bg bgy : List Stmt} {sg sy : Scope} {cdv cdy : Value} {Ng : List Str} {pr : Arguments} {bd : Expr} {sc : Scope} {t : XK → TE} {p lpos pos : Pos} {Kd : Shared → Hp → Value → Prop}
    (hg : Gl X y) (Sy : GetsL X.K X.mg y a2 gy [a2] sy bgy cdy) (S : GetsL X.K X.mg x a g Ng sg bg cdv)
    (hgx : ∀ s H, Gl (cxOf C8.CX0 X.prog X.w X.K X.mg X.base [a2] y sy gy cdy X.A X.stack s H C8.E0) x)
    (hG : ∀ s H, Room (k + 2) (cxOf C8.CX0 X.prog X.w X.K X.mg X.base [a2] y sy gy cdy X.A X.stack s H C8.E0).A → GivesTo (cxOf C8.CX0 X.prog X.w X.K X.mg X.base [a2] y sy gy cdy X.A X.stack s H C8.E0) Ng x sg g cdv bg a (X.env.qual ++ "<lambda>") TT)
    (hGy : ∀ (Y : Cx) (tp : TE), (∀ p1 p2 p3, PE Y (.Call (.Name x p1) [.Name a2 p2] [] p3) tp) → PSs Y bgy (tRet (tOp (rIxT Y.K) tp (tC (.int 0)))))
    (TB : TabB X.base X.mg c P) (hcode : X.env.code = .ref c) (hmT : (P, X.env.qual ++ "<lambda>") ∈ T) (hu : ∀ p ∈ T, p.1 = P → p.2 = X.env.qual ++ "<lambda>") (hr : Room (k + 3) X.A) (L : LamN X.N X.env.scope sc) (D : DefK X pr Kd) (hB : HB X pr bd sc Kd)
    (hbody : ∀ (A : Around) (outer : List Env) (s : Shared) (H : Hp) (E : XK) (f c' : Addr), Room k (A.deeper (lamEnv X sc s.heap.objs.size f c')) → PE (lamCx X A outer s H E sc f c') bd (t E))
    (hdy : (y == ("__debug__" : Str)) = false := by decide) (hdb : (x == ("__debug__" : Str)) = false := by decide) (hd : (a == ("__debug__" : Str)) = false := by decide) (hcd : (a == ("__classdict__" : Str)) = false := by decide) (hd2 : (a2 == ("__debug__" : Str)) = false := by decide) (hcd2 : (a2 == ("__classdict__" : Str)) = false := by decide) :
    PE X (.Call (.Name y p) [.Lambda pr bd sc lpos] [] pos) (tLam T (fun tl H Q => TT tl H fun v G => rIxT X.K v (.int 0) G Q) t) := by
  obtain ⟨pg, dV, kV, doc, pm, ct, oc, an, od, osl, lk, hb⟩ := Sy.lk
  refine ⟨fun pins s σ H Q I h => ?_⟩
  obtain ⟨hT, h⟩ := h
  refine wpAny_Call_Name_kw (ld_glob I hg Sy.m (PySem.W.callWith_K (h₀ := X.base) I.ok.mod.kin Sy.k ?_ (by rfl) (by rfl)) hdy)
  show wpAny _ _ (spliced ((false, eval (.Lambda pr bd sc lpos) X.env) :: backTo pos (starEach [] X.env))) _ _ s
  refine Calls.spliced_cons (lam_makeG I TB hcode hmT hu hT D (L.has I.ok) fun f c' dV' pm' ctv H1 s' I1 eN T1 hK hf hfn hfr hco => Calls.spliced_nil ⟨I1.kIn, ?_⟩)
  have rc : codeAny (model X.prog X.w) X.A (.call (.ref gy) ⟨[.ref f], []⟩) (CR C8.CX0 X.stack X.prog X.w H1 s' Q C8.E0) s' := by
    refine run_ofS (N := [a2]) (ps := [a2]) (us := [.ref f]) (vs := [.ref f]) lk Sy.c Sy.s hr I1.env0 (hb s' [.ref f] I1.kIn rfl) (.cons rfl .nil) rfl fun hr' => ?_
    refine ⟨_, hGy _ _ fun p1 p2 p3 => pe_pass (i := 0) I1 L hf hfn hfr hK hB S (hgx s' H1) rfl Sy.v (hG s' H1 hr') hr' (fun A outer s H E hr2 => hbody A outer s H E f c' hr2) hdb hd hcd hd2 hcd2, ?_⟩
    exact ⟨rfl, hco, h H1 eN T1⟩
  refine wpAny_call (codeAny_mono rc fun r s2 hq => ?_)
  cases r with
  | error e => exact (show False from hq).elim
  | ok fl =>
    cases fl with
    | ret u => exact I1.after hq
    | next => exact False.elim hq
    | brk => exact False.elim hq
    | cont => exact False.elim hq
end
end Ew
namespace Ew
open PySem PySem.Spec PyProof.Rows L2
/-- a number that is not too long to be multiplied and divided -/
def Sw (z : Int) : Prop := z.natAbs < 2 ^ 4000
theorem sw_mul {i j : Int} (hi : Sw i) (hj : Sw j) : CMulW i j := wide_mul hi hj (by decide) (by decide) (by decide)
theorem sw_lt {i j : Int} (hi : Sw i) (hj : Sw j) : (i * j).natAbs < 2 ^ 8000 := Nat.lt_of_lt_of_le (wide_lt hi hj) (Nat.pow_le_pow_right (by decide) (by decide))
theorem sw_big {i : Int} (hi : Sw i) : i.natAbs < 2 ^ 8000 := Nat.lt_of_lt_of_le hi (Nat.pow_le_pow_right (by decide) (by decide))
theorem sw_le {m : Nat} {i : Int} (h : i.natAbs ≤ m) (hm : m < 2 ^ 1000) : Sw i := Nat.lt_of_le_of_lt h (Nat.lt_of_lt_of_le hm (Nat.pow_le_pow_right (by decide) (by decide)))
theorem sw_of {z : Int} (h0 : -9223372036854775808 ≤ z) (h1 : z ≤ 9223372036854775808) : Sw z := sw_le (m := 9223372036854775808) (by omega) (Nat.lt_of_lt_of_le (by decide : 9223372036854775808 < 2 ^ 64) (Nat.pow_le_pow_right (by decide) (by decide)))
/-- n / d lies between a / b and e / f -/
def inQ (n d a b e f : Int) : Bool := !decide (n * b < a * d) && !decide (e * d < n * f)
theorem inQ_iff {n d a b e f : Int} : inQ n d a b e f = true ↔ a * d ≤ n * b ∧ n * f ≤ e * d := by
  unfold inQ
  rw [Bool.and_eq_true, Bool.not_eq_true', Bool.not_eq_true', decide_eq_false_iff_not, decide_eq_false_iff_not, Int.not_lt, Int.not_lt]
/-- a fraction that stands for x / m, compared -/
theorem fr_le_left {x m n d : Int} (hm : 0 < m) (hd : 0 < d) : frN x m * d ≤ n * frD x m ↔ x * d ≤ n * m := by
  obtain ⟨l, e⟩ := fr_spec x (b := m) (by omega)
  have p := l.pos
  constructor
  · intro h
    have h1 : frN x m * d * m ≤ n * frD x m * m := Int.mul_le_mul_of_nonneg_right h (by omega)
    have e1 : frN x m * d * m = frD x m * (x * d) := by rw [Int.mul_assoc, Int.mul_comm d m, ← Int.mul_assoc, e, Int.mul_comm x, Int.mul_assoc]
    have e2 : n * frD x m * m = frD x m * (n * m) := by rw [Int.mul_comm n, Int.mul_assoc]
    rw [e1, e2] at h1
    exact Int.le_of_mul_le_mul_left h1 p
  · intro h
    have h1 : frD x m * (x * d) ≤ frD x m * (n * m) := Int.mul_le_mul_of_nonneg_left h (by omega)
    have e1 : frN x m * d * m = frD x m * (x * d) := by rw [Int.mul_assoc, Int.mul_comm d m, ← Int.mul_assoc, e, Int.mul_comm x, Int.mul_assoc]
    have e2 : n * frD x m * m = frD x m * (n * m) := by rw [Int.mul_comm n, Int.mul_assoc]
    rw [← e1, ← e2] at h1
    exact Int.le_of_mul_le_mul_right h1 hm
theorem fr_le_right {x m n d : Int} (hm : 0 < m) (hd : 0 < d) : n * frD x m ≤ frN x m * d ↔ n * m ≤ x * d := by
  obtain ⟨l, e⟩ := fr_spec x (b := m) (by omega)
  have p := l.pos
  have e1 : frN x m * d * m = frD x m * (x * d) := by rw [Int.mul_assoc, Int.mul_comm d m, ← Int.mul_assoc, e, Int.mul_comm x, Int.mul_assoc]
  have e2 : n * frD x m * m = frD x m * (n * m) := by rw [Int.mul_comm n, Int.mul_assoc]
  constructor
  · intro h
    have h1 : n * frD x m * m ≤ frN x m * d * m := Int.mul_le_mul_of_nonneg_right h (by omega)
    rw [e1, e2] at h1
    exact Int.le_of_mul_le_mul_left h1 p
  · intro h
    have h1 : frD x m * (n * m) ≤ frD x m * (x * d) := Int.mul_le_mul_of_nonneg_left h (by omega)
    rw [← e1, ← e2] at h1
    exact Int.le_of_mul_le_mul_right h1 hm
end Ew
namespace Ew
open PySem PySem.Spec PyProof.Rows L2
/-! ## numbers and their digits -/
def hasN (b : Int) (s : List Int) (n d : Int) : Bool := inQ n d (frN (firstI s) (b - 1)) (frD (firstI s) (b - 1)) (frN (lastI s) (b - 1)) (frD (lastI s) (b - 1))
theorem hasN_iff {b : Int} {s : List Int} {n d : Int} (b2 : 2 ≤ b) (hd : 0 < d) : hasN b s n d = true ↔ firstI s * d ≤ n * (b - 1) ∧ n * (b - 1) ≤ lastI s * d := by
  unfold hasN
  rw [inQ_iff, fr_le_left (by omega) hd, fr_le_right (by omega) hd]
def rsN (b g n d : Int) : Int := frN (b * n - g * d) d
def rsD (b g n d : Int) : Int := frD (b * n - g * d) d
theorem rs_low {b g n d : Int} (hd : 0 < d) : Low (rsN b g n d) (rsD b g n d) := (fr_spec _ (by omega)).1
theorem rs_has {b g n d : Int} {s : List Int} (b2 : 2 ≤ b) (hd : 0 < d) : hasN b s (rsN b g n d) (rsD b g n d) = true ↔ firstI s * d ≤ (b * n - g * d) * (b - 1) ∧ (b * n - g * d) * (b - 1) ≤ lastI s * d := by
  rw [hasN_iff b2 (rs_low hd).pos]
  unfold rsN rsD
  rw [fr_le_right hd (by omega), fr_le_left hd (by omega)]
def possL (b : Int) (s : List Int) (n d : Int) : List Int := s.filter fun g => hasN b s (rsN b g n d) (rsD b g n d)
def lfd (b : Int) (s : List Int) (n d : Int) : Int := (possL b s n d).getD 0 0
theorem mem_getD {s : List Int} {g : Int} (h : g ∈ s) : ∃ i, i < s.length ∧ s.getD i 0 = g := by
  obtain ⟨i, hi, rfl⟩ := List.getElem_of_mem h
  exact ⟨i, hi, by rw [List.getD_eq_getElem?_getD, List.getElem?_eq_getElem hi]; rfl⟩
theorem last_such {p : Nat → Prop} : ∀ n, p 0 → (∃ i, i ≤ n ∧ p i ∧ (i = n ∨ ¬ p (i + 1)))
  | 0, h => ⟨0, Nat.le_refl _, h, .inl rfl⟩
  | n + 1, h => by
    obtain ⟨i, h1, h2, h3⟩ := last_such n h
    rcases h3 with e | e
    · subst e
      by_cases c : p (i + 1)
      · exact ⟨i + 1, Nat.le_refl _, c, .inl rfl⟩
      · exact ⟨i, by omega, h2, .inr c⟩
    · exact ⟨i, by omega, h2, .inr e⟩
/-- a number of the interval has a first digit -/
theorem digit_for {b : Int} {s : List Int} {n d : Int} (h : AreS b s) (b2 : 2 ≤ b) (hd : 0 < d) (hn : hasN b s n d = true) : ∃ g ∈ s, hasN b s (rsN b g n d) (rsD b g n d) = true := by
  obtain ⟨h1, h2⟩ := (hasN_iff b2 hd).mp hn
  have l2 := h.l2
  have hb : 0 ≤ b := by omega
  -- the bounds of b * n * (b - 1)
  have u1 : b * (firstI s * d) ≤ b * (n * (b - 1)) := Int.mul_le_mul_of_nonneg_left h1 hb
  have u2 : b * (n * (b - 1)) ≤ b * (lastI s * d) := Int.mul_le_mul_of_nonneg_left h2 hb
  have ex : ∀ g : Int, (b * n - g * d) * (b - 1) = b * (n * (b - 1)) - g * d * (b - 1) := fun g => by rw [Int.sub_mul, Int.mul_assoc]
  have e0 : firstI s * d * (b - 1) = b * (firstI s * d) - firstI s * d := by rw [Int.mul_sub, Int.mul_one, Int.mul_comm (firstI s * d)]
  have e9 : lastI s * d * (b - 1) = b * (lastI s * d) - lastI s * d := by rw [Int.mul_sub, Int.mul_one, Int.mul_comm (lastI s * d)]
  obtain ⟨i, hi, p1, p2⟩ := last_such (p := fun i => firstI s * d ≤ b * (n * (b - 1)) - s.getD i 0 * d * (b - 1)) (s.length - 1) (by show firstI s * d ≤ b * (n * (b - 1)) - firstI s * d * (b - 1); omega)
  refine ⟨s.getD i 0, Ew.getD_mem (by omega), (rs_has b2 hd).mpr ⟨by rw [ex]; exact p1, ?_⟩⟩
  rw [ex]
  by_cases c : i = s.length - 1
  · have : s.getD i 0 = lastI s := by rw [c]; rfl
    rw [this]
    omega
  · have p3 := p2.resolve_left c
    have g := h.gap i (by omega)
    have g2 : (s.getD (i + 1) 0 - s.getD i 0) * (b - 1) * d ≤ (lastI s - firstI s) * d := Int.mul_le_mul_of_nonneg_right g (by omega)
    have e3 : (s.getD (i + 1) 0 - s.getD i 0) * (b - 1) * d = s.getD (i + 1) 0 * d * (b - 1) - s.getD i 0 * d * (b - 1) := by
      rw [Int.sub_mul, Int.sub_mul, Int.mul_assoc, Int.mul_comm (b - 1) d, ← Int.mul_assoc, Int.mul_assoc (s.getD i 0), Int.mul_comm (b - 1) d, ← Int.mul_assoc]
    rw [e3, Int.sub_mul] at g2
    have p3' : b * (n * (b - 1)) - s.getD (i + 1) 0 * d * (b - 1) < firstI s * d := Int.not_le.mp p3
    omega
theorem poss_ne {b : Int} {s : List Int} {n d : Int} (h : AreS b s) (b2 : 2 ≤ b) (hd : 0 < d) (hn : hasN b s n d = true) : possL b s n d ≠ [] := by
  obtain ⟨g, hg, h2⟩ := digit_for h b2 hd hn
  intro z
  have : g ∈ possL b s n d := List.mem_filter.mpr ⟨hg, h2⟩
  rw [z] at this
  cases this
theorem lfd_mem {b : Int} {s : List Int} {n d : Int} (h : possL b s n d ≠ []) : lfd b s n d ∈ s ∧ hasN b s (rsN b (lfd b s n d) n d) (rsD b (lfd b s n d) n d) = true := by
  have : lfd b s n d ∈ possL b s n d := by
    unfold lfd
    exact Ew.getD_mem (List.length_pos_iff.mpr h)
  exact List.mem_filter.mp this
/-- the numbers that are met: in lowest terms, of a denominator of at most M, in the interval -/
structure OkQ (b : Int) (s : List Int) (M : Int) (q : Int × Int) : Prop where
  low : Low q.1 q.2
  le : q.2 ≤ M
  has : hasN b s q.1 q.2 = true
def rsQ (b : Int) (s : List Int) (q : Int × Int) : Int × Int := (rsN b (lfd b s q.1 q.2) q.1 q.2, rsD b (lfd b s q.1 q.2) q.1 q.2)
theorem OkQ.step {b : Int} {s : List Int} {M : Int} {q : Int × Int} (h : AreS b s) (b2 : 2 ≤ b) (o : OkQ b s M q) : OkQ b s M (rsQ b s q) := by
  have p := o.low.pos
  have m := lfd_mem (poss_ne h b2 p o.has)
  refine ⟨rs_low p, ?_, m.2⟩
  have a := frD_abs (b * q.1 - lfd b s q.1 q.2 * q.2) q.2 (by omega)
  have l := (rs_low (b := b) (g := lfd b s q.1 q.2) (n := q.1) p).pos
  have e := o.le
  show rsD b (lfd b s q.1 q.2) q.1 q.2 ≤ M
  unfold rsD at l ⊢
  omega
def restQ (b : Int) (s : List Int) (q : Int × Int) : Nat → Int × Int
  | 0 => q
  | i + 1 => rsQ b s (restQ b s q i)
def digQ (b : Int) (s : List Int) (q : Int × Int) (i : Nat) : Int := lfd b s (restQ b s q i).1 (restQ b s q i).2
def rowQ (b : Int) (s : List Int) (q : Int × Int) (m : Nat) : List Int := (List.range m).map (digQ b s q)
theorem rowQ_succ (b : Int) (s : List Int) (q : Int × Int) (m : Nat) : rowQ b s q (m + 1) = rowQ b s q m ++ [digQ b s q m] := by
  unfold rowQ
  rw [List.range_succ, List.map_append]
  rfl
theorem rowQ_len (b : Int) (s : List Int) (q : Int × Int) (m : Nat) : (rowQ b s q m).length = m := by unfold rowQ; simp
theorem OkQ.rest {b : Int} {s : List Int} {M : Int} {q : Int × Int} (h : AreS b s) (b2 : 2 ≤ b) (o : OkQ b s M q) : ∀ i, OkQ b s M (restQ b s q i)
  | 0 => o
  | i + 1 => (OkQ.rest h b2 o i).step h b2
/-- how great they are -/
theorem OkQ.small {b : Int} {s : List Int} {M : Int} {q : Int × Int} (h : AreS b s) (b2 : 2 ≤ b) (o : OkQ b s M q) : -(99 * M) ≤ q.1 ∧ q.1 ≤ 99 * M ∧ 0 < q.2 ∧ q.2 ≤ M := by
  have p := o.low.pos
  obtain ⟨h1, h2⟩ := (hasN_iff b2 p).mp o.has
  have e := o.le
  have a1 : lastI s * q.2 ≤ 99 * q.2 := Int.mul_le_mul_of_nonneg_right h.hi (by omega)
  have a2 : -99 * q.2 ≤ firstI s * q.2 := Int.mul_le_mul_of_nonneg_right h.lo (by omega)
  have c1 : q.1 ≤ 99 * q.2 := by
    rcases Int.le_total q.1 0 with z | z
    · omega
    · have : q.1 * 1 ≤ q.1 * (b - 1) := Int.mul_le_mul_of_nonneg_left (by omega) z
      omega
  have c2 : -(99 * q.2) ≤ q.1 := by
    rcases Int.le_total 0 q.1 with z | z
    · omega
    · have : q.1 * (b - 1) ≤ q.1 * 1 := Int.mul_le_mul_of_nonpos_left z (by omega)
      omega
  omega
/-- the rest as the law reckons it: b * n / d in lowest terms, then less g -/
theorem rs_eq {b g n d : Int} (hd : 0 < d) : frN (frN (b * n) (1 * d) * 1 - g * frD (b * n) (1 * d)) (frD (b * n) (1 * d) * 1) = rsN b g n d ∧ frD (frN (b * n) (1 * d) * 1 - g * frD (b * n) (1 * d)) (frD (b * n) (1 * d) * 1) = rsD b g n d := by
  rw [Int.one_mul, Int.mul_one, Int.mul_one]
  obtain ⟨l, e⟩ := fr_spec (b * n) (b := d) (by omega)
  have p := l.pos
  refine fr_eq (by omega) (by omega) ?_
  rw [Int.sub_mul, Int.sub_mul, e, Int.mul_assoc g, Int.mul_comm (frD (b * n) d) d, ← Int.mul_assoc g]
end Ew
namespace Ew
open PySem PySem.Spec PyProof.Rows L2
theorem le_of_mul {a b c : Int} (h : a * c ≤ b * c) (hc : 0 < c) : a ≤ b := Int.le_of_mul_le_mul_right h hc
theorem interval_core {a b c d x y X Y E F S T n k : Int} (hb : 0 < b) (hd : 0 < d) (hy : 0 < y) (hac : a * d ≤ c * b) (hx : 0 ≤ x) (hxy : x ≤ y) (e1 : X * y = x * Y) (Yp : 0 < Y) (e2 : E * (d * b) = (c * b - a * d) * F) (Fp : 0 < F)
    (e3 : S * (Y * F) = X * E * T) (Tp : 0 < T) (e4 : n * (b * T) = (a * T + S * b) * k) (kp : 0 < k) : a * k ≤ n * b ∧ n * d ≤ c * k := by
  have db : 0 < d * b := Int.mul_pos hd hb
  have YF : 0 < Y * F := Int.mul_pos Yp Fp
  have bT : 0 < b * T := Int.mul_pos hb Tp
  have X0 : 0 ≤ X := le_of_mul (c := y) (by rw [e1, Int.zero_mul]; exact Int.mul_nonneg hx (Int.le_of_lt Yp)) hy
  have XY : X ≤ Y := le_of_mul (c := y) (by
    have := Int.mul_le_mul_of_nonneg_right hxy (Int.le_of_lt Yp)
    rw [e1, Int.mul_comm Y y]; exact this) hy
  have D0 : 0 ≤ c * b - a * d := by omega
  have E0 : 0 ≤ E := le_of_mul (c := d * b) (by rw [e2, Int.zero_mul]; exact Int.mul_nonneg D0 (Int.le_of_lt Fp)) db
  have S0 : 0 ≤ S := le_of_mul (c := Y * F) (by rw [e3, Int.zero_mul]; exact Int.mul_nonneg (Int.mul_nonneg X0 E0) (Int.le_of_lt Tp)) YF
  constructor
  · refine le_of_mul (c := T) ?_ Tp
    have z : 0 ≤ S * b * k := Int.mul_nonneg (Int.mul_nonneg S0 (Int.le_of_lt hb)) (Int.le_of_lt kp)
    have w : n * b * T = a * k * T + S * b * k := by grind
    omega
  · have q0 : 0 ≤ T * (c * b - a * d) * F := Int.mul_nonneg (Int.mul_nonneg (Int.le_of_lt Tp) D0) (Int.le_of_lt Fp)
    have q := Int.mul_le_mul_of_nonneg_right XY q0
    have key : S * (d * b) ≤ (c * b - a * d) * T := by
      refine le_of_mul (c := Y * F) ?_ YF
      have z1 : S * (d * b) * (Y * F) = X * (T * (c * b - a * d) * F) := by
        have : S * (d * b) * (Y * F) = S * (Y * F) * (d * b) := by grind
        rw [this, e3]
        have : X * E * T * (d * b) = X * T * (E * (d * b)) := by grind
        rw [this, e2]
        grind
      have z2 : (c * b - a * d) * T * (Y * F) = Y * (T * (c * b - a * d) * F) := by grind
      rw [z1, z2]; exact q
    refine le_of_mul (c := b * T) ?_ bT
    have w1 : n * d * (b * T) = a * d * T * k + S * (d * b) * k := by
      have : n * d * (b * T) = n * (b * T) * d := by grind
      rw [this, e4]; grind
    have w2 : c * k * (b * T) = a * d * T * k + (c * b - a * d) * T * k := by grind
    have w3 := Int.mul_le_mul_of_nonneg_right key (Int.le_of_lt kp)
    omega
theorem frD_le {x m : Int} (hm : 0 < m) : 0 < frD x m ∧ frD x m ≤ m := by
  have l := (fr_spec x (b := m) (by omega)).1.pos
  have a := frD_abs x m (by omega)
  omega
theorem pw {z : Int} {n m : Nat} (h : z.natAbs < 2 ^ n) (hm : n ≤ m) : z.natAbs < 2 ^ m := Nat.lt_of_lt_of_le h (Nat.pow_le_pow_right (by decide) hm)
theorem sw_pw {z : Int} {n : Nat} (h : z.natAbs < 2 ^ n) (hm : n ≤ 4000 := by decide) : Sw z := pw h hm
theorem pw_add {x y : Int} {n : Nat} (h1 : x.natAbs < 2 ^ n) (h2 : y.natAbs < 2 ^ n) : (x + y).natAbs < 2 ^ (n + 1) := by
  have := Int.natAbs_add_le x y
  rw [Nat.pow_succ]; omega
theorem pw_sub {x y : Int} {n : Nat} (h1 : x.natAbs < 2 ^ n) (h2 : y.natAbs < 2 ^ n) : (x - y).natAbs < 2 ^ (n + 1) := by
  have := Int.natAbs_sub_le x y
  rw [Nat.pow_succ]; omega
theorem frN_pw {x m : Int} {n : Nat} (h : x.natAbs < 2 ^ n) (hm : m ≠ 0) : (frN x m).natAbs < 2 ^ n := Nat.lt_of_le_of_lt (frN_abs x m hm) h
theorem frD_pw {x m : Int} {n : Nat} (h : m.natAbs < 2 ^ n) (hm : m ≠ 0) : (frD x m).natAbs < 2 ^ n := Nat.lt_of_le_of_lt (frD_abs x m hm) h
theorem pw_small {z : Int} (h0 : -1048576 < z) (h1 : z < 1048576) : z.natAbs < 2 ^ 20 := by
  have : (2 : Nat) ^ 20 = 1048576 := by decide
  omega
end Ew
namespace Ew
open PySem PySem.Spec PyProof.Rows L2
/-- all stays but the list at p and the tables -/
def Ev (p : Addr) (G G' : Hp) : Prop := ∀ c o, G c = some o → c ≠ p → (∀ ps, o ≠ .tbl ps) → G' c = some o
theorem Ev.refl (p : Addr) (G : Hp) : Ev p G G := fun _ _ h _ _ => h
theorem Ev.trans {p : Addr} {G G1 G2 : Hp} (a : Ev p G G1) (b : Ev p G1 G2) : Ev p G G2 := fun c o h n t => b c o (a c o h n t) n t
theorem Ev.of {p : Addr} {G G1 : Hp} (e : Same G G1) : Ev p G G1 := fun c o h _ _ => e c o h
theorem Ev.keep {p : Addr} {G G1 : Hp} (e : KeepBut p G G1) : Ev p G G1 := fun c o h n _ => e c o h n
theorem Ev.extN {p : Addr} {G G1 : Hp} (e : LamX.ExtN G G1) : Ev p G G1 := fun c o h _ t => e c o h t
theorem Ev.new {p d : Addr} {G : Hp} {o : HO} (h : G d = none) : Ev p G (upd G d o) := Ev.of (same_upd (Same.refl G) h)
theorem Ev.put {p : Addr} {G : Hp} {o : HO} : Ev p G (upd G p o) := Ev.keep KeepBut.put
theorem Ev.tup {p c : Addr} {G G' : Hp} {xs : List V} (e : Ev p G G') (h : G c = some (.tup xs)) (n : c ≠ p) : G' c = some (.tup xs) := e _ _ h n fun _ z => nomatch z
theorem Ev.lst {p c : Addr} {G G' : Hp} {xs : List V} (e : Ev p G G') (h : G c = some (.lst xs)) (n : c ≠ p) : G' c = some (.lst xs) := e _ _ h n fun _ z => nomatch z
theorem Ev.ins {p c C dx : Addr} {G G' : Hp} {fs : List (Str × V)} (e : Ev p G G') (h : G c = some (.ins C dx fs)) (n : c ≠ p) : G' c = some (.ins C dx fs) := e _ _ h n fun _ z => nomatch z
theorem RngAt.nt {G : Hp} {p q c : Addr} {ns : List Int} {i v sd : Int} {xs : List V} (R : RngAt G p q ns i v sd) (h : G c = some (.tup xs)) : c ≠ p := fun e => by
  have z := R.at_p
  rw [← e, h] at z
  cases z
theorem RngAt.ni {G : Hp} {p q c C dx : Addr} {ns : List Int} {i v sd : Int} {fs : List (Str × V)} (R : RngAt G p q ns i v sd) (h : G c = some (.ins C dx fs)) : c ≠ p := fun e => by
  have z := R.at_p
  rw [← e, h] at z
  cases z
/-- what every part of a law's turn leaves: the drawer at p, the tables -/
structure Wd (T : List (Addr × Str)) (p q : Addr) (ns : List Int) (G : Hp) : Prop where
  r : ∃ i v sd, RngAt G p q ns i v sd
  t : LamX.Tabs T G
theorem Wd.same {T : List (Addr × Str)} {p q : Addr} {ns : List Int} {G G' : Hp} (w : Wd T p q ns G) (e : Same G G') : Wd T p q ns G' := by
  obtain ⟨⟨i, v, sd, R⟩, t⟩ := w
  exact ⟨⟨i, v, sd, R.same e⟩, (Keep.of e).tabs t⟩
theorem Wd.keep {T : List (Addr × Str)} {p q : Addr} {ns : List Int} {G G' : Hp} {i v sd : Int} (w : Wd T p q ns G) (e : KeepBut p G G') (R : RngAt G' p q ns i v sd) : Wd T p q ns G' := by
  obtain ⟨⟨i, v, sd, R0⟩, t⟩ := w
  exact ⟨⟨_, _, _, R⟩, (e.keep R0.at_p).tabs t⟩
theorem Wd.extN {T : List (Addr × Str)} {p q : Addr} {ns : List Int} {G G' : Hp} (w : Wd T p q ns G) (e : LamX.ExtN G G') (t : LamX.Tabs T G') : Wd T p q ns G' := by
  obtain ⟨⟨i, v, sd, R⟩, _⟩ := w
  exact ⟨⟨i, v, sd, R.extN e⟩, t⟩
theorem Wd.put {T : List (Addr × Str)} {p q : Addr} {ns : List Int} {G : Hp} {i v sd : Int} (w : Wd T p q ns G) (ok : RngOk i v sd) : Wd T p q ns (upd G p (.lst (rngL q i v sd))) := by
  obtain ⟨⟨i, v, sd, R⟩, t⟩ := w
  exact ⟨⟨_, _, _, R.next ok⟩, (Keep.put R.at_p).tabs t⟩
theorem Wd.nt {T : List (Addr × Str)} {p q c : Addr} {ns : List Int} {G : Hp} {xs : List V} (w : Wd T p q ns G) (h : G c = some (.tup xs)) : c ≠ p := by
  obtain ⟨⟨i, v, sd, R⟩, _⟩ := w
  exact R.nt h
theorem Wd.ni {T : List (Addr × Str)} {p q c C dx : Addr} {ns : List Int} {G : Hp} {fs : List (Str × V)} (w : Wd T p q ns G) (h : G c = some (.ins C dx fs)) : c ≠ p := by
  obtain ⟨⟨i, v, sd, R⟩, _⟩ := w
  exact R.ni h
theorem Wd.nn {T : List (Addr × Str)} {p q c : Addr} {ns : List Int} {G : Hp} (w : Wd T p q ns G) (h : G c = none) : c ≠ p := by
  obtain ⟨⟨i, v, sd, R⟩, _⟩ := w
  exact R.free h
theorem Wd.nq {T : List (Addr × Str)} {p q c : Addr} {ns : List Int} {G : Hp} (w : Wd T p q ns G) (h : G c = none) : c ≠ q := by
  obtain ⟨⟨i, v, sd, R⟩, _⟩ := w
  exact R.freeq h
/-- a list of our own, another than the drawer's two, is written -/
theorem Wd.off {T : List (Addr × Str)} {p q d : Addr} {ns : List Int} {G : Hp} {o : HO} {xs : List V} (w : Wd T p q ns G) (h : G d = some (.lst xs)) (h1 : d ≠ p) (h2 : d ≠ q) : Wd T p q ns (upd G d o) := by
  obtain ⟨⟨i, v, sd, R⟩, t⟩ := w
  exact ⟨⟨_, _, _, R.off h1 h2⟩, (Keep.put h).tabs t⟩
end Ew
namespace Ew
open PySem PySem.Spec PyProof.Rows L2
/-! ## fractions as rational numbers -/
theorem rat_low (r : Rat) : Low r.num (r.den : Int) := ⟨by rw [Int.natAbs_natCast]; exact r.reduced, by have := r.den_pos; omega⟩
theorem fr_rat {a b : Int} (hb : b ≠ 0) : frN a b = (Rat.divInt a b).num ∧ frD a b = ((Rat.divInt a b).den : Int) := by
  obtain ⟨l, e⟩ := fr_spec a hb
  have l2 := rat_low (Rat.divInt a b)
  refine low_uniq l l2 ?_
  have e2 : (Rat.divInt a b).num * b = a * ((Rat.divInt a b).den : Int) := (Rat.divInt_eq_divInt_iff (Int.ne_of_gt l2.pos) hb).mp (by rw [Rat.num_divInt_den])
  have z : frN a b * ((Rat.divInt a b).den : Int) * b = (Rat.divInt a b).num * frD a b * b := by
    rw [Int.mul_right_comm, e, Int.mul_right_comm _ _ b, e2, Int.mul_right_comm]
  exact Int.eq_of_mul_eq_mul_right hb z
/-- the items of a fraction's tuple -/
def qV (r : Rat) : List V := [.int r.num, .int (r.den : Int)]
theorem qV_fr {a b : Int} (hb : b ≠ 0) : [V.int (frN a b), V.int (frD a b)] = qV (Rat.divInt a b) := by
  obtain ⟨e1, e2⟩ := fr_rat (a := a) hb
  unfold qV
  rw [e1, e2]
theorem qV_of {n d : Int} (h : Low n d) : [V.int n, V.int d] = qV (Rat.divInt n d) := by
  have e := low_uniq h (fr_spec n (b := d) (by have := h.pos; omega)).1 (by have := (fr_spec n (b := d) (by have := h.pos; omega)).2; omega)
  rw [← qV_fr (by have := h.pos; omega), ← e.1, ← e.2]
/-- how long its numbers are -/
structure Sz (n : Nat) (r : Rat) : Prop where
  num : r.num.natAbs < 2 ^ n
  den : r.den < 2 ^ n
theorem Sz.le {n m : Nat} {r : Rat} (h : Sz n r) (hm : n ≤ m) : Sz m r := ⟨Nat.lt_of_lt_of_le h.num (Nat.pow_le_pow_right (by decide) hm), Nat.lt_of_lt_of_le h.den (Nat.pow_le_pow_right (by decide) hm)⟩
theorem Sz.den' {n : Nat} {r : Rat} (h : Sz n r) : (r.den : Int).natAbs < 2 ^ n := by rw [Int.natAbs_natCast]; exact h.den
theorem den_ne (r : Rat) : (r.den : Int) ≠ 0 := by have := r.den_pos; omega
theorem sz_div {a b : Int} {n : Nat} (hb : b ≠ 0) (ha : a.natAbs < 2 ^ n) (hb2 : b.natAbs < 2 ^ n) : Sz n (Rat.divInt a b) := by
  obtain ⟨e1, e2⟩ := fr_rat (a := a) hb
  have h1 := frN_abs a b hb
  have h2 := frD_abs a b hb
  rw [e1] at h1
  rw [e2, Int.natAbs_natCast] at h2
  exact ⟨Nat.lt_of_le_of_lt h1 ha, Nat.lt_of_le_of_lt h2 hb2⟩
theorem add_rat (r s : Rat) : r + s = Rat.divInt (r.num * s.den + s.num * r.den) (r.den * s.den) := by
  rw [← Rat.divInt_add_divInt _ _ (den_ne r) (den_ne s), Rat.num_divInt_den, Rat.num_divInt_den]
theorem mul_rat (r s : Rat) : r * s = Rat.divInt (r.num * s.num) (r.den * s.den) := by
  rw [← Rat.divInt_mul_divInt, Rat.num_divInt_den, Rat.num_divInt_den]
theorem sub_rat (r s : Rat) : r - s = Rat.divInt (r.num * s.den - s.num * r.den) (r.den * s.den) := by
  rw [← Rat.divInt_sub_divInt _ _ (den_ne r) (den_ne s), Rat.num_divInt_den, Rat.num_divInt_den]
theorem div_rat {r s : Rat} (h : s ≠ 0) : r / s = Rat.divInt (r.num * s.den) (r.den * s.num) := by
  rw [Rat.div_def, show s⁻¹ = Rat.divInt s.den s.num by rw [Rat.inv_def], ← Rat.divInt_mul_divInt, Rat.num_divInt_den]
theorem num_ne {s : Rat} (h : s ≠ 0) : s.num ≠ 0 := fun e => h (by
  have := Rat.num_divInt_den s
  rw [e, Rat.zero_divInt] at this
  exact this.symm)
theorem Sz.add {n m : Nat} {r s : Rat} (h : Sz n r) (g : Sz m s) : Sz (n + m + 1) (r + s) := by
  rw [add_rat]
  refine sz_div (Int.mul_ne_zero (den_ne r) (den_ne s)) (pw_add (wide_lt h.num g.den') ?_) (pw (wide_lt h.den' g.den') (by omega))
  rw [Nat.add_comm]; exact wide_lt g.num h.den'
theorem Sz.sub {n m : Nat} {r s : Rat} (h : Sz n r) (g : Sz m s) : Sz (n + m + 1) (r - s) := by
  rw [sub_rat]
  refine sz_div (Int.mul_ne_zero (den_ne r) (den_ne s)) (pw_sub (wide_lt h.num g.den') ?_) (pw (wide_lt h.den' g.den') (by omega))
  rw [Nat.add_comm]; exact wide_lt g.num h.den'
theorem Sz.mul {n m : Nat} {r s : Rat} (h : Sz n r) (g : Sz m s) : Sz (n + m) (r * s) := by
  rw [mul_rat]
  exact sz_div (Int.mul_ne_zero (den_ne r) (den_ne s)) (wide_lt h.num g.num) (wide_lt h.den' g.den')
theorem Sz.div {n m : Nat} {r s : Rat} (h : Sz n r) (g : Sz m s) (h0 : s ≠ 0) : Sz (n + m) (r / s) := by
  rw [div_rat h0]
  exact sz_div (Int.mul_ne_zero (den_ne r) (num_ne h0)) (wide_lt h.num g.den') (wide_lt h.den' g.num)
theorem lt_rat (r s : Rat) : decide (r.num * (s.den : Int) < s.num * (r.den : Int)) = decide (r < s) := by
  rw [decide_eq_decide]
  exact (Rat.lt_iff r s).symm
/-! ## what the heap holds: all but lists and tables stays -/
def Kp (G G' : Hp) : Prop := ∀ b o, G b = some o → (∀ xs, o ≠ .lst xs) → (∀ ps, o ≠ .tbl ps) → G' b = some o
theorem Kp.refl (G : Hp) : Kp G G := fun _ _ h _ _ => h
theorem Kp.trans {G G1 G2 : Hp} (a : Kp G G1) (b : Kp G1 G2) : Kp G G2 := fun c o h n t => b c o (a c o h n t) n t
theorem Kp.of {G G' : Hp} (e : Same G G') : Kp G G' := fun b o h _ _ => e b o h
theorem Kp.extN {G G' : Hp} (e : LamX.ExtN G G') : Kp G G' := fun b o h _ t => e b o h t
theorem Kp.put {G : Hp} {p : Addr} {xs : List V} {o : HO} (h : G p = some (.lst xs)) : Kp G (upd G p o) := fun b u q n _ => by
  rw [upd_ne (fun e => n xs (Option.some.inj (q.symm.trans (by rw [e]; exact h))))]
  exact q
theorem Kp.new {G : Hp} {p : Addr} {o : HO} (h : G p = none) : Kp G (upd G p o) := Kp.of (same_upd (Same.refl G) h)
theorem Kp.but {p : Addr} {G G' : Hp} {xs : List V} (h : G p = some (.lst xs)) (e : KeepBut p G G') : Kp G G' := fun b o hb n _ => e b o hb fun z => n xs (Option.some.inj (hb.symm.trans (by rw [z]; exact h)))
theorem Kp.t {G G' : Hp} {c : Addr} {xs : List V} (e : Kp G G') (h : G c = some (.tup xs)) : G' c = some (.tup xs) := e _ _ h (fun _ z => nomatch z) (fun _ z => nomatch z)
theorem Kp.i {G G' : Hp} {c C dx : Addr} {fs : List (Str × V)} (e : Kp G G') (h : G c = some (.ins C dx fs)) : G' c = some (.ins C dx fs) := e _ _ h (fun _ z => nomatch z) (fun _ z => nomatch z)
/-- v is the fraction r -/
def QAt (H : Hp) (v : V) (r : Rat) : Prop := ∃ a, v = .ref a ∧ H a = some (.tup (qV r))
theorem QAt.kp {G G' : Hp} {v : V} {r : Rat} (e : Kp G G') (h : QAt G v r) : QAt G' v r := by
  obtain ⟨a, rfl, h⟩ := h
  exact ⟨a, rfl, e.t h⟩
/-- two fractions, one operation -/
def spR2 (op : Rat → Rat → Rat) (ok : Rat → Rat → Prop) : Sp := fun vs H Q _ => ∃ (u v : V) (r s : Rat), vs = [u, v] ∧ QAt H u r ∧ QAt H v s ∧ Sz 3900 r ∧ Sz 3900 s ∧ ok r s ∧ ∀ G p, Same H G → H p = none → G p = some (.tup (qV (op r s))) → Q (.ref p) G
def spRless : Sp := fun vs H Q _ => ∃ (u v : V) (r s : Rat), vs = [u, v] ∧ QAt H u r ∧ QAt H v s ∧ Sz 3900 r ∧ Sz 3900 s ∧ Q (.bl (decide (r < s))) H
theorem sz_sw {r : Rat} (h : Sz 3900 r) : Sw r.num ∧ Sw (r.den : Int) := ⟨sw_pw h.num (by decide), sw_pw h.den' (by decide)⟩
end Ew
namespace Ew
open PySem PySem.Spec PyProof.Rows L2
/-! ## lines through points -/
abbrev Pt := Rat × Rat
def slopeQ (l r : Pt) : Rat := (r.2 - l.2) / (r.1 - l.1)
def heightQ (l r : Pt) (x : Rat) : Rat := l.2 + slopeQ l r * (x - l.1)
abbrev AscQ (ps : List Pt) : Prop := ps.Pairwise fun a b => a.1 < b.1
/-- the points behind the first one that stay -/
def normT : List Pt → List Pt
  | p :: q :: r :: rest => (if slopeQ p q = slopeQ q r then [] else [q]) ++ normT (q :: r :: rest)
  | [_, q] => [q]
  | _ => []
def normQ : List Pt → List Pt
  | p :: rest => p :: normT (p :: rest)
  | [] => []
def evalQ : List Pt → Rat → Rat
  | [p, q], x => heightQ p q x
  | p :: q :: r :: rest, x => if q.1 < x then evalQ (q :: r :: rest) x else heightQ p q x
  | _, _ => 0
theorem col {P p q : Pt} (h1 : P.1 < p.1) (h2 : p.1 < q.1) (e : slopeQ P p = slopeQ p q) : slopeQ P q = slopeQ p q ∧ (∀ x, heightQ P q x = heightQ p q x) ∧ ∀ x, heightQ P p x = heightQ p q x := by
  unfold slopeQ at e
  have a1 : p.1 - P.1 ≠ 0 := by grind
  have a2 : q.1 - p.1 ≠ 0 := by grind
  have a3 : q.1 - P.1 ≠ 0 := by grind
  have s : slopeQ P q = slopeQ p q := by unfold slopeQ; grind
  have y : p.2 = P.2 + slopeQ p q * (p.1 - P.1) := by unfold slopeQ; grind
  refine ⟨s, fun x => ?_, fun x => ?_⟩
  · unfold heightQ
    rw [s]
    grind
  · unfold heightQ
    rw [show slopeQ P p = slopeQ p q from e]
    grind
/-- what is kept of the points tells the same heights -/
theorem ev_norm (x : Rat) : ∀ (rest : List Pt) (P p : Pt), rest ≠ [] → AscQ (p :: rest) → (P = p ∨ (P.1 < p.1 ∧ ∀ q, rest.head? = some q → slopeQ P p = slopeQ p q)) →
    ((p.1 < x ∨ P = p) → evalQ (P :: normT (p :: rest)) x = evalQ (p :: rest) x) ∧ (P ≠ p → ¬ p.1 < x → evalQ (P :: normT (p :: rest)) x = heightQ P p x)
  | [], _, _, h, _, _ => absurd rfl h
  | [q], P, p, _, asc, st => by
    have pq : p.1 < q.1 := (List.pairwise_cons.mp asc).1 q (List.mem_cons_self ..)
    show ((p.1 < x ∨ P = p) → heightQ P q x = heightQ p q x) ∧ (P ≠ p → ¬ p.1 < x → heightQ P q x = heightQ P p x)
    rcases st with rfl | ⟨h1, h2⟩
    · exact ⟨fun _ => rfl, fun z => absurd rfl z⟩
    · obtain ⟨c1, c2, c3⟩ := col h1 pq (h2 q rfl)
      exact ⟨fun _ => c2 x, fun _ _ => (c2 x).trans (c3 x).symm⟩
  | q :: r :: rest, P, p, _, asc, st => by
    have asc' := (List.pairwise_cons.mp asc).2
    have pq : p.1 < q.1 := (List.pairwise_cons.mp asc).1 q (List.mem_cons_self ..)
    have qr : q.1 < r.1 := (List.pairwise_cons.mp asc').1 r (List.mem_cons_self ..)
    have hP : ∀ y, heightQ P q y = heightQ p q y := by
      rcases st with rfl | ⟨h1, h2⟩
      · exact fun _ => rfl
      · exact (col h1 pq (h2 q rfl)).2.1
    have sP : slopeQ P q = slopeQ p q := by
      rcases st with rfl | ⟨h1, h2⟩
      · rfl
      · exact (col h1 pq (h2 q rfl)).1
    have Pq : P.1 < q.1 := by
      rcases st with rfl | ⟨h1, h2⟩
      · exact pq
      · grind
    have low : P ≠ p → heightQ P q x = heightQ P p x := fun z => by
      rcases st with rfl | ⟨h1, h2⟩
      · exact absurd rfl z
      · obtain ⟨_, c2, c3⟩ := col h1 pq (h2 q rfl)
        exact (c2 x).trans (c3 x).symm
    by_cases c : slopeQ p q = slopeQ q r
    · have e : normT (p :: q :: r :: rest) = normT (q :: r :: rest) := by rw [normT, if_pos c, List.nil_append]
      obtain ⟨i1, i2⟩ := ev_norm x (r :: rest) P q (by simp) asc' (.inr ⟨Pq, fun s hs => by
        cases hs
        rw [sP, c]⟩)
      have Pn : P ≠ q := fun z => by rw [z] at Pq; exact absurd Pq (by grind)
      rw [e]
      constructor
      · intro _
        by_cases d : q.1 < x
        · rw [i1 (.inl d), evalQ, if_pos d]
        · rw [i2 Pn d, evalQ, if_neg d, hP]
      · intro z nx
        have d : ¬ q.1 < x := by grind
        rw [i2 Pn d]
        exact low z
    · have e : normT (p :: q :: r :: rest) = q :: normT (q :: r :: rest) := by rw [normT, if_neg c]; rfl
      obtain ⟨i1, _⟩ := ev_norm x (r :: rest) q q (by simp) asc' (.inl rfl)
      have i1 := i1 (.inr rfl)
      obtain ⟨n1, n2, en⟩ : ∃ n1 n2, normT (q :: r :: rest) = n1 :: n2 := by
        clear e i1
        suffices ∀ (l : List Pt) (a b : Pt), ∃ n1 n2, normT (a :: b :: l) = n1 :: n2 from this rest q r
        intro l
        induction l with
        | nil => exact fun a b => ⟨b, [], rfl⟩
        | cons d l ih =>
          intro a b
          rw [normT]
          obtain ⟨n1, n2, e⟩ := ih b d
          rw [e]
          split
          · exact ⟨_, _, rfl⟩
          · exact ⟨_, _, rfl⟩
      rw [e, en, evalQ]
      rw [en] at i1
      constructor
      · intro _
        by_cases d : q.1 < x
        · rw [if_pos d, i1]
          conv => rhs; rw [evalQ, if_pos d]
        · rw [if_neg d, hP]
          conv => rhs; rw [evalQ, if_neg d]
      · intro z nx
        have d : ¬ q.1 < x := by grind
        rw [if_neg d]
        exact low z
theorem eval_norm {ps : List Pt} (x : Rat) (h2 : 2 ≤ ps.length) (asc : AscQ ps) : evalQ (normQ ps) x = evalQ ps x := by
  match ps, h2, asc with
  | p :: q :: rest, _, asc => exact (ev_norm x (q :: rest) p p (by simp) asc (.inl rfl)).1 (.inr rfl)
/-! ### the least and the greatest -/
theorem mid {P p q : Pt} (h1 : P.1 < p.1) (h2 : p.1 < q.1) (e : slopeQ P p = slopeQ p q) (m : Rat) : (m ≤ P.2 → m ≤ q.2 → m ≤ p.2) ∧ (P.2 ≤ m → q.2 ≤ m → p.2 ≤ m) := by
  have a1 : 0 < p.1 - P.1 := by grind
  have a2 : 0 < q.1 - p.1 := by grind
  have y1 : p.2 - P.2 = slopeQ P p * (p.1 - P.1) := by unfold slopeQ; grind
  have y2 : q.2 - p.2 = slopeQ P p * (q.1 - p.1) := by rw [e]; unfold slopeQ; grind
  rcases Rat.le_total (a := 0) (b := slopeQ P p) with z | z
  · have b1 : 0 ≤ slopeQ P p * (p.1 - P.1) := Rat.mul_nonneg z (by grind)
    have b2 : 0 ≤ slopeQ P p * (q.1 - p.1) := Rat.mul_nonneg z (by grind)
    constructor <;> intros <;> grind
  · have b1 : 0 ≤ (- slopeQ P p) * (p.1 - P.1) := Rat.mul_nonneg (by grind) (by grind)
    have b2 : 0 ≤ (- slopeQ P p) * (q.1 - p.1) := Rat.mul_nonneg (by grind) (by grind)
    constructor <;> intros <;> grind
end Ew
namespace Ew
open PySem PySem.Spec PyProof.Rows L2
theorem normT_sub : ∀ (rest : List Pt) (p : Pt), (normT (p :: rest)).Sublist rest
  | [], _ => List.nil_sublist _
  | [q], p => List.Sublist.refl _
  | q :: r :: rest, p => by
    have ih := normT_sub (r :: rest) q
    rw [normT]
    split
    · exact List.Sublist.cons _ (by rw [List.nil_append]; exact ih)
    · exact List.Sublist.cons_cons _ ih
theorem normQ_sub (ps : List Pt) : (normQ ps).Sublist ps := by
  cases ps with
  | nil => exact List.Sublist.refl _
  | cons p rest => exact List.Sublist.cons_cons _ (normT_sub rest p)
theorem normQ_asc {ps : List Pt} (h : AscQ ps) : AscQ (normQ ps) := h.sublist (normQ_sub ps)
theorem normQ_len_le (ps : List Pt) : (normQ ps).length ≤ ps.length := (normQ_sub ps).length_le
def dpt : Pt := (0, 0)
def bendAt (ps : List Pt) (k : Nat) : List Pt := if slopeQ (ps.getD k dpt) (ps.getD (k + 1) dpt) = slopeQ (ps.getD (k + 1) dpt) (ps.getD (k + 2) dpt) then [] else [ps.getD (k + 1) dpt]
def bendsF (ps : List Pt) (i : Nat) : List Pt := (List.range i).flatMap (bendAt ps)
theorem bendsF_succ (ps : List Pt) (i : Nat) : bendsF ps (i + 1) = bendsF ps i ++ bendAt ps i := by
  unfold bendsF
  rw [List.range_succ, List.flatMap_append]
  simp
theorem normT_range : ∀ ps : List Pt, 2 ≤ ps.length → normT ps = bendsF ps (ps.length - 2) ++ [ps.getD (ps.length - 1) dpt]
  | [], h => absurd h (by decide)
  | [p], h => absurd h (by simp)
  | [p, q], _ => rfl
  | p :: q :: r :: rest, _ => by
    have ih := normT_range (q :: r :: rest) (by simp)
    rw [normT, ih]
    unfold bendsF
    rw [show (p :: q :: r :: rest).length - 2 = (q :: r :: rest).length - 2 + 1 by simp, List.range_succ_eq_map, List.flatMap_cons, List.flatMap_map, List.append_assoc]
    congr 1
theorem normQ_range {ps : List Pt} (h : 2 ≤ ps.length) : normQ ps = (ps.getD 0 dpt :: bendsF ps (ps.length - 2)) ++ [ps.getD (ps.length - 1) dpt] := by
  match ps, h with
  | p :: rest, h =>
    show p :: normT (p :: rest) = _
    rw [normT_range _ h]
    rfl
theorem normQ_len {ps : List Pt} (h : 2 ≤ ps.length) : 2 ≤ (normQ ps).length := by
  rw [normQ_range h]
  simp
theorem normQ_first {ps : List Pt} (h : 2 ≤ ps.length) : (normQ ps).getD 0 dpt = ps.getD 0 dpt := by
  rw [normQ_range h]
  rfl
theorem normQ_last {ps : List Pt} (h : 2 ≤ ps.length) : (normQ ps).getD ((normQ ps).length - 1) dpt = ps.getD (ps.length - 1) dpt := by
  rw [normQ_range h]
  simp
/-! ### the walk for a height -/
theorem drop_at {ps : List Pt} {i : Nat} (h : i < ps.length) : ps.drop i = ps.getD i dpt :: ps.drop (i + 1) := by
  rw [List.drop_eq_getElem_cons h, List.getD_eq_getElem?_getD, List.getElem?_eq_getElem h]
  rfl
theorem eval_step {ps : List Pt} {i : Nat} {x : Rat} (h : i + 2 < ps.length) (hx : (ps.getD (i + 1) dpt).1 < x) : evalQ (ps.drop i) x = evalQ (ps.drop (i + 1)) x := by
  rw [drop_at (by omega : i < ps.length), drop_at (by omega : i + 1 < ps.length), drop_at (by omega : i + 1 + 1 < ps.length), evalQ, if_pos hx]
theorem eval_stop {ps : List Pt} {i : Nat} {x : Rat} (h : i + 1 < ps.length) (hx : ¬ (ps.getD (i + 1) dpt).1 < x) : evalQ (ps.drop i) x = heightQ (ps.getD i dpt) (ps.getD (i + 1) dpt) x := by
  rw [drop_at (by omega : i < ps.length), drop_at h]
  cases e : ps.drop (i + 1 + 1) with
  | nil => rfl
  | cons r rest => rw [evalQ, if_neg hx]
/-! ### the least and the greatest -/
theorem norm_ok {ok : Rat → Prop} (hm : ∀ (P p q : Pt), P.1 < p.1 → p.1 < q.1 → slopeQ P p = slopeQ p q → ok P.2 → ok q.2 → ok p.2) : ∀ (rest : List Pt) (P p : Pt), rest ≠ [] → AscQ (p :: rest) → (P = p ∨ (P.1 < p.1 ∧ ∀ q, rest.head? = some q → slopeQ P p = slopeQ p q)) →
    ok P.2 → (∀ q ∈ normT (p :: rest), ok q.2) → ok p.2 ∧ ∀ q ∈ rest, ok q.2
  | [], _, _, h, _, _, _, _ => absurd rfl h
  | [q], P, p, _, asc, st, hP, hn => by
    have pq : p.1 < q.1 := (List.pairwise_cons.mp asc).1 q (List.mem_cons_self ..)
    have hq : ok q.2 := hn q (List.mem_cons_self ..)
    refine ⟨?_, fun z hz => by rw [List.mem_singleton.mp hz]; exact hq⟩
    rcases st with rfl | ⟨h1, h2⟩
    · exact hP
    · exact hm P p q h1 pq (h2 q rfl) hP hq
  | q :: r :: rest, P, p, _, asc, st, hP, hn => by
    have asc' := (List.pairwise_cons.mp asc).2
    have pq : p.1 < q.1 := (List.pairwise_cons.mp asc).1 q (List.mem_cons_self ..)
    have sP : slopeQ P q = slopeQ p q := by
      rcases st with rfl | ⟨h1, h2⟩
      · rfl
      · exact (col h1 pq (h2 q rfl)).1
    have Pq : P.1 < q.1 := by
      rcases st with rfl | ⟨h1, h2⟩
      · exact pq
      · grind
    have fin : ok q.2 ∧ (∀ z ∈ r :: rest, ok z.2) → ok p.2 ∧ ∀ z ∈ q :: r :: rest, ok z.2 := fun ⟨hq, hr⟩ => by
      refine ⟨?_, fun z hz => ?_⟩
      · rcases st with rfl | ⟨h1, h2⟩
        · exact hP
        · exact hm P p q h1 pq (h2 q rfl) hP hq
      · rcases List.mem_cons.mp hz with rfl | hz
        · exact hq
        · exact hr z hz
    rw [normT] at hn
    by_cases c : slopeQ p q = slopeQ q r
    · rw [if_pos c, List.nil_append] at hn
      exact fin (norm_ok hm (r :: rest) P q (by simp) asc' (.inr ⟨Pq, fun s hs => by cases hs; rw [sP, c]⟩) hP hn)
    · rw [if_neg c] at hn
      have hq : ok q.2 := hn q (by simp)
      exact fin (norm_ok hm (r :: rest) q q (by simp) asc' (.inl rfl) hq (fun z hz => hn z (by simp [hz])))
def minF : Rat → List Rat → Rat
  | f, [] => f
  | f, y :: ys => minF (if y < f then y else f) ys
def maxF : Rat → List Rat → Rat
  | f, [] => f
  | f, y :: ys => maxF (if f < y then y else f) ys
theorem minF_le : ∀ (ys : List Rat) (f : Rat), minF f ys ≤ f ∧ ∀ y ∈ ys, minF f ys ≤ y
  | [], f => ⟨Rat.le_refl, fun y hy => nomatch hy⟩
  | z :: ys, f => by
    obtain ⟨h1, h2⟩ := minF_le ys (if z < f then z else f)
    rw [minF]
    refine ⟨?_, fun y hy => ?_⟩
    · split at h1 <;> grind
    · rcases List.mem_cons.mp hy with rfl | hy
      · split at h1 <;> grind
      · exact h2 y hy
theorem minF_mem : ∀ (ys : List Rat) (f : Rat), minF f ys = f ∨ minF f ys ∈ ys
  | [], f => .inl rfl
  | z :: ys, f => by
    rw [minF]
    rcases minF_mem ys (if z < f then z else f) with e | e
    · rw [e]
      split
      · exact .inr (List.mem_cons_self ..)
      · exact .inl rfl
    · exact .inr (List.mem_cons_of_mem _ e)
theorem maxF_le : ∀ (ys : List Rat) (f : Rat), f ≤ maxF f ys ∧ ∀ y ∈ ys, y ≤ maxF f ys
  | [], f => ⟨Rat.le_refl, fun y hy => nomatch hy⟩
  | z :: ys, f => by
    obtain ⟨h1, h2⟩ := maxF_le ys (if f < z then z else f)
    rw [maxF]
    refine ⟨?_, fun y hy => ?_⟩
    · split at h1 <;> grind
    · rcases List.mem_cons.mp hy with rfl | hy
      · split at h1 <;> grind
      · exact h2 y hy
theorem maxF_mem : ∀ (ys : List Rat) (f : Rat), maxF f ys = f ∨ maxF f ys ∈ ys
  | [], f => .inl rfl
  | z :: ys, f => by
    rw [maxF]
    rcases maxF_mem ys (if f < z then z else f) with e | e
    · rw [e]
      split
      · exact .inr (List.mem_cons_self ..)
      · exact .inl rfl
    · exact .inr (List.mem_cons_of_mem _ e)
def leastQ (ps : List Pt) : Rat := minF (ps.getD 0 dpt).2 (ps.map (·.2))
def greatestQ (ps : List Pt) : Rat := maxF (ps.getD 0 dpt).2 (ps.map (·.2))
theorem least_norm {ps : List Pt} (h : 2 ≤ ps.length) (asc : AscQ ps) : leastQ (normQ ps) = leastQ ps := by
  match ps, h, asc with
  | p :: q :: rest, h, asc =>
    have a1 := minF_le (((p :: q :: rest) : List Pt).map (·.2)) p.2
    have a2 := minF_le ((normQ (p :: q :: rest)).map (·.2)) p.2
    show minF p.2 ((normQ (p :: q :: rest)).map (·.2)) = minF p.2 (((p :: q :: rest) : List Pt).map (·.2))
    obtain ⟨o1, o2⟩ := norm_ok (ok := fun y => minF p.2 ((normQ (p :: q :: rest)).map (·.2)) ≤ y) (fun P p q x1 x2 e b1 b2 => (mid x1 x2 e _).1 b1 b2) (q :: rest) p p (by simp) asc (.inl rfl) a2.1
      (fun z hz => a2.2 _ (List.mem_map.mpr ⟨z, List.mem_cons_of_mem _ hz, rfl⟩))
    apply Rat.le_antisymm
    · rcases minF_mem (((p :: q :: rest) : List Pt).map (·.2)) p.2 with e | e
      · rw [e]; exact o1
      · obtain ⟨z, hz, ez⟩ := List.mem_map.mp e
        rw [← ez]
        rcases List.mem_cons.mp hz with rfl | hz
        · exact o1
        · exact o2 z hz
    · rcases minF_mem ((normQ (p :: q :: rest)).map (·.2)) p.2 with e | e
      · rw [e]; exact a1.1
      · obtain ⟨z, hz, ez⟩ := List.mem_map.mp e
        rw [← ez]
        exact a1.2 _ (List.mem_map.mpr ⟨z, (normQ_sub _).subset hz, rfl⟩)
theorem greatest_norm {ps : List Pt} (h : 2 ≤ ps.length) (asc : AscQ ps) : greatestQ (normQ ps) = greatestQ ps := by
  match ps, h, asc with
  | p :: q :: rest, h, asc =>
    have a1 := maxF_le (((p :: q :: rest) : List Pt).map (·.2)) p.2
    have a2 := maxF_le ((normQ (p :: q :: rest)).map (·.2)) p.2
    show maxF p.2 ((normQ (p :: q :: rest)).map (·.2)) = maxF p.2 (((p :: q :: rest) : List Pt).map (·.2))
    obtain ⟨o1, o2⟩ := norm_ok (ok := fun y => y ≤ maxF p.2 ((normQ (p :: q :: rest)).map (·.2))) (fun P p q x1 x2 e b1 b2 => (mid x1 x2 e _).2 b1 b2) (q :: rest) p p (by simp) asc (.inl rfl) a2.1
      (fun z hz => a2.2 _ (List.mem_map.mpr ⟨z, List.mem_cons_of_mem _ hz, rfl⟩))
    apply Rat.le_antisymm
    · rcases maxF_mem ((normQ (p :: q :: rest)).map (·.2)) p.2 with e | e
      · rw [e]; exact a1.1
      · obtain ⟨z, hz, ez⟩ := List.mem_map.mp e
        rw [← ez]
        exact a1.2 _ (List.mem_map.mpr ⟨z, (normQ_sub _).subset hz, rfl⟩)
    · rcases maxF_mem (((p :: q :: rest) : List Pt).map (·.2)) p.2 with e | e
      · rw [e]; exact o1
      · obtain ⟨z, hz, ez⟩ := List.mem_map.mp e
        rw [← ez]
        rcases List.mem_cons.mp hz with rfl | hz
        · exact o1
        · exact o2 z hz
/-! ### lists of values and what they stand for -/
structure All2 {α : Type} (R : V → α → Prop) (vs : List V) (xs : List α) : Prop where
  len : vs.length = xs.length
  at_ : ∀ (i : Nat) (v : V) (x : α), vs[i]? = some v → xs[i]? = some x → R v x
theorem All2.nil {α : Type} {R : V → α → Prop} : All2 R [] [] := ⟨rfl, fun i v x h => by simp at h⟩
theorem All2.imp {α : Type} {R S : V → α → Prop} {vs : List V} {xs : List α} (a : All2 R vs xs) (h : ∀ v x, R v x → S v x) : All2 S vs xs := ⟨a.len, fun i v x h1 h2 => h v x (a.at_ i v x h1 h2)⟩
theorem All2.get {α : Type} {R : V → α → Prop} {vs : List V} {xs : List α} (a : All2 R vs xs) {i : Nat} (d : α) (h : i < xs.length) : ∃ v, vs[i]? = some v ∧ R v (xs.getD i d) := by
  have h' : i < vs.length := by rw [a.len]; exact h
  refine ⟨vs[i], List.getElem?_eq_getElem h', a.at_ i _ _ (List.getElem?_eq_getElem h') ?_⟩
  rw [List.getD_eq_getElem?_getD, List.getElem?_eq_getElem h]
  rfl
theorem All2.snoc {α : Type} {R : V → α → Prop} {vs : List V} {xs : List α} {v : V} {x : α} (a : All2 R vs xs) (h : R v x) : All2 R (vs ++ [v]) (xs ++ [x]) := by
  refine ⟨by rw [List.length_append, List.length_append, a.len]; rfl, fun i u y h1 h2 => ?_⟩
  by_cases c : i < vs.length
  · rw [List.getElem?_append_left c] at h1
    rw [List.getElem?_append_left (by rw [← a.len]; exact c)] at h2
    exact a.at_ i u y h1 h2
  · rw [List.getElem?_append_right (by omega)] at h1
    rw [List.getElem?_append_right (by rw [← a.len]; omega), ← a.len] at h2
    match e : i - vs.length, h1, h2 with
    | 0, h1, h2 =>
      cases h1; cases h2; exact h
    | n + 1, h1, h2 => cases h1
theorem All2.append {α : Type} {R : V → α → Prop} {vs ws : List V} {xs ys : List α} (a : All2 R vs xs) (b : All2 R ws ys) : All2 R (vs ++ ws) (xs ++ ys) := by
  refine ⟨by rw [List.length_append, List.length_append, a.len, b.len], fun i u y h1 h2 => ?_⟩
  by_cases c : i < vs.length
  · rw [List.getElem?_append_left c] at h1
    rw [List.getElem?_append_left (by rw [← a.len]; exact c)] at h2
    exact a.at_ i u y h1 h2
  · rw [List.getElem?_append_right (by omega)] at h1
    rw [List.getElem?_append_right (by rw [← a.len]; omega), ← a.len] at h2
    exact b.at_ _ u y h1 h2
/-- v is the point pt -/
def PAt (H : Hp) (v : V) (pt : Pt) : Prop := ∃ (a : Addr) (x y : V), v = .ref a ∧ H a = some (.tup [x, y]) ∧ QAt H x pt.1 ∧ QAt H y pt.2
theorem PAt.kp {G G' : Hp} {v : V} {pt : Pt} (e : Kp G G') (h : PAt G v pt) : PAt G' v pt := by
  obtain ⟨a, x, y, rfl, h1, h2, h3⟩ := h
  exact ⟨a, x, y, rfl, e.t h1, h2.kp e, h3.kp e⟩
theorem pts_kp {G G' : Hp} {vs : List V} {ps : List Pt} (e : Kp G G') (h : All2 (PAt G) vs ps) : All2 (PAt G') vs ps := h.imp fun _ _ q => q.kp e
theorem qs_kp {G G' : Hp} {vs : List V} {ps : List Rat} (e : Kp G G') (h : All2 (QAt G) vs ps) : All2 (QAt G') vs ps := h.imp fun _ _ q => q.kp e
end Ew
namespace Ew
open PySem PySem.Spec PyProof.Rows L2
theorem pi_or {X : Cx} {tg e : Expr} {w1 w2 : TI} (a : PI X tg e w1) (b : PI X tg e w2) : PI X tg e (fun σ H R => w1 σ H R ∨ w2 σ H R) := ⟨fun pins s σ H R I h => h.elim (a.run pins s σ H R I) (b.run pins s σ H R I)⟩
/-- a list or a tuple -/
def SeqV (K : PySem.W.Frag) (H : Hp) (a : Addr) (vs : List V) : Prop := SqL K H a vs ∨ SqT K H a vs
theorem SeqV.same {K : PySem.W.Frag} {H G : Hp} {a : Addr} {vs : List V} (h : SeqV K H a vs) (e : Same H G) : SeqV K G a vs := h.imp e.seq (seqT e)
theorem ix_any {K : PySem.W.Frag} {H : Hp} {a : Addr} {vs : List V} {i : Int} {v : V} {Q : VK} (h : SeqV K H a vs) (hat : atI vs i = some v) (q : Q v H) : rIx K (.ref a) (.int i) H Q :=
  h.elim (fun h => .inl ⟨a, vs, i, v, rfl, rfl, h, hat, q⟩) (fun h => .inr (.inl ⟨a, vs, i, v, rfl, rfl, h, hat, q⟩))
theorem lenV_any {K : PySem.W.Frag} {H : Hp} {a : Addr} {vs : List V} (h : SeqV K H a vs) : LenV K (.ref a) H vs.length := h.elim (fun h => .inl ⟨vs, h, rfl⟩) (fun h => .inr ⟨vs, h, rfl⟩)
theorem qeqv (r s : Rat) : PyData.eqv (.tuple ([r.num, (r.den : Int)].map PyData.int)) (.tuple ([s.num, (s.den : Int)].map PyData.int)) = decide (r = s) := by
  rw [eqv_tup2, decide_eq_decide]
  constructor
  · intro h
    injection h with h1 h2
    injection h2 with h2 _
    exact Rat.ext h1 (by omega)
  · intro h
    rw [h]
theorem dpQ {K : PySem.W.Frag} {H : Hp} {a : Addr} {r : Rat} (h : H a = some (.tup (qV r))) : Dp K H (.ref a) (.tuple ([r.num, (r.den : Int)].map PyData.int)) := .tup (SqT.of h) (dpInts [_, _])
/-- both numbers of a point are not too long -/
structure PSz (n : Nat) (pt : Pt) : Prop where
  x : Sz n pt.1
  y : Sz n pt.2
def ascB (xs : List Rat) : Bool := (List.range (xs.length - 1)).all fun i => decide (xs.getD i 0 < xs.getD (i + 1) 0)
theorem asc_of : ∀ {ps : List Pt}, (∀ i, i + 1 < ps.length → (ps.getD i dpt).1 < (ps.getD (i + 1) dpt).1) → AscQ ps
  | [], _ => List.Pairwise.nil
  | [p], _ => List.pairwise_singleton _ _
  | p :: q :: rest, h => by
    have ih : AscQ (q :: rest) := asc_of fun i hi => h (i + 1) (by simp only [List.length_cons] at hi ⊢; omega)
    have pq : p.1 < q.1 := h 0 (by simp)
    refine List.pairwise_cons.mpr ⟨fun z hz => ?_, ih⟩
    rcases List.mem_cons.mp hz with rfl | hz
    · exact pq
    · have := (List.pairwise_cons.mp ih).1 z hz
      grind
theorem asc_at {ps : List Pt} (h : AscQ ps) {i j : Nat} (hij : i < j) (hj : j < ps.length) : (ps.getD i dpt).1 < (ps.getD j dpt).1 := by
  rw [List.getD_eq_getElem?_getD, List.getD_eq_getElem?_getD, List.getElem?_eq_getElem hj, List.getElem?_eq_getElem (by omega : i < ps.length)]
  exact List.pairwise_iff_getElem.mp h i j (by omega) hj hij
theorem ascB_iff {ps : List Pt} : ascB (ps.map (·.1)) = true ↔ AscQ ps := by
  unfold ascB
  rw [List.all_eq_true]
  have g : ∀ i, i < ps.length → (ps.map (·.1)).getD i 0 = (ps.getD i dpt).1 := fun i hi => by
    rw [List.getD_eq_getElem?_getD, List.getElem?_map, List.getD_eq_getElem?_getD, List.getElem?_eq_getElem hi]
    rfl
  constructor
  · intro h
    refine asc_of fun i hi => ?_
    have := of_decide_eq_true (h i (List.mem_range.mpr (by rw [List.length_map]; omega)))
    rw [g i (by omega), g (i + 1) hi] at this
    exact this
  · intro h i hi
    have hi := List.mem_range.mp hi
    rw [List.length_map] at hi
    rw [g i (by omega), g (i + 1) (by omega)]
    exact decide_eq_true (asc_at h (by omega) (by omega))
theorem slope_sz {n : Nat} {l r : Pt} (h1 : PSz n l) (h2 : PSz n r) (h : r.1 - l.1 ≠ 0) : Sz (n + n + 1 + (n + n + 1)) (slopeQ l r) := (h2.y.sub h1.y).div (h2.x.sub h1.x) h
theorem height_sz {n m : Nat} {l r : Pt} {x : Rat} (h1 : PSz n l) (h2 : PSz n r) (h : r.1 - l.1 ≠ 0) (hx : Sz m x) : Sz (n + (n + n + 1 + (n + n + 1) + (m + n + 1)) + 1) (heightQ l r x) := h1.y.add ((slope_sz h1 h2 h).mul (hx.sub h1.x))
theorem getD_memP {ps : List Pt} {i : Nat} (h : i < ps.length) : ps.getD i dpt ∈ ps := by
  rw [List.getD_eq_getElem?_getD, List.getElem?_eq_getElem h]
  exact List.getElem_mem h
theorem at_v {vs : List V} {z : Int} {i : Nat} {v : V} (e : z = (i : Int)) (h : vs[i]? = some v) : atI vs z = some v := at_of e h
theorem at_neg {vs : List V} {v : V} (h0 : 0 < vs.length) (h : vs[vs.length - 1]? = some v) : atI vs (-1) = some v := by
  unfold atI ixN
  rw [if_neg (by decide), if_pos (by omega)]
  have e : ((-1 : Int) + (vs.length : Int)).toNat = vs.length - 1 := by omega
  rw [e]
  exact h
end Ew
namespace Ew
open PySem PySem.Spec PyProof.Rows L2
/-! ## an error with one attribute -/
def spInitTag2 (K : PySem.W.Frag) (C : Addr) (t fl : Str) : Sp := fun vs H Q _ => ∃ a v, vs = [.ref a, v] ∧ H a = some (exo a C none) ∧ ∀ dx, H dx = none → dx ≠ a → Q .non (upd (upd H dx (exd dx [(fl, v), ("tag", .str t)])) a (exo a C (some dx)))
theorem upd_swap {H : Hp} {dx a : Addr} {o1 o2 o3 : HO} (ne : dx ≠ a) : upd (upd (upd H dx o1) a o2) dx o3 = upd (upd H dx o3) a o2 := by
  funext c
  by_cases h1 : c = dx
  · subst h1
    rw [upd_same, upd_ne ne, upd_same]
  · by_cases h2 : c = a
    · subst h2
      rw [upd_ne h1, upd_same, upd_same]
    · rw [upd_ne h1, upd_ne h2, upd_ne h1, upd_ne h2, upd_ne h1]
theorem raise_two {H : Hp} {C : Addr} {t fl : Str} {v : V} {E : XK} {K : PySem.W.Frag} (h : ∀ d, H d = none → E (.ref C) (some d) (upd H d (.xd [(fl, v), ("tag", .str t)]))) :
    ([v].length ≤ 1000 ∧ ∀ a, H a = none → spInitTag2 K C t fl (.ref a :: ([v] ++ [])) (upd H a (exo a C none)) (fun u H2 => u = .non ∧ ∃ (d : Addr) (fs : List (Str × V)), H2 a = some (exo a C (some d)) ∧ H2 d = some (exd d fs) ∧ H d = none ∧ E (.ref C) (some d) (upd (del H2 a) d (.xd fs))) (fun _ _ _ => False)) := by
  refine ⟨by show 1 ≤ 1000; decide, fun a ha => ⟨a, v, rfl, upd_same, fun dx hdx ne => ⟨rfl, dx, [(fl, v), ("tag", .str t)], upd_same, ?_, ?_, ?_⟩⟩⟩
  · rw [upd_ne ne, upd_same]
  · rw [upd_ne ne] at hdx
    exact hdx
  · rw [raise_heap ha hdx ne]
    rw [upd_ne ne] at hdx
    exact h dx hdx
theorem raise_one {H : Hp} {C : Addr} {t : Str} {E : XK} {K : PySem.W.Frag} (h : ∀ d, H d = none → E (.ref C) (some d) (upd H d (.xd [("tag", .str t)]))) {σ : L2.St} : tMk0 C (spInitTag K C t) σ H fun cls d H' => E cls d H' := fun a ha => by
  refine ⟨a, rfl, upd_same, fun dx hdx ne => ⟨rfl, dx, [("tag", .str t)], upd_same, ?_, ?_, ?_⟩⟩
  · rw [upd_ne ne, upd_same]
  · rw [upd_ne ne] at hdx
    exact hdx
  · rw [raise_heap ha hdx ne]
    rw [upd_ne ne] at hdx
    exact h dx hdx
/-- a method of the class at C -/
structure MDef (P : Program) (w : World) (K : PySem.W.Frag) (mg : Str → Option Value) (base : Heap) (CX : CXT) (k : Nat) (C : Addr) (m : Str) (f : Addr) (fd : FuncData) (ps : List Str) (sp : Sp) : Prop where
  ok : FnOk P w K mg base CX k f fd ps sp
  h : Meth K C m f
  cl : Cls K C
  b : Binds K fd ps []
/-- a walk along what is a list or a tuple -/
theorem it_seq {K : PySem.W.Frag} {a : Addr} {xs : List V} {i : Nat} {σ : L2.St} {H : Hp} {R : It → Hp → Prop} (hs : σ[i]? = some (some (.ref a))) (h : SeqV K H a xs) (k : ∀ (J : It) (Gd : Hp → Prop), Walk J xs.length Gd (YAt xs) → (∀ G, Same H G → Gd G) → R J H) :
    iList K (tVar i) σ H R ∨ iTup K (tVar i) σ H R := by
  rcases h with h | h
  · exact .inl ⟨_, hs, a, rfl, ⟨xs, h⟩, k _ _ walk_list fun G e => e.seq h⟩
  · exact .inr ⟨_, hs, a, rfl, ⟨xs, h⟩, k _ _ walk_tup fun G e => seqT e h⟩
end Ew
namespace Ew
open PySem PySem.Spec PyProof.Rows L2
theorem div_num {x y : Int} (hy : 0 < y) : (Rat.divInt x y).num * y = x * ((Rat.divInt x y).den : Int) := by
  have := (fr_spec x (b := y) (by omega)).2
  rw [(fr_rat (a := x) (by omega)).1, (fr_rat (a := x) (by omega)).2] at this
  exact this
theorem share_bd {x y : Int} (h0 : 0 ≤ x) (h1 : x ≤ y) (hy : 0 < y) : 0 ≤ Rat.divInt x y ∧ Rat.divInt x y ≤ 1 := by
  have e := div_num (x := x) hy
  have d := (rat_low (Rat.divInt x y)).pos
  constructor
  · rw [Rat.le_iff]
    show (0 : Int) * ((Rat.divInt x y).den : Int) ≤ (Rat.divInt x y).num * 1
    refine le_of_mul (c := y) ?_ hy
    have : 0 ≤ x * ((Rat.divInt x y).den : Int) := Int.mul_nonneg h0 (Int.le_of_lt d)
    grind
  · rw [Rat.le_iff]
    show (Rat.divInt x y).num * 1 ≤ (1 : Int) * ((Rat.divInt x y).den : Int)
    refine le_of_mul (c := y) ?_ hy
    have := Int.mul_le_mul_of_nonneg_right h1 (Int.le_of_lt d)
    grind
theorem share_lt {x y z : Int} (h1 : x < y) (hz : 0 < z) : Rat.divInt x z < Rat.divInt y z := by
  have e := div_num (x := x) hz
  have e2 := div_num (x := y) hz
  have d := (rat_low (Rat.divInt x z)).pos
  have d2 := (rat_low (Rat.divInt y z)).pos
  rw [Rat.lt_iff]
  have p := Int.mul_pos d d2
  have q := Int.mul_lt_mul_of_pos_right h1 p
  have e3 : (Rat.divInt x z).num * ((Rat.divInt y z).den : Int) * z = x * (((Rat.divInt x z).den : Int) * ((Rat.divInt y z).den : Int)) := by grind
  have e4 : (Rat.divInt y z).num * ((Rat.divInt x z).den : Int) * z = y * (((Rat.divInt x z).den : Int) * ((Rat.divInt y z).den : Int)) := by grind
  rw [← e3, ← e4] at q
  exact Int.lt_of_mul_lt_mul_right q (by omega)
theorem share_zero (z : Int) : Rat.divInt 0 z = 0 := Rat.zero_divInt z
theorem share_one {z : Int} (hz : 0 < z) : Rat.divInt z z = 1 := by
  have a := share_bd (x := z) (y := z) (by omega) (Int.le_refl _) hz
  have e := div_num (x := z) hz
  apply Rat.le_antisymm a.2
  rw [Rat.le_iff]
  show (1 : Int) * ((Rat.divInt z z).den : Int) ≤ (Rat.divInt z z).num * 1
  refine le_of_mul (c := z) ?_ hz
  grind
theorem mid_bd {lo hi t : Rat} (h : lo ≤ hi) (t0 : 0 ≤ t) (t1 : t ≤ 1) : lo ≤ lo + t * (hi - lo) ∧ lo + t * (hi - lo) ≤ hi := by
  have a : 0 ≤ hi - lo := by grind
  have b : 0 ≤ 1 - t := by grind
  have c := Rat.mul_nonneg t0 a
  have d := Rat.mul_nonneg b a
  constructor <;> grind
theorem pow_gt {z : Int} {s : Nat} (h : z.natAbs < 2 ^ s) {x : Int} (h0 : 0 ≤ x) (h1 : x ≤ z) : x.natAbs < 2 ^ s := by omega
theorem keep_free {p c : Addr} {H G : Hp} (K : KeepBut p H G) (n : c ≠ p) (h : G c = none) : H c = none := K.free n h
end Ew
namespace Ew
open PySem PySem.Spec PyProof.Rows L2
/-- lo and what is k / m of the way from it -/
def numQ (lo w : Rat) (m : Int) (k : Nat) : Rat := lo + w * Rat.divInt (k : Int) m
theorem numQ_lt {lo w : Rat} {m : Int} (hw : 0 < w) (hm : 0 < m) {j k : Nat} (h : j < k) : numQ lo w m j < numQ lo w m k := by
  have a := share_lt (x := (j : Int)) (y := (k : Int)) (z := m) (by omega) hm
  have b : 0 < Rat.divInt (k : Int) m - Rat.divInt (j : Int) m := by grind
  have c := Rat.mul_pos hw b
  unfold numQ
  grind
theorem numQ_zero (lo w : Rat) (m : Int) : numQ lo w m 0 = lo := by
  unfold numQ
  rw [show ((0 : Nat) : Int) = 0 from rfl, share_zero]
  grind
theorem numQ_one {lo w : Rat} {m : Int} (hm : 0 < m) : numQ lo w m m.toNat = lo + w := by
  unfold numQ
  rw [show ((m.toNat : Nat) : Int) = m by omega, share_one hm]
  grind
theorem numQ_sz {lo w : Rat} {m : Int} {a b s : Nat} {k : Nat} (h1 : Sz a lo) (h2 : Sz b w) (hm : 0 < m) (hs : m.natAbs < 2 ^ s) (hk : (k : Int) ≤ m) : Sz (a + (b + s) + 1) (numQ lo w m k) :=
  h1.add (h2.mul (sz_div (by omega) (by omega) hs))
theorem asc_first {ks : List Nat} (h : ks.Pairwise (· < ·)) (h0 : 0 ∈ ks) : ks.getD 0 0 = 0 := by
  cases ks with
  | nil => rfl
  | cons k rest =>
    show k = 0
    rcases List.mem_cons.mp h0 with e | e
    · exact e.symm
    · have := (List.pairwise_cons.mp h).1 0 e
      omega
theorem asc_last {ks : List Nat} {m : Nat} (h : ks.Pairwise (· < ·)) (hm : m ∈ ks) (hle : ∀ k ∈ ks, k ≤ m) : ks.getD (ks.length - 1) 0 = m := by
  obtain ⟨i, hi, e⟩ := List.getElem_of_mem hm
  have hl : ks.length - 1 < ks.length := by omega
  rw [List.getD_eq_getElem?_getD, List.getElem?_eq_getElem hl]
  show ks[ks.length - 1] = m
  have b := hle _ (List.getElem_mem hl)
  by_cases c : i = ks.length - 1
  · subst c
    exact e
  · have := List.pairwise_iff_getElem.mp h i (ks.length - 1) hi hl (by omega)
    omega
theorem fst_at {ps : List Pt} {f : Nat → Rat} {ks : List Nat} (h : ps.map (·.1) = ks.map f) {i : Nat} (hi : i < ks.length) : (ps.getD i dpt).1 = f (ks.getD i 0) := by
  have hl : ps.length = ks.length := by
    have := congrArg List.length h
    rw [List.length_map, List.length_map] at this
    exact this
  have a := congrArg (fun l : List Rat => l[i]?) h
  simp only [List.getElem?_map] at a
  rw [List.getElem?_eq_getElem (by omega : i < ps.length), List.getElem?_eq_getElem hi] at a
  rw [List.getD_eq_getElem?_getD, List.getElem?_eq_getElem (by omega : i < ps.length), List.getD_eq_getElem?_getD, List.getElem?_eq_getElem hi]
  exact Option.some.inj a
theorem asc_pts {ps : List Pt} {lo w : Rat} {m : Int} {ks : List Nat} (h : ps.map (·.1) = ks.map (numQ lo w m)) (hw : 0 < w) (hm : 0 < m) (ha : ks.Pairwise (· < ·)) : AscQ ps := by
  have hl : ps.length = ks.length := by
    have := congrArg List.length h
    rw [List.length_map, List.length_map] at this
    exact this
  refine asc_of fun i hi => ?_
  rw [fst_at h (by omega), fst_at h (by omega)]
  refine numQ_lt hw hm ?_
  rw [List.getD_eq_getElem?_getD, List.getElem?_eq_getElem (by omega : i < ks.length), List.getD_eq_getElem?_getD, List.getElem?_eq_getElem (by omega : i + 1 < ks.length)]
  exact List.pairwise_iff_getElem.mp ha i (i + 1) (by omega) (by omega) (by omega)
theorem two_mem {ks : List Nat} {m : Nat} (h0 : 0 ∈ ks) (hm : m ∈ ks) (hne : 0 < m) : 2 ≤ ks.length := by
  match ks, h0, hm with
  | [], h0, _ => cases h0
  | [k], h0, hm =>
    have a := List.mem_singleton.mp h0
    have b := List.mem_singleton.mp hm
    omega
  | _ :: _ :: _, _, _ => simp
end Ew
namespace Ew
open PySem PySem.Spec PyProof.Rows L2
theorem same_q {K : PySem.W.Frag} {G : Hp} {n : Nat} {u v : V} {r : Rat} (hu : QAt G u r) (hv : QAt G v r) : SameN K G (n + 2) u v := by
  obtain ⟨a, rfl, ha⟩ := hu
  obtain ⟨b, rfl, hb⟩ := hv
  refine .inr ⟨a, b, _, _, rfl, rfl, .inr ⟨SqT.of ha, SqT.of hb⟩, rfl, by show 2 ≤ 1000; decide, fun i x y hx hy => ?_⟩
  match i, hx, hy with
  | 0, hx, hy => cases hx; cases hy; exact .inl ⟨rfl, rfl⟩
  | 1, hx, hy => cases hx; cases hy; exact .inl ⟨rfl, rfl⟩
  | i + 2, hx, hy => cases hx
theorem same_p {K : PySem.W.Frag} {G : Hp} {n : Nat} {u v : V} {p : Pt} (hu : PAt G u p) (hv : PAt G v p) : SameN K G (n + 3) u v := by
  obtain ⟨a, ax, ay, rfl, ha, hax, hay⟩ := hu
  obtain ⟨b, bx, by', rfl, hb, hbx, hby⟩ := hv
  refine .inr ⟨a, b, _, _, rfl, rfl, .inr ⟨SqT.of ha, SqT.of hb⟩, rfl, by show 2 ≤ 1000; decide, fun i x y hx hy => ?_⟩
  match i, hx, hy with
  | 0, hx, hy => cases hx; cases hy; exact same_q hax hbx
  | 1, hx, hy => cases hx; cases hy; exact same_q hay hby
  | i + 2, hx, hy => cases hx
theorem same_pl {K : PySem.W.Frag} {G : Hp} {n : Nat} {a b : Addr} {us vs : List V} {ps : List Pt} (ha : G a = some (.lst us)) (hb : G b = some (.lst vs)) (hu : All2 (PAt G) us ps) (hv : All2 (PAt G) vs ps) (hl : ps.length ≤ 1000) : SameN K G (n + 4) (.ref a) (.ref b) := by
  refine .inr ⟨a, b, us, vs, rfl, rfl, .inl ⟨SqL.of ha, SqL.of hb⟩, by rw [hu.len, hv.len], by rw [hu.len]; exact hl, fun i x y hx hy => ?_⟩
  have hi : i < ps.length := by rw [← hu.len]; exact (List.getElem?_eq_some_iff.mp hx).1
  have gp : ps[i]? = some (ps.getD i dpt) := by rw [List.getD_eq_getElem?_getD, List.getElem?_eq_getElem hi]; rfl
  exact same_p (hu.at_ i x _ hx gp) (hv.at_ i y _ hy gp)
theorem same_ql {K : PySem.W.Frag} {G : Hp} {n : Nat} {a b : Addr} {us vs : List V} {ps : List Rat} (ha : G a = some (.lst us)) (hb : G b = some (.lst vs)) (hu : All2 (QAt G) us ps) (hv : All2 (QAt G) vs ps) (hl : ps.length ≤ 1000) : SameN K G (n + 3) (.ref a) (.ref b) := by
  refine .inr ⟨a, b, us, vs, rfl, rfl, .inl ⟨SqL.of ha, SqL.of hb⟩, by rw [hu.len, hv.len], by rw [hu.len]; exact hl, fun i x y hx hy => ?_⟩
  have hi : i < ps.length := by rw [← hu.len]; exact (List.getElem?_eq_some_iff.mp hx).1
  have gp : ps[i]? = some (ps.getD i 0) := by rw [List.getD_eq_getElem?_getD, List.getElem?_eq_getElem hi]; rfl
  exact same_q (hu.at_ i x _ hx gp) (hv.at_ i y _ hy gp)
theorem height_alt {l r : Pt} {x : Rat} (h : r.1 - l.1 ≠ 0) : l.2 + ((x - l.1) / (r.1 - l.1)) * (r.2 - l.2) = heightQ l r x := by
  unfold heightQ slopeQ
  grind
theorem PSz.le {n m : Nat} {p : Pt} (h : PSz n p) (hm : n ≤ m) : PSz m p := ⟨h.x.le hm, h.y.le hm⟩
end Ew
namespace Ew
open PySem PySem.Spec PyProof.Rows L2
def Tp (G G' : Hp) : Prop := ∀ c xs, G c = some (.tup xs) → G' c = some (.tup xs)
theorem Kp.tp {G G' : Hp} (e : Kp G G') : Tp G G' := fun _ _ h => e.t h
theorem QAt.tp {G G' : Hp} {v : V} {r : Rat} (e : Tp G G') (h : QAt G v r) : QAt G' v r := by
  obtain ⟨a, rfl, h⟩ := h
  exact ⟨a, rfl, e _ _ h⟩
theorem PAt.tp {G G' : Hp} {v : V} {pt : Pt} (e : Tp G G') (h : PAt G v pt) : PAt G' v pt := by
  obtain ⟨a, x, y, rfl, h1, h2, h3⟩ := h
  exact ⟨a, x, y, rfl, e _ _ h1, h2.tp e, h3.tp e⟩
theorem pts_tp {G G' : Hp} {vs : List V} {ps : List Pt} (e : Tp G G') (h : All2 (PAt G) vs ps) : All2 (PAt G') vs ps := h.imp fun _ _ q => q.tp e
theorem Wd.kp {T : List (Addr × Str)} {p q : Addr} {ns : List Int} {G : Hp} (w : Wd T p q ns G) : ∃ xs, G p = some (.lst xs) := by
  obtain ⟨⟨i, v, sd, R⟩, _⟩ := w
  exact ⟨_, R.at_p⟩
end Ew
namespace Ew
open PySem PySem.Spec PyProof.Rows L2
/-! ## one function has one list of corners -/
def Bent : List Pt → Prop
  | p :: q :: r :: rest => slopeQ p q ≠ slopeQ q r ∧ Bent (q :: r :: rest)
  | _ => True
theorem bent_norm : ∀ (rest : List Pt) (P p q : Pt), AscQ (p :: q :: rest) → (P = p ∨ (P.1 < p.1 ∧ slopeQ P p = slopeQ p q)) →
    ∃ k t, normT (p :: q :: rest) = k :: t ∧ slopeQ P k = slopeQ p q ∧ Bent (P :: k :: t)
  | [], P, p, q, asc, st => by
    have pq : p.1 < q.1 := (List.pairwise_cons.mp asc).1 q (List.mem_cons_self ..)
    refine ⟨q, [], rfl, ?_, trivial⟩
    rcases st with rfl | ⟨h1, h2⟩
    · rfl
    · exact (col h1 pq h2).1
  | r :: rest, P, p, q, asc, st => by
    have asc' := (List.pairwise_cons.mp asc).2
    have pq : p.1 < q.1 := (List.pairwise_cons.mp asc).1 q (List.mem_cons_self ..)
    have sP : slopeQ P q = slopeQ p q := by
      rcases st with rfl | ⟨h1, h2⟩
      · rfl
      · exact (col h1 pq h2).1
    have Pq : P.1 < q.1 := by
      rcases st with rfl | ⟨h1, h2⟩
      · exact pq
      · grind
    by_cases c : slopeQ p q = slopeQ q r
    · obtain ⟨k, t, e, s, b⟩ := bent_norm rest P q r asc' (.inr ⟨Pq, by rw [sP, c]⟩)
      refine ⟨k, t, ?_, by rw [s, c], b⟩
      show (if slopeQ p q = slopeQ q r then [] else [q]) ++ normT (q :: r :: rest) = _
      rw [if_pos c, e]
      rfl
    · obtain ⟨k, t, e, s, b⟩ := bent_norm rest q q r asc' (.inl rfl)
      refine ⟨q, k :: t, ?_, sP, ?_, b⟩
      · show (if slopeQ p q = slopeQ q r then [] else [q]) ++ normT (q :: r :: rest) = _
        rw [if_neg c, e]
        rfl
      · rw [sP, s]
        exact c
theorem bent_normQ {ps : List Pt} (h2 : 2 ≤ ps.length) (asc : AscQ ps) : Bent (normQ ps) := by
  match ps, h2, asc with
  | p :: q :: rest, _, asc =>
    obtain ⟨k, t, e, s, b⟩ := bent_norm rest p p q asc (.inl rfl)
    show Bent (p :: normT (p :: q :: rest))
    rw [e]
    exact b
theorem height_l {p q : Pt} : heightQ p q p.1 = p.2 := by unfold heightQ; grind
theorem height_r {p q : Pt} (h : p.1 < q.1) : heightQ p q q.1 = q.2 := by
  unfold heightQ slopeQ
  have : q.1 - p.1 ≠ 0 := by grind
  grind
theorem eval_lo {p q : Pt} {rest : List Pt} {x : Rat} (h : ¬ q.1 < x) : evalQ (p :: q :: rest) x = heightQ p q x := by
  cases rest with
  | nil => rfl
  | cons r rest => exact if_neg h
theorem eval_hi {p q r : Pt} {rest : List Pt} {x : Rat} (h : q.1 < x) : evalQ (p :: q :: r :: rest) x = evalQ (q :: r :: rest) x := if_pos h
/-- the last point's number -/
def EndsAt (ps : List Pt) (e : Rat) : Prop := ps.getLast?.map (·.1) = some e
theorem EndsAt.tail {p q : Pt} {rest : List Pt} {e : Rat} (h : EndsAt (p :: q :: rest) e) : EndsAt (q :: rest) e := by
  unfold EndsAt at *
  rwa [List.getLast?_cons_cons] at h
theorem EndsAt.one {p : Pt} {e : Rat} (h : EndsAt [p] e) : p.1 = e := by
  unfold EndsAt at h
  simpa using h
theorem EndsAt.le : ∀ {ps : List Pt} {e : Rat}, EndsAt ps e → AscQ ps → ∀ p ∈ ps, p.1 ≤ e
  | [], _, _, _, _, hp => nomatch hp
  | [q], e, h, _, p, hp => by rw [List.mem_singleton.mp hp, h.one]; exact Rat.le_refl
  | q :: r :: rest, e, h, asc, p, hp => by
    have asc' := (List.pairwise_cons.mp asc).2
    rcases List.mem_cons.mp hp with rfl | hp
    · have h1 := (List.pairwise_cons.mp asc).1 r (List.mem_cons_self ..)
      have h2 := EndsAt.le h.tail asc' r (List.mem_cons_self ..)
      grind
    · exact EndsAt.le h.tail asc' p hp
theorem no_short {p q q' : Pt} {ra rb : List Pt} {e : Rat} (a1 : AscQ (p :: q :: ra)) (a2 : AscQ (p :: q' :: rb)) (b2 : Bent (p :: q' :: rb)) (qe : q.1 ≤ e) (e2 : EndsAt (q' :: rb) e)
    (h : ∀ x, p.1 ≤ x → x ≤ e → evalQ (p :: q :: ra) x = evalQ (p :: q' :: rb) x) : ¬ q'.1 < q.1 := by
  intro c
  have pq : p.1 < q.1 := (List.pairwise_cons.mp a1).1 q (List.mem_cons_self ..)
  have pq' : p.1 < q'.1 := (List.pairwise_cons.mp a2).1 q' (List.mem_cons_self ..)
  cases rb with
  | nil =>
    have := e2.one
    grind
  | cons r' rb =>
    have qr' : q'.1 < r'.1 := (List.pairwise_cons.mp (List.pairwise_cons.mp a2).2).1 r' (List.mem_cons_self ..)
    have h1 := h q'.1 (by grind) (by grind)
    rw [eval_lo (by grind), eval_lo (by grind), height_r pq'] at h1
    have hs : slopeQ p q' ≠ slopeQ q' r' := b2.1
    obtain ⟨x, x1, x2, x3⟩ : ∃ x, q'.1 < x ∧ x ≤ r'.1 ∧ x ≤ q.1 := by
      by_cases z : r'.1 ≤ q.1
      · exact ⟨r'.1, qr', Rat.le_refl, z⟩
      · exact ⟨q.1, c, by grind, Rat.le_refl⟩
    have h2 := h x (by grind) (by grind)
    rw [eval_lo (by grind), eval_hi x1, eval_lo (by grind)] at h2
    refine hs ?_
    unfold heightQ at h1 h2
    have s1 : slopeQ p q' = slopeQ p q := by
      show (q'.2 - p.2) / (q'.1 - p.1) = slopeQ p q
      have : q'.1 - p.1 ≠ 0 := by grind
      rw [← h1]
      grind
    have s2 : slopeQ q' r' = slopeQ p q := by
      have : x - q'.1 ≠ 0 := by grind
      have e3 : slopeQ q' r' * (x - q'.1) = slopeQ p q * (x - q'.1) := by rw [← h1] at h2; grind
      grind
    rw [s1, s2]
theorem bent_uniq : ∀ (ra rb : List Pt) (p q q' : Pt) (e : Rat), AscQ (p :: q :: ra) → AscQ (p :: q' :: rb) → Bent (p :: q :: ra) → Bent (p :: q' :: rb) → EndsAt (q :: ra) e → EndsAt (q' :: rb) e →
    (∀ x, p.1 ≤ x → x ≤ e → evalQ (p :: q :: ra) x = evalQ (p :: q' :: rb) x) → q :: ra = q' :: rb
  | ra, rb, p, q, q', e, a1, a2, b1, b2, e1, e2, h => by
    have pq : p.1 < q.1 := (List.pairwise_cons.mp a1).1 q (List.mem_cons_self ..)
    have pq' : p.1 < q'.1 := (List.pairwise_cons.mp a2).1 q' (List.mem_cons_self ..)
    have a1' := (List.pairwise_cons.mp a1).2
    have a2' := (List.pairwise_cons.mp a2).2
    have qe := e1.le a1' q (List.mem_cons_self ..)
    have qe' := e2.le a2' q' (List.mem_cons_self ..)
    have n1 := no_short a1 a2 b2 qe e2 h
    have n2 := no_short a2 a1 b1 qe' e1 (fun x z1 z2 => (h x z1 z2).symm)
    have ex : q.1 = q'.1 := by grind
    have h1 := h q.1 (by grind) qe
    rw [eval_lo (by grind), eval_lo (by grind), height_r pq] at h1
    rw [ex, height_r pq'] at h1
    obtain rfl : q = q' := Prod.ext ex h1
    match hra : ra, rb with
    | [], [] => rfl
    | [], r' :: rb =>
      have z1 := e1.one
      have z2 := e2.le a2' r' (by simp)
      have z3 := (List.pairwise_cons.mp a2').1 r' (List.mem_cons_self ..)
      exact absurd z3 (by grind)
    | r :: ra, [] =>
      have z1 := e2.one
      have z2 := e1.le a1' r (by simp)
      have z3 := (List.pairwise_cons.mp a1').1 r (List.mem_cons_self ..)
      exact absurd z3 (by grind)
    | r :: ra, r' :: rb =>
      have := bent_uniq ra rb q r r' e a1' a2' b1.2 b2.2 e1.tail e2.tail (fun x z1 z2 => by
        by_cases c : q.1 < x
        · have := h x (by grind) z2
          rwa [eval_hi c, eval_hi c] at this
        · have z : x = q.1 := by grind
          have w1 := (List.pairwise_cons.mp a1').1 r (List.mem_cons_self ..)
          have w2 := (List.pairwise_cons.mp a2').1 r' (List.mem_cons_self ..)
          rw [eval_lo (by grind), eval_lo (by grind), z, height_l, height_l])
      rw [this]
termination_by ra => ra.length
decreasing_by all_goals (first | (subst hra; simp) | (simp [hra]) | simp_all)
theorem ends_of {ps : List Pt} (h : 1 ≤ ps.length) : EndsAt ps (ps.getD (ps.length - 1) dpt).1 := by
  unfold EndsAt
  rw [List.getLast?_eq_getElem?, List.getD_eq_getElem?_getD, List.getElem?_eq_getElem (by omega)]
  rfl
/-- two lists of points with the same ends and the same heights have one normal form -/
theorem norm_uniq {a b : List Pt} (h1 : 2 ≤ a.length) (h2 : 2 ≤ b.length) (a1 : AscQ a) (a2 : AscQ b) (f : (a.getD 0 dpt).1 = (b.getD 0 dpt).1) (l : (a.getD (a.length - 1) dpt).1 = (b.getD (b.length - 1) dpt).1)
    (h : ∀ x, (a.getD 0 dpt).1 ≤ x → x ≤ (a.getD (a.length - 1) dpt).1 → evalQ a x = evalQ b x) : normQ a = normQ b := by
  have n1 := normQ_len h1
  have n2 := normQ_len h2
  have c1 := normQ_asc a1
  have c2 := normQ_asc a2
  have b1 := bent_normQ h1 a1
  have b2 := bent_normQ h2 a2
  have e1 : EndsAt (normQ a) (a.getD (a.length - 1) dpt).1 := by
    have := ends_of (ps := normQ a) (by omega)
    rwa [normQ_last h1] at this
  have e2 : EndsAt (normQ b) (a.getD (a.length - 1) dpt).1 := by
    have := ends_of (ps := normQ b) (by omega)
    rwa [normQ_last h2, ← l] at this
  have f1 := normQ_first h1
  have f2 := normQ_first h2
  have hh : ∀ x, (a.getD 0 dpt).1 ≤ x → x ≤ (a.getD (a.length - 1) dpt).1 → evalQ (normQ a) x = evalQ (normQ b) x := fun x z1 z2 => by rw [eval_norm x h1 a1, eval_norm x h2 a2]; exact h x z1 z2
  rw [← f1] at f hh
  rw [← f2] at f
  generalize normQ a = na at *
  generalize normQ b = nb at *
  match na, nb, n1, n2 with
  | p :: q :: ra, p' :: q' :: rb, _, _ =>
    have f : p.1 = p'.1 := f
    have hh : ∀ x, p.1 ≤ x → _ := hh
    have pq : p.1 < q.1 := (List.pairwise_cons.mp c1).1 q (List.mem_cons_self ..)
    have pq' : p'.1 < q'.1 := (List.pairwise_cons.mp c2).1 q' (List.mem_cons_self ..)
    have z := hh p.1 Rat.le_refl (e1.le c1 p (List.mem_cons_self ..))
    rw [eval_lo (by grind), eval_lo (by grind), height_l, f, height_l] at z
    obtain rfl : p = p' := Prod.ext f z
    rw [bent_uniq ra rb p q q' _ c1 c2 b1 b2 e1.tail e2.tail hh]
/-! ## points that lie on a function, with all its corners between -/
theorem height_sub {p q : Pt} {u v x : Rat} (h : u < v) : heightQ p q x = heightQ (u, heightQ p q u) (v, heightQ p q v) x := by
  have : v - u ≠ 0 := by grind
  show heightQ p q x = heightQ p q u + (heightQ p q v - heightQ p q u) / (v - u) * (x - u)
  unfold heightQ
  grind
theorem eval_lin : ∀ (ps : List Pt) (u v x : Rat), 2 ≤ ps.length → AscQ ps → u < v → (∀ p ∈ ps, ¬ (u < p.1 ∧ p.1 < v)) → u ≤ x → x ≤ v → evalQ ps x = heightQ (u, evalQ ps u) (v, evalQ ps v) x
  | [], _, _, _, h, _, _, _, _, _ => nomatch h
  | [_], _, _, _, h, _, _, _, _, _ => absurd h (by simp)
  | [p, q], u, v, x, _, _, uv, _, _, _ => height_sub (p := p) (q := q) uv
  | p :: q :: r :: rest, u, v, x, _, asc, uv, no, h1, h2 => by
    have asc' := (List.pairwise_cons.mp asc).2
    by_cases c : q.1 ≤ u
    · have qr := (List.pairwise_cons.mp asc').1 r (List.mem_cons_self ..)
      have pq := (List.pairwise_cons.mp asc).1 q (List.mem_cons_self ..)
      have ev : ∀ y, u ≤ y → evalQ (p :: q :: r :: rest) y = evalQ (q :: r :: rest) y := fun y hy => by
        by_cases d : q.1 < y
        · exact eval_hi d
        · have z : y = q.1 := by grind
          rw [eval_lo (by grind), eval_lo (by grind), z, height_l, height_r pq]
      rw [ev x h1, ev u Rat.le_refl, ev v (by grind)]
      exact eval_lin (q :: r :: rest) u v x (by simp) asc' uv (fun p hp => no p (List.mem_cons_of_mem _ hp)) h1 h2
    · have qv : v ≤ q.1 := by
        have := no q (by simp)
        grind
      rw [eval_lo (by grind), eval_lo (by grind), eval_lo (by grind)]
      exact height_sub uv
theorem eval_refine : ∀ (A ps : List Pt) (e : Rat), 2 ≤ A.length → AscQ A → 2 ≤ ps.length → AscQ ps → EndsAt A e → (∀ a ∈ A, a.2 = evalQ ps a.1) → (∀ p ∈ ps, (A.getD 0 dpt).1 < p.1 → p.1 < e → p.1 ∈ A.map (·.1)) →
    ∀ x, (A.getD 0 dpt).1 ≤ x → x ≤ e → evalQ A x = evalQ ps x
  | [], _, _, h, _, _, _, _, _, _ => nomatch h
  | [_], _, _, h, _, _, _, _, _, _ => absurd h (by simp)
  | a :: b :: rest, ps, e, _, asc, h2, ascp, he, on, all => by
    intro x x1 x2
    have x1 : a.1 ≤ x := x1
    have ab := (List.pairwise_cons.mp asc).1 b (List.mem_cons_self ..)
    have asc' := (List.pairwise_cons.mp asc).2
    have be := he.tail.le asc' b (List.mem_cons_self ..)
    by_cases c : b.1 < x
    · match rest with
      | [] =>
        have := he.tail.one
        exact absurd c (by grind)
      | r :: rest =>
        rw [eval_hi c]
        refine eval_refine (b :: r :: rest) ps e (by simp) asc' h2 ascp he.tail (fun a' ha => on a' (List.mem_cons_of_mem _ ha)) (fun p hp z1 z2 => ?_) x (by show b.1 ≤ x; grind) x2
        have z1 : b.1 < p.1 := z1
        have := all p hp (by show a.1 < p.1; grind) z2
        rw [List.map_cons, List.mem_cons] at this
        rcases this with w | w
        · exact absurd w (by grind)
        · exact w
    · rw [eval_lo c]
      have l := eval_lin ps a.1 b.1 x h2 ascp ab (fun p hp z => by
        have w := all p hp z.1 (by grind)
        obtain ⟨a', ha', e'⟩ := List.mem_map.mp w
        rcases List.mem_cons.mp ha' with rfl | ha'
        · grind
        · rcases List.mem_cons.mp ha' with rfl | ha'
          · grind
          · have := (List.pairwise_cons.mp asc').1 a' ha'
            grind) x1 (by grind)
      rw [l, ← on a (by simp), ← on b (by simp)]
end Ew
namespace Ew
open PySem PySem.Spec PyProof.Rows L2
/-! ## sizes of heights -/
theorem eval_sz {n m : Nat} {x : Rat} (hx : Sz m x) : ∀ (ps : List Pt), 2 ≤ ps.length → AscQ ps → (∀ p ∈ ps, PSz n p) → Sz (n + (n + n + 1 + (n + n + 1) + (m + n + 1)) + 1) (evalQ ps x)
  | [], h, _, _ => nomatch h
  | [_], h, _, _ => absurd h (by simp)
  | [p, q], _, asc, hz => by
    have pq := (List.pairwise_cons.mp asc).1 q (List.mem_cons_self ..)
    exact height_sz (hz p (by simp)) (hz q (by simp)) (by grind) hx
  | p :: q :: r :: rest, _, asc, hz => by
    have pq := (List.pairwise_cons.mp asc).1 q (List.mem_cons_self ..)
    by_cases c : q.1 < x
    · rw [eval_hi c]
      exact eval_sz hx (q :: r :: rest) (by simp) (List.pairwise_cons.mp asc).2 (fun p hp => hz p (List.mem_cons_of_mem _ hp))
    · rw [eval_lo c]
      exact height_sz (hz p (by simp)) (hz q (by simp)) (by grind) hx
/-! ## a function times a number -/
def scaleQ (c : Rat) (ps : List Pt) : List Pt := ps.map fun p => (p.1, c * p.2)
theorem height_scale {c x : Rat} {p q : Pt} (h : p.1 < q.1) : heightQ (p.1, c * p.2) (q.1, c * q.2) x = c * heightQ p q x := by
  have : q.1 - p.1 ≠ 0 := by grind
  show c * p.2 + (c * q.2 - c * p.2) / (q.1 - p.1) * (x - p.1) = c * (p.2 + (q.2 - p.2) / (q.1 - p.1) * (x - p.1))
  grind
theorem eval_scale {c x : Rat} : ∀ (ps : List Pt), 2 ≤ ps.length → AscQ ps → evalQ (scaleQ c ps) x = c * evalQ ps x
  | [], h, _ => nomatch h
  | [_], h, _ => absurd h (by simp)
  | [p, q], _, asc => height_scale ((List.pairwise_cons.mp asc).1 q (List.mem_cons_self ..))
  | p :: q :: r :: rest, _, asc => by
    have pq := (List.pairwise_cons.mp asc).1 q (List.mem_cons_self ..)
    by_cases d : q.1 < x
    · rw [eval_hi d]
      show evalQ ((p.1, c * p.2) :: (q.1, c * q.2) :: (r.1, c * r.2) :: scaleQ c rest) x = _
      rw [eval_hi (q := (q.1, c * q.2)) d]
      exact eval_scale (q :: r :: rest) (by simp) (List.pairwise_cons.mp asc).2
    · rw [eval_lo d]
      show evalQ ((p.1, c * p.2) :: (q.1, c * q.2) :: (r.1, c * r.2) :: scaleQ c rest) x = _
      rw [eval_lo (q := (q.1, c * q.2)) d]
      exact height_scale pq
theorem scale_asc {c : Rat} {ps : List Pt} (h : AscQ ps) : AscQ (scaleQ c ps) := by
  unfold scaleQ AscQ
  rw [List.pairwise_map]
  exact h
theorem scale_len (c : Rat) (ps : List Pt) : (scaleQ c ps).length = ps.length := List.length_map ..
theorem scale_at {c : Rat} {ps : List Pt} {i : Nat} (h : i < ps.length) : ((scaleQ c ps).getD i dpt).1 = (ps.getD i dpt).1 := by
  unfold scaleQ
  rw [List.getD_eq_getElem?_getD, List.getElem?_map, List.getElem?_eq_getElem h, List.getD_eq_getElem?_getD, List.getElem?_eq_getElem h]
  rfl
theorem scale_norm {c : Rat} {ps : List Pt} (h2 : 2 ≤ ps.length) (asc : AscQ ps) : normQ (scaleQ c (normQ ps)) = normQ (scaleQ c ps) := by
  have n2 := normQ_len h2
  have na := normQ_asc asc
  refine norm_uniq (by rw [scale_len]; exact n2) (by rw [scale_len]; exact h2) (scale_asc na) (scale_asc asc) ?_ ?_ fun x _ _ => ?_
  · rw [scale_at (by omega), scale_at (by omega), normQ_first h2]
  · rw [scale_len, scale_len, scale_at (by omega), scale_at (by omega), normQ_last h2]
  · rw [eval_scale _ n2 na, eval_scale _ h2 asc, eval_norm x h2 asc]
/-! ## a part of a function -/
def cutQ (ps : List Pt) (lo hi : Rat) : List Pt := (lo, evalQ ps lo) :: (ps.filter (fun p => decide (lo < p.1) && decide (p.1 < hi)) ++ [(hi, evalQ ps hi)])
theorem cut_len (ps : List Pt) (lo hi : Rat) : 2 ≤ (cutQ ps lo hi).length ∧ (cutQ ps lo hi).length ≤ ps.length + 2 := by
  have fl := (List.filter_sublist (p := fun p : Pt => decide (lo < p.1) && decide (p.1 < hi)) (l := ps)).length_le
  unfold cutQ
  simp only [List.length_cons, List.length_append, List.length_nil]
  omega
theorem cut_in {ps : List Pt} {lo hi : Rat} {p : Pt} (h : p ∈ ps.filter (fun p => decide (lo < p.1) && decide (p.1 < hi))) : p ∈ ps ∧ lo < p.1 ∧ p.1 < hi := by
  have := List.mem_filter.mp h
  simpa using this
theorem cut_asc {ps : List Pt} {lo hi : Rat} (asc : AscQ ps) (h : lo < hi) : AscQ (cutQ ps lo hi) := by
  refine List.pairwise_cons.mpr ⟨fun p hp => ?_, List.pairwise_append.mpr ⟨asc.sublist List.filter_sublist, List.pairwise_singleton .., fun p hp q hq => ?_⟩⟩
  · rcases List.mem_append.mp hp with z | z
    · exact (cut_in z).2.1
    · rw [List.mem_singleton.mp z]
      exact h
  · rw [List.mem_singleton.mp hq]
    exact (cut_in hp).2.2
theorem cut_first (ps : List Pt) (lo hi : Rat) : ((cutQ ps lo hi).getD 0 dpt).1 = lo := rfl
theorem cut_ends (ps : List Pt) (lo hi : Rat) : EndsAt (cutQ ps lo hi) hi := by
  unfold EndsAt cutQ
  rw [← List.cons_append, List.getLast?_concat]
  rfl
theorem cut_last (ps : List Pt) (lo hi : Rat) : ((cutQ ps lo hi).getD ((cutQ ps lo hi).length - 1) dpt).1 = hi := by
  have h1 := ends_of (ps := cutQ ps lo hi) (by have := cut_len ps lo hi; omega)
  have h2 := cut_ends ps lo hi
  unfold EndsAt at h1 h2
  rw [h1] at h2
  injection h2
theorem eval_at {ps : List Pt} (h2 : 2 ≤ ps.length) (asc : AscQ ps) : ∀ p ∈ ps, p.2 = evalQ ps p.1 := by
  match ps, h2, asc with
  | [p, q], _, asc =>
    intro a ha
    have pq := (List.pairwise_cons.mp asc).1 q (List.mem_cons_self ..)
    rcases List.mem_cons.mp ha with rfl | ha
    · exact height_l.symm
    · rw [List.mem_singleton.mp ha]
      exact (height_r pq).symm
  | p :: q :: r :: rest, _, asc =>
    intro a ha
    have pq := (List.pairwise_cons.mp asc).1 q (List.mem_cons_self ..)
    have asc' := (List.pairwise_cons.mp asc).2
    rcases List.mem_cons.mp ha with rfl | ha
    · rw [eval_lo (by grind), height_l]
    · by_cases c : q.1 < a.1
      · rw [eval_hi c]
        exact eval_at (by simp) asc' a ha
      · have : a = q := by
          rcases List.mem_cons.mp ha with rfl | ha
          · rfl
          · exact absurd ((List.pairwise_cons.mp asc').1 a ha) c
        rw [this, eval_lo (by grind), height_r pq]
theorem cut_on {ps : List Pt} {lo hi : Rat} (h2 : 2 ≤ ps.length) (asc : AscQ ps) : ∀ a ∈ cutQ ps lo hi, a.2 = evalQ ps a.1 := by
  intro a ha
  rcases List.mem_cons.mp ha with rfl | ha
  · rfl
  · rcases List.mem_append.mp ha with z | z
    · exact eval_at h2 asc a (cut_in z).1
    · rw [List.mem_singleton.mp z]
theorem eval_cut {ps : List Pt} {lo hi x : Rat} (h2 : 2 ≤ ps.length) (asc : AscQ ps) (h : lo < hi) (x1 : lo ≤ x) (x2 : x ≤ hi) : evalQ (cutQ ps lo hi) x = evalQ ps x := by
  refine eval_refine (cutQ ps lo hi) ps hi (cut_len ps lo hi).1 (cut_asc asc h) h2 asc (cut_ends ps lo hi) (cut_on h2 asc) (fun p hp z1 z2 => ?_) x x1 x2
  have z1 : lo < p.1 := z1
  refine List.mem_map.mpr ⟨p, List.mem_cons_of_mem _ (List.mem_append.mpr (.inl (List.mem_filter.mpr ⟨hp, ?_⟩))), rfl⟩
  simp [z1, z2]
theorem cut_norm {ps : List Pt} {lo hi : Rat} (h2 : 2 ≤ ps.length) (asc : AscQ ps) (h : lo < hi) : normQ (cutQ (normQ ps) lo hi) = normQ (cutQ ps lo hi) := by
  have n2 := normQ_len h2
  have na := normQ_asc asc
  refine norm_uniq (cut_len _ lo hi).1 (cut_len _ lo hi).1 (cut_asc na h) (cut_asc asc h) rfl (by rw [cut_last, cut_last]) fun x x1 x2 => ?_
  rw [cut_first] at x1
  rw [cut_last] at x2
  rw [eval_cut n2 na h x1 x2, eval_cut h2 asc h x1 x2, eval_norm x h2 asc]
end Ew
namespace Ew
open PySem PySem.Spec PyProof.Rows L2
/-! ## points as data -/
def ratD (r : Rat) : PyData := .tuple ([r.num, (r.den : Int)].map PyData.int)
def ptD (p : Pt) : PyData := .tuple [ratD p.1, ratD p.2]
theorem dpP {K : PySem.W.Frag} {H : Hp} {v : V} {p : Pt} (h : PAt H v p) : Dp K H v (ptD p) := by
  obtain ⟨a, ax, ay, rfl, ha, ⟨b, rfl, hb⟩, ⟨c, rfl, hc⟩⟩ := h
  exact .tup (SqT.of ha) (.cons (dpQ hb) (.cons (dpQ hc) .nil))
theorem dpPts {K : PySem.W.Frag} {H : Hp} : ∀ {ws : List V} {ps : List Pt}, All2 (PAt H) ws ps → DpAll K H ws (ps.map ptD)
  | [], [], _ => .nil
  | [], _ :: _, h => absurd h.len (by simp)
  | _ :: _, [], h => absurd h.len (by simp)
  | w :: ws, p :: ps, h => .cons (dpP (h.at_ 0 w p rfl rfl)) (dpPts ⟨by have := h.len; simpa using this, fun i v x hv hx => h.at_ (i + 1) v x (by simpa using hv) (by simpa using hx)⟩)
theorem eqvP (p q : Pt) : PyData.eqv (ptD p) (ptD q) = decide (p = q) := by
  have e : PyData.eqv (ptD p) (ptD q) = (PyData.eqv (ratD p.1) (ratD q.1) && (PyData.eqv (ratD p.2) (ratD q.2) && true)) := by
    unfold ptD
    simp only [PyData.eqv, PyData.eqvAll]
  rw [e]
  unfold ratD
  rw [qeqv, qeqv]
  by_cases c : p = q
  · subst c
    simp
  · rw [decide_eq_false c]
    by_cases c1 : p.1 = q.1
    · have c2 : p.2 ≠ q.2 := fun z => c (Prod.ext c1 z)
      simp [c1, c2]
    · simp [c1]
theorem eqvPtsAll : ∀ (ps qs : List Pt), PyData.eqvAll (ps.map ptD) (qs.map ptD) = decide (ps = qs)
  | [], [] => by simp [PyData.eqvAll]
  | [], _ :: _ => by simp [PyData.eqvAll]
  | _ :: _, [] => by simp [PyData.eqvAll]
  | p :: ps, q :: qs => by
    rw [List.map_cons, List.map_cons]
    simp only [PyData.eqvAll]
    rw [eqvP, eqvPtsAll ps qs]
    by_cases c : p = q
    · by_cases d : ps = qs
      · simp [c, d]
      · simp [c, d]
    · simp [c]
theorem eqvPts (ps qs : List Pt) : PyData.eqv (.tuple (ps.map ptD)) (.tuple (qs.map ptD)) = decide (ps = qs) := by
  rw [← eqvPtsAll ps qs]
  simp only [PyData.eqv]
theorem ratD_lay (r : Rat) : (ratD r).canLay0 = true ∧ (ratD r).depth ≤ 2 := by
  unfold ratD
  constructor
  · simp [PyData.canLay0, PyData.canLayAll0]
  · simp [PyData.depth, PyData.depthAll]
theorem ptD_lay (p : Pt) : (ptD p).canLay0 = true ∧ (ptD p).depth ≤ 3 := by
  have h1 := ratD_lay p.1
  have h2 := ratD_lay p.2
  unfold ptD
  constructor
  · simp [PyData.canLay0, PyData.canLayAll0, h1.1, h2.1]
  · simp only [PyData.depth, PyData.depthAll]
    omega
theorem ptsD_lay : ∀ (ps : List Pt), PyData.canLayAll0 (ps.map ptD) = true ∧ PyData.depthAll (ps.map ptD) ≤ 3
  | [] => ⟨by simp [PyData.canLayAll0], by simp [PyData.depthAll]⟩
  | p :: ps => by
    have h1 := ptD_lay p
    have h2 := ptsD_lay ps
    rw [List.map_cons]
    constructor
    · simp [PyData.canLayAll0, h1.1, h2.1]
    · simp only [PyData.depthAll]
      omega
theorem shapedPts (ps : List Pt) : SeqAt.shaped (.tuple (ps.map ptD)) = true := by
  have h := ptsD_lay ps
  unfold SeqAt.shaped
  have h1 : (PyData.tuple (ps.map ptD)).canLay0 = true := by simp [PyData.canLay0, h.1]
  have h2 : (PyData.tuple (ps.map ptD)).depth ≤ 64 := by
    simp only [PyData.depth]
    omega
  rw [h1, decide_eq_true h2]
  rfl
/-! ## slices -/
theorem cut_to (xs : List V) (k : Nat) : cutV xs none (some (k : Int)) = xs.take k := by
  unfold cutV
  rw [HT.sIx_nat, HT.sIx_none]
  by_cases c : k ≤ xs.length
  · rw [Nat.min_eq_left c]
    simp
  · rw [Nat.min_eq_right (by omega), List.take_of_length_le (by omega : xs.length ≤ k)]
    simp
theorem cut_from (xs : List V) (k : Nat) : cutV xs (some (k : Int)) none = xs.drop k := by
  unfold cutV
  rw [HT.sIx_nat, HT.sIx_none]
  by_cases c : k ≤ xs.length
  · rw [Nat.min_eq_left c, List.take_of_length_le (by rw [List.length_drop]; omega)]
  · rw [Nat.min_eq_right (by omega), List.drop_of_length_le (by omega : xs.length ≤ k)]
    simp
theorem cut_init (xs : List V) : cutV xs none (some (-1)) = xs.take (xs.length - 1) := by
  unfold cutV
  rw [HT.sIx_none]
  show (xs.drop 0).take ((-1 + (xs.length : Int)).toNat - 0) = _
  rw [show (-1 + (xs.length : Int)).toNat = xs.length - 1 by omega]
  rfl
section
variable {α : Type} {R : V → α → Prop} {vs : List V} {xs : List α}
theorem All2.take (a : All2 R vs xs) (k : Nat) : All2 R (vs.take k) (xs.take k) := by
  refine ⟨by rw [List.length_take, List.length_take, a.len], fun i v x hv hx => ?_⟩
  rw [List.getElem?_take] at hv hx
  split at hv
  · next h => rw [if_pos h] at hx; exact a.at_ i v x hv hx
  · cases hv
theorem All2.drop (a : All2 R vs xs) (k : Nat) : All2 R (vs.drop k) (xs.drop k) := by
  refine ⟨by rw [List.length_drop, List.length_drop, a.len], fun i v x hv hx => ?_⟩
  rw [List.getElem?_drop] at hv hx
  exact a.at_ (k + i) v x hv hx
theorem All2.rev (a : All2 R vs xs) : All2 R vs.reverse xs.reverse := by
  refine ⟨by rw [List.length_reverse, List.length_reverse, a.len], fun i v x hv hx => ?_⟩
  have hi : i < vs.length := by
    have := (List.getElem?_eq_some_iff.mp hv).1
    rwa [List.length_reverse] at this
  rw [List.getElem?_reverse hi] at hv
  rw [List.getElem?_reverse (by rw [← a.len]; exact hi), ← a.len] at hx
  exact a.at_ _ v x hv hx
end
/-! ## lists of points that do not ascend -/
theorem rev_bad {ps : List Pt} (h2 : 2 ≤ ps.length) (asc : AscQ ps) : ¬ AscQ ps.reverse := by
  intro z
  have z := List.pairwise_reverse.mp z
  match ps, h2 with
  | p :: q :: rest, _ =>
    have h1 := (List.pairwise_cons.mp asc).1 q (List.mem_cons_self ..)
    have h2 := (List.pairwise_cons.mp z).1 q (List.mem_cons_self ..)
    grind
theorem dup_bad {ps : List Pt} {k : Nat} (h : k < ps.length) : ¬ AscQ (ps.take (k + 1) ++ ps.drop k) := by
  intro z
  have w := (List.pairwise_append.mp z).2.2 (ps[k]) (by
    rw [List.take_add_one, List.getElem?_eq_getElem h]
    exact List.mem_append.mpr (.inr (List.mem_cons_self ..))) (ps[k]) (by
    rw [List.drop_eq_getElem_cons h]
    exact List.mem_cons_self ..)
  grind
/-! ## the least and the greatest number of ascending points -/
theorem first_le {ps : List Pt} (asc : AscQ ps) {p : Pt} (h : p ∈ ps) : (ps.getD 0 dpt).1 ≤ p.1 := by
  match ps with
  | a :: rest =>
    show a.1 ≤ p.1
    rcases List.mem_cons.mp h with rfl | h
    · exact Rat.le_refl
    · have := (List.pairwise_cons.mp asc).1 p h
      grind
theorem le_last {ps : List Pt} (asc : AscQ ps) {p : Pt} (h : p ∈ ps) : p.1 ≤ (ps.getD (ps.length - 1) dpt).1 :=
  (ends_of (ps := ps) (List.length_pos_of_mem h)).le asc p h
theorem asc_min {A : List Pt} (asc : AscQ A) {e : Rat} (h1 : ∃ a ∈ A, a.1 = e) (h2 : ∀ a ∈ A, e ≤ a.1) : (A.getD 0 dpt).1 = e := by
  obtain ⟨a, ha, rfl⟩ := h1
  have l := List.length_pos_of_mem ha
  have z1 := first_le asc ha
  have z2 := h2 _ (getD_memP (i := 0) l)
  grind
theorem asc_max {A : List Pt} (asc : AscQ A) {e : Rat} (h1 : ∃ a ∈ A, a.1 = e) (h2 : ∀ a ∈ A, a.1 ≤ e) : (A.getD (A.length - 1) dpt).1 = e := by
  obtain ⟨a, ha, rfl⟩ := h1
  have l := List.length_pos_of_mem ha
  have z1 := le_last asc ha
  have z2 := h2 _ (getD_memP (i := A.length - 1) (by omega))
  grind
/-! ## one point more on a function -/
def twinQ (ps : List Pt) (m : Rat) : List Pt := ps.filter (fun p => decide (p.1 < m)) ++ [(m, evalQ ps m)] ++ ps.filter (fun p => decide (m < p.1))
theorem twin_mem {ps : List Pt} {m : Rat} {p : Pt} : p ∈ twinQ ps m ↔ (p ∈ ps ∧ p.1 < m) ∨ p = (m, evalQ ps m) ∨ (p ∈ ps ∧ m < p.1) := by
  unfold twinQ
  simp only [List.mem_append, List.mem_filter, List.mem_singleton, decide_eq_true_eq, or_assoc]
theorem twin_asc {ps : List Pt} {m : Rat} (asc : AscQ ps) : AscQ (twinQ ps m) := by
  unfold twinQ
  refine List.pairwise_append.mpr ⟨List.pairwise_append.mpr ⟨asc.sublist List.filter_sublist, List.pairwise_singleton .., fun p hp q hq => ?_⟩, asc.sublist List.filter_sublist, fun p hp q hq => ?_⟩
  · rw [List.mem_singleton.mp hq]
    exact of_decide_eq_true (List.mem_filter.mp hp).2
  · have z := of_decide_eq_true (List.mem_filter.mp hq).2
    rcases List.mem_append.mp hp with w | w
    · have := of_decide_eq_true (List.mem_filter.mp w).2
      grind
    · rw [List.mem_singleton.mp w]
      exact z
theorem twin_len (ps : List Pt) (m : Rat) : (twinQ ps m).length ≤ ps.length + 1 + ps.length := by
  have f1 := (List.filter_sublist (p := fun p : Pt => decide (p.1 < m)) (l := ps)).length_le
  have f2 := (List.filter_sublist (p := fun p : Pt => decide (m < p.1)) (l := ps)).length_le
  unfold twinQ
  simp only [List.length_append, List.length_cons, List.length_nil]
  omega
section
variable {ps : List Pt} {m : Rat} (h2 : 2 ≤ ps.length) (asc : AscQ ps) (lo : (ps.getD 0 dpt).1 ≤ m) (hi : m ≤ (ps.getD (ps.length - 1) dpt).1)
include h2 asc lo hi
theorem twin_first : ((twinQ ps m).getD 0 dpt).1 = (ps.getD 0 dpt).1 := by
  refine asc_min (twin_asc asc) ?_ fun a ha => ?_
  · by_cases c : (ps.getD 0 dpt).1 < m
    · exact ⟨_, twin_mem.mpr (.inl ⟨getD_memP (by omega), c⟩), rfl⟩
    · exact ⟨_, twin_mem.mpr (.inr (.inl rfl)), by show m = _; grind⟩
  · rcases twin_mem.mp ha with z | rfl | z
    · exact first_le asc z.1
    · exact lo
    · exact first_le asc z.1
theorem twin_last : ((twinQ ps m).getD ((twinQ ps m).length - 1) dpt).1 = (ps.getD (ps.length - 1) dpt).1 := by
  refine asc_max (twin_asc asc) ?_ fun a ha => ?_
  · by_cases c : m < (ps.getD (ps.length - 1) dpt).1
    · exact ⟨_, twin_mem.mpr (.inr (.inr ⟨getD_memP (by omega), c⟩)), rfl⟩
    · exact ⟨_, twin_mem.mpr (.inr (.inl rfl)), by show m = _; grind⟩
  · rcases twin_mem.mp ha with z | rfl | z
    · exact le_last asc z.1
    · exact hi
    · exact le_last asc z.1
theorem twin_two : 2 ≤ (twinQ ps m).length := by
  have f := twin_first h2 asc lo hi
  have l := twin_last h2 asc lo hi
  have lt := asc_at asc (i := 0) (j := ps.length - 1) (by omega) (by omega)
  have p1 : 0 < (twinQ ps m).length := List.length_pos_of_mem (twin_mem.mpr (.inr (.inl rfl)))
  rcases Nat.lt_or_ge (twinQ ps m).length 2 with c | c
  · rw [show (twinQ ps m).length - 1 = 0 by omega, f] at l
    grind
  · exact c
theorem twin_norm : normQ (twinQ ps m) = normQ ps := by
  have t2 := twin_two h2 asc lo hi
  have f := twin_first h2 asc lo hi
  have l := twin_last h2 asc lo hi
  have ee := ends_of (ps := twinQ ps m) (by omega)
  refine norm_uniq t2 h2 (twin_asc asc) asc f l fun x x1 x2 => ?_
  refine eval_refine (twinQ ps m) ps _ t2 (twin_asc asc) h2 asc ee (fun a ha => ?_) (fun p hp _ _ => ?_) x x1 x2
  · rcases twin_mem.mp ha with z | rfl | z
    · exact eval_at h2 asc a z.1
    · rfl
    · exact eval_at h2 asc a z.1
  · rcases (by grind : p.1 < m ∨ p.1 = m ∨ m < p.1) with c | c | c
    · exact List.mem_map.mpr ⟨p, twin_mem.mpr (.inl ⟨hp, c⟩), rfl⟩
    · exact List.mem_map.mpr ⟨(m, evalQ ps m), twin_mem.mpr (.inr (.inl rfl)), c.symm⟩
    · exact List.mem_map.mpr ⟨p, twin_mem.mpr (.inr (.inr ⟨hp, c⟩)), rfl⟩
end
/-! ## another last height -/
def bentQ (ps : List Pt) (d : Rat) : List Pt := ps.take (ps.length - 1) ++ [((ps.getD (ps.length - 1) dpt).1, (ps.getD (ps.length - 1) dpt).2 + d)]
theorem bent_len {ps : List Pt} {d : Rat} (h : 1 ≤ ps.length) : (bentQ ps d).length = ps.length := by
  unfold bentQ
  rw [List.length_append, List.length_take]
  simp only [List.length_cons, List.length_nil]
  omega
theorem bent_last {ps : List Pt} {d : Rat} (h : 1 ≤ ps.length) : (bentQ ps d).getD ((bentQ ps d).length - 1) dpt = ((ps.getD (ps.length - 1) dpt).1, (ps.getD (ps.length - 1) dpt).2 + d) := by
  rw [bent_len h]
  unfold bentQ
  rw [List.getD_eq_getElem?_getD, List.getElem?_append_right (by rw [List.length_take]; omega), List.length_take, show ps.length - 1 - min (ps.length - 1) ps.length = 0 by omega]
  rfl
theorem bent_asc {ps : List Pt} {d : Rat} (h : 1 ≤ ps.length) (asc : AscQ ps) : AscQ (bentQ ps d) := by
  unfold bentQ
  refine List.pairwise_append.mpr ⟨asc.sublist (List.take_sublist ..), List.pairwise_singleton .., fun p hp q hq => ?_⟩
  rw [List.mem_singleton.mp hq]
  obtain ⟨i, hi, rfl⟩ := List.getElem_of_mem hp
  have hi' : i < ps.length - 1 := by rw [List.length_take] at hi; omega
  have z := asc_at asc (i := i) (j := ps.length - 1) hi' (by omega)
  rw [List.getElem_take]
  rw [List.getD_eq_getElem?_getD, List.getElem?_eq_getElem (by omega : i < ps.length)] at z
  exact z
theorem bent_ne {ps : List Pt} {d : Rat} (h2 : 2 ≤ ps.length) (hd : d ≠ 0) : normQ (bentQ ps d) ≠ normQ ps := by
  intro z
  have a := normQ_last (ps := bentQ ps d) (by rw [bent_len (by omega)]; exact h2)
  have b := normQ_last h2
  rw [z, b, bent_last (by omega)] at a
  have := congrArg Prod.snd a
  have : (ps.getD (ps.length - 1) dpt).2 = (ps.getD (ps.length - 1) dpt).2 + d := this
  grind
theorem bent_in {ps : List Pt} {d : Rat} {p : Pt} (h : p ∈ bentQ ps d) : p ∈ ps ∨ p = ((ps.getD (ps.length - 1) dpt).1, (ps.getD (ps.length - 1) dpt).2 + d) := by
  rcases List.mem_append.mp h with z | z
  · exact .inl ((List.take_sublist ..).subset z)
  · exact .inr (List.mem_singleton.mp z)
/-! ## up and down -/
def zzQ (n : Nat) : List Pt := (List.range n).map fun (i : Nat) => (((i : Int) : Rat), (((i : Int) % 2 : Int) : Rat))
theorem zz_asc13 : AscQ (zzQ 13) := by decide +kernel
theorem zz_asc14 : AscQ (zzQ 14) := by decide +kernel
theorem zz_len13 : (normQ (zzQ 13)).length = 13 := by decide +kernel
theorem zz_len14 : (normQ (zzQ 14)).length = 14 := by decide +kernel
theorem qV_int (i : Int) : qV (i : Rat) = [.int i, .int 1] := rfl
end Ew
namespace Ew
open PySem PySem.Spec PyProof.Rows L2
/-! ## points on any function that is straight between them -/
def Lin (g : Rat → Rat) (u v : Rat) : Prop := ∀ x, u ≤ x → x ≤ v → g x = heightQ (u, g u) (v, g v) x
def onQ (g : Rat → Rat) (xs : List Rat) : List Pt := xs.map fun x => (x, g x)
theorem on_asc {g : Rat → Rat} {xs : List Rat} (h : xs.Pairwise (· < ·)) : AscQ (onQ g xs) := by
  unfold onQ AscQ
  rw [List.pairwise_map]
  exact h
theorem on_len (g : Rat → Rat) (xs : List Rat) : (onQ g xs).length = xs.length := List.length_map ..
theorem eval_glue {g : Rat → Rat} : ∀ (xs : List Rat) (e x : Rat), 2 ≤ xs.length → xs.Pairwise (· < ·) → (∀ u v, u ∈ xs → v ∈ xs → u < v → (∀ z ∈ xs, ¬ (u < z ∧ z < v)) → Lin g u v) → xs.getLast? = some e → xs.headD 0 ≤ x → x ≤ e → evalQ (onQ g xs) x = g x
  | [], _, _, h, _, _, _, _, _ => nomatch h
  | [_], _, _, h, _, _, _, _, _ => absurd h (by simp)
  | [u, v], e, x, _, asc, lin, he, h1, h2 => by
    have uv := (List.pairwise_cons.mp asc).1 v (List.mem_cons_self ..)
    have ev : v = e := by simpa using he
    subst ev
    exact (lin u v (by simp) (by simp) uv (fun z hz => by
      rcases List.mem_cons.mp hz with rfl | hz
      · grind
      · rw [List.mem_singleton.mp hz]; grind) x h1 h2).symm
  | u :: v :: w :: r, e, x, _, asc, lin, he, h1, h2 => by
    have asc' := (List.pairwise_cons.mp asc).2
    have uv := (List.pairwise_cons.mp asc).1 v (List.mem_cons_self ..)
    show evalQ ((u, g u) :: (v, g v) :: (w, g w) :: onQ g r) x = g x
    by_cases c : v < x
    · rw [eval_hi (q := (v, g v)) c]
      refine eval_glue (v :: w :: r) e x (by simp) asc' (fun a b ha hb ab no => ?_) (by simpa using he) (by show v ≤ x; grind) h2
      refine lin a b (List.mem_cons_of_mem _ ha) (List.mem_cons_of_mem _ hb) ab fun z hz => ?_
      rcases List.mem_cons.mp hz with rfl | hz
      · have := (List.pairwise_cons.mp asc).1 a ha
        grind
      · exact no z hz
    · rw [eval_lo (q := (v, g v)) c]
      refine (lin u v (by simp) (by simp) uv (fun z hz => ?_) x h1 (by grind)).symm
      rcases List.mem_cons.mp hz with rfl | hz
      · grind
      · rcases List.mem_cons.mp hz with rfl | hz
        · grind
        · have := (List.pairwise_cons.mp asc').1 z hz
          grind
/-! ## the numbers at which a composition may bend -/
def numsQ (f : Pt → Pt → List Rat) : List Pt → List Rat
  | p :: q :: rest => p.1 :: (f p q ++ numsQ f (q :: rest))
  | [p] => [p.1]
  | [] => []
def invQ (p q : Pt) (c : Rat) : Rat := heightQ (p.2, p.1) (q.2, q.1) c
def crossQ (L : List Rat) (p q : Pt) : List Rat :=
  if p.2 < q.2 then (L.filter fun c => decide (p.2 < c) && decide (c < q.2)).map (invQ p q)
  else (L.reverse.filter fun c => decide (q.2 < c) && decide (c < p.2)).map (invQ p q)
theorem inv_back {p q : Pt} {c : Rat} (h : p.1 < q.1) (n : p.2 ≠ q.2) : heightQ p q (invQ p q c) = c := by
  have : q.2 - p.2 ≠ 0 := by grind
  have : q.1 - p.1 ≠ 0 := by grind
  show p.2 + (q.2 - p.2) / (q.1 - p.1) * ((p.1 + (q.1 - p.1) / (q.2 - p.2) * (c - p.2)) - p.1) = c
  grind
theorem inv_eq {p q : Pt} {c : Rat} : invQ p q c = p.1 + (q.1 - p.1) / (q.2 - p.2) * (c - p.2) := rfl
theorem div_pos' {a b : Rat} (ha : 0 < a) (hb : 0 < b) : 0 < a / b := by
  rw [Rat.div_def]
  exact Rat.mul_pos ha (Rat.inv_pos.mpr hb)
theorem mul_lt' {k a b : Rat} (hk : 0 < k) (h : a < b) : k * a < k * b := by
  have := Rat.mul_pos hk (show 0 < b - a by grind)
  grind
theorem inv_lt_up {p q : Pt} {c d : Rat} (h : p.1 < q.1) (n : p.2 < q.2) (cd : c < d) : invQ p q c < invQ p q d := by
  rw [inv_eq, inv_eq]
  have k := div_pos' (show 0 < q.1 - p.1 by grind) (show 0 < q.2 - p.2 by grind)
  have := mul_lt' k (show c - p.2 < d - p.2 by grind)
  grind
theorem inv_swap {p q : Pt} {c : Rat} (n : p.2 ≠ q.2) : invQ p q c = invQ q p c := by
  rw [inv_eq, inv_eq]
  have : q.2 - p.2 ≠ 0 := by grind
  have : p.2 - q.2 ≠ 0 := by grind
  grind
theorem inv_lt_down {p q : Pt} {c d : Rat} (h : p.1 < q.1) (n : q.2 < p.2) (cd : c < d) : invQ p q d < invQ p q c := by
  have e : ∀ z, invQ p q z = p.1 - (q.1 - p.1) / (p.2 - q.2) * (z - p.2) := fun z => by
    rw [inv_eq]
    have : q.2 - p.2 ≠ 0 := by grind
    have : p.2 - q.2 ≠ 0 := by grind
    grind
  rw [e, e]
  have k := div_pos' (show 0 < q.1 - p.1 by grind) (show 0 < p.2 - q.2 by grind)
  have := mul_lt' k (show c - p.2 < d - p.2 by grind)
  grind
theorem inv_l (p q : Pt) : invQ p q p.2 = p.1 := by rw [inv_eq]; grind
theorem inv_r {p q : Pt} (n : p.2 ≠ q.2) : invQ p q q.2 = q.1 := by
  rw [inv_eq]
  have : q.2 - p.2 ≠ 0 := by grind
  grind
theorem cross_mem {L : List Rat} {p q : Pt} (h : p.1 < q.1) {x : Rat} (hx : x ∈ crossQ L p q) : ∃ c ∈ L, x = invQ p q c ∧ p.2 ≠ q.2 ∧ p.1 < x ∧ x < q.1 := by
  unfold crossQ at hx
  by_cases c : p.2 < q.2
  · rw [if_pos c] at hx
    obtain ⟨d, hd, rfl⟩ := List.mem_map.mp hx
    have z := List.mem_filter.mp hd
    have z2 : p.2 < d ∧ d < q.2 := by simpa using z.2
    have l := inv_lt_up h c z2.1
    have r := inv_lt_up h c z2.2
    rw [inv_l] at l
    rw [inv_r (by grind)] at r
    exact ⟨d, z.1, rfl, by grind, l, r⟩
  · rw [if_neg c] at hx
    obtain ⟨d, hd, rfl⟩ := List.mem_map.mp hx
    have z := List.mem_filter.mp hd
    have z2 : q.2 < d ∧ d < p.2 := by simpa using z.2
    have n : q.2 < p.2 := by grind
    have l := inv_lt_down h n z2.2
    have r := inv_lt_down h n z2.1
    rw [inv_l] at l
    rw [inv_r (by grind)] at r
    exact ⟨d, List.mem_reverse.mp z.1, rfl, by grind, l, r⟩
theorem cross_has {L : List Rat} {p q : Pt} (h : p.1 < q.1) (n : p.2 ≠ q.2) {c : Rat} (hc : c ∈ L) (l : p.1 < invQ p q c) (r : invQ p q c < q.1) : invQ p q c ∈ crossQ L p q := by
  unfold crossQ
  by_cases d : p.2 < q.2
  · rw [if_pos d]
    refine List.mem_map.mpr ⟨c, List.mem_filter.mpr ⟨hc, ?_⟩, rfl⟩
    have z1 : p.2 < c := by
      rcases (by grind : c < p.2 ∨ c = p.2 ∨ p.2 < c) with z | z | z
      · have := inv_lt_up h d z; rw [inv_l] at this; grind
      · rw [z, inv_l] at l; grind
      · exact z
    have z2 : c < q.2 := by
      rcases (by grind : q.2 < c ∨ c = q.2 ∨ c < q.2) with z | z | z
      · have := inv_lt_up h d z; rw [inv_r n] at this; grind
      · rw [z, inv_r n] at r; grind
      · exact z
    simp [z1, z2]
  · rw [if_neg d]
    have d' : q.2 < p.2 := by grind
    refine List.mem_map.mpr ⟨c, List.mem_filter.mpr ⟨List.mem_reverse.mpr hc, ?_⟩, rfl⟩
    have z1 : c < p.2 := by
      rcases (by grind : p.2 < c ∨ c = p.2 ∨ c < p.2) with z | z | z
      · have := inv_lt_down h d' z; rw [inv_l] at this; grind
      · rw [z, inv_l] at l; grind
      · exact z
    have z2 : q.2 < c := by
      rcases (by grind : c < q.2 ∨ c = q.2 ∨ q.2 < c) with z | z | z
      · have := inv_lt_down h d' z; rw [inv_r n] at this; grind
      · rw [z, inv_r n] at r; grind
      · exact z
    simp [z1, z2]
theorem cross_asc {L : List Rat} {p q : Pt} (h : p.1 < q.1) (asc : L.Pairwise (· < ·)) : (crossQ L p q).Pairwise (· < ·) := by
  unfold crossQ
  by_cases c : p.2 < q.2
  · rw [if_pos c, List.pairwise_map]
    exact (asc.sublist List.filter_sublist).imp fun z => inv_lt_up h c z
  · rw [if_neg c, List.pairwise_map]
    have ar : L.reverse.Pairwise (fun a b => b < a) := List.pairwise_reverse.mpr asc
    refine List.Pairwise.imp_of_mem (fun {a b} ha hb z => ?_) (ar.sublist List.filter_sublist)
    have z2 : q.2 < a ∧ a < p.2 := by simpa using (List.mem_filter.mp ha).2
    exact inv_lt_down h (by grind) z
theorem nums_ge {f : Pt → Pt → List Rat} (hf : ∀ p q x, p.1 < q.1 → x ∈ f p q → p.1 < x ∧ x < q.1) : ∀ (ps : List Pt), AscQ ps → ∀ x ∈ numsQ f ps, (ps.getD 0 dpt).1 ≤ x
  | [], _, x, hx => nomatch hx
  | [p], _, x, hx => by rw [List.mem_singleton.mp hx]; exact Rat.le_refl
  | p :: q :: rest, asc, x, hx => by
    have pq := (List.pairwise_cons.mp asc).1 q (List.mem_cons_self ..)
    show p.1 ≤ x
    rcases List.mem_cons.mp hx with rfl | hx
    · exact Rat.le_refl
    · rcases List.mem_append.mp hx with z | z
      · have := (hf p q x pq z).1
        grind
      · have := nums_ge hf (q :: rest) (List.pairwise_cons.mp asc).2 x z
        have : q.1 ≤ x := this
        grind
theorem nums_asc {f : Pt → Pt → List Rat} (hf : ∀ p q x, p.1 < q.1 → x ∈ f p q → p.1 < x ∧ x < q.1) (ha : ∀ p q, p.1 < q.1 → (f p q).Pairwise (· < ·)) : ∀ (ps : List Pt), AscQ ps → (numsQ f ps).Pairwise (· < ·)
  | [], _ => List.Pairwise.nil
  | [p], _ => List.pairwise_singleton ..
  | p :: q :: rest, asc => by
    have pq := (List.pairwise_cons.mp asc).1 q (List.mem_cons_self ..)
    have asc' := (List.pairwise_cons.mp asc).2
    have g := nums_ge hf (q :: rest) asc'
    refine List.pairwise_cons.mpr ⟨fun x hx => ?_, List.pairwise_append.mpr ⟨ha p q pq, nums_asc hf ha (q :: rest) asc', fun a h1 b h2 => ?_⟩⟩
    · rcases List.mem_append.mp hx with z | z
      · exact (hf p q x pq z).1
      · have : q.1 ≤ x := g x z
        grind
    · have := (hf p q a pq h1).2
      have : q.1 ≤ b := g b h2
      grind
theorem nums_corner {f : Pt → Pt → List Rat} : ∀ (ps : List Pt), ∀ p ∈ ps, p.1 ∈ numsQ f ps
  | [], p, hp => nomatch hp
  | [q], p, hp => by rw [List.mem_singleton.mp hp]; exact List.mem_cons_self ..
  | q :: r :: rest, p, hp => by
    rcases List.mem_cons.mp hp with rfl | hp
    · exact List.mem_cons_self ..
    · exact List.mem_cons_of_mem _ (List.mem_append.mpr (.inr (nums_corner (r :: rest) p hp)))
theorem nums_last {f : Pt → Pt → List Rat} : ∀ (ps : List Pt), 1 ≤ ps.length → (numsQ f ps).getLast? = some (ps.getD (ps.length - 1) dpt).1
  | [], h => nomatch h
  | [p], _ => rfl
  | p :: q :: rest, _ => by
    have ih := nums_last (f := f) (q :: rest) (by simp)
    show (p.1 :: (f p q ++ numsQ f (q :: rest))).getLast? = _
    have ne : numsQ f (q :: rest) ≠ [] := fun z => by rw [z] at ih; cases ih
    rw [← List.cons_append, List.getLast?_append, ih]
    rfl
theorem nums_len {f : Pt → Pt → List Rat} {n : Nat} (hn : ∀ p q, (f p q).length ≤ n) : ∀ (ps : List Pt), (numsQ f ps).length ≤ ps.length * (n + 1)
  | [] => Nat.zero_le _
  | [p] => by show 1 ≤ 1 * (n + 1); omega
  | p :: q :: rest => by
    have ih := nums_len hn (q :: rest)
    have := hn p q
    show (p.1 :: (f p q ++ numsQ f (q :: rest))).length ≤ ((q :: rest).length + 1) * (n + 1)
    rw [List.length_cons, List.length_append, Nat.add_mul]
    omega
/-- the piece around two numbers with no corner between -/
theorem nums_piece {f : Pt → Pt → List Rat} : ∀ (ps : List Pt) (u v : Rat), 2 ≤ ps.length → AscQ ps → (ps.getD 0 dpt).1 ≤ u → u < v → v ≤ (ps.getD (ps.length - 1) dpt).1 → (∀ p ∈ ps, ¬ (u < p.1 ∧ p.1 < v)) →
    ∃ p q, p ∈ ps ∧ q ∈ ps ∧ (∀ z ∈ f p q, z ∈ numsQ f ps) ∧ p.1 < q.1 ∧ p.1 ≤ u ∧ v ≤ q.1 ∧ ∀ x, u ≤ x → x ≤ v → evalQ ps x = heightQ p q x
  | [], _, _, h, _, _, _, _, _ => nomatch h
  | [_], _, _, h, _, _, _, _, _ => absurd h (by simp)
  | [p, q], u, v, _, asc, h1, uv, h2, _ => ⟨p, q, by simp, by simp, fun z hz => List.mem_cons_of_mem _ (List.mem_append.mpr (.inl hz)), (List.pairwise_cons.mp asc).1 q (List.mem_cons_self ..), h1, h2, fun x _ _ => rfl⟩
  | p :: q :: r :: rest, u, v, _, asc, h1, uv, h2, no => by
    have pq := (List.pairwise_cons.mp asc).1 q (List.mem_cons_self ..)
    have asc' := (List.pairwise_cons.mp asc).2
    by_cases c : v ≤ q.1
    · exact ⟨p, q, by simp, by simp, fun z hz => List.mem_cons_of_mem _ (List.mem_append.mpr (.inl hz)), pq, h1, c, fun x _ hx => eval_lo (by grind)⟩
    · have qu : q.1 ≤ u := by
        have := no q (by simp)
        grind
      obtain ⟨p', q', hp, hq, hz, lt, a, b, ev⟩ := nums_piece (f := f) (q :: r :: rest) u v (by simp) asc' qu uv h2 fun p hp => no p (List.mem_cons_of_mem _ hp)
      refine ⟨p', q', List.mem_cons_of_mem _ hp, List.mem_cons_of_mem _ hq, fun z h => List.mem_cons_of_mem _ (List.mem_append.mpr (.inr (hz z h))), lt, a, b, fun x x1 x2 => ?_⟩
      rw [← ev x x1 x2]
      by_cases d : q.1 < x
      · exact eval_hi d
      · have z : x = q.1 := by grind
        have qr := (List.pairwise_cons.mp asc').1 r (List.mem_cons_self ..)
        rw [eval_lo (by grind), eval_lo (by grind), z, height_l, height_r pq]
/-! ## a composition -/
def cmpQ (ops ips : List Pt) : List Pt := onQ (fun x => evalQ ops (evalQ ips x)) (numsQ (crossQ (ops.map (·.1))) ips)
theorem cross_in {L : List Rat} : ∀ p q x, p.1 < q.1 → x ∈ crossQ L p q → p.1 < x ∧ x < q.1 := fun p q x h hx => by
  obtain ⟨c, _, _, _, z⟩ := cross_mem h hx
  exact z
section
variable {ops ips : List Pt} (o2 : 2 ≤ ops.length) (oa : AscQ ops) (i2 : 2 ≤ ips.length) (ia : AscQ ips)
include o2 oa i2 ia
theorem lv_asc : (ops.map (·.1)).Pairwise (· < ·) := by
  rw [List.pairwise_map]
  exact oa
theorem cmp_nums_asc : (numsQ (crossQ (ops.map (·.1))) ips).Pairwise (· < ·) := nums_asc cross_in (fun p q h => cross_asc h (lv_asc o2 oa i2 ia)) ips ia
theorem cmp_asc : AscQ (cmpQ ops ips) := on_asc (cmp_nums_asc o2 oa i2 ia)
theorem cmp_two : 2 ≤ (numsQ (crossQ (ops.map (·.1))) ips).length := by
  match ips, i2 with
  | p :: q :: rest, _ =>
    have : 1 ≤ (numsQ (crossQ (ops.map (·.1))) (q :: rest)).length := List.length_pos_of_mem (nums_corner (q :: rest) q (List.mem_cons_self ..))
    show 2 ≤ (p.1 :: (_ ++ _)).length
    rw [List.length_cons, List.length_append]
    omega
theorem cmp_lin {u v : Rat} (hu : u ∈ numsQ (crossQ (ops.map (·.1))) ips) (hv : v ∈ numsQ (crossQ (ops.map (·.1))) ips) (uv : u < v) (no : ∀ z ∈ numsQ (crossQ (ops.map (·.1))) ips, ¬ (u < z ∧ z < v)) (lo : (ips.getD 0 dpt).1 ≤ u) (hi : v ≤ (ips.getD (ips.length - 1) dpt).1) :
    Lin (fun x => evalQ ops (evalQ ips x)) u v := by
  obtain ⟨p, q, hp, hq, hz, pq, pu, vq, ev⟩ := nums_piece (f := crossQ (ops.map (·.1))) ips u v i2 ia lo uv hi fun p hp => no _ (nums_corner ips p hp)
  intro x x1 x2
  show evalQ ops (evalQ ips x) = heightQ (u, evalQ ops (evalQ ips u)) (v, evalQ ops (evalQ ips v)) x
  rw [ev x x1 x2, ev u Rat.le_refl (by grind), ev v (by grind) Rat.le_refl]
  have e : ∀ y, heightQ p q y = p.2 + (q.2 - p.2) / (q.1 - p.1) * (y - p.1) := fun y => rfl
  have d0 : q.1 - p.1 ≠ 0 := by grind
  have w0 : v - u ≠ 0 := by grind
  by_cases c : p.2 = q.2
  · have ec : ∀ y, heightQ p q y = p.2 := fun y => by rw [e, c]; grind
    rw [ec, ec, ec]
    show _ = evalQ ops p.2 + (evalQ ops p.2 - evalQ ops p.2) / (v - u) * (x - u)
    grind
  · -- no level between
    have nol : ∀ a b, (a = u ∧ b = v) ∨ (a = v ∧ b = u) → ∀ o ∈ ops, ¬ (heightQ p q a < o.1 ∧ o.1 < heightQ p q b) := by
      intro a b hab o ho z
      have inv : ∀ y, invQ p q (heightQ p q y) = y := fun y => by
        rw [inv_eq, e]
        have : q.2 - p.2 ≠ 0 := by grind
        grind
      have mem : u < invQ p q o.1 ∧ invQ p q o.1 < v := by
        by_cases d : p.2 < q.2
        · have z1 := inv_lt_up pq d z.1
          have z2 := inv_lt_up pq d z.2
          rw [inv] at z1 z2
          rcases hab with ⟨rfl, rfl⟩ | ⟨rfl, rfl⟩
          · exact ⟨z1, z2⟩
          · grind
        · have d' : q.2 < p.2 := by grind
          have z1 := inv_lt_down pq d' z.1
          have z2 := inv_lt_down pq d' z.2
          rw [inv] at z1 z2
          rcases hab with ⟨rfl, rfl⟩ | ⟨rfl, rfl⟩
          · grind
          · exact ⟨z2, z1⟩
      exact no _ (hz _ (cross_has pq c (List.mem_map.mpr ⟨o, ho, rfl⟩) (by grind) (by grind))) mem
    have s0 : (q.2 - p.2) / (q.1 - p.1) ≠ 0 := by
      intro z
      have : q.2 - p.2 = (q.2 - p.2) / (q.1 - p.1) * (q.1 - p.1) := by grind
      rw [z] at this
      grind
    by_cases d : p.2 < q.2
    · have sp := div_pos' (show 0 < q.2 - p.2 by grind) (show 0 < q.1 - p.1 by grind)
      have h1 : heightQ p q u < heightQ p q v := by rw [e, e]; have := mul_lt' sp (show u - p.1 < v - p.1 by grind); grind
      have h2 : heightQ p q u ≤ heightQ p q x := by
        rcases (by grind : u = x ∨ u < x) with z | z
        · rw [z]; exact Rat.le_refl
        · rw [e, e]; have := mul_lt' sp (show u - p.1 < x - p.1 by grind); grind
      have h3 : heightQ p q x ≤ heightQ p q v := by
        rcases (by grind : x = v ∨ x < v) with z | z
        · rw [z]; exact Rat.le_refl
        · rw [e, e]; have := mul_lt' sp (show x - p.1 < v - p.1 by grind); grind
      rw [eval_lin ops (heightQ p q u) (heightQ p q v) (heightQ p q x) o2 oa h1 (nol u v (.inl ⟨rfl, rfl⟩)) h2 h3]
      show _ + _ / (heightQ p q v - heightQ p q u) * (heightQ p q x - heightQ p q u) = _ + _ / (v - u) * (x - u)
      have k1 : heightQ p q v - heightQ p q u = (q.2 - p.2) / (q.1 - p.1) * (v - u) := by rw [e, e]; grind
      have k2 : heightQ p q x - heightQ p q u = (q.2 - p.2) / (q.1 - p.1) * (x - u) := by rw [e, e]; grind
      rw [k1, k2]
      generalize (q.2 - p.2) / (q.1 - p.1) = s at s0
      generalize evalQ ops (heightQ p q v) - evalQ ops (heightQ p q u) = D
      have : s * (v - u) ≠ 0 := fun z => by rcases Rat.mul_eq_zero.mp z with w | w <;> grind
      grind
    · have d' : q.2 < p.2 := by grind
      have sp := div_pos' (show 0 < p.2 - q.2 by grind) (show 0 < q.1 - p.1 by grind)
      have e' : ∀ y, heightQ p q y = p.2 - (p.2 - q.2) / (q.1 - p.1) * (y - p.1) := fun y => by rw [e]; grind
      have h1 : heightQ p q v < heightQ p q u := by rw [e', e']; have := mul_lt' sp (show u - p.1 < v - p.1 by grind); grind
      have h2 : heightQ p q x ≤ heightQ p q u := by
        rcases (by grind : u = x ∨ u < x) with z | z
        · rw [z]; exact Rat.le_refl
        · rw [e', e']; have := mul_lt' sp (show u - p.1 < x - p.1 by grind); grind
      have h3 : heightQ p q v ≤ heightQ p q x := by
        rcases (by grind : x = v ∨ x < v) with z | z
        · rw [z]; exact Rat.le_refl
        · rw [e', e']; have := mul_lt' sp (show x - p.1 < v - p.1 by grind); grind
      rw [eval_lin ops (heightQ p q v) (heightQ p q u) (heightQ p q x) o2 oa h1 (nol v u (.inr ⟨rfl, rfl⟩)) h3 h2]
      show evalQ ops (heightQ p q v) + (evalQ ops (heightQ p q u) - evalQ ops (heightQ p q v)) / (heightQ p q u - heightQ p q v) * (heightQ p q x - heightQ p q v) = evalQ ops (heightQ p q u) + (evalQ ops (heightQ p q v) - evalQ ops (heightQ p q u)) / (v - u) * (x - u)
      have k1 : heightQ p q u - heightQ p q v = (p.2 - q.2) / (q.1 - p.1) * (v - u) := by rw [e', e']; grind
      have k2 : heightQ p q x - heightQ p q v = (p.2 - q.2) / (q.1 - p.1) * (v - x) := by rw [e', e']; grind
      have s1 : (p.2 - q.2) / (q.1 - p.1) ≠ 0 := by grind
      rw [k1, k2]
      generalize (p.2 - q.2) / (q.1 - p.1) = s at s1
      generalize evalQ ops (heightQ p q v) = E1
      generalize evalQ ops (heightQ p q u) = E2
      have : s * (v - u) ≠ 0 := fun z => by rcases Rat.mul_eq_zero.mp z with w | w <;> grind
      grind
theorem cmp_eval {x : Rat} (h1 : (ips.getD 0 dpt).1 ≤ x) (h2 : x ≤ (ips.getD (ips.length - 1) dpt).1) : evalQ (cmpQ ops ips) x = evalQ ops (evalQ ips x) := by
  have ge := nums_ge (f := crossQ (ops.map (·.1))) cross_in ips ia
  have la := nums_last (f := crossQ (ops.map (·.1))) ips (by omega)
  have asc := cmp_nums_asc o2 oa i2 ia
  have le : ∀ z ∈ numsQ (crossQ (ops.map (·.1))) ips, z ≤ (ips.getD (ips.length - 1) dpt).1 := fun z hz => by
    obtain ⟨ys, e⟩ := List.getLast?_eq_some_iff.mp la
    rw [e] at hz asc
    rcases List.mem_append.mp hz with w | w
    · have := (List.pairwise_append.mp asc).2.2 z w _ (List.mem_singleton.mpr rfl)
      grind
    · rw [List.mem_singleton.mp w]; exact Rat.le_refl
  refine eval_glue _ _ x (cmp_two o2 oa i2 ia) asc (fun u v hu hv uv no => cmp_lin o2 oa i2 ia hu hv uv no (ge u hu) (le v hv)) la ?_ h2
  have hd : (numsQ (crossQ (ops.map (·.1))) ips).headD 0 = (ips.getD 0 dpt).1 := by
    match ips, i2 with
    | p :: q :: rest, _ => rfl
  rw [hd]
  exact h1
theorem cmp_first : ((cmpQ ops ips).getD 0 dpt).1 = (ips.getD 0 dpt).1 := by
  match ips, i2 with
  | p :: q :: rest, _ => rfl
theorem cmp_last : ((cmpQ ops ips).getD ((cmpQ ops ips).length - 1) dpt).1 = (ips.getD (ips.length - 1) dpt).1 := by
  have la := nums_last (f := crossQ (ops.map (·.1))) ips (by omega)
  have t := cmp_two o2 oa i2 ia
  unfold cmpQ
  rw [on_len]
  unfold onQ
  rw [List.getLast?_eq_getElem?] at la
  rw [List.getD_eq_getElem?_getD, List.getElem?_map, la]
  rfl
end
theorem cmp_norm {ops ips : List Pt} (o2 : 2 ≤ ops.length) (oa : AscQ ops) (i2 : 2 ≤ ips.length) (ia : AscQ ips) : normQ (cmpQ (normQ ops) (normQ ips)) = normQ (cmpQ ops ips) := by
  have o2' := normQ_len o2
  have oa' := normQ_asc oa
  have i2' := normQ_len i2
  have ia' := normQ_asc ia
  have f := normQ_first i2
  have l := normQ_last i2
  refine norm_uniq (by rw [show (cmpQ (normQ ops) (normQ ips)).length = _ from on_len _ _]; exact cmp_two o2' oa' i2' ia') (by rw [show (cmpQ ops ips).length = _ from on_len _ _]; exact cmp_two o2 oa i2 ia) (cmp_asc o2' oa' i2' ia') (cmp_asc o2 oa i2 ia) ?_ ?_ fun x x1 x2 => ?_
  · rw [cmp_first o2' oa' i2' ia', cmp_first o2 oa i2 ia, f]
  · rw [cmp_last o2' oa' i2' ia', cmp_last o2 oa i2 ia, l]
  · rw [cmp_first o2' oa' i2' ia', f] at x1
    rw [cmp_last o2' oa' i2' ia', l] at x2
    rw [cmp_eval o2' oa' i2' ia' (by rw [f]; exact x1) (by rw [l]; exact x2), cmp_eval o2 oa i2 ia x1 x2, eval_norm _ o2 oa, eval_norm _ i2 ia]
end Ew
namespace Ew
open PySem PySem.Spec PyProof.Rows L2
theorem ps_nox {X : Cx} {st : Stmt} {t : TS} (own : PS X.nox st t) : PS X st t := ⟨fun pn z σ G D J hw => wpAny_mono (own.run pn z σ G D (J.wish _) hw) (fun _ _ r => r.unwish) (fun _ _ b => b.elim)⟩
theorem nums_val {L : List Rat} : ∀ (ps : List Pt), 2 ≤ ps.length → AscQ ps → ∀ x ∈ numsQ (crossQ L) ps, (∃ p ∈ ps, x = p.1 ∧ evalQ ps x = p.2) ∨ (∃ c ∈ L, ∃ p q, p ∈ ps ∧ q ∈ ps ∧ p.1 < q.1 ∧ p.2 ≠ q.2 ∧ x = invQ p q c ∧ evalQ ps x = c)
  | [], h, _, _, _ => nomatch h
  | [_], h, _, _, _ => absurd h (by simp)
  | p :: q :: rest, _, asc, x, hx => by
    have pq := (List.pairwise_cons.mp asc).1 q (List.mem_cons_self ..)
    have asc' := (List.pairwise_cons.mp asc).2
    have lo : ∀ y, ¬ q.1 < y → evalQ (p :: q :: rest) y = heightQ p q y := fun y h => eval_lo h
    rcases List.mem_cons.mp hx with rfl | hx
    · exact .inl ⟨p, by simp, rfl, by rw [lo _ (by grind), height_l]⟩
    · rcases List.mem_append.mp hx with z | z
      · obtain ⟨c, hc, e, n, l, r⟩ := cross_mem pq z
        exact .inr ⟨c, hc, p, q, by simp, by simp, pq, n, e, by rw [lo _ (by grind), e, inv_back pq n]⟩
      · match rest, asc', z with
        | [], _, z =>
          have e : x = q.1 := List.mem_singleton.mp z
          exact .inl ⟨q, by simp, e, by rw [e, lo _ (by grind), height_r pq]⟩
        | r :: rest, asc', z =>
          have ge : q.1 ≤ x := nums_ge cross_in (q :: r :: rest) asc' x z
          have qr := (List.pairwise_cons.mp asc').1 r (List.mem_cons_self ..)
          have ev : evalQ (p :: q :: r :: rest) x = evalQ (q :: r :: rest) x := by
            by_cases d : q.1 < x
            · exact eval_hi d
            · have z : x = q.1 := by grind
              rw [eval_lo (by grind), eval_lo (by grind), z, height_l, height_r pq]
          rw [ev]
          rcases nums_val (q :: r :: rest) (by simp) asc' x z with ⟨a, ha, e1, e2⟩ | ⟨c, hc, a, b, ha, hb, h1, h2, h3, h4⟩
          · exact .inl ⟨a, List.mem_cons_of_mem _ ha, e1, e2⟩
          · exact .inr ⟨c, hc, a, b, List.mem_cons_of_mem _ ha, List.mem_cons_of_mem _ hb, h1, h2, h3, h4⟩
theorem inv_sz {n : Nat} {p q : Pt} {c : Rat} (h1 : PSz n p) (h2 : PSz n q) (h : p.2 ≠ q.2) (hc : Sz n c) : Sz (n + (n + n + 1 + (n + n + 1) + (n + n + 1)) + 1) (invQ p q c) :=
  height_sz (l := (p.2, p.1)) (r := (q.2, q.1)) ⟨h1.y, h1.x⟩ ⟨h2.y, h2.x⟩ (by show q.2 - p.2 ≠ 0; grind) hc
theorem nums_sz {n : Nat} {L : List Rat} {ps : List Pt} (h2 : 2 ≤ ps.length) (asc : AscQ ps) (hz : ∀ p ∈ ps, PSz n p) (hL : ∀ c ∈ L, Sz n c) : ∀ x ∈ numsQ (crossQ L) ps, Sz (n + (n + n + 1 + (n + n + 1) + (n + n + 1)) + 1) x ∧ Sz n (evalQ ps x) := by
  intro x hx
  rcases nums_val ps h2 asc x hx with ⟨p, hp, e1, e2⟩ | ⟨c, hc, p, q, hp, hq, h1, h3, h4, h5⟩
  · rw [e2]
    refine ⟨?_, (hz p hp).y⟩
    rw [e1]
    exact (hz p hp).x.le (by omega)
  · rw [h5]
    refine ⟨?_, hL c hc⟩
    rw [h4]
    exact inv_sz (hz p hp) (hz q hq) h3 (hL c hc)
/-- the heights lie between the least and the greatest one, or are levels -/
theorem nums_in {ops ips : List Pt} (oa : AscQ ops) (i2 : 2 ≤ ips.length) (ia : AscQ ips) (lo : ¬ leastQ ips < (ops.getD 0 dpt).1) (hi : ¬ (ops.getD (ops.length - 1) dpt).1 < greatestQ ips) : ∀ x ∈ numsQ (crossQ (ops.map (·.1))) ips, ¬ evalQ ips x < (ops.getD 0 dpt).1 ∧ ¬ (ops.getD (ops.length - 1) dpt).1 < evalQ ips x := by
  intro x hx
  have mn := (minF_le (ips.map (·.2)) (ips.getD 0 dpt).2).2
  have mx := (maxF_le (ips.map (·.2)) (ips.getD 0 dpt).2).2
  rcases nums_val ips i2 ia x hx with ⟨p, hp, e1, e2⟩ | ⟨c, hc, p, q, hp, hq, h1, h3, h4, h5⟩
  · have a1 : leastQ ips ≤ p.2 := mn p.2 (List.mem_map.mpr ⟨p, hp, rfl⟩)
    have a2 : p.2 ≤ greatestQ ips := mx p.2 (List.mem_map.mpr ⟨p, hp, rfl⟩)
    rw [e2]
    constructor <;> grind
  · obtain ⟨o, ho, rfl⟩ := List.mem_map.mp hc
    have a1 := first_le oa ho
    have a2 := le_last oa ho
    rw [h5]
    constructor <;> grind
theorem nums_le {f : Pt → Pt → List Rat} (hf : ∀ p q x, p.1 < q.1 → x ∈ f p q → p.1 < x ∧ x < q.1) (ha : ∀ p q, p.1 < q.1 → (f p q).Pairwise (· < ·)) {ps : List Pt} (h1 : 1 ≤ ps.length) (asc : AscQ ps) : ∀ z ∈ numsQ f ps, z ≤ (ps.getD (ps.length - 1) dpt).1 := by
  intro z hz
  have la := nums_last (f := f) ps h1
  have as := nums_asc hf ha ps asc
  obtain ⟨ys, e⟩ := List.getLast?_eq_some_iff.mp la
  rw [e] at hz as
  rcases List.mem_append.mp hz with w | w
  · have := (List.pairwise_append.mp as).2.2 z w _ (List.mem_singleton.mpr rfl)
    grind
  · rw [List.mem_singleton.mp w]; exact Rat.le_refl
theorem cross_len (L : List Rat) (p q : Pt) : (crossQ L p q).length ≤ L.length := by
  unfold crossQ
  split
  · rw [List.length_map]
    exact List.filter_sublist.length_le
  · rw [List.length_map]
    have := (List.filter_sublist (p := fun c => decide (q.2 < c) && decide (c < p.2)) (l := L.reverse)).length_le
    rwa [List.length_reverse] at this
theorem nums_drop {f : Pt → Pt → List Rat} {ps : List Pt} {i : Nat} (h : i + 1 < ps.length) : numsQ f (ps.drop i) = (ps.getD i dpt).1 :: (f (ps.getD i dpt) (ps.getD (i + 1) dpt) ++ numsQ f (ps.drop (i + 1))) := by
  have e1 : ps.drop i = ps.getD i dpt :: ps.drop (i + 1) := by rw [List.drop_eq_getElem_cons (by omega), List.getD_eq_getElem?_getD, List.getElem?_eq_getElem (by omega)]; rfl
  have e2 : ps.drop (i + 1) = ps.getD (i + 1) dpt :: ps.drop (i + 2) := by rw [List.drop_eq_getElem_cons h, List.getD_eq_getElem?_getD, List.getElem?_eq_getElem h]; rfl
  rw [e1, e2]
  rfl
theorem nums_drop_last {f : Pt → Pt → List Rat} {ps : List Pt} (h : 1 ≤ ps.length) : numsQ f (ps.drop (ps.length - 1)) = [(ps.getD (ps.length - 1) dpt).1] := by
  have e1 : ps.drop (ps.length - 1) = [ps.getD (ps.length - 1) dpt] := by
    rw [List.drop_eq_getElem_cons (by omega), List.getD_eq_getElem?_getD, List.getElem?_eq_getElem (by omega), List.drop_of_length_le (by omega)]
    rfl
  rw [e1]
  rfl
end Ew
namespace Ew
open PySem PySem.Spec PyProof.Rows L2
theorem eval_piece {ps : List Pt} {i : Nat} {x : Rat} (h2 : 2 ≤ ps.length) (asc : AscQ ps) (hi : i + 1 < ps.length) (x1 : (ps.getD i dpt).1 ≤ x) (x2 : x ≤ (ps.getD (i + 1) dpt).1) : evalQ ps x = heightQ (ps.getD i dpt) (ps.getD (i + 1) dpt) x := by
  have lt := asc_at asc (i := i) (j := i + 1) (by omega) hi
  have z := eval_lin ps (ps.getD i dpt).1 (ps.getD (i + 1) dpt).1 x h2 asc lt (fun p hp z => by
    obtain ⟨j, hj, rfl⟩ := List.getElem_of_mem hp
    have e : ps[j] = ps.getD j dpt := by rw [List.getD_eq_getElem?_getD, List.getElem?_eq_getElem hj]; rfl
    rw [e] at z
    rcases (by omega : j < i ∨ j = i ∨ j = i + 1 ∨ i + 1 < j) with w | w | w | w
    · have := asc_at asc (i := j) (j := i) w (by omega); grind
    · subst w; grind
    · subst w; grind
    · have := asc_at asc (i := i + 1) (j := j) w hj; grind) x1 x2
  rw [z, ← eval_at h2 asc _ (getD_memP (by omega : i < ps.length)), ← eval_at h2 asc _ (getD_memP hi)]
theorem slope_zero {p q : Pt} (h : p.1 < q.1) : slopeQ p q = 0 ↔ p.2 = q.2 := by
  unfold slopeQ
  have : q.1 - p.1 ≠ 0 := by grind
  constructor
  · intro z
    have : q.2 - p.2 = (q.2 - p.2) / (q.1 - p.1) * (q.1 - p.1) := by grind
    rw [z] at this
    grind
  · intro z
    rw [z]
    grind
theorem slope_pos {p q : Pt} (h : p.1 < q.1) : 0 < slopeQ p q ↔ p.2 < q.2 := by
  constructor
  · intro z
    rcases (by grind : p.2 < q.2 ∨ p.2 = q.2 ∨ q.2 < p.2) with w | w | w
    · exact w
    · rw [(slope_zero h).mpr w] at z; grind
    · have := div_pos' (show 0 < p.2 - q.2 by grind) (show 0 < q.1 - p.1 by grind)
      unfold slopeQ at z
      grind
  · intro z
    exact div_pos' (show 0 < q.2 - p.2 by grind) (show 0 < q.1 - p.1 by grind)
theorem num_inv {p q : Pt} {c : Rat} (h : p.1 < q.1) (n : slopeQ p q ≠ 0) : p.1 + (c - p.2) / slopeQ p q = invQ p q c := by
  have n' : p.2 ≠ q.2 := fun z => n ((slope_zero h).mpr z)
  rw [inv_eq]
  unfold slopeQ at n ⊢
  have : q.1 - p.1 ≠ 0 := by grind
  have : q.2 - p.2 ≠ 0 := by grind
  grind
def inB (p q : Pt) (c : Rat) : Bool := decide (p.1 < invQ p q c) && decide (invQ p q c < q.1)
/-- the points that are found on a piece -/
def foundQ (ops : List Pt) (p q : Pt) (M : List Rat) : List Pt := (p.1, evalQ ops p.2) :: (M.filter (inB p q)).map fun c => (invQ p q c, evalQ ops c)
theorem cross_alt {L : List Rat} {p q : Pt} (h : p.1 < q.1) (n : p.2 ≠ q.2) : ((if p.2 < q.2 then L else L.reverse).filter (inB p q)).map (invQ p q) = crossQ L p q := by
  unfold crossQ
  by_cases d : p.2 < q.2
  · rw [if_pos d, if_pos d]
    congr 1
    refine List.filter_congr fun c hc => ?_
    have e : inB p q c = true ↔ (decide (p.2 < c) && decide (c < q.2)) = true := by
      constructor
      · intro z
        have z : p.1 < invQ p q c ∧ invQ p q c < q.1 := by unfold inB at z; simpa using z
        have := cross_has (L := [c]) h n (List.mem_singleton.mpr rfl) z.1 z.2
        unfold crossQ at this
        rw [if_pos d] at this
        obtain ⟨c', hc', e'⟩ := List.mem_map.mp this
        have w := List.mem_filter.mp hc'
        rw [List.mem_singleton.mp w.1] at w
        exact w.2
      · intro z
        have z : p.2 < c ∧ c < q.2 := by simpa using z
        have l := inv_lt_up h d z.1
        have r := inv_lt_up h d z.2
        rw [inv_l] at l
        rw [inv_r n] at r
        unfold inB
        simp [l, r]
    exact Bool.eq_iff_iff.mpr e
  · rw [if_neg d, if_neg d]
    have d' : q.2 < p.2 := by grind
    congr 1
    refine List.filter_congr fun c hc => ?_
    have e : inB p q c = true ↔ (decide (q.2 < c) && decide (c < p.2)) = true := by
      constructor
      · intro z
        have z : p.1 < invQ p q c ∧ invQ p q c < q.1 := by unfold inB at z; simpa using z
        have := cross_has (L := [c]) h n (List.mem_singleton.mpr rfl) z.1 z.2
        unfold crossQ at this
        rw [if_neg d] at this
        obtain ⟨c', hc', e'⟩ := List.mem_map.mp this
        have w := List.mem_filter.mp hc'
        rw [List.mem_singleton.mp (List.mem_reverse.mp w.1)] at w
        exact w.2
      · intro z
        have z : q.2 < c ∧ c < p.2 := by simpa using z
        have l := inv_lt_down h d' z.2
        have r := inv_lt_down h d' z.1
        rw [inv_l] at l
        rw [inv_r n] at r
        unfold inB
        simp [l, r]
    exact Bool.eq_iff_iff.mpr e
theorem found_eq {ops ips : List Pt} {i : Nat} {M : List Rat} (i2 : 2 ≤ ips.length) (ia : AscQ ips) (hi : i + 1 < ips.length)
    (hM : ((M.filter (inB (ips.getD i dpt) (ips.getD (i + 1) dpt))).map (invQ (ips.getD i dpt) (ips.getD (i + 1) dpt))) = crossQ (ops.map (·.1)) (ips.getD i dpt) (ips.getD (i + 1) dpt)) (n : M ≠ [] → (ips.getD i dpt).2 ≠ (ips.getD (i + 1) dpt).2) :
    foundQ ops (ips.getD i dpt) (ips.getD (i + 1) dpt) M = onQ (fun x => evalQ ops (evalQ ips x)) ((ips.getD i dpt).1 :: crossQ (ops.map (·.1)) (ips.getD i dpt) (ips.getD (i + 1) dpt)) := by
  have lt := asc_at ia (i := i) (j := i + 1) (by omega) hi
  rw [← hM]
  unfold foundQ onQ
  rw [List.map_cons, List.map_map]
  congr 1
  · show (_, evalQ ops (ips.getD i dpt).2) = (_, evalQ ops (evalQ ips (ips.getD i dpt).1))
    rw [← eval_at i2 ia _ (getD_memP (by omega : i < ips.length))]
  · refine List.map_congr_left fun c hc => ?_
    have w := List.mem_filter.mp hc
    have nn := n (fun z => by rw [z] at w; cases w.1)
    have z : (ips.getD i dpt).1 < invQ (ips.getD i dpt) (ips.getD (i + 1) dpt) c ∧ invQ (ips.getD i dpt) (ips.getD (i + 1) dpt) c < (ips.getD (i + 1) dpt).1 := by
      have := w.2
      unfold inB at this
      simpa using this
    show (_, evalQ ops c) = (_, evalQ ops (evalQ ips (invQ (ips.getD i dpt) (ips.getD (i + 1) dpt) c)))
    rw [eval_piece i2 ia hi (Std.le_of_lt z.1) (Std.le_of_lt z.2), inv_back lt nn]
theorem cross_flat {L : List Rat} {p q : Pt} (h : p.2 = q.2) : crossQ L p q = [] := by
  unfold crossQ
  rw [if_neg (by grind)]
  rw [List.filter_eq_nil_iff.mpr fun c _ w => by
    have w2 : q.2 < c ∧ c < p.2 := by simpa using w
    grind]
  rfl
theorem num_pos {s : Rat} : 0 < s.num ↔ 0 < s := by
  rw [Rat.lt_iff]
  simp
end Ew
namespace Ew
open PySem PySem.Spec PyProof.Rows L2
/-! ## a function after writing a digit -/
def liftQ (b g : Rat) (ps : List Pt) : List Pt := ps.map fun p => (p.1, b * p.2 - g)
theorem height_lift {b g x : Rat} {p q : Pt} (h : p.1 < q.1) : heightQ (p.1, b * p.2 - g) (q.1, b * q.2 - g) x = b * heightQ p q x - g := by
  have : q.1 - p.1 ≠ 0 := by grind
  show b * p.2 - g + (b * q.2 - g - (b * p.2 - g)) / (q.1 - p.1) * (x - p.1) = b * (p.2 + (q.2 - p.2) / (q.1 - p.1) * (x - p.1)) - g
  grind
theorem eval_lift {b g x : Rat} : ∀ (ps : List Pt), 2 ≤ ps.length → AscQ ps → evalQ (liftQ b g ps) x = b * evalQ ps x - g
  | [], h, _ => nomatch h
  | [_], h, _ => absurd h (by simp)
  | [p, q], _, asc => height_lift ((List.pairwise_cons.mp asc).1 q (List.mem_cons_self ..))
  | p :: q :: r :: rest, _, asc => by
    have pq := (List.pairwise_cons.mp asc).1 q (List.mem_cons_self ..)
    by_cases d : q.1 < x
    · rw [eval_hi d]
      show evalQ ((p.1, b * p.2 - g) :: (q.1, b * q.2 - g) :: (r.1, b * r.2 - g) :: liftQ b g rest) x = _
      rw [eval_hi (q := (q.1, b * q.2 - g)) d]
      exact eval_lift (q :: r :: rest) (by simp) (List.pairwise_cons.mp asc).2
    · rw [eval_lo d]
      show evalQ ((p.1, b * p.2 - g) :: (q.1, b * q.2 - g) :: (r.1, b * r.2 - g) :: liftQ b g rest) x = _
      rw [eval_lo (q := (q.1, b * q.2 - g)) d]
      exact height_lift pq
theorem lift_asc {b g : Rat} {ps : List Pt} (h : AscQ ps) : AscQ (liftQ b g ps) := by
  unfold liftQ AscQ
  rw [List.pairwise_map]
  exact h
theorem lift_len (b g : Rat) (ps : List Pt) : (liftQ b g ps).length = ps.length := List.length_map ..
theorem lift_at {b g : Rat} {ps : List Pt} {i : Nat} (h : i < ps.length) : ((liftQ b g ps).getD i dpt).1 = (ps.getD i dpt).1 := by
  unfold liftQ
  rw [List.getD_eq_getElem?_getD, List.getElem?_map, List.getElem?_eq_getElem h, List.getD_eq_getElem?_getD, List.getElem?_eq_getElem h]
  rfl
theorem lift_norm {b g : Rat} {ps : List Pt} (h2 : 2 ≤ ps.length) (asc : AscQ ps) : normQ (liftQ b g (normQ ps)) = normQ (liftQ b g ps) := by
  have n2 := normQ_len h2
  have na := normQ_asc asc
  refine norm_uniq (by rw [lift_len]; exact n2) (by rw [lift_len]; exact h2) (lift_asc na) (lift_asc asc) ?_ ?_ fun x _ _ => ?_
  · rw [lift_at (by omega), lift_at (by omega), normQ_first h2]
  · rw [lift_len, lift_len, lift_at (by omega), lift_at (by omega), normQ_last h2]
  · rw [eval_lift _ n2 na, eval_lift _ h2 asc, eval_norm x h2 asc]
/-! ## all heights within an interval -/
def safeB (lo hi : Rat) (ps : List Pt) : Bool := ps.all fun p => !decide (p.2 < lo) && !decide (hi < p.2)
theorem safe_iff {lo hi : Rat} {ps : List Pt} : safeB lo hi ps = true ↔ ∀ p ∈ ps, ¬ p.2 < lo ∧ ¬ hi < p.2 := by
  unfold safeB
  rw [List.all_eq_true]
  constructor
  · intro h p hp
    have := h p hp
    simpa using this
  · intro h p hp
    have := h p hp
    simp [this.1, this.2]
theorem least_mem {ps : List Pt} (h : 1 ≤ ps.length) : ∃ p ∈ ps, leastQ ps = p.2 := by
  rcases minF_mem (ps.map (·.2)) (ps.getD 0 dpt).2 with z | z
  · exact ⟨_, getD_memP (by omega : 0 < ps.length), z⟩
  · obtain ⟨p, hp, e⟩ := List.mem_map.mp z
    exact ⟨p, hp, e.symm⟩
theorem greatest_mem {ps : List Pt} (h : 1 ≤ ps.length) : ∃ p ∈ ps, greatestQ ps = p.2 := by
  rcases maxF_mem (ps.map (·.2)) (ps.getD 0 dpt).2 with z | z
  · exact ⟨_, getD_memP (by omega : 0 < ps.length), z⟩
  · obtain ⟨p, hp, e⟩ := List.mem_map.mp z
    exact ⟨p, hp, e.symm⟩
theorem least_le {ps : List Pt} {p : Pt} (h : p ∈ ps) : leastQ ps ≤ p.2 := (minF_le (ps.map (·.2)) (ps.getD 0 dpt).2).2 _ (List.mem_map.mpr ⟨p, h, rfl⟩)
theorem le_greatest {ps : List Pt} {p : Pt} (h : p ∈ ps) : p.2 ≤ greatestQ ps := (maxF_le (ps.map (·.2)) (ps.getD 0 dpt).2).2 _ (List.mem_map.mpr ⟨p, h, rfl⟩)
def inR (lo x hi : Rat) : Bool := !decide (x < lo) && !decide (hi < x)
theorem inR_iff {lo x hi : Rat} : inR lo x hi = true ↔ ¬ x < lo ∧ ¬ hi < x := by unfold inR; simp
theorem safe_ends {lo hi : Rat} {ps : List Pt} (h : 1 ≤ ps.length) : safeB lo hi ps = (inR lo (leastQ ps) hi && inR lo (greatestQ ps) hi) := by
  rw [Bool.eq_iff_iff, safe_iff, Bool.and_eq_true, inR_iff, inR_iff]
  obtain ⟨p, hp, ep⟩ := least_mem h
  obtain ⟨q, hq, eq⟩ := greatest_mem h
  constructor
  · intro z
    have z1 := z p hp
    have z2 := z q hq
    rw [ep, eq]
    exact ⟨z1, z2⟩
  · intro z r hr
    have a1 := least_le hr
    have a2 := le_greatest hr
    constructor <;> grind
theorem safe_norm {lo hi : Rat} {ps : List Pt} (h2 : 2 ≤ ps.length) (asc : AscQ ps) : safeB lo hi (normQ ps) = safeB lo hi ps := by
  have n2 := normQ_len h2
  rw [safe_ends (by omega), safe_ends (by omega), least_norm h2 asc, greatest_norm h2 asc]
/-! ## another height at one place -/
def setQ (ps : List Pt) (k : Nat) (y : Rat) : List Pt := ps.take k ++ [((ps.getD k dpt).1, y)] ++ ps.drop (k + 1)
theorem set_fst {ps : List Pt} {k : Nat} {y : Rat} (h : k < ps.length) : (setQ ps k y).map (·.1) = ps.map (·.1) := by
  unfold setQ
  have e : ps = ps.take k ++ [ps.getD k dpt] ++ ps.drop (k + 1) := by
    rw [List.append_assoc]
    have : [ps.getD k dpt] ++ ps.drop (k + 1) = ps.drop k := by
      rw [List.drop_eq_getElem_cons h, List.getD_eq_getElem?_getD, List.getElem?_eq_getElem h]
      rfl
    rw [this, List.take_append_drop]
  conv => rhs; rw [e]
  simp
theorem set_len {ps : List Pt} {k : Nat} {y : Rat} (h : k < ps.length) : (setQ ps k y).length = ps.length := by
  have := congrArg List.length (set_fst (y := y) h)
  rwa [List.length_map, List.length_map] at this
theorem asc_fst {ps : List Pt} : AscQ ps ↔ (ps.map (·.1)).Pairwise (· < ·) := by
  rw [List.pairwise_map]
theorem set_asc {ps : List Pt} {k : Nat} {y : Rat} (h : k < ps.length) (asc : AscQ ps) : AscQ (setQ ps k y) := by
  rw [asc_fst, set_fst h, ← asc_fst]
  exact asc
theorem set_mem {ps : List Pt} {k : Nat} {y : Rat} {p : Pt} (h : p ∈ setQ ps k y) : p ∈ ps ∨ p = ((ps.getD k dpt).1, y) := by
  rcases List.mem_append.mp h with z | z
  · rcases List.mem_append.mp z with z | z
    · exact .inl ((List.take_sublist ..).subset z)
    · exact .inr (List.mem_singleton.mp z)
  · exact .inl ((List.drop_sublist ..).subset z)
theorem set_has (ps : List Pt) (k : Nat) (y : Rat) : ((ps.getD k dpt).1, y) ∈ setQ ps k y := List.mem_append.mpr (.inl (List.mem_append.mpr (.inr (List.mem_singleton.mpr rfl))))
/-! ## nearer to the middle -/
def shrQ (lo hi y : Rat) : Rat := Rat.divInt 1 2 * (lo + hi) + Rat.divInt 1 5 * (y - Rat.divInt 1 2 * (lo + hi))
theorem shr_bd {lo hi y : Rat} (h1 : lo ≤ y) (h2 : y ≤ hi) : lo ≤ shrQ lo hi y ∧ shrQ lo hi y ≤ hi := by
  unfold shrQ
  have e1 : Rat.divInt 1 2 = 1 / 2 := by decide +kernel
  have e2 : Rat.divInt 1 5 = 1 / 5 := by decide +kernel
  rw [e1, e2]
  constructor <;> grind
/-! ## fractions of digits -/
theorem rest_rat {b g : Int} {y : Rat} : [V.int (frN (b * y.num - g * (y.den : Int)) (y.den : Int)), V.int (frD (b * y.num - g * (y.den : Int)) (y.den : Int))] = qV ((b : Rat) * y - (g : Rat)) := by
  have d0 : (y.den : Int) ≠ 0 := by have := y.den_nz; omega
  rw [qV_fr d0]
  congr 1
  rw [Rat.divInt_eq_div, Rat.intCast_sub, Rat.intCast_mul, Rat.intCast_mul]
  have e : y = (y.num : Rat) / ((y.den : Int) : Rat) := by
    rw [← Rat.divInt_eq_div]
    exact (Rat.num_divInt_den y).symm
  have d1 : (((y.den : Int)) : Rat) ≠ 0 := fun z => d0 (by exact_mod_cast z)
  conv => rhs; rw [e]
  grind
def endQ (d b : Int) : Rat := Rat.divInt d (b - 1)
theorem end_fr {d b : Int} (h : 2 ≤ b) : [V.int (frN d (b - 1)), V.int (frD d (b - 1))] = qV (endQ d b) := qV_fr (by omega)
theorem end_sz {d b : Int} (h2 : 2 ≤ b) (h10 : b ≤ 10) (d0 : -99 ≤ d) (d1 : d ≤ 99) : Sz 7 (endQ d b) := sz_div (by omega) (by omega) (by omega)
theorem end_sub {d e b : Int} (h2 : 2 ≤ b) : endQ e b - endQ d b = endQ (e - d) b := by
  unfold endQ
  have : (((b - 1 : Int)) : Rat) ≠ 0 := fun z => by have : b - 1 = 0 := by exact_mod_cast z
                                                    omega
  rw [Rat.divInt_eq_div, Rat.divInt_eq_div, Rat.divInt_eq_div, Rat.intCast_sub e d]
  grind
theorem end_lt {d e b : Int} (h2 : 2 ≤ b) (h : d < e) : endQ d b < endQ e b := by
  have s := end_sub (d := d) (e := e) h2
  have p : 0 < endQ (e - d) b := by
    unfold endQ
    rw [Rat.divInt_eq_div]
    exact div_pos' (by exact_mod_cast (by omega : 0 < e - d)) (by exact_mod_cast (by omega : 0 < b - 1))
  grind
theorem end_le {d e b : Int} (h2 : 2 ≤ b) (h : d ≤ e) : endQ d b ≤ endQ e b := by
  rcases (by omega : d = e ∨ d < e) with z | z
  · rw [z]; exact Rat.le_refl
  · have := end_lt h2 z; grind
end Ew
namespace Ew
open PySem PySem.Spec PyProof.Rows L2
theorem isz {i : Int} (h0 : -99 ≤ i) (h1 : i ≤ 99) : Sz 7 (i : Rat) := ⟨Nat.lt_of_le_of_lt (show i.natAbs ≤ 99 by omega) (by decide), show 1 < 2 ^ 7 by decide⟩
theorem asc_bdd {b : Int} {s : List Int} (h : AreS b s) (ha : s.Pairwise (· < ·)) : ∀ g ∈ s, -99 ≤ g ∧ g ≤ 99 := dig_le ⟨h, ha⟩
end Ew
namespace Ew
open PySem PySem.Spec PyProof.Rows L2
theorem norm_idem {ps : List Pt} (h2 : 2 ≤ ps.length) (asc : AscQ ps) : normQ (normQ ps) = normQ ps := by
  refine norm_uniq (normQ_len h2) h2 (normQ_asc asc) asc (by rw [normQ_first h2]) (by rw [normQ_last h2]) fun x _ _ => eval_norm x h2 asc
/-! ## a function after reading a digit -/
def strQ (b g : Rat) (ps : List Pt) : List Pt := ps.map fun p => (b * p.1 - g, p.2)
theorem mul_lt_iff {b x y : Rat} (hb : 0 < b) : b * x < b * y ↔ x < y := by
  constructor
  · intro h
    rcases (by grind : x < y ∨ x = y ∨ y < x) with z | z | z
    · exact z
    · rw [z] at h; grind
    · have := mul_lt' hb z; grind
  · exact mul_lt' hb
theorem height_str {b g x : Rat} {p q : Pt} (hb : 0 < b) (h : p.1 < q.1) : heightQ (b * p.1 - g, p.2) (b * q.1 - g, q.2) (b * x - g) = heightQ p q x := by
  have : q.1 - p.1 ≠ 0 := by grind
  have : b * q.1 - b * p.1 ≠ 0 := by
    have := mul_lt' hb h
    grind
  show p.2 + (q.2 - p.2) / (b * q.1 - g - (b * p.1 - g)) * (b * x - g - (b * p.1 - g)) = p.2 + (q.2 - p.2) / (q.1 - p.1) * (x - p.1)
  have e : b * q.1 - g - (b * p.1 - g) = b * (q.1 - p.1) := by grind
  have e2 : b * x - g - (b * p.1 - g) = b * (x - p.1) := by grind
  rw [e, e2]
  have b0 : b ≠ 0 := by grind
  generalize q.1 - p.1 = D at *
  generalize x - p.1 = X
  have : b * D ≠ 0 := fun z => by rcases Rat.mul_eq_zero.mp z with w | w <;> grind
  grind
theorem eval_str {b g x : Rat} (hb : 0 < b) : ∀ (ps : List Pt), 2 ≤ ps.length → AscQ ps → evalQ (strQ b g ps) (b * x - g) = evalQ ps x
  | [], h, _ => nomatch h
  | [_], h, _ => absurd h (by simp)
  | [p, q], _, asc => height_str hb ((List.pairwise_cons.mp asc).1 q (List.mem_cons_self ..))
  | p :: q :: r :: rest, _, asc => by
    have pq := (List.pairwise_cons.mp asc).1 q (List.mem_cons_self ..)
    have e : (b * q.1 - g < b * x - g) ↔ q.1 < x := by
      have m := mul_lt_iff (x := q.1) (y := x) hb
      constructor
      · intro h
        exact m.mp (by grind)
      · intro h
        have := m.mpr h
        grind
    by_cases d : q.1 < x
    · rw [eval_hi d]
      show evalQ ((b * p.1 - g, p.2) :: (b * q.1 - g, q.2) :: (b * r.1 - g, r.2) :: strQ b g rest) (b * x - g) = _
      rw [eval_hi (q := (b * q.1 - g, q.2)) (e.mpr d)]
      exact eval_str hb (q :: r :: rest) (by simp) (List.pairwise_cons.mp asc).2
    · rw [eval_lo d]
      show evalQ ((b * p.1 - g, p.2) :: (b * q.1 - g, q.2) :: (b * r.1 - g, r.2) :: strQ b g rest) (b * x - g) = _
      rw [eval_lo (q := (b * q.1 - g, q.2)) (fun z => d (e.mp z))]
      exact height_str hb pq
theorem str_asc {b g : Rat} {ps : List Pt} (hb : 0 < b) (h : AscQ ps) : AscQ (strQ b g ps) := by
  unfold strQ AscQ
  rw [List.pairwise_map]
  refine h.imp fun {p q} z => ?_
  show b * p.1 - g < b * q.1 - g
  have := mul_lt' hb z
  grind
theorem str_len (b g : Rat) (ps : List Pt) : (strQ b g ps).length = ps.length := List.length_map ..
theorem str_at {b g : Rat} {ps : List Pt} {i : Nat} (h : i < ps.length) : ((strQ b g ps).getD i dpt).1 = b * (ps.getD i dpt).1 - g := by
  unfold strQ
  rw [List.getD_eq_getElem?_getD, List.getElem?_map, List.getElem?_eq_getElem h, List.getD_eq_getElem?_getD, List.getElem?_eq_getElem h]
  rfl
theorem zoom_norm {b g lo hi low high : Rat} {ps : List Pt} (hb : 0 < b) (h2 : 2 ≤ ps.length) (asc : AscQ ps) (el : b * low - g = lo) (eh : b * high - g = hi) (lt : low < high) :
    normQ (cutQ (strQ b g (normQ ps)) lo hi) = normQ (strQ b g (cutQ ps low high)) := by
  have n2 := normQ_len h2
  have na := normQ_asc asc
  have lt' : lo < hi := by rw [← el, ← eh]; have := mul_lt' hb lt; grind
  have cl := cut_len ps low high
  have ca := cut_asc asc lt
  refine norm_uniq (cut_len _ lo hi).1 (by rw [str_len]; exact cl.1) (cut_asc (str_asc hb na) lt') (str_asc hb ca) ?_ ?_ fun x x1 x2 => ?_
  · rw [cut_first, str_at (by omega), cut_first, el]
  · rw [cut_last, str_len, str_at (by omega), cut_last, eh]
  · rw [cut_first] at x1
    rw [cut_last] at x2
    have b0 : b ≠ 0 := by grind
    obtain ⟨z, rfl⟩ : ∃ z, x = b * z - g := ⟨(x + g) / b, by grind⟩
    have z1 : low ≤ z := by
      rcases (by grind : low ≤ z ∨ z < low) with w | w
      · exact w
      · have := mul_lt' hb w; grind
    have z2 : z ≤ high := by
      rcases (by grind : z ≤ high ∨ high < z) with w | w
      · exact w
      · have := mul_lt' hb w; grind
    rw [eval_cut (by rw [str_len]; exact n2) (str_asc hb na) lt' x1 x2, eval_str hb _ n2 na, eval_norm z h2 asc, eval_str hb _ cl.1 ca, eval_cut h2 asc lt z1 z2]
/-- the part of an interval behind a digit -/
def zoomQ (b g e : Rat) : Rat := (1 / b) * (g + e)
theorem zoom_eq {b g e : Rat} (hb : 0 < b) : b * zoomQ b g e - g = e := by
  unfold zoomQ
  have : b ≠ 0 := by grind
  grind
theorem zoom_lt {b g e f : Rat} (hb : 0 < b) (h : e < f) : zoomQ b g e < zoomQ b g f := by
  have e1 := zoom_eq (g := g) (e := e) hb
  have e2 := zoom_eq (g := g) (e := f) hb
  rcases (by grind : zoomQ b g e < zoomQ b g f ∨ zoomQ b g f ≤ zoomQ b g e) with w | w
  · exact w
  · rcases (by grind : zoomQ b g f = zoomQ b g e ∨ zoomQ b g f < zoomQ b g e) with z | z
    · rw [z] at e2; grind
    · have := mul_lt' hb z; grind
/-- b times an end, less a digit of the set, reaches at least as far -/
theorem end_mul {d b : Int} (h2 : 2 ≤ b) : (b : Rat) * endQ d b - (d : Rat) = endQ d b := by
  unfold endQ
  have n : ((b - 1 : Int) : Rat) ≠ 0 := fun z => by have : b - 1 = 0 := by exact_mod_cast z
                                                    omega
  rw [Rat.divInt_eq_div]
  have e : ((b - 1 : Int) : Rat) = (b : Rat) - 1 := by rw [Rat.intCast_sub]; rfl
  rw [e] at n ⊢
  grind
theorem int_le {d e : Int} (h : d ≤ e) : (d : Rat) ≤ (e : Rat) := by exact_mod_cast h
theorem int_pos {d : Int} (h : 0 < d) : (0 : Rat) < (d : Rat) := by exact_mod_cast h
theorem zoom_hi {b g d : Int} (h2 : 2 ≤ b) (h : g ≤ d) : zoomQ (b : Rat) (g : Rat) (endQ d b) ≤ endQ d b := by
  have hb := int_pos (show 0 < b by omega)
  have e1 := zoom_eq (g := (g : Rat)) (e := endQ d b) hb
  have e2 := end_mul (d := d) h2
  have i := int_le h
  rcases (by grind : zoomQ (b : Rat) (g : Rat) (endQ d b) ≤ endQ d b ∨ endQ d b < zoomQ (b : Rat) (g : Rat) (endQ d b)) with w | w
  · exact w
  · have := mul_lt' hb w; grind
end Ew
namespace Ew
open PySem PySem.Spec PyProof.Rows L2
/-! ## two ascending lists as one -/
def mergeQ : List Rat → List Rat → List Rat
  | [], bs => bs
  | a :: as, [] => a :: as
  | a :: as, b :: bs => if a < b then a :: mergeQ as (b :: bs) else if a = b then b :: mergeQ as bs else b :: mergeQ (a :: as) bs
termination_by as bs => as.length + bs.length
theorem merge_nil_r (as : List Rat) : mergeQ as [] = as := by
  cases as with
  | nil => rw [mergeQ]
  | cons a as => rw [mergeQ]
theorem merge_lt {a b : Rat} {as bs : List Rat} (h : a < b) : mergeQ (a :: as) (b :: bs) = a :: mergeQ as (b :: bs) := by rw [mergeQ, if_pos h]
theorem merge_eq {b : Rat} {as bs : List Rat} : mergeQ (b :: as) (b :: bs) = b :: mergeQ as bs := by rw [mergeQ, if_neg (by grind), if_pos rfl]
theorem merge_gt {a b : Rat} {as bs : List Rat} (h : ¬ a < b) (n : a ≠ b) : mergeQ (a :: as) (b :: bs) = b :: mergeQ (a :: as) bs := by rw [mergeQ, if_neg h, if_neg n]
theorem merge_mem (x : Rat) : ∀ (as bs : List Rat), x ∈ mergeQ as bs ↔ x ∈ as ∨ x ∈ bs
  | [], bs => by rw [mergeQ]; simp
  | a :: as, [] => by rw [mergeQ]; simp
  | a :: as, b :: bs => by
    by_cases c : a < b
    · rw [merge_lt c, List.mem_cons, merge_mem x as (b :: bs)]
      simp only [List.mem_cons, or_assoc]
    · by_cases e : a = b
      · subst e
        rw [merge_eq, List.mem_cons, merge_mem x as bs]
        simp only [List.mem_cons]
        constructor
        · rintro (h | h | h)
          · exact .inl (.inl h)
          · exact .inl (.inr h)
          · exact .inr (.inr h)
        · rintro ((h | h) | (h | h))
          · exact .inl h
          · exact .inr (.inl h)
          · exact .inl h
          · exact .inr (.inr h)
      · rw [merge_gt c e, List.mem_cons, merge_mem x (a :: as) bs]
        simp only [List.mem_cons]
        constructor
        · rintro (h | (h | h) | h)
          · exact .inr (.inl h)
          · exact .inl (.inl h)
          · exact .inl (.inr h)
          · exact .inr (.inr h)
        · rintro ((h | h) | (h | h))
          · exact .inr (.inl (.inl h))
          · exact .inr (.inl (.inr h))
          · exact .inl h
          · exact .inr (.inr h)
termination_by as bs => as.length + bs.length
theorem merge_asc : ∀ (as bs : List Rat), as.Pairwise (· < ·) → bs.Pairwise (· < ·) → (mergeQ as bs).Pairwise (· < ·)
  | [], bs, _, h => by rw [mergeQ]; exact h
  | a :: as, [], h, _ => by rw [mergeQ]; exact h
  | a :: as, b :: bs, h1, h2 => by
    have p1 := List.pairwise_cons.mp h1
    have p2 := List.pairwise_cons.mp h2
    by_cases c : a < b
    · rw [merge_lt c]
      refine List.pairwise_cons.mpr ⟨fun x hx => ?_, merge_asc as (b :: bs) p1.2 h2⟩
      rcases (merge_mem x as (b :: bs)).mp hx with z | z
      · exact p1.1 x z
      · rcases List.mem_cons.mp z with rfl | z
        · exact c
        · have := p2.1 x z; grind
    · by_cases e : a = b
      · subst e
        rw [merge_eq]
        refine List.pairwise_cons.mpr ⟨fun x hx => ?_, merge_asc as bs p1.2 p2.2⟩
        rcases (merge_mem x as bs).mp hx with z | z
        · exact p1.1 x z
        · exact p2.1 x z
      · rw [merge_gt c e]
        refine List.pairwise_cons.mpr ⟨fun x hx => ?_, merge_asc (a :: as) bs h1 p2.2⟩
        rcases (merge_mem x (a :: as) bs).mp hx with z | z
        · rcases List.mem_cons.mp z with rfl | z
          · grind
          · have := p1.1 x z; grind
        · exact p2.1 x z
termination_by as bs => as.length + bs.length
theorem merge_len : ∀ (as bs : List Rat), (mergeQ as bs).length ≤ as.length + bs.length
  | [], bs => by rw [mergeQ]; simp
  | a :: as, [] => by rw [mergeQ]; simp
  | a :: as, b :: bs => by
    by_cases c : a < b
    · rw [merge_lt c]
      have := merge_len as (b :: bs)
      simp only [List.length_cons] at this ⊢
      omega
    · by_cases e : a = b
      · subst e
        rw [merge_eq]
        have := merge_len as bs
        simp only [List.length_cons] at this ⊢
        omega
      · rw [merge_gt c e]
        have := merge_len (a :: as) bs
        simp only [List.length_cons] at this ⊢
        omega
termination_by as bs => as.length + bs.length
/-! ## functions that are straight between numbers -/
theorem Lin.add {f g : Rat → Rat} {u v : Rat} (uv : u < v) (a : Lin f u v) (b : Lin g u v) : Lin (fun x => f x + g x) u v := by
  intro x x1 x2
  have e1 := a x x1 x2
  have e2 := b x x1 x2
  have : v - u ≠ 0 := by grind
  show f x + g x = f u + g u + (f v + g v - (f u + g u)) / (v - u) * (x - u)
  have e1 : f x = f u + (f v - f u) / (v - u) * (x - u) := e1
  have e2 : g x = g u + (g v - g u) / (v - u) * (x - u) := e2
  rw [e1, e2]
  grind
theorem Lin.sub {f g : Rat → Rat} {u v : Rat} (uv : u < v) (a : Lin f u v) (b : Lin g u v) : Lin (fun x => f x - g x) u v := by
  intro x x1 x2
  have e1 := a x x1 x2
  have e2 := b x x1 x2
  have : v - u ≠ 0 := by grind
  show f x - g x = f u - g u + (f v - g v - (f u - g u)) / (v - u) * (x - u)
  have e1 : f x = f u + (f v - f u) / (v - u) * (x - u) := e1
  have e2 : g x = g u + (g v - g u) / (v - u) * (x - u) := e2
  rw [e1, e2]
  grind
theorem lin_nonneg {d : Rat → Rat} {u v x : Rat} (uv : u < v) (a : Lin d u v) (x1 : u ≤ x) (x2 : x ≤ v) (h1 : 0 ≤ d u) (h2 : 0 ≤ d v) : 0 ≤ d x := by
  have e : d x = d u + (d v - d u) / (v - u) * (x - u) := a x x1 x2
  have n : v - u ≠ 0 := by grind
  have k : d x * (v - u) = d u * (v - x) + d v * (x - u) := by rw [e]; grind
  have p1 : 0 ≤ d u * (v - x) := Rat.mul_nonneg h1 (by grind)
  have p2 : 0 ≤ d v * (x - u) := Rat.mul_nonneg h2 (by grind)
  rcases (by grind : 0 ≤ d x ∨ d x < 0) with z | z
  · exact z
  · have : 0 < (0 - d x) * (v - u) := Rat.mul_pos (by grind) (by grind)
    grind
def maxR (a b : Rat) : Rat := if a < b then b else a
def minR (a b : Rat) : Rat := if b < a then b else a
theorem Lin.congr {f g : Rat → Rat} {u v : Rat} (uv : u < v) (a : Lin f u v) (h : ∀ x, u ≤ x → x ≤ v → g x = f x) : Lin g u v := by
  intro x x1 x2
  rw [h x x1 x2, h u Rat.le_refl (by grind), h v (by grind) Rat.le_refl]
  exact a x x1 x2
theorem lin_choice {f g : Rat → Rat} {u v : Rat} (uv : u < v) (a : Lin f u v) (b : Lin g u v) (n1 : ¬ (f u - g u < 0 ∧ 0 < f v - g v)) (n2 : ¬ (0 < f u - g u ∧ f v - g v < 0)) : Lin (fun x => maxR (f x) (g x)) u v ∧ Lin (fun x => minR (f x) (g x)) u v := by
  rcases (by grind : (0 ≤ f u - g u ∧ 0 ≤ f v - g v) ∨ (0 ≤ g u - f u ∧ 0 ≤ g v - f v)) with z | z
  · have nn : ∀ x, u ≤ x → x ≤ v → 0 ≤ f x - g x := fun x x1 x2 => lin_nonneg (d := fun x => f x - g x) uv (a.sub uv b) x1 x2 z.1 z.2
    refine ⟨a.congr uv fun x x1 x2 => ?_, b.congr uv fun x x1 x2 => ?_⟩
    · have := nn x x1 x2
      unfold maxR
      rw [if_neg (by grind)]
    · have := nn x x1 x2
      unfold minR
      split <;> grind
  · have nn : ∀ x, u ≤ x → x ≤ v → 0 ≤ g x - f x := fun x x1 x2 => lin_nonneg (d := fun x => g x - f x) uv (b.sub uv a) x1 x2 z.1 z.2
    refine ⟨b.congr uv fun x x1 x2 => ?_, a.congr uv fun x x1 x2 => ?_⟩
    · have := nn x x1 x2
      unfold maxR
      split <;> grind
    · have := nn x x1 x2
      unfold minR
      rw [if_neg (by grind)]
/-! ## no change of sign between -/
theorem nums_sign {D : List Pt} (d2 : 2 ≤ D.length) (da : AscQ D) {u v : Rat} (uv : u < v) (no : ∀ z ∈ numsQ (crossQ [0]) D, ¬ (u < z ∧ z < v)) (lo : (D.getD 0 dpt).1 ≤ u) (hi : v ≤ (D.getD (D.length - 1) dpt).1) : ¬ (evalQ D u < 0 ∧ 0 < evalQ D v) ∧ ¬ (0 < evalQ D u ∧ evalQ D v < 0) := by
  obtain ⟨p, q, hp, hq, hz, pq, pu, vq, ev⟩ := nums_piece (f := crossQ [0]) D u v d2 da lo uv hi fun p hp => no _ (nums_corner D p hp)
  rw [ev u Rat.le_refl (by grind), ev v (by grind) Rat.le_refl]
  have e : ∀ y, heightQ p q y = p.2 + (q.2 - p.2) / (q.1 - p.1) * (y - p.1) := fun y => rfl
  have d0 : q.1 - p.1 ≠ 0 := by grind
  by_cases c : p.2 = q.2
  · have ec : ∀ y, heightQ p q y = p.2 := fun y => by rw [e, c]; grind
    rw [ec, ec]
    constructor <;> grind
  · have inv : ∀ y, invQ p q (heightQ p q y) = y := fun y => by
      rw [inv_eq, e]
      have : q.2 - p.2 ≠ 0 := by grind
      grind
    have con : u < invQ p q 0 → invQ p q 0 < v → False := fun a b => no _ (hz _ (cross_has pq c (List.mem_singleton.mpr rfl) (by grind) (by grind))) ⟨a, b⟩
    by_cases d : p.2 < q.2
    · refine ⟨fun z => ?_, fun z => ?_⟩
      · have z1 := inv_lt_up pq d z.1
        have z2 := inv_lt_up pq d z.2
        rw [inv] at z1 z2
        exact con z1 z2
      · have z1 := inv_lt_up pq d z.1
        have z2 := inv_lt_up pq d z.2
        rw [inv] at z1 z2
        grind
    · have d' : q.2 < p.2 := by grind
      refine ⟨fun z => ?_, fun z => ?_⟩
      · have z1 := inv_lt_down pq d' z.1
        have z2 := inv_lt_down pq d' z.2
        rw [inv] at z1 z2
        grind
      · have z1 := inv_lt_down pq d' z.1
        have z2 := inv_lt_down pq d' z.2
        rw [inv] at z1 z2
        first
        | exact con z2 z1
        | exact con z1 z2
/-! ## the numbers of two functions -/
def bothQ (F G : List Pt) : List Rat := mergeQ (F.map (·.1)) (G.map (·.1))
def difQ (F G : List Pt) : List Pt := onQ (fun x => evalQ F x - evalQ G x) (bothQ F G)
def allQ (F G : List Pt) : List Rat := numsQ (crossQ [0]) (difQ F G)
section
variable {F G : List Pt} (f2 : 2 ≤ F.length) (fa : AscQ F) (g2 : 2 ≤ G.length) (ga : AscQ G) (e1 : (G.getD 0 dpt).1 = (F.getD 0 dpt).1) (e2 : (G.getD (G.length - 1) dpt).1 = (F.getD (F.length - 1) dpt).1)
include f2 fa g2 ga e1 e2
theorem both_asc : (bothQ F G).Pairwise (· < ·) := merge_asc _ _ (asc_fst.mp fa) (asc_fst.mp ga)
theorem both_bd {x : Rat} (h : x ∈ bothQ F G) : (F.getD 0 dpt).1 ≤ x ∧ x ≤ (F.getD (F.length - 1) dpt).1 := by
  rcases (merge_mem x _ _).mp h with z | z
  · obtain ⟨p, hp, rfl⟩ := List.mem_map.mp z
    exact ⟨first_le fa hp, le_last fa hp⟩
  · obtain ⟨p, hp, rfl⟩ := List.mem_map.mp z
    rw [← e1, ← e2]
    exact ⟨first_le ga hp, le_last ga hp⟩
theorem dif_first : ((difQ F G).getD 0 dpt).1 = (F.getD 0 dpt).1 := by
  refine asc_min (on_asc (both_asc f2 fa g2 ga e1 e2)) ?_ fun a ha => ?_
  · exact ⟨_, List.mem_map.mpr ⟨_, (merge_mem _ _ _).mpr (.inl (List.mem_map.mpr ⟨_, getD_memP (by omega : 0 < F.length), rfl⟩)), rfl⟩, rfl⟩
  · obtain ⟨x, hx, rfl⟩ := List.mem_map.mp ha
    exact (both_bd f2 fa g2 ga e1 e2 hx).1
theorem dif_last : ((difQ F G).getD ((difQ F G).length - 1) dpt).1 = (F.getD (F.length - 1) dpt).1 := by
  refine asc_max (on_asc (both_asc f2 fa g2 ga e1 e2)) ?_ fun a ha => ?_
  · exact ⟨_, List.mem_map.mpr ⟨_, (merge_mem _ _ _).mpr (.inl (List.mem_map.mpr ⟨_, getD_memP (by omega : F.length - 1 < F.length), rfl⟩)), rfl⟩, rfl⟩
  · obtain ⟨x, hx, rfl⟩ := List.mem_map.mp ha
    exact (both_bd f2 fa g2 ga e1 e2 hx).2
theorem dif_two : 2 ≤ (difQ F G).length := by
  have f := dif_first f2 fa g2 ga e1 e2
  have l := dif_last f2 fa g2 ga e1 e2
  have lt := asc_at fa (i := 0) (j := F.length - 1) (by omega) (by omega)
  rcases Nat.lt_or_ge (difQ F G).length 2 with c | c
  · rcases (by omega : (difQ F G).length = 0 ∨ (difQ F G).length = 1) with z | z
    · have m : F.getD 0 dpt ∈ F := getD_memP (by omega)
      have : (F.getD 0 dpt).1 ∈ bothQ F G := (merge_mem _ _ _).mpr (.inl (List.mem_map.mpr ⟨_, m, rfl⟩))
      have : 0 < (bothQ F G).length := List.length_pos_of_mem this
      have e : (difQ F G).length = (bothQ F G).length := on_len _ _
      omega
    · rw [z] at l
      rw [f] at l
      grind
  · exact c
theorem both_lin {u v : Rat} (uv : u < v) (no : ∀ z ∈ bothQ F G, ¬ (u < z ∧ z < v)) : Lin (evalQ F) u v ∧ Lin (evalQ G) u v := by
  constructor
  · intro x x1 x2
    exact eval_lin F u v x f2 fa uv (fun p hp => no _ ((merge_mem _ _ _).mpr (.inl (List.mem_map.mpr ⟨p, hp, rfl⟩)))) x1 x2
  · intro x x1 x2
    exact eval_lin G u v x g2 ga uv (fun p hp => no _ ((merge_mem _ _ _).mpr (.inr (List.mem_map.mpr ⟨p, hp, rfl⟩)))) x1 x2
theorem both_last : (bothQ F G).getLast? = some (F.getD (F.length - 1) dpt).1 := by
  have l := dif_last f2 fa g2 ga e1 e2
  have t := dif_two f2 fa g2 ga e1 e2
  have e : (difQ F G).length = (bothQ F G).length := on_len _ _
  rw [List.getLast?_eq_getElem?, ← l, e]
  unfold difQ onQ
  rw [List.getD_eq_getElem?_getD, List.getElem?_map, List.getElem?_eq_getElem (by omega : (bothQ F G).length - 1 < (bothQ F G).length)]
  rfl
theorem both_head : (bothQ F G).headD 0 = (F.getD 0 dpt).1 := by
  have f := dif_first f2 fa g2 ga e1 e2
  have t := dif_two f2 fa g2 ga e1 e2
  have e : (difQ F G).length = (bothQ F G).length := on_len _ _
  rw [← f]
  unfold difQ onQ
  match h : bothQ F G with
  | [] => rw [h] at e; rw [e] at t; exact absurd t (by simp)
  | a :: as => rfl
theorem both_eval {h : Rat → Rat} (hl : ∀ u v, u < v → Lin (evalQ F) u v → Lin (evalQ G) u v → Lin h u v) {x : Rat} (x1 : (F.getD 0 dpt).1 ≤ x) (x2 : x ≤ (F.getD (F.length - 1) dpt).1) : evalQ (onQ h (bothQ F G)) x = h x := by
  have e : (difQ F G).length = (bothQ F G).length := on_len _ _
  refine eval_glue _ _ x (by have := dif_two f2 fa g2 ga e1 e2; omega) (both_asc f2 fa g2 ga e1 e2) (fun u v _ _ uv no => ?_) (both_last f2 fa g2 ga e1 e2) (by rw [both_head f2 fa g2 ga e1 e2]; exact x1) x2
  have z := both_lin f2 fa g2 ga e1 e2 uv no
  exact hl u v uv z.1 z.2
theorem dif_eval {x : Rat} (x1 : (F.getD 0 dpt).1 ≤ x) (x2 : x ≤ (F.getD (F.length - 1) dpt).1) : evalQ (difQ F G) x = evalQ F x - evalQ G x :=
  both_eval f2 fa g2 ga e1 e2 (h := fun x => evalQ F x - evalQ G x) (fun u v uv a b => a.sub uv b) x1 x2
theorem dif_asc : AscQ (difQ F G) := on_asc (both_asc f2 fa g2 ga e1 e2)
theorem all_asc : (allQ F G).Pairwise (· < ·) := nums_asc cross_in (fun p q h => cross_asc h (List.pairwise_singleton ..)) _ (dif_asc f2 fa g2 ga e1 e2)
theorem all_both {x : Rat} (h : x ∈ bothQ F G) : x ∈ allQ F G := nums_corner (difQ F G) _ (List.mem_map.mpr ⟨x, h, rfl⟩)
theorem all_bd {x : Rat} (h : x ∈ allQ F G) : (F.getD 0 dpt).1 ≤ x ∧ x ≤ (F.getD (F.length - 1) dpt).1 := by
  have da := dif_asc f2 fa g2 ga e1 e2
  have t := dif_two f2 fa g2 ga e1 e2
  have a := nums_ge cross_in _ da x h
  have b := nums_le cross_in (fun p q h => cross_asc h (List.pairwise_singleton ..)) (by omega) da x h
  rw [dif_first f2 fa g2 ga e1 e2] at a
  rw [dif_last f2 fa g2 ga e1 e2] at b
  exact ⟨a, b⟩
theorem all_lin {u v : Rat} (hu : u ∈ allQ F G) (hv : v ∈ allQ F G) (uv : u < v) (no : ∀ z ∈ allQ F G, ¬ (u < z ∧ z < v)) : Lin (fun x => maxR (evalQ F x) (evalQ G x)) u v ∧ Lin (fun x => minR (evalQ F x) (evalQ G x)) u v := by
  have da := dif_asc f2 fa g2 ga e1 e2
  have t := dif_two f2 fa g2 ga e1 e2
  have bu := all_bd f2 fa g2 ga e1 e2 hu
  have bv := all_bd f2 fa g2 ga e1 e2 hv
  have l := both_lin f2 fa g2 ga e1 e2 uv fun z hz => no z (all_both f2 fa g2 ga e1 e2 hz)
  have s := nums_sign t da uv no (by rw [dif_first f2 fa g2 ga e1 e2]; exact bu.1) (by rw [dif_last f2 fa g2 ga e1 e2]; exact bv.2)
  rw [dif_eval f2 fa g2 ga e1 e2 bu.1 bu.2, dif_eval f2 fa g2 ga e1 e2 bv.1 bv.2] at s
  exact lin_choice uv l.1 l.2 s.1 s.2
theorem all_two : 2 ≤ (allQ F G).length := by
  have t := dif_two f2 fa g2 ga e1 e2
  unfold allQ
  match h : difQ F G with
  | [] => rw [h] at t; exact absurd t (by simp)
  | [p] => rw [h] at t; exact absurd t (by simp)
  | p :: q :: rest =>
    have : 1 ≤ (numsQ (crossQ [0]) (q :: rest)).length := List.length_pos_of_mem (nums_corner (q :: rest) q (List.mem_cons_self ..))
    show 2 ≤ (p.1 :: (_ ++ _)).length
    rw [List.length_cons, List.length_append]
    omega
theorem all_last : (allQ F G).getLast? = some (F.getD (F.length - 1) dpt).1 := by
  have t := dif_two f2 fa g2 ga e1 e2
  unfold allQ
  rw [nums_last (difQ F G) (by omega), dif_last f2 fa g2 ga e1 e2]
theorem all_head : (allQ F G).headD 0 = (F.getD 0 dpt).1 := by
  have t := dif_two f2 fa g2 ga e1 e2
  rw [← dif_first f2 fa g2 ga e1 e2]
  unfold allQ
  match h : difQ F G with
  | [] => rw [h] at t; exact absurd t (by simp)
  | [p] => rfl
  | p :: q :: rest => rfl
theorem all_eval {h : Rat → Rat} (hl : ∀ u v, u < v → Lin (fun x => maxR (evalQ F x) (evalQ G x)) u v → Lin (fun x => minR (evalQ F x) (evalQ G x)) u v → Lin h u v) {x : Rat} (x1 : (F.getD 0 dpt).1 ≤ x) (x2 : x ≤ (F.getD (F.length - 1) dpt).1) : evalQ (onQ h (allQ F G)) x = h x := by
  refine eval_glue _ _ x (all_two f2 fa g2 ga e1 e2) (all_asc f2 fa g2 ga e1 e2) (fun u v hu hv uv no => ?_) (all_last f2 fa g2 ga e1 e2) (by rw [all_head f2 fa g2 ga e1 e2]; exact x1) x2
  have z := all_lin f2 fa g2 ga e1 e2 hu hv uv no
  exact hl u v uv z.1 z.2
end
/-! ## one crossing -/
theorem cross_zero {p q : Pt} : crossQ [0] p q = if 0 ≤ p.2.num * q.2.num then [] else [invQ p q 0] := by
  have sp : (0 < p.2.num ↔ 0 < p.2) := num_pos
  have sq : (0 < q.2.num ↔ 0 < q.2) := num_pos
  have np : (p.2.num < 0 ↔ p.2 < 0) := by rw [Rat.lt_iff]; simp
  have nq : (q.2.num < 0 ↔ q.2 < 0) := by rw [Rat.lt_iff]; simp
  unfold crossQ
  by_cases c : 0 ≤ p.2.num * q.2.num
  · rw [if_pos c]
    have no : ¬ (p.2 < 0 ∧ 0 < q.2) ∧ ¬ (q.2 < 0 ∧ 0 < p.2) := by
      constructor
      · rintro ⟨a, b⟩
        have := Int.mul_neg_of_neg_of_pos (np.mpr a) (sq.mpr b)
        omega
      · rintro ⟨a, b⟩
        have := Int.mul_neg_of_pos_of_neg (sp.mpr b) (nq.mpr a)
        omega
    by_cases d : p.2 < q.2
    · rw [if_pos d, List.filter_cons, if_neg (by simp; grind)]
      rfl
    · rw [if_neg d]
      show (List.filter _ [0]).map _ = []
      rw [List.filter_cons, if_neg (by simp; grind)]
      rfl
  · rw [if_neg c]
    have yes : (p.2 < 0 ∧ 0 < q.2) ∨ (q.2 < 0 ∧ 0 < p.2) := by
      rcases (by omega : p.2.num < 0 ∨ p.2.num = 0 ∨ 0 < p.2.num) with a | a | a
      · rcases (by omega : q.2.num < 0 ∨ q.2.num = 0 ∨ 0 < q.2.num) with b | b | b
        · have := Int.mul_pos_of_neg_of_neg a b; omega
        · rw [b, Int.mul_zero] at c; omega
        · exact .inl ⟨np.mp a, sq.mp b⟩
      · rw [a, Int.zero_mul] at c; omega
      · rcases (by omega : q.2.num < 0 ∨ q.2.num = 0 ∨ 0 < q.2.num) with b | b | b
        · exact .inr ⟨nq.mp b, sp.mp a⟩
        · rw [b, Int.mul_zero] at c; omega
        · have := Int.mul_pos a b; omega
    rcases yes with y | y
    · rw [if_pos (by grind), List.filter_cons, if_pos (by simp [y.1, y.2])]
      rfl
    · rw [if_neg (by grind)]
      show (List.filter _ [0]).map _ = _
      rw [List.filter_cons, if_pos (by simp [y.1, y.2])]
      rfl
end Ew
namespace Ew
open PySem PySem.Spec PyProof.Rows L2
/-! ## rows of two functions -/
abbrev Rw := Rat × Rat × Rat
def drw : Rw := (0, 0, 0)
def RowAt (H : Hp) (v : V) (r : Rw) : Prop := ∃ (t : Addr) (a b c : V), v = .ref t ∧ H t = some (.tup [a, b, c]) ∧ QAt H a r.1 ∧ QAt H b r.2.1 ∧ QAt H c r.2.2
theorem RowAt.kp {H G : Hp} {v : V} {r : Rw} (h : RowAt H v r) (k : Kp H G) : RowAt G v r := by
  obtain ⟨t, a, b, c, rfl, ht, ha, hb, hc⟩ := h
  exact ⟨t, a, b, c, rfl, k.t ht, ha.kp k, hb.kp k, hc.kp k⟩
theorem rows_kp {H G : Hp} (k : Kp H G) : ∀ {ws : List V} {rs : List Rw}, All2 (RowAt H) ws rs → All2 (RowAt G) ws rs := fun h => h.imp fun _ _ z => z.kp k
def rwQ (f g : Rat → Rat) (x : Rat) : Rw := (x, f x, g x)
def rowsQ (f g : Rat → Rat) (xs : List Rat) : List Rw := xs.map (rwQ f g)
def crsX (l r : Rw) : Rat := invQ (l.1, l.2.1 - l.2.2) (r.1, r.2.1 - r.2.2) 0
def crsY (l r : Rw) : Rat := heightQ (l.1, l.2.1) (r.1, r.2.1) (crsX l r)
def crsR (l r : Rw) : List Rw := if 0 ≤ (l.2.1 - l.2.2).num * (r.2.1 - r.2.2).num then [] else [(crsX l r, crsY l r, crsY l r)]
def withR : List Rw → List Rw
  | l :: r :: rest => l :: (crsR l r ++ withR (r :: rest))
  | [l] => [l]
  | [] => []
theorem crs_row {f g : Rat → Rat} {u v : Rat} (uv : u < v) (a : Lin f u v) (b : Lin g u v) : crsR (rwQ f g u) (rwQ f g v) = rowsQ f g (crossQ [0] (u, f u - g u) (v, f v - g v)) := by
  rw [cross_zero]
  unfold crsR
  show (if 0 ≤ (f u - g u).num * (f v - g v).num then [] else _) = rowsQ f g (if 0 ≤ (f u - g u).num * (f v - g v).num then [] else [invQ (u, f u - g u) (v, f v - g v) 0])
  by_cases c : 0 ≤ (f u - g u).num * (f v - g v).num
  · rw [if_pos c, if_pos c]; rfl
  · rw [if_neg c, if_neg c]
    have m : invQ (u, f u - g u) (v, f v - g v) 0 ∈ crossQ [0] (u, f u - g u) (v, f v - g v) := by
      rw [cross_zero]
      show _ ∈ (if 0 ≤ (f u - g u).num * (f v - g v).num then [] else [invQ (u, f u - g u) (v, f v - g v) 0])
      rw [if_neg c]
      exact List.mem_singleton.mpr rfl
    obtain ⟨z, hz, e, n, l, r⟩ := cross_mem (p := (u, f u - g u)) (q := (v, f v - g v)) uv m
    have n : f u - g u ≠ f v - g v := n
    have l : u < invQ (u, f u - g u) (v, f v - g v) 0 := l
    have r : invQ (u, f u - g u) (v, f v - g v) 0 < v := r
    have bk := inv_back (p := (u, f u - g u)) (q := (v, f v - g v)) (c := 0) uv n
    show [(invQ (u, f u - g u) (v, f v - g v) 0, heightQ (u, f u) (v, f v) (invQ (u, f u - g u) (v, f v - g v) 0), heightQ (u, f u) (v, f v) (invQ (u, f u - g u) (v, f v - g v) 0))] = [(invQ (u, f u - g u) (v, f v - g v) 0, f (invQ (u, f u - g u) (v, f v - g v) 0), g (invQ (u, f u - g u) (v, f v - g v) 0))]
    generalize invQ (u, f u - g u) (v, f v - g v) 0 = x at l r bk
    have ef := a x (by grind) (by grind)
    have eg := b x (by grind) (by grind)
    have d : v - u ≠ 0 := by grind
    have bk : f u - g u + (f v - g v - (f u - g u)) / (v - u) * (x - u) = 0 := bk
    have ef' : f x = f u + (f v - f u) / (v - u) * (x - u) := ef
    have eg' : g x = g u + (g v - g u) / (v - u) * (x - u) := eg
    have fg : f x = g x := by rw [ef', eg']; grind
    rw [← ef, ← fg]
theorem with_rows {f g : Rat → Rat} : ∀ (pre xs : List Rat), (∀ u v, u < v → (∀ z ∈ pre ++ xs, ¬ (u < z ∧ z < v)) → Lin f u v ∧ Lin g u v) → (pre ++ xs).Pairwise (· < ·) → withR (rowsQ f g xs) = rowsQ f g (numsQ (crossQ [0]) (onQ (fun x => f x - g x) xs))
  | _, [], _, _ => rfl
  | _, [x], _, _ => rfl
  | pre, x :: y :: rest, lin, asc => by
    have e : pre ++ x :: y :: rest = (pre ++ [x]) ++ (y :: rest) := by simp
    have p := List.pairwise_append.mp asc
    have p2 := List.pairwise_cons.mp p.2.1
    have p3 := List.pairwise_cons.mp p2.2
    have xy := p2.1 y (by simp)
    have ih := with_rows (f := f) (g := g) (pre ++ [x]) (y :: rest) (by rw [← e]; exact lin) (by rw [← e]; exact asc)
    have L := lin x y xy fun z hz => by
      rcases List.mem_append.mp hz with h | h
      · have := p.2.2 z h x (by simp)
        grind
      · rcases List.mem_cons.mp h with rfl | h
        · grind
        · rcases List.mem_cons.mp h with rfl | h
          · grind
          · have := p3.1 z h
            grind
    show rwQ f g x :: (crsR (rwQ f g x) (rwQ f g y) ++ withR (rowsQ f g (y :: rest))) = rwQ f g x :: rowsQ f g (crossQ [0] (x, f x - g x) (y, f y - g y) ++ numsQ (crossQ [0]) (onQ (fun x => f x - g x) (y :: rest)))
    rw [ih, crs_row xy L.1 L.2]
    unfold rowsQ
    rw [List.map_append]
theorem with_all {F G : List Pt} (f2 : 2 ≤ F.length) (fa : AscQ F) (g2 : 2 ≤ G.length) (ga : AscQ G) (e1 : (G.getD 0 dpt).1 = (F.getD 0 dpt).1) (e2 : (G.getD (G.length - 1) dpt).1 = (F.getD (F.length - 1) dpt).1) : withR (rowsQ (evalQ F) (evalQ G) (bothQ F G)) = rowsQ (evalQ F) (evalQ G) (allQ F G) :=
  with_rows [] (bothQ F G) (fun u v uv no => both_lin f2 fa g2 ga e1 e2 uv no) (both_asc f2 fa g2 ga e1 e2)
theorem withR_drop {rs : List Rw} {i : Nat} (h : i + 1 < rs.length) : withR (rs.drop i) = rs.getD i drw :: (crsR (rs.getD i drw) (rs.getD (i + 1) drw) ++ withR (rs.drop (i + 1))) := by
  rw [List.drop_eq_getElem_cons (by omega : i < rs.length), List.drop_eq_getElem_cons h]
  show _ :: _ = _
  rw [List.getD_eq_getElem?_getD, List.getElem?_eq_getElem (by omega : i < rs.length), List.getD_eq_getElem?_getD, List.getElem?_eq_getElem h]
  rfl
theorem withR_last {rs : List Rw} {i : Nat} (h : i + 1 = rs.length) : withR (rs.drop i) = [rs.getD i drw] := by
  rw [List.drop_eq_getElem_cons (by omega : i < rs.length), List.drop_of_length_le (by omega), List.getD_eq_getElem?_getD, List.getElem?_eq_getElem (by omega : i < rs.length)]
  rfl
theorem withR_len : ∀ (rs : List Rw), (withR rs).length ≤ rs.length + rs.length
  | [] => by simp [withR]
  | [l] => by simp [withR]
  | l :: r :: rest => by
    have := withR_len (r :: rest)
    have c : (crsR l r).length ≤ 1 := by unfold crsR; split <;> simp
    show (l :: (crsR l r ++ withR (r :: rest))).length ≤ _
    simp only [List.length_cons, List.length_append] at this ⊢
    omega
theorem withR_head : ∀ (rs : List Rw), 1 ≤ rs.length → withR rs = rs.getD 0 drw :: (withR rs).tail
  | [], h => nomatch h
  | [l], _ => rfl
  | l :: r :: rest, _ => rfl
/-- the sizes of a crossing -/
theorem crsX_sz {n m : Nat} {l r : Rw} (l1 : Sz n l.1) (l2 : Sz m l.2.1) (l3 : Sz m l.2.2) (r1 : Sz n r.1) (r2 : Sz m r.2.1) (r3 : Sz m r.2.2) (h : l.2.1 - l.2.2 ≠ r.2.1 - r.2.2) : Sz (n + (n + n + 1 + (m + m + 1 + (m + m + 1) + 1) + (1 + (m + m + 1) + 1)) + 1) (crsX l r) := by
  have e : crsX l r = l.1 + (r.1 - l.1) / (r.2.1 - r.2.2 - (l.2.1 - l.2.2)) * (0 - (l.2.1 - l.2.2)) := rfl
  rw [e]
  have z0 : Sz 1 0 := ⟨by decide, by decide⟩
  exact l1.add (((r1.sub l1).div ((r2.sub r3).sub (l2.sub l3)) (by grind)).mul (z0.sub (l2.sub l3)))
theorem all_len {F G : List Pt} : (allQ F G).length ≤ (F.length + G.length) + (F.length + G.length) := by
  have := nums_len (f := crossQ [0]) (cross_len [0]) (difQ F G)
  have e : (difQ F G).length = (bothQ F G).length := on_len _ _
  have m := merge_len (F.map (·.1)) (G.map (·.1))
  rw [List.length_map, List.length_map] at m
  have m : (bothQ F G).length ≤ F.length + G.length := m
  have this : (allQ F G).length ≤ (difQ F G).length * 2 := this
  omega
end Ew
namespace Ew
open PySem PySem.Spec PyProof.Rows L2 PySem.W LamX
/-! ## a lambda whose own name is one of the def's names, too: its slot is hidden -/
structure LamM (N : List Str) (s0 sc : Scope) (μ : L2.St → L2.St) : Prop where
  kind : sc.kind = .function
  co : sc.isCoroutine = false
  gen : sc.isGenerator = false
  own : ∀ y ∈ sc.names, y.2 ≠ .cell
  free : ∀ y ∈ sc.names, y.2 = .free → s0.names.lookup y.1 = some .cell ∨ s0.names.lookup y.1 = some .free
  len : ∀ σ : L2.St, (μ σ).length = σ.length
  msk : ∀ (σ : L2.St) (i : Nat) (v : V), (μ σ)[i]? = some (some v) → σ[i]? = some (some v) ∧ ∀ y, N[i]? = some y → sc.names.lookup y ≠ some .local
def hide (n : Nat) (σ : L2.St) : L2.St := σ.set n none
def lamMB (N : List Str) (s0 sc : Scope) (n : Nat) : Bool :=
  decide (sc.kind = .function) && (!sc.isCoroutine && (!sc.isGenerator && ((sc.names.all fun y => (!decide (y.2 = .cell)) && (!decide (y.2 = .free) || (decide (s0.names.lookup y.1 = some .cell) || decide (s0.names.lookup y.1 = some .free)))) && (List.range N.length).all fun i => decide (i = n) || !decide (sc.names.lookup (N.getD i "") = some .local))))
theorem lamM_by {N : List Str} {s0 sc : Scope} {n : Nat} (h : lamMB N s0 sc n = true) : LamM N s0 sc (hide n) := by
  unfold lamMB at h
  simp only [Bool.and_eq_true, Bool.or_eq_true, Bool.not_eq_true', decide_eq_true_eq, decide_eq_false_iff_not, List.all_eq_true] at h
  obtain ⟨a1, a2, a3, a4, a5⟩ := h
  refine ⟨a1, a2, a3, fun y hy => (a4 y hy).1, fun y hy e => ?_, fun σ => List.length_set .., fun σ i v e => ?_⟩
  · rcases (a4 y hy).2 with z | z
    · exact absurd e z
    · exact z
  · unfold hide at e
    by_cases c : n = i
    · subst c
      rw [List.getElem?_set] at e
      simp at e
    · rw [List.getElem?_set_ne c] at e
      refine ⟨e, fun y hy z => ?_⟩
      have hi : i < N.length := (List.getElem?_eq_some_iff.mp hy).1
      rcases a5 i (List.mem_range.mpr hi) with w | w
      · exact c w.symm
      · rw [List.getD_eq_getElem?_getD, hy] at w
        exact w z
section
variable {X : Cx} {pins : List (Addr × Obj)} {σ : L2.St} {H HZ : Hp} {s s1 : Shared}
theorem LamM.has {N : List Str} {sc : Scope} {μ : L2.St → L2.St} (L : LamM N X.env.scope sc μ) (ok : X.Ok) : ∀ y ∈ sc.names, y.2 = .free → ∃ c, X.env.cells.lookup y.1 = some c := fun y hy e => (L.free y hy e).elim (fun k => ok.has _ (.inl k)) (fun k => ok.has _ (.inr k))
theorem lam_startM {A : Around} {outer : List Env} {E : XK} {sc : Scope} {μ : L2.St → L2.St} {f c' : Addr} {g : Heap} {tk : Nat} {bs : List (Str × Value)} (I : Inv X pins σ H s) (L : LamM X.N X.env.scope sc μ) (e0 : Env0 X.prog X.w X.K X.mg X.base A outer s1 HZ) (hd : A.handled = none)
    (un : Un (frs X.stack) [] H HZ s.heap s1.heap) (hns : g.Ns s1.heap.objs.size fun y => bs.reverse.lookup y) (kp : ∀ b o, s1.heap.get? b = some o → g.get? b = some o) :
    Inv (lamCx X A outer s1 HZ E sc f c') [] (μ σ) HZ { s1 with heap := g, toks := tk } := by
  have hfree := L.has I.ok
  have cm : ∀ {y c}, (cloFrom X.env.cells sc.names []).lookup y = some c → X.env.cells.lookup y = some c := fun {y c} e => by
    rcases cloFrom_mem (PySem.mem_of_lookup e) with hm | ⟨h1, h2⟩
    · cases hm
    · obtain ⟨c1, hc⟩ := hfree _ h1 rfl
      have hc : X.env.cells.lookup y = some c1 := hc
      have e2 : c = c1 := by rw [h2, hc] <;> rfl
      rw [e2]; exact hc
  have look : ∀ {y}, sc.names.lookup y = some .free → ∃ c, (cloFrom X.env.cells sc.names []).lookup y = some c := fun {y} hl => mem_lookup (cloFrom_has (cells := X.env.cells) (acc := []) (PySem.mem_of_lookup hl))
  have cellK : ∀ {c : Addr} {v : Option Value}, H c = none → s.heap.IsCell c v → g.IsCell c v := fun {c v} n ⟨o, ho, hd⟩ => by
    obtain ⟨sl, q⟩ := un.any ho n (by simp)
    exact ⟨_, kp _ _ q, hd⟩
  have noA : ∀ b : Addr, b ∉ (lamCx X A outer s1 HZ E sc f c').ex := fun b z => absurd (show b ∈ ([] : List Addr) from z) (by simp)
  refine ⟨⟨e0.mod, L.kind, rfl, rfl, Nat.le_refl _, fun y z c e1 e2 => I.ok.inj y z c (cm e1) (cm e2), fun y hy => ?_, fun y c z _ => ?_, fun _ => hd, Around.frames_deeper e0.frames, .inr ⟨rfl, rfl⟩, fun b z => absurd z (noA b), e0.bs, e0.bsz, fun b _ _ => noA b,
      fun b z => absurd z (noA b), e0.funs, e0.frf⟩,
    rfl, e0.bare, Un.kept kp, ⟨_, hns, fun i y v e1 e2 e3 => ?_⟩, fun y c e => ?_, e0.hok.fresh (Nat.le_refl _), fun y c e => ?_, fun q hq => absurd (show q ∈ ([] : List (Addr × Obj)) ++ [] from hq) (by simp), e0.hok.kept kp, (L.len σ).trans I.len⟩
  · have hy : sc.names.lookup y = some .cell ∨ sc.names.lookup y = some .free := hy
    rcases hy with hy | hy
    · exact absurd rfl (L.own _ (PySem.mem_of_lookup hy))
    · exact look hy
  · have z : false = true := z
    cases z
  · have e3 : Vis sc y := e3
    rcases e3 with k | k | k
    · exact absurd k ((L.msk σ i v e2).2 y e1)
    · exact absurd rfl (L.own _ (PySem.mem_of_lookup k))
    · obtain ⟨m, hn, hl⟩ := I.loc
      have hvis : Vis X.env.scope y := (L.free _ (PySem.mem_of_lookup k) rfl).elim (fun k => .inr (.inl k)) (fun k => .inr (.inr k))
      obtain ⟨w', r, q⟩ := hl i y v e1 (L.msk σ i v e2).1 hvis
      obtain ⟨c2, h2⟩ := look k
      refine ⟨w', r, .inr ⟨.inr k, c2, h2, ?_⟩⟩
      have c1 := cm h2
      rcases q with ⟨k', _⟩ | ⟨_, c3, e', z⟩
      · have k' : X.env.scope.names.lookup y = some .local := k'
        rcases L.free _ (PySem.mem_of_lookup k) rfl with k2 | k2 <;> rw [show X.env.scope.names.lookup y = _ from k2] at k' <;> cases k'
      · rw [c1] at e'; cases e'; exact cellK (I.freeC y _ c1) z
  · obtain ⟨w', z⟩ := I.cell y c (cm e)
    exact ⟨w', cellK (I.freeC y c (cm e)) z⟩
  · obtain ⟨v, o, ho, hd⟩ := I.cell y c (cm e)
    exact un.free c o ho (I.freeC y c (cm e)) (by simp)
/-- a(), in a def that has the lambda, however it came there -/
theorem pe_actM {CXg : CXT} {Eg : XK} {Ng : List Str} {qg : Str} {sg : Scope} {g f c' : Addr} {cdg dV pm ctv : Value} {pr : Arguments} {bd : Expr} {sc : Scope} {μ : L2.St → L2.St} {k i : Nat} {a : Str} {pn : List (Addr × Obj)} {xe : Value → Shared → Prop} {W : WX} {E : XK} {tb : TE} {p1 p2 : Pos}
    {AY : Around} {stY : List Env} {sY : Shared} {HY : Hp} {Kd : Shared → Hp → Value → Prop}
    (I : Inv X pins σ H s) (L : LamM X.N X.env.scope sc μ) (hf : s.heap.get? f = some (lamObj (X.env.qual ++ "<lambda>") pr bd sc (cloFrom X.env.cells sc.names []) dV pm (.ref c') ctv)) (hfn : H f = none) (hfr : f ∉ frs X.stack) (hK : Kd s H dV) (hB : HB X pr bd sc Kd)
    (tk : Takes ((cxOf CXg X.prog X.w X.K X.mg X.base Ng qg sg g cdg AY stY sY HY Eg).tr pn xe) W) (hW : ∀ cls d σ' H', E cls d H' → W cls d σ' H') (hr : Room (k + 1) (AY.deeper (envOfC qg sg sY.heap.objs.size g cdg)))
    (hun : ∀ (pz : List (Addr × Obj)) (sz : Shared) (τ : L2.St) (HZ : Hp), Inv ((cxOf CXg X.prog X.w X.K X.mg X.base Ng qg sg g cdg AY stY sY HY Eg).tr pn xe) pz τ HZ sz → Un (frs X.stack) [] H HZ s.heap sz.heap)
    (hbody : ∀ (A : Around) (outer : List Env) (s : Shared) (H : Hp), Room k (A.deeper (lamEnv X sc s.heap.objs.size f c')) → PE (lamCx X A outer s H E sc f c') bd tb)
    (hN : Ng[i]? = some a) (hv : Vis sg a) (hd : (a == ("__debug__" : Str)) = false := by decide) (hcd : (a == ("__classdict__" : Str)) = false := by decide) :
    PE ((cxOf CXg X.prog X.w X.K X.mg X.base Ng qg sg g cdg AY stY sY HY Eg).tr pn xe) (.Call (.Name a p1) [] [] p2)
      (fun τ HZ Q => τ[i]? = some (some (.ref f)) ∧ HZ c' = some (CodeO c' (X.env.qual ++ "<lambda>")) ∧ tb (μ σ) HZ Q) := by
  obtain ⟨bs, hbl, hbt⟩ := hB (X.env.qual ++ "<lambda>") (cloFrom X.env.cells sc.names []) pm (.ref c') ctv dV s H hK
  refine ⟨fun pz sz τ HZ Q IZ h => ?_⟩
  obtain ⟨hs, hc, ht⟩ := h
  refine wpAny_Call_Name_kw (thn ((pe_var (pos := p1) (i := i) hN hv hd hcd).run pz sz τ HZ (fun v H1 => v = .ref f ∧ H1 = HZ) IZ ⟨.ref f, hs, rfl, rfl⟩) fun u s1 ⟨v, H1, I1, r1, q1⟩ => ?_)
  obtain ⟨ev, eH⟩ := q1
  subst ev; rw [eH] at I1
  obtain rfl : u = Value.ref f := r1
  have un := hun _ _ _ _ I1
  have of1 := un.keep f _ hf hfn hfr (by simp)
  refine PySem.W.callWith_F0 ⟨_, _, _, _, of1⟩ ?_
  obtain ⟨⟨oc, vs, t, y1, y2, y3⟩, _, _⟩ := I1.hok c' _ hc
  have rc : codeAny (model X.prog X.w) (AY.deeper (envOfC qg sg sY.heap.objs.size g cdg)) (.call (.ref f) ⟨[], []⟩) (CR (L2.CX X.prog X.w) (envOfC qg sg sY.heap.objs.size g cdg :: stY) X.prog X.w HZ s1 Q E) s1 := by
    refine PySem.W.kla_callFunE hr.depth of1 rfl L.co L.gen rfl ⟨c', oc, vs, t, rfl, y1, y2, y3⟩ (hbt s1 HZ un _ _ _ _ ?_)
    refine wpAny_newFunctionEnv (fun y hy => L.own y hy) hbl (fun g1 hns hsb => ⟨I1.nolimit.fresh _ hsb, ?_⟩) L.kind
    show codeAny _ _ (.expr bd (lamEnv X sc s1.heap.objs.size f c')) _ _
    have kp : ∀ b o, s1.heap.get? b = some o → g1.get? b = some o := fun b o e => hsb.extBut b o (Nat.ne_of_lt (Heap.lt_size e)) (Heap.get?_push_of_some _ e)
    have J : Inv (lamCx X (AY.deeper (envOfC qg sg sY.heap.objs.size g cdg)) (envOfC qg sg sY.heap.objs.size g cdg :: stY) s1 HZ E sc f c') [] (μ σ) HZ { s1 with heap := g1, toks := s1.toks + bs.length } := lam_startM I L I1.env0 hr.hd un hns kp
    refine PySem.W.kla_codeExpr (wpAny_mono ((hbody _ _ s1 HZ (hr.deeper _)).run [] _ _ HZ Q J ht) (fun v s' hq => ?_) fun e s' hq => hq)
    obtain ⟨w', H', J', rv, q⟩ := hq
    exact ⟨w', H', J'.os, J'.bare, J'.base, J'.hok, rv, q⟩
  have hx : Passes (L2.CX X.prog X.w) ((cxOf CXg X.prog X.w X.K X.mg X.base Ng qg sg g cdg AY stY sY HY Eg).tr pn xe) E := passes_call tk hW
  refine wpAny_call (codeAny_mono rc fun r s' hq => ?_)
  cases r with
  | error e => exact hx pz τ HZ s1 e s' I1 hq
  | ok fl =>
    cases fl with
    | ret u => exact I1.after hq
    | next => exact False.elim hq
    | brk => exact False.elim hq
    | cont => exact False.elim hq
end
section
variable {X : Cx}
/-- x(lambda a=d: body), the default or not -/
theorem pe_lamM {T : List (Addr × Str)} {TT : (XK → Hp → VK → Prop) → Hp → VK → Prop} {x a : Str} {g c P : Addr} {k : Nat} {bg : List Stmt} {sg : Scope} {cdv : Value} {Ng : List Str} {pr : Arguments} {bd : Expr} {sc : Scope} {μ : L2.St → L2.St} {t : XK → TE} {p lpos pos : Pos} {Kd : Shared → Hp → Value → Prop}
    (hg : Gl X x) (S : GetsL X.K X.mg x a g Ng sg bg cdv) (hG : GivesTo X Ng x sg g cdv bg a (X.env.qual ++ "<lambda>") TT)
    (TB : TabB X.base X.mg c P) (hcode : X.env.code = .ref c) (hmT : (P, X.env.qual ++ "<lambda>") ∈ T) (hu : ∀ p ∈ T, p.1 = P → p.2 = X.env.qual ++ "<lambda>") (hr : Room (k + 2) X.A) (L : LamM X.N X.env.scope sc μ) (D : DefK X pr Kd) (hB : HB X pr bd sc Kd)
    (hbody : ∀ (A : Around) (outer : List Env) (s : Shared) (H : Hp) (E : XK) (f c' : Addr), Room k (A.deeper (lamEnv X sc s.heap.objs.size f c')) → PE (lamCx X A outer s H E sc f c') bd (t E))
    (hdb : (x == ("__debug__" : Str)) = false := by decide) (hd : (a == ("__debug__" : Str)) = false := by decide) (hcd : (a == ("__classdict__" : Str)) = false := by decide) :
    PE X (.Call (.Name x p) [.Lambda pr bd sc lpos] [] pos) (tLam T TT (fun E σ => t E (μ σ))) := by
  obtain ⟨pg, dV, kV, doc, pm, ct, oc, an, od, osl, lk, hb⟩ := S.lk
  refine ⟨fun pins s σ H Q I h => ?_⟩
  obtain ⟨hT, h⟩ := h
  refine wpAny_Call_Name_kw (ld_glob I hg S.m (PySem.W.callWith_K (h₀ := X.base) I.ok.mod.kin S.k ?_ (by rfl) (by rfl)) hdb)
  show wpAny _ _ (spliced ((false, eval (.Lambda pr bd sc lpos) X.env) :: backTo pos (starEach [] X.env))) _ _ s
  refine Calls.spliced_cons (lam_makeG I TB hcode hmT hu hT D (L.has I.ok) fun f c' dV' pm' ctv H1 s' I1 eN T1 hK hf hfn hfr hco => Calls.spliced_nil ⟨I1.kIn, ?_⟩)
  have rc : codeAny (model X.prog X.w) X.A (.call (.ref g) ⟨[.ref f], []⟩) (CR C8.CX0 X.stack X.prog X.w H1 s' Q C8.E0) s' := by
    refine run_ofS (N := Ng) (ps := [a]) (us := [.ref f]) (vs := [.ref f]) lk S.c S.s hr I1.env0 (hb s' [.ref f] I1.kIn rfl) (.cons rfl .nil) rfl fun hr' => ?_
    obtain ⟨t', ht', hq'⟩ := hG f c' s' H1 Q (fun E H' Q' => t E (μ σ) H' Q') (fun W pn xe E p1 p2 tk hW => pe_actM (i := 0) I1 L hf hfn hfr hK hB tk hW hr' (fun _ _ _ _ IZ => IZ.base) (fun A outer s H hr2 => hbody A outer s H E f c' hr2) S.n S.v hd hcd) hco (h H1 eN T1)
    exact ⟨t', ht'.nox, hq'⟩
  refine wpAny_call (codeAny_mono rc fun r s2 hq => ?_)
  cases r with
  | error e => exact (show False from hq).elim
  | ok fl =>
    cases fl with
    | ret u => exact I1.after hq
    | next => exact False.elim hq
    | brk => exact False.elim hq
    | cont => exact False.elim hq
end
end Ew
namespace Ew
open PySem PySem.Spec PyProof.Rows L2
/-! ## what is left of a function after some digits were read and some were written -/
structure Rem (F : List Pt) (lo hi be rho ga de : Rat) (G : List Pt) : Prop where
  two : 2 ≤ G.length
  max : G.length ≤ F.length
  asc : AscQ G
  fst : (G.getD 0 dpt).1 = lo
  lst : (G.getD (G.length - 1) dpt).1 = hi
  nf : normQ G = G
  ev : ∀ z, lo ≤ z → z ≤ hi → evalQ G z = ga * evalQ F ((rho + z) / be) - de
  sx : ∀ p ∈ G, p.1 = lo ∨ p.1 = hi ∨ ∃ f ∈ F, p.1 = be * f.1 - rho
theorem ends_split {G : List Pt} (h : 2 ≤ G.length) : ∃ a m l, G = a :: (m ++ [l]) ∧ G.getD 0 dpt = a ∧ G.getD (G.length - 1) dpt = l := by
  match G, h with
  | a :: b :: rest, _ =>
    rcases List.eq_nil_or_concat (b :: rest) with z | ⟨m, l, z⟩
    · cases z
    · rw [List.concat_eq_append] at z
      refine ⟨a, m, l, by rw [z], rfl, ?_⟩
      rw [z]
      simp
theorem cut_len2 {ps : List Pt} {lo hi : Rat} (h2 : 2 ≤ ps.length) (h1 : (ps.getD 0 dpt).1 ≤ lo) (h3 : hi ≤ (ps.getD (ps.length - 1) dpt).1) : (cutQ ps lo hi).length ≤ ps.length := by
  obtain ⟨a, m, l, e, ea, el⟩ := ends_split h2
  rw [ea] at h1
  rw [el] at h3
  unfold cutQ
  have f1 : ps.filter (fun p => decide (lo < p.1) && decide (p.1 < hi)) = m.filter (fun p => decide (lo < p.1) && decide (p.1 < hi)) := by
    rw [e, List.filter_cons, if_neg (by simp; grind), List.filter_append, List.filter_cons, if_neg (by simp; grind)]
    simp
  rw [f1, e]
  have := (List.filter_sublist (p := fun p : Pt => decide (lo < p.1) && decide (p.1 < hi)) (l := m)).length_le
  simp only [List.length_cons, List.length_append, List.length_nil]
  omega
theorem Rem.start {F : List Pt} {lo hi : Rat} (h2 : 2 ≤ F.length) (asc : AscQ F) (nf : normQ F = F) (f1 : (F.getD 0 dpt).1 = lo) (f2 : (F.getD (F.length - 1) dpt).1 = hi) : Rem F lo hi 1 0 1 0 F :=
  ⟨h2, Nat.le_refl _, asc, f1, f2, nf, fun z _ _ => by rw [show (0 + z) / 1 = z by grind]; grind, fun p hp => .inr (.inr ⟨p, hp, by grind⟩)⟩
theorem Rem.write {F G : List Pt} {lo hi be rho ga de b g : Rat} (R : Rem F lo hi be rho ga de G) : Rem F lo hi be rho (b * ga) (de * b + g) (normQ (liftQ b g G)) := by
  have l := lift_len b g G
  have a := lift_asc (b := b) (g := g) R.asc
  have t := R.two
  have mx := R.max
  have nl := normQ_len_le (liftQ b g G)
  refine ⟨normQ_len (by omega), by omega, normQ_asc a, ?_, ?_, norm_idem (by omega) a, fun z z1 z2 => ?_, fun p hp => ?_⟩
  · rw [normQ_first (by omega), lift_at (by omega)]; exact R.fst
  · rw [normQ_last (by omega), l, lift_at (by omega)]; exact R.lst
  · rw [eval_norm z (by omega) a, eval_lift G R.two R.asc, R.ev z z1 z2]
    grind
  · obtain ⟨p', hp', rfl⟩ := List.mem_map.mp ((normQ_sub _).subset hp)
    exact R.sx p' hp'
theorem Rem.read {F G : List Pt} {lo hi be rho ga de b g : Rat} (hb : 0 < b) (hbe : 0 < be) (lt : lo < hi) (R : Rem F lo hi be rho ga de G) (gl : b * lo - g ≤ lo) (gh : hi ≤ b * hi - g) : Rem F lo hi (be * b) (rho * b + g) ga de (normQ (cutQ (strQ b g G) lo hi)) := by
  have l := str_len b g G
  have a := str_asc (g := g) hb R.asc
  have t := R.two
  have mx := R.max
  have c2 := (cut_len (strQ b g G) lo hi).1
  have ca := cut_asc (lo := lo) (hi := hi) a lt
  have nl := normQ_len_le (cutQ (strQ b g G) lo hi)
  have cl := cut_len2 (ps := strQ b g G) (lo := lo) (hi := hi) (by omega) (by rw [str_at (by omega), R.fst]; exact gl) (by rw [l, str_at (by omega), R.lst]; exact gh)
  refine ⟨normQ_len c2, by omega, normQ_asc ca, ?_, ?_, norm_idem c2 ca, fun z z1 z2 => ?_, fun p hp => ?_⟩
  · rw [normQ_first c2]; exact cut_first ..
  · rw [normQ_last c2]; exact cut_last ..
  · rw [eval_norm z c2 ca, eval_cut (by omega) a lt z1 z2]
    have e : z = b * ((z + g) / b) - g := by grind
    have b1 : lo ≤ (z + g) / b := by
      rcases (by grind : lo ≤ (z + g) / b ∨ (z + g) / b < lo) with w | w
      · exact w
      · have := mul_lt' hb w; grind
    have b2 : (z + g) / b ≤ hi := by
      rcases (by grind : (z + g) / b ≤ hi ∨ hi < (z + g) / b) with w | w
      · exact w
      · have := mul_lt' hb w; grind
    have ev : evalQ (strQ b g G) z = evalQ G ((z + g) / b) := by
      conv => lhs; rw [e]
      exact eval_str hb G R.two R.asc
    rw [ev, R.ev _ b1 b2]
    have hb0 : b ≠ 0 := by grind
    have hbe0 : be ≠ 0 := by grind
    have hbb : be * b ≠ 0 := fun z => by rcases Rat.mul_eq_zero.mp z with w | w <;> grind
    have e2 : (rho + (z + g) / b) / be = (rho * b + g + z) / (be * b) := by grind
    rw [e2]
  · rcases List.mem_cons.mp ((normQ_sub _).subset hp) with rfl | hp
    · exact .inl rfl
    · rcases List.mem_append.mp hp with z | z
      · obtain ⟨h1, h2, h3⟩ := cut_in z
        obtain ⟨q, hq, rfl⟩ := List.mem_map.mp h1
        have h2 : lo < b * q.1 - g := h2
        have h3 : b * q.1 - g < hi := h3
        rcases R.sx q hq with e | e | ⟨f, hf, e⟩
        · rw [e] at h2; grind
        · rw [e] at h3; grind
        · refine .inr (.inr ⟨f, hf, ?_⟩)
          show b * q.1 - g = _
          rw [e]
          grind
      · rw [List.mem_singleton.mp z]
        exact .inr (.inl rfl)
/-- both orders lead to one function -/
theorem Rem.uniq {F G G' : List Pt} {lo hi be rho ga de : Rat} (R : Rem F lo hi be rho ga de G) (R' : Rem F lo hi be rho ga de G') : G = G' := by
  rw [← R.nf, ← R'.nf]
  refine norm_uniq R.two R'.two R.asc R'.asc (by rw [R.fst, R'.fst]) (by rw [R.lst, R'.lst]) fun x x1 x2 => ?_
  rw [R.fst] at x1
  rw [R.lst] at x2
  rw [R.ev x x1 x2, R'.ev x x1 x2]
/-! ## the sizes -/
structure RSzs (lo hi be rho ga de : Rat) : Prop where
  be0 : 0 < be
  lo : Sz 7 lo
  hi : Sz 7 hi
  be : Sz 27 be
  rho : Sz 34 rho
  ga : Sz 27 ga
  de : Sz 34 de
theorem there_sz {lo hi be rho ga de z : Rat} (S : RSzs lo hi be rho ga de) (hz : Sz 150 z) : Sz 212 ((rho + z) / be) := ((S.rho.add hz).div S.be (by have := S.be0; grind)).le (by decide)
theorem closed_sz {F : List Pt} {lo hi be rho ga de z : Rat} (h2 : 2 ≤ F.length) (asc : AscQ F) (fz : ∀ p ∈ F, PSz 80 p) (S : RSzs lo hi be rho ga de) (hz : Sz 150 z) : Sz 696 (evalQ F ((rho + z) / be)) ∧ Sz 758 (ga * evalQ F ((rho + z) / be) - de) := by
  have a : Sz 696 (evalQ F ((rho + z) / be)) := (eval_sz (there_sz S hz) F h2 asc fz).le (by decide)
  exact ⟨a, ((S.ga.mul a).sub S.de).le (by decide)⟩
theorem Rem.szx {F G : List Pt} {lo hi be rho ga de : Rat} (R : Rem F lo hi be rho ga de G) (fz : ∀ p ∈ F, PSz 80 p) (S : RSzs lo hi be rho ga de) : ∀ p ∈ G, Sz 150 p.1 := fun p hp => by
  rcases R.sx p hp with e | e | ⟨f, hf, e⟩
  · rw [e]; exact S.lo.le (by decide)
  · rw [e]; exact S.hi.le (by decide)
  · rw [e]; exact ((S.be.mul (fz f hf).x).sub S.rho).le (by decide)
theorem Rem.sz {F G : List Pt} {lo hi be rho ga de : Rat} (R : Rem F lo hi be rho ga de G) (h2 : 2 ≤ F.length) (asc : AscQ F) (fz : ∀ p ∈ F, PSz 80 p) (S : RSzs lo hi be rho ga de) : ∀ p ∈ G, PSz 860 p := fun p hp => by
  have x := R.szx fz S p hp
  have l := first_le R.asc hp
  have r := le_last R.asc hp
  rw [R.fst] at l
  rw [R.lst] at r
  refine ⟨x.le (by decide), ?_⟩
  rw [eval_at R.two R.asc p hp, R.ev _ l r]
  exact (closed_sz h2 asc fz S x).2.le (by decide)
/-! ## of rows -/
def scR (b : Int) (n : Nat) : Rat := ((b ^ n : Int) : Rat)
def rwR (b : Int) (rs : List Int) : Rat := ((rowN b rs : Int) : Rat)
theorem scR_succ (b : Int) (n : Nat) : scR b (n + 1) = scR b n * (b : Rat) := by
  unfold scR
  rw [Int.pow_succ]
  push_cast
  rfl
theorem rwR_snoc (b : Int) (rs : List Int) (d : Int) : rwR b (rs ++ [d]) = rwR b rs * (b : Rat) + (d : Rat) := by
  unfold rwR
  rw [rowN_snoc]
  push_cast
  rfl
theorem scR_pos {b : Int} (h : 2 ≤ b) (n : Nat) : 0 < scR b n := by
  unfold scR
  have : 0 < b ^ n := Int.pow_pos (by omega)
  exact_mod_cast this
theorem int_sz {n : Nat} {i : Int} (hn : 1 ≤ n) (h : i.natAbs < 2 ^ n) : Sz n (i : Rat) := ⟨h, by
  show 1 < 2 ^ n
  exact Nat.one_lt_two_pow (by omega)⟩
theorem pow_le8 {b : Int} (h2 : 2 ≤ b) (h10 : b ≤ 10) : ∀ {n : Nat}, n ≤ 8 → 1 ≤ b ^ n ∧ b ^ n ≤ 10 ^ n
  | 0, _ => by simp
  | n + 1, h => by
    have ih := pow_le8 h2 h10 (n := n) (by omega)
    rw [Int.pow_succ, Int.pow_succ]
    constructor
    · have := Int.mul_le_mul ih.1 (show (1 : Int) ≤ b by omega) (by omega) (by omega); omega
    · exact Int.mul_le_mul ih.2 h10 (by omega) (by omega)
theorem ten_le : ∀ {n : Nat}, n ≤ 8 → (10 : Int) ^ n ≤ 10 ^ 8 := fun {n} h => by
  have : ∀ k : Nat, k ≤ 8 → (10 : Int) ^ k ≤ 10 ^ 8 := by decide
  exact this n h
theorem scR_sz {b : Int} (h2 : 2 ≤ b) (h10 : b ≤ 10) {n : Nat} (h : n ≤ 8) : Sz 27 (scR b n) := by
  have := pow_le8 h2 h10 h
  have p : (10 : Int) ^ n ≤ 10 ^ 8 := ten_le h
  exact int_sz (by decide) (by omega)
theorem rwR_sz {b : Int} (h2 : 2 ≤ b) (h10 : b ≤ 10) {rs : List Int} (h : rs.length ≤ 8) (hd : ∀ d ∈ rs, -99 ≤ d ∧ d ≤ 99) : Sz 34 (rwR b rs) := by
  have a := rowN_le h2 rs.length rs rfl hd
  have := pow_le8 h2 h10 h
  have p : (10 : Int) ^ rs.length ≤ 10 ^ 8 := ten_le h
  exact int_sz (by decide) (by omega)
end Ew
namespace Ew
open PySem PySem.Spec PyProof.Rows L2
/-! ## l.remove(y): the items are data of any depth -/
def rRemD (K : PySem.W.Frag) : V → List V → Hp → VK → Prop := fun x xs H Q => ∃ (l : Addr) (ys : List V) (y : V) (d : PyData) (ds : List PyData) (j : Nat) (z : PyData), x = V.ref l ∧ xs = [y] ∧ H l = some (.lst ys) ∧ DpAll K H ys ds ∧ Dp K H y d ∧
  SeqAt.shaped (.list ds) = true ∧ SeqAt.shaped d = true ∧ ds[j]? = some z ∧ PyData.eqv z d = true ∧ (∀ (m : Nat) (z' : PyData), m < j → ds[m]? = some z' → PyData.eqv z' d = false) ∧ Q .non (upd H l (.lst (ys.eraseIdx j)))
theorem mt_removeD {X : Cx} (hu : X.A.units + 65 < cLine) : MtM X "list.remove" (rRemD X.K) := by
  intro pins s σ H x xs v us Q I rx rxs h
  obtain ⟨a, ys, y, d, ds, j, z, rfl, rfl, hH, ha, hy, sl, sd, hz, hzj, hno, q⟩ := h
  cases rx
  obtain ⟨uy, rfl, ry⟩ := rxs.one
  obtain ⟨bs, r1⟩ := Dp.reads I d y uy hy ry
  have hxs : PyData.canLayAll0 ds = true := SeqAt.canLay_of_shaped sl
  have hroom : X.A.units + 1 + min (PyData.depthAll ds) d.depth < cLine := room_in_shaped sd hu
  obtain ⟨zz, its, n, rv, hl, ho⟩ := I.lstM hH
  obtain ⟨as, h4⟩ := Dp.readsAll I ds _ its ha rv
  have hn : its.length = ds.length := SeqAt.ReadsAll.length ds its as h4
  have hmap : its.map (SeqAt.readOf s.heap) = ds := SeqAt.readsAll_map ds its as hxs h4
  have hsl := sizeLine_eq
  obtain ⟨hjd, _⟩ := List.getElem?_eq_some_iff.mp hz
  have hjl : j < its.length := by omega
  have hj : j < its.toArray.size := by simpa using hjl
  have at_ : ∀ (m : Nat) (hm : m < its.toArray.size) (z' : PyData), ds[m]? = some z' → SeqAt.readOf s.heap its.toArray[m] = z' := by
    intro m hm z' hz'
    have hml : m < its.length := by simpa using hm
    rw [← hmap, List.getElem?_map, List.getElem?_eq_getElem hml] at hz'
    have e1 : SeqAt.readOf s.heap its[m] = z' := Option.some.inj (show some (SeqAt.readOf s.heap its[m]) = some z' from hz')
    simpa using e1
  refine call_meets PySem.F.slot_list_remove ⟨_, ho, rfl⟩ PySem.F.entry_list_remove (PySem.F.args_list_remove_2 _ _)
    (SeqAt.list_removeAt a its.toArray n none _ uy (fun u => PyData.eqv (SeqAt.readOf s.heap u) d) j hj ?_ ?_ (by rw [List.size_toArray]; omega)) ⟨ho, SeqAt.items_eqAt (vs := its.toArray) (show ReadsAll s.heap its.toArray.toList ds as from h4) r1 hxs (SeqAt.canLay_of_shaped sd) hroom, ?_⟩
  · show PyData.eqv (SeqAt.readOf s.heap its.toArray[j]) d = true
    rw [at_ j hj z hz]
    exact hzj
  · intro m hm hmj
    have hmd : m < ds.length := by omega
    have hz' : ds[m]? = some ds[m] := List.getElem?_eq_getElem hmd
    show PyData.eqv (SeqAt.readOf s.heap its.toArray[m]) d = false
    rw [at_ m hm _ hz']
    exact hno m _ hmj hz'
  · refine ⟨.non, _, I.lset (its' := its.eraseIdx j) hH ho ?_ (rv.eraseIdx j) ?_, rfl, q⟩
    · show its.toArray.eraseIdxIfInBounds j = (its.eraseIdx j).toArray
      rw [List.eraseIdxIfInBounds_toArray]
    · have := List.length_eraseIdx_le ys j
      omega
end Ew
namespace Ew
open PySem PySem.Spec PyProof.Rows L2
theorem u65 {k : Nat} {A : Around} (r : Room k A) : A.units + 65 < cLine := by have := r.un; omega
/-! ### lists of fractions as data -/
theorem dpRat {K : PySem.W.Frag} {H : Hp} {v : V} {r : Rat} (h : QAt H v r) : Dp K H v (ratD r) := by
  obtain ⟨a, rfl, ha⟩ := h
  exact dpQ ha
theorem dpRats {K : PySem.W.Frag} {H : Hp} : ∀ {ws : List V} {xs : List Rat}, All2 (QAt H) ws xs → DpAll K H ws (xs.map ratD)
  | [], [], _ => .nil
  | [], _ :: _, a => absurd a.len (by simp)
  | _ :: _, [], a => absurd a.len (by simp)
  | w :: ws, x :: xs, a => .cons (dpRat (a.at_ 0 w x rfl rfl)) (dpRats ⟨by have := a.len; simpa using this, fun i v y h1 h2 => a.at_ (i + 1) v y h1 h2⟩)
theorem ratsD_lay : ∀ (xs : List Rat), PyData.canLayAll0 (xs.map ratD) = true ∧ PyData.depthAll (xs.map ratD) ≤ 2
  | [] => ⟨by simp [PyData.canLayAll0], by simp [PyData.depthAll]⟩
  | x :: xs => by
    have h1 := ratD_lay x
    have h2 := ratsD_lay xs
    rw [List.map_cons]
    constructor
    · simp [PyData.canLayAll0, h1.1, h2.1]
    · simp only [PyData.depthAll]
      omega
theorem shapedRats (xs : List Rat) : SeqAt.shaped (.list (xs.map ratD)) = true := by
  have h := ratsD_lay xs
  unfold SeqAt.shaped
  have h1 : (PyData.list (xs.map ratD)).canLay0 = true := by simp [PyData.canLay0, h.1]
  have h2 : (PyData.list (xs.map ratD)).depth ≤ 64 := by
    simp only [PyData.depth]
    omega
  rw [h1, Bool.true_and]
  exact decide_eq_true h2
theorem anyRats (x : Rat) : ∀ xs : List Rat, ((xs.map ratD).any fun z => PyData.eqv z (ratD x)) = decide (x ∈ xs)
  | [] => rfl
  | y :: ys => by
    rw [List.map_cons, List.any_cons, anyRats x ys]
    have e : PyData.eqv (ratD y) (ratD x) = decide (y = x) := qeqv y x
    rw [e]
    by_cases c : y = x
    · subst c; simp
    · have c' : x ≠ y := fun z => c z.symm
      simp [c, c']
theorem eqvNil : ∀ xs : List Rat, PyData.eqv (.list (xs.map ratD)) (.list ([] : List PyData)) = decide (xs = [])
  | [] => by simp [PyData.eqv, PyData.eqvAll]
  | x :: xs => by simp [PyData.eqv, PyData.eqvAll]
/-- where a number stands for the first time -/
theorem firstR : ∀ {ns : List Rat} {k : Rat}, k ∈ ns → ∃ j, j < ns.length ∧ ns[j]? = some k ∧ (∀ i, i < j → ns[i]? ≠ some k)
  | [], k, h => absurd h (by simp)
  | a :: r, k, h => by
    by_cases e : a = k
    · exact ⟨0, Nat.succ_pos _, by rw [e]; rfl, fun i hi => absurd hi (Nat.not_lt_zero _)⟩
    · have hr : k ∈ r := by
        rcases List.mem_cons.mp h with z | z
        · exact absurd z.symm e
        · exact z
      obtain ⟨j, h1, h2, h3⟩ := firstR hr
      refine ⟨j + 1, Nat.succ_lt_succ h1, h2, fun i hi => ?_⟩
      cases i with
      | zero =>
        intro z
        exact e (Option.some.inj z)
      | succ i => exact h3 i (Nat.lt_of_succ_lt_succ hi)
theorem All2.erase {α : Type} {R : V → α → Prop} : ∀ {vs : List V} {xs : List α} (j : Nat), All2 R vs xs → All2 R (vs.eraseIdx j) (xs.eraseIdx j)
  | [], [], _, _ => All2.nil
  | [], _ :: _, _, a => absurd a.len (by simp)
  | _ :: _, [], _, a => absurd a.len (by simp)
  | v :: vs, x :: xs, 0, a => ⟨by have := a.len; simpa using this, fun i u y h1 h2 => a.at_ (i + 1) u y h1 h2⟩
  | v :: vs, x :: xs, j + 1, a => by
    have t := All2.erase j (⟨by have := a.len; simpa using this, fun i u y h1 h2 => a.at_ (i + 1) u y h1 h2⟩ : All2 R vs xs)
    show All2 R (v :: vs.eraseIdx j) (x :: xs.eraseIdx j)
    refine ⟨by have := t.len; simp [this], fun i u y h1 h2 => ?_⟩
    cases i with
    | zero => exact a.at_ 0 u y h1 h2
    | succ i => exact t.at_ i u y h1 h2
/-- the least one is taken out -/
theorem mem_erase {ls : List Rat} {j : Nat} {m : Rat} (nd : ls.Nodup) (hj : ls[j]? = some m) (x : Rat) : x ∈ ls ↔ x = m ∨ x ∈ ls.eraseIdx j := by
  have e : ls = ls.take j ++ m :: ls.drop (j + 1) := by
    obtain ⟨h1, h2⟩ := List.getElem?_eq_some_iff.mp hj
    rw [← h2, ← List.drop_eq_getElem_cons h1, List.take_append_drop]
  have e2 : ls.eraseIdx j = ls.take j ++ ls.drop (j + 1) := List.eraseIdx_eq_take_drop_succ ..
  rw [e2]
  conv => lhs; rw [e]
  simp only [List.mem_append, List.mem_cons]
  grind
theorem nodup_erase {ls : List Rat} {j : Nat} (nd : ls.Nodup) : (ls.eraseIdx j).Nodup := nd.sublist (List.eraseIdx_sublist ..)
theorem not_erase {ls : List Rat} {j : Nat} {m : Rat} (nd : ls.Nodup) (hj : ls[j]? = some m) : m ∉ ls.eraseIdx j := by
  have e : ls = ls.take j ++ m :: ls.drop (j + 1) := by
    obtain ⟨h1, h2⟩ := List.getElem?_eq_some_iff.mp hj
    rw [← h2, ← List.drop_eq_getElem_cons h1, List.take_append_drop]
  have e2 : ls.eraseIdx j = ls.take j ++ ls.drop (j + 1) := List.eraseIdx_eq_take_drop_succ ..
  rw [e2]
  rw [e] at nd
  have n := List.nodup_append.mp nd
  have n2 := List.nodup_cons.mp n.2.1
  intro z
  rcases List.mem_append.mp z with z | z
  · exact n.2.2 m z m (by simp) rfl
  · exact n2.1 z
end Ew
namespace Ew
open PySem PySem.Spec PyProof.Rows L2 PySem.W LamX
/-! ## lambdas that are kept: the heap's word tells of them -/
def LamO (f : Addr) (o : Obj) : HO := .ext fun h => h.get? f = some o
theorem lamO_ne {f : Addr} {o : Obj} (ps : Array Value) : LamO f o ≠ .tbl ps := fun z => by
  unfold LamO at z
  cases z
/-- a lambda without a default stands at f -/
def LamAt (q : Str) (pr : Arguments) (bd : Expr) (sc : Scope) (cl : List (Str × Addr)) (H : Hp) (f : Addr) : Prop := ∃ (c' : Addr) (pm ctv : Value), H f = some (LamO f (lamObj q pr bd sc cl .none pm (.ref c') ctv)) ∧ H c' = some (CodeO c' q)
theorem LamAt.ext {q : Str} {pr : Arguments} {bd : Expr} {sc : Scope} {cl : List (Str × Addr)} {H H' : Hp} {f : Addr} (h : LamAt q pr bd sc cl H f) (e : ExtN H H') : LamAt q pr bd sc cl H' f := by
  obtain ⟨c', pm, ctv, h1, h2⟩ := h
  exact ⟨c', pm, ctv, e _ _ h1 (fun ps => lamO_ne ps), e _ _ h2 codeO_ne⟩
section
variable {X : Cx} {pins : List (Addr × Obj)} {σ : L2.St} {H : Hp} {s : Shared}
theorem inv_lam {o : Obj} {t' : Nat} {h' : Heap} (I : Inv X pins σ H s) (hh : h' = s.heap.push o) (hz : (s.heap.push o).get? s.heap.objs.size = some o) :
    Inv X pins σ (upd H s.heap.objs.size (LamO s.heap.objs.size o)) { s with heap := h', toks := t' } := by
  subst hh
  refine I.laid (a := s.heap.objs.size) (fun b u e => Heap.get?_push_of_some _ e) (Nat.le_refl _) ?_
  exact ⟨hz, ⟨_, hz⟩, fun h1 h2 z st => st _ z⟩
theorem lam_tailV {T : List (Addr × Str)} {c P : Addr} {pr : Arguments} {bd : Expr} {sc : Scope} {pos : Pos} {E : Value → Shared → Prop} {Q : Value → Shared → Prop} (I : Inv X pins σ H s) (TB : TabB X.base X.mg c P) (hcode : X.env.code = .ref c)
    (hm : (P, X.env.qual ++ "<lambda>") ∈ T) (hu : ∀ p ∈ T, p.1 = P → p.2 = X.env.qual ++ "<lambda>") (hT : Tabs T H) (hfree : ∀ y ∈ sc.names, y.2 = .free → ∃ c, X.env.cells.lookup y.1 = some c)
    (k : ∀ (f : Addr) (H1 : Hp) (s' : Shared), Inv X pins σ H1 s' → ExtN H H1 → (∀ b, H1 b = none → H b = none) → Tabs T H1 → H f = none → LamAt (X.env.qual ++ "<lambda>") pr bd sc (cloFrom X.env.cells sc.names []) H1 f → Q (.ref f) s') :
    wpAny (model X.prog X.w) X.A (makeTail "<lambda>" (X.env.qual ++ "<lambda>") pr (.expr bd) sc X.env .none .none none pos pos.line) Q E s := by
  obtain ⟨ps, hP, ht, ha⟩ := hT _ hm
  have bP : s.heap.BuiltinsAt X.mg P := TB.bm.keeps I.bk
  have hP' : s.heap.get? P = some { cls := .none, data := .fields ps } := I.hok P _ hP
  cases hc : codeAmong pos ps.toList with
  | none =>
    refine tail_new (mg := X.mg) (c := c) (P := P) (ps := ps) (closure_ok hfree) I.ok.glob (I.mod.glob.keeps I.bk) hcode (TB.code.keeps I.bk) hP' ht hc TB.gP bP fun c' ctv h' tk x1 x2 x3 x4 x5 => ?_
    obtain ⟨c2, oc, vs, t, e2, y1, y2, y3⟩ := x4
    cases e2
    have nC : H c' = none := I.hok.fresh x2
    have I1 := inv_table (t' := tk) (more := #[rawInt pos.line, rawInt pos.col, .ref c']) (h' := h') I hP (fun b o hb e => x1 b o hb e) x5 x2 ⟨oc, vs, t, y1, y2, y3⟩
    have hE : ExtN H (upd (upd H P (.tbl (ps ++ #[rawInt pos.line, rawInt pos.col, .ref c']))) c' (CodeO c' (X.env.qual ++ "<lambda>"))) := fun b o e n => by
      rw [upd_ne (ne_of_none e nC), upd_ne (fun z => n ps (Option.some.inj (e.symm.trans (by rw [z]; exact hP))))]; exact e
    have eL : (ps ++ #[rawInt pos.line, rawInt pos.col, .ref c']).toList = ps.toList ++ [rawInt pos.line, rawInt pos.col, .ref c'] := by simp
    have T1 : Tabs T (upd (upd H P (.tbl (ps ++ #[rawInt pos.line, rawInt pos.col, .ref c']))) c' (CodeO c' (X.env.qual ++ "<lambda>"))) := fun p hp => by
      by_cases hb : p.1 = P
      · rw [hu p hp hb, hb]
        refine ⟨_, by rw [upd_ne (ne_of_none hP nC), upd_same], by rw [eL]; exact PySem.TriplesOk_snoc _ _ _ _ ht, fun p' cv hcv => ?_⟩
        rw [eL] at hcv
        rcases among_app _ ht hcv with z | z
        · obtain ⟨c0, e1, e2⟩ := ha p' cv z; exact ⟨c0, e1, hE _ _ e2 codeO_ne⟩
        · exact ⟨c', z, upd_same⟩
      · obtain ⟨ps', a1, a2, a3⟩ := hT p hp
        refine ⟨ps', by rw [upd_ne (ne_of_none a1 nC), upd_ne hb]; exact a1, a2, fun p' cv hcv => ?_⟩
        obtain ⟨c0, e1, e2⟩ := a3 p' cv hcv; exact ⟨c0, e1, hE _ _ e2 codeO_ne⟩
    have nF := I1.hok.fresh (Nat.le_refl _)
    have I2 := inv_lam (t' := tk) (o := lamObj (X.env.qual ++ "<lambda>") pr bd sc (cloFrom X.env.cells sc.names []) .none ((X.mg "__name__").getD .none) (.ref c') ctv) I1 rfl (Heap.get?_push_size _ rfl)
    refine k h'.objs.size _ _ I2 (fun b o e n => ?_) (fun b e => NdefX.upd_none (NdefX.upd_none (NdefX.upd_none e))) (fun p hp => ?_) (I.hok.fresh (Nat.le_trans x2 (Nat.le_of_lt x3))) ⟨c', _, ctv, upd_same, ?_⟩
    · have e1 := hE b o e n
      exact (upd_ne (ne_of_none e1 nF)).trans e1
    · obtain ⟨ps', a1, a2, a3⟩ := T1 p hp
      refine ⟨ps', (upd_ne (ne_of_none a1 nF)).trans a1, a2, fun p' cv hcv => ?_⟩
      obtain ⟨c0, e1, e2⟩ := a3 p' cv hcv
      exact ⟨c0, e1, (upd_ne (ne_of_none e2 nF)).trans e2⟩
    · exact (upd_ne (Nat.ne_of_lt x3)).trans upd_same
  | some cv =>
    obtain ⟨c', e, hco⟩ := ha pos cv hc
    subst e
    refine tail_hit (mg := X.mg) (c := c) (P := P) (ps := ps) (closure_ok hfree) I.ok.glob (I.mod.glob.keeps I.bk) hcode (TB.code.keeps I.bk) hP' ht hc bP fun ctv h' tk hx hsz => ?_
    have I1 : Inv X pins σ H { s with heap := h', toks := tk } := I.kept hx
    have nF : H h'.objs.size = none := I1.hok.fresh (Nat.le_refl _)
    have I2 := inv_lam (t' := tk) (o := lamObj (X.env.qual ++ "<lambda>") pr bd sc (cloFrom X.env.cells sc.names []) .none ((X.mg "__name__").getD .none) (.ref c') ctv) I1 rfl (Heap.get?_push_size _ rfl)
    refine k h'.objs.size _ _ I2 (fun b o e n => ?_) (fun b e => NdefX.upd_none e) (fun p hp => ?_) nF ⟨c', _, ctv, upd_same, ?_⟩
    · exact (upd_ne (ne_of_none e nF)).trans e
    · obtain ⟨ps', a1, a2, a3⟩ := hT p hp
      refine ⟨ps', (upd_ne (ne_of_none a1 nF)).trans a1, a2, fun p' cv hcv => ?_⟩
      obtain ⟨c0, e1, e2⟩ := a3 p' cv hcv
      exact ⟨c0, e1, (upd_ne (ne_of_none e2 nF)).trans e2⟩
    · exact (upd_ne (ne_of_none hco nF)).trans hco
end
/-- lambda: body, kept -/
def tLamV (T : List (Addr × Str)) (q : Str) (pr : Arguments) (bd : Expr) (sc : Scope) (cl : List (Str × Addr)) : TE := fun σ H Q => Tabs T H ∧ ∀ (f : Addr) (H1 : Hp), ExtN H H1 → (∀ b, H1 b = none → H b = none) → Tabs T H1 → H f = none → LamAt q pr bd sc cl H1 f → Q (.ref f) H1
section
variable {X : Cx}
theorem pe_lamV {T : List (Addr × Str)} {c P : Addr} {pr : Arguments} {bd : Expr} {sc : Scope} {pos : Pos} (TB : TabB X.base X.mg c P) (hcode : X.env.code = .ref c) (hmT : (P, X.env.qual ++ "<lambda>") ∈ T) (hu : ∀ p ∈ T, p.1 = P → p.2 = X.env.qual ++ "<lambda>") (L : LamN X.N X.env.scope sc) (hd : defaultsOf pr X.env = ([], [])) :
    PE X (.Lambda pr bd sc pos) (tLamV T (X.env.qual ++ "<lambda>") pr bd sc (cloFrom X.env.cells sc.names [])) := by
  refine ⟨fun pins s σ H Q I h => ?_⟩
  obtain ⟨hT, h⟩ := h
  rw [arm_eval_Lambda, hd]
  show wpAny _ _ (do let dv ← evalAll []; let kdv ← holding dv (evalAllOpt []); makeFunction "<lambda>" (X.env.qual ++ "<lambda>") pr (.expr bd) sc X.env dv kdv [] pos pos.line) _ X.xe s
  refine wpAny_bind (wpAny_pure (wpAny_bind (wpAny_holding (wpAny_pure ?_))))
  rw [makeFunction_eq]
  simp only [List.zip_nil_right, List.filterMap_nil, List.isEmpty_nil, if_true, pure_bind]
  exact lam_tailV I TB hcode hmT hu hT (L.has I.ok) fun f H1 s' I1 a1 a2 a3 a4 a5 => ⟨.ref f, H1, I1, rfl, h f H1 a1 a2 a3 a4 a5⟩
end
end Ew
namespace Ew
open PySem PySem.Spec PyProof.Rows L2 PySem.W LamX
section
variable {X : Cx} {pins : List (Addr × Obj)} {σ : L2.St} {H : Hp} {s : Shared}
/-- a(), in a def that got a lambda that is kept -/
theorem pe_actV {CXg : CXT} {Eg : XK} {Ng : List Str} {qg : Str} {sg : Scope} {g f c' : Addr} {cdg pm ctv : Value} {pr : Arguments} {bd : Expr} {sc : Scope} {k i : Nat} {a : Str} {pn : List (Addr × Obj)} {xe : Value → Shared → Prop} {W : WX} {E : XK} {tb : TE} {p1 p2 : Pos}
    {AY : Around} {stY : List Env} {sY : Shared} {HY : Hp}
    (I : Inv X pins σ H s) (L : LamN X.N X.env.scope sc) (hB : ∀ (q : Str) (cl : List (Str × Addr)) (pm cdv ctv : Value), bindArgs (lamFn q pr bd sc cl .none pm cdv ctv) ⟨[], []⟩ = pure [])
    (tk : Takes ((cxOf CXg X.prog X.w X.K X.mg X.base Ng qg sg g cdg AY stY sY HY Eg).tr pn xe) W) (hW : ∀ cls d σ' H', E cls d H' → W cls d σ' H') (hr : Room (k + 1) (AY.deeper (envOfC qg sg sY.heap.objs.size g cdg)))
    (hun : ∀ (pz : List (Addr × Obj)) (sz : Shared) (τ : L2.St) (HZ : Hp), Inv ((cxOf CXg X.prog X.w X.K X.mg X.base Ng qg sg g cdg AY stY sY HY Eg).tr pn xe) pz τ HZ sz → Un (frs X.stack) [] H HZ s.heap sz.heap)
    (hbody : ∀ (A : Around) (outer : List Env) (s : Shared) (H : Hp), Room k (A.deeper (lamEnv X sc s.heap.objs.size f c')) → PE (lamCx X A outer s H E sc f c') bd tb)
    (hN : Ng[i]? = some a) (hv : Vis sg a) (hd : (a == ("__debug__" : Str)) = false := by decide) (hcd : (a == ("__classdict__" : Str)) = false := by decide) :
    PE ((cxOf CXg X.prog X.w X.K X.mg X.base Ng qg sg g cdg AY stY sY HY Eg).tr pn xe) (.Call (.Name a p1) [] [] p2)
      (fun τ HZ Q => τ[i]? = some (some (.ref f)) ∧ HZ c' = some (CodeO c' (X.env.qual ++ "<lambda>")) ∧ HZ f = some (LamO f (lamObj (X.env.qual ++ "<lambda>") pr bd sc (cloFrom X.env.cells sc.names []) .none pm (.ref c') ctv)) ∧ tb σ HZ Q) := by
  refine ⟨fun pz sz τ HZ Q IZ h => ?_⟩
  obtain ⟨hs, hc, hf, ht⟩ := h
  refine wpAny_Call_Name_kw (thn ((pe_var (pos := p1) (i := i) hN hv hd hcd).run pz sz τ HZ (fun v H1 => v = .ref f ∧ H1 = HZ) IZ ⟨.ref f, hs, rfl, rfl⟩) fun u s1 ⟨v, H1, I1, r1, q1⟩ => ?_)
  obtain ⟨ev, eH⟩ := q1
  subst ev; rw [eH] at I1
  obtain rfl : u = Value.ref f := r1
  have un := hun _ _ _ _ I1
  obtain ⟨of1, _, _⟩ := I1.hok f _ hf
  have of1 : s1.heap.get? f = some (lamObj (X.env.qual ++ "<lambda>") pr bd sc (cloFrom X.env.cells sc.names []) .none pm (.ref c') ctv) := of1
  refine PySem.W.callWith_F0 ⟨_, _, _, _, of1⟩ ?_
  obtain ⟨⟨oc, vs, t, y1, y2, y3⟩, _, _⟩ := I1.hok c' _ hc
  have hbt : BindsTo s1 (lamFn (X.env.qual ++ "<lambda>") pr bd sc (cloFrom X.env.cells sc.names []) .none pm (.ref c') ctv) ⟨[], []⟩ [] := .of_eq (hB _ _ _ _ _)
  have rc : codeAny (model X.prog X.w) (AY.deeper (envOfC qg sg sY.heap.objs.size g cdg)) (.call (.ref f) ⟨[], []⟩) (CR (L2.CX X.prog X.w) (envOfC qg sg sY.heap.objs.size g cdg :: stY) X.prog X.w HZ s1 Q E) s1 := by
    refine PySem.W.kla_callFunE hr.depth of1 rfl L.co L.gen rfl ⟨c', oc, vs, t, rfl, y1, y2, y3⟩ (hbt _ _ _ _ ?_)
    refine wpAny_newFunctionEnv (fun y hy => (L.own y hy).1) (fun y hy => by cases hy) (fun g1 hns hsb => ⟨I1.nolimit.fresh _ hsb, ?_⟩) L.kind
    show codeAny _ _ (.expr bd (lamEnv X sc s1.heap.objs.size f c')) _ _
    have kp : ∀ b o, s1.heap.get? b = some o → g1.get? b = some o := fun b o e => hsb.extBut b o (Nat.ne_of_lt (Heap.lt_size e)) (Heap.get?_push_of_some _ e)
    have J := lam_startN (E := E) (f := f) (c' := c') (tk := s1.toks + ([] : List (Str × Value)).length) I L I1.env0 hr.hd un hns kp
    refine PySem.W.kla_codeExpr (wpAny_mono ((hbody _ _ s1 HZ (hr.deeper _)).run [] _ _ HZ Q J ht) (fun v s' hq => ?_) fun e s' hq => hq)
    obtain ⟨w', H', J', rv, q⟩ := hq
    exact ⟨w', H', J'.os, J'.bare, J'.base, J'.hok, rv, q⟩
  have hx : Passes (L2.CX X.prog X.w) ((cxOf CXg X.prog X.w X.K X.mg X.base Ng qg sg g cdg AY stY sY HY Eg).tr pn xe) E := passes_call tk hW
  refine wpAny_call (codeAny_mono rc fun r s' hq => ?_)
  cases r with
  | error e => exact hx pz τ HZ s1 e s' I1 hq
  | ok fl =>
    cases fl with
    | ret u => exact I1.after hq
    | next => exact False.elim hq
    | brk => exact False.elim hq
    | cont => exact False.elim hq
end
section
variable {X : Cx}
/-- the lambdas of a def that are kept: the words of each, and how its body reads -/
structure LamF (X : Cx) (k : Nat) (ι : Type) (pr : ι → Arguments) (bd : ι → Expr) (sc : ι → Scope) (t : ι → XK → TE) : Prop where
  L : ∀ j, LamN X.N X.env.scope (sc j)
  B : ∀ j (q : Str) (cl : List (Str × Addr)) (pm cdv ctv : Value), bindArgs (lamFn q (pr j) (bd j) (sc j) cl .none pm cdv ctv) ⟨[], []⟩ = pure []
  body : ∀ j (A : Around) (outer : List Env) (s : Shared) (H : Hp) (E : XK) (f c' : Addr), Room k (A.deeper (lamEnv X (sc j) s.heap.objs.size f c')) → PE (lamCx X A outer s H E (sc j) f c') (bd j) (t j E)
/-- x(a2): a2 is one of the kept lambdas -/
def tLamA {ι : Type} (i : Nat) (TT : (XK → Hp → VK → Prop) → Hp → VK → Prop) (q : Str) (cells : List (Str × Addr)) (pr : ι → Arguments) (bd : ι → Expr) (sc : ι → Scope) (t : ι → XK → TE) : TE := fun σ H Q =>
  ∃ (j : ι) (f : Addr), σ[i]? = some (some (.ref f)) ∧ LamAt q (pr j) (bd j) (sc j) (cloFrom cells (sc j).names []) H f ∧
    ∀ o, H f = some (LamO f o) → TT (fun E H' Q' => H' f = some (LamO f o) ∧ t j E σ H' Q') H Q
theorem pe_lamA {ι : Type} {TT : (XK → Hp → VK → Prop) → Hp → VK → Prop} {x a a2 : Str} {g : Addr} {k i : Nat} {bg : List Stmt} {sg : Scope} {cdv : Value} {Ng : List Str} {pr : ι → Arguments} {bd : ι → Expr} {sc : ι → Scope} {t : ι → XK → TE} {p p2 pos : Pos}
    (hg : Gl X x) (S : GetsL X.K X.mg x a g Ng sg bg cdv) (hG : GivesTo X Ng x sg g cdv bg a (X.env.qual ++ "<lambda>") TT) (F : LamF X k ι pr bd sc t) (hr : Room (k + 2) X.A) (hN2 : X.N[i]? = some a2) (hv2 : Vis X.env.scope a2)
    (hdb : (x == ("__debug__" : Str)) = false := by decide) (hd : (a == ("__debug__" : Str)) = false := by decide) (hcd : (a == ("__classdict__" : Str)) = false := by decide) (hd2 : (a2 == ("__debug__" : Str)) = false := by decide) (hcd2 : (a2 == ("__classdict__" : Str)) = false := by decide) :
    PE X (.Call (.Name x p) [.Name a2 p2] [] pos) (tLamA i TT (X.env.qual ++ "<lambda>") X.env.cells pr bd sc t) := by
  obtain ⟨pg, dV, kV, doc, pm, ct, oc, an, od, osl, lk, hb⟩ := S.lk
  refine ⟨fun pins s σ H Q I h => ?_⟩
  obtain ⟨j, f, hs, ⟨c', pm', ctv, hf, hc⟩, h⟩ := h
  have h := h _ hf
  refine wpAny_Call_Name_kw (ld_glob I hg S.m (PySem.W.callWith_K (h₀ := X.base) I.ok.mod.kin S.k ?_ (by rfl) (by rfl)) hdb)
  show wpAny _ _ (spliced ((false, eval (.Name a2 p2) X.env) :: backTo pos (starEach [] X.env))) _ _ s
  refine Calls.spliced_cons (thn ((pe_var (pos := p2) (i := i) hN2 hv2 hd2 hcd2).run pins s σ H (fun v H1 => v = .ref f ∧ H1 = H) I ⟨.ref f, hs, rfl, rfl⟩) fun u s1 ⟨v, H1, I1, r1, z1⟩ => ?_)
  obtain ⟨ev, eH⟩ := z1
  subst ev; rw [eH] at I1
  obtain rfl : u = Value.ref f := r1
  refine Calls.spliced_nil ⟨I1.kIn, ?_⟩
  have rc : codeAny (model X.prog X.w) X.A (.call (.ref g) ⟨[.ref f], []⟩) (CR C8.CX0 X.stack X.prog X.w H s1 Q C8.E0) s1 := by
    refine run_ofS (N := Ng) (ps := [a]) (us := [.ref f]) (vs := [.ref f]) lk S.c S.s hr I1.env0 (hb s1 [.ref f] I1.kIn rfl) (.cons rfl .nil) rfl fun hr' => ?_
    obtain ⟨t', ht', hq'⟩ := hG f c' s1 H Q _ (fun W pn xe E p1 p2 tk hW => pe_actV (i := 0) (pm := pm') (ctv := ctv) I1 (F.L j) (F.B j) tk hW hr' (fun _ _ _ _ IZ => IZ.base) (fun A outer s H hr2 => F.body j A outer s H E f c' hr2) S.n S.v hd hcd) hc h
    exact ⟨t', ht'.nox, hq'⟩
  refine wpAny_call (codeAny_mono rc fun r s2 hq => ?_)
  cases r with
  | error e => exact (show False from hq).elim
  | ok fl =>
    cases fl with
    | ret u => exact I1.after hq
    | next => exact False.elim hq
    | brk => exact False.elim hq
    | cont => exact False.elim hq
end
end Ew
namespace Ew
open PySem PySem.Spec PyProof.Rows L2
/-! ## the numbers at which a sum or a choice of two functions may bend -/
def crsQ (p q r s : Pt) : Rat := ((r.2 - slopeQ r s * r.1) - (p.2 - slopeQ p q * p.1)) / (slopeQ p q - slopeQ r s)
def bendK (p q r s : Pt) : List Rat := if slopeQ p q = slopeQ r s then [] else [crsQ p q r s]
def bendJ (ps qs : List Pt) (k j : Nat) : List Rat := bendK (ps.getD k dpt) (ps.getD (k + 1) dpt) (qs.getD j dpt) (qs.getD (j + 1) dpt)
def bendR (ps qs : List Pt) (k : Nat) (m : Nat) : List Rat := (List.range m).flatMap (bendJ ps qs k)
def bendA (ps qs : List Pt) (m : Nat) : List Rat := (List.range m).flatMap fun k => bendR ps qs k (qs.length - 1)
theorem bendR_succ (ps qs : List Pt) (k m : Nat) : bendR ps qs k (m + 1) = bendR ps qs k m ++ bendJ ps qs k m := by
  unfold bendR
  rw [List.range_succ, List.flatMap_append, List.flatMap_singleton]
theorem bendA_succ (ps qs : List Pt) (m : Nat) : bendA ps qs (m + 1) = bendA ps qs m ++ bendR ps qs m (qs.length - 1) := by
  unfold bendA
  rw [List.range_succ, List.flatMap_append, List.flatMap_singleton]
theorem bendJ_len (ps qs : List Pt) (k j : Nat) : (bendJ ps qs k j).length ≤ 1 := by
  unfold bendJ bendK
  split <;> simp
theorem bendR_len (ps qs : List Pt) (k : Nat) : ∀ m, (bendR ps qs k m).length ≤ m
  | 0 => by simp [bendR]
  | m + 1 => by
    rw [bendR_succ, List.length_append]
    have := bendR_len ps qs k m
    have := bendJ_len ps qs k m
    omega
theorem bendA_len (ps qs : List Pt) : ∀ m, (bendA ps qs m).length ≤ m * qs.length
  | 0 => by simp [bendA]
  | m + 1 => by
    rw [bendA_succ, List.length_append, Nat.succ_mul]
    have := bendA_len ps qs m
    have := bendR_len ps qs m (qs.length - 1)
    omega
def rawQ (ps qs : List Pt) : List Rat := (ps ++ qs).map (·.1) ++ bendA ps qs (ps.length - 1)
def bendsQ (ps qs : List Pt) : List Rat := (rawQ ps qs).filter fun x => inR (ps.getD 0 dpt).1 x (ps.getD (ps.length - 1) dpt).1
theorem crs_sz {n : Nat} {p q r s : Pt} (h1 : PSz n p) (h2 : PSz n q) (h3 : PSz n r) (h4 : PSz n s) (pq : q.1 - p.1 ≠ 0) (rs : s.1 - r.1 ≠ 0) (h : slopeQ p q ≠ slopeQ r s) : Sz ((n + (n + n + 1 + (n + n + 1) + n) + 1) + (n + (n + n + 1 + (n + n + 1) + n) + 1) + 1 + ((n + n + 1 + (n + n + 1)) + (n + n + 1 + (n + n + 1)) + 1)) (crsQ p q r s) := by
  have a := slope_sz h1 h2 pq
  have b := slope_sz h3 h4 rs
  exact ((h3.y.sub (b.mul h3.x)).sub (h1.y.sub (a.mul h1.x))).div (a.sub b) (by grind)
/-- the piece of some points that an interval without corners lies in -/
theorem piece_at : ∀ (ps : List Pt) (u v : Rat), 2 ≤ ps.length → AscQ ps → (ps.getD 0 dpt).1 ≤ u → u < v → v ≤ (ps.getD (ps.length - 1) dpt).1 → (∀ p ∈ ps, ¬ (u < p.1 ∧ p.1 < v)) →
    ∃ k, k + 1 < ps.length ∧ (ps.getD k dpt).1 ≤ u ∧ v ≤ (ps.getD (k + 1) dpt).1
  | [], _, _, h, _, _, _, _, _ => nomatch h
  | [_], _, _, h, _, _, _, _, _ => absurd h (by simp)
  | [p, q], u, v, _, _, l, _, r, _ => ⟨0, by simp, l, r⟩
  | p :: q :: r :: rest, u, v, _, asc, l, uv, hi, no => by
    by_cases c : q.1 ≤ u
    · obtain ⟨k, h1, h2, h3⟩ := piece_at (q :: r :: rest) u v (by simp) (List.pairwise_cons.mp asc).2 c uv hi (fun p hp => no p (List.mem_cons_of_mem _ hp))
      exact ⟨k + 1, by simpa using h1, h2, h3⟩
    · have qv : v ≤ q.1 := by
        have := no q (by simp)
        grind
      exact ⟨0, by simp, l, qv⟩
theorem height_line {p q : Pt} {x : Rat} : heightQ p q x = (p.2 - slopeQ p q * p.1) + slopeQ p q * x := by
  unfold heightQ
  grind
/-- where two lines cross -/
theorem crs_between {p q r s : Pt} {u v : Rat} (uv : u < v) (h : (heightQ p q u - heightQ r s u < 0 ∧ 0 < heightQ p q v - heightQ r s v) ∨ (0 < heightQ p q u - heightQ r s u ∧ heightQ p q v - heightQ r s v < 0)) :
    slopeQ p q ≠ slopeQ r s ∧ u < crsQ p q r s ∧ crsQ p q r s < v := by
  rw [height_line, height_line, height_line, height_line] at h
  unfold crsQ
  generalize slopeQ p q = a at *
  generalize slopeQ r s = b at *
  generalize p.2 - a * p.1 = c at *
  generalize r.2 - b * r.1 = d at *
  have ne : a - b ≠ 0 := by
    intro e
    have : a = b := by grind
    subst this
    grind
  refine ⟨fun e => ne (by grind), ?_⟩
  have key : (a - b) * ((d - c) / (a - b)) = d - c := by grind
  generalize (d - c) / (a - b) = t at *
  rcases (by grind : 0 < a - b ∨ 0 < b - a) with z | z
  · constructor
    · by_cases hh : u < t
      · exact hh
      · exfalso
        have m1 : 0 ≤ (a - b) * (u - t) := Rat.mul_nonneg (by grind) (by grind)
        have m2 : 0 < (a - b) * (v - u) := Rat.mul_pos z (by grind)
        grind
    · by_cases hh : t < v
      · exact hh
      · exfalso
        have m1 : 0 ≤ (a - b) * (t - v) := Rat.mul_nonneg (by grind) (by grind)
        have m2 : 0 < (a - b) * (v - u) := Rat.mul_pos z (by grind)
        grind
  · constructor
    · by_cases hh : u < t
      · exact hh
      · exfalso
        have m1 : 0 ≤ (b - a) * (u - t) := Rat.mul_nonneg (by grind) (by grind)
        have m2 : 0 < (b - a) * (v - u) := Rat.mul_pos z (by grind)
        grind
    · by_cases hh : t < v
      · exact hh
      · exfalso
        have m1 : 0 ≤ (b - a) * (t - v) := Rat.mul_nonneg (by grind) (by grind)
        have m2 : 0 < (b - a) * (v - u) := Rat.mul_pos z (by grind)
        grind
section
variable {F G : List Pt} {xs : List Rat} (f2 : 2 ≤ F.length) (fa : AscQ F) (g2 : 2 ≤ G.length) (ga : AscQ G) (e1 : (G.getD 0 dpt).1 = (F.getD 0 dpt).1) (e2 : (G.getD (G.length - 1) dpt).1 = (F.getD (F.length - 1) dpt).1)
  (xa : xs.Pairwise (· < ·)) (xm : ∀ x, x ∈ xs ↔ x ∈ bendsQ F G)
theorem bend_in {k j : Nat} (hk : k + 1 < F.length) (hj : j + 1 < G.length) (n : slopeQ (F.getD k dpt) (F.getD (k + 1) dpt) ≠ slopeQ (G.getD j dpt) (G.getD (j + 1) dpt)) : crsQ (F.getD k dpt) (F.getD (k + 1) dpt) (G.getD j dpt) (G.getD (j + 1) dpt) ∈ rawQ F G := by
  refine List.mem_append_right _ (List.mem_flatMap.mpr ⟨k, List.mem_range.mpr (by omega), List.mem_flatMap.mpr ⟨j, List.mem_range.mpr (by omega), ?_⟩⟩)
  unfold bendJ bendK
  rw [if_neg n]
  simp
include xm in
theorem bs_bd {x : Rat} (h : x ∈ xs) : (F.getD 0 dpt).1 ≤ x ∧ x ≤ (F.getD (F.length - 1) dpt).1 := by
  obtain ⟨_, z⟩ := List.mem_filter.mp ((xm x).mp h)
  have z := inR_iff.mp z
  grind
include xm in
theorem bs_has {x : Rat} (h : x ∈ rawQ F G) (l : (F.getD 0 dpt).1 ≤ x) (r : x ≤ (F.getD (F.length - 1) dpt).1) : x ∈ xs :=
  (xm x).mpr (List.mem_filter.mpr ⟨h, inR_iff.mpr (by grind)⟩)
include fa ga e1 e2 xm in
theorem bs_corner {p : Pt} (h : p ∈ F ++ G) : p.1 ∈ xs := by
  refine bs_has xm (List.mem_append_left _ (List.mem_map.mpr ⟨p, h, rfl⟩)) ?_ ?_
  · rcases List.mem_append.mp h with z | z
    · exact first_le fa z
    · have := first_le ga z; grind
  · rcases List.mem_append.mp h with z | z
    · exact le_last fa z
    · have := le_last ga z; grind
include f2 fa ga e1 e2 xa xm in
theorem bs_head : xs.headD 0 = (F.getD 0 dpt).1 := by
  have h := bs_corner fa ga e1 e2 xm (List.mem_append_left _ (getD_memP (ps := F) (i := 0) (by omega)))
  match xs, xa, xm, h with
  | y :: ys, xa, xm, h =>
    have b := (bs_bd xm (x := y) (by simp)).1
    rcases List.mem_cons.mp h with z | z
    · exact z.symm
    · have := (List.pairwise_cons.mp xa).1 _ z
      show y = _
      grind
include f2 fa ga e1 e2 xa xm in
theorem bs_last : xs.getLast? = some (F.getD (F.length - 1) dpt).1 := by
  have h := bs_corner fa ga e1 e2 xm (List.mem_append_left _ (getD_memP (ps := F) (i := F.length - 1) (by omega)))
  rcases List.eq_nil_or_concat xs with z | ⟨ys, y, z⟩
  · rw [z] at h; cases h
  · rw [List.concat_eq_append] at z
    subst z
    have b := (bs_bd xm (x := y) (by simp)).2
    rw [List.getLast?_append]
    rcases List.mem_append.mp h with w | w
    · have := (List.pairwise_append.mp xa).2.2 _ w y (by simp)
      grind
    · rw [List.mem_singleton.mp w]; rfl
include f2 fa ga e1 e2 xa xm in
theorem bs_two : 2 ≤ xs.length := by
  have h1 := bs_corner fa ga e1 e2 xm (List.mem_append_left _ (getD_memP (ps := F) (i := 0) (by omega)))
  have h2 := bs_corner fa ga e1 e2 xm (List.mem_append_left _ (getD_memP (ps := F) (i := F.length - 1) (by omega)))
  have lt := asc_at fa (i := 0) (j := F.length - 1) (by omega) (by omega)
  match xs, h1, h2 with
  | [y], h1, h2 =>
    have := List.mem_singleton.mp h1
    have := List.mem_singleton.mp h2
    grind
  | _ :: _ :: _, _, _ => simp
include f2 fa g2 ga e1 e2 xm in
theorem bs_lin {u v : Rat} (hu : u ∈ xs) (hv : v ∈ xs) (uv : u < v) (no : ∀ z ∈ xs, ¬ (u < z ∧ z < v)) : Lin (evalQ F) u v ∧ Lin (evalQ G) u v ∧ Lin (fun x => maxR (evalQ F x) (evalQ G x)) u v ∧ Lin (fun x => minR (evalQ F x) (evalQ G x)) u v := by
  have nF : ∀ p ∈ F, ¬ (u < p.1 ∧ p.1 < v) := fun p hp => no _ (bs_corner fa ga e1 e2 xm (List.mem_append_left _ hp))
  have nG : ∀ p ∈ G, ¬ (u < p.1 ∧ p.1 < v) := fun p hp => no _ (bs_corner fa ga e1 e2 xm (List.mem_append_right _ hp))
  have lF : Lin (evalQ F) u v := fun x x1 x2 => eval_lin F u v x f2 fa uv nF x1 x2
  have lG : Lin (evalQ G) u v := fun x x1 x2 => eval_lin G u v x g2 ga uv nG x1 x2
  have bu := bs_bd xm hu
  have bv := bs_bd xm hv
  obtain ⟨k, k1, k2, k3⟩ := piece_at F u v f2 fa bu.1 uv bv.2 nF
  obtain ⟨j, j1, j2, j3⟩ := piece_at G u v g2 ga (by grind) uv (by grind) nG
  have fu := eval_piece f2 fa k1 k2 (x := u) (by grind)
  have fv := eval_piece f2 fa k1 (x := v) (by grind) k3
  have gu := eval_piece g2 ga j1 j2 (x := u) (by grind)
  have gv := eval_piece g2 ga j1 (x := v) (by grind) j3
  have key := fun h => crs_between (p := F.getD k dpt) (q := F.getD (k + 1) dpt) (r := G.getD j dpt) (s := G.getD (j + 1) dpt) uv h
  rw [← fu, ← fv, ← gu, ← gv] at key
  have stop : ∀ h, False := fun h => by
    obtain ⟨n, c1, c2⟩ := key h
    exact no _ (bs_has xm (bend_in k1 j1 n) (by grind) (by grind)) ⟨c1, c2⟩
  have ch := lin_choice uv lF lG (fun z => stop (.inl z)) (fun z => stop (.inr z))
  exact ⟨lF, lG, ch.1, ch.2⟩
include f2 fa g2 ga e1 e2 xa xm in
theorem bs_eval {h : Rat → Rat} (hl : ∀ u v, u < v → Lin (evalQ F) u v → Lin (evalQ G) u v → Lin (fun x => maxR (evalQ F x) (evalQ G x)) u v → Lin (fun x => minR (evalQ F x) (evalQ G x)) u v → Lin h u v) {x : Rat} (x1 : (F.getD 0 dpt).1 ≤ x) (x2 : x ≤ (F.getD (F.length - 1) dpt).1) : evalQ (onQ h xs) x = h x := by
  refine eval_glue xs _ x (bs_two f2 fa ga e1 e2 xa xm) xa (fun u v hu hv uv no => ?_) (bs_last f2 fa ga e1 e2 xa xm) (by rw [bs_head f2 fa ga e1 e2 xa xm]; exact x1) x2
  obtain ⟨a, b, c, d⟩ := bs_lin f2 fa g2 ga e1 e2 xm hu hv uv no
  exact hl u v uv a b c d
end
end Ew
namespace Ew
open PySem PySem.Spec PyProof.Rows L2
/-! ## sorted(a set of ints), however many -/
section
variable {P : Program} {w : World} {A : Around} {E : Value → Shared → Prop} {s : Shared} {a : Addr}
theorem sorted_setN {S : Int → Bool} {n : Nat} {Q : Value → Shared → Prop} (R : SetR w s.heap a S n) (quiet : A.handled = none)
    (k : ∀ (z : Shared) (p : Addr) (out : List Value) (ep : Nat) (ns : List Int), (∀ b o, s.heap.get? b = some o → z.heap.get? b = some o) → z.gens = s.gens → z.os = s.os → s.heap.objs.size ≤ p →
      z.heap.get? p = some (seqObj "list" out.toArray ep) → IntsAre out ns → ns.Pairwise (· < ·) → (∀ j, j ∈ ns ↔ S j = true) → ns.length = n → Q (.ref p) z) :
    wpAny (model P w) A (call (.builtin "sorted") [.ref a]) Q E s := by
  obtain ⟨ob, es, ep, tb, hob, exact_, dat, good, nodup, mem, bound, fits, size, ris, led⟩ := R
  refine Calls.call_function_entry kind_sorted plain_sorted entry_sorted (args_sorted1 _) ?_
  unfold Builtin.«sorted»
  refine wpAny_bind (m := checkCount "sorted" 1 1 _) (wpAny_pure (wpAny_bind (collect_set (A := A.in1) quiet ⟨ob, hob, exact_.1, dat⟩ fits bound ris led fun z vs keep le gens os perm => ?_)))
  have len : vs.length = n := by rw [perm.length_eq, List.length_map, Array.length_toList, size]
  have isInts : ∀ v ∈ vs, ∃ i t, v = Value.int i t := fun v hv => by
    obtain ⟨e, he, ee⟩ := List.mem_map.mp (perm.mem_iff.mp hv)
    obtain ⟨i, t, h1, _⟩ := good e he
    exact ⟨i, t, ee ▸ h1⟩
  have hInt := SrtO.ints_iv isInts
  have fit : vs.length ≤ sizeLine := by rw [len, ← size]; exact fits_of_scanBound bound
  refine wpAny_bind (wpAny_newList ?_ fit)
  have atL : (z.heap.push (seqObj "list" vs.toArray 0)).get? z.heap.objs.size = some (seqObj "list" vs.toArray 0) := Heap.get?_push_size _ rfl
  refine wpAny_bind (wpAny_holding (wpAny_call_entry slot_list_sort ⟨_, atL, rfl⟩ entry_list_sort (SrtO.list_sort_ord SrtO.swo_int atL fit (fun two => SrtO.ints_sortable hInt two) fun out srt stb => ⟨_, rfl, ?_⟩) (args_list_sort _)))
  obtain ⟨o1, o2, o3⟩ := SrtO.ints_out hInt srt stb
  obtain ⟨ep', at'⟩ := sortedHeap_at (vs := vs) (out := out.toArray) atL
  have keys : (vs.map SrtO.iv).Perm (es.toList.map keyOf) := by
    have e : (es.toList.map (·.2)).map SrtO.iv = es.toList.map keyOf := by
      rw [List.map_map]
      refine List.map_congr_left fun e he => ?_
      obtain ⟨i, t, h1, _⟩ := good e he
      show SrtO.iv e.2 = keyOf e
      unfold keyOf
      rw [h1]
      rfl
    exact e ▸ perm.map SrtO.iv
  have pk := o2.trans keys
  refine wpAny_pure ⟨_, rfl, k _ z.heap.objs.size out ep' (out.map SrtO.iv) (fun b o e => ?_) gens os le at' o1 (L2.lt_of_le_nodup _ o3 (pk.nodup_iff.mpr nodup)) (fun j => by rw [pk.mem_iff, ← mem j]) (by rw [pk.length_eq, List.length_map, Array.length_toList, size])⟩
  have q := keep b o e
  exact (sortedHeap_old (Nat.ne_of_lt (Heap.lt_size q)) (by rw [size_push']; exact Nat.lt_succ_of_lt (Heap.lt_size q))).trans (Heap.get?_push_of_some _ q)
end
def rSortedSetN (w : World) : List V → Hp → VK → Prop := fun vs H Q => ∃ (a : Addr) (S : Int → Bool) (n : Nat), vs = [V.ref a] ∧ H a = some (SetO w a S n) ∧
  ∀ (ns : List Int) (p : Addr), ns.Pairwise (· < ·) → (∀ k : Int, k ∈ ns ↔ S k = true) → ns.length = n → H p = none → Q (.ref p) (upd H p (.lst (ns.map V.int)))
theorem cr_sortedSetN {X : Cx} (calm : X.calm = true) : CallR X (.builtin "sorted") (rSortedSetN X.w) := by
  intro pins s σ H vs us Q I r h
  obtain ⟨a, S, n, rfl, ha, q⟩ := h
  rw [Vals.ref1 r]
  have R := setO_get I ha
  refine sorted_setN R (I.ok.hd calm) fun z p out ep ns keep gens os le at' hInt asc mem len => ?_
  have few : (ns.map V.int).length ≤ sizeLine := by
    rw [List.length_map, len]
    obtain ⟨ob, es, ep2, tb, h1, h2, h3, h4, h5, h6, bound, h8, size, _⟩ := R
    rw [← size]
    exact fits_of_scanBound bound
  have fresh : H p = none := I.hok.fresh le
  have J := I.call' (ch := []) os (Un.laid (o := .lst (ns.map V.int)) keep le fresh) (I.hok.laid keep le ⟨few, out, ep, vals_of_ints hInt, at'⟩) (by rw [gens]; exact I.bare) (fun _ y => nomatch y)
  exact ⟨.ref p, _, J, rfl, q ns p asc mem len fresh⟩
/-! ## set(a list of ints) -/
/-- a new set, nothing in it -/
abbrev set0 (w : World) : Obj := { cls := .type "set", dict := none, data := .set #[] 0 (.fresh 0 0 (!w.params.followText "set-order")) }
section
variable {P : Program} {w : World} {A : Around} {E : Value → Shared → Prop} {s : Shared}
theorem set_of_list {l : Addr} {items : Array Value} (ns : List Int) {Q : Value → Shared → Prop} (quiet : A.handled = none) (isL : s.heap.IsList l items) (hInt : IntsAre items.toList ns) (few : ns.length + 1 < scanBound)
    (k : ∀ (g : Heap) (tk c : Nat), SetR w g s.heap.objs.size (fun j => decide (j ∈ ns)) c → c ≤ ns.length → (∀ b o, s.heap.get? b = some o → g.get? b = some o) → Q (.ref s.heap.objs.size) { s with heap := g, toks := tk }) :
    wpAny (model P w) A (call (.type "set") [.ref l]) Q E s := by
  have size : items.size = ns.length := by have z := IntsAre.length hInt; rwa [Array.length_toList] at z
  obtain ⟨mc, mt, mro⟩ := F.called_set.mro
  have c1 := F.called_set.made
  have c2 := F.called_set.sub
  refine wpAny_call (codeAny_of_tree (show wpAny _ _ (callAny (.type "set") _) _ _ _ from wpAny_pure ⟨Code.quiet_builtin _ (by decide +kernel), codeAny_builtin F.entry_type_call ?_⟩))
  rw [Around.under_plain (weight_type_call_type "set" [.ref l] []) rfl]
  have c3 := F.called_set.notType
  have c4 := F.called_set.canCreate
  have c5 := F.typeCall_set_1 (.ref l)
  repeat (any_goals (first | assumption | wp_step))

  refine codeAny_mono (L2.code_set_led1 (.ref l) (E := E) (Q₁ := fun obj z => obj = .ref s.heap.objs.size ∧ z = { s with heap := s.heap.push (set0 w) }) ⟨rfl, rfl⟩) fun r z hr => ?_
  match r, hr with
  | .error _, hr => exact hr
  | .ok (.ret obj), hr =>
    obtain ⟨rfl, rfl⟩ := hr
    have at0 : (s.heap.push (set0 w)).get? s.heap.objs.size = some (set0 w) := Heap.get?_push_size _ rfl
    have ty : Shared.TypeIs { s with heap := s.heap.push (set0 w) } (.ref s.heap.objs.size) "set" := ⟨_, at0, rfl⟩
    have i1 := F.called_set.init.lookup
    have i2 := F.called_set.init.bind (.ref s.heap.objs.size)
    repeat (any_goals (first | assumption | wp_step))

    refine codeAny_mono (codeAny_call_builtin (R := wants (fun v z => v = .none ∧ ∃ g tk c, z = { s with heap := g, toks := tk } ∧ SetR w g s.heap.objs.size (fun j => decide (j ∈ ns)) c ∧ c ≤ ns.length ∧ ∀ b o, s.heap.get? b = some o → g.get? b = some o) E) F.called_set.init.plain F.entry_set_init (check_set_init_1 ty ?_)) fun r2 z2 hr2 => ?_
    · obtain ⟨⟨oc, od, odt, osl⟩, hol, hcl, cap, hdl⟩ := isL
      simp only at hcl hdl
      subst hcl hdl
      have ol : (s.heap.push (set0 w)).get? l = some { cls := .type "list", dict := od, data := .seq items cap, slots := osl } := Heap.get?_push_of_some _ hol
      have x1 := F.sub_list_set
      have x2 := F.sub_list_frozenset
      have x3 : (Value.type "list" == Value.type "dict") = false := by decide
      have isL1 : (s.heap.push (set0 w)).IsList l items := ⟨_, ol, rfl, cap, rfl⟩
      have lt : l < s.heap.objs.size := Heap.lt_size hol
      have sz1 : (s.heap.push (set0 w)).objs.size = s.heap.objs.size + 1 := Heap.size_push ..
      unfold Builtin.«set.__init__» noKeywords Builtin.Frozenset.updateFrom
      generalize hPI : pyIter = PI
      wp_walk
      subst hPI

      refine wpAny_pyIter_list isL1 (wpAny_bind (wpAny_runValue ?_))
      have quiet3 : A.in1.in1.in1.handled = none := by simp [quiet]
      have ne1 : l ≠ (s.heap.push (set0 w)).objs.size := by rw [sz1]; exact Nat.ne_of_lt (Nat.lt_succ_of_lt lt)
      have off : s.heap.objs.size ∉ [(s.heap.push (set0 w)).objs.size, l] := by
        rw [sz1]
        intro z
        rcases List.mem_cons.mp z with z | z
        · exact absurd z (Nat.ne_of_lt (Nat.lt_succ_self _))
        · exact absurd (List.mem_singleton.mp z) (Nat.ne_of_gt lt)
      have vals : ∀ (i : Nat) (v : Value), items[i]? = some v → ∃ j t, ns[i]? = some j ∧ v = .int j t := fun i v hv => by
        have hi : i < ns.length := size ▸ (Array.getElem?_eq_some_iff.mp hv).1
        obtain ⟨t, e⟩ := IntsAre.int_at hInt i v (by rw [Array.getElem?_toList]; exact hv)
        exact ⟨ns[i], t, List.getElem?_eq_getElem hi, by rw [e, List.getD_eq_getElem?_getD, List.getElem?_eq_getElem hi]; rfl⟩
      refine L2.set_update_ints ((Walks.list quiet3 _ l ne1 items).toS) s.heap.objs.size off ns size few vals _ 0 _ rfl (Nat.zero_le _) ⟨⟨_, Heap.get?_push_size _ rfl, rfl, rfl⟩, isL1.push _⟩ ⟨0, Nat.le_refl 0, L2.setR_new_at (Heap.get?_push_of_some _ at0)⟩ ?_
      rintro ⟨g, gs, dr, tk, os⟩ c moved le R
      have e1 : gs = s.gens := moved.gens
      have e2 : dr = s.drawn := moved.drawn
      have e3 : os = s.os := moved.os
      subst e1 e2 e3
      refine wpAny_pure (show wpAny _ _ (ret Value.none) _ _ _ from wpAny_pure ⟨rfl, g, tk, c, rfl, R, size ▸ le, fun b o e => ?_⟩)
      have lb : b < s.heap.objs.size := Heap.lt_size e
      refine moved.heap b o ?_ (Heap.get?_push_of_some _ (Heap.get?_push_of_some _ e))
      rw [sz1]
      intro z
      rcases List.mem_cons.mp z with z | z
      · exact absurd z (Nat.ne_of_lt lb)
      · exact absurd (List.mem_singleton.mp z) (Nat.ne_of_lt (Nat.lt_succ_of_lt lb))
    · match r2, hr2 with
      | .error _, hr2 => exact hr2
      | .ok (.ret v), hr2 =>
        obtain ⟨rfl, g, tk, c, rfl, R, le, keep⟩ := hr2
        repeat (any_goals (first | assumption | wp_step))
        exact k _ _ _ R le keep
      | .ok .next, hr2 => exact hr2.elim
      | .ok .brk, hr2 => exact hr2.elim
      | .ok .cont, hr2 => exact hr2.elim
  | .ok .next, hr => exact hr.elim
  | .ok .brk, hr => exact hr.elim
  | .ok .cont, hr => exact hr.elim
end
def rSetOfL (K : PySem.W.Frag) (w : World) : List V → Hp → VK → Prop := fun vs H Q => ∃ (a : Addr) (ns : List Int), vs = [V.ref a] ∧ SqL K H a (ns.map V.int) ∧ ns.length + 1 < scanBound ∧ ∀ (p : Addr) (c : Nat), H p = none → Q (.ref p) (upd H p (SetO w p (fun j => decide (j ∈ ns)) c))
theorem cr_setOfL {X : Cx} (calm : X.calm = true) : CallR X (.type "set") (rSetOfL X.K X.w) := by
  intro pins s σ H vs us Q I r h
  obtain ⟨a, ns, rfl, hs, few, q⟩ := h
  rw [Vals.ref1 r]
  obtain ⟨its, rv, pl, _⟩ := I.list hs
  refine set_of_list ns (I.ok.hd calm) pl.isList (by simpa using rv.ints) few fun g tk c R le keep => ?_
  exact ⟨.ref _, _, I.laid (t' := tk) keep (Nat.le_refl _) (setO_new R), rfl, q _ c (I.hok.fresh (Nat.le_refl _))⟩
/-! ## xs != ys, two lists that hold the same things -/
def rNeSame : R2 := fun x y H Q => ∃ (a b : Addr) (xs : List V), x = .ref a ∧ y = .ref b ∧ H a = some (.lst (xs)) ∧ H b = some (.lst xs) ∧ (∀ v ∈ xs, ∃ c, v = V.ref c) ∧ Q (.bl false) H
theorem refs_same : ∀ {xs : List V} {us ws : List Value}, Vals xs us → Vals xs ws → (∀ v ∈ xs, ∃ c, v = V.ref c) → us = ws
  | [], _, _, r, q, _ => by cases r; cases q; rfl
  | x :: xs, _, _, r, q, h => by
    cases r with
    | cons r1 r2 =>
      cases q with
      | cons q1 q2 =>
        obtain ⟨c, rfl⟩ := h x (by simp)
        cases (show _ = Value.ref c from r1)
        cases (show _ = Value.ref c from q1)
        rw [refs_same r2 q2 fun v hv => h v (List.mem_cons_of_mem _ hv)]
theorem op_neSame {X : Cx} (hu : X.A.units + 64 < cLine) : OpR X (compareOp .NotEq) rNeSame := by
  intro pins s σ H x y v u Q I rx ry h
  obtain ⟨a, b, xs, rfl, rfl, ha, hb, hr, q⟩ := h
  cases rx
  cases ry
  obtain ⟨z1, i1, n1, v1, l1, o1⟩ := I.lstM ha
  obtain ⟨z2, i2, n2, v2, l2, o2⟩ := I.lstM hb
  obtain rfl := refs_same v1 v2 hr
  have c := SeqAt.RcNeAt.lists (A := X.A) (s := s) (l := a) (b := b) (items := i1.toArray) (items2 := i1.toArray) (e := fun _ => true) ⟨_, o1, rfl, n1, rfl⟩ ⟨_, o2, rfl, n2, rfl⟩ rfl (by omega) fun j h1 h2 => SeqAt.EqAt.same _
  refine c X.prog X.w _ _ ?_
  refine ⟨.bl false, H, I, ?_, q⟩
  show Value.bool _ = Value.bool false
  simp
end Ew
namespace Ew
open PySem PySem.Spec PyProof.Rows L2
/-! ## {elt for t0 in i0 for t1 in i1}: a set of ints over two sources, without tests -/
abbrev SC2 (elt t0 i0 t1 i1 : Expr) (sc : Scope) (pos : Pos) : Expr := .SetComp elt [⟨t0, i0, [], 0⟩, ⟨t1, i1, [], 0⟩] sc pos
section
variable {prog : Program} {w : World} {A : Around} {R : Result → Shared → Prop} {s : Shared} {elt t0 i0 t1 i1 : Expr} {sc : Scope} {pos : Pos} {it acc : Value} {env : Env}
theorem sc2_turn0 : compTurn (SC2 elt t0 i0 t1 i1 sc pos) 0 it acc env = (do
    standAt i0.pos
    match ← pyNext it with
    | none => pure (.done .next)
    | some v =>
      letOwnedTupleGo t0 it v
      assign t0 env v
      let x ← eval i1 env
      standAt i1.pos
      let x ← foldedSetIterable i1 env x
      let _ ← runOwn (.compStart (SC2 elt t0 i0 t1 i1 sc pos) 1 (← holding [x] (pyIter x)) acc env) env
      again (.compLoop (SC2 elt t0 i0 t1 i1 sc pos) 0 it acc env)) := rfl
theorem sc2_turn1 : compTurn (SC2 elt t0 i0 t1 i1 sc pos) 1 it acc env = (do
    standAt i1.pos
    match ← pyNext it with
    | none => pure (.done .next)
    | some v =>
      letOwnedTupleGo t1 it v
      assign t1 env v
      (do let v ← eval elt env; standAt elt.pos; let _ ← call (.builtin "set.add") [acc, v])
      again (.compLoop (SC2 elt t0 i0 t1 i1 sc pos) 1 it acc env)) := rfl
/-- what an error does -/
abbrev noted (prog : Program) (w : World) (A : Around) (env : Env) (R : Result → Shared → Prop) : Value → Shared → Prop := notedBy (model prog w) A env fun e z => R (.error e) z
theorem sc2_loop0 (plain : ∀ x, foldedSetIterable i1 env x = pure x) (J : Nat → Shared → Prop)
    (turn : ∀ n s, J n s → wpAny (model prog w) A (pyNext it) (fun r z => match r with
      | none => R (.ok .next) z
      | some v => wpAny (model prog w) A (letOwnedTupleGo t0 it v) (fun _ z => wpAny (model prog w) A (assign t0 env v) (fun _ z => wpAny (model prog w) A (eval i1 env) (fun x z => wpAny (model prog w) A (pyIter x) (fun it1 z =>
          codeAny (model prog w) A (.compStart (SC2 elt t0 i0 t1 i1 sc pos) 1 it1 acc env) (fun r z => match r with
            | .ok _ => ∃ m, m < n ∧ J m z
            | .error _ => False) z) (noted prog w A env R) z) (noted prog w A env R) z) (noted prog w A env R) z) (noted prog w A env R) z) (noted prog w A env R) s)
    (n : Nat) (h : J n s) : codeAny (model prog w) A (.compLoop (SC2 elt t0 i0 t1 i1 sc pos) 0 it acc env) R s := by
  refine codeAny_loop rfl J (fun n s hJ => wpAny_noted ?_) n h
  rw [sc2_turn0]
  refine wpAny_bind (wpAny_standAt (wpAny_bind (thn (turn n s hJ) fun r z q => ?_)))
  match r, q with
  | none, q => exact wpAny_pure q
  | some v, q =>
    refine wpAny_bind (thn q fun _ z q => wpAny_bind (thn q fun _ z q => wpAny_bind (thn q fun x z q => wpAny_bind (wpAny_standAt (wpAny_bind (wpAny_of_eq (plain x) (wpAny_bind (wpAny_holding (thn q fun it1 z q => wpAny_bind (wpAny_runOwn ?_))))))))))
    rw [Around.mark_none]
    refine codeAny_mono q fun r z q => ?_
    match r, q with
    | .ok _, q => first | exact wpAny_pure ⟨rfl, q⟩ | exact wpAny_bind (wpAny_pure (wpAny_pure ⟨rfl, q⟩))
    | .error _, q => exact q.elim
theorem sc2_loop1 (J : Nat → Shared → Prop)
    (turn : ∀ n s, J n s → wpAny (model prog w) A (pyNext it) (fun r z => match r with
      | none => R (.ok .next) z
      | some v => wpAny (model prog w) A (letOwnedTupleGo t1 it v) (fun _ z => wpAny (model prog w) A (assign t1 env v) (fun _ z => wpAny (model prog w) A (eval elt env) (fun x z =>
          wpAny (model prog w) A (call (.builtin "set.add") [acc, x]) (fun _ z => ∃ m, m < n ∧ J m z) (noted prog w A env R) z) (noted prog w A env R) z) (noted prog w A env R) z) (noted prog w A env R) z) (noted prog w A env R) s)
    (n : Nat) (h : J n s) : codeAny (model prog w) A (.compLoop (SC2 elt t0 i0 t1 i1 sc pos) 1 it acc env) R s := by
  refine codeAny_loop rfl J (fun n s hJ => wpAny_noted ?_) n h
  rw [sc2_turn1]
  refine wpAny_bind (wpAny_standAt (wpAny_bind (thn (turn n s hJ) fun r z q => ?_)))
  match r, q with
  | none, q => exact wpAny_pure q
  | some v, q => exact wpAny_bind (thn q fun _ z q => wpAny_bind (thn q fun _ z q => wpAny_bind (wpAny_bind (thn q fun x z q => wpAny_bind (wpAny_standAt (wpAny_bind (thn q fun _ z q => wpAny_pure (wpAny_pure ⟨rfl, q⟩))))))))
theorem sc2_start1 (h0 : codeAny (model prog w) A (.compLoop (SC2 elt t0 i0 t1 i1 sc pos) 1 it acc env) R s)
    (h : wpAny (model prog w) A (pyIter it) (fun it' z => codeAny (model prog w) A (.compLoop (SC2 elt t0 i0 t1 i1 sc pos) 1 it' acc env) R z) (noted prog w A env R) s) :
    codeAny (model prog w) A (.compStart (SC2 elt t0 i0 t1 i1 sc pos) 1 it acc env) R s := by
  refine codeAny_of_tree (show wpAny _ _ ((compStart (SC2 elt t0 i0 t1 i1 sc pos) 1 it acc env).onRaise fun x => do noteFrame x env; standAt theWindowsPlace) _ _ s from wpAny_notedAt ?_)
  unfold compStart
  refine wpAny_bind (wpAny_askSetting (wpAny_ite ?_))
  split
  · first | exact wpAny_pure ⟨rfl, h0⟩ | exact wpAny_bind (wpAny_pure (wpAny_pure ⟨rfl, h0⟩))
  · refine wpAny_bind (wpAny_rule ?_)
    exact (show wpAny _ _ (standAt i1.pos >>= _) _ _ s from wpAny_bind (wpAny_standAt (wpAny_bind (thn h fun _ _ q => wpAny_pure ⟨rfl, q⟩))))
end
section
variable {X : Cx}
/-- the reading: D is the new set; W and W1 tell how both loops go -/
def tSc2 (w : World) (wi : TI) (g : TG) (wi1 : TI) (g1 : TG) (te : TE) (vs vs1 : List Nat) : TE := fun σ H Q => wi σ H fun J H1 => ∀ D, H1 D = none → ∃ W : Nat → Nat → Hp → Prop, (∃ m, W 0 m (upd H1 D (SetO w D (fun _ => false) 0))) ∧ ∀ i m H, W i m H →
  (J.stop i H ∧ Q (.ref D) H) ∨ (J.go i H ∧ ∃ Nx : Hp → Prop, (∀ H', Nx H' → ∃ m', m' < m ∧ W (i + 1) m' H') ∧ ∀ x H', J.yld i H x H' → g x (wipe σ vs) H' fun σ2 H2 => wipe σ2 vs = wipe σ vs ∧
    wi1 σ2 H2 fun J1 H4 => ∃ W1 : Nat → Nat → Hp → Prop, (∃ m, W1 0 m H4) ∧ ∀ j k H, W1 j k H →
      (J1.stop j H ∧ Nx H) ∨ (J1.go j H ∧ ∃ Nx1 : Hp → Prop, (∀ H', Nx1 H' → ∃ k', k' < k ∧ W1 (j + 1) k' H') ∧ ∀ x H', J1.yld j H x H' → g1 x (wipe σ2 vs1) H' fun σ3 H5 => wipe σ3 vs1 = wipe σ2 vs1 ∧
        te σ3 H5 fun y H7 => ∃ (c : Int) (S : Int → Bool) (n : Nat), y = .int c ∧ H7 D = some (SetO w D S n) ∧ n + 1 < scanBound ∧ Nx1 (upd H7 D (SetO w D (fun j => S j || decide (j = c)) (if S c = true then n else n + 1)))))
/-- an int goes into the set -/
theorem sc2_add {pins : List (Addr × Obj)} {σ : L2.St} {H : Hp} {s : Shared} {E : Value → Shared → Prop} {D : Addr} {S : Int → Bool} {n : Nat} {c : Int} {u : Value} {Q : Value → Shared → Prop} (I : Inv X pins σ H s) (hD : H D = some (SetO X.w D S n)) (few : n + 1 < scanBound) (r : RelV (.int c) u)
    (h : ∀ z, Inv X pins σ (upd H D (SetO X.w D (fun j => S j || decide (j = c)) (if S c = true then n else n + 1))) z → Q .none z) : wpAny (model X.prog X.w) X.A (call (.builtin "set.add") [.ref D, u]) Q E s := by
  obtain ⟨t, rfl⟩ := r
  refine setR_add (setO_get I hD) few fun g sb new => h _ (I.write (e := D) (t' := s.toks + 1) (by rw [hD]; trivial) (.inl rfl) (fun b o nb e => (sb.2 b nb).trans e) ?_ (setO_new new))
  obtain ⟨o, _, _, _, ho, _⟩ := id new
  exact ⟨o, ho⟩
theorem pe_sc2 {elt t0 i0 t1 i1 : Expr} {sc : Scope} {own : List (PySem.Str × Nat)} {vs1 : List Nat} {pos : Pos} {wi wi1 : TI} {g g1 : TG} {te : TE} (calm : X.calm = true) (nd : X.N.Nodup) (src : PI X t0 i0 wi) (ok : BlkOk X.N X.env.scope sc own) (sub : ∀ i ∈ vs1, i ∈ own.map (·.2))
    (tg0 : ∀ (s : Shared) (H : Hp) (C : Addr) (cl : List (PySem.Str × Addr)) (fp : List Addr), PG (X.blk s H sc (compEnvC sc cl C X.env) fp) t0 g)
    (src1 : ∀ (s : Shared) (H : Hp) (C : Addr) (cl : List (PySem.Str × Addr)) (fp : List Addr), PI (X.blk s H sc (compEnvC sc cl C X.env) fp) t1 i1 wi1)
    (tg1 : ∀ (s : Shared) (H : Hp) (C : Addr) (cl : List (PySem.Str × Addr)) (fp : List Addr), PG (X.blk s H sc (compEnvC sc cl C X.env) fp) t1 g1)
    (el : ∀ (s : Shared) (H : Hp) (C : Addr) (cl : List (PySem.Str × Addr)) (fp : List Addr), PE (X.blk s H sc (compEnvC sc cl C X.env) fp) elt te)
    (pl0 : ∀ x, foldedSetIterable i0 X.env x = pure x := by intro _; rfl) (pl1 : ∀ env x, foldedSetIterable i1 env x = pure x := by intro _ _; rfl) :
    PE X (SC2 elt t0 i0 t1 i1 sc pos) (tSc2 X.w wi g wi1 g1 te (own.map (·.2)) vs1) := by
  refine ⟨fun pins s σ H Q I h => ?_⟩
  rw [PpSet.eval_SetComp]
  have free : ∀ y ∈ sc.names, y.2 = .free → ∃ c, X.env.cells.lookup y.1 = some c := fun y hy e => I.ok.has _ (ok.free y hy e)
  refine wpAny_comprehension_free (use := none) rfl pl0 (closure_ok free) ok.kind (fun y hy e => by rw [ok.uniq y hy, e]) (thn (src.run pins s σ H _ I h) fun _ _ hx => thn hx fun _ s2 h2 => ?_)
  obtain ⟨it, fp, tn, J, H2, rfl, I2, T, st2, f2, q⟩ := h2
  refine PpSet.newSet_ok (newEnv_comp ?_)
  -- the new set, the block's frame
  generalize eD : s2.heap.objs.size = D
  obtain ⟨W, ⟨m0, w0⟩, turn⟩ := q D (I2.hok.fresh (Nat.le_of_eq eD))
  have new : SetR X.w (s2.heap.push (set0 X.w)) D (fun _ => false) 0 := by
    have z := L2.setR_new_at (w := X.w) (ns := []) (h := s2.heap.push (set0 X.w)) (a := s2.heap.objs.size) (Heap.get?_push_size _ rfl)
    rw [eD] at z
    exact z.congr fun j => by simp
  have I3 : Inv X pins σ (upd H2 D (SetO X.w D (fun _ => false) 0)) { s2 with heap := s2.heap.push (set0 X.w) } := I2.laid (t' := s2.toks) (fun b o e => Heap.get?_push_of_some _ e) (Nat.le_of_eq eD) (setO_new new)
  have f3 : ∀ b ∈ fp, FpOk X pins (upd H2 D (SetO X.w D (fun _ => false) 0)) b ∧ b < (s2.heap.push (set0 X.w)).objs.size := fun b hb => by
    obtain ⟨o, e, _⟩ := T.obj _ _ st2 b hb
    have lt := Heap.lt_size e
    exact ⟨⟨(upd_ne (eD ▸ Nat.ne_of_lt lt)).trans (f2 b hb).1, (f2 b hb).2⟩, by rw [Heap.size_push]; exact Nat.lt_succ_of_lt lt⟩
  have st3 : tn 0 (s2.heap.push (set0 X.w)) := T.keep _ _ _ st2 fun b _ o e => Heap.get?_push_of_some _ e
  generalize eH : upd H2 D (SetO X.w D (fun _ => false) 0) = H3 at I3 f3 w0
  generalize eS : ({ s2 with heap := s2.heap.push (set0 X.w) } : Shared) = s3 at I3 ⊢
  have sh : s3.heap = s2.heap.push (set0 X.w) := by rw [← eS]
  rw [← sh] at f3 st3
  have I4 := block_start I3 ok nd f3
  have a0 := tg0 s3 H3 s3.heap.objs.size (cellsFrom (s3.heap.objs.size + 1) sc.names (cloFrom X.env.cells sc.names [])) fp
  have a1 := src1 s3 H3 s3.heap.objs.size (cellsFrom (s3.heap.objs.size + 1) sc.names (cloFrom X.env.cells sc.names [])) fp
  have a2 := tg1 s3 H3 s3.heap.objs.size (cellsFrom (s3.heap.objs.size + 1) sc.names (cloFrom X.env.cells sc.names [])) fp
  have a3 := el s3 H3 s3.heap.objs.size (cellsFrom (s3.heap.objs.size + 1) sc.names (cloFrom X.env.cells sc.names [])) fp
  have loc : (compEnvC sc (cellsFrom (s3.heap.objs.size + 1) sc.names (cloFrom X.env.cells sc.names [])) s3.heap.objs.size X.env).locals = s3.heap.objs.size := rfl
  have st4 : tn 0 (pushCells (s3.heap.push { cls := .type "dict", data := .dict #[] }) sc.names) := T.keep _ _ _ st3 fun b _ o e => pushCells_keeps _ _ _ _ (Heap.get?_push_of_some _ e)
  show codeAny _ _ (.compStart (SC2 elt t0 i0 t1 i1 sc pos) 0 (.ref it) (.ref D) (compEnvC sc (cellsFrom (s3.heap.objs.size + 1) sc.names (cloFrom X.env.cells sc.names [])) s3.heap.objs.size X.env)) _ { s3 with heap := pushCells (s3.heap.push { cls := .type "dict", data := .dict #[] }) sc.names }
  generalize compEnvC sc (cellsFrom (s3.heap.objs.size + 1) sc.names (cloFrom X.env.cells sc.names [])) s3.heap.objs.size X.env = ce at I4 a0 a1 a2 a3 loc ⊢
  generalize eS4 : ({ s3 with heap := pushCells (s3.heap.push { cls := .type "dict", data := .dict #[] }) sc.names } : Shared) = s4 at I4 ⊢
  replace st4 : tn 0 s4.heap := by rw [← eS4]; exact st4
  have own_ : ∀ {τ : L2.St} {G : Hp} {z : Shared}, Inv (X.blk s3 H3 sc ce fp) [] τ G z → (∀ b ∈ fp, G b = none) → ∀ b ∈ fp, FpOk (X.blk s3 H3 sc ce fp) [] G b := fun {τ G z} M n b hb =>
    have x := M.ok.exf b hb
    ⟨n b hb, x.1, M.ok.exfs b hb, .inl hb, fun y c e => x.2 y c e, fun p hp => nomatch (show p ∈ ([] : List (Addr × Obj)) from hp)⟩
  have loop : codeAny (model X.prog X.w) X.A (.compLoop (SC2 elt t0 i0 t1 i1 sc pos) 0 (.ref it) (.ref D) ce) (compPost (model X.prog X.w) X.A X.xe none (EP X pins σ Q) (.ref D) s3.heap.objs.size) s4 := by
    refine sc2_loop0 (pl1 ce) (fun n z => ∃ i G, Inv (X.blk s3 H3 sc ce fp) [] (wipe σ (own.map (·.2))) G z ∧ tn i z.heap ∧ (∀ b ∈ fp, G b = none) ∧ W i n G) ?_ m0 ⟨0, H3, I4, st4, fun b hb => (f3 b hb).1.1, w0⟩
    rintro n z ⟨i, G, M, st, off, ww⟩
    rcases turn i n G ww with ⟨stop, qq⟩ | ⟨go, Nx, hNx, step⟩
    · -- the end: back in the def
      refine thnF (T.done (X.blk s3 H3 sc ce fp) rfl rfl rfl calm i [] z _ G (fun _ _ => False) M (own_ M off) st stop) fun r z ⟨er, M⟩ => ?_
      subst er
      have B : Inv X pins σ G z := I3.call' (ch := fp) M.os M.base M.hok M.bare fun b hb => have x := (f3 b hb).1.2; ⟨x.2.2.1, x.1, x.2.2.2.1, x.2.2.2.2⟩
      have nC : G s3.heap.objs.size = none := by rw [← loc]; exact M.free
      obtain ⟨mm, hn, _⟩ := M.loc
      replace hn : z.heap.Ns s3.heap.objs.size mm := by rw [← loc]; exact hn
      have fo := I3.fpOk (H' := G) (Nat.le_refl _) nC
      exact ⟨mm, hn, fun g sb => ⟨.ref D, G, B.turned (t' := z.toks) (fun b o nb e => (sb.2 b nb).trans e) fo.1 fo.2.1 fo.2.2.2.1 fo.2.2.2.2.1 fo.2.2.2.2.2, rfl, qq⟩⟩
    · -- one item of the first source
      refine thnF (T.item (X.blk s3 H3 sc ce fp) rfl rfl rfl calm i [] z _ G (fun _ _ => False) M (own_ M off) st go) fun r z ⟨u, er, h6⟩ => ?_
      subst er
      refine thnF h6 fun _ z7 ⟨x, G7, M7, r7, y7, st7, off7⟩ => ?_
      refine thnF (a0.run _ z7 _ G7 x u _ (M7.pinned (own_ M7 off7) (T.obj _ _ st7)) r7 (step x G7 y7)) fun _ z8 ⟨σ8, G8, M8, w8, q8⟩ => ?_
      refine thnF (a1.run _ z8 σ8 G8 _ M8 q8) fun xv z9 hx => thnF hx fun itv z10 h10 => ?_
      obtain ⟨it1, fp1, tn1, J1, G10, rfl, M10, T1, st10, f10, W1, ⟨m1, w1⟩, turn1⟩ := h10
      have len8 : (wipe σ (own.map (·.2))).length = σ8.length := by rw [← w8, wipe_length]
      -- behind the second loop
      have fin : ∀ {z : Shared} {G : Hp}, Inv (X.blk s3 H3 sc ce fp) ([] ++ pinsAt fp z7.heap) (wipe σ8 vs1) G z → Nx G → ∃ m, m < n ∧ ∃ i G, Inv (X.blk s3 H3 sc ce fp) [] (wipe σ (own.map (·.2))) G z ∧ tn i z.heap ∧ (∀ b ∈ fp, G b = none) ∧ W i m G := fun {z G} M nx => by
        obtain ⟨m', lt, w'⟩ := hNx G nx
        have pin : ∀ b ∈ fp, ∀ o, z7.heap.get? b = some o → z.heap.get? b = some o ∧ G b = none := fun b hb o e =>
          have y := M.pin (b, o) (List.mem_append_right _ (List.mem_append_right _ (mem_pinsAt hb e)))
          ⟨y.1, y.2.1⟩
        refine ⟨m', lt, i + 1, G, (M.unpinned (pins := [])).weak (len8.trans (wipe_length σ8 vs1).symm) (fun j v e => ?_), T.keep _ _ _ st7 fun b hb o e => (pin b hb o e).1, fun b hb => ?_, w'⟩
        · rw [← w8] at e
          have y := wipe_some e
          exact (wipe_out fun m => y.2 (sub j m)).trans y.1
        · obtain ⟨o, e, _⟩ := T.obj _ _ st7 b hb
          exact (pin b hb o e).2
      have own1 : ∀ {G : Hp}, (∀ b ∈ fp1, G b = none) → ∀ b ∈ fp1, FpOk (X.blk s3 H3 sc ce fp) ([] ++ pinsAt fp z7.heap) G b := fun no b hb => ⟨no b hb, (f10 b hb).2⟩
      have inner : codeAny (model X.prog X.w) X.A (.compLoop (SC2 elt t0 i0 t1 i1 sc pos) 1 (.ref it1) (.ref D) ce) (fun r z => match r with
          | .ok _ => ∃ m, m < n ∧ ∃ i G, Inv (X.blk s3 H3 sc ce fp) [] (wipe σ (own.map (·.2))) G z ∧ tn i z.heap ∧ (∀ b ∈ fp, G b = none) ∧ W i m G
          | .error _ => False) z10 := by
        refine sc2_loop1 (fun k z => ∃ j G, Inv (X.blk s3 H3 sc ce fp) ([] ++ pinsAt fp z7.heap) (wipe σ8 vs1) G z ∧ tn1 j z.heap ∧ (∀ b ∈ fp1, G b = none) ∧ W1 j k G) ?_ m1 ⟨0, G10, M10.weak (wipe_length _ _) (fun j v e => (wipe_some e).1), st10, fun b hb => (f10 b hb).1, w1⟩
        rintro k z ⟨j, G, M, st, off, ww⟩
        rcases turn1 j k G ww with ⟨stop1, nx⟩ | ⟨go1, Nx1, hNx1, step1⟩
        · refine thnF (T1.done (X.blk s3 H3 sc ce fp) rfl rfl rfl calm j _ z _ G (fun _ _ => False) M (own1 off) st stop1) fun r z ⟨er, M⟩ => ?_
          subst er
          exact fin M nx
        · refine thnF (T1.item (X.blk s3 H3 sc ce fp) rfl rfl rfl calm j _ z _ G (fun _ _ => False) M (own1 off) st go1) fun r z ⟨u1, er, h13⟩ => ?_
          subst er
          refine thnF h13 fun _ za ⟨x1, Ga, Ma, ra, ya, sa, oa⟩ => ?_
          refine thnF (a2.run _ za _ Ga x1 u1 _ (Ma.pinned (own1 oa) (T1.obj _ _ sa)) ra (step1 x1 Ga ya)) fun _ zb ⟨σb, Gb, Mb, wb, qb⟩ => ?_
          refine thnF (a3.run _ zb σb Gb _ Mb qb) fun uv zc ⟨yv, Gc, Mc, rc, cc, S, cn, ey, hS, few, nx⟩ => ?_
          subst ey
          refine sc2_add (X := X.blk s3 H3 sc ce fp) Mc hS few rc fun zd Md => ?_
          obtain ⟨m', lt, w'⟩ := hNx1 _ nx
          have pin : ∀ b ∈ fp1, ∀ o, za.heap.get? b = some o → zd.heap.get? b = some o ∧ upd Gc D (SetO X.w D (fun j => S j || decide (j = cc)) (if S cc = true then cn else cn + 1)) b = none := fun b hb o e =>
            have y := Md.pin (b, o) (List.mem_append_right _ (List.mem_append_right _ (mem_pinsAt hb e)))
            ⟨y.1, y.2.1⟩
          refine ⟨m', lt, j + 1, _, Md.unpinned.weak (by rw [← wb, wipe_length]) (fun j v e => by rw [← wb] at e; exact (wipe_some e).1), T1.keep _ _ _ sa fun b hb o e => (pin b hb o e).1, fun b hb => ?_, w'⟩
          obtain ⟨o, e, _⟩ := T1.obj _ _ sa b hb
          exact (pin b hb o e).2
      exact sc2_start1 inner (T1.self X.A 0 _ _ _ st10 inner)
  exact PpSet.codeAny_compStart_set loop (T.self X.A 0 _ _ _ st4 loop)
end
end Ew
namespace Ew
open PySem PySem.Spec PyProof.Rows L2
/-! ## sums of digits -/
def stepM (acc ds : List Int) (f : Int) : List Int := acc.flatMap fun t => ds.map fun d => t + f * d
def sumM (zs : List (List Int × Int)) : List Int := zs.foldl (fun acc z => stepM acc z.1 z.2) [0]
theorem sumM_snoc (zs : List (List Int × Int)) (z : List Int × Int) : sumM (zs ++ [z]) = stepM (sumM zs) z.1 z.2 := by unfold sumM; rw [List.foldl_append]; rfl
theorem mem_step {acc ds : List Int} {f k : Int} : k ∈ stepM acc ds f ↔ ∃ t ∈ acc, ∃ d ∈ ds, k = t + f * d := by
  unfold stepM
  simp only [List.mem_flatMap, List.mem_map]
  constructor
  · rintro ⟨t, ht, d, hd, e⟩
    exact ⟨t, ht, d, hd, e.symm⟩
  · rintro ⟨t, ht, d, hd, e⟩
    exact ⟨t, ht, d, hd, e.symm⟩
theorem mem_two {A C : List Int} {t f k : Int} : k ∈ sumM [(A, t), (C, f)] ↔ ∃ a ∈ A, ∃ c ∈ C, k = t * a + f * c := by
  show k ∈ stepM (stepM [0] A t) C f ↔ _
  rw [mem_step]
  constructor
  · rintro ⟨x, hx, c, hc, e⟩
    obtain ⟨z, hz, a, ha, e2⟩ := mem_step.mp hx
    rw [List.mem_singleton.mp hz] at e2
    exact ⟨a, ha, c, hc, by omega⟩
  · rintro ⟨a, ha, c, hc, e⟩
    exact ⟨t * a, mem_step.mpr ⟨0, by simp, a, ha, by omega⟩, c, hc, e⟩
/-- the ascending list of what is in ms -/
structure SortedOf (ns ms : List Int) : Prop where
  asc : ns.Pairwise (· < ·)
  mem : ∀ k, k ∈ ns ↔ k ∈ ms
theorem asc_uniq : ∀ {a b : List Int}, a.Pairwise (· < ·) → b.Pairwise (· < ·) → (∀ k, k ∈ a ↔ k ∈ b) → a = b
  | [], [], _, _, _ => rfl
  | [], y :: ys, _, _, h => absurd ((h y).mpr (by simp)) (by simp)
  | x :: xs, [], _, _, h => absurd ((h x).mp (by simp)) (by simp)
  | x :: xs, y :: ys, ha, hb, h => by
    have a1 := (List.pairwise_cons.mp ha)
    have b1 := (List.pairwise_cons.mp hb)
    have e : x = y := by
      have p := (h x).mp (by simp)
      have q := (h y).mpr (by simp)
      rcases List.mem_cons.mp p with p | p
      · exact p
      · rcases List.mem_cons.mp q with q | q
        · exact q.symm
        · have := b1.1 x p
          have := a1.1 y q
          omega
    subst e
    rw [asc_uniq a1.2 b1.2 fun k => ?_]
    constructor
    · intro hk
      have := a1.1 k hk
      rcases List.mem_cons.mp ((h k).mp (List.mem_cons_of_mem _ hk)) with z | z
      · omega
      · exact z
    · intro hk
      have := b1.1 k hk
      rcases List.mem_cons.mp ((h k).mpr (List.mem_cons_of_mem _ hk)) with z | z
      · omega
      · exact z
theorem SortedOf.uniq {a b ms : List Int} (h : SortedOf a ms) (g : SortedOf b ms) : a = b := asc_uniq h.asc g.asc fun k => (h.mem k).trans (g.mem k).symm
theorem getD_memI {s : List Int} {i : Nat} (h : i < s.length) : s.getD i 0 ∈ s := by
  rw [List.getD_eq_getElem?_getD, List.getElem?_eq_getElem h]
  exact List.getElem_mem h
theorem first_leI {s : List Int} (h : s.Pairwise (· < ·)) : ∀ k ∈ s, firstI s ≤ k := fun k hk => by
  match s, h, hk with
  | x :: xs, h, hk =>
    show x ≤ k
    rcases List.mem_cons.mp hk with z | z
    · omega
    · have := (List.pairwise_cons.mp h).1 k z
      omega
theorem le_lastI {s : List Int} (h : s.Pairwise (· < ·)) : ∀ k ∈ s, k ≤ lastI s := fun k hk => by
  rcases List.eq_nil_or_concat s with z | ⟨m, l, z⟩
  · rw [z] at hk; cases hk
  · rw [List.concat_eq_append] at z
    subst z
    have e : lastI (m ++ [l]) = l := by unfold lastI; simp
    rw [e]
    rcases List.mem_append.mp hk with w | w
    · have := (List.pairwise_append.mp h).2.2 k w l (by simp)
      omega
    · rw [List.mem_singleton.mp w]; omega
/-- the least sum of two digits -/
theorem first_two {ns A C : List Int} {t : Int} (h : SortedOf ns (sumM [(A, t), (C, 1)])) (ha : A.Pairwise (· < ·)) (hc : C.Pairwise (· < ·)) (la : 0 < A.length) (lc : 0 < C.length) : firstI ns = t * (if 0 < t then firstI A else lastI A) + firstI C := by
  have fa : firstI A ∈ A := getD_memI la
  have za : lastI A ∈ A := getD_memI (by omega)
  have fc : firstI C ∈ C := getD_memI lc
  have low : ∀ k ∈ ns, t * (if 0 < t then firstI A else lastI A) + firstI C ≤ k := fun k hk => by
    obtain ⟨a, ha', c, hc', e⟩ := mem_two.mp ((h.mem k).mp hk)
    have c1 := first_leI hc c hc'
    have a1 := first_leI ha a ha'
    have a2 := le_lastI ha a ha'
    split
    · rename_i z
      have : t * firstI A ≤ t * a := Int.mul_le_mul_of_nonneg_left a1 (by omega)
      omega
    · rename_i z
      have : t * lastI A ≤ t * a := Int.mul_le_mul_of_nonpos_left (by omega) a2
      omega
  have memb : t * (if 0 < t then firstI A else lastI A) + firstI C ∈ ns := by
    refine (h.mem _).mpr (mem_two.mpr ?_)
    split
    · exact ⟨_, fa, _, fc, by omega⟩
    · exact ⟨_, za, _, fc, by omega⟩
  have f1 := first_leI h.asc _ memb
  have n1 : 0 < ns.length := List.length_pos_of_mem memb
  have f2 := low _ (getD_memI n1)
  have f2 : t * (if 0 < t then firstI A else lastI A) + firstI C ≤ firstI ns := f2
  omega
/-! ## the number of a row of sums -/
theorem foldl_lin (b t : Int) : ∀ (xs ys : List Int) (p q : Int), xs.length = ys.length → (List.zipWith (fun x y => t * x + y) xs ys).foldl (fun a d => a * b + d) (t * p + q) = t * xs.foldl (fun a d => a * b + d) p + ys.foldl (fun a d => a * b + d) q
  | [], [], p, q, _ => rfl
  | [], _ :: _, _, _, h => absurd h (by simp)
  | _ :: _, [], _, _, h => absurd h (by simp)
  | x :: xs, y :: ys, p, q, h => by
    rw [List.zipWith_cons_cons, List.foldl_cons, List.foldl_cons, List.foldl_cons]
    have e : (t * p + q) * b + (t * x + y) = t * (p * b + x) + (q * b + y) := by
      rw [Int.add_mul, Int.mul_add, Int.mul_assoc]
      omega
    rw [e]
    exact foldl_lin b t xs ys _ _ (by simpa using h)
theorem rowN_lin (b t : Int) {xs ys : List Int} (h : xs.length = ys.length) : rowN b (List.zipWith (fun x y => t * x + y) xs ys) = t * rowN b xs + rowN b ys := by
  have z := foldl_lin b t xs ys 0 0 h
  rw [Int.mul_zero, Int.zero_add] at z
  exact z
/-! ## what is left of a number behind some digits -/
theorem divInt_fr {a b : Int} (hb : b ≠ 0) : Rat.divInt (frN a b) (frD a b) = Rat.divInt a b := by
  obtain ⟨e1, e2⟩ := fr_rat (a := a) hb
  rw [e1, e2, Rat.num_divInt_den]
theorem rs_rat {b g n d : Int} (hd : 0 < d) : Rat.divInt (rsN b g n d) (rsD b g n d) = (b : Rat) * Rat.divInt n d - (g : Rat) := by
  unfold rsN rsD
  rw [divInt_fr (by omega), Rat.divInt_eq_div, Rat.divInt_eq_div]
  have : (d : Rat) ≠ 0 := by
    intro z
    have := Rat.intCast_inj.mp (show ((d : Int) : Rat) = ((0 : Int) : Rat) from z)
    omega
  rw [Rat.intCast_sub, Rat.intCast_mul, Rat.intCast_mul]
  grind
theorem restQ_rat {b : Int} {s : List Int} {M : Int} {q : Int × Int} (h : AreS b s) (b2 : 2 ≤ b) (o : OkQ b s M q) : ∀ i, Rat.divInt (restQ b s q i).1 (restQ b s q i).2 = ((b ^ i : Int) : Rat) * Rat.divInt q.1 q.2 - ((rowN b (rowQ b s q i) : Int) : Rat)
  | 0 => by
    rw [Int.pow_zero]
    show Rat.divInt q.1 q.2 = ((1 : Int) : Rat) * Rat.divInt q.1 q.2 - ((0 : Int) : Rat)
    grind
  | i + 1 => by
    have ih := restQ_rat h b2 o i
    have oi := o.rest h b2 i
    have dp := oi.low.pos
    rw [rowQ_succ, rowN_snoc]
    show Rat.divInt (rsN b (digQ b s q i) (restQ b s q i).1 (restQ b s q i).2) (rsD b (digQ b s q i) (restQ b s q i).1 (restQ b s q i).2) = _
    rw [rs_rat dp, ih, Rat.intCast_add, Rat.intCast_mul, Int.pow_succ, Rat.intCast_mul]
    grind
theorem rowQ_take {b : Int} {s : List Int} {q : Int × Int} {m c : Nat} (h : c ≤ m) : (rowQ b s q m).take c = rowQ b s q c := by
  unfold rowQ
  rw [← List.map_take, List.take_range, Nat.min_eq_left h]
end Ew
/-! sequences of either kind: loops over a list or a tuple, zip of a tuple and a list -/
namespace Ew
open PySem PySem.Spec PyProof.Rows L2
/-- the tuple at a and the list at b, the items in new pairs -/
def ItzM (K : PySem.W.Frag) (a b : Addr) : It :=
  ⟨fun i H => ∃ (xs ys : List V) (x y : V), SqT K H a xs ∧ SqL K H b ys ∧ xs[i]? = some x ∧ ys[i]? = some y,
    fun i H v H' => ∃ T x y, v = .ref T ∧ H T = none ∧ H' = upd H T (.tup [x, y]) ∧ (∀ xs, SqT K H a xs → xs[i]? = some x) ∧ ∀ ys, SqL K H b ys → ys[i]? = some y,
    fun i H => ∃ xs ys : List V, SqT K H a xs ∧ SqL K H b ys ∧ i = min xs.length ys.length⟩
theorem walk_zipTL {K : PySem.W.Frag} {a b : Addr} {xs ys : List V} {n : Nat} (hn : n = min xs.length ys.length) : Walk (ItzM K a b) n (fun H => SqT K H a xs ∧ SqL K H b ys) (YPair (fun i => xs[i]?) (fun i => ys[i]?)) :=
  ⟨fun i H hi q => ⟨xs, ys, xs[i]'(by omega), ys[i]'(by omega), q.1, q.2, by simp, by simp⟩, fun H q => ⟨xs, ys, q.1, q.2, hn⟩,
    fun i H x G hi q ⟨T, u, v, e1, e2, e3, e4, e5⟩ => ⟨T, u, v, e1, e2, e3, e4 xs q.1, e5 ys q.2⟩⟩
theorem five {c z TI TO i1 i2 : Addr} (h : c ∈ [z, TI, TO, i1, i2]) : c = z ∨ c = TI ∨ c = TO ∨ c = i1 ∨ c = i2 := by simpa using h
theorem not2 {x p q : Addr} (h1 : x ≠ p) (h2 : x ≠ q) : x ∉ [p, q] := fun h => by
  rcases List.mem_cons.mp h with h | h
  · exact h1 h
  · exact h2 (List.mem_singleton.mp h)
theorem sep_of {z TI TO i1 i2 a b : Addr} (D : ZipApart z TI TO i1 i2 a b) : ZipSep2 z TI TO i1 i2 [i1, a] [i2, b] :=
  ⟨D.TIz, D.TOz, D.TITO, D.TIi1, List.mem_cons_self .., not2 D.i1z.symm D.l1z.symm, not2 D.TOi1 D.l1TO.symm, D.TIi2, List.mem_cons_self .., not2 D.i2z.symm D.l2z.symm, not2 D.TOi2 D.l2TO.symm, not2 D.i12 D.l2i1.symm, not2 D.i12.symm D.l1i2.symm⟩
theorem turn_zipTL {P : Program} {w : World} {K : PySem.W.Frag} {elts : List Expr} {kk : Nat} {tpos : Pos} {a b z TI TO i1 i2 : Addr} (D : ZipApart z TI TO i1 i2 a b) :
    Turn P w K (.Tuple elts kk tpos) (ItzM K a b) [z, TI, TO, i1, i2] z (fun i h => IsZip h z TI TO .none ∧ IsTupOf2 h TI (.ref i1) (.ref i2) ∧ (∃ x y, IsTupOf2 h TO x y) ∧ h.IsTupleIter i1 a i ∧ h.IsListIter i2 b i) where
  mem := List.mem_cons_self ..
  obj := fun i h st c hc => by
    obtain ⟨hz, hTI, ⟨x, y, hTO⟩, ⟨o1, e1, _, d1⟩, ⟨o2, e2, _, d2⟩⟩ := st
    rcases five hc with rfl | rfl | rfl | rfl | rfl
    · exact ⟨_, hz, fun v q => nomatch q⟩
    · exact ⟨_, hTI, fun v q => nomatch q⟩
    · exact ⟨_, hTO, fun v q => nomatch q⟩
    · exact ⟨o1, e1, fun v q => by rw [d1] at q; cases q⟩
    · exact ⟨o2, e2, fun v q => by rw [d2] at q; cases q⟩
  keep := fun i h h' st k => by
    obtain ⟨hz, hTI, ⟨x, y, hTO⟩, h1, h2⟩ := st
    exact ⟨k z (by simp) _ hz, k TI (by simp) _ hTI, ⟨x, y, k TO (by simp) _ hTO⟩, h1.at fun o q => k i1 (by simp) o q, h2.at fun o q => k i2 (by simp) o q⟩
  item := by
    intro X hP hw hK hc i pins s σ H E I hf st hg
    subst hP hw hK
    obtain ⟨hz, hTI, ⟨x0, y0, hTO⟩, h1, h2⟩ := st
    obtain ⟨xs, ys, x, y, hqx, hqy, hx, hy⟩ := hg
    obtain ⟨its, rv, p, _⟩ := I.tuple hqx
    obtain ⟨its2, rv2, p2, _⟩ := I.list hqy
    obtain ⟨u, hu, ru⟩ := rv.get hx
    obtain ⟨u2, hu2, ru2⟩ := rv2.get hy
    have hh : X.A.handled = none := I.ok.hd hc
    have a1 : its.toArray[i]? = some u := by simpa using hu
    have a2 : its2.toArray[i]? = some u2 := by simpa using hu2
    have lt1 : i < its.toArray.size := (Array.getElem?_eq_some_iff.mp a1).1
    have lt2 : i < its2.toArray.size := (Array.getElem?_eq_some_iff.mp a2).1
    have hzl : z < s.heap.objs.size := Heap.lt_size hz
    refine wpAny_pyNext_zipD2_item (sep_of D) (Draws.tuple (A := X.A.in1) hh i1 a D.l1i1 its.toArray) (Draws.list (A := X.A.in1) hh i2 b D.l2i2 its2.toArray) hz hTI hTO ⟨h1, p⟩ ⟨h2, p2.isList⟩ lt1 lt2 fun x1 x2 h' tk q1 q2 z' TO' st1 st2 hT hsz hk => ?_
    obtain rfl : x1 = u := Option.some.inj (q1.symm.trans a1)
    obtain rfl : x2 = u2 := Option.some.inj (q2.symm.trans a2)
    refine ⟨_, rfl, wpAny_letOwnedTupleGo_zip (s := { s with heap := h', toks := tk }) z' fun h'' z'' sb => ?_⟩
    have up : ∀ c o, c ≠ z → h'.get? c = some o → h''.get? c = some o := fun c o n q => (sb.2 c n).trans q
    have hT2 := up _ _ (Nat.ne_of_gt hzl) hT
    have I1 : Inv X pins σ (upd H s.heap.objs.size (.tup [x, y])) { s with heap := h'', toks := tk } :=
      I.turnedNew (t' := tk) (ch := [z, TI, TO, i1, i2]) (fun c o hb q => up c o (fun q' => hb (by simp [q'])) (hk c o (fun q' => hb (by simp [q'])) (fun q' => hb (by simp [q'])) (fun q' => hb (by simp [q'])) (fun q' => hb (by simp [q'])) q)) hf (Nat.le_refl _)
        ⟨by show 2 ≤ sizeLine; decide, [x1, x2], .cons ru (.cons ru2 .nil), ⟨_, hT2, rfl, _, rfl⟩⟩
    refine ⟨.ref s.heap.objs.size, _, I1, rfl, ⟨_, x, y, rfl, I.hok.fresh (Nat.le_refl _), rfl, fun l hl => by rw [I.tuple_inj hl hqx]; exact hx, fun l hl => by rw [I.list_inj hl hqy]; exact hy⟩, ⟨z'', ?_, ⟨x1, x2, up _ _ D.TOz TO'⟩, st1.1.at fun o q => up _ o D.i1z q, st2.1.at fun o q => up _ o D.i2z q⟩, fun c hcm => ?_⟩
    · exact up _ _ D.TIz (hk _ _ D.TIz D.TITO D.TIi1 D.TIi2 hTI)
    · have hlt : c < s.heap.objs.size := by
        rcases five hcm with rfl | rfl | rfl | rfl | rfl
        · exact hzl
        · exact Heap.lt_size hTI
        · exact Heap.lt_size hTO
        · obtain ⟨_, e1, _⟩ := h1; exact Heap.lt_size e1
        · obtain ⟨_, e2, _⟩ := h2; exact Heap.lt_size e2
      rw [upd_ne (Nat.ne_of_lt hlt)]
      exact (hf c hcm).1
  done := by
    intro X hP hw hK hc i pins s σ H E I hf st hg
    subst hP hw hK
    obtain ⟨hz, hTI, ⟨x0, y0, hTO⟩, h1, h2⟩ := st
    obtain ⟨xs, ys, hqx, hqy, hend⟩ := hg
    obtain ⟨its, rv, p, _⟩ := I.tuple hqx
    obtain ⟨its2, rv2, p2, _⟩ := I.list hqy
    have hh : X.A.handled = none := I.ok.hd hc
    have l1 : its.toArray.size = xs.length := by rw [List.size_toArray]; exact rv.length.symm
    have l2 : its2.toArray.size = ys.length := by rw [List.size_toArray]; exact rv2.length.symm
    refine wpAny_pyNext_zipD2_end (sep_of D) (Draws.tuple (A := X.A.in1) hh i1 a D.l1i1 its.toArray) (Draws.list (A := X.A.in1) hh i2 b D.l2i2 its2.toArray) hz hTI hTO ⟨h1, p⟩ ⟨h2, p2.isList⟩ (by omega) (by omega) (by omega) fun h' tk hk => ⟨rfl, I.turnedL (t' := tk) (ch := [z, TI, TO, i1, i2]) (fun c o hb q =>
      hk c o (fun q' => hb (by simp [q'])) (fun q' => hb (by simp [q'])) (fun q' => hb (by simp [q'])) (fun q' => hb (by simp [q'])) q) hf⟩
  self := fun A i s Q E st h => wpAny_pyIter_zip st.1 h
def iZipTL (K : PySem.W.Frag) (ta : TA) : TI := fun σ H R => ta σ H fun vs H1 => ∃ a b xs ys, vs = [.ref a, .ref b] ∧ SqT K H1 a xs ∧ SqL K H1 b ys ∧ R (ItzM K a b) H1
theorem pi_zipTL {X : Cx} {e e2 : Expr} {ta : TA} {p pos tpos : Pos} {elts : List Expr} {kk : Nat} (hg : Gl X "zip") (hm : X.mg "zip" = none) (ha : PA X [e, e2] ta)
    (hs : starEach [e, e2] X.env = (false, eval e X.env) :: starEach [e2] X.env := by rfl) (hpl : (backTo pos (starEach [e2] X.env)).any (·.1) = false := by rfl) :
    PI X (.Tuple elts kk tpos) (.Call (.Name "zip" p) [e, e2] [] pos) (iZipTL X.K ta) := by
  refine ⟨fun pins s σ H R I h => ?_⟩
  refine Call_ (ld_blt I hg hm PyProof.Rows.boot_zip (PyProof.Rows.callWith_type1 (thn (ha.run pos pins s σ H _ I h) fun us s1 ⟨vs, H1, I1, r1, q1⟩ => ?_) hs hpl))
  obtain ⟨a, b, xs, ys, rfl, hqx, hqy, q⟩ := q1
  cases r1 with
  | cons r rr =>
  cases rr with
  | cons r2 rr =>
  cases rr
  cases r
  cases r2
  obtain ⟨its, rv, p1, _⟩ := I1.tuple hqx
  obtain ⟨its2, rv2, p2, _⟩ := I1.list hqy
  obtain ⟨o1, ho1, _⟩ := id p1
  refine zip_begins2 (begins_tuple a its.toArray) (begins_list b its2.toArray) p1 p2.isList fun h' hz hTI hTO g1 g2 hsz hk => wpAny_pyIter_zip hz ?_
  have I2 : Inv X pins σ H1 { s1 with heap := h' } := I1.kept (t' := s1.toks) hk
  refine ⟨s1.heap.objs.size + 4, [s1.heap.objs.size + 4, s1.heap.objs.size + 2, s1.heap.objs.size + 3, s1.heap.objs.size, s1.heap.objs.size + 1], _, _, H1, rfl, I2, turn_zipTL (PySem.W.ktu_apart s1.heap.objs.size a b (Heap.lt_size ho1) p2.lt), ⟨hz, hTI, ⟨_, _, hTO⟩, ⟨_, g1, rfl, rfl⟩, ⟨_, g2, rfl, rfl⟩⟩, fun c hcm => ?_, q⟩
  have hle : s1.heap.objs.size ≤ c := by
    rcases five hcm with z | z | z | z | z <;> rw [z] <;> first | exact Nat.le_add_right _ _ | exact Nat.le_refl _
  exact I1.fpOk hle (I1.hok.fresh hle)
/-- a loop over a variable: a list or a tuple -/
def iSeqVar (K : PySem.W.Frag) (i : Nat) : TI := fun σ H R => tVar i σ H fun x H1 => ∃ H0 a xs, x = .ref a ∧ Same H0 H1 ∧ SeqV K H0 a xs ∧ ∀ J Gd, Walk J xs.length Gd (YAt xs) → (∀ G', Same H0 G' → Gd G') → R J H1
theorem pi_seqVar {X : Cx} {tg e : Expr} {i : Nat} (he : PE X e (tVar i)) : PI X tg e (iSeqVar X.K i) := ⟨fun pins s σ H R I h => by
  obtain ⟨v, hv, H0, a, xs, rfl, s0, hs, k⟩ := h
  rcases hs with hs | hs
  · exact (pi_list he).run pins s σ H R I ⟨_, hv, a, rfl, ⟨xs, s0.seq hs⟩, k _ _ walk_list fun G' e => e.seq hs⟩
  · exact (pi_tup he).run pins s σ H R I ⟨_, hv, a, rfl, ⟨xs, seqT s0 hs⟩, k _ _ walk_tup fun G' e => seqT e hs⟩⟩
/-- a loop over zip of two variables: a list or a tuple, and a list -/
def iZipVar (K : PySem.W.Frag) (i j : Nat) : TI := fun σ H R => tVar i σ H fun x H1 => tVar j σ H1 fun y H2 => ∃ H0 a b xs ys, x = .ref a ∧ y = .ref b ∧ Same H0 H2 ∧ SeqV K H0 a xs ∧ SqL K H0 b ys ∧ ∀ J Gd, Walk J (min xs.length ys.length) Gd (YPair (fun i => xs[i]?) (fun i => ys[i]?)) → (∀ G', Same H0 G' → Gd G') → R J H2
theorem pi_zipVar {X : Cx} {e e2 : Expr} {i j : Nat} {p pos tpos : Pos} {elts : List Expr} {kk : Nat} (hg : Gl X "zip") (hm : X.mg "zip" = none) (he : PE X e (tVar i)) (he2 : PE X e2 (tVar j)) (ha : PA X [e, e2] (tCons (tVar i) (tCons (tVar j) tNil)))
    (hs : starEach [e, e2] X.env = (false, eval e X.env) :: starEach [e2] X.env := by rfl) (hpl : (backTo pos (starEach [e2] X.env)).any (·.1) = false := by rfl) :
    PI X (.Tuple elts kk tpos) (.Call (.Name "zip" p) [e, e2] [] pos) (iZipVar X.K i j) := ⟨fun pins s σ H R I h => by
  obtain ⟨v, hv, v2, hv2, H0, a, b, xs, ys, rfl, rfl, s0, hs1, hs2, k⟩ := h
  rcases hs1 with hs1 | hs1
  · exact (RZ.pi_zipA hg hm ha hs hpl).run pins s σ H R I ⟨_, hv, _, hv2, a, b, xs, ys, rfl, .inl ⟨s0.seq hs1, s0.seq hs2, k _ _ (walk_zip rfl) fun G' e => ⟨e.seq hs1, e.seq hs2⟩⟩⟩
  · exact (pi_zipTL hg hm ha hs hpl).run pins s σ H R I ⟨_, hv, _, hv2, a, b, xs, ys, rfl, seqT s0 hs1, s0.seq hs2, k _ _ (walk_zipTL rfl) fun G' e => ⟨seqT e hs1, e.seq hs2⟩⟩⟩
end Ew
/-! sums of digit sets keep their gaps small -/
namespace Ew
open PySem PySem.Spec PyProof.Rows L2
structure GapS (b : Int) (S : List Int) (lo hi : Int) : Prop where
  mlo : lo ∈ S
  mhi : hi ∈ S
  le : ∀ x ∈ S, lo ≤ x ∧ x ≤ hi
  gap : ∀ x ∈ S, x < hi → ∃ y ∈ S, x < y ∧ (y - x) * (b - 1) ≤ hi - lo
theorem GapS.zero {b : Int} : GapS b [0] 0 0 :=
  ⟨List.mem_singleton.mpr rfl, List.mem_singleton.mpr rfl, fun x hx => by cases List.mem_singleton.mp hx; exact ⟨Int.le_refl _, Int.le_refl _⟩, fun x hx h => by cases List.mem_singleton.mp hx; omega⟩
theorem idx_of {s : List Int} {x : Int} (h : x ∈ s) : ∃ i, i < s.length ∧ s.getD i 0 = x := by
  obtain ⟨i, hi, rfl⟩ := List.getElem_of_mem h
  exact ⟨i, hi, by rw [List.getD_eq_getElem?_getD, List.getElem?_eq_getElem hi]; rfl⟩
theorem asc_lt {s : List Int} (h : s.Pairwise (· < ·)) {i j : Nat} (hij : i < j) (hj : j < s.length) : s.getD i 0 < s.getD j 0 := by
  have := List.pairwise_iff_getElem.mp h i j (by omega) hj hij
  rw [List.getD_eq_getElem?_getD, List.getD_eq_getElem?_getD, List.getElem?_eq_getElem hj, List.getElem?_eq_getElem (by omega : i < s.length)]
  exact this
theorem mul_l {a c d : Int} (h : 0 ≤ a) (k : c ≤ d) : a * c ≤ a * d := Int.mul_le_mul_of_nonneg_left k h
theorem gapS_of {b f : Int} {ds : List Int} (h : AreS b ds) (asc : ds.Pairwise (· < ·)) (f0 : f ≠ 0) : ∃ lo hi, lo < hi ∧ GapS b (ds.map fun d => f * d) lo hi := by
  have l2 := h.l2
  have e1 : firstI ds = ds.getD 0 0 := rfl
  have e2 : lastI ds = ds.getD (ds.length - 1) 0 := rfl
  have m1 : firstI ds ∈ ds := by rw [e1]; exact getD_memI (by omega)
  have m2 : lastI ds ∈ ds := by rw [e2]; exact getD_memI (by omega)
  have lt : firstI ds < lastI ds := by rw [e1, e2]; exact asc_lt asc (by omega) (by omega)
  have a1 := first_leI asc
  have a2 := le_lastI asc
  rcases Int.lt_or_gt_of_ne f0 with c | c
  · refine ⟨f * lastI ds, f * firstI ds, ?_, List.mem_map.mpr ⟨_, m2, rfl⟩, List.mem_map.mpr ⟨_, m1, rfl⟩, fun x hx => ?_, fun x hx hl => ?_⟩
    · exact Int.mul_lt_mul_of_neg_left lt c
    · obtain ⟨d, hd, rfl⟩ := List.mem_map.mp hx
      exact ⟨Int.mul_le_mul_of_nonpos_left (by omega) (a2 d hd), Int.mul_le_mul_of_nonpos_left (by omega) (a1 d hd)⟩
    · obtain ⟨d, hd, rfl⟩ := List.mem_map.mp hx
      obtain ⟨i, hi, rfl⟩ := idx_of hd
      have i0 : i ≠ 0 := fun z => by rw [z, ← e1] at hl; omega
      obtain ⟨j, rfl⟩ : ∃ j, i = j + 1 := ⟨i - 1, by omega⟩
      have g := h.gap j hi
      have u := asc_lt asc (Nat.lt_succ_self j) hi
      refine ⟨f * ds.getD j 0, List.mem_map.mpr ⟨_, getD_memI (by omega), rfl⟩, Int.mul_lt_mul_of_neg_left u c, ?_⟩
      have k := mul_l (show 0 ≤ -f by omega) g
      have q1 : (f * ds.getD j 0 - f * ds.getD (j + 1) 0) * (b - 1) = -f * ((ds.getD (j + 1) 0 - ds.getD j 0) * (b - 1)) := by grind
      have q2 : f * firstI ds - f * lastI ds = -f * (lastI ds - firstI ds) := by grind
      rw [q1, q2]
      exact k
  · refine ⟨f * firstI ds, f * lastI ds, ?_, List.mem_map.mpr ⟨_, m1, rfl⟩, List.mem_map.mpr ⟨_, m2, rfl⟩, fun x hx => ?_, fun x hx hl => ?_⟩
    · exact Int.mul_lt_mul_of_pos_left lt c
    · obtain ⟨d, hd, rfl⟩ := List.mem_map.mp hx
      exact ⟨mul_l (by omega) (a1 d hd), mul_l (by omega) (a2 d hd)⟩
    · obtain ⟨d, hd, rfl⟩ := List.mem_map.mp hx
      obtain ⟨i, hi, rfl⟩ := idx_of hd
      have i0 : i + 1 < ds.length := by
        rcases Nat.lt_or_ge (i + 1) ds.length with z | z
        · exact z
        · have : i = ds.length - 1 := by omega
          rw [this, ← e2] at hl
          omega
      have g := h.gap i i0
      have u := asc_lt asc (Nat.lt_succ_self i) i0
      refine ⟨f * ds.getD (i + 1) 0, List.mem_map.mpr ⟨_, getD_memI i0, rfl⟩, Int.mul_lt_mul_of_pos_left u c, ?_⟩
      have k := mul_l (show 0 ≤ f by omega) g
      have q1 : (f * ds.getD (i + 1) 0 - f * ds.getD i 0) * (b - 1) = f * ((ds.getD (i + 1) 0 - ds.getD i 0) * (b - 1)) := by grind
      have q2 : f * lastI ds - f * firstI ds = f * (lastI ds - firstI ds) := by grind
      rw [q1, q2]
      exact k
theorem GapS.step {b lo hi lo' hi' f : Int} {S ds : List Int} (h : GapS b S lo hi) (g : GapS b (ds.map fun d => f * d) lo' hi') : GapS b (stepM S ds f) (lo + lo') (hi + hi') := by
  have s1 := (h.le _ h.mhi).1
  have s2 := (g.le _ g.mhi).1
  have mk : ∀ {x y : Int}, x ∈ S → y ∈ ds.map (fun d => f * d) → x + y ∈ stepM S ds f := fun hx hy => by
    obtain ⟨d, hd, rfl⟩ := List.mem_map.mp hy
    exact mem_step.mpr ⟨_, hx, d, hd, rfl⟩
  refine ⟨mk h.mlo g.mlo, mk h.mhi g.mhi, fun x hx => ?_, fun x hx hl => ?_⟩
  · obtain ⟨t, ht, d, hd, rfl⟩ := mem_step.mp hx
    have := h.le t ht
    have := g.le _ (List.mem_map.mpr ⟨d, hd, rfl⟩)
    omega
  · obtain ⟨t, ht, d, hd, rfl⟩ := mem_step.mp hx
    have md : f * d ∈ ds.map (fun d => f * d) := List.mem_map.mpr ⟨d, hd, rfl⟩
    have l1 := h.le t ht
    have l2 := g.le _ md
    by_cases c : t < hi
    · obtain ⟨y, hy, xy, k⟩ := h.gap t ht c
      refine ⟨y + f * d, mk hy md, by omega, ?_⟩
      rw [show y + f * d - (t + f * d) = y - t by omega]
      omega
    · obtain ⟨y, hy, xy, k⟩ := g.gap _ md (by omega)
      refine ⟨t + y, mk ht hy, by omega, ?_⟩
      rw [show t + y - (t + f * d) = y - f * d by omega]
      omega
theorem gap_sum {b : Int} : ∀ (zs : List (List Int × Int)), (∀ z ∈ zs, AreS b z.1 ∧ z.1.Pairwise (· < ·) ∧ z.2 ≠ 0) → ∀ {S : List Int} {lo hi : Int}, GapS b S lo hi → ∃ lo' hi', GapS b (zs.foldl (fun acc z => stepM acc z.1 z.2) S) lo' hi' ∧ hi - lo ≤ hi' - lo' ∧ (zs ≠ [] → lo' < hi')
  | [], _, S, lo, hi, g => ⟨lo, hi, g, Int.le_refl _, fun z => absurd rfl z⟩
  | z :: zs, h, S, lo, hi, g => by
    obtain ⟨h1, h2, h3⟩ := h z List.mem_cons_self
    obtain ⟨l, m, lm, gz⟩ := gapS_of h1 h2 h3
    obtain ⟨l', m', g', le, ne⟩ := gap_sum zs (fun y hy => h y (List.mem_cons_of_mem _ hy)) (g.step gz)
    have := (g.le _ g.mhi).1
    exact ⟨l', m', g', by omega, fun _ => by omega⟩
/-- the sums of digit sets are digits, if they are few and small -/
theorem sum_are {b : Int} {zs : List (List Int × Int)} {ns : List Int} (b2 : 2 ≤ b) (n0 : zs ≠ []) (h : ∀ z ∈ zs, AreS b z.1 ∧ z.1.Pairwise (· < ·) ∧ z.2 ≠ 0) (so : SortedOf ns (sumM zs)) (l24 : ns.length ≤ 24) (lo : -99 ≤ firstI ns) (hi : lastI ns ≤ 99) : AreS b ns := by
  obtain ⟨l, m, g, _, ne⟩ := gap_sum zs h GapS.zero
  have lm := ne n0
  have asc := so.asc
  have ml : l ∈ ns := (so.mem _).mpr g.mlo
  have mm : m ∈ ns := (so.mem _).mpr g.mhi
  have e1 : firstI ns = ns.getD 0 0 := rfl
  have e2 : lastI ns = ns.getD (ns.length - 1) 0 := rfl
  obtain ⟨i, hi1, ei⟩ := idx_of ml
  obtain ⟨j, hj1, ej⟩ := idx_of mm
  have ij : i ≠ j := fun z => by rw [z] at ei; omega
  have f1 : firstI ns = l := by
    have a := first_leI asc _ ml
    have c := (g.le _ ((so.mem _).mp (show firstI ns ∈ ns from e1 ▸ getD_memI (by omega)))).1
    omega
  have f2 : lastI ns = m := by
    have a := le_lastI asc _ mm
    have c := (g.le _ ((so.mem _).mp (show lastI ns ∈ ns from e2 ▸ getD_memI (by omega)))).2
    omega
  refine ⟨by omega, l24, asc.imp fun z => Int.ne_of_lt z, lo, hi, fun k hk => ?_⟩
  have u : ns.getD k 0 < ns.getD (k + 1) 0 := asc_lt asc (Nat.lt_succ_self k) hk
  have le1 := le_lastI asc _ (getD_memI hk)
  obtain ⟨y, hy, xy, q⟩ := g.gap _ ((so.mem _).mp (getD_memI (show k < ns.length by omega))) (by omega)
  obtain ⟨r, hr, er⟩ := idx_of ((so.mem _).mpr hy)
  have kr : k + 1 ≤ r := by
    rcases Nat.lt_trichotomy r k with c | c | c
    · have := asc_lt asc c (by omega); omega
    · rw [c] at er; omega
    · exact c
  have le2 : ns.getD (k + 1) 0 ≤ y := by
    rcases Nat.lt_or_ge (k + 1) r with c | c
    · have := asc_lt asc c hr; omega
    · rw [← er, show r = k + 1 by omega]; exact Int.le_refl _
  rw [f1, f2]
  exact Int.le_trans (Int.mul_le_mul_of_nonneg_right (by omega) (by omega)) q
theorem stepM_len (S ds : List Int) (f : Int) : (stepM S ds f).length = S.length * ds.length := by
  unfold stepM
  induction S with
  | nil => simp
  | cons t S ih => rw [List.flatMap_cons, List.length_append, ih, List.length_map, List.length_cons, Nat.succ_mul, Nat.add_comm]
theorem asc_len : ∀ {ns ms : List Int}, ns.Nodup → (∀ k ∈ ns, k ∈ ms) → ns.length ≤ ms.length
  | [], ms, _, _ => Nat.zero_le _
  | x :: ns, ms, h, m => by
    obtain ⟨h1, h2⟩ := List.nodup_cons.mp h
    have mx := m x List.mem_cons_self
    have ih := asc_len (ms := ms.erase x) h2 fun k hk => (List.mem_erase_of_ne (show k ≠ x from fun z => h1 (by rw [← z]; exact hk))).mpr (m k (List.mem_cons_of_mem _ hk))
    rw [List.length_erase_of_mem mx] at ih
    have := List.length_pos_of_mem mx
    rw [List.length_cons]
    omega
theorem mul_bd {f d : Int} (h : -100 ≤ f ∧ f ≤ 100) (g : -80 ≤ d ∧ d ≤ 80) : -8000 ≤ f * d ∧ f * d ≤ 8000 := by
  have e := Int.natAbs_mul f d
  have l : f.natAbs * d.natAbs ≤ 100 * 80 := Nat.mul_le_mul (by omega) (by omega)
  omega
end Ew
namespace Ew
open PySem PySem.Spec PyProof.Rows L2
/-! ## sets of texts -/
def txOf (e : Int × Value) : Str := match e.2 with | .str k _ => k | _ => ⟨#[]⟩
def TxE (w : World) (e : Int × Value) : Prop := ∃ k tk, e.2 = Value.str k tk ∧ e.1 = hashStr w k
/-- the set of texts at a -/
def SetX (w : World) (h : Heap) (a : Addr) (S : Str → Bool) (n : Nat) : Prop :=
  ∃ ob es ep tb, h.get? a = some ob ∧ ob.ExactSet ∧ ob.data = .set es ep tb ∧ (∀ e ∈ es.toList, TxE w e) ∧ (es.toList.map txOf).Nodup ∧ (∀ k, S k = true ↔ k ∈ es.toList.map txOf) ∧
    es.size < scanBound ∧ tb.fits es.size = true ∧ es.size = n ∧ Ris tb.place.toList ∧ (w.params.followText "set-order" = true ∨ tb.led = true)
section
variable {P : Program} {w : World} {h h' : Heap} {a : Addr} {S : Str → Bool} {n : Nat}
theorem SetX.at (R : SetX w h a S n) (k : ∀ ob, h.get? a = some ob → h'.get? a = some ob) : SetX w h' a S n := by
  obtain ⟨ob, es, ep, tb, hob, r⟩ := R
  exact ⟨ob, es, ep, tb, k ob hob, r⟩
theorem SetX.congr {S' : Str → Bool} (R : SetX w h a S n) (e : ∀ k, S' k = S k) : SetX w h a S' n := by
  have q : S' = S := funext e
  rw [q]; exact R
theorem txKey (k : Str) (t : Tok) : (strKind P w).is k (.str k t) = true := PySem.strKind_is P w k t
theorem txE_elems {l : List (Int × Value)} (g : ∀ e ∈ l, TxE w e) : ElemsOf (strKind P w) l := fun e he => by
  obtain ⟨k, tk, h1, h2⟩ := g e he
  exact ⟨⟨k, by rw [h1]; exact txKey k tk, h2⟩, by rw [h1] <;> rfl⟩
theorem txE_is {e : Int × Value} (g : TxE w e) (k : Str) : (strKind P w).is k e.2 = true ↔ txOf e = k := by
  obtain ⟨k0, tk, h1, _⟩ := g
  unfold txOf
  rw [h1]
  constructor
  · intro z
    exact ((strKind P w).inj _ _ _ z (txKey k0 tk)).symm
  · intro z
    show (strKind P w).is k (Value.str k0 tk) = true
    have z : k0 = k := z
    rw [← z]
    exact txKey k0 tk
theorem txE_mem {l : List (Int × Value)} (g : ∀ e ∈ l, TxE w e) (k : Str) : k ∈ l.map txOf ↔ ∃ e ∈ l, (strKind P w).is k e.2 = true := by
  rw [List.mem_map]
  constructor
  · rintro ⟨e, he, q⟩
    exact ⟨e, he, (txE_is (g e he) k).2 q⟩
  · rintro ⟨e, he, q⟩
    exact ⟨e, he, (txE_is (g e he) k).1 q⟩
theorem SetX.setOf (R : SetX w h a S n) : h.SetOf (strKind P w) a S n := by
  obtain ⟨ob, es, ep, tb, hob, exact_, dat, good, nodup, mem, bound, fits, size, _⟩ := R
  exact ⟨ob, es, ep, tb, hob, exact_, dat, txE_elems good, fun k => (mem k).trans (txE_mem good k), bound, fits, size⟩
end
section
variable {P : Program} {w : World} {A : Around} {E : Value → Shared → Prop} {s : Shared} {a : Addr} {S : Str → Bool} {n : Nat}
theorem setX_tail {gv : Bool → Sem Unit} (hgv : ∀ (b : Bool) (z : Shared) (Z : Unit → Shared → Prop), Z () z → wpAny (model P w) A (gv b) Z E z)
    {ob : Obj} {es : Array (Int × Value)} {ep : Nat} {tb : SetTable} (hob : s.heap.get? a = some ob) (exact_ : ob.ExactSet) (dat : ob.data = .set es ep tb)
    {fs : Array (Int × Value)} {tc : SetTable} {S' : Str → Bool} (good : ∀ e ∈ fs.toList, TxE w e) (nodup : (fs.toList.map txOf).Nodup) (mem : ∀ k, S' k = true ↔ k ∈ fs.toList.map txOf)
    (bound : fs.size < scanBound) (fits : tc.fits fs.size = true) (ris : Ris tc.place.toList) (led : w.params.followText "set-order" = true ∨ tc.led = true) {dummy : Bool} {R : Option Bool → Shared → Prop}
    (hR : ∀ g, Heap.SameBut a s.heap g → SetX w g a S' fs.size → R (some true) { s with heap := g }) :
    wpAny (model P w) A (do
        storeSet a fs tc
        if (!dummy && tc.tooFull) = true then do
            gv (relayAll tc fs (SetTable.grown fs.size)).2.2
            storeSet a (relayAll tc fs (SetTable.grown fs.size)).1 (relayAll tc fs (SetTable.grown fs.size)).2.1
            pure (some true)
          else pure (some true)) R E s := by
  refine wpAny_bind (wpAny_storeSet_of hob dat ?_ (fits_of_scanBound bound))
  have hob1 := store_at (es' := fs) (t' := tc) hob dat
  have same1 := Heap.SameBut.update s.heap a (Obj.putSet fs tc)
  split
  · have perm := relayAll_perm tc fs (SetTable.grown fs.size)
    have fits3 := relayAll_fits tc fs (SetTable.grown fs.size)
    have ris3 := relayAll_ris tc fs (SetTable.grown fs.size)
    have led3 := relayAll_led tc fs (SetTable.grown fs.size)
    generalize relayAll tc fs (SetTable.grown fs.size) = Z at perm fits3 ris3 led3 ⊢
    obtain ⟨gs, td, gave⟩ := Z
    dsimp only at perm fits3 ris3 led3 ⊢
    have size3 : gs.size = fs.size := by rw [← Array.length_toList, perm.length_eq, Array.length_toList]
    have bound3 : gs.size < scanBound := by rw [size3]; exact bound
    refine wpAny_bind (hgv _ _ _ ?_)
    refine wpAny_bind (wpAny_storeSet_of hob1 rfl ?_ (fits_of_scanBound bound3))
    have hob2 := store_at (es' := gs) (t' := td) hob1 rfl
    refine wpAny_pure (hR _ (same1.trans (Heap.SameBut.update _ a _)) ?_)
    exact ⟨_, gs, _, td, hob2, exact_, rfl, fun e he => good e (perm.mem_iff.mp he), (perm.map txOf).nodup_iff.mpr nodup, fun k => (mem k).trans (perm.map txOf).mem_iff.symm, bound3, fits3, size3, ris3,
      led.imp id fun z => by rw [led3]; exact z⟩
  · exact wpAny_pure (hR _ same1 ⟨_, fs, _, tc, hob1, exact_, rfl, good, nodup, mem, bound, fits, rfl, ris, led⟩)
theorem setX_add {k : Str} {tk : Tok} {Q : Bool → Shared → Prop} (R : SetX w s.heap a S n) (room : n + 1 < scanBound)
    (hQ : ∀ g, Heap.SameBut a s.heap g → SetX w g a (fun j => S j || decide (j = k)) (if S k = true then n else n + 1) → Q (!S k) { s with heap := g }) :
    wpAny (model P w) A (setAddHashed a (.str k tk) ((strKind P w).hash k)) Q E s := by
  obtain ⟨ob, es, ep, tb, hob, exact_, dat, good, nodup, mem, bound, fits, size, ris, led⟩ := R
  have key : (strKind P w).is k (.str k tk) = true := txKey k tk
  have scan : (Value.str k tk).scannable = true := rfl
  have elems : ElemsOf (strKind P w) es.toList := txE_elems good
  unfold setAddHashed setAddHashedIn
  refine wpAny_holding (wpAny_bind (wpAny_setState_of hob dat fits ?_))
  dsimp only
  rw [byScan_of scan bound elems]
  simp only [↓reduceIte]
  unfold setAddByScan
  refine wpAny_bind ?_
  refine wpAny_bind (wpAny_rule ?_)
  refine wpAny_bind (wpAny_setScan_of key hob dat fits elems ?_)
  cases hfound : List.findIdx? (fun e => (strKind P w).is k e.2) es.toList with
  | some j =>
    dsimp only
    obtain ⟨hj, pj, _⟩ := List.findIdx?_eq_some_iff_getElem.mp hfound
    have yes : S k = true := (mem k).2 ((txE_mem (P := P) (w := w) good k).2 ⟨es.toList[j], List.getElem_mem hj, pj⟩)
    refine wpAny_pure (wpAny_pure ?_)
    have q := hQ s.heap (Heap.SameBut.refl a s.heap) ⟨ob, es, ep, tb, hob, exact_, dat, good, nodup, fun i => by
      rw [Bool.or_eq_true, decide_eq_true_eq, ← mem i]
      exact ⟨fun z => z.elim id (fun e => e ▸ yes), .inl⟩, bound, fits, by rw [if_pos yes]; exact size, ris, led⟩
    rw [yes] at q
    exact q
  | none =>
    dsimp only
    have notin : k ∉ es.toList.map txOf := fun z => by
      obtain ⟨e, he, q⟩ := (txE_mem (P := P) (w := w) good k).1 z
      have c := List.findIdx?_eq_none_iff.mp hfound e he
      rw [q] at c
      cases c
    have no : S k = false := by
      cases q : S k with
      | false => rfl
      | true => exact absurd ((mem k).1 q) notin
    have gives : ∀ (b : Bool) {z : Shared} {Z : Unit → Shared → Prop}, Z () z → wpAny (model P w) A (match b with | true => rule "set.scan.the-table-gave-way" | false => pure ()) Z E z :=
      fun b z Z q => by cases b <;> first | exact wpAny_pure q | exact wpAny_rule q
    have perm := layNew_perm tb es ((strKind P w).hash k) (.str k tk)
    have fits1 := layNew_fits tb es ((strKind P w).hash k) (.str k tk)
    have ris1 := layNew_ris tb es ((strKind P w).hash k) (.str k tk) ris
    have led1 := layNew_led tb es ((strKind P w).hash k) (.str k tk)
    generalize layNew tb es ((strKind P w).hash k) (.str k tk) = Z at perm fits1 ris1 led1 ⊢
    obtain ⟨fs, tc, dummy, gave⟩ := Z
    dsimp only at perm fits1 ris1 led1 ⊢
    rw [Array.toList_push] at perm
    have perm1 : fs.toList.Perm (((strKind P w).hash k, Value.str k tk) :: es.toList) := perm.trans (List.perm_append_singleton _ _)
    have permk : (fs.toList.map txOf).Perm (k :: es.toList.map txOf) := perm1.map txOf
    have good1 : ∀ e ∈ fs.toList, TxE w e := fun e he => by
      rcases List.mem_cons.mp (perm1.mem_iff.mp he) with z | z
      · rw [z]; exact ⟨k, tk, rfl, rfl⟩
      · exact good e z
    have nodup1 : (fs.toList.map txOf).Nodup := permk.nodup_iff.mpr (List.nodup_cons.mpr ⟨notin, nodup⟩)
    have mem1 : ∀ i, (S i || decide (i = k)) = true ↔ i ∈ fs.toList.map txOf := fun i => by
      rw [Bool.or_eq_true, decide_eq_true_eq, mem i, permk.mem_iff, List.mem_cons]
      exact Or.comm
    have size1 : fs.size = n + 1 := by rw [← Array.length_toList, perm1.length_eq, List.length_cons, Array.length_toList, size]
    have bound1 : fs.size < scanBound := by rw [size1]; exact room
    have hled : w.params.followText "set-order" = true ∨ tc.led = true := led.imp id fun z => by rw [led1]; exact z
    have fin : ∀ g, Heap.SameBut a s.heap g → SetX w g a (fun j => S j || decide (j = k)) fs.size → Q true { s with heap := g } := fun g sb r => by
      have q := hQ g sb
      rw [no] at q
      rw [size1] at r
      exact q r
    refine wpAny_bind (gives _ ?_)
    split
    · refine wpAny_bind ?_
      rw [hashByValue_scannable 8 scan]
      refine wpAny_pure ?_
      refine setX_tail ?_ hob exact_ dat good1 nodup1 mem1 bound1 ?_ ?_ ?_ ?_
      · intro b z Z q; cases b <;> first | exact wpAny_pure q | exact wpAny_rule q
      · first | (split <;> first | exact fits1 | exact SetTable.fits_plain_off fits1) | exact fits1
      · first | (split <;> exact ris1) | exact ris1
      · first | (split <;> exact hled) | exact hled
      · intro g sb r; dsimp only; exact wpAny_pure (fin g sb r)
    · refine wpAny_bind (wpAny_pure ?_)
      simp only [↓reduceIte]
      refine setX_tail ?_ hob exact_ dat good1 nodup1 mem1 bound1 fits1 ris1 hled ?_
      · intro b z Z q; cases b <;> first | exact wpAny_pure q | exact wpAny_rule q
      · intro g sb r; dsimp only; exact wpAny_pure (fin g sb r)
theorem setX_new {h : Heap} (ho : h.get? a = some (set0 w)) : SetX w h a (fun _ => false) 0 :=
  ⟨_, #[], 0, _, ho, ⟨rfl, rfl, rfl⟩, rfl, (fun e he => by simp at he), (by simp), (fun k => by simp), (by decide), (by rfl), rfl, List.Pairwise.nil, by
    show _ ∨ (!w.params.followText "set-order") = true
    cases w.params.followText "set-order"
    · exact .inr rfl
    · exact .inl rfl⟩
theorem setX_update {It : Addr} {fp wr : List Addr} {G : Array GenState → Array GenState → Prop} {m : Nat} {Pv : Nat → Value → Prop} {St : Nat → Shared → Prop} {R : Result → Shared → Prop}
    (W : WalksS P w A.in1 It fp wr G m Pv St) (T : Addr) (off : T ∉ fp) (ys : List Str) (hm : m = ys.length) (few : ys.length + 1 < scanBound) (vals : ∀ i v, Pv i v → ∃ k t, ys[i]? = some k ∧ v = .str k t) :
    ∀ (left i : Nat) (s : Shared), m - i = left → i ≤ m → St i s → (∃ c, c ≤ i ∧ SetX w s.heap T (fun j => decide (j ∈ ys.take i)) c) →
      (∀ z c, Moved (T :: wr) G s z → c ≤ m → SetX w z.heap T (fun j => decide (j ∈ ys)) c → R (.ok (.ret .none)) z) →
      codeAny (model P w) A (.builtin "set.update.loop" ⟨[.ref T, .ref It], []⟩) R s := by
  have offw : T ∉ wr := fun h => off (W.sub _ h)
  have subw : ∀ b ∈ wr, b ∈ T :: wr := fun b hb => List.mem_cons_of_mem _ hb
  intro left
  induction left with
  | zero =>
    intro i s e0 hi hst ⟨c, hc, hS⟩ hR
    have him : i = m := by omega
    subst him
    refine codeAny_builtin F.entry_set_update_loop ?_
    rw [Around.under_plainId F.plain_set_update_loop _]
    show wpAny _ A.in1 (pyNext (.ref It) >>= _) _ _ s
    refine wpAny_bind (W.done s _ _ hst fun z mv => ?_)
    show wpAny _ A.in1 (ret Value.none) _ _ z
    have e : ys.take i = ys := List.take_of_length_le (by omega)
    rw [e] at hS
    exact wpAny_pure (hR z c (mv.mono subw) hc (hS.at fun o e => mv.heap T o offw e))
  | succ left ih =>
    intro i s e0 hi hst ⟨c, hc, hS⟩ hR
    have him : i < m := by omega
    refine codeAny_builtin F.entry_set_update_loop ?_
    rw [Around.under_plainId F.plain_set_update_loop _]
    show wpAny _ A.in1 (pyNext (.ref It) >>= _) _ _ s
    refine wpAny_bind (W.item i s _ _ him hst fun v z hP hst' mv => ?_)
    obtain ⟨y, t, hy, rfl⟩ := vals i v hP
    have hS' : SetX w z.heap T (fun j => decide (j ∈ ys.take i)) c := hS.at fun o e => mv.heap T o offw e
    show wpAny _ A.in1 (holding [Value.str y t] (setAdd T (.str y t)) >>= _) _ _ z
    refine wpAny_bind (wpAny_holding ?_)
    unfold setAdd
    refine wpAny_holding ?_
    refine wpAny_bind ((strKind P w).pyHash (k := y) (txKey y t) ?_)
    refine setX_add (s := { z with toks := z.toks + 1 }) hS' (by omega) fun g sb hS2 => ?_
    have hS3 : SetX w g T (fun j => decide (j ∈ ys.take (i + 1))) (if decide (y ∈ ys.take i) = true then c else c + 1) := hS2.congr fun j => by
      rw [List.take_add_one, hy]
      simp [List.mem_append]
    have hc3 : (if decide (y ∈ ys.take i) = true then c else c + 1) ≤ i + 1 := by
      split <;> omega
    refine wpAny_pure ⟨plainId_quiet F.plain_set_update_loop _, ih (i + 1) _ (by omega) him (W.frame _ z _ _ hst' (Nat.le_succ _) fun b hb o e => ?_) ⟨_, hc3, hS3⟩ fun z2 c2 mv2 hc2 hS4 => ?_⟩
    · rw [sb.2 b (fun h : b = T => off (by rw [← h]; exact hb))]; exact e
    · refine hR z2 c2 (Moved.trans W.gtrans ((mv.mono subw).then_heap (Nat.le_succ _) fun b o hb e => ?_) mv2) hc2 hS4
      rw [sb.2 b (fun h : b = T => hb (by rw [h]; exact List.mem_cons_self))]; exact e
theorem strs_at : ∀ {us : List Value} {ys : List Str}, StrsAre us ys → ∀ (i : Nat) (v : Value), us[i]? = some v → ∃ k t, ys[i]? = some k ∧ v = .str k t
  | _, _, .nil, i, v, h => by simp at h
  | _, _, .cons n t hr, 0, v, h => by simp at h; exact ⟨n, t, rfl, h.symm⟩
  | _, _, .cons n t hr, i + 1, v, h => by
    simp only [List.getElem?_cons_succ] at h ⊢
    exact strs_at hr i v h
theorem strs_len : ∀ {us : List Value} {ys : List Str}, StrsAre us ys → us.length = ys.length
  | _, _, .nil => rfl
  | _, _, .cons n t hr => by rw [List.length_cons, List.length_cons, strs_len hr]
theorem setX_of_list {l : Addr} {items : Array Value} (ys : List Str) {Q : Value → Shared → Prop} (quiet : A.handled = none) (isL : s.heap.IsList l items) (areT : StrsAre items.toList ys) (few : ys.length + 1 < scanBound)
    (k : ∀ (g : Heap) (tk c : Nat), SetX w g s.heap.objs.size (fun j => decide (j ∈ ys)) c → c ≤ ys.length → (∀ b o, s.heap.get? b = some o → g.get? b = some o) → Q (.ref s.heap.objs.size) { s with heap := g, toks := tk }) :
    wpAny (model P w) A (call (.type "set") [.ref l]) Q E s := by
  have size : items.size = ys.length := by have z := strs_len areT; rwa [Array.length_toList] at z
  obtain ⟨mc, mt, mro⟩ := F.called_set.mro
  have c1 := F.called_set.made
  have c2 := F.called_set.sub
  refine wpAny_call (codeAny_of_tree (show wpAny _ _ (callAny (.type "set") _) _ _ _ from wpAny_pure ⟨Code.quiet_builtin _ (by decide +kernel), codeAny_builtin F.entry_type_call ?_⟩))
  rw [Around.under_plain (weight_type_call_type "set" [.ref l] []) rfl]
  have c3 := F.called_set.notType
  have c4 := F.called_set.canCreate
  have c5 := F.typeCall_set_1 (.ref l)
  repeat (any_goals (first | assumption | wp_step))

  refine codeAny_mono (L2.code_set_led1 (.ref l) (E := E) (Q₁ := fun obj z => obj = .ref s.heap.objs.size ∧ z = { s with heap := s.heap.push (set0 w) }) ⟨rfl, rfl⟩) fun r z hr => ?_
  match r, hr with
  | .error _, hr => exact hr
  | .ok (.ret obj), hr =>
    obtain ⟨rfl, rfl⟩ := hr
    have at0 : (s.heap.push (set0 w)).get? s.heap.objs.size = some (set0 w) := Heap.get?_push_size _ rfl
    have ty : Shared.TypeIs { s with heap := s.heap.push (set0 w) } (.ref s.heap.objs.size) "set" := ⟨_, at0, rfl⟩
    have i1 := F.called_set.init.lookup
    have i2 := F.called_set.init.bind (.ref s.heap.objs.size)
    repeat (any_goals (first | assumption | wp_step))

    refine codeAny_mono (codeAny_call_builtin (R := wants (fun v z => v = .none ∧ ∃ g tk c, z = { s with heap := g, toks := tk } ∧ SetX w g s.heap.objs.size (fun j => decide (j ∈ ys)) c ∧ c ≤ ys.length ∧ ∀ b o, s.heap.get? b = some o → g.get? b = some o) E) F.called_set.init.plain F.entry_set_init (check_set_init_1 ty ?_)) fun r2 z2 hr2 => ?_
    · obtain ⟨⟨oc, od, odt, osl⟩, hol, hcl, cap, hdl⟩ := isL
      simp only at hcl hdl
      subst hcl hdl
      have ol : (s.heap.push (set0 w)).get? l = some { cls := .type "list", dict := od, data := .seq items cap, slots := osl } := Heap.get?_push_of_some _ hol
      have x1 := F.sub_list_set
      have x2 := F.sub_list_frozenset
      have x3 : (Value.type "list" == Value.type "dict") = false := by decide
      have isL1 : (s.heap.push (set0 w)).IsList l items := ⟨_, ol, rfl, cap, rfl⟩
      have lt : l < s.heap.objs.size := Heap.lt_size hol
      have sz1 : (s.heap.push (set0 w)).objs.size = s.heap.objs.size + 1 := Heap.size_push ..
      unfold Builtin.«set.__init__» noKeywords Builtin.Frozenset.updateFrom
      generalize hPI : pyIter = PI
      wp_walk
      subst hPI

      refine wpAny_pyIter_list isL1 (wpAny_bind (wpAny_runValue ?_))
      have quiet3 : A.in1.in1.in1.handled = none := by simp [quiet]
      have ne1 : l ≠ (s.heap.push (set0 w)).objs.size := by rw [sz1]; exact Nat.ne_of_lt (Nat.lt_succ_of_lt lt)
      have off : s.heap.objs.size ∉ [(s.heap.push (set0 w)).objs.size, l] := by
        rw [sz1]
        intro z
        rcases List.mem_cons.mp z with z | z
        · exact absurd z (Nat.ne_of_lt (Nat.lt_succ_self _))
        · exact absurd (List.mem_singleton.mp z) (Nat.ne_of_gt lt)
      have vals : ∀ (i : Nat) (v : Value), items[i]? = some v → ∃ j t, ys[i]? = some j ∧ v = .str j t := fun i v hv => strs_at areT i v (by rw [Array.getElem?_toList]; exact hv)
      refine setX_update ((Walks.list quiet3 _ l ne1 items).toS) s.heap.objs.size off ys size few vals _ 0 _ rfl (Nat.zero_le _) ⟨⟨_, Heap.get?_push_size _ rfl, rfl, rfl⟩, isL1.push _⟩ ⟨0, Nat.le_refl 0, (setX_new (Heap.get?_push_of_some _ at0)).congr fun j => by simp⟩ ?_
      rintro ⟨g, gs, dr, tk, os⟩ c moved le R
      have e1 : gs = s.gens := moved.gens
      have e2 : dr = s.drawn := moved.drawn
      have e3 : os = s.os := moved.os
      subst e1 e2 e3
      refine wpAny_pure (show wpAny _ _ (ret Value.none) _ _ _ from wpAny_pure ⟨rfl, g, tk, c, rfl, R, size ▸ le, fun b o e => ?_⟩)
      have lb : b < s.heap.objs.size := Heap.lt_size e
      refine moved.heap b o ?_ (Heap.get?_push_of_some _ (Heap.get?_push_of_some _ e))
      rw [sz1]
      intro z
      rcases List.mem_cons.mp z with z | z
      · exact absurd z (Nat.ne_of_lt lb)
      · exact absurd (List.mem_singleton.mp z) (Nat.ne_of_lt (Nat.lt_succ_of_lt lb))
    · match r2, hr2 with
      | .error _, hr2 => exact hr2
      | .ok (.ret v), hr2 =>
        obtain ⟨rfl, g, tk, c, rfl, R, le, keep⟩ := hr2
        repeat (any_goals (first | assumption | wp_step))
        exact k _ _ _ R le keep
      | .ok .next, hr2 => exact hr2.elim
      | .ok .brk, hr2 => exact hr2.elim
      | .ok .cont, hr2 => exact hr2.elim
  | .ok .next, hr => exact hr.elim
  | .ok .brk, hr => exact hr.elim
  | .ok .cont, hr => exact hr.elim
/-- a < b of texts -/
def TxLt (a b : Str) : Prop := a.cps.toList < b.cps.toList
theorem strs_of_txE : ∀ (l : List Value), (∀ v ∈ l, ∃ k tk, v = Value.str k tk) → StrsAre l (l.map strOf)
  | [], _ => .nil
  | v :: l, h => by
    obtain ⟨k, tk, rfl⟩ := h v List.mem_cons_self
    exact .cons k tk (strs_of_txE l fun u hu => h u (List.mem_cons_of_mem _ hu))
theorem str_ext {a b : Str} (h : a.cps.toList = b.cps.toList) : a = b := by
  obtain ⟨⟨x⟩⟩ := a
  obtain ⟨⟨y⟩⟩ := b
  have h : x = y := h
  rw [h]
theorem asc_texts : ∀ {p : Str} {l : List Str}, risingS p l = true → (p :: l).Nodup → (p :: l).Pairwise TxLt
  | p, [], _, _ => by simp
  | p, x :: r, h, d => by
    have h : (!ltCps x.cps.toList p.cps.toList && risingS x r) = true := h
    obtain ⟨h1, h2⟩ := Bool.and_eq_true_iff.mp h
    obtain ⟨d1, d2⟩ := List.nodup_cons.mp d
    have ih := asc_texts h2 d2
    have lt : TxLt p x := by
      rw [ltCps_eq] at h1
      have n1 : ¬ x.cps.toList < p.cps.toList := by simpa using h1
      have ne : p.cps.toList ≠ x.cps.toList := fun e => d1 (by rw [str_ext e]; exact List.mem_cons_self)
      exact Std.lt_of_le_of_ne (Std.not_lt.mp n1) ne
    refine List.pairwise_cons.mpr ⟨fun y hy => ?_, ih⟩
    rcases List.mem_cons.mp hy with rfl | hy
    · exact lt
    · exact List.lt_trans lt ((List.pairwise_cons.mp ih).1 y hy)
theorem asc_sortedS {l : List Str} (h : sortedS l = true) (d : l.Nodup) : l.Pairwise TxLt := by
  cases l with
  | nil => exact List.Pairwise.nil
  | cons x r => exact asc_texts h d
theorem sorted_setX {Q : Value → Shared → Prop} (R : SetX w s.heap a S n) (quiet : A.handled = none)
    (k : ∀ (z : Shared) (p : Addr) (out : List Value) (ep : Nat) (ys : List Str), (∀ b o, s.heap.get? b = some o → z.heap.get? b = some o) → z.gens = s.gens → z.os = s.os → s.heap.objs.size ≤ p →
      z.heap.get? p = some (seqObj "list" out.toArray ep) → StrsAre out ys → ys.Pairwise TxLt → (∀ j, j ∈ ys ↔ S j = true) → ys.length = n → Q (.ref p) z) :
    wpAny (model P w) A (call (.builtin "sorted") [.ref a]) Q E s := by
  obtain ⟨ob, es, ep, tb, hob, exact_, dat, good, nodup, mem, bound, fits, size, ris, led⟩ := R
  refine Calls.call_function_entry kind_sorted plain_sorted entry_sorted (args_sorted1 _) ?_
  unfold Builtin.«sorted»
  refine wpAny_bind (m := checkCount "sorted" 1 1 _) (wpAny_pure (wpAny_bind (collect_set (A := A.in1) quiet ⟨ob, hob, exact_.1, dat⟩ fits bound ris led fun z vs keep le gens os perm => ?_)))
  have len : vs.length = n := by rw [perm.length_eq, List.length_map, Array.length_toList, size]
  have areS : StrsAre vs (vs.map strOf) := strs_of_txE vs fun v hv => by
    obtain ⟨e, he, ee⟩ := List.mem_map.mp (perm.mem_iff.mp hv)
    obtain ⟨i, t, h1, _⟩ := good e he
    exact ⟨i, t, ee ▸ h1⟩
  have fit : vs.length ≤ sizeLine := by rw [len, ← size]; exact fits_of_scanBound bound
  refine wpAny_bind (wpAny_newList ?_ fit)
  have atL : (z.heap.push (seqObj "list" vs.toArray 0)).get? z.heap.objs.size = some (seqObj "list" vs.toArray 0) := Heap.get?_push_size _ rfl
  refine wpAny_bind (wpAny_holding (wpAny_call_entry slot_list_sort ⟨_, atL, rfl⟩ entry_list_sort (list_sort_treeKAny strKind_oneLt atL areS.keysOf (fun v₁ v₂ rest e => keyKind_strs (by rw [← e]; exact areS)) fit fun st' hp hs => ⟨_, rfl, ?_⟩) (args_list_sort _)))
  obtain ⟨ys, o1, o2, o3⟩ := sorted_out_str areS hp hs
  obtain ⟨ep', at'⟩ := sortedHeap_at (vs := vs) (out := (arrOf st').map (·.2)) atL
  have keys : (vs.map strOf).Perm (es.toList.map txOf) := by
    have e : (es.toList.map (·.2)).map strOf = es.toList.map txOf := by
      rw [List.map_map]
      refine List.map_congr_left fun e he => ?_
      obtain ⟨i, t, h1, _⟩ := good e he
      show strOf e.2 = txOf e
      unfold txOf
      rw [h1]
      rfl
    exact e ▸ perm.map strOf
  have pk := o2.trans keys
  refine wpAny_pure ⟨_, rfl, k _ z.heap.objs.size ((arrOf st').map (·.2)).toList ep' ys (fun b o e => ?_) gens os le (by rw [Array.toArray_toList]; exact at') o1 (asc_sortedS o3 (pk.nodup_iff.mpr nodup)) (fun j => by rw [pk.mem_iff, ← mem j]) (by rw [pk.length_eq, List.length_map, Array.length_toList, size])⟩
  have q := keep b o e
  exact (sortedHeap_old (Nat.ne_of_lt (Heap.lt_size q)) (by rw [size_push']; exact Nat.lt_succ_of_lt (Heap.lt_size q))).trans (Heap.get?_push_of_some _ q)
end
def SetXO (w : World) (a : Addr) (S : Str → Bool) (n : Nat) : HO := .ext fun h => SetX w h a S n
theorem setXO_new {w : World} {P : Program} {H : Hp} {h : Heap} {a : Addr} {S : Str → Bool} {n : Nat} (R : SetX w h a S n) : ObjOk P w H h a (SetXO w a S n) := by
  have ⟨ob, _, _, _, hob, _⟩ := R
  exact ⟨R, ⟨ob, hob⟩, fun h1 h2 p k => p.at k⟩
theorem setXO_get {X : Cx} {pins : List (Addr × Obj)} {σ : L2.St} {H : Hp} {s : Shared} {a : Addr} {S : Str → Bool} {n : Nat} (I : Inv X pins σ H s) (ha : H a = some (SetXO X.w a S n)) : SetX X.w s.heap a S n := (I.hok a _ ha).1
def rSortedSetX (w : World) : List V → Hp → VK → Prop := fun vs H Q => ∃ (a : Addr) (S : Str → Bool) (n : Nat), vs = [V.ref a] ∧ H a = some (SetXO w a S n) ∧
  ∀ (ys : List Str) (p : Addr), ys.Pairwise TxLt → (∀ k : Str, k ∈ ys ↔ S k = true) → ys.length = n → H p = none → Q (.ref p) (upd H p (.lst (ys.map V.str)))
theorem cr_sortedSetX {X : Cx} (calm : X.calm = true) : CallR X (.builtin "sorted") (rSortedSetX X.w) := by
  intro pins s σ H vs us Q I r h
  obtain ⟨a, S, n, rfl, ha, q⟩ := h
  rw [Vals.ref1 r]
  have R := setXO_get I ha
  refine sorted_setX R (I.ok.hd calm) fun z p out ep ys keep gens os le at' areS asc mem len => ?_
  have few : (ys.map V.str).length ≤ sizeLine := by
    rw [List.length_map, len]
    obtain ⟨ob, es, ep2, tb, h1, h2, h3, h4, h5, h6, bound, h8, size, _⟩ := R
    rw [← size]
    exact fits_of_scanBound bound
  have fresh : H p = none := I.hok.fresh le
  have J := I.call' (ch := []) os (Un.laid (o := .lst (ys.map V.str)) keep le fresh) (I.hok.laid keep le ⟨few, out, ep, vals_of_strs areS, at'⟩) (by rw [gens]; exact I.bare) (fun _ y => nomatch y)
  exact ⟨.ref p, _, J, rfl, q ys p asc mem len fresh⟩
def rSetXOfL (K : PySem.W.Frag) (w : World) : List V → Hp → VK → Prop := fun vs H Q => ∃ (a : Addr) (ys : List Str), vs = [V.ref a] ∧ SqL K H a (ys.map V.str) ∧ ys.length + 1 < scanBound ∧ ∀ (p : Addr) (c : Nat), c ≤ ys.length → H p = none → Q (.ref p) (upd H p (SetXO w p (fun j => decide (j ∈ ys)) c))
theorem cr_setXOfL {X : Cx} (calm : X.calm = true) : CallR X (.type "set") (rSetXOfL X.K X.w) := by
  intro pins s σ H vs us Q I r h
  obtain ⟨a, ys, rfl, hs, few, q⟩ := h
  rw [Vals.ref1 r]
  obtain ⟨its, rv, pl, _⟩ := I.list hs
  refine setX_of_list ys (I.ok.hd calm) pl.isList (by simpa using rv.strs) few fun g tk c R le keep => ?_
  exact ⟨.ref _, _, I.laid (t' := tk) keep (Nat.le_refl _) (setXO_new R), rfl, q _ c le (I.hok.fresh (Nat.le_refl _))⟩
/-! ## ascending texts with the same members are one list -/
theorem txLt_irrefl (a : Str) : ¬ TxLt a a := fun h => List.lt_irrefl _ h
theorem txLt_asymm {a b : Str} (h : TxLt a b) (g : TxLt b a) : False := List.lt_irrefl _ (List.lt_trans h g)
theorem asc_texts_uniq : ∀ {xs ys : List Str}, xs.Pairwise TxLt → ys.Pairwise TxLt → (∀ k, k ∈ xs ↔ k ∈ ys) → xs = ys
  | [], [], _, _, _ => rfl
  | [], y :: ys, _, _, h => absurd ((h y).mpr List.mem_cons_self) (by simp)
  | x :: xs, [], _, _, h => absurd ((h x).mp List.mem_cons_self) (by simp)
  | x :: xs, y :: ys, hx, hy, h => by
    obtain ⟨x1, x2⟩ := List.pairwise_cons.mp hx
    obtain ⟨y1, y2⟩ := List.pairwise_cons.mp hy
    have e : x = y := by
      rcases List.mem_cons.mp ((h x).mp List.mem_cons_self) with e | e
      · exact e
      · rcases List.mem_cons.mp ((h y).mpr List.mem_cons_self) with f | f
        · exact f.symm
        · exact (txLt_asymm (y1 x e) (x1 y f)).elim
    subst e
    rw [asc_texts_uniq x2 y2 fun k => ?_]
    constructor
    · intro z
      rcases List.mem_cons.mp ((h k).mp (List.mem_cons_of_mem _ z)) with e | e
      · exact (txLt_irrefl _ (e ▸ x1 k z)).elim
      · exact e
    · intro z
      rcases List.mem_cons.mp ((h k).mpr (List.mem_cons_of_mem _ z)) with e | e
      · exact (txLt_irrefl _ (e ▸ y1 k z)).elim
      · exact e
end Ew
namespace Ew
open PySem PySem.Spec PyProof.Rows L2
/-! ## expressions -/
inductive Bw where
  | add
  | sub
  | max
  | min
def Bw.w : Bw → Str
  | .add => "add"
  | .sub => "subtract"
  | .max => "max"
  | .min => "min"
inductive Ex where
  | x
  | num (q : Rat)
  | abs (e : Ex)
  | mul (q : Rat) (e : Ex)
  | call (n : Str) (e : Ex)
  | bin (b : Bw) (l r : Ex)
def Ex.word : Ex → Str
  | .x => "x"
  | .num _ => "number"
  | .abs _ => "abs"
  | .mul _ _ => "multiple"
  | .call _ _ => "call"
  | .bin b _ _ => b.w
def Ex.dep : Ex → Nat
  | .x => 1
  | .num _ => 1
  | .abs e => e.dep + 1
  | .mul _ e => e.dep + 1
  | .call _ e => e.dep + 1
  | .bin _ l r => Nat.max l.dep r.dep + 1
theorem Ex.dep_pos (e : Ex) : 1 ≤ e.dep := by cases e <;> simp [Ex.dep]
def Ex.kids : Ex → List Ex
  | .x => []
  | .num _ => []
  | .abs e => [e]
  | .mul _ e => [e]
  | .call _ e => [e]
  | .bin _ l r => [l, r]
theorem Ex.kids_dep {e k : Ex} (h : k ∈ e.kids) : k.dep + 1 ≤ e.dep := by
  cases e with
  | x => simp [Ex.kids] at h
  | num q => simp [Ex.kids] at h
  | abs e => simp [Ex.kids] at h; subst h; simp [Ex.dep]
  | mul q e => simp [Ex.kids] at h; subst h; simp [Ex.dep]
  | call n e => simp [Ex.kids] at h; subst h; simp [Ex.dep]
  | bin b l r =>
    simp [Ex.kids] at h
    show k.dep + 1 ≤ Nat.max l.dep r.dep + 1
    rcases h with rfl | rfl
    · exact Nat.succ_le_succ (Nat.le_max_left _ _)
    · exact Nat.succ_le_succ (Nat.le_max_right _ _)
theorem Ex.kids_len (e : Ex) : e.kids.length ≤ 2 := by cases e <;> simp [Ex.kids]
/-- the expression's layout -/
def ExAt (G : Hp) : Ex → V → Prop
  | .x, v => ∃ a, v = .ref a ∧ G a = some (.tup [.str "x"])
  | .num q, v => ∃ a u, v = .ref a ∧ G a = some (.tup [.str "number", u]) ∧ QAt G u q
  | .abs e, v => ∃ a u, v = .ref a ∧ G a = some (.tup [.str "abs", u]) ∧ ExAt G e u
  | .mul q e, v => ∃ a t u, v = .ref a ∧ G a = some (.tup [.str "multiple", t, u]) ∧ QAt G t q ∧ ExAt G e u
  | .call n e, v => ∃ a u, v = .ref a ∧ G a = some (.tup [.str "call", .str n, u]) ∧ ExAt G e u
  | .bin b l r, v => ∃ a t u, v = .ref a ∧ G a = some (.tup [.str b.w, t, u]) ∧ ExAt G l t ∧ ExAt G r u
theorem ExAt.kp {G G' : Hp} (k : Kp G G') : ∀ {e : Ex} {v : V}, ExAt G e v → ExAt G' e v
  | .x, v, ⟨a, h1, h2⟩ => ⟨a, h1, k.t h2⟩
  | .num q, v, ⟨a, u, h1, h2, h3⟩ => ⟨a, u, h1, k.t h2, h3.kp k⟩
  | .abs e, v, ⟨a, u, h1, h2, h3⟩ => ⟨a, u, h1, k.t h2, ExAt.kp k h3⟩
  | .mul q e, v, ⟨a, t, u, h1, h2, h3, h4⟩ => ⟨a, t, u, h1, k.t h2, h3.kp k, ExAt.kp k h4⟩
  | .call n e, v, ⟨a, u, h1, h2, h3⟩ => ⟨a, u, h1, k.t h2, ExAt.kp k h3⟩
  | .bin b l r, v, ⟨a, t, u, h1, h2, h3, h4⟩ => ⟨a, t, u, h1, k.t h2, ExAt.kp k h3, ExAt.kp k h4⟩
theorem ExAt.same {G G' : Hp} {e : Ex} {v : V} (h : ExAt G e v) (k : Same G G') : ExAt G' e v := h.kp (Kp.of k)
/-- its tuple: the word first, what it is made of last -/
theorem ExAt.tup {G : Hp} {e : Ex} {v : V} (h : ExAt G e v) : ∃ a us, v = .ref a ∧ G a = some (.tup (.str e.word :: us)) ∧ us.length ≤ 2 := by
  cases e with
  | x => obtain ⟨a, h1, h2⟩ := h; exact ⟨a, [], h1, h2, by simp⟩
  | num q => obtain ⟨a, u, h1, h2, h3⟩ := h; exact ⟨a, [u], h1, h2, by simp⟩
  | abs e => obtain ⟨a, u, h1, h2, h3⟩ := h; exact ⟨a, [u], h1, h2, by simp⟩
  | mul q e => obtain ⟨a, t, u, h1, h2, h3, h4⟩ := h; exact ⟨a, [t, u], h1, h2, by simp⟩
  | call n e => obtain ⟨a, u, h1, h2, h3⟩ := h; exact ⟨a, [.str n, u], h1, h2, by simp⟩
  | bin b l r => obtain ⟨a, t, u, h1, h2, h3, h4⟩ := h; exact ⟨a, [t, u], h1, h2, by simp⟩
/-- the called names, in the order of the text -/
def Ex.calls : Ex → List Str
  | .x => []
  | .num _ => []
  | .abs e => e.calls
  | .mul _ e => e.calls
  | .call n e => n :: e.calls
  | .bin _ l r => l.calls ++ r.calls
theorem Ex.calls_len : ∀ e : Ex, e.calls.length + 1 ≤ 2 ^ e.dep
  | .x => by show 1 ≤ 2; decide
  | .num _ => by show 1 ≤ 2; decide
  | .abs e => by
    have := Ex.calls_len e
    show e.calls.length + 1 ≤ 2 ^ (e.dep + 1)
    rw [Nat.pow_succ]; omega
  | .mul _ e => by
    have := Ex.calls_len e
    show e.calls.length + 1 ≤ 2 ^ (e.dep + 1)
    rw [Nat.pow_succ]; omega
  | .call n e => by
    have := Ex.calls_len e
    show (e.calls.length + 1) + 1 ≤ 2 ^ (e.dep + 1)
    have p : 1 ≤ 2 ^ e.dep := Nat.one_le_two_pow
    rw [Nat.pow_succ]; omega
  | .bin _ l r => by
    have h1 := Ex.calls_len l
    have h2 := Ex.calls_len r
    show (l.calls ++ r.calls).length + 1 ≤ 2 ^ (Nat.max l.dep r.dep + 1)
    have p1 : 2 ^ l.dep ≤ 2 ^ Nat.max l.dep r.dep := Nat.pow_le_pow_right (by decide) (Nat.le_max_left _ _)
    have p2 : 2 ^ r.dep ≤ 2 ^ Nat.max l.dep r.dep := Nat.pow_le_pow_right (by decide) (Nat.le_max_right _ _)
    rw [Nat.pow_succ, List.length_append]; omega
theorem Ex.calls_few {e : Ex} {n : Nat} (h : e.dep ≤ n) (hn : n ≤ 13) : e.calls.length ≤ 8191 := by
  have h1 := Ex.calls_len e
  have h2 : 2 ^ e.dep ≤ 2 ^ 13 := Nat.pow_le_pow_right (by decide) (by omega)
  have h3 : (2 : Nat) ^ 13 = 8192 := by decide
  omega
/-- all names are of N, all fractions of F -/
def Ex.Of (N : Str → Prop) (F : Rat → Prop) : Ex → Prop
  | .x => True
  | .num q => F q
  | .abs e => e.Of N F
  | .mul q e => F q ∧ e.Of N F
  | .call n e => N n ∧ e.Of N F
  | .bin _ l r => l.Of N F ∧ r.Of N F
theorem Ex.Of.imp {N M : Str → Prop} {F E : Rat → Prop} (h1 : ∀ n, N n → M n) (h2 : ∀ q, F q → E q) : ∀ {e : Ex}, e.Of N F → e.Of M E
  | .x, _ => trivial
  | .num q, h => h2 q h
  | .abs e, h => Ex.Of.imp (e := e) h1 h2 h
  | .mul q e, h => ⟨h2 q h.1, Ex.Of.imp (e := e) h1 h2 h.2⟩
  | .call n e, h => ⟨h1 n h.1, Ex.Of.imp (e := e) h1 h2 h.2⟩
  | .bin _ l r, h => ⟨Ex.Of.imp (e := l) h1 h2 h.1, Ex.Of.imp (e := r) h1 h2 h.2⟩
/-- a fraction of up to six digits -/
def SixFr (q : Rat) : Prop := -999999 ≤ q.num ∧ q.num ≤ 999999 ∧ q.den ≤ 999999
/-- what directly makes it up, in the heap -/
theorem bw_cases (b : Bw) : b.w ≠ "x" ∧ b.w ≠ "number" ∧ b.w ≠ "multiple" ∧ b.w ≠ "call" ∧ b.w ≠ "abs" := by cases b <;> decide +kernel
theorem strIn (s : Str) (ys : List Str) : inV (.str s) (ys.map V.str) = decide (s ∈ ys) := by
  unfold inV
  by_cases h : s ∈ ys
  · rw [decide_eq_true h, List.any_eq_true]
    exact ⟨.str s, List.mem_map.mpr ⟨s, h, rfl⟩, by simp [eqV]⟩
  · rw [decide_eq_false h, Bool.eq_false_iff]
    intro z
    obtain ⟨x, hx, e⟩ := List.any_eq_true.mp z
    obtain ⟨c, hc, rfl⟩ := List.mem_map.mp hx
    have : c = s := by simpa [eqV] using e
    exact h (this ▸ hc)
theorem flatStrs (ys : List Str) : (ys.map V.str).all flatV = true := by
  rw [List.all_eq_true]
  intro x hx
  obtain ⟨d, _, rfl⟩ := List.mem_map.mp hx
  rfl
abbrev ExV (G : Hp) (v : V) (e : Ex) : Prop := ExAt G e v
theorem ExAt.cls {G : Hp} {e : Ex} {v : V} (h : ExAt G e v) : ∃ a us, v = .ref a ∧ G a = some (.tup (.str e.word :: us)) ∧
    ((e.word ∈ (["x", "number"] : List Str) ∧ e.kids = []) ∨ (e.word ∉ (["x", "number"] : List Str) ∧ e.word ∈ (["multiple", "call"] : List Str) ∧ ∃ y u k, us = [y, u] ∧ e.kids = [k] ∧ ExAt G k u) ∨
     (e.word ∉ (["x", "number"] : List Str) ∧ e.word ∉ (["multiple", "call"] : List Str) ∧ us ≠ [] ∧ us.length ≤ 2 ∧ All2 (ExV G) us e.kids)) := by
  cases e with
  | x => obtain ⟨a, h1, h2⟩ := h; exact ⟨a, [], h1, h2, .inl ⟨by show ("x" : Str) ∈ _; decide +kernel, rfl⟩⟩
  | num q => obtain ⟨a, u, h1, h2, h3⟩ := h; exact ⟨a, [u], h1, h2, .inl ⟨by show ("number" : Str) ∈ _; decide +kernel, rfl⟩⟩
  | abs e => obtain ⟨a, u, h1, h2, h3⟩ := h; exact ⟨a, [u], h1, h2, .inr (.inr ⟨by show ("abs" : Str) ∉ _; decide +kernel, by show ("abs" : Str) ∉ _; decide +kernel, by simp, by simp, All2.nil.snoc h3⟩)⟩
  | mul q e => obtain ⟨a, t, u, h1, h2, h3, h4⟩ := h; exact ⟨a, [t, u], h1, h2, .inr (.inl ⟨by show ("multiple" : Str) ∉ _; decide +kernel, by show ("multiple" : Str) ∈ _; decide +kernel, t, u, e, rfl, rfl, h4⟩)⟩
  | call n e => obtain ⟨a, u, h1, h2, h3⟩ := h; exact ⟨a, [.str n, u], h1, h2, .inr (.inl ⟨by show ("call" : Str) ∉ _; decide +kernel, by show ("call" : Str) ∈ _; decide +kernel, .str n, u, e, rfl, rfl, h3⟩)⟩
  | bin b l r =>
    obtain ⟨a, t, u, h1, h2, h3, h4⟩ := h
    refine ⟨a, [t, u], h1, h2, .inr (.inr ⟨?_, ?_, by simp, by simp, (All2.nil.snoc h3).snoc h4⟩)⟩
    · show b.w ∉ _
      cases b <;> decide +kernel
    · show b.w ∉ _
      cases b <;> decide +kernel
/-- the own name of a call -/
def Ex.own : Ex → List Str
  | .call n _ => [n]
  | _ => []
theorem Ex.calls_eq (e : Ex) : e.calls = e.own ++ (e.kids.map Ex.calls).flatten := by
  cases e <;> simp [Ex.calls, Ex.kids, Ex.own]
theorem at0 (x : V) (us : List V) : atI (x :: us) 0 = some x := at_of (j := 0) rfl rfl
theorem at1 (x y : V) (us : List V) : atI (x :: y :: us) 1 = some y := at_of (j := 1) rfl rfl
theorem at2 (x y z : V) (us : List V) : atI (x :: y :: z :: us) 2 = some z := at_of (j := 2) rfl rfl
theorem ExAt.owns {G : Hp} {e : Ex} {v : V} (h : ExAt G e v) : ∃ a us, v = .ref a ∧ G a = some (.tup (.str e.word :: us)) ∧ ((e.word = "call" ∧ ∃ n rest, us = .str n :: rest ∧ e.own = [n]) ∨ (e.word ≠ "call" ∧ e.own = [])) := by
  cases e with
  | x => obtain ⟨a, h1, h2⟩ := h; exact ⟨a, [], h1, h2, .inr ⟨by show ("x" : Str) ≠ _; decide +kernel, rfl⟩⟩
  | num q => obtain ⟨a, u, h1, h2, h3⟩ := h; exact ⟨a, [u], h1, h2, .inr ⟨by show ("number" : Str) ≠ _; decide +kernel, rfl⟩⟩
  | abs e => obtain ⟨a, u, h1, h2, h3⟩ := h; exact ⟨a, [u], h1, h2, .inr ⟨by show ("abs" : Str) ≠ _; decide +kernel, rfl⟩⟩
  | mul q e => obtain ⟨a, t, u, h1, h2, h3, h4⟩ := h; exact ⟨a, [t, u], h1, h2, .inr ⟨by show ("multiple" : Str) ≠ _; decide +kernel, rfl⟩⟩
  | call n e => obtain ⟨a, u, h1, h2, h3⟩ := h; exact ⟨a, [.str n, u], h1, h2, .inl ⟨rfl, n, [u], rfl, rfl⟩⟩
  | bin b l r => obtain ⟨a, t, u, h1, h2, h3, h4⟩ := h; exact ⟨a, [t, u], h1, h2, .inr ⟨by show b.w ≠ _; cases b <;> decide +kernel, rfl⟩⟩
theorem Ex.calls_sub {e k : Ex} {i : Nat} (h : e.kids[i]? = some k) : (e.own ++ ((e.kids.take i).map Ex.calls).flatten).length + k.calls.length ≤ e.calls.length := by
  have hi : i < e.kids.length := (List.getElem?_eq_some_iff.mp h).1
  have e1 : e.kids = e.kids.take i ++ k :: e.kids.drop (i + 1) := by
    have e2 := List.take_append_drop i e.kids
    rw [List.drop_eq_getElem_cons hi] at e2
    rw [← (List.getElem?_eq_some_iff.mp h).2]
    exact e2.symm
  have e3 : (e.kids.map Ex.calls).flatten = ((e.kids.take i).map Ex.calls).flatten ++ (k.calls ++ ((e.kids.drop (i + 1)).map Ex.calls).flatten) := by
    conv => lhs; rw [e1]
    simp
  rw [Ex.calls_eq e, e3]
  simp only [List.length_append]
  omega
end Ew
namespace Ew
open PySem PySem.Spec PyProof.Rows L2
/-! ## texts by their signs -/
theorem slenT (x : Str) : x.length = (TL.tl x).length := by show x.cps.size = x.cps.toList.length; rw [Array.length_toList]
theorem joinL_flat : ∀ ps : List (List Nat), TL.joinL [] ps = ps.flatten
  | [] => rfl
  | [p] => by simp [TL.joinL]
  | p :: q :: r => by
    have h := joinL_flat (q :: r)
    simp only [TL.joinL, List.append_nil, List.flatten_cons] at h ⊢
    rw [h]
    simp
theorem tl_join0 (ys : List Str) : TL.tl (Txt.join ("" : Str) ys) = (ys.map TL.tl).flatten := by
  rw [TL.join_eq, TL.tl_join]
  have e : TL.tl ("" : Str) = [] := rfl
  rw [e, joinL_flat]
theorem appT_len (x y : Str) : (x ++ y).length = x.length + y.length := by rw [slenT, TL.tl_append, List.length_append, ← slenT, ← slenT]
theorem joinT_len (ys : List Str) : (Txt.join ("" : Str) ys).length = (ys.map Str.length).sum := by
  rw [slenT, tl_join0, List.length_flatten, List.map_map]
  congr 1
theorem sumT_ones : ∀ ys : List Str, (∀ y ∈ ys, y.length = 1) → (ys.map Str.length).sum = ys.length
  | [], _ => rfl
  | y :: ys, h => by
    rw [List.map_cons, List.sum_cons, sumT_ones ys (fun z hz => h z (List.mem_cons_of_mem _ hz)), h y List.mem_cons_self, List.length_cons]
    omega
theorem tl_cut (z : Str) (lo hi : Option Int) : TL.tl (cutS z lo hi) = ((TL.tl z).drop (HT.sIx z.length 0 lo)).take (HT.sIx z.length z.length hi - HT.sIx z.length 0 lo) := rfl
theorem tl_cut_to {z : Str} {k : Nat} (h : k ≤ z.length) : TL.tl (cutS z none (some (k : Int))) = (TL.tl z).take k := by
  rw [tl_cut, HT.sIx_none, HT.sIx_nat, Nat.min_eq_left h]
  simp
theorem tl_cut_from {z : Str} {k : Nat} (h : k ≤ z.length) : TL.tl (cutS z (some (k : Int)) none) = (TL.tl z).drop k := by
  rw [tl_cut, HT.sIx_none, HT.sIx_nat, Nat.min_eq_left h]
  refine List.take_of_length_le ?_
  rw [List.length_drop, ← slenT]
  exact Nat.le_refl _
/-! ## names -/
def alphaS : Str := "abcdefghijklmnopqrstuvwxyz"
def LowS (z : Str) : Prop := ∀ c ∈ TL.tl z, c ∈ TL.tl alphaS
structure NmOk (y : Str) : Prop where
  l2 : 2 ≤ y.length
  l8 : y.length ≤ 8
  low : LowS y
  abs : y ≠ "abs"
  max : y ≠ "max"
  min : y ≠ "min"
theorem LowS.app {x y : Str} (h : LowS x) (g : LowS y) : LowS (x ++ y) := fun c hc => by
  rw [TL.tl_append] at hc
  rcases List.mem_append.mp hc with z | z
  · exact h c z
  · exact g c z
theorem LowS.join {ys : List Str} (h : ∀ y ∈ ys, LowS y) : LowS (Txt.join ("" : Str) ys) := fun c hc => by
  rw [tl_join0] at hc
  obtain ⟨l, hl, z⟩ := List.mem_flatten.mp hc
  obtain ⟨y, hy, rfl⟩ := List.mem_map.mp hl
  exact h y hy c z
theorem LowS.cut {z : Str} (h : LowS z) (lo hi : Option Int) : LowS (cutS z lo hi) := fun c hc => by
  rw [tl_cut] at hc
  exact h c (List.mem_of_mem_drop (List.mem_of_mem_take hc))
theorem lowS_one {c : Nat} (h : c ∈ TL.tl alphaS) : LowS ⟨#[c]⟩ := fun d hd => by
  have : d = c := by simpa [TL.tl] using hd
  rw [this]; exact h
theorem lowS_q : LowS "q" := lowS_one (c := 113) (by decide +kernel)
theorem abs_len : ("abs" : Str).length = 3 := by decide +kernel
theorem max_len : ("max" : Str).length = 3 := by decide +kernel
theorem min_len : ("min" : Str).length = 3 := by decide +kernel
theorem q_len : ("q" : Str).length = 1 := by decide +kernel
/-- a name made of three parts -/
theorem name_parts {z : Str} {c k : Nat} (hz : LowS z) (hk : k < z.length) (hc : c ∈ TL.tl alphaS) : LowS (cutS z none (some (k : Int)) ++ ⟨#[c]⟩ ++ cutS z (some ((k : Int) + 1)) none) ∧ (cutS z none (some (k : Int)) ++ ⟨#[c]⟩ ++ cutS z (some ((k : Int) + 1)) none).length = z.length := by
  refine ⟨((hz.cut _ _).app (lowS_one hc)).app (hz.cut _ _), ?_⟩
  have e1 : (cutS z none (some (k : Int))).length = k := by
    rw [slenT, tl_cut_to (by omega), List.length_take, ← slenT]
    omega
  have e2 : (cutS z (some ((k : Int) + 1)) none).length = z.length - (k + 1) := by
    rw [show (k : Int) + 1 = ((k + 1 : Nat) : Int) from rfl, slenT, tl_cut_from (by omega), List.length_drop, ← slenT]
  rw [appT_len, appT_len, e1, e2]
  have e3 : (⟨#[c]⟩ : Str).length = 1 := rfl
  omega
theorem names_fix {ys : List Str} {n : Nat} (n2 : 2 ≤ n) (n7 : n ≤ 7) (hl : ∀ y ∈ ys, y.length = n) (hs : ∀ y ∈ ys, LowS y) (h : ("abs" : Str) ∈ ys ∨ ("max" : Str) ∈ ys ∨ ("min" : Str) ∈ ys) : ∀ y ∈ ys, NmOk (y ++ "q") := by
  have h3 : n = 3 := by
    rcases h with h | h | h
    · rw [← hl _ h, abs_len]
    · rw [← hl _ h, max_len]
    · rw [← hl _ h, min_len]
  intro y hy
  have e : (y ++ "q").length = 4 := by rw [appT_len, hl y hy, q_len, h3]
  refine ⟨by omega, by omega, (hs y hy).app lowS_q, fun z => ?_, fun z => ?_, fun z => ?_⟩
  · rw [z, abs_len] at e; omega
  · rw [z, max_len] at e; omega
  · rw [z, min_len] at e; omega
theorem names_keep {ys : List Str} {n : Nat} (n2 : 2 ≤ n) (n7 : n ≤ 7) (hl : ∀ y ∈ ys, y.length = n) (hs : ∀ y ∈ ys, LowS y) (h : ¬ (("abs" : Str) ∈ ys ∨ ("max" : Str) ∈ ys ∨ ("min" : Str) ∈ ys)) : ∀ y ∈ ys, NmOk y := fun y hy =>
  ⟨by rw [hl y hy]; exact n2, by rw [hl y hy]; omega, hs y hy, fun z => h (.inl (z ▸ hy)), fun z => h (.inr (.inl (z ▸ hy))), fun z => h (.inr (.inr (z ▸ hy)))⟩
/-- fractions of up to six digits -/
theorem six_div {a b : Int} (h1 : -999999 ≤ a) (h2 : a ≤ 999999) (h3 : 0 < b) (h4 : b ≤ 999999) : SixFr (Rat.divInt a b) := by
  have hb : b ≠ 0 := by omega
  obtain ⟨e1, e2⟩ := fr_rat (a := a) hb
  have l1 := frN_abs a b hb
  have l2 := frD_abs a b hb
  rw [e1] at l1
  rw [e2, Int.natAbs_natCast] at l2
  exact ⟨by omega, by omega, by omega⟩
/-! ## lists of texts as data -/
theorem strOk_low {y : Str} (h : LowS y) : PyData.strOk y = true := by
  unfold PyData.strOk
  rw [Array.all_eq_true']
  intro c hc
  have := h c (by show c ∈ y.cps.toList; exact Array.mem_toList_iff.mpr hc)
  have h26 : ∀ d ∈ TL.tl alphaS, d < 0x110000 := by decide +kernel
  exact decide_eq_true (h26 c this)
theorem layStrs : ∀ ys : List Str, (∀ y ∈ ys, PyData.strOk y = true) → PyData.canLayAll0 (ys.map PyData.str) = true
  | [], _ => by simp [PyData.canLayAll0]
  | d :: ds, h => by
    have ih := layStrs ds fun y hy => h y (List.mem_cons_of_mem _ hy)
    have hd := h d List.mem_cons_self
    simp [PyData.canLayAll0, PyData.canLay0]
    exact ⟨hd, by simpa using ih⟩
theorem depStrs : ∀ ds : List Str, PyData.depthAll (ds.map PyData.str) ≤ 1
  | [] => by simp [PyData.depthAll]
  | d :: ds => by
    have := depStrs ds
    simp only [List.map_cons, PyData.depthAll, PyData.depth]
    omega
theorem shapedStrs (ys : List Str) (h : ∀ y ∈ ys, PyData.strOk y = true) : SeqAt.shaped (.list (ys.map PyData.str)) = true := by
  unfold SeqAt.shaped
  have h1 : (PyData.list (ys.map PyData.str)).canLay0 = true := by
    have := layStrs ys h
    simpa [PyData.canLay0] using this
  have h2 : (PyData.list (ys.map PyData.str)).depth ≤ 64 := by
    have := depStrs ys
    simp only [PyData.depth]
    omega
  rw [h1, decide_eq_true h2]
  rfl
theorem dpStrs {K : PySem.W.Frag} {H : Hp} : ∀ ys : List Str, DpAll K H (ys.map V.str) (ys.map PyData.str)
  | [] => .nil
  | d :: ds => .cons (.str d) (dpStrs ds)
theorem eqv_nil (ys : List Str) : PyData.eqv (.list (ys.map PyData.str)) (.list []) = decide (ys = []) := by
  cases ys with
  | nil => rfl
  | cons y ys =>
    rw [decide_eq_false (by simp)]
    simp [PyData.eqv, PyData.eqvAll]
theorem same_strs {K : PySem.W.Frag} {G : Hp} {n : Nat} {s t : Addr} {ys : List Str} (hs : G s = some (.lst (ys.map V.str))) (ht : G t = some (.lst (ys.map V.str))) (hl : ys.length ≤ 1000) : SameN K G (n + 2) (.ref s) (.ref t) := by
  refine .inr ⟨s, t, _, _, rfl, rfl, .inl ⟨SqL.of hs, SqL.of ht⟩, rfl, by rw [List.length_map]; exact hl, fun i u v hu hv => ?_⟩
  rw [hu] at hv
  cases hv
  rw [List.getElem?_map] at hu
  cases hy : ys[i]? with
  | none => rw [hy] at hu; cases hu
  | some y =>
    rw [hy] at hu
    cases hu
    exact .inl ⟨rfl, rfl⟩
def rCatS : R2 := fun x y H Q => ∃ i j, x = .str i ∧ y = .str j ∧ i.length + j.length ≤ sizeLine ∧ Q (.str (i ++ j)) H
theorem kbN {p d : Addr} {H G : Hp} {o : HO} (k : KeepBut p H G) (h : H d = none) : KeepBut p H (upd G d o) := fun c u hc n => by
  rw [upd_ne (ne_of_none hc h)]
  exact k c u hc n
def addQ (y : Str) : Str := y ++ "q"
theorem take_next {α : Type} {l : List α} {i : Nat} {x : α} (h : l[i]? = some x) : l.take (i + 1) = l.take i ++ [x] := by
  rw [List.take_add_one, h]
  rfl
theorem map_at {α β : Type} {f : α → β} {l : List α} {i : Nat} {y : β} (h : (l.map f)[i]? = some y) : ∃ x, l[i]? = some x ∧ y = f x := by
  rw [List.getElem?_map] at h
  cases hx : l[i]? with
  | none => rw [hx] at h; cases h
  | some x => rw [hx] at h; cases h; exact ⟨x, rfl, rfl⟩
theorem str_ne {s t : Str} (h : s ≠ t) : decide (V.str s = V.str t) = false := decide_eq_false fun z => h (by injection z)
end Ew
namespace Ew
open PySem PySem.Spec PyProof.Rows L2
/-! ## reading an expression's text, by signs -/
def isLow (c : Nat) : Bool := decide (c ∈ TL.tl alphaS)
def isFig (c : Nat) : Bool := decide (c ∈ TL.tl ("0123456789" : Str))
def runOf (p : Nat → Bool) (t : List Nat) (i : Nat) : List Nat := (t.drop i).takeWhile p
def beh (t : List Nat) : Nat → List Nat → Except Nat Nat
  | e, [] => .ok e
  | e, s :: ss => if t[e]? = some s then beh t (e + 1) ss else .error e
def rdFigs (t : List Nat) (i : Nat) : Except Nat (Nat × Nat) :=
  if (runOf isFig t i).length = 0 then .error i
  else if 1 < (runOf isFig t i).length ∧ t[i]? = some 48 then .error (i + 1)
  else if 6 < (runOf isFig t i).length then .error (i + 6)
  else .ok (NumText.digitsVal (runOf isFig t i), i + (runOf isFig t i).length)
def rdFrac (t : List Nat) (i : Nat) : Except Nat (Rat × Nat) :=
  if t[i]? = some 45 ∧ t[i + 1]? = some 48 then .error (i + 1)
  else (rdFigs t (if t[i]? = some 45 then i + 1 else i)).bind fun ne =>
    if t[ne.2]? = some 47 then (rdFigs t (ne.2 + 1)).bind fun de =>
      if de.1 < 2 ∨ Nat.gcd ne.1 de.1 ≠ 1 then .error (ne.2 + 1)
      else .ok (Rat.divInt (if t[i]? = some 45 then -(ne.1 : Int) else (ne.1 : Int)) de.1, de.2)
    else .ok (Rat.divInt (if t[i]? = some 45 then -(ne.1 : Int) else (ne.1 : Int)) 1, ne.2)
abbrev Rx : Type := Except Nat (Ex × Nat)
def rdSum (t : List Nat) (rec : Nat → Rx) (i : Nat) : Rx :=
  (rec (i + 1)).bind fun l => (beh t l.2 [32]).bind fun e2 => (beh t e2 (if t[e2]? = some 45 then [45, 32] else [43, 32])).bind fun e3 =>
    (rec e3).bind fun r => (beh t r.2 [41]).bind fun e5 => .ok (.bin (if t[e2]? = some 45 then .sub else .add) l.1 r.1, e5)
def absL : List Nat := [97, 98, 115]
def maxL : List Nat := [109, 97, 120]
def minL : List Nat := [109, 105, 110]
def isOp (w : List Nat) : Prop := w = absL ∨ w = maxL ∨ w = minL
instance (w : List Nat) : Decidable (isOp w) := by unfold isOp; infer_instance
def rdWord (t : List Nat) (rec : Nat → Rx) (i : Nat) : Rx :=
  if runOf isLow t i = [120] then .ok (.x, i + (runOf isLow t i).length)
  else if ¬ isOp (runOf isLow t i) ∧ ¬ (2 ≤ (runOf isLow t i).length ∧ (runOf isLow t i).length ≤ 8) then .error i
  else (beh t (i + (runOf isLow t i).length) [40]).bind fun e1 => (rec e1).bind fun p =>
    if runOf isLow t i = absL then (beh t p.2 [41]).bind fun e3 => .ok (.abs p.1, e3)
    else if ¬ isOp (runOf isLow t i) then (beh t p.2 [41]).bind fun e3 => .ok (.call ⟨(runOf isLow t i).toArray⟩ p.1, e3)
    else (beh t p.2 [44, 32]).bind fun e3 => (rec e3).bind fun q => (beh t q.2 [41]).bind fun e5 => .ok (.bin (if runOf isLow t i = maxL then .max else .min) p.1 q.1, e5)
def rdNum (t : List Nat) (rec : Nat → Rx) (i : Nat) : Rx :=
  (rdFrac t i).bind fun v => if t[v.2]? = some 42 then (rec (v.2 + 1)).bind fun p => .ok (.mul v.1 p.1, p.2) else .ok (.num v.1, v.2)
/-- r levels are left -/
def rdPart (t : List Nat) : Nat → Nat → Rx
  | 0, i => .error i
  | r + 1, i => match t[i]? with
    | none => .error i
    | some c => if c = 40 then rdSum t (rdPart t r) i else if isLow c = true then rdWord t (rdPart t r) i else rdNum t (rdPart t r) i
/-! ### positions stay in the text -/
theorem bind_ok {α β : Type} {x : Except Nat α} {f : α → Except Nat β} {b : β} (h : x.bind f = .ok b) : ∃ a, x = .ok a ∧ f a = .ok b := by
  cases x with
  | error p => cases h
  | ok a => exact ⟨a, rfl, h⟩
theorem get_lt {t : List Nat} {i c : Nat} (h : t[i]? = some c) : i < t.length := (List.getElem?_eq_some_iff.mp h).1
theorem beh_le {t : List Nat} : ∀ {ss : List Nat} {e e' : Nat}, beh t e ss = .ok e' → e ≤ t.length → e' ≤ t.length
  | [], e, e', h, he => by cases h; exact he
  | s :: ss, e, e', h, he => by
    unfold beh at h
    split at h
    · rename_i c
      exact beh_le h (get_lt c)
    · cases h
theorem run_le {p : Nat → Bool} {t : List Nat} {i : Nat} (h : i ≤ t.length) : i + (runOf p t i).length ≤ t.length := by
  have := (List.takeWhile_sublist (l := t.drop i) p).length_le
  rw [List.length_drop] at this
  unfold runOf
  omega
theorem figs_le {t : List Nat} {i : Nat} {v : Nat × Nat} (h : rdFigs t i = .ok v) (hi : i ≤ t.length) : v.2 ≤ t.length := by
  unfold rdFigs at h
  split at h
  · cases h
  · split at h
    · cases h
    · split at h
      · cases h
      · cases h
        exact run_le hi
theorem frac_le {t : List Nat} {i : Nat} {v : Rat × Nat} (h : rdFrac t i = .ok v) (hi : i ≤ t.length) : v.2 ≤ t.length := by
  unfold rdFrac at h
  split at h
  · cases h
  · obtain ⟨ne, h1, h2⟩ := bind_ok h
    have hb : (if t[i]? = some 45 then i + 1 else i) ≤ t.length := by
      split
      · rename_i c
        exact get_lt c
      · exact hi
    have l1 := figs_le h1 hb
    split at h2
    · rename_i c
      obtain ⟨de, h3, h4⟩ := bind_ok h2
      have l2 := figs_le h3 (get_lt c)
      split at h4
      · cases h4
      · cases h4
        exact l2
    · cases h2
      exact l1
theorem part_le {t : List Nat} : ∀ {r i : Nat} {v : Ex × Nat}, rdPart t r i = .ok v → i ≤ t.length → v.2 ≤ t.length
  | 0, i, v, h, _ => by cases h
  | r + 1, i, v, h, hi => by
    have ih : ∀ {i : Nat} {v : Ex × Nat}, rdPart t r i = .ok v → i ≤ t.length → v.2 ≤ t.length := fun h hi => part_le h hi
    unfold rdPart at h
    split at h
    · cases h
    · rename_i c hc
      have hlt := get_lt hc
      split at h
      · obtain ⟨l, h1, h⟩ := bind_ok h
        obtain ⟨e2, h2, h⟩ := bind_ok h
        obtain ⟨e3, h3, h⟩ := bind_ok h
        obtain ⟨q, h4, h⟩ := bind_ok h
        obtain ⟨e5, h5, h⟩ := bind_ok h
        cases h
        exact beh_le h5 (ih h4 (beh_le h3 (beh_le h2 (ih h1 hlt))))
      · split at h
        · unfold rdWord at h
          split at h
          · cases h
            exact run_le hi
          · split at h
            · cases h
            · obtain ⟨e1, h1, h⟩ := bind_ok h
              obtain ⟨q, h2, h⟩ := bind_ok h
              have l2 := ih h2 (beh_le h1 (run_le hi))
              split at h
              · obtain ⟨e3, h3, h⟩ := bind_ok h
                cases h
                exact beh_le h3 l2
              · split at h
                · obtain ⟨e3, h3, h⟩ := bind_ok h
                  cases h
                  exact beh_le h3 l2
                · obtain ⟨e3, h3, h⟩ := bind_ok h
                  obtain ⟨u, h4, h⟩ := bind_ok h
                  obtain ⟨e5, h5, h⟩ := bind_ok h
                  cases h
                  exact beh_le h5 (ih h4 (beh_le h3 l2))
        · obtain ⟨u, h1, h⟩ := bind_ok h
          have l1 := frac_le h1 hi
          split at h
          · rename_i c42
            obtain ⟨p, h2, h⟩ := bind_ok h
            cases h
            exact ih (v := p) h2 (get_lt c42)
          · cases h
            exact l1
end Ew
namespace Ew
open PySem PySem.Spec PyProof.Rows L2
/-! ## an expression's text, by signs -/
def intL (i : Int) : List Nat := if i < 0 then 45 :: TL.numL i.natAbs else TL.numL i.natAbs
def frL (q : Rat) : List Nat := intL q.num ++ (if q.den = 1 then [] else 47 :: TL.numL q.den)
def Ex.txt : Ex → List Nat
  | .x => [120]
  | .num q => frL q
  | .abs e => absL ++ 40 :: (e.txt ++ [41])
  | .mul q e => frL q ++ 42 :: e.txt
  | .call n e => TL.tl n ++ 40 :: (e.txt ++ [41])
  | .bin .add l r => 40 :: (l.txt ++ ([32, 43, 32] ++ (r.txt ++ [41])))
  | .bin .sub l r => 40 :: (l.txt ++ ([32, 45, 32] ++ (r.txt ++ [41])))
  | .bin .max l r => maxL ++ 40 :: (l.txt ++ ([44, 32] ++ (r.txt ++ [41])))
  | .bin .min l r => minL ++ 40 :: (l.txt ++ ([44, 32] ++ (r.txt ++ [41])))
/-- where the first part that is too deep begins -/
def Ex.off : Ex → Nat → Nat
  | _, 0 => 0
  | .x, _ + 1 => 0
  | .num _, _ + 1 => 0
  | .abs e, r + 1 => 4 + e.off r
  | .mul q e, r + 1 => (frL q).length + 1 + e.off r
  | .call n e, r + 1 => (TL.tl n).length + 1 + e.off r
  | .bin .add l p, r + 1 => if r < l.dep then 1 + l.off r else 1 + l.txt.length + 3 + p.off r
  | .bin .sub l p, r + 1 => if r < l.dep then 1 + l.off r else 1 + l.txt.length + 3 + p.off r
  | .bin .max l p, r + 1 => if r < l.dep then 4 + l.off r else 4 + l.txt.length + 2 + p.off r
  | .bin .min l p, r + 1 => if r < l.dep then 4 + l.off r else 4 + l.txt.length + 2 + p.off r
def Good (e : Ex) : Prop := e.Of NmOk SixFr
/-- what may follow an expression -/
def Fol (l : List Nat) : Prop := ∀ c, l.head? = some c → isLow c = false ∧ isFig c = false ∧ c ≠ 47 ∧ c ≠ 42
theorem fol_cons {c : Nat} {l : List Nat} (h : isLow c = false ∧ isFig c = false ∧ c ≠ 47 ∧ c ≠ 42) : Fol (c :: l) := fun d hd => by
  cases hd
  exact h
theorem fol41 (l : List Nat) : Fol (41 :: l) := fol_cons ⟨by decide +kernel, by decide +kernel, by decide, by decide⟩
theorem fol32 (l : List Nat) : Fol (32 :: l) := fol_cons ⟨by decide +kernel, by decide +kernel, by decide, by decide⟩
theorem fol44 (l : List Nat) : Fol (44 :: l) := fol_cons ⟨by decide +kernel, by decide +kernel, by decide, by decide⟩
theorem fol_nil : Fol [] := fun c h => by cases h
/-! ### places in a text -/
theorem at_head {t l : List Nat} {i : Nat} (h : t.drop i = l) : t[i]? = l.head? := by
  rw [← h, List.head?_drop]
theorem at_next {t a b : List Nat} {i : Nat} (h : t.drop i = a ++ b) : t.drop (i + a.length) = b := by
  rw [← List.drop_drop, h, List.drop_left]
theorem at_next1 {t b : List Nat} {i c : Nat} (h : t.drop i = c :: b) : t.drop (i + 1) = b := at_next (a := [c]) h
theorem beh_at {t : List Nat} : ∀ {ss b : List Nat} {i : Nat}, t.drop i = ss ++ b → beh t i ss = .ok (i + ss.length)
  | [], _, _, _ => rfl
  | s :: ss, b, i, h => by
    have e1 : t[i]? = some s := at_head h
    unfold beh
    rw [if_pos e1, beh_at (at_next1 h), List.length_cons]
    congr 1
    omega
theorem take_run {p : Nat → Bool} : ∀ {a b : List Nat}, (∀ c ∈ a, p c = true) → (∀ c, b.head? = some c → p c = false) → (a ++ b).takeWhile p = a
  | [], [], _, _ => rfl
  | [], c :: b, _, h => by
    have := h c rfl
    simp [this]
  | d :: a, b, h, g => by
    have hd := h d List.mem_cons_self
    rw [List.cons_append, List.takeWhile_cons, if_pos hd, take_run (fun c hc => h c (List.mem_cons_of_mem _ hc)) g]
theorem run_at {p : Nat → Bool} {t a b : List Nat} {i : Nat} (h : t.drop i = a ++ b) (ha : ∀ c ∈ a, p c = true) (hb : ∀ c, b.head? = some c → p c = false) : runOf p t i = a := by
  unfold runOf
  rw [h, take_run ha hb]
/-! ### digits -/
theorem fig_iff (c : Nat) : isFig c = true ↔ 48 ≤ c ∧ c ≤ 57 := by
  have e : TL.tl ("0123456789" : Str) = [48, 49, 50, 51, 52, 53, 54, 55, 56, 57] := by decide +kernel
  unfold isFig
  rw [e, decide_eq_true_eq]
  simp only [List.mem_cons, List.not_mem_nil, or_false]
  omega
theorem low_iff (c : Nat) : isLow c = true ↔ 97 ≤ c ∧ c ≤ 122 := by
  have e : TL.tl alphaS = [97, 98, 99, 100, 101, 102, 103, 104, 105, 106, 107, 108, 109, 110, 111, 112, 113, 114, 115, 116, 117, 118, 119, 120, 121, 122] := by decide +kernel
  unfold isLow
  rw [e, decide_eq_true_eq]
  simp only [List.mem_cons, List.not_mem_nil, or_false]
  omega
theorem num_figs (n : Nat) : ∀ c ∈ TL.numL n, isFig c = true := fun c hc => (fig_iff c).mpr (TL.numL_digits n c hc)
theorem num_head (n : Nat) (h : 0 < n) : (TL.numL n).head? ≠ some 48 := by
  induction n using Nat.strongRecOn with
  | _ n ih =>
    by_cases c : n < 10
    · rw [TL.numL_lt c]
      intro z
      have : 48 + n = 48 := by injection z
      omega
    · rw [TL.numL_step (by omega)]
      have i := ih (n / 10) (by omega) (by omega)
      have ne := TL.numL_ne (n / 10)
      cases hl : TL.numL (n / 10) with
      | nil => exact absurd hl ne
      | cons d l =>
        rw [hl] at i
        exact i
theorem figs_at {t b : List Nat} {n i : Nat} (h : t.drop i = TL.numL n ++ b) (hb : ∀ c, b.head? = some c → isFig c = false) (hn : n ≤ 999999) : rdFigs t i = .ok (n, i + (TL.numL n).length) := by
  have r := run_at h (num_figs n) hb
  have l0 : (TL.numL n).length ≠ 0 := fun z => TL.numL_ne n (List.eq_nil_of_length_eq_zero z)
  have l6 := TL.numL_len (n := n) (k := 6) (by decide) (by omega)
  unfold rdFigs
  rw [r, if_neg l0, if_neg ?_, if_neg (by omega), TL.numL_val]
  rintro ⟨z1, z2⟩
  rw [at_head h] at z2
  have e : (TL.numL n ++ b).head? = (TL.numL n).head? := by
    cases hl : TL.numL n with
    | nil => exact absurd hl (TL.numL_ne n)
    | cons d l => rfl
  rw [e] at z2
  by_cases c : n < 10
  · rw [TL.numL_lt c] at z1
    exact absurd z1 (by simp)
  · exact num_head n (by omega) z2
theorem frac_at {t b : List Nat} {q : Rat} {i : Nat} (h : t.drop i = frL q ++ b) (hb : ∀ c, b.head? = some c → isFig c = false ∧ c ≠ 47) (h6 : SixFr q) : rdFrac t i = .ok (q, i + (frL q).length) := by
  obtain ⟨n1, n2, d1⟩ := h6
  -- the sign
  have key : ∀ {j : Nat} {c : List Nat}, t.drop j = TL.numL q.num.natAbs ++ ((if q.den = 1 then [] else 47 :: TL.numL q.den) ++ b) → (rdFigs t j).bind (fun ne =>
      if t[ne.2]? = some 47 then (rdFigs t (ne.2 + 1)).bind fun de =>
        if de.1 < 2 ∨ Nat.gcd ne.1 de.1 ≠ 1 then .error (ne.2 + 1)
        else .ok (Rat.divInt (if q.num < 0 then -(ne.1 : Int) else (ne.1 : Int)) de.1, de.2)
      else .ok (Rat.divInt (if q.num < 0 then -(ne.1 : Int) else (ne.1 : Int)) 1, ne.2)) = .ok (q, j + (TL.numL q.num.natAbs).length + (if q.den = 1 then [] else 47 :: TL.numL q.den).length) := fun {j c} hj => by
    have es : (if q.num < 0 then -((q.num.natAbs : Nat) : Int) else ((q.num.natAbs : Nat) : Int)) = q.num := by split <;> omega
    by_cases cd : q.den = 1
    · rw [if_pos cd, List.nil_append] at hj
      rw [figs_at hj (fun c hc => (hb c hc).1) (by omega)]
      show (if t[j + (TL.numL q.num.natAbs).length]? = some 47 then _ else _) = _
      have hn := at_head (at_next hj)
      rw [if_neg (by rw [hn]; exact fun z => (hb 47 z).2 rfl), es, if_pos cd]
      have e : Rat.divInt q.num 1 = q := by
        have := Rat.num_divInt_den q
        rw [cd] at this
        exact this
      rw [e]
      rfl
    · rw [if_neg cd] at hj
      have h47 : ∀ c, (47 :: TL.numL q.den ++ b).head? = some c → isFig c = false := fun c hc => by
        cases hc
        decide +kernel
      rw [figs_at hj h47 (by omega)]
      have hn := at_next hj
      show (if t[j + (TL.numL q.num.natAbs).length]? = some 47 then _ else _) = _
      have a47 : t[j + (TL.numL q.num.natAbs).length]? = some 47 := at_head hn
      rw [if_pos a47, figs_at (at_next1 hn) (fun c hc => (hb c hc).1) (by omega)]
      show (if q.den < 2 ∨ Nat.gcd q.num.natAbs q.den ≠ 1 then _ else _) = _
      have dp := q.den_pos
      have red : Nat.gcd q.num.natAbs q.den = 1 := q.reduced
      rw [if_neg (by rw [red]; omega), es, Rat.num_divInt_den, if_neg cd, List.length_cons]
      congr 2
      omega
  unfold rdFrac frL intL at *
  by_cases c : q.num < 0
  · rw [if_pos c] at h ⊢
    have h45 : t[i]? = some 45 := at_head h
    have h1 : t.drop (i + 1) = TL.numL q.num.natAbs ++ ((if q.den = 1 then [] else 47 :: TL.numL q.den) ++ b) := by
      have := at_next1 h
      exact this.trans (List.append_assoc (TL.numL q.num.natAbs) _ b)
    have no : ¬ (t[i]? = some 45 ∧ t[i + 1]? = some 48) := fun z => by
      have z2 := z.2
      rw [at_head h1] at z2
      have e : (TL.numL q.num.natAbs ++ ((if q.den = 1 then [] else 47 :: TL.numL q.den) ++ b)).head? = (TL.numL q.num.natAbs).head? := by
        cases hl : TL.numL q.num.natAbs with
        | nil => exact absurd hl (TL.numL_ne _)
        | cons d l => rfl
      rw [e] at z2
      exact num_head _ (by omega) z2
    rw [if_neg no]
    have k := key (c := []) h1
    simp only [if_pos h45]
    simp only [if_pos c] at k
    rw [k]
    congr 2
    simp only [List.length_append, List.length_cons]
    omega
  · rw [if_neg c] at h ⊢
    have hd : t[i]? ≠ some 45 := fun z => by
      rw [at_head h] at z
      have ne := TL.numL_ne q.num.natAbs
      have dg := TL.numL_digits q.num.natAbs
      cases hl : TL.numL q.num.natAbs with
      | nil => exact ne hl
      | cons d l =>
        rw [hl] at z dg
        have : d = 45 := by injection z
        have := dg d List.mem_cons_self
        omega
    rw [if_neg (fun z => hd z.1)]
    rw [List.append_assoc] at h
    have k := key (c := []) h
    simp only [if_neg hd]
    simp only [if_neg c] at k
    rw [k]
    congr 2
    simp only [List.length_append]
    omega
end Ew
namespace Ew
open PySem PySem.Spec PyProof.Rows L2
theorem part_head {t : List Nat} {r i c : Nat} (h : t[i]? = some c) : rdPart t (r + 1) i = if c = 40 then rdSum t (rdPart t r) i else if isLow c = true then rdWord t (rdPart t r) i else rdNum t (rdPart t r) i := by
  show (match t[i]? with | none => (Except.error i : Rx) | some c => if c = 40 then rdSum t (rdPart t r) i else if isLow c = true then rdWord t (rdPart t r) i else rdNum t (rdPart t r) i) = _
  rw [h]
theorem tl_mkT (n : Str) : (⟨(TL.tl n).toArray⟩ : Str) = n := TL.ext_tl rfl
theorem nm_notOp {n : Str} (h : NmOk n) : ¬ isOp (TL.tl n) := by
  have e1 : TL.tl ("abs" : Str) = absL := by decide +kernel
  have e2 : TL.tl ("max" : Str) = maxL := by decide +kernel
  have e3 : TL.tl ("min" : Str) = minL := by decide +kernel
  rintro (z | z | z)
  · exact h.abs (TL.ext_tl (z.trans e1.symm))
  · exact h.max (TL.ext_tl (z.trans e2.symm))
  · exact h.min (TL.ext_tl (z.trans e3.symm))
theorem low40 : ∀ {l : List Nat} (c : Nat), (40 :: l).head? = some c → isLow c = false := fun c hc => by
  cases hc
  decide +kernel
/-- what stands behind an expression's text is no part of it -/
theorem frl_head (q : Rat) (l : List Nat) : ∃ c, (frL q ++ l).head? = some c ∧ c ≠ 40 ∧ isLow c = false := by
  unfold frL intL
  have ne := TL.numL_ne q.num.natAbs
  have dg := TL.numL_digits q.num.natAbs
  by_cases c : q.num < 0
  · rw [if_pos c]
    exact ⟨45, rfl, by decide, by decide +kernel⟩
  · rw [if_neg c]
    cases hl : TL.numL q.num.natAbs with
    | nil => exact absurd hl ne
    | cons d r =>
      rw [hl] at dg
      have d1 := dg d List.mem_cons_self
      refine ⟨d, rfl, by omega, ?_⟩
      rw [Bool.eq_false_iff]
      intro z
      have := (low_iff d).mp z
      omega
section
variable {t : List Nat}
/-- what holds of an expression that stands at i -/
def RdAt (t : List Nat) (e : Ex) : Prop := ∀ {b : List Nat} {r i : Nat}, t.drop i = e.txt ++ b → Fol b → (e.dep ≤ r → rdPart t r i = .ok (e, i + e.txt.length)) ∧ (r < e.dep → rdPart t r i = .error (i + e.off r))
theorem off0 (e : Ex) : e.off 0 = 0 := by cases e <;> rfl
/-- a word, a bracket, a part -/
theorem word_at {w : List Nat} {e : Ex} {b : List Nat} {r i : Nat} (hw : ∀ c ∈ w, isLow c = true) (w1 : w ≠ [120]) (w2 : isOp w ∨ 2 ≤ w.length ∧ w.length ≤ 8) (h : t.drop i = w ++ 40 :: (e.txt ++ b)) (hf : Fol b) (ih : RdAt t e) :
    runOf isLow t i = w ∧ t.drop (i + w.length + 1 + e.txt.length) = b ∧ rdWord t (rdPart t r) i = (rdPart t r (i + w.length + 1)).bind (fun p =>
      if w = absL then (beh t p.2 [41]).bind fun e3 => .ok (.abs p.1, e3)
      else if ¬ isOp w then (beh t p.2 [41]).bind fun e3 => .ok (.call ⟨w.toArray⟩ p.1, e3)
      else (beh t p.2 [44, 32]).bind fun e3 => (rdPart t r e3).bind fun q => (beh t q.2 [41]).bind fun e5 => .ok (.bin (if w = maxL then .max else .min) p.1 q.1, e5)) ∧
    (e.dep ≤ r → rdPart t r (i + w.length + 1) = .ok (e, i + w.length + 1 + e.txt.length)) ∧ (r < e.dep → rdPart t r (i + w.length + 1) = .error (i + w.length + 1 + e.off r)) := by
  have rn := run_at h hw low40
  have h1 := at_next h
  have h2 := at_next1 h1
  have b1 : beh t (i + w.length) [40] = .ok (i + w.length + 1) := beh_at (b := e.txt ++ b) h1
  refine ⟨rn, at_next h2, ?_, (ih h2 hf).1, (ih h2 hf).2⟩
  unfold rdWord
  rw [rn, if_neg w1, if_neg (fun z => w2.elim z.1 z.2), b1]
  rfl
theorem head_low {w l : List Nat} {i : Nat} (h : t.drop i = w ++ l) (hw : ∀ c ∈ w, isLow c = true) (ne : w ≠ []) {r : Nat} : rdPart t (r + 1) i = rdWord t (rdPart t r) i := by
  cases w with
  | nil => exact absurd rfl ne
  | cons c w =>
    have hc : t[i]? = some c := at_head h
    have lc := hw c List.mem_cons_self
    have l2 := (low_iff c).mp lc
    rw [part_head hc, if_neg (by omega), if_pos lc]
theorem absL_low : ∀ c ∈ absL, isLow c = true := by decide +kernel
theorem maxL_low : ∀ c ∈ maxL, isLow c = true := by decide +kernel
theorem minL_low : ∀ c ∈ minL, isLow c = true := by decide +kernel
/-- two parts behind an open bracket -/
theorem pair_at {l p : Ex} {s : Nat} {bw : Bw} {b : List Nat} {r i : Nat} (hs : s = 43 ∧ bw = .add ∨ s = 45 ∧ bw = .sub) (ihl : RdAt t l) (ihp : RdAt t p) (h : t.drop i = 40 :: (l.txt ++ ([32, s, 32] ++ (p.txt ++ [41]))) ++ b) :
    (Nat.max l.dep p.dep ≤ r → rdSum t (rdPart t r) i = .ok (.bin bw l p, i + (40 :: (l.txt ++ ([32, s, 32] ++ (p.txt ++ [41])))).length)) ∧
    (r < Nat.max l.dep p.dep → rdSum t (rdPart t r) i = .error (i + if r < l.dep then 1 + l.off r else 1 + l.txt.length + 3 + p.off r)) := by
  have h1 : t.drop (i + 1) = l.txt ++ ([32, s, 32] ++ (p.txt ++ (41 :: b))) := by
    have := at_next1 h
    rw [this]
    simp
  have h2 : t.drop (i + 1 + l.txt.length) = [32] ++ ([s, 32] ++ (p.txt ++ (41 :: b))) := at_next h1
  have h3 : t.drop (i + 1 + l.txt.length + 1) = [s, 32] ++ (p.txt ++ (41 :: b)) := at_next h2
  have h4 : t.drop (i + 1 + l.txt.length + 1 + 2) = p.txt ++ (41 :: b) := at_next h3
  have h5 : t.drop (i + 1 + l.txt.length + 1 + 2 + p.txt.length) = [41] ++ b := at_next h4
  have f1 := ihl (r := r) h1 (fol32 _)
  have f2 := ihp (r := r) h4 (fol41 _)
  have b1 : beh t (i + 1 + l.txt.length) [32] = .ok (i + 1 + l.txt.length + 1) := beh_at h2
  have b3 : beh t (i + 1 + l.txt.length + 1 + 2 + p.txt.length) [41] = .ok (i + 1 + l.txt.length + 1 + 2 + p.txt.length + 1) := beh_at h5
  have sg : t[i + 1 + l.txt.length + 1]? = some s := at_head h3
  have b2 : beh t (i + 1 + l.txt.length + 1) (if t[i + 1 + l.txt.length + 1]? = some 45 then [45, 32] else [43, 32]) = .ok (i + 1 + l.txt.length + 1 + 2) := by
    rw [sg]
    rcases hs with ⟨rfl, rfl⟩ | ⟨rfl, rfl⟩
    · exact beh_at h3
    · exact beh_at h3
  have b4 : (if t[i + 1 + l.txt.length + 1]? = some 45 then Bw.sub else Bw.add) = bw := by
    rw [sg]
    rcases hs with ⟨rfl, rfl⟩ | ⟨rfl, rfl⟩ <;> rfl
  have mx : Nat.max l.dep p.dep = max l.dep p.dep := rfl
  by_cases c1 : r < l.dep
  · refine ⟨fun z => absurd z (by omega), fun _ => ?_⟩
    have e1 := f1.2 c1
    simp only [rdSum, e1, Except.bind, if_pos c1]
    congr 1
    omega
  · have e1 := f1.1 (by omega)
    by_cases c2 : r < p.dep
    · refine ⟨fun z => absurd z (by omega), fun _ => ?_⟩
      have e2 := f2.2 c2
      simp only [rdSum, e1, Except.bind, b1, b2, e2, if_neg c1]
      congr 1
      omega
    · refine ⟨fun _ => ?_, fun z => absurd z (by omega)⟩
      have e2 := f2.1 (by omega)
      simp only [rdSum, e1, Except.bind, b1, b2, e2, b3, b4]
      congr 2
      simp only [List.length_cons, List.length_append, List.length_nil]
      omega
/-- two parts behind a word -/
theorem two_at {l p : Ex} {w : List Nat} {bw : Bw} {b : List Nat} {r i : Nat} (hw : w = maxL ∧ bw = .max ∨ w = minL ∧ bw = .min) (ihl : RdAt t l) (ihp : RdAt t p) (h : t.drop i = w ++ 40 :: (l.txt ++ ([44, 32] ++ (p.txt ++ [41]))) ++ b) :
    (Nat.max l.dep p.dep ≤ r → rdWord t (rdPart t r) i = .ok (.bin bw l p, i + (w ++ 40 :: (l.txt ++ ([44, 32] ++ (p.txt ++ [41])))).length)) ∧
    (r < Nat.max l.dep p.dep → rdWord t (rdPart t r) i = .error (i + if r < l.dep then 4 + l.off r else 4 + l.txt.length + 2 + p.off r)) := by
  have wl : ∀ c ∈ w, isLow c = true := by
    rcases hw with ⟨rfl, _⟩ | ⟨rfl, _⟩
    · exact maxL_low
    · exact minL_low
  have wn : w.length = 3 := by rcases hw with ⟨rfl, _⟩ | ⟨rfl, _⟩ <;> rfl
  have wo : isOp w := by rcases hw with ⟨rfl, _⟩ | ⟨rfl, _⟩ <;> decide
  have wa : w ≠ absL := by rcases hw with ⟨rfl, _⟩ | ⟨rfl, _⟩ <;> decide
  have wx : w ≠ [120] := by rcases hw with ⟨rfl, _⟩ | ⟨rfl, _⟩ <;> decide
  have h0 : t.drop i = w ++ 40 :: (l.txt ++ ([44, 32] ++ (p.txt ++ (41 :: b)))) := by rw [h]; simp
  obtain ⟨rn, h2, rw_, g1, g2⟩ := word_at (r := r) wl wx (.inl wo) h0 (fol44 _) ihl
  have h4 : t.drop (i + w.length + 1 + l.txt.length + 2) = p.txt ++ (41 :: b) := at_next h2
  have h5 : t.drop (i + w.length + 1 + l.txt.length + 2 + p.txt.length) = [41] ++ b := at_next h4
  have f2 := ihp (r := r) h4 (fol41 _)
  have b1 : beh t (i + w.length + 1 + l.txt.length) [44, 32] = .ok (i + w.length + 1 + l.txt.length + 2) := beh_at h2
  have b3 : beh t (i + w.length + 1 + l.txt.length + 2 + p.txt.length) [41] = .ok (i + w.length + 1 + l.txt.length + 2 + p.txt.length + 1) := beh_at h5
  have b4 : (if w = maxL then Bw.max else Bw.min) = bw := by rcases hw with ⟨rfl, rfl⟩ | ⟨rfl, rfl⟩ <;> rfl
  have mx : Nat.max l.dep p.dep = max l.dep p.dep := rfl
  have no : ¬ ¬ isOp w := fun z => z wo
  rw [rw_]
  by_cases c1 : r < l.dep
  · refine ⟨fun z => absurd z (by omega), fun _ => ?_⟩
    have e1 := g2 c1
    simp only [e1, Except.bind, if_pos c1]
    congr 1
    omega
  · have e1 := g1 (by omega)
    by_cases c2 : r < p.dep
    · refine ⟨fun z => absurd z (by omega), fun _ => ?_⟩
      have e2 := f2.2 c2
      simp only [e1, Except.bind, if_neg wa, if_neg no, b1, e2, if_neg c1]
      congr 1
      omega
    · refine ⟨fun _ => ?_, fun z => absurd z (by omega)⟩
      have e2 := f2.1 (by omega)
      simp only [e1, Except.bind, if_neg wa, if_neg no, b1, e2, b3, b4]
      congr 2
      simp only [List.length_cons, List.length_append, List.length_nil]
      omega
theorem rd_at : ∀ {e : Ex}, Good e → RdAt t e := by
  intro e
  induction e with
  | x =>
    intro _ b r i h hf
    cases r with
    | zero => exact ⟨fun z => absurd z (by decide), fun _ => rfl⟩
    | succ r =>
      refine ⟨fun _ => ?_, fun z => absurd z (by have : Ex.dep .x = 1 := rfl; omega)⟩
      have lw : ∀ c ∈ ([120] : List Nat), isLow c = true := by decide +kernel
      rw [head_low (w := [120]) h lw (by simp)]
      have rn := run_at h lw (fun c hc => (hf c hc).1)
      unfold rdWord
      have rn : runOf isLow t i = [120] := rn
      rw [rn, if_pos rfl]
      rfl
  | num q =>
    intro g b r i h hf
    cases r with
    | zero => exact ⟨fun z => absurd z (by simp [Ex.dep]), fun _ => rfl⟩
    | succ r =>
      refine ⟨fun _ => ?_, fun z => absurd z (by have : Ex.dep (.num q) = 1 := rfl; omega)⟩
      have h : t.drop i = frL q ++ b := h
      obtain ⟨c, hc, c40, cl⟩ := frl_head q b
      have hc' : t[i]? = some c := (at_head h).trans hc
      rw [part_head hc', if_neg c40, if_neg (by rw [cl]; simp)]
      have fa := frac_at h (fun c hc => ⟨(hf c hc).2.1, (hf c hc).2.2.1⟩) g
      have no : t[i + (frL q).length]? ≠ some 42 := by
        rw [at_head (at_next h)]
        exact fun z => (hf 42 z).2.2.2 rfl
      simp only [rdNum, fa, Except.bind, if_neg no]
      rfl
  | abs e ih =>
    intro g b r i h hf
    cases r with
    | zero => exact ⟨fun z => absurd z (by simp [Ex.dep]), fun _ => rfl⟩
    | succ r =>
      have h0 : t.drop i = absL ++ 40 :: (e.txt ++ (41 :: b)) := by rw [h]; simp [Ex.txt]
      obtain ⟨rn, h2, rw_, g1, g2⟩ := word_at (r := r) absL_low (by decide) (.inl (.inl rfl)) h0 (fol41 _) (ih g)
      have b3 : beh t (i + absL.length + 1 + e.txt.length) [41] = .ok (i + absL.length + 1 + e.txt.length + 1) := beh_at (b := b) h2
      rw [head_low h0 absL_low (by decide), rw_]
      have dd : Ex.dep (.abs e) = e.dep + 1 := rfl
      refine ⟨fun z => ?_, fun z => ?_⟩
      · have e1 := g1 (by omega)
        simp only [e1, Except.bind, if_true, b3]
        congr 2
        simp only [Ex.txt, List.length_cons, List.length_append, List.length_nil]
        omega
      · have e1 := g2 (by omega)
        simp only [e1, Except.bind]
        congr 1
        show i + absL.length + 1 + e.off r = i + (4 + e.off r)
        have : absL.length = 3 := rfl
        omega
  | mul q e ih =>
    intro g b r i h hf
    cases r with
    | zero => exact ⟨fun z => absurd z (by simp [Ex.dep]), fun _ => rfl⟩
    | succ r =>
      have h0 : t.drop i = frL q ++ 42 :: (e.txt ++ b) := by rw [h]; simp [Ex.txt]
      obtain ⟨c, hc, c40, cl⟩ := frl_head q (42 :: (e.txt ++ b))
      have hc' : t[i]? = some c := (at_head h0).trans hc
      rw [part_head hc', if_neg c40, if_neg (by rw [cl]; simp)]
      have fa := frac_at h0 (fun c hc => by cases hc; exact ⟨by decide +kernel, by decide⟩) g.1
      have h1 := at_next h0
      have yes : t[i + (frL q).length]? = some 42 := at_head h1
      have f2 := ih g.2 (r := r) (at_next1 h1) hf
      have dd : Ex.dep (.mul q e) = e.dep + 1 := rfl
      refine ⟨fun z => ?_, fun z => ?_⟩
      · have e1 := f2.1 (by omega)
        simp only [rdNum, fa, Except.bind, if_pos yes, e1]
        congr 2
        simp only [Ex.txt, List.length_cons, List.length_append]
        omega
      · have e1 := f2.2 (by omega)
        simp only [rdNum, fa, Except.bind, if_pos yes, e1]
        congr 1
        show i + (frL q).length + 1 + e.off r = i + ((frL q).length + 1 + e.off r)
        omega
  | call n e ih =>
    intro g b r i h hf
    cases r with
    | zero => exact ⟨fun z => absurd z (by simp [Ex.dep]), fun _ => rfl⟩
    | succ r =>
      have nm := g.1
      have ln : (TL.tl n).length = n.length := (slenT n).symm
      have n2 := nm.l2
      have n8 := nm.l8
      have lw : ∀ c ∈ TL.tl n, isLow c = true := fun c hc => decide_eq_true (nm.low c hc)
      have nx : TL.tl n ≠ [120] := fun z => by rw [z] at ln; have : ([120] : List Nat).length = 1 := rfl; omega
      have no := nm_notOp nm
      have na : TL.tl n ≠ absL := fun z => no (.inl z)
      have h0 : t.drop i = TL.tl n ++ 40 :: (e.txt ++ (41 :: b)) := by rw [h]; simp [Ex.txt]
      obtain ⟨rn, h2, rw_, g1, g2⟩ := word_at (r := r) lw nx (.inr ⟨by omega, by omega⟩) h0 (fol41 _) (ih g.2)
      have b3 : beh t (i + (TL.tl n).length + 1 + e.txt.length) [41] = .ok (i + (TL.tl n).length + 1 + e.txt.length + 1) := beh_at (b := b) h2
      rw [head_low h0 lw (fun z => by rw [z] at ln; simp at ln; omega), rw_]
      have dd : Ex.dep (.call n e) = e.dep + 1 := rfl
      refine ⟨fun z => ?_, fun z => ?_⟩
      · have e1 := g1 (by omega)
        simp only [e1, Except.bind, if_neg na, if_pos no, b3, tl_mkT]
        congr 2
        simp only [Ex.txt, List.length_cons, List.length_append, List.length_nil]
        omega
      · have e1 := g2 (by omega)
        simp only [e1, Except.bind]
        congr 1
        show i + (TL.tl n).length + 1 + e.off r = i + ((TL.tl n).length + 1 + e.off r)
        omega
  | bin bw l p ihl ihp =>
    intro g b r i h hf
    have dd : Ex.dep (.bin bw l p) = Nat.max l.dep p.dep + 1 := rfl
    cases r with
    | zero => exact ⟨fun z => absurd z (by omega), fun _ => by rw [off0]; rfl⟩
    | succ r =>
      have hl : RdAt t l := ihl g.1
      have hp : RdAt t p := ihp g.2
      cases bw with
      | add =>
        have k := pair_at (r := r) (.inl ⟨rfl, rfl⟩) hl hp h
        have hc : t[i]? = some 40 := at_head h
        rw [part_head hc, if_pos rfl]
        exact ⟨fun z => k.1 (by omega), fun z => k.2 (by omega)⟩
      | sub =>
        have k := pair_at (r := r) (.inr ⟨rfl, rfl⟩) hl hp h
        have hc : t[i]? = some 40 := at_head h
        rw [part_head hc, if_pos rfl]
        exact ⟨fun z => k.1 (by omega), fun z => k.2 (by omega)⟩
      | max =>
        have k := two_at (r := r) (.inl ⟨rfl, rfl⟩) hl hp h
        have h' : t.drop i = maxL ++ (40 :: (l.txt ++ ([44, 32] ++ (p.txt ++ [41]))) ++ b) := by rw [h]; simp [Ex.txt]
        rw [head_low h' maxL_low (by decide)]
        exact ⟨fun z => k.1 (by omega), fun z => k.2 (by omega)⟩
      | min =>
        have k := two_at (r := r) (.inr ⟨rfl, rfl⟩) hl hp h
        have h' : t.drop i = minL ++ (40 :: (l.txt ++ ([44, 32] ++ (p.txt ++ [41]))) ++ b) := by rw [h]; simp [Ex.txt]
        rw [head_low h' minL_low (by decide)]
        exact ⟨fun z => k.1 (by omega), fun z => k.2 (by omega)⟩
end
/-- reading a whole text -/
theorem rd_text {e : Ex} (g : Good e) (r : Nat) : (e.dep ≤ r → rdPart e.txt r 0 = .ok (e, e.txt.length)) ∧ (r < e.dep → rdPart e.txt r 0 = .error (e.off r)) := by
  have k := rd_at (t := e.txt) g (b := []) (r := r) (i := 0) (by simp) fol_nil
  simpa using k
end Ew
namespace Ew
open PySem PySem.Spec PyProof.Rows L2
/-! ## one sign of a text -/
theorem tl_cut1 (z : Str) (i : Nat) : TL.tl (cutS z (some (i : Int)) (some ((i : Int) + 1))) = (TL.tl z)[i]?.toList := by
  rw [tl_cut, show (i : Int) + 1 = ((i + 1 : Nat) : Int) from rfl, HT.sIx_nat, HT.sIx_nat, slenT]
  by_cases h : i < (TL.tl z).length
  · rw [Nat.min_eq_left (by omega), Nat.min_eq_left (by omega), List.getElem?_eq_getElem h, List.drop_eq_getElem_cons h]
    simp [show i + 1 - i = 1 by omega]
  · have e : (TL.tl z).drop (min i (TL.tl z).length) = [] := List.drop_of_length_le (by omega)
    rw [e, List.getElem?_eq_none (by omega)]
    simp
theorem cut1_iff {z s : Str} {i c : Nat} (hs : TL.tl s = [c]) : V.str (cutS z (some (i : Int)) (some ((i : Int) + 1))) = V.str s ↔ (TL.tl z)[i]? = some c := by
  constructor
  · intro h
    have h : cutS z (some (i : Int)) (some ((i : Int) + 1)) = s := by injection h
    have e := tl_cut1 z i
    rw [h, hs] at e
    cases hc : (TL.tl z)[i]? with
    | none => rw [hc] at e; cases e
    | some d => rw [hc] at e; cases e; rfl
  · intro h
    congr 1
    refine TL.ext_tl ?_
    rw [tl_cut1, h, hs]
    rfl
theorem cut1_t {z s : Str} {i c : Nat} (hs : TL.tl s = [c]) (h : (TL.tl z)[i]? = some c) : decide (V.str (cutS z (some (i : Int)) (some ((i : Int) + 1))) = V.str s) = true := decide_eq_true ((cut1_iff hs).mpr h)
theorem cut1_f {z s : Str} {i c : Nat} (hs : TL.tl s = [c]) (h : (TL.tl z)[i]? ≠ some c) : decide (V.str (cutS z (some (i : Int)) (some ((i : Int) + 1))) = V.str s) = false := decide_eq_false fun e => h ((cut1_iff hs).mp e)
theorem one_eq {c d : Nat} {s : Str} (hs : TL.tl s = [d]) : V.str ⟨#[c]⟩ = V.str s ↔ c = d := by
  constructor
  · intro h
    have h : (⟨#[c]⟩ : Str) = s := by injection h
    rw [← h] at hs
    have : [c] = [d] := hs
    injection this
  · rintro rfl
    congr 1
    exact TL.ext_tl hs.symm
theorem tl_get {z : Str} {i c : Nat} (h : (TL.tl z)[i]? = some c) : atI z.cps.toList (i : Int) = some c := atI_nat h
theorem tl_run {p : Nat → Bool} {z : Str} {i : Nat} (h : i ≤ z.length) : cutS z (some (i : Int)) (some ((i : Int) + ((runOf p (TL.tl z) i).length : Int))) = ⟨(runOf p (TL.tl z) i).toArray⟩ := by
  refine TL.ext_tl ?_
  have hl := run_le (p := p) (t := TL.tl z) (i := i) (by rw [← slenT]; exact h)
  rw [tl_cut, show (i : Int) + ((runOf p (TL.tl z) i).length : Int) = ((i + (runOf p (TL.tl z) i).length : Nat) : Int) by omega, HT.sIx_nat, HT.sIx_nat, Nat.min_eq_left h, Nat.min_eq_left (by rw [slenT]; exact hl)]
  show _ = runOf p (TL.tl z) i
  have e : i + (runOf p (TL.tl z) i).length - i = (runOf p (TL.tl z) i).length := by omega
  rw [e]
  unfold runOf
  exact (List.prefix_iff_eq_take.mp (List.takeWhile_prefix p)).symm
/-- how far a run goes -/
theorem run_get {p : Nat → Bool} {t : List Nat} {i k : Nat} : k < (runOf p t i).length ↔ (∀ j, j ≤ k → ∃ c, t[i + j]? = some c ∧ p c = true) := by
  unfold runOf
  generalize hl : t.drop i = l
  have hg : ∀ j, t[i + j]? = l[j]? := fun j => by rw [← hl, List.getElem?_drop]
  simp only [hg]
  clear hg hl
  induction l generalizing k with
  | nil =>
    constructor
    · intro h; simp at h
    · intro h
      obtain ⟨c, hc, _⟩ := h 0 (Nat.zero_le _)
      simp at hc
  | cons c l ih =>
    by_cases hc : p c = true
    · rw [List.takeWhile_cons, if_pos hc, List.length_cons]
      cases k with
      | zero =>
        constructor
        · intro _ j hj
          have : j = 0 := by omega
          subst this
          exact ⟨c, rfl, hc⟩
        · intro _; omega
      | succ k =>
        refine Nat.succ_lt_succ_iff.trans (ih.trans ⟨?_, ?_⟩)
        · intro h j hj
          cases j with
          | zero => exact ⟨c, rfl, hc⟩
          | succ j => exact h j (by omega)
        · intro h j hj
          exact h (j + 1) (by omega)
    · rw [List.takeWhile_cons, if_neg hc]
      constructor
      · intro h; simp at h
      · intro h
        obtain ⟨d, hd, hp⟩ := h 0 (Nat.zero_le _)
        have : c = d := by simpa using hd
        rw [← this] at hp
        exact absurd hp hc
theorem run_stop {p : Nat → Bool} {t : List Nat} {i c : Nat} (h : t[i + (runOf p t i).length]? = some c) : p c = false := by
  cases hp : p c with
  | false => rfl
  | true =>
    exfalso
    have : (runOf p t i).length < (runOf p t i).length := run_get.mpr fun j hj => by
      rcases Nat.lt_or_ge j (runOf p t i).length with hlt | hge
      · exact run_get.mp hlt j (Nat.le_refl _)
      · have : j = (runOf p t i).length := by omega
        rw [this]
        exact ⟨c, h, hp⟩
    omega
theorem run_all {p : Nat → Bool} {t : List Nat} {i c : Nat} (h : c ∈ runOf p t i) : p c = true := by
  unfold runOf at h
  generalize t.drop i = l at h
  induction l with
  | nil => simp at h
  | cons d l ih =>
    by_cases hd : p d = true
    · rw [List.takeWhile_cons, if_pos hd] at h
      rcases List.mem_cons.mp h with rfl | h
      · exact hd
      · exact ih h
    · rw [List.takeWhile_cons, if_neg hd] at h
      simp at h
end Ew
namespace Ew
open PySem PySem.Spec PyProof.Rows L2
/-! ## an expression's text as a text -/
def strL (l : List Nat) : Str := ⟨l.toArray⟩
theorem tl_strL (l : List Nat) : TL.tl (strL l) = l := rfl
theorem strL_len (l : List Nat) : (strL l).length = l.length := rfl
theorem str_of {s : Str} {l : List Nat} (h : TL.tl s = l) : s = strL l := TL.ext_tl h
theorem tl_int (i : Int) : TL.tl (Str.ofString (toString i)) = intL i := by
  unfold intL
  cases i with
  | ofNat n =>
    rw [if_neg (by simp)]
    exact TL.tl_num n
  | negSucc n =>
    rw [if_pos (by omega)]
    have e : toString (Int.negSucc n) = "-" ++ toString ((n + 1 : Nat) : Int) := rfl
    rw [e, TL.tl_ofString, String.toList_append, List.map_append]
    have e2 := TL.tl_num (n + 1)
    rw [TL.tl_ofString] at e2
    rw [e2]
    rfl
theorem tl_frText (q : Rat) : TL.tl (frText q.num (q.den : Int)) = frL q := by
  unfold frText frL
  by_cases c : q.den = 1
  · rw [if_pos (by omega), if_pos c, List.append_nil, tl_int]
  · rw [if_neg (by omega), if_neg c, TL.tl_append, TL.tl_append, tl_int, tl_int]
    have e : intL (q.den : Int) = TL.numL q.den := by
      unfold intL
      rw [if_neg (by omega), Int.natAbs_natCast]
    have e2 : TL.tl ("/" : Str) = [47] := by decide +kernel
    rw [e, e2]
    simp
theorem six_log {q : Rat} (h : SixFr q) : q.num.natAbs.log2 < 1920 ∧ (q.den : Int).natAbs.log2 < 1920 := by
  obtain ⟨h1, h2, h3⟩ := h
  have p : (999999 : Nat) < 2 ^ 20 := by decide
  refine ⟨Nat.lt_of_lt_of_le (PySem.Flt.log2_lt_of (k := 20) (by decide) (by omega)) (by decide), Nat.lt_of_lt_of_le (PySem.Flt.log2_lt_of (k := 20) (by decide) (by rw [Int.natAbs_natCast]; omega)) (by decide)⟩
theorem frL_len {q : Rat} (h : SixFr q) : (frL q).length ≤ 14 := by
  obtain ⟨h1, h2, h3⟩ := h
  have l1 := TL.numL_len (n := q.num.natAbs) (k := 6) (by decide) (by omega)
  have l2 := TL.numL_len (n := q.den) (k := 6) (by decide) (by omega)
  unfold frL intL
  split <;> split <;> simp <;> omega
theorem txt_len : ∀ {e : Ex}, Good e → e.txt.length + 20 ≤ 40 * 2 ^ e.dep := by
  intro e
  induction e with
  | x => intro _; show 1 + 20 ≤ 40 * 2 ^ 1; decide
  | num q =>
    intro g
    have := frL_len g
    show (frL q).length + 20 ≤ 40 * 2 ^ 1
    have : (40 : Nat) * 2 ^ 1 = 80 := by decide
    omega
  | abs e ih =>
    intro g
    have := ih g
    have p : 1 ≤ 2 ^ e.dep := Nat.one_le_two_pow
    simp only [Ex.txt, Ex.dep, Nat.pow_succ, List.length_append, List.length_cons, List.length_nil, absL]
    omega
  | mul q e ih =>
    intro g
    have := ih g.2
    have := frL_len g.1
    have p : 1 ≤ 2 ^ e.dep := Nat.one_le_two_pow
    simp only [Ex.txt, Ex.dep, Nat.pow_succ, List.length_append, List.length_cons, List.length_nil]
    omega
  | call n e ih =>
    intro g
    have := ih g.2
    have := g.1.l8
    have := slenT n
    have p : 1 ≤ 2 ^ e.dep := Nat.one_le_two_pow
    simp only [Ex.txt, Ex.dep, Nat.pow_succ, List.length_append, List.length_cons, List.length_nil]
    omega
  | bin b l r ihl ihr =>
    intro g
    have h1 := ihl g.1
    have h2 := ihr g.2
    have p1 : 2 ^ l.dep ≤ 2 ^ Nat.max l.dep r.dep := Nat.pow_le_pow_right (by decide) (Nat.le_max_left _ _)
    have p2 : 2 ^ r.dep ≤ 2 ^ Nat.max l.dep r.dep := Nat.pow_le_pow_right (by decide) (Nat.le_max_right _ _)
    cases b <;> simp only [Ex.txt, Ex.dep, Nat.pow_succ, List.length_append, List.length_cons, List.length_nil, maxL, minL] <;> omega
theorem txt_fit {e : Ex} {n : Nat} (g : Good e) (h : e.dep ≤ n) (hn : n ≤ 13) : e.txt.length ≤ 400000 := by
  have h1 := txt_len g
  have h2 : 2 ^ e.dep ≤ 2 ^ 13 := Nat.pow_le_pow_right (by decide) (by omega)
  have h3 : (2 : Nat) ^ 13 = 8192 := by decide
  omega
/-- reading a whole text -/
def rdAll (t : List Nat) : Except Nat Ex := (rdPart t 12 0).bind fun v => if v.2 < t.length then .error v.2 else .ok v.1
theorem rdAll_ok {e : Ex} (g : Good e) (h : e.dep ≤ 12) : rdAll e.txt = .ok e := by
  unfold rdAll
  rw [(rd_text g 12).1 h]
  show (if e.txt.length < e.txt.length then _ else _) = _
  rw [if_neg (Nat.lt_irrefl _)]
theorem rdAll_err {e : Ex} (g : Good e) (h : 12 < e.dep) : rdAll e.txt = .error (e.off 12) := by
  unfold rdAll
  rw [(rd_text g 12).2 h]
  rfl
end Ew
namespace Ew
open PySem PySem.Spec PyProof.Rows L2
/-! ## one expression, laid twice -/
theorem same_qe {K : PySem.W.Frag} {G : Hp} {u v : V} {q : Rat} (k : Nat) (h : QAt G u q) (g : QAt G v q) : SameN K G (k + 2) u v := by
  obtain ⟨a, rfl, ha⟩ := h
  obtain ⟨b, rfl, hb⟩ := g
  refine .inr ⟨a, b, _, _, rfl, rfl, .inr ⟨SqT.of ha, SqT.of hb⟩, rfl, by show 2 ≤ 1000; decide, fun i x y hx hy => ?_⟩
  rw [hx] at hy
  cases hy
  unfold qV at hx
  match i, hx with
  | 0, hx => cases hx; exact .inl ⟨rfl, rfl⟩
  | 1, hx => cases hx; exact .inl ⟨rfl, rfl⟩
  | i + 2, hx => cases hx
theorem same_tup2 {K : PySem.W.Frag} {G : Hp} {n : Nat} {a b : Addr} {x0 x1 y0 y1 : V} (ha : G a = some (.tup [x0, x1])) (hb : G b = some (.tup [y0, y1])) (h0 : SameN K G n x0 y0) (h1 : SameN K G n x1 y1) : SameN K G (n + 1) (.ref a) (.ref b) := by
  refine .inr ⟨a, b, _, _, rfl, rfl, .inr ⟨SqT.of ha, SqT.of hb⟩, rfl, by show 2 ≤ 1000; decide, fun i x y hx hy => ?_⟩
  match i, hx, hy with
  | 0, hx, hy => cases hx; cases hy; exact h0
  | 1, hx, hy => cases hx; cases hy; exact h1
  | i + 2, hx, hy => cases hx
theorem same_tup3 {K : PySem.W.Frag} {G : Hp} {n : Nat} {a b : Addr} {x0 x1 x2 y0 y1 y2 : V} (ha : G a = some (.tup [x0, x1, x2])) (hb : G b = some (.tup [y0, y1, y2])) (h0 : SameN K G n x0 y0) (h1 : SameN K G n x1 y1) (h2 : SameN K G n x2 y2) : SameN K G (n + 1) (.ref a) (.ref b) := by
  refine .inr ⟨a, b, _, _, rfl, rfl, .inr ⟨SqT.of ha, SqT.of hb⟩, rfl, by show 3 ≤ 1000; decide, fun i x y hx hy => ?_⟩
  match i, hx, hy with
  | 0, hx, hy => cases hx; cases hy; exact h0
  | 1, hx, hy => cases hx; cases hy; exact h1
  | 2, hx, hy => cases hx; cases hy; exact h2
  | i + 3, hx, hy => cases hx
theorem same_str {K : PySem.W.Frag} {G : Hp} (n : Nat) (s : Str) : SameN K G (n + 1) (.str s) (.str s) := .inl ⟨rfl, rfl⟩
theorem same_ex {K : PySem.W.Frag} {G : Hp} : ∀ {e : Ex} (m : Nat) {u v : V}, ExAt G e u → ExAt G e v → SameN K G (e.dep + 2 + m) u v := by
  intro e
  induction e with
  | x =>
    rintro m u v ⟨a, rfl, ha⟩ ⟨b, rfl, hb⟩
    have e1 : Ex.dep .x + 2 + m = (m + 2) + 1 := by show 1 + 2 + m = _; omega
    rw [e1]
    refine .inr ⟨a, b, _, _, rfl, rfl, .inr ⟨SqT.of ha, SqT.of hb⟩, rfl, by show 1 ≤ 1000; decide, fun i x y hx hy => ?_⟩
    match i, hx, hy with
    | 0, hx, hy => cases hx; cases hy; exact same_str _ _
    | i + 1, hx, hy => cases hx
  | num q =>
    rintro m u v ⟨a, t, rfl, ha, hq⟩ ⟨b, t', rfl, hb, hq'⟩
    have e1 : Ex.dep (.num q) + 2 + m = (m + 2) + 1 := by show 1 + 2 + m = _; omega
    rw [e1]
    exact same_tup2 ha hb (same_str _ _) (same_qe m hq hq')
  | abs e ih =>
    rintro m u v ⟨a, t, rfl, ha, hu⟩ ⟨b, t', rfl, hb, hv⟩
    have e1 : Ex.dep (.abs e) + 2 + m = (e.dep + 2 + m) + 1 := by show e.dep + 1 + 2 + m = _; omega
    rw [e1]
    refine same_tup2 ha hb ?_ (ih m hu hv)
    rw [show e.dep + 2 + m = (e.dep + 1 + m) + 1 by omega]
    exact same_str _ _
  | mul q e ih =>
    rintro m u v ⟨a, t, x, rfl, ha, hq, hu⟩ ⟨b, t', y, rfl, hb, hq', hv⟩
    have e1 : Ex.dep (.mul q e) + 2 + m = (e.dep + 2 + m) + 1 := by show e.dep + 1 + 2 + m = _; omega
    rw [e1]
    refine same_tup3 ha hb ?_ ?_ (ih m hu hv)
    · rw [show e.dep + 2 + m = (e.dep + 1 + m) + 1 by omega]
      exact same_str _ _
    · rw [show e.dep + 2 + m = (e.dep + m) + 2 by omega]
      exact same_qe _ hq hq'
  | call n e ih =>
    rintro m u v ⟨a, x, rfl, ha, hu⟩ ⟨b, y, rfl, hb, hv⟩
    have e1 : Ex.dep (.call n e) + 2 + m = (e.dep + 2 + m) + 1 := by show e.dep + 1 + 2 + m = _; omega
    rw [e1]
    refine same_tup3 ha hb ?_ ?_ (ih m hu hv)
    · rw [show e.dep + 2 + m = (e.dep + 1 + m) + 1 by omega]
      exact same_str _ _
    · rw [show e.dep + 2 + m = (e.dep + 1 + m) + 1 by omega]
      exact same_str _ _
  | bin bw l r ihl ihr =>
    rintro m u v ⟨a, x, x2, rfl, ha, hl, hr⟩ ⟨b, y, y2, rfl, hb, hl', hr'⟩
    have mx : Nat.max l.dep r.dep = max l.dep r.dep := rfl
    have e1 : Ex.dep (.bin bw l r) + 2 + m = (Nat.max l.dep r.dep + 2 + m) + 1 := by show Nat.max l.dep r.dep + 1 + 2 + m = _; omega
    rw [e1]
    refine same_tup3 ha hb ?_ ?_ ?_
    · rw [show Nat.max l.dep r.dep + 2 + m = (Nat.max l.dep r.dep + 1 + m) + 1 by omega]
      exact same_str _ _
    · rw [show Nat.max l.dep r.dep + 2 + m = l.dep + 2 + (Nat.max l.dep r.dep - l.dep + m) by omega]
      exact ihl _ hl hl'
    · rw [show Nat.max l.dep r.dep + 2 + m = r.dep + 2 + (Nat.max l.dep r.dep - r.dep + m) by omega]
      exact ihr _ hr hr'
/-! ## chains of levels -/
inductive Hd where
  | abs
  | two
  | ab
  | third
  | sub
  | add
  | max
  | min
def Hd.hs : Hd → Str
  | .abs => "abs("
  | .two => "2*"
  | .ab => "ab("
  | .third => "-1/3*"
  | .sub => "("
  | .add => "(1 + "
  | .max => "max("
  | .min => "min(x, "
def Hd.ts : Hd → Str
  | .abs => ")"
  | .two => ""
  | .ab => ")"
  | .third => ""
  | .sub => " - x)"
  | .add => ")"
  | .max => ", 1)"
  | .min => ")"
def Hd.wrap : Hd → Ex → Ex
  | .abs, e => .abs e
  | .two, e => .mul (Rat.divInt 2 1) e
  | .ab, e => .call "ab" e
  | .third, e => .mul (Rat.divInt (-1) 3) e
  | .sub, e => .bin .sub e .x
  | .add, e => .bin .add (.num (Rat.divInt 1 1)) e
  | .max, e => .bin .max e (.num (Rat.divInt 1 1))
  | .min, e => .bin .min .x e
/-- where a part that is too deep begins within the last level -/
def Hd.ins : Hd → Nat
  | .add => 1
  | .min => 4
  | h => h.hs.length
def chain (ks : List Hd) : Ex := ks.foldr Hd.wrap .x
def allH : List Str := ["abs(", "2*", "ab(", "-1/3*", "(", "(1 + ", "max(", "min(x, "]
theorem hd_of {s : Str} (h : s ∈ allH) : ∃ k : Hd, s = k.hs := by
  simp only [allH, List.mem_cons, List.not_mem_nil, or_false] at h
  rcases h with rfl | rfl | rfl | rfl | rfl | rfl | rfl | rfl
  · exact ⟨.abs, rfl⟩
  · exact ⟨.two, rfl⟩
  · exact ⟨.ab, rfl⟩
  · exact ⟨.third, rfl⟩
  · exact ⟨.sub, rfl⟩
  · exact ⟨.add, rfl⟩
  · exact ⟨.max, rfl⟩
  · exact ⟨.min, rfl⟩
theorem fr2 : frL (Rat.divInt 2 1) = [50] := by decide +kernel
theorem fr3 : frL (Rat.divInt (-1) 3) = [45, 49, 47, 51] := by decide +kernel
theorem fr1 : frL (Rat.divInt 1 1) = [49] := by decide +kernel
theorem hd_txt (k : Hd) (e : Ex) : (k.wrap e).txt = TL.tl k.hs ++ (e.txt ++ TL.tl k.ts) := by
  have t : ∀ (s : Str) (l : List Nat), TL.tl s = l → TL.tl s = l := fun _ _ h => h
  have a1 : TL.tl ("abs(" : Str) = [97, 98, 115, 40] := by decide +kernel
  have a2 : TL.tl (")" : Str) = [41] := by decide +kernel
  have a3 : TL.tl ("2*" : Str) = [50, 42] := by decide +kernel
  have a4 : TL.tl ("" : Str) = [] := by decide +kernel
  have a5 : TL.tl ("ab(" : Str) = [97, 98, 40] := by decide +kernel
  have a5' : TL.tl ("ab" : Str) = [97, 98] := by decide +kernel
  have a6 : TL.tl ("-1/3*" : Str) = [45, 49, 47, 51, 42] := by decide +kernel
  have a7 : TL.tl ("(" : Str) = [40] := by decide +kernel
  have a8 : TL.tl (" - x)" : Str) = [32, 45, 32, 120, 41] := by decide +kernel
  have a9 : TL.tl ("(1 + " : Str) = [40, 49, 32, 43, 32] := by decide +kernel
  have b1 : TL.tl ("max(" : Str) = [109, 97, 120, 40] := by decide +kernel
  have b2 : TL.tl (", 1)" : Str) = [44, 32, 49, 41] := by decide +kernel
  have b3 : TL.tl ("min(x, " : Str) = [109, 105, 110, 40, 120, 44, 32] := by decide +kernel
  cases k <;> simp [Hd.wrap, Hd.hs, Hd.ts, Ex.txt, fr1, fr2, fr3, absL, maxL, minL, a1, a2, a3, a4, a5, a5', a6, a7, a8, a9, b1, b2, b3]
theorem chain_txt (ks : List Hd) : (chain ks).txt = (ks.map fun k => TL.tl k.hs).flatten ++ ([120] ++ ((ks.map fun k => TL.tl k.ts).reverse).flatten) := by
  induction ks with
  | nil => rfl
  | cons k ks ih =>
    show (k.wrap (chain ks)).txt = _
    rw [hd_txt, ih]
    simp
theorem chain_dep (ks : List Hd) : (chain ks).dep = ks.length + 1 := by
  induction ks with
  | nil => rfl
  | cons k ks ih =>
    show (k.wrap (chain ks)).dep = _
    have p := (chain ks).dep_pos
    rw [List.length_cons, ← ih]
    generalize chain ks = e at p
    have mx : ∀ a b : Nat, Nat.max a b = max a b := fun _ _ => rfl
    cases k <;> simp only [Hd.wrap, Ex.dep, mx] <;> omega
theorem nm_ab : NmOk "ab" := ⟨by decide +kernel, by decide +kernel, by unfold LowS; decide +kernel, by decide +kernel, by decide +kernel, by decide +kernel⟩
theorem chain_good (ks : List Hd) : Good (chain ks) := by
  induction ks with
  | nil => trivial
  | cons k ks ih =>
    show Good (k.wrap (chain ks))
    generalize chain ks = e at ih
    have s2 : SixFr (Rat.divInt 2 1) := six_div (by decide) (by decide) (by decide) (by decide)
    have s3 : SixFr (Rat.divInt (-1) 3) := six_div (by decide) (by decide) (by decide) (by decide)
    have s1 : SixFr (Rat.divInt 1 1) := six_div (by decide) (by decide) (by decide) (by decide)
    cases k with
    | abs => exact ih
    | two => exact ⟨s2, ih⟩
    | ab => exact ⟨nm_ab, ih⟩
    | third => exact ⟨s3, ih⟩
    | sub => exact ⟨ih, trivial⟩
    | add => exact ⟨s1, ih⟩
    | max => exact ⟨ih, s1⟩
    | min => exact ⟨trivial, ih⟩
theorem hd_off (k : Hd) {e : Ex} {r : Nat} (h : e.dep = r + 1) : (k.wrap e).off (r + 1) = if r = 0 then k.ins + e.off 0 else k.hs.length + e.off r := by
  have a1 : ("abs(" : Str).length = 4 := by decide +kernel
  have a3 : ("2*" : Str).length = 2 := by decide +kernel
  have a5 : ("ab(" : Str).length = 3 := by decide +kernel
  have a5' : (TL.tl ("ab" : Str)).length = 2 := by decide +kernel
  have a6 : ("-1/3*" : Str).length = 5 := by decide +kernel
  have a7 : ("(" : Str).length = 1 := by decide +kernel
  have a9 : ("(1 + " : Str).length = 5 := by decide +kernel
  have b1 : ("max(" : Str).length = 4 := by decide +kernel
  have b3 : ("min(x, " : Str).length = 7 := by decide +kernel
  have lt : r < e.dep := by omega
  by_cases c : r = 0
  · subst c
    rw [if_pos rfl]
    cases k <;> simp [Hd.wrap, Ex.off, off0, Hd.ins, Hd.hs, fr2, fr3, a1, a3, a5, a5', a6, a7, b1, lt, Ex.dep]
  · rw [if_neg c]
    have nz : ¬ r < 1 := by omega
    have nz' : r ≠ 0 := c
    cases k <;> simp [Hd.wrap, Ex.off, Hd.hs, Ex.txt, fr1, fr2, fr3, a1, a3, a5, a5', a6, a7, a9, b1, b3, lt, Ex.dep, nz, nz'] <;> omega
theorem chain_off (ks : List Hd) (k : Hd) : (chain (ks ++ [k])).off (ks.length + 1) = (ks.map fun k => k.hs.length).sum + k.ins := by
  induction ks with
  | nil =>
    show (k.wrap .x).off 1 = _
    rw [hd_off k (r := 0) rfl]
    simp [Ex.off]
  | cons j ks ih =>
    show (j.wrap (chain (ks ++ [k]))).off (ks.length + 1 + 1) = _
    rw [hd_off j (r := ks.length + 1) (by rw [chain_dep]; simp), if_neg (by omega), ih]
    simp
    omega
def rSortD : List V → Hp → VK → Prop := fun xs H Q => ∃ (a : Addr) (kvs : List (Key × V)) (ks : List Str), xs = [.ref a] ∧ Rd H a (.dK kvs) ∧ kvs.map (·.1) = ks.map Sum.inr ∧ ks.length < 64 ∧ ∀ ys p, ys.Perm ks → sortedS ys = true → H p = none → Q (.ref p) (upd H p (.lst (ys.map V.str)))
theorem cr_sortD {X : Cx} (calm : X.calm = true) : CallR X (.builtin "sorted") rSortD := call_sortedD calm
end Ew
namespace Ew
open PySem PySem.Spec PyProof.Rows L2
def kvs8 : List (Key × V) := [(.inr "abs(", .str ")"), (.inr "2*", .str ""), (.inr "ab(", .str ")"), (.inr "-1/3*", .str ""), (.inr "(", .str " - x)"), (.inr "(1 + ", .str ")"), (.inr "max(", .str ", 1)"), (.inr "min(x, ", .str ")")]
def kvs2 : List (Key × V) := [(.inr "(1 + ", .int 1), (.inr "min(x, ", .int 4)]
theorem find_key {kvs : List (Key × V)} {s : Str} {v : V} {n : Nat} (h : (kvs.map (·.1)).findIdx? (fun k => decide (k = Sum.inr s)) = some n) (hv : (kvs.map (·.2))[n]? = some v) : valV kvs (Sum.inr s) = some v := by
  unfold valV
  induction kvs generalizing n with
  | nil => simp at h
  | cons a l ih =>
    rw [List.map_cons, List.findIdx?_cons] at h
    by_cases c : a.1 = Sum.inr s
    · rw [if_pos (decide_eq_true c)] at h
      cases h
      have z : (fun kv : Key × V => decide (kv.1 = Sum.inr s)) a = true := decide_eq_true c
      rw [List.find?_cons_of_pos (p := fun kv : Key × V => decide (kv.1 = Sum.inr s)) z]
      simpa using hv
    · rw [if_neg (by simpa using c)] at h
      cases hf : (l.map (·.1)).findIdx? (fun k => decide (k = Sum.inr s)) with
      | none => rw [hf] at h; cases h
      | some m =>
        rw [hf] at h
        cases h
        rw [List.find?_cons_of_neg (p := fun kv : Key × V => decide (kv.1 = Sum.inr s)) (by simpa using c)]
        exact ih hf (by simpa using hv)
theorem keys8 : (mergeK [] kvs8).map (·.1) = allH.map Sum.inr := by decide +kernel
theorem merge8 : mergeK [] kvs8 = kvs8 := by rfl
theorem merge2 : mergeK [] kvs2 = kvs2 := by rfl
theorem val8 (k : Hd) : valV (mergeK [] kvs8) (Sum.inr k.hs) = some (.str k.ts) := by
  rw [merge8]
  cases k
  · exact find_key (n := 0) (by decide +kernel) rfl
  · exact find_key (n := 1) (by decide +kernel) rfl
  · exact find_key (n := 2) (by decide +kernel) rfl
  · exact find_key (n := 3) (by decide +kernel) rfl
  · exact find_key (n := 4) (by decide +kernel) rfl
  · exact find_key (n := 5) (by decide +kernel) rfl
  · exact find_key (n := 6) (by decide +kernel) rfl
  · exact find_key (n := 7) (by decide +kernel) rfl
theorem val_none {kvs : List (Key × V)} {s : Str} (h : (kvs.map (·.1)).findIdx? (fun k => decide (k = Sum.inr s)) = none) : valV kvs (Sum.inr s) = none := by
  unfold valV
  induction kvs with
  | nil => rfl
  | cons a l ih =>
    rw [List.map_cons, List.findIdx?_cons] at h
    by_cases c : a.1 = Sum.inr s
    · rw [if_pos (decide_eq_true c)] at h; cases h
    · rw [if_neg (by simpa using c)] at h
      cases hf : (l.map (·.1)).findIdx? (fun k => decide (k = Sum.inr s)) with
      | some m => rw [hf] at h; cases h
      | none =>
        rw [List.find?_cons_of_neg (p := fun kv : Key × V => decide (kv.1 = Sum.inr s)) (by simpa using c)]
        exact ih hf
theorem val2 (k : Hd) : (valV (mergeK [] kvs2) (Sum.inr k.hs)).getD (.int (k.hs.length : Int)) = .int (k.ins : Int) := by
  rw [merge2]
  cases k
  · rw [val_none (by decide +kernel)]; rfl
  · rw [val_none (by decide +kernel)]; rfl
  · rw [val_none (by decide +kernel)]; rfl
  · rw [val_none (by decide +kernel)]; rfl
  · rw [val_none (by decide +kernel)]; rfl
  · rw [find_key (n := 0) (v := .int 1) (by decide +kernel) rfl]; rfl
  · rw [val_none (by decide +kernel)]; rfl
  · rw [find_key (n := 1) (v := .int 4) (by decide +kernel) rfl]; rfl
theorem hs_len (k : Hd) : k.hs.length ≤ 7 := by cases k <;> decide +kernel
theorem ts_len (k : Hd) : k.ts.length ≤ 7 := by cases k <;> decide +kernel
theorem sum_le7 {f : Hd → Str} (h : ∀ k, (f k).length ≤ 7) : ∀ ks : List Hd, ((ks.map f).map Str.length).sum ≤ 7 * ks.length
  | [] => by simp
  | k :: ks => by
    have := sum_le7 h ks
    have := h k
    simp only [List.map_cons, List.sum_cons, List.length_cons]
    omega
theorem sum_rev (l : List Nat) : l.reverse.sum = l.sum := by
  induction l with
  | nil => rfl
  | cons a l ih => rw [List.reverse_cons, List.sum_append, ih]; simp; omega
theorem deep_tl (ks : List Hd) : TL.tl (Txt.join ("" : Str) (ks.map Hd.hs) ++ "x" ++ Txt.join ("" : Str) ((ks.map Hd.ts).reverse)) = (chain ks).txt := by
  have tx : TL.tl ("x" : Str) = [120] := by decide +kernel
  rw [TL.tl_append, TL.tl_append, tl_join0, tl_join0, tx, chain_txt, List.map_reverse, List.map_map, List.map_map, List.append_assoc]
  rfl
theorem deep_len (ks : List Hd) : (chain ks).txt.length ≤ 14 * ks.length + 1 := by
  rw [← deep_tl, TL.tl_append, TL.tl_append, List.length_append, List.length_append, ← slenT, ← slenT, ← slenT, joinT_len, joinT_len, List.map_reverse, sum_rev]
  have h1 := sum_le7 hs_len ks
  have h2 := sum_le7 ts_len ks
  have h3 : ("x" : Str).length = 1 := by decide +kernel
  omega
theorem split11 {ks : List Hd} (h : ks.length = 12) : ∃ k, ks[11]? = some k ∧ ks = ks.take 11 ++ [k] := by
  have hk : 11 < ks.length := by omega
  refine ⟨ks[11], List.getElem?_eq_getElem hk, ?_⟩
  have e := List.take_append_drop 11 ks
  rw [List.drop_eq_getElem_cons hk, List.drop_of_length_le (by omega)] at e
  exact e.symm
theorem Wd.ndk {T : List (Addr × Str)} {p q d : Addr} {ns : List Int} {G : Hp} {kvs : List (Key × V)} (w : Wd T p q ns G) (h : G d = some (.dK kvs)) : d ≠ p := fun e => by
  obtain ⟨⟨i, v, sd, R⟩, _⟩ := w
  rw [e, R.at_p] at h
  cases h
end Ew
namespace Ew
open PySem PySem.Spec PyProof.Rows L2
/-! ## a text's sign, or nothing -/
theorem atv_some {o : Option Nat} {s : Str} {c : Nat} (hs : TL.tl s = [c]) : V.str (strL o.toList) = V.str s ↔ o = some c := by
  constructor
  · intro h
    have h : strL o.toList = s := by injection h
    rw [← h] at hs
    cases o with
    | none => cases hs
    | some d => cases hs; rfl
  · rintro rfl
    congr 1
    exact TL.ext_tl hs.symm
theorem atv_none {o : Option Nat} : V.str (strL o.toList) = V.str "" ↔ o = none := by
  constructor
  · intro h
    have h : strL o.toList = "" := by injection h
    have e : TL.tl (strL o.toList) = TL.tl ("" : Str) := by rw [h]
    cases o with
    | none => rfl
    | some d => cases e
  · rintro rfl
    rfl
theorem strL_one (c : Nat) : strL (some c).toList = ⟨#[c]⟩ := rfl
def fitV : Except Nat Nat → List V
  | .ok e => [.int (e : Nat), .bl true]
  | .error p => [.int (p : Nat), .bl false]
def fgV : Except Nat (Nat × Nat) → List V
  | .ok v => [.int (v.2 : Nat), .bl true]
  | .error p => [.int (p : Nat), .bl false]
theorem fig_stop {t : List Nat} {k j : Nat} (h1 : j ≤ (runOf isFig t k).length) (h6 : j ≤ 6) (h0 : ¬ (1 < j ∧ t[k]? = some 48)) (hs : j = 6 ∨ j = (runOf isFig t k).length ∨ (j = 1 ∧ t[k]? = some 48)) :
    [V.int ((k + j : Nat) : Int), V.bl (decide (0 < j) && !decide (j < (runOf isFig t k).length))] = fgV (rdFigs t k) := by
  unfold rdFigs
  generalize (runOf isFig t k).length = n at *
  by_cases c0 : n = 0
  · have : j = 0 := by omega
    subst this
    rw [if_pos c0]
    rfl
  rw [if_neg c0]
  by_cases c1 : 1 < n ∧ t[k]? = some 48
  · have : j = 1 := by
      rcases hs with h | h | h
      · exact absurd ⟨by omega, c1.2⟩ h0
      · exact absurd ⟨by omega, c1.2⟩ h0
      · exact h.1
    subst this
    rw [if_pos c1, decide_eq_true c1.1]
    rfl
  rw [if_neg c1]
  by_cases c6 : 6 < n
  · have : j = 6 := by
      rcases hs with h | h | h
      · exact h
      · omega
      · exact absurd ⟨by omega, h.2⟩ c1
    subst this
    rw [if_pos c6, decide_eq_true c6]
    rfl
  · have : j = n := by
      rcases hs with h | h | h
      · omega
      · exact h
      · have : ¬ 1 < n := fun z => c1 ⟨z, h.2⟩
        omega
    subst this
    rw [if_neg c6, decide_eq_true (by omega : 0 < j), decide_eq_false (Nat.lt_irrefl j)]
    rfl
/-- text[k:k + j] within a run is "0" -/
theorem cut_zero {z : Str} {k j : Nat} (h : k + j ≤ z.length) : V.str (cutS z (some (k : Int)) (some ((k + j : Nat) : Int))) = V.str "0" ↔ (j = 1 ∧ (TL.tl z)[k]? = some 48) := by
  have t0 : TL.tl ("0" : Str) = [48] := by decide +kernel
  have e : TL.tl (cutS z (some (k : Int)) (some ((k + j : Nat) : Int))) = ((TL.tl z).drop k).take j := by
    rw [tl_cut, HT.sIx_nat, HT.sIx_nat, Nat.min_eq_left (show k ≤ z.length by omega), Nat.min_eq_left h, show k + j - k = j by omega]
  have hl : (TL.tl z).length = z.length := (slenT z).symm
  constructor
  · intro x
    have x : cutS z (some (k : Int)) (some ((k + j : Nat) : Int)) = "0" := by injection x
    rw [x, t0] at e
    have l := congrArg List.length e
    rw [List.length_take, List.length_drop, hl] at l
    have j1 : j = 1 := by simp at l; omega
    subst j1
    refine ⟨rfl, ?_⟩
    have hd : ((TL.tl z).drop k).head? = some 48 := by
      cases hq : (TL.tl z).drop k with
      | nil => rw [hq] at e; cases e
      | cons a l => rw [hq] at e; simp at e; rw [← e]; rfl
    rw [← List.head?_drop]
    exact hd
  · rintro ⟨rfl, h48⟩
    congr 1
    refine TL.ext_tl ?_
    rw [e, t0]
    have hk := get_lt h48
    rw [List.drop_eq_getElem_cons hk, (List.getElem?_eq_some_iff.mp h48).2]
    simp
theorem part_dep {t : List Nat} : ∀ {r i : Nat} {v : Ex × Nat}, rdPart t r i = .ok v → v.1.dep ≤ r
  | 0, i, v, h => by cases h
  | r + 1, i, v, h => by
    have ih : ∀ {i : Nat} {v : Ex × Nat}, rdPart t r i = .ok v → v.1.dep ≤ r := fun h => part_dep h
    unfold rdPart at h
    split at h
    · cases h
    · split at h
      · obtain ⟨l, h1, h⟩ := bind_ok h
        obtain ⟨e2, h2, h⟩ := bind_ok h
        obtain ⟨e3, h3, h⟩ := bind_ok h
        obtain ⟨q, h4, h⟩ := bind_ok h
        obtain ⟨e5, h5, h⟩ := bind_ok h
        cases h
        exact Nat.succ_le_succ (Nat.max_le.mpr ⟨ih h1, ih h4⟩)
      · split at h
        · unfold rdWord at h
          split at h
          · cases h
            show 1 ≤ r + 1
            omega
          · split at h
            · cases h
            · obtain ⟨e1, h1, h⟩ := bind_ok h
              obtain ⟨q, h2, h⟩ := bind_ok h
              split at h
              · obtain ⟨e3, h3, h⟩ := bind_ok h
                cases h
                exact Nat.succ_le_succ (ih h2)
              · split at h
                · obtain ⟨e3, h3, h⟩ := bind_ok h
                  cases h
                  exact Nat.succ_le_succ (ih h2)
                · obtain ⟨e3, h3, h⟩ := bind_ok h
                  obtain ⟨u, h4, h⟩ := bind_ok h
                  obtain ⟨e5, h5, h⟩ := bind_ok h
                  cases h
                  exact Nat.succ_le_succ (Nat.max_le.mpr ⟨ih h2, ih h4⟩)
        · obtain ⟨u, h1, h⟩ := bind_ok h
          split at h
          · obtain ⟨p, h2, h⟩ := bind_ok h
            cases h
            exact Nat.succ_le_succ (ih (v := p) h2)
          · cases h
            show 1 ≤ r + 1
            omega
end Ew
namespace Ew
open PySem PySem.Spec PyProof.Rows L2
theorem figs_ok {t : List Nat} {b v e : Nat} (h : rdFigs t b = .ok (v, e)) : v = NumText.digitsVal (runOf isFig t b) ∧ e = b + (runOf isFig t b).length ∧ 0 < (runOf isFig t b).length ∧ (runOf isFig t b).length ≤ 6 := by
  unfold rdFigs at h
  split at h
  · cases h
  · split at h
    · cases h
    · split at h
      · cases h
      · cases h
        exact ⟨rfl, rfl, by omega, by omega⟩
theorem run_digits (t : List Nat) (b : Nat) : NumText.AllDigits (runOf isFig t b) := fun c hc => (fig_iff c).mp (run_all hc)
theorem take_runOf (p : Nat → Bool) (t : List Nat) (b : Nat) : (t.drop b).take (runOf p t b).length = runOf p t b := by
  unfold runOf
  exact (List.prefix_iff_eq_take.mp (List.takeWhile_prefix p)).symm
theorem tl_cut_nat {z : Str} {k e : Nat} (hk : k ≤ z.length) (he : e ≤ z.length) : TL.tl (cutS z (some (k : Int)) (some (e : Int))) = ((TL.tl z).drop k).take (e - k) := by
  rw [tl_cut, HT.sIx_nat, HT.sIx_nat, Nat.min_eq_left hk, Nat.min_eq_left he]
theorem val_fold : ∀ (l : List Nat) (a : Nat), NumText.AllDigits l → l.foldl (fun acc c => acc * 10 + (c - 48)) a < (a + 1) * 10 ^ l.length
  | [], a, _ => by show a < (a + 1) * 1; omega
  | c :: l, a, h => by
    have hc := h c List.mem_cons_self
    have ih := val_fold l (a * 10 + (c - 48)) (fun d hd => h d (List.mem_cons_of_mem _ hd))
    show l.foldl (fun acc c => acc * 10 + (c - 48)) (a * 10 + (c - 48)) < (a + 1) * 10 ^ (l.length + 1)
    have e : (a * 10 + (c - 48) + 1) * 10 ^ l.length ≤ ((a + 1) * 10) * 10 ^ l.length := Nat.mul_le_mul_right _ (by omega)
    rw [Nat.pow_succ, Nat.mul_comm (10 ^ l.length) 10, ← Nat.mul_assoc]
    omega
theorem figs_lt {t : List Nat} {b v e : Nat} (h : rdFigs t b = .ok (v, e)) : v < 1000000 := by
  obtain ⟨rfl, _, _, h6⟩ := figs_ok h
  have f := val_fold (runOf isFig t b) 0 (run_digits t b)
  have p : 10 ^ (runOf isFig t b).length ≤ 10 ^ 6 := Nat.pow_le_pow_right (by decide) h6
  have e : (10 : Nat) ^ 6 = 1000000 := by decide
  unfold NumText.digitsVal
  omega
theorem int_plain {z : Str} {b v e : Nat} (hb : b ≤ z.length) (h : rdFigs (TL.tl z) b = .ok (v, e)) : intText? (cutS z (some (b : Int)) (some (e : Int))) = some (v : Int) ∧ (cutS z (some (b : Int)) (some (e : Int))).length ≤ 640 := by
  obtain ⟨rfl, rfl, h0, h6⟩ := figs_ok h
  have hl : (TL.tl z).length = z.length := (slenT z).symm
  have he := run_le (p := isFig) (t := TL.tl z) (i := b) (by omega)
  have e : TL.tl (cutS z (some (b : Int)) (some ((b + (runOf isFig (TL.tl z) b).length : Nat) : Int))) = runOf isFig (TL.tl z) b := by
    rw [tl_cut_nat hb (by omega), show b + (runOf isFig (TL.tl z) b).length - b = (runOf isFig (TL.tl z) b).length by omega, take_runOf]
  have ln : (cutS z (some (b : Int)) (some ((b + (runOf isFig (TL.tl z) b).length : Nat) : Int))).length = (runOf isFig (TL.tl z) b).length := by rw [slenT, e]
  refine ⟨?_, by omega⟩
  have r := intText_digits (x := cutS z (some (b : Int)) (some ((b + (runOf isFig (TL.tl z) b).length : Nat) : Int))) (by show NumText.AllDigits (TL.tl _); rw [e]; exact run_digits _ _) (by show TL.tl _ ≠ []; rw [e]; intro a; rw [a] at h0; simp at h0) (by omega)
  rw [r]
  show some ((NumText.digitsVal (TL.tl _) : Nat) : Int) = _
  rw [e]
theorem int_signed {z : Str} {k v e : Nat} (hk : k < z.length) (h : rdFigs (TL.tl z) (if (TL.tl z)[k]? = some 45 then k + 1 else k) = .ok (v, e)) :
    intText? (cutS z (some (k : Int)) (some (e : Int))) = some (if (TL.tl z)[k]? = some 45 then -(v : Int) else (v : Int)) ∧ (cutS z (some (k : Int)) (some (e : Int))).length ≤ 640 := by
  have hl : (TL.tl z).length = z.length := (slenT z).symm
  by_cases c : (TL.tl z)[k]? = some 45
  · rw [if_pos c] at h ⊢
    obtain ⟨rfl, rfl, h0, h6⟩ := figs_ok h
    have he := run_le (p := isFig) (t := TL.tl z) (i := k + 1) (by omega)
    have e : TL.tl (cutS z (some (k : Int)) (some ((k + 1 + (runOf isFig (TL.tl z) (k + 1)).length : Nat) : Int))) = 45 :: runOf isFig (TL.tl z) (k + 1) := by
      rw [tl_cut_nat (by omega) (by omega), show k + 1 + (runOf isFig (TL.tl z) (k + 1)).length - k = (runOf isFig (TL.tl z) (k + 1)).length + 1 by omega, List.drop_eq_getElem_cons (get_lt c), List.take_succ_cons, take_runOf, (List.getElem?_eq_some_iff.mp c).2]
    have ln : (cutS z (some (k : Int)) (some ((k + 1 + (runOf isFig (TL.tl z) (k + 1)).length : Nat) : Int))).length = (runOf isFig (TL.tl z) (k + 1)).length + 1 := by rw [slenT, e]; rfl
    refine ⟨?_, by omega⟩
    exact intText_neg (x := cutS z (some (k : Int)) (some ((k + 1 + (runOf isFig (TL.tl z) (k + 1)).length : Nat) : Int))) (cs := runOf isFig (TL.tl z) (k + 1)) e (run_digits _ _) (by intro a; rw [a] at h0; simp at h0) (by omega)
  · rw [if_neg c] at h ⊢
    exact int_plain (Nat.le_of_lt hk) h
theorem div_is {m : Int} {d : Nat} (hd : 0 < d) : [(Rat.divInt m d).num, ((Rat.divInt m d).den : Int)] = [m, (d : Int)] ↔ Nat.gcd m.natAbs d = 1 := by
  constructor
  · intro h
    simp only [List.cons.injEq, and_true] at h
    have r := (Rat.divInt m d).reduced
    rw [h.1] at r
    have e : (Rat.divInt m (d : Int)).den = d := by omega
    rw [e] at r
    exact r
  · intro h
    have q := qV_of (n := m) (d := (d : Int)) ⟨by rw [Int.natAbs_natCast]; exact h, by omega⟩
    unfold qV at q
    simp only [List.cons.injEq, V.int.injEq, and_true] at q
    rw [← q.1, ← q.2]
def FrAt (G : Hp) (x : Except Nat (Rat × Nat)) (xs : List V) : Prop := match x with
  | .error p => xs = [.int (p : Nat), .non]
  | .ok v => ∃ u, xs = [.int (v.2 : Nat), u] ∧ QAt G u v.1
def RxAt (G : Hp) (x : Rx) (xs : List V) : Prop := match x with
  | .error p => xs = [.int (p : Nat), .non]
  | .ok v => ∃ u, xs = [.int (v.2 : Nat), u] ∧ ExAt G v.1 u
theorem ex_non {G : Hp} {e : Ex} : ¬ ExAt G e .non := by
  intro h
  obtain ⟨a, us, h, _⟩ := h.tup
  cases h
end Ew
namespace Ew
open PySem PySem.Spec
open Sem (wp)
/-! ## keys that are a pair of a text and a tuple -/
section
variable {prog : Program} {w : World} {K : Type} [DecidableEq K] (knd : KeyKind prog w K)
def IsNest (h : Heap) (k : K × List K) (a : Addr) : Prop := ∃ o items n v b, h.get? a = some o ∧ o.cls = .type "tuple" ∧ o.data = .seq items n ∧ items.toList = [v, .ref b] ∧ knd.is k.1 v = true ∧ IsTupleKey knd h k.2 b
variable {knd}
theorem IsNest.typeIs {s : Shared} {k : K × List K} {a : Addr} (x : IsNest knd s.heap k a) : s.TypeIs (.ref a) "tuple" := let ⟨o, _, _, _, _, ho, hc, _⟩ := x; ⟨o, ho, hc⟩
theorem IsNest.inj {h : Heap} {a : Addr} {x y : K × List K} (hx : IsNest knd h x a) (hy : IsNest knd h y a) : x = y := by
  obtain ⟨o, items, n, v, b, ho, _, hd, hi, h1, h2⟩ := hx
  obtain ⟨o', items', n', v', b', ho', _, hd', hi', h1', h2'⟩ := hy
  obtain rfl : o = o' := Option.some.inj (ho.symm.trans ho')
  rw [hd] at hd'
  injection hd' with e _
  subst e
  rw [hi] at hi'
  cases hi'
  exact Prod.ext (knd.inj _ _ _ h1 h1') (h2.inj h2')
theorem IsNest.keeps {h h' : Heap} {k : K × List K} {a d : Addr} {o : Obj} {es ep} (x : IsNest knd h k a) (ho : h.get? d = some o) (hd : o.data = .dict es ep) (hs : Heap.SameBut d h h') : IsNest knd h' k a := by
  obtain ⟨o', items, n, v, b, ho', hc, hd', hi, h1, h2⟩ := x
  have hne : a ≠ d := by
    rintro rfl
    obtain rfl : o' = o := Option.some.inj (ho'.symm.trans ho)
    rw [hd] at hd'; exact nomatch hd'
  exact ⟨o', items, n, v, b, (hs.2 a hne).trans ho', hc, hd', hi, h1, h2.keeps ho hd hs⟩
def nestHash (knd : KeyKind prog w K) (k : K × List K) : Int := reduceHash (Builtin.Tuple.tupleHashOf [knd.hash k.1, tupleKeyHash knd k.2])
variable {A : Around} {E : Value → Shared → Prop} {s : Shared}
theorem wpAny_pyHash_nest {k : K × List K} {a : Addr} {Q : Int → Shared → Prop} (hu : A.units + 4 < cLine) (hk : IsNest knd s.heap k a) (h : Q (nestHash knd k) { s with toks := s.toks + (k.2.length + 3) }) :
    wpAny (model prog w) A (pyHash (.ref a)) Q E s := by
  have hT := hk.typeIs
  obtain ⟨o, items, n, v, b, ho, _, hd, hi, h1, h2⟩ := hk
  unfold pyHash
  first | unfold pyHashByItsType | skip
  first | refine wpAny_bind (wpAny_cRoomFor_or (.inr (by omega)) ?_) | skip
  refine wpAny_bind (wpAny_specialOf hT F.slot_tuple_hash.lookup ?_)
  show wpAny _ _ (if (some (Value.builtin "tuple.__hash__") == some Value.none) = true then _ else _) Q E s
  rw [if_neg (by rw [beq_builtin_none]; exact Bool.false_ne_true)]
  refine wpAny_bind (wpAny_specialOf hT F.slot_tuple_hash.lookup ?_)
  show wpAny _ _ (callSpecialIfBoundUnlessNone? (.ref a) "__hash__" _ >>= _) Q E s
  refine wpAny_bind (wpAny_callSpecialIfBoundUnlessNone?_slot hT F.slot_tuple_hash (wpAny_call_entry F.slot_tuple_hash hT F.entry_tuple_hash ?_ (F.args_tuple_hash_1 _)))
  show wpAny _ _ (Builtin.Tuple.tupleItemsOf (.ref a) >>= _) _ _ s
  refine wpAny_bind (wpAny_tupleItemsOf ho hd ?_)
  refine wpAny_bind ?_
  rw [← Array.forIn_toList, hi]
  simp only [List.forIn_cons, List.forIn_nil]
  refine wpAny_bind (wpAny_bind (knd.pyHash h1 ?_))
  refine wpAny_pure ?_
  refine wpAny_bind (wpAny_bind (wpAny_pyHash_tuple (by show A.units + 1 < cLine; omega) h2 (wpAny_pure ?_)))
  refine wpAny_pure ?_
  show wpAny _ _ (retInt (Builtin.Tuple.tupleHashOf [knd.hash k.1, tupleKeyHash knd k.2])) _ _ _
  refine wpAny_ret_mkInt ?_
  show wpAny _ _ (if (decide (-(2 : Int) ^ 63 ≤ Builtin.Tuple.tupleHashOf [knd.hash k.1, tupleKeyHash knd k.2]) && decide (Builtin.Tuple.tupleHashOf [knd.hash k.1, tupleKeyHash knd k.2] < 2 ^ 63)) = true then _ else _) Q E _
  have e : s.toks + 1 + (k.2.length + 1) + 1 = s.toks + (k.2.length + 3) := by omega
  unfold nestHash reduceHash at h
  rw [← e] at h
  by_cases hr : (decide (-(2 : Int) ^ 63 ≤ Builtin.Tuple.tupleHashOf [knd.hash k.1, tupleKeyHash knd k.2]) && decide (Builtin.Tuple.tupleHashOf [knd.hash k.1, tupleKeyHash knd k.2] < 2 ^ 63)) = true
  · rw [if_pos hr]
    rw [if_pos hr] at h
    exact wpAny_pure h
  · rw [if_neg hr]
    rw [if_neg hr] at h
    exact wpAny_bind (wpAny_rule (wpAny_pure h))
theorem nest_eq_tree {x y : K × List K} {a b : Addr} {P : Fin → Shared → Prop} (hu : A.units + 1 < cLine) (hx : IsNest knd s.heap x a) (hy : IsNest knd s.heap y b) (h : P (.done (.ret (.bool (decide (x = y))))) s) :
    wpAny (model prog w) A (Builtin.«tuple.__eq__» ⟨[.ref a, .ref b], []⟩) P E s := by
  have hTb := hy.typeIs
  obtain ⟨oa, xs, na, u, xb, hoa, _, hda, hia, hx1, hx2⟩ := hx
  obtain ⟨ob, ys, nb, v, yb, hob, _, hdb, hib, hy1, hy2⟩ := hy
  show wpAny _ _ (isInstance (.ref b) (.type "tuple") >>= _) _ _ s
  refine wpAny_bind (wpAny_isInstance hTb isSubtype_tuple_tuple ?_)
  simp only [Bool.not_true, Bool.false_eq_true, if_false]
  refine wpAny_bind (wpAny_tupleItemsOf hoa hda ?_)
  refine wpAny_bind (wpAny_tupleItemsOf hob hdb ?_)
  refine wpAny_bind ?_
  have hz : xs.size = 2 := by rw [← Array.length_toList, hia]; rfl
  have hw : ys.size = 2 := by rw [← Array.length_toList, hib]; rfl
  rw [hia, hib]
  simp only [List.zip_cons_cons, List.zip_nil_right, List.forIn_cons, List.forIn_nil]
  refine wpAny_bind (wpAny_bind (knd.eqBool (a := x.1) (b := y.1) hx1 hy1 ?_))
  by_cases hk : x.1 = y.1
  · rw [decide_eq_true hk]
    simp only [Bool.not_true, Bool.false_eq_true, if_false]
    refine wpAny_pure (wpAny_bind (wpAny_bind (wpAny_eqBool_tuple (by omega) hx2 hy2 ?_)))
    by_cases hk2 : x.2 = y.2
    · rw [decide_eq_true hk2]
      simp only [Bool.not_true, Bool.false_eq_true, if_false]
      refine wpAny_pure (wpAny_pure (wpAny_pure ?_))
      rw [decide_eq_true (Prod.ext hk hk2)] at h
      show P (.done (.ret (.bool (xs.size == ys.size)))) s
      rw [hz, hw]
      exact h
    · rw [decide_eq_false hk2]
      simp only [Bool.not_false, if_true]
      rw [decide_eq_false (fun e => hk2 (congrArg Prod.snd e))] at h
      exact wpAny_bind (wpAny_pure (wpAny_pure (wpAny_pure (wpAny_pure h))))
  · rw [decide_eq_false hk]
    simp only [Bool.not_false, if_true]
    rw [decide_eq_false (fun e => hk (congrArg Prod.fst e))] at h
    exact wpAny_bind (wpAny_pure (wpAny_pure (wpAny_pure (wpAny_pure h))))
theorem wpAny_eqBool_nest {x y : K × List K} {a b : Addr} {Q : Bool → Shared → Prop} (hu : A.units + 4 < cLine) (hx : IsNest knd s.heap x a) (hy : IsNest knd s.heap y b) (h : Q (decide (x = y)) s) :
    wpAny (model prog w) A (eqBool (.ref a) (.ref b)) Q E s := by
  unfold eqBool
  try with_reducible refine wpAny_holding ?_
  show wpAny _ _ (if (Value.ref a == Value.ref b) = true then _ else _) Q E s
  by_cases hab : (Value.ref a == Value.ref b) = true
  · rw [if_pos hab]
    have e : a = b := by have := eq_of_beq hab; injection this
    subst e
    obtain rfl := hx.inj hy
    exact wpAny_bind (wpAny_rule (wpAny_pure (by simpa using h)))
  · rw [if_neg hab]
    exact wpAny_bind (wpAny_richCompare_same_room (op := .Eq) hx.typeIs hy.typeIs F.slot_tuple_eq
      (wpAny_call_entry F.slot_tuple_eq hx.typeIs F.entry_tuple_eq (nest_eq_tree (by show A.units + 1 + 1 < cLine; omega) hx hy ⟨_, rfl, (fun e => nomatch e), wpAny_truthy_bool h⟩) (F.args_tuple_eq_2 _ _)) (by omega))
theorem quiet_tuple7 {ks : List K} {a : Addr} {Q : Bool → Shared → Prop} (n : Nat) (hk : IsTupleKey knd s.heap ks a) (h : Q true s) : wpAny (model prog w) A (eqIsQuiet (n + 1) (.ref a)) Q E s := by
  have hT := hk.typeIs
  obtain ⟨o, items, m, ho, _, hd, hi⟩ := hk
  unfold eqIsQuiet
  refine wpAny_bind (wpAny_specialOf hT F.slot_tuple_eq.lookup ?_)
  show wpAny _ _ (isInstance (.ref a) (.type "tuple") >>= _) _ _ s
  refine wpAny_bind (wpAny_isInstance hT isSubtype_tuple_tuple ?_)
  simp only [Bool.not_true, Bool.false_eq_true, if_false]
  refine wpAny_bind (wpAny_seqItems ho hd ?_)
  refine wpAny_bind ?_
  show wpAny _ _ (forIn items _ _) _ _ s
  rw [← Array.forIn_toList]
  refine wpAny_forIn_list _ (fun rest r s' => r.1 = none ∧ s' = s ∧ ∀ v ∈ rest, carriedByValue v = true) _ ?_ ?_ _ _ ⟨rfl, rfl, hi.byValue⟩
  · rintro v rest r s' ⟨hr, rfl, hall⟩
    rw [eqIsQuiet_byValue _ (hall v List.mem_cons_self)]
    refine wpAny_bind (wpAny_pure ?_)
    simp only [Bool.not_true, Bool.false_eq_true, if_false]
    exact wpAny_pure ⟨rfl, rfl, fun u hu' => hall u (List.mem_cons_of_mem _ hu')⟩
  · rintro ⟨r1, r2⟩ s' ⟨hr, rfl, _⟩
    simp only at hr
    subst hr
    exact wpAny_pure h
theorem quiet_nest {k : K × List K} {a : Addr} {Q : Bool → Shared → Prop} (hk : IsNest knd s.heap k a) (h : Q true s) : wpAny (model prog w) A (eqIsQuiet 8 (.ref a)) Q E s := by
  have hT := hk.typeIs
  obtain ⟨o, items, n, v, b, ho, _, hd, hi, h1, h2⟩ := hk
  unfold eqIsQuiet
  refine wpAny_bind (wpAny_specialOf hT F.slot_tuple_eq.lookup ?_)
  show wpAny _ _ (isInstance (.ref a) (.type "tuple") >>= _) _ _ s
  refine wpAny_bind (wpAny_isInstance hT isSubtype_tuple_tuple ?_)
  simp only [Bool.not_true, Bool.false_eq_true, if_false]
  refine wpAny_bind (wpAny_seqItems ho hd ?_)
  refine wpAny_bind ?_
  show wpAny _ _ (forIn items _ _) _ _ s
  rw [← Array.forIn_toList, hi]
  simp only [List.forIn_cons, List.forIn_nil]
  rw [eqIsQuiet_byValue _ (knd.byValue _ _ h1)]
  refine wpAny_bind (wpAny_bind (wpAny_pure ?_))
  simp only [Bool.not_true, Bool.false_eq_true, if_false]
  refine wpAny_pure (wpAny_bind (wpAny_bind (quiet_tuple7 6 h2 ?_)))
  simp only [Bool.not_true, Bool.false_eq_true, if_false]
  exact wpAny_pure (wpAny_pure (wpAny_pure h))
def nestKind (knd : KeyKind prog w K) : HeapKind prog w (K × List K) where
  is := IsNest knd
  hash := nestHash knd
  draws := fun k => k.2.length + 3
  room := fun A => A.units + 4 < cLine
  inj := fun hx hy => hx.inj hy
  keeps := fun x ho hd hs => x.keeps ho hd hs
  pyHash := fun hu hk h => wpAny_pyHash_nest hu hk h
  eqBool := fun hu hx hy h => wpAny_eqBool_nest hu hx hy h
  quiet := fun hk h => quiet_nest hk h
end
end Ew
namespace Ew
open PySem PySem.Spec PyProof.Rows L2
/-! ## a dict whose keys are a thing and a tuple -/
abbrev NK := Key × List Key
def NT (H : Hp) : List (NK × V) → List (NK × Addr × Value) → Prop := Paired fun p q => p.1 = q.1 ∧ (∃ b, H q.2.1 = some (.tup [kV p.1.1, .ref b]) ∧ H b = some (.tup (p.1.2.map kV))) ∧ RelV p.2 q.2.2
theorem NT.val {H : Hp} {kvs : List (NK × V)} {xs : List (NK × Addr × Value)} (r : NT H kvs xs) (k : NK) : RelO (valV kvs k) ((atKey xs k).map (·.2)) := by
  induction r with
  | nil => exact True.intro
  | @cons p q ps qs h t ih =>
    obtain ⟨h1, _, h2⟩ := h
    by_cases e : p.1 = k
    · have e' : q.1 = k := h1.symm.trans e
      have b : atKey (q :: qs) k = some q.2 := by simp [atKey, List.find?_cons, e']
      rw [valV_pos e, b]; exact h2
    · have e' : ¬ q.1 = k := fun z => e (h1.trans z)
      have b : atKey (q :: qs) k = atKey qs k := by simp [atKey, List.find?_cons, e']
      rw [valV_neg e, b]; exact ih
theorem NT.repl {H : Hp} {kvs : List (NK × V)} {xs : List (NK × Addr × Value)} (r : NT H kvs xs) (k : NK) {y : V} {u : Value} (ry : RelV y u) :
    NT H (kvs.map fun kv => if kv.1 = k then (kv.1, y) else kv) (xs.map (putAt k u)) := by
  induction r with
  | nil => exact .nil
  | @cons p q ps qs h t ih =>
    rw [List.map_cons, List.map_cons]
    refine .cons ?_ ih
    obtain ⟨h1, h2, h3⟩ := h
    unfold putAt
    by_cases e : p.1 = k
    · rw [if_pos e, if_pos (h1.symm.trans e)]; exact ⟨h1, h2, ry⟩
    · rw [if_neg e, if_neg (fun z => e (h1.trans z))]; exact ⟨h1, h2, h3⟩
theorem NT.put {H : Hp} {kvs : List (NK × V)} {xs : List (NK × Addr × Value)} (r : NT H kvs xs) (k : NK) {b c : Addr} {y : V} {u : Value} (hb : H b = some (.tup [kV k.1, .ref c])) (hc : H c = some (.tup (k.2.map kV))) (ry : RelV y u) :
    NT H (putK kvs k y) (storedH xs k b u) := by
  have e : (kvs.any fun kv => decide (kv.1 = k)) = (atKey xs k).isSome := by
    rw [valV_any, (r.val k).isSome_eq, Option.isSome_map]
  unfold putK storedH
  rw [e]
  by_cases q : (atKey xs k).isSome = true
  · rw [if_pos q, if_pos q]; exact r.repl k ry
  · rw [if_neg q, if_neg q]; exact Paired.snoc r ⟨rfl, ⟨c, hb, hc⟩, ry⟩
theorem NT.keeps {H H' : Hp} {kvs : List (NK × V)} {xs : List (NK × Addr × Value)} (r : NT H kvs xs) (ht : ∀ b ys, H b = some (.tup ys) → H' b = some (.tup ys)) : NT H' kvs xs :=
  Paired.mapP r fun _ _ z => ⟨z.1, z.2.1.imp fun _ q => ⟨ht _ _ q.1, ht _ _ q.2⟩, z.2.2⟩
section
variable (P : Program) (w : World)
def nestO (a : Addr) (xs : List (NK × Addr × Value)) : HO := .ext fun h => xs.length ≤ sizeLine ∧ (a == sysModules) = false ∧
  ∃ o es ep, h.get? a = some o ∧ o.ExactDict ∧ o.data = .dict es ep ∧ es.toList = xs.map (entryOfKey (nestKind (mixKind P w))) ∧ (xs.map (·.1)).Nodup
/-- the dict at a, by what it holds -/
def DN (H : Hp) (a : Addr) (kvs : List (NK × V)) : Prop := ∃ xs, H a = some (nestO P w a xs) ∧ NT H kvs xs
end
section
variable {P : Program} {w : World} {H : Hp} {h : Heap} {a : Addr}
theorem nestO_ok {H : Hp} {xs : List (NK × Addr × Value)} {o : Obj} {es : Array DictEntry} {ep : Nat} (z : xs.length ≤ sizeLine) (y : (a == sysModules) = false) (h1 : h.get? a = some o) (h2 : o.ExactDict) (h3 : o.data = .dict es ep) (h4 : es.toList = xs.map (entryOfKey (nestKind (mixKind P w)))) (h5 : (xs.map (·.1)).Nodup) :
    ObjOk P w H h a (nestO P w a xs) := by
  refine ⟨⟨z, y, o, es, ep, h1, h2, h3, h4, h5⟩, ⟨o, h1⟩, ?_⟩
  rintro g1 g2 ⟨z, y, o, es, ep, q1, q⟩ k
  exact ⟨z, y, o, es, ep, k _ q1, q⟩
theorem nkey_of {k : NK} {b c : Addr} (ok : HOk P w H h) (e : H b = some (.tup [kV k.1, .ref c])) (e2 : H c = some (.tup (k.2.map kV))) : (nestKind (mixKind P w)).is h k b := by
  obtain ⟨_, its, r, o, h1, h2, n, h3⟩ := (show ObjOk P w H h b (.tup [kV k.1, .ref c]) from ok b _ e)
  cases r with
  | cons r1 r =>
    cases r with
    | cons r2 r =>
      cases r
      rename_i v1 v2
      obtain rfl : v2 = Value.ref c := r2
      exact ⟨o, _, n, v1, c, h1, h2, h3, by simp, kV_is r1, key_of ok e2⟩
theorem DN.dict {kvs : List (NK × V)} (ok : HOk P w H h) (e : DN P w H a kvs) : (a == sysModules) = false ∧ ∃ xs, xs.length ≤ sizeLine ∧ NT H kvs xs ∧ h.DictOfH (nestKind (mixKind P w)) a xs := by
  obtain ⟨xs, e, r⟩ := e
  obtain ⟨⟨z, y, o, es, ep, h1, h2, h3, h4, h5⟩, _, _⟩ := (show ObjOk P w H h a (nestO P w a xs) from ok a _ e)
  refine ⟨y, xs, z, r, o, es, ep, h1, h2, h3, h4, fun x hx => ?_, h5⟩
  have all : ∀ {l : List (NK × V)} {m : List (NK × Addr × Value)}, NT H l m → ∀ x ∈ m, (nestKind (mixKind P w)).is h x.1 x.2.1 := by
    intro l m q
    induction q with
    | nil => intro x hx; exact nomatch hx
    | @cons p q ps qs hq t ih =>
      intro x hx
      rcases List.mem_cons.mp hx with e | hx
      · subst e
        obtain ⟨b, q1, q2⟩ := hq.2.1
        rw [hq.1] at q1 q2
        exact nkey_of ok q1 q2
      · exact ih x hx
  exact all r x hx
end
section
variable {X : Cx} {pins : List (Addr × Obj)} {σ : L2.St} {H : Hp} {s : Shared} {a b c : Addr} {v : V} {u r : Value} {k : NK} {kvs : List (NK × V)} {A : Around} {E : Value → Shared → Prop}
theorem n_getItem {Q : Value → Shared → Prop} (hu : A.units + 5 < cLine) (I : Inv X pins σ H s) (g : DN X.prog X.w H a kvs) (eb : H b = some (.tup [kV k.1, .ref c])) (ec : H c = some (.tup (k.2.map kV))) (hv : valV kvs k = some v) (h : ∀ w' s', Inv X pins σ H s' → RelV v w' → Q w' s') :
    wpAny (model X.prog X.w) A (getItem (.ref a) (.ref b)) Q E s := by
  obtain ⟨hd, xs, z, rel, dd⟩ := g.dict I.hok
  obtain ⟨w', hw, rw'⟩ := RelO.some_of (v := v) (o := (atKey xs k).map (·.2)) (by rw [← hv]; exact rel.val k)
  obtain ⟨p, hp, hp2⟩ := Option.map_eq_some_iff.mp hw
  refine wpAny_getItem_heap (show A.units + 1 + 4 < cLine by omega) (nkey_of I.hok eb ec) dd hp ?_
  rw [hp2]
  exact h w' _ (I.tok _) rw'
theorem n_notIn {Q : Value → Shared → Prop} (hu : A.units + 5 < cLine) (I : Inv X pins σ H s) (g : DN X.prog X.w H a kvs) (eb : H b = some (.tup [kV k.1, .ref c])) (ec : H c = some (.tup (k.2.map kV))) (h : ∀ s', Inv X pins σ H s' → Q (.bool (!(valV kvs k).isSome)) s') :
    wpAny (model X.prog X.w) A (compareOp .NotIn (.ref b) (.ref a)) Q E s := by
  obtain ⟨hd, xs, z, rel, dd⟩ := g.dict I.hok
  refine wpAny_notIn_heap (show A.units + 1 + 4 < cLine by omega) (nkey_of I.hok eb ec) hd dd ?_
  have q := (rel.val k).isSome_eq
  rw [Option.isSome_map] at q
  rw [← q]
  exact h _ (I.tok _)
theorem n_setItem {Q : Unit → Shared → Prop} (hu : A.units + 5 < cLine) (I : Inv X pins σ H s) (g : DN X.prog X.w H a kvs) (eb : H b = some (.tup [kV k.1, .ref c])) (ec : H c = some (.tup (k.2.map kV))) (hl : kvs.length < sizeLine) (rv : RelV v r)
    (h : ∀ xs s', NT (upd H a (nestO X.prog X.w a xs)) (putK kvs k v) xs → Inv X pins σ (upd H a (nestO X.prog X.w a xs)) s' → Q () s') :
    wpAny (model X.prog X.w) A (setItem (.ref a) (.ref b) r) Q E s := by
  obtain ⟨xs0, e0, _⟩ := id g
  obtain ⟨hd, xs, z, rel, dd⟩ := g.dict I.hok
  have hl2 := length_putK kvs k v
  refine wpAny_setItem_heap (hsz := z) (show A.units + 1 + 4 < cLine by omega) (nkey_of I.hok eb ec) dd fun h' dd' hs => h (storedH xs k b r) _ ?_ ?_
  · refine (rel.put k eb ec rv).keeps fun c ys ec => ?_
    rw [upd_ne (ne_of ec e0 (fun z => nomatch z))]
    exact ec
  · obtain ⟨q, es, ep, hq, h2, h3, h4, _, h5⟩ := dd'
    have hlen : (storedH xs k b r).length ≤ sizeLine := by
      have := Paired.length (rel.put k eb ec rv)
      omega
    exact d_write I (by rw [e0]; exact True.intro) hs ⟨q, hq⟩ (nestO_ok hlen hd hq h2 h3 h4 h5)
end
theorem DN.same {P : Program} {w : World} {H G : Hp} {a : Addr} {kvs : List (NK × V)} (d : DN P w H a kvs) (e : Same H G) : DN P w G a kvs := by
  obtain ⟨xs, h, r⟩ := d
  exact ⟨xs, e _ _ h, r.keeps fun b ys q => e _ _ q⟩
/-- {}, to be such a dict -/
def tNNew (P : Program) (w : World) : TE := fun _ H Q => ∀ p, H p = none → Q (.ref p) (upd H p (nestO P w p []))
def tNGet (P : Program) (w : World) (td ty : TE) : TE := fun σ H Q => td σ H fun x H1 => ty σ H1 fun y H2 => ∃ a b c k kvs v, x = .ref a ∧ y = .ref b ∧ DN P w H2 a kvs ∧ H2 b = some (.tup [kV k.1, .ref c]) ∧ H2 c = some (.tup (k.2.map kV)) ∧ valV kvs k = some v ∧ Q v H2
def tNNotIn (P : Program) (w : World) (ty td : TE) : TE := fun σ H Q => ty σ H fun y H1 => td σ H1 fun x H2 => ∃ a b c k kvs, x = .ref a ∧ y = .ref b ∧ DN P w H2 a kvs ∧ H2 b = some (.tup [kV k.1, .ref c]) ∧ H2 c = some (.tup (k.2.map kV)) ∧ Q (.bl (!(valV kvs k).isSome)) H2
def sNPut (P : Program) (w : World) (td ty tv : TE) : TS := fun D σ H => tv σ H fun v H1 => td σ H1 fun x H2 => ty σ H2 fun y H3 => ∃ a b c k kvs, x = .ref a ∧ y = .ref b ∧ DN P w H3 a kvs ∧ H3 b = some (.tup [kV k.1, .ref c]) ∧ H3 c = some (.tup (k.2.map kV)) ∧ kvs.length < sizeLine ∧
  ∀ xs, NT (upd H3 a (nestO P w a xs)) (putK kvs k v) xs → D.nx σ (upd H3 a (nestO P w a xs))
theorem DN.typeIs {X : Cx} {pins : List (Addr × Obj)} {σ : L2.St} {H : Hp} {s : Shared} {a : Addr} {kvs : List (NK × V)} (I : Inv X pins σ H s) (g : DN X.prog X.w H a kvs) : s.TypeIs (.ref a) "dict" := by
  obtain ⟨_, xs, _, _, dd⟩ := g.dict I.hok
  exact dd.typeIs
section
variable {X : Cx} {o i e value : Expr} {pos pos' tpos : Pos} {td ty tv : TE}
theorem pe_nnew : PE X (.Dict [] [] pos) (tNNew X.prog X.w) := ⟨fun pins s σ H Q I h =>
  wpAny_Dict_empty ⟨.ref s.heap.objs.size, _, I.laid (a := s.heap.objs.size) (o := nestO X.prog X.w s.heap.objs.size []) (t' := s.toks) (fun _ _ q => Heap.get?_push_of_some _ q) (Nat.le_refl _)
    (nestO_ok (Nat.zero_le _) (beq_eq_false_iff_ne.mpr (Ne.symm (Nat.ne_of_lt I.big))) (Heap.get?_push_size _ rfl) ⟨rfl, rfl, rfl⟩ rfl rfl List.nodup_nil), rfl, h _ (I.hok.fresh (Nat.le_refl _))⟩⟩
theorem pe_nget (hu : X.A.units + 5 < cLine) (ho : PE X o td) (hi : PE X i ty) (hs : NoSl i) : PE X (.Subscript o i pos) (tNGet X.prog X.w td ty) := by
  refine ⟨fun pins s σ H Q I h => ?_⟩
  refine subD_of PySem.F.slot_dict_getitem.lookup hs (thn (ho.run pins s σ H _ I h) fun u s1 ⟨x, H1, I1, rx, q1⟩ => thn (hi.run pins s1 σ H1 _ I1 q1) fun iv s2 ⟨y, H2, I2, ry, a, b, c, k, kvs, v, ex, ey, g, eb, ec, hv, q2⟩ => ?_)
  subst ex ey
  obtain rfl : u = Value.ref a := rx
  obtain rfl : iv = Value.ref b := ry
  exact ⟨g.typeIs I2, n_getItem hu I2 g eb ec hv fun w' s3 I3 rw' => ⟨v, H2, I3, rw', q2⟩⟩
theorem pc_nnotin (hu : X.A.units + 5 < cLine) (hi : PE X i ty) (ho : PE X o td) : PC X .NotIn i o (tNNotIn X.prog X.w ty td) := by
  refine ⟨fun pins s σ H Q I h => ?_⟩
  refine thn (hi.run pins s σ H _ I h) fun iv s1 ⟨y, H1, I1, ry, q1⟩ => thn (ho.run pins s1 σ H1 _ I1 q1) fun u s2 ⟨x, H2, I2, rx, a, b, c, k, kvs, ex, ey, g, eb, ec, q2⟩ => ?_
  subst ex ey
  obtain rfl : u = Value.ref a := rx
  obtain rfl : iv = Value.ref b := ry
  exact n_notIn hu I2 g eb ec fun s3 I3 => ⟨.bl (!(valV kvs k).isSome), H2, I3, rfl, q2⟩
theorem ps_nput (hu : X.A.units + 5 < cLine) (ho : PE X o td) (hi : PE X i ty) (hv : PE X value tv) (hs : swapsWith value (some (.Subscript o i pos')) pos.line X.env = pure false) :
    PS X (.Assign [.Subscript o i pos'] value pos) (sNPut X.prog X.w td ty tv) := by
  refine ⟨fun pins s σ H D I h => ?_⟩
  refine wpAny_Assign_Subscript (thn (hv.run pins s σ H _ I h) fun r s1 ⟨v, H1, I1, rv, q1⟩ => thn (ho.run pins s1 σ H1 _ I1 q1) fun u s2 ⟨x, H2, I2, rx, q2⟩ => thn (hi.run pins s2 σ H2 _ I2 q2) fun iv s3 ⟨y, H3, I3, ry, a, b, c, k, kvs, ex, ey, g, eb, ec, hl, q3⟩ => ?_) hs
  subst ex ey
  obtain rfl : u = Value.ref a := rx
  obtain rfl : iv = Value.ref b := ry
  exact n_setItem hu I3 g eb ec hl rv fun xs s4 r4 I4 => ⟨σ, _, I4, q3 xs r4⟩
end
end Ew
namespace Ew
open PySem PySem.Spec PyProof.Rows L2
/-! ## what an expression is worth -/
def absR (r : Rat) : Rat := if r < 0 then -r else r
def Bw.of (b : Bw) (r s : Rat) : Rat := match b with
  | .add => r + s
  | .sub => r - s
  | .max => if r < s then s else r
  | .min => if s < r then s else r
def Ex.ev (f : Str → Rat → Rat) (v : Rat) : Ex → Rat
  | .x => v
  | .num q => q
  | .abs e => absR (e.ev f v)
  | .mul q e => q * e.ev f v
  | .call n e => f n (e.ev f v)
  | .bin b l r => b.of (l.ev f v) (r.ev f v)
def fnOf : List (Str × Ex) → Str → Rat → Rat
  | [], _, _ => 0
  | (n, e) :: bs, m, v => if m = n then e.ev (fnOf bs) v else fnOf bs m v
/-! ### a value is (A v + B) / C -/
def Wid (m : Nat) (v r : Rat) : Prop := ∃ A B : Int, ∃ C : Nat, 0 < C ∧ C ≤ 2 ^ m ∧ A.natAbs + B.natAbs ≤ 2 ^ m ∧ r * (C : Rat) = (A : Rat) * v + (B : Rat)
theorem Wid.le {m k : Nat} {v r : Rat} (h : Wid m v r) (hm : m ≤ k) : Wid k v r := by
  obtain ⟨A, B, C, h0, h1, h2, h3⟩ := h
  have p : 2 ^ m ≤ 2 ^ k := Nat.pow_le_pow_right (by decide) hm
  exact ⟨A, B, C, h0, by omega, by omega, h3⟩
theorem nat_ne {n : Nat} (h : 0 < n) : (n : Rat) ≠ 0 := fun z => by
  have z : n = 0 := by exact_mod_cast z
  omega
theorem rat_md (q : Rat) : q * (q.den : Rat) = (q.num : Rat) := by
  have e : q = (q.num : Rat) / ((q.den : Int) : Rat) := by
    rw [← Rat.divInt_eq_div]
    exact (Rat.num_divInt_den q).symm
  rw [Rat.intCast_natCast] at e
  have d := nat_ne q.den_pos
  generalize (q.den : Rat) = D at e d ⊢
  generalize (q.num : Rat) = N at e ⊢
  subst e
  grind
theorem wid_x (v : Rat) : Wid 0 v v := ⟨1, 0, 1, by decide, by decide, by decide, by simp; grind⟩
theorem wid_zero (v : Rat) : Wid 0 v 0 := ⟨0, 0, 1, by decide, by decide, by decide, by simp; grind⟩
theorem wid_num {q v : Rat} (h : SixFr q) : Wid 20 v q := by
  refine ⟨0, q.num, q.den, q.den_pos, ?_, ?_, ?_⟩
  · have := h.2.2
    have e : (2 : Nat) ^ 20 = 1048576 := by decide
    omega
  · have h1 := h.1
    have h2 := h.2.1
    have e : (2 : Nat) ^ 20 = 1048576 := by decide
    omega
  · rw [rat_md q]
    simp
    grind
theorem Wid.neg {m : Nat} {v r : Rat} (h : Wid m v r) : Wid m v (-r) := by
  obtain ⟨A, B, C, h0, h1, h2, h3⟩ := h
  refine ⟨-A, -B, C, h0, h1, by omega, ?_⟩
  rw [Rat.intCast_neg, Rat.intCast_neg]
  grind
theorem Wid.abs {m : Nat} {v r : Rat} (h : Wid m v r) : Wid m v (absR r) := by
  unfold absR
  split
  · exact h.neg
  · exact h
theorem nat_abs2 (A C A' C' : Int) : (A * C + A' * C').natAbs ≤ A.natAbs * C.natAbs + A'.natAbs * C'.natAbs := by
  have := Int.natAbs_add_le (A * C) (A' * C')
  rw [Int.natAbs_mul, Int.natAbs_mul] at this
  exact this
theorem Wid.add {m k : Nat} {v r s : Rat} (h : Wid m v r) (g : Wid k v s) : Wid (m + k + 1) v (r + s) := by
  obtain ⟨A, B, C, h0, h1, h2, h3⟩ := h
  obtain ⟨A', B', C', g0, g1, g2, g3⟩ := g
  refine ⟨A * C' + A' * C, B * C' + B' * C, C * C', Nat.mul_pos h0 g0, ?_, ?_, ?_⟩
  · have := Nat.mul_le_mul h1 g1
    rw [Nat.pow_succ, Nat.pow_add]
    omega
  · have a1 := nat_abs2 A C' A' C
    have a2 := nat_abs2 B C' B' C
    rw [Int.natAbs_natCast, Int.natAbs_natCast] at a1 a2
    have b1 : (A.natAbs + B.natAbs) * C' ≤ 2 ^ m * 2 ^ k := Nat.mul_le_mul h2 g1
    have b2 : (A'.natAbs + B'.natAbs) * C ≤ 2 ^ k * 2 ^ m := Nat.mul_le_mul g2 h1
    rw [Nat.add_mul] at b1 b2
    rw [Nat.mul_comm (2 ^ k)] at b2
    rw [Nat.pow_succ, Nat.pow_add]
    omega
  · simp only [Rat.intCast_add, Rat.intCast_mul, Rat.natCast_mul, Rat.intCast_natCast]
    grind
theorem Wid.sub {m k : Nat} {v r s : Rat} (h : Wid m v r) (g : Wid k v s) : Wid (m + k + 1) v (r - s) := by
  rw [Rat.sub_eq_add_neg]
  exact h.add g.neg
theorem Wid.comp {m k : Nat} {v r s : Rat} (h : Wid m v r) (g : Wid k r s) : Wid (k + m) v s := by
  obtain ⟨A, B, C, h0, h1, h2, h3⟩ := h
  obtain ⟨A', B', C', g0, g1, g2, g3⟩ := g
  refine ⟨A' * A, A' * B + B' * C, C' * C, Nat.mul_pos g0 h0, ?_, ?_, ?_⟩
  · rw [Nat.pow_add]
    exact Nat.mul_le_mul g1 h1
  · have a2 := nat_abs2 A' B B' C
    rw [Int.natAbs_natCast] at a2
    rw [Int.natAbs_mul, Nat.pow_add]
    have b1 : A'.natAbs * (A.natAbs + B.natAbs) ≤ A'.natAbs * 2 ^ m := Nat.mul_le_mul_left _ h2
    have b2 : B'.natAbs * C ≤ B'.natAbs * 2 ^ m := Nat.mul_le_mul_left _ h1
    have b3 : (A'.natAbs + B'.natAbs) * 2 ^ m ≤ 2 ^ k * 2 ^ m := Nat.mul_le_mul_right _ g2
    rw [Nat.mul_add] at b1
    rw [Nat.add_mul] at b3
    omega
  · simp only [Rat.intCast_add, Rat.intCast_mul, Rat.natCast_mul, Rat.intCast_natCast]
    grind
theorem Wid.mul {m : Nat} {v r q : Rat} (h : Wid m v r) (g : SixFr q) : Wid (20 + m) v (q * r) := by
  have l : Wid 20 r (q * r) := by
    refine ⟨q.num, 0, q.den, q.den_pos, ?_, ?_, ?_⟩
    · have := g.2.2
      have e : (2 : Nat) ^ 20 = 1048576 := by decide
      omega
    · have h1 := g.1
      have h2 := g.2.1
      have e : (2 : Nat) ^ 20 = 1048576 := by decide
      omega
    · have e := rat_md q
      rw [← e]
      simp
      grind
  exact h.comp l
theorem Wid.bin {b : Bw} {m k : Nat} {v r s : Rat} (h : Wid m v r) (g : Wid k v s) : Wid (m + k + 1) v (b.of r s) := by
  cases b with
  | add => exact h.add g
  | sub => exact h.sub g
  | max =>
    show Wid _ v (if r < s then s else r)
    split
    · exact g.le (by omega)
    · exact h.le (by omega)
  | min =>
    show Wid _ v (if s < r then s else r)
    split
    · exact g.le (by omega)
    · exact h.le (by omega)
/-- how long its numbers are -/
theorem Wid.sz {m n : Nat} {v r : Rat} (h : Wid m v r) (z : Sz n v) : Sz (m + n) r := by
  obtain ⟨A, B, C, h0, h1, h2, h3⟩ := h
  have hc : ((C : Int) * (v.den : Int)) ≠ 0 := Int.mul_ne_zero (by omega) (den_ne v)
  have e : r = Rat.divInt (A * v.num + B * v.den) ((C : Int) * v.den) := by
    have c0 := nat_ne h0
    have d0 := nat_ne v.den_pos
    rw [Rat.divInt_eq_div]
    simp only [Rat.intCast_add, Rat.intCast_mul, Rat.intCast_natCast]
    have dn := rat_md v
    rw [← dn]
    grind
  rw [e]
  refine sz_div hc ?_ ?_
  · have a := nat_abs2 A v.num B v.den
    rw [Int.natAbs_natCast] at a
    have n1 := z.num
    have n2 := z.den
    rw [Nat.pow_add]
    have p : 0 < 2 ^ n := Nat.pow_pos (by decide)
    have b1 : A.natAbs * v.num.natAbs ≤ A.natAbs * (2 ^ n - 1) := Nat.mul_le_mul_left _ (by omega)
    have b2 : B.natAbs * v.den ≤ B.natAbs * (2 ^ n - 1) := Nat.mul_le_mul_left _ (by omega)
    have b3 : (A.natAbs + B.natAbs) * (2 ^ n - 1) ≤ 2 ^ m * (2 ^ n - 1) := Nat.mul_le_mul_right _ h2
    rw [Nat.add_mul] at b3
    have p2 : 0 < 2 ^ m := Nat.pow_pos (by decide)
    have b4 : 2 ^ m * (2 ^ n - 1) < 2 ^ m * 2 ^ n := Nat.mul_lt_mul_of_pos_left (by omega) p2
    omega
  · rw [Int.natAbs_mul, Int.natAbs_natCast, Int.natAbs_natCast, Nat.pow_add]
    have n2 := z.den
    have p2 : 0 < 2 ^ m := Nat.pow_pos (by decide)
    exact Nat.lt_of_le_of_lt (Nat.mul_le_mul_right _ h1) (Nat.mul_lt_mul_of_pos_left n2 p2)
end Ew
namespace Ew
open PySem PySem.Spec PyProof.Rows L2
/-! ## names with bodies, the later ones first -/
def Ex.wd (g : Str → Nat) : Ex → Nat
  | .x => 0
  | .num _ => 20
  | .abs e => e.wd g
  | .mul _ e => 20 + e.wd g
  | .call n e => g n + e.wd g
  | .bin _ l r => l.wd g + r.wd g + 1
def gOf : List (Str × Ex) → Str → Nat
  | [], _ => 0
  | (n, e) :: bs, m => if m = n then e.wd (gOf bs) else gOf bs m
def rk : List (Str × Ex) → Str → Nat
  | [], _ => 0
  | (n, e) :: bs, m => if m = n then bs.length + 1 else rk bs m
def Wf : List (Str × Ex) → Prop
  | [] => True
  | (n, e) :: bs => e.dep ≤ 3 ∧ e.Of (· ∈ bs.map Prod.fst) SixFr ∧ n ∉ bs.map Prod.fst ∧ Wf bs
theorem wid_ev {f : Str → Rat → Rat} {g : Str → Nat} {N : Str → Prop} (hf : ∀ n v, Wid (g n) v (f n v)) {v : Rat} : ∀ {e : Ex}, e.Of N SixFr → Wid (e.wd g) v (e.ev f v)
  | .x, _ => wid_x v
  | .num q, h => wid_num h
  | .abs e, h => (wid_ev (e := e) hf h).abs
  | .mul q e, h => (wid_ev (e := e) hf h.2).mul h.1
  | .call n e, h => (wid_ev (e := e) hf h.2).comp (hf n _)
  | .bin b l r, h => (wid_ev (e := l) hf h.1).bin (wid_ev (e := r) hf h.2)
theorem wid_fn : ∀ {bs : List (Str × Ex)}, Wf bs → ∀ n v, Wid (gOf bs n) v (fnOf bs n v)
  | [], _, n, v => wid_zero v
  | (m, e) :: bs, h, n, v => by
    have ih := wid_fn h.2.2.2
    show Wid (if n = m then _ else _) v (if n = m then _ else _)
    split
    · exact wid_ev ih h.2.1
    · exact ih n v
theorem Ex.calls_of {N : Str → Prop} {F : Rat → Prop} : ∀ {e : Ex}, e.Of N F → ∀ n ∈ e.calls, N n
  | .x, _, n, hn => (nomatch hn)
  | .num q, _, n, hn => (nomatch hn)
  | .abs e, h, n, hn => Ex.calls_of (e := e) h n hn
  | .mul q e, h, n, hn => Ex.calls_of (e := e) h.2 n hn
  | .call m e, h, n, hn => by
    rcases List.mem_cons.mp hn with rfl | hn
    · exact h.1
    · exact Ex.calls_of (e := e) h.2 n hn
  | .bin b l r, h, n, hn => by
    rcases List.mem_append.mp hn with hn | hn
    · exact Ex.calls_of (e := l) h.1 n hn
    · exact Ex.calls_of (e := r) h.2 n hn
theorem ev_congr {f f' : Str → Rat → Rat} {v : Rat} : ∀ {e : Ex}, (∀ n ∈ e.calls, ∀ v, f n v = f' n v) → e.ev f v = e.ev f' v
  | .x, _ => rfl
  | .num q, _ => rfl
  | .abs e, h => congrArg absR (ev_congr (e := e) h)
  | .mul q e, h => congrArg (q * ·) (ev_congr (e := e) h)
  | .call m e, h => by
    show f m _ = f' m _
    rw [ev_congr (e := e) fun n hn => h n (List.mem_cons_of_mem _ hn), h m List.mem_cons_self]
  | .bin b l r, h => by
    show b.of _ _ = b.of _ _
    rw [ev_congr (e := l) fun n hn => h n (List.mem_append_left _ hn), ev_congr (e := r) fun n hn => h n (List.mem_append_right _ hn)]
theorem wd_congr {g g' : Str → Nat} : ∀ {e : Ex}, (∀ n ∈ e.calls, g n = g' n) → e.wd g = e.wd g'
  | .x, _ => rfl
  | .num q, _ => rfl
  | .abs e, h => wd_congr (e := e) h
  | .mul q e, h => congrArg (20 + ·) (wd_congr (e := e) h)
  | .call m e, h => by
    show g m + _ = g' m + _
    rw [wd_congr (e := e) fun n hn => h n (List.mem_cons_of_mem _ hn), h m List.mem_cons_self]
  | .bin b l r, h => by
    show _ + _ + 1 = _ + _ + 1
    rw [wd_congr (e := l) fun n hn => h n (List.mem_append_left _ hn), wd_congr (e := r) fun n hn => h n (List.mem_append_right _ hn)]
theorem rk_le : ∀ (bs : List (Str × Ex)) (n : Str), rk bs n ≤ bs.length
  | [], n => Nat.le_refl _
  | (m, e) :: bs, n => by
    have := rk_le bs n
    show (if n = m then bs.length + 1 else rk bs n) ≤ bs.length + 1
    split <;> omega
/-- a name's body: what it is worth, how wide it is, that it calls names behind it -/
structure Body (bs : List (Str × Ex)) (n : Str) (e : Ex) : Prop where
  val : ∀ v, fnOf bs n v = e.ev (fnOf bs) v
  wide : gOf bs n = e.wd (gOf bs)
  dep : e.dep ≤ 3
  of : e.Of (· ∈ bs.map Prod.fst) SixFr
  rank : ∀ m ∈ e.calls, rk bs m < rk bs n
theorem body_of : ∀ {bs : List (Str × Ex)}, Wf bs → ∀ {n : Str} {e : Ex}, (n, e) ∈ bs → Body bs n e
  | [], _, n, e, h => (nomatch h)
  | (m, d) :: bs, w, n, e, h => by
    have keep : ∀ k ∈ bs.map Prod.fst, k ≠ m := fun k hk a => w.2.2.1 (a ▸ hk)
    have ff : ∀ k ∈ bs.map Prod.fst, ∀ v, fnOf bs k v = fnOf ((m, d) :: bs) k v := fun k hk v => by
      show _ = (if k = m then _ else _)
      rw [if_neg (keep k hk)]
    have gg : ∀ k ∈ bs.map Prod.fst, gOf bs k = gOf ((m, d) :: bs) k := fun k hk => by
      show _ = (if k = m then _ else _)
      rw [if_neg (keep k hk)]
    have rr : ∀ k ∈ bs.map Prod.fst, rk ((m, d) :: bs) k = rk bs k := fun k hk => by
      show (if k = m then _ else _) = _
      rw [if_neg (keep k hk)]
    rcases List.mem_cons.mp h with h | h
    · injection h with h1 h2
      subst h1 h2
      have cl := Ex.calls_of w.2.1
      refine ⟨fun v => ?_, ?_, w.1, w.2.1.imp (fun k hk => List.mem_cons_of_mem _ hk) (fun _ q => q), fun k hk => ?_⟩
      · show (if n = n then _ else _) = _
        rw [if_pos rfl]
        exact ev_congr fun k hk v => ff k (cl k hk) v
      · show (if n = n then _ else _) = _
        rw [if_pos rfl]
        exact wd_congr fun k hk => gg k (cl k hk)
      · rw [rr k (cl k hk)]
        show _ < (if n = n then _ else _)
        rw [if_pos rfl]
        have := rk_le bs k
        omega
    · have b := body_of w.2.2.2 h
      have nm : n ∈ bs.map Prod.fst := List.mem_map.mpr ⟨_, h, rfl⟩
      have cl := Ex.calls_of b.of
      refine ⟨fun v => ?_, ?_, b.dep, b.of.imp (fun k hk => List.mem_cons_of_mem _ hk) (fun _ q => q), fun k hk => ?_⟩
      · rw [← ff n nm v, b.val v]
        exact ev_congr fun k hk v => ff k (cl k hk) v
      · rw [← gg n nm, b.wide]
        exact wd_congr fun k hk => gg k (cl k hk)
      · rw [rr k (cl k hk), rr n nm]
        exact b.rank k hk
/-! ### how wide -/
def tB (G : Nat) : Nat → Nat
  | 0 => 20
  | 1 => 20
  | d + 2 => Nat.max (2 * tB G (d + 1) + 1) (G + tB G (d + 1))
theorem tB_up (G d : Nat) : tB G d ≤ tB G (d + 1) := by
  match d with
  | 0 => exact Nat.le_refl _
  | d + 1 =>
    show _ ≤ Nat.max _ _
    exact Nat.le_trans (by omega) (Nat.le_max_left (2 * tB G (d + 1) + 1) _)
theorem tB_20 (G : Nat) : ∀ d, 20 ≤ tB G d
  | 0 => Nat.le_refl _
  | d + 1 => Nat.le_trans (tB_20 G d) (tB_up G d)
theorem tB_mono (G : Nat) {c d : Nat} (h : c ≤ d) : tB G c ≤ tB G d := by
  induction h with
  | refl => exact Nat.le_refl _
  | step _ ih => exact Nat.le_trans ih (tB_up G _)
theorem wd_le {g : Str → Nat} {G : Nat} : ∀ {d : Nat} {e : Ex}, e.dep ≤ d → (∀ n ∈ e.calls, g n ≤ G) → e.wd g ≤ tB G d
  | 0, e, h, _ => by have := e.dep_pos; omega
  | d, .x, _, _ => Nat.zero_le _
  | d, .num q, _, _ => tB_20 G d
  | d + 1, .abs e, h, hn => Nat.le_trans (wd_le (d := d) (e := e) (by simp [Ex.dep] at h; omega) hn) (tB_up G d)
  | d + 1, .mul q e, h, hn => by
    simp [Ex.dep] at h
    have := e.dep_pos
    obtain ⟨c, rfl⟩ : ∃ c, d = c + 1 := ⟨d - 1, by omega⟩
    have ih := wd_le (d := c + 1) (e := e) (g := g) (G := G) (by omega) hn
    have t := tB_20 G (c + 1)
    exact Nat.le_trans (show 20 + e.wd g ≤ 2 * tB G (c + 1) + 1 by omega) (Nat.le_max_left _ _)
  | d + 1, .call n e, h, hn => by
    simp [Ex.dep] at h
    have := e.dep_pos
    obtain ⟨c, rfl⟩ : ∃ c, d = c + 1 := ⟨d - 1, by omega⟩
    have ih := wd_le (d := c + 1) (e := e) (g := g) (G := G) (by omega) (fun m hm => hn m (List.mem_cons_of_mem _ hm))
    have g1 := hn n List.mem_cons_self
    exact Nat.le_trans (show g n + e.wd g ≤ G + tB G (c + 1) by omega) (Nat.le_max_right _ _)
  | d + 1, .bin b l r, h, hn => by
    have h1 : l.dep ≤ d := Nat.le_trans (Nat.le_max_left l.dep r.dep) (Nat.le_of_succ_le_succ h)
    have h2 : r.dep ≤ d := Nat.le_trans (Nat.le_max_right l.dep r.dep) (Nat.le_of_succ_le_succ h)
    have := l.dep_pos
    obtain ⟨c, rfl⟩ : ∃ c, d = c + 1 := ⟨d - 1, by omega⟩
    have i1 := wd_le (d := c + 1) (e := l) (g := g) (G := G) h1 (fun m hm => hn m (List.mem_append_left _ hm))
    have i2 := wd_le (d := c + 1) (e := r) (g := g) (G := G) h2 (fun m hm => hn m (List.mem_append_right _ hm))
    exact Nat.le_trans (show l.wd g + r.wd g + 1 ≤ 2 * tB G (c + 1) + 1 by omega) (Nat.le_max_left _ _)
def gB : Nat → Nat
  | 0 => 0
  | k + 1 => tB (gB k) 3
theorem gB_up (k : Nat) : gB k ≤ gB (k + 1) := Nat.le_trans (Nat.le_add_right _ _) (Nat.le_max_right (2 * tB (gB k) 2 + 1) (gB k + tB (gB k) 2))
theorem gOf_le : ∀ {bs : List (Str × Ex)}, Wf bs → ∀ n, gOf bs n ≤ gB bs.length
  | [], _, n => Nat.le_refl _
  | (m, e) :: bs, w, n => by
    have ih := gOf_le w.2.2.2
    show (if n = m then _ else _) ≤ gB (bs.length + 1)
    split
    · exact wd_le w.1 fun k _ => ih k
    · exact Nat.le_trans (ih n) (gB_up _)
theorem wd_main {bs : List (Str × Ex)} (w : Wf bs) (hl : bs.length ≤ 4) {e : Ex} (h : e.dep ≤ 4) : e.wd (gOf bs) ≤ 3887 := by
  have m : ∀ k, k ≤ 4 → gB k ≤ gB 4 := fun k hk => by
    rcases Nat.lt_or_ge k 4 with a | a
    · rcases (by omega : k = 0 ∨ k = 1 ∨ k = 2 ∨ k = 3) with rfl | rfl | rfl | rfl <;> decide
    · rw [show k = 4 by omega]
      exact Nat.le_refl _
  have g4 : gB 4 = 951 := by decide
  have t : tB 951 4 = 3887 := by decide
  rw [← t]
  refine wd_le h fun n _ => ?_
  have := gOf_le w n
  have := m _ hl
  omega
end Ew
namespace Ew
open PySem PySem.Spec PyProof.Rows L2
theorem six_sz {q : Rat} (h : SixFr q) : Sz 20 q := by
  obtain ⟨h1, h2, h3⟩ := h
  have e : (2 : Nat) ^ 20 = 1048576 := by decide
  exact ⟨by omega, by omega⟩
theorem qV_abs (r : Rat) : qV (absR r) = [.int (r.num.natAbs : Int), .int (r.den : Int)] := by
  have l := rat_low r
  have l2 : Low (r.num.natAbs : Int) (r.den : Int) := ⟨by rw [Int.natAbs_natCast]; exact l.1, l.2⟩
  rw [qV_of l2]
  congr 1
  rw [Rat.divInt_eq_div, Rat.intCast_natCast, Rat.intCast_natCast]
  have e := rat_md r
  have d := nat_ne r.den_pos
  have p : (0 : Rat) < (r.den : Rat) := by exact_mod_cast r.den_pos
  have c : ((r.num.natAbs : Nat) : Rat) = absR r * (r.den : Rat) := by
    unfold absR
    split
    · rename_i h
      have n0 : ¬ 0 ≤ r.num := fun z => by
        have z : (0 : Rat) ≤ (r.num : Rat) := by exact_mod_cast z
        rw [← e] at z
        have := Rat.mul_lt_mul_of_pos_right h p
        grind
      have n1 : ((r.num.natAbs : Nat) : Int) = -r.num := by omega
      have n2 : ((r.num.natAbs : Nat) : Rat) = ((-r.num : Int) : Rat) := by rw [← n1]; exact (Rat.intCast_natCast _).symm
      rw [n2, Rat.intCast_neg]
      grind
    · rename_i h
      have n0 : 0 ≤ r.num := by
        have z : (0 : Rat) ≤ r * (r.den : Rat) := Rat.mul_nonneg (by grind) (by grind)
        rw [e] at z
        exact_mod_cast z
      have n1 : ((r.num.natAbs : Nat) : Int) = r.num := by omega
      have n2 : ((r.num.natAbs : Nat) : Rat) = ((r.num : Int) : Rat) := by rw [← n1]; exact (Rat.intCast_natCast _).symm
      rw [n2]
      exact e.symm
  rw [c]
  grind
theorem rk_pos : ∀ {bs : List (Str × Ex)} {n : Str}, n ∈ bs.map Prod.fst → 1 ≤ rk bs n
  | [], n, h => (nomatch h)
  | (m, e) :: bs, n, h => by
    show 1 ≤ (if n = m then bs.length + 1 else rk bs n)
    split
    · omega
    · rename_i c
      rcases List.mem_cons.mp h with h | h
      · exact absurd h c
      · exact rk_pos h
/-- a table of the bodies -/
def TabAt (H : Hp) (t : Addr) (bs : List (Str × Ex)) : Prop := ∃ kvs, H t = some (.dK kvs) ∧ ∀ n e, (n, e) ∈ bs → ∃ u, valV kvs (Sum.inr n) = some u ∧ ExAt H e u
theorem TabAt.same {H G : Hp} {t : Addr} {bs : List (Str × Ex)} (h : TabAt H t bs) (s : Same H G) : TabAt G t bs := by
  obtain ⟨kvs, h1, h2⟩ := h
  exact ⟨kvs, s _ _ h1, fun n e m => (h2 n e m).imp fun u q => ⟨q.1, q.2.same s⟩⟩
def namesOf (bs : List (Str × Ex)) (n : Str) : Prop := n ∈ bs.map Prod.fst
theorem has_body {bs : List (Str × Ex)} {n : Str} (h : namesOf bs n) : ∃ e, (n, e) ∈ bs := by
  obtain ⟨⟨m, e⟩, h1, rfl⟩ := List.mem_map.mp h
  exact ⟨e, h1⟩
/-- one number, one expression, one table -/
def EvOk (H : Hp) (bs : List (Str × Ex)) (e : Ex) (u x : V) (v : Rat) (c R : Nat) : Prop :=
  Wf bs ∧ ExAt H e u ∧ QAt H x v ∧ e.Of (namesOf bs) SixFr ∧ Sz c v ∧ e.wd (gOf bs) + c ≤ 3900 ∧ ∀ m ∈ e.calls, rk bs m ≤ R
theorem ev_sz {bs : List (Str × Ex)} {e : Ex} {v : Rat} {c : Nat} (w : Wf bs) (h : e.Of (namesOf bs) SixFr) (z : Sz c v) : Sz (e.wd (gOf bs) + c) (e.ev (fnOf bs) v) := (wid_ev (wid_fn w) h).sz z
end Ew
namespace Ew
open PySem PySem.Spec PyProof.Rows L2
/-! ## the parts of an expression, the inner ones first -/
def Ex.post : Ex → List Ex
  | .x => [.x]
  | .num q => [.num q]
  | .abs e => e.post ++ [.abs e]
  | .mul q e => e.post ++ [.mul q e]
  | .call n e => e.post ++ [.call n e]
  | .bin b l r => l.post ++ r.post ++ [.bin b l r]
theorem Ex.post_eq (e : Ex) : e.post = (e.kids.map Ex.post).flatten ++ [e] := by
  cases e <;> simp [Ex.post, Ex.kids]
theorem Ex.post_len : ∀ e : Ex, e.post.length + 1 ≤ 2 ^ e.dep
  | .x => by show 2 ≤ 2; decide
  | .num _ => by show 2 ≤ 2; decide
  | .abs e => by
    have := Ex.post_len e
    show (e.post ++ [_]).length + 1 ≤ 2 ^ (e.dep + 1)
    rw [Nat.pow_succ, List.length_append]
    show e.post.length + 1 + 1 ≤ _
    have p : 1 ≤ 2 ^ e.dep := Nat.one_le_two_pow
    omega
  | .mul _ e => by
    have := Ex.post_len e
    show (e.post ++ [_]).length + 1 ≤ 2 ^ (e.dep + 1)
    rw [Nat.pow_succ, List.length_append]
    show e.post.length + 1 + 1 ≤ _
    have p : 1 ≤ 2 ^ e.dep := Nat.one_le_two_pow
    omega
  | .call n e => by
    have := Ex.post_len e
    show (e.post ++ [_]).length + 1 ≤ 2 ^ (e.dep + 1)
    rw [Nat.pow_succ, List.length_append]
    show e.post.length + 1 + 1 ≤ _
    have p : 1 ≤ 2 ^ e.dep := Nat.one_le_two_pow
    omega
  | .bin _ l r => by
    have h1 := Ex.post_len l
    have h2 := Ex.post_len r
    show (l.post ++ r.post ++ [_]).length + 1 ≤ 2 ^ (Nat.max l.dep r.dep + 1)
    have p1 : 2 ^ l.dep ≤ 2 ^ Nat.max l.dep r.dep := Nat.pow_le_pow_right (by decide) (Nat.le_max_left _ _)
    have p2 : 2 ^ r.dep ≤ 2 ^ Nat.max l.dep r.dep := Nat.pow_le_pow_right (by decide) (Nat.le_max_right _ _)
    rw [Nat.pow_succ, List.length_append, List.length_append]
    show l.post.length + r.post.length + 1 + 1 ≤ _
    omega
theorem Ex.post_few {e : Ex} {n : Nat} (h : e.dep ≤ n) (hn : n ≤ 13) : e.post.length ≤ 8191 := by
  have h1 := Ex.post_len e
  have h2 : 2 ^ e.dep ≤ 2 ^ 13 := Nat.pow_le_pow_right (by decide) (by omega)
  have h3 : (2 : Nat) ^ 13 = 8192 := by decide
  omega
theorem Ex.post_sub {e k : Ex} {i : Nat} (h : e.kids[i]? = some k) : ((e.kids.take i).map Ex.post).flatten.length + k.post.length + 1 ≤ e.post.length := by
  have hi : i < e.kids.length := (List.getElem?_eq_some_iff.mp h).1
  have e1 : e.kids = e.kids.take i ++ k :: e.kids.drop (i + 1) := by
    have e2 := List.take_append_drop i e.kids
    rw [List.drop_eq_getElem_cons hi] at e2
    rw [← (List.getElem?_eq_some_iff.mp h).2]
    exact e2.symm
  have e3 : (e.kids.map Ex.post).flatten = ((e.kids.take i).map Ex.post).flatten ++ (k.post ++ ((e.kids.drop (i + 1)).map Ex.post).flatten) := by
    conv => lhs; rw [e1]
    simp
  rw [Ex.post_eq e, e3]
  simp only [List.length_append, List.length_cons, List.length_nil]
  omega
theorem post_take {e : Ex} {i : Nat} {k : Ex} (h : e.kids[i]? = some k) : ((e.kids.take (i + 1)).map Ex.post).flatten = ((e.kids.take i).map Ex.post).flatten ++ k.post := by
  rw [List.take_add_one, h]
  simp
end Ew
namespace Ew
open PySem PySem.Spec PyProof.Rows L2
/-! ## the stack of values, as the expressions they are worth -/
def stX (s : List Ex) (p : Ex) : List Ex := s.take (s.length - p.kids.length) ++ [p]
theorem stX_kids (s : List Ex) (p : Ex) : stX (s ++ p.kids) p = s ++ [p] := by
  unfold stX
  rw [List.length_append, Nat.add_sub_cancel, List.take_left]
theorem fold_post : ∀ (e : Ex) (s : List Ex), e.post.foldl stX s = s ++ [e]
  | .x, s => stX_kids s .x ▸ by simp [Ex.post, stX, Ex.kids]
  | .num q, s => by simp [Ex.post, stX, Ex.kids]
  | .abs e, s => by
    show (e.post ++ [_]).foldl stX s = _
    rw [List.foldl_append, fold_post e s]
    exact stX_kids s (.abs e)
  | .mul q e, s => by
    show (e.post ++ [_]).foldl stX s = _
    rw [List.foldl_append, fold_post e s]
    exact stX_kids s (.mul q e)
  | .call n e, s => by
    show (e.post ++ [_]).foldl stX s = _
    rw [List.foldl_append, fold_post e s]
    exact stX_kids s (.call n e)
  | .bin b l r, s => by
    show (l.post ++ r.post ++ [_]).foldl stX s = _
    rw [List.foldl_append, List.foldl_append, fold_post l s, fold_post r, List.append_assoc]
    exact stX_kids s (.bin b l r)
theorem split_app {α : Type} {a b pre suf : List α} {p : α} (h : a ++ b = pre ++ p :: suf) : (∃ t, a = pre ++ p :: t) ∨ ∃ t, pre = a ++ t ∧ b = t ++ p :: suf := by
  rcases List.append_eq_append_iff.mp h with ⟨t, h1, h2⟩ | ⟨t, h1, h2⟩
  · exact .inr ⟨t, h1, h2⟩
  · cases t with
    | nil => exact .inr ⟨[], by simpa using h1.symm, by simpa using h2.symm⟩
    | cons q t =>
      injection h2 with h2 h3
      subst h2
      exact .inl ⟨t, h1⟩
theorem split_one {α : Type} {pre suf : List α} {p q : α} (h : [q] = pre ++ p :: suf) : pre = [] ∧ p = q := by
  cases pre with
  | nil => injection h with h1 h2; exact ⟨rfl, h1.symm⟩
  | cons a t =>
    injection h with h1 h2
    have := congrArg List.length h2
    simp at this
theorem fold_at : ∀ (e : Ex) (s : List Ex) {pre suf : List Ex} {p : Ex}, e.post = pre ++ p :: suf → ∃ s', pre.foldl stX s = s' ++ p.kids
  | .x, s, pre, suf, p, h => by obtain ⟨rfl, rfl⟩ := split_one h; exact ⟨s, by simp [Ex.kids]⟩
  | .num q, s, pre, suf, p, h => by obtain ⟨rfl, rfl⟩ := split_one h; exact ⟨s, by simp [Ex.kids]⟩
  | .abs e, s, pre, suf, p, h => by
    rcases split_app (a := e.post) (b := [.abs e]) h with ⟨t, h1⟩ | ⟨t, rfl, h2⟩
    · exact fold_at e s h1
    · obtain ⟨rfl, rfl⟩ := split_one h2
      exact ⟨s, by rw [List.append_nil, fold_post]; rfl⟩
  | .mul q e, s, pre, suf, p, h => by
    rcases split_app (a := e.post) (b := [.mul q e]) h with ⟨t, h1⟩ | ⟨t, rfl, h2⟩
    · exact fold_at e s h1
    · obtain ⟨rfl, rfl⟩ := split_one h2
      exact ⟨s, by rw [List.append_nil, fold_post]; rfl⟩
  | .call n e, s, pre, suf, p, h => by
    rcases split_app (a := e.post) (b := [.call n e]) h with ⟨t, h1⟩ | ⟨t, rfl, h2⟩
    · exact fold_at e s h1
    · obtain ⟨rfl, rfl⟩ := split_one h2
      exact ⟨s, by rw [List.append_nil, fold_post]; rfl⟩
  | .bin b l r, s, pre, suf, p, h => by
    rcases split_app (a := l.post ++ r.post) (b := [.bin b l r]) h with ⟨t, h1⟩ | ⟨t, rfl, h2⟩
    · rcases split_app h1 with ⟨t, h1⟩ | ⟨t, rfl, h2⟩
      · exact fold_at l s h1
      · rw [List.foldl_append, fold_post]
        exact fold_at r _ h2
    · obtain ⟨rfl, rfl⟩ := split_one h2
      exact ⟨s, by rw [List.append_nil, List.foldl_append, fold_post, fold_post, List.append_assoc]; rfl⟩
theorem fold_mem : ∀ {pre s : List Ex} {x : Ex}, x ∈ pre.foldl stX s → x ∈ s ∨ x ∈ pre
  | [], s, x, h => .inl h
  | p :: pre, s, x, h => by
    rcases fold_mem (pre := pre) h with h | h
    · rcases List.mem_append.mp h with h | h
      · exact .inl (List.mem_of_mem_take h)
      · exact .inr (List.mem_cons.mpr (.inl (List.mem_singleton.mp h)))
    · exact .inr (List.mem_cons_of_mem _ h)
/-- what holds of an expression holds of its parts -/
structure PartOf (g : Str → Nat) (N : Str → Prop) (p e : Ex) : Prop where
  wide : p.wd g ≤ e.wd g
  of : e.Of N SixFr → p.Of N SixFr
  calls : ∀ m ∈ p.calls, m ∈ e.calls
theorem PartOf.refl {g : Str → Nat} {N : Str → Prop} (e : Ex) : PartOf g N e e := ⟨Nat.le_refl _, fun h => h, fun _ h => h⟩
theorem part_of {g : Str → Nat} {N : Str → Prop} : ∀ {e p : Ex}, p ∈ e.post → PartOf g N p e
  | .x, p, h => by rw [List.mem_singleton.mp h]; exact .refl _
  | .num q, p, h => by rw [List.mem_singleton.mp h]; exact .refl _
  | .abs e, p, h => by
    rcases List.mem_append.mp h with h | h
    · have q := part_of (g := g) (N := N) (e := e) h
      exact ⟨q.wide, fun o => q.of o, q.calls⟩
    · rw [List.mem_singleton.mp h]; exact .refl _
  | .mul _ e, p, h => by
    rcases List.mem_append.mp h with h | h
    · have q := part_of (g := g) (N := N) (e := e) h
      exact ⟨Nat.le_trans q.wide (Nat.le_add_left _ _), fun o => q.of o.2, q.calls⟩
    · rw [List.mem_singleton.mp h]; exact .refl _
  | .call _ e, p, h => by
    rcases List.mem_append.mp h with h | h
    · have q := part_of (g := g) (N := N) (e := e) h
      exact ⟨Nat.le_trans q.wide (Nat.le_add_left _ _), fun o => q.of o.2, fun m hm => List.mem_cons_of_mem _ (q.calls m hm)⟩
    · rw [List.mem_singleton.mp h]; exact .refl _
  | .bin _ l r, p, h => by
    rcases List.mem_append.mp h with h | h
    · rcases List.mem_append.mp h with h | h
      · have q := part_of (g := g) (N := N) (e := l) h
        exact ⟨Nat.le_trans q.wide (show l.wd g ≤ l.wd g + r.wd g + 1 by omega), fun o => q.of o.1, fun m hm => List.mem_append_left _ (q.calls m hm)⟩
      · have q := part_of (g := g) (N := N) (e := r) h
        exact ⟨Nat.le_trans q.wide (show r.wd g ≤ l.wd g + r.wd g + 1 by omega), fun o => q.of o.2, fun m hm => List.mem_append_right _ (q.calls m hm)⟩
    · rw [List.mem_singleton.mp h]; exact .refl _
/-- one step: what a part is worth, by what its kids are worth -/
def Ex.ap (f : Str → Rat → Rat) (v : Rat) : Ex → List Rat → Rat
  | .x, _ => v
  | .num q, _ => q
  | .abs _, rs => absR (rs.getD 0 0)
  | .mul q _, rs => q * rs.getD 0 0
  | .call n _, rs => f n (rs.getD 0 0)
  | .bin b _ _, rs => b.of (rs.getD 0 0) (rs.getD 1 0)
theorem ev_ap (f : Str → Rat → Rat) (v : Rat) (e : Ex) : e.ev f v = e.ap f v (e.kids.map fun k => k.ev f v) := by cases e <;> rfl
end Ew
namespace Ew
open PySem PySem.Spec PyProof.Rows L2
theorem hu5_of {k : Nat} {A : Around} (r : Room k A) : A.units + 5 < cLine := by have := r.un; omega
/-! ## tuples are kept -/
def Tk (G G' : Hp) : Prop := ∀ c xs, G c = some (.tup xs) → G' c = some (.tup xs)
theorem Tk.of {G G' : Hp} (s : Same G G') : Tk G G' := fun c xs h => s _ _ h
theorem Tk.trans {G G1 G2 : Hp} (a : Tk G G1) (b : Tk G1 G2) : Tk G G2 := fun c xs h => b c xs (a c xs h)
theorem QAt.tk {G G' : Hp} {v : V} {r : Rat} (h : QAt G v r) (k : Tk G G') : QAt G' v r := by
  obtain ⟨a, rfl, h⟩ := h
  exact ⟨a, rfl, k _ _ h⟩
theorem ExAt.tk {G G' : Hp} (k : Tk G G') : ∀ {e : Ex} {v : V}, ExAt G e v → ExAt G' e v
  | .x, v, ⟨a, h1, h2⟩ => ⟨a, h1, k _ _ h2⟩
  | .num q, v, ⟨a, u, h1, h2, h3⟩ => ⟨a, u, h1, k _ _ h2, h3.tk k⟩
  | .abs e, v, ⟨a, u, h1, h2, h3⟩ => ⟨a, u, h1, k _ _ h2, ExAt.tk k h3⟩
  | .mul q e, v, ⟨a, t, u, h1, h2, h3, h4⟩ => ⟨a, t, u, h1, k _ _ h2, h3.tk k, ExAt.tk k h4⟩
  | .call n e, v, ⟨a, u, h1, h2, h3⟩ => ⟨a, u, h1, k _ _ h2, ExAt.tk k h3⟩
  | .bin b l r, v, ⟨a, t, u, h1, h2, h3, h4⟩ => ⟨a, t, u, h1, k _ _ h2, ExAt.tk k h3, ExAt.tk k h4⟩
theorem NT.tk {H H' : Hp} {kvs : List (NK × V)} {xs : List (NK × Addr × Value)} (r : NT H kvs xs) (t : Tk H H') : NT H' kvs xs := r.keeps t
/-! ## what a calculator knows -/
def nkq (n : Str) (q : Rat) : NK := (Sum.inr n, [Sum.inl q.num, Sum.inl (q.den : Int)])
theorem nkq_inj {n m : Str} {q r : Rat} (h : nkq n q = nkq m r) : n = m ∧ q = r := by
  unfold nkq at h
  injection h with h1 h2
  injection h1 with h1
  injection h2 with h2 h3
  injection h2 with h2
  injection h3 with h3 _
  injection h3 with h3
  exact ⟨h1, Rat.ext h2 (by omega)⟩
theorem nkq_tup (q : Rat) : (nkq n q).2.map kV = qV q := rfl
def calcF (od kd : Addr) : List (Str × V) := putF "known" (.ref kd) (putF "orders" (.ref od) [])
theorem calcF_known (od kd : Addr) : (calcF od kd).lookup ("known" : Str) = some (.ref kd) := by
  unfold calcF
  rw [lookup_putF, if_pos rfl]
theorem calcF_orders (od kd : Addr) : (calcF od kd).lookup ("orders" : Str) = some (.ref od) := by
  unfold calcF
  rw [lookup_putF, if_neg (by decide +kernel), lookup_putF, if_pos rfl]
theorem calcF_no {od kd : Addr} {m : Str} (h1 : m ≠ "known") (h2 : m ≠ "orders") : (calcF od kd).lookup m = none := by
  unfold calcF
  rw [lookup_putF, if_neg h1, lookup_putF, if_neg h2]
  rfl
def OrdAt (H : Hp) (od : Addr) (bs : List (Str × Ex)) : Prop := ∃ kvs, H od = some (.dK kvs) ∧ ∀ n e, (n, e) ∈ bs → ∃ l us, valV kvs (Sum.inr n) = some (.ref l) ∧ H l = some (.lst us) ∧ All2 (ExV H) us e.post
def KnAt (P : Program) (w : World) (H : Hp) (kd : Addr) (bs : List (Str × Ex)) (m : Nat) : Prop := ∃ kvs, DN P w H kd kvs ∧ kvs.length ≤ m ∧ ∀ n q u, namesOf bs n → valV kvs (nkq n q) = some u → QAt H u (fnOf bs n q)
/-- a calculator: its orders, what it knows (at most m values) -/
structure Calc (P : Program) (w : World) (C : Addr) (H : Hp) (a od kd : Addr) (bs : List (Str × Ex)) (m : Nat) : Prop where
  ins : ∃ dx, H a = some (.ins C dx (calcF od kd))
  ord : OrdAt H od bs
  kn : KnAt P w H kd bs m
  wf : Wf bs
section
variable {P : Program} {w : World} {C : Addr} {H G : Hp} {a od kd : Addr} {bs : List (Str × Ex)} {m k : Nat}
theorem KnAt.at_ (h : KnAt P w H kd bs m) : ∃ xs, H kd = some (nestO P w kd xs) := by
  obtain ⟨kvs, ⟨xs, h1, _⟩, _⟩ := h
  exact ⟨xs, h1⟩
theorem KnAt.tk (h : KnAt P w H kd bs m) (e : KeepBut kd H G) : Tk H G := fun c ys hc => by
  obtain ⟨xs, h1⟩ := h.at_
  exact e c _ hc fun z => by rw [z, h1] at hc; cases hc
theorem KnAt.same (h : KnAt P w H kd bs m) (s : Same H G) : KnAt P w G kd bs m := by
  obtain ⟨kvs, d, l, q⟩ := h
  exact ⟨kvs, d.same s, l, fun n x u hn hv => (q n x u hn hv).tk (Tk.of s)⟩
theorem KnAt.le (h : KnAt P w H kd bs m) (l : m ≤ k) : KnAt P w H kd bs k := by
  obtain ⟨kvs, d, l1, q⟩ := h
  exact ⟨kvs, d, Nat.le_trans l1 l, q⟩
theorem KnAt.lst {xs : List V} {l : Addr} (h : KnAt P w H kd bs m) (e : KeepBut kd H G) (hl : H l = some (.lst xs)) : G l = some (.lst xs) := by
  obtain ⟨ys, h1⟩ := h.at_
  exact e l _ hl fun z => by rw [z, h1] at hl; cases hl
theorem Calc.keep (h : Calc P w C H a od kd bs m) (e : KeepBut kd H G) (n : KnAt P w G kd bs k) : Calc P w C G a od kd bs k := by
  obtain ⟨xs, h1⟩ := h.kn.at_
  have t := h.kn.tk e
  refine ⟨?_, ?_, n, h.wf⟩
  · obtain ⟨dx, hi⟩ := h.ins
    exact ⟨dx, e _ _ hi (fun z => by rw [z, h1] at hi; cases hi)⟩
  · obtain ⟨kvs, ho, hk⟩ := h.ord
    refine ⟨kvs, e _ _ ho (fun z => by rw [z, h1] at ho; cases ho), fun n x hx => ?_⟩
    obtain ⟨l, us, q1, q2, q3⟩ := hk n x hx
    exact ⟨l, us, q1, h.kn.lst e q2, q3.imp fun _ _ z => ExAt.tk t z⟩
theorem Calc.same (h : Calc P w C H a od kd bs m) (s : Same H G) : Calc P w C G a od kd bs m := h.keep (KeepBut.of s) (h.kn.same s)
theorem Calc.le (h : Calc P w C H a od kd bs m) (l : m ≤ k) : Calc P w C H a od kd bs k := ⟨h.ins, h.ord, h.kn.le l, h.wf⟩
/-- one more is known -/
theorem KnAt.put {kvs : List (NK × V)} {xs : List (NK × Addr × Value)} {n : Str} {q : Rat} {u : V} (hd : DN P w H kd kvs) (hl : kvs.length ≤ m) (hq : ∀ n q u, namesOf bs n → valV kvs (nkq n q) = some u → QAt H u (fnOf bs n q)) (hu : QAt H u (fnOf bs n q))
    (r : NT (upd H kd (nestO P w kd xs)) (putK kvs (nkq n q) u) xs) : KnAt P w (upd H kd (nestO P w kd xs)) kd bs (m + 1) := by
  obtain ⟨ys, h1, _⟩ := hd
  have t : Tk H (upd H kd (nestO P w kd xs)) := fun c zs hc => by
    rw [upd_ne (fun z => by rw [z, h1] at hc; cases hc)]
    exact hc
  refine ⟨_, ⟨xs, upd_same, r⟩, ?_, fun n' q' u' hn hv => ?_⟩
  · have := length_putK kvs (nkq n q) u
    omega
  · rw [valV_put] at hv
    split at hv
    · rename_i c
      obtain ⟨rfl, rfl⟩ := nkq_inj c
      cases hv
      exact hu.tk t
    · exact (hq n' q' u' hn hv).tk t
end
end Ew
namespace Ew
open PySem PySem.Spec PyProof.Rows L2
/-! ## a dict made by a comprehension, over any walk -/
theorem dc_it {J : It} {n : Nat} {Gd : Hp → Prop} {Y : Nat → Hp → V → Hp → Prop} (w : Walk J n Gd Y) {g : TG} {tt : TT} {tk tv : TE} {vs : List Nat} {σ : L2.St} {H1 : Hp} {D : Addr} {Qd : Hp → Prop} (Pv : Nat → Hp → Prop) (h0 : Pv 0 (upd H1 D (.dK []))) (hG : ∀ i H, i ≤ n → Pv i H → Gd H)
    (hs : ∀ i x H H', i < n → Pv i H → Y i H x H' → g x (wipe σ vs) H' fun σ2 H2 => wipe σ2 vs = wipe σ vs ∧ tt σ2 H2 fun b H3 =>
      if b = true then tk σ2 H3 fun y H4 => tv σ2 H4 fun z H5 => ∃ kvs k, y = kV k ∧ H5 D = some (.dK kvs) ∧ kvs.length < sizeLine ∧ Pv (i + 1) (upd H5 D (.dK (putK kvs k z))) else Pv (i + 1) H3) (hd : ∀ H, Pv n H → Qd H) :
    ∃ W : Nat → Nat → Hp → Prop, (∃ m, W 0 m (upd H1 D (.dK []))) ∧ ∀ i m H, W i m H →
      (J.stop i H ∧ Qd H) ∨ (J.go i H ∧ ∃ Nx : Hp → Prop, (∀ H', Nx H' → ∃ m', m' < m ∧ W (i + 1) m' H') ∧ ∀ x H', J.yld i H x H' → g x (wipe σ vs) H' fun σ2 H2 => wipe σ2 vs = wipe σ vs ∧ tt σ2 H2 fun b H3 =>
        if b = true then tk σ2 H3 fun y H4 => tv σ2 H4 fun z H5 => ∃ kvs k, y = kV k ∧ H5 D = some (.dK kvs) ∧ kvs.length < sizeLine ∧ Nx (upd H5 D (.dK (putK kvs k z))) else Nx H3) := by
  refine ⟨fun i m H => m = n - i ∧ i ≤ n ∧ Pv i H, ⟨n, by simp, Nat.zero_le _, h0⟩, ?_⟩
  rintro i m H ⟨rfl, hi, p⟩
  have q := hG i H hi p
  by_cases hlt : i < n
  · refine .inr ⟨w.goes i H hlt q, Pv (i + 1), fun H' p' => ⟨n - (i + 1), by omega, rfl, hlt, p'⟩, fun x H' y => hs i x H H' hlt p (w.yields i H x H' hlt q y)⟩
  · have e : i = n := by omega
    subst e
    exact .inl ⟨w.stops H q, hd H p⟩
/-- the definitions, as a dict -/
def TabD (G : Hp) (kvs : List (Key × V)) (ds : List (Str × Ex)) : Prop := Paired (fun kv x => kv.1 = Sum.inr x.1 ∧ ExAt G x.2 kv.2) kvs ds
theorem TabD.tk {G G' : Hp} {kvs : List (Key × V)} {ds : List (Str × Ex)} (h : TabD G kvs ds) (k : Tk G G') : TabD G' kvs ds := Paired.mapP h fun _ _ z => ⟨z.1, ExAt.tk k z.2⟩
theorem TabD.none {G : Hp} {kvs : List (Key × V)} {ds : List (Str × Ex)} {n : Str} (h : TabD G kvs ds) (hn : n ∉ ds.map Prod.fst) : valV kvs (Sum.inr n) = none := by
  induction h with
  | nil => rfl
  | @cons p q ps qs h t ih =>
    rw [List.map_cons, List.mem_cons, not_or] at hn
    rw [valV_neg (fun e => hn.1 (by rw [h.1] at e; injection e with e; exact e.symm))]
    exact ih hn.2
theorem TabD.val {G : Hp} {kvs : List (Key × V)} {ds : List (Str × Ex)} (h : TabD G kvs ds) (nd : (ds.map Prod.fst).Nodup) : ∀ n e, (n, e) ∈ ds → ∃ u, valV kvs (Sum.inr n) = some u ∧ ExAt G e u := by
  induction h with
  | nil => intro n e hm; cases hm
  | @cons p q ps qs h t ih =>
    rw [List.map_cons] at nd
    obtain ⟨n1, n2⟩ := List.nodup_cons.mp nd
    intro n e hm
    rcases List.mem_cons.mp hm with hm | hm
    · subst hm
      exact ⟨p.2, valV_pos h.1, h.2⟩
    · have nm : n ∈ qs.map Prod.fst := List.mem_map.mpr ⟨_, hm, rfl⟩
      rw [valV_neg (fun z => n1 (by rw [h.1] at z; injection z with z; rw [z]; exact nm))]
      exact ih n2 n e hm
end Ew
namespace Ew
open PySem PySem.Spec PyProof.Rows L2
section
variable {X : Cx}
/-- x = {k: v for ..} -/
theorem ps_setDc {i : Nat} {y : Str} {py : Pos} {kx vx tg iter : Expr} {ifs : List Expr} {scope : Scope} {own : List (Str × Nat)} {pos spos : Pos} {wi : TI} {g : TG} {tt : TT} {tk tv : TE} (hc : X.calm = true) (hN : X.N.Nodup) (hy : X.N[i]? = some y) (hyl : X.env.scope.names.lookup y = some .local)
    (hsw : swapsWith (.DictComp kx vx [⟨tg, iter, ifs, 0⟩] scope pos) (some (.Name y py)) spos.line X.env = pure true) (hi : PI X tg iter wi) (ok : BlkOk X.N X.env.scope scope own)
    (hg : ∀ (s : Shared) (H : Hp) (C : Addr) (cl : List (Str × Addr)) (fp : List Addr), PG (X.blk s H scope (compEnvC scope cl C X.env) fp) tg g) (ht : ∀ (s : Shared) (H : Hp) (C : Addr) (cl : List (Str × Addr)) (fp : List Addr), PTs (X.blk s H scope (compEnvC scope cl C X.env) fp) ifs tt)
    (hk : ∀ (s : Shared) (H : Hp) (C : Addr) (cl : List (Str × Addr)) (fp : List Addr), PE (X.blk s H scope (compEnvC scope cl C X.env) fp) kx tk)
    (he : ∀ (s : Shared) (H : Hp) (C : Addr) (cl : List (Str × Addr)) (fp : List Addr), PE (X.blk s H scope (compEnvC scope cl C X.env) fp) vx tv) (hs : ∀ x, foldedSetIterable iter X.env x = pure x := by intro _; rfl) :
    PS X (.Assign [.Name y py] (.DictComp kx vx [⟨tg, iter, ifs, 0⟩] scope pos) spos) (tAsg (tDc wi g tt tk tv (own.map (·.2))) (gName i)) := by
  refine ⟨fun pins s σ H D I h => ?_⟩
  rw [exec_Assign_Name_used _ _ _ _ hsw]
  refine wpAny_bind (wpAny_standAt (wpAny_bind ?_))
  have h : tDc wi g tt tk tv (own.map (·.2)) σ H (fun x H1 => gName i x σ H1 D.nx) := h
  refine wpAny_bind (thn (dc_core (Qf := fun _ s' => SP X pins D .next s') hc hN I hi ok hg ht hk he hs h fun L C s' m H' I' q hn f => ?_) fun _ s' hq => wpAny_pure (wpAny_pure hq))
  show wpAny _ _ (assign (.Name y py) X.env (.ref L)) _ _ _
  refine wpAny_assign_Name (store_ok2 (v := V.ref L) I' hN hy (.inl hyl) rfl (fun s2 I2 ⟨a, sb, ha⟩ => ?_) (.inr hyl))
  obtain ⟨f0, f1, f2, f3, f4, f5⟩ := f
  have haC : C ≠ a := ha.elim (fun z => z ▸ f1) (fun z e => f4 y a z e.symm)
  exact ⟨m, hn.sameBut sb haC, fun h3 sb3 => ⟨_, H', I2.turned (t' := s2.toks) (fun b o hb e => (sb3.2 b hb).trans e) f0 f1 f3 f4 f5, q⟩⟩
end
theorem sw_trueD {kx vx : Expr} {gs : List Comprehension} {scope : Scope} {pos py : Pos} {y : Str} {l : Nat} {env : Env} (hk : env.scope.kind = .function) (hy : env.scope.names.lookup y = some .local) (hl : (py.line == pos.line) = true)
    (ha : (scope.names.any fun (n, k) => n == y && (k == .local || k == .cell)) = false) : swapsWith (.DictComp kx vx gs scope pos) (some (.Name y py)) l env = pure true := by
  have ky : env.kindOf y = some .local := hy
  have hb : env.blockKind = .function := by unfold Env.blockKind; rw [hk]; rfl
  unfold swapsWith
  simp only [hb, ky, ha, Expr.pos, hl]
  rfl
end Ew
namespace Ew
open PySem PySem.Spec PyProof.Rows L2
/-! ## names that differ at one place -/
def StOk (s : Int) : Prop := s = 1 ∨ s = 3 ∨ s = 5 ∨ s = 7 ∨ s = 9
def letF (ld st : Int) (k : Nat) : Nat := 97 + ((ld + st * (k : Int)) % 26).toNat
def nmC (z : Str) (an : Nat) (c : Nat) : Str := cutS z none (some (an : Int)) ++ ⟨#[c]⟩ ++ cutS z (some ((an : Int) + 1)) none
theorem alpha_at {n : Nat} (h : n < (TL.tl alphaS).length) : (TL.tl alphaS)[n] = 97 + n := by
  have e : TL.tl alphaS = List.range' 97 26 := by decide +kernel
  have g : (TL.tl alphaS)[n]? = (List.range' 97 26)[n]? := by rw [e]
  rw [List.getElem?_eq_getElem h] at g
  have h2 : n < (List.range' 97 26).length := by rw [← e]; exact h
  rw [List.getElem?_eq_getElem h2, List.getElem_range'] at g
  injection g with g
  omega
theorem str_tl {x y : Str} (h : TL.tl x = TL.tl y) : x = y := by
  cases x
  cases y
  congr 1
  exact Array.toList_inj.mp h
theorem nmC_inj {z : Str} {an c d : Nat} (h : nmC z an c = nmC z an d) : c = d := by
  unfold nmC at h
  have e := congrArg TL.tl h
  rw [TL.tl_append, TL.tl_append, TL.tl_append, TL.tl_append] at e
  have e := List.append_cancel_left (List.append_cancel_right e)
  have e : [c] = [d] := e
  injection e
theorem letF_ne {ld st : Int} {a b : Nat} (h : StOk st) (ha : a < 26) (hb : b < 26) (n : a ≠ b) (h0 : 0 ≤ ld) : letF ld st a ≠ letF ld st b := by
  unfold letF
  rcases h with rfl | rfl | rfl | rfl | rfl <;> omega
theorem names_nodup {z : Str} {an m : Nat} {ld st : Int} (h : StOk st) (hm : m ≤ 26) (h0 : 0 ≤ ld) : ((List.range m).map fun k => nmC z an (letF ld st k)).Nodup := by
  unfold List.Nodup
  rw [List.pairwise_map]
  refine List.Pairwise.imp_of_mem (fun {a b} ha hb hab e => ?_) List.nodup_range
  exact letF_ne h (Nat.lt_of_lt_of_le (List.mem_range.mp ha) hm) (Nat.lt_of_lt_of_le (List.mem_range.mp hb) hm) hab h0 (nmC_inj e)
theorem addQ_nodup {ys : List Str} (h : ys.Nodup) : (ys.map addQ).Nodup := by
  unfold List.Nodup
  rw [List.pairwise_map]
  refine List.Pairwise.imp (fun {a b} hab e => hab ?_) h
  have e := congrArg TL.tl e
  unfold addQ at e
  rw [TL.tl_append, TL.tl_append] at e
  exact str_tl (List.append_cancel_right e)
/-! ## a def with one keyword-only parameter, () if it is left out -/
def KwAt (K : PySem.W.Frag) (x p : Str) (st : Stmt) (f : Addr) : Prop := ∃ fd dl, Fun K x x st f fd ∧ FunD K x x (defArgs st) (defBody st) (defScope st) [] [(p, V.ref dl)] f fd ∧ ∀ H, SqT K H dl []
theorem kwd_mk {K : PySem.W.Frag} {x p : Str} {st : Stmt} {f D T : Addr} {oc doc pm cdv ct : Value} {od an odt : Option Addr} {osl slt : Array (Option Value)} {n : Nat} (l : K.lookup f = some ⟨oc, od, .func (PySem.W.fnOf x x (defArgs st) (defBody st) (defScope st) .none (.ref D) doc pm an cdv ct), osl⟩)
    (c : PySem.W.codeIn K cdv x = true) (k : PySem.W.keepIn K (.ref f) = true) (d : PySem.W.nsIn K D p = some (some (.ref T))) (t : K.lookup T = some ⟨.type "tuple", odt, .seq #[] n, slt⟩) : KwAt K x p st f :=
  ⟨_, T, fun_mk l c k, ⟨⟨oc, od, .none, .ref D, doc, pm, an, cdv, ct, osl, rfl, l, c, .inl ⟨rfl, rfl⟩, .inr ⟨D, rfl, fun q hq => by rw [List.mem_singleton.mp hq]; exact ⟨_, d, rfl⟩⟩⟩, k⟩, fun H => .inr ⟨_, #[], n, t, rfl, rfl, Nat.zero_le _, .nil⟩⟩
theorem ratD_shaped (r : Rat) : SeqAt.shaped (ratD r) = true := shapedTup [r.num, (r.den : Int)]
end Ew
namespace K18
open PySem PySem.Spec PyProof.Rows L2 Ew
def top (i : Nat) : Stmt := PySem.Challenge.pw_earlywrite_k18_values_of_expressions.main.body.getD i (.Pass ⟨0, 0, 0, 0⟩)
abbrev sEarlyError_init : Stmt := inClass (top 1) 0
abbrev sOutOfRange_init : Stmt := inClass (top 2) 0
abbrev sCircularName_init : Stmt := inClass (top 3) 0
abbrev sUndefinedName_init : Stmt := inClass (top 4) 0
abbrev sFraction : Stmt := top 6
abbrev sGcd : Stmt := top 7
abbrev sSumOf : Stmt := top 8
abbrev sDifference : Stmt := top 9
abbrev sProduct : Stmt := top 10
abbrev sIsLess : Stmt := top 11
abbrev sSmallerOf : Stmt := top 12
abbrev sGreaterOf : Stmt := top 13
abbrev sPartsOf : Stmt := top 15
abbrev sCalledNames : Stmt := top 16
abbrev sFollowNames : Stmt := top 17
abbrev sCheckedBodies : Stmt := top 18
abbrev sPartsFirst : Stmt := top 19
abbrev sCalculator_init : Stmt := inClass (top 20) 0
abbrev sCalculator_value_at : Stmt := inClass (top 20) 1
abbrev sCalculator_value_of : Stmt := inClass (top 20) 2
abbrev sCalculator_value_of_call : Stmt := inClass (top 20) 3
abbrev sValueOfParts : Stmt := top 21
abbrev sEvaluate : Stmt := top 22
abbrev sBegin : Stmt := top 24
abbrev sDraw : Stmt := top 25
abbrev sPick : Stmt := top 26
abbrev sSame : Stmt := top 27
abbrev sLowest : Stmt := top 28
abbrev sLawPlus : Stmt := top 29
abbrev sLawMinus : Stmt := top 30
abbrev sLawTimes : Stmt := top 31
abbrev sLawLess : Stmt := top 32
abbrev sLawAnyFraction : Stmt := top 33
abbrev sLawLetters : Stmt := top 34
abbrev sLawNames : Stmt := top 35
abbrev sLawTextFraction : Stmt := top 36
abbrev sLawExpression : Stmt := top 37
abbrev sLawEvaluated : Stmt := top 38
abbrev sLawDefinitions : Stmt := top 39
abbrev sLaw : Stmt := top 40
section
variable {P : Program} {w : World} {K : PySem.W.Frag} {mg : Str → Option Value} {base : Heap}
structure TxtR (mg : Str → Option Value) : Prop where
  len : mg "len" = none
  list : mg "list" = none
/-! ## _law_begin -/
def spBegin (K : PySem.W.Frag) : Sp := fun vs H Q _ => ∃ (a : Addr) (ns : List Int), vs = [.ref a] ∧ SqL K H a (ns.map V.int) ∧ ns.length ≤ 63 ∧
  ∀ (G : Hp) (p q : Addr) (sd : Int), Same H G → RngAt G p q ns 0 0 sd → H p = none → H q = none → Q (.ref p) G
theorem scBegin : FnScope ["_law_script", "_law_seed", "_law_cell"] ["_law_script"] (defScope sBegin) := ⟨rfl, rfl, rfl, by decide +kernel, rfl, by decide +kernel, by decide +kernel⟩
theorem ok_begin {f : Addr} {fd : FuncData} (F : Fun K "_law_begin" "_law_begin" sBegin f fd) (T : TxtR mg) : FnOk P w K mg base CX0 1 f fd ["_law_script"] (spBegin K) := by
  refine F.ok scBegin (fun vs H Q E h => ?_) (fun cdv A outer s H vs Q E hr h => ?_)
  · obtain ⟨a, ns, rfl, _⟩ := h
    rfl
  · obtain ⟨a, ns, rfl, hS, hl, k⟩ := h
    refine ⟨_, pss_cons (ps_set (i := 1) scBegin.nd rfl (Or.inl rfl) (pe_op op_add pe_int (pe_callB call_len_seq (by rfl) T.len PySem.boot_len (pa_cons (pe_slice sl_list (pv 0) po_none (po_some pe_int)) pa_nil))))
      (pss_cons (ps_for PassesOwn.never rfl (pi_list (pe_slice sl_list (pv 0) po_none (po_some pe_int))) (pg_name (i := 2) scBegin.nd rfl (Or.inl rfl))
        (pss_one (ps_set (i := 1) scBegin.nd rfl (Or.inl rfl) (pe_op op_mod (pe_op op_add (pe_op op_add (pe_op op_mul (pv 1) pe_int) (pe_op op_mod (pv 2) pe_int)) pe_int) pe_int))))
      (pss_one (ps_ret (pe_lst (pa_cons (pe_callTy call_list_of (by rfl) T.list (by decide +kernel) (pa_cons (pe_slice sl_list (pv 0) po_none (po_some pe_int)) pa_nil)) (pa_cons pe_int (pa_cons pe_int (pa_cons (pv 1) pa_nil)))))))), ?_⟩
    refine ⟨_, rfl, _, rfl, a, _, rfl, hS, fun p1 n1 => ?_⟩
    rw [cut63 hl]
    have s1 : Same H (upd H p1 (.lst (ns.map V.int))) := fun b o e => by rw [upd_ne (ne_of_none e n1)]; exact e
    refine ⟨p1, _, rfl, .inl (SqL.of upd_same), _, _, rfl, rfl, ?_⟩
    refine ⟨_, rfl, _, rfl, a, _, rfl, s1.seq hS, fun p2 n2 => ?_⟩
    rw [cut63 hl]
    have s2 : Same H (upd (upd H p1 (.lst (ns.map V.int))) p2 (.lst (ns.map V.int))) := fun b o e => by rw [upd_ne (ne_of_none (s1 b o e) n2)]; exact s1 b o e
    refine ⟨p2, rfl, ⟨_, SqL.of upd_same⟩, for_list (K := K) (a := p2) (xs := ns.map V.int) (fun i σ G => G = upd (upd H p1 (.lst (ns.map V.int))) p2 (.lst (ns.map V.int)) ∧ ∃ (sd : Int) (c : Option V), σ = [some (.ref a), some (.int sd), c] ∧ 0 ≤ sd ∧ sd < 2147483549)
      ⟨rfl, _, none, rfl, ?_, ?_⟩ (fun i σ G _ ⟨e, _⟩ => by rw [e]; exact SqL.of upd_same) ?_ ?_⟩
    · rw [List.length_map]; omega
    · rw [List.length_map]; omega
    · rintro i y σ G hi ⟨rfl, sd, c, rfl, h0, h1⟩
      obtain ⟨z, rfl⟩ := map_int_at hi
      refine ⟨_, rfl, sd, 40009, rfl, rfl, mul_small (by omega) (by omega), _, rfl, z, 2147483549, rfl, rfl, (by show (0 : Int) < 2147483549; decide), _, _, rfl, rfl, _, _, rfl, rfl, _, _, rfl, rfl, (by show (0 : Int) < 2147483549; decide), ?_⟩
      exact ⟨rfl, _, _, rfl, Int.emod_nonneg _ (by decide), Int.emod_lt_of_pos _ (by decide)⟩
    · rintro σ G ⟨rfl, sd, c, rfl, h0, h1⟩
      refine ⟨_, rfl, _, rfl, a, _, rfl, s2.seq hS, fun p3 n3 => ?_⟩
      rw [cut63 hl]
      have s3 := s2.trans (H2 := upd (upd (upd H p1 (.lst (ns.map V.int))) p2 (.lst (ns.map V.int))) p3 (.lst (ns.map V.int))) fun b o e => by rw [upd_ne (ne_of_none e n3)]; exact e
      refine ⟨p3, _, rfl, .inl (SqL.of upd_same), fun q n4 => ?_⟩
      have s4 := s3.trans (H2 := upd (upd (upd (upd H p1 (.lst (ns.map V.int))) p2 (.lst (ns.map V.int))) p3 (.lst (ns.map V.int))) q (.lst (ns.map V.int))) fun b o e => by rw [upd_ne (ne_of_none e n4)]; exact e
      refine ⟨_, rfl, (by show 4 ≤ sizeLine; decide), fun p n5 => ?_⟩
      have nqp : q ≠ p := fun e => by rw [← e, upd_same] at n5; cases n5
      refine k _ p q sd (fun b o e => by rw [upd_ne (ne_of_none (s4 b o e) n5)]; exact s4 b o e) ⟨upd_same, ?_, hl, ⟨by omega, by omega, h0, h1⟩, nqp⟩ (s4.free n5) (s3.free n4)
      rw [upd_ne nqp, upd_same]
/-! ## _law_draw -/
def spDraw : Sp := fun vs H Q _ => ∃ (p q : Addr) (ns : List Int) (i v sd many : Int), vs = [.ref p, .int many] ∧ RngAt H p q ns i v sd ∧ 0 < many ∧ many.natAbs < 2 ^ 8000 ∧
  ∀ r i' v' sd' : Int, 0 ≤ r → r < many → RngOk i' v' sd' → Q (.int r) (upd H p (.lst (rngL q i' v' sd')))
theorem scDraw : FnScope ["_law_rng", "_law_many", "_law_cell", "_law_got", "_law_seed"] ["_law_rng", "_law_many"] (defScope sDraw) := ⟨rfl, rfl, rfl, by decide +kernel, rfl, by decide +kernel, by decide +kernel⟩
theorem ok_draw {f : Addr} {fd : FuncData} (F : Fun K "_law_draw" "_law_draw" sDraw f fd) (T : TxtR mg) : FnOk P w K mg base CX0 1 f fd ["_law_rng", "_law_many"] spDraw := by
  refine F.ok scDraw (fun vs H Q E h => ?_) (fun cdv A outer s H vs Q E hr h => ?_)
  · obtain ⟨p, q, ns, i, v, sd, many, rfl, _⟩ := h
    rfl
  · obtain ⟨p, q, ns, i, v, sd, many, rfl, R, hm, hmz, k⟩ := h
    refine ⟨_, C8.pss_cut (ps_if (PW.pt (pw_and (pt_cmpR op_eq (pe_ix ix_list (pv 0) pe_int (fun _ _ => rfl)) pe_int (nomark _)) (pw_and1 (pt_cmpR op_lt (pe_ix ix_list (pv 0) pe_int (fun _ _ => rfl)) (pe_callB call_len_seq (by rfl) T.len PySem.boot_len (pa_cons (pe_ix ix_list (pv 0) pe_int (fun _ _ => rfl)) pa_nil)) (nomark _)))))
        (pss_cons (ps_set (i := 2) scDraw.nd rfl (Or.inl rfl) (pe_ix ix_list (pe_ix ix_list (pv 0) pe_int (fun _ _ => rfl)) (pe_ix ix_list (pv 0) pe_int (fun _ _ => rfl)) (fun _ _ => rfl)))
        (pss_cons (ps_asg (pe_op op_add (pe_ix ix_list (pv 0) pe_int (fun _ _ => rfl)) pe_int) (pg_sub (pv 0) pe_int set_list))
        (pss_one (ps_if (pt_cmpR op_ge (pv 2) (pe_op op_pow pe_int pe_int) (nomark _)) (pss_one (ps_asg (pv 2) (pg_sub (pv 0) pe_int set_list)))
          (pss_one (ps_asg (pe_op op_mod (pe_op op_add (pe_op op_add (pe_op op_mul (pe_ix ix_list (pv 0) pe_int (fun _ _ => rfl)) pe_int) (pe_op op_mul (pe_op op_mod (pv 2) pe_int) pe_int)) pe_int) pe_int) (pg_sub (pv 0) pe_int set_list)))))))
        pss_nil)
      (pss_cons (ps_if (pt_cmpR op_gt (pe_ix ix_list (pv 0) pe_int (fun _ _ => rfl)) pe_int (nomark _))
        (pss_cons (ps_set (i := 3) scDraw.nd rfl (Or.inl rfl) (pe_op op_mod (pe_ix ix_list (pv 0) pe_int (fun _ _ => rfl)) (pv 1)))
        (pss_cons (ps_asg (pe_op op_fdivW (pe_ix ix_list (pv 0) pe_int (fun _ _ => rfl)) (pv 1)) (pg_sub (pv 0) pe_int set_list))
        (pss_one (ps_ret (pv 3))))) pss_nil)
      (pss_cons (ps_set (i := 4) scDraw.nd rfl (Or.inl rfl) (pe_ix ix_list (pv 0) pe_int (fun _ _ => rfl)))
      (pss_cons (ps_asg (pe_op op_mod (pe_op op_add (pe_op op_add (pe_op op_mul (pv 4) (pe_op op_add (pe_op op_mod (pv 4) pe_int) pe_int)) (pe_op op_mul (pv 4) pe_int)) pe_int) pe_int) (pg_sub (pv 0) pe_int set_list))
      (pss_one (ps_ret (pe_op op_mod (pe_op op_add (pe_op op_fdiv (pe_ix ix_list (pv 0) pe_int (fun _ _ => rfl)) pe_int) (pe_op op_mul (pe_op op_mod (pe_ix ix_list (pv 0) pe_int (fun _ _ => rfl)) pe_int) pe_int)) (pv 1))))))), ?_⟩
    refine ⟨fun σ G => ∃ (c : Option V) (i' v' sd' : Int), σ = [some (.ref p), some (.int many), c, none, none] ∧ RngOk i' v' sd' ∧ G = upd H p (.lst (rngL q i' v' sd')), ?_, ?_⟩
    · obtain ⟨i0, v0, sd0, sd1⟩ := R.ok
      refine ⟨_, rfl, p, _, _, _, rfl, rfl, SqL.of R.at_p, rng_2, rfl, _, rfl, ?_⟩
      by_cases c1 : v = 0
      · subst c1
        refine ifT (decide_eq_true rfl) ?_
        refine ⟨_, rfl, p, _, _, _, rfl, rfl, SqL.of R.at_p, rng_1, _, rfl, p, _, _, _, rfl, rfl, SqL.of R.at_p, rng_0, q, _, rfl, .inl (SqL.of R.at_q), _, _, rfl, rfl, _, rfl, ?_⟩
        rw [List.length_map]
        by_cases c2 : i < (ns.length : Int)
        · refine ifT (decide_eq_true c2) ?_
          obtain ⟨c, hc, hat⟩ := get_int i0 c2
          refine ⟨_, rfl, p, _, _, _, rfl, rfl, SqL.of R.at_p, rng_0, _, rfl, p, _, _, _, rfl, rfl, SqL.of R.at_p, rng_1, q, _, _, _, rfl, rfl, SqL.of R.at_q, hat, ?_⟩
          refine ⟨_, rfl, p, _, _, _, rfl, rfl, SqL.of R.at_p, rng_1, _, _, rfl, rfl, _, rfl, p, _, _, 1, rfl, rfl, R.at_p, rfl, ?_⟩
          refine ⟨_, rfl, _, _, rfl, rfl, (by show (0 : Int) ≤ 18 ∧ (18 : Int) ≤ 1000000 ∧ (10 : Int).natAbs < 2 ^ 64; decide), _, _, rfl, rfl, _, rfl, ?_⟩
          by_cases c3 : (10 : Int) ^ (18 : Int).toNat ≤ c
          · refine ifT (decide_eq_true c3) ?_
            refine ⟨_, rfl, _, rfl, p, _, _, 2, rfl, rfl, upd_same, rfl, ?_⟩
            refine ⟨_, i + 1, c, sd, rfl, ⟨by omega, ?_, sd0, sd1⟩, upd_upd⟩
            exact Int.le_trans (by decide) c3
          · refine ifF (decide_eq_false c3) ?_
            refine ⟨_, rfl, p, _, _, _, rfl, rfl, SqL.of upd_same, rfl, sd, 44111, rfl, rfl, mul_small (by omega) (by omega), _, rfl, c, 2147483549, rfl, rfl, (by show (0 : Int) < 2147483549; decide), c % 2147483549, 70001, rfl, rfl, ?_, _, _, rfl, rfl, _, _, rfl, rfl, _, _, rfl, rfl, (by show (0 : Int) < 2147483549; decide),
              _, rfl, p, _, _, 3, rfl, rfl, upd_same, rfl, ?_⟩
            · have := Int.emod_nonneg c (by decide : (2147483549 : Int) ≠ 0)
              have := Int.emod_lt_of_pos c (by decide : (0 : Int) < 2147483549)
              exact mul_small (by omega) (by omega)
            · exact ⟨_, i + 1, 0, _, rfl, ⟨by omega, by omega, Int.emod_nonneg _ (by decide), Int.emod_lt_of_pos _ (by decide)⟩, upd_upd⟩
        · exact ifF (decide_eq_false c2) ⟨none, i, 0, sd, rfl, R.ok, (upd_id R.at_p).symm⟩
      · exact ifF (eq_int c1) (iteF ⟨none, i, v, sd, rfl, R.ok, (upd_id R.at_p).symm⟩)
    · rintro σ G ⟨c, i', v', sd', rfl, ⟨i0, v0, s0, s1⟩, rfl⟩
      refine ⟨_, rfl, p, _, _, _, rfl, rfl, SqL.of upd_same, rng_2, _, _, rfl, rfl, _, rfl, ?_⟩
      by_cases c1 : 0 < v'
      · refine ifT (decide_eq_true c1) ?_
        refine ⟨_, rfl, p, _, _, _, rfl, rfl, SqL.of upd_same, rng_2, _, rfl, _, _, rfl, rfl, hm, ?_⟩
        refine ⟨_, rfl, p, _, _, _, rfl, rfl, SqL.of upd_same, rng_2, _, rfl, _, _, rfl, rfl, wide_div hm hmz (by decide) (by decide), _, rfl, p, _, _, 2, rfl, rfl, upd_same, rfl, _, rfl, ?_⟩
        rw [upd_upd]
        exact k _ i' _ sd' (Int.emod_nonneg _ (by omega)) (Int.emod_lt_of_pos _ hm) ⟨i0, Int.ediv_nonneg (by omega) (by omega), s0, s1⟩
      · refine ifF (decide_eq_false c1) ?_
        refine ⟨_, rfl, p, _, _, _, rfl, rfl, SqL.of upd_same, rng_3, ?_⟩
        refine ⟨_, rfl, _, rfl, sd', 65479, rfl, rfl, (by show (0 : Int) < 65479; decide), _, _, rfl, rfl, sd', _, rfl, rfl, mul_small (by omega) (by omega), _, rfl, sd', 40699, rfl, rfl, mul_small (by omega) (by omega), _, _, rfl, rfl, _, _, rfl, rfl, _, _, rfl, rfl, (by show (0 : Int) < 2147483549; decide),
          _, rfl, p, _, _, 3, rfl, rfl, upd_same, rfl, ?_⟩
        rw [upd_upd]
        have small : ∀ z : Int, CMul (z % 7919) 211 := fun z => by
          have := Int.emod_nonneg z (by decide : (7919 : Int) ≠ 0)
          have := Int.emod_lt_of_pos z (by decide : (0 : Int) < 7919)
          exact mul_small (by omega) (by omega)
        refine ⟨_, rfl, p, _, _, _, rfl, rfl, SqL.of upd_same, rfl, _, 67, rfl, rfl, ⟨by decide, by decide⟩, _, rfl, p, _, _, _, rfl, rfl, SqL.of upd_same, rfl, _, 7919, rfl, rfl, (by show (0 : Int) < 7919; decide), _, 211, rfl, rfl, small _, _, _, rfl, rfl, _, rfl, _, _, rfl, rfl, hm, ?_⟩
        exact k _ i' v' _ (Int.emod_nonneg _ (by omega)) (Int.emod_lt_of_pos _ hm) ⟨i0, v0, Int.emod_nonneg _ (by decide), Int.emod_lt_of_pos _ (by decide)⟩
/-! ## _law_pick -/
def spPick (K : PySem.W.Frag) : Sp := fun vs H Q _ => ∃ (p q l : Addr) (ns : List Int) (i v sd : Int) (xs : List V), vs = [.ref p, .ref l] ∧ RngAt H p q ns i v sd ∧ H l = some (.lst xs) ∧ l ≠ p ∧ xs ≠ [] ∧ xs.length ≤ 1000 ∧
  ∀ (x : V) (i' v' sd' : Int), x ∈ xs → RngOk i' v' sd' → Q x (upd H p (.lst (rngL q i' v' sd')))
structure TxtP (K : PySem.W.Frag) (mg : Str → Option Value) (fD : Addr) : Prop where
  len : mg "len" = none
  gD : mg "_law_draw" = some (.ref fD)
  kD : PySem.W.keepIn K (.ref fD) = true
theorem scPick : FnScope ["_law_rng", "_law_items"] ["_law_rng", "_law_items"] (defScope sPick) := ⟨rfl, rfl, rfl, by decide +kernel, rfl, by decide +kernel, by decide +kernel⟩
theorem ok_pick {f fD : Addr} {fd fdD : FuncData} (F : Fun K "_law_pick" "_law_pick" sPick f fd) (T : TxtP K mg fD) (FD : FnOk P w K mg base CX0 1 fD fdD ["_law_rng", "_law_many"] spDraw) (bD : Binds K fdD ["_law_rng", "_law_many"] []) :
    FnOk P w K mg base CX0 2 f fd ["_law_rng", "_law_items"] (spPick K) := by
  refine F.ok scPick (fun vs H Q E h => ?_) (fun cdv A outer s H vs Q E hr h => ?_)
  · obtain ⟨p, q, l, ns, i, v, sd, xs, rfl, _⟩ := h
    rfl
  · obtain ⟨p, q, l, ns, i, v, sd, xs, rfl, R, hl, nlp, hne, hlen, k⟩ := h
    refine ⟨_, pss_one (ps_ret (pe_ix ix_list (pv 1) (pe_call FD hr rfl T.gD T.kD bD .nil pass0 (pa_cons (pv 0) (pa_cons (pe_callB call_len_seq (by rfl) T.len PySem.boot_len (pa_cons (pv 1) pa_nil)) pa_nil))) (fun _ _ => rfl))), ?_⟩
    have hpos : 0 < xs.length := List.length_pos_iff.mpr hne
    have hbig : 1000 < 2 ^ 8000 := Nat.lt_of_lt_of_le (by decide : 1000 < 2 ^ 10) (Nat.pow_le_pow_right (by decide) (by decide))
    refine ⟨_, rfl, _, rfl, _, rfl, l, xs, rfl, .inl (SqL.of hl), p, q, ns, i, v, sd, (xs.length : Int), rfl, R, by omega, by omega, fun r i' v' sd' r0 r1 ok => ?_⟩
    obtain ⟨m, rfl⟩ := Int.eq_ofNat_of_zero_le r0
    have hm : m < xs.length := by omega
    exact ⟨l, xs, _, xs[m], rfl, rfl, SqL.of (by rw [upd_ne nlp]; exact hl), atI_nat (List.getElem?_eq_getElem hm), k _ i' v' sd' (List.getElem_mem hm) ok⟩
end
section
variable {P : Program} {w : World} {K : PySem.W.Frag} {mg : Str → Option Value} {base : Heap}
structure TxtS (K : PySem.W.Frag) (mg : Str → Option Value) (f : Addr) : Prop where
  isi : mg "isinstance" = none
  list : mg "list" = none
  tuple : mg "tuple" = none
  len : mg "len" = none
  all : mg "all" = none
  zip : mg "zip" = none
  bool : mg "bool" = none
  int : mg "int" = none
  str : mg "str" = none
  gS : mg "_law_same" = some (.ref f)
  kS : PySem.W.keepIn K (.ref f) = true
def spSame (K : PySem.W.Frag) (n : Nat) : Sp := fun vs H Q _ => ∃ x y : V, vs = [x, y] ∧ SameN K H n x y ∧ ∀ G, Same H G → Q (.bl true) G
theorem scSame : FnScope ["_law_found", "_law_due", "_law_one", "_law_other"] ["_law_found", "_law_due"] (defScope sSame) := ⟨rfl, rfl, rfl, by decide +kernel, rfl, by decide +kernel, by decide +kernel⟩
theorem ok_same {f : Addr} {fd : FuncData} (F : Fun K "_law_same" "_law_same" sSame f fd) (b : Binds K fd ["_law_found", "_law_due"] []) (T : TxtS K mg f) : ∀ n, FnOk P w K mg base CX0 n f fd ["_law_found", "_law_due"] (spSame K n)
  | 0 => ⟨fun _ _ _ _ h => by obtain ⟨_, _, _, h, _⟩ := h; exact h.elim, fun _ _ _ _ _ _ _ _ _ _ _ _ _ h => by obtain ⟨_, _, _, h, _⟩ := h; exact h.elim⟩
  | n + 1 => by
    have IH := ok_same F b T n
    refine F.ok scSame (fun vs H Q E h => ?_) (fun cdv A outer s H vs Q E hr h => ?_)
    · obtain ⟨x, y, rfl, _⟩ := h
      rfl
    · obtain ⟨x, y, rfl, hxy, k⟩ := h
      refine ⟨_, pss_cons (ps_if (PW.pt (pw_or (pt_cmpR op_isN (pv 1) pe_non (nomark _)) (pw_or1 (pt_cmpR op_isN (pv 0) pe_non (nomark _)))))
          (pss_one (ps_ret (pe_and (pe_cmpR op_isN (pv 0) pe_non (nomark _)) (pe_one (pe_cmpR op_isN (pv 1) pe_non (nomark _)))))) pss_nil)
        (pss_cons (ps_if (pt_val (pe_callB call_isiT (by rfl) T.isi (by decide +kernel) (pa_cons (pv 1) (pa_cons (pe_tup (pa_cons (pe_bltn (v := .ty "list") (by rfl) T.list (by decide +kernel) rfl) (pa_cons (pe_bltn (v := .ty "tuple") (by rfl) T.tuple (by decide +kernel) rfl) pa_nil))) pa_nil))))
          (pss_cons (ps_if (PW.pt (pw_or (pt_cmpR op_ne (pe_callB call_isi (by rfl) T.isi (by decide +kernel) (pa_cons (pv 0) (pa_cons (pe_bltn (v := .ty "list") (by rfl) T.list (by decide +kernel) rfl) pa_nil))) (pe_callB call_isi (by rfl) T.isi (by decide +kernel) (pa_cons (pv 1) (pa_cons (pe_bltn (v := .ty "list") (by rfl) T.list (by decide +kernel) rfl) pa_nil))) (nomark _))
              (pw_or1 (pt_cmpR op_ne (pe_callB call_isi (by rfl) T.isi (by decide +kernel) (pa_cons (pv 0) (pa_cons (pe_bltn (v := .ty "tuple") (by rfl) T.tuple (by decide +kernel) rfl) pa_nil))) (pe_callB call_isi (by rfl) T.isi (by decide +kernel) (pa_cons (pv 1) (pa_cons (pe_bltn (v := .ty "tuple") (by rfl) T.tuple (by decide +kernel) rfl) pa_nil))) (nomark _)))))
            (pss_one (ps_ret pe_bl)) pss_nil)
          (pss_one (ps_ret (pe_and (pe_cmpR op_eq (pe_callB call_len_seq (by rfl) T.len PySem.boot_len (pa_cons (pv 0) pa_nil)) (pe_callB call_len_seq (by rfl) T.len PySem.boot_len (pa_cons (pv 1) pa_nil)) (nomark _))
            (pe_one (pe_callB (cr_all rfl) (by rfl) T.all (by decide +kernel) (pa_cons
              (pe_lc (own := [("_law_one", 2), ("_law_other", 3)]) (g := gTup K 2 (gCons (gName 2) (gCons (gName 3) gNil))) (tt := tYes) (te := tCall (spSame K n) [] E0 (tCons (tVar 2) (tCons (tVar 3) tNil))) rfl scSame.nd (RZ.pi_zipA (by rfl) T.zip (pa_cons (pv 0) (pa_cons (pv 1) pa_nil)))
                (blkOk_by (N := ["_law_found", "_law_due", "_law_one", "_law_other"]) (sc := defScope sSame) (by decide +kernel))
                (fun _ _ _ _ _ => by exact pg_tup rfl (by exact pgs_cons (pg_name (i := 2) scSame.nd rfl (Or.inl rfl)) (by exact pgs_cons (pg_name (i := 3) scSame.nd rfl (Or.inl rfl)) pgs_nil)))
                (fun _ _ _ _ _ => pts_nil)
                (fun _ _ _ _ _ => by exact pe_call IH hr rfl T.gS T.kS b .nil pass0 (pa_cons (pv 2) (pa_cons (pv 3) pa_nil)))) pa_nil))))))) pss_nil)
        (pss_cons (ps_if (PW.pt (pw_or (pt_cmpR op_ne (pe_callB call_isi (by rfl) T.isi (by decide +kernel) (pa_cons (pv 0) (pa_cons (pe_bltn (v := .ty "bool") (by rfl) T.bool (by decide +kernel) rfl) pa_nil))) (pe_callB call_isi (by rfl) T.isi (by decide +kernel) (pa_cons (pv 1) (pa_cons (pe_bltn (v := .ty "bool") (by rfl) T.bool (by decide +kernel) rfl) pa_nil))) (nomark _))
              (pw_or1 (pt_cmpR op_ne (pe_callB call_isi (by rfl) T.isi (by decide +kernel) (pa_cons (pv 0) (pa_cons (pe_bltn (v := .ty "int") (by rfl) T.int (by decide +kernel) rfl) pa_nil))) (pe_callB call_isi (by rfl) T.isi (by decide +kernel) (pa_cons (pv 1) (pa_cons (pe_bltn (v := .ty "int") (by rfl) T.int (by decide +kernel) rfl) pa_nil))) (nomark _)))))
            (pss_one (ps_ret pe_bl)) pss_nil)
        (pss_one (ps_ret (pe_and (pe_cmpR op_eq (pe_callB call_isi (by rfl) T.isi (by decide +kernel) (pa_cons (pv 0) (pa_cons (pe_bltn (v := .ty "str") (by rfl) T.str (by decide +kernel) rfl) pa_nil))) (pe_callB call_isi (by rfl) T.isi (by decide +kernel) (pa_cons (pv 1) (pa_cons (pe_bltn (v := .ty "str") (by rfl) T.str (by decide +kernel) rfl) pa_nil))) (nomark _))
          (pe_one (pe_cmpR op_eq (pv 0) (pv 1) (nomark _)))))))), ?_⟩
      rcases hxy with ⟨rfl, hfl⟩ | ⟨a, c, xs, ys, rfl, rfl, hsq, hlen, hmax, hall⟩
      · by_cases hn : x = .non
        · subst hn
          refine ⟨_, rfl, rfl, _, rfl, iteT (iteT ?_)⟩
          exact ⟨_, rfl, rfl, _, rfl, iteT ⟨_, rfl, rfl, k H (Same.refl H)⟩⟩
        · obtain ⟨t, b1, b2, b3, ty, l1, l2, l3, l4, l5, sc⟩ : ∃ (t : String) (b1 b2 b3 : Bool), (∀ G, TyX K G x (.type t)) ∧ kitB t "list" = some false ∧ kitB t "tuple" = some false ∧ kitB t "bool" = some b1 ∧ kitB t "int" = some b2 ∧ kitB t "str" = some b3 ∧ scal x x = true := by
            cases x with
            | non => exact absurd rfl hn
            | bl z => exact ⟨"bool", true, true, false, fun _ => .base (.bl z), by decide +kernel, by decide +kernel, by decide +kernel, by decide +kernel, by decide +kernel, rfl⟩
            | int z => exact ⟨"int", false, true, false, fun _ => .base (.int z), by decide +kernel, by decide +kernel, by decide +kernel, by decide +kernel, by decide +kernel, rfl⟩
            | str z => exact ⟨"str", false, false, true, fun _ => .base (.str z), by decide +kernel, by decide +kernel, by decide +kernel, by decide +kernel, by decide +kernel, rfl⟩
            | byt z => cases hfl
            | flt z => cases hfl
            | ref z => cases hfl
            | ty z => cases hfl
          refine ⟨_, rfl, rfl, _, rfl, ifF (decide_eq_false hn) ⟨_, rfl, rfl, _, rfl, ifF (decide_eq_false hn) ?_⟩⟩
          refine ⟨_, rfl, (by show 2 ≤ sizeLine; decide), fun p hp => ⟨x, p, _, _, _, false, rfl, upd_same, paired2, ty _, kitLT l1 l2, _, rfl, iteF ?_⟩⟩
          refine ⟨_, rfl, x, _, _, _, b1, rfl, .ty _, ty _, kit_ty l3, _, rfl, x, _, _, _, b1, rfl, .ty _, ty _, kit_ty l3, rfl, _, rfl, ifF (ne_bl b1) ?_⟩
          refine ⟨_, rfl, x, _, _, _, b2, rfl, .ty _, ty _, kit_ty l4, _, rfl, x, _, _, _, b2, rfl, .ty _, ty _, kit_ty l4, rfl, _, rfl, ifF (ne_bl b2) ?_⟩
          refine ⟨_, rfl, x, _, _, _, b3, rfl, .ty _, ty _, kit_ty l5, _, rfl, x, _, _, _, b3, rfl, .ty _, ty _, kit_ty l5, rfl, _, rfl, ifT (decide_eq_true rfl) ?_⟩
          refine ⟨_, rfl, _, rfl, sc, ?_⟩
          have e : decide (x = x) = true := decide_eq_true rfl
          show Q (V.bl (decide (x = x))) _
          rw [e]
          exact k _ (same_upd (Same.refl H) hp)
      · have na : V.ref a ≠ V.non := fun z => nomatch z
        have nc : V.ref c ≠ V.non := fun z => nomatch z
        obtain ⟨t, bL, bT, tyA, tyC, hk, l1, l2⟩ : ∃ (t : String) (bL bT : Bool), (∀ G, Same H G → TyX K G (.ref a) (.type t)) ∧ (∀ G, Same H G → TyX K G (.ref c) (.type t)) ∧ PySem.W.kitAny K (.type t) [.type "list", .type "tuple"] = some true ∧ kitB t "list" = some bL ∧ kitB t "tuple" = some bT := by
          rcases hsq with ⟨p, q⟩ | ⟨p, q⟩
          · exact ⟨"list", true, false, fun G e => ty_list (e.seq p), fun G e => ty_list (e.seq q), kitL (by decide +kernel), by decide +kernel, by decide +kernel⟩
          · exact ⟨"tuple", false, true, fun G e => ty_tup (seqT e p), fun G e => ty_tup (seqT e q), kitLT (by decide +kernel) (by decide +kernel), by decide +kernel, by decide +kernel⟩
        have lenA : ∀ G, Same H G → SqL K G a xs ∨ SqT K G a xs := fun G e => hsq.imp (fun q => e.seq q.1) (fun q => seqT e q.1)
        have lenC : ∀ G, Same H G → SqL K G c ys ∨ SqT K G c ys := fun G e => hsq.imp (fun q => e.seq q.2) (fun q => seqT e q.2)
        refine ⟨_, rfl, rfl, _, rfl, ifF (decide_eq_false nc) ⟨_, rfl, rfl, _, rfl, ifF (decide_eq_false na) ?_⟩⟩
        refine ⟨_, rfl, (by show 2 ≤ sizeLine; decide), fun p hp => ?_⟩
        have s1 : Same H (upd H p (.tup [V.ty "list", V.ty "tuple"])) := same_upd (Same.refl H) hp
        refine ⟨_, p, _, _, _, true, rfl, upd_same, paired2, tyC _ s1, hk, _, rfl, iteT ?_⟩
        refine ⟨_, rfl, _, _, _, _, bL, rfl, .ty _, tyA _ s1, kit_ty l1, _, rfl, _, _, _, _, bL, rfl, .ty _, tyC _ s1, kit_ty l1, rfl, _, rfl, ifF (ne_bl bL) ?_⟩
        refine ⟨_, rfl, _, _, _, _, bT, rfl, .ty _, tyA _ s1, kit_ty l2, _, rfl, _, _, _, _, bT, rfl, .ty _, tyC _ s1, kit_ty l2, rfl, _, rfl, ifF (ne_bl bT) ?_⟩
        refine ⟨_, rfl, a, xs, rfl, lenA _ s1, _, rfl, c, ys, rfl, lenC _ s1, rfl, _, rfl, ifT (decide_eq_true (by rw [hlen])) ?_⟩
        have turn : ∀ (D : Addr) (i : Nat) (v : V) (G G' : Hp) (τ : L2.St), (upd H p (.tup [V.ty "list", V.ty "tuple"])) D = none → (Same (upd H p (.tup [V.ty "list", V.ty "tuple"])) G ∧ G D = some (.lst (List.replicate i (V.bl true)))) → i < xs.length →
            YPair (fun i => xs[i]?) (fun i => ys[i]?) i G v G' → τ = [some (V.ref a), some (V.ref c), none, none] →
            gTup K 2 (gCons (gName 2) (gCons (gName 3) gNil)) v τ G' fun σ2 H2 => wipe σ2 [2, 3] = wipe τ [2, 3] ∧ tYes σ2 H2 fun b H3 =>
              if b = true then tCall (spSame K n) [] E0 (tCons (tVar 2) (tCons (tVar 3) tNil)) σ2 H3 fun y H4 => ∃ acc, H4 D = some (.lst acc) ∧ acc.length < sizeLine ∧ (Same (upd H p (.tup [V.ty "list", V.ty "tuple"])) (upd H4 D (.lst (acc ++ [y]))) ∧ (upd H4 D (.lst (acc ++ [y]))) D = some (.lst (List.replicate (i + 1) (V.bl true))))
              else (Same (upd H p (.tup [V.ty "list", V.ty "tuple"])) H3 ∧ H3 D = some (.lst (List.replicate (i + 1) (V.bl true)))) := by
          rintro D i v G G' τ hD ⟨e1, e2⟩ hi ⟨U, u, z, rfl, hU, rfl, hu, hz⟩ rfl
          refine ⟨U, [u, z], rfl, SqT.of upd_same, rfl, _, _, rfl, _, _, rfl, rfl, rfl, ?_⟩
          refine iteT (B := Same (upd H p (.tup [V.ty "list", V.ty "tuple"])) (upd G U (.tup [u, z])) ∧ upd G U (.tup [u, z]) D = some (.lst (List.replicate (i + 1) (V.bl true)))) ⟨_, rfl, _, rfl, u, z, rfl, ?_, fun G2 e3 => ?_⟩
          · exact (hall i u z hu hz).same (s1.trans (same_upd e1 hU))
          · have e4 : G2 D = some (.lst (List.replicate i (V.bl true))) := e3 _ _ (by rw [upd_ne (ne_of_none e2 hU)]; exact e2)
            refine ⟨_, e4, by rw [List.length_replicate, sizeLine_eq]; omega, same_updN ((same_upd e1 hU).trans e3) hD, ?_⟩
            rw [upd_same, List.replicate_succ']
        have last : ∀ (D : Addr) (G : Hp), (Same (upd H p (.tup [V.ty "list", V.ty "tuple"])) G ∧ G D = some (.lst (List.replicate xs.length (V.bl true)))) → rAll K [V.ref D] G Q := fun D G ⟨e1, e2⟩ => by
          refine ⟨D, List.replicate xs.length true, rfl, SqL.of (by rw [map_rep]; exact e2), ?_⟩
          rw [all_true]
          exact k G (s1.trans e1)
        rcases hsq with ⟨hA, hC⟩ | ⟨hA, hC⟩
        · refine ⟨_, rfl, _, rfl, a, c, xs, ys, rfl, .inl ⟨s1.seq hA, s1.seq hC, fun D hD => ?_⟩⟩
          exact lc_it (walk_zip (n := xs.length) (by omega)) (fun i G => Same (upd H p (.tup [V.ty "list", V.ty "tuple"])) G ∧ G D = some (.lst (List.replicate i (V.bl true)))) ⟨same_upd (Same.refl _) hD, upd_same⟩
            (fun i G _ q => ⟨q.1.seq (s1.seq hA), q.1.seq (s1.seq hC)⟩) (fun i v G G' hi q y => turn D i v G G' _ hD q hi y rfl) (fun G q => last D G q)
        · refine ⟨_, rfl, _, rfl, a, c, xs, ys, rfl, .inr ⟨seqT s1 hA, seqT s1 hC, fun D hD => ?_⟩⟩
          exact lc_it (walk_zipT hlen) (fun i G => Same (upd H p (.tup [V.ty "list", V.ty "tuple"])) G ∧ G D = some (.lst (List.replicate i (V.bl true)))) ⟨same_upd (Same.refl _) hD, upd_same⟩
            (fun i G _ q => ⟨seqT q.1 (seqT s1 hA), seqT q.1 (seqT s1 hC)⟩) (fun i v G G' hi q y => turn D i v G G' _ hD q hi y rfl) (fun G q => last D G q)
end
/-- a def that stands at f and is called by its name -/
structure Def (P : Program) (w : World) (K : PySem.W.Frag) (mg : Str → Option Value) (base : Heap) (CX : CXT) (k : Nat) (x : Str) (f : Addr) (fd : FuncData) (ps : List Str) (sp : Sp) : Prop where
  ok : FnOk P w K mg base CX k f fd ps sp
  g : mg x = some (.ref f)
  k : PySem.W.keepIn K (.ref f) = true
  b : Binds K fd ps []

section
variable {P : Program} {w : World} {K : PySem.W.Frag} {mg : Str → Option Value} {base : Heap}
/-! ## common_divisor -/
def spGcd : Sp := fun vs H Q _ => ∃ a b : Int, vs = [.int a, .int b] ∧ 0 ≤ a ∧ 0 ≤ b ∧ Q (.int (gcdI a b)) H
theorem scGcd : FnScope ["one", "other"] ["one", "other"] (defScope sGcd) := ⟨rfl, rfl, rfl, by decide +kernel, rfl, by decide +kernel, by decide +kernel⟩
theorem ok_gcd {f : Addr} {fd : FuncData} (F : Fun K "common_divisor" "common_divisor" sGcd f fd) : FnOk P w K mg base CX0 1 f fd ["one", "other"] spGcd := by
  refine F.ok scGcd (fun vs H Q E h => ?_) (fun cdv A outer s H vs Q E hr h => ?_)
  · obtain ⟨a, b, rfl, _⟩ := h
    rfl
  · obtain ⟨a, b, rfl, ha, hb, k⟩ := h
    refine ⟨_, pss_cons (ps_while PassesOwn.never (pt_cmpR op_ne (pv 1) pe_int (nomark _)) (pss_one (ps_par (i := 0) (j := 1) rfl scGcd.nd rfl rfl (by decide) rfl rfl (pa_cons (pv 1) (pa_cons (pe_op op_mod (pv 0) (pv 1)) pa_nil)) (by rfl)))) (pss_one (ps_ret (pv 0))), ?_⟩
    refine ⟨fun m σ G => ∃ x y : Int, σ = [some (.int x), some (.int y)] ∧ G = H ∧ m = y.toNat ∧ 0 ≤ x ∧ 0 ≤ y ∧ gcdI x y = gcdI a b, ⟨_, a, b, rfl, rfl, rfl, ha, hb, rfl⟩, ?_⟩
    rintro m σ G ⟨x, y, rfl, rfl, rfl, hx, hy, hg⟩
    refine ⟨_, rfl, rfl, _, rfl, ?_⟩
    by_cases c : y = 0
    · subst c
      refine iteNS rfl ?_
      rw [gcdI_zero hx] at hg
      refine ⟨_, rfl, ?_⟩
      rw [hg]
      exact k
    · have hy1 : 0 < y := by omega
      refine ifT (ne_int c) ⟨fun σ G1 => ∃ x' y' : Int, σ = [some (.int x'), some (.int y')] ∧ G1 = G ∧ y'.toNat < y.toNat ∧ 0 ≤ x' ∧ 0 ≤ y' ∧ gcdI x' y' = gcdI a b, ?_, ?_⟩
      · rintro σ' H' ⟨x', y', rfl, rfl, hl, h1, h2, h3⟩
        exact ⟨_, hl, x', y', rfl, rfl, rfl, h1, h2, h3⟩
      · refine ⟨_, rfl, _, rfl, _, rfl, x, y, rfl, rfl, hy1, _, _, rfl, ?_⟩
        have q1 := Int.emod_nonneg x c
        have q2 := Int.emod_lt_of_pos x hy1
        exact ⟨y, x % y, rfl, rfl, by omega, hy, q1, (gcdI_step hx hy1).trans hg⟩
end
section
variable {P : Program} {w : World} {K : PySem.W.Frag} {mg : Str → Option Value} {base : Heap}
structure TxtA (mg : Str → Option Value) : Prop where
  abs : mg "abs" = none
def spLow : Sp := fun vs H Q _ => ∃ a b : Int, vs = [.int a, .int b] ∧ b ≠ 0 ∧ b.natAbs < 2 ^ 8000 ∧ ∀ p, H p = none → Q (.ref p) (upd H p (.tup [.int (frN a b), .int (frD a b)]))
theorem scLow : FnScope ["_law_above", "_law_below", "_law_one", "_law_other"] ["_law_above", "_law_below"] (defScope sLowest) := ⟨rfl, rfl, rfl, by decide +kernel, rfl, by decide +kernel, by decide +kernel⟩
theorem ok_low {f : Addr} {fd : FuncData} (F : Fun K "_law_lowest" "_law_lowest" sLowest f fd) (T : TxtA mg) : FnOk P w K mg base CX0 1 f fd ["_law_above", "_law_below"] spLow := by
  refine F.ok scLow (fun vs H Q E h => ?_) (fun cdv A outer s H vs Q E hr h => ?_)
  · obtain ⟨a, b, rfl, _⟩ := h
    rfl
  · obtain ⟨a, b, rfl, hb, hsz, k⟩ := h
    refine ⟨_, C8.pss_cut (ps_if (pt_cmpR op_lt (pv 1) pe_int (nomark _)) (pss_one (ps_par (i := 0) (j := 1) rfl scLow.nd rfl rfl (by decide) rfl rfl (pa_cons (pe_op op_sub pe_int (pv 0)) (pa_cons (pe_op op_sub pe_int (pv 1)) pa_nil)) (by rfl))) pss_nil)
      (pss_cons (ps_par (i := 2) (j := 3) rfl scLow.nd rfl rfl (by decide) rfl rfl (pa_cons (pe_callB call_abs (by rfl) T.abs (by decide +kernel) (pa_cons (pv 0) pa_nil)) (pa_cons (pv 1) pa_nil)) (by rfl))
      (pss_cons (ps_while PassesOwn.never (pt_cmpR op_ne (pv 3) pe_int (nomark _)) (pss_one (ps_par (i := 2) (j := 3) rfl scLow.nd rfl rfl (by decide) rfl rfl (pa_cons (pv 3) (pa_cons (pe_op op_mod (pv 2) (pv 3)) pa_nil)) (by rfl))))
      (pss_one (ps_ret (pe_tup (pa_cons (pe_op op_fdivW (pv 0) (pv 2)) (pa_cons (pe_op op_fdivW (pv 1) (pv 2)) pa_nil))))))), ?_⟩
    refine ⟨fun σ G => G = H ∧ ∃ x y : Int, σ = [some (.int x), some (.int y), none, none] ∧ x = (if b < 0 then -a else a) ∧ y = (if b < 0 then -b else b), ?_, ?_⟩
    · refine ⟨_, rfl, _, _, rfl, rfl, _, rfl, ?_⟩
      by_cases c : b < 0
      · refine ifT (decide_eq_true c) ?_
        refine ⟨_, rfl, _, _, rfl, rfl, _, rfl, _, _, rfl, rfl, _, _, rfl, ?_⟩
        exact ⟨rfl, _, _, rfl, by rw [if_pos c]; omega, by rw [if_pos c]; omega⟩
      · refine ifF (decide_eq_false c) ?_
        exact ⟨rfl, a, b, rfl, by rw [if_neg c], by rw [if_neg c]⟩
    · rintro σ G ⟨rfl, x, y, rfl, ex, ey⟩
      have y1 : 0 < y := by
        rw [ey]
        split <;> omega
      have eg : gcdI x y = gcdI a b := by
        rw [ex, ey]
        by_cases c : b < 0
        · rw [if_pos c, if_pos c, gcdI_neg]
        · rw [if_neg c, if_neg c]
      refine ⟨_, rfl, _, rfl, _, rfl, _, _, rfl, ?_⟩
      refine ⟨fun m σ G' => ∃ u v : Int, σ = [some (.int x), some (.int y), some (.int u), some (.int v)] ∧ G' = G ∧ m = v.toNat ∧ 0 ≤ u ∧ 0 ≤ v ∧ gcdI u v = gcdI a b,
        ⟨_, _, y, rfl, rfl, rfl, absI_nn x, by omega, (gcdI_abs1 x y).trans eg⟩, ?_⟩
      rintro m σ G' ⟨u, v, rfl, rfl, rfl, hu, hv, hg⟩
      refine ⟨_, rfl, rfl, _, rfl, ?_⟩
      by_cases c : v = 0
      · subst c
        refine iteNS rfl ?_
        rw [gcdI_zero hu] at hg
        have gp : 0 < gcdI a b := gcdI_pos hb
        have gl : (gcdI a b).natAbs < 2 ^ 8000 := Nat.lt_of_le_of_lt (by have := gcdI_le (a := a) hb; omega) hsz
        refine ⟨_, rfl, _, rfl, _, _, rfl, rfl, wide_div (by omega) (by rw [hg]; exact gl) (by decide) (by decide), _, rfl, _, rfl, _, _, rfl, rfl, wide_div (by omega) (by rw [hg]; exact gl) (by decide) (by decide), (by show 2 ≤ sizeLine; decide), fun p hp => ?_⟩
        have q := k p hp
        unfold frN frD at q
        rw [← ex, ← ey, ← hg] at q
        exact q
      · have v1 : 0 < v := by omega
        refine ifT (ne_int c) ⟨fun σ G1 => ∃ u' v' : Int, σ = [some (.int x), some (.int y), some (.int u'), some (.int v')] ∧ G1 = G' ∧ v'.toNat < v.toNat ∧ 0 ≤ u' ∧ 0 ≤ v' ∧ gcdI u' v' = gcdI a b, ?_, ?_⟩
        · rintro σ' H' ⟨u', v', rfl, rfl, hl, h1, h2, h3⟩
          exact ⟨_, hl, u', v', rfl, rfl, rfl, h1, h2, h3⟩
        · refine ⟨_, rfl, _, rfl, _, rfl, u, v, rfl, rfl, v1, _, _, rfl, ?_⟩
          have q1 := Int.emod_nonneg u c
          have q2 := Int.emod_lt_of_pos u v1
          exact ⟨v, u % v, rfl, rfl, by omega, hv, q1, (gcdI_step hu v1).trans hg⟩
end
end K18
namespace K18
open PySem PySem.Spec PyProof.Rows L2 Ew
section
variable {P : Program} {w : World} {K : PySem.W.Frag} {mg : Str → Option Value} {base : Heap}
/-! ## OutOfRange.__init__ -/
theorem scOut : FnScope ["self"] ["self"] (defScope sOutOfRange_init) := ⟨rfl, rfl, rfl, by decide +kernel, rfl, by decide +kernel, by decide +kernel⟩
theorem ok_out {f C fI : Addr} {fd : FuncData} (F : Fun K "__init__" "OutOfRange.__init__" sOutOfRange_init f fd) (T : ErrT K mg "OutOfRange" C fI) : FnOk P w K mg base CX0 1 f fd ["self"] (spInitTag K C "OutOfRange") := by
  refine F.ok scOut (fun vs H Q E h => ?_) (fun cdv A outer s H vs Q E hr h => ?_)
  · obtain ⟨a, rfl, _⟩ := h
    rfl
  · obtain ⟨a, rfl, ha, k⟩ := h
    exact ⟨_, pss_one (ps_ost (pv 0) pe_str), _, rfl, a, C, rfl, T.oex, T.nT, .inl ⟨ha, k⟩⟩
/-! ## fraction -/
def spFraction (C : Addr) : Sp := fun vs H Q E => ∃ n d : Int, vs = [.int n, .int d] ∧ d.natAbs < 2 ^ 8000 ∧
  (d = 0 → ∀ x, H x = none → E (.ref C) (some x) (upd H x (.xd [("tag", .str "OutOfRange")]))) ∧ (d ≠ 0 → ∀ p, H p = none → Q (.ref p) (upd H p (.tup [.int (frN n d), .int (frD n d)])))
structure TxtF (K : PySem.W.Frag) (mg : Str → Option Value) (C fI fG : Addr) : Prop where
  abs : mg "abs" = none
  out : ErrT K mg "OutOfRange" C fI
  gG : mg "common_divisor" = some (.ref fG)
  kG : PySem.W.keepIn K (.ref fG) = true
theorem scFr : FnScope ["numerator", "denominator", "divisor"] ["numerator", "denominator"] (defScope sFraction) := ⟨rfl, rfl, rfl, by decide +kernel, rfl, by decide +kernel, by decide +kernel⟩
theorem ok_fraction {f C fI fG : Addr} {fd fdI fdG : FuncData} {dvs : List V} {kws : List (Str × V)} (F : FunD K "fraction" "fraction" (defArgs sFraction) (defBody sFraction) (defScope sFraction) dvs kws f fd) (T : TxtF K mg C fI fG)
    (FI : FnOk P w K mg base CX0 1 fI fdI ["self"] (spInitTag K C "OutOfRange")) (bI : Binds K fdI ["self"] []) (FG : FnOk P w K mg base CX0 1 fG fdG ["one", "other"] spGcd) (bG : Binds K fdG ["one", "other"] []) :
    FnOk P w K mg base (L2.CX P w) 3 f fd ["numerator", "denominator"] (spFraction C) := by
  refine F.ok scFr (fun vs H Q E h => ?_) (fun cdv A outer s H vs Q E hr h => ?_)
  · obtain ⟨a, b, rfl, _⟩ := h
    rfl
  · obtain ⟨n, d, rfl, hsz, kE, kQ⟩ := h
    refine ⟨_, pss_cons (ps_if (pt_cmpR op_eq (pv 1) pe_int (nomark _)) (pss_one (ps_raise rfl (takes_of rfl rfl rfl rfl) (pmk0 T.out.oex T.out.iC T.out.tI FI hr bI pass0 rfl T.out.gC))) pss_nil)
      (pss_cons (ps_set (i := 2) scFr.nd rfl (Or.inl rfl) (pe_call FG (hr.mono (by decide)) rfl T.gG T.kG bG .nil pass0 (pa_cons (pe_callB call_abs (by rfl) T.abs (by decide +kernel) (pa_cons (pv 0) pa_nil)) (pa_cons (pe_callB call_abs (by rfl) T.abs (by decide +kernel) (pa_cons (pv 1) pa_nil)) pa_nil))))
      (C8.pss_cut (ps_if (pt_cmpR op_lt (pv 1) pe_int (nomark _)) (pss_one (ps_set (i := 2) scFr.nd rfl (Or.inl rfl) (pe_un un_neg (pv 2)))) pss_nil)
      (pss_one (ps_ret (pe_tup (pa_cons (pe_op op_fdivZ (pv 0) (pv 2)) (pa_cons (pe_op op_fdivZ (pv 1) (pv 2)) pa_nil))))))), ?_⟩
    refine ⟨_, rfl, rfl, _, rfl, ?_⟩
    by_cases c : d = 0
    · subst c
      refine ifT (decide_eq_true rfl) fun a ha => ?_
      refine ⟨a, rfl, upd_same, fun dx hdx ne => ⟨rfl, dx, [("tag", .str "OutOfRange")], upd_same, ?_, ?_, ?_⟩⟩
      · rw [upd_ne ne, upd_same]
      · rw [upd_ne ne] at hdx
        exact hdx
      · rw [raise_heap ha hdx ne]
        rw [upd_ne ne] at hdx
        exact kE rfl dx hdx
    · refine ifF (eq_int c) ?_
      have gp : 0 < gcdI n d := gcdI_pos c
      have gl : (gcdI n d).natAbs < 2 ^ 8000 := Nat.lt_of_le_of_lt (by have := gcdI_le (a := n) c; omega) hsz
      refine ⟨_, rfl, _, rfl, _, rfl, _, rfl, absI n, absI d, rfl, absI_nn n, absI_nn d, ?_⟩
      rw [gcdI_abs]
      refine ⟨fun σ G => G = H ∧ σ = [some (.int n), some (.int d), some (.int (if d < 0 then -(gcdI n d) else gcdI n d))], ?_, ?_⟩
      · refine ⟨_, rfl, _, _, rfl, rfl, _, rfl, ?_⟩
        by_cases e : d < 0
        · refine ifT (decide_eq_true e) ⟨_, rfl, _, rfl, rfl, ?_⟩
          rw [if_pos e]
          rfl
        · refine ifF (decide_eq_false e) ⟨rfl, ?_⟩
          rw [if_neg e]
          rfl
      · rintro σ G ⟨rfl, rfl⟩
        have kq := kQ c
        unfold frN frD at kq
        by_cases e : d < 0
        · rw [if_pos e] at kq ⊢
          rw [if_pos e] at kq
          have hc : ∀ i : Int, CDivZ i (-(gcdI n d)) := fun i => ⟨by omega, by rw [Int.natAbs_neg]; exact Nat.lt_of_lt_of_le (PySem.Flt.log2_lt_of (by decide) gl) (by decide)⟩
          refine ⟨_, rfl, _, rfl, _, _, rfl, rfl, hc _, _, rfl, _, rfl, _, _, rfl, rfl, hc _, (by show 2 ≤ sizeLine; decide), fun p hp => ?_⟩
          have q := kq p hp
          rw [← fdiv_flip n gp, ← fdiv_flip d gp] at q
          exact q
        · rw [if_neg e] at kq ⊢
          rw [if_neg e] at kq
          have hc : ∀ i : Int, CDivZ i (gcdI n d) := fun i => ⟨by omega, Nat.lt_of_lt_of_le (PySem.Flt.log2_lt_of (by decide) gl) (by decide)⟩
          refine ⟨_, rfl, _, rfl, _, _, rfl, rfl, hc _, _, rfl, _, rfl, _, _, rfl, rfl, hc _, (by show 2 ≤ sizeLine; decide), fun p hp => ?_⟩
          have q := kq p hp
          rw [← Int.fdiv_eq_ediv_of_nonneg n (by omega : 0 ≤ gcdI n d), ← Int.fdiv_eq_ediv_of_nonneg d (by omega : 0 ≤ gcdI n d)] at q
          exact q
end
end K18
namespace K18
open PySem PySem.Spec PyProof.Rows L2 Ew
section
variable {P : Program} {w : World} {K : PySem.W.Frag} {mg : Str → Option Value} {base : Heap}
/-! ## fractions: _law_plus, _law_minus, _law_times, _law_less, _law_inside -/
def spQ2 (K : PySem.W.Frag) (X Y : Int → Int → Int → Int → Int) : Sp := fun vs H Q _ => ∃ (u v : Addr) (a b c d : Int), vs = [.ref u, .ref v] ∧ SqT K H u [.int a, .int b] ∧ SqT K H v [.int c, .int d] ∧ Sw a ∧ Sw b ∧ Sw c ∧ Sw d ∧ b ≠ 0 ∧ d ≠ 0 ∧
  ∀ p, H p = none → Q (.ref p) (upd H p (.tup [.int (frN (X a b c d) (Y a b c d)), .int (frD (X a b c d) (Y a b c d))]))
abbrev spQplus (K : PySem.W.Frag) : Sp := spQ2 K (fun a b c d => a * d + c * b) (fun _ b _ d => b * d)
abbrev spQminus (K : PySem.W.Frag) : Sp := spQ2 K (fun a b c d => a * d - c * b) (fun _ b _ d => b * d)
abbrev spQtimes (K : PySem.W.Frag) : Sp := spQ2 K (fun a _ c _ => a * c) (fun _ b _ d => b * d)
theorem scQplus : FnScope ["_law_one", "_law_other"] ["_law_one", "_law_other"] (defScope sLawPlus) := ⟨rfl, rfl, rfl, by decide +kernel, rfl, by decide +kernel, by decide +kernel⟩
theorem ok_qplus {f fL : Addr} {fd fdL : FuncData} (F : Fun K "_law_plus" "_law_plus" sLawPlus f fd) (L : Def P w K mg base CX0 1 "_law_lowest" fL fdL ["_law_above", "_law_below"] spLow) : FnOk P w K mg base CX0 2 f fd ["_law_one", "_law_other"] (spQplus K) := by
  refine F.ok scQplus (fun vs H Q E h => ?_) (fun cdv A outer s H vs Q E hr h => ?_)
  · obtain ⟨u, v, a, b, c, d, rfl, _⟩ := h
    rfl
  · obtain ⟨u, v, a, b, c, d, rfl, hu, hv, sa, sb, sc, sd, b0, d0, k⟩ := h
    refine ⟨_, (pss_one (ps_ret (pe_call L.ok hr rfl L.g L.k L.b .nil pass0 (pa_cons (pe_op op_add (pe_op op_mulW (pe_ix ix_tup (pv 0) pe_int (fun _ _ => rfl)) (pe_ix ix_tup (pv 1) pe_int (fun _ _ => rfl))) (pe_op op_mulW (pe_ix ix_tup (pv 1) pe_int (fun _ _ => rfl)) (pe_ix ix_tup (pv 0) pe_int (fun _ _ => rfl)))) (pa_cons (pe_op op_mulW (pe_ix ix_tup (pv 0) pe_int (fun _ _ => rfl)) (pe_ix ix_tup (pv 1) pe_int (fun _ _ => rfl))) pa_nil))))), ?_⟩
    exact ⟨_, rfl, u, _, _, _, rfl, rfl, hu, rfl, _, rfl, v, _, _, _, rfl, rfl, hv, rfl, _, _, rfl, rfl, sw_mul sa sd, _, rfl, v, _, _, _, rfl, rfl, hv, rfl, _, rfl, u, _, _, _, rfl, rfl, hu, rfl, _, _, rfl, rfl, sw_mul sc sb, _, _, rfl, rfl,
      _, rfl, u, _, _, _, rfl, rfl, hu, rfl, _, rfl, v, _, _, _, rfl, rfl, hv, rfl, _, _, rfl, rfl, sw_mul sb sd, _, _, rfl, Int.mul_ne_zero b0 d0, sw_lt sb sd, k⟩
theorem scQminus : FnScope ["_law_one", "_law_other"] ["_law_one", "_law_other"] (defScope sLawMinus) := ⟨rfl, rfl, rfl, by decide +kernel, rfl, by decide +kernel, by decide +kernel⟩
theorem ok_qminus {f fL : Addr} {fd fdL : FuncData} (F : Fun K "_law_minus" "_law_minus" sLawMinus f fd) (L : Def P w K mg base CX0 1 "_law_lowest" fL fdL ["_law_above", "_law_below"] spLow) : FnOk P w K mg base CX0 2 f fd ["_law_one", "_law_other"] (spQminus K) := by
  refine F.ok scQminus (fun vs H Q E h => ?_) (fun cdv A outer s H vs Q E hr h => ?_)
  · obtain ⟨u, v, a, b, c, d, rfl, _⟩ := h
    rfl
  · obtain ⟨u, v, a, b, c, d, rfl, hu, hv, sa, sb, sc, sd, b0, d0, k⟩ := h
    refine ⟨_, (pss_one (ps_ret (pe_call L.ok hr rfl L.g L.k L.b .nil pass0 (pa_cons (pe_op op_sub (pe_op op_mulW (pe_ix ix_tup (pv 0) pe_int (fun _ _ => rfl)) (pe_ix ix_tup (pv 1) pe_int (fun _ _ => rfl))) (pe_op op_mulW (pe_ix ix_tup (pv 1) pe_int (fun _ _ => rfl)) (pe_ix ix_tup (pv 0) pe_int (fun _ _ => rfl)))) (pa_cons (pe_op op_mulW (pe_ix ix_tup (pv 0) pe_int (fun _ _ => rfl)) (pe_ix ix_tup (pv 1) pe_int (fun _ _ => rfl))) pa_nil))))), ?_⟩
    exact ⟨_, rfl, u, _, _, _, rfl, rfl, hu, rfl, _, rfl, v, _, _, _, rfl, rfl, hv, rfl, _, _, rfl, rfl, sw_mul sa sd, _, rfl, v, _, _, _, rfl, rfl, hv, rfl, _, rfl, u, _, _, _, rfl, rfl, hu, rfl, _, _, rfl, rfl, sw_mul sc sb, _, _, rfl, rfl,
      _, rfl, u, _, _, _, rfl, rfl, hu, rfl, _, rfl, v, _, _, _, rfl, rfl, hv, rfl, _, _, rfl, rfl, sw_mul sb sd, _, _, rfl, Int.mul_ne_zero b0 d0, sw_lt sb sd, k⟩
theorem scQtimes : FnScope ["_law_one", "_law_other"] ["_law_one", "_law_other"] (defScope sLawTimes) := ⟨rfl, rfl, rfl, by decide +kernel, rfl, by decide +kernel, by decide +kernel⟩
theorem ok_qtimes {f fL : Addr} {fd fdL : FuncData} (F : Fun K "_law_times" "_law_times" sLawTimes f fd) (L : Def P w K mg base CX0 1 "_law_lowest" fL fdL ["_law_above", "_law_below"] spLow) : FnOk P w K mg base CX0 2 f fd ["_law_one", "_law_other"] (spQtimes K) := by
  refine F.ok scQtimes (fun vs H Q E h => ?_) (fun cdv A outer s H vs Q E hr h => ?_)
  · obtain ⟨u, v, a, b, c, d, rfl, _⟩ := h
    rfl
  · obtain ⟨u, v, a, b, c, d, rfl, hu, hv, sa, sb, sc, sd, b0, d0, k⟩ := h
    refine ⟨_, (pss_one (ps_ret (pe_call L.ok hr rfl L.g L.k L.b .nil pass0 (pa_cons (pe_op op_mulW (pe_ix ix_tup (pv 0) pe_int (fun _ _ => rfl)) (pe_ix ix_tup (pv 1) pe_int (fun _ _ => rfl))) (pa_cons (pe_op op_mulW (pe_ix ix_tup (pv 0) pe_int (fun _ _ => rfl)) (pe_ix ix_tup (pv 1) pe_int (fun _ _ => rfl))) pa_nil))))), ?_⟩
    exact ⟨_, rfl, u, _, _, _, rfl, rfl, hu, rfl, _, rfl, v, _, _, _, rfl, rfl, hv, rfl, _, _, rfl, rfl, sw_mul sa sc,
      _, rfl, u, _, _, _, rfl, rfl, hu, rfl, _, rfl, v, _, _, _, rfl, rfl, hv, rfl, _, _, rfl, rfl, sw_mul sb sd, _, _, rfl, Int.mul_ne_zero b0 d0, sw_lt sb sd, k⟩
def spLess (K : PySem.W.Frag) : Sp := fun vs H Q _ => ∃ (u v : Addr) (a b c d : Int), vs = [.ref u, .ref v] ∧ SqT K H u [.int a, .int b] ∧ SqT K H v [.int c, .int d] ∧ Sw a ∧ Sw b ∧ Sw c ∧ Sw d ∧ Q (.bl (decide (a * d < c * b))) H
theorem scQless : FnScope ["_law_one", "_law_other"] ["_law_one", "_law_other"] (defScope sLawLess) := ⟨rfl, rfl, rfl, by decide +kernel, rfl, by decide +kernel, by decide +kernel⟩
theorem ok_qless {f : Addr} {fd : FuncData} (F : Fun K "_law_less" "_law_less" sLawLess f fd) : FnOk P w K mg base CX0 1 f fd ["_law_one", "_law_other"] (spLess K) := by
  refine F.ok scQless (fun vs H Q E h => ?_) (fun cdv A outer s H vs Q E hr h => ?_)
  · obtain ⟨u, v, a, b, c, d, rfl, _⟩ := h
    rfl
  · obtain ⟨u, v, a, b, c, d, rfl, hu, hv, sa, sb, sc, sd, k⟩ := h
    refine ⟨_, (pss_one (ps_ret (pe_cmpR op_lt (pe_op op_mulW (pe_ix ix_tup (pv 0) pe_int (fun _ _ => rfl)) (pe_ix ix_tup (pv 1) pe_int (fun _ _ => rfl))) (pe_op op_mulW (pe_ix ix_tup (pv 1) pe_int (fun _ _ => rfl)) (pe_ix ix_tup (pv 0) pe_int (fun _ _ => rfl))) (nomark _)))), ?_⟩
    exact ⟨_, rfl, u, _, _, _, rfl, rfl, hu, rfl, _, rfl, v, _, _, _, rfl, rfl, hv, rfl, _, _, rfl, rfl, sw_mul sa sd, _, rfl, v, _, _, _, rfl, rfl, hv, rfl, _, rfl, u, _, _, _, rfl, rfl, hu, rfl, _, _, rfl, rfl, sw_mul sc sb, _, _, rfl, rfl, k⟩
end
end K18
namespace K18
open PySem PySem.Spec PyProof.Rows L2 Ew
section
variable {P : Program} {w : World} {K : PySem.W.Frag} {mg : Str → Option Value} {base : Heap}
/-! ## is_less, is_within -/
theorem scIsLess : FnScope ["one", "other"] ["one", "other"] (defScope sIsLess) := ⟨rfl, rfl, rfl, by decide +kernel, rfl, by decide +kernel, by decide +kernel⟩
theorem ok_isless {f : Addr} {fd : FuncData} (F : Fun K "is_less" "is_less" sIsLess f fd) : FnOk P w K mg base CX0 1 f fd ["one", "other"] (spLess K) := by
  refine F.ok scIsLess (fun vs H Q E h => ?_) (fun cdv A outer s H vs Q E hr h => ?_)
  · obtain ⟨u, v, a, b, c, d, rfl, _⟩ := h
    rfl
  · obtain ⟨u, v, a, b, c, d, rfl, hu, hv, sa, sb, sc, sd, k⟩ := h
    refine ⟨_, (pss_one (ps_ret (pe_cmpR op_lt (pe_op op_mulW (pe_ix ix_tup (pv 0) pe_int (fun _ _ => rfl)) (pe_ix ix_tup (pv 1) pe_int (fun _ _ => rfl))) (pe_op op_mulW (pe_ix ix_tup (pv 1) pe_int (fun _ _ => rfl)) (pe_ix ix_tup (pv 0) pe_int (fun _ _ => rfl))) (nomark _)))), ?_⟩
    exact ⟨_, rfl, u, _, _, _, rfl, rfl, hu, rfl, _, rfl, v, _, _, _, rfl, rfl, hv, rfl, _, _, rfl, rfl, sw_mul sa sd, _, rfl, v, _, _, _, rfl, rfl, hv, rfl, _, rfl, u, _, _, _, rfl, rfl, hu, rfl, _, _, rfl, rfl, sw_mul sc sb, _, _, rfl, rfl, k⟩
end
end K18
namespace K18
open PySem PySem.Spec PyProof.Rows L2 Ew
section
variable {P : Program} {w : World} {K : PySem.W.Frag} {mg : Str → Option Value} {base : Heap}
/-! ## the law's arithmetic, as rational numbers -/
theorem r_plus {k : Nat} {f : Addr} {fd : FuncData} {ps : List Str} (h : FnOk P w K mg base CX0 k f fd ps (spQplus K)) : FnOk P w K mg base CX0 k f fd ps (spR2 (· + ·) (fun _ _ => True)) := h.imp fun vs H Q E h => by
  obtain ⟨_, _, r, s, rfl, ⟨a, rfl, ha⟩, ⟨b, rfl, hb⟩, z1, z2, _, k⟩ := h
  refine ⟨a, b, r.num, r.den, s.num, s.den, rfl, SqT.of ha, SqT.of hb, (sz_sw z1).1, (sz_sw z1).2, (sz_sw z2).1, (sz_sw z2).2, den_ne r, den_ne s, fun p hp => k _ p (same_upd (Same.refl H) hp) hp ?_⟩
  rw [upd_same]
  show some (HO.tup [.int (frN (r.num * s.den + s.num * r.den) (r.den * s.den)), .int (frD (r.num * s.den + s.num * r.den) (r.den * s.den))]) = _
  rw [qV_fr (Int.mul_ne_zero (den_ne r) (den_ne s)), ← add_rat]
theorem r_minus {k : Nat} {f : Addr} {fd : FuncData} {ps : List Str} (h : FnOk P w K mg base CX0 k f fd ps (spQminus K)) : FnOk P w K mg base CX0 k f fd ps (spR2 (· - ·) (fun _ _ => True)) := h.imp fun vs H Q E h => by
  obtain ⟨_, _, r, s, rfl, ⟨a, rfl, ha⟩, ⟨b, rfl, hb⟩, z1, z2, _, k⟩ := h
  refine ⟨a, b, r.num, r.den, s.num, s.den, rfl, SqT.of ha, SqT.of hb, (sz_sw z1).1, (sz_sw z1).2, (sz_sw z2).1, (sz_sw z2).2, den_ne r, den_ne s, fun p hp => k _ p (same_upd (Same.refl H) hp) hp ?_⟩
  rw [upd_same]
  show some (HO.tup [.int (frN (r.num * s.den - s.num * r.den) (r.den * s.den)), .int (frD (r.num * s.den - s.num * r.den) (r.den * s.den))]) = _
  rw [qV_fr (Int.mul_ne_zero (den_ne r) (den_ne s)), ← sub_rat]
theorem r_times {k : Nat} {f : Addr} {fd : FuncData} {ps : List Str} (h : FnOk P w K mg base CX0 k f fd ps (spQtimes K)) : FnOk P w K mg base CX0 k f fd ps (spR2 (· * ·) (fun _ _ => True)) := h.imp fun vs H Q E h => by
  obtain ⟨_, _, r, s, rfl, ⟨a, rfl, ha⟩, ⟨b, rfl, hb⟩, z1, z2, _, k⟩ := h
  refine ⟨a, b, r.num, r.den, s.num, s.den, rfl, SqT.of ha, SqT.of hb, (sz_sw z1).1, (sz_sw z1).2, (sz_sw z2).1, (sz_sw z2).2, den_ne r, den_ne s, fun p hp => k _ p (same_upd (Same.refl H) hp) hp ?_⟩
  rw [upd_same]
  show some (HO.tup [.int (frN (r.num * s.num) (r.den * s.den)), .int (frD (r.num * s.num) (r.den * s.den))]) = _
  rw [qV_fr (Int.mul_ne_zero (den_ne r) (den_ne s)), ← mul_rat]
theorem r_less {k : Nat} {f : Addr} {fd : FuncData} {ps : List Str} (h : FnOk P w K mg base CX0 k f fd ps (spLess K)) : FnOk P w K mg base CX0 k f fd ps spRless := h.imp fun vs H Q E h => by
  obtain ⟨_, _, r, s, rfl, ⟨a, rfl, ha⟩, ⟨b, rfl, hb⟩, z1, z2, k⟩ := h
  refine ⟨a, b, r.num, r.den, s.num, s.den, rfl, SqT.of ha, SqT.of hb, (sz_sw z1).1, (sz_sw z1).2, (sz_sw z2).1, (sz_sw z2).2, ?_⟩
  rw [lt_rat]
  exact k
theorem r_low {k : Nat} {f : Addr} {fd : FuncData} {ps : List Str} (h : FnOk P w K mg base CX0 k f fd ps spLow) : FnOk P w K mg base CX0 k f fd ps (fun vs H Q _ => ∃ a b : Int, vs = [.int a, .int b] ∧ b ≠ 0 ∧ b.natAbs < 2 ^ 8000 ∧ ∀ G p, Same H G → H p = none → G p = some (.tup (qV (Rat.divInt a b))) → Q (.ref p) G) := h.imp fun vs H Q E h => by
  obtain ⟨a, b, rfl, hb, hz, k⟩ := h
  exact ⟨a, b, rfl, hb, hz, fun p hp => k _ p (same_upd (Same.refl H) hp) hp (by rw [upd_same, qV_fr hb])⟩
end
end K18
namespace K18
open PySem PySem.Spec PyProof.Rows L2 Ew
section
variable {P : Program} {w : World} {K : PySem.W.Frag} {mg : Str → Option Value} {base : Heap}
/-! ## the program's arithmetic -/
theorem scSumOf : FnScope ["one", "other"] ["one", "other"] (defScope sSumOf) := ⟨rfl, rfl, rfl, by decide +kernel, rfl, by decide +kernel, by decide +kernel⟩
theorem ok_SumOf {f CO fFr : Addr} {fd fdFr : FuncData} (F : Fun K "sum_of" "sum_of" sSumOf f fd) (Fr : Def P w K mg base (L2.CX P w) 3 "fraction" fFr fdFr ["numerator", "denominator"] (spFraction CO)) : FnOk P w K mg base CX0 4 f fd ["one", "other"] (spR2 (· + ·) (fun _ _ => True)) := by
  refine F.ok scSumOf (fun vs H Q E h => ?_) (fun cdv A outer s H vs Q E hr h => ?_)
  · obtain ⟨u, v, r, s, rfl, _⟩ := h
    rfl
  · obtain ⟨_, _, r, s, rfl, ⟨u, rfl, hu⟩, ⟨v, rfl, hv⟩, z1, z2, h0, k⟩ := h
    obtain ⟨sa, sb⟩ := sz_sw z1
    obtain ⟨sc, sd⟩ := sz_sw z2
    refine ⟨_, (pss_one (ps_ret (pe_call Fr.ok hr rfl Fr.g Fr.k Fr.b .nil passL (pa_cons (pe_op op_add (pe_op op_mulW (pe_ix ix_tup (pv 0) pe_int (fun _ _ => rfl)) (pe_ix ix_tup (pv 1) pe_int (fun _ _ => rfl))) (pe_op op_mulW (pe_ix ix_tup (pv 1) pe_int (fun _ _ => rfl)) (pe_ix ix_tup (pv 0) pe_int (fun _ _ => rfl)))) (pa_cons (pe_op op_mulW (pe_ix ix_tup (pv 0) pe_int (fun _ _ => rfl)) (pe_ix ix_tup (pv 1) pe_int (fun _ _ => rfl))) pa_nil))))), ?_⟩
    refine ⟨_, rfl, u, _, _, _, rfl, rfl, SqT.of hu, rfl, _, rfl, v, _, _, _, rfl, rfl, SqT.of hv, rfl, _, _, rfl, rfl, sw_mul sa sd, _, rfl, v, _, _, _, rfl, rfl, SqT.of hv, rfl, _, rfl, u, _, _, _, rfl, rfl, SqT.of hu, rfl, _, _, rfl, rfl, sw_mul sc sb, _, _, rfl, rfl, _, rfl, u, _, _, _, rfl, rfl, SqT.of hu, rfl, _, rfl, v, _, _, _, rfl, rfl, SqT.of hv, rfl, _, _, rfl, rfl, sw_mul sb sd, _, _, rfl, sw_lt sb sd, fun z => absurd z (Int.mul_ne_zero (den_ne r) (den_ne s)), fun _ p hp => k _ p (same_upd (Same.refl H) hp) hp ?_⟩
    rw [upd_same]
    show some (HO.tup [.int (frN (r.num * s.den + s.num * r.den) (r.den * s.den)), .int (frD (r.num * s.den + s.num * r.den) (r.den * s.den))]) = _
    rw [qV_fr (Int.mul_ne_zero (den_ne r) (den_ne s)), ← add_rat]
theorem scDifference : FnScope ["one", "other"] ["one", "other"] (defScope sDifference) := ⟨rfl, rfl, rfl, by decide +kernel, rfl, by decide +kernel, by decide +kernel⟩
theorem ok_Difference {f CO fFr : Addr} {fd fdFr : FuncData} (F : Fun K "difference" "difference" sDifference f fd) (Fr : Def P w K mg base (L2.CX P w) 3 "fraction" fFr fdFr ["numerator", "denominator"] (spFraction CO)) : FnOk P w K mg base CX0 4 f fd ["one", "other"] (spR2 (· - ·) (fun _ _ => True)) := by
  refine F.ok scDifference (fun vs H Q E h => ?_) (fun cdv A outer s H vs Q E hr h => ?_)
  · obtain ⟨u, v, r, s, rfl, _⟩ := h
    rfl
  · obtain ⟨_, _, r, s, rfl, ⟨u, rfl, hu⟩, ⟨v, rfl, hv⟩, z1, z2, h0, k⟩ := h
    obtain ⟨sa, sb⟩ := sz_sw z1
    obtain ⟨sc, sd⟩ := sz_sw z2
    refine ⟨_, (pss_one (ps_ret (pe_call Fr.ok hr rfl Fr.g Fr.k Fr.b .nil passL (pa_cons (pe_op op_sub (pe_op op_mulW (pe_ix ix_tup (pv 0) pe_int (fun _ _ => rfl)) (pe_ix ix_tup (pv 1) pe_int (fun _ _ => rfl))) (pe_op op_mulW (pe_ix ix_tup (pv 1) pe_int (fun _ _ => rfl)) (pe_ix ix_tup (pv 0) pe_int (fun _ _ => rfl)))) (pa_cons (pe_op op_mulW (pe_ix ix_tup (pv 0) pe_int (fun _ _ => rfl)) (pe_ix ix_tup (pv 1) pe_int (fun _ _ => rfl))) pa_nil))))), ?_⟩
    refine ⟨_, rfl, u, _, _, _, rfl, rfl, SqT.of hu, rfl, _, rfl, v, _, _, _, rfl, rfl, SqT.of hv, rfl, _, _, rfl, rfl, sw_mul sa sd, _, rfl, v, _, _, _, rfl, rfl, SqT.of hv, rfl, _, rfl, u, _, _, _, rfl, rfl, SqT.of hu, rfl, _, _, rfl, rfl, sw_mul sc sb, _, _, rfl, rfl, _, rfl, u, _, _, _, rfl, rfl, SqT.of hu, rfl, _, rfl, v, _, _, _, rfl, rfl, SqT.of hv, rfl, _, _, rfl, rfl, sw_mul sb sd, _, _, rfl, sw_lt sb sd, fun z => absurd z (Int.mul_ne_zero (den_ne r) (den_ne s)), fun _ p hp => k _ p (same_upd (Same.refl H) hp) hp ?_⟩
    rw [upd_same]
    show some (HO.tup [.int (frN (r.num * s.den - s.num * r.den) (r.den * s.den)), .int (frD (r.num * s.den - s.num * r.den) (r.den * s.den))]) = _
    rw [qV_fr (Int.mul_ne_zero (den_ne r) (den_ne s)), ← sub_rat]
theorem scProduct : FnScope ["one", "other"] ["one", "other"] (defScope sProduct) := ⟨rfl, rfl, rfl, by decide +kernel, rfl, by decide +kernel, by decide +kernel⟩
theorem ok_Product {f CO fFr : Addr} {fd fdFr : FuncData} (F : Fun K "product" "product" sProduct f fd) (Fr : Def P w K mg base (L2.CX P w) 3 "fraction" fFr fdFr ["numerator", "denominator"] (spFraction CO)) : FnOk P w K mg base CX0 4 f fd ["one", "other"] (spR2 (· * ·) (fun _ _ => True)) := by
  refine F.ok scProduct (fun vs H Q E h => ?_) (fun cdv A outer s H vs Q E hr h => ?_)
  · obtain ⟨u, v, r, s, rfl, _⟩ := h
    rfl
  · obtain ⟨_, _, r, s, rfl, ⟨u, rfl, hu⟩, ⟨v, rfl, hv⟩, z1, z2, h0, k⟩ := h
    obtain ⟨sa, sb⟩ := sz_sw z1
    obtain ⟨sc, sd⟩ := sz_sw z2
    refine ⟨_, (pss_one (ps_ret (pe_call Fr.ok hr rfl Fr.g Fr.k Fr.b .nil passL (pa_cons (pe_op op_mulW (pe_ix ix_tup (pv 0) pe_int (fun _ _ => rfl)) (pe_ix ix_tup (pv 1) pe_int (fun _ _ => rfl))) (pa_cons (pe_op op_mulW (pe_ix ix_tup (pv 0) pe_int (fun _ _ => rfl)) (pe_ix ix_tup (pv 1) pe_int (fun _ _ => rfl))) pa_nil))))), ?_⟩
    refine ⟨_, rfl, u, _, _, _, rfl, rfl, SqT.of hu, rfl, _, rfl, v, _, _, _, rfl, rfl, SqT.of hv, rfl, _, _, rfl, rfl, sw_mul sa sc, _, rfl, u, _, _, _, rfl, rfl, SqT.of hu, rfl, _, rfl, v, _, _, _, rfl, rfl, SqT.of hv, rfl, _, _, rfl, rfl, sw_mul sb sd, _, _, rfl, sw_lt sb sd, fun z => absurd z (Int.mul_ne_zero (den_ne r) (den_ne s)), fun _ p hp => k _ p (same_upd (Same.refl H) hp) hp ?_⟩
    rw [upd_same]
    show some (HO.tup [.int (frN (r.num * s.num) (r.den * s.den)), .int (frD (r.num * s.num) (r.den * s.den))]) = _
    rw [qV_fr (Int.mul_ne_zero (den_ne r) (den_ne s)), ← mul_rat]
end
end K18
namespace K18
open PySem PySem.Spec PyProof.Rows L2 Ew
section
variable {P : Program} {w : World} {K : PySem.W.Frag} {mg : Str → Option Value} {base : Heap}
def spSmallerOf : Sp := fun vs H Q _ => ∃ (u v : V) (r s : Rat), vs = [u, v] ∧ QAt H u r ∧ QAt H v s ∧ Sz 3900 r ∧ Sz 3900 s ∧ Q (if s < r then v else u) H
theorem scSmallerOf : FnScope ["one", "other"] ["one", "other"] (defScope sSmallerOf) := ⟨rfl, rfl, rfl, by decide +kernel, rfl, by decide +kernel, by decide +kernel⟩
theorem ok_smaller_of {f fLs : Addr} {fd fdLs : FuncData} (F : Fun K "smaller_of" "smaller_of" sSmallerOf f fd) (Ls : Def P w K mg base CX0 1 "is_less" fLs fdLs ["one", "other"] spRless) : FnOk P w K mg base CX0 2 f fd ["one", "other"] spSmallerOf := by
  refine F.ok scSmallerOf (fun vs H Q E h => ?_) (fun cdv A outer s H vs Q E hr h => ?_)
  · obtain ⟨u, v, r, s, rfl, _⟩ := h
    rfl
  · obtain ⟨u, v, r, s, rfl, hu, hv, z1, z2, k⟩ := h
    refine ⟨_, (pss_one (ps_ret (pe_ifExp (pt_val (pe_call Ls.ok hr rfl Ls.g Ls.k Ls.b .nil pass0 (pa_cons (pv 1) (pa_cons (pv 0) pa_nil)))) (pv 1) (pv 0)))), ?_⟩
    refine ⟨_, rfl, _, rfl, v, u, s, r, rfl, hv, hu, z2, z1, _, rfl, ?_⟩
    by_cases c : s < r
    · rw [if_pos c] at k
      exact ifT (decide_eq_true c) ⟨_, rfl, k⟩
    · rw [if_neg c] at k
      exact ifF (decide_eq_false c) ⟨_, rfl, k⟩
def spGreaterOf : Sp := fun vs H Q _ => ∃ (u v : V) (r s : Rat), vs = [u, v] ∧ QAt H u r ∧ QAt H v s ∧ Sz 3900 r ∧ Sz 3900 s ∧ Q (if r < s then v else u) H
theorem scGreaterOf : FnScope ["one", "other"] ["one", "other"] (defScope sGreaterOf) := ⟨rfl, rfl, rfl, by decide +kernel, rfl, by decide +kernel, by decide +kernel⟩
theorem ok_greater_of {f fLs : Addr} {fd fdLs : FuncData} (F : Fun K "greater_of" "greater_of" sGreaterOf f fd) (Ls : Def P w K mg base CX0 1 "is_less" fLs fdLs ["one", "other"] spRless) : FnOk P w K mg base CX0 2 f fd ["one", "other"] spGreaterOf := by
  refine F.ok scGreaterOf (fun vs H Q E h => ?_) (fun cdv A outer s H vs Q E hr h => ?_)
  · obtain ⟨u, v, r, s, rfl, _⟩ := h
    rfl
  · obtain ⟨u, v, r, s, rfl, hu, hv, z1, z2, k⟩ := h
    refine ⟨_, (pss_one (ps_ret (pe_ifExp (pt_val (pe_call Ls.ok hr rfl Ls.g Ls.k Ls.b .nil pass0 (pa_cons (pv 0) (pa_cons (pv 1) pa_nil)))) (pv 1) (pv 0)))), ?_⟩
    refine ⟨_, rfl, _, rfl, u, v, r, s, rfl, hu, hv, z1, z2, _, rfl, ?_⟩
    by_cases c : r < s
    · rw [if_pos c] at k
      exact ifT (decide_eq_true c) ⟨_, rfl, k⟩
    · rw [if_neg c] at k
      exact ifF (decide_eq_false c) ⟨_, rfl, k⟩
end
end K18
namespace K18
open PySem PySem.Spec PyProof.Rows L2 Ew
section
variable {P : Program} {w : World} {K : PySem.W.Frag} {mg : Str → Option Value} {base : Heap}
/-! ## parts_of -/
structure TxtPo (mg : Str → Option Value) : Prop where
  list : mg "list" = none
def spParts : Sp := fun vs H Q _ => ∃ (e : Ex) (v : V), vs = [v] ∧ ExAt H e v ∧ ∀ (G : Hp) (p : Addr) (us : List V), Same H G → H p = none → G p = some (.lst us) → All2 (ExV G) us e.kids → Q (.ref p) G
theorem scPo : FnScope ["expression"] ["expression"] (defScope sPartsOf) := ⟨rfl, rfl, rfl, by decide +kernel, rfl, by decide +kernel, by decide +kernel⟩
theorem ok_parts {f : Addr} {fd : FuncData} (F : Fun K "parts_of" "parts_of" sPartsOf f fd) (T : TxtPo mg) : FnOk P w K mg base CX0 1 f fd ["expression"] spParts := by
  refine F.ok scPo (fun vs H Q E h => ?_) (fun cdv A outer s H vs Q E hr h => ?_)
  · obtain ⟨e, v, rfl, _⟩ := h
    rfl
  · obtain ⟨e, v, rfl, he, k⟩ := h
    refine ⟨_, (pss_cons (ps_if (pt_cmpR op_in_seq (pe_ix ix_tup (pv 0) pe_int (fun _ _ => rfl)) (pe_tup (pa_cons pe_str (pa_cons pe_str pa_nil))) (by with_unfolding_all rfl)) (pss_one (ps_ret (pe_lst pa_nil))) pss_nil)
 (pss_cons (ps_if (pt_cmpR op_in_seq (pe_ix ix_tup (pv 0) pe_int (fun _ _ => rfl)) (pe_tup (pa_cons pe_str (pa_cons pe_str pa_nil))) (by with_unfolding_all rfl)) (pss_one (ps_ret (pe_lst (pa_cons (pe_ix ix_tup (pv 0) pe_int (fun _ _ => rfl)) pa_nil)))) pss_nil)
 (pss_one (ps_ret (pe_callTy call_list_of (by rfl) T.list (by decide +kernel) (pa_cons (pe_slice sl_tup (pv 0) (po_some pe_int) po_none) pa_nil)))))), ?_⟩
    obtain ⟨a, us, rfl, ha, cl⟩ := he.cls
    refine ⟨_, rfl, a, _, _, _, rfl, rfl, SqT.of ha, at0 _ _, (by show 2 ≤ sizeLine; decide), fun t1 ht1 => ⟨t1, [.str "x", .str "number"], rfl, .inr (SqT.of upd_same), rfl, rfl, _, rfl, ?_⟩⟩
    have s1 := same_upd (o := .tup [.str "x", .str "number"]) (Same.refl H) ht1
    have w1 : inV (.str e.word) [V.str "x", V.str "number"] = decide (e.word ∈ (["x", "number"] : List Str)) := strIn e.word ["x", "number"]
    rcases cl with ⟨c1, ek⟩ | ⟨c1, c2, y, u, kd, rfl, ek, hk⟩ | ⟨c1, c2, ne, l2, al⟩
    · refine ifT (w1.trans (decide_eq_true c1)) ⟨(by show 0 ≤ sizeLine; decide), fun p hp => ?_⟩
      refine k _ p [] (same_upd s1 hp) (s1.free hp) upd_same ?_
      rw [ek]
      exact All2.nil
    all_goals refine ifF (w1.trans (decide_eq_false c1)) ?_
    all_goals refine ⟨_, rfl, a, _, _, _, rfl, rfl, SqT.of (s1 _ _ ha), at0 _ _, (by show 2 ≤ sizeLine; decide), fun t2 ht2 => ⟨t2, [.str "multiple", .str "call"], rfl, .inr (SqT.of upd_same), rfl, rfl, _, rfl, ?_⟩⟩
    all_goals have s2 := same_upd (o := .tup [.str "multiple", .str "call"]) s1 ht2
    all_goals have w2 : inV (.str e.word) [V.str "multiple", V.str "call"] = decide (e.word ∈ (["multiple", "call"] : List Str)) := strIn e.word ["multiple", "call"]
    · refine ifT (w2.trans (decide_eq_true c2)) ?_
      refine ⟨_, rfl, a, _, _, _, rfl, rfl, SqT.of (s2 _ _ ha), at2 _ _ _ _, (by show 1 ≤ sizeLine; decide), fun p hp => ?_⟩
      have s3 := same_upd (o := .lst [u]) s2 hp
      refine k _ p [u] s3 (s2.free hp) upd_same ?_
      rw [ek]
      exact All2.nil.snoc (hk.same s3)
    · refine ifF (w2.trans (decide_eq_false c2)) ?_
      refine ⟨_, rfl, _, rfl, a, _, rfl, SqT.of (s2 _ _ ha), ?_, fun t3 ht3 => ?_⟩
      · rintro ⟨z, _⟩
        have e := HT.sIx_nat (V.str e.word :: us).length 0 1
        rw [show (some ((1 : Nat) : Int)) = some (1 : Int) from rfl] at e
        rw [e] at z
        simp at z
      · have cu : cutV (V.str e.word :: us) (some 1) none = us := by rw [cut_tail]; rfl
        rw [cu]
        have s3 := same_upd (o := .tup us) s2 ht3
        refine ⟨t3, _, rfl, .inr (SqT.of upd_same), fun p hp => ?_⟩
        have s4 := same_upd (o := .lst us) s3 hp
        exact k _ p us s4 (s3.free hp) upd_same (al.imp fun _ _ h => h.same s4)
end
end K18
namespace K18
open PySem PySem.Spec PyProof.Rows L2 Ew
section
variable {P : Program} {w : World} {K : PySem.W.Frag} {mg : Str → Option Value} {base : Heap}
theorem fn_never {CX : CXT} {k : Nat} {f : Addr} {fd : FuncData} {ps : List Str} {sp : Sp} (h : ∀ vs H Q E, ¬ sp vs H Q E) : FnOk P w K mg base CX k f fd ps sp :=
  ⟨fun _ _ _ _ z => (h _ _ _ _ z).elim, fun _ _ _ _ _ _ _ _ _ _ _ _ _ z => (h _ _ _ _ z).elim⟩
/-! ## called_names -/
structure TxtRec (K : PySem.W.Frag) (mg : Str → Option Value) (x : Str) (f : Addr) : Prop where
  gS : mg x = some (.ref f)
  kS : PySem.W.keepIn K (.ref f) = true
def spCalled (n : Nat) : Sp := fun vs H Q _ => ∃ (e : Ex) (v : V), vs = [v] ∧ ExAt H e v ∧ e.dep ≤ n ∧ ∀ (G : Hp) (p : Addr), Same H G → H p = none → G p = some (.lst (e.calls.map V.str)) → Q (.ref p) G
def cnN : List Str := ["expression", "names", "part"]
theorem scCn : FnScope cnN ["expression"] (defScope sCalledNames) := ⟨rfl, rfl, rfl, by decide +kernel, rfl, by decide +kernel, by decide +kernel⟩
theorem calls_take {e : Ex} {i : Nat} {k : Ex} (h : e.kids[i]? = some k) : e.own ++ ((e.kids.take (i + 1)).map Ex.calls).flatten = (e.own ++ ((e.kids.take i).map Ex.calls).flatten) ++ k.calls := by
  rw [List.take_add_one, h]
  simp
theorem ok_called {f fPo : Addr} {fd fdPo : FuncData} (F : Fun K "called_names" "called_names" sCalledNames f fd) (b : Binds K fd ["expression"] []) (T : TxtRec K mg "called_names" f) (Po : Def P w K mg base CX0 1 "parts_of" fPo fdPo ["expression"] spParts) :
    ∀ n, n ≤ 13 → FnOk P w K mg base CX0 (n + 1) f fd ["expression"] (spCalled n)
  | 0, _ => fn_never fun vs H Q E h => by
    obtain ⟨e, v, _, _, h, _⟩ := h
    have := e.dep_pos
    omega
  | n + 1, hn => by
    have IH := ok_called F b T Po n (by omega)
    refine F.ok scCn (fun vs H Q E h => ?_) (fun cdv A outer s H vs Q E hr h => ?_)
    · obtain ⟨e, v, rfl, _⟩ := h
      rfl
    · obtain ⟨e, v, rfl, he, hd, k⟩ := h
      have r1' : Room 1 _ := hr.mono (by omega)
      refine ⟨_, (C8.pss_cut (ps_set (i := 1) scCn.nd rfl (Or.inl rfl) (pe_ifExp (pt_cmpR op_eq (pe_ix ix_tup (pv 0) pe_int (fun _ _ => rfl)) pe_str (nomark _)) (pe_lst (pa_cons (pe_ix ix_tup (pv 0) pe_int (fun _ _ => rfl)) pa_nil)) (pe_lst pa_nil)))
 (pss_cons (ps_for PassesOwn.never rfl (pi_list (pe_call Po.ok r1' rfl Po.g Po.k Po.b .nil pass0 (pa_cons (pv 0) pa_nil))) (pg_name (i := 2) scCn.nd rfl (Or.inl rfl))
 (pss_one (ps_expr (pe_bm PySem.F.plainAttrs_list PySem.F.slot_list_extend PySem.F.type_list_extend mt_extend (pv 1) (pa_cons (pe_call IH hr rfl T.gS T.kS b .nil pass0 (pa_cons (pv 2) pa_nil)) pa_nil)))))
 (pss_one (ps_ret (pv 1))))), ?_⟩
      obtain ⟨a, us, rfl, ha, ow⟩ := he.owns
      have few := Ex.calls_few hd hn
      refine ⟨fun σ G => ∃ D, σ = [some (.ref a), some (.ref D), none] ∧ Same H G ∧ H D = none ∧ G D = some (.lst (e.own.map V.str)), ?_, ?_⟩
      · refine ⟨_, rfl, a, _, _, _, rfl, rfl, SqT.of ha, at0 _ _, rfl, _, rfl, ?_⟩
        rcases ow with ⟨wd, n1, rest, rfl, eo⟩ | ⟨wd, eo⟩
        · refine ifT (decide_eq_true (by rw [wd])) ?_
          refine ⟨_, rfl, a, _, _, _, rfl, rfl, SqT.of ha, at1 _ _ _, (by show 1 ≤ sizeLine; decide), fun D hD => ⟨D, rfl, same_upd (Same.refl H) hD, hD, by rw [eo]; exact upd_same⟩⟩
        · refine ifF (decide_eq_false fun z => wd (by injection z)) ?_
          exact ⟨(by show 0 ≤ sizeLine; decide), fun D hD => ⟨D, rfl, same_upd (Same.refl H) hD, hD, by rw [eo]; exact upd_same⟩⟩
      · rintro σ G ⟨D, rfl, s1, nD, hD⟩
        refine ⟨_, rfl, e, _, rfl, he.same s1, fun G2 pu us2 s2 npu hpu al => ?_⟩
        have s12 := s1.trans s2
        refine ⟨pu, rfl, ⟨_, SqL.of hpu⟩, for_list (K := K) (a := pu) (xs := us2) (fun i σ G3 => ∃ o2, σ = [some (.ref a), some (.ref D), o2] ∧ Same H G3 ∧ G3 pu = some (.lst us2) ∧ All2 (ExV G3) us2 e.kids ∧ G3 D = some (.lst ((e.own ++ ((e.kids.take i).map Ex.calls).flatten).map V.str)))
          ⟨_, rfl, s12, hpu, al, by rw [s2 _ _ hD]; simp⟩ (fun i σ G3 _ ⟨o2, _, _, h, _⟩ => SqL.of h) ?_ ?_⟩
        · rintro i x σ G3 hx ⟨o2, rfl, s3, hpu3, al3, hD3⟩
          have hi : i < e.kids.length := by rw [← al.len]; exact (List.getElem?_eq_some_iff.mp hx).1
          obtain ⟨kd, hkd⟩ : ∃ kd, e.kids[i]? = some kd := ⟨_, List.getElem?_eq_getElem hi⟩
          have hk : ExAt G3 kd x := al3.at_ i x kd hx hkd
          have dk := Ex.kids_dep (List.mem_of_getElem? hkd)
          refine ⟨_, rfl, .inl ⟨rfl, _, SqL.of hD3⟩, _, rfl, kd, x, rfl, hk, by omega, fun G4 c4 s4 n4 h4 => ?_⟩
          have sub := Ex.calls_sub hkd
          have hD4 := s4 _ _ hD3
          refine ⟨D, c4, _, _, rfl, rfl, hD4, h4, by rw [List.length_map, List.length_map, sizeLine_eq]; omega, ?_⟩
          have ne : pu ≠ D := (ne_of_none hD npu).symm
          refine ⟨_, rfl, same_updN (s3.trans s4) nD, by rw [upd_ne ne]; exact s4 _ _ hpu3, ?_, ?_⟩
          · exact al3.imp fun _ _ h => h.kp ((Kp.of s4).trans (Kp.put hD4))
          · rw [upd_same, ← List.map_append, calls_take hkd]
        · rintro σ G3 ⟨o2, rfl, s3, hpu3, al3, hD3⟩
          refine ⟨_, rfl, k G3 D s3 nD ?_⟩
          rw [hD3, al.len, List.take_length, ← Ex.calls_eq]
end
end K18
namespace K18
open PySem PySem.Spec PyProof.Rows L2 Ew
section
variable {P : Program} {w : World} {K : PySem.W.Frag} {mg : Str → Option Value} {base : Heap}
/-! ## _law_pick, of a list or of a text -/
def spPickA (K : PySem.W.Frag) : Sp := fun vs H Q _ => ∃ (p q : Addr) (ns : List Int) (i v sd : Int), RngAt H p q ns i v sd ∧
  ((∃ (l : Addr) (xs : List V), vs = [.ref p, .ref l] ∧ H l = some (.lst xs) ∧ l ≠ p ∧ xs ≠ [] ∧ xs.length ≤ 1000 ∧ ∀ (x : V) (i' v' sd' : Int), x ∈ xs → RngOk i' v' sd' → Q x (upd H p (.lst (rngL q i' v' sd')))) ∨
   (∃ z : Str, vs = [.ref p, .str z] ∧ 0 < z.length ∧ z.length ≤ 1000 ∧ ∀ (c : Nat) (i' v' sd' : Int), c ∈ z.cps.toList → RngOk i' v' sd' → Q (.str ⟨#[c]⟩) (upd H p (.lst (rngL q i' v' sd')))))
theorem ok_pickA {f fD : Addr} {fd fdD : FuncData} (F : Fun K "_law_pick" "_law_pick" sPick f fd) (T : TxtP K mg fD) (FD : FnOk P w K mg base CX0 1 fD fdD ["_law_rng", "_law_many"] spDraw) (bD : Binds K fdD ["_law_rng", "_law_many"] []) :
    FnOk P w K mg base CX0 2 f fd ["_law_rng", "_law_items"] (spPickA K) := by
  refine F.ok scPick (fun vs H Q E h => ?_) (fun cdv A outer s H vs Q E hr h => ?_)
  · obtain ⟨p, q, ns, i, v, sd, _, ⟨l, xs, rfl, _⟩ | ⟨z, rfl, _⟩⟩ := h <;> rfl
  · refine ⟨_, pss_one (ps_ret (pe_ix ix_seq (pv 1) (pe_call FD hr rfl T.gD T.kD bD .nil pass0 (pa_cons (pv 0) (pa_cons (pe_callB call_len (by rfl) T.len PySem.boot_len (pa_cons (pv 1) pa_nil)) pa_nil))) (fun _ _ => rfl))), ?_⟩
    have hbig : 1000 < 2 ^ 8000 := Nat.lt_of_lt_of_le (by decide : 1000 < 2 ^ 10) (Nat.pow_le_pow_right (by decide) (by decide))
    obtain ⟨p, q, ns, i, v, sd, R, ⟨l, xs, rfl, hl, nlp, hne, hlen, k⟩ | ⟨z, rfl, hz0, hz1, k⟩⟩ := h
    · have hpos : 0 < xs.length := List.length_pos_iff.mpr hne
      refine ⟨_, rfl, _, rfl, _, rfl, _, xs.length, rfl, .inl ⟨xs, SqL.of hl, rfl⟩, p, q, ns, i, v, sd, (xs.length : Int), rfl, R, by omega, by omega, fun r i' v' sd' r0 r1 ok => ?_⟩
      obtain ⟨m, rfl⟩ := Int.eq_ofNat_of_zero_le r0
      have hm : m < xs.length := by omega
      exact .inl ⟨l, xs, _, xs[m], rfl, rfl, SqL.of (by rw [upd_ne nlp]; exact hl), atI_nat (List.getElem?_eq_getElem hm), k _ i' v' sd' (List.getElem_mem hm) ok⟩
    · have hsz : z.length ≤ sizeLine := Nat.le_trans hz1 (by decide)
      refine ⟨_, rfl, _, rfl, _, rfl, _, z.length, rfl, ⟨hsz, rfl⟩, p, q, ns, i, v, sd, (z.length : Int), rfl, R, by omega, by omega, fun r i' v' sd' r0 r1 ok => ?_⟩
      obtain ⟨m, rfl⟩ := Int.eq_ofNat_of_zero_le r0
      have hm : m < z.cps.toList.length := by rw [Array.length_toList]; exact Int.ofNat_lt.mp r1
      exact .inr (.inr ⟨z, _, _, rfl, rfl, hsz, atI_nat (List.getElem?_eq_getElem hm), k _ i' v' sd' (List.getElem_mem hm) ok⟩)
end
end K18
namespace K18
open PySem PySem.Spec PyProof.Rows L2 Ew
section
variable {P : Program} {w : World} {K : PySem.W.Frag} {mg : Str → Option Value} {base : Heap}
/-! ## _law_letters -/
def spLettersS : Sp := fun vs H Q _ => vs = [] ∧ Q (.str alphaS) H
theorem scLettersS : FnScope [] [] (defScope sLawLetters) := ⟨rfl, rfl, rfl, by decide +kernel, rfl, by decide +kernel, by decide +kernel⟩
theorem ok_lettersS {f : Addr} {fd : FuncData} (F : Fun K "_law_letters" "_law_letters" sLawLetters f fd) : FnOk P w K mg base CX0 1 f fd [] spLettersS := by
  refine F.ok scLettersS (fun vs H Q E h => ?_) (fun cdv A outer s H vs Q E hr h => ?_)
  · obtain ⟨rfl, _⟩ := h
    rfl
  · obtain ⟨rfl, k⟩ := h
    exact ⟨_, pss_one (ps_ret pe_str), k⟩
/-! ## _law_names -/
structure TxtNa (mg : Str → Option Value) : Prop where
  range : mg "range" = none
def spNames : Sp := fun vs H Q _ => ∃ (p q : Addr) (ns : List Int) (i v sd m : Int), vs = [.ref p, .int m] ∧ RngAt H p q ns i v sd ∧ 1 ≤ m ∧ m ≤ 24 ∧
  ∀ (G : Hp) (l : Addr) (ys : List Str) (i' v' sd' : Int), KeepBut p H G → RngAt G p q ns i' v' sd' → H l = none → l ≠ p → G l = some (.lst (ys.map V.str)) → (ys.length : Int) = m → (∀ y ∈ ys, NmOk y) → ys.Nodup → Q (.ref l) G
def naN : List Str := ["_law_rng", "_law_many", "_law_width", "_law_step", "_law_lead", "_law_at", "_law_k", "_law_base", "_law_result", "_law_letter", "_law_name"]
theorem scNa : FnScope naN ["_law_rng", "_law_many"] (defScope sLawNames) := ⟨rfl, rfl, rfl, by decide +kernel, rfl, by decide +kernel, by decide +kernel⟩
theorem ok_names {f fD fP fLe : Addr} {fd fdD fdP fdLe : FuncData} (F : Fun K "_law_names" "_law_names" sLawNames f fd) (T : TxtNa mg) (D : Def P w K mg base CX0 1 "_law_draw" fD fdD ["_law_rng", "_law_many"] spDraw) (Pk : Def P w K mg base CX0 2 "_law_pick" fP fdP ["_law_rng", "_law_items"] (spPickA K))
    (Le : Def P w K mg base CX0 1 "_law_letters" fLe fdLe [] spLettersS) : FnOk P w K mg base CX0 3 f fd ["_law_rng", "_law_many"] spNames := by
  refine F.ok scNa (fun vs H Q E h => ?_) (fun cdv A outer s H vs Q E hr h => ?_)
  · obtain ⟨p, q, ns, i, v, sd, m, rfl, _⟩ := h
    rfl
  · obtain ⟨p, q, ns, i, v, sd, m, rfl, R, m1, m24, k⟩ := h
    have r1' : Room 1 _ := hr.mono (by decide)
    have r2' : Room 2 _ := hr
    refine ⟨_, (C8.pss_cut (ps_par (i := 2) (j := 3) (by rfl) scNa.nd rfl rfl (by decide) rfl rfl (pa_cons (pe_op op_add pe_int (pe_call D.ok r1' rfl D.g D.k D.b .nil pass0 (pa_cons (pv 0) (pa_cons pe_int pa_nil)))) (pa_cons (pe_call Pk.ok r2' rfl Pk.g Pk.k Pk.b .nil pass0 (pa_cons (pv 0) (pa_cons (pe_lst (pa_cons pe_int (pa_cons pe_int (pa_cons pe_int (pa_cons pe_int (pa_cons pe_int pa_nil)))))) pa_nil))) pa_nil)) (by rfl))
 (C8.pss_cut (ps_par (i := 4) (j := 5) (by rfl) scNa.nd rfl rfl (by decide) rfl rfl (pa_cons (pe_call D.ok r1' rfl D.g D.k D.b .nil pass0 (pa_cons (pv 0) (pa_cons pe_int pa_nil))) (pa_cons (pe_call D.ok r1' rfl D.g D.k D.b .nil pass0 (pa_cons (pv 0) (pa_cons (pv 2) pa_nil))) pa_nil)) (by rfl))
 (C8.pss_cut (ps_set (i := 7) scNa.nd rfl (Or.inl rfl) (pe_join pe_str (pe_lc (own := [("_law_k", 6)]) (g := (gName 6)) (tt := tYes) (te := tCall (spPickA K) [] E0 (tCons (tVar 0) (tCons (tCall spLettersS [] E0 tNil) tNil))) rfl scNa.nd (pi_range1 rfl T.range (pa_cons (pv 2) pa_nil)) (blkOk_by (N := naN) (sc := defScope sLawNames) (by decide +kernel)) (fun _ _ _ _ _ => by exact (pg_name (i := 6) scNa.nd rfl (Or.inl rfl))) (fun _ _ _ _ _ => pts_nil) (fun _ _ _ _ _ => by exact (pe_call Pk.ok r2' rfl Pk.g Pk.k Pk.b .nil pass0 (pa_cons (pv 0) (pa_cons (pe_call0 Le.ok r1' rfl Le.g Le.k Le.b .nil pass0) pa_nil)))))))
 (pss_cons (ps_set (i := 8) scNa.nd rfl (Or.inl rfl) (pe_lst pa_nil))
 (C8.pss_cut (ps_for PassesOwn.never rfl (pi_range1 rfl T.range (pa_cons (pv 1) pa_nil)) (pg_name (i := 6) scNa.nd rfl (Or.inl rfl))
 (pss_cons (ps_set (i := 9) scNa.nd rfl (Or.inl rfl) (pe_op op_mod (pe_op op_add (pv 4) (pe_op op_mul (pv 3) (pv 6))) pe_int))
 (pss_one (ps_expr (pe_bm PySem.F.plainAttrs_list PySem.F.slot_list_append PySem.F.type_list_append mt_append (pv 8) (pa_cons (pe_op op_add_str (pe_op op_add_str (pe_slice sl_str (pv 7) po_none (po_some (pv 5))) (pe_ix ix_str (pe_call0 Le.ok r1' rfl Le.g Le.k Le.b .nil pass0) (pv 9) (fun _ _ => rfl))) (pe_slice sl_str (pv 7) (po_some (pe_op op_add (pv 5) pe_int)) po_none)) pa_nil))))))
 (C8.pss_cut (ps_if (PW.pt (pw_or (pt_cmpR op_in_seq pe_str (pv 8) (by with_unfolding_all rfl)) (pw_or (pt_cmpR op_in_seq pe_str (pv 8) (by with_unfolding_all rfl)) (pw_or1 (pt_cmpR op_in_seq pe_str (pv 8) (by with_unfolding_all rfl)))))) (pss_one (ps_setLc (i := 8) (own := [("_law_name", 10)]) (g := (gName 10)) (tt := tYes) (te := tOp rCatS (tVar 10) (tC (.str "q"))) rfl scNa.nd rfl rfl (sw_true rfl rfl rfl (by decide +kernel)) (pi_list (pv 8)) (blkOk_by (N := naN) (sc := defScope sLawNames) (by decide +kernel)) (fun _ _ _ _ _ => by exact (pg_name (i := 10) scNa.nd rfl (Or.inl rfl))) (fun _ _ _ _ _ => pts_nil) (fun _ _ _ _ _ => by exact (pe_op op_add_str (pv 10) pe_str)))) pss_nil)
 (pss_one (ps_ret (pv 8))))))))), ?_⟩
    have small : ∀ z : Int, 0 ≤ z → z ≤ 1000 → z.natAbs < 2 ^ 8000 := fun z h0 h1 => big_lt (n := 10) (Nat.lt_of_le_of_lt (by omega : z.natAbs ≤ 1000) (by decide)) (by decide)
    have p62 : (2 : Int) ^ 62 = 4611686018427387904 := by decide
    -- width, step
    refine ⟨fun σ G => ∃ (wd st : Int) (i v sd : Int), σ = [some (.ref p), some (.int m), some (.int wd), some (.int st), none, none, none, none, none, none, none] ∧ 2 ≤ wd ∧ wd ≤ 7 ∧ 0 ≤ st ∧ st ≤ 9 ∧ StOk st ∧ KeepBut p H G ∧ RngAt G p q ns i v sd, ?_, ?_⟩
    · refine ⟨_, rfl, p, q, ns, i, v, sd, 6, rfl, R, by decide, small _ (by decide) (by decide), fun x1 i1 v1 sd1 x10 x11 ok1 => ?_⟩
      have R1 := R.next ok1
      have K1 : KeepBut p H _ := KeepBut.put (o := .lst (rngL q i1 v1 sd1))
      generalize upd H p (.lst (rngL q i1 v1 sd1)) = G1 at R1 K1
      refine ⟨_, _, rfl, rfl, ?_⟩
      refine ⟨_, rfl, (by show 5 ≤ sizeLine; decide), fun l hl => ?_⟩
      have s1 := same_upd (o := .lst [.int 1, .int 3, .int 5, .int 7, .int 9]) (Same.refl G1) hl
      refine ⟨p, q, ns, i1, v1, sd1, R1.same s1, .inl ⟨l, _, rfl, upd_same, R1.free hl, by simp, by show 5 ≤ 1000; decide, fun x i2 v2 sd2 hx ok2 => ?_⟩⟩
      obtain ⟨st, rfl, st0, st9, stk⟩ : ∃ st : Int, x = .int st ∧ 0 ≤ st ∧ st ≤ 9 ∧ StOk st := by
        simp only [List.mem_cons, List.not_mem_nil, or_false] at hx
        rcases hx with rfl | rfl | rfl | rfl | rfl
        all_goals exact ⟨_, rfl, by decide, by decide, by unfold StOk; decide⟩
      exact ⟨_, _, rfl, 2 + x1, st, i2, v2, sd2, rfl, by omega, by omega, st0, st9, stk, (K1.trans (KeepBut.of s1)).trans KeepBut.put, (R1.same s1).next ok2⟩
    rintro σ G ⟨wd, st, i, v, sd, rfl, w2, w7, st0, st9, stk, K0, R⟩
    -- lead, at
    refine ⟨fun σ G => ∃ (ld ak : Int) (i v sd : Int), σ = [some (.ref p), some (.int m), some (.int wd), some (.int st), some (.int ld), some (.int ak), none, none, none, none, none] ∧ 0 ≤ ld ∧ ld < 26 ∧ 0 ≤ ak ∧ ak < wd ∧ KeepBut p H G ∧ RngAt G p q ns i v sd, ?_, ?_⟩
    · refine ⟨_, rfl, p, q, ns, i, v, sd, 26, rfl, R, by decide, small _ (by decide) (by decide), fun x1 i1 v1 sd1 x10 x11 ok1 => ?_⟩
      have R1 := R.next ok1
      have K1 : KeepBut p H _ := K0.trans (KeepBut.put (o := .lst (rngL q i1 v1 sd1)))
      generalize upd G p (.lst (rngL q i1 v1 sd1)) = G1 at R1 K1
      refine ⟨_, rfl, _, rfl, p, q, ns, i1, v1, sd1, wd, rfl, R1, by omega, small _ (by omega) (by omega), fun x2 i2 v2 sd2 x20 x21 ok2 => ?_⟩
      exact ⟨_, _, rfl, x1, x2, i2, v2, sd2, rfl, x10, x11, x20, x21, K1.trans KeepBut.put, R1.next ok2⟩
    clear K0 R
    rintro σ G ⟨ld, ak, i, v, sd, rfl, ld0, ld26, ak0, akw, K0, R⟩
    -- base
    refine ⟨fun σ G => ∃ (z : Str) (i v sd : Int), σ = [some (.ref p), some (.int m), some (.int wd), some (.int st), some (.int ld), some (.int ak), none, some (.str z), none, none, none] ∧ (z.length : Int) = wd ∧ LowS z ∧ KeepBut p H G ∧ RngAt G p q ns i v sd, ?_, ?_⟩
    · refine ⟨⟨_, rfl⟩, _, rfl, wd, rfl, by omega, by omega, fun D1 hD => ?_⟩
      have nDp := R.free hD
      have nDq := R.freeq hD
      have hH : H D1 = none := K0.free nDp hD
      refine lc_range (lo := 0) (n := wd.toNat) (fun j G => ∃ (ys : List Str) (i' v' sd' : Int), RngAt G p q ns i' v' sd' ∧ KeepBut p H G ∧ G D1 = some (.lst (ys.map V.str)) ∧ ys.length = j ∧ ∀ y ∈ ys, y.length = 1 ∧ LowS y)
        ⟨[], i, v, sd, R.same (same_upd (Same.refl _) hD), K0.trans (KeepBut.of (same_upd (Same.refl _) hD)), upd_same, rfl, fun y hy => nomatch hy⟩ ?_ ?_
      · rintro j G2 hj ⟨ys, i2, v2, sd2, R2, K2, hD2, hl2, hy2⟩
        refine ⟨rfl, tyes ⟨_, rfl, rfl, p, q, ns, i2, v2, sd2, R2, .inr ⟨alphaS, rfl, by decide +kernel, by decide +kernel, fun c i3 v3 sd3 hc ok3 => ?_⟩⟩⟩
        have R3 := R2.next ok3
        refine ⟨_, by rw [upd_ne nDp]; exact hD2, by rw [List.length_map, hl2, sizeLine_eq]; omega, ys ++ [⟨#[c]⟩], i3, v3, sd3, R3.off nDp nDq, kbN (K2.trans KeepBut.put) hH, ?_, ?_, ?_⟩
        · rw [upd_same, List.map_append]
          rfl
        · rw [List.length_append, hl2]
          rfl
        · intro y hy
          rcases List.mem_append.mp hy with hy | hy
          · exact hy2 y hy
          · rw [List.mem_singleton.mp hy]
            exact ⟨rfl, lowS_one hc⟩
      · rintro G2 ⟨ys, i2, v2, sd2, R2, K2, hD2, hl2, hy2⟩
        have hs := sumT_ones ys fun y hy => (hy2 y hy).1
        refine ⟨("" : Str), D1, ys, rfl, rfl, .inl (SqL.of hD2), ?_, ?_⟩
        · show (ys.map Str.length).sum + ys.length * 0 ≤ 16777216
          rw [hs]
          omega
        · exact ⟨_, i2, v2, sd2, rfl, by rw [joinT_len, hs, hl2]; omega, LowS.join fun y hy => (hy2 y hy).2, K2, R2⟩
    clear K0 R
    rintro σ G ⟨z, i, v, sd, rfl, zl, zs, K0, R⟩
    have hz : z.length ≤ sizeLine := Nat.le_trans (by omega : z.length ≤ 7) (by decide : 7 ≤ sizeLine)
    -- result
    refine ⟨(by show 0 ≤ sizeLine; decide), fun l hl => ?_⟩
    have nlp := R.free hl
    have nlq := R.freeq hl
    have hH : H l = none := K0.free nlp hl
    refine ⟨fun σ G => ∃ (ys : List Str) (o6 o9 : Option V) (i v sd : Int), σ = [some (.ref p), some (.int m), some (.int wd), some (.int st), some (.int ld), some (.int ak), o6, some (.str z), some (.ref l), o9, none] ∧ (ys.length : Int) = m ∧ ys.Nodup ∧ (∀ y ∈ ys, LowS y ∧ (y.length : Int) = wd) ∧ G l = some (.lst (ys.map V.str)) ∧ KeepBut p H G ∧ RngAt G p q ns i v sd, ?_, ?_⟩
    · refine ⟨_, rfl, m, rfl, by omega, by omega, for_range (lo := 0) (n := m.toNat) (fun j σ G => ∃ (ys : List Str) (o6 o9 : Option V) (i v sd : Int), σ = [some (.ref p), some (.int m), some (.int wd), some (.int st), some (.int ld), some (.int ak), o6, some (.str z), some (.ref l), o9, none] ∧ ys.length = j ∧ ys = (List.range j).map (fun k => nmC z ak.toNat (letF ld st k)) ∧ (∀ y ∈ ys, LowS y ∧ (y.length : Int) = wd) ∧ G l = some (.lst (ys.map V.str)) ∧ KeepBut p H G ∧ RngAt G p q ns i v sd)
        ⟨[], none, none, i, v, sd, rfl, rfl, rfl, fun y hy => (nomatch hy), upd_same, K0.trans (KeepBut.of (same_upd (Same.refl _) hl)), R.same (same_upd (Same.refl _) hl)⟩ ?_ ?_⟩
      · rintro j σ G2 hj ⟨ys, o6, o9, i2, v2, sd2, rfl, hyl, hyf, hys, hl2, K2, R2⟩
        have jm : (j : Int) < 24 := by omega
        have sj0 : 0 ≤ st * (j : Int) := Int.mul_nonneg st0 (by omega)
        refine ⟨_, rfl, _, rfl, _, rfl, st, 0 + (j : Int), rfl, rfl, mul_small (by omega) (by omega), ld, st * (0 + (j : Int)), rfl, rfl, _, _, rfl, rfl, (by show (0 : Int) < 26; decide), ?_⟩
        have l0 : 0 ≤ (ld + st * (0 + (j : Int))) % 26 := Int.emod_nonneg _ (by decide)
        have l1 : (ld + st * (0 + (j : Int))) % 26 < 26 := Int.emod_lt_of_pos _ (by decide)
        have fm : (ld + st * (0 + (j : Int))).fmod 26 = (ld + st * (0 + (j : Int))) % 26 := Int.fmod_eq_emod_of_nonneg _ (by decide)
        try rw [fm]
        obtain ⟨ln, eln⟩ := Int.eq_ofNat_of_zero_le l0
        have hln : ln < (TL.tl alphaS).length := by
          have : (TL.tl alphaS).length = 26 := by decide +kernel
          omega
        obtain ⟨an, rfl⟩ := Int.eq_ofNat_of_zero_le ak0
        have alen : alphaS.length ≤ sizeLine := by decide +kernel
        have hzl : an < z.length := by omega
        obtain ⟨np1, np2⟩ := name_parts (c := (TL.tl alphaS)[ln]) zs hzl (List.getElem_mem hln)
        have b1 : (cutS z none (some (an : Int))).length ≤ z.length := cutS_length _ _ _
        have b2 : (cutS z (some ((an : Int) + 1)) none).length ≤ z.length := cutS_length _ _ _
        have b3 : (⟨#[(TL.tl alphaS)[ln]]⟩ : Str).length = 1 := rfl
        have b4 := appT_len (cutS z none (some (an : Int))) ⟨#[(TL.tl alphaS)[ln]]⟩
        have sl : (30 : Nat) ≤ sizeLine := by decide
        refine ⟨_, rfl, .inl ⟨rfl, _, SqL.of hl2⟩, _, rfl, _, rfl, (an : Int), rfl, z, rfl, hz, rfl, _, rfl, alphaS, _, (TL.tl alphaS)[ln], rfl, rfl, alen, ?_, ?_⟩
        · rw [eln]
          exact atI_nat (List.getElem?_eq_getElem hln)
        refine ⟨_, _, rfl, rfl, by omega, _, rfl, _, rfl, _, _, rfl, rfl, (an : Int) + 1, rfl, z, rfl, hz, _, _, rfl, rfl, by omega, ?_⟩
        refine ⟨l, _, _, rfl, rfl, hl2, by rw [List.length_map, sizeLine_eq]; omega, ?_⟩
        refine ⟨ys ++ [cutS z none (some (an : Int)) ++ ⟨#[(TL.tl alphaS)[ln]]⟩ ++ cutS z (some ((an : Int) + 1)) none], _, _, i2, v2, sd2, rfl, by rw [List.length_append, hyl]; rfl, ?_, fun y hy => ?_, by rw [upd_same, List.map_append]; rfl, kbN K2 hH, R2.off nlp nlq⟩
        · rw [List.range_succ, List.map_append, ← hyf]
          congr 1
          show [_] = [nmC z ((an : Nat) : Int).toNat (letF ld st j)]
          congr 1
          unfold nmC letF
          have e1 : (ld + st * (j : Int)) % 26 = (ln : Int) := by rw [← eln, Int.zero_add]
          rw [alpha_at, e1, Int.toNat_natCast, Int.toNat_natCast]
        rcases List.mem_append.mp hy with hy | hy
        · exact hys y hy
        · rw [List.mem_singleton.mp hy]
          exact ⟨np1, by rw [np2]; exact zl⟩
      · rintro σ G2 ⟨ys, o6, o9, i2, v2, sd2, rfl, hyl, hyf, hys, hl2, K2, R2⟩
        exact ⟨ys, o6, o9, i2, v2, sd2, rfl, by omega, by rw [hyf]; exact names_nodup stk (by omega) ld0, hys, hl2, K2, R2⟩
    clear K0 R
    rintro σ G ⟨ys, o6, o9, i, v, sd, rfl, hyl, hynd, hys, hl2, K2, R2⟩
    have few : ys.length ≤ sizeLine := Nat.le_trans (by omega : ys.length ≤ 24) (by decide)
    have a1 : inV (.str "abs") (ys.map V.str) = decide (("abs" : Str) ∈ ys) := strIn _ _
    have a2 : inV (.str "max") (ys.map V.str) = decide (("max" : Str) ∈ ys) := strIn _ _
    have a3 : inV (.str "min") (ys.map V.str) = decide (("min" : Str) ∈ ys) := strIn _ _
    have hln : ∀ y ∈ ys, y.length = wd.toNat := fun y hy => by have := (hys y hy).2; omega
    -- names that would be words
    refine ⟨fun σ G => ∃ (l' : Addr) (ys : List Str) (o6 o9 : Option V) (i v sd : Int), σ = [some (.ref p), some (.int m), some (.int wd), some (.int st), some (.int ld), some (.int ak), o6, some (.str z), some (.ref l'), o9, none] ∧ (ys.length : Int) = m ∧ (∀ y ∈ ys, NmOk y) ∧ ys.Nodup ∧ G l' = some (.lst (ys.map V.str)) ∧ H l' = none ∧ l' ≠ p ∧ KeepBut p H G ∧ RngAt G p q ns i v sd, ?_, ?_⟩
    · have hit : (("abs" : Str) ∈ ys ∨ ("max" : Str) ∈ ys ∨ ("min" : Str) ∈ ys) → tAsg (tLc (iList K (tVar 8)) (gName 10) tYes (tOp rCatS (tVar 10) (tC (V.str "q"))) [10]) (gName 8)
          { nx := fun σ G => ∃ (l' : Addr) (ys : List Str) (o6 o9 : Option V) (i v sd : Int), σ = [some (.ref p), some (.int m), some (.int wd), some (.int st), some (.int ld), some (.int ak), o6, some (.str z), some (.ref l'), o9, none] ∧ (ys.length : Int) = m ∧ (∀ y ∈ ys, NmOk y) ∧ ys.Nodup ∧ G l' = some (.lst (ys.map V.str)) ∧ H l' = none ∧ l' ≠ p ∧ KeepBut p H G ∧ RngAt G p q ns i v sd, rt := Q }
          [some (.ref p), some (.int m), some (.int wd), some (.int st), some (.int ld), some (.int ak), o6, some (.str z), some (.ref l), o9, none] G := fun hyes => by
        have good := names_fix (by omega) (by omega) hln (fun y hy => (hys y hy).1) hyes
        refine ⟨_, rfl, l, rfl, ⟨_, SqL.of hl2⟩, fun D2 hD2 => ?_⟩
        have nDp := R2.free hD2
        have nDq := R2.freeq hD2
        have hH2 : H D2 = none := K2.free nDp hD2
        have nDl := ne_of_none hl2 hD2
        refine lc_list (K := K) (a := l) (xs := ys.map V.str) (fun j G' => G' l = some (.lst (ys.map V.str)) ∧ KeepBut p H G' ∧ RngAt G' p q ns i v sd ∧ G' D2 = some (.lst (((ys.take j).map addQ).map V.str))) ⟨by rw [upd_ne nDl]; exact hl2, kbN K2 hH2, R2.off nDp nDq, by rw [upd_same]; simp⟩ (fun j G' _ h => SqL.of h.1) ?_ ?_
        · rintro j x G' hx ⟨h1, h2, h3, h4⟩
          obtain ⟨y, hy, rfl⟩ := map_at hx
          have ly := hln y (List.mem_of_getElem? hy)
          have sl : (30 : Nat) ≤ sizeLine := by decide
          have hj : j < ys.length := (List.getElem?_eq_some_iff.mp hy).1
          have q1 := q_len
          refine ⟨rfl, tyes ⟨_, rfl, y, "q", rfl, rfl, by omega, _, h4, ?_, ?_, ?_, ?_, ?_⟩⟩
          · rw [List.length_map, List.length_map, List.length_take, sizeLine_eq]; omega
          · rw [upd_ne nDl]; exact h1
          · exact kbN h2 hH2
          · exact h3.off nDp nDq
          · rw [upd_same, take_next hy, List.map_append, List.map_append]
            rfl
        · rintro G' ⟨h1, h2, h3, h4⟩
          rw [List.length_map, List.take_length] at h4
          refine ⟨D2, ys.map addQ, _, _, i, v, sd, rfl, by rw [List.length_map]; exact hyl, fun y hy => ?_, addQ_nodup hynd, h4, hH2, nDp, h2, h3⟩
          obtain ⟨y0, hy0, rfl⟩ := List.mem_map.mp hy
          exact good y0 hy0
      refine ⟨_, rfl, l, _, rfl, .inl (SqL.of hl2), rfl, flatStrs ys, _, rfl, ?_⟩
      by_cases c1 : ("abs" : Str) ∈ ys
      · exact ifT (a1.trans (decide_eq_true c1)) (iteT (hit (.inl c1)))
      refine ifF (a1.trans (decide_eq_false c1)) ⟨_, rfl, l, _, rfl, .inl (SqL.of hl2), rfl, flatStrs ys, _, rfl, ?_⟩
      by_cases c2 : ("max" : Str) ∈ ys
      · exact ifT (a2.trans (decide_eq_true c2)) (iteT (hit (.inr (.inl c2))))
      refine ifF (a2.trans (decide_eq_false c2)) ⟨_, rfl, l, _, rfl, .inl (SqL.of hl2), rfl, flatStrs ys, _, rfl, ?_⟩
      by_cases c3 : ("min" : Str) ∈ ys
      · exact ifT (a3.trans (decide_eq_true c3)) (hit (.inr (.inr c3)))
      refine ifF (a3.trans (decide_eq_false c3)) ?_
      exact ⟨l, ys, _, _, i, v, sd, rfl, hyl, names_keep (by omega) (by omega) hln (fun y hy => (hys y hy).1) (fun h => h.elim c1 fun h => h.elim c2 c3), hynd, hl2, hH, nlp, K2, R2⟩
    · rintro σ G ⟨l', ys, o6, o9, i, v, sd, rfl, hyl, hys, hynd', hl', nl', nlp', K3, R3⟩
      exact ⟨_, rfl, k G l' ys i v sd K3 R3 nl' nlp' hl' hyl hys hynd'⟩
end
end K18
namespace K18
open PySem PySem.Spec PyProof.Rows L2 Ew
section
variable {P : Program} {w : World} {K : PySem.W.Frag} {mg : Str → Option Value} {base : Heap}
/-! ## _law_text_fraction -/
def spLowX : Sp := fun vs H Q _ => ∃ a b : Int, vs = [.int a, .int b] ∧ b ≠ 0 ∧ b.natAbs < 2 ^ 8000 ∧ ∀ G p, Same H G → H p = none → G p = some (.tup (qV (Rat.divInt a b))) → Q (.ref p) G
theorem r_lowX {k : Nat} {f : Addr} {fd : FuncData} {ps : List Str} (h : FnOk P w K mg base CX0 k f fd ps spLow) : FnOk P w K mg base CX0 k f fd ps spLowX := h.imp fun vs H Q E h => by
  obtain ⟨a, b, rfl, hb, hs, k⟩ := h
  refine ⟨a, b, rfl, hb, hs, fun p hp => ?_⟩
  exact k _ p (same_upd (Same.refl H) hp) hp (by rw [upd_same, qV_fr hb])
def spTF : Sp := fun vs H Q _ => ∃ (p q : Addr) (ns : List Int) (i v sd : Int), vs = [.ref p] ∧ RngAt H p q ns i v sd ∧
  ∀ (G : Hp) (r : Addr) (y : Rat) (i' v' sd' : Int), KeepBut p H G → RngAt G p q ns i' v' sd' → H r = none → G r = some (.tup (qV y)) → SixFr y → Q (.ref r) G
theorem scTF : FnScope ["_law_rng", "_law_below"] ["_law_rng"] (defScope sLawTextFraction) := ⟨rfl, rfl, rfl, by decide +kernel, rfl, by decide +kernel, by decide +kernel⟩
theorem ok_textFr {f fD fP fL : Addr} {fd fdD fdP fdL : FuncData} (F : Fun K "_law_text_fraction" "_law_text_fraction" sLawTextFraction f fd) (D : Def P w K mg base CX0 1 "_law_draw" fD fdD ["_law_rng", "_law_many"] spDraw) (Pk : Def P w K mg base CX0 2 "_law_pick" fP fdP ["_law_rng", "_law_items"] (spPickA K))
    (L : Def P w K mg base CX0 1 "_law_lowest" fL fdL ["_law_above", "_law_below"] spLowX) : FnOk P w K mg base CX0 3 f fd ["_law_rng"] spTF := by
  refine F.ok scTF (fun vs H Q E h => ?_) (fun cdv A outer s H vs Q E hr h => ?_)
  · obtain ⟨p, q, ns, i, v, sd, rfl, _⟩ := h
    rfl
  · obtain ⟨p, q, ns, i, v, sd, rfl, R, k⟩ := h
    have r1' : Room 1 _ := hr.mono (by decide)
    have r2' : Room 2 _ := hr
    refine ⟨_, (pss_cons (ps_set (i := 1) scTF.nd rfl (Or.inl rfl) (pe_call Pk.ok r2' rfl Pk.g Pk.k Pk.b .nil pass0 (pa_cons (pv 0) (pa_cons (pe_lst (pa_cons pe_int (pa_cons pe_int (pa_cons pe_int (pa_cons pe_int (pa_cons pe_int (pa_cons pe_int (pa_cons (pe_op op_add pe_int (pe_call D.ok r1' rfl D.g D.k D.b .nil pass0 (pa_cons (pv 0) (pa_cons pe_int pa_nil)))) pa_nil)))))))) pa_nil))))
 (pss_one (ps_ret (pe_call L.ok r1' rfl L.g L.k L.b .nil pass0 (pa_cons (pe_op op_sub (pe_call D.ok r1' rfl D.g D.k D.b .nil pass0 (pa_cons (pv 0) (pa_cons (pe_op op_add (pe_op op_mul pe_int (pe_call Pk.ok r2' rfl Pk.g Pk.k Pk.b .nil pass0 (pa_cons (pv 0) (pa_cons (pe_lst (pa_cons pe_int (pa_cons pe_int (pa_cons pe_int pa_nil)))) pa_nil)))) pe_int) pa_nil))) pe_int) (pa_cons (pv 1) pa_nil)))))), ?_⟩
    have small : ∀ z : Int, 0 ≤ z → z ≤ 1000001 → z.natAbs < 2 ^ 8000 := fun z h0 h1 => big_lt (n := 20) (Nat.lt_of_le_of_lt (by omega : z.natAbs ≤ 1000001) (by decide)) (by decide)
    refine ⟨_, rfl, _, rfl, p, q, ns, i, v, sd, 999999, rfl, R, by decide, small _ (by decide) (by decide), fun x1 i1 v1 sd1 x10 x11 ok1 => ?_⟩
    have R1 := R.next ok1
    have K1 : KeepBut p H _ := KeepBut.put (o := .lst (rngL q i1 v1 sd1))
    generalize upd H p (.lst (rngL q i1 v1 sd1)) = G1 at R1 K1
    refine ⟨_, _, rfl, rfl, (by show 7 ≤ sizeLine; decide), fun l hl => ?_⟩
    have s1 := same_upd (o := .lst [.int 1, .int 1, .int 2, .int 3, .int 4, .int 7, .int (1 + x1)]) (Same.refl G1) hl
    refine ⟨p, q, ns, i1, v1, sd1, R1.same s1, .inl ⟨l, _, rfl, upd_same, R1.free hl, by simp, by show 7 ≤ 1000; decide, fun x i2 v2 sd2 hx ok2 => ?_⟩⟩
    obtain ⟨bl, rfl, bl0, bl9⟩ : ∃ bl : Int, x = .int bl ∧ 0 < bl ∧ bl ≤ 999999 := by
      simp only [List.mem_cons, List.not_mem_nil, or_false] at hx
      rcases hx with rfl | rfl | rfl | rfl | rfl | rfl | rfl
      all_goals exact ⟨_, rfl, by omega, by omega⟩
    have R2 := (R1.same s1).next ok2
    have K2 : KeepBut p H _ := (K1.trans (KeepBut.of s1)).trans (KeepBut.put (o := .lst (rngL q i2 v2 sd2)))
    generalize upd (upd G1 l _) p (.lst (rngL q i2 v2 sd2)) = G2 at R2 K2
    refine ⟨_, rfl, _, rfl, (by show 3 ≤ sizeLine; decide), fun l3 hl3 => ?_⟩
    have s3 := same_upd (o := .lst [.int 4, .int 4, .int 499999]) (Same.refl G2) hl3
    refine ⟨p, q, ns, i2, v2, sd2, R2.same s3, .inl ⟨l3, _, rfl, upd_same, R2.free hl3, by simp, by show 3 ≤ 1000; decide, fun x i4 v4 sd4 hx ok4 => ?_⟩⟩
    obtain ⟨pk, rfl, pk0, pk9⟩ : ∃ bl : Int, x = .int bl ∧ 0 < bl ∧ bl ≤ 499999 := by
      simp only [List.mem_cons, List.not_mem_nil, or_false] at hx
      rcases hx with rfl | rfl | rfl
      all_goals exact ⟨_, rfl, by omega, by omega⟩
    have R4 := (R2.same s3).next ok4
    have K4 : KeepBut p H _ := (K2.trans (KeepBut.of s3)).trans (KeepBut.put (o := .lst (rngL q i4 v4 sd4)))
    generalize upd (upd G2 l3 _) p (.lst (rngL q i4 v4 sd4)) = G4 at R4 K4
    refine ⟨2, pk, rfl, rfl, mul_small (by decide) (by decide), _, _, rfl, rfl, p, q, ns, i4, v4, sd4, 2 * pk + 1, rfl, R4, by omega, small _ (by omega) (by omega), fun x5 i5 v5 sd5 x50 x51 ok5 => ?_⟩
    have R5 := R4.next ok5
    have K5 : KeepBut p H _ := K4.trans (KeepBut.put (o := .lst (rngL q i5 v5 sd5)))
    generalize upd G4 p (.lst (rngL q i5 v5 sd5)) = G5 at R5 K5
    refine ⟨_, _, rfl, rfl, _, rfl, x5 - 4, bl, rfl, by omega, small _ (by omega) (by omega), fun G6 r s6 n6 h6 => ?_⟩
    exact k G6 r _ i5 v5 sd5 (K5.trans (KeepBut.of s6)) (R5.same s6) (K5.free (R5.free n6) n6) h6 (six_div (by omega) (by omega) bl0 bl9)
/-! ## _law_expression -/
def spExpr (n : Nat) : Sp := fun vs H Q _ => ∃ (p q l : Addr) (ns : List Int) (i v sd d : Int) (ys : List Str), vs = [.ref p, .ref l, .int d] ∧ RngAt H p q ns i v sd ∧ H l = some (.lst (ys.map V.str)) ∧ l ≠ p ∧ (∀ y ∈ ys, NmOk y) ∧ ys.length ≤ 24 ∧ 1 ≤ d ∧ d ≤ (n : Int) ∧
  ∀ (G : Hp) (u : V) (e : Ex) (i' v' sd' : Int), KeepBut p H G → RngAt G p q ns i' v' sd' → ExAt G e u → (e.dep : Int) ≤ d → e.Of (· ∈ ys) SixFr → Q u G
def exN : List Str := ["_law_rng", "_law_names_here", "_law_depth", "_law_way", "_law_word", "_law_front"]
theorem scEx : FnScope exN ["_law_rng", "_law_names_here", "_law_depth"] (defScope sLawExpression) := ⟨rfl, rfl, rfl, by decide +kernel, rfl, by decide +kernel, by decide +kernel⟩
theorem ok_expr {f fD fP fTF : Addr} {fd fdD fdP fdTF : FuncData} (F : Fun K "_law_expression" "_law_expression" sLawExpression f fd) (b : Binds K fd ["_law_rng", "_law_names_here", "_law_depth"] []) (T : TxtRec K mg "_law_expression" f) (D : Def P w K mg base CX0 1 "_law_draw" fD fdD ["_law_rng", "_law_many"] spDraw) (Pk : Def P w K mg base CX0 2 "_law_pick" fP fdP ["_law_rng", "_law_items"] (spPickA K))
    (TF : Def P w K mg base CX0 3 "_law_text_fraction" fTF fdTF ["_law_rng"] spTF) : ∀ n, n ≤ 13 → FnOk P w K mg base CX0 (n + 3) f fd ["_law_rng", "_law_names_here", "_law_depth"] (spExpr n)
  | 0, _ => fn_never fun vs H Q E h => by
    obtain ⟨p, q, l, ns, i, v, sd, d, ys, _, _, _, _, _, _, d1, dn, _⟩ := h
    omega
  | n + 1, hn => by
    have IH := ok_expr F b T D Pk TF n (by omega)
    refine F.ok scEx (fun vs H Q E h => ?_) (fun cdv A outer s H vs Q E hr h => ?_)
    · obtain ⟨p, q, l, ns, i, v, sd, d, ys, rfl, _⟩ := h
      rfl
    · obtain ⟨p, q, l, ns, i, v, sd, d, ys, rfl, R, hl, nlp, hy, few, d1, dn, k⟩ := h
      have r1' : Room 1 _ := hr.mono (by omega)
      have r2' : Room 2 _ := hr.mono (by omega)
      have r3' : Room 3 _ := hr.mono (by omega)
      refine ⟨_, (pss_cons (ps_set (i := 3) scEx.nd rfl (Or.inl rfl) (pe_call D.ok r1' rfl D.g D.k D.b .nil pass0 (pa_cons (pv 0) (pa_cons pe_int pa_nil))))
 (pss_cons (ps_if (PW.pt (pw_or (pt_cmpR op_lt (pv 2) pe_int (nomark _)) (pw_or1 (pt_cmpR op_eq (pv 3) pe_int (nomark _))))) (pss_one (ps_ret (pe_call Pk.ok r2' rfl Pk.g Pk.k Pk.b .nil pass0 (pa_cons (pv 0) (pa_cons (pe_lst (pa_cons (pe_tup (pa_cons pe_str pa_nil)) (pa_cons (pe_tup (pa_cons pe_str pa_nil)) (pa_cons (pe_tup (pa_cons pe_str (pa_cons (pe_call TF.ok r3' rfl TF.g TF.k TF.b .nil pass0 (pa_cons (pv 0) pa_nil)) pa_nil))) pa_nil)))) pa_nil))))) pss_nil)
 (pss_cons (ps_if (pt_cmpR op_eq (pv 3) pe_int (nomark _)) (pss_one (ps_ret (pe_tup (pa_cons pe_str (pa_cons (pe_call IH hr rfl T.gS T.kS b .nil pass0 (pa_cons (pv 0) (pa_cons (pv 1) (pa_cons (pe_op op_sub (pv 2) pe_int) pa_nil)))) pa_nil))))) pss_nil)
 (pss_cons (ps_if (PW.pt (pw_or (pt_cmpR op_eq (pv 3) pe_int (nomark _)) (pw_or1 (pt_cmpR op_eq (pv 3) pe_int (nomark _))))) (pss_one (ps_ret (pe_tup (pa_cons pe_str (pa_cons (pe_call TF.ok r3' rfl TF.g TF.k TF.b .nil pass0 (pa_cons (pv 0) pa_nil)) (pa_cons (pe_call IH hr rfl T.gS T.kS b .nil pass0 (pa_cons (pv 0) (pa_cons (pv 1) (pa_cons (pe_op op_sub (pv 2) pe_int) pa_nil)))) pa_nil)))))) pss_nil)
 (C8.pss_cut (ps_if (PW.pt (pw_and (pt_cmpR op_gt (pv 3) pe_int (nomark _)) (pw_and1 (pt_cmpR (op_neD hr.units) (pv 1) (pe_lst pa_nil) (nomark _))))) (pss_one (ps_ret (pe_tup (pa_cons pe_str (pa_cons (pe_call Pk.ok r2' rfl Pk.g Pk.k Pk.b .nil pass0 (pa_cons (pv 0) (pa_cons (pv 1) pa_nil))) (pa_cons (pe_call IH hr rfl T.gS T.kS b .nil pass0 (pa_cons (pv 0) (pa_cons (pv 1) (pa_cons (pe_op op_sub (pv 2) pe_int) pa_nil)))) pa_nil)))))) pss_nil)
 (pss_cons (ps_set (i := 4) scEx.nd rfl (Or.inl rfl) (pe_call Pk.ok r2' rfl Pk.g Pk.k Pk.b .nil pass0 (pa_cons (pv 0) (pa_cons (pe_lst (pa_cons pe_str (pa_cons pe_str (pa_cons pe_str (pa_cons pe_str pa_nil))))) pa_nil))))
 (pss_cons (ps_set (i := 5) scEx.nd rfl (Or.inl rfl) (pe_call IH hr rfl T.gS T.kS b .nil pass0 (pa_cons (pv 0) (pa_cons (pv 1) (pa_cons (pe_op op_sub (pv 2) pe_int) pa_nil)))))
 (pss_one (ps_ret (pe_tup (pa_cons (pv 4) (pa_cons (pv 5) (pa_cons (pe_call IH hr rfl T.gS T.kS b .nil pass0 (pa_cons (pv 0) (pa_cons (pv 1) (pa_cons (pe_op op_sub (pv 2) pe_int) pa_nil)))) pa_nil))))))))))))), ?_⟩
      have small : ∀ z : Int, 0 ≤ z → z ≤ 1000 → z.natAbs < 2 ^ 8000 := fun z h0 h1 => big_lt (n := 10) (Nat.lt_of_le_of_lt (by omega : z.natAbs ≤ 1000) (by decide)) (by decide)
      -- way
      refine ⟨_, rfl, p, q, ns, i, v, sd, 10, rfl, R, by decide, small _ (by decide) (by decide), fun x1 i1 v1 sd1 x10 x11 ok1 => ?_⟩
      have R1 := R.next ok1
      have K1 : KeepBut p H _ := KeepBut.put (o := .lst (rngL q i1 v1 sd1))
      generalize upd H p (.lst (rngL q i1 v1 sd1)) = G1 at R1 K1
      have hl1 := K1 _ _ hl nlp
      refine ⟨_, rfl, _, _, rfl, rfl, _, rfl, ?_⟩
      by_cases c : d < 2 ∨ ¬ d < 2 ∧ x1 = 0
      · rcases c with c1 | ⟨c1, rfl⟩
        refine ifT (decide_eq_true c1) (iteT ?_)
        rotate_left
        refine ifF (decide_eq_false c1) ⟨_, rfl, rfl, _, rfl, ifT (decide_eq_true rfl) ?_⟩
        all_goals
          refine ⟨_, rfl, (by show 1 ≤ sizeLine; decide), fun t1 ht1 => ⟨(by show 1 ≤ sizeLine; decide), fun t2 ht2 => ?_⟩⟩
          have s1 := same_upd (o := .tup [.str "x"]) (Same.refl G1) ht1
          have s2 := same_upd (o := .tup [.str "x"]) (Same.refl (upd G1 t1 (.tup [.str "x"]))) ht2
          have s12 := s1.trans s2
          refine ⟨_, rfl, p, q, ns, i1, v1, sd1, rfl, R1.same s12, fun G3 r y i3 v3 sd3 K3 R3 n3 h3 six => ⟨(by show 2 ≤ sizeLine; decide), fun t3 ht3 => ⟨(by show 3 ≤ sizeLine; decide), fun l2 hl2 => ?_⟩⟩⟩
          have s3 := same_upd (o := .tup [.str "number", .ref r]) (Same.refl G3) ht3
          have s4 := same_upd (o := .lst [.ref t1, .ref t2, .ref t3]) (Same.refl (upd G3 t3 (.tup [.str "number", .ref r]))) hl2
          have R4 := (R3.same s3).same s4
          refine ⟨p, q, ns, i3, v3, sd3, R4, .inl ⟨l2, _, rfl, upd_same, (R3.same s3).free hl2, by simp, by show 3 ≤ 1000; decide, fun x i5 v5 sd5 hx ok5 => ?_⟩⟩
          have kp0 : Kp G1 G3 := (Kp.of s12).trans (Kp.but (R1.same s12).at_p K3)
          have kp5 : Kp G3 (upd (upd (upd G3 t3 (.tup [.str "number", .ref r])) l2 (.lst [.ref t1, .ref t2, .ref t3])) p (.lst (rngL q i5 v5 sd5))) := ((Kp.of s3).trans (Kp.of s4)).trans (Kp.put R4.at_p)
          have kpt : Kp (upd G3 t3 (.tup [.str "number", .ref r])) (upd (upd (upd G3 t3 (.tup [.str "number", .ref r])) l2 (.lst [.ref t1, .ref t2, .ref t3])) p (.lst (rngL q i5 v5 sd5))) := (Kp.of s4).trans (Kp.put R4.at_p)
          have kb : KeepBut p H (upd (upd (upd G3 t3 (.tup [.str "number", .ref r])) l2 (.lst [.ref t1, .ref t2, .ref t3])) p (.lst (rngL q i5 v5 sd5))) := ((((K1.trans (KeepBut.of s12)).trans K3).trans (KeepBut.of s3)).trans (KeepBut.of s4)).trans KeepBut.put
          have kp3 : Kp (upd (upd G1 t1 (.tup [.str "x"])) t2 (.tup [.str "x"])) G3 := Kp.but (R1.same s12).at_p K3
          simp only [List.mem_cons, List.not_mem_nil, or_false] at hx
          rcases hx with rfl | rfl | rfl
          · exact k _ _ .x i5 v5 sd5 kb (R4.next ok5) ⟨t1, rfl, kp5.t (kp3.t (s2 _ _ upd_same))⟩ (by show (1 : Int) ≤ d; omega) trivial
          · exact k _ _ .x i5 v5 sd5 kb (R4.next ok5) ⟨t2, rfl, kp5.t (kp3.t upd_same)⟩ (by show (1 : Int) ≤ d; omega) trivial
          · exact k _ _ (.num y) i5 v5 sd5 kb (R4.next ok5) ⟨t3, .ref r, rfl, kpt.t upd_same, ⟨r, rfl, kp5.t h3⟩⟩ (by show (1 : Int) ≤ d; omega) six
      have c1 : ¬ d < 2 := fun z => c (.inl z)
      have c2 : x1 ≠ 0 := fun z => c (.inr ⟨c1, z⟩)
      refine ifF (decide_eq_false c1) ⟨_, rfl, rfl, _, rfl, ifF (eq_int c2) ?_⟩
      -- abs
      refine ⟨_, rfl, rfl, _, rfl, ?_⟩
      by_cases c3 : x1 = 1
      · subst c3
        refine ifT (decide_eq_true rfl) ?_
        refine ⟨_, rfl, _, rfl, _, rfl, _, _, rfl, rfl, p, q, l, ns, i1, v1, sd1, d - 1, ys, rfl, R1, hl1, nlp, hy, few, by omega, by omega, fun G2 u e i2 v2 sd2 K2 R2 hu hd hof => ⟨(by show 2 ≤ sizeLine; decide), fun t ht => ?_⟩⟩
        have s1 := same_upd (o := .tup [.str "abs", u]) (Same.refl G2) ht
        exact k _ _ (.abs e) i2 v2 sd2 ((K1.trans K2).trans (KeepBut.of s1)) (R2.same s1) ⟨t, u, rfl, upd_same, hu.same s1⟩ (by show ((e.dep + 1 : Nat) : Int) ≤ d; omega) hof
      refine ifF (eq_int c3) ?_
      -- multiple
      refine ⟨_, rfl, rfl, _, rfl, ?_⟩
      by_cases c : x1 = 2 ∨ x1 = 3
      · rcases c with rfl | rfl
        refine ifT (decide_eq_true rfl) (iteT ?_)
        rotate_left
        refine ifF (eq_int (by decide)) ⟨_, rfl, rfl, _, rfl, ifT (decide_eq_true rfl) ?_⟩
        all_goals
          refine ⟨_, rfl, p, q, ns, i1, v1, sd1, rfl, R1, fun G3 r y i3 v3 sd3 K3 R3 n3 h3 six => ?_⟩
          refine ⟨_, rfl, _, rfl, _, rfl, _, _, rfl, rfl, p, q, l, ns, i3, v3, sd3, d - 1, ys, rfl, R3, K3 _ _ hl1 nlp, nlp, hy, few, by omega, by omega, fun G2 u e i2 v2 sd2 K2 R2 hu hd hof => ⟨(by show 3 ≤ sizeLine; decide), fun t ht => ?_⟩⟩
          have s1 := same_upd (o := .tup [.str "multiple", .ref r, u]) (Same.refl G2) ht
          exact k _ _ (.mul y e) i2 v2 sd2 (((K1.trans K3).trans K2).trans (KeepBut.of s1)) (R2.same s1) ⟨t, .ref r, u, rfl, upd_same, ⟨r, rfl, s1 _ _ ((Kp.but R3.at_p K2).t h3)⟩, hu.same s1⟩ (by show ((e.dep + 1 : Nat) : Int) ≤ d; omega) ⟨six, hof⟩
      have c4 : x1 ≠ 2 := fun z => c (.inl z)
      have c5 : x1 ≠ 3 := fun z => c (.inr z)
      refine ifF (eq_int c4) ⟨_, rfl, rfl, _, rfl, ifF (eq_int c5) ?_⟩
      -- call
      refine ⟨fun σ G => σ = [some (.ref p), some (.ref l), some (.int d), some (.int x1), none, none] ∧ KeepBut p H G ∧ RngAt G p q ns i1 v1 sd1, ?_, ?_⟩
      · refine ⟨_, rfl, _, _, rfl, rfl, _, rfl, ?_⟩
        by_cases c6 : 7 < x1
        · refine ifT (decide_eq_true c6) ?_
          refine ⟨_, rfl, (by show 0 ≤ sizeLine; decide), fun z hz => ?_⟩
          have s1 := same_upd (o := .lst []) (Same.refl G1) hz
          refine ⟨_, _, .lst (xs := ys.map V.str) (SqL.of (s1 _ _ hl1)) (dpStrs ys), .lst (xs := []) (SqL.of upd_same) .nil, shapedStrs ys (fun y h => strOk_low (hy y h).low), rfl, _, rfl, ?_⟩
          have ee := eqv_nil ys
          by_cases c7 : ys = []
          · refine ifF (by rw [ee, decide_eq_true c7]; rfl) ?_
            exact ⟨rfl, K1.trans (KeepBut.of s1), R1.same s1⟩
          · refine ifT (by rw [ee, decide_eq_false c7]; rfl) ?_
            have R2 := R1.same s1
            refine ⟨_, rfl, _, rfl, p, q, ns, i1, v1, sd1, R2, .inl ⟨l, _, rfl, s1 _ _ hl1, nlp, by simpa using c7, by rw [List.length_map]; omega, fun x i3 v3 sd3 hx ok3 => ?_⟩⟩
            obtain ⟨y, hyy, rfl⟩ := List.mem_map.mp hx
            have R3 := R2.next ok3
            have K3 : KeepBut p H _ := (K1.trans (KeepBut.of s1)).trans (KeepBut.put (o := .lst (rngL q i3 v3 sd3)))
            refine ⟨_, rfl, _, rfl, _, rfl, _, _, rfl, rfl, p, q, l, ns, i3, v3, sd3, d - 1, ys, rfl, R3, K3 _ _ hl nlp, nlp, hy, few, by omega, by omega, fun G2 u e i2 v2 sd2 K2 R2 hu hd hof => ⟨(by show 3 ≤ sizeLine; decide), fun t ht => ?_⟩⟩
            have s2 := same_upd (o := .tup [.str "call", .str y, u]) (Same.refl G2) ht
            exact k _ _ (.call y e) i2 v2 sd2 ((K3.trans K2).trans (KeepBut.of s2)) (R2.same s2) ⟨t, u, rfl, upd_same, hu.same s2⟩ (by show ((e.dep + 1 : Nat) : Int) ≤ d; omega) ⟨hyy, hof⟩
        · exact ifF (decide_eq_false c6) ⟨rfl, K1, R1⟩
      -- two parts
      clear hl1 K1 R1
      rintro σ G1 ⟨rfl, K1, R1⟩
      refine ⟨_, rfl, (by show 4 ≤ sizeLine; decide), fun l2 hl2 => ?_⟩
      have s1 := same_upd (o := .lst [.str "add", .str "subtract", .str "max", .str "min"]) (Same.refl G1) hl2
      refine ⟨p, q, ns, i1, v1, sd1, R1.same s1, .inl ⟨l2, _, rfl, upd_same, R1.free hl2, by simp, by show 4 ≤ 1000; decide, fun x i2 v2 sd2 hx ok2 => ?_⟩⟩
      obtain ⟨bw, rfl⟩ : ∃ bw : Bw, x = .str bw.w := by
        simp only [List.mem_cons, List.not_mem_nil, or_false] at hx
        rcases hx with rfl | rfl | rfl | rfl
        · exact ⟨.add, rfl⟩
        · exact ⟨.sub, rfl⟩
        · exact ⟨.max, rfl⟩
        · exact ⟨.min, rfl⟩
      have R2 := (R1.same s1).next ok2
      have K2 : KeepBut p H _ := (K1.trans (KeepBut.of s1)).trans (KeepBut.put (o := .lst (rngL q i2 v2 sd2)))
      generalize upd (upd G1 l2 _) p (.lst (rngL q i2 v2 sd2)) = G2 at R2 K2
      refine ⟨_, rfl, _, rfl, _, rfl, _, _, rfl, rfl, p, q, l, ns, i2, v2, sd2, d - 1, ys, rfl, R2, K2 _ _ hl nlp, nlp, hy, few, by omega, by omega, fun G3 u e i3 v3 sd3 K3 R3 hu hd hof => ?_⟩
      have K23 := K2.trans K3
      refine ⟨_, rfl, _, rfl, _, rfl, _, rfl, _, rfl, _, _, rfl, rfl, p, q, l, ns, i3, v3, sd3, d - 1, ys, rfl, R3, K23 _ _ hl nlp, nlp, hy, few, by omega, by omega, fun G4 u4 e4 i4 v4 sd4 K4 R4 hu4 hd4 hof4 => ⟨(by show 3 ≤ sizeLine; decide), fun t ht => ?_⟩⟩
      have s4 := same_upd (o := .tup [.str bw.w, u, u4]) (Same.refl G4) ht
      refine k _ _ (.bin bw e e4) i4 v4 sd4 ((K23.trans K4).trans (KeepBut.of s4)) (R4.same s4) ⟨t, u, u4, rfl, upd_same, (hu.kp (Kp.but R3.at_p K4)).same s4, hu4.same s4⟩ ?_ ⟨hof, hof4⟩
      show ((Nat.max e.dep e4.dep + 1 : Nat) : Int) ≤ d
      have : Nat.max e.dep e4.dep ≤ (d - 1).toNat := Nat.max_le.mpr ⟨by omega, by omega⟩
      omega
end
end K18
namespace K18
open PySem PySem.Spec PyProof.Rows L2 Ew
section
variable {P : Program} {w : World} {K : PySem.W.Frag} {mg : Str → Option Value} {base : Heap}
/-! ## _law_evaluated -/
structure TxtEv (mg : Str → Option Value) : Prop where
  abs : mg "abs" = none
theorem abs_if (m : Int) : (if m < 0 then -m else m) = (m.natAbs : Int) := by split <;> omega
def evN : List Str := ["_law_expression_here", "_law_number", "_law_table", "_law_word", "_law_back", "_law_front"]
theorem scEv : FnScope evN ["_law_expression_here", "_law_number", "_law_table"] (defScope sLawEvaluated) := ⟨rfl, rfl, rfl, by decide +kernel, rfl, by decide +kernel, by decide +kernel⟩
def spEv (n : Nat) : Sp := fun vs H Q _ => ∃ (bs : List (Str × Ex)) (e : Ex) (u x : V) (t : Addr) (v : Rat) (c R : Nat), vs = [u, x, .ref t] ∧ EvOk H bs e u x v c R ∧ TabAt H t bs ∧ e.dep + 3 * R ≤ n ∧ ∀ G y, Same H G → QAt G y (e.ev (fnOf bs) v) → Q y G
theorem ok_evaluated {f fPl fMi fTi fLs : Addr} {fd fdPl fdMi fdTi fdLs : FuncData} (F : Fun K "_law_evaluated" "_law_evaluated" sLawEvaluated f fd) (b : Binds K fd ["_law_expression_here", "_law_number", "_law_table"] []) (T : TxtRec K mg "_law_evaluated" f) (U : TxtEv mg)
    (Pl : Def P w K mg base CX0 2 "_law_plus" fPl fdPl ["_law_one", "_law_other"] (spR2 (· + ·) (fun _ _ => True))) (Mi : Def P w K mg base CX0 2 "_law_minus" fMi fdMi ["_law_one", "_law_other"] (spR2 (· - ·) (fun _ _ => True))) (Ti : Def P w K mg base CX0 2 "_law_times" fTi fdTi ["_law_one", "_law_other"] (spR2 (· * ·) (fun _ _ => True))) (Ls : Def P w K mg base CX0 1 "_law_less" fLs fdLs ["_law_one", "_law_other"] spRless) :
    ∀ n, FnOk P w K mg base CX0 (n + 3) f fd ["_law_expression_here", "_law_number", "_law_table"] (spEv n)
  | 0 => fn_never fun vs H Q E h => by
    obtain ⟨bs, e, u, x, t, v, c, R, _, _, _, h, _⟩ := h
    have := e.dep_pos
    omega
  | n + 1 => by
    have IH := ok_evaluated F b T U Pl Mi Ti Ls n
    refine F.ok scEv (fun vs H Q E h => ?_) (fun cdv A outer s H vs Q E hr h => ?_)
    · obtain ⟨bs, e, u, x, t, v, c, R, rfl, _⟩ := h
      rfl
    · obtain ⟨bs, e, u, x, t, v, c, R, rfl, ⟨wf, he, hv, of, sz, wd, hR⟩, ht, hd, k⟩ := h
      have r1' : Room 1 _ := hr.mono (by omega)
      have r2' : Room 2 _ := hr.mono (by omega)
      refine ⟨_, (pss_cons (ps_set (i := 3) scEv.nd rfl (Or.inl rfl) (pe_ix ix_tup (pv 0) pe_int (fun _ _ => rfl)))
 (pss_cons (ps_if (pt_cmpR op_eq (pv 3) pe_str (nomark _)) (pss_one (ps_ret (pv 1))) pss_nil)
 (pss_cons (ps_if (pt_cmpR op_eq (pv 3) pe_str (nomark _)) (pss_one (ps_ret (pe_ix ix_tup (pv 0) pe_int (fun _ _ => rfl)))) pss_nil)
 (pss_cons (ps_set (i := 4) scEv.nd rfl (Or.inl rfl) (pe_call IH hr rfl T.gS T.kS b .nil pass0 (pa_cons (pe_ix ix_tup (pv 0) (pe_un un_neg pe_int) (fun _ _ => rfl)) (pa_cons (pv 1) (pa_cons (pv 2) pa_nil)))))
 (pss_cons (ps_if (pt_cmpR op_eq (pv 3) pe_str (nomark _)) (pss_one (ps_ret (pe_call IH hr rfl T.gS T.kS b .nil pass0 (pa_cons (pe_dget (hu_of hr) (pv 2) (pe_ix ix_tup (pv 0) pe_int (fun _ _ => rfl)) (fun _ _ => rfl)) (pa_cons (pv 4) (pa_cons (pv 2) pa_nil)))))) pss_nil)
 (pss_cons (ps_if (pt_cmpR op_eq (pv 3) pe_str (nomark _)) (pss_one (ps_ret (pe_call Ti.ok r2' rfl Ti.g Ti.k Ti.b .nil pass0 (pa_cons (pe_ix ix_tup (pv 0) pe_int (fun _ _ => rfl)) (pa_cons (pv 4) pa_nil))))) pss_nil)
 (pss_cons (ps_if (pt_cmpR op_eq (pv 3) pe_str (nomark _)) (pss_one (ps_ret (pe_tup (pa_cons (pe_callB call_abs (by rfl) U.abs (by decide +kernel) (pa_cons (pe_ix ix_tup (pv 4) pe_int (fun _ _ => rfl)) pa_nil)) (pa_cons (pe_ix ix_tup (pv 4) pe_int (fun _ _ => rfl)) pa_nil))))) pss_nil)
 (pss_cons (ps_set (i := 5) scEv.nd rfl (Or.inl rfl) (pe_call IH hr rfl T.gS T.kS b .nil pass0 (pa_cons (pe_ix ix_tup (pv 0) pe_int (fun _ _ => rfl)) (pa_cons (pv 1) (pa_cons (pv 2) pa_nil)))))
 (pss_cons (ps_if (pt_cmpR op_eq (pv 3) pe_str (nomark _)) (pss_one (ps_ret (pe_call Pl.ok r2' rfl Pl.g Pl.k Pl.b .nil pass0 (pa_cons (pv 5) (pa_cons (pv 4) pa_nil))))) pss_nil)
 (pss_cons (ps_if (pt_cmpR op_eq (pv 3) pe_str (nomark _)) (pss_one (ps_ret (pe_call Mi.ok r2' rfl Mi.g Mi.k Mi.b .nil pass0 (pa_cons (pv 5) (pa_cons (pv 4) pa_nil))))) pss_nil)
 (pss_cons (ps_if (pt_cmpR op_eq (pv 3) pe_str (nomark _)) (pss_one (ps_ret (pe_ifExp (pt_val (pe_call Ls.ok r1' rfl Ls.g Ls.k Ls.b .nil pass0 (pa_cons (pv 5) (pa_cons (pv 4) pa_nil)))) (pv 4) (pv 5)))) pss_nil)
 (pss_one (ps_ret (pe_ifExp (pt_val (pe_call Ls.ok r1' rfl Ls.g Ls.k Ls.b .nil pass0 (pa_cons (pv 5) (pa_cons (pv 4) pa_nil)))) (pv 5) (pv 4))))))))))))))), ?_⟩
      obtain ⟨a, us, rfl, ha, lu⟩ := he.tup
      refine ⟨_, rfl, a, _, _, _, rfl, rfl, SqT.of ha, at0 _ _, ?_⟩
      clear ha lu us
      cases e with
      | x => exact ⟨_, rfl, rfl, _, rfl, ifT (decide_eq_true rfl) ⟨_, rfl, k H _ (Same.refl _) hv⟩⟩
      | num q =>
        obtain ⟨a', u, e0, ha, hq⟩ := he
        cases e0
        exact ⟨_, rfl, rfl, _, rfl, ifF (str_ne (s := "number") (by decide +kernel)) ⟨_, rfl, rfl, _, rfl, ifT (decide_eq_true rfl) ⟨_, rfl, a, _, _, _, rfl, rfl, SqT.of ha, at1 _ _ _, k H u (Same.refl _) hq⟩⟩⟩
      | abs e =>
        obtain ⟨a', u, e0, ha, hu⟩ := he
        cases e0
        have hd : e.dep + 1 + 3 * R ≤ n + 1 := hd
        have z2 := ev_sz wf of sz
        refine ⟨_, rfl, rfl, _, rfl, ifF (str_ne (s := "abs") (by decide +kernel)) ⟨_, rfl, rfl, _, rfl, ifF (str_ne (s := "abs") (by decide +kernel)) ?_⟩⟩
        refine ⟨_, rfl, _, rfl, a, _, _, _, rfl, rfl, SqT.of ha, rfl, _, rfl, _, rfl, bs, e, u, x, t, v, c, R, rfl, ⟨wf, hu, hv, of, sz, wd, hR⟩, ht, by omega, fun G y s1 hy => ?_⟩
        refine ⟨_, rfl, rfl, _, rfl, ifF (str_ne (s := "abs") (by decide +kernel)) ⟨_, rfl, rfl, _, rfl, ifF (str_ne (s := "abs") (by decide +kernel)) ⟨_, rfl, rfl, _, rfl, ifT (decide_eq_true rfl) ?_⟩⟩⟩
        obtain ⟨p, rfl, hp⟩ := hy
        refine ⟨_, rfl, p, _, _, _, rfl, rfl, SqT.of hp, rfl, ?_⟩
        refine ⟨_, rfl, _, rfl, p, _, _, _, rfl, rfl, SqT.of hp, rfl, (by show 2 ≤ sizeLine; decide), fun r hr' => ?_⟩
        refine k _ (.ref r) (same_upd s1 hr') ⟨r, rfl, ?_⟩
        rw [upd_same, abs_if]
        exact congrArg (fun l => some (HO.tup l)) (qV_abs _).symm
      | mul q e =>
        obtain ⟨a', t1, u, e0, ha, hq, hu⟩ := he
        cases e0
        have hd : e.dep + 1 + 3 * R ≤ n + 1 := hd
        have wd : 20 + e.wd (gOf bs) + c ≤ 3900 := wd
        have z2 := ev_sz wf of.2 sz
        refine ⟨_, rfl, rfl, _, rfl, ifF (str_ne (s := "multiple") (by decide +kernel)) ⟨_, rfl, rfl, _, rfl, ifF (str_ne (s := "multiple") (by decide +kernel)) ?_⟩⟩
        refine ⟨_, rfl, _, rfl, a, _, _, _, rfl, rfl, SqT.of ha, rfl, _, rfl, _, rfl, bs, e, u, x, t, v, c, R, rfl, ⟨wf, hu, hv, of.2, sz, by omega, hR⟩, ht, by omega, fun G y s1 hy => ?_⟩
        refine ⟨_, rfl, rfl, _, rfl, ifF (str_ne (s := "multiple") (by decide +kernel)) ⟨_, rfl, rfl, _, rfl, ifT (decide_eq_true rfl) ?_⟩⟩
        refine ⟨_, rfl, a, _, _, _, rfl, rfl, SqT.of (s1 _ _ ha), at1 _ _ _, _, rfl, t1, y, q, _, rfl, hq.kp (Kp.of s1), hy, (six_sz of.1).le (by decide), z2.le (by omega), trivial, fun G2 p s2 np hp => ?_⟩
        exact k G2 (.ref p) (s1.trans s2) ⟨p, rfl, hp⟩
      | call n1 e =>
        obtain ⟨a', u, e0, ha, hu⟩ := he
        cases e0
        have hd : e.dep + 1 + 3 * R ≤ n + 1 := hd
        have wd : gOf bs n1 + e.wd (gOf bs) + c ≤ 3900 := wd
        have z2 := ev_sz wf of.2 sz
        refine ⟨_, rfl, rfl, _, rfl, ifF (str_ne (s := "call") (by decide +kernel)) ⟨_, rfl, rfl, _, rfl, ifF (str_ne (s := "call") (by decide +kernel)) ?_⟩⟩
        refine ⟨_, rfl, _, rfl, a, _, _, _, rfl, rfl, SqT.of ha, rfl, _, rfl, _, rfl, bs, e, u, x, t, v, c, R, rfl, ⟨wf, hu, hv, of.2, sz, by omega, fun m hm => hR m (List.mem_cons_of_mem _ hm)⟩, ht, by omega, fun G y s1 hy => ?_⟩
        refine ⟨_, rfl, rfl, _, rfl, ifT (decide_eq_true rfl) ?_⟩
        obtain ⟨d, hm⟩ := has_body of.1
        have bd := body_of wf hm
        have r0 := rk_pos of.1
        have r1 := hR n1 List.mem_cons_self
        have ht1 := ht.same s1
        obtain ⟨kvs, hk, hks⟩ := ht1
        obtain ⟨ub, hub, hxb⟩ := hks n1 d hm
        have dg : DGet G t (V.str n1) (some ub) := by
          have z := DGet.k (k := Sum.inr n1) hk
          rw [hub] at z
          exact z
        refine ⟨_, rfl, _, rfl, a, _, _, _, rfl, rfl, SqT.of (s1 _ _ ha), at1 _ _ _, t, ub, rfl, dg, _, rfl, _, rfl, bs, d, ub, y, t, _, e.wd (gOf bs) + c, R - 1, rfl, ⟨wf, hxb, hy, bd.of, z2, ?_, fun m hm => ?_⟩, ⟨kvs, hk, hks⟩, ?_, fun G2 y2 s2 hy2 => ?_⟩
        · rw [← bd.wide]; omega
        · have := bd.rank m hm; omega
        · have := bd.dep; omega
        · refine k G2 y2 (s1.trans s2) ?_
          rw [← bd.val] at hy2
          exact hy2
      | bin b1 l r =>
        obtain ⟨a', t1, u, e0, ha, hl, hu⟩ := he
        cases e0
        have hd : Nat.max l.dep r.dep + 1 + 3 * R ≤ n + 1 := hd
        have dl : l.dep ≤ Nat.max l.dep r.dep := Nat.le_max_left _ _
        have dr : r.dep ≤ Nat.max l.dep r.dep := Nat.le_max_right _ _
        have wd : l.wd (gOf bs) + r.wd (gOf bs) + 1 + c ≤ 3900 := wd
        have zl := (ev_sz wf of.1 sz).le (m := 3900) (by omega)
        have zr := (ev_sz wf of.2 sz).le (m := 3900) (by omega)
        obtain ⟨n1, n2, n3, n4, n5⟩ := bw_cases b1
        refine ⟨_, rfl, rfl, _, rfl, ifF (str_ne n1) ⟨_, rfl, rfl, _, rfl, ifF (str_ne n2) ?_⟩⟩
        refine ⟨_, rfl, _, rfl, a, _, _, _, rfl, rfl, SqT.of ha, rfl, _, rfl, _, rfl, bs, r, u, x, t, v, c, R, rfl, ⟨wf, hu, hv, of.2, sz, by omega, fun m hm => hR m (List.mem_append_right _ hm)⟩, ht, by omega, fun G y s1 hy => ?_⟩
        refine ⟨_, rfl, rfl, _, rfl, ifF (str_ne n4) ⟨_, rfl, rfl, _, rfl, ifF (str_ne n3) ⟨_, rfl, rfl, _, rfl, ifF (str_ne n5) ?_⟩⟩⟩
        refine ⟨_, rfl, a, _, _, _, rfl, rfl, SqT.of (s1 _ _ ha), at1 _ _ _, _, rfl, _, rfl, bs, l, t1, x, t, v, c, R, rfl, ⟨wf, hl.same s1, hv.kp (Kp.of s1), of.1, sz, by omega, fun m hm => hR m (List.mem_append_left _ hm)⟩, ht.same s1, by omega, fun G2 y2 s2 hy2 => ?_⟩
        have s12 := s1.trans s2
        have hy := hy.kp (Kp.of s2)
        cases b1 with
        | add => exact ⟨_, rfl, rfl, _, rfl, ifT (decide_eq_true rfl) ⟨_, rfl, _, rfl, y2, y, _, _, rfl, hy2, hy, zl, zr, trivial, fun G3 p s3 np hp => k G3 (.ref p) (s12.trans s3) ⟨p, rfl, hp⟩⟩⟩
        | sub => exact ⟨_, rfl, rfl, _, rfl, ifF (str_ne (s := "subtract") (by decide +kernel)) ⟨_, rfl, rfl, _, rfl, ifT (decide_eq_true rfl) ⟨_, rfl, _, rfl, y2, y, _, _, rfl, hy2, hy, zl, zr, trivial, fun G3 p s3 np hp => k G3 (.ref p) (s12.trans s3) ⟨p, rfl, hp⟩⟩⟩⟩
        | max =>
          have k2 : ∀ y, QAt G2 y (if l.ev (fnOf bs) v < r.ev (fnOf bs) v then r.ev (fnOf bs) v else l.ev (fnOf bs) v) → Q y G2 := fun y h => k G2 y s12 h
          refine ⟨_, rfl, rfl, _, rfl, ifF (str_ne (s := "max") (by decide +kernel)) ⟨_, rfl, rfl, _, rfl, ifF (str_ne (s := "max") (by decide +kernel)) ⟨_, rfl, rfl, _, rfl, ifT (decide_eq_true rfl) ?_⟩⟩⟩
          refine ⟨_, rfl, _, rfl, y2, y, _, _, rfl, hy2, hy, zl, zr, _, rfl, ?_⟩
          by_cases c : l.ev (fnOf bs) v < r.ev (fnOf bs) v
          · rw [if_pos c] at k2
            exact ifT (decide_eq_true c) ⟨_, rfl, k2 y hy⟩
          · rw [if_neg c] at k2
            exact ifF (decide_eq_false c) ⟨_, rfl, k2 y2 hy2⟩
        | min =>
          have k2 : ∀ y, QAt G2 y (if r.ev (fnOf bs) v < l.ev (fnOf bs) v then r.ev (fnOf bs) v else l.ev (fnOf bs) v) → Q y G2 := fun y h => k G2 y s12 h
          refine ⟨_, rfl, rfl, _, rfl, ifF (str_ne (s := "min") (by decide +kernel)) ⟨_, rfl, rfl, _, rfl, ifF (str_ne (s := "min") (by decide +kernel)) ⟨_, rfl, rfl, _, rfl, ifF (str_ne (s := "min") (by decide +kernel)) ?_⟩⟩⟩
          refine ⟨_, rfl, _, rfl, y2, y, _, _, rfl, hy2, hy, zl, zr, _, rfl, ?_⟩
          by_cases c : l.ev (fnOf bs) v < r.ev (fnOf bs) v
          · rw [if_neg (by grind)] at k2
            exact ifT (decide_eq_true c) ⟨_, rfl, k2 y2 hy2⟩
          · refine ifF (decide_eq_false c) ⟨_, rfl, k2 y ?_⟩
            split
            · exact hy
            · rename_i c2
              have e : l.ev (fnOf bs) v = r.ev (fnOf bs) v := by grind
              rw [e]
              exact hy
end
end K18
namespace K18
open PySem PySem.Spec PyProof.Rows L2 Ew
section
variable {P : Program} {w : World} {K : PySem.W.Frag} {mg : Str → Option Value} {base : Heap}
/-! ## parts_first -/
def spPF (n : Nat) : Sp := fun vs H Q _ => ∃ (e : Ex) (v : V), vs = [v] ∧ ExAt H e v ∧ e.dep ≤ n ∧ ∀ (G : Hp) (p : Addr) (us : List V), Same H G → H p = none → G p = some (.lst us) → All2 (ExV G) us e.post → Q (.ref p) G
def pfN : List Str := ["expression", "order", "part"]
theorem scPF : FnScope pfN ["expression"] (defScope sPartsFirst) := ⟨rfl, rfl, rfl, by decide +kernel, rfl, by decide +kernel, by decide +kernel⟩
theorem ok_partsFirst {f fPo : Addr} {fd fdPo : FuncData} (F : Fun K "parts_first" "parts_first" sPartsFirst f fd) (b : Binds K fd ["expression"] []) (T : TxtRec K mg "parts_first" f) (Po : Def P w K mg base CX0 1 "parts_of" fPo fdPo ["expression"] spParts) :
    ∀ n, n ≤ 13 → FnOk P w K mg base CX0 (n + 1) f fd ["expression"] (spPF n)
  | 0, _ => fn_never fun vs H Q E h => by
    obtain ⟨e, v, _, _, h, _⟩ := h
    have := e.dep_pos
    omega
  | n + 1, hn => by
    have IH := ok_partsFirst F b T Po n (by omega)
    refine F.ok scPF (fun vs H Q E h => ?_) (fun cdv A outer s H vs Q E hr h => ?_)
    · obtain ⟨e, v, rfl, _⟩ := h
      rfl
    · obtain ⟨e, v, rfl, he, hd, k⟩ := h
      have r1' : Room 1 _ := hr.mono (by omega)
      refine ⟨_, (pss_cons (ps_set (i := 1) scPF.nd rfl (Or.inl rfl) (pe_lst pa_nil))
 (pss_cons (ps_for PassesOwn.never rfl (pi_list (pe_call Po.ok r1' rfl Po.g Po.k Po.b .nil pass0 (pa_cons (pv 0) pa_nil))) (pg_name (i := 2) scPF.nd rfl (Or.inl rfl))
 (pss_one (ps_expr (pe_bm PySem.F.plainAttrs_list PySem.F.slot_list_extend PySem.F.type_list_extend mt_extend (pv 1) (pa_cons (pe_call IH hr rfl T.gS T.kS b .nil pass0 (pa_cons (pv 2) pa_nil)) pa_nil)))))
 (pss_cons (ps_expr (pe_bm PySem.F.plainAttrs_list PySem.F.slot_list_append PySem.F.type_list_append mt_append (pv 1) (pa_cons (pv 0) pa_nil)))
 (pss_one (ps_ret (pv 1)))))), ?_⟩
      have few := Ex.post_few hd hn
      refine ⟨(by show 0 ≤ sizeLine; decide), fun D nD => ?_⟩
      have s1 := same_upd (o := .lst []) (Same.refl H) nD
      have hD : upd H D (.lst []) D = some (.lst []) := upd_same
      generalize upd H D (.lst []) = G at s1 hD
      refine ⟨_, rfl, e, _, rfl, he.same s1, fun G2 pu us2 s2 npu hpu al => ?_⟩
      have s12 := s1.trans s2
      have ne : pu ≠ D := (ne_of_none hD npu).symm
      refine ⟨pu, rfl, ⟨_, SqL.of hpu⟩, for_list (K := K) (a := pu) (xs := us2) (fun i σ G3 => ∃ o2 ws, σ = [some v, some (.ref D), o2] ∧ Same H G3 ∧ G3 pu = some (.lst us2) ∧ All2 (ExV G3) us2 e.kids ∧ G3 D = some (.lst ws) ∧ All2 (ExV G3) ws ((e.kids.take i).map Ex.post).flatten)
        ⟨_, [], rfl, s12, hpu, al, s2 _ _ hD, All2.nil⟩ (fun i σ G3 _ ⟨o2, ws, _, _, h, _⟩ => SqL.of h) ?_ ?_⟩
      · rintro i x σ G3 hx ⟨o2, ws, rfl, s3, hpu3, al3, hD3, aw⟩
        have hi : i < e.kids.length := by rw [← al.len]; exact (List.getElem?_eq_some_iff.mp hx).1
        obtain ⟨kd, hkd⟩ : ∃ kd, e.kids[i]? = some kd := ⟨_, List.getElem?_eq_getElem hi⟩
        have hk : ExAt G3 kd x := al3.at_ i x kd hx hkd
        have dk := Ex.kids_dep (List.mem_of_getElem? hkd)
        refine ⟨_, rfl, .inl ⟨rfl, _, SqL.of hD3⟩, _, rfl, kd, x, rfl, hk, by omega, fun G4 c4 ws4 s4 n4 h4 aw4 => ?_⟩
        have sub := Ex.post_sub hkd
        have hD4 := s4 _ _ hD3
        have l1 := aw.len
        have l2 := aw4.len
        refine ⟨D, c4, _, _, rfl, rfl, hD4, h4, by rw [l1, l2, sizeLine_eq]; omega, ?_⟩
        have kp : Kp G4 (upd G4 D (.lst (ws ++ ws4))) := Kp.put hD4
        refine ⟨_, ws ++ ws4, rfl, same_updN (s3.trans s4) nD, by rw [upd_ne ne]; exact s4 _ _ hpu3, al3.imp fun _ _ h => h.kp ((Kp.of s4).trans kp), upd_same, ?_⟩
        rw [post_take hkd]
        exact (aw.imp fun _ _ h => h.kp ((Kp.of s4).trans kp)).append (aw4.imp fun _ _ h => h.kp kp)
      · rintro σ G3 ⟨o2, ws, rfl, s3, hpu3, al3, hD3, aw⟩
        rw [al.len, List.take_length] at aw
        have l1 := aw.len
        have pl : ((e.kids.map Ex.post).flatten).length + 1 = e.post.length := by
          conv => rhs; rw [Ex.post_eq e]
          simp
        refine ⟨_, rfl, .inl ⟨rfl, _, SqL.of hD3⟩, _, rfl, D, _, _, rfl, rfl, hD3, by rw [l1, sizeLine_eq]; omega, ?_⟩
        have kp : Kp G3 (upd G3 D (.lst (ws ++ [v]))) := Kp.put hD3
        refine ⟨_, rfl, k _ D (ws ++ [v]) (same_updN s3 nD) nD upd_same ?_⟩
        rw [Ex.post_eq e]
        exact (aw.imp fun _ _ h => h.kp kp).snoc ((he.same s3).kp kp)
end
end K18
namespace K18
open PySem PySem.Spec PyProof.Rows L2 Ew
section
variable {P : Program} {w : World} {K : PySem.W.Frag} {mg : Str → Option Value} {base : Heap}
/-! ## value_of_parts -/
theorem all2_one {α : Type} {R : V → α → Prop} {ws : List V} {rs : List α} (a : All2 R ws rs) (h : rs.length = 1) : ∃ w r, ws = [w] ∧ rs = [r] ∧ R w r := by
  match ws, rs, a, h with
  | [w], [r], a, _ => exact ⟨w, r, rfl, rfl, a.at_ 0 w r rfl rfl⟩
  | [], [r], a, _ => exact absurd a.len (by simp)
  | _ :: _ :: _, [r], a, _ => exact absurd a.len (by simp)
theorem all2_two {α : Type} {R : V → α → Prop} {ws : List V} {rs : List α} (a : All2 R ws rs) (h : rs.length = 2) : ∃ w x r q, ws = [w, x] ∧ rs = [r, q] ∧ R w r ∧ R x q := by
  match ws, rs, a, h with
  | [w, x], [r, q], a, _ => exact ⟨w, x, r, q, rfl, rfl, a.at_ 0 w r rfl rfl, a.at_ 1 x q rfl rfl⟩
  | [], [r, q], a, _ => exact absurd a.len (by simp)
  | [_], [r, q], a, _ => exact absurd a.len (by simp)
  | _ :: _ :: _ :: _, [r, q], a, _ => exact absurd a.len (by simp)
def spVP : Sp := fun vs H Q _ => ∃ (e : Ex) (u : V) (l : Addr) (ws : List V) (rs : List Rat), vs = [u, .ref l] ∧ ExAt H e u ∧ H l = some (.lst ws) ∧ All2 (QAt H) ws rs ∧ rs.length = e.kids.length ∧ (∀ r ∈ rs, Sz 3900 r) ∧ e.Of (fun _ => True) SixFr ∧ e.kids ≠ [] ∧ e.own = [] ∧ ∀ G y, Same H G → QAt G y (e.ap (fun _ _ => 0) 0 rs) → Q y G
def vpN : List Str := ["expression", "inner", "kind"]
theorem scVP : FnScope vpN ["expression", "inner"] (defScope sValueOfParts) := ⟨rfl, rfl, rfl, by decide +kernel, rfl, by decide +kernel, by decide +kernel⟩
theorem ok_valueParts {f fPr fSu fDf fGr fSm : Addr} {fd fdPr fdSu fdDf fdGr fdSm : FuncData} (F : Fun K "value_of_parts" "value_of_parts" sValueOfParts f fd) (U : TxtEv mg)
    (Pr : Def P w K mg base CX0 4 "product" fPr fdPr ["one", "other"] (spR2 (· * ·) (fun _ _ => True))) (Su : Def P w K mg base CX0 4 "sum_of" fSu fdSu ["one", "other"] (spR2 (· + ·) (fun _ _ => True))) (Df : Def P w K mg base CX0 4 "difference" fDf fdDf ["one", "other"] (spR2 (· - ·) (fun _ _ => True)))
    (Gr : Def P w K mg base CX0 2 "greater_of" fGr fdGr ["one", "other"] spGreaterOf) (Sm : Def P w K mg base CX0 2 "smaller_of" fSm fdSm ["one", "other"] spSmallerOf) : FnOk P w K mg base CX0 5 f fd ["expression", "inner"] spVP := by
  refine F.ok scVP (fun vs H Q E h => ?_) (fun cdv A outer s H vs Q E hr h => ?_)
  · obtain ⟨e, u, l, ws, rs, rfl, _⟩ := h
    rfl
  · obtain ⟨e, u, l, ws, rs, rfl, he, hl, al, lr, sz, of, nk, no, k⟩ := h
    have r2' : Room 2 _ := hr.mono (by decide)
    have r4' : Room 4 _ := hr
    refine ⟨_, (pss_cons (ps_set (i := 2) scVP.nd rfl (Or.inl rfl) (pe_ix ix_tup (pv 0) pe_int (fun _ _ => rfl)))
 (pss_cons (ps_if (pt_cmpR op_eq (pv 2) pe_str (nomark _)) (pss_one (ps_ret (pe_call Pr.ok r4' rfl Pr.g Pr.k Pr.b .nil pass0 (pa_cons (pe_ix ix_tup (pv 0) pe_int (fun _ _ => rfl)) (pa_cons (pe_ix ix_list (pv 1) pe_int (fun _ _ => rfl)) pa_nil))))) pss_nil)
 (pss_cons (ps_if (pt_cmpR op_eq (pv 2) pe_str (nomark _)) (pss_one (ps_ret (pe_tup (pa_cons (pe_callB call_abs (by rfl) U.abs (by decide +kernel) (pa_cons (pe_ix ix_tup (pe_ix ix_list (pv 1) pe_int (fun _ _ => rfl)) pe_int (fun _ _ => rfl)) pa_nil)) (pa_cons (pe_ix ix_tup (pe_ix ix_list (pv 1) pe_int (fun _ _ => rfl)) pe_int (fun _ _ => rfl)) pa_nil))))) pss_nil)
 (pss_cons (ps_if (pt_cmpR op_eq (pv 2) pe_str (nomark _)) (pss_one (ps_ret (pe_call Su.ok r4' rfl Su.g Su.k Su.b .nil pass0 (pa_cons (pe_ix ix_list (pv 1) pe_int (fun _ _ => rfl)) (pa_cons (pe_ix ix_list (pv 1) pe_int (fun _ _ => rfl)) pa_nil))))) pss_nil)
 (pss_cons (ps_if (pt_cmpR op_eq (pv 2) pe_str (nomark _)) (pss_one (ps_ret (pe_call Df.ok r4' rfl Df.g Df.k Df.b .nil pass0 (pa_cons (pe_ix ix_list (pv 1) pe_int (fun _ _ => rfl)) (pa_cons (pe_ix ix_list (pv 1) pe_int (fun _ _ => rfl)) pa_nil))))) pss_nil)
 (pss_cons (ps_if (pt_cmpR op_eq (pv 2) pe_str (nomark _)) (pss_one (ps_ret (pe_call Gr.ok r2' rfl Gr.g Gr.k Gr.b .nil pass0 (pa_cons (pe_ix ix_list (pv 1) pe_int (fun _ _ => rfl)) (pa_cons (pe_ix ix_list (pv 1) pe_int (fun _ _ => rfl)) pa_nil))))) pss_nil)
 (pss_one (ps_ret (pe_call Sm.ok r2' rfl Sm.g Sm.k Sm.b .nil pass0 (pa_cons (pe_ix ix_list (pv 1) pe_int (fun _ _ => rfl)) (pa_cons (pe_ix ix_list (pv 1) pe_int (fun _ _ => rfl)) pa_nil))))))))))), ?_⟩
    obtain ⟨a, us, rfl, ha, lu⟩ := he.tup
    refine ⟨_, rfl, a, _, _, _, rfl, rfl, SqT.of ha, at0 _ _, ?_⟩
    clear ha lu us
    cases e with
    | x => exact absurd rfl nk
    | num q => exact absurd rfl nk
    | call n e => cases no
    | abs e =>
      obtain ⟨w0, r0, rfl, rfl, h0⟩ := all2_one al lr
      obtain ⟨p, rfl, hp⟩ := h0
      refine ⟨_, rfl, rfl, _, rfl, ifF (str_ne (s := "abs") (by decide +kernel)) ⟨_, rfl, rfl, _, rfl, ifT (decide_eq_true rfl) ?_⟩⟩
      refine ⟨_, rfl, l, _, _, _, rfl, rfl, SqL.of hl, at0 _ _, p, _, _, _, rfl, rfl, SqT.of hp, rfl, ?_⟩
      refine ⟨_, rfl, _, rfl, l, _, _, _, rfl, rfl, SqL.of hl, at0 _ _, p, _, _, _, rfl, rfl, SqT.of hp, rfl, (by show 2 ≤ sizeLine; decide), fun r hr' => ?_⟩
      refine k _ (.ref r) (same_upd (Same.refl H) hr') ⟨r, rfl, ?_⟩
      rw [upd_same, abs_if]
      exact congrArg (fun l => some (HO.tup l)) (qV_abs _).symm
    | mul q e =>
      obtain ⟨w0, r0, rfl, rfl, h0⟩ := all2_one al lr
      obtain ⟨a', t1, u, e0, ha, hq, hu⟩ := he
      cases e0
      refine ⟨_, rfl, rfl, _, rfl, ifT (decide_eq_true rfl) ?_⟩
      exact ⟨_, rfl, a, _, _, _, rfl, rfl, SqT.of ha, at1 _ _ _, _, rfl, l, _, _, _, rfl, rfl, SqL.of hl, at0 _ _, t1, w0, q, r0, rfl, hq, h0, (six_sz of.1).le (by decide), sz r0 List.mem_cons_self, trivial, fun G p s np hp => k G (.ref p) s ⟨p, rfl, hp⟩⟩
    | bin b d c =>
      obtain ⟨w0, w1, r0, r1, rfl, rfl, h0, h1⟩ := all2_two al lr
      have z0 := sz r0 List.mem_cons_self
      have z1 := sz r1 (List.mem_cons_of_mem _ List.mem_cons_self)
      obtain ⟨n1, n2, n3, n4, n5⟩ := bw_cases b
      refine ⟨_, rfl, rfl, _, rfl, ifF (str_ne n3) ⟨_, rfl, rfl, _, rfl, ifF (str_ne n5) ?_⟩⟩
      cases b with
      | add => exact ⟨_, rfl, rfl, _, rfl, ifT (decide_eq_true rfl) ⟨_, rfl, l, _, _, _, rfl, rfl, SqL.of hl, at0 _ _, _, rfl, l, _, _, _, rfl, rfl, SqL.of hl, at1 _ _ _, w0, w1, r0, r1, rfl, h0, h1, z0, z1, trivial, fun G p s np hp => k G (.ref p) s ⟨p, rfl, hp⟩⟩⟩
      | sub => exact ⟨_, rfl, rfl, _, rfl, ifF (str_ne (s := "subtract") (by decide +kernel)) ⟨_, rfl, rfl, _, rfl, ifT (decide_eq_true rfl) ⟨_, rfl, l, _, _, _, rfl, rfl, SqL.of hl, at0 _ _, _, rfl, l, _, _, _, rfl, rfl, SqL.of hl, at1 _ _ _, w0, w1, r0, r1, rfl, h0, h1, z0, z1, trivial, fun G p s np hp => k G (.ref p) s ⟨p, rfl, hp⟩⟩⟩⟩
      | max =>
        have k2 : ∀ y, QAt H y (if r0 < r1 then r1 else r0) → Q y H := fun y h => k H y (Same.refl H) h
        refine ⟨_, rfl, rfl, _, rfl, ifF (str_ne (s := "max") (by decide +kernel)) ⟨_, rfl, rfl, _, rfl, ifF (str_ne (s := "max") (by decide +kernel)) ⟨_, rfl, rfl, _, rfl, ifT (decide_eq_true rfl) ?_⟩⟩⟩
        refine ⟨_, rfl, l, _, _, _, rfl, rfl, SqL.of hl, at0 _ _, _, rfl, l, _, _, _, rfl, rfl, SqL.of hl, at1 _ _ _, w0, w1, r0, r1, rfl, h0, h1, z0, z1, k2 _ ?_⟩
        split
        · exact h1
        · exact h0
      | min =>
        have k2 : ∀ y, QAt H y (if r1 < r0 then r1 else r0) → Q y H := fun y h => k H y (Same.refl H) h
        refine ⟨_, rfl, rfl, _, rfl, ifF (str_ne (s := "min") (by decide +kernel)) ⟨_, rfl, rfl, _, rfl, ifF (str_ne (s := "min") (by decide +kernel)) ⟨_, rfl, rfl, _, rfl, ifF (str_ne (s := "min") (by decide +kernel)) ?_⟩⟩⟩
        refine ⟨_, rfl, l, _, _, _, rfl, rfl, SqL.of hl, at0 _ _, _, rfl, l, _, _, _, rfl, rfl, SqL.of hl, at1 _ _ _, w0, w1, r0, r1, rfl, h0, h1, z0, z1, k2 _ ?_⟩
        split
        · exact h1
        · exact h0
end
end K18
namespace K18
open PySem PySem.Spec PyProof.Rows L2 Ew
section
variable {P : Program} {w : World} {K : PySem.W.Frag} {mg : Str → Option Value} {base : Heap}
/-! ## Calculator -/
structure TxtCa (K : PySem.W.Frag) (C : Addr) : Prop where
  cl : Cls K C
  nO : NoAttr K C "orders"
  nK : NoAttr K C "known"
theorem kq_put {H : Hp} {kd : Addr} {bs : List (Str × Ex)} {kvs : List (NK × V)} {xs : List (NK × Addr × Value)} {n : Str} {q : Rat} {u : V} (hd : DN P w H kd kvs) (hq : ∀ n q u, namesOf bs n → valV kvs (nkq n q) = some u → QAt H u (fnOf bs n q)) (hu : QAt H u (fnOf bs n q)) :
    ∀ n' q' u', namesOf bs n' → valV (putK kvs (nkq n q) u) (nkq n' q') = some u' → QAt (upd H kd (nestO P w kd xs)) u' (fnOf bs n' q') := fun n' q' u' hn hv => by
  obtain ⟨ys, h1, _⟩ := hd
  have t : Tk H (upd H kd (nestO P w kd xs)) := fun c zs hc => by
    rw [upd_ne (fun z => by rw [z, h1] at hc; cases hc)]
    exact hc
  rw [valV_put] at hv
  split at hv
  · rename_i c
    obtain ⟨rfl, rfl⟩ := nkq_inj c
    cases hv
    exact hu.tk t
  · exact (hq n' q' u' hn hv).tk t
def spVcall (P : Program) (w : World) (C : Addr) (R : Nat) : Sp := fun vs H Q _ => ∃ (a od kd : Addr) (bs : List (Str × Ex)) (n : Str) (y : V) (q : Rat) (c m : Nat), vs = [.ref a, .str n, y] ∧ Calc P w C H a od kd bs m ∧ namesOf bs n ∧ rk bs n ≤ R ∧ QAt H y q ∧ Sz c q ∧ gOf bs n + c ≤ 3900 ∧ m + 8 ^ R ≤ sizeLine ∧
  ∀ G z, KeepBut kd H G → KnAt P w G kd bs (m + 8 ^ R) → QAt G z (fnOf bs n q) → Q z G
def spVof (P : Program) (w : World) (C : Addr) (R : Nat) : Sp := fun vs H Q _ => ∃ (a od kd l : Addr) (bs : List (Str × Ex)) (e : Ex) (u x : V) (ws : List V) (v : Rat) (c m : Nat), vs = [.ref a, u, .ref l, x] ∧ Calc P w C H a od kd bs m ∧ ExAt H e u ∧ H l = some (.lst ws) ∧ All2 (QAt H) ws (e.kids.map fun k => k.ev (fnOf bs) v) ∧ QAt H x v ∧ Sz c v ∧ e.Of (namesOf bs) SixFr ∧ e.wd (gOf bs) + c ≤ 3900 ∧ (∀ m ∈ e.calls, rk bs m ≤ R) ∧ m + 8 ^ R ≤ sizeLine ∧
  ∀ G z, KeepBut kd H G → KnAt P w G kd bs (m + 8 ^ R) → QAt G z (e.ev (fnOf bs) v) → Q z G
def spVal (P : Program) (w : World) (C : Addr) (R : Nat) : Sp := fun vs H Q _ => ∃ (a od kd l : Addr) (bs : List (Str × Ex)) (e : Ex) (x : V) (us : List V) (v : Rat) (c m : Nat), vs = [.ref a, .ref l, x] ∧ Calc P w C H a od kd bs m ∧ H l = some (.lst us) ∧ All2 (ExV H) us e.post ∧ QAt H x v ∧ Sz c v ∧ e.Of (namesOf bs) SixFr ∧ e.wd (gOf bs) + c ≤ 3900 ∧ (∀ m ∈ e.calls, rk bs m ≤ R) ∧ e.dep ≤ 4 ∧ m + e.post.length * 8 ^ R ≤ sizeLine ∧
  ∀ G z, KeepBut kd H G → KnAt P w G kd bs (m + e.post.length * 8 ^ R) → QAt G z (e.ev (fnOf bs) v) → Q z G
def vcN : List Str := ["self", "name", "number"]
theorem scVC : FnScope vcN ["self", "name", "number"] (defScope sCalculator_value_of_call) := ⟨rfl, rfl, rfl, by decide +kernel, rfl, by decide +kernel, by decide +kernel⟩
theorem ok_vcall {f fVA C : Addr} {fd fdVA : FuncData} {R : Nat} (F : Fun K "value_of_call" "Calculator.value_of_call" sCalculator_value_of_call f fd) (T : TxtCa K C) (mVA : MDef P w K mg base CX0 (3 * R + 8) C "value_at" fVA fdVA ["self", "order", "number"] (spVal P w C R)) :
    FnOk P w K mg base CX0 (3 * (R + 1) + 6) f fd ["self", "name", "number"] (spVcall P w C (R + 1)) := by
  refine F.ok scVC (fun vs H Q E h => ?_) (fun cdv A outer s H vs Q E hr h => ?_)
  · obtain ⟨a, od, kd, bs, n, y, q, c, m, rfl, _⟩ := h
    rfl
  · obtain ⟨a, od, kd, bs, n, y, q, c, m, rfl, cal, hn, hrk, hy, sz, wd, hm, k⟩ := h
    have r91' : Room (3 * R + 8) _ := hr.mono (by omega)
    refine ⟨_, (C8.pss_cut (ps_if (pt_cmp (pc_nnotin (hu5_of hr) (pe_tup (pa_cons (pv 1) (pa_cons (pv 2) pa_nil))) (pe_fld (pv 0) rfl))) (pss_one (ps_nput (hu5_of hr) (pe_fld (pv 0) rfl) (pe_tup (pa_cons (pv 1) (pa_cons (pv 2) pa_nil))) (pe_meth (pv 0) mVA.cl mVA.h mVA.ok r91' mVA.b .nil pass0 (pa_cons (pe_dget (hu_of hr) (pe_fld (pv 0) rfl) (pv 1) (fun _ _ => rfl)) (pa_cons (pv 2) pa_nil))) rfl)) pss_nil)
 (pss_one (ps_ret (pe_nget (hu5_of hr) (pe_fld (pv 0) rfl) (pe_tup (pa_cons (pv 1) (pa_cons (pv 2) pa_nil))) (fun _ _ => rfl))))), ?_⟩
    obtain ⟨p, rfl, hp⟩ := hy
    obtain ⟨d, hbd⟩ := has_body hn
    have bd := body_of cal.wf hbd
    have p8 : 8 ^ (R + 1) = 8 * 8 ^ R := by rw [Nat.pow_succ, Nat.mul_comm]
    have p1 : 1 ≤ 8 ^ R := Nat.one_le_pow _ _ (by decide)
    have pl : d.post.length ≤ 7 := by
      have h1 := d.post_len
      have h2 : 2 ^ d.dep ≤ 2 ^ 3 := Nat.pow_le_pow_right (by decide) bd.dep
      omega
    have pm : d.post.length * 8 ^ R ≤ 7 * 8 ^ R := Nat.mul_le_mul_right _ pl
    refine ⟨fun σ G => ∃ kvs u, σ = [some (.ref a), some (.str n), some (.ref p)] ∧ KeepBut kd H G ∧ DN P w G kd kvs ∧ kvs.length ≤ m + 8 ^ (R + 1) ∧ (∀ n q u, namesOf bs n → valV kvs (nkq n q) = some u → QAt G u (fnOf bs n q)) ∧ valV kvs (nkq n q) = some u, ?_, ?_⟩
    · refine ⟨_, rfl, _, rfl, (by show 2 ≤ sizeLine; decide), fun t1 ht1 => ?_⟩
      have s1 := same_upd (o := .tup [.str n, .ref p]) (Same.refl H) ht1
      have h1 : upd H t1 (.tup [.str n, .ref p]) t1 = some (.tup [.str n, .ref p]) := upd_same
      generalize upd H t1 (.tup [.str n, .ref p]) = G1 at s1 h1
      have cal1 := cal.same s1
      obtain ⟨dx, ha⟩ := cal1.ins
      obtain ⟨kvs, dn, kl, kq⟩ := cal1.kn
      have hp1 := s1 _ _ hp
      refine ⟨_, rfl, a, C, dx, _, _, rfl, ha, T.cl, T.nK, calcF_known od kd, kd, t1, p, nkq n q, kvs, rfl, rfl, dn, h1, hp1, ?_⟩
      have rk1 : ∀ x ∈ d.calls, rk bs x ≤ R := fun x hx => by have := bd.rank x hx; omega
      have wd1 : d.wd (gOf bs) + c ≤ 3900 := by rw [← bd.wide]; exact wd
      cases hv : valV kvs (nkq n q) with
      | some u => exact ⟨_, rfl, ifF rfl ⟨kvs, u, rfl, KeepBut.of s1, dn, by omega, kq, hv⟩⟩
      | none =>
        refine ⟨_, rfl, ifT rfl ?_⟩
        obtain ⟨okv, hod, hok⟩ := cal1.ord
        obtain ⟨l, us, ol, hl, al⟩ := hok n d hbd
        have dg : DGet G1 od (V.str n) (some (.ref l)) := by
          have z := DGet.k (k := Sum.inr n) hod
          rw [ol] at z
          exact z
        refine ⟨_, rfl, a, dx, _, rfl, ha, calcF_no (by decide +kernel) (by decide +kernel), _, rfl, a, C, dx, _, _, rfl, ha, T.cl, T.nO, calcF_orders od kd, _, rfl, od, .ref l, rfl, dg, _, rfl, a, od, kd, l, bs, d, _, us, q, c, m, rfl, cal1, hl, al, ⟨p, rfl, hp1⟩, sz, bd.of, wd1, rk1, Nat.le_trans bd.dep (by decide), by omega, fun G2 z kb kn hz => ?_⟩
        have cal2 := cal1.keep kb kn
        have tk := cal1.kn.tk kb
        obtain ⟨dx2, ha2⟩ := cal2.ins
        obtain ⟨kvs2, dn2, kl2, kq2⟩ := kn
        refine ⟨_, rfl, a, C, dx2, _, _, rfl, ha2, T.cl, T.nK, calcF_known od kd, _, rfl, _, rfl, (by show 2 ≤ sizeLine; decide), fun t2 ht2 => ?_⟩
        have s3 := same_upd (o := .tup [.str n, .ref p]) (Same.refl G2) ht2
        have h3 : upd G2 t2 (.tup [.str n, .ref p]) t2 = some (.tup [.str n, .ref p]) := upd_same
        generalize upd G2 t2 (.tup [.str n, .ref p]) = G3 at s3 h3
        have hp3 := s3 _ _ (tk _ _ hp1)
        have dn3 := dn2.same s3
        refine ⟨kd, t2, p, nkq n q, kvs2, rfl, rfl, dn3, h3, hp3, by omega, fun xs nt => ?_⟩
        have len := length_putK kvs2 (nkq n q) z
        rw [← bd.val] at hz
        refine ⟨_, z, rfl, ((KeepBut.of s1).trans kb).trans ((KeepBut.of s3).trans KeepBut.put), ⟨xs, upd_same, nt⟩, by omega, kq_put dn3 (fun n q u h1 h2 => (kq2 n q u h1 h2).tk (Tk.of s3)) (hz.tk (Tk.of s3)), ?_⟩
        rw [valV_put, if_pos rfl]
    · rintro σ G ⟨kvs, u, rfl, kb, dn, kl, kq, hv⟩
      have kn : KnAt P w G kd bs (m + 8 ^ (R + 1)) := ⟨kvs, dn, kl, kq⟩
      have cal2 := cal.keep kb kn
      obtain ⟨dx2, ha2⟩ := cal2.ins
      have hp2 := cal.kn.tk kb _ _ hp
      refine ⟨_, rfl, a, C, dx2, _, _, rfl, ha2, T.cl, T.nK, calcF_known od kd, _, rfl, _, rfl, (by show 2 ≤ sizeLine; decide), fun t2 ht2 => ?_⟩
      have s3 := same_upd (o := .tup [.str n, .ref p]) (Same.refl G) ht2
      have h3 : upd G t2 (.tup [.str n, .ref p]) t2 = some (.tup [.str n, .ref p]) := upd_same
      generalize upd G t2 (.tup [.str n, .ref p]) = G3 at s3 h3
      exact ⟨kd, t2, p, nkq n q, kvs, u, rfl, rfl, dn.same s3, h3, s3 _ _ hp2, hv, k G3 u (kb.trans (KeepBut.of s3)) (kn.same s3) ((kq n q u hn hv).tk (Tk.of s3))⟩
end
end K18
namespace K18
open PySem PySem.Spec PyProof.Rows L2 Ew
section
variable {P : Program} {w : World} {K : PySem.W.Frag} {mg : Str → Option Value} {base : Heap}
def voN : List Str := ["self", "expression", "inner", "number", "kind"]
theorem scVO : FnScope voN ["self", "expression", "inner", "number"] (defScope sCalculator_value_of) := ⟨rfl, rfl, rfl, by decide +kernel, rfl, by decide +kernel, by decide +kernel⟩
theorem ok_vof {f fVC fVP C : Addr} {fd fdVC fdVP : FuncData} {R : Nat} (F : Fun K "value_of" "Calculator.value_of" sCalculator_value_of f fd) (T : TxtCa K C) (mVC : MDef P w K mg base CX0 (3 * R + 6) C "value_of_call" fVC fdVC ["self", "name", "number"] (spVcall P w C R)) (VP : Def P w K mg base CX0 5 "value_of_parts" fVP fdVP ["expression", "inner"] spVP) :
    FnOk P w K mg base CX0 (3 * R + 7) f fd ["self", "expression", "inner", "number"] (spVof P w C R) := by
  refine F.ok scVO (fun vs H Q E h => ?_) (fun cdv A outer s H vs Q E hr h => ?_)
  · obtain ⟨a, od, kd, l, bs, e, u, x, ws, v, c, m, rfl, _⟩ := h
    rfl
  · obtain ⟨a, od, kd, l, bs, e, u, x, ws, v, c, m, rfl, cal, he, hl, al, hv, sz, of, wd, hR, hm, k⟩ := h
    have r93' : Room (3 * R + 6) _ := hr
    have r5' : Room 5 _ := hr.mono (by omega)
    refine ⟨_, (pss_cons (ps_set (i := 4) scVO.nd rfl (Or.inl rfl) (pe_ix ix_tup (pv 1) pe_int (fun _ _ => rfl)))
 (pss_cons (ps_if (pt_cmpR op_eq (pv 4) pe_str (nomark _)) (pss_one (ps_ret (pv 3))) pss_nil)
 (pss_cons (ps_if (pt_cmpR op_eq (pv 4) pe_str (nomark _)) (pss_one (ps_ret (pe_ix ix_tup (pv 1) pe_int (fun _ _ => rfl)))) pss_nil)
 (pss_cons (ps_if (pt_cmpR op_eq (pv 4) pe_str (nomark _)) (pss_one (ps_ret (pe_meth (pv 0) mVC.cl mVC.h mVC.ok r93' mVC.b .nil pass0 (pa_cons (pe_ix ix_tup (pv 1) pe_int (fun _ _ => rfl)) (pa_cons (pe_ix ix_list (pv 2) pe_int (fun _ _ => rfl)) pa_nil))))) pss_nil)
 (pss_one (ps_ret (pe_call VP.ok r5' rfl VP.g VP.k VP.b .nil pass0 (pa_cons (pv 1) (pa_cons (pv 2) pa_nil))))))))), ?_⟩
    have kn8 := cal.kn.le (Nat.le_add_right m (8 ^ R))
    obtain ⟨b, us, rfl, hb, lu⟩ := he.tup
    refine ⟨_, rfl, b, _, _, _, rfl, rfl, SqT.of hb, at0 _ _, ?_⟩
    clear hb lu us
    cases e with
    | x => exact ⟨_, rfl, rfl, _, rfl, ifT (decide_eq_true rfl) ⟨_, rfl, k H _ (KeepBut.refl _ _) kn8 hv⟩⟩
    | num q =>
      obtain ⟨b', u, e0, hb, hq⟩ := he
      cases e0
      exact ⟨_, rfl, rfl, _, rfl, ifF (str_ne (s := "number") (by decide +kernel)) ⟨_, rfl, rfl, _, rfl, ifT (decide_eq_true rfl) ⟨_, rfl, b, _, _, _, rfl, rfl, SqT.of hb, at1 _ _ _, k H u (KeepBut.refl _ _) kn8 hq⟩⟩⟩
    | call n e =>
      obtain ⟨b', u, e0, hb, hu⟩ := he
      cases e0
      obtain ⟨w0, r0, rfl, er, h0⟩ := all2_one al rfl
      cases er
      have wd : gOf bs n + e.wd (gOf bs) + c ≤ 3900 := wd
      obtain ⟨dx, ha⟩ := cal.ins
      refine ⟨_, rfl, rfl, _, rfl, ifF (str_ne (s := "call") (by decide +kernel)) ⟨_, rfl, rfl, _, rfl, ifF (str_ne (s := "call") (by decide +kernel)) ⟨_, rfl, rfl, _, rfl, ifT (decide_eq_true rfl) ?_⟩⟩⟩
      exact ⟨_, rfl, a, dx, _, rfl, ha, calcF_no (by decide +kernel) (by decide +kernel), _, rfl, b, _, _, _, rfl, rfl, SqT.of hb, at1 _ _ _, _, rfl, l, _, _, _, rfl, rfl, SqL.of hl, at0 _ _, a, od, kd, bs, n, w0, _, e.wd (gOf bs) + c, m, rfl, cal, of.1, hR n List.mem_cons_self, h0, ev_sz cal.wf of.2 sz, by omega, hm, k⟩
    | abs e =>
      have wd : e.wd (gOf bs) + c ≤ 3900 := wd
      refine ⟨_, rfl, rfl, _, rfl, ifF (str_ne (s := "abs") (by decide +kernel)) ⟨_, rfl, rfl, _, rfl, ifF (str_ne (s := "abs") (by decide +kernel)) ⟨_, rfl, rfl, _, rfl, ifF (str_ne (s := "abs") (by decide +kernel)) ?_⟩⟩⟩
      refine ⟨_, rfl, _, rfl, .abs e, _, l, ws, _, rfl, he, hl, al, rfl, fun r hr' => ?_, of.imp (e := .abs e) (fun _ _ => trivial) (fun _ h => h), by simp [Ex.kids], rfl, fun G y s hy => k G y (KeepBut.of s) (kn8.same s) hy⟩
      rw [List.mem_singleton.mp hr']
      exact (ev_sz (e := e) cal.wf of sz).le wd
    | mul q e =>
      have wd : 20 + e.wd (gOf bs) + c ≤ 3900 := wd
      refine ⟨_, rfl, rfl, _, rfl, ifF (str_ne (s := "multiple") (by decide +kernel)) ⟨_, rfl, rfl, _, rfl, ifF (str_ne (s := "multiple") (by decide +kernel)) ⟨_, rfl, rfl, _, rfl, ifF (str_ne (s := "multiple") (by decide +kernel)) ?_⟩⟩⟩
      refine ⟨_, rfl, _, rfl, .mul q e, _, l, ws, _, rfl, he, hl, al, rfl, fun r hr' => ?_, of.imp (e := .mul q e) (fun _ _ => trivial) (fun _ h => h), by simp [Ex.kids], rfl, fun G y s hy => k G y (KeepBut.of s) (kn8.same s) hy⟩
      rw [List.mem_singleton.mp hr']
      exact (ev_sz cal.wf of.2 sz).le (by omega)
    | bin b1 d r =>
      have wd : d.wd (gOf bs) + r.wd (gOf bs) + 1 + c ≤ 3900 := wd
      obtain ⟨n1, n2, n3, n4, n5⟩ := bw_cases b1
      refine ⟨_, rfl, rfl, _, rfl, ifF (str_ne n1) ⟨_, rfl, rfl, _, rfl, ifF (str_ne n2) ⟨_, rfl, rfl, _, rfl, ifF (str_ne n4) ?_⟩⟩⟩
      refine ⟨_, rfl, _, rfl, .bin b1 d r, _, l, ws, _, rfl, he, hl, al, rfl, fun r' hr' => ?_, of.imp (e := .bin b1 d r) (fun _ _ => trivial) (fun _ h => h), by simp [Ex.kids], rfl, fun G y s hy => k G y (KeepBut.of s) (kn8.same s) hy⟩
      rcases List.mem_cons.mp hr' with h | h
      · rw [h]; exact (ev_sz cal.wf of.1 sz).le (by omega)
      · rw [List.mem_singleton.mp h]; exact (ev_sz cal.wf of.2 sz).le (by omega)
end
end K18
namespace K18
open PySem PySem.Spec PyProof.Rows L2 Ew
section
variable {P : Program} {w : World} {K : PySem.W.Frag} {mg : Str → Option Value} {base : Heap}
theorem knAt_kp {H G : Hp} {kd : Addr} {bs : List (Str × Ex)} {m : Nat} (h : KnAt P w H kd bs m) (k : Kp H G) : KnAt P w G kd bs m := by
  obtain ⟨kvs, ⟨xs, h1, r⟩, l, q⟩ := h
  have t : Tk H G := fun c ys hc => k c _ hc (fun _ z => nomatch z) (fun _ z => nomatch z)
  exact ⟨kvs, ⟨xs, k _ _ h1 (fun _ z => nomatch z) (fun _ z => nomatch z), r.tk t⟩, l, fun n x u hn hv => (q n x u hn hv).tk t⟩
theorem all2_split {α : Type} {R : V → α → Prop} {ws : List V} {xs ys : List α} (a : All2 R ws (xs ++ ys)) : ∃ w1 w2, ws = w1 ++ w2 ∧ All2 R w1 xs ∧ All2 R w2 ys := by
  have l := a.len
  rw [List.length_append] at l
  refine ⟨ws.take xs.length, ws.drop xs.length, (List.take_append_drop _ _).symm, ⟨by rw [List.length_take]; omega, fun i v x h1 h2 => ?_⟩, ⟨by rw [List.length_drop]; omega, fun i v x h1 h2 => ?_⟩⟩
  · have hi := (List.getElem?_eq_some_iff.mp h2).1
    rw [List.getElem?_take_of_lt hi] at h1
    exact a.at_ i v x h1 (by rw [List.getElem?_append_left hi]; exact h2)
  · rw [List.getElem?_drop] at h1
    exact a.at_ _ v x h1 (by rw [List.getElem?_append_right (by omega), Nat.add_sub_cancel_left]; exact h2)
theorem pop_last {w1 w2 : List V} {j : Nat} (h : j < w2.length) : ∃ y, (w1 ++ w2.take (w2.length - j))[(w1 ++ w2.take (w2.length - j)).length - 1]? = some y ∧ (w1 ++ w2.take (w2.length - j)).dropLast = w1 ++ w2.take (w2.length - (j + 1)) ∧ w2.reverse.take j ++ [y] = w2.reverse.take (j + 1) := by
  obtain ⟨n, hn⟩ : ∃ n, w2.length - j = n + 1 := ⟨w2.length - j - 1, by omega⟩
  have hl : n < w2.length := by omega
  have e : w2.take (n + 1) = w2.take n ++ [w2[n]] := by rw [List.take_add_one, List.getElem?_eq_getElem hl]; rfl
  refine ⟨w2[n], ?_, ?_, ?_⟩
  · rw [hn, e, ← List.append_assoc, List.length_append]
    show (_ ++ [w2[n]])[(w1 ++ w2.take n).length + 1 - 1]? = _
    rw [Nat.add_sub_cancel, List.getElem?_append_right (Nat.le_refl _), Nat.sub_self]
    rfl
  · rw [hn, e, ← List.append_assoc, List.dropLast_concat, show w2.length - (j + 1) = n by omega]
  · have hj : j < w2.reverse.length := by rw [List.length_reverse]; exact h
    rw [List.take_add_one, List.getElem?_eq_getElem hj, List.getElem_reverse]
    congr 2
    show w2[n] = w2[w2.length - 1 - j]
    congr 1
    omega
def vaN : List Str := ["self", "order", "number", "pending", "part", "inner", "one"]
theorem scVA : FnScope vaN ["self", "order", "number"] (defScope sCalculator_value_at) := ⟨rfl, rfl, rfl, by decide +kernel, rfl, by decide +kernel, by decide +kernel⟩
theorem ok_vat {f fVO fPo C : Addr} {fd fdVO fdPo : FuncData} {R : Nat} (F : Fun K "value_at" "Calculator.value_at" sCalculator_value_at f fd) (T : TxtCa K C) (mVO : MDef P w K mg base CX0 (3 * R + 7) C "value_of" fVO fdVO ["self", "expression", "inner", "number"] (spVof P w C R)) (Po : Def P w K mg base CX0 1 "parts_of" fPo fdPo ["expression"] spParts) :
    FnOk P w K mg base CX0 (3 * R + 8) f fd ["self", "order", "number"] (spVal P w C R) := by
  refine F.ok scVA (fun vs H Q E h => ?_) (fun cdv A outer s H vs Q E hr h => ?_)
  · obtain ⟨a, od, kd, l, bs, e, x, us, v, c, m, rfl, _⟩ := h
    rfl
  · obtain ⟨a, od, kd, l, bs, e, x, us, v, c, m, rfl, cal, hl, al, hv, sz, of, wd, hR, hd4, hm, k⟩ := h
    have r92' : Room (3 * R + 7) _ := hr
    have r1' : Room 1 _ := hr.mono (by omega)
    refine ⟨_, (pss_cons (ps_set (i := 3) scVA.nd rfl (Or.inr rfl) (pe_lst pa_nil))
 (pss_cons (ps_for PassesOwn.never rfl (pi_list (pv 1)) (pg_name (i := 4) scVA.nd rfl (Or.inl rfl))
 (pss_cons (ps_setLc (i := 5) (own := [("one", 6)]) (g := (gName 6)) (tt := tYes) (te := tBM0 K "list" rPop (tVar 3)) rfl scVA.nd rfl rfl (sw_true rfl rfl rfl (by decide +kernel)) (pi_list (pe_call Po.ok r1' rfl Po.g Po.k Po.b .nil pass0 (pa_cons (pv 4) pa_nil))) (blkOk_by (N := vaN) (sc := defScope sCalculator_value_at) (by decide +kernel)) (fun _ _ _ _ _ => by exact (pg_name (i := 6) scVA.nd rfl (Or.inl rfl))) (fun _ _ _ _ _ => pts_nil) (fun _ _ _ _ _ => by exact (pe_bm0 PySem.F.plainAttrs_list PySem.F.slot_list_pop PySem.F.type_list_pop mt_pop (pv 3))))
 (pss_one (ps_expr (pe_bm PySem.F.plainAttrs_list PySem.F.slot_list_append PySem.F.type_list_append mt_append (pv 3) (pa_cons (pe_meth (pv 0) mVO.cl mVO.h mVO.ok r92' mVO.b .nil pass0 (pa_cons (pv 4) (pa_cons (pe_revL (pv 5)) (pa_cons (pv 2) pa_nil)))) pa_nil))))))
 (pss_one (ps_ret (pe_ix ix_list (pv 3) pe_int (fun _ _ => rfl)))))), ?_⟩
    have few := Ex.post_few hd4 (by decide)
    obtain ⟨kx, hkx⟩ := cal.kn.at_
    refine ⟨(by show 0 ≤ sizeLine; decide), fun D nD => ?_⟩
    have s0 := same_upd (o := .lst []) (Same.refl H) nD
    have nDk : kd ≠ D := ne_of_none hkx nD
    have nDl : l ≠ D := ne_of_none hl nD
    have hul := al.len
    refine ⟨_, rfl, l, rfl, ⟨_, SqL.of (s0 _ _ hl)⟩, for_list (K := K) (a := l) (xs := us) (fun i σ G => ∃ o4 o5 ws, σ = [some (.ref a), some (.ref l), some x, some (.ref D), o4, o5, none] ∧ KeepBut kd H G ∧ KnAt P w G kd bs (m + i * 8 ^ R) ∧ G D = some (.lst ws) ∧ All2 (QAt G) ws (((e.post.take i).foldl stX []).map fun k => k.ev (fnOf bs) v))
      ⟨none, none, [], rfl, KeepBut.of s0, (cal.kn.same s0).le (Nat.le_add_right _ _), upd_same, All2.nil⟩ (fun i σ G _ ⟨o4, o5, ws, _, kb, _⟩ => SqL.of (cal.kn.lst kb hl)) ?_ ?_⟩
    · rintro i x1 σ G hx ⟨o4, o5, ws, rfl, kb, kn, hD, aw⟩
      have hi : i < e.post.length := by rw [← hul]; exact (List.getElem?_eq_some_iff.mp hx).1
      obtain ⟨p, hp⟩ : ∃ p, e.post[i]? = some p := ⟨_, List.getElem?_eq_getElem hi⟩
      have hpm := List.mem_of_getElem? hp
      have po := part_of (g := gOf bs) (N := namesOf bs) hpm
      have split : e.post = e.post.take i ++ p :: e.post.drop (i + 1) := by
        have e2 := List.take_append_drop i e.post
        rw [List.drop_eq_getElem_cons hi] at e2
        rw [← (List.getElem?_eq_some_iff.mp hp).2]
        exact e2.symm
      obtain ⟨s', hs'⟩ := fold_at e [] split
      have nxt : (e.post.take (i + 1)).foldl stX [] = s' ++ [p] := by
        rw [List.take_add_one, hp, Option.toList_some, List.foldl_append, hs']
        exact stX_kids s' p
      have tk := cal.kn.tk kb
      have hxp : ExAt G p x1 := ExAt.tk tk (al.at_ i x1 p hx hp)
      rw [hs', List.map_append] at aw
      obtain ⟨w1, w2, rfl, a1, a2⟩ := all2_split aw
      refine ⟨_, rfl, p, x1, rfl, hxp, fun G2 pl pus s2 npl hpl alp => ⟨pl, rfl, ⟨_, SqL.of hpl⟩, fun D2 hD2 => ?_⟩⟩
      have kb2 := kb.trans (KeepBut.of s2)
      have nD2k : D2 ≠ kd := fun z => by
        have h := (kn.same s2).at_
        obtain ⟨_, h⟩ := h
        rw [← z, hD2] at h
        cases h
      have hHD2 := kb2.free nD2k hD2
      have nplD2 : pl ≠ D2 := ne_of_none hpl hD2
      have hDG2 := s2 _ _ hD
      have nDD2 : D ≠ D2 := ne_of_none hDG2 hD2
      have nplD : pl ≠ D := (ne_of_none hD npl).symm
      have lw := a2.len
      rw [List.length_map] at lw
      have s3 := same_upd (o := .lst []) (Same.refl G2) hD2
      have s23 := s2.trans s3
      have l12 : (w1 ++ w2).length ≤ 8192 + 8192 := by
        rw [List.length_append, lw, a1.len, List.length_map]
        have h1 : s'.length ≤ e.post.length := by
          have h2 : ∀ (l s : List Ex), (l.foldl stX s).length ≤ s.length + l.length := by
            intro l
            induction l with
            | nil => intro s; exact Nat.le_refl _
            | cons q t ih =>
              intro s
              have h3 := ih (stX s q)
              have h4 : (stX s q).length ≤ s.length + 1 := by
                unfold stX
                rw [List.length_append, List.length_take]
                show _ + 1 ≤ _
                omega
              show (t.foldl stX (stX s q)).length ≤ s.length + (t.length + 1)
              omega
          have h5 := h2 (e.post.take i) []
          rw [hs', List.length_append, List.length_take, List.length_nil] at h5
          omega
        have h2 := p.kids_len
        omega
      refine lc_list (K := K) (a := pl) (xs := pus) (fun j G3 => KeepBut kd H G3 ∧ KnAt P w G3 kd bs (m + i * 8 ^ R) ∧ G3 pl = some (.lst pus) ∧ G3 D = some (.lst (w1 ++ w2.take (w2.length - j))) ∧ G3 D2 = some (.lst (w2.reverse.take j)) ∧ Tk G2 G3)
        ⟨kb2.trans (KeepBut.of s3), kn.same s23, s3 _ _ hpl, by rw [s3 _ _ hDG2, Nat.sub_zero, List.take_length], upd_same, Tk.of s3⟩ (fun j G3 _ h => SqL.of h.2.2.1) ?_ ?_
      · rintro j y G3 hy ⟨kb3, kn3, hpl3, hD3, hD23, tk3⟩
        have hj : j < w2.length := by
          rw [lw, ← alp.len]
          exact (List.getElem?_eq_some_iff.mp hy).1
        obtain ⟨y', e1, e2, e3⟩ := pop_last (w1 := w1) hj
        refine ⟨rfl, tyes ⟨_, rfl, .inl ⟨rfl, _, SqL.of hD3⟩, D, _, y', rfl, rfl, hD3, e1, ?_⟩⟩
        have h4 : upd G3 D (.lst (w1 ++ w2.take (w2.length - j)).dropLast) D2 = some (.lst (w2.reverse.take j)) := by rw [upd_ne nDD2.symm]; exact hD23
        have k4 : Kp G3 (upd G3 D (.lst (w1 ++ w2.take (w2.length - j)).dropLast)) := Kp.put hD3
        have kb4 := kbN (o := .lst (w1 ++ w2.take (w2.length - j)).dropLast) kb3 nD
        have hD4 : upd G3 D (.lst (w1 ++ w2.take (w2.length - j)).dropLast) D = some (.lst (w1 ++ w2.take (w2.length - (j + 1)))) := by rw [upd_same, e2]
        have hpl4 : upd G3 D (.lst (w1 ++ w2.take (w2.length - j)).dropLast) pl = some (.lst pus) := by rw [upd_ne nplD]; exact hpl3
        generalize upd G3 D (.lst (w1 ++ w2.take (w2.length - j)).dropLast) = G4 at h4 k4 kb4 hD4 hpl4
        have k5 : Kp G4 (upd G4 D2 (.lst (w2.reverse.take j ++ [y']))) := Kp.put h4
        have k45 := k4.trans k5
        refine ⟨_, h4, by rw [List.length_take, sizeLine_eq]; rw [List.length_append] at l12; rw [List.length_reverse]; omega, kbN kb4 hHD2, (knAt_kp kn3 k45), by rw [upd_ne nplD2]; exact hpl4, by rw [upd_ne nDD2]; exact hD4, by rw [upd_same, e3], fun c ys hc => k45 c _ (tk3 c ys hc) (fun _ z => nomatch z) (fun _ z => nomatch z)⟩
      · rintro G3 ⟨kb3, kn3, hpl3, hD3, hD23, tk3⟩
        rw [alp.len, ← lw, Nat.sub_self, List.take_zero, List.append_nil] at hD3
        rw [alp.len, ← lw, List.take_of_length_le (by rw [List.length_reverse]; exact Nat.le_refl _)] at hD23
        have tG3 : Tk G G3 := (Tk.of s2).trans tk3
        have tH3 := tk.trans tG3
        have cal3 := cal.keep kb3 kn3
        obtain ⟨dx, ha⟩ := cal3.ins
        refine ⟨_, rfl, .inl ⟨rfl, _, SqL.of hD3⟩, _, rfl, a, dx, _, rfl, ha, calcF_no (by decide +kernel) (by decide +kernel), _, rfl, _, rfl, D2, _, rfl, SqL.of hD23, fun D3 nD3 => ?_⟩
        have s4 := same_upd (o := .lst w2.reverse.reverse) (Same.refl G3) nD3
        have h4 : upd G3 D3 (.lst w2.reverse.reverse) D3 = some (.lst w2) := by rw [upd_same, List.reverse_reverse]
        generalize upd G3 D3 (.lst w2.reverse.reverse) = G4 at s4 h4
        have t4 := tG3.trans (Tk.of s4)
        have le8 : i * 8 ^ R + 8 ^ R ≤ e.post.length * 8 ^ R := by
          rw [← Nat.succ_mul]
          exact Nat.mul_le_mul_right _ hi
        refine ⟨_, rfl, a, od, kd, D3, bs, p, x1, x, w2, v, c, m + i * 8 ^ R, rfl, cal3.same s4, ExAt.tk t4 hxp, h4, a2.imp fun _ _ z => z.tk t4, hv.tk (tk.trans t4), sz, po.of of, Nat.le_trans (Nat.add_le_add_right po.wide c) wd, fun q hq => hR q (po.calls q hq), by omega, fun G5 z kb5 kn5 hz => ?_⟩
        have kn4 := kn3.same s4
        have hD5 : G5 D = some (.lst w1) := kn4.lst kb5 (s4 _ _ hD3)
        have t45 := kn4.tk kb5
        have k6 : Kp G5 (upd G5 D (.lst (w1 ++ [z]))) := Kp.put hD5
        have l1 : w1.length ≤ 16384 := by rw [List.length_append] at l12; omega
        refine ⟨D, _, _, rfl, rfl, hD5, by rw [sizeLine_eq]; omega, ?_⟩
        refine ⟨_, _, w1 ++ [z], rfl, kbN ((kb3.trans (KeepBut.of s4)).trans kb5) nD, ?_, upd_same, ?_⟩
        · have h := knAt_kp kn5 k6
          rw [Nat.succ_mul, ← Nat.add_assoc]
          exact h
        · rw [nxt, List.map_append]
          have t46 : Tk G5 (upd G5 D (.lst (w1 ++ [z]))) := fun c ys hc => k6 c _ hc (fun _ z => nomatch z) (fun _ z => nomatch z)
          exact (a1.imp fun _ _ q => (q.tk (t4.trans t45)).tk t46).snoc (hz.tk t46)
    · rintro σ G ⟨o4, o5, ws, rfl, kb, kn, hD, aw⟩
      rw [hul, List.take_length, fold_post] at aw
      obtain ⟨y, r, rfl, er, hy⟩ := all2_one aw rfl
      cases er
      rw [hul] at kn
      exact ⟨_, rfl, D, _, _, _, rfl, rfl, SqL.of hD, at0 _ _, k G y kb kn hy⟩
end
end K18
namespace K18
open PySem PySem.Spec PyProof.Rows L2 Ew
section
variable {P : Program} {w : World} {K : PySem.W.Frag} {mg : Str → Option Value} {base : Heap}
theorem ok_vats {fVA fVO fVC fVP fPo C : Addr} {fdVA fdVO fdVC fdVP fdPo : FuncData} (FA : Fun K "value_at" "Calculator.value_at" sCalculator_value_at fVA fdVA) (FO : Fun K "value_of" "Calculator.value_of" sCalculator_value_of fVO fdVO) (FC : Fun K "value_of_call" "Calculator.value_of_call" sCalculator_value_of_call fVC fdVC) (T : TxtCa K C)
    (hA : Meth K C "value_at" fVA) (hO : Meth K C "value_of" fVO) (hC : Meth K C "value_of_call" fVC) (bA : Binds K fdVA ["self", "order", "number"] []) (bO : Binds K fdVO ["self", "expression", "inner", "number"] []) (bC : Binds K fdVC ["self", "name", "number"] [])
    (VP : Def P w K mg base CX0 5 "value_of_parts" fVP fdVP ["expression", "inner"] spVP) (Po : Def P w K mg base CX0 1 "parts_of" fPo fdPo ["expression"] spParts) :
    ∀ R, FnOk P w K mg base CX0 (3 * R + 8) fVA fdVA ["self", "order", "number"] (spVal P w C R)
  | 0 => by
    have mVC : MDef P w K mg base CX0 (3 * 0 + 6) C "value_of_call" fVC fdVC ["self", "name", "number"] (spVcall P w C 0) := ⟨fn_never fun vs H Q E h => by
      obtain ⟨a, od, kd, bs, n, y, q, c, m, _, _, hn, hr, _⟩ := h
      have := rk_pos hn
      omega, hC, T.cl, bC⟩
    exact ok_vat FA T ⟨ok_vof FO T mVC VP, hO, T.cl, bO⟩ Po
  | R + 1 => by
    have mVA : MDef P w K mg base CX0 (3 * R + 8) C "value_at" fVA fdVA ["self", "order", "number"] (spVal P w C R) := ⟨ok_vats FA FO FC T hA hO hC bA bO bC VP Po R, hA, T.cl, bA⟩
    have mVC : MDef P w K mg base CX0 (3 * (R + 1) + 6) C "value_of_call" fVC fdVC ["self", "name", "number"] (spVcall P w C (R + 1)) := ⟨ok_vcall FC T mVA, hC, T.cl, bC⟩
    exact ok_vat FA T ⟨ok_vof FO T mVC VP, hO, T.cl, bO⟩ Po
end
end K18
namespace K18
open PySem PySem.Spec PyProof.Rows L2 Ew
section
variable {P : Program} {w : World} {K : PySem.W.Frag} {mg : Str → Option Value} {base : Heap}
def spLowR : Sp := fun vs H Q _ => ∃ a b : Int, vs = [.int a, .int b] ∧ b ≠ 0 ∧ b.natAbs < 2 ^ 8000 ∧ ∀ G p, Same H G → H p = none → G p = some (.tup (qV (Rat.divInt a b))) → Q (.ref p) G
/-! ## _law_any_fraction -/
def spAnyF : Sp := fun vs H Q _ => ∃ (p q : Addr) (ns : List Int) (i x sd m : Int) (s : Nat), vs = [.ref p, .int m] ∧ RngAt H p q ns i x sd ∧ 0 < m ∧ m ≤ 1000000 ∧ m.natAbs < 2 ^ s ∧
  ∀ (G : Hp) (r : Addr) (y : Rat) (i' x' sd' : Int), KeepBut p H G → RngAt G p q ns i' x' sd' → H r = none → G r = some (.tup (qV y)) → Sz s y → Q (.ref r) G
theorem scAnyF : FnScope ["_law_rng", "_law_most"] ["_law_rng", "_law_most"] (defScope sLawAnyFraction) := ⟨rfl, rfl, rfl, by decide +kernel, rfl, by decide +kernel, by decide +kernel⟩
theorem ok_anyF {f fD fL : Addr} {fd fdD fdL : FuncData} (F : Fun K "_law_any_fraction" "_law_any_fraction" sLawAnyFraction f fd) (D : Def P w K mg base CX0 1 "_law_draw" fD fdD ["_law_rng", "_law_many"] spDraw) (L : Def P w K mg base CX0 1 "_law_lowest" fL fdL ["_law_above", "_law_below"] spLowR) :
    FnOk P w K mg base CX0 2 f fd ["_law_rng", "_law_most"] spAnyF := by
  refine F.ok scAnyF (fun vs H Q E h => ?_) (fun cdv A outer s H vs Q E hr h => ?_)
  · obtain ⟨p, q, ns, i, x, sd, m, s, rfl, _⟩ := h
    rfl
  · obtain ⟨p, q, ns, i, x, sd, m, sz, rfl, R, m0, m1, ms, k⟩ := h
    refine ⟨_, (pss_one (ps_ret (pe_call L.ok hr rfl L.g L.k L.b .nil pass0 (pa_cons (pe_op op_sub (pe_call D.ok hr rfl D.g D.k D.b .nil pass0 (pa_cons (pv 0) (pa_cons (pe_op op_add (pe_op op_mul pe_int (pv 1)) pe_int) pa_nil))) (pv 1)) (pa_cons (pe_op op_add pe_int (pe_call D.ok hr rfl D.g D.k D.b .nil pass0 (pa_cons (pv 0) (pa_cons (pv 1) pa_nil)))) pa_nil))))), ?_⟩
    have small : ∀ z : Int, 0 ≤ z → z ≤ 2000001 → z.natAbs < 2 ^ 8000 := fun z h0 h1 => big_lt (n := 21) (Nat.lt_of_le_of_lt (by omega : z.natAbs ≤ 2000001) (by decide)) (by decide)
    refine ⟨_, rfl, _, rfl, 2, m, rfl, rfl, mul_small (by decide) (by decide), _, _, rfl, rfl, p, q, ns, i, x, sd, 2 * m + 1, rfl, R, by omega, small _ (by omega) (by omega), fun x1 i1 v1 sd1 x10 x11 ok1 => ?_⟩
    have R1 := R.next ok1
    have K1 : KeepBut p H _ := KeepBut.put (o := .lst (rngL q i1 v1 sd1))
    generalize upd H p (.lst (rngL q i1 v1 sd1)) = G1 at R1 K1
    refine ⟨_, rfl, _, _, rfl, rfl, _, rfl, _, rfl, p, q, ns, i1, v1, sd1, m, rfl, R1, m0, small _ (by omega) (by omega), fun x2 i2 v2 sd2 x20 x21 ok2 => ?_⟩
    have R2 := R1.next ok2
    have K2 : KeepBut p H _ := K1.trans (KeepBut.put (o := .lst (rngL q i2 v2 sd2)))
    generalize upd G1 p (.lst (rngL q i2 v2 sd2)) = G2 at R2 K2
    refine ⟨_, _, rfl, rfl, x1 - m, 1 + x2, rfl, by omega, small _ (by omega) (by omega), fun G3 r s3 n3 h3 => ?_⟩
    exact k G3 r _ i2 v2 sd2 (K2.trans (KeepBut.of s3)) (R2.same s3) (K2.free (R2.free n3) n3) h3 (sz_div (by omega) (by omega) (by omega))
end
end K18
namespace K18
open PySem PySem.Spec PyProof.Rows L2 Ew
section
variable {P : Program} {w : World} {K : PySem.W.Frag} {mg : Str → Option Value} {base : Heap}
/-! ## _law_definitions -/
structure TxtDf (mg : Str → Option Value) : Prop where
  range : mg "range" = none
  len : mg "len" = none
def DefAt (G : Hp) (u : V) (x : Str × Ex) : Prop := ∃ a ue, u = .ref a ∧ G a = some (.tup [.str x.1, ue]) ∧ ExAt G x.2 ue
theorem DefAt.tk {G G' : Hp} {u : V} {x : Str × Ex} (h : DefAt G u x) (k : Tk G G') : DefAt G' u x := by
  obtain ⟨a, ue, h1, h2, h3⟩ := h
  exact ⟨a, ue, h1, k _ _ h2, ExAt.tk k h3⟩
theorem wf_of : ∀ {bs : List (Str × Ex)} {ys : List Str}, bs.map Prod.fst = ys → ys.Nodup → (∀ (k : Nat) (n : Str) (e : Ew.Ex), bs[k]? = some (n, e) → e.dep ≤ 3 ∧ e.Of (· ∈ ys.drop (k + 1)) SixFr) → Wf bs
  | [], ys, _, _, _ => trivial
  | (n, e) :: bs, ys, h, nd, h2 => by
    subst h
    rw [List.map_cons] at nd
    obtain ⟨n1, n2⟩ := List.nodup_cons.mp nd
    have h0 := h2 0 n e rfl
    exact ⟨h0.1, h0.2, n1, wf_of rfl n2 fun k m d hk => h2 (k + 1) m d hk⟩
def spDefs : Sp := fun vs H Q _ => ∃ (p q l : Addr) (ns : List Int) (i v sd : Int) (ys : List Str), vs = [.ref p, .ref l] ∧ RngAt H p q ns i v sd ∧ H l = some (.lst (ys.map V.str)) ∧ l ≠ p ∧ (∀ y ∈ ys, NmOk y) ∧ ys.Nodup ∧ ys.length ≤ 24 ∧
  ∀ (G : Hp) (d : Addr) (us : List V) (bs : List (Str × Ex)) (i' v' sd' : Int), KeepBut p H G → RngAt G p q ns i' v' sd' → H d = none → d ≠ p → G d = some (.lst us) → All2 (DefAt G) us bs → Wf bs → bs.map Prod.fst = ys → Q (.ref d) G
def dfN : List Str := ["_law_rng", "_law_names_here", "_law_result", "_law_k"]
theorem scDf : FnScope dfN ["_law_rng", "_law_names_here"] (defScope sLawDefinitions) := ⟨rfl, rfl, rfl, by decide +kernel, rfl, by decide +kernel, by decide +kernel⟩
theorem ok_defs {f fEx : Addr} {fd fdEx : FuncData} (F : Fun K "_law_definitions" "_law_definitions" sLawDefinitions f fd) (T : TxtDf mg) (Ex : Def P w K mg base CX0 9 "_law_expression" fEx fdEx ["_law_rng", "_law_names_here", "_law_depth"] (spExpr 6)) :
    FnOk P w K mg base CX0 10 f fd ["_law_rng", "_law_names_here"] spDefs := by
  refine F.ok scDf (fun vs H Q E h => ?_) (fun cdv A outer s H vs Q E hr h => ?_)
  · obtain ⟨p, q, l, ns, i, v, sd, ys, rfl, _⟩ := h
    rfl
  · obtain ⟨p, q, l, ns, i, v, sd, ys, rfl, R, hl, nlp, nm, nd, yl, k⟩ := h
    have r9' : Room 9 _ := hr
    refine ⟨_, (pss_cons (ps_set (i := 2) scDf.nd rfl (Or.inl rfl) (pe_lst pa_nil))
 (pss_cons (ps_for PassesOwn.never rfl (pi_range1 rfl T.range (pa_cons (pe_callB call_len_seq (by rfl) T.len PySem.boot_len (pa_cons (pv 1) pa_nil)) pa_nil)) (pg_name (i := 3) scDf.nd rfl (Or.inl rfl))
 (pss_one (ps_expr (pe_bm PySem.F.plainAttrs_list PySem.F.slot_list_append PySem.F.type_list_append mt_append (pv 2) (pa_cons (pe_tup (pa_cons (pe_ix ix_list (pv 1) (pv 3) (fun _ _ => rfl)) (pa_cons (pe_call Ex.ok r9' rfl Ex.g Ex.k Ex.b .nil pass0 (pa_cons (pv 0) (pa_cons (pe_slice sl_list (pv 1) (po_some (pe_op op_add (pv 3) pe_int)) po_none) (pa_cons pe_int pa_nil)))) pa_nil))) pa_nil)))))
 (pss_one (ps_ret (pv 2))))), ?_⟩
    refine ⟨(by show 0 ≤ sizeLine; decide), fun D nD => ?_⟩
    have nDp := R.free nD
    have nDq := R.freeq nD
    have s0 := same_upd (o := .lst []) (Same.refl H) nD
    refine ⟨_, rfl, l, _, rfl, .inl (SqL.of (s0 _ _ hl)), _, rfl, by omega, by rw [List.length_map]; omega, for_range (lo := 0) (n := (((ys.map V.str).length : Nat) : Int).toNat) (fun j σ G => ∃ (o3 : Option V) (us : List V) (bs : List (Str × Ew.Ex)) (i v sd : Int), σ = [some (.ref p), some (.ref l), some (.ref D), o3] ∧ KeepBut p H G ∧ RngAt G p q ns i v sd ∧ G D = some (.lst us) ∧ All2 (DefAt G) us bs ∧ bs.map Prod.fst = ys.take j ∧ ∀ (k : Nat) (n : Str) (e : Ew.Ex), bs[k]? = some (n, e) → e.dep ≤ 3 ∧ e.Of (· ∈ ys.drop (k + 1)) SixFr)
      ⟨none, [], [], i, v, sd, rfl, KeepBut.of s0, R.same s0, upd_same, All2.nil, rfl, fun k n e h => by simp at h⟩ ?_ ?_⟩
    · rintro j σ G hj ⟨o3, us, bs, i, v, sd, rfl, K1, R1, hD, al, bn, bo⟩
      have hj' : j < ys.length := by rw [List.length_map] at hj; omega
      have hl1 := K1 _ _ hl nlp
      have ul := al.len
      have bl : bs.length = j := by
        have := congrArg List.length bn
        rw [List.length_map, List.length_take] at this
        omega
      have aj : atI (ys.map V.str) (0 + (j : Int)) = some (.str ys[j]) := by
        rw [Int.zero_add]
        exact atI_nat (by rw [List.getElem?_map, List.getElem?_eq_getElem hj']; rfl)
      refine ⟨_, rfl, .inl ⟨rfl, _, SqL.of hD⟩, _, rfl, _, rfl, l, _, _, _, rfl, rfl, SqL.of hl1, aj, _, rfl, _, rfl, _, rfl, _, _, rfl, rfl, _, rfl, l, _, rfl, SqL.of hl1, fun l2 hl2 => ?_⟩
      have cu : cutV (ys.map V.str) (some (0 + (j : Int) + 1)) none = (ys.drop (j + 1)).map V.str := by
        rw [Int.zero_add, show (j : Int) + 1 = ((j + 1 : Nat) : Int) by omega, cut_from, List.map_drop]
      rw [cu]
      have s1 := same_upd (o := .lst ((ys.drop (j + 1)).map V.str)) (Same.refl G) hl2
      have R2 := R1.same s1
      refine ⟨p, q, l2, ns, i, v, sd, 3, ys.drop (j + 1), rfl, R2, upd_same, R1.free hl2, fun y hy => nm y (List.mem_of_mem_drop hy), by rw [List.length_drop]; omega, by decide, by decide, fun G3 u e i3 v3 sd3 K3 R3 hu hde hof => ⟨(by show 2 ≤ sizeLine; decide), fun t ht => ?_⟩⟩
      have K13 := (K1.trans (KeepBut.of s1)).trans K3
      have hD3 : G3 D = some (.lst us) := K3 _ _ (s1 _ _ hD) nDp
      have s4 := same_upd (o := .tup [.str ys[j], u]) (Same.refl G3) ht
      have hD4 := s4 _ _ hD3
      have h4 : upd G3 t (.tup [.str ys[j], u]) t = some (.tup [.str ys[j], u]) := upd_same
      have R4 := R3.same s4
      generalize upd G3 t (.tup [.str ys[j], u]) = G4 at s4 hD4 h4 R4
      have kp3 : Tk G G3 := fun c xs hc => by
        refine (KeepBut.of s1).trans K3 c _ hc (fun z => ?_)
        have := R1.at_p
        rw [← z, hc] at this
        cases this
      have k5 : Kp G4 (upd G4 D (.lst (us ++ [.ref t]))) := Kp.put hD4
      have t5 : Tk G4 (upd G4 D (.lst (us ++ [.ref t]))) := fun c ys hc => k5 c _ hc (fun _ z => nomatch z) (fun _ z => nomatch z)
      refine ⟨D, _, _, rfl, rfl, hD4, by rw [ul, bl, sizeLine_eq]; omega, ?_⟩
      refine ⟨_, us ++ [.ref t], bs ++ [(ys[j], e)], i3, v3, sd3, rfl, kbN (K13.trans (KeepBut.of s4)) nD, R4.off nDp nDq, upd_same, ?_, ?_, ?_⟩
      · exact (al.imp fun _ _ z => z.tk ((kp3.trans (Tk.of s4)).trans t5)).snoc ⟨t, u, rfl, t5 _ _ h4, ExAt.tk ((Tk.of s4).trans t5) hu⟩
      · rw [List.map_append, bn, List.take_add_one, List.getElem?_eq_getElem hj']
        rfl
      · intro k' n' e' hk'
        by_cases c : k' < bs.length
        · rw [List.getElem?_append_left c] at hk'
          exact bo k' n' e' hk'
        · rw [List.getElem?_append_right (by omega)] at hk'
          have e0 : k' - bs.length = 0 := by
            have := (List.getElem?_eq_some_iff.mp hk').1
            simp at this
            omega
          rw [e0] at hk'
          cases hk'
          have e1 : k' = j := by omega
          subst e1
          exact ⟨by omega, hof⟩
    · rintro σ G ⟨o3, us, bs, i, v, sd, rfl, K1, R1, hD, al, bn, bo⟩
      have e : (((ys.map V.str).length : Nat) : Int).toNat = ys.length := by rw [List.length_map]; omega
      rw [e, List.take_length] at bn
      exact ⟨_, rfl, k G D us bs i v sd K1 R1 nD nDp hD al (wf_of bn nd bo) bn⟩
end
end K18
namespace K18
open PySem PySem.Spec PyProof.Rows L2 Ew
section
variable {P : Program} {w : World} {K : PySem.W.Frag} {mg : Str → Option Value} {base : Heap}
/-! ## follow_names -/
theorem ps_false {X : Cx} {st : Stmt} : PS X st (fun _ _ _ => False) := ⟨fun _ _ _ _ _ _ h => h.elim⟩
def spFN (R : Nat) : Sp := fun vs H Q _ => ∃ (ln t lp fd : Addr) (bs : List (Str × Ex)) (xs ps : List Str) (fk : List (Key × V)), vs = [.ref ln, .ref t, .ref lp, .ref fd] ∧ Wf bs ∧ TabAt H t bs ∧ t ≠ fd ∧ H ln = some (.lst (xs.map V.str)) ∧ H lp = some (.lst (ps.map V.str)) ∧ H fd = some (.dK fk) ∧ (∀ x ∈ xs, namesOf bs x ∧ rk bs x ≤ R) ∧ (∀ y ∈ ps, ∀ x ∈ xs, rk bs x < rk bs y) ∧ xs.length ≤ 8191 ∧ ps.length ≤ 1000 - R ∧ R ≤ 100 ∧ fk.length + xs.length * 8 ^ R ≤ sizeLine ∧
  ∀ G fk', KeepBut fd H G → G fd = some (.dK fk') → fk'.length ≤ fk.length + xs.length * 8 ^ R → Q .non G
def fnN : List Str := ["names", "bodies", "path", "followed", "name"]
theorem scFN : FnScope fnN ["names", "bodies", "path", "followed"] (defScope sFollowNames) := ⟨rfl, rfl, rfl, by decide +kernel, rfl, by decide +kernel, by decide +kernel⟩
theorem ok_follow {f fCn : Addr} {fd0 fdCn : FuncData} (F : Fun K "follow_names" "follow_names" sFollowNames f fd0) (b : Binds K fd0 ["names", "bodies", "path", "followed"] []) (T : TxtRec K mg "follow_names" f) (Cn : Def P w K mg base CX0 4 "called_names" fCn fdCn ["expression"] (spCalled 3)) :
    ∀ R, FnOk P w K mg base CX0 (R + 6) f fd0 ["names", "bodies", "path", "followed"] (spFN R) := by
  intro R
  have IH' : ∃ IHs : Sp, FnOk P w K mg base CX0 (R + 5) f fd0 ["names", "bodies", "path", "followed"] IHs ∧ (1 ≤ R → IHs = spFN (R - 1)) := by
    cases R with
    | zero => exact ⟨fun _ _ _ _ => False, fn_never fun _ _ _ _ h => h, fun h => absurd h (by decide)⟩
    | succ R => exact ⟨_, ok_follow F b T Cn R, fun _ => rfl⟩
  obtain ⟨IHs, IH, eIH⟩ := IH'
  refine F.ok scFN (fun vs H Q E h => ?_) (fun cdv A outer s H vs Q E hr h => ?_)
  · obtain ⟨ln, t, lp, fd, bs, xs, ps, fk, rfl, _⟩ := h
    rfl
  · obtain ⟨ln, t, lp, fd, bs, xs, ps, fk, rfl, wf, ht, ntf, hln, hlp, hfd, hxs, hps, xl, pl, R9, hm, k⟩ := h
    have hrI := hr
    have r4' : Room 4 _ := hr.mono (by omega)
    refine ⟨_, (pss_one (ps_for PassesOwn.never rfl (pi_list (pv 0)) (pg_name (i := 4) scFN.nd rfl (Or.inl rfl))
 (pss_cons (ps_if (pt_cmpR op_in_seq (pv 4) (pv 2) (by with_unfolding_all rfl)) (pss_one ps_false) pss_nil)
 (pss_cons (ps_if (pt_cmp (pc_dnotin (hu_of hr) (pv 4) (pv 1))) (pss_one ps_false) pss_nil)
 (pss_one (ps_if (pt_cmp (pc_dnotin (hu_of hr) (pv 4) (pv 3))) (pss_cons (ps_expr (pe_call IH hrI rfl T.gS T.kS b .nil pass0 (pa_cons (pe_call Cn.ok r4' rfl Cn.g Cn.k Cn.b .nil pass0 (pa_cons (pe_dget (hu_of hr) (pv 1) (pv 4) (fun _ _ => rfl)) pa_nil)) (pa_cons (pv 1) (pa_cons (pe_lst (StX.pa_star (pv 2) (pa_cons (pv 4) pa_nil))) (pa_cons (pv 3) pa_nil))))))
 (pss_one (ps_dput (hu_of hr) (pv 3) (pv 4) pe_bl rfl))) pss_nil)))))), ?_⟩
    obtain ⟨kvs, hk, hks⟩ := ht
    refine ⟨_, rfl, ln, rfl, ⟨_, SqL.of hln⟩, for_list (K := K) (a := ln) (xs := xs.map V.str) (fun j σ G => ∃ (o4 : Option V) (fj : List (Key × V)), σ = [some (.ref ln), some (.ref t), some (.ref lp), some (.ref fd), o4] ∧ KeepBut fd H G ∧ G fd = some (.dK fj) ∧ fj.length ≤ fk.length + j * 8 ^ R)
      ⟨none, fk, rfl, KeepBut.refl _ _, hfd, Nat.le_add_right _ _⟩ (fun j σ G _ ⟨o4, fj, _, kb, _⟩ => SqL.of (kb _ _ hln (ne_of hln hfd (fun z => nomatch z)))) ?_ ?_⟩
    · rintro j x0 σ G hx ⟨o4, fj, rfl, kb, hf, fl⟩
      obtain ⟨x, hxm, rfl⟩ := map_at hx
      have hj := (List.getElem?_eq_some_iff.mp hxm).1
      obtain ⟨hn, hrk⟩ := hxs x (List.mem_of_getElem? hxm)
      have r1 := rk_pos hn
      obtain ⟨d, hbd⟩ := has_body hn
      have bd := body_of wf hbd
      obtain ⟨ub, hub, hxb⟩ := hks x d hbd
      have tk : Tk H G := fun c ys hc => kb c _ hc (ne_of hc hfd (fun z => nomatch z))
      have hk1 := kb _ _ hk ntf
      have hlp1 := kb _ _ hlp (ne_of hlp hfd (fun z => nomatch z))
      have xm := List.mem_of_getElem? hxm
      have xps : x ∉ ps := fun h => by have := hps x h x xm; omega
      have inp : inV (.str x) (ps.map V.str) = false := (strIn x ps).trans (decide_eq_false xps)
      have dg : DGet G t (V.str x) (some ub) := by
        have z := DGet.k (k := Sum.inr x) hk1
        rw [hub] at z
        exact z
      have dgf : DGet G fd (V.str x) (valV fj (Sum.inr x)) := DGet.k (k := Sum.inr x) hf
      have p8 : 8 ^ R = 8 * 8 ^ (R - 1) := by
        obtain ⟨r, rfl⟩ : ∃ r, R = r + 1 := ⟨R - 1, by omega⟩
        rw [Nat.add_sub_cancel, Nat.pow_succ, Nat.mul_comm]
      have p1 : 1 ≤ 8 ^ (R - 1) := Nat.one_le_pow _ _ (by decide)
      have le8 : j * 8 ^ R + 8 ^ R ≤ xs.length * 8 ^ R := by
        rw [← Nat.succ_mul]
        exact Nat.mul_le_mul_right _ hj
      have nx : (j + 1) * 8 ^ R = j * 8 ^ R + 8 ^ R := Nat.succ_mul _ _
      refine ⟨_, rfl, _, rfl, lp, _, rfl, .inl (SqL.of hlp1), rfl, flatStrs _, _, rfl, ifF inp ?_⟩
      refine ⟨_, rfl, _, rfl, t, _, rfl, dg, _, rfl, ifF rfl ?_⟩
      refine ⟨_, rfl, _, rfl, fd, _, rfl, dgf, _, rfl, ?_⟩
      cases hv : valV fj (Sum.inr x) with
      | some u => exact ifF rfl ⟨_, fj, rfl, kb, hf, by rw [nx]; omega⟩
      | none =>
        refine ifT rfl ?_
        refine ⟨_, rfl, _, rfl, t, ub, rfl, dg, d, ub, rfl, ExAt.tk tk hxb, bd.dep, fun G2 cl s2 ncl hcl => ?_⟩
        have hf2 := s2 _ _ hf
        refine ⟨_, rfl, _, rfl, lp, _, rfl, .inr (SqL.of (s2 _ _ hlp1)), _, rfl, ?_, fun l2 hl2 => ?_⟩
        · rw [sizeLine_eq]
          simp
          omega
        have s3 := same_upd (o := .lst (ps.map V.str ++ [.str x])) (Same.refl G2) hl2
        have h3 : upd G2 l2 (.lst (ps.map V.str ++ [.str x])) l2 = some (.lst ((ps ++ [x]).map V.str)) := by rw [upd_same, List.map_append]; rfl
        generalize upd G2 l2 (.lst (ps.map V.str ++ [.str x])) = G3 at s3 h3
        have cl1 : d.calls.length ≤ 7 := by
          have h1 := d.calls_len
          have h2 : 2 ^ d.dep ≤ 2 ^ 3 := Nat.pow_le_pow_right (by decide) bd.dep
          omega
        have pm : d.calls.length * 8 ^ (R - 1) ≤ 7 * 8 ^ (R - 1) := Nat.mul_le_mul_right _ cl1
        have cof := Ex.calls_of bd.of
        rw [eIH (by omega)]
        refine ⟨_, rfl, cl, t, l2, fd, bs, d.calls, ps ++ [x], fj, rfl, wf, ⟨kvs, s3 _ _ (s2 _ _ hk1), fun n e hne => (hks n e hne).imp fun u q => ⟨q.1, ExAt.tk (tk.trans ((Tk.of s2).trans (Tk.of s3))) q.2⟩⟩, ntf, s3 _ _ hcl, h3, s3 _ _ hf2, fun y hy => ⟨cof y hy, by have := bd.rank y hy; omega⟩, fun y hy z hz => ?_, by omega, by rw [List.length_append]; show ps.length + 1 ≤ _; omega, by omega, by omega, fun G4 f4 kb4 hf4 fl4 => ?_⟩
        · rcases List.mem_append.mp hy with hy | hy
          · have h1 := hps y hy x xm
            have h2 := bd.rank z hz
            omega
          · rw [List.mem_singleton.mp hy]
            exact bd.rank z hz
        · have len := length_putK f4 (Sum.inr x) (.bl true)
          refine ⟨_, rfl, _, rfl, fd, _, rfl, DPut.k (k := Sum.inr x) hf4 (by omega), ?_⟩
          exact ⟨_, _, rfl, (((kb.trans (KeepBut.of (s2.trans s3))).trans kb4)).trans KeepBut.put, upd_same, by rw [nx]; omega⟩
    · rintro σ G ⟨o4, fj, rfl, kb, hf, fl⟩
      rw [List.length_map] at fl
      exact k G fj kb hf fl
end
end K18
namespace K18
open PySem PySem.Spec PyProof.Rows L2 Ew
section
variable {P : Program} {w : World} {K : PySem.W.Frag} {mg : Str → Option Value} {base : Heap}
/-! ## checked_bodies -/
def spCB : Sp := fun vs H Q _ => ∃ (u : V) (dl : Addr) (us : List V) (e : Ex) (bs ds : List (Str × Ex)), vs = [u, .ref dl] ∧ ExAt H e u ∧ e.dep ≤ 4 ∧ e.Of (namesOf bs) SixFr ∧ SeqV K H dl us ∧ All2 (DefAt H) us ds ∧ (ds.map Prod.fst).Nodup ∧ (∀ x ∈ bs, x ∈ ds) ∧ Wf bs ∧ bs.length ≤ 4 ∧ ds.length ≤ 24 ∧
  ∀ (G : Hp) (t : Addr) (kvs : List (Key × V)), Same H G → H t = none → G t = some (.dK kvs) → TabD G kvs ds → Q (.ref t) G
def cbN : List Str := ["expression", "definitions", "bodies", "name", "body"]
theorem scCB : FnScope cbN ["expression", "definitions"] (defScope sCheckedBodies) := ⟨rfl, rfl, rfl, by decide +kernel, rfl, by decide +kernel, by decide +kernel⟩
theorem ok_checked {f fCm fFN : Addr} {fd fdCm fdFN : FuncData} (F : Fun K "checked_bodies" "checked_bodies" sCheckedBodies f fd) (Cm : Def P w K mg base CX0 5 "called_names" fCm fdCm ["expression"] (spCalled 4)) (FN : Def P w K mg base CX0 10 "follow_names" fFN fdFN ["names", "bodies", "path", "followed"] (spFN 4)) :
    FnOk P w K mg base CX0 11 f fd ["expression", "definitions"] (spCB (K := K)) := by
  refine F.ok scCB (fun vs H Q E h => ?_) (fun cdv A outer s H vs Q E hr h => ?_)
  · obtain ⟨u, dl, us, e, bs, ds, rfl, _⟩ := h
    rfl
  · obtain ⟨u, dl, us, e, bs, ds, rfl, he, hd4, of, hs, al, nd, sub, wf, bl, dsl, k⟩ := h
    have r5' : Room 5 _ := hr.mono (by decide)
    have r10' : Room 10 _ := hr
    refine ⟨_, (pss_cons (ps_setDc (i := 2) (own := [("name", 3), ("body", 4)]) (g := gTup K 2 (gCons (gName 3) (gCons (gName 4) gNil))) (tt := tYes) (tk := tVar 3) (tv := tVar 4) rfl scCB.nd rfl rfl (sw_trueD rfl rfl rfl (by decide +kernel)) (pi_seqVar (pv 1)) (blkOk_by (N := cbN) (sc := defScope sCheckedBodies) (by decide +kernel)) (fun _ _ _ _ _ => by exact pg_tup rfl (pgs_cons (pg_name (i := 3) scCB.nd rfl (Or.inl rfl)) (pgs_cons (pg_name (i := 4) scCB.nd rfl (Or.inl rfl)) pgs_nil))) (fun _ _ _ _ _ => pts_nil) (fun _ _ _ _ _ => by exact (pv 3)) (fun _ _ _ _ _ => by exact (pv 4)))
 (pss_cons (ps_expr (pe_call FN.ok r10' rfl FN.g FN.k FN.b .nil pass0 (pa_cons (pe_call Cm.ok r5' rfl Cm.g Cm.k Cm.b .nil pass0 (pa_cons (pv 0) pa_nil)) (pa_cons (pv 2) (pa_cons (pe_lst pa_nil) (pa_cons pe_dnewK pa_nil))))))
 (pss_one (ps_ret (pv 2))))), ?_⟩
    have ul := al.len
    refine ⟨_, rfl, H, dl, us, rfl, Same.refl _, hs, fun J Gd wk hG D nD => ?_⟩
    refine dc_it wk (fun i G => Same H G ∧ ∃ kvs, G D = some (.dK kvs) ∧ TabD G kvs (ds.take i)) ⟨same_upd (Same.refl H) nD, [], upd_same, .nil⟩ (fun i G _ h => hG G h.1) ?_ ?_
    · rintro i y G G' hi ⟨s1, kvs, hD, tb⟩ ⟨rfl, hy⟩
      have hi' : i < ds.length := by omega
      obtain ⟨x, hx⟩ : ∃ x, ds[i]? = some x := ⟨_, List.getElem?_eq_getElem hi'⟩
      obtain ⟨a, ue, rfl, ha, hu⟩ := al.at_ i y x hy hx
      have kl : kvs.length = i := by
        have := Paired.length tb
        rw [List.length_take] at this
        omega
      have nn : x.1 ∉ (ds.take i).map Prod.fst := fun h => by
        have e1 : ds.map Prod.fst = (ds.take i).map Prod.fst ++ x.1 :: (ds.drop (i + 1)).map Prod.fst := by
          have e2 := List.take_append_drop i ds
          rw [List.drop_eq_getElem_cons hi', (List.getElem?_eq_some_iff.mp hx).2] at e2
          conv => lhs; rw [← e2]
          simp
        rw [e1] at nd
        have := (List.nodup_append.mp nd).2.2 _ h _ List.mem_cons_self
        exact this rfl
      refine ⟨a, _, rfl, SqT.of (s1 _ _ ha), rfl, _, _, rfl, _, _, rfl, rfl, rfl, tyes ⟨_, rfl, _, rfl, kvs, Sum.inr x.1, rfl, hD, by rw [kl, sizeLine_eq]; omega, same_updN s1 nD, _, upd_same, ?_⟩⟩
      rw [putK_new _ (tb.none nn), List.take_add_one, hx]
      have t2 : Tk G' (upd G' D (.dK (kvs ++ [(Sum.inr x.1, ue)]))) := fun c ys hc => by
        rw [upd_ne (ne_of hc hD (fun z => nomatch z))]
        exact hc
      exact Paired.snoc (tb.tk t2) ⟨rfl, ExAt.tk ((Tk.of s1).trans t2) hu⟩
    · rintro G ⟨s1, kvs, hD, tb⟩
      rw [ul, List.take_length] at tb
      have few := Ex.calls_few hd4 (by decide)
      have cl : e.calls.length ≤ 15 := by
        have h1 := e.calls_len
        have h2 : 2 ^ e.dep ≤ 2 ^ 4 := Nat.pow_le_pow_right (by decide) hd4
        omega
      refine ⟨_, rfl, e, u, rfl, he.same s1, hd4, fun G2 c s2 nc hc => ⟨_, rfl, (by show 0 ≤ sizeLine; decide), fun lp hlp => fun fd0 hfd => ?_⟩⟩
      have s3 := same_upd (o := .lst []) (Same.refl G2) hlp
      have h3 : upd G2 lp (.lst []) lp = some (.lst []) := upd_same
      generalize upd G2 lp (.lst []) = G3 at s3 h3 hfd
      have s4 := same_upd (o := .dK []) (Same.refl G3) hfd
      have h4 : upd G3 fd0 (.dK []) fd0 = some (.dK []) := upd_same
      have sD := s2 _ _ hD
      have sDf : D ≠ fd0 := ne_of_none (s3 _ _ sD) hfd
      have nf : H fd0 = none := ((s1.trans s2).trans s3).free hfd
      generalize upd G3 fd0 (.dK []) = G4 at s4 h4
      have s24 := (s2.trans s3).trans s4
      have t24 := Tk.of s24
      have vl := tb.val nd
      have cof := Ex.calls_of of
      refine ⟨c, D, lp, fd0, bs, e.calls, [], [], rfl, wf, ⟨kvs, s24 _ _ hD, fun n x hm => (vl n x (sub _ hm)).imp fun u q => ⟨q.1, ExAt.tk t24 q.2⟩⟩, sDf, s4 _ _ (s3 _ _ hc), s4 _ _ h3, h4, fun x hx => ⟨cof x hx, Nat.le_trans (rk_le _ _) bl⟩, (fun y hy => nomatch hy), by omega, by decide, by decide, ?_, fun G5 fk kb5 hf5 fl5 => ?_⟩
      · show 0 + e.calls.length * 8 ^ 4 ≤ sizeLine
        have : (8 : Nat) ^ 4 = 4096 := by decide
        rw [this, sizeLine_eq]
        omega
      · have s5 : Same H G5 := fun c o hc => kb5 c o (s24 _ _ (s1 _ _ hc)) (ne_of_none hc nf)
        have t5 : Tk G4 G5 := fun c ys hc => kb5 c _ hc (ne_of hc h4 (fun z => nomatch z))
        exact ⟨_, rfl, k G5 D kvs s5 nD (kb5 _ _ (s24 _ _ hD) sDf) (tb.tk (t24.trans t5))⟩
end
end K18
namespace K18
open PySem PySem.Spec PyProof.Rows L2 Ew
section
variable {P : Program} {w : World} {K : PySem.W.Frag} {mg : Str → Option Value} {base : Heap}
/-! ## Calculator.__init__ -/
def OrdD (G : Hp) (kvs : List (Key × V)) (ds : List (Str × Ex)) : Prop := Paired (fun kv x => kv.1 = Sum.inr x.1 ∧ ∃ l us, kv.2 = .ref l ∧ G l = some (.lst us) ∧ All2 (ExV G) us x.2.post) kvs ds
theorem keys_none {α : Type} {F : Key × V → Str × α → Prop} {kvs : List (Key × V)} {ds : List (Str × α)} {n : Str} (h : Paired (fun kv x => kv.1 = Sum.inr x.1 ∧ F kv x) kvs ds) (hn : n ∉ ds.map Prod.fst) : valV kvs (Sum.inr n) = none := by
  induction h with
  | nil => rfl
  | @cons p q ps qs h t ih =>
    rw [List.map_cons, List.mem_cons, not_or] at hn
    rw [valV_neg (fun e => hn.1 (by rw [h.1] at e; injection e with e; exact e.symm))]
    exact ih hn.2
def spCI (P : Program) (w : World) (C : Addr) : Sp := fun vs H Q _ => ∃ (x dx t : Addr) (kvs : List (Key × V)) (ds : List (Str × Ex)), vs = [.ref x, .ref t] ∧ H x = some (.ins C dx []) ∧ H t = some (.dK kvs) ∧ TabD H kvs ds ∧ (ds.map Prod.fst).Nodup ∧ (∀ y ∈ ds, y.2.dep ≤ 3) ∧ ds.length ≤ 24 ∧
  ∀ (G : Hp) (od kd : Addr) (okv : List (Key × V)), (∀ c o, H c = some o → c ≠ x → G c = some o) → H kd = none → G x = some (.ins C dx (calcF od kd)) → G od = some (.dK okv) → OrdD G okv ds → DN P w G kd [] → Q .non G
def ciN : List Str := ["self", "bodies", "name"]
theorem scCI : FnScope ciN ["self", "bodies"] (defScope sCalculator_init) := ⟨rfl, rfl, rfl, by decide +kernel, rfl, by decide +kernel, by decide +kernel⟩
theorem ok_calcInit {f fPF C : Addr} {fd fdPF : FuncData} (F : Fun K "__init__" "Calculator.__init__" sCalculator_init f fd) (T : TxtCa K C) (PF : Def P w K mg base CX0 4 "parts_first" fPF fdPF ["expression"] (spPF 3)) :
    FnOk P w K mg base CX0 5 f fd ["self", "bodies"] (spCI P w C) := by
  refine F.ok scCI (fun vs H Q E h => ?_) (fun cdv A outer s H vs Q E hr h => ?_)
  · obtain ⟨x, dx, t, kvs, ds, rfl, _⟩ := h
    rfl
  · obtain ⟨x, dx, t, kvs, ds, rfl, hx, ht, tb, nd, dp, dl, k⟩ := h
    refine ⟨_, (pss_cons (ps_fld (pv 0) (pe_lock (pe_dc (own := [("name", 2)]) (g := gName 2) (tt := tYes) (tk := tVar 2) (tv := tCall (spPF 3) [] E0 (tCons (tDGet (tVar 1) (tVar 2)) tNil)) rfl scCI.nd (pi_keys (pv 1)) (blkOk_by (N := ciN) (sc := defScope sCalculator_init) (by decide +kernel)) (fun _ _ _ _ _ => by exact pg_name (i := 2) scCI.nd rfl (Or.inl rfl)) (fun _ _ _ _ _ => pts_nil) (fun _ _ _ _ _ => by exact (pv 2)) (fun _ _ _ _ _ => by exact (pe_call PF.ok hr rfl PF.g PF.k PF.b .nil pass0 (pa_cons (pe_dget (hu_of hr) (pv 1) (pv 2) (fun _ _ => rfl)) pa_nil))))) rfl)
 (pss_one (ps_fld (pv 0) pe_nnew rfl))), ?_⟩
    have kl := Paired.length tb
    refine ⟨t, .dK kvs, ht, trivial, fun od0 => ?_⟩
    have tkH : Tk H (upd H t (.frz od0 (.dK kvs))) := fun c ys hc => by
      rw [upd_ne (ne_of hc ht (fun z => nomatch z))]
      exact hc
    have hx0 : upd H t (.frz od0 (.dK kvs)) x = some (.ins C dx []) := by
      rw [upd_ne (ne_of hx ht (fun z => nomatch z))]
      exact hx
    have ht0 : upd H t (.frz od0 (.dK kvs)) t = some (.frz od0 (.dK kvs)) := upd_same
    have back : ∀ c o, H c = some o → c ≠ t → upd H t (.frz od0 (.dK kvs)) c = some o := fun c o h n => by rw [upd_ne n]; exact h
    generalize upd H t (.frz od0 (.dK kvs)) = H1 at tkH hx0 ht0 back
    refine ⟨_, rfl, t, od0, rfl, .inl ⟨kvs, ht0, fun D nD => ?_⟩⟩
    refine dc_it (walk_keys (d := t) (o := od0) (kvs := kvs)) (fun i G => Same H1 G ∧ ∃ okv, G D = some (.dK okv) ∧ OrdD G okv (ds.take i)) ⟨same_upd (Same.refl H1) nD, [], upd_same, .nil⟩ (fun i G _ h => h.1 _ _ ht0) ?_ ?_
    · rintro i y G G' hi ⟨s1, okv, hD, tbo⟩ ⟨rfl, kk, vv, hkv, rfl⟩
      have hi' : i < ds.length := by omega
      obtain ⟨z, hz⟩ : ∃ z, ds[i]? = some z := ⟨_, List.getElem?_eq_getElem hi'⟩
      obtain ⟨y2, hy2, hy3, _⟩ := DX.pget tb hz
      rw [hkv] at hy2
      cases hy2
      obtain rfl : kk = Sum.inr z.1 := hy3
      obtain ⟨u, hu, hxu⟩ := tb.val nd z.1 z.2 (List.mem_of_getElem? hz)
      have ol : okv.length = i := by
        have := Paired.length tbo
        rw [List.length_take] at this
        omega
      have nn : z.1 ∉ (ds.take i).map Prod.fst := fun h => by
        have e1 : ds.map Prod.fst = (ds.take i).map Prod.fst ++ z.1 :: (ds.drop (i + 1)).map Prod.fst := by
          have e2 := List.take_append_drop i ds
          rw [List.drop_eq_getElem_cons hi', (List.getElem?_eq_some_iff.mp hz).2] at e2
          conv => lhs; rw [← e2]
          simp
        rw [e1] at nd
        exact (List.nodup_append.mp nd).2.2 _ h _ List.mem_cons_self rfl
      refine ⟨rfl, tyes ⟨_, rfl, _, rfl, _, rfl, t, u, rfl, .inl ⟨kvs, Sum.inr z.1, .inr ⟨od0, s1 _ _ ht0⟩, rfl, hu.symm⟩, z.2, u, rfl, ExAt.tk (tkH.trans (Tk.of s1)) hxu, dp z (List.mem_of_getElem? hz), fun G2 p us s2 np hp al => ?_⟩⟩
      have hD2 := s2 _ _ hD
      have pD : p ≠ D := (ne_of_none hD np).symm
      refine ⟨okv, Sum.inr z.1, rfl, hD2, by rw [ol, sizeLine_eq]; omega, same_updN (s1.trans s2) nD, _, upd_same, ?_⟩
      have vn : valV okv (Sum.inr z.1) = none := keys_none tbo nn
      rw [putK_new _ vn, List.take_add_one, hz]
      have k3 : ∀ c o, G2 c = some o → c ≠ D → upd G2 D (.dK (okv ++ [(Sum.inr z.1, V.ref p)])) c = some o := fun c o h n => by rw [upd_ne n]; exact h
      have t3 : Tk G2 (upd G2 D (.dK (okv ++ [(Sum.inr z.1, V.ref p)]))) := fun c ys hc => k3 c _ hc (ne_of hc hD2 (fun z => nomatch z))
      refine Paired.snoc (Paired.mapP tbo fun kv y h => ⟨h.1, ?_⟩) ⟨rfl, p, us, rfl, k3 _ _ hp pD, al.imp fun _ _ h => ExAt.tk t3 h⟩
      obtain ⟨l, ws, e1, e2, e3⟩ := h.2
      exact ⟨l, ws, e1, k3 _ _ (s2 _ _ e2) (ne_of (s2 _ _ e2) hD2 (fun z => nomatch z)), e3.imp fun _ _ h => ExAt.tk ((Tk.of s2).trans t3) h⟩
    · rintro G ⟨s1, okv, hD, tbo⟩
      rw [kl, List.take_length] at tbo
      refine ⟨s1 _ _ ht0, ?_⟩
      have hxG := s1 _ _ hx0
      have htG := s1 _ _ ht0
      have ntx : x ≠ t := ne_of hxG htG (fun z => nomatch z)
      have nDx : x ≠ D := ne_of_none hx0 nD
      have nDt : t ≠ D := ne_of_none ht0 nD
      refine ⟨_, rfl, x, C, dx, [], rfl, by rw [upd_ne ntx]; exact hxG, T.cl, T.nO, by decide, fun kd nkd => ⟨_, rfl, x, C, dx, putF "orders" (.ref D) [], rfl, ?_, T.cl, T.nK, ?_, ?_⟩⟩
      · rw [upd_ne (fun z => by rw [← z, upd_same] at nkd; cases nkd), upd_same]
      · show 1 < 1000
        decide
      · have nkx : x ≠ kd := fun z => by rw [← z, upd_same] at nkd; cases nkd
        have keep : ∀ c o, G c = some o → c ≠ x → c ≠ t → upd (upd (upd (upd G t (.dK kvs)) x (.ins C dx (putF "orders" (.ref D) []))) kd (nestO P w kd [])) x (.ins C dx (calcF D kd)) c = some o := fun c o h n1 n2 => by
          have h2 : upd (upd G t (.dK kvs)) x (.ins C dx (putF "orders" (.ref D) [])) c = some o := by rw [upd_ne n1, upd_ne n2]; exact h
          rw [upd_ne n1, upd_ne (ne_of_none h2 nkd)]
          exact h2
        have tkG : Tk G (upd (upd (upd (upd G t (.dK kvs)) x (.ins C dx (putF "orders" (.ref D) []))) kd (nestO P w kd [])) x (.ins C dx (calcF D kd))) := fun c ys hc => keep c _ hc (ne_of hc hxG (fun z => nomatch z)) (ne_of hc htG (fun z => nomatch z))
        have hkd : H kd = none := by
          cases e : H kd with
          | none => rfl
          | some o =>
            exfalso
            rw [upd_ne nkx.symm] at nkd
            by_cases ct : kd = t
            · rw [ct, upd_same] at nkd
              cases nkd
            · rw [upd_ne ct, s1 _ _ (back kd o e ct)] at nkd
              cases nkd
        refine k _ D kd okv (fun c o hc n => ?_) hkd upd_same (keep _ _ hD nDx.symm nDt.symm) (Paired.mapP tbo fun kv y h => ⟨h.1, ?_⟩) ⟨[], ?_, .nil⟩
        · by_cases ct : c = t
          · subst ct
            rw [ht] at hc
            cases hc
            have h2 : upd (upd G c (.dK kvs)) x (.ins C dx (putF "orders" (.ref D) [])) c = some (.dK kvs) := by rw [upd_ne n, upd_same]
            rw [upd_ne n, upd_ne (ne_of_none h2 nkd)]
            exact h2
          · exact keep c o (s1 _ _ (back c o hc ct)) n ct
        · obtain ⟨l, ws, e1, e2, e3⟩ := h.2
          exact ⟨l, ws, e1, keep _ _ e2 (ne_of e2 hxG (fun z => nomatch z)) (ne_of e2 htG (fun z => nomatch z)), e3.imp fun _ _ h => ExAt.tk tkG h⟩
        · rw [upd_ne nkx.symm, upd_same]
          rfl
end
end K18
namespace K18
open PySem PySem.Spec PyProof.Rows L2 Ew
section
variable {P : Program} {w : World} {K : PySem.W.Frag} {mg : Str → Option Value} {base : Heap}
/-! ## evaluate -/
theorem ordD_val {G : Hp} {kvs : List (Key × V)} {ds : List (Str × Ex)} (h : OrdD G kvs ds) (nd : (ds.map Prod.fst).Nodup) : ∀ n e, (n, e) ∈ ds → ∃ l us, valV kvs (Sum.inr n) = some (.ref l) ∧ G l = some (.lst us) ∧ All2 (ExV G) us e.post := by
  induction h with
  | nil => intro n e hm; cases hm
  | @cons p q ps qs h t ih =>
    rw [List.map_cons] at nd
    obtain ⟨n1, n2⟩ := List.nodup_cons.mp nd
    intro n e hm
    rcases List.mem_cons.mp hm with hm | hm
    · subst hm
      obtain ⟨l, us, e1, e2, e3⟩ := h.2
      exact ⟨l, us, (valV_pos h.1).trans (congrArg some e1), e2, e3⟩
    · have nm : n ∈ qs.map Prod.fst := List.mem_map.mpr ⟨_, hm, rfl⟩
      rw [valV_neg (fun z => n1 (by rw [h.1] at z; injection z with z; rw [z]; exact nm))]
      exact ih n2 n e hm
def spEvl (K : PySem.W.Frag) : Sp := fun vs H Q _ => ∃ (u x : V) (dl : Addr) (us : List V) (e : Ex) (bs ds : List (Str × Ex)) (v : Rat), vs = [u, x, .ref dl] ∧ ExAt H e u ∧ e.dep ≤ 4 ∧ e.Of (namesOf bs) SixFr ∧ QAt H x v ∧ Sz 13 v ∧ SeqV K H dl us ∧ All2 (DefAt H) us ds ∧ (ds.map Prod.fst).Nodup ∧ (∀ x ∈ bs, x ∈ ds) ∧ Wf bs ∧ bs.length ≤ 4 ∧ ds.length ≤ 24 ∧ (∀ y ∈ ds, y.2.dep ≤ 3) ∧
  ∀ G z, Same H G → QAt G z (e.ev (fnOf bs) v) → Q z G
def evaN : List Str := ["expression", "number", "definitions", "bodies"]
theorem scEva : FnScope evaN ["expression", "number", "definitions"] (defScope sEvaluate) := ⟨rfl, rfl, rfl, by decide +kernel, rfl, by decide +kernel, by decide +kernel⟩
theorem ok_evaluate {f fCB fPF fCI fVA C : Addr} {fd fdCB fdPF fdCI fdVA : FuncData} (F : Fun K "evaluate" "evaluate" sEvaluate f fd) (T : TxtCa K C) (gC : mg "Calculator" = some (.ref C)) (M : Mk K C fCI) (CI : FnOk P w K mg base CX0 5 fCI fdCI ["self", "bodies"] (spCI P w C)) (bCI : Binds K fdCI ["self", "bodies"] [])
    (mVA : MDef P w K mg base CX0 20 C "value_at" fVA fdVA ["self", "order", "number"] (spVal P w C 4)) (CB : Def P w K mg base CX0 11 "checked_bodies" fCB fdCB ["expression", "definitions"] (spCB (K := K))) (PF : Def P w K mg base CX0 5 "parts_first" fPF fdPF ["expression"] (spPF 4)) :
    FnOk P w K mg base CX0 21 f fd ["expression", "number", "definitions"] (spEvl K) := by
  refine F.ok scEva (fun vs H Q E h => ?_) (fun cdv A outer s H vs Q E hr h => ?_)
  · obtain ⟨u, x, dl, us, e, bs, ds, v, rfl, _⟩ := h
    rfl
  · obtain ⟨u, x, dl, us, e, bs, ds, v, rfl, he, hd4, of, hx, sz, hs, al, nd, sub, wf, bl, dsl, dp, k⟩ := h
    have r5' : Room 5 _ := hr.mono (by decide)
    have r6' : Room 6 _ := hr.mono (by decide)
    have r11' : Room 11 _ := hr.mono (by decide)
    have r20' : Room 20 _ := hr
    refine ⟨_, (pss_cons (ps_set (i := 3) scEva.nd rfl (Or.inl rfl) (pe_call CB.ok r11' rfl CB.g CB.k CB.b .nil pass0 (pa_cons (pv 0) (pa_cons (pv 2) pa_nil))))
 (pss_one (ps_ret (pe_meth (pe_make M CI r6' rfl gC bCI .nil pass0 (pa_cons (pv 3) pa_nil)) mVA.cl mVA.h mVA.ok r20' mVA.b .nil pass0 (pa_cons (pe_call PF.ok r5' rfl PF.g PF.k PF.b .nil pass0 (pa_cons (pv 0) pa_nil)) (pa_cons (pv 1) pa_nil)))))), ?_⟩
    refine ⟨_, rfl, _, rfl, u, dl, us, e, bs, ds, rfl, he, hd4, of, hs, al, nd, sub, wf, bl, dsl, fun G1 t kvs s1 nt ht tb => ?_⟩
    refine ⟨_, rfl, fun y dy ny ndy ney => ?_⟩
    have s2 : Same G1 (upd (upd G1 dy (.own y)) y (.ins C dy [])) := fun c o h => by
      rw [upd_ne (ne_of_none h ny), upd_ne (ne_of_none h ndy)]
      exact h
    have hy2 : upd (upd G1 dy (.own y)) y (.ins C dy []) y = some (.ins C dy []) := upd_same
    generalize upd (upd G1 dy (.own y)) y (.ins C dy []) = G2 at s2 hy2
    refine ⟨y, dy, t, kvs, ds, rfl, hy2, s2 _ _ ht, tb.tk (Tk.of s2), nd, dp, dsl, fun G3 od kd okv k3 nkd hy3 hod ord dn => ⟨rfl, ?_⟩⟩
    have s3 : Same G1 G3 := fun c o h => k3 c o (s2 c o h) (ne_of_none h ny)
    have s13 := s1.trans s3
    refine ⟨y, dy, _, rfl, hy3, calcF_no (by decide +kernel) (by decide +kernel), _, rfl, e, u, rfl, he.same s13, hd4, fun G4 p ws s4 np hp alp => ?_⟩
    have s14 := s13.trans s4
    have few := Ex.post_len e
    have p4 : 2 ^ e.dep ≤ 2 ^ 4 := Nat.pow_le_pow_right (by decide) hd4
    have e84 : (8 : Nat) ^ 4 = 4096 := by decide
    have cal : Calc P w C G3 y od kd bs 0 := ⟨⟨dy, hy3⟩, ⟨okv, hod, fun n z hm => ordD_val ord nd n z (sub _ hm)⟩, ⟨[], dn, Nat.le_refl _, fun n q u hn hv => (nomatch hv)⟩, wf⟩
    refine ⟨_, rfl, y, od, kd, p, bs, e, x, ws, v, 13, 0, rfl, cal.same s4, hp, alp, hx.tk (Tk.of s14), sz, of, by have := wd_main wf bl hd4; omega, fun m hm => Nat.le_trans (rk_le bs m) bl, hd4, by rw [e84, sizeLine_eq]; omega, fun G5 z kb kn hz => ?_⟩
    refine k G5 z (fun c o h => kb c o (s14 c o h) (ne_of_none (s2 c o (s1 c o h)) nkd)) hz
end
end K18
namespace K18
open PySem PySem.Spec PyProof.Rows L2 Ew
section
variable {P : Program} {w : World} {K : PySem.W.Frag} {mg : Str → Option Value} {base : Heap}
/-! ## what the law holds -/
theorem tk_kb {G G' : Hp} {p q : Addr} {ns : List Int} {i v sd : Int} (R : RngAt G p q ns i v sd) (k : KeepBut p G G') : Tk G G' := fun c ys h => k c _ h (fun z => by rw [z, R.at_p] at h; cases h)
def N5 (G : Hp) (p n : Addr) (ys : List Str) : Prop := G n = some (.lst (ys.map V.str)) ∧ n ≠ p ∧ ys.length = 5 ∧ (∀ y ∈ ys, NmOk y) ∧ ys.Nodup
theorem N5.kb {G G' : Hp} {p n : Addr} {ys : List Str} (h : N5 G p n ys) (k : KeepBut p G G') : N5 G' p n ys := ⟨k _ _ h.1 h.2.1, h.2⟩
def Ds (G : Hp) (p d : Addr) (us : List V) (bs : List (Str × Ex)) : Prop := G d = some (.lst us) ∧ d ≠ p ∧ All2 (DefAt G) us bs
theorem Ds.kb {G G' : Hp} {p d : Addr} {us : List V} {bs : List (Str × Ex)} (h : Ds G p d us bs) (k : KeepBut p G G') (t : Tk G G') : Ds G' p d us bs := ⟨k _ _ h.1 h.2.1, h.2.1, h.2.2.imp fun _ _ z => z.tk t⟩
structure DsOk (bs ds : List (Str × Ex)) : Prop where
  nd : (ds.map Prod.fst).Nodup
  sub : ∀ x ∈ bs, x ∈ ds
  few : ds.length ≤ 24
  dp : ∀ y ∈ ds, y.2.dep ≤ 3
theorem wf_nd : ∀ {bs : List (Str × Ex)}, Wf bs → (bs.map Prod.fst).Nodup
  | [], _ => List.nodup_nil
  | (n, e) :: bs, h => by
    rw [List.map_cons]
    exact List.nodup_cons.mpr ⟨h.2.2.1, wf_nd h.2.2.2⟩
theorem wf_dp {bs : List (Str × Ex)} (h : Wf bs) : ∀ y ∈ bs, y.2.dep ≤ 3 := fun y hy => (body_of h (n := y.1) (e := y.2) hy).dep
theorem dsOk_self {bs : List (Str × Ex)} (h : Wf bs) (l : bs.length ≤ 24) : DsOk bs bs := ⟨wf_nd h, fun _ z => z, l, wf_dp h⟩
theorem dsOk_more {bs : List (Str × Ex)} {n : Str} (h : Wf bs) (l : bs.length ≤ 23) (hn : n ∉ bs.map Prod.fst) : DsOk bs (bs ++ [(n, Ew.Ex.call n .x)]) := by
  refine ⟨?_, fun x hx => List.mem_append_left _ hx, by rw [List.length_append]; show _ + 1 ≤ 24; omega, fun y hy => ?_⟩
  · rw [List.map_append]
    refine List.nodup_append.mpr ⟨wf_nd h, (List.nodup_cons.mpr ⟨by simp, List.nodup_nil⟩), fun a ha b hb z => ?_⟩
    have hb : b ∈ [n] := hb
    rw [List.mem_singleton.mp hb] at z
    exact hn (z ▸ ha)
  · rcases List.mem_append.mp hy with hy | hy
    · exact wf_dp h y hy
    · rw [List.mem_singleton.mp hy]
      show 2 ≤ 3
      decide
theorem merge_fresh : ∀ (more acc : List (Key × V)), (more.map Prod.fst).Nodup → (∀ k ∈ more, valV acc k.1 = none) → mergeK acc more = acc ++ more
  | [], acc, _, _ => by simp [mergeK]
  | m :: more, acc, nd, h => by
    rw [List.map_cons] at nd
    obtain ⟨n1, n2⟩ := List.nodup_cons.mp nd
    show mergeK (putK acc m.1 m.2) more = _
    rw [putK_new _ (h m List.mem_cons_self), merge_fresh more _ n2 fun k hk => ?_, List.append_assoc]
    · rfl
    · have e : k.1 ≠ m.1 := fun z => n1 (z ▸ List.mem_map.mpr ⟨k, hk, rfl⟩)
      have := valV_put acc m.1 k.1 m.2
      rw [putK_new _ (h m List.mem_cons_self)] at this
      rw [this, if_neg e]
      exact h k (List.mem_cons_of_mem _ hk)
theorem defs_pairs {H : Hp} : ∀ {us : List V} {bs : List (Str × Ex)}, All2 (DefAt H) us bs → ∃ (ps : List Addr) (kvs : List (Key × V)), us = ps.map V.ref ∧ Paired (fun p kv => SqT K H p [kV kv.1, kv.2]) ps kvs ∧ TabD H kvs bs ∧ kvs.map Prod.fst = bs.map fun x => Sum.inr x.1
  | [], [], _ => ⟨[], [], rfl, .nil, .nil, rfl⟩
  | [], _ :: _, h => absurd h.len (by simp)
  | _ :: _, [], h => absurd h.len (by simp)
  | u :: us, x :: bs, h => by
    have ht : All2 (DefAt H) us bs := ⟨by have := h.len; simp at this; exact this, fun i v y h1 h2 => h.at_ (i + 1) v y h1 h2⟩
    obtain ⟨ps, kvs, rfl, h1, h2, h3⟩ := defs_pairs ht
    obtain ⟨a, ue, rfl, ha, hu⟩ := h.at_ 0 u x rfl rfl
    exact ⟨a :: ps, (Sum.inr x.1, ue) :: kvs, rfl, .cons (SqT.of ha) h1, .cons ⟨rfl, hu⟩ h2, by rw [List.map_cons, List.map_cons, h3]⟩
theorem pairs_nd {bs : List (Str × Ex)} (h : (bs.map Prod.fst).Nodup) : (bs.map fun x => (Sum.inr x.1 : Key)).Nodup := by
  unfold List.Nodup at h ⊢
  rw [List.pairwise_map] at h ⊢
  exact h.imp fun hab z => hab (by injection z)
end
structure TxtL (mg : Str → Option Value) : Prop where
  range : mg "range" = none
  list : mg "list" = none
  tuple : mg "tuple" = none
  dict : mg "dict" = none
def lawN : List Str := ["_law_script", "_law_rng", "_law_turn", "_law_names_here", "_law_defined", "_law_expression_here", "_law_handed", "_law_spare", "_law_kept", "_law_step", "_law_number", "_law_due", "_law_given", "_law_plain"]
theorem scLaw : FnScope lawN ["_law_script"] (defScope sLaw) := ⟨rfl, rfl, rfl, by decide +kernel, rfl, by decide +kernel, by decide +kernel⟩
def spLaw (K : PySem.W.Frag) : Sp := fun vs H Q _ => ∃ (a : Addr) (ns : List Int), vs = [.ref a] ∧ SqL K H a (ns.map V.int) ∧ ns.length ≤ 63 ∧ ∀ G, Q (.bl true) G
theorem ok_law {P : Program} {w : World} {K : PySem.W.Frag} {mg : Str → Option Value} {base : Heap} {f fB fD fP fS fNa fDf fEx fAF fEv fEV dE : Addr} {fd fdB fdD fdP fdS fdNa fdDf fdEx fdAF fdEv fdEV : FuncData}
    (F : Fun K "law" "law" sLaw f fd) (T : TxtL mg)
    (B : Def P w K mg base CX0 1 "_law_begin" fB fdB ["_law_script"] (spBegin K)) (D : Def P w K mg base CX0 1 "_law_draw" fD fdD ["_law_rng", "_law_many"] spDraw) (Pk : Def P w K mg base CX0 2 "_law_pick" fP fdP ["_law_rng", "_law_items"] (spPickA K))
    (S : Def P w K mg base CX0 3 "_law_same" fS fdS ["_law_found", "_law_due"] (spSame K 3)) (Na : Def P w K mg base CX0 3 "_law_names" fNa fdNa ["_law_rng", "_law_many"] spNames)
    (Df2 : Def P w K mg base CX0 10 "_law_definitions" fDf fdDf ["_law_rng", "_law_names_here"] spDefs)
    (Ex : Def P w K mg base CX0 9 "_law_expression" fEx fdEx ["_law_rng", "_law_names_here", "_law_depth"] (spExpr 6)) (AF : Def P w K mg base CX0 2 "_law_any_fraction" fAF fdAF ["_law_rng", "_law_most"] spAnyF)
    (Ev : Def P w K mg base CX0 19 "_law_evaluated" fEv fdEv ["_law_expression_here", "_law_number", "_law_table"] (spEv 16))
    (EVok : FnOk P w K mg base CX0 21 fEV fdEV ["expression", "number", "definitions"] (spEvl K)) (EVg : mg "evaluate" = some (.ref fEV)) (EVk : PySem.W.keepIn K (.ref fEV) = true) (bEV : Binds K fdEV ["expression", "number", "definitions"] [.ref dE]) (kbEV : KBn K fdEV ["expression", "number", "definitions"] 2 ["definitions"] (fun us ws => us ++ ws) (fun vs zs => vs ++ zs)) (SE : ∀ H, SqT K H dE []) :
    FnOk P w K mg base CX0 22 f fd ["_law_script"] (spLaw K) := by
  refine F.ok scLaw (fun vs H Q E h => ?_) (fun cdv A outer s H vs Q E hr h => ?_)
  · obtain ⟨a, ns, rfl, _⟩ := h
    rfl
  · obtain ⟨a, ns, rfl, hS, hl, k⟩ := h
    have r1' : Room 1 _ := hr.mono (by decide)
    have r2' : Room 2 _ := hr.mono (by decide)
    have r3' : Room 3 _ := hr.mono (by decide)
    have r9' : Room 9 _ := hr.mono (by decide)
    have r10' : Room 10 _ := hr.mono (by decide)
    have r19' : Room 19 _ := hr.mono (by decide)
    have r21' : Room 21 _ := hr
    refine ⟨_, (pss_cons (ps_set (i := 1) scLaw.nd rfl (Or.inl rfl) (pe_call B.ok r1' rfl B.g B.k B.b .nil pass0 (pa_cons (pv 0) pa_nil)))
 (pss_cons (ps_for PassesOwn.never rfl (pi_range1 rfl T.range (pa_cons pe_int pa_nil)) (pg_name (i := 2) scLaw.nd rfl (Or.inl rfl))
 (C8.pss_cut (ps_set (i := 3) scLaw.nd rfl (Or.inl rfl) (pe_call Na.ok r3' rfl Na.g Na.k Na.b .nil pass0 (pa_cons (pv 1) (pa_cons pe_int pa_nil))))
 (C8.pss_cut (ps_set (i := 4) scLaw.nd rfl (Or.inl rfl) (pe_call Df2.ok r10' rfl Df2.g Df2.k Df2.b .nil pass0 (pa_cons (pv 1) (pa_cons (pe_slice sl_list (pv 3) po_none (po_some pe_int)) pa_nil))))
 (C8.pss_cut (ps_set (i := 5) scLaw.nd rfl (Or.inl rfl) (pe_call Ex.ok r9' rfl Ex.g Ex.k Ex.b .nil pass0 (pa_cons (pv 1) (pa_cons (pe_slice sl_list (pv 3) po_none (po_some pe_int)) (pa_cons pe_int pa_nil)))))
 (C8.pss_cut (ps_par (i := 6) (j := 7) (by rfl) scLaw.nd rfl rfl (by decide) rfl rfl (pa_cons (pe_callTy call_list_of (by rfl) T.list (by decide +kernel) (pa_cons (pv 4) pa_nil)) (pa_cons (pe_tup (pa_cons (pe_ix ix_list (pv 3) pe_int (fun _ _ => rfl)) (pa_cons (pe_tup (pa_cons pe_str (pa_cons (pe_ix ix_list (pv 3) pe_int (fun _ _ => rfl)) (pa_cons (pe_tup (pa_cons pe_str pa_nil)) pa_nil)))) pa_nil))) pa_nil)) (by rfl))
 (C8.pss_cut (ps_if (pt_cmpR op_eq (pe_call D.ok r1' rfl D.g D.k D.b .nil pass0 (pa_cons (pv 1) (pa_cons pe_int pa_nil))) pe_int (nomark _)) (pss_one (ps_expr (pe_bm PySem.F.plainAttrs_list PySem.F.slot_list_append PySem.F.type_list_append mt_append (pv 6) (pa_cons (pv 7) pa_nil)))) pss_nil)
 (C8.pss_cut (ps_set (i := 8) scLaw.nd rfl (Or.inl rfl) (pe_callTy call_list_of (by rfl) T.list (by decide +kernel) (pa_cons (pv 6) pa_nil)))
 (C8.pss_cut (ps_for PassesOwn.never rfl (pi_range1 rfl T.range (pa_cons pe_int pa_nil)) (pg_name (i := 9) scLaw.nd rfl (Or.inl rfl))
 (pss_cons (ps_set (i := 10) scLaw.nd rfl (Or.inl rfl) (pe_call AF.ok r2' rfl AF.g AF.k AF.b .nil pass0 (pa_cons (pv 1) (pa_cons pe_int pa_nil))))
 (pss_cons (ps_set (i := 11) scLaw.nd rfl (Or.inl rfl) (pe_call Ev.ok r19' rfl Ev.g Ev.k Ev.b .nil pass0 (pa_cons (pv 5) (pa_cons (pv 10) (pa_cons (pe_callTy (call_dictP rfl) (by rfl) T.dict (by decide +kernel) (pa_cons (pv 4) pa_nil)) pa_nil)))))
 (pss_cons (ps_set (i := 12) scLaw.nd rfl (Or.inl rfl) (pe_call Pk.ok r2' rfl Pk.g Pk.k Pk.b .nil pass0 (pa_cons (pv 1) (pa_cons (pe_lst (pa_cons (pv 6) (pa_cons (pe_callTy cr_tup (by rfl) T.tuple (by decide +kernel) (pa_cons (pv 6) pa_nil)) pa_nil))) pa_nil))))
 (pss_one (ps_if (PW.pt (pw_or (pt_not (pt_val (pe_call S.ok r3' rfl S.g S.k S.b .nil pass0 (pa_cons (pe_callN EVok r21' rfl EVg EVk kbEV pass0 (pa_cons (pv 5) (pa_cons (pv 10) pa_nil)) (pk_cons (pv 12) pk_nil)) (pa_cons (pv 11) pa_nil))))) (pw_or1 (pt_cmpR (op_neSame hr.units) (pv 6) (pv 8) (nomark _))))) (pss_one (ps_ret pe_bl)) pss_nil))))))
 (C8.pss_cut (ps_set (i := 13) scLaw.nd rfl (Or.inl rfl) (pe_call Ex.ok r9' rfl Ex.g Ex.k Ex.b .nil pass0 (pa_cons (pv 1) (pa_cons (pe_lst pa_nil) (pa_cons pe_int pa_nil)))))
 (pss_one (ps_if (pt_cmpR (op_neD hr.units) (pe_call (dvs := [V.ref dE]) EVok r21' rfl EVg EVk bEV (.cons rfl .nil) pass0 (pa_cons (pv 13) (pa_cons (pe_tup (pa_cons pe_int (pa_cons pe_int pa_nil))) pa_nil))) (pe_call Ev.ok r19' rfl Ev.g Ev.k Ev.b .nil pass0 (pa_cons (pv 13) (pa_cons (pe_tup (pa_cons pe_int (pa_cons pe_int pa_nil))) (pa_cons pe_dnewK pa_nil)))) (nomark _)) (pss_one (ps_ret pe_bl)) pss_nil)))))))))))
 (pss_one (ps_ret (pe_cmpR (op_eqD hr.units) (pe_call (dvs := [V.ref dE]) EVok r21' rfl EVg EVk bEV (.cons rfl .nil) pass0 (pa_cons (pe_tup (pa_cons pe_str (pa_cons (pe_tup (pa_cons pe_str (pa_cons (pe_tup (pa_cons pe_str pa_nil)) (pa_cons (pe_tup (pa_cons pe_str (pa_cons (pe_tup (pa_cons pe_int (pa_cons pe_int pa_nil))) pa_nil))) pa_nil)))) pa_nil))) (pa_cons (pe_tup (pa_cons pe_int (pa_cons pe_int pa_nil))) pa_nil))) (pe_tup (pa_cons pe_int (pa_cons pe_int pa_nil))) (nomark _)))))), ?_⟩
    have small : ∀ z : Int, 0 ≤ z → z ≤ 1000 → z.natAbs < 2 ^ 8000 := fun z h0 h1 => big_lt (n := 10) (Nat.lt_of_le_of_lt (by omega : z.natAbs ≤ 1000) (by decide)) (by decide)
    refine ⟨_, rfl, a, ns, rfl, hS, hl, fun G0 p q sd s0 R0 np nq => ?_⟩
    clear s0 np nq hS hl
    refine ⟨4, rfl, by decide, by decide, for_range (lo := 0) (n := 4) (fun _ σ G => ∃ (i v sd : Int) (o2 o3 o4 o5 o6 o7 o8 o9 o10 o11 o12 o13 : Option V), σ = [some (.ref a), some (.ref p), o2, o3, o4, o5, o6, o7, o8, o9, o10, o11, o12, o13] ∧ RngAt G p q ns i v sd)
      ⟨0, 0, sd, none, none, none, none, none, none, none, none, none, none, none, none, rfl, R0⟩ ?_ ?_⟩
    · rintro j σ G _ ⟨i, v, sd, o2, o3, o4, o5, o6, o7, o8, o9, o10, o11, o12, o13, rfl, R⟩
      generalize hj0 : (0 + (j : Int)) = tj
      -- names
      refine ⟨fun σ G => ∃ (n : Addr) (ys : List Str) (i v sd : Int), σ = [some (.ref a), some (.ref p), some (.int tj), some (.ref n), o4, o5, o6, o7, o8, o9, o10, o11, o12, o13] ∧ N5 G p n ys ∧ RngAt G p q ns i v sd, ?_, ?_⟩
      · subst hj0
        refine ⟨_, rfl, p, q, ns, i, v, sd, 5, rfl, R, by decide, by decide, fun G1 l ys i1 v1 sd1 K1 R1 nl nlp hl hyl hys hnd => ?_⟩
        exact ⟨l, ys, i1, v1, sd1, rfl, ⟨hl, nlp, by omega, hys, hnd⟩, R1⟩
      clear R
      rintro σ G ⟨n, ys, i, v, sd, rfl, hn, R⟩
      have y5 := hn.2.2.1
      have c4 : cutV (ys.map V.str) none (some 4) = (ys.take 4).map V.str := by rw [show (4 : Int) = ((4 : Nat) : Int) from rfl, cut_to, List.map_take]
      have t4 : (ys.take 4).length = 4 := by rw [List.length_take]; omega
      have ok4 : ∀ y ∈ ys.take 4, NmOk y := fun y hy => hn.2.2.2.1 y (List.mem_of_mem_take hy)
      have nd4 : (ys.take 4).Nodup := hn.2.2.2.2.sublist (List.take_sublist _ _)
      -- defined
      refine ⟨fun σ G => ∃ (d : Addr) (us : List V) (bs : List (Str × Ew.Ex)) (i v sd : Int), σ = [some (.ref a), some (.ref p), some (.int tj), some (.ref n), some (.ref d), o5, o6, o7, o8, o9, o10, o11, o12, o13] ∧ N5 G p n ys ∧ Ds G p d us bs ∧ Wf bs ∧ bs.map Prod.fst = ys.take 4 ∧ RngAt G p q ns i v sd, ?_, ?_⟩
      · refine ⟨_, rfl, _, rfl, 4, rfl, n, _, rfl, SqL.of hn.1, fun l hl => ?_⟩
        rw [c4]
        have s1 := same_upd (o := .lst ((ys.take 4).map V.str)) (Same.refl G) hl
        refine ⟨p, q, l, ns, i, v, sd, ys.take 4, rfl, R.same s1, upd_same, R.free hl, ok4, nd4, by omega, fun G1 d us bs i1 v1 sd1 K1 R1 nd ndp hd al wf hb => ?_⟩
        exact ⟨d, us, bs, i1, v1, sd1, rfl, (hn.kb (KeepBut.of s1)).kb K1, ⟨hd, ndp, al⟩, wf, hb, R1⟩
      clear hn R
      rintro σ G ⟨d, us, bs, i, v, sd, rfl, hn, hd, wf, hb, R⟩
      have b4 : bs.length = 4 := by rw [← t4, ← hb, List.length_map]
      -- expression
      refine ⟨fun σ G => ∃ (u : V) (e : Ew.Ex) (i v sd : Int), σ = [some (.ref a), some (.ref p), some (.int tj), some (.ref n), some (.ref d), some u, o6, o7, o8, o9, o10, o11, o12, o13] ∧ N5 G p n ys ∧ Ds G p d us bs ∧ ExAt G e u ∧ e.dep ≤ 4 ∧ e.Of (namesOf bs) SixFr ∧ RngAt G p q ns i v sd, ?_, ?_⟩
      · refine ⟨_, rfl, _, rfl, 4, rfl, n, _, rfl, SqL.of hn.1, fun l hl => ?_⟩
        rw [c4]
        have s1 := same_upd (o := .lst ((ys.take 4).map V.str)) (Same.refl G) hl
        refine ⟨p, q, l, ns, i, v, sd, 4, ys.take 4, rfl, R.same s1, upd_same, R.free hl, ok4, by omega, by decide, by decide, fun G1 u e i1 v1 sd1 K1 R1 hu hde hof => ?_⟩
        have k1 := (KeepBut.of s1).trans K1
        exact ⟨u, e, i1, v1, sd1, rfl, hn.kb k1, hd.kb k1 (tk_kb R k1), hu, by omega, by rw [← hb] at hof; exact hof, R1⟩
      clear hn hd R
      rintro σ G ⟨u, e, i, v, sd, rfl, hn, hd, hu, hde, hof, R⟩
      obtain ⟨n5, h5⟩ : ∃ n5, ys[4]? = some n5 := ⟨_, List.getElem?_eq_getElem (by omega)⟩
      have n5n : n5 ∉ bs.map Prod.fst := fun h => by
        rw [hb] at h
        have e1 := List.take_append_drop 4 ys
        rw [List.drop_eq_getElem_cons (by omega), (List.getElem?_eq_some_iff.mp h5).2] at e1
        have := hn.2.2.2.2
        rw [← e1] at this
        exact (List.nodup_append.mp this).2.2 _ h _ List.mem_cons_self rfl
      have a5 : atI (ys.map V.str) 4 = some (.str n5) := by
        rw [show (4 : Int) = ((4 : Nat) : Int) from rfl]
        exact atI_nat (by rw [List.getElem?_map, h5]; rfl)
      -- handed, spare
      refine ⟨fun σ G => ∃ (hh : Addr) (sp : V) (i v sd : Int), σ = [some (.ref a), some (.ref p), some (.int tj), some (.ref n), some (.ref d), some u, some (.ref hh), some sp, o8, o9, o10, o11, o12, o13] ∧ N5 G p n ys ∧ Ds G p d us bs ∧ ExAt G e u ∧ Ds G p hh us bs ∧ hh ≠ d ∧ hh ≠ q ∧ DefAt G sp (n5, .call n5 .x) ∧ RngAt G p q ns i v sd, ?_, ?_⟩
      · refine ⟨_, rfl, d, us, rfl, .inl (SqL.of hd.1), fun hh nh => ?_⟩
        have s1 := same_upd (o := .lst us) (Same.refl G) nh
        have hh1 : upd G hh (.lst us) hh = some (.lst us) := upd_same
        have dh : hh ≠ d := (ne_of_none hd.1 nh).symm
        have nhp := R.free nh
        have nhq := R.freeq nh
        generalize upd G hh (.lst us) = G1 at s1 hh1
        refine ⟨_, rfl, n, _, _, _, rfl, rfl, SqL.of (s1 _ _ hn.1), a5, ?_⟩
        refine ⟨_, rfl, n, _, _, _, rfl, rfl, SqL.of (s1 _ _ hn.1), a5, (by show 1 ≤ sizeLine; decide), fun x1 h1 => ⟨(by show 3 ≤ sizeLine; decide), fun x2 h2 => ⟨(by show 2 ≤ sizeLine; decide), fun x3 h3 => ?_⟩⟩⟩
        have s2 := same_upd (o := .tup [.str "x"]) (Same.refl G1) h1
        have q2 : upd G1 x1 (.tup [.str "x"]) x1 = some (.tup [.str "x"]) := upd_same
        generalize upd G1 x1 (.tup [.str "x"]) = G2 at s2 q2 h2 h3
        have s3 := same_upd (o := .tup [.str "call", .str n5, .ref x1]) (Same.refl G2) h2
        have q3 : upd G2 x2 (.tup [.str "call", .str n5, .ref x1]) x2 = some (.tup [.str "call", .str n5, .ref x1]) := upd_same
        generalize upd G2 x2 (.tup [.str "call", .str n5, .ref x1]) = G3 at s3 q3 h3
        have s4 := same_upd (o := .tup [.str n5, .ref x2]) (Same.refl G3) h3
        have q4 : upd G3 x3 (.tup [.str n5, .ref x2]) x3 = some (.tup [.str n5, .ref x2]) := upd_same
        generalize upd G3 x3 (.tup [.str n5, .ref x2]) = G4 at s4 q4
        have s24 := (s2.trans s3).trans s4
        have s14 := s1.trans s24
        have kb := KeepBut.of (p := p) s14
        refine ⟨_, _, rfl, hh, .ref x3, i, v, sd, rfl, hn.kb kb, hd.kb kb (Tk.of s14), hu.same s14, ⟨s24 _ _ hh1, nhp, hd.2.2.imp fun _ _ z => z.tk (Tk.of s14)⟩, dh, nhq, ⟨x3, .ref x2, rfl, q4, x2, .ref x1, rfl, s4 _ _ q3, x1, rfl, s4 _ _ (s3 _ _ q2)⟩, R.same s14⟩
      clear hn hd hu R
      rintro σ G ⟨hh, sp, i, v, sd, rfl, hn, hd, hu, hk, nhd, nhq, hsp, R⟩
      -- the spare one
      refine ⟨fun σ G => ∃ (ws : List V) (ds : List (Str × Ew.Ex)) (i v sd : Int), σ = [some (.ref a), some (.ref p), some (.int tj), some (.ref n), some (.ref d), some u, some (.ref hh), some sp, o8, o9, o10, o11, o12, o13] ∧ Ds G p d us bs ∧ ExAt G e u ∧ Ds G p hh ws ds ∧ hh ≠ d ∧ DsOk bs ds ∧ RngAt G p q ns i v sd, ?_, ?_⟩
      · refine ⟨_, rfl, p, q, ns, i, v, sd, 2, rfl, R, by decide, small _ (by decide) (by decide), fun x2 i2 v2 sd2 x20 x21 ok2 => ?_⟩
        have R2 := R.next ok2
        have K2 : KeepBut p G _ := KeepBut.put (o := .lst (rngL q i2 v2 sd2))
        have T2 := tk_kb R K2
        have hd := hd.kb K2 T2
        have hk := hk.kb K2 T2
        have hu := ExAt.tk T2 hu
        have hsp := hsp.tk T2
        generalize upd G p (.lst (rngL q i2 v2 sd2)) = G2 at *
        refine ⟨rfl, _, rfl, ?_⟩
        by_cases c : x2 = 0
        · refine ifT (decide_eq_true (by rw [c])) ⟨_, rfl, .inl ⟨rfl, _, SqL.of hk.1⟩, _, rfl, hh, _, _, rfl, rfl, hk.1, by have := hk.2.2.len; rw [this, b4, sizeLine_eq]; decide, ?_⟩
          have k3 : Kp G2 (upd G2 hh (.lst (us ++ [sp]))) := Kp.put hk.1
          have t3 : Tk G2 (upd G2 hh (.lst (us ++ [sp]))) := fun c ys hc => by
            rw [upd_ne (ne_of hc hk.1 (fun z => nomatch z))]
            exact hc
          refine ⟨us ++ [sp], bs ++ [(n5, .call n5 .x)], i2, v2, sd2, rfl, ⟨by rw [upd_ne nhd.symm]; exact hd.1, hd.2.1, hd.2.2.imp fun _ _ z => z.tk t3⟩, ExAt.tk t3 hu, ⟨upd_same, hk.2.1, (hk.2.2.imp fun _ _ z => z.tk t3).snoc (hsp.tk t3)⟩, nhd, dsOk_more wf (by omega) n5n, R2.off hk.2.1 nhq⟩
        · refine ifF (decide_eq_false (fun z => c (by injection z))) ?_
          exact ⟨us, bs, i2, v2, sd2, rfl, hd, hu, hk, nhd, dsOk_self wf (by omega), R2⟩
      clear hn hd hu hk hsp R
      rintro σ G ⟨ws, ds, i, v, sd, rfl, hd, hu, hk, nhd, ok, R⟩
      -- kept
      refine ⟨fun σ G => ∃ (kk : Addr) (i v sd : Int), σ = [some (.ref a), some (.ref p), some (.int tj), some (.ref n), some (.ref d), some u, some (.ref hh), some sp, some (.ref kk), o9, o10, o11, o12, o13] ∧ Ds G p d us bs ∧ ExAt G e u ∧ Ds G p hh ws ds ∧ Ds G p kk ws ds ∧ RngAt G p q ns i v sd, ?_, ?_⟩
      · refine ⟨_, rfl, hh, ws, rfl, .inl (SqL.of hk.1), fun kk nk => ?_⟩
        have s1 := same_upd (o := .lst ws) (Same.refl G) nk
        have kb := KeepBut.of (p := p) s1
        have hk1 := hk.kb kb (Tk.of s1)
        exact ⟨kk, i, v, sd, rfl, hd.kb kb (Tk.of s1), hu.same s1, hk1, ⟨upd_same, R.free nk, hk1.2.2⟩, R.same s1⟩
      clear hd hu hk R
      rintro σ G ⟨kk, i, v, sd, rfl, hd, hu, hk, hkk, R⟩
      have refs : ∀ y ∈ ws, ∃ c, y = V.ref c := fun y hy => by
        obtain ⟨j, hj⟩ := List.getElem?_of_mem hy
        have jl := (List.getElem?_eq_some_iff.mp hj).1
        have e1 := hk.2.2.len
        obtain ⟨z, hz⟩ : ∃ z, ds[j]? = some z := ⟨_, List.getElem?_eq_getElem (by omega)⟩
        obtain ⟨c, _, rfl, _⟩ := hk.2.2.at_ j y z hj hz
        exact ⟨c, rfl⟩
      -- three numbers
      refine ⟨fun σ G => ∃ (o9 o10 o11 o12 : Option V) (i v sd : Int), σ = [some (.ref a), some (.ref p), some (.int tj), some (.ref n), some (.ref d), some u, some (.ref hh), some sp, some (.ref kk), o9, o10, o11, o12, o13] ∧ RngAt G p q ns i v sd, ?_, ?_⟩
      · refine ⟨3, rfl, by decide, by decide, for_range (lo := 0) (n := 3) (fun _ σ G => ∃ (o9 o10 o11 o12 : Option V) (i v sd : Int), σ = [some (.ref a), some (.ref p), some (.int tj), some (.ref n), some (.ref d), some u, some (.ref hh), some sp, some (.ref kk), o9, o10, o11, o12, o13] ∧ Ds G p d us bs ∧ ExAt G e u ∧ Ds G p hh ws ds ∧ Ds G p kk ws ds ∧ RngAt G p q ns i v sd)
          ⟨_, _, _, _, i, v, sd, rfl, hd, hu, hk, hkk, R⟩ ?_ ?_⟩
        · clear hd hu hk hkk R
          rintro j2 σ G _ ⟨o9, o10, o11, o12, i, v, sd, rfl, hd, hu, hk, hkk, R⟩
          refine ⟨_, rfl, p, q, ns, i, v, sd, 9, 4, rfl, R, by decide, by decide, by decide, fun G1 r y i1 v1 sd1 K1 R1 nr hr1 sz => ?_⟩
          have T1 := tk_kb R K1
          have hd := hd.kb K1 T1
          have hk := hk.kb K1 T1
          have hkk := hkk.kb K1 T1
          have hu := ExAt.tk T1 hu
          have hx : QAt G1 (.ref r) y := ⟨r, rfl, hr1⟩
          clear K1 T1 R
          obtain ⟨ps, kvs, e1, prs, tb, ke⟩ := defs_pairs (K := K) hd.2.2
          have mk : mergeK [] kvs = kvs := by
            have := merge_fresh kvs [] (by rw [ke]; exact pairs_nd (wf_nd wf)) (fun _ _ => rfl)
            exact this
          refine ⟨_, rfl, _, rfl, _, rfl, d, ps, kvs, rfl, SqL.of (by rw [← e1]; exact hd.1), prs, fun t nt => ?_⟩
          rw [mk]
          have s2 := same_upd (o := .dK kvs) (Same.refl G1) nt
          have q2 : upd G1 t (.dK kvs) t = some (.dK kvs) := upd_same
          generalize upd G1 t (.dK kvs) = G2 at s2 q2
          refine ⟨bs, e, u, .ref r, t, y, 4, 4, rfl, ⟨wf, hu.same s2, hx.tk (Tk.of s2), hof, sz, by have := wd_main wf (by omega) hde; omega, fun m hm => Nat.le_trans (rk_le bs m) (by omega)⟩, ⟨kvs, q2, (tb.tk (Tk.of s2)).val (wf_nd wf)⟩, by omega, fun G3 z s3 hz => ?_⟩
          have s13 := s2.trans s3
          -- given
          refine ⟨_, rfl, _, rfl, _, rfl, hh, ws, rfl, .inl ⟨SqL.of (s13 _ _ hk.1), fun tt ntt => ?_⟩⟩
          have s4 := same_upd (o := .tup ws) (Same.refl G3) ntt
          have q4 : upd G3 tt (.tup ws) tt = some (.tup ws) := upd_same
          generalize upd G3 tt (.tup ws) = G4 at s4 q4
          refine ⟨(by show 2 ≤ sizeLine; decide), fun lp nlp => ?_⟩
          have s5 := same_upd (o := .lst [.ref hh, .ref tt]) (Same.refl G4) nlp
          have q5 : upd G4 lp (.lst [.ref hh, .ref tt]) lp = some (.lst [.ref hh, .ref tt]) := upd_same
          have lpp := (R1.same (s13.trans s4)).free nlp
          generalize upd G4 lp (.lst [.ref hh, .ref tt]) = G5 at s5 q5
          have s15 := (s13.trans s4).trans s5
          refine ⟨p, q, ns, i1, v1, sd1, R1.same s15, .inl ⟨lp, _, rfl, q5, lpp, by simp, by show 2 ≤ 1000; decide, fun gv i6 v6 sd6 hgv ok6 => ?_⟩⟩
          have K6 : KeepBut p G5 _ := KeepBut.put (o := .lst (rngL q i6 v6 sd6))
          have T6 := tk_kb (R1.same s15) K6
          have R6 := (R1.same s15).next ok6
          have K16 := (KeepBut.of (p := p) s15).trans K6
          have T16 := (Tk.of s15).trans T6
          have hz6 : QAt _ z _ := hz.tk ((Tk.of (s4.trans s5)).trans T6)
          have hx6 := hx.tk T16
          have hd6 := hd.kb K16 T16
          have hk6 := hk.kb K16 T16
          have hkk6 := hkk.kb K16 T16
          have hu6 := ExAt.tk T16 hu
          have q6 : upd G5 p (.lst (rngL q i6 v6 sd6)) tt = some (.tup ws) := T6 _ _ (s5 _ _ q4)
          generalize upd G5 p (.lst (rngL q i6 v6 sd6)) = G6 at *
          obtain ⟨gl, rfl, hgl⟩ : ∃ gl, gv = .ref gl ∧ SeqV K G6 gl ws := by
            simp only [List.mem_cons, List.not_mem_nil, or_false] at hgv
            rcases hgv with rfl | rfl
            · exact ⟨hh, rfl, .inl (SqL.of hk6.1)⟩
            · exact ⟨tt, rfl, .inr (SqT.of q6)⟩
          refine ⟨_, rfl, _, rfl, _, rfl, rfl, rfl, u, .ref r, gl, ws, e, bs, ds, y, rfl, hu6, hde, hof, hx6, sz.le (by decide), hgl, hk6.2.2, ok.nd, ok.sub, wf, by omega, ok.few, ok.dp, fun G7 z7 s7 hz7 => ?_⟩
          refine ⟨_, rfl, _, _, rfl, same_q hz7 (hz6.tk (Tk.of s7)), fun G8 s8 => ⟨true, rfl, ?_⟩⟩
          have s68 := s7.trans s8
          have kb8 := KeepBut.of (p := p) s68
          have t8 := Tk.of s68
          have hk8 := hk6.kb kb8 t8
          have hkk8 := hkk6.kb kb8 t8
          refine iteF ⟨_, rfl, _, rfl, hh, kk, ws, rfl, rfl, hk8.1, hkk8.1, refs, _, rfl, iteF ?_⟩
          exact ⟨_, _, _, _, i6, v6, sd6, rfl, hd6.kb kb8 t8, hu6.same s68, hk8, hkk8, R6.same s68⟩
        · rintro σ G ⟨o9, o10, o11, o12, i, v, sd, rfl, _, _, _, _, R⟩
          exact ⟨_, _, _, _, i, v, sd, rfl, R⟩
      clear hd hu hk hkk R
      rintro σ G ⟨o9, o10, o11, o12, i, v, sd, rfl, R⟩
      -- a plain one
      refine ⟨fun σ G => ∃ (u2 : V) (e : Ew.Ex) (i v sd : Int), σ = [some (.ref a), some (.ref p), some (.int tj), some (.ref n), some (.ref d), some u, some (.ref hh), some sp, some (.ref kk), o9, o10, o11, o12, some u2] ∧ ExAt G e u2 ∧ e.dep ≤ 4 ∧ e.Of (namesOf []) SixFr ∧ RngAt G p q ns i v sd, ?_, ?_⟩
      · refine ⟨_, rfl, (by show 0 ≤ sizeLine; decide), fun l hl => ?_⟩
        have s1 := same_upd (o := .lst []) (Same.refl G) hl
        refine ⟨p, q, l, ns, i, v, sd, 4, [], rfl, R.same s1, upd_same, R.free hl, (fun y hy => nomatch hy), by decide, by decide, by decide, fun G1 u2 e i1 v1 sd1 K1 R1 hu hde hof => ?_⟩
        exact ⟨u2, e, i1, v1, sd1, rfl, hu, by omega, hof, R1⟩
      clear R
      rintro σ G ⟨u2, e2, i, v, sd, rfl, hu, hde, hof, R⟩
      have z13 : Sz 4 (Rat.divInt 1 3) := ⟨by decide +kernel, by decide +kernel⟩
      have q13 : ([V.int 1, V.int 3] : List V) = qV (Rat.divInt 1 3) := qV_of (n := 1) (d := 3) ⟨by decide, by decide⟩
      have wd2 := wd_main (bs := []) trivial (by decide) hde
      refine ⟨_, rfl, (by show 2 ≤ sizeLine; decide), fun t1 h1 => ?_⟩
      have s1 := same_upd (o := .tup [.int 1, .int 3]) (Same.refl G) h1
      have x1 : QAt (upd G t1 (.tup [.int 1, .int 3])) (.ref t1) (Rat.divInt 1 3) := ⟨t1, rfl, by rw [← q13]; exact upd_same⟩
      generalize upd G t1 (.tup [.int 1, .int 3]) = G1 at s1 x1
      refine ⟨u2, .ref t1, dE, [], e2, [], [], Rat.divInt 1 3, rfl, hu.same s1, hde, hof, x1, z13.le (by decide), .inr (SE _), All2.nil, List.nodup_nil, (fun _ h => h), trivial, by decide, by decide, (fun _ h => nomatch h), fun G2 y s2 hy => ?_⟩
      refine ⟨_, rfl, (by show 2 ≤ sizeLine; decide), fun t2 h2 => ?_⟩
      have s3 := same_upd (o := .tup [.int 1, .int 3]) (Same.refl G2) h2
      have x3 : QAt (upd G2 t2 (.tup [.int 1, .int 3])) (.ref t2) (Rat.divInt 1 3) := ⟨t2, rfl, by rw [← q13]; exact upd_same⟩
      generalize upd G2 t2 (.tup [.int 1, .int 3]) = G3 at s3 x3
      intro dd hdd
      have s4 := same_upd (o := .dK []) (Same.refl G3) hdd
      have x4 : upd G3 dd (.dK []) dd = some (.dK []) := upd_same
      generalize upd G3 dd (.dK []) = G4 at s4 x4
      have s14 := (s1.trans s2).trans (s3.trans s4)
      refine ⟨[], e2, u2, .ref t2, dd, Rat.divInt 1 3, 4, 0, rfl, ⟨trivial, hu.same s14, x3.tk (Tk.of s4), hof, z13, by omega, fun m hm => Nat.zero_le _⟩, ⟨[], x4, fun n e hm => (nomatch hm)⟩, by omega, fun G5 z s5 hz => ?_⟩
      have s25 := (s3.trans s4).trans s5
      refine ⟨_, _, dpRat (hy.tk (Tk.of s25)), dpRat hz, ratD_shaped _, ratD_shaped _, _, rfl, ?_⟩
      rw [SeqAt.eqv_refl _ (SeqAt.canLay_of_shaped (ratD_shaped _))]
      refine iteF ?_
      exact ⟨i, v, sd, _, _, _, _, _, _, _, _, _, _, _, _, rfl, R.same (s14.trans s5)⟩
    · rintro σ G ⟨i, v, sd, o2, o3, o4, o5, o6, o7, o8, o9, o10, o11, o12, o13, rfl, R⟩
      refine ⟨(by show 1 ≤ sizeLine; decide), fun t1 h1 => ⟨(by show 2 ≤ sizeLine; decide), fun t2 h2 => ⟨(by show 2 ≤ sizeLine; decide), fun t3 h3 => ⟨(by show 3 ≤ sizeLine; decide), fun t4 h4 => ⟨(by show 2 ≤ sizeLine; decide), fun t5 h5 => ⟨(by show 2 ≤ sizeLine; decide), fun t6 h6 => ?_⟩⟩⟩⟩⟩⟩
      have s1 := same_upd (o := .tup [.str "x"]) (Same.refl G) h1
      have q1 : upd G t1 (.tup [.str "x"]) t1 = some (.tup [.str "x"]) := upd_same
      generalize upd G t1 (.tup [.str "x"]) = G1 at *
      have s2 := same_upd (o := .tup [.int 1, .int 1]) (Same.refl G1) h2
      have q2 : upd G1 t2 (.tup [.int 1, .int 1]) t2 = some (.tup [.int 1, .int 1]) := upd_same
      generalize upd G1 t2 (.tup [.int 1, .int 1]) = G2 at *
      have s3 := same_upd (o := .tup [.str "number", .ref t2]) (Same.refl G2) h3
      have q3 : upd G2 t3 (.tup [.str "number", .ref t2]) t3 = some (.tup [.str "number", .ref t2]) := upd_same
      generalize upd G2 t3 (.tup [.str "number", .ref t2]) = G3 at *
      have s4 := same_upd (o := .tup [.str "subtract", .ref t1, .ref t3]) (Same.refl G3) h4
      have q4 : upd G3 t4 (.tup [.str "subtract", .ref t1, .ref t3]) t4 = some (.tup [.str "subtract", .ref t1, .ref t3]) := upd_same
      generalize upd G3 t4 (.tup [.str "subtract", .ref t1, .ref t3]) = G4 at *
      have s5 := same_upd (o := .tup [.str "abs", .ref t4]) (Same.refl G4) h5
      have q5 : upd G4 t5 (.tup [.str "abs", .ref t4]) t5 = some (.tup [.str "abs", .ref t4]) := upd_same
      generalize upd G4 t5 (.tup [.str "abs", .ref t4]) = G5 at *
      have s6 := same_upd (o := .tup [.int 1, .int 3]) (Same.refl G5) h6
      have q6 : upd G5 t6 (.tup [.int 1, .int 3]) t6 = some (.tup [.int 1, .int 3]) := upd_same
      generalize upd G5 t6 (.tup [.int 1, .int 3]) = G6 at *
      have q13 : ([V.int 1, V.int 3] : List V) = qV (Rat.divInt 1 3) := qV_of (n := 1) (d := 3) ⟨by decide, by decide⟩
      have q11 : ([V.int 1, V.int 1] : List V) = qV (Rat.divInt 1 1) := qV_of (n := 1) (d := 1) ⟨by decide, by decide⟩
      have q23 : ([V.int 2, V.int 3] : List V) = qV (Rat.divInt 2 3) := qV_of (n := 2) (d := 3) ⟨by decide, by decide⟩
      have z13 : Sz 13 (Rat.divInt 1 3) := ⟨by decide +kernel, by decide +kernel⟩
      have six : SixFr (Rat.divInt 1 1) := by unfold SixFr; decide +kernel
      have s46 := s5.trans s6
      have s36 := s4.trans s46
      have s26 := s3.trans s36
      have s16 := s2.trans s26
      refine ⟨.ref t5, .ref t6, dE, [], .abs (.bin .sub .x (.num (Rat.divInt 1 1))), [], [], Rat.divInt 1 3, rfl, ⟨t5, .ref t4, rfl, s6 _ _ q5, t4, .ref t1, .ref t3, rfl, s46 _ _ q4, ⟨t1, rfl, s16 _ _ q1⟩, t3, .ref t2, rfl, s36 _ _ q3, t2, rfl, by rw [← q11]; exact s26 _ _ q2⟩, by decide, ⟨trivial, six⟩, ⟨t6, rfl, by rw [← q13]; exact q6⟩, z13, .inr (SE _), All2.nil, List.nodup_nil, (fun _ h => h), trivial, by decide, by decide, (fun _ h => nomatch h), fun G7 y s7 hy => ?_⟩
      have ev : Ew.Ex.ev (fnOf []) (Rat.divInt 1 3) (.abs (.bin .sub .x (.num (Rat.divInt 1 1)))) = Rat.divInt 2 3 := by
        show absR (Rat.divInt 1 3 - Rat.divInt 1 1) = Rat.divInt 2 3
        unfold absR
        decide +kernel
      rw [ev] at hy
      refine ⟨(by show 2 ≤ sizeLine; decide), fun t7 h7 => ?_⟩
      have s8 := same_upd (o := .tup [.int 2, .int 3]) (Same.refl G7) h7
      have q8 : QAt (upd G7 t7 (.tup [.int 2, .int 3])) (.ref t7) (Rat.divInt 2 3) := ⟨t7, rfl, by rw [← q23]; exact upd_same⟩
      generalize upd G7 t7 (.tup [.int 2, .int 3]) = G8 at *
      refine ⟨_, _, dpRat (hy.tk (Tk.of s8)), dpRat q8, ratD_shaped _, ratD_shaped _, ?_⟩
      rw [SeqAt.eqv_refl _ (SeqAt.canLay_of_shaped (ratD_shaped _))]
      exact k _
end K18
namespace K18
open PySem PySem.Spec PyProof.Rows L2 Ew
theorem all_mk {l : PySem.W.OpenLaw} {w : World} {K : PySem.W.Frag} {h : Heap} {mg : Str → Option Value} {fa CO fIO CA fCI fVA fVO fVC fG fSu fDf fPr fRl fSm fGr fPo fCn fFN fCB fPF fVP fB fD fP fS fL fPl fMi fTi fLs fAF fLe fNa fTF fEx fEv fDe fFr fLaw : Addr} (X : K.In h) (G : h.Ns mainGlobals mg) (hfa : mg "law" = some (.ref fa)) 
    {fEV : Addr} 
    (nO : PySem.W.nsIn K mainGlobals "OutOfRange" = some (some (.ref CO)))
    (oO : OexC K CO)
    (fO_ : XfC K CO)
    (tO : PySem.W.findIn K (.ref CO) "tag" = some none)
    (iO : PySem.W.findIn K (.ref CO) "__init__" = some (some (.ref fIO)))
    (yO : PySem.W.typeIn K (.ref fIO) = some (.type "function"))
    (dO : Ew.DefAt K "__init__" "OutOfRange.__init__" sOutOfRange_init fIO)
    (nC : PySem.W.nsIn K mainGlobals "Calculator" = some (some (.ref CA)))
    (cC : Cls K CA)
    (mC : PySem.W.makesIn K CA = true)
    (kC : PySem.W.keepIn K (.ref CA) = true)
    (aC_orders : PySem.W.findIn K (.ref CA) "orders" = some none)
    (aC_known : PySem.W.findIn K (.ref CA) "known" = some none)
    (iC : PySem.W.findIn K (.ref CA) "__init__" = some (some (.ref fCI)))
    (iFC : PySem.W.isFn K (.ref fCI) = true)
    (d_fCI : Ew.DefAt K "__init__" "Calculator.__init__" sCalculator_init fCI)
    (m_fVA : PySem.W.findIn K (.ref CA) "value_at" = some (some (.ref fVA)))
    (i_fVA : PySem.W.isFn K (.ref fVA) = true)
    (k_fVA : PySem.W.keepIn K (.ref fVA) = true)
    (d_fVA : Ew.DefAt K "value_at" "Calculator.value_at" sCalculator_value_at fVA)
    (m_fVO : PySem.W.findIn K (.ref CA) "value_of" = some (some (.ref fVO)))
    (i_fVO : PySem.W.isFn K (.ref fVO) = true)
    (k_fVO : PySem.W.keepIn K (.ref fVO) = true)
    (d_fVO : Ew.DefAt K "value_of" "Calculator.value_of" sCalculator_value_of fVO)
    (m_fVC : PySem.W.findIn K (.ref CA) "value_of_call" = some (some (.ref fVC)))
    (i_fVC : PySem.W.isFn K (.ref fVC) = true)
    (k_fVC : PySem.W.keepIn K (.ref fVC) = true)
    (d_fVC : Ew.DefAt K "value_of_call" "Calculator.value_of_call" sCalculator_value_of_call fVC)
    (n_fEV : PySem.W.nsIn K mainGlobals "evaluate" = some (some (.ref fEV)))
    (d_fEV : KwAt K "evaluate" "definitions" sEvaluate fEV)
    (n_fG : PySem.W.nsIn K mainGlobals "common_divisor" = some (some (.ref fG)))
    (d_fG : Ew.DefAt K "common_divisor" "common_divisor" sGcd fG)
    (n_fSu : PySem.W.nsIn K mainGlobals "sum_of" = some (some (.ref fSu)))
    (d_fSu : Ew.DefAt K "sum_of" "sum_of" sSumOf fSu)
    (n_fDf : PySem.W.nsIn K mainGlobals "difference" = some (some (.ref fDf)))
    (d_fDf : Ew.DefAt K "difference" "difference" sDifference fDf)
    (n_fPr : PySem.W.nsIn K mainGlobals "product" = some (some (.ref fPr)))
    (d_fPr : Ew.DefAt K "product" "product" sProduct fPr)
    (n_fRl : PySem.W.nsIn K mainGlobals "is_less" = some (some (.ref fRl)))
    (d_fRl : Ew.DefAt K "is_less" "is_less" sIsLess fRl)
    (n_fSm : PySem.W.nsIn K mainGlobals "smaller_of" = some (some (.ref fSm)))
    (d_fSm : Ew.DefAt K "smaller_of" "smaller_of" sSmallerOf fSm)
    (n_fGr : PySem.W.nsIn K mainGlobals "greater_of" = some (some (.ref fGr)))
    (d_fGr : Ew.DefAt K "greater_of" "greater_of" sGreaterOf fGr)
    (n_fPo : PySem.W.nsIn K mainGlobals "parts_of" = some (some (.ref fPo)))
    (d_fPo : Ew.DefAt K "parts_of" "parts_of" sPartsOf fPo)
    (n_fCn : PySem.W.nsIn K mainGlobals "called_names" = some (some (.ref fCn)))
    (d_fCn : Ew.DefAt K "called_names" "called_names" sCalledNames fCn)
    (n_fFN : PySem.W.nsIn K mainGlobals "follow_names" = some (some (.ref fFN)))
    (d_fFN : Ew.DefAt K "follow_names" "follow_names" sFollowNames fFN)
    (n_fCB : PySem.W.nsIn K mainGlobals "checked_bodies" = some (some (.ref fCB)))
    (d_fCB : Ew.DefAt K "checked_bodies" "checked_bodies" sCheckedBodies fCB)
    (n_fPF : PySem.W.nsIn K mainGlobals "parts_first" = some (some (.ref fPF)))
    (d_fPF : Ew.DefAt K "parts_first" "parts_first" sPartsFirst fPF)
    (n_fVP : PySem.W.nsIn K mainGlobals "value_of_parts" = some (some (.ref fVP)))
    (d_fVP : Ew.DefAt K "value_of_parts" "value_of_parts" sValueOfParts fVP)
    (n_fB : PySem.W.nsIn K mainGlobals "_law_begin" = some (some (.ref fB)))
    (d_fB : Ew.DefAt K "_law_begin" "_law_begin" sBegin fB)
    (n_fD : PySem.W.nsIn K mainGlobals "_law_draw" = some (some (.ref fD)))
    (d_fD : Ew.DefAt K "_law_draw" "_law_draw" sDraw fD)
    (n_fP : PySem.W.nsIn K mainGlobals "_law_pick" = some (some (.ref fP)))
    (d_fP : Ew.DefAt K "_law_pick" "_law_pick" sPick fP)
    (n_fS : PySem.W.nsIn K mainGlobals "_law_same" = some (some (.ref fS)))
    (d_fS : Ew.DefAt K "_law_same" "_law_same" sSame fS)
    (n_fL : PySem.W.nsIn K mainGlobals "_law_lowest" = some (some (.ref fL)))
    (d_fL : Ew.DefAt K "_law_lowest" "_law_lowest" sLowest fL)
    (n_fPl : PySem.W.nsIn K mainGlobals "_law_plus" = some (some (.ref fPl)))
    (d_fPl : Ew.DefAt K "_law_plus" "_law_plus" sLawPlus fPl)
    (n_fMi : PySem.W.nsIn K mainGlobals "_law_minus" = some (some (.ref fMi)))
    (d_fMi : Ew.DefAt K "_law_minus" "_law_minus" sLawMinus fMi)
    (n_fTi : PySem.W.nsIn K mainGlobals "_law_times" = some (some (.ref fTi)))
    (d_fTi : Ew.DefAt K "_law_times" "_law_times" sLawTimes fTi)
    (n_fLs : PySem.W.nsIn K mainGlobals "_law_less" = some (some (.ref fLs)))
    (d_fLs : Ew.DefAt K "_law_less" "_law_less" sLawLess fLs)
    (n_fAF : PySem.W.nsIn K mainGlobals "_law_any_fraction" = some (some (.ref fAF)))
    (d_fAF : Ew.DefAt K "_law_any_fraction" "_law_any_fraction" sLawAnyFraction fAF)
    (n_fLe : PySem.W.nsIn K mainGlobals "_law_letters" = some (some (.ref fLe)))
    (d_fLe : Ew.DefAt K "_law_letters" "_law_letters" sLawLetters fLe)
    (n_fNa : PySem.W.nsIn K mainGlobals "_law_names" = some (some (.ref fNa)))
    (d_fNa : Ew.DefAt K "_law_names" "_law_names" sLawNames fNa)
    (n_fTF : PySem.W.nsIn K mainGlobals "_law_text_fraction" = some (some (.ref fTF)))
    (d_fTF : Ew.DefAt K "_law_text_fraction" "_law_text_fraction" sLawTextFraction fTF)
    (n_fEx : PySem.W.nsIn K mainGlobals "_law_expression" = some (some (.ref fEx)))
    (d_fEx : Ew.DefAt K "_law_expression" "_law_expression" sLawExpression fEx)
    (n_fEv : PySem.W.nsIn K mainGlobals "_law_evaluated" = some (some (.ref fEv)))
    (d_fEv : Ew.DefAt K "_law_evaluated" "_law_evaluated" sLawEvaluated fEv)
    (n_fDe : PySem.W.nsIn K mainGlobals "_law_definitions" = some (some (.ref fDe)))
    (d_fDe : Ew.DefAt K "_law_definitions" "_law_definitions" sLawDefinitions fDe)
    (n_fFr : PySem.W.nsIn K mainGlobals "fraction" = some (some (.ref fFr)))
    (d_fFr : DfltAt K "fraction" sFraction (.int 1) fFr)
    (n_fLaw : PySem.W.nsIn K mainGlobals "law" = some (some (.ref fLaw)))
    (d_fLaw : Ew.DefAt K "law" "law" sLaw fLaw)
    (zlen : PySem.W.nsIn K mainGlobals "len" = some none)
    (zlist : PySem.W.nsIn K mainGlobals "list" = some none)
    (zisinstance : PySem.W.nsIn K mainGlobals "isinstance" = some none)
    (ztuple : PySem.W.nsIn K mainGlobals "tuple" = some none)
    (zall : PySem.W.nsIn K mainGlobals "all" = some none)
    (zzip : PySem.W.nsIn K mainGlobals "zip" = some none)
    (zbool : PySem.W.nsIn K mainGlobals "bool" = some none)
    (zint : PySem.W.nsIn K mainGlobals "int" = some none)
    (zstr : PySem.W.nsIn K mainGlobals "str" = some none)
    (zrange : PySem.W.nsIn K mainGlobals "range" = some none)
    (zabs : PySem.W.nsIn K mainGlobals "abs" = some none)
    (zdict : PySem.W.nsIn K mainGlobals "dict" = some none) :
    ∃ fd : FuncData, (∀ (s : Shared) (u : Value), BindsTo s fd ⟨[u], []⟩ [("_law_script", u)]) ∧ ∀ base : Heap, K.In base → base.Ns mainGlobals mg → FnOk l.prog w K mg base CX0 22 fa fd ["_law_script"] (spLaw K) := by
  have e := hfa.symm.trans (PySem.W.mg_of X G n_fLaw)
  cases e
  obtain ⟨fdO0, FO0⟩ := dO
  obtain ⟨fd_fCI, F_fCI⟩ := d_fCI
  obtain ⟨fd_fVA, F_fVA⟩ := d_fVA
  obtain ⟨fd_fVO, F_fVO⟩ := d_fVO
  obtain ⟨fd_fVC, F_fVC⟩ := d_fVC
  obtain ⟨fd_fG, F_fG⟩ := d_fG
  obtain ⟨fd_fSu, F_fSu⟩ := d_fSu
  obtain ⟨fd_fDf, F_fDf⟩ := d_fDf
  obtain ⟨fd_fPr, F_fPr⟩ := d_fPr
  obtain ⟨fd_fRl, F_fRl⟩ := d_fRl
  obtain ⟨fd_fSm, F_fSm⟩ := d_fSm
  obtain ⟨fd_fGr, F_fGr⟩ := d_fGr
  obtain ⟨fd_fPo, F_fPo⟩ := d_fPo
  obtain ⟨fd_fCn, F_fCn⟩ := d_fCn
  obtain ⟨fd_fFN, F_fFN⟩ := d_fFN
  obtain ⟨fd_fCB, F_fCB⟩ := d_fCB
  obtain ⟨fd_fPF, F_fPF⟩ := d_fPF
  obtain ⟨fd_fVP, F_fVP⟩ := d_fVP
  obtain ⟨fd_fB, F_fB⟩ := d_fB
  obtain ⟨fd_fD, F_fD⟩ := d_fD
  obtain ⟨fd_fP, F_fP⟩ := d_fP
  obtain ⟨fd_fS, F_fS⟩ := d_fS
  obtain ⟨fd_fL, F_fL⟩ := d_fL
  obtain ⟨fd_fPl, F_fPl⟩ := d_fPl
  obtain ⟨fd_fMi, F_fMi⟩ := d_fMi
  obtain ⟨fd_fTi, F_fTi⟩ := d_fTi
  obtain ⟨fd_fLs, F_fLs⟩ := d_fLs
  obtain ⟨fd_fAF, F_fAF⟩ := d_fAF
  obtain ⟨fd_fLe, F_fLe⟩ := d_fLe
  obtain ⟨fd_fNa, F_fNa⟩ := d_fNa
  obtain ⟨fd_fTF, F_fTF⟩ := d_fTF
  obtain ⟨fd_fEx, F_fEx⟩ := d_fEx
  obtain ⟨fd_fEv, F_fEv⟩ := d_fEv
  obtain ⟨fd_fDe, F_fDe⟩ := d_fDe
  obtain ⟨fd_fFr, F_fFr⟩ := d_fFr
  obtain ⟨fd_fLaw, F_fLaw⟩ := d_fLaw
  have bO0 := FO0.binds (ps := ["self"]) fun _ _ _ _ _ _ us hl => match us, hl with | [_], _ => rfl
  have b_fCI := F_fCI.binds (ps := ["self", "bodies"]) fun _ _ _ _ _ _ us hl => match us, hl with | [_, _], _ => rfl
  have b_fVA := F_fVA.binds (ps := ["self", "order", "number"]) fun _ _ _ _ _ _ us hl => match us, hl with | [_, _, _], _ => rfl
  have b_fVO := F_fVO.binds (ps := ["self", "expression", "inner", "number"]) fun _ _ _ _ _ _ us hl => match us, hl with | [_, _, _, _], _ => rfl
  have b_fVC := F_fVC.binds (ps := ["self", "name", "number"]) fun _ _ _ _ _ _ us hl => match us, hl with | [_, _, _], _ => rfl
  have b_fG := F_fG.binds (ps := ["one", "other"]) fun _ _ _ _ _ _ us hl => match us, hl with | [_, _], _ => rfl
  have b_fSu := F_fSu.binds (ps := ["one", "other"]) fun _ _ _ _ _ _ us hl => match us, hl with | [_, _], _ => rfl
  have b_fDf := F_fDf.binds (ps := ["one", "other"]) fun _ _ _ _ _ _ us hl => match us, hl with | [_, _], _ => rfl
  have b_fPr := F_fPr.binds (ps := ["one", "other"]) fun _ _ _ _ _ _ us hl => match us, hl with | [_, _], _ => rfl
  have b_fRl := F_fRl.binds (ps := ["one", "other"]) fun _ _ _ _ _ _ us hl => match us, hl with | [_, _], _ => rfl
  have b_fSm := F_fSm.binds (ps := ["one", "other"]) fun _ _ _ _ _ _ us hl => match us, hl with | [_, _], _ => rfl
  have b_fGr := F_fGr.binds (ps := ["one", "other"]) fun _ _ _ _ _ _ us hl => match us, hl with | [_, _], _ => rfl
  have b_fPo := F_fPo.binds (ps := ["expression"]) fun _ _ _ _ _ _ us hl => match us, hl with | [_], _ => rfl
  have b_fCn := F_fCn.binds (ps := ["expression"]) fun _ _ _ _ _ _ us hl => match us, hl with | [_], _ => rfl
  have b_fFN := F_fFN.binds (ps := ["names", "bodies", "path", "followed"]) fun _ _ _ _ _ _ us hl => match us, hl with | [_, _, _, _], _ => rfl
  have b_fCB := F_fCB.binds (ps := ["expression", "definitions"]) fun _ _ _ _ _ _ us hl => match us, hl with | [_, _], _ => rfl
  have b_fPF := F_fPF.binds (ps := ["expression"]) fun _ _ _ _ _ _ us hl => match us, hl with | [_], _ => rfl
  have b_fVP := F_fVP.binds (ps := ["expression", "inner"]) fun _ _ _ _ _ _ us hl => match us, hl with | [_, _], _ => rfl
  have b_fB := F_fB.binds (ps := ["_law_script"]) fun _ _ _ _ _ _ us hl => match us, hl with | [_], _ => rfl
  have b_fD := F_fD.binds (ps := ["_law_rng", "_law_many"]) fun _ _ _ _ _ _ us hl => match us, hl with | [_, _], _ => rfl
  have b_fP := F_fP.binds (ps := ["_law_rng", "_law_items"]) fun _ _ _ _ _ _ us hl => match us, hl with | [_, _], _ => rfl
  have b_fS := F_fS.binds (ps := ["_law_found", "_law_due"]) fun _ _ _ _ _ _ us hl => match us, hl with | [_, _], _ => rfl
  have b_fL := F_fL.binds (ps := ["_law_above", "_law_below"]) fun _ _ _ _ _ _ us hl => match us, hl with | [_, _], _ => rfl
  have b_fPl := F_fPl.binds (ps := ["_law_one", "_law_other"]) fun _ _ _ _ _ _ us hl => match us, hl with | [_, _], _ => rfl
  have b_fMi := F_fMi.binds (ps := ["_law_one", "_law_other"]) fun _ _ _ _ _ _ us hl => match us, hl with | [_, _], _ => rfl
  have b_fTi := F_fTi.binds (ps := ["_law_one", "_law_other"]) fun _ _ _ _ _ _ us hl => match us, hl with | [_, _], _ => rfl
  have b_fLs := F_fLs.binds (ps := ["_law_one", "_law_other"]) fun _ _ _ _ _ _ us hl => match us, hl with | [_, _], _ => rfl
  have b_fAF := F_fAF.binds (ps := ["_law_rng", "_law_most"]) fun _ _ _ _ _ _ us hl => match us, hl with | [_, _], _ => rfl
  have b_fLe := F_fLe.binds (ps := []) fun _ _ _ _ _ _ us hl => match us, hl with | [], _ => rfl
  have b_fNa := F_fNa.binds (ps := ["_law_rng", "_law_many"]) fun _ _ _ _ _ _ us hl => match us, hl with | [_, _], _ => rfl
  have b_fTF := F_fTF.binds (ps := ["_law_rng"]) fun _ _ _ _ _ _ us hl => match us, hl with | [_], _ => rfl
  have b_fEx := F_fEx.binds (ps := ["_law_rng", "_law_names_here", "_law_depth"]) fun _ _ _ _ _ _ us hl => match us, hl with | [_, _, _], _ => rfl
  have b_fEv := F_fEv.binds (ps := ["_law_expression_here", "_law_number", "_law_table"]) fun _ _ _ _ _ _ us hl => match us, hl with | [_, _, _], _ => rfl
  have b_fDe := F_fDe.binds (ps := ["_law_rng", "_law_names_here"]) fun _ _ _ _ _ _ us hl => match us, hl with | [_, _], _ => rfl
  obtain ⟨ds2fFr, rds2fFr, b_fFr⟩ := F_fFr.binds1 (ps := ["numerator", "denominator"]) 2 1 (by simp) rfl fun T kV doc pm an cdv ct us its hu hi => match us, its, hu, hi with | [_, _], [_], _, _ => ⟨_, rfl, rfl⟩
  obtain rfl : ds2fFr = [] := by
    cases rds2fFr
    rfl
  have no : ∀ {x : Str}, PySem.W.nsIn K mainGlobals x = some none → mg x = none := fun z => PySem.W.mg_none_of X G z
  have at_ : ∀ {x : Str} {v : Value}, PySem.W.nsIn K mainGlobals x = some (some v) → mg x = some v := fun z => PySem.W.mg_of X G z
  have TEO : ErrT K mg "OutOfRange" CO fIO := ⟨at_ nO, oO, iO, yO, tO, fO_⟩
  refine ⟨fd_fLaw, fun s u => ?_, fun base _ _ => ?_⟩
  · obtain ⟨oc, od, kV, doc, pm, an, cd, ct, sl, rfl, lk, hc⟩ := F_fLaw.ex
    exact .of_eq rfl
  have TR : TxtR mg := ⟨no zlen, no zlist⟩
  have okD : FnOk l.prog w K mg base CX0 1 fD fd_fD ["_law_rng", "_law_many"] spDraw := ok_draw F_fD TR
  have dD : Def l.prog w K mg base CX0 1 "_law_draw" fD fd_fD ["_law_rng", "_law_many"] spDraw := ⟨okD, at_ n_fD, F_fD.kp, b_fD⟩
  have dL : Def l.prog w K mg base CX0 1 "_law_lowest" fL fd_fL ["_law_above", "_law_below"] spLow := ⟨ok_low F_fL ⟨no zabs⟩, at_ n_fL, F_fL.kp, b_fL⟩
  have dLR : Def l.prog w K mg base CX0 1 "_law_lowest" fL fd_fL ["_law_above", "_law_below"] spLowR := ⟨r_low dL.ok, at_ n_fL, F_fL.kp, b_fL⟩
  have dPl : Def l.prog w K mg base CX0 2 "_law_plus" fPl fd_fPl ["_law_one", "_law_other"] (spR2 (· + ·) (fun _ _ => True)) := ⟨r_plus (ok_qplus F_fPl dL), at_ n_fPl, F_fPl.kp, b_fPl⟩
  have dMi : Def l.prog w K mg base CX0 2 "_law_minus" fMi fd_fMi ["_law_one", "_law_other"] (spR2 (· - ·) (fun _ _ => True)) := ⟨r_minus (ok_qminus F_fMi dL), at_ n_fMi, F_fMi.kp, b_fMi⟩
  have dTi : Def l.prog w K mg base CX0 2 "_law_times" fTi fd_fTi ["_law_one", "_law_other"] (spR2 (· * ·) (fun _ _ => True)) := ⟨r_times (ok_qtimes F_fTi dL), at_ n_fTi, F_fTi.kp, b_fTi⟩
  have dLs : Def l.prog w K mg base CX0 1 "_law_less" fLs fd_fLs ["_law_one", "_law_other"] spRless := ⟨r_less (ok_qless F_fLs), at_ n_fLs, F_fLs.kp, b_fLs⟩
  have dFr : Def l.prog w K mg base (L2.CX l.prog w) 3 "fraction" fFr fd_fFr ["numerator", "denominator"] (spFraction CO) := ⟨ok_fraction F_fFr ⟨no zabs, TEO, at_ n_fG, F_fG.kp⟩ (ok_out FO0 TEO) bO0 (ok_gcd F_fG) b_fG, at_ n_fFr, F_fFr.kp, b_fFr⟩
  have dSu : Def l.prog w K mg base CX0 4 "sum_of" fSu fd_fSu ["one", "other"] (spR2 (· + ·) (fun _ _ => True)) := ⟨ok_SumOf F_fSu dFr, at_ n_fSu, F_fSu.kp, b_fSu⟩
  have dDf : Def l.prog w K mg base CX0 4 "difference" fDf fd_fDf ["one", "other"] (spR2 (· - ·) (fun _ _ => True)) := ⟨ok_Difference F_fDf dFr, at_ n_fDf, F_fDf.kp, b_fDf⟩
  have dPr : Def l.prog w K mg base CX0 4 "product" fPr fd_fPr ["one", "other"] (spR2 (· * ·) (fun _ _ => True)) := ⟨ok_Product F_fPr dFr, at_ n_fPr, F_fPr.kp, b_fPr⟩
  have dIl0 : Def l.prog w K mg base CX0 1 "is_less" fRl fd_fRl ["one", "other"] (spLess K) := ⟨ok_isless F_fRl, at_ n_fRl, F_fRl.kp, b_fRl⟩
  have dIl : Def l.prog w K mg base CX0 1 "is_less" fRl fd_fRl ["one", "other"] spRless := ⟨r_less dIl0.ok, at_ n_fRl, F_fRl.kp, b_fRl⟩
  have dSm : Def l.prog w K mg base CX0 2 "smaller_of" fSm fd_fSm ["one", "other"] spSmallerOf := ⟨ok_smaller_of F_fSm dIl, at_ n_fSm, F_fSm.kp, b_fSm⟩
  have dGr0 : Def l.prog w K mg base CX0 2 "greater_of" fGr fd_fGr ["one", "other"] spGreaterOf := ⟨ok_greater_of F_fGr dIl, at_ n_fGr, F_fGr.kp, b_fGr⟩
  have dPa : Def l.prog w K mg base CX0 2 "_law_pick" fP fd_fP ["_law_rng", "_law_items"] (spPickA K) := ⟨ok_pickA F_fP ⟨no zlen, at_ n_fD, F_fD.kp⟩ okD b_fD, at_ n_fP, F_fP.kp, b_fP⟩
  have dLe : Def l.prog w K mg base CX0 1 "_law_letters" fLe fd_fLe [] spLettersS := ⟨ok_lettersS F_fLe, at_ n_fLe, F_fLe.kp, b_fLe⟩
  have dLX : Def l.prog w K mg base CX0 1 "_law_lowest" fL fd_fL ["_law_above", "_law_below"] spLowX := ⟨r_lowX dL.ok, at_ n_fL, F_fL.kp, b_fL⟩
  have dNa : Def l.prog w K mg base CX0 3 "_law_names" fNa fd_fNa ["_law_rng", "_law_many"] spNames := ⟨ok_names F_fNa ⟨no zrange⟩ dD dPa dLe, at_ n_fNa, F_fNa.kp, b_fNa⟩
  have dTF : Def l.prog w K mg base CX0 3 "_law_text_fraction" fTF fd_fTF ["_law_rng"] spTF := ⟨ok_textFr F_fTF dD dPa dLX, at_ n_fTF, F_fTF.kp, b_fTF⟩
  have dEx : Def l.prog w K mg base CX0 9 "_law_expression" fEx fd_fEx ["_law_rng", "_law_names_here", "_law_depth"] (spExpr 6) := ⟨ok_expr F_fEx b_fEx ⟨at_ n_fEx, F_fEx.kp⟩ dD dPa dTF 6 (by decide), at_ n_fEx, F_fEx.kp, b_fEx⟩
  have dAF : Def l.prog w K mg base CX0 2 "_law_any_fraction" fAF fd_fAF ["_law_rng", "_law_most"] spAnyF := ⟨ok_anyF F_fAF dD dLR, at_ n_fAF, F_fAF.kp, b_fAF⟩
  have dDe : Def l.prog w K mg base CX0 10 "_law_definitions" fDe fd_fDe ["_law_rng", "_law_names_here"] spDefs := ⟨ok_defs F_fDe ⟨no zrange, no zlen⟩ dEx, at_ n_fDe, F_fDe.kp, b_fDe⟩
  have dEv : Def l.prog w K mg base CX0 19 "_law_evaluated" fEv fd_fEv ["_law_expression_here", "_law_number", "_law_table"] (spEv 16) := ⟨ok_evaluated F_fEv b_fEv ⟨at_ n_fEv, F_fEv.kp⟩ ⟨no zabs⟩ dPl dMi dTi dLs 16, at_ n_fEv, F_fEv.kp, b_fEv⟩
  have dPo : Def l.prog w K mg base CX0 1 "parts_of" fPo fd_fPo ["expression"] spParts := ⟨ok_parts F_fPo ⟨no zlist⟩, at_ n_fPo, F_fPo.kp, b_fPo⟩
  have dCn : Def l.prog w K mg base CX0 4 "called_names" fCn fd_fCn ["expression"] (spCalled 3) := ⟨ok_called F_fCn b_fCn ⟨at_ n_fCn, F_fCn.kp⟩ dPo 3 (by decide), at_ n_fCn, F_fCn.kp, b_fCn⟩
  have dCm : Def l.prog w K mg base CX0 5 "called_names" fCn fd_fCn ["expression"] (spCalled 4) := ⟨ok_called F_fCn b_fCn ⟨at_ n_fCn, F_fCn.kp⟩ dPo 4 (by decide), at_ n_fCn, F_fCn.kp, b_fCn⟩
  have dFN : Def l.prog w K mg base CX0 10 "follow_names" fFN fd_fFN ["names", "bodies", "path", "followed"] (spFN 4) := ⟨ok_follow F_fFN b_fFN ⟨at_ n_fFN, F_fFN.kp⟩ dCn 4, at_ n_fFN, F_fFN.kp, b_fFN⟩
  have dCB : Def l.prog w K mg base CX0 11 "checked_bodies" fCB fd_fCB ["expression", "definitions"] (spCB (K := K)) := ⟨ok_checked F_fCB dCm dFN, at_ n_fCB, F_fCB.kp, b_fCB⟩
  have dPF3 : Def l.prog w K mg base CX0 4 "parts_first" fPF fd_fPF ["expression"] (spPF 3) := ⟨ok_partsFirst F_fPF b_fPF ⟨at_ n_fPF, F_fPF.kp⟩ dPo 3 (by decide), at_ n_fPF, F_fPF.kp, b_fPF⟩
  have dPF4 : Def l.prog w K mg base CX0 5 "parts_first" fPF fd_fPF ["expression"] (spPF 4) := ⟨ok_partsFirst F_fPF b_fPF ⟨at_ n_fPF, F_fPF.kp⟩ dPo 4 (by decide), at_ n_fPF, F_fPF.kp, b_fPF⟩
  have dVP : Def l.prog w K mg base CX0 5 "value_of_parts" fVP fd_fVP ["expression", "inner"] spVP := ⟨ok_valueParts F_fVP ⟨no zabs⟩ dPr dSu dDf dGr0 dSm, at_ n_fVP, F_fVP.kp, b_fVP⟩
  have TC : TxtCa K CA := ⟨cC, aC_orders, aC_known⟩
  have mVA : MDef l.prog w K mg base CX0 20 CA "value_at" fVA fd_fVA ["self", "order", "number"] (spVal l.prog w CA 4) := ⟨ok_vats F_fVA F_fVO F_fVC TC ⟨m_fVA, i_fVA, k_fVA⟩ ⟨m_fVO, i_fVO, k_fVO⟩ ⟨m_fVC, i_fVC, k_fVC⟩ b_fVA b_fVO b_fVC dVP dPo 4, ⟨m_fVA, i_fVA, k_fVA⟩, cC, b_fVA⟩
  have okCI := ok_calcInit (P := l.prog) (w := w) (base := base) F_fCI TC dPF3
  obtain ⟨fd_fEV, dfEV, F_fEV, D_fEV, S_fEV⟩ := d_fEV
  obtain ⟨dsfEV, rdfEV, b_fEV⟩ := D_fEV.binds0 (ps := ["expression", "number", "definitions"]) 2 (by simp) rfl fun D doc pm an cdv ct us ks hu hk => match us, ks, hu, hk with | [_, _], [_], _, _ => ⟨_, _, _, _, _, _, rfl, rfl, rfl⟩
  obtain rfl : dsfEV = [.ref dfEV] := by
    cases rdfEV with
    | cons h t =>
      cases t
      cases h
      rfl
  obtain ⟨mvfEV, kb_fEV⟩ := D_fEV.kbinds0 (ps := ["expression", "number", "definitions"]) 2 ["definitions"] [] (fun us _ ws => us ++ ws) (by simp) (fun q h => nomatch h) (fun r1 _ r3 => r1.append r3) fun D doc pm an cdv ct us mv ws hu hm hw => match us, mv, ws, hu, hm, hw with | [_, _], [], [_], _, _, _ => rfl
  have okEV := ok_evaluate F_fEV TC (at_ nC) ⟨mC, iC, iFC, kC⟩ okCI b_fCI mVA dCB dPF4
  exact ok_law F_fLaw ⟨no zrange, no zlist, no ztuple, no zdict⟩ ⟨ok_begin F_fB TR, at_ n_fB, F_fB.kp, b_fB⟩ dD dPa ⟨ok_same F_fS b_fS ⟨no zisinstance, no zlist, no ztuple, no zlen, no zall, no zzip, no zbool, no zint, no zstr, at_ n_fS, F_fS.kp⟩ 3, at_ n_fS, F_fS.kp, b_fS⟩ dNa dDe dEx dAF dEv okEV (at_ n_fEV) F_fEV.kp b_fEV kb_fEV S_fEV
theorem walk {l : PySem.W.OpenLaw} {q : Program} {loose : List Str} {XP : (Str → Option Value) → Heap → Prop} {YP : World → Heap → Prop} {d : DefRec} {K : Params → PySem.W.Frag} (hn : l.most = some 63) (hdf : d.params.defaults = [])
    (hY : ∀ (w : World) (h : Heap), YP w h → (K w.params).In h)
    (F : ∀ (w : World) (mg : Str → Option Value) (fa : Addr) (h : Heap), (K w.params).In h → h.Ns mainGlobals mg → mg d.name = some (.ref fa) →
      ∃ fd : FuncData, (∀ (s : Shared) (u : Value), BindsTo s fd ⟨[u], []⟩ [("_law_script", u)]) ∧ ∀ base : Heap, (K w.params).In base → base.Ns mainGlobals mg → FnOk l.prog w (K w.params) mg base CX0 22 fa fd ["_law_script"] (spLaw (K w.params))) :
    PySem.W.WalkO q loose XP YP l.row.toRowW d [] (fun f vs => PySem.call f vs) :=
  walk_ofK (n := 63) (k := 22) (x := "_law_script") (CX := CX0) (sp := spLaw) hn (by decide) hdf ⟨rfl, by decide, by decide⟩ hY F (fun K H a ns h1 _ h3 => ⟨a, ns, rfl, h3, h1, fun _ => rfl⟩) fun _ _ _ _ z => z
end K18
open PySem PySem.W PyProof.Rows in
set_option maxRecDepth 100000 in
set_option maxHeartbeats 0 in
theorem PySem.Challenge.cw_earlywrite_k18_values_of_expressions_holds : PySem.Challenge.rw_earlywrite_k18_values_of_expressions.Holds := by
  w_on; o_law; k_head; (case hw => w_witness2)
  k_fill
  refine K18.walk (l := PySem.Challenge.rw_earlywrite_k18_values_of_expressions) rfl rfl (fun w h Y => PySem.W.kIn_of Y) ?F
  case F =>
    intro w mg fa h KX G hmg
    refine' K18.all_mk KX G hmg ?nO ?oO ?fO_ ?tO ?iO ?yO ?dO ?nC ?cC ?mC ?kC ?aC_orders ?aC_known ?iC ?iFC ?d_fCI ?m_fVA ?i_fVA ?k_fVA ?d_fVA ?m_fVO ?i_fVO ?k_fVO ?d_fVO ?m_fVC ?i_fVC ?k_fVC ?d_fVC ?n_fEV ?d_fEV ?n_fG ?d_fG ?n_fSu ?d_fSu ?n_fDf ?d_fDf ?n_fPr ?d_fPr ?n_fRl ?d_fRl ?n_fSm ?d_fSm ?n_fGr ?d_fGr ?n_fPo ?d_fPo ?n_fCn ?d_fCn ?n_fFN ?d_fFN ?n_fCB ?d_fCB ?n_fPF ?d_fPF ?n_fVP ?d_fVP ?n_fB ?d_fB ?n_fD ?d_fD ?n_fP ?d_fP ?n_fS ?d_fS ?n_fL ?d_fL ?n_fPl ?d_fPl ?n_fMi ?d_fMi ?n_fTi ?d_fTi ?n_fLs ?d_fLs ?n_fAF ?d_fAF ?n_fLe ?d_fLe ?n_fNa ?d_fNa ?n_fTF ?d_fTF ?n_fEx ?d_fEx ?n_fEv ?d_fEv ?n_fDe ?d_fDe ?n_fFr ?d_fFr ?n_fLaw ?d_fLaw ?zlen ?zlist ?zisinstance ?ztuple ?zall ?zzip ?zbool ?zint ?zstr ?zrange ?zabs ?zdict
    (case nO => k_is)
    (case oO => (refine' Ew.oex_mk ?l ?r ?sa ?e ?t ?k; (case l => k_is); (case r => decide +kernel); (case sa => k_is); (case e => k_is); (case t => k_is); (case k => k_is)))
    (case fO_ => (refine' ⟨?a, ?b, ?c, ?d⟩; (case a => k_is); (case b => k_is); (case c => k_is); (case d => k_is)))
    (case tO => k_is)
    (case iO => k_is)
    (case yO => k_is)
    (case dO => (refine' Ew.def_mk ?l ?c ?k; (case l => k_is); (case c => k_is); (case k => k_is)))
    (case nC => k_is)
    (case cC => (refine' ⟨?a, ?b, ?c, ?d⟩; (case a => k_is); (case b => k_is); (case c => k_is); (case d => k_is)))
    (case mC => k_is)
    (case kC => k_is)
    (case aC_orders => k_is)
    (case aC_known => k_is)
    (case iC => k_is)
    (case iFC => k_is)
    (case d_fCI => (refine' Ew.def_mk ?l ?c ?k; (case l => k_is); (case c => k_is); (case k => k_is)))
    (case m_fVA => k_is)
    (case i_fVA => k_is)
    (case k_fVA => k_is)
    (case d_fVA => (refine' Ew.def_mk ?l ?c ?k; (case l => k_is); (case c => k_is); (case k => k_is)))
    (case m_fVO => k_is)
    (case i_fVO => k_is)
    (case k_fVO => k_is)
    (case d_fVO => (refine' Ew.def_mk ?l ?c ?k; (case l => k_is); (case c => k_is); (case k => k_is)))
    (case m_fVC => k_is)
    (case i_fVC => k_is)
    (case k_fVC => k_is)
    (case d_fVC => (refine' Ew.def_mk ?l ?c ?k; (case l => k_is); (case c => k_is); (case k => k_is)))
    (case n_fEV => k_is)
    (case d_fEV => (refine' Ew.kwd_mk ?l ?c ?k ?d ?t; (case l => k_is); (case c => k_is); (case k => k_is); (case d => first | k_is | kernel_rfl); (case t => k_is)))
    (case n_fG => k_is)
    (case d_fG => (refine' Ew.def_mk ?l ?c ?k; (case l => k_is); (case c => k_is); (case k => k_is)))
    (case n_fSu => k_is)
    (case d_fSu => (refine' Ew.def_mk ?l ?c ?k; (case l => k_is); (case c => k_is); (case k => k_is)))
    (case n_fDf => k_is)
    (case d_fDf => (refine' Ew.def_mk ?l ?c ?k; (case l => k_is); (case c => k_is); (case k => k_is)))
    (case n_fPr => k_is)
    (case d_fPr => (refine' Ew.def_mk ?l ?c ?k; (case l => k_is); (case c => k_is); (case k => k_is)))
    (case n_fRl => k_is)
    (case d_fRl => (refine' Ew.def_mk ?l ?c ?k; (case l => k_is); (case c => k_is); (case k => k_is)))
    (case n_fSm => k_is)
    (case d_fSm => (refine' Ew.def_mk ?l ?c ?k; (case l => k_is); (case c => k_is); (case k => k_is)))
    (case n_fGr => k_is)
    (case d_fGr => (refine' Ew.def_mk ?l ?c ?k; (case l => k_is); (case c => k_is); (case k => k_is)))
    (case n_fPo => k_is)
    (case d_fPo => (refine' Ew.def_mk ?l ?c ?k; (case l => k_is); (case c => k_is); (case k => k_is)))
    (case n_fCn => k_is)
    (case d_fCn => (refine' Ew.def_mk ?l ?c ?k; (case l => k_is); (case c => k_is); (case k => k_is)))
    (case n_fFN => k_is)
    (case d_fFN => (refine' Ew.def_mk ?l ?c ?k; (case l => k_is); (case c => k_is); (case k => k_is)))
    (case n_fCB => k_is)
    (case d_fCB => (refine' Ew.def_mk ?l ?c ?k; (case l => k_is); (case c => k_is); (case k => k_is)))
    (case n_fPF => k_is)
    (case d_fPF => (refine' Ew.def_mk ?l ?c ?k; (case l => k_is); (case c => k_is); (case k => k_is)))
    (case n_fVP => k_is)
    (case d_fVP => (refine' Ew.def_mk ?l ?c ?k; (case l => k_is); (case c => k_is); (case k => k_is)))
    (case n_fB => k_is)
    (case d_fB => (refine' Ew.def_mk ?l ?c ?k; (case l => k_is); (case c => k_is); (case k => k_is)))
    (case n_fD => k_is)
    (case d_fD => (refine' Ew.def_mk ?l ?c ?k; (case l => k_is); (case c => k_is); (case k => k_is)))
    (case n_fP => k_is)
    (case d_fP => (refine' Ew.def_mk ?l ?c ?k; (case l => k_is); (case c => k_is); (case k => k_is)))
    (case n_fS => k_is)
    (case d_fS => (refine' Ew.def_mk ?l ?c ?k; (case l => k_is); (case c => k_is); (case k => k_is)))
    (case n_fL => k_is)
    (case d_fL => (refine' Ew.def_mk ?l ?c ?k; (case l => k_is); (case c => k_is); (case k => k_is)))
    (case n_fPl => k_is)
    (case d_fPl => (refine' Ew.def_mk ?l ?c ?k; (case l => k_is); (case c => k_is); (case k => k_is)))
    (case n_fMi => k_is)
    (case d_fMi => (refine' Ew.def_mk ?l ?c ?k; (case l => k_is); (case c => k_is); (case k => k_is)))
    (case n_fTi => k_is)
    (case d_fTi => (refine' Ew.def_mk ?l ?c ?k; (case l => k_is); (case c => k_is); (case k => k_is)))
    (case n_fLs => k_is)
    (case d_fLs => (refine' Ew.def_mk ?l ?c ?k; (case l => k_is); (case c => k_is); (case k => k_is)))
    (case n_fAF => k_is)
    (case d_fAF => (refine' Ew.def_mk ?l ?c ?k; (case l => k_is); (case c => k_is); (case k => k_is)))
    (case n_fLe => k_is)
    (case d_fLe => (refine' Ew.def_mk ?l ?c ?k; (case l => k_is); (case c => k_is); (case k => k_is)))
    (case n_fNa => k_is)
    (case d_fNa => (refine' Ew.def_mk ?l ?c ?k; (case l => k_is); (case c => k_is); (case k => k_is)))
    (case n_fTF => k_is)
    (case d_fTF => (refine' Ew.def_mk ?l ?c ?k; (case l => k_is); (case c => k_is); (case k => k_is)))
    (case n_fEx => k_is)
    (case d_fEx => (refine' Ew.def_mk ?l ?c ?k; (case l => k_is); (case c => k_is); (case k => k_is)))
    (case n_fEv => k_is)
    (case d_fEv => (refine' Ew.def_mk ?l ?c ?k; (case l => k_is); (case c => k_is); (case k => k_is)))
    (case n_fDe => k_is)
    (case d_fDe => (refine' Ew.def_mk ?l ?c ?k; (case l => k_is); (case c => k_is); (case k => k_is)))
    (case n_fFr => k_is)
    (case d_fFr => (refine' Ew.dflt_mk ?l ?c ?k ?t ?r; (case l => k_is); (case c => k_is); (case k => k_is); (case t => k_is); (case r => exact ⟨_, rfl⟩)))
    (case n_fLaw => k_is)
    (case d_fLaw => (refine' Ew.def_mk ?l ?c ?k; (case l => k_is); (case c => k_is); (case k => k_is)))
    (case zlen => k_is)
    (case zlist => k_is)
    (case zisinstance => k_is)
    (case ztuple => k_is)
    (case zall => k_is)
    (case zzip => k_is)
    (case zbool => k_is)
    (case zint => k_is)
    (case zstr => k_is)
    (case zrange => k_is)
    (case zabs => k_is)
    (case zdict => k_is)
